import PyProof.Rows.All
import Wide.All
import OpenK.AllK
import Wide.FinOn
import HandS.ForMost
import HandS.ForExc
import HandS.ExcInit
import HandS.ExcIs
import HandS.ExcField
import HandS.Gcd
import HandS.Style
import HandS.OwnEq
import HandS.MakeKw
import HandS.SortInts
import HandS.IsInst
import HandS.DictEq
import HandS.DeepEq
import HandS.Zip
import HandS.Wide
import HandS.MakeKwOnly
import KE.GoesMore
import HandS.ExcOwn
import PyProof.ExcBaseAll.ValueError
import HandS.SetFor
import HandS.Strs
import HandS.Sort
import HandS.FStr
import HandS.Text
import HandS.Star
import HandS.SortKw
import KE.KUnpackStar
import KE.DataMinMax
import KE.KDictList
import HandS.DictTup
import HandS.SortRule
import KE.GoesEnum
import KE.GoesEnumKw
import HandS.Walk
import HandS.DictComp
import HandS.Conv
import PySem.Challenge.RW_hookspans_k06_hooks_led_back_from_stands
set_option Elab.async false
set_option linter.all false
set_option maxRecDepth 100000
set_option maxHeartbeats 4000000
namespace PySem.W
open PySem PySem.Spec PySem.Calls PyProof.Rows
section
variable {prog : Program} {w : World} {A : Around} {E : Value → Shared → Prop} {s : Shared} {K : Frag} {x D : Addr} {ox : Obj} {od : Option Obj}
theorem lx_findObj {C : Addr} {name : Str} {a g : Value} (hc : (clsIn K C).isSome = true) (ha : findIn K (.ref C) name = some (some a)) (hg : specialIn K a "__get__" = some (some g)) (ht : takesIn K a = some true) : findObj K C od name = some (.bind g a) := by
  obtain ⟨cd, hc⟩ := Option.isSome_iff_exists.mp hc
  unfold findObj
  rw [hc, Option.bind_some, ha, Option.bind_some]
  simp [hg, ht]
theorem lx_kin_class {Q : Option Value → Shared → Prop} (hga : findIn K (.ref D) "__getattribute__" = some (some (.builtin "BaseException.__getattribute__"))) (hgt : findIn K (.ref D) "__getattr__" = some none) (hsub : subIn K (.ref D) (.type "BaseException") = some true)
    (hdct : hasDictIn K D = true) (ha : findIn K (.ref D) "__class__" = some (some (.builtin "object.__class__")))
    (hn : specialIn K (.builtin "object.__class__") "__get__" = some (some (.builtin "getset_descriptor.__get__"))) (htk : takesIn K (.builtin "object.__class__") = some true) (hm : mroIn K D (.type "object") = some true)
    (X : K.In s.heap) (I : InstAt s.heap x ox D od) (h : Q (some (.ref D)) { s with toks := s.toks + 1 }) : wpAny (model prog w) A (getAttr? (.ref x) "__class__") Q E s := by
  have hf : findObj K D od "__class__" = some (.bind (.builtin "getset_descriptor.__get__") (.builtin "object.__class__")) := lx_findObj (by obtain ⟨cd, hc, _⟩ := any_some hdct; rw [hc]; rfl) ha hn htk
  obtain ⟨hp, g, d, t, os⟩ := s
  have L0 := I.type (M := model prog w)
  have L1 := looks_findIn (M := model prog w) X hga
  have L2 := looks_findIn (M := model prog w) X hgt
  have L3 := looks_find (M := model prog w) X I hf
  have sub : Looks (model prog w) hp (isInstance (.ref x) (.type "BaseException")) true := L0.andThen (looks_subIn X hsub)
  have hx0 : (false && onTheHeap (Value.builtin "BaseException.__getattribute__")) = false := rfl
  have hx2 : (Value.builtin "BaseException.__getattribute__" == Value.builtin "object.__getattribute__") = false := by decide +kernel
  have hx1 : (onTheHeap (Value.ref D) && Value.builtin "BaseException.__getattribute__" == Value.builtin "object.__getattribute__") = false := by rw [hx2]; rfl
  unfold getAttr? getAttrBy? getAttrBy
  refine wpAny_bind (wpAny_mkText (wpAny_bind (wpAny_attempt (wpAny_holding (wpAny_bind (L0.at (wpAny_bind (L1.at ?_))))))))
  show wpAny _ _ (if (onTheHeap (Value.ref D) && Value.builtin "BaseException.__getattribute__" == Value.builtin "object.__getattribute__") = true then _ else _) _ _ _
  rw [hx1, if_neg Bool.false_ne_true]
  unfold getAttrByItsOwn hookBefore
  refine wpAny_bind ?_
  rw [if_pos (show onTheHeap (Value.ref D) = true from rfl)]
  refine L2.at ?_
  refine wpAny_bind (wpAny_attempt (wpAny_holding ?_))
  unfold callGetattribute
  rw [hx0, if_neg Bool.false_ne_true]
  unfold boundAndCalled
  rw [PySem.F.excAttr_ValueError.ga.bind (.ref x)]
  refine wpAny_bind (wpAny_pure ?_)
  show wpAny _ _ (call (.builtin "BaseException.__getattribute__") [.ref x, .str "__class__" t]) _ _ _
  refine wpAny_call (codeAny_call_builtin PySem.F.excAttr_ValueError.ga.plain PySem.F.entry_bexc_ga ?_)
  refine @check_slot (model prog w) _ _ ⟨hp, g, d, t + 1, os⟩ "BaseException.__getattribute__" "BaseException" "__getattribute__" (.ref x) [.str "__class__" t] [] _ (by decide +kernel) (by decide +kernel) sub (PySem.F.args_bexc_ga (.ref x) (.str "__class__" t)) ?_
  unfold Builtin.«object.__getattribute__»
  refine wpAny_bind (wpAny_of_eq (a := ((Value.ref x : Value), [Value.str "__class__" t])) (by first | rfl | (simp only [slotArgs]; rfl)) ?_)
  refine wpAny_bind (wpAny_pure (wpAny_bind (L0.at (wpAny_bind (L3.at ?_)))))
  show wpAny _ _ (holding [Value.builtin "object.__class__"] (call (.builtin "getset_descriptor.__get__") [.builtin "object.__class__", .ref x, .ref D]) >>= ret) _ _ _
  refine wpAny_bind (wpAny_holding (wpAny_call (class_get (s := ⟨hp, g, d, t + 1, os⟩) (ox := ox) (od := od) X I hm ?_)))
  refine wpAny_pure ?_
  show wpAny _ _ (handedOut (.ref D)) _ _ _
  rw [handedOut_of (v := .ref D) rfl]
  first
    | exact wpAny_pure (wpAny_pure h)
    | exact wpAny_pure h
    | exact wpAny_pure (wpAny_bind (wpAny_pure (wpAny_pure h)))
theorem lx_kitx (hga : findIn K (.ref D) "__getattribute__" = some (some (.builtin "BaseException.__getattribute__"))) (hgt : findIn K (.ref D) "__getattr__" = some none) (hsub : subIn K (.ref D) (.type "BaseException") = some true) (hdct : hasDictIn K D = true) (ha : findIn K (.ref D) "__class__" = some (some (.builtin "object.__class__")))
    (hn : specialIn K (.builtin "object.__class__") "__get__" = some (some (.builtin "getset_descriptor.__get__"))) (htk : takesIn K (.builtin "object.__class__") = some true) (hm : mroIn K D (.type "object") = some true) :
    KitX K (.ref x) (.ref D) (fun h => InstAt h x ox D od) where
  ty := fun _ _ _ I => I.type
  it := fun _ _ X _ => by
    obtain ⟨cdD, hcD, _⟩ := any_some hdct
    unfold clsIn at hcD
    split at hcD
    · rename_i c' d' cd' sl' ho
      intro A' Q' E' s' k q
      unfold isType loadHead
      exact wpAny_bind (wpAny_loadPart (k _ _ (X _ _ ho)) (wpAny_pure q))
    · cases hcD
  ne := fun h tp dd its n sl X htp => by
    obtain ⟨cdD, hcD, _⟩ := any_some hdct
    refine Bool.eq_false_iff.mpr fun q => ?_
    have e : D = tp := Value.ref.inj (beq_iff_eq.mp q)
    subst e
    unfold clsIn at hcD
    split at hcD
    · rename_i c' d' cd' sl' ho
      have z := (X _ _ ho).symm.trans htp
      cases z
    · cases hcD
  ca := fun X I k => lx_kin_class hga hgt hsub hdct ha hn htk hm X I k
end
end PySem.W
namespace L2
open PySem PySem.Spec PyProof.Rows
theorem hu64_of {A : Around} {k : Nat} (hr : Room k A) : A.units + 64 < cLine := by have := hr.un; omega
theorem hu65_of {A : Around} {k : Nat} (hr : Room k A) : A.units + 65 < cLine := by have := hr.un; omega
/-- isinstance(e, c), e the exception that the suite holds, of the class at D, with its own dict at d -/
def rIsED (K : PySem.W.Frag) (D d a : Addr) : List V → Hp → VK → Prop := fun xs H Q => ∃ (c : V) (cv : Value) (b : Bool) (fs : List (Str × V)), xs = [.ref a, c] ∧ (∀ u, RelV c u → u = cv) ∧ PySem.W.kitOne K (.ref D) cv = some b ∧ H d = some (.xd fs) ∧ Q (.bl b) H
theorem call_isED {X : Cx} {a D d : Addr} {oe : Obj} {pn : List (Addr × Obj)} (C : ExcC X.K D) (hz : Zc (.ref D) (some d) oe) (hf : ∃ vs, oe.data = .fields vs) : CallR (X.suite a ((a, oe) :: pn)) (.builtin "isinstance") (rIsED X.K D d a) := by
  intro pins s σ H xs us Q I r h
  obtain ⟨c, cv, b, fs, rfl, hcv, e, hd, q⟩ := h
  cases r with
  | cons rx rr =>
    cases rr with
    | cons rt rr =>
      cases rr
      cases rx
      have ec := hcv _ rt
      subst ec
      obtain ⟨hget, _⟩ := I.pin (a, oe) (List.mem_append.mpr (.inl List.mem_cons_self))
      obtain ⟨vs, hv⟩ := hf
      obtain ⟨mA, ⟨od, es, ep, eo, _⟩, _⟩ : ObjOk X.prog X.w H s.heap d (.xd fs) := I.hok d _ hd
      have J : PySem.W.InstAt s.heap a oe D (some od) := by
        obtain ⟨oc, od', oda, osl⟩ := oe
        obtain ⟨h1, h2⟩ := hz
        dsimp only at h1 h2 hv
        subst h1 h2 hv
        exact ⟨hget, rfl, rfl, eo⟩
      exact PySem.W.kia_one (PySem.W.lx_kitx C.hg C.hk C.hs C.hd C.ha C.hn C.ht C.hm) I.kIn J e (fun z => nomatch z) fun tk => ⟨.bl b, H, I.kept (t' := tk) fun _ _ z => z, rfl, q⟩
end L2

/-! == with both answers, through own __eq__ -/
namespace LxE
open PySem PySem.SeqAt
open AutoSeq1 (wpAny_loadPart')
open MeetsSeq MeetsSeq2 MeetsSeq3 SeqRoads2
section
variable {prog : Program} {w : World} {A : Around} {R : Result → Shared → Prop}
abbrev FinOf (prog : Program) (w : World) (A : Around) (R : Result → Shared → Prop) : Fin → Shared → Prop := fun fin s' => match fin with
  | .done f => R (.ok f) s'
  | .again c' => c'.quiet = true ∧ codeAny (model prog w) A c' R s'
def ListJ (prog : Program) (w : World) (A : Around) (E : Value → Shared → Prop) (l b : Addr) (N : Nat) (e : Nat → Bool) (I : Shared → Prop) : Prop :=
  ∀ s, I s → ∃ (items items2 : Array Value), s.heap.IsList l items ∧ s.heap.IsList b items2 ∧ items.size = N ∧ items2.size = N ∧
    ∀ i (h1 : i < items.size) (h2 : i < items2.size), wpAny (model prog w) A.in1 (eqBool items[i] items2[i]) (fun r s' => r = e i ∧ I s') E s
theorem isList_obj {h : Heap} {l : Addr} {items : Array Value} (hl : h.IsList l items) : ∃ n dd sl, h.get? l = some { cls := .type "list", dict := dd, data := .seq items n, slots := sl } := by
  obtain ⟨⟨cls, dd, data, sl⟩, ho, hc, n, hd⟩ := hl
  simp only at hc hd
  subst hc hd
  exact ⟨n, dd, sl, ho⟩
theorem all_drop {N : Nat} {e : Nat → Bool} {i : Nat} (hp : ∀ j, j < i → e j = true) (hi : i < N) (hf : e i = false) : (List.range N).all e = false := by
  rw [List.all_eq_false]
  exact ⟨i, List.mem_range.mpr hi, by rw [hf]; exact Bool.false_ne_true⟩
theorem all_full {N : Nat} {e : Nat → Bool} (hp : ∀ j, j < N → e j = true) : (List.range N).all e = true := by
  rw [List.all_eq_true]
  intro x hx
  exact hp x (List.mem_range.mp hx)
theorem eq_loopB (l b : Addr) (N : Nat) (e : Nat → Bool) (I : Shared → Prop) (hl : ListJ prog w A (fun e s' => R (.error e) s') l b N e I)
    (fin : ∀ s, I s → R (.ok (.ret (.bool ((List.range N).all e)))) s) (k : Nat) :
    ∀ i : Nat, N - i = k → i ≤ N → (∀ j, j < i → e j = true) → ∀ s, I s →
      wpAny (model prog w) A.in1 (Builtin.«list.__eq__.loop» ⟨[.ref l, .ref b, rawInt i, rawInt 2], []⟩) (FinOf prog w A R) (fun e s' => R (.error e) s') s := by
  induction k with
  | zero =>
    intro i hk hi hp s h
    obtain ⟨items, items2, hl1', hb1', hs1, hs2, _⟩ := hl _ h
    obtain ⟨n, dd, sl, hl1⟩ := isList_obj hl1'
    obtain ⟨n2, dd2, sl2, hb1⟩ := isList_obj hb1'
    have hi' : i = N := by omega
    have hR : R (.ok (.ret (.bool true))) s := by
      have z := fin s h
      rw [all_full (fun j hj => hp j (by omega))] at z
      exact z
    obtain ⟨hp', g, d, tk, os⟩ := s
    wp_walk using wpAny_loadPart' hl1, wpAny_loadPart' hb1
    have hi1 : items[((i : Nat) : Int).toNat]? = none := by simp; omega
    have hi2 : items2[((i : Nat) : Int).toNat]? = none := by simp; omega
    rw [hi1, hi2]
    wp_walk using wpAny_loadPart' hl1, wpAny_loadPart' hb1
    show R (.ok (.ret (.bool (items.size == items2.size)))) _
    rw [hs1, hs2]
    simpa using hR
  | succ k ih =>
    intro i hk hi hp s h
    obtain ⟨items, items2, hl1', hb1', hs1, hs2, turn⟩ := hl _ h
    obtain ⟨n, dd, sl, hl1⟩ := isList_obj hl1'
    obtain ⟨n2, dd2, sl2, hb1⟩ := isList_obj hb1'
    have hlt : i < items.size := by omega
    have hlt2 : i < items2.size := by omega
    have ht := turn i hlt hlt2
    obtain ⟨hp', g, d, tk, os⟩ := s
    wp_walk using wpAny_loadPart' hl1, wpAny_loadPart' hb1
    have hi1 : items[((i : Nat) : Int).toNat]? = some items[i] := by simp [hlt]
    have hi2 : items2[((i : Nat) : Int).toNat]? = some items2[i] := by simp [hlt2]
    have hc : ((i : Int) + 1) = ((i + 1 : Nat) : Int) := by omega
    rw [hi1, hi2]
    refine wpAny_bind (wpAny_mono ht (fun r s2 h2 => ?_) fun _ _ x => x)
    obtain ⟨hr, h2⟩ := h2
    subst hr
    obtain ⟨items3, items4, hl3', hb3', hs3, hs4, _⟩ := hl _ h2
    obtain ⟨n3, dd3, sl3, hl3⟩ := isList_obj hl3'
    obtain ⟨n4, dd4, sl4, hb3⟩ := isList_obj hb3'
    have fin2 := fin s2 h2
    cases hei : e i with
    | true =>
      have hrec := ih (i + 1) (by omega) (by omega) (fun j hj => by
        rcases Nat.lt_succ_iff_lt_or_eq.mp hj with z | z
        · exact hp j z
        · rw [z]; exact hei) s2 h2
      obtain ⟨hp2, g2, d2, tk2, os2⟩ := s2
      wp_walk
      rw [hc]
      exact ⟨plainId_quiet plain_eq_loop _, codeAny_builtin entry_eq_loop (by
        rw [Around.under_plainId plain_eq_loop _]
        exact hrec)⟩
    | false =>
      rw [all_drop hp (by omega) hei] at fin2
      have hj1 : items3[((i : Nat) : Int).toNat]? = some (items3[i]'(by omega)) := by simp <;> omega
      have hj2 : items4[((i : Nat) : Int).toNat]? = some (items4[i]'(by omega)) := by simp <;> omega
      obtain ⟨hp2, g2, d2, tk2, os2⟩ := s2
      wp_walk using wpAny_loadPart' hl3, wpAny_loadPart' hb3
      rw [hj1, hj2]
      wp_walk
      simpa using fin2

theorem list_eqB (l b : Addr) (N : Nat) (e : Nat → Bool) (I : Shared → Prop) (hl : ListJ prog w A (fun e s' => R (.error e) s') l b N e I)
    (fin : ∀ s, I s → R (.ok (.ret (.bool ((List.range N).all e)))) s) {s : Shared} (h : I s) :
    wpAny (model prog w) A.in1 (Builtin.«list.__eq__» ⟨[.ref l, .ref b], []⟩) (FinOf prog w A R) (fun e s' => R (.error e) s') s := by
  obtain ⟨items, items2, hl1', hb1', hs1, hs2, _⟩ := hl _ h
  obtain ⟨n, dd, sl, hl1⟩ := isList_obj hl1'
  obtain ⟨n2, dd2, sl2, hb1⟩ := isList_obj hb1'
  have hrec := eq_loopB (A := A) (R := R) l b N e I hl fin _ 0 rfl (Nat.zero_le _) (fun j hj => absurd hj (Nat.not_lt_zero j)) s h
  obtain ⟨hp, g, d, tk, os⟩ := s
  have f3 := AutoSeq1.sub_list_list
  have hne : ¬ (items.size != items2.size) = true := by simp [hs1, hs2]
  wp_walk using wpAny_loadPart' hl1, wpAny_loadPart' hb1
  exact ⟨plainId_quiet plain_eq_loop _, codeAny_builtin entry_eq_loop (by
    rw [Around.under_plainId plain_eq_loop _]
    exact hrec)⟩

theorem tuple_eqB (l b : Addr) (items items2 : Array Value) (n n2 : Nat) (dd dd2 : Option Addr) (sl sl2 : Array (Option Value)) (e : Nat → Bool) (I : Shared → Prop)
    (turn : ∀ i (h1 : i < items.size) (h2 : i < items2.size) s, I s → wpAny (model prog w) A.in1 (eqBool items[i] items2[i]) (fun r s' => r = e i ∧ I s') (fun e s' => R (.error e) s') s)
    (fin : ∀ s, I s → R (.ok (.ret (.bool ((List.range (min items.size items2.size)).all e && items.size == items2.size)))) s) {s : Shared} (hl1 : s.heap.get? l = some { cls := .type "tuple", dict := dd, data := .seq items n, slots := sl }) (hb1 : s.heap.get? b = some { cls := .type "tuple", dict := dd2, data := .seq items2 n2, slots := sl2 }) (h : I s) :
    wpAny (model prog w) A.in1 (Builtin.«tuple.__eq__» ⟨[.ref l, .ref b], []⟩) (FinOf prog w A R) (fun e s' => R (.error e) s') s := by
  have f2 := AutoSeq1.sub_tuple_tuple
  have hZ : (items.toList.zip items2.toList).length = min items.size items2.size := by simp
  have h0 := h
  obtain ⟨hp, g, d, tk, os⟩ := s
  wp_walk using wpAny_loadPart' hl1, wpAny_loadPart' hb1, wpAny_forIn_list _ (fun rest b s' => b.1 = none ∧ ∃ i, rest = (items.toList.zip items2.toList).drop i ∧ (∀ j, j < i → e j = true) ∧ i ≤ min items.size items2.size ∧ I s') _
  case turn =>
    rintro ⟨y, x⟩ rest b s' ⟨hb', i, hz, hpre, hi, hI⟩
    have hlt : i < (items.toList.zip items2.toList).length := by
      rcases Nat.lt_or_ge i (items.toList.zip items2.toList).length with h' | h'
      · exact h'
      · rw [List.drop_of_length_le h'] at hz; cases hz
    have hm : i < min items.size items2.size := hZ ▸ hlt
    have h1 : i < items.size := Nat.lt_of_lt_of_le hm (Nat.min_le_left _ _)
    have h2 : i < items2.size := Nat.lt_of_lt_of_le hm (Nat.min_le_right _ _)
    rw [List.drop_eq_getElem_cons hlt] at hz
    injection hz with hyx hrest
    have hy : y = items[i] := by have := congrArg Prod.fst hyx; simpa using this
    have hx : x = items2[i] := by have := congrArg Prod.snd hyx; simpa using this
    subst hy hx
    refine wpAny_bind (wpAny_mono (turn i h1 h2 s' hI) (fun r s2 q2 => ?_) fun _ _ x => x)
    obtain ⟨hr, q2⟩ := q2
    subst hr
    cases hei : e i with
    | true =>
      wp_walk
      exact ⟨rfl, i + 1, hrest, fun j hj => by
        rcases Nat.lt_succ_iff_lt_or_eq.mp hj with z | z
        · exact hpre j z
        · rw [z]; exact hei, hm, q2⟩
    | false =>
      have hR := fin s2 q2
      rw [all_drop hpre hm hei] at hR
      wp_walk
      simpa using hR
  case fin =>
    rintro ⟨b1, b2⟩ s' ⟨hb', i, hz, hpre, hi, hI⟩
    simp only at hb'
    subst hb'
    have hge : min items.size items2.size ≤ i := by
      rcases Nat.lt_or_ge i (items.toList.zip items2.toList).length with h' | h'
      · rw [List.drop_eq_getElem_cons h'] at hz; cases hz
      · exact hZ ▸ h'
    have hR := fin s' hI
    rw [all_full (fun j hj => hpre j (by omega))] at hR
    wp_walk
    simpa [Builtin.Tuple.tupleCompareSizes] using hR
  case h =>
    exact ⟨rfl, 0, rfl, fun j hj => absurd hj (Nat.not_lt_zero j), Nat.zero_le _, h0⟩
end
section
variable {prog : Program} {w : World} {A : Around} {E : Value → Shared → Prop} {s : Shared}
theorem call_here {T : String} {name : Str} {id : String} {B : Builtin} {self : Value} {rest : List Value} {Q : Value → Shared → Prop} (slot : Slot T name id) (hT : s.TypeIs self T)
    (entry : entryFor table id = some B) (args : argsOk id ⟨self :: rest, []⟩)
    (h : wpAny (model prog w) A.in1 (B ⟨self :: rest, []⟩) (FinOf prog w A (wants Q E)) (fun e s' => wants Q E (.error e) s') s) :
    wpAny (model prog w) A (call (.builtin id) (self :: rest)) Q E s :=
  wpAny_call (codeAny_call_builtin slot.plain entry (slot.check _ _ _ _ _ _ _ _ hT args h))
theorem rc_listB {l b : Addr} {N : Nat} {e : Nat → Bool} {Q : Value → Shared → Prop} (hu : A.units < cLine) (I : Shared → Prop) (hl : ListJ prog w A E l b N e I)
    (fin : ∀ s, I s → Q (.bool ((List.range N).all e)) s) (h : I s) : wpAny (model prog w) A (richCompare .Eq (.ref l) (.ref b)) Q E s := by
  obtain ⟨items, items2, hl1', hb1', _, _, _⟩ := hl _ h
  obtain ⟨n, dd, sl, hl1⟩ := isList_obj hl1'
  obtain ⟨n2, dd2, sl2, hb1⟩ := isList_obj hb1'
  refine wpAny_richCompare_same_room (op := .Eq) ⟨_, hl1, rfl⟩ ⟨_, hb1, rfl⟩ F.slot_list_eq (call_here F.slot_list_eq ⟨_, hl1, rfl⟩ F.entry_list_eq (F.args_list_eq_2 _ _) ?_) hu
  exact list_eqB (R := wants (fun v s' => v ≠ .notImplemented ∧ Q v s') E) l b N e I hl (fun s' q => ⟨(fun x => nomatch x), fin s' q⟩) h
theorem rc_tupB {l b : Addr} {items items2 : Array Value} {e : Nat → Bool} {Q : Value → Shared → Prop} (hu : A.units < cLine) (I : Shared → Prop)
    (hl : s.heap.IsTuple l items) (hb : s.heap.IsTuple b items2)
    (turn : ∀ i (h1 : i < items.size) (h2 : i < items2.size) s, I s → wpAny (model prog w) A.in1 (eqBool items[i] items2[i]) (fun r s' => r = e i ∧ I s') E s)
    (fin : ∀ s, I s → Q (.bool ((List.range (min items.size items2.size)).all e && items.size == items2.size)) s) (h : I s) : wpAny (model prog w) A (richCompare .Eq (.ref l) (.ref b)) Q E s := by
  obtain ⟨⟨cls, dd, data, sl⟩, ho, hc, n, hd⟩ := id hl
  obtain ⟨⟨cls2, dd2, data2, sl2⟩, ho2, hc2, n2, hd2⟩ := id hb
  simp only at hc hd hc2 hd2
  subst hc hd hc2 hd2
  refine wpAny_richCompare_same_room (op := .Eq) ⟨_, ho, rfl⟩ ⟨_, ho2, rfl⟩ F.slot_tuple_eq (call_here F.slot_tuple_eq ⟨_, ho, rfl⟩ F.entry_tuple_eq (F.args_tuple_eq_2 _ _) ?_) hu
  exact tuple_eqB (R := wants (fun v s' => v ≠ .notImplemented ∧ Q v s') E) l b items items2 n n2 dd dd2 sl sl2 e I turn (fun s' q => ⟨(fun x => nomatch x), fin s' q⟩) ho ho2 h
/-- == of two values inside a builtin, by their rich comparison -/
theorem eqBool_B {u v : Value} {Q : Bool → Shared → Prop} (hne : (u == v) = false) (hf : ∀ a t b t', u = .float a t → v = .float b t' → False) (h : wpAny (model prog w) A (richCompare .Eq u v) (fun v s' => ∃ r, v = .bool r ∧ Q r s') E s) : wpAny (model prog w) A (eqBool u v) Q E s := by
  unfold eqBool
  refine wpAny_holding ?_
  rw [if_neg (by rw [hne]; exact Bool.false_ne_true)]
  have z : wpAny (model prog w) A (do let r ← richCompare .Eq u v; truthOfDropped r) Q E s := by
    refine wpAny_bind (wpAny_mono h (fun v s' hv => ?_) fun _ _ x => x)
    obtain ⟨r, rfl, q⟩ := hv
    exact wpAny_truthy_bool q
  cases u <;> cases v <;> first | exact z | exact (hf _ _ _ _ rfl rfl).elim
end
end LxE

namespace LxE
open PySem PySem.SeqAt
open AutoSeq1 (wpAny_loadPart')
open MeetsSeq MeetsSeq2 MeetsSeq3 SeqRoads2
section
variable {prog : Program} {w : World} {A : Around} {E : Value → Shared → Prop} {s : Shared}
/-- b is no instance of T -/
def NotInst (prog : Program) (w : World) (s : Shared) (b : Value) (T : String) : Prop := ∀ (A : Around) (E : Value → Shared → Prop) (Q : Bool → Shared → Prop), Q false s → wpAny (model prog w) A (isInstance b (.type T)) Q E s
theorem list_declinesI {l b : Addr} {items : Array Value} {n : Nat} {dd : Option Addr} {sl : Array (Option Value)} {R : Fin → Shared → Prop} (hl : s.heap.get? l = some { cls := .type "list", dict := dd, data := .seq items n, slots := sl }) (hI : NotInst prog w s (.ref b) "list")
    (h : R (.done (.ret .notImplemented)) s) : wpAny (model prog w) A (Builtin.«list.__eq__» ⟨[.ref l, .ref b], []⟩) R E s := by
  obtain ⟨hp, g, d, tk, os⟩ := s
  have hI' := hI
  unfold NotInst at hI'
  wp_walk using wpAny_loadPart' hl, hI'
  exact h
theorem tuple_declinesI {l b : Addr} {items : Array Value} {n : Nat} {dd : Option Addr} {sl : Array (Option Value)} {R : Fin → Shared → Prop} (hl : s.heap.get? l = some { cls := .type "tuple", dict := dd, data := .seq items n, slots := sl }) (hI : NotInst prog w s (.ref b) "tuple")
    (h : R (.done (.ret .notImplemented)) s) : wpAny (model prog w) A (Builtin.«tuple.__eq__» ⟨[.ref l, .ref b], []⟩) R E s := by
  obtain ⟨hp, g, d, tk, os⟩ := s
  have hI' := hI
  unfold NotInst at hI'
  wp_walk using wpAny_loadPart' hl, hI'
  exact h
theorem int_declinesI {i : Int} {u : Tok} {b C dx : Addr} {R : Fin → Shared → Prop} (hb : s.heap.get? b = some (PySem.W.instObj C dx)) (h : R (.done (.ret .notImplemented)) s) : wpAny (model prog w) A (Builtin.«int.__eq__» ⟨[.int i u, .ref b], []⟩) R E s := by
  obtain ⟨hp, g, d, tk, os⟩ := s
  wp_walk using wpAny_loadPart' hb, wpAny_load hb
  exact h
theorem bool_declinesI {i : Bool} {b C dx : Addr} {R : Fin → Shared → Prop} (hb : s.heap.get? b = some (PySem.W.instObj C dx)) (h : R (.done (.ret .notImplemented)) s) : wpAny (model prog w) A (Builtin.«int.__eq__» ⟨[.bool i, .ref b], []⟩) R E s := by
  obtain ⟨hp, g, d, tk, os⟩ := s
  wp_walk using wpAny_loadPart' hb, wpAny_load hb
  exact h
theorem str_declinesI {i : Str} {u : Tok} {b C dx : Addr} {R : Fin → Shared → Prop} (hb : s.heap.get? b = some (PySem.W.instObj C dx)) (h : R (.done (.ret .notImplemented)) s) : wpAny (model prog w) A (Builtin.«str.__eq__» ⟨[.str i u, .ref b], []⟩) R E s := by
  obtain ⟨hp, g, d, tk, os⟩ := s
  wp_walk using wpAny_loadPart' hb, wpAny_load hb
  exact h
theorem dict_declinesI {a b : Addr} {R : Fin → Shared → Prop} (ha : s.TypeIs (.ref a) "dict") (hI : NotInst prog w s (.ref b) "dict") (h : R (.done (.ret .notImplemented)) s) : wpAny (model prog w) A (Builtin.«dict.__eq__» ⟨[.ref a, .ref b], []⟩) R E s := by
  show wpAny _ _ (Builtin.Dict.dictSlotArgs "__eq__" ⟨[.ref a, .ref b], []⟩ >>= _) _ _ s
  refine wpAny_bind ?_
  unfold Builtin.Dict.dictSlotArgs
  refine wpAny_bind (wpAny_notOrdered_dict ha ?_)
  show wpAny _ _ (pure (Value.ref a, Value.ref b)) _ _ s
  refine wpAny_pure ?_
  refine wpAny_bind (hI _ _ _ ?_)
  simp only [Bool.not_false, if_true]
  wp_walk
  exact h
end
section
open PySem.W
variable {prog : Program} {w : World} {A : Around} {E : Value → Shared → Prop} {s : Shared} {K : Frag} {y C f : Addr} {oy : Obj} {od : Option Obj} {a : Value}
theorem notInst_of {T : String} (X : K.In s.heap) (I : InstAt s.heap y oy C od) (hs : subIn K (.ref C) (.type T) = some false) : NotInst prog w s (.ref y) T := fun A E Q q => by
  have L : Looks (model prog w) s.heap (isInstance (.ref y) (.type T)) false := I.type.andThen (looks_subIn X hs)
  exact L.here q
theorem cmp_back {Ta ida : String} {Q : Value → Shared → Prop} (hu : A.units < cLine) (X : K.In s.heap) (I : InstAt s.heap y oy C od) (ha : s.TypeIs a Ta) (hsub : subIn K (.ref C) (.type Ta) = some false) (slot : Slot Ta "__eq__" ida)
    (hc1 : ∀ Q' : Value → Shared → Prop, Q' .notImplemented s → wpAny (model prog w) A (call (.builtin ida) [a, .ref y]) Q' E s)
    (hs : findIn K (.ref C) "__eq__" = some (some (.ref f))) (hf : isFn K (.ref f) = true)
    (h : wpAny (model prog w) A (call (.ref f) [.ref y, a]) (CmpBack Q) E s) : wpAny (model prog w) A (richCompare .Eq a (.ref y)) Q E s := by
  have one : wpAny (model prog w) A (tryCompare (.ref y) "__eq__" a) (fun r s' => ∃ v, r = some v ∧ Q v s') E s := by
    unfold tryCompare
    refine wpAny_bind (ifBound_K X I hs hf (wpAny_mono h (fun v s' hv => ?_) fun _ _ e => e))
    cases v <;> first | exact hv.elim | exact wpAny_pure ⟨_, rfl, hv⟩
  unfold richCompare
  simp only [ha.oneThing_none, cmpInfo]
  refine wpAny_holding (wpAny_bind (wpAny_cRoomFor hu ?_))
  refine wpAny_bind (wpAny_typeOf ha (wpAny_bind (I.type.here ?_)))
  have hne : (Value.type Ta != Value.ref C) = true := by first | rfl | simp
  simp only [hne, if_true]
  refine wpAny_bind ((looks_subIn X hsub).here ?_)
  simp only [Bool.false_eq_true, if_false, Bool.not_false, if_true]
  refine wpAny_bind (m := tryCompare a _ _) (wpAny_tryCompare_declines ha slot (hc1 _ ⟨rfl, ?_⟩))
  refine wpAny_bind (wpAny_mono one (fun r s' z => ?_) fun _ _ e => e)
  obtain ⟨v, rfl, hq⟩ := z
  exact wpAny_pure hq
end
end LxE

namespace L2
open PySem PySem.Spec PyProof.Rows
/-- data and own objects, told without the heap -/
inductive Dt where
  | non | bl (b : Bool) | int (i : Int) | str (s : Str)
  | lst (ds : List Dt) | tup (ds : List Dt) | dic (ks : List Key) (ds : List Dt) | ins (C : Addr) (fs : List Str) (ds : List Dt)
mutual
def Is (K : PySem.W.Frag) (H : Hp) : Dt → V → Prop
  | .non, v => v = .non
  | .bl b, v => v = .bl b
  | .int i, v => v = .int i
  | .str s, v => v = .str s
  | .lst ds, v => ∃ a xs, v = .ref a ∧ SqL K H a xs ∧ IsL K H ds xs
  | .tup ds, v => ∃ a xs, v = .ref a ∧ SqT K H a xs ∧ IsL K H ds xs
  | .dic ks ds, v => ∃ a kvs, v = .ref a ∧ H a = some (.dK kvs) ∧ kvs.map (·.1) = ks ∧ IsL K H ds (kvs.map (·.2))
  | .ins C fs ds, v => ∃ a dx kvs, v = .ref a ∧ H a = some (.ins C dx kvs) ∧ kvs.map (·.1) = fs ∧ IsL K H ds (kvs.map (·.2))
def IsL (K : PySem.W.Frag) (H : Hp) : List Dt → List V → Prop
  | [], vs => vs = []
  | d :: ds, vs => ∃ v r, vs = v :: r ∧ Is K H d v ∧ IsL K H ds r
end
mutual
theorem Is.ext {K : PySem.W.Frag} {H H' : Hp} (e : Ext H H') : ∀ {d : Dt} {v : V}, Is K H d v → Is K H' d v
  | .non, _, h => h
  | .bl _, _, h => h
  | .int _, _, h => h
  | .str _, _, h => h
  | .lst _, _, ⟨a, xs, h1, h2, h3⟩ => ⟨a, xs, h1, h2.ext e, IsL.ext e h3⟩
  | .tup _, _, ⟨a, xs, h1, h2, h3⟩ => ⟨a, xs, h1, h2.ext e, IsL.ext e h3⟩
  | .dic _ _, _, ⟨a, kvs, h1, h2, h3, h4⟩ => ⟨a, kvs, h1, e _ _ h2, h3, IsL.ext e h4⟩
  | .ins _ _ _, _, ⟨a, dx, kvs, h1, h2, h3, h4⟩ => ⟨a, dx, kvs, h1, e _ _ h2, h3, IsL.ext e h4⟩
theorem IsL.ext {K : PySem.W.Frag} {H H' : Hp} (e : Ext H H') : ∀ {ds : List Dt} {vs : List V}, IsL K H ds vs → IsL K H' ds vs
  | [], _, h => h
  | _ :: _, _, ⟨v, r, h1, h2, h3⟩ => ⟨v, r, h1, Is.ext e h2, IsL.ext e h3⟩
end
theorem IsL.length {K : PySem.W.Frag} {H : Hp} : ∀ {ds : List Dt} {vs : List V}, IsL K H ds vs → ds.length = vs.length
  | [], _, h => by rw [show _ = [] from h] <;> rfl
  | _ :: _, _, ⟨v, r, h1, h2, h3⟩ => by rw [h1, List.length_cons, List.length_cons, IsL.length h3]
theorem IsL.get {K : PySem.W.Frag} {H : Hp} : ∀ {ds : List Dt} {vs : List V} {i : Nat} {v : V}, IsL K H ds vs → vs[i]? = some v → ∃ d, ds[i]? = some d ∧ Is K H d v
  | [], _, i, v, h, e => by rw [show _ = [] from h] at e; simp at e
  | d :: _, _, 0, v, ⟨w, r, h1, h2, h3⟩, e => by
    rw [h1] at e
    cases e
    exact ⟨d, rfl, h2⟩
  | _ :: _, _, i + 1, v, ⟨w, r, h1, h2, h3⟩, e => by
    rw [h1] at e
    exact IsL.get (i := i) h3 e
theorem IsL.get' {K : PySem.W.Frag} {H : Hp} : ∀ {ds : List Dt} {vs : List V} {i : Nat} {d : Dt}, IsL K H ds vs → ds[i]? = some d → ∃ v, vs[i]? = some v ∧ Is K H d v
  | [], _, i, d, h, e => by simp at e
  | d :: _, _, 0, d', ⟨w, r, h1, h2, h3⟩, e => by
    rw [h1]
    cases e
    exact ⟨w, rfl, h2⟩
  | _ :: _, _, i + 1, v, ⟨w, r, h1, h2, h3⟩, e => by
    rw [h1]
    exact IsL.get' (i := i) h3 e
theorem IsL.nil {K : PySem.W.Frag} {H : Hp} : IsL K H [] [] := rfl
theorem IsL.cons {K : PySem.W.Frag} {H : Hp} {d : Dt} {v : V} {ds : List Dt} {vs : List V} (h : Is K H d v) (t : IsL K H ds vs) : IsL K H (d :: ds) (v :: vs) := ⟨v, vs, rfl, h, t⟩
theorem IsL.append {K : PySem.W.Frag} {H : Hp} : ∀ {ds es : List Dt} {vs ws : List V}, IsL K H ds vs → IsL K H es ws → IsL K H (ds ++ es) (vs ++ ws)
  | [], _, _, _, h, t => by rw [show _ = [] from h]; exact t
  | _ :: _, _, _, _, ⟨v, r, h1, h2, h3⟩, t => by rw [h1]; exact ⟨v, _, rfl, h2, IsL.append h3 t⟩
/-- ints -/
theorem isL_ints {K : PySem.W.Frag} {H : Hp} : ∀ ns : List Int, IsL K H (ns.map Dt.int) (ns.map V.int)
  | [] => rfl
  | n :: r => ⟨_, _, rfl, rfl, isL_ints r⟩
theorem of_isL_ints {K : PySem.W.Frag} {H : Hp} : ∀ {ns : List Int} {vs : List V}, IsL K H (ns.map Dt.int) vs → vs = ns.map V.int
  | [], _, h => h
  | n :: r, _, ⟨v, w, h1, h2, h3⟩ => by rw [h1, show v = V.int n from h2, of_isL_ints h3] <;> rfl
/-! ### == -/
def look (ls : List Key) (es : List Dt) (k : Key) : Option Dt := ((ls.zip es).find? fun p => decide (p.1 = k)).map (·.2)
mutual
def deq : Dt → Dt → Bool
  | .non, .non => true
  | .bl a, .bl b => a == b
  | .bl a, .int b => (if a then 1 else 0) == b
  | .int a, .bl b => a == (if b then 1 else 0)
  | .int a, .int b => a == b
  | .str a, .str b => a == b
  | .lst a, .lst b => deqL a b
  | .tup a, .tup b => deqL a b
  | .dic ks ds, .dic ls es => ks.length == ls.length && deqD ks ds ls es
  | .ins C _ a, .ins C' _ b => C == C' && deqL a b
  | _, _ => false
def deqL : List Dt → List Dt → Bool
  | [], [] => true
  | a :: as, b :: bs => deq a b && deqL as bs
  | _, _ => false
def deqD : List Key → List Dt → List Key → List Dt → Bool
  | k :: ks, d :: ds, ls, es => (match look ls es k with | some e => deq d e | none => false) && deqD ks ds ls es
  | _, _, _, _ => true
end
mutual
def dep : Dt → Nat
  | .lst ds => depL ds + 1
  | .tup ds => depL ds + 1
  | .dic _ ds => depL ds + 1
  | .ins _ _ ds => depL ds + 1
  | _ => 0
def depL : List Dt → Nat
  | [] => 0
  | d :: ds => max (dep d) (depL ds)
end
theorem depL_get : ∀ {ds : List Dt} {i : Nat} {d : Dt}, ds[i]? = some d → dep d ≤ depL ds
  | [], _, _, e => by simp at e
  | a :: ds, 0, d, e => by cases e; exact Nat.le_max_left _ _
  | a :: ds, i + 1, d, e => Nat.le_trans (depL_get (i := i) e) (Nat.le_max_right _ _)
/-- the item's answer -/
def eAt (ds es : List Dt) (i : Nat) : Bool := match ds[i]?, es[i]? with | some d, some e => deq d e | _, _ => true
theorem range_all_succ (n : Nat) (f : Nat → Bool) : (List.range (n + 1)).all f = (f 0 && (List.range n).all fun i => f (i + 1)) := by
  rw [List.range_succ_eq_map, List.all_cons, List.all_map]
  rfl
theorem deqL_eq : ∀ ds es : List Dt, deqL ds es = ((List.range (min ds.length es.length)).all (eAt ds es) && ds.length == es.length)
  | [], [] => by simp [deqL]
  | [], _ :: _ => by simp [deqL]
  | _ :: _, [] => by simp [deqL]
  | a :: as, b :: bs => by
    have ih := deqL_eq as bs
    have h1 : min (a :: as).length (b :: bs).length = min as.length bs.length + 1 := by simp [Nat.succ_min_succ]
    rw [h1, range_all_succ]
    show (deq a b && deqL as bs) = _
    rw [ih]
    have h2 : (fun i => eAt (a :: as) (b :: bs) (i + 1)) = eAt as bs := rfl
    have h3 : eAt (a :: as) (b :: bs) 0 = deq a b := rfl
    rw [h2, h3, List.length_cons, List.length_cons, Bool.and_assoc]
    congr 2
    simp
/-! no own objects within -/
mutual
def pureD : Dt → Bool
  | .lst ds => pureL ds
  | .tup ds => pureL ds
  | .dic _ ds => pureL ds
  | .ins _ _ _ => false
  | _ => true
def pureL : List Dt → Bool
  | [] => true
  | d :: ds => pureD d && pureL ds
end
theorem pureL_get : ∀ {ds : List Dt} {i : Nat} {d : Dt}, pureL ds = true → ds[i]? = some d → pureD d = true
  | [], _, _, _, e => by simp at e
  | a :: ds, 0, d, h, e => by cases e; exact (Bool.and_eq_true_iff.mp h).1
  | a :: ds, i + 1, d, h, e => pureL_get (i := i) (Bool.and_eq_true_iff.mp h).2 e
end L2

namespace LxE
open PySem PySem.SeqAt
open AutoSeq1 (wpAny_loadPart')
open MeetsSeq MeetsSeq2 MeetsSeq3 SeqRoads2
section
variable {prog : Program} {w : World} {A : Around} {E : Value → Shared → Prop} {s : Shared}
theorem notInst_ty {v : Value} {T U : String} (hT : s.TypeIs v T) (h : isSubtype (.type T) (.type U) = pure false) : NotInst prog w s v U := fun _ _ _ q => wpAny_isInstance hT h q
theorem dict_declines {a : Addr} {v : Value} {R : Fin → Shared → Prop} (ha : s.TypeIs (.ref a) "dict") (hI : NotInst prog w s v "dict") (h : R (.done (.ret .notImplemented)) s) : wpAny (model prog w) A (Builtin.«dict.__eq__» ⟨[.ref a, v], []⟩) R E s := by
  show wpAny _ _ (Builtin.Dict.dictSlotArgs "__eq__" ⟨[.ref a, v], []⟩ >>= _) _ _ s
  refine wpAny_bind ?_
  unfold Builtin.Dict.dictSlotArgs
  refine wpAny_bind (wpAny_notOrdered_dict ha ?_)
  show wpAny _ _ (pure (Value.ref a, v)) _ _ s
  refine wpAny_pure ?_
  refine wpAny_bind (hI _ _ _ ?_)
  simp only [Bool.not_false, if_true]
  wp_walk
  exact h
theorem int_declinesD {i : Int} {u : Tok} {b : Addr} {o : Obj} {es : Array DictEntry} {ep : Nat} {R : Fin → Shared → Prop} (hb : s.heap.get? b = some o) (hd : o.data = .dict es ep) (h : R (.done (.ret .notImplemented)) s) : wpAny (model prog w) A (Builtin.«int.__eq__» ⟨[.int i u, .ref b], []⟩) R E s := by
  obtain ⟨hp, g, d, tk, os⟩ := s
  obtain ⟨cl, dd, dt, sl⟩ := o
  simp only at hd
  subst hd
  wp_walk using wpAny_loadPart' hb, wpAny_load hb
  exact h
theorem bool_declinesD {i : Bool} {b : Addr} {o : Obj} {es : Array DictEntry} {ep : Nat} {R : Fin → Shared → Prop} (hb : s.heap.get? b = some o) (hd : o.data = .dict es ep) (h : R (.done (.ret .notImplemented)) s) : wpAny (model prog w) A (Builtin.«int.__eq__» ⟨[.bool i, .ref b], []⟩) R E s := by
  obtain ⟨hp, g, d, tk, os⟩ := s
  obtain ⟨cl, dd, dt, sl⟩ := o
  simp only at hd
  subst hd
  wp_walk using wpAny_loadPart' hb, wpAny_load hb
  exact h
theorem str_declinesD {i : Str} {u : Tok} {b : Addr} {o : Obj} {es : Array DictEntry} {ep : Nat} {R : Fin → Shared → Prop} (hb : s.heap.get? b = some o) (hd : o.data = .dict es ep) (h : R (.done (.ret .notImplemented)) s) : wpAny (model prog w) A (Builtin.«str.__eq__» ⟨[.str i u, .ref b], []⟩) R E s := by
  obtain ⟨hp, g, d, tk, os⟩ := s
  obtain ⟨cl, dd, dt, sl⟩ := o
  simp only at hd
  subst hd
  wp_walk using wpAny_loadPart' hb, wpAny_load hb
  exact h
/-- a built-in == that declines, as a call -/
theorem callFin {self : Value} {rest : List Value} {T : String} {name : Str} {id : String} {B : Builtin} (slot : Slot T name id) (hT : s.TypeIs self T) (entry : entryFor table id = some B) (args : argsOk id ⟨self :: rest, []⟩)
    (hB : ∀ (A : Around) (E : Value → Shared → Prop) (R : Fin → Shared → Prop), R (.done (.ret .notImplemented)) s → wpAny (model prog w) A (B ⟨self :: rest, []⟩) R E s) (Q' : Value → Shared → Prop) (q : Q' .notImplemented s) :
    wpAny (model prog w) A (call (.builtin id) (self :: rest)) Q' E s := call_here slot hT entry args (hB _ _ _ q)
theorem eqP_of_rc {u v : Value} {k : Bool} (hne : (u == v) = false) (hf : ∀ a t b t', u = .float a t → v = .float b t' → False) (h : ∀ (E Q : Value → Shared → Prop), Q (.bool k) s → wpAny (model prog w) A (richCompare .Eq u v) Q E s) : EqP prog w A s u v k := fun E Q q =>
  eqBool_B hne hf (h E _ ⟨k, rfl, q⟩)
end
end LxE

namespace LxE
open PySem PySem.SeqAt L2
open AutoSeq1 (wpAny_loadPart')
open MeetsSeq MeetsSeq2 MeetsSeq3 SeqRoads2
section
variable {prog : Program} {w : World} {A : Around} {E : Value → Shared → Prop} {s : Shared}
theorem isTup_obj {h : Heap} {l : Addr} {items : Array Value} (hl : h.IsTuple l items) : ∃ n dd sl, h.get? l = some { cls := .type "tuple", dict := dd, data := .seq items n, slots := sl } := by
  obtain ⟨⟨cls, dd, data, sl⟩, ho, hc, n, hd⟩ := hl
  simp only at hc hd
  subst hc hd
  exact ⟨n, dd, sl, ho⟩
theorem dict_obj {K : Type} [DecidableEq K] {knd : KeyKind prog w K} {h : Heap} {l : Addr} {kvs : List (K × Value)} (hl : h.DictOf knd l kvs) : ∃ (o : Obj) (es : Array DictEntry) (ep : Nat), h.get? l = some o ∧ o.data = .dict es ep := by
  obtain ⟨o, es, ep, ho, _, hd, _⟩ := hl
  exact ⟨o, es, ep, ho, hd⟩
theorem ti_list {l : Addr} {items : Array Value} (hl : s.heap.IsList l items) : s.TypeIs (.ref l) "list" := by
  obtain ⟨o, ho, hc, _⟩ := hl
  exact ⟨o, ho, hc⟩
theorem ti_tuple {l : Addr} {items : Array Value} (hl : s.heap.IsTuple l items) : s.TypeIs (.ref l) "tuple" := by
  obtain ⟨o, ho, hc, _⟩ := hl
  exact ⟨o, ho, hc⟩
theorem ne_data {h : Heap} {a b : Addr} {oa ob : Obj} (ha : h.get? a = some oa) (hb : h.get? b = some ob) (hd : oa.data ≠ ob.data) : a ≠ b := fun e => by
  subst e
  rw [ha] at hb
  cases hb
  exact hd rfl
theorem isSame_lst_dic {K : Type} [DecidableEq K] {knd : KeyKind prog w K} {a b : Addr} {items : Array Value} {kvs : List (K × Value)} {M : Model} {R : Bool → Shared → Prop} (h1 : s.heap.IsList a items) (h2 : s.heap.DictOf knd b kvs) (q : R false s) : wpAny M A (isSame (.ref a) (.ref b)) R E s := by
  obtain ⟨n, dd, sl, ho⟩ := isList_obj h1
  obtain ⟨o, es, ep, ho2, hd⟩ := dict_obj h2
  exact wpAny_isSame_ref_other (ne_data ho ho2 (by rw [hd]; exact fun z => nomatch z)) ho ho2 (by simp) q
theorem isSame_dic_lst {K : Type} [DecidableEq K] {knd : KeyKind prog w K} {a b : Addr} {items : Array Value} {kvs : List (K × Value)} {M : Model} {R : Bool → Shared → Prop} (h2 : s.heap.DictOf knd a kvs) (h1 : s.heap.IsList b items) (q : R false s) : wpAny M A (isSame (.ref a) (.ref b)) R E s := by
  obtain ⟨n, dd, sl, ho⟩ := isList_obj h1
  obtain ⟨o, es, ep, ho2, hd⟩ := dict_obj h2
  exact wpAny_isSame_ref_other' (ne_data ho2 ho (by rw [hd]; exact fun z => nomatch z)) ho2 ho (by simp) q
theorem isSame_tup_dic {K : Type} [DecidableEq K] {knd : KeyKind prog w K} {a b : Addr} {items : Array Value} {kvs : List (K × Value)} {M : Model} {R : Bool → Shared → Prop} (h1 : s.heap.IsTuple a items) (h2 : s.heap.DictOf knd b kvs) (q : R false s) : wpAny M A (isSame (.ref a) (.ref b)) R E s := by
  obtain ⟨n, dd, sl, ho⟩ := isTup_obj h1
  have ht := h2.typeIs
  obtain ⟨o, es, ep, ho2, hd⟩ := dict_obj h2
  obtain ⟨o', ho', hc⟩ := ht
  rw [ho2] at ho'
  cases ho'
  exact wpAny_isSame_ref_other' (ne_data ho ho2 (by rw [hd]; exact fun z => nomatch z)) ho ho2 (by rw [hc]; simp) q
theorem isSame_dic_tup {K : Type} [DecidableEq K] {knd : KeyKind prog w K} {a b : Addr} {items : Array Value} {kvs : List (K × Value)} {M : Model} {R : Bool → Shared → Prop} (h2 : s.heap.DictOf knd a kvs) (h1 : s.heap.IsTuple b items) (q : R false s) : wpAny M A (isSame (.ref a) (.ref b)) R E s := by
  obtain ⟨n, dd, sl, ho⟩ := isTup_obj h1
  have ht := h2.typeIs
  obtain ⟨o, es, ep, ho2, hd⟩ := dict_obj h2
  obtain ⟨o', ho', hc⟩ := ht
  rw [ho2] at ho'
  cases ho'
  exact wpAny_isSame_ref_other (ne_data ho2 ho (by rw [hd]; exact fun z => nomatch z)) ho2 ho (by rw [hc]; simp) q
end
def kd : Dt → Nat
  | .non => 0 | .bl _ => 1 | .int _ => 1 | .str _ => 2 | .lst _ => 3 | .tup _ => 4 | .dic _ _ => 5 | .ins _ _ _ => 6
def RcP (prog : Program) (w : World) (A : Around) (s : Shared) (u v : Value) (k : Bool) : Prop := ∀ (E Q : Value → Shared → Prop), Q (.bool k) s → wpAny (model prog w) A (richCompare .Eq u v) Q E s
theorem mis {X : Cx} {pins : List (Addr × Obj)} {σ : L2.St} {H : Hp} {s : Shared} {A : Around} (I : Inv X pins σ H s) (hu : A.units < cLine) {x y : V} {u v : Value} :
    ∀ (d e : Dt), Is X.K H d x → Is X.K H e y → RelV x u → RelV y v → kd d ≠ kd e → kd d ≠ 6 → kd e ≠ 6 → RcP X.prog X.w A s u v false
  | .non, .non, _, _, _, _, h, _, _ => absurd rfl h
  | .non, .bl b2, hd, he, rx, ry, _, _, _ => by
    cases (show x = V.non from hd)
    cases (show u = Value.none from rx)
    cases (show y = V.bl b2 from he)
    cases (show v = Value.bool b2 from ry)
    exact fun E Q q => RcAt.none_bool b2 X.prog X.w E Q q
  | .non, .int i2, hd, he, rx, ry, _, _, _ => by
    cases (show x = V.non from hd)
    cases (show u = Value.none from rx)
    cases (show y = V.int i2 from he)
    obtain ⟨t2, rfl⟩ := (show ∃ t, v = Value.int i2 t from ry)
    exact fun E Q q => RcAt.none_int i2 t2 X.prog X.w E Q q
  | .non, .str z2, hd, he, rx, ry, _, _, _ => by
    cases (show x = V.non from hd)
    cases (show u = Value.none from rx)
    cases (show y = V.str z2 from he)
    obtain ⟨t2, rfl⟩ := (show ∃ t, v = Value.str z2 t from ry)
    exact fun E Q q => RcAt.none_str z2 t2 X.prog X.w E Q q
  | .non, .lst ds2, hd, he, rx, ry, _, _, _ => by
    cases (show x = V.non from hd)
    cases (show u = Value.none from rx)
    obtain ⟨a2, xs2, ex2, hs2, _⟩ := he
    subst ex2
    cases (show v = Value.ref a2 from ry)
    obtain ⟨its2, _, p2, _⟩ := I.list hs2
    have o2 := p2.isList
    exact fun E Q q => RcAt.none_list o2 hu X.prog X.w E Q q
  | .non, .tup ds2, hd, he, rx, ry, _, _, _ => by
    cases (show x = V.non from hd)
    cases (show u = Value.none from rx)
    obtain ⟨a2, xs2, ex2, hs2, _⟩ := he
    subst ex2
    cases (show v = Value.ref a2 from ry)
    obtain ⟨its2, _, o2, _⟩ := I.tuple hs2
    exact fun E Q q => RcAt.none_tuple o2 hu X.prog X.w E Q q
  | .non, .dic ks2 ds2, hd, he, rx, ry, _, _, _ => by
    cases (show x = V.non from hd)
    cases (show u = Value.none from rx)
    obtain ⟨a2, xs2, ex2, hs2, _⟩ := he
    subst ex2
    cases (show v = Value.ref a2 from ry)
    obtain ⟨_, _, va2, _, o2⟩ := (show ObjOk X.prog X.w H s.heap a2 (.dK xs2) from I.hok a2 _ hs2)
    exact fun E Q q => rc_eq_decline_or (k := false) (show s.TypeIs Value.none "NoneType" from rfl) o2.typeIs (by decide) F.sub_dict_NoneType F.slot_NoneType_eq F.slot_dict_eq_refl
      (fun Q' q' => call_gives F.slot_NoneType_eq rfl F.entry_NoneType_eq (F.args_NoneType_eq_2 _ _) (NoneType___eq___none_ref_0 a2) q')
      (fun Q' q' => callFin F.slot_dict_eq_refl o2.typeIs F.entry_dict_eq (F.args_dict_eq_2 _ _) (fun _ _ _ z => dict_declines o2.typeIs (notInst_ty (show s.TypeIs Value.none "NoneType" from rfl) F.sub_NoneType_dict) z) Q' q')
      (fun _ q' => wpAny_of_eq (rfl : isSame Value.none (Value.ref a2) = pure false) q') (.inr hu) q
  | .bl b1, .non, hd, he, rx, ry, _, _, _ => by
    cases (show x = V.bl b1 from hd)
    cases (show u = Value.bool b1 from rx)
    cases (show y = V.non from he)
    cases (show v = Value.none from ry)
    exact fun E Q q => RcAt.bool_none b1 X.prog X.w E Q q
  | .bl b1, .bl b2, _, _, _, _, h, _, _ => absurd rfl h
  | .bl b1, .int i2, _, _, _, _, h, _, _ => absurd rfl h
  | .bl b1, .str z2, hd, he, rx, ry, _, _, _ => by
    cases (show x = V.bl b1 from hd)
    cases (show u = Value.bool b1 from rx)
    cases (show y = V.str z2 from he)
    obtain ⟨t2, rfl⟩ := (show ∃ t, v = Value.str z2 t from ry)
    exact fun E Q q => RcAt.bool_str b1 z2 t2 X.prog X.w E Q q
  | .bl b1, .lst ds2, hd, he, rx, ry, _, _, _ => by
    cases (show x = V.bl b1 from hd)
    cases (show u = Value.bool b1 from rx)
    obtain ⟨a2, xs2, ex2, hs2, _⟩ := he
    subst ex2
    cases (show v = Value.ref a2 from ry)
    obtain ⟨its2, _, p2, _⟩ := I.list hs2
    have o2 := p2.isList
    exact fun E Q q => RcAt.bool_list b1 o2 hu X.prog X.w E Q q
  | .bl b1, .tup ds2, hd, he, rx, ry, _, _, _ => by
    cases (show x = V.bl b1 from hd)
    cases (show u = Value.bool b1 from rx)
    obtain ⟨a2, xs2, ex2, hs2, _⟩ := he
    subst ex2
    cases (show v = Value.ref a2 from ry)
    obtain ⟨its2, _, o2, _⟩ := I.tuple hs2
    exact fun E Q q => RcAt.bool_tuple b1 o2 hu X.prog X.w E Q q
  | .bl b1, .dic ks2 ds2, hd, he, rx, ry, _, _, _ => by
    cases (show x = V.bl b1 from hd)
    cases (show u = Value.bool b1 from rx)
    obtain ⟨a2, xs2, ex2, hs2, _⟩ := he
    subst ex2
    cases (show v = Value.ref a2 from ry)
    obtain ⟨_, _, va2, _, o2⟩ := (show ObjOk X.prog X.w H s.heap a2 (.dK xs2) from I.hok a2 _ hs2)
    exact fun E Q q => rc_eq_decline_or (k := false) (show s.TypeIs (Value.bool b1) "bool" from rfl) o2.typeIs (by decide) F.sub_dict_bool F.slot_bool_eq F.slot_dict_eq_refl
      (fun Q' q' => callFin F.slot_bool_eq (show s.TypeIs (Value.bool b1) "bool" from rfl) F.entry_int_eq (F.args_int_eq_2 _ _) (fun _ _ _ z => (dict_obj o2).elim fun _ y => y.elim fun _ y => y.elim fun _ ho => bool_declinesD ho.1 ho.2 z) Q' q')
      (fun Q' q' => callFin F.slot_dict_eq_refl o2.typeIs F.entry_dict_eq (F.args_dict_eq_2 _ _) (fun _ _ _ z => dict_declines o2.typeIs (notInst_ty (show s.TypeIs (Value.bool b1) "bool" from rfl) F.sub_bool_dict) z) Q' q')
      (fun _ q' => wpAny_of_eq (rfl : isSame (Value.bool b1) (Value.ref a2) = pure false) q') (.inr hu) q
  | .int i1, .non, hd, he, rx, ry, _, _, _ => by
    cases (show x = V.int i1 from hd)
    obtain ⟨t1, rfl⟩ := (show ∃ t, u = Value.int i1 t from rx)
    cases (show y = V.non from he)
    cases (show v = Value.none from ry)
    exact fun E Q q => RcAt.int_none i1 t1 X.prog X.w E Q q
  | .int i1, .bl b2, _, _, _, _, h, _, _ => absurd rfl h
  | .int i1, .int i2, _, _, _, _, h, _, _ => absurd rfl h
  | .int i1, .str z2, hd, he, rx, ry, _, _, _ => by
    cases (show x = V.int i1 from hd)
    obtain ⟨t1, rfl⟩ := (show ∃ t, u = Value.int i1 t from rx)
    cases (show y = V.str z2 from he)
    obtain ⟨t2, rfl⟩ := (show ∃ t, v = Value.str z2 t from ry)
    exact fun E Q q => RcAt.int_str i1 t1 z2 t2 X.prog X.w E Q q
  | .int i1, .lst ds2, hd, he, rx, ry, _, _, _ => by
    cases (show x = V.int i1 from hd)
    obtain ⟨t1, rfl⟩ := (show ∃ t, u = Value.int i1 t from rx)
    obtain ⟨a2, xs2, ex2, hs2, _⟩ := he
    subst ex2
    cases (show v = Value.ref a2 from ry)
    obtain ⟨its2, _, p2, _⟩ := I.list hs2
    have o2 := p2.isList
    exact fun E Q q => RcAt.int_list i1 t1 o2 hu X.prog X.w E Q q
  | .int i1, .tup ds2, hd, he, rx, ry, _, _, _ => by
    cases (show x = V.int i1 from hd)
    obtain ⟨t1, rfl⟩ := (show ∃ t, u = Value.int i1 t from rx)
    obtain ⟨a2, xs2, ex2, hs2, _⟩ := he
    subst ex2
    cases (show v = Value.ref a2 from ry)
    obtain ⟨its2, _, o2, _⟩ := I.tuple hs2
    exact fun E Q q => RcAt.int_tuple i1 t1 o2 hu X.prog X.w E Q q
  | .int i1, .dic ks2 ds2, hd, he, rx, ry, _, _, _ => by
    cases (show x = V.int i1 from hd)
    obtain ⟨t1, rfl⟩ := (show ∃ t, u = Value.int i1 t from rx)
    obtain ⟨a2, xs2, ex2, hs2, _⟩ := he
    subst ex2
    cases (show v = Value.ref a2 from ry)
    obtain ⟨_, _, va2, _, o2⟩ := (show ObjOk X.prog X.w H s.heap a2 (.dK xs2) from I.hok a2 _ hs2)
    exact fun E Q q => rc_eq_decline_or (k := false) (show s.TypeIs (Value.int i1 t1) "int" from rfl) o2.typeIs (by decide) F.sub_dict_int F.slot_int_eq F.slot_dict_eq_refl
      (fun Q' q' => callFin F.slot_int_eq (show s.TypeIs (Value.int i1 t1) "int" from rfl) F.entry_int_eq (F.args_int_eq_2 _ _) (fun _ _ _ z => (dict_obj o2).elim fun _ y => y.elim fun _ y => y.elim fun _ ho => int_declinesD ho.1 ho.2 z) Q' q')
      (fun Q' q' => callFin F.slot_dict_eq_refl o2.typeIs F.entry_dict_eq (F.args_dict_eq_2 _ _) (fun _ _ _ z => dict_declines o2.typeIs (notInst_ty (show s.TypeIs (Value.int i1 t1) "int" from rfl) F.sub_int_dict) z) Q' q')
      (fun _ q' => wpAny_of_eq (rfl : isSame (Value.int i1 t1) (Value.ref a2) = pure false) q') (.inr hu) q
  | .str z1, .non, hd, he, rx, ry, _, _, _ => by
    cases (show x = V.str z1 from hd)
    obtain ⟨t1, rfl⟩ := (show ∃ t, u = Value.str z1 t from rx)
    cases (show y = V.non from he)
    cases (show v = Value.none from ry)
    exact fun E Q q => RcAt.str_none z1 t1 X.prog X.w E Q q
  | .str z1, .bl b2, hd, he, rx, ry, _, _, _ => by
    cases (show x = V.str z1 from hd)
    obtain ⟨t1, rfl⟩ := (show ∃ t, u = Value.str z1 t from rx)
    cases (show y = V.bl b2 from he)
    cases (show v = Value.bool b2 from ry)
    exact fun E Q q => RcAt.str_bool z1 t1 b2 X.prog X.w E Q q
  | .str z1, .int i2, hd, he, rx, ry, _, _, _ => by
    cases (show x = V.str z1 from hd)
    obtain ⟨t1, rfl⟩ := (show ∃ t, u = Value.str z1 t from rx)
    cases (show y = V.int i2 from he)
    obtain ⟨t2, rfl⟩ := (show ∃ t, v = Value.int i2 t from ry)
    exact fun E Q q => RcAt.str_int z1 t1 i2 t2 X.prog X.w E Q q
  | .str z1, .str z2, _, _, _, _, h, _, _ => absurd rfl h
  | .str z1, .lst ds2, hd, he, rx, ry, _, _, _ => by
    cases (show x = V.str z1 from hd)
    obtain ⟨t1, rfl⟩ := (show ∃ t, u = Value.str z1 t from rx)
    obtain ⟨a2, xs2, ex2, hs2, _⟩ := he
    subst ex2
    cases (show v = Value.ref a2 from ry)
    obtain ⟨its2, _, p2, _⟩ := I.list hs2
    have o2 := p2.isList
    exact fun E Q q => RcAt.str_list z1 t1 o2 hu X.prog X.w E Q q
  | .str z1, .tup ds2, hd, he, rx, ry, _, _, _ => by
    cases (show x = V.str z1 from hd)
    obtain ⟨t1, rfl⟩ := (show ∃ t, u = Value.str z1 t from rx)
    obtain ⟨a2, xs2, ex2, hs2, _⟩ := he
    subst ex2
    cases (show v = Value.ref a2 from ry)
    obtain ⟨its2, _, o2, _⟩ := I.tuple hs2
    exact fun E Q q => RcAt.str_tuple z1 t1 o2 hu X.prog X.w E Q q
  | .str z1, .dic ks2 ds2, hd, he, rx, ry, _, _, _ => by
    cases (show x = V.str z1 from hd)
    obtain ⟨t1, rfl⟩ := (show ∃ t, u = Value.str z1 t from rx)
    obtain ⟨a2, xs2, ex2, hs2, _⟩ := he
    subst ex2
    cases (show v = Value.ref a2 from ry)
    obtain ⟨_, _, va2, _, o2⟩ := (show ObjOk X.prog X.w H s.heap a2 (.dK xs2) from I.hok a2 _ hs2)
    exact fun E Q q => rc_eq_decline_or (k := false) (show s.TypeIs (Value.str z1 t1) "str" from rfl) o2.typeIs (by decide) F.sub_dict_str F.slot_str_eq F.slot_dict_eq_refl
      (fun Q' q' => callFin F.slot_str_eq (show s.TypeIs (Value.str z1 t1) "str" from rfl) F.entry_str_eq (F.args_str_eq_2 _ _) (fun _ _ _ z => (dict_obj o2).elim fun _ y => y.elim fun _ y => y.elim fun _ ho => str_declinesD ho.1 ho.2 z) Q' q')
      (fun Q' q' => callFin F.slot_dict_eq_refl o2.typeIs F.entry_dict_eq (F.args_dict_eq_2 _ _) (fun _ _ _ z => dict_declines o2.typeIs (notInst_ty (show s.TypeIs (Value.str z1 t1) "str" from rfl) F.sub_str_dict) z) Q' q')
      (fun _ q' => wpAny_of_eq (rfl : isSame (Value.str z1 t1) (Value.ref a2) = pure false) q') (.inr hu) q
  | .lst ds1, .non, hd, he, rx, ry, _, _, _ => by
    obtain ⟨a1, xs1, ex1, hs1, _⟩ := hd
    subst ex1
    cases (show u = Value.ref a1 from rx)
    obtain ⟨its1, _, p1, _⟩ := I.list hs1
    have o1 := p1.isList
    cases (show y = V.non from he)
    cases (show v = Value.none from ry)
    exact fun E Q q => RcAt.list_none o1 hu X.prog X.w E Q q
  | .lst ds1, .bl b2, hd, he, rx, ry, _, _, _ => by
    obtain ⟨a1, xs1, ex1, hs1, _⟩ := hd
    subst ex1
    cases (show u = Value.ref a1 from rx)
    obtain ⟨its1, _, p1, _⟩ := I.list hs1
    have o1 := p1.isList
    cases (show y = V.bl b2 from he)
    cases (show v = Value.bool b2 from ry)
    exact fun E Q q => RcAt.list_bool b2 o1 hu X.prog X.w E Q q
  | .lst ds1, .int i2, hd, he, rx, ry, _, _, _ => by
    obtain ⟨a1, xs1, ex1, hs1, _⟩ := hd
    subst ex1
    cases (show u = Value.ref a1 from rx)
    obtain ⟨its1, _, p1, _⟩ := I.list hs1
    have o1 := p1.isList
    cases (show y = V.int i2 from he)
    obtain ⟨t2, rfl⟩ := (show ∃ t, v = Value.int i2 t from ry)
    exact fun E Q q => RcAt.list_int i2 t2 o1 hu X.prog X.w E Q q
  | .lst ds1, .str z2, hd, he, rx, ry, _, _, _ => by
    obtain ⟨a1, xs1, ex1, hs1, _⟩ := hd
    subst ex1
    cases (show u = Value.ref a1 from rx)
    obtain ⟨its1, _, p1, _⟩ := I.list hs1
    have o1 := p1.isList
    cases (show y = V.str z2 from he)
    obtain ⟨t2, rfl⟩ := (show ∃ t, v = Value.str z2 t from ry)
    exact fun E Q q => RcAt.list_str z2 t2 o1 hu X.prog X.w E Q q
  | .lst ds1, .lst ds2, _, _, _, _, h, _, _ => absurd rfl h
  | .lst ds1, .tup ds2, hd, he, rx, ry, _, _, _ => by
    obtain ⟨a1, xs1, ex1, hs1, _⟩ := hd
    subst ex1
    cases (show u = Value.ref a1 from rx)
    obtain ⟨its1, _, p1, _⟩ := I.list hs1
    have o1 := p1.isList
    obtain ⟨a2, xs2, ex2, hs2, _⟩ := he
    subst ex2
    cases (show v = Value.ref a2 from ry)
    obtain ⟨its2, _, o2, _⟩ := I.tuple hs2
    exact fun E Q q => RcAt.list_tuple o1 o2 hu X.prog X.w E Q q
  | .lst ds1, .dic ks2 ds2, hd, he, rx, ry, _, _, _ => by
    obtain ⟨a1, xs1, ex1, hs1, _⟩ := hd
    subst ex1
    cases (show u = Value.ref a1 from rx)
    obtain ⟨its1, _, p1, _⟩ := I.list hs1
    have o1 := p1.isList
    obtain ⟨a2, xs2, ex2, hs2, _⟩ := he
    subst ex2
    cases (show v = Value.ref a2 from ry)
    obtain ⟨_, _, va2, _, o2⟩ := (show ObjOk X.prog X.w H s.heap a2 (.dK xs2) from I.hok a2 _ hs2)
    exact fun E Q q => rc_eq_decline_or (k := false) (ti_list o1) o2.typeIs (by decide) F.sub_dict_list F.slot_list_eq F.slot_dict_eq_refl
      (fun Q' q' => callFin F.slot_list_eq (ti_list o1) F.entry_list_eq (F.args_list_eq_2 _ _) (fun _ _ _ z => (isList_obj o1).elim fun _ y => y.elim fun _ y => y.elim fun _ ho => list_declinesI ho (notInst_ty o2.typeIs F.sub_dict_list) z) Q' q')
      (fun Q' q' => callFin F.slot_dict_eq_refl o2.typeIs F.entry_dict_eq (F.args_dict_eq_2 _ _) (fun _ _ _ z => dict_declines o2.typeIs (notInst_ty (ti_list o1) F.sub_list_dict) z) Q' q')
      (fun _ q' => isSame_lst_dic o1 o2 q') (.inr hu) q
  | .tup ds1, .non, hd, he, rx, ry, _, _, _ => by
    obtain ⟨a1, xs1, ex1, hs1, _⟩ := hd
    subst ex1
    cases (show u = Value.ref a1 from rx)
    obtain ⟨its1, _, o1, _⟩ := I.tuple hs1
    cases (show y = V.non from he)
    cases (show v = Value.none from ry)
    exact fun E Q q => RcAt.tuple_none o1 hu X.prog X.w E Q q
  | .tup ds1, .bl b2, hd, he, rx, ry, _, _, _ => by
    obtain ⟨a1, xs1, ex1, hs1, _⟩ := hd
    subst ex1
    cases (show u = Value.ref a1 from rx)
    obtain ⟨its1, _, o1, _⟩ := I.tuple hs1
    cases (show y = V.bl b2 from he)
    cases (show v = Value.bool b2 from ry)
    exact fun E Q q => RcAt.tuple_bool b2 o1 hu X.prog X.w E Q q
  | .tup ds1, .int i2, hd, he, rx, ry, _, _, _ => by
    obtain ⟨a1, xs1, ex1, hs1, _⟩ := hd
    subst ex1
    cases (show u = Value.ref a1 from rx)
    obtain ⟨its1, _, o1, _⟩ := I.tuple hs1
    cases (show y = V.int i2 from he)
    obtain ⟨t2, rfl⟩ := (show ∃ t, v = Value.int i2 t from ry)
    exact fun E Q q => RcAt.tuple_int i2 t2 o1 hu X.prog X.w E Q q
  | .tup ds1, .str z2, hd, he, rx, ry, _, _, _ => by
    obtain ⟨a1, xs1, ex1, hs1, _⟩ := hd
    subst ex1
    cases (show u = Value.ref a1 from rx)
    obtain ⟨its1, _, o1, _⟩ := I.tuple hs1
    cases (show y = V.str z2 from he)
    obtain ⟨t2, rfl⟩ := (show ∃ t, v = Value.str z2 t from ry)
    exact fun E Q q => RcAt.tuple_str z2 t2 o1 hu X.prog X.w E Q q
  | .tup ds1, .lst ds2, hd, he, rx, ry, _, _, _ => by
    obtain ⟨a1, xs1, ex1, hs1, _⟩ := hd
    subst ex1
    cases (show u = Value.ref a1 from rx)
    obtain ⟨its1, _, o1, _⟩ := I.tuple hs1
    obtain ⟨a2, xs2, ex2, hs2, _⟩ := he
    subst ex2
    cases (show v = Value.ref a2 from ry)
    obtain ⟨its2, _, p2, _⟩ := I.list hs2
    have o2 := p2.isList
    exact fun E Q q => RcAt.tuple_list o1 o2 hu X.prog X.w E Q q
  | .tup ds1, .tup ds2, _, _, _, _, h, _, _ => absurd rfl h
  | .tup ds1, .dic ks2 ds2, hd, he, rx, ry, _, _, _ => by
    obtain ⟨a1, xs1, ex1, hs1, _⟩ := hd
    subst ex1
    cases (show u = Value.ref a1 from rx)
    obtain ⟨its1, _, o1, _⟩ := I.tuple hs1
    obtain ⟨a2, xs2, ex2, hs2, _⟩ := he
    subst ex2
    cases (show v = Value.ref a2 from ry)
    obtain ⟨_, _, va2, _, o2⟩ := (show ObjOk X.prog X.w H s.heap a2 (.dK xs2) from I.hok a2 _ hs2)
    exact fun E Q q => rc_eq_decline_or (k := false) (ti_tuple o1) o2.typeIs (by decide) F.sub_dict_tuple F.slot_tuple_eq F.slot_dict_eq_refl
      (fun Q' q' => callFin F.slot_tuple_eq (ti_tuple o1) F.entry_tuple_eq (F.args_tuple_eq_2 _ _) (fun _ _ _ z => (isTup_obj o1).elim fun _ y => y.elim fun _ y => y.elim fun _ ho => tuple_declinesI ho (notInst_ty o2.typeIs F.sub_dict_tuple) z) Q' q')
      (fun Q' q' => callFin F.slot_dict_eq_refl o2.typeIs F.entry_dict_eq (F.args_dict_eq_2 _ _) (fun _ _ _ z => dict_declines o2.typeIs (notInst_ty (ti_tuple o1) F.sub_tuple_dict) z) Q' q')
      (fun _ q' => isSame_tup_dic o1 o2 q') (.inr hu) q
  | .dic ks1 ds1, .non, hd, he, rx, ry, _, _, _ => by
    obtain ⟨a1, xs1, ex1, hs1, _⟩ := hd
    subst ex1
    cases (show u = Value.ref a1 from rx)
    obtain ⟨_, _, va1, _, o1⟩ := (show ObjOk X.prog X.w H s.heap a1 (.dK xs1) from I.hok a1 _ hs1)
    cases (show y = V.non from he)
    cases (show v = Value.none from ry)
    exact fun E Q q => rc_eq_decline_or (k := false) o1.typeIs (show s.TypeIs Value.none "NoneType" from rfl) (by decide) F.sub_NoneType_dict F.slot_dict_eq F.slot_NoneType_eq_refl
      (fun Q' q' => callFin F.slot_dict_eq o1.typeIs F.entry_dict_eq (F.args_dict_eq_2 _ _) (fun _ _ _ z => dict_declines o1.typeIs (notInst_ty (show s.TypeIs Value.none "NoneType" from rfl) F.sub_NoneType_dict) z) Q' q')
      (fun Q' q' => call_gives F.slot_NoneType_eq_refl rfl F.entry_NoneType_eq (F.args_NoneType_eq_2 _ _) (NoneType___eq___none_ref_0 a1) q')
      (fun _ q' => wpAny_of_eq (rfl : isSame (Value.ref a1) Value.none = pure false) q') (.inr hu) q
  | .dic ks1 ds1, .bl b2, hd, he, rx, ry, _, _, _ => by
    obtain ⟨a1, xs1, ex1, hs1, _⟩ := hd
    subst ex1
    cases (show u = Value.ref a1 from rx)
    obtain ⟨_, _, va1, _, o1⟩ := (show ObjOk X.prog X.w H s.heap a1 (.dK xs1) from I.hok a1 _ hs1)
    cases (show y = V.bl b2 from he)
    cases (show v = Value.bool b2 from ry)
    exact fun E Q q => rc_eq_decline_or (k := false) o1.typeIs (show s.TypeIs (Value.bool b2) "bool" from rfl) (by decide) F.sub_bool_dict F.slot_dict_eq F.slot_bool_eq_refl
      (fun Q' q' => callFin F.slot_dict_eq o1.typeIs F.entry_dict_eq (F.args_dict_eq_2 _ _) (fun _ _ _ z => dict_declines o1.typeIs (notInst_ty (show s.TypeIs (Value.bool b2) "bool" from rfl) F.sub_bool_dict) z) Q' q')
      (fun Q' q' => callFin F.slot_bool_eq_refl (show s.TypeIs (Value.bool b2) "bool" from rfl) F.entry_int_eq (F.args_int_eq_2 _ _) (fun _ _ _ z => (dict_obj o1).elim fun _ y => y.elim fun _ y => y.elim fun _ ho => bool_declinesD ho.1 ho.2 z) Q' q')
      (fun _ q' => wpAny_of_eq (rfl : isSame (Value.ref a1) (Value.bool b2) = pure false) q') (.inr hu) q
  | .dic ks1 ds1, .int i2, hd, he, rx, ry, _, _, _ => by
    obtain ⟨a1, xs1, ex1, hs1, _⟩ := hd
    subst ex1
    cases (show u = Value.ref a1 from rx)
    obtain ⟨_, _, va1, _, o1⟩ := (show ObjOk X.prog X.w H s.heap a1 (.dK xs1) from I.hok a1 _ hs1)
    cases (show y = V.int i2 from he)
    obtain ⟨t2, rfl⟩ := (show ∃ t, v = Value.int i2 t from ry)
    exact fun E Q q => rc_eq_decline_or (k := false) o1.typeIs (show s.TypeIs (Value.int i2 t2) "int" from rfl) (by decide) F.sub_int_dict F.slot_dict_eq F.slot_int_eq_refl
      (fun Q' q' => callFin F.slot_dict_eq o1.typeIs F.entry_dict_eq (F.args_dict_eq_2 _ _) (fun _ _ _ z => dict_declines o1.typeIs (notInst_ty (show s.TypeIs (Value.int i2 t2) "int" from rfl) F.sub_int_dict) z) Q' q')
      (fun Q' q' => callFin F.slot_int_eq_refl (show s.TypeIs (Value.int i2 t2) "int" from rfl) F.entry_int_eq (F.args_int_eq_2 _ _) (fun _ _ _ z => (dict_obj o1).elim fun _ y => y.elim fun _ y => y.elim fun _ ho => int_declinesD ho.1 ho.2 z) Q' q')
      (fun _ q' => wpAny_of_eq (rfl : isSame (Value.ref a1) (Value.int i2 t2) = pure false) q') (.inr hu) q
  | .dic ks1 ds1, .str z2, hd, he, rx, ry, _, _, _ => by
    obtain ⟨a1, xs1, ex1, hs1, _⟩ := hd
    subst ex1
    cases (show u = Value.ref a1 from rx)
    obtain ⟨_, _, va1, _, o1⟩ := (show ObjOk X.prog X.w H s.heap a1 (.dK xs1) from I.hok a1 _ hs1)
    cases (show y = V.str z2 from he)
    obtain ⟨t2, rfl⟩ := (show ∃ t, v = Value.str z2 t from ry)
    exact fun E Q q => rc_eq_decline_or (k := false) o1.typeIs (show s.TypeIs (Value.str z2 t2) "str" from rfl) (by decide) F.sub_str_dict F.slot_dict_eq F.slot_str_eq_refl
      (fun Q' q' => callFin F.slot_dict_eq o1.typeIs F.entry_dict_eq (F.args_dict_eq_2 _ _) (fun _ _ _ z => dict_declines o1.typeIs (notInst_ty (show s.TypeIs (Value.str z2 t2) "str" from rfl) F.sub_str_dict) z) Q' q')
      (fun Q' q' => callFin F.slot_str_eq_refl (show s.TypeIs (Value.str z2 t2) "str" from rfl) F.entry_str_eq (F.args_str_eq_2 _ _) (fun _ _ _ z => (dict_obj o1).elim fun _ y => y.elim fun _ y => y.elim fun _ ho => str_declinesD ho.1 ho.2 z) Q' q')
      (fun _ q' => wpAny_of_eq (rfl : isSame (Value.ref a1) (Value.str z2 t2) = pure false) q') (.inr hu) q
  | .dic ks1 ds1, .lst ds2, hd, he, rx, ry, _, _, _ => by
    obtain ⟨a1, xs1, ex1, hs1, _⟩ := hd
    subst ex1
    cases (show u = Value.ref a1 from rx)
    obtain ⟨_, _, va1, _, o1⟩ := (show ObjOk X.prog X.w H s.heap a1 (.dK xs1) from I.hok a1 _ hs1)
    obtain ⟨a2, xs2, ex2, hs2, _⟩ := he
    subst ex2
    cases (show v = Value.ref a2 from ry)
    obtain ⟨its2, _, p2, _⟩ := I.list hs2
    have o2 := p2.isList
    exact fun E Q q => rc_eq_decline_or (k := false) o1.typeIs (ti_list o2) (by decide) F.sub_list_dict F.slot_dict_eq F.slot_list_eq_refl
      (fun Q' q' => callFin F.slot_dict_eq o1.typeIs F.entry_dict_eq (F.args_dict_eq_2 _ _) (fun _ _ _ z => dict_declines o1.typeIs (notInst_ty (ti_list o2) F.sub_list_dict) z) Q' q')
      (fun Q' q' => callFin F.slot_list_eq_refl (ti_list o2) F.entry_list_eq (F.args_list_eq_2 _ _) (fun _ _ _ z => (isList_obj o2).elim fun _ y => y.elim fun _ y => y.elim fun _ ho => list_declinesI ho (notInst_ty o1.typeIs F.sub_dict_list) z) Q' q')
      (fun _ q' => isSame_dic_lst o1 o2 q') (.inr hu) q
  | .dic ks1 ds1, .tup ds2, hd, he, rx, ry, _, _, _ => by
    obtain ⟨a1, xs1, ex1, hs1, _⟩ := hd
    subst ex1
    cases (show u = Value.ref a1 from rx)
    obtain ⟨_, _, va1, _, o1⟩ := (show ObjOk X.prog X.w H s.heap a1 (.dK xs1) from I.hok a1 _ hs1)
    obtain ⟨a2, xs2, ex2, hs2, _⟩ := he
    subst ex2
    cases (show v = Value.ref a2 from ry)
    obtain ⟨its2, _, o2, _⟩ := I.tuple hs2
    exact fun E Q q => rc_eq_decline_or (k := false) o1.typeIs (ti_tuple o2) (by decide) F.sub_tuple_dict F.slot_dict_eq F.slot_tuple_eq_refl
      (fun Q' q' => callFin F.slot_dict_eq o1.typeIs F.entry_dict_eq (F.args_dict_eq_2 _ _) (fun _ _ _ z => dict_declines o1.typeIs (notInst_ty (ti_tuple o2) F.sub_tuple_dict) z) Q' q')
      (fun Q' q' => callFin F.slot_tuple_eq_refl (ti_tuple o2) F.entry_tuple_eq (F.args_tuple_eq_2 _ _) (fun _ _ _ z => (isTup_obj o2).elim fun _ y => y.elim fun _ y => y.elim fun _ ho => tuple_declinesI ho (notInst_ty o1.typeIs F.sub_dict_tuple) z) Q' q')
      (fun _ q' => isSame_dic_tup o1 o2 q') (.inr hu) q
  | .dic ks1 ds1, .dic ks2 ds2, _, _, _, _, h, _, _ => absurd rfl h
  | .ins _ _ _, _, _, _, _, _, _, h, _ => absurd rfl h
  | _, .ins _ _ _, _, _, _, _, _, _, h => absurd rfl h
end LxE


namespace LxE
open PySem PySem.SeqAt L2
theorem dep_lst {ds : List Dt} {i : Nat} {d : Dt} {n : Nat} (h : depL ds + 1 ≤ n + 1) (e : ds[i]? = some d) : dep d ≤ n := by
  have := depL_get e
  omega
theorem eAt_some {ds es : List Dt} {i : Nat} {d e : Dt} (h1 : ds[i]? = some d) (h2 : es[i]? = some e) : eAt ds es i = deq d e := by
  unfold eAt
  rw [h1, h2]
theorem deqL_true : ∀ {ds es : List Dt}, ds.length = es.length → (∀ (i : Nat) (d e : Dt), ds[i]? = some d → es[i]? = some e → deq d e = true) → deqL ds es = true
  | [], [], _, _ => rfl
  | [], _ :: _, h, _ => by simp at h
  | _ :: _, [], h, _ => by simp at h
  | a :: as, b :: bs, h, k => by
    show (deq a b && deqL as bs) = true
    rw [k 0 a b rfl rfl, deqL_true (by simpa using h) fun i d e h1 h2 => k (i + 1) d e h1 h2] <;> rfl
theorem look_cons {l : Key} {ls : List Key} {e : Dt} {es : List Dt} {k : Key} : look (l :: ls) (e :: es) k = if l = k then some e else look ls es k := by
  unfold look
  rw [List.zip_cons_cons, List.find?_cons]
  by_cases h : l = k
  · simp [h]
  · simp [h]
theorem look_val {K : PySem.W.Frag} {H : Hp} : ∀ {kvs : List (Key × V)} {es : List Dt} {k : Key}, IsL K H es (kvs.map (·.2)) →
    (∀ v, valV kvs k = some v → ∃ e, look (kvs.map (·.1)) es k = some e ∧ Is K H e v) ∧ (valV kvs k = none → look (kvs.map (·.1)) es k = none)
  | [], es, k, h => by
    constructor
    · intro v hv
      exact absurd hv (by unfold valV; simp)
    · intro _
      unfold look
      rw [List.map_nil, List.zip_nil_left] <;> rfl
  | p :: kvs, [], k, h => by
    have h' : List.map (·.2) (p :: kvs) = [] := h
    simp at h'
  | p :: kvs, e :: es, k, h => by
    obtain ⟨v, r, h1, h2, h3⟩ := h
    rw [List.map_cons] at h1
    injection h1 with a1 a2
    subst a1 a2
    have ih := look_val (k := k) h3
    have lc : look (List.map (·.1) (p :: kvs)) (e :: es) k = if p.1 = k then some e else look (kvs.map (·.1)) es k := look_cons
    have vc : valV (p :: kvs) k = if p.1 = k then some p.2 else valV kvs k := by
      unfold valV
      rw [List.find?_cons]
      by_cases hk : p.1 = k
      · simp [hk]
      · simp [hk]
    rw [lc, vc]
    by_cases hk : p.1 = k
    · rw [if_pos hk, if_pos hk]
      exact ⟨fun w hw => ⟨e, rfl, by cases hw; exact h2⟩, fun z => by cases z⟩
    · rw [if_neg hk, if_neg hk]
      exact ih
theorem valV_nodup : ∀ {kvs : List (Key × V)} {i : Nat} {p : Key × V}, (kvs.map (·.1)).Nodup → kvs[i]? = some p → valV kvs p.1 = some p.2
  | [], _, _, _, h => by simp at h
  | q :: kvs, 0, p, _, h => by
    cases h
    unfold valV
    rw [List.find?_cons]
    simp
  | q :: kvs, i + 1, p, hn, h => by
    rw [List.map_cons, List.nodup_cons] at hn
    have h' : kvs[i]? = some p := h
    have hm : p.1 ∈ kvs.map (·.1) := List.mem_map.mpr ⟨p, List.mem_of_getElem? h', rfl⟩
    have hne : q.1 ≠ p.1 := fun z => hn.1 (z ▸ hm)
    have ih := valV_nodup hn.2 h'
    unfold valV at ih ⊢
    rw [List.find?_cons]
    simp only [hne, decide_false]
    exact ih
theorem deqD_true {ls : List Key} {es : List Dt} : ∀ {ks : List Key} {ds : List Dt}, (∀ (i : Nat) (k : Key) (d : Dt), ks[i]? = some k → ds[i]? = some d → ∃ e, look ls es k = some e ∧ deq d e = true) → deqD ks ds ls es = true
  | [], _, _ => by cases ‹List Dt› <;> rfl
  | _ :: _, [], _ => rfl
  | k :: ks, d :: ds, h => by
    obtain ⟨e, h1, h2⟩ := h 0 k d rfl rfl
    show ((match look ls es k with | some e => deq d e | none => false) && deqD ks ds ls es) = true
    rw [h1, deqD_true fun i k d a b => h (i + 1) k d a b]
    show (deq d e && true) = true
    rw [h2] <;> rfl
section
variable {X : Cx} {pins : List (Addr × Obj)} {σ : L2.St} {H : Hp} {s : Shared}
theorem deqL_same (I : Inv X pins σ H s) {n : Nat} (ih : ∀ (d e : Dt) (x : V), dep d ≤ n → Is X.K H d x → Is X.K H e x → deq d e = true) {ds es : List Dt} {xs : List V} (hn : depL ds ≤ n) (h1 : IsL X.K H ds xs) (h2 : IsL X.K H es xs) : deqL ds es = true :=
  deqL_true (h1.length.trans h2.length.symm) fun i d e e1 e2 => by
    obtain ⟨v, hv, a⟩ := h1.get' e1
    obtain ⟨v', hv', b⟩ := h2.get' e2
    rw [hv] at hv'
    cases hv'
    exact ih d e v (Nat.le_trans (depL_get e1) hn) a b
theorem is_same (I : Inv X pins σ H s) : ∀ (n : Nat) (d e : Dt) (x : V), dep d ≤ n → Is X.K H d x → Is X.K H e x → deq d e = true := by
  intro n
  induction n with
  | zero =>
    intro d e x hn hd he
    cases d <;> first
      | (exfalso; simp [dep] at hn; done)
      | skip
    all_goals (cases e <;> first
      | (cases (show x = _ from hd); cases (show _ = _ from he); simp [deq]; done)
      | (cases (show x = _ from hd); exact absurd (show _ = _ from he) (by simp))
      | (cases (show x = _ from hd); obtain ⟨_, _, _, z, _⟩ := he; cases z; done)
      | (cases (show x = _ from hd); obtain ⟨_, _, z, _⟩ := he; cases z; done))
  | succ n ih =>
    intro d e x hn hd he
    by_cases h0 : dep d ≤ n
    · exact ih d e x h0 hd he
    cases d with
    | non => exact absurd (Nat.zero_le _) h0
    | bl b => exact absurd (Nat.zero_le _) h0
    | int b => exact absurd (Nat.zero_le _) h0
    | str b => exact absurd (Nat.zero_le _) h0
    | lst ds =>
      obtain ⟨a, xs, rfl, hs, hl⟩ := hd
      cases e with
      | lst es =>
        obtain ⟨a', ys, ea, hs', hl'⟩ := he
        cases ea
        cases I.list_inj hs hs'
        exact deqL_same I ih (Nat.le_of_succ_le_succ hn) hl hl'
      | tup es =>
        obtain ⟨a', ys, ea, hs', hl'⟩ := he
        cases ea
        obtain ⟨_, _, p1, _⟩ := I.list hs
        obtain ⟨_, _, p2, _⟩ := I.tuple hs'
        exact absurd rfl (ne_of_list_tuple p1.isList p2)
      | dic ks es =>
        obtain ⟨a', ys, ea, hs', hl'⟩ := he
        cases ea
        obtain ⟨_, _, p1, _⟩ := I.list hs
        obtain ⟨_, _, va, _, o⟩ := (show ObjOk X.prog X.w H s.heap a (.dK ys) from I.hok a _ hs')
        obtain ⟨_, _, _, ho⟩ := isList_obj p1.isList
        obtain ⟨_, _, _, ho2, hd2⟩ := dict_obj o
        exact absurd rfl (ne_data ho ho2 (by rw [hd2]; exact fun z => nomatch z))
      | ins C fs es =>
        obtain ⟨a', dx, ys, ea, hs', hl'⟩ := he
        cases ea
        obtain ⟨_, _, p1, _⟩ := I.list hs
        obtain ⟨_, _, _, ho⟩ := isList_obj p1.isList
        obtain ⟨_, J, _⟩ := ins_get I.hok hs'
        exact absurd rfl (ne_data ho J.obj (fun z => nomatch z))
      | non => exact absurd (show V.ref a = V.non from he) (by simp)
      | bl b => exact absurd (show V.ref a = V.bl b from he) (by simp)
      | int b => exact absurd (show V.ref a = V.int b from he) (by simp)
      | str b => exact absurd (show V.ref a = V.str b from he) (by simp)
    | tup ds =>
      obtain ⟨a, xs, rfl, hs, hl⟩ := hd
      cases e with
      | tup es =>
        obtain ⟨a', ys, ea, hs', hl'⟩ := he
        cases ea
        cases I.tuple_inj hs hs'
        exact deqL_same I ih (Nat.le_of_succ_le_succ hn) hl hl'
      | lst es =>
        obtain ⟨a', ys, ea, hs', hl'⟩ := he
        cases ea
        obtain ⟨_, _, p1, _⟩ := I.list hs'
        obtain ⟨_, _, p2, _⟩ := I.tuple hs
        exact absurd rfl (ne_of_list_tuple p1.isList p2)
      | dic ks es =>
        obtain ⟨a', ys, ea, hs', hl'⟩ := he
        cases ea
        obtain ⟨_, _, p1, _⟩ := I.tuple hs
        obtain ⟨_, _, va, _, o⟩ := (show ObjOk X.prog X.w H s.heap a (.dK ys) from I.hok a _ hs')
        obtain ⟨_, _, _, ho⟩ := isTup_obj p1
        obtain ⟨_, _, _, ho2, hd2⟩ := dict_obj o
        exact absurd rfl (ne_data ho ho2 (by rw [hd2]; exact fun z => nomatch z))
      | ins C fs es =>
        obtain ⟨a', dx, ys, ea, hs', hl'⟩ := he
        cases ea
        obtain ⟨_, _, p1, _⟩ := I.tuple hs
        obtain ⟨_, _, _, ho⟩ := isTup_obj p1
        obtain ⟨_, J, _⟩ := ins_get I.hok hs'
        exact absurd rfl (ne_data ho J.obj (fun z => nomatch z))
      | non => exact absurd (show V.ref a = V.non from he) (by simp)
      | bl b => exact absurd (show V.ref a = V.bl b from he) (by simp)
      | int b => exact absurd (show V.ref a = V.int b from he) (by simp)
      | str b => exact absurd (show V.ref a = V.str b from he) (by simp)
    | dic ks ds =>
      obtain ⟨a, kvs, rfl, hs, ek, hl⟩ := hd
      obtain ⟨_, _, va, rk, o⟩ := (show ObjOk X.prog X.w H s.heap a (.dK kvs) from I.hok a _ hs)
      cases e with
      | dic ls es =>
        obtain ⟨a', lvs, ea, hs', ek', hl'⟩ := he
        cases ea
        rw [hs] at hs'
        cases hs'
        subst ek ek'
        have hnd : (kvs.map (·.1)).Nodup := by
          obtain ⟨_, _, _, _, _, _, _, _, nd⟩ := o
          rw [KV.keys rk]
          exact nd
        show ((kvs.map (·.1)).length == (kvs.map (·.1)).length && deqD (kvs.map (·.1)) ds (kvs.map (·.1)) es) = true
        rw [beq_self_eq_true, Bool.true_and]
        refine deqD_true fun i k d e1 e2 => ?_
        obtain ⟨p, hp, rfl⟩ : ∃ p, kvs[i]? = some p ∧ p.1 = k := by
          rw [List.getElem?_map] at e1
          cases hq : kvs[i]? with
          | none => rw [hq] at e1; cases e1
          | some p => rw [hq] at e1; exact ⟨p, rfl, Option.some.inj e1⟩
        obtain ⟨v, hv, hiv⟩ := hl.get' e2
        rw [List.getElem?_map, hp] at hv
        cases hv
        obtain ⟨e, he1, he2⟩ := (look_val (k := p.1) hl').1 p.2 (valV_nodup hnd hp)
        exact ⟨e, he1, ih d e p.2 (dep_lst hn e2) hiv he2⟩
      | lst es =>
        obtain ⟨a', ys, ea, hs', hl'⟩ := he
        cases ea
        obtain ⟨_, _, p1, _⟩ := I.list hs'
        obtain ⟨_, _, _, ho⟩ := isList_obj p1.isList
        obtain ⟨_, _, _, ho2, hd2⟩ := dict_obj o
        exact absurd rfl (ne_data ho ho2 (by rw [hd2]; exact fun z => nomatch z))
      | tup es =>
        obtain ⟨a', ys, ea, hs', hl'⟩ := he
        cases ea
        obtain ⟨_, _, p1, _⟩ := I.tuple hs'
        obtain ⟨_, _, _, ho⟩ := isTup_obj p1
        obtain ⟨_, _, _, ho2, hd2⟩ := dict_obj o
        exact absurd rfl (ne_data ho ho2 (by rw [hd2]; exact fun z => nomatch z))
      | ins C fs es =>
        obtain ⟨a', dx, ys, ea, hs', hl'⟩ := he
        cases ea
        rw [hs] at hs'
        cases hs'
      | non => exact absurd (show V.ref a = V.non from he) (by simp)
      | bl b => exact absurd (show V.ref a = V.bl b from he) (by simp)
      | int b => exact absurd (show V.ref a = V.int b from he) (by simp)
      | str b => exact absurd (show V.ref a = V.str b from he) (by simp)
    | ins C fs ds =>
      obtain ⟨a, dx, kvs, rfl, hs, ek, hl⟩ := hd
      obtain ⟨_, J, _⟩ := ins_get I.hok hs
      cases e with
      | ins C' fs' es =>
        obtain ⟨a', dx', lvs, ea, hs', ek', hl'⟩ := he
        cases ea
        rw [hs] at hs'
        cases hs'
        show (C == C && deqL ds es) = true
        rw [beq_self_eq_true, deqL_same I ih (Nat.le_of_succ_le_succ hn) hl hl'] <;> rfl
      | lst es =>
        obtain ⟨a', ys, ea, hs', hl'⟩ := he
        cases ea
        obtain ⟨_, _, p1, _⟩ := I.list hs'
        obtain ⟨_, _, _, ho⟩ := isList_obj p1.isList
        exact absurd rfl (ne_data ho J.obj (fun z => nomatch z))
      | tup es =>
        obtain ⟨a', ys, ea, hs', hl'⟩ := he
        cases ea
        obtain ⟨_, _, p1, _⟩ := I.tuple hs'
        obtain ⟨_, _, _, ho⟩ := isTup_obj p1
        exact absurd rfl (ne_data ho J.obj (fun z => nomatch z))
      | dic ls es =>
        obtain ⟨a', ys, ea, hs', hl'⟩ := he
        cases ea
        rw [hs] at hs'
        cases hs'
      | non => exact absurd (show V.ref a = V.non from he) (by simp)
      | bl b => exact absurd (show V.ref a = V.bl b from he) (by simp)
      | int b => exact absurd (show V.ref a = V.int b from he) (by simp)
      | str b => exact absurd (show V.ref a = V.str b from he) (by simp)
end
end LxE

namespace LxE
open PySem PySem.SeqAt L2
/-- x is a reference -/
def IsRef (x : V) : Prop := ∃ a, x = .ref a
theorem shape_of {K : PySem.W.Frag} {H : Hp} {d : Dt} {x : V} (h : Is K H d x) : (kd d ≤ 2 ∧ flatV x = true) ∨ (2 < kd d ∧ ∃ a, x = V.ref a) := by
  cases d with
  | non => rw [show x = _ from h]; exact .inl ⟨by decide, rfl⟩
  | bl b => rw [show x = _ from h]; exact .inl ⟨by show 1 ≤ 2; decide, rfl⟩
  | int b => rw [show x = _ from h]; exact .inl ⟨by show 1 ≤ 2; decide, rfl⟩
  | str b => rw [show x = _ from h]; exact .inl ⟨by show 2 ≤ 2; decide, rfl⟩
  | lst ds => obtain ⟨a, _, e, _⟩ := h; exact .inr ⟨by show 2 < 3; decide, a, e⟩
  | tup ds => obtain ⟨a, _, e, _⟩ := h; exact .inr ⟨by show 2 < 4; decide, a, e⟩
  | dic ks ds => obtain ⟨a, _, e, _⟩ := h; exact .inr ⟨by show 2 < 5; decide, a, e⟩
  | ins C fs ds => obtain ⟨a, _, _, e, _⟩ := h; exact .inr ⟨by show 2 < 6; decide, a, e⟩
theorem deq_kd : ∀ {d e : Dt}, kd d ≠ kd e → deq d e = false := by
  intro d e h
  cases d <;> cases e <;> first | rfl | exact absurd rfl h
theorem eqV_flat {K : PySem.W.Frag} {H : Hp} {d e : Dt} {x y : V} (hd : Is K H d x) (he : Is K H e y) (h1 : kd d ≤ 2) (h2 : kd e ≤ 2) : eqV x y = deq d e := by
  cases d <;> first
    | (exfalso; simp [kd] at h1; done)
    | skip
  all_goals (cases e <;> first
    | (exfalso; simp [kd] at h2; done)
    | skip)
  all_goals (cases (show x = _ from hd); cases (show y = _ from he); first | rfl | simp [eqV, deq])
section
variable {X : Cx} {pins : List (Addr × Obj)} {σ : L2.St} {H : Hp} {s : Shared}
theorem rc_flat {A : Around} {d e : Dt} {x y : V} {u v : Value} (hd : Is X.K H d x) (he : Is X.K H e y) (rx : RelV x u) (ry : RelV y v) (h1 : kd d ≤ 2) (h2 : kd d = kd e) : RcP X.prog X.w A s u v (deq d e) := by
  have h3 : kd e ≤ 2 := h2 ▸ h1
  cases d <;> first
    | (exfalso; simp [kd] at h1; done)
    | skip
  all_goals (cases e <;> first
    | (exfalso; simp [kd] at h2; done)
    | skip)
  · cases (show x = _ from hd); cases (show y = _ from he); cases (show u = _ from rx); cases (show v = _ from ry)
    exact fun E Q q => RcAt.none_none X.prog X.w E Q q
  · cases (show x = _ from hd); cases (show y = _ from he); cases (show u = _ from rx); cases (show v = _ from ry)
    exact fun E Q q => RcAt.bool_bool _ _ X.prog X.w E Q q
  · cases (show x = _ from hd); cases (show y = _ from he); cases (show u = _ from rx); obtain ⟨t, rfl⟩ := (show ∃ t, v = Value.int _ t from ry)
    exact fun E Q q => RcAt.bool_int _ _ _ X.prog X.w E Q q
  · cases (show x = _ from hd); cases (show y = _ from he); obtain ⟨t, rfl⟩ := (show ∃ t, u = Value.int _ t from rx); cases (show v = _ from ry)
    exact fun E Q q => RcAt.int_bool _ _ _ X.prog X.w E Q q
  · cases (show x = _ from hd); cases (show y = _ from he); obtain ⟨t, rfl⟩ := (show ∃ t, u = Value.int _ t from rx); obtain ⟨t', rfl⟩ := (show ∃ t, v = Value.int _ t from ry)
    exact fun E Q q => RcAt.int_int _ _ _ _ X.prog X.w E Q q
  · cases (show x = _ from hd); cases (show y = _ from he); obtain ⟨t, rfl⟩ := (show ∃ t, u = Value.str _ t from rx); obtain ⟨t', rfl⟩ := (show ∃ t, v = Value.str _ t from ry)
    exact fun E Q q => RcAt.str_str _ _ _ _ X.prog X.w E Q q
theorem ref_beq {a b : Addr} (h : a ≠ b) : (Value.ref a == Value.ref b) = false := beq_eq_false_iff_ne.mpr (fun e => h (Value.ref.inj e))
theorem flat_ref {x : V} {u : Value} {a : Addr} (f : flatV x = true) (r : RelV x u) : (u == Value.ref a) = false ∧ (Value.ref a == u) = false := by
  cases x <;> first | (exact absurd f Bool.false_ne_true) | skip
  · cases (show u = _ from r); exact ⟨rfl, rfl⟩
  · cases (show u = _ from r); exact ⟨rfl, rfl⟩
  · obtain ⟨t, rfl⟩ := (show ∃ t, u = Value.int _ t from r); exact ⟨rfl, rfl⟩
  · obtain ⟨t, rfl⟩ := (show ∃ t, u = Value.str _ t from r); exact ⟨rfl, rfl⟩
theorem flat_nofl {x : V} {u : Value} (f : flatV x = true) (r : RelV x u) : ∀ a t, u ≠ .float a t := by
  cases x <;> first | (exact absurd f Bool.false_ne_true) | skip
  · cases (show u = _ from r); exact fun _ _ z => nomatch z
  · cases (show u = _ from r); exact fun _ _ z => nomatch z
  · obtain ⟨t, rfl⟩ := (show ∃ t, u = Value.int _ t from r); exact fun _ _ z => nomatch z
  · obtain ⟨t, rfl⟩ := (show ∃ t, u = Value.str _ t from r); exact fun _ _ z => nomatch z
/-- from a rich comparison to == inside a builtin, with a state -/
theorem eq_get {A : Around} {E : Value → Shared → Prop} (I : Inv X pins σ H s) {d e : Dt} {x y : V} {u v : Value} {Q : Bool → Shared → Prop} (hd : Is X.K H d x) (he : Is X.K H e y) (rx : RelV x u) (ry : RelV y v) (q : Q (deq d e) s)
    (h : wpAny (model X.prog X.w) A (richCompare .Eq u v) (fun r s' => ∃ b, r = .bool b ∧ Q b s') E s) : wpAny (model X.prog X.w) A (eqBool u v) Q E s := by
  rcases shape_of hd with ⟨k1, f1⟩ | ⟨k1, a, rfl⟩
  · rcases shape_of he with ⟨k2, f2⟩ | ⟨k2, b, rfl⟩
    · have z := eqAt_V (A := A) (s := s) rx ry f1 f2
      rw [eqV_flat hd he k1 k2] at z
      exact z X.prog X.w E Q q
    · cases (show v = _ from ry)
      exact eqBool_B (flat_ref f1 rx).1 (fun a t b t' e1 _ => flat_nofl f1 rx a t e1) h
  · cases (show u = _ from rx)
    rcases shape_of he with ⟨k2, f2⟩ | ⟨k2, b, rfl⟩
    · exact eqBool_B (flat_ref f2 ry).2 (fun a t b t' e1 _ => nomatch e1) h
    · cases (show v = _ from ry)
      by_cases hab : a = b
      · subst hab
        have z := is_same I (dep d) d e (.ref a) (Nat.le_refl _) hd he
        rw [z] at q
        exact SeqAt.EqAt.same (A := A) (s := s) (.ref a) X.prog X.w E Q q
      · exact eqBool_B (ref_beq hab) (fun a t b t' e1 _ => nomatch e1) h
theorem pureL_of {d : Dt} {ds : List Dt} {i : Nat} (h : pureL ds = true) (e : ds[i]? = some d) : pureD d = true := pureL_get h e
theorem hits_of {P : Program} {w : World} {A : Around} {K : PySem.W.Frag} {lvs : List (Key × V)} {es : List Dt} {vb : List (Key × Value)} (rb : KV lvs vb) (hl : IsL K H es (lvs.map (·.2)))
    : ∀ {kvs : List (Key × V)} {ds : List Dt} {va : List (Key × Value)}, IsL K H ds (kvs.map (·.2)) → KV kvs va →
      (∀ (i : Nat) (d e : Dt) (x y : V) (u v : Value), ds[i]? = some d → e ∈ es → Is K H d x → Is K H e y → RelV x u → RelV y v → EqP P w A s u v (deq d e)) →
      PySem.W.KeqHitsP P w A s vb va (deqD (kvs.map (·.1)) ds (lvs.map (·.1)) es)
  | [], ds, va, h, ra, _ => by
    cases ra
    cases ds with
    | nil => exact .nil
    | cons d ds => obtain ⟨v, r, e, _⟩ := h; cases e
  | p :: kvs, [], va, h, ra, _ => by
    have h' : List.map (·.2) (p :: kvs) = [] := h
    simp at h'
  | p :: kvs, d :: ds, va, h, ra, ih => by
    cases ra with
    | @cons _ q _ qs hpq t =>
    obtain ⟨h1, h2⟩ := hpq
    obtain ⟨x, r, e1, e2, e3⟩ := h
    rw [List.map_cons] at e1
    injection e1 with a1 a2
    subst a1 a2
    obtain ⟨key, u⟩ := q
    have h1' : p.1 = key := h1
    have rest := hits_of (A := A) (P := P) (w := w) rb hl e3 t fun i d' e x y u v k1 => ih (i + 1) d' e x y u v k1
    show PySem.W.KeqHitsP P w A s vb ((key, u) :: qs) ((match look (lvs.map (·.1)) es p.1 with | some e => deq d e | none => false) && deqD (kvs.map (·.1)) ds (lvs.map (·.1)) es)
    have rv : RelO (valV lvs p.1) (valueAt vb p.1) := rb.val p.1
    have lk := look_val (k := p.1) hl
    cases hv : valV lvs p.1 with
    | none =>
      rw [hv] at rv
      rw [lk.2 hv]
      refine .miss ?_
      rw [← h1']
      cases hz : valueAt vb p.1 with
      | none => rfl
      | some z => rw [hz] at rv; exact rv.elim
    | some y =>
      rw [hv] at rv
      obtain ⟨z, hz, rz⟩ := rv.some_of
      obtain ⟨e, le, ie⟩ := lk.1 y hv
      rw [le]
      refine .hit (by rw [← h1']; exact hz) (ih 0 d e p.2 y u z rfl ?_ e2 ie h2 rz) rest
      unfold look at le
      cases hf : ((lvs.map (·.1)).zip es).find? fun p' => decide (p'.1 = p.1) with
      | none => rw [hf] at le; cases le
      | some w =>
        rw [hf] at le
        cases le
        exact (List.of_mem_zip (List.mem_of_find?_eq_some hf)).2
theorem mem_get {es : List Dt} {e : Dt} (h : e ∈ es) : ∃ i : Nat, es[i]? = some e := List.mem_iff_getElem?.mp h
theorem rc_pure (I : Inv X pins σ H s) : ∀ (n : Nat) (d e : Dt) (x y : V) (u v : Value) (A : Around), dep d ≤ n → pureD d = true → pureD e = true → Is X.K H d x → Is X.K H e y → RelV x u → RelV y v → A.units + n < cLine → RcP X.prog X.w A s u v (deq d e) := by
  intro n
  induction n with
  | zero =>
    intro d e x y u v A hn pd pe hd he rx ry hu
    by_cases hk : kd d = kd e
    · have h2 : kd d ≤ 2 := by cases d <;> first | (exfalso; simp [dep] at hn; done) | (simp [kd])
      exact rc_flat hd he rx ry h2 hk
    · rw [deq_kd hk]
      exact mis I (by omega) d e hd he rx ry hk (fun z => by cases d <;> first | (simp [kd] at z; done) | (exact absurd pd Bool.false_ne_true)) (fun z => by cases e <;> first | (simp [kd] at z; done) | (exact absurd pe Bool.false_ne_true))
  | succ n ih =>
    intro d e x y u v A hn pd pe hd he rx ry hu
    have ihE : ∀ (d e : Dt) (x y : V) (u v : Value), dep d ≤ n → pureD d = true → pureD e = true → Is X.K H d x → Is X.K H e y → RelV x u → RelV y v → EqP X.prog X.w A.in1 s u v (deq d e) := fun d e x y u v hn pd pe hd he rx ry E Q q =>
      eq_get I hd he rx ry q (ih d e x y u v A.in1 hn pd pe hd he rx ry (by show A.units + 1 + n < cLine; omega) E _ ⟨_, rfl, q⟩)
    by_cases hk : kd d = kd e
    · by_cases h2 : kd d ≤ 2
      · exact rc_flat hd he rx ry h2 hk
      · have items : ∀ {ds es : List Dt} {xs ys : List V} {its its2 : List Value}, depL ds ≤ n → pureL ds = true → pureL es = true → IsL X.K H ds xs → IsL X.K H es ys → Vals xs its → Vals ys its2 →
            ∀ i (h1 : i < its.toArray.size) (h2 : i < its2.toArray.size), EqP X.prog X.w A.in1 s its.toArray[i] its2.toArray[i] (eAt ds es i) := by
          intro ds es xs ys its its2 hdn p1 p2 l1 l2 r1 r2 i h1 h2
          have g1 : its[i]? = some its.toArray[i] := by
            have h1' : i < its.length := by simpa using h1
            rw [List.getElem?_eq_getElem h1'] <;> simp
          have g2 : its2[i]? = some its2.toArray[i] := by
            have h2' : i < its2.length := by simpa using h2
            rw [List.getElem?_eq_getElem h2'] <;> simp
          have k1 : i < xs.length := by rw [r1.length]; simpa using h1
          have k2 : i < ys.length := by rw [r2.length]; simpa using h2
          obtain ⟨u', hu', ru⟩ := r1.get (List.getElem?_eq_getElem k1)
          obtain ⟨v', hv', rv⟩ := r2.get (List.getElem?_eq_getElem k2)
          rw [g1] at hu'
          rw [g2] at hv'
          rw [Option.some.inj hu', Option.some.inj hv']
          obtain ⟨d', e1, i1⟩ := l1.get (List.getElem?_eq_getElem k1)
          obtain ⟨e', e2, i2⟩ := l2.get (List.getElem?_eq_getElem k2)
          rw [eAt_some e1 e2]
          exact ihE d' e' _ _ u' v' (Nat.le_trans (depL_get e1) hdn) (pureL_get p1 e1) (pureL_get p2 e2) i1 i2 ru rv
        cases d with
        | non => exact absurd (by decide) h2
        | bl b => exact absurd (by show 1 ≤ 2; decide) h2
        | int b => exact absurd (by show 1 ≤ 2; decide) h2
        | str b => exact absurd (by show 2 ≤ 2; decide) h2
        | ins C fs ds => exact absurd pd Bool.false_ne_true
        | lst ds =>
          cases e <;> first | (exfalso; simp [kd] at hk; done) | skip
          rename_i es
          obtain ⟨a, xs, rfl, hs, l1⟩ := hd
          obtain ⟨b, ys, rfl, hs', l2⟩ := he
          cases (show u = _ from rx)
          cases (show v = _ from ry)
          obtain ⟨its, r1, p1, _⟩ := I.list hs
          obtain ⟨its2, r2, p2, _⟩ := I.list hs'
          intro E Q q
          have it := items (Nat.le_of_succ_le_succ hn) pd pe l1 l2 r1 r2
          have e1 : its.toArray.size = ds.length := by rw [List.size_toArray, ← r1.length, ← l1.length]
          have e2 : its2.toArray.size = es.length := by rw [List.size_toArray, ← r2.length, ← l2.length]
          rw [show deq (.lst ds) (.lst es) = deqL ds es from rfl, deqL_eq] at q
          by_cases hsz : ds.length = es.length
          · refine rc_listB (N := ds.length) (e := eAt ds es) (by omega) (fun s' => s' = s) (fun s' z => ?_) (fun s' z => ?_) rfl
            · subst z
              exact ⟨its.toArray, its2.toArray, p1.isList, p2.isList, e1, e2.trans hsz.symm, fun i h1 h2 => it i h1 h2 E _ ⟨rfl, rfl⟩⟩
            · subst z
              rw [hsz, Nat.min_self, beq_self_eq_true, Bool.and_true, ← hsz] at q
              exact q
          · have hb : (ds.length == es.length) = false := beq_eq_false_iff_ne.mpr hsz
            rw [hb, Bool.and_false] at q
            refine RcAt.lists_lengths p1.isList p2.isList ?_ (by omega) X.prog X.w E Q q
            rw [e1, e2]
            simp [hsz]
        | tup ds =>
          cases e <;> first | (exfalso; simp [kd] at hk; done) | skip
          rename_i es
          obtain ⟨a, xs, rfl, hs, l1⟩ := hd
          obtain ⟨b, ys, rfl, hs', l2⟩ := he
          cases (show u = _ from rx)
          cases (show v = _ from ry)
          obtain ⟨its, r1, p1, _⟩ := I.tuple hs
          obtain ⟨its2, r2, p2, _⟩ := I.tuple hs'
          intro E Q q
          have it := items (Nat.le_of_succ_le_succ hn) pd pe l1 l2 r1 r2
          have e1 : its.toArray.size = ds.length := by rw [List.size_toArray, ← r1.length, ← l1.length]
          have e2 : its2.toArray.size = es.length := by rw [List.size_toArray, ← r2.length, ← l2.length]
          rw [show deq (.tup ds) (.tup es) = deqL ds es from rfl, deqL_eq] at q
          refine rc_tupB (e := eAt ds es) (by omega) (fun s' => s' = s) p1 p2 (fun i h1 h2 s' z => ?_) (fun s' z => ?_) rfl
          · subst z
            exact it i h1 h2 E _ ⟨rfl, rfl⟩
          · subst z
            rw [e1, e2]
            exact q
        | dic ks ds =>
          cases e <;> first | (exfalso; simp [kd] at hk; done) | skip
          rename_i ls es
          obtain ⟨a, kvs, rfl, hs, ek, l1⟩ := hd
          obtain ⟨b, lvs, rfl, hs', el, l2⟩ := he
          subst ek el
          cases (show u = _ from rx)
          cases (show v = _ from ry)
          obtain ⟨_, ya, va, ra, da⟩ := (show ObjOk X.prog X.w H s.heap a (.dK kvs) from I.hok a _ hs)
          obtain ⟨_, yb, vb, rb, db⟩ := (show ObjOk X.prog X.w H s.heap b (.dK lvs) from I.hok b _ hs')
          intro E Q q
          refine PySem.W.rcP_dicts (knd := mixKind X.prog X.w) (r := deqD (kvs.map (·.1)) ds (lvs.map (·.1)) es) ya yb da db (by omega) (fun _ => hits_of rb l2 l1 ra fun i d e x y u v k1 k2 i1 i2 r1 r2 => ?_) E Q ?_
          · obtain ⟨j, hj⟩ := mem_get k2
            exact ihE d e x y u v (Nat.le_trans (depL_get k1) (Nat.le_of_succ_le_succ hn)) (pureL_get pd k1) (pureL_get pe hj) i1 i2 r1 r2
          · have e1 : va.length = (kvs.map (·.1)).length := by rw [List.length_map, ← KV.length ra]
            have e2 : vb.length = (lvs.map (·.1)).length := by rw [List.length_map, ← KV.length rb]
            rw [e1, e2]
            exact q
    · rw [deq_kd hk]
      exact mis I (by omega) d e hd he rx ry hk (fun z => by cases d <;> first | (simp [kd] at z; done) | (exact absurd pd Bool.false_ne_true)) (fun z => by cases e <;> first | (simp [kd] at z; done) | (exact absurd pe Bool.false_ne_true))
end
end LxE

namespace L2
open PySem PySem.Spec PyProof.Rows
/-! == of data that holds own objects -/
mutual
def okD (shp : Addr → List Str → List Dt → Prop) : Dt → Prop
  | .lst ds => okL shp ds
  | .tup ds => okL shp ds
  | .dic _ ds => pureL ds = true
  | .ins C fs ds => shp C fs ds
  | _ => True
def okL (shp : Addr → List Str → List Dt → Prop) : List Dt → Prop
  | [] => True
  | d :: ds => okD shp d ∧ okL shp ds
end
theorem okL_get {shp : Addr → List Str → List Dt → Prop} : ∀ {ds : List Dt} {i : Nat} {d : Dt}, okL shp ds → ds[i]? = some d → okD shp d
  | [], _, _, _, e => by simp at e
  | a :: ds, 0, d, h, e => by cases e; exact h.1
  | a :: ds, i + 1, d, h, e => okL_get (i := i) h.2 e
mutual
theorem okD_pure {shp : Addr → List Str → List Dt → Prop} : ∀ {d : Dt}, pureD d = true → okD shp d
  | .non, _ => trivial
  | .bl _, _ => trivial
  | .int _, _ => trivial
  | .str _, _ => trivial
  | .lst ds, h => okL_pure (ds := ds) h
  | .tup ds, h => okL_pure (ds := ds) h
  | .dic _ _, h => h
  | .ins _ _ _, h => absurd h Bool.false_ne_true
theorem okL_pure {shp : Addr → List Str → List Dt → Prop} : ∀ {ds : List Dt}, pureL ds = true → okL shp ds
  | [], _ => trivial
  | _ :: ds, h => ⟨okD_pure (Bool.and_eq_true_iff.mp h).1, okL_pure (ds := ds) (Bool.and_eq_true_iff.mp h).2⟩
end
/-- what an own == promises -/
def spEqO (K : PySem.W.Frag) (shp : Addr → List Str → List Dt → Prop) (C : Addr) : Sp := fun vs H Q _ => ∃ (a : Addr) (y : V) (fs : List Str) (ds : List Dt) (e : Dt), vs = [.ref a, y] ∧ Is K H (.ins C fs ds) (.ref a) ∧ Is K H e y ∧ shp C fs ds ∧ okD shp e ∧
  ∀ H', Ext H H' → Q (.bl (deq (.ins C fs ds) e)) H'
def tyNames : List String := ["NoneType", "bool", "int", "str", "list", "tuple", "dict"]
def eqFacts (K : PySem.W.Frag) (C : Addr) : Bool := tyNames.all fun T => PySem.W.notFirst K C (.type T) && PySem.W.subIn K (.ref C) (.type T) == some false
/-- the class at C has an own == -/
structure OwnEq (P : Program) (w : World) (K : PySem.W.Frag) (mg : Str → Option Value) (base : Heap) (k : Nat) (shp : Addr → List Str → List Dt → Prop) (C : Addr) : Prop where
  fn : ∃ (f : Addr) (fd : FuncData), FnOk P w K mg base (fun _ _ _ _ _ _ => False) k f fd ["self", "other"] (spEqO K shp C) ∧ PySem.W.findIn K (.ref C) "__eq__" = some (some (.ref f)) ∧ PySem.W.isFn K (.ref f) = true ∧ Binds K fd ["self", "other"] []
  facts : eqFacts K C = true
structure EqTab (P : Program) (w : World) (K : PySem.W.Frag) (mg : Str → Option Value) (base : Heap) (k : Nat) (shp : Addr → List Str → List Dt → Prop) : Prop where
  own : ∀ C fs ds, shp C fs ds → OwnEq P w K mg base k shp C
  two : ∀ C fs ds C' fs' ds', shp C fs ds → shp C' fs' ds' → PySem.W.notFirst K C (.ref C') = true
end L2
namespace LxE
open PySem PySem.SeqAt L2
theorem facts_of {K : PySem.W.Frag} {C : Addr} {T : String} (h : eqFacts K C = true) (hT : T ∈ tyNames) : PySem.W.notFirst K C (.type T) = true ∧ PySem.W.subIn K (.ref C) (.type T) = some false := by
  have z := Bool.and_eq_true_iff.mp (List.all_eq_true.mp h T hT)
  exact ⟨z.1, beq_iff_eq.mp z.2⟩
section
variable {X : Cx} {pins : List (Addr × Obj)} {σ : L2.St} {H : Hp} {s : Shared}
theorem looks_ty {M : Model} {v : Value} {T : String} (hT : s.TypeIs v T) : PySem.W.Looks M s.heap (typeOf v) (.type T) := by
  cases v with
  | ref a =>
    obtain ⟨o, ho, hc⟩ := hT
    intro A Q E s' k q
    exact wpAny_typeOf_ref (k _ _ ho) (by rw [hc]; exact q)
  | _ =>
    intro A Q E s' k q
    exact wpAny_of_eq hT q
/-- a built-in value's type -/
theorem ty_of (I : Inv X pins σ H s) {d : Dt} {x : V} {u : Value} (hd : Is X.K H d x) (rx : RelV x u) (h6 : kd d ≠ 6) : ∃ T, T ∈ tyNames ∧ s.TypeIs u T := by
  cases d with
  | non => cases (show x = _ from hd); cases (show u = _ from rx); exact ⟨"NoneType", by decide, rfl⟩
  | bl b => cases (show x = _ from hd); cases (show u = _ from rx); exact ⟨"bool", by decide, rfl⟩
  | int i => cases (show x = _ from hd); obtain ⟨t, rfl⟩ := (show ∃ t, u = Value.int _ t from rx); exact ⟨"int", by decide, rfl⟩
  | str i => cases (show x = _ from hd); obtain ⟨t, rfl⟩ := (show ∃ t, u = Value.str _ t from rx); exact ⟨"str", by decide, rfl⟩
  | lst ds =>
    obtain ⟨a, xs, rfl, hs, _⟩ := hd
    cases (show u = _ from rx)
    obtain ⟨_, _, p, _⟩ := I.list hs
    exact ⟨"list", by decide, ti_list p.isList⟩
  | tup ds =>
    obtain ⟨a, xs, rfl, hs, _⟩ := hd
    cases (show u = _ from rx)
    obtain ⟨_, _, p, _⟩ := I.tuple hs
    exact ⟨"tuple", by decide, ti_tuple p⟩
  | dic ks ds =>
    obtain ⟨a, xs, rfl, hs, _⟩ := hd
    cases (show u = _ from rx)
    obtain ⟨_, _, va, _, o⟩ := (show ObjOk X.prog X.w H s.heap a (.dK xs) from I.hok a _ hs)
    exact ⟨"dict", by decide, o.typeIs⟩
  | ins C fs ds => exact absurd rfl h6
/-- how a built-in == declines an own instance -/
theorem back_of (I : Inv X pins σ H s) {A : Around} {d : Dt} {x : V} {u : Value} (hd : Is X.K H d x) (rx : RelV x u) (h6 : kd d ≠ 6) {y C dy : Addr} {od : Option Obj} (J : PySem.W.InstAt s.heap y (PySem.W.instObj C dy) C od) (hf : eqFacts X.K C = true) :
    ∃ T id, T ∈ tyNames ∧ s.TypeIs u T ∧ Slot T "__eq__" id ∧ ∀ (E : Value → Shared → Prop) (Q' : Value → Shared → Prop), Q' .notImplemented s → wpAny (model X.prog X.w) A (call (.builtin id) [u, .ref y]) Q' E s := by
  have NI : ∀ T, T ∈ tyNames → NotInst X.prog X.w s (.ref y) T := fun T hT => notInst_of I.kIn J (facts_of hf hT).2
  cases d with
  | non =>
    cases (show x = _ from hd); cases (show u = _ from rx)
    exact ⟨"NoneType", _, by decide, rfl, F.slot_NoneType_eq, fun E Q' q' => call_gives F.slot_NoneType_eq rfl F.entry_NoneType_eq (F.args_NoneType_eq_2 _ _) (NoneType___eq___none_ref_0 y) q'⟩
  | bl b =>
    cases (show x = _ from hd); cases (show u = _ from rx)
    exact ⟨"bool", _, by decide, rfl, F.slot_bool_eq, fun E Q' q' => callFin F.slot_bool_eq (show s.TypeIs (Value.bool b) "bool" from rfl) F.entry_int_eq (F.args_int_eq_2 _ _) (fun _ _ _ z => bool_declinesI J.at_ z) Q' q'⟩
  | int i =>
    cases (show x = _ from hd); obtain ⟨t, rfl⟩ := (show ∃ t, u = Value.int _ t from rx)
    exact ⟨"int", _, by decide, rfl, F.slot_int_eq, fun E Q' q' => callFin F.slot_int_eq (show s.TypeIs (Value.int i t) "int" from rfl) F.entry_int_eq (F.args_int_eq_2 _ _) (fun _ _ _ z => int_declinesI J.at_ z) Q' q'⟩
  | str i =>
    cases (show x = _ from hd); obtain ⟨t, rfl⟩ := (show ∃ t, u = Value.str _ t from rx)
    exact ⟨"str", _, by decide, rfl, F.slot_str_eq, fun E Q' q' => callFin F.slot_str_eq (show s.TypeIs (Value.str i t) "str" from rfl) F.entry_str_eq (F.args_str_eq_2 _ _) (fun _ _ _ z => str_declinesI J.at_ z) Q' q'⟩
  | lst ds =>
    obtain ⟨a, xs, rfl, hs, _⟩ := hd
    cases (show u = _ from rx)
    obtain ⟨_, _, p, _⟩ := I.list hs
    obtain ⟨n, dd, sl, ho⟩ := isList_obj p.isList
    exact ⟨"list", _, by decide, ti_list p.isList, F.slot_list_eq, fun E Q' q' => callFin F.slot_list_eq (ti_list p.isList) F.entry_list_eq (F.args_list_eq_2 _ _) (fun _ _ _ z => list_declinesI ho (NI "list" (by decide)) z) Q' q'⟩
  | tup ds =>
    obtain ⟨a, xs, rfl, hs, _⟩ := hd
    cases (show u = _ from rx)
    obtain ⟨_, _, p, _⟩ := I.tuple hs
    obtain ⟨n, dd, sl, ho⟩ := isTup_obj p
    exact ⟨"tuple", _, by decide, ti_tuple p, F.slot_tuple_eq, fun E Q' q' => callFin F.slot_tuple_eq (ti_tuple p) F.entry_tuple_eq (F.args_tuple_eq_2 _ _) (fun _ _ _ z => tuple_declinesI ho (NI "tuple" (by decide)) z) Q' q'⟩
  | dic ks ds =>
    obtain ⟨a, xs, rfl, hs, _⟩ := hd
    cases (show u = _ from rx)
    obtain ⟨_, _, va, _, o⟩ := (show ObjOk X.prog X.w H s.heap a (.dK xs) from I.hok a _ hs)
    exact ⟨"dict", _, by decide, o.typeIs, F.slot_dict_eq, fun E Q' q' => callFin F.slot_dict_eq o.typeIs F.entry_dict_eq (F.args_dict_eq_2 _ _) (fun _ _ _ z => dict_declines o.typeIs (NI "dict" (by decide)) z) Q' q'⟩
  | ins C fs ds => exact absurd rfl h6
/-- the own == runs -/
theorem own_run {k : Nat} {f : Addr} {fd : FuncData} {sp : Sp} {A : Around} {a : Addr} {y : V} {v : Value} {Q' : VK} (F1 : FnOk X.prog X.w X.K X.mg X.base (fun _ _ _ _ _ _ => False) k f fd ["self", "other"] sp) (hb : Binds X.K fd ["self", "other"] []) (sb : Sub X k A) (I : Inv X pins σ H s)
    (ry : RelV y v) (hsp : sp [.ref a, y] H Q' (fun _ _ _ => False)) : wpAny (model X.prog X.w) A (call (.ref f) [.ref a, v]) (fun r s' => ∃ z H', Inv X pins σ H' s' ∧ RelV z r ∧ Q' z H') X.xe s := by
  have e0 : Env0 X.prog X.w X.K X.mg X.base A X.stack s H := by
    have e := I.env0
    exact ⟨by rw [sb.fr]; exact e.frames, e.mod, e.bs, e.bsz, e.funs, e.frf, e.hok, e.bare⟩
  have r2 : Vals [V.ref a, y] [Value.ref a, v] := .cons rfl (.cons ry .nil)
  refine wpAny_call (codeAny_mono (F1.run A X.stack s H ⟨[.ref a, v], []⟩ [.ref a, v] [.ref a, y] _ _ sb.room e0 (by
    have := hb s [.ref a, v] I.kIn rfl
    simpa using this) r2 hsp) fun r s' hq => ?_)
  cases r with
  | error e => exact False.elim hq
  | ok fl =>
    cases fl with
    | ret w =>
      obtain ⟨z, H', I', rz, ez⟩ := I.after hq
      exact ⟨z, H', I', rz, ez⟩
    | next => exact False.elim hq
    | brk => exact False.elim hq
    | cont => exact False.elim hq
theorem sub_mono {X : Cx} {n m : Nat} {A : Around} (s : Sub X n A) (h : m ≤ n) : Sub X m A := s.mono h
theorem rc_own {k : Nat} {shp : Addr → List Str → List Dt → Prop} (T : EqTab X.prog X.w X.K X.mg X.base k shp) : ∀ (n : Nat) (d e : Dt) (x y : V) (u v : Value) (A : Around) (pins : List (Addr × Obj)) (s : Shared) (H : Hp), dep d ≤ n → okD shp d → okD shp e → Is X.K H d x → Is X.K H e y → RelV x u → RelV y v → Sub X (k + n) A → Inv X pins σ H s →
    wpAny (model X.prog X.w) A (richCompare .Eq u v) (fun r s' => r = .bool (deq d e) ∧ LoopI X pins σ H s') X.xe s := by
  intro n
  induction n with
  | zero =>
    intro d e x y u v A pins s H hn od oe hd he rx ry sb I
    have h6 : kd d ≠ 6 := fun z => by cases d <;> first | (simp [kd] at z; done) | (simp [dep] at hn; done)
    by_cases h6' : kd e = 6
    · cases e <;> first | (exfalso; simp [kd] at h6'; done) | skip
      rename_i C fs ds
      obtain ⟨⟨f, fd, F1, hfind, hfn, hb⟩, hfc⟩ := T.own C fs ds oe
      have he' := he
      obtain ⟨b, dx, kvs, rfl, hs, ek, hl⟩ := he
      cases (show v = _ from ry)
      obtain ⟨mA, J0, _⟩ := ins_get I.hok hs
      obtain ⟨odj, J, _⟩ := J0.look
      obtain ⟨Tn, id, hT, tT, slot, hc⟩ := back_of (A := A) I hd rx h6 J hfc
      refine cmp_back sb.room.units0 I.kIn J tT (facts_of hfc hT).2 slot (hc _) hfind hfn ?_
      refine wpAny_mono (own_run (Q' := fun z H' => z = .bl (deq (.ins C fs ds) d) ∧ Ext H H') F1 hb (sb.mono (by omega)) I rx ⟨b, x, fs, ds, d, rfl, he', hd, oe, od, fun H' e' => ⟨rfl, e'⟩⟩) (fun r s' hr => ?_) fun _ _ z => z
      obtain ⟨z, H', I', rz, ez, ex⟩ := hr
      subst ez
      cases (show r = _ from rz)
      refine ⟨?_, H', I', ex⟩
      rw [deq_kd (d := d) (e := .ins C fs ds) (fun z => h6 z), deq_kd (d := .ins C fs ds) (e := d) (fun z => h6 z.symm)]
    · by_cases hk : kd d = kd e
      · have h2 : kd d ≤ 2 := by cases d <;> first | (exfalso; simp [dep] at hn; done) | (simp [kd])
        exact rc_flat hd he rx ry h2 hk X.xe _ ⟨rfl, H, I, Ext.rfl'⟩
      · exact mis I sb.room.units0 d e hd he rx ry hk h6 h6' X.xe _ ⟨by rw [deq_kd hk], H, I, Ext.rfl'⟩
  | succ n ih =>
    intro d e x y u v A pins s H hn od oe hd he rx ry sb I
    by_cases h6 : kd d = 6
    · cases d <;> first | (exfalso; simp [kd] at h6; done) | skip
      rename_i C fs ds
      obtain ⟨⟨f, fd, F1, hfind, hfn, hb⟩, hfc⟩ := T.own C fs ds od
      have hd' := hd
      obtain ⟨a, dx, kvs, rfl, hs, ek, hl⟩ := hd
      cases (show u = _ from rx)
      obtain ⟨mA, J0, _⟩ := ins_get I.hok hs
      obtain ⟨odj, J, _⟩ := J0.look
      have tb : ∃ tb, PySem.W.Looks (model X.prog X.w) s.heap (typeOf v) tb ∧ PySem.W.notFirst X.K C tb = true := by
        by_cases h6' : kd e = 6
        · cases e <;> first | (exfalso; simp [kd] at h6'; done) | skip
          rename_i C' fs' es
          have t2 := T.two _ _ _ _ _ _ od oe
          obtain ⟨b, dy, lvs, rfl, hs', _, _⟩ := he
          cases (show v = _ from ry)
          obtain ⟨mB, J0', _⟩ := ins_get I.hok hs'
          obtain ⟨odj', J', _⟩ := J0'.look
          exact ⟨_, J'.type, t2⟩
        · obtain ⟨Tn, hT, tT⟩ := ty_of I he ry h6'
          exact ⟨_, looks_ty tT, (facts_of hfc hT).1⟩
      obtain ⟨tb, Lt, hnf⟩ := tb
      obtain ⟨m, hF⟩ := I.fr
      refine PySem.W.cmp_K (op := .Eq) (tb := tb) sb.room.units0 hF I.ok.mod.kin J Lt hnf hfind hfn ?_
      refine wpAny_mono (own_run (Q' := fun z H' => z = .bl (deq (.ins C fs ds) e) ∧ Ext H H') F1 hb (sb.mono (by omega)) I ry ⟨a, y, fs, ds, e, rfl, hd', he, od, oe, fun H' e' => ⟨rfl, e'⟩⟩) (fun r s' hr => ?_) fun _ _ z => z
      obtain ⟨z, H', I', rz, ez, ex⟩ := hr
      subst ez
      cases (show r = _ from rz)
      exact ⟨rfl, H', I', ex⟩
    · by_cases h6' : kd e = 6
      · cases e <;> first | (exfalso; simp [kd] at h6'; done) | skip
        rename_i C fs ds
        obtain ⟨⟨f, fd, F1, hfind, hfn, hb⟩, hfc⟩ := T.own C fs ds oe
        have he' := he
        obtain ⟨b, dx, kvs, rfl, hs, ek, hl⟩ := he
        cases (show v = _ from ry)
        obtain ⟨mA, J0, _⟩ := ins_get I.hok hs
        obtain ⟨odj, J, _⟩ := J0.look
        obtain ⟨Tn, id, hT, tT, slot, hc⟩ := back_of (A := A) I hd rx h6 J hfc
        refine cmp_back sb.room.units0 I.kIn J tT (facts_of hfc hT).2 slot (hc _) hfind hfn ?_
        refine wpAny_mono (own_run (Q' := fun z H' => z = .bl (deq (.ins C fs ds) d) ∧ Ext H H') F1 hb (sb.mono (by omega)) I rx ⟨b, x, fs, ds, d, rfl, he', hd, oe, od, fun H' e' => ⟨rfl, e'⟩⟩) (fun r s' hr => ?_) fun _ _ z => z
        obtain ⟨z, H', I', rz, ez, ex⟩ := hr
        subst ez
        cases (show r = _ from rz)
        refine ⟨?_, H', I', ex⟩
        rw [deq_kd (d := d) (e := .ins C fs ds) (fun z => h6 z), deq_kd (d := .ins C fs ds) (e := d) (fun z => h6 z.symm)]
      · by_cases hk : kd d = kd e
        · by_cases h2 : kd d ≤ 2
          · exact rc_flat hd he rx ry h2 hk X.xe _ ⟨rfl, H, I, Ext.rfl'⟩
          · have sb1 : Sub X (k + n) A.in1 := (show Sub X (k + n + 1) A from sb).in1
            have items : ∀ {ds es : List Dt} {xs ys : List V} {its its2 : List Value}, depL ds ≤ n → okL shp ds → okL shp es → IsL X.K H ds xs → IsL X.K H es ys → Vals xs its → Vals ys its2 →
                ∀ i (h1 : i < its.toArray.size) (h2 : i < its2.toArray.size) (s' : Shared), LoopI X pins σ H s' → wpAny (model X.prog X.w) A.in1 (eqBool its.toArray[i] its2.toArray[i]) (fun r s2 => r = eAt ds es i ∧ LoopI X pins σ H s2) X.xe s' := by
              intro ds es xs ys its its2 hdn p1 p2 l1 l2 r1 r2 i h1 h2 s' L
              obtain ⟨H1, I1, e1⟩ := L
              have g1 : its[i]? = some its.toArray[i] := by
                have h1' : i < its.length := by simpa using h1
                rw [List.getElem?_eq_getElem h1'] <;> simp
              have g2 : its2[i]? = some its2.toArray[i] := by
                have h2' : i < its2.length := by simpa using h2
                rw [List.getElem?_eq_getElem h2'] <;> simp
              have k1 : i < xs.length := by rw [r1.length]; simpa using h1
              have k2 : i < ys.length := by rw [r2.length]; simpa using h2
              obtain ⟨u', hu', ru⟩ := r1.get (List.getElem?_eq_getElem k1)
              obtain ⟨v', hv', rv⟩ := r2.get (List.getElem?_eq_getElem k2)
              rw [g1] at hu'
              rw [g2] at hv'
              rw [Option.some.inj hu', Option.some.inj hv']
              obtain ⟨d', d1, i1⟩ := l1.get (List.getElem?_eq_getElem k1)
              obtain ⟨e', d2, i2⟩ := l2.get (List.getElem?_eq_getElem k2)
              rw [eAt_some d1 d2]
              refine eq_get I1 (i1.ext e1) (i2.ext e1) ru rv ⟨rfl, H1, I1, e1⟩ (wpAny_mono (ih d' e' _ _ u' v' A.in1 pins s' H1 (Nat.le_trans (depL_get d1) hdn) (okL_get p1 d1) (okL_get p2 d2) (i1.ext e1) (i2.ext e1) ru rv sb1 I1) (fun r s2 q => ?_) fun _ _ z => z)
              obtain ⟨hr, H2, I2, e2⟩ := q
              exact ⟨_, hr, rfl, H2, I2, e1.trans e2⟩
            cases d with
            | non => exact absurd (by decide) h2
            | bl b => exact absurd (by show 1 ≤ 2; decide) h2
            | int b => exact absurd (by show 1 ≤ 2; decide) h2
            | str b => exact absurd (by show 2 ≤ 2; decide) h2
            | ins C fs ds => exact absurd rfl h6
            | lst ds =>
              cases e <;> first | (exfalso; simp [kd] at hk; done) | skip
              rename_i es
              obtain ⟨a, xs, rfl, hs, l1⟩ := hd
              obtain ⟨b, ys, rfl, hs', l2⟩ := he
              cases (show u = _ from rx)
              cases (show v = _ from ry)
              have eq0 : deq (.lst ds) (.lst es) = ((List.range (min ds.length es.length)).all (eAt ds es) && ds.length == es.length) := deqL_eq ds es
              by_cases hsz : ds.length = es.length
              · refine rc_listB (N := ds.length) (e := eAt ds es) sb.room.units0 (LoopI X pins σ H) (fun s' z => ?_) (fun s' z => ⟨?_, z⟩) ⟨H, I, Ext.rfl'⟩
                · obtain ⟨H1, I1, e1⟩ := id z
                  obtain ⟨its, r1, p1, _⟩ := I1.list (hs.ext e1)
                  obtain ⟨its2, r2, p2, _⟩ := I1.list (hs'.ext e1)
                  exact ⟨its.toArray, its2.toArray, p1.isList, p2.isList, by rw [List.size_toArray, ← r1.length, ← l1.length], by rw [List.size_toArray, ← r2.length, ← l2.length, hsz],
                    fun i h1 h2 => items (Nat.le_of_succ_le_succ hn) od oe l1 l2 r1 r2 i h1 h2 s' z⟩
                · rw [eq0, hsz, Nat.min_self, beq_self_eq_true, Bool.and_true, ← hsz]
              · have hb : (ds.length == es.length) = false := beq_eq_false_iff_ne.mpr hsz
                rw [hb, Bool.and_false] at eq0
                obtain ⟨its, r1, p1, _⟩ := I.list hs
                obtain ⟨its2, r2, p2, _⟩ := I.list hs'
                refine RcAt.lists_lengths p1.isList p2.isList ?_ sb.room.units0 X.prog X.w X.xe _ ⟨by rw [eq0], H, I, Ext.rfl'⟩
                rw [List.size_toArray, List.size_toArray, ← r1.length, ← r2.length, ← l1.length, ← l2.length]
                simp [hsz]
            | tup ds =>
              cases e <;> first | (exfalso; simp [kd] at hk; done) | skip
              rename_i es
              obtain ⟨a, xs, rfl, hs, l1⟩ := hd
              obtain ⟨b, ys, rfl, hs', l2⟩ := he
              cases (show u = _ from rx)
              cases (show v = _ from ry)
              have eq0 : deq (.tup ds) (.tup es) = ((List.range (min ds.length es.length)).all (eAt ds es) && ds.length == es.length) := deqL_eq ds es
              obtain ⟨its, r1, p1, _⟩ := I.tuple hs
              obtain ⟨its2, r2, p2, _⟩ := I.tuple hs'
              have e1 : its.toArray.size = ds.length := by rw [List.size_toArray, ← r1.length, ← l1.length]
              have e2 : its2.toArray.size = es.length := by rw [List.size_toArray, ← r2.length, ← l2.length]
              refine rc_tupB (e := eAt ds es) sb.room.units0 (LoopI X pins σ H) p1 p2 (fun i h1 h2 s' z => items (Nat.le_of_succ_le_succ hn) od oe l1 l2 r1 r2 i h1 h2 s' z) (fun s' z => ⟨?_, z⟩) ⟨H, I, Ext.rfl'⟩
              rw [eq0, e1, e2]
            | dic ks ds =>
              cases e <;> first | (exfalso; simp [kd] at hk; done) | skip
              rename_i ls es
              have hu := sb.room.un
              refine rc_pure I (dep (.dic ks ds)) (.dic ks ds) (.dic ls es) x y u v A (Nat.le_refl _) od oe hd he rx ry ?_ X.xe _ ⟨rfl, H, I, Ext.rfl'⟩
              omega
        · exact mis I sb.room.units0 d e hd he rx ry hk h6 h6' X.xe _ ⟨by rw [deq_kd hk], H, I, Ext.rfl'⟩
theorem eq_own {k : Nat} {shp : Addr → List Str → List Dt → Prop} (T : EqTab X.prog X.w X.K X.mg X.base k shp) {d e : Dt} {x y : V} {u v : Value} {A : Around} (hn : dep d ≤ n) (od : okD shp d) (oe : okD shp e) (hd : Is X.K H d x) (he : Is X.K H e y) (rx : RelV x u) (ry : RelV y v) (sb : Sub X (k + n) A) (I : Inv X pins σ H s) :
    wpAny (model X.prog X.w) A (eqBool u v) (fun r s' => r = deq d e ∧ LoopI X pins σ H s') X.xe s :=
  eq_get I hd he rx ry ⟨rfl, H, I, Ext.rfl'⟩ (wpAny_mono (rc_own T n d e x y u v A pins s H hn od oe hd he rx ry sb I) (fun r s2 q => ⟨_, q.1, rfl, q.2⟩) fun _ _ z => z)
end
end LxE

namespace LxE
open PySem PySem.SeqAt
open AutoSeq1 (wpAny_loadPart')
open MeetsSeq MeetsSeq2 MeetsSeq3 SeqRoads2
section
variable {prog : Program} {w : World} {A : Around} {R : Result → Shared → Prop}
theorem ne_loopB (l b : Addr) (N : Nat) (e : Nat → Bool) (I : Shared → Prop) (hl : ListJ prog w A (fun e s' => R (.error e) s') l b N e I)
    (fin : ∀ s, I s → R (.ok (.ret (.bool (!(List.range N).all e)))) s) (k : Nat) :
    ∀ i : Nat, N - i = k → i ≤ N → (∀ j, j < i → e j = true) → ∀ s, I s →
      wpAny (model prog w) A.in1 (Builtin.«list.__eq__.loop» ⟨[.ref l, .ref b, rawInt i, rawInt 3], []⟩) (FinOf prog w A R) (fun e s' => R (.error e) s') s := by
  induction k with
  | zero =>
    intro i hk hi hp s h
    obtain ⟨items, items2, hl1', hb1', hs1, hs2, _⟩ := hl _ h
    obtain ⟨n, dd, sl, hl1⟩ := isList_obj hl1'
    obtain ⟨n2, dd2, sl2, hb1⟩ := isList_obj hb1'
    have hi' : i = N := by omega
    have hR : R (.ok (.ret (.bool false))) s := by
      have z := fin s h
      rw [all_full (fun j hj => hp j (by omega))] at z
      exact z
    obtain ⟨hp', g, d, tk, os⟩ := s
    wp_walk using wpAny_loadPart' hl1, wpAny_loadPart' hb1
    have hi1 : items[((i : Nat) : Int).toNat]? = none := by simp; omega
    have hi2 : items2[((i : Nat) : Int).toNat]? = none := by simp; omega
    rw [hi1, hi2]
    wp_walk using wpAny_loadPart' hl1, wpAny_loadPart' hb1
    show R (.ok (.ret (.bool (items.size != items2.size)))) _
    rw [hs1, hs2]
    simpa using hR
  | succ k ih =>
    intro i hk hi hp s h
    obtain ⟨items, items2, hl1', hb1', hs1, hs2, turn⟩ := hl _ h
    obtain ⟨n, dd, sl, hl1⟩ := isList_obj hl1'
    obtain ⟨n2, dd2, sl2, hb1⟩ := isList_obj hb1'
    have hlt : i < items.size := by omega
    have hlt2 : i < items2.size := by omega
    have ht := turn i hlt hlt2
    obtain ⟨hp', g, d, tk, os⟩ := s
    wp_walk using wpAny_loadPart' hl1, wpAny_loadPart' hb1
    have hi1 : items[((i : Nat) : Int).toNat]? = some items[i] := by simp [hlt]
    have hi2 : items2[((i : Nat) : Int).toNat]? = some items2[i] := by simp [hlt2]
    have hc : ((i : Int) + 1) = ((i + 1 : Nat) : Int) := by omega
    rw [hi1, hi2]
    refine wpAny_bind (wpAny_mono ht (fun r s2 h2 => ?_) fun _ _ x => x)
    obtain ⟨hr, h2⟩ := h2
    subst hr
    obtain ⟨items3, items4, hl3', hb3', hs3, hs4, _⟩ := hl _ h2
    obtain ⟨n3, dd3, sl3, hl3⟩ := isList_obj hl3'
    obtain ⟨n4, dd4, sl4, hb3⟩ := isList_obj hb3'
    have fin2 := fin s2 h2
    cases hei : e i with
    | true =>
      have hrec := ih (i + 1) (by omega) (by omega) (fun j hj => by
        rcases Nat.lt_succ_iff_lt_or_eq.mp hj with z | z
        · exact hp j z
        · rw [z]; exact hei) s2 h2
      obtain ⟨hp2, g2, d2, tk2, os2⟩ := s2
      wp_walk
      rw [hc]
      exact ⟨plainId_quiet plain_eq_loop _, codeAny_builtin entry_eq_loop (by
        rw [Around.under_plainId plain_eq_loop _]
        exact hrec)⟩
    | false =>
      rw [all_drop hp (by omega) hei] at fin2
      have hj1 : items3[((i : Nat) : Int).toNat]? = some (items3[i]'(by omega)) := by simp <;> omega
      have hj2 : items4[((i : Nat) : Int).toNat]? = some (items4[i]'(by omega)) := by simp <;> omega
      obtain ⟨hp2, g2, d2, tk2, os2⟩ := s2
      wp_walk using wpAny_loadPart' hl3, wpAny_loadPart' hb3
      rw [hj1, hj2]
      wp_walk
      simpa using fin2

theorem list_neB (l b : Addr) (N : Nat) (e : Nat → Bool) (I : Shared → Prop) (hl : ListJ prog w A (fun e s' => R (.error e) s') l b N e I)
    (fin : ∀ s, I s → R (.ok (.ret (.bool (!(List.range N).all e)))) s) {s : Shared} (h : I s) :
    wpAny (model prog w) A.in1 (Builtin.«list.__ne__» ⟨[.ref l, .ref b], []⟩) (FinOf prog w A R) (fun e s' => R (.error e) s') s := by
  obtain ⟨items, items2, hl1', hb1', hs1, hs2, _⟩ := hl _ h
  obtain ⟨n, dd, sl, hl1⟩ := isList_obj hl1'
  obtain ⟨n2, dd2, sl2, hb1⟩ := isList_obj hb1'
  have hrec := ne_loopB (A := A) (R := R) l b N e I hl fin _ 0 rfl (Nat.zero_le _) (fun j hj => absurd hj (Nat.not_lt_zero j)) s h
  obtain ⟨hp, g, d, tk, os⟩ := s
  have f3 := AutoSeq1.sub_list_list
  have hne : ¬ (items.size != items2.size) = true := by simp [hs1, hs2]
  wp_walk using wpAny_loadPart' hl1, wpAny_loadPart' hb1
  exact ⟨plainId_quiet plain_eq_loop _, codeAny_builtin entry_eq_loop (by
    rw [Around.under_plainId plain_eq_loop _]
    exact hrec)⟩

theorem tuple_neB (l b : Addr) (items items2 : Array Value) (n n2 : Nat) (dd dd2 : Option Addr) (sl sl2 : Array (Option Value)) (e : Nat → Bool) (I : Shared → Prop)
    (turn : ∀ i (h1 : i < items.size) (h2 : i < items2.size) s, I s → wpAny (model prog w) A.in1 (eqBool items[i] items2[i]) (fun r s' => r = e i ∧ I s') (fun e s' => R (.error e) s') s)
    (fin : ∀ s, I s → R (.ok (.ret (.bool (!((List.range (min items.size items2.size)).all e && items.size == items2.size))))) s) {s : Shared} (hl1 : s.heap.get? l = some { cls := .type "tuple", dict := dd, data := .seq items n, slots := sl }) (hb1 : s.heap.get? b = some { cls := .type "tuple", dict := dd2, data := .seq items2 n2, slots := sl2 }) (h : I s) :
    wpAny (model prog w) A.in1 (Builtin.«tuple.__ne__» ⟨[.ref l, .ref b], []⟩) (FinOf prog w A R) (fun e s' => R (.error e) s') s := by
  have f2 := AutoSeq1.sub_tuple_tuple
  have hZ : (items.toList.zip items2.toList).length = min items.size items2.size := by simp
  have h0 := h
  obtain ⟨hp, g, d, tk, os⟩ := s
  wp_walk using wpAny_loadPart' hl1, wpAny_loadPart' hb1, wpAny_forIn_list _ (fun rest b s' => b.1 = none ∧ ∃ i, rest = (items.toList.zip items2.toList).drop i ∧ (∀ j, j < i → e j = true) ∧ i ≤ min items.size items2.size ∧ I s') _
  case turn =>
    rintro ⟨y, x⟩ rest b s' ⟨hb', i, hz, hpre, hi, hI⟩
    have hlt : i < (items.toList.zip items2.toList).length := by
      rcases Nat.lt_or_ge i (items.toList.zip items2.toList).length with h' | h'
      · exact h'
      · rw [List.drop_of_length_le h'] at hz; cases hz
    have hm : i < min items.size items2.size := hZ ▸ hlt
    have h1 : i < items.size := Nat.lt_of_lt_of_le hm (Nat.min_le_left _ _)
    have h2 : i < items2.size := Nat.lt_of_lt_of_le hm (Nat.min_le_right _ _)
    rw [List.drop_eq_getElem_cons hlt] at hz
    injection hz with hyx hrest
    have hy : y = items[i] := by have := congrArg Prod.fst hyx; simpa using this
    have hx : x = items2[i] := by have := congrArg Prod.snd hyx; simpa using this
    subst hy hx
    refine wpAny_bind (wpAny_mono (turn i h1 h2 s' hI) (fun r s2 q2 => ?_) fun _ _ x => x)
    obtain ⟨hr, q2⟩ := q2
    subst hr
    cases hei : e i with
    | true =>
      wp_walk
      exact ⟨rfl, i + 1, hrest, fun j hj => by
        rcases Nat.lt_succ_iff_lt_or_eq.mp hj with z | z
        · exact hpre j z
        · rw [z]; exact hei, hm, q2⟩
    | false =>
      have hR := fin s2 q2
      rw [all_drop hpre hm hei] at hR
      wp_walk
      simpa using hR
  case fin =>
    rintro ⟨b1, b2⟩ s' ⟨hb', i, hz, hpre, hi, hI⟩
    simp only at hb'
    subst hb'
    have hge : min items.size items2.size ≤ i := by
      rcases Nat.lt_or_ge i (items.toList.zip items2.toList).length with h' | h'
      · rw [List.drop_eq_getElem_cons h'] at hz; cases hz
      · exact hZ ▸ h'
    have hR := fin s' hI
    rw [all_full (fun j hj => hpre j (by omega))] at hR
    wp_walk
    simpa [Builtin.Tuple.tupleCompareSizes, bne] using hR
  case h =>
    exact ⟨rfl, 0, rfl, fun j hj => absurd hj (Nat.not_lt_zero j), Nat.zero_le _, h0⟩
end
section
variable {prog : Program} {w : World} {A : Around} {E : Value → Shared → Prop} {s : Shared}
theorem rc_listNB {l b : Addr} {N : Nat} {e : Nat → Bool} {Q : Value → Shared → Prop} (hu : A.units < cLine) (I : Shared → Prop) (hl : ListJ prog w A E l b N e I)
    (fin : ∀ s, I s → Q (.bool (!(List.range N).all e)) s) (h : I s) : wpAny (model prog w) A (richCompare .NotEq (.ref l) (.ref b)) Q E s := by
  obtain ⟨items, items2, hl1', hb1', _, _, _⟩ := hl _ h
  obtain ⟨n, dd, sl, hl1⟩ := isList_obj hl1'
  obtain ⟨n2, dd2, sl2, hb1⟩ := isList_obj hb1'
  refine wpAny_richCompare_same_room (op := .NotEq) ⟨_, hl1, rfl⟩ ⟨_, hb1, rfl⟩ F.slot_list_ne (call_here F.slot_list_ne ⟨_, hl1, rfl⟩ F.entry_list_ne (F.args_list_ne_2 _ _) ?_) hu
  exact list_neB (R := wants (fun v s' => v ≠ .notImplemented ∧ Q v s') E) l b N e I hl (fun s' q => ⟨(fun x => nomatch x), fin s' q⟩) h
theorem rc_tupNB {l b : Addr} {items items2 : Array Value} {e : Nat → Bool} {Q : Value → Shared → Prop} (hu : A.units < cLine) (I : Shared → Prop)
    (hl : s.heap.IsTuple l items) (hb : s.heap.IsTuple b items2)
    (turn : ∀ i (h1 : i < items.size) (h2 : i < items2.size) s, I s → wpAny (model prog w) A.in1 (eqBool items[i] items2[i]) (fun r s' => r = e i ∧ I s') E s)
    (fin : ∀ s, I s → Q (.bool (!((List.range (min items.size items2.size)).all e && items.size == items2.size))) s) (h : I s) : wpAny (model prog w) A (richCompare .NotEq (.ref l) (.ref b)) Q E s := by
  obtain ⟨⟨cls, dd, data, sl⟩, ho, hc, n, hd⟩ := id hl
  obtain ⟨⟨cls2, dd2, data2, sl2⟩, ho2, hc2, n2, hd2⟩ := id hb
  simp only at hc hd hc2 hd2
  subst hc hd hc2 hd2
  refine wpAny_richCompare_same_room (op := .NotEq) ⟨_, ho, rfl⟩ ⟨_, ho2, rfl⟩ F.slot_tuple_ne (call_here F.slot_tuple_ne ⟨_, ho, rfl⟩ F.entry_tuple_ne (F.args_tuple_ne_2 _ _) ?_) hu
  exact tuple_neB (R := wants (fun v s' => v ≠ .notImplemented ∧ Q v s') E) l b items items2 n n2 dd dd2 sl sl2 e I turn (fun s' q => ⟨(fun x => nomatch x), fin s' q⟩) ho ho2 h
end

section
open PySem.W
variable {prog : Program} {w : World} {A : Around} {E : Value → Shared → Prop} {s : Shared} {K : Frag} {x C f : Addr} {ox : Obj} {od : Option Obj} {b tb : Value}
/-- x != b, x of an own class with an own == and no own != -/
theorem cmpne_K {Q : Value → Shared → Prop} (hu : A.units + 1 < cLine) (X : K.In s.heap) (I : InstAt s.heap x ox C od) (hb : Looks (model prog w) s.heap (typeOf b) tb) (hn : notFirst K C tb = true) (hm : mroIn K C (.type "object") = some true)
    (hne : findIn K (.ref C) "__ne__" = some (some (.builtin "object.__ne__"))) (hs : findIn K (.ref C) "__eq__" = some (some (.ref f))) (hf : isFn K (.ref f) = true)
    (h : wpAny (model prog w) A.in1 (call (.ref f) [.ref x, b]) (fun v s' => ∃ r, v = .bool r ∧ Q (.bool (!r)) s') E s) : wpAny (model prog w) A (richCompare .NotEq (.ref x) b) Q E s := by
  have one : wpAny (model prog w) A (tryCompare (.ref x) "__ne__" b) (fun r s' => ∃ v, r = some (.bool v) ∧ Q (.bool v) s') E s := by
    unfold tryCompare
    refine wpAny_bind ?_
    simp only [callSpecialIfBound?, bindSpecialIfBound?]
    refine wpAny_holding (wpAny_bind (wpAny_bind (wpAny_bind (I.type.here ((looks_findIn X hne).here ?_)))))
    refine wpAny_bind (wpAny_askSetting (wpAny_ite ?_))
    have fin : wpAny (model prog w) A (call (.builtin "object.__ne__") ([.ref x] ++ [b]) >>= fun v => pure (some v)) (fun a s₁ => wpAny (model prog w) A (match a with
        | some Value.notImplemented => pure none
        | none => pure none
        | some v => pure (some v)) (fun r s' => ∃ v, r = some (Value.bool v) ∧ Q (.bool v) s') E s₁) E s := by
      refine wpAny_bind (wpAny_call (codeAny_call_builtin PySem.F.cmp_object.ne.plain PySem.F.cmpEntry_ne ?_))
      refine check_slot PySem.F.cmpKind_ne PySem.F.cmpSplit_ne (I.type.andThen (looks_mroIn X hm)) (PySem.F.cmpArgs_ne _ _) ?_
      unfold Builtin.«object.__ne__»
      refine wpAny_bind (wpAny_of_eq (a := ((Value.ref x : Value), [b])) (by first | rfl | (simp only [slotArgs]; rfl)) ?_)
      refine wpAny_bind (wpAny_cRoomFor (by exact hu) ?_)
      refine wpAny_bind (ifBound_K X I hs hf (wpAny_mono h (fun v s' hv => ?_) fun _ _ e => e))
      obtain ⟨r, rfl, q⟩ := hv
      refine wpAny_bind (wpAny_truthy_bool ?_)
      exact wpAny_pure (wpAny_pure (wpAny_pure ⟨_, rfl, q⟩))
    split
    · exact wpAny_bind (wpAny_of_eq (PySem.F.cmp_object.ne.bind _) (wpAny_pure (by exact fin)))
    · exact wpAny_tryCatch (wpAny_bind (wpAny_of_eq (PySem.F.cmp_object.ne.bind _) (wpAny_pure (by exact fin))))
  unfold richCompare
  simp only [oneThing_ref, cmpInfo]
  refine wpAny_holding (wpAny_bind (wpAny_cRoomFor (by omega) ?_))
  refine wpAny_bind (I.type.here (wpAny_bind (hb.here ?_)))
  split
  · rename_i q
    have e : subIn K tb (.ref C) = some false := by
      rcases Bool.or_eq_true_iff.mp hn with e | e
      · rw [beq_iff_eq.mp e] at q; simp at q
      · exact beq_iff_eq.mp e
    refine wpAny_bind ((looks_subIn X e).here ?_)
    simp only [Bool.false_eq_true, if_false]
    refine wpAny_bind (wpAny_mono one (fun r s' z => ?_) fun _ _ e => e)
    obtain ⟨v, rfl, hq⟩ := z
    exact wpAny_pure hq
  · refine wpAny_bind (wpAny_pure ?_)
    simp only [Bool.false_eq_true, if_false]
    refine wpAny_bind (wpAny_mono one (fun r s' z => ?_) fun _ _ e => e)
    obtain ⟨v, rfl, hq⟩ := z
    exact wpAny_pure hq
end
end LxE

namespace LxE
open PySem PySem.SeqAt L2
open AutoSeq1 (wpAny_loadPart')
open MeetsSeq MeetsSeq2 MeetsSeq3 SeqRoads2
section
variable {prog : Program} {w : World} {A : Around} {R : Result → Shared → Prop}
def ListC (prog : Program) (w : World) (A : Around) (E : Value → Shared → Prop) (l : Addr) (x : Value) (N : Nat) (e : Nat → Bool) (I : Shared → Prop) : Prop :=
  ∀ s, I s → ∃ (items : Array Value), s.heap.IsList l items ∧ items.size = N ∧ ∀ i (h1 : i < items.size), wpAny (model prog w) A.in1 (eqBool items[i] x) (fun r s' => r = e i ∧ I s') E s
theorem any_hit {N : Nat} {e : Nat → Bool} {i : Nat} (hi : i < N) (hf : e i = true) : (List.range N).any e = true := by
  rw [List.any_eq_true]
  exact ⟨i, List.mem_range.mpr hi, hf⟩
theorem any_none {N : Nat} {e : Nat → Bool} (hp : ∀ j, j < N → e j = false) : (List.range N).any e = false := by
  rw [List.any_eq_false]
  intro x hx
  rw [hp x (List.mem_range.mp hx)]
  exact Bool.false_ne_true
theorem contains_loopB (l : Addr) (x : Value) (N : Nat) (e : Nat → Bool) (I : Shared → Prop) (hl : ListC prog w A (fun e s' => R (.error e) s') l x N e I)
    (fin : ∀ s, I s → R (.ok (.ret (.bool ((List.range N).any e)))) s) (k : Nat) :
    ∀ i : Nat, N - i = k → i ≤ N → (∀ j, j < i → e j = false) → ∀ s, I s →
      wpAny (model prog w) A.in1 (Builtin.«list.__contains__.loop» ⟨[.ref l, x, rawInt i], []⟩) (FinOf prog w A R) (fun e s' => R (.error e) s') s := by
  induction k with
  | zero =>
    intro i hk hi hp s h
    obtain ⟨items, hl1', hs1, _⟩ := hl _ h
    obtain ⟨n, dd, sl, hl1⟩ := isList_obj hl1'
    have hR := fin s h
    rw [any_none (fun j hj => hp j (by omega))] at hR
    obtain ⟨hp', g, d, tk, os⟩ := s
    wp_walk using wpAny_loadPart' hl1
    have hi1 : items[((i : Nat) : Int).toNat]? = none := by simp; omega
    rw [hi1]
    wp_walk
    exact hR
  | succ k ih =>
    intro i hk hi hp s h
    obtain ⟨items, hl1', hs1, turn⟩ := hl _ h
    obtain ⟨n, dd, sl, hl1⟩ := isList_obj hl1'
    have hlt : i < items.size := by omega
    have ht := turn i hlt
    obtain ⟨hp', g, d, tk, os⟩ := s
    wp_walk using wpAny_loadPart' hl1
    have hi1 : items[((i : Nat) : Int).toNat]? = some items[i] := by simp [hlt]
    have hc : ((i : Int) + 1) = ((i + 1 : Nat) : Int) := by omega
    rw [hi1]
    refine wpAny_bind (wpAny_mono ht (fun r s2 h2 => ?_) fun _ _ x => x)
    obtain ⟨hr, h2⟩ := h2
    subst hr
    have fin2 := fin s2 h2
    cases hei : e i with
    | true =>
      rw [any_hit (by omega) hei] at fin2
      obtain ⟨hp2, g2, d2, tk2, os2⟩ := s2
      wp_walk
      exact fin2
    | false =>
      have hrec := ih (i + 1) (by omega) (by omega) (fun j hj => by
        rcases Nat.lt_succ_iff_lt_or_eq.mp hj with z | z
        · exact hp j z
        · rw [z]; exact hei) s2 h2
      obtain ⟨hp2, g2, d2, tk2, os2⟩ := s2
      wp_walk
      rw [hc]
      exact ⟨plainId_quiet plain_contains_loop _, codeAny_builtin entry_contains_loop (by
        rw [Around.under_plainId plain_contains_loop _]
        exact hrec)⟩
theorem list_containsB (l : Addr) (x : Value) (N : Nat) (e : Nat → Bool) (I : Shared → Prop) (hl : ListC prog w A (fun e s' => R (.error e) s') l x N e I)
    (fin : ∀ s, I s → R (.ok (.ret (.bool ((List.range N).any e)))) s) {s : Shared} (h : I s) :
    wpAny (model prog w) A.in1 (Builtin.«list.__contains__» ⟨[.ref l, x], []⟩) (FinOf prog w A R) (fun e s' => R (.error e) s') s := by
  obtain ⟨items, hl1', hs1, _⟩ := hl _ h
  obtain ⟨n, dd, sl, hl1⟩ := isList_obj hl1'
  have hrec := contains_loopB (A := A) (R := R) l x N e I hl fin _ 0 rfl (Nat.zero_le _) (fun j hj => absurd hj (Nat.not_lt_zero j)) s h
  obtain ⟨hp, g, d, tk, os⟩ := s
  wp_walk using wpAny_loadPart' hl1
  exact ⟨plainId_quiet plain_contains_loop _, codeAny_builtin entry_contains_loop (by
    rw [Around.under_plainId plain_contains_loop _]
    exact hrec)⟩
theorem tuple_containsB (l : Addr) (x : Value) (items : Array Value) (n : Nat) (dd : Option Addr) (sl : Array (Option Value)) (e : Nat → Bool) (I : Shared → Prop)
    (turn : ∀ i (h1 : i < items.size) s, I s → wpAny (model prog w) A.in1 (eqBool items[i] x) (fun r s' => r = e i ∧ I s') (fun e s' => R (.error e) s') s)
    (fin : ∀ s, I s → R (.ok (.ret (.bool ((List.range items.size).any e)))) s) {s : Shared} (hl1 : s.heap.get? l = some { cls := .type "tuple", dict := dd, data := .seq items n, slots := sl }) (h : I s) :
    wpAny (model prog w) A.in1 (Builtin.«tuple.__contains__» ⟨[.ref l, x], []⟩) (FinOf prog w A R) (fun e s' => R (.error e) s') s := by
  have h0 := h
  obtain ⟨hp, g, d, tk, os⟩ := s
  wp_walk using wpAny_loadPart' hl1, wpAny_forIn_array _ (fun rest b s' => b.1 = none ∧ ∃ i, rest = items.toList.drop i ∧ (∀ j, j < i → e j = false) ∧ i ≤ items.size ∧ I s') _
  case turn =>
    rintro y rest b s' ⟨hb', i, hz, hpre, hi, hI⟩
    have hlt : i < items.toList.length := by
      rcases Nat.lt_or_ge i items.toList.length with h' | h'
      · exact h'
      · rw [List.drop_of_length_le h'] at hz; cases hz
    have h1 : i < items.size := by simpa using hlt
    rw [List.drop_eq_getElem_cons hlt] at hz
    injection hz with hy hrest
    have hy' : y = items[i] := by simpa using hy
    subst hy'
    refine wpAny_bind (wpAny_mono (turn i h1 s' hI) (fun r s2 q2 => ?_) fun _ _ x => x)
    obtain ⟨hr, q2⟩ := q2
    subst hr
    have hR := fin s2 q2
    cases hei : e i with
    | true =>
      rw [any_hit h1 hei] at hR
      wp_walk
      exact hR
    | false =>
      wp_walk
      exact ⟨rfl, i + 1, hrest, fun j hj => by
        rcases Nat.lt_succ_iff_lt_or_eq.mp hj with z | z
        · exact hpre j z
        · rw [z]; exact hei, h1, q2⟩
  case fin =>
    rintro ⟨b1, b2⟩ s' ⟨hb', i, hz, hpre, hi, hI⟩
    simp only at hb'
    subst hb'
    have hge : items.size ≤ i := by
      rcases Nat.lt_or_ge i items.toList.length with h' | h'
      · rw [List.drop_eq_getElem_cons h'] at hz; cases hz
      · simpa using h'
    have hR := fin s' hI
    rw [any_none (fun j hj => hpre j (by omega))] at hR
    wp_walk
    exact hR
  case h =>
    exact ⟨rfl, 0, rfl, fun j hj => absurd hj (Nat.not_lt_zero j), Nat.zero_le _, h0⟩
end
end LxE

namespace PySem.W
open Lean Elab Tactic Meta PySem PySem.Calls PyProof.Rows PyProof.V PySem.Spec
theorem lx_ne_dicts {prog : Program} {w : World} {K : Type} [DecidableEq K] {knd : KeyKind prog w K} {A : Around} {s : Shared} {a b : Addr} {ka kb : List (K × Value)} {r : Bool} (ha : (a == sysModules) = false) (hb : (b == sysModules) = false)
    (da : s.heap.DictOf knd a ka) (db : s.heap.DictOf knd b kb) (hu : A.units < cLine) (hits : ka.length = kb.length → KeqHitsP prog w A.in1 s kb ka r) (E Q : Value → Shared → Prop) (h : Q (.bool (!(ka.length == kb.length && r))) s) : wpAny (model prog w) A (richCompare .NotEq (.ref a) (.ref b)) Q E s := by
  refine wpAny_richCompare_same_room (op := .NotEq) da.typeIs db.typeIs PySem.F.slot_dict_ne (wpAny_call_entry PySem.F.slot_dict_ne da.typeIs PySem.F.entry_dict_ne ?_ (PySem.F.args_dict_ne_2 _ _)) hu
  show wpAny _ _ (Builtin.Dict.dictSlotArgs "__ne__" ⟨[.ref a, .ref b], []⟩ >>= _) _ _ s
  refine wpAny_bind ?_
  unfold Builtin.Dict.dictSlotArgs
  refine wpAny_bind (wpAny_notOrdered_dict da.typeIs ?_)
  show wpAny _ _ (pure (Value.ref a, Value.ref b)) _ _ s
  refine wpAny_pure ?_
  refine wpAny_bind (wpAny_isInstance (T := "dict") db.typeIs PySem.F.sub_dict_dict ?_)
  simp only [Bool.not_true, Bool.false_eq_true, if_false]
  refine wpAny_bind (wpAny_pure (wpAny_bind (wpAny_pure ?_)))
  refine wpAny_bind (samePairsP ha hb da db hits ?_)
  refine wpAny_pure ⟨_, rfl, ?_, ?_⟩
  · exact fun x => nomatch x
  · simpa using h
end PySem.W
namespace LxE
open PySem PySem.SeqAt L2
section
variable {X : Cx} {pins : List (Addr × Obj)} {σ : L2.St} {H : Hp} {s : Shared}
theorem items_own {k n : Nat} {shp : Addr → List Str → List Dt → Prop} (T : EqTab X.prog X.w X.K X.mg X.base k shp) {A : Around} (sb : Sub X (k + n) A) {ds es : List Dt} {xs ys : List V} {its its2 : List Value} (hdn : depL ds ≤ n) (p1 : okL shp ds) (p2 : okL shp es)
    (l1 : IsL X.K H ds xs) (l2 : IsL X.K H es ys) (r1 : Vals xs its) (r2 : Vals ys its2) (i : Nat) (h1 : i < its.toArray.size) (h2 : i < its2.toArray.size) (s' : Shared) (L : LoopI X pins σ H s') :
    wpAny (model X.prog X.w) A (eqBool its.toArray[i] its2.toArray[i]) (fun r s2 => r = eAt ds es i ∧ LoopI X pins σ H s2) X.xe s' := by
  obtain ⟨H1, I1, e1⟩ := L
  have g1 : its[i]? = some its.toArray[i] := by
    have h1' : i < its.length := by simpa using h1
    rw [List.getElem?_eq_getElem h1'] <;> simp
  have g2 : its2[i]? = some its2.toArray[i] := by
    have h2' : i < its2.length := by simpa using h2
    rw [List.getElem?_eq_getElem h2'] <;> simp
  have k1 : i < xs.length := by rw [r1.length]; simpa using h1
  have k2 : i < ys.length := by rw [r2.length]; simpa using h2
  obtain ⟨u', hu', ru⟩ := r1.get (List.getElem?_eq_getElem k1)
  obtain ⟨v', hv', rv⟩ := r2.get (List.getElem?_eq_getElem k2)
  rw [g1] at hu'
  rw [g2] at hv'
  rw [Option.some.inj hu', Option.some.inj hv']
  obtain ⟨d', d1, i1⟩ := l1.get (List.getElem?_eq_getElem k1)
  obtain ⟨e', d2, i2⟩ := l2.get (List.getElem?_eq_getElem k2)
  rw [eAt_some d1 d2]
  refine wpAny_mono (eq_own T (Nat.le_trans (depL_get d1) hdn) (okL_get p1 d1) (okL_get p2 d2) (i1.ext e1) (i2.ext e1) ru rv sb I1) (fun r s2 q => ?_) fun _ _ z => z
  obtain ⟨hr, H2, I2, e2⟩ := q
  exact ⟨hr, H2, I2, e1.trans e2⟩
/-- what a class must have besides, for != -/
def NeFacts (K : PySem.W.Frag) (C : Addr) : Prop := PySem.W.findIn K (.ref C) "__ne__" = some (some (.builtin "object.__ne__")) ∧ PySem.W.mroIn K C (.type "object") = some true
theorem rcn_own {k : Nat} {shp : Addr → List Str → List Dt → Prop} (T : EqTab X.prog X.w X.K X.mg X.base k shp) (N : ∀ C fs ds, shp C fs ds → NeFacts X.K C) (n : Nat) (d e : Dt) (x y : V) (u v : Value) (A : Around) (hn : dep d ≤ n) (od : okD shp d) (oe : okD shp e) (hd : Is X.K H d x) (he : Is X.K H e y)
    (rx : RelV x u) (ry : RelV y v) (sb : Sub X (k + n + 1) A) (I : Inv X pins σ H s) (hk : kd d = kd e ∨ kd d = 6) :
    wpAny (model X.prog X.w) A (richCompare .NotEq u v) (fun r s' => r = .bool (!deq d e) ∧ LoopI X pins σ H s') X.xe s := by
  have sb1 : Sub X (k + n) A.in1 := sb.in1
  by_cases h6 : kd d = 6
  · cases d <;> first | (exfalso; simp [kd] at h6; done) | skip
    rename_i C fs ds
    obtain ⟨⟨f, fd, F1, hfind, hfn, hb⟩, hfc⟩ := T.own C fs ds od
    obtain ⟨hne, hm⟩ := N C fs ds od
    have hd' := hd
    obtain ⟨a, dx, kvs, rfl, hs, ek, hl⟩ := hd
    cases (show u = _ from rx)
    obtain ⟨mA, J0, _⟩ := ins_get I.hok hs
    obtain ⟨odj, J, _⟩ := J0.look
    have tb : ∃ tb, PySem.W.Looks (model X.prog X.w) s.heap (typeOf v) tb ∧ PySem.W.notFirst X.K C tb = true := by
      by_cases h6' : kd e = 6
      · cases e <;> first | (exfalso; simp [kd] at h6'; done) | skip
        rename_i C' fs' es
        have t2 := T.two _ _ _ _ _ _ od oe
        obtain ⟨b, dy, lvs, rfl, hs', _, _⟩ := he
        cases (show v = _ from ry)
        obtain ⟨mB, J0', _⟩ := ins_get I.hok hs'
        obtain ⟨odj', J', _⟩ := J0'.look
        exact ⟨_, J'.type, t2⟩
      · obtain ⟨Tn, hT, tT⟩ := ty_of I he ry h6'
        exact ⟨_, looks_ty tT, (facts_of hfc hT).1⟩
    obtain ⟨tb, Lt, hnf⟩ := tb
    have hun := sb.room.un
    refine cmpne_K (tb := tb) (by omega) I.kIn J Lt hnf hm hne hfind hfn ?_
    refine wpAny_mono (own_run (Q' := fun z H' => z = .bl (deq (.ins C fs ds) e) ∧ Ext H H') F1 hb (sb1.mono (by omega)) I ry ⟨a, y, fs, ds, e, rfl, hd', he, od, oe, fun H' e' => ⟨rfl, e'⟩⟩) (fun r s' hr => ?_) fun _ _ z => z
    obtain ⟨z, H', I', rz, ez, ex⟩ := hr
    subst ez
    cases (show r = _ from rz)
    exact ⟨_, rfl, rfl, H', I', ex⟩
  · have hk' : kd d = kd e := hk.resolve_right h6
    by_cases h2 : kd d ≤ 2
    · have h3 : kd e ≤ 2 := hk' ▸ h2
      have L : LoopI X pins σ H s := ⟨H, I, Ext.rfl'⟩
      cases d <;> first | (exfalso; simp [kd] at h2; done) | skip
      all_goals (cases e <;> first | (exfalso; simp [kd] at hk'; done) | skip)
      · cases (show x = _ from hd); cases (show y = _ from he); cases (show u = _ from rx); cases (show v = _ from ry)
        exact RcNeAt.none_none X.prog X.w X.xe _ ⟨rfl, L⟩
      · cases (show x = _ from hd); cases (show y = _ from he); cases (show u = _ from rx); cases (show v = _ from ry)
        exact RcNeAt.bool_bool _ _ X.prog X.w X.xe _ ⟨rfl, L⟩
      · cases (show x = _ from hd); cases (show y = _ from he); cases (show u = _ from rx); obtain ⟨t, rfl⟩ := (show ∃ t, v = Value.int _ t from ry)
        exact RcNeAt.bool_int _ _ _ X.prog X.w X.xe _ ⟨rfl, L⟩
      · cases (show x = _ from hd); cases (show y = _ from he); obtain ⟨t, rfl⟩ := (show ∃ t, u = Value.int _ t from rx); cases (show v = _ from ry)
        exact RcNeAt.int_bool _ _ _ X.prog X.w X.xe _ ⟨rfl, L⟩
      · cases (show x = _ from hd); cases (show y = _ from he); obtain ⟨t, rfl⟩ := (show ∃ t, u = Value.int _ t from rx); obtain ⟨t', rfl⟩ := (show ∃ t, v = Value.int _ t from ry)
        exact RcNeAt.int_int _ _ _ _ X.prog X.w X.xe _ ⟨rfl, L⟩
      · cases (show x = _ from hd); cases (show y = _ from he); obtain ⟨t, rfl⟩ := (show ∃ t, u = Value.str _ t from rx); obtain ⟨t', rfl⟩ := (show ∃ t, v = Value.str _ t from ry)
        exact RcNeAt.str_str _ _ _ _ X.prog X.w X.xe _ ⟨rfl, L⟩
    · cases d with
      | non => exact absurd (by decide) h2
      | bl b => exact absurd (by show 1 ≤ 2; decide) h2
      | int b => exact absurd (by show 1 ≤ 2; decide) h2
      | str b => exact absurd (by show 2 ≤ 2; decide) h2
      | ins C fs ds => exact absurd rfl h6
      | lst ds =>
        cases e <;> first | (exfalso; simp [kd] at hk'; done) | skip
        rename_i es
        obtain ⟨a, xs, rfl, hs, l1⟩ := hd
        obtain ⟨b, ys, rfl, hs', l2⟩ := he
        cases (show u = _ from rx)
        cases (show v = _ from ry)
        have eq0 : deq (.lst ds) (.lst es) = ((List.range (min ds.length es.length)).all (eAt ds es) && ds.length == es.length) := deqL_eq ds es
        have hdn : depL ds ≤ n := Nat.le_trans (Nat.le_succ _) hn
        by_cases hsz : ds.length = es.length
        · refine rc_listNB (N := ds.length) (e := eAt ds es) sb.room.units0 (LoopI X pins σ H) (fun s' z => ?_) (fun s' z => ⟨?_, z⟩) ⟨H, I, Ext.rfl'⟩
          · obtain ⟨H1, I1, e1⟩ := id z
            obtain ⟨its, r1, p1, _⟩ := I1.list (hs.ext e1)
            obtain ⟨its2, r2, p2, _⟩ := I1.list (hs'.ext e1)
            exact ⟨its.toArray, its2.toArray, p1.isList, p2.isList, by rw [List.size_toArray, ← r1.length, ← l1.length], by rw [List.size_toArray, ← r2.length, ← l2.length, hsz],
              fun i h1 h2 => items_own T sb1 hdn od oe l1 l2 r1 r2 i h1 h2 s' z⟩
          · rw [eq0, hsz, Nat.min_self, beq_self_eq_true, Bool.and_true, ← hsz]
        · have hb : (ds.length == es.length) = false := beq_eq_false_iff_ne.mpr hsz
          rw [hb, Bool.and_false] at eq0
          obtain ⟨its, r1, p1, _⟩ := I.list hs
          obtain ⟨its2, r2, p2, _⟩ := I.list hs'
          refine RcNeAt.lists_lengths p1.isList p2.isList ?_ sb.room.units0 X.prog X.w X.xe _ ⟨by rw [eq0] <;> rfl, H, I, Ext.rfl'⟩
          rw [List.size_toArray, List.size_toArray, ← r1.length, ← r2.length, ← l1.length, ← l2.length]
          simp [hsz]
      | tup ds =>
        cases e <;> first | (exfalso; simp [kd] at hk'; done) | skip
        rename_i es
        obtain ⟨a, xs, rfl, hs, l1⟩ := hd
        obtain ⟨b, ys, rfl, hs', l2⟩ := he
        cases (show u = _ from rx)
        cases (show v = _ from ry)
        have eq0 : deq (.tup ds) (.tup es) = ((List.range (min ds.length es.length)).all (eAt ds es) && ds.length == es.length) := deqL_eq ds es
        have hdn : depL ds ≤ n := Nat.le_trans (Nat.le_succ _) hn
        obtain ⟨its, r1, p1, _⟩ := I.tuple hs
        obtain ⟨its2, r2, p2, _⟩ := I.tuple hs'
        have e1 : its.toArray.size = ds.length := by rw [List.size_toArray, ← r1.length, ← l1.length]
        have e2 : its2.toArray.size = es.length := by rw [List.size_toArray, ← r2.length, ← l2.length]
        refine rc_tupNB (e := eAt ds es) sb.room.units0 (LoopI X pins σ H) p1 p2 (fun i h1 h2 s' z => items_own T sb1 hdn od oe l1 l2 r1 r2 i h1 h2 s' z) (fun s' z => ⟨?_, z⟩) ⟨H, I, Ext.rfl'⟩
        rw [eq0, e1, e2]
      | dic ks ds =>
        cases e <;> first | (exfalso; simp [kd] at hk'; done) | skip
        rename_i ls es
        obtain ⟨a, kvs, rfl, hs, ek, l1⟩ := hd
        obtain ⟨b, lvs, rfl, hs', el, l2⟩ := he
        subst ek el
        cases (show u = _ from rx)
        cases (show v = _ from ry)
        obtain ⟨_, ya, va, ra, da⟩ := (show ObjOk X.prog X.w H s.heap a (.dK kvs) from I.hok a _ hs)
        obtain ⟨_, yb, vb, rb, db⟩ := (show ObjOk X.prog X.w H s.heap b (.dK lvs) from I.hok b _ hs')
        have hun := sb.room.un
        have hdn : depL ds ≤ n := Nat.le_trans (Nat.le_succ _) hn
        refine PySem.W.lx_ne_dicts (knd := mixKind X.prog X.w) (r := deqD (kvs.map (·.1)) ds (lvs.map (·.1)) es) ya yb da db (by omega) (fun _ => hits_of rb l2 l1 ra fun i d e x y u v k1 k2 i1 i2 r1 r2 => ?_) X.xe _ ⟨?_, H, I, Ext.rfl'⟩
        · obtain ⟨j, hj⟩ := mem_get k2
          intro E Q q
          exact eq_get I i1 i2 r1 r2 q (rc_pure I n d e x y u v A.in1 (Nat.le_trans (depL_get k1) hdn) (pureL_get od k1) (pureL_get oe hj) i1 i2 r1 r2 (by show A.units + 1 + n < cLine; omega) E _ ⟨_, rfl, q⟩)
        · have e1 : va.length = (kvs.map (·.1)).length := by rw [List.length_map, ← KV.length ra]
          have e2 : vb.length = (lvs.map (·.1)).length := by rw [List.length_map, ← KV.length rb]
          rw [e1, e2] <;> rfl
/-- x in l, l a list or a tuple -/
theorem in_own {k : Nat} {shp : Addr → List Str → List Dt → Prop} (T : EqTab X.prog X.w X.K X.mg X.base k shp) (n : Nat) (d : Dt) (es : List Dt) (x y : V) (u v : Value) (A : Around) (hn : depL es ≤ n) (od : okD shp d) (oe : okL shp es) (hd : Is X.K H d x) (he : Is X.K H (.lst es) y ∨ Is X.K H (.tup es) y)
    (rx : RelV x u) (ry : RelV y v) (sb : Sub X (k + n + 1) A) (I : Inv X pins σ H s) :
    wpAny (model X.prog X.w) A (contains v u) (fun r s' => r = (es.any fun e => deq e d) ∧ LoopI X pins σ H s') X.xe s := by
  have sb1 : Sub X (k + n) A.in1 := sb.in1
  have eqr : ∀ N, N = es.length → (List.range N).any (fun i => match es[i]? with | some e => deq e d | none => false) = es.any fun e => deq e d := by
    intro N hN
    subst hN
    rw [Bool.eq_iff_iff, List.any_eq_true, List.any_eq_true]
    constructor
    · rintro ⟨i, hi, h⟩
      have hi' := List.mem_range.mp hi
      rw [List.getElem?_eq_getElem hi'] at h
      exact ⟨_, List.getElem_mem hi', h⟩
    · rintro ⟨e, he, h⟩
      obtain ⟨i, hi, rfl⟩ := List.mem_iff_getElem.mp he
      exact ⟨i, List.mem_range.mpr hi, by rw [List.getElem?_eq_getElem hi]; exact h⟩
  have item : ∀ {ys : List V} {its : List Value}, IsL X.K H es ys → Vals ys its → ∀ i (h1 : i < its.toArray.size) (s' : Shared), LoopI X pins σ H s' →
      wpAny (model X.prog X.w) A.in1 (eqBool its.toArray[i] u) (fun r s2 => r = (match es[i]? with | some e => deq e d | none => false) ∧ LoopI X pins σ H s2) X.xe s' := by
    intro ys its l1 r1 i h1 s' L
    obtain ⟨H1, I1, e1⟩ := L
    have g1 : its[i]? = some its.toArray[i] := by
      have h1' : i < its.length := by simpa using h1
      rw [List.getElem?_eq_getElem h1'] <;> simp
    have k1 : i < ys.length := by rw [r1.length]; simpa using h1
    obtain ⟨u', hu', ru⟩ := r1.get (List.getElem?_eq_getElem k1)
    rw [g1] at hu'
    rw [Option.some.inj hu']
    obtain ⟨d', d1, i1⟩ := l1.get (List.getElem?_eq_getElem k1)
    rw [d1]
    refine wpAny_mono (eq_own T (Nat.le_trans (depL_get d1) hn) (okL_get oe d1) od (i1.ext e1) (hd.ext e1) ru rx sb1 I1) (fun r s2 q => ?_) fun _ _ z => z
    obtain ⟨hr, H2, I2, e2⟩ := q
    exact ⟨hr, H2, I2, e1.trans e2⟩
  rcases he with he | he
  · obtain ⟨a, ys, rfl, hs, l1⟩ := he
    cases (show v = _ from ry)
    obtain ⟨its0, r0, p0, _⟩ := I.list hs
    refine wpAny_contains_slot (ti_list p0.isList) F.slot_list_contains (call_here F.slot_list_contains (ti_list p0.isList) F.entry_list_contains (F.args_list_contains_2 _ _) ?_)
    refine list_containsB (R := wants (fun v s' => wpAny (model X.prog X.w) A (truthy v) (fun r s' => r = (es.any fun e => deq e d) ∧ LoopI X pins σ H s') X.xe s') X.xe) a u es.length (fun i => match es[i]? with | some e => deq e d | none => false) (LoopI X pins σ H) (fun s' z => ?_) (fun s' z => ?_) ⟨H, I, Ext.rfl'⟩
    · obtain ⟨H1, I1, e1⟩ := id z
      obtain ⟨its, r1, p1, _⟩ := I1.list (hs.ext e1)
      exact ⟨its.toArray, p1.isList, by rw [List.size_toArray, ← r1.length, ← l1.length], fun i h1 => item l1 r1 i h1 s' z⟩
    · rw [eqr _ rfl]
      exact wpAny_truthy_bool ⟨rfl, z⟩
  · obtain ⟨a, ys, rfl, hs, l1⟩ := he
    cases (show v = _ from ry)
    obtain ⟨its, r1, p1, _⟩ := I.tuple hs
    have e1 : its.toArray.size = es.length := by rw [List.size_toArray, ← r1.length, ← l1.length]
    obtain ⟨n', dd, sl, ho⟩ := isTup_obj p1
    refine wpAny_contains_slot (ti_tuple p1) F.slot_tuple_contains (call_here F.slot_tuple_contains (ti_tuple p1) F.entry_tuple_contains (F.args_tuple_contains_2 _ _) ?_)
    refine tuple_containsB (R := wants (fun v s' => wpAny (model X.prog X.w) A (truthy v) (fun r s' => r = (es.any fun e => deq e d) ∧ LoopI X pins σ H s') X.xe s') X.xe) a u its.toArray n' dd sl (fun i => match es[i]? with | some e => deq e d | none => false) (LoopI X pins σ H) (fun i h1 s' z => item l1 r1 i h1 s' z) (fun s' z => ?_) ho ⟨H, I, Ext.rfl'⟩
    rw [e1, eqr _ rfl]
    exact wpAny_truthy_bool ⟨rfl, z⟩
end
end LxE
namespace L2
open PySem PySem.Spec PyProof.Rows
/-! the operators -/
def rEqO (K : PySem.W.Frag) (shp : Addr → List Str → List Dt → Prop) : R2 := fun x y H Q => ∃ d e, Is K H d x ∧ Is K H e y ∧ okD shp d ∧ okD shp e ∧ dep d ≤ 8 ∧ ∀ H', Ext H H' → Q (.bl (deq d e)) H'
def rNeO (K : PySem.W.Frag) (shp : Addr → List Str → List Dt → Prop) : R2 := fun x y H Q => ∃ d e, Is K H d x ∧ Is K H e y ∧ okD shp d ∧ okD shp e ∧ dep d ≤ 8 ∧ (LxE.kd d = LxE.kd e ∨ LxE.kd d = 6) ∧ ∀ H', Ext H H' → Q (.bl (!deq d e)) H'
def rInO (K : PySem.W.Frag) (shp : Addr → List Str → List Dt → Prop) : R2 := fun x y H Q => ∃ d es, Is K H d x ∧ (Is K H (.lst es) y ∨ Is K H (.tup es) y) ∧ okD shp d ∧ okL shp es ∧ depL es ≤ 8 ∧ ∀ H', Ext H H' → Q (.bl (es.any fun e => deq e d)) H'
def rNiO (K : PySem.W.Frag) (shp : Addr → List Str → List Dt → Prop) : R2 := fun x y H Q => ∃ d es, Is K H d x ∧ (Is K H (.lst es) y ∨ Is K H (.tup es) y) ∧ okD shp d ∧ okL shp es ∧ depL es ≤ 8 ∧ ∀ H', Ext H H' → Q (.bl (!es.any fun e => deq e d)) H'
section
variable {X : Cx} {k m : Nat} {shp : Addr → List Str → List Dt → Prop}
theorem op_eqO (T : EqTab X.prog X.w X.K X.mg X.base k shp) (hr : Room m X.A) (hm : k + 9 ≤ m) : OpR X (compareOp .Eq) (rEqO X.K shp) := by
  intro pins s σ H x y v u Q I rx ry hq
  obtain ⟨d, e, hd, he, od, oe, hn, q⟩ := hq
  show wpAny (model X.prog X.w) X.A (richCompare .Eq v u) (EP X pins σ Q) X.xe s
  refine wpAny_mono (LxE.rc_own T 8 d e x y v u X.A pins s H hn od oe hd he rx ry ⟨hr.mono (by omega), rfl⟩ I) (fun r s' z => ?_) fun _ _ x => x
  obtain ⟨hr', H', I', e'⟩ := z
  subst hr'
  exact ⟨.bl _, H', I', rfl, q H' e'⟩
theorem op_neO (T : EqTab X.prog X.w X.K X.mg X.base k shp) (N : ∀ C fs ds, shp C fs ds → LxE.NeFacts X.K C) (hr : Room m X.A) (hm : k + 9 ≤ m) : OpR X (compareOp .NotEq) (rNeO X.K shp) := by
  intro pins s σ H x y v u Q I rx ry hq
  obtain ⟨d, e, hd, he, od, oe, hn, hk, q⟩ := hq
  show wpAny (model X.prog X.w) X.A (richCompare .NotEq v u) (EP X pins σ Q) X.xe s
  refine wpAny_mono (LxE.rcn_own T N 8 d e x y v u X.A hn od oe hd he rx ry ⟨hr.mono (by omega), rfl⟩ I hk) (fun r s' z => ?_) fun _ _ x => x
  obtain ⟨hr', H', I', e'⟩ := z
  subst hr'
  exact ⟨.bl _, H', I', rfl, q H' e'⟩
theorem op_inO (T : EqTab X.prog X.w X.K X.mg X.base k shp) (hr : Room m X.A) (hm : k + 9 ≤ m) : OpR X (compareOp .In) (rInO X.K shp) := by
  intro pins s σ H x y v u Q I rx ry hq
  obtain ⟨d, es, hd, he, od, oe, hn, q⟩ := hq
  show wpAny (model X.prog X.w) X.A (do return .bool (← contains u v)) (EP X pins σ Q) X.xe s
  refine wpAny_bind (wpAny_mono (LxE.in_own T 8 d es x y v u X.A hn od oe hd he rx ry ⟨hr.mono (by omega), rfl⟩ I) (fun r s' z => ?_) fun _ _ x => x)
  obtain ⟨hr', H', I', e'⟩ := z
  subst hr'
  exact wpAny_pure ⟨.bl _, H', I', rfl, q H' e'⟩
theorem op_niO (T : EqTab X.prog X.w X.K X.mg X.base k shp) (hr : Room m X.A) (hm : k + 9 ≤ m) : OpR X (compareOp .NotIn) (rNiO X.K shp) := by
  intro pins s σ H x y v u Q I rx ry hq
  obtain ⟨d, es, hd, he, od, oe, hn, q⟩ := hq
  show wpAny (model X.prog X.w) X.A (do return .bool (!(← contains u v))) (EP X pins σ Q) X.xe s
  refine wpAny_bind (wpAny_mono (LxE.in_own T 8 d es x y v u X.A hn od oe hd he rx ry ⟨hr.mono (by omega), rfl⟩ I) (fun r s' z => ?_) fun _ _ x => x)
  obtain ⟨hr', H', I', e'⟩ := z
  subst hr'
  exact wpAny_pure ⟨.bl _, H', I', rfl, q H' e'⟩
end
end L2

namespace L2
open PySem PySem.Spec PyProof.Rows
/-! ### type(x), is of types -/
def tyD : Dt → V
  | .non => .ty "NoneType" | .bl _ => .ty "bool" | .int _ => .ty "int" | .str _ => .ty "str" | .lst _ => .ty "list" | .tup _ => .ty "tuple" | .dic _ _ => .ty "dict" | .ins C _ _ => .ref C
def rTypeO (K : PySem.W.Frag) : List V → Hp → VK → Prop := fun xs H Q => ∃ x d, xs = [x] ∧ Is K H d x ∧ Q (tyD d) H
section
variable {X : Cx}
theorem call_typeO : CallR X (.type "type") (rTypeO X.K) := by
  intro pins s σ H xs us Q I r h
  obtain ⟨x, d, rfl, hd, q⟩ := h
  obtain ⟨u, rfl, rx⟩ := vals1 r
  by_cases h6 : LxE.kd d = 6
  · cases d <;> first | (exfalso; simp [LxE.kd] at h6; done) | skip
    rename_i C fs ds
    obtain ⟨a, dx, kvs, rfl, hs, _, _⟩ := hd
    cases (show u = _ from rx)
    obtain ⟨mA, O, _⟩ := ins_get I.hok hs
    obtain ⟨od, J, _⟩ := O.look
    exact PySem.W.kto_own J ⟨.ref C, H, I, rfl, q⟩
  · have fin : ∀ T, s.TypeIs u T → (Value.type T == Value.type "builtin_function_or_method") = false → tyD d = .ty T → wpAny (model X.prog X.w) X.A (call (.type "type") [u]) (EP X pins σ Q) X.xe s := fun T h1 h2 h3 => by
      rw [h3] at q
      exact call_type_of h1 h2 ⟨.ty T, H, I, rfl, q⟩
    cases d with
    | non => cases (show x = _ from hd); cases (show u = _ from rx); exact fin "NoneType" rfl (by decide +kernel) rfl
    | bl b => cases (show x = _ from hd); cases (show u = _ from rx); exact fin "bool" rfl (by decide +kernel) rfl
    | int i => cases (show x = _ from hd); obtain ⟨t, rfl⟩ := (show ∃ t, u = Value.int _ t from rx); exact fin "int" rfl (by decide +kernel) rfl
    | str i => cases (show x = _ from hd); obtain ⟨t, rfl⟩ := (show ∃ t, u = Value.str _ t from rx); exact fin "str" rfl (by decide +kernel) rfl
    | lst ds =>
      obtain ⟨a, xs, rfl, hs, _⟩ := hd
      cases (show u = _ from rx)
      obtain ⟨_, _, p, _⟩ := I.list hs
      exact fin "list" (LxE.ti_list p.isList) (by decide +kernel) rfl
    | tup ds =>
      obtain ⟨a, xs, rfl, hs, _⟩ := hd
      cases (show u = _ from rx)
      obtain ⟨_, _, p, _⟩ := I.tuple hs
      exact fin "tuple" (LxE.ti_tuple p) (by decide +kernel) rfl
    | dic ks ds =>
      obtain ⟨a, xs, rfl, hs, _⟩ := hd
      cases (show u = _ from rx)
      obtain ⟨_, _, va, _, o⟩ := (show ObjOk X.prog X.w H s.heap a (.dK xs) from I.hok a _ hs)
      exact fin "dict" o.typeIs (by decide +kernel) rfl
    | ins C fs ds => exact absurd rfl h6
/-- C is T: a class of the text, and any type -/
def rIsT (K : PySem.W.Frag) : R2 := fun x y H Q => ∃ C, x = V.ref C ∧ ((∃ T, y = V.ty T ∧ Q (.bl false) H) ∨ (∃ C', y = V.ref C' ∧ (C = C' ∨ (PySem.W.makesIn K C = true ∧ PySem.W.makesIn K C' = true)) ∧ Q (.bl (decide (C = C'))) H))
theorem op_is_ty : OpR X (compareOp .Is) (rIsT X.K) := by
  intro pins s σ H x y v u Q I rx ry h
  obtain ⟨C, rfl, ⟨T, rfl, q⟩ | ⟨C', rfl, hab, q⟩⟩ := h
  · cases (show v = _ from rx)
    cases (show u = _ from ry)
    show wpAny _ _ (do return Value.bool (← isSame (.ref C) (.type T))) _ _ _
    refine wpAny_bind (wpAny_of_eq (rfl : isSame (.ref C) (.type T) = pure false) ?_)
    exact wpAny_pure ⟨.bl false, H, I, rfl, q⟩
  · exact op_is_cls pins s σ H _ _ v u Q I rx ry ⟨C, C', rfl, rfl, hab, q⟩
end
/-! ### own exceptions with fields: their __init__, raise, as they are caught -/
def spX (C : Addr) (n : Nat) (fo : List V → List (Str × V)) : Sp := fun vs H Q _ => ∃ (H0 : Hp) (a : Addr) (ws : List V), vs = .ref a :: ws ∧ ws.length = n ∧ H0 a = none ∧ H = upd H0 a (exo a C none) ∧
  ∀ d, H0 d = none → d ≠ a → Q .non (upd (upd H0 d (exd d (fo ws))) a (exo a C (some d)))
theorem exo1 {H0 : Hp} {a d : Addr} {o o' e : HO} (hne : d ≠ a) : upd (upd (upd H0 a o) d e) a o' = upd (upd H0 d e) a o' := by
  funext b
  by_cases h1 : b = a
  · rw [h1, upd_same, upd_same]
  · rw [upd_ne h1, upd_ne h1]
    by_cases h2 : b = d
    · rw [h2, upd_same, upd_same]
    · rw [upd_ne h2, upd_ne h2, upd_ne h1]
theorem exo2 {H0 : Hp} {a d : Addr} {o' e e' : HO} (hne : d ≠ a) : upd (upd (upd H0 d e) a o') d e' = upd (upd H0 d e') a o' := by
  funext b
  by_cases h1 : b = d
  · rw [h1, upd_same, upd_ne hne, upd_same]
  · rw [upd_ne h1]
    by_cases h2 : b = a
    · rw [h2, upd_same, upd_same]
    · rw [upd_ne h2, upd_ne h2, upd_ne h1, upd_ne h1]
theorem exo3 {H0 : Hp} {a d : Addr} {o' e e' : HO} (ha : H0 a = none) (hne : d ≠ a) : upd (del (upd (upd H0 d e) a o') a) d e' = upd H0 d e' := by
  funext b
  by_cases h1 : b = d
  · rw [h1, upd_same, upd_same]
  · rw [upd_ne h1, upd_ne h1]
    by_cases h2 : b = a
    · rw [h2, del_same, ha]
    · rw [del_ne h2, upd_ne h2, upd_ne h1]
/-- what of the text an own exception class with an __init__ must have -/
structure XCls (K : PySem.W.Frag) (mg : Str → Option Value) (x : Str) (C fI : Addr) (fd : FuncData) (ps : List Str) : Prop where
  T : OexC K C
  m : mg x = some (.ref C)
  i : PySem.W.findIn K (.ref C) "__init__" = some (some (.ref fI))
  t : PySem.W.typeIn K (.ref fI) = some (.type "function")
  b : Binds K fd ps []
  isC : ExcC K C
  xf : XfC K C
/-- the reading of raise C(e, ..) behind its arguments -/
theorem rz_ok {C : Addr} {n : Nat} {fo : List V → List (Str × V)} {ws : List V} {H1 : Hp} {Q : XK} (hn : ws.length = n) (h10 : n ≤ 10) (k : ∀ d, H1 d = none → Q (.ref C) (some d) (upd H1 d (.xd (fo ws)))) :
    ws.length ≤ 1000 ∧ ∀ a, H1 a = none → spX C n fo (.ref a :: (ws ++ [])) (upd H1 a (exo a C none))
      (fun v H2 => v = .non ∧ ∃ (d : Addr) (fs : List (Str × V)), H2 a = some (exo a C (some d)) ∧ H2 d = some (exd d fs) ∧ H1 d = none ∧ Q (.ref C) (some d) (upd (del H2 a) d (.xd fs))) (fun _ _ _ => False) := by
  refine ⟨by omega, fun a ha => ⟨H1, a, ws, by rw [List.append_nil], hn, ha, rfl, fun d hd hne => ⟨rfl, d, fo ws, upd_same, ?_, hd, ?_⟩⟩⟩
  · rw [upd_ne hne, upd_same]
  · rw [exo3 ha hne]
    exact k d hd
section
variable {X : Cx} {x : Str} {C fI : Addr} {fd : FuncData} {ps : List Str} {k n : Nat} {fo : List V → List (Str × V)} {e : Expr} {es : List Expr} {ta : TA} {p pos pos2 : Pos} {W : WX}
/-- raise C(e, ..) -/
theorem ps_raiseX (T : XCls X.K X.mg x C fI fd ps) (F1 : FnOk X.prog X.w X.K X.mg X.base CX0 k fI fd ps (spX C n fo)) (hr : Room (k + 1) X.A) (hc : X.calm = true) (tk : Takes X W) (hg : Gl X x) (ha : PA X (e :: es) ta)
    (hdb : (x == ("__debug__" : Str)) = false := by decide) (he : starEach (e :: es) X.env = (false, eval e X.env) :: starEach es X.env := by rfl) (hpl : (backTo pos (starEach es X.env)).any (·.1) = false := by rfl) :
    PS X (.Raise (some (.Call (.Name x p) (e :: es) [] pos)) none pos2) (fun _ σ H => tMkO C (spX C n fo) [] ta σ H fun cls d H' => W cls d σ H') :=
  ps_raise hc tk (pmk_oex (k := k) (dvs := []) (ds := []) T.T T.i T.t F1 hr T.b .nil (fun _ _ _ _ _ _ _ h => h.elim) hg T.m ha hdb he hpl)
end
/-! ### an own class made where what is raised is wished for at the slots -/
section
variable {X : Cx} {CX : CXT} {k : Nat} {f C : Addr} {fd : FuncData} {ps : List Str} {sp : Sp} {E : St → XK} {x : Str} {p pos : Pos} {e : Expr} {es : List Expr} {t : TA}
theorem run_makeS {pins : List (Addr × Obj)} {σ : St} {H : Hp} {s : Shared} {Q : VK} {us : List Value} {vs : List V} (M : Mk X.K C f) (F : FnOk X.prog X.w X.K X.mg X.base CX k f fd ps sp) (hr : Room (k + 1) X.A) (hb : Binds X.K fd ps [])
    (hx : PassesAt CX X σ (E σ)) (I : Inv X pins σ H s) (r : Vals vs us)
    (h : ∀ x dx, H x = none → H dx = none → dx ≠ x → sp (.ref x :: vs) (upd (upd H dx (.own x)) x (.ins C dx [])) (fun v H2 => v = .non ∧ Q (.ref x) H2) (E σ)) :
    wpAny (model X.prog X.w) X.A (call (.ref C) us) (EP X pins σ Q) X.xe s := by
  have hq := h (s.heap.objs.size + 1) s.heap.objs.size (I.hok.fresh (Nat.le_succ _)) (I.hok.fresh (Nat.le_refl _)) (Nat.ne_of_lt (Nat.lt_succ_self _))
  have I2 := Inv.made (C := C) I
  have r2 : Vals (V.ref (s.heap.objs.size + 1) :: vs) (Value.ref (s.heap.objs.size + 1) :: us) := .cons rfl r
  have hl : (Value.ref (s.heap.objs.size + 1) :: us).length = ps.length := by
    have e := r2.length
    rw [F.len _ _ _ _ hq] at e
    exact e.symm
  refine wpAny_call (make_map (f := f) I.kIn M.makes M.init (beq_iff_eq.mp M.fn) (codeAny_mono (F.run _ X.stack _ _ ⟨Value.ref (s.heap.objs.size + 1) :: us, []⟩ (Value.ref (s.heap.objs.size + 1) :: us) _ _ (E σ) (hr.make C us [])
    (I2.env0.make C us []) (by
      have b := hb _ (Value.ref (s.heap.objs.size + 1) :: us) I2.kIn (by rw [List.append_nil]; exact hl)
      rw [List.append_nil] at b
      exact b) r2 hq) fun r s' hq' => ?_))
  cases r with
  | error e => exact hx pins _ _ e s' I2 hq'
  | ok fl =>
    cases fl with
    | ret u =>
      obtain ⟨v, H', I3, rv, ev, q3⟩ := I2.after hq'
      subst ev
      exact ⟨rv, ⟨V.ref (s.heap.objs.size + 1), H', I3, rfl, q3⟩⟩
    | next => exact False.elim hq'
    | brk => exact False.elim hq'
    | cont => exact False.elim hq'
def tMakeS (C : Addr) (sp : Sp) (E : St → XK) (t : TA) : TE := fun σ H Q => t σ H fun vs H1 => ∀ x dx, H1 x = none → H1 dx = none → dx ≠ x →
  sp (.ref x :: vs) (upd (upd H1 dx (.own x)) x (.ins C dx [])) (fun v H2 => v = .non ∧ Q (.ref x) H2) (E σ)
theorem pe_makeS (M : Mk X.K C f) (F : FnOk X.prog X.w X.K X.mg X.base CX k f fd ps sp) (hr : Room (k + 1) X.A) (hg : Gl X x) (hm : X.mg x = some (.ref C)) (hb : Binds X.K fd ps []) (hx : ∀ σ, PassesAt CX X σ (E σ))
    (ha : PA X (e :: es) t) (hdb : (x == ("__debug__" : Str)) = false := by decide) (he : starEach (e :: es) X.env = (false, eval e X.env) :: starEach es X.env := by rfl) (hpl : (backTo pos (starEach es X.env)).any (·.1) = false := by rfl) :
    PE X (.Call (.Name x p) (e :: es) [] pos) (tMakeS C sp E t) := by
  refine ⟨fun pins s σ H Q I h => ?_⟩
  refine wpAny_Call_Name_kw (ld_glob I hg hm ?_ hdb)
  refine PySem.W.callWith_K (h₀ := X.base) I.ok.mod.kin M.kp (thn (ha.run pos pins s σ H _ I h) fun us s1 ⟨vs, H1, I1, r, q⟩ => ⟨I1.kIn, ?_⟩) he hpl
  exact run_makeS M F hr hb (hx σ) I1 r q
end
end L2
namespace L2
open PySem
theorem eqFacts_mk {K : PySem.W.Frag} {C : Addr} (a1 : PySem.W.notFirst K C (.type "NoneType") = true) (b1 : PySem.W.subIn K (.ref C) (.type "NoneType") = some false) (a2 : PySem.W.notFirst K C (.type "bool") = true) (b2 : PySem.W.subIn K (.ref C) (.type "bool") = some false)
    (a3 : PySem.W.notFirst K C (.type "int") = true) (b3 : PySem.W.subIn K (.ref C) (.type "int") = some false) (a4 : PySem.W.notFirst K C (.type "str") = true) (b4 : PySem.W.subIn K (.ref C) (.type "str") = some false)
    (a5 : PySem.W.notFirst K C (.type "list") = true) (b5 : PySem.W.subIn K (.ref C) (.type "list") = some false) (a6 : PySem.W.notFirst K C (.type "tuple") = true) (b6 : PySem.W.subIn K (.ref C) (.type "tuple") = some false)
    (a7 : PySem.W.notFirst K C (.type "dict") = true) (b7 : PySem.W.subIn K (.ref C) (.type "dict") = some false) : eqFacts K C = true := by
  unfold eqFacts tyNames
  simp only [List.all_cons, List.all_nil, a1, a2, a3, a4, a5, a6, a7, b1, b2, b3, b4, b5, b6, b7]
  rfl
end L2
namespace L2
open PySem
theorem kit_self {K : PySem.W.Frag} {C : Addr} : PySem.W.kitOne K (.ref C) (.ref C) = some true := by
  unfold PySem.W.kitOne
  rw [if_pos (by simp)]
theorem kit_two {K : PySem.W.Frag} {C E : Addr} {b : Bool} (hne : C ≠ E) (hd : PySem.W.hasDictIn K E = true) (ht : PySem.W.typeIn K (.ref E) = some (.type "type")) (h4 : PySem.W.subIn K (.ref C) (.ref E) = some b) : PySem.W.kitOne K (.ref C) (.ref E) = some b := by
  obtain ⟨cd, hc, _⟩ := PySem.W.any_some hd
  have e1 : (Value.ref C == Value.ref E) = false := beq_eq_false_iff_ne.mpr (fun e => hne (Value.ref.inj e))
  have e2 : ((PySem.W.clsIn K E).isSome && PySem.W.typeIn K (.ref E) == some (.type "type")) = true := by rw [hc, ht] <;> rfl
  unfold PySem.W.kitOne
  rw [if_neg (by rw [e1]; exact Bool.false_ne_true)]
  show (if ((PySem.W.clsIn K E).isSome && PySem.W.typeIn K (.ref E) == some (.type "type")) = true then PySem.W.subIn K (.ref C) (.ref E) else none) = some b
  rw [if_pos e2]
  exact h4
end L2

namespace L2
open PySem PySem.Spec PyProof.Rows
/-! ### a list of ints that is drawn from, and the rest of the heap -/
def WellAt (H : Hp) (w : Addr) : Prop := ∃ a b c : Int, H w = some (.lst [.int a, .int b, .int c])
/-- all but w is as it was -/
abbrev DE (w : Addr) (H H' : Hp) : Prop := Ext (del H w) (del H' w)
theorem del_ext {H : Hp} {w : Addr} : Ext (del H w) H := fun a o e => by
  by_cases h : a = w
  · rw [h, del_same] at e
    cases e
  · rw [del_ne h] at e
    exact e
theorem DE.of {w : Addr} {H H' : Hp} (e : Ext H H') : DE w H H' := fun a o h => by
  by_cases h1 : a = w
  · rw [h1, del_same] at h
    cases h
  · rw [del_ne h1] at h ⊢
    exact e a o h
theorem DE.rfl' {w : Addr} {H : Hp} : DE w H H := Ext.rfl'
theorem DE.upd {w : Addr} {H : Hp} {o : HO} : DE w H (upd H w o) := fun a o' h => by
  by_cases h1 : a = w
  · rw [h1, del_same] at h
    cases h
  · rw [del_ne h1] at h ⊢
    rw [upd_ne h1]
    exact h
theorem DE.to {w : Addr} {H H' : Hp} (e : DE w H H') {b : Addr} {o : HO} (h : H b = some o) (hb : b ≠ w) : H' b = some o := by
  have z := e b o (by rw [del_ne hb]; exact h)
  rw [del_ne hb] at z
  exact z
theorem WellAt.ext {H H' : Hp} {w : Addr} (h : WellAt H w) (e : Ext H H') : WellAt H' w := by
  obtain ⟨a, b, c, h⟩ := h
  exact ⟨a, b, c, e _ _ h⟩
theorem WellAt.at (a b c : Int) {H : Hp} {w : Addr} : WellAt (upd H w (.lst [.int a, .int b, .int c])) w := ⟨a, b, c, upd_same⟩
theorem WellAt.ne {H : Hp} {w p : Addr} (h : WellAt H w) (hp : H p = none) : p ≠ w := fun e => by
  obtain ⟨a, b, c, h⟩ := h
  rw [e, h] at hp
  cases hp
theorem DE.fresh {w : Addr} {H H' : Hp} (e : DE w H H') {p : Addr} (hw : WellAt H' w) (hp : H' p = none) : del H w p = none := by
  cases h : del H w p with
  | none => rfl
  | some o =>
    have z := e p o h
    rw [del_ne (hw.ne hp), hp] at z
    cases z
theorem DE.mut {w D : Addr} {H H' : Hp} {o : HO} (e : DE w H H') (h : del H w D = none) : DE w H (L2.upd H' D o) := fun a o' ha => by
  by_cases h1 : a = D
  · rw [h1, h] at ha
    cases ha
  · have z := e a o' ha
    by_cases h2 : a = w
    · rw [h2, del_same] at z
      cases z
    · rw [del_ne h2] at z ⊢
      rw [upd_ne h1]
      exact z
theorem Ext.mut {D : Addr} {H H' : Hp} {o : HO} (e : Ext H H') (h : H D = none) : Ext H (L2.upd H' D o) := fun a o' ha => by
  by_cases h1 : a = D
  · rw [h1, h] at ha
    cases ha
  · rw [upd_ne h1]
    exact e a o' ha
theorem Ext.fresh {H H' : Hp} (e : Ext H H') {p : Addr} (h : H' p = none) : H p = none := by
  cases q : H p with
  | none => rfl
  | some o =>
    rw [e p o q] at h
    cases h
theorem WellAt.upd {H : Hp} {w D : Addr} {o : HO} (h : WellAt H w) (hD : D ≠ w) : WellAt (L2.upd H D o) w := by
  obtain ⟨a, b, c, h⟩ := h
  exact ⟨a, b, c, by rw [upd_ne hD.symm]; exact h⟩
theorem SqL.de {K : PySem.W.Frag} {H : Hp} {w a : Addr} {xs : List V} (h : SqL K (del H w) a xs) : SqL K H a xs := h.ext del_ext
/-- a list of ints as drawn data -/
theorem is_lst {K : PySem.W.Frag} {H : Hp} {a : Addr} {xs : List V} {ds : List Dt} (h : H a = some (.lst xs)) (l : IsL K H ds xs) : Is K H (.lst ds) (.ref a) := ⟨a, xs, rfl, SqL.of h, l⟩
theorem is_tup {K : PySem.W.Frag} {H : Hp} {a : Addr} {xs : List V} {ds : List Dt} (h : H a = some (.tup xs)) (l : IsL K H ds xs) : Is K H (.tup ds) (.ref a) := ⟨a, xs, rfl, SqT.of h, l⟩
theorem alloc_ext {H : Hp} {p : Addr} {o : HO} (h : H p = none) : Ext H (upd H p o) := Ext.upd h
theorem at3a {x y z : V} : atI [x, y, z] 0 = some x := atI_nat (xs := [x, y, z]) (j := 0) rfl
theorem at3b {x y z : V} : atI [x, y, z] 1 = some y := atI_nat (xs := [x, y, z]) (j := 1) rfl
theorem at3c {x y z : V} : atI [x, y, z] 2 = some z := atI_nat (xs := [x, y, z]) (j := 2) rfl
theorem cpow18 : CPow 10 18 := ⟨by decide, by decide, by decide⟩
theorem cpow12 : CPow 10 12 := ⟨by decide, by decide, by decide⟩
theorem cpow6 : CPow 10 6 := ⟨by decide, by decide, by decide⟩
/-- atI at a drawn place -/
theorem atI_of {xs : List V} {i : Int} (h0 : 0 ≤ i) (h1 : i < (xs.length : Int)) : ∃ x, xs[i.toNat]? = some x ∧ atI xs i = some x := by
  have h2 : i.toNat < xs.length := by omega
  obtain ⟨n, rfl⟩ : ∃ n : Nat, i = (n : Int) := ⟨i.toNat, by omega⟩
  exact ⟨_, List.getElem?_eq_getElem h2, atI_nat (List.getElem?_eq_getElem h2)⟩
theorem fmod_bounds {a m : Int} (h : 0 < m) : 0 ≤ a.fmod m ∧ a.fmod m < m := by
  rw [Int.fmod_eq_emod_of_nonneg a (Int.le_of_lt h)]
  exact ⟨Int.emod_nonneg _ (by omega), Int.emod_lt_of_pos _ h⟩
end L2
namespace L2
theorem tyes {σ : St} {H : Hp} {A B : Hp → Prop} (h : A H) : tYes σ H (fun b H3 => if b = true then A H3 else B H3) := by
  show (if true = true then A H else B H)
  rw [if_pos rfl]
  exact h
end L2
namespace L2
open PySem PySem.Spec PyProof.Rows
/-! ### a list or a tuple -/
def SqQ (K : PySem.W.Frag) (H : Hp) (a : Addr) (xs : List V) : Prop := SqL K H a xs ∨ SqT K H a xs
theorem SqQ.ext {K : PySem.W.Frag} {H H' : Hp} {a : Addr} {xs : List V} (h : SqQ K H a xs) (e : Ext H H') : SqQ K H' a xs := h.elim (fun h => .inl (h.ext e)) fun h => .inr (h.ext e)
def iSeq (K : PySem.W.Frag) (tl : TE) : TI := fun σ H R => tl σ H fun x H1 => ∃ a, x = .ref a ∧ (((∃ xs, SqL K H1 a xs) ∧ R (Itl K a) H1) ∨ ((∃ xs, SqT K H1 a xs) ∧ R (Itt K a) H1))
theorem pi_seq {X : Cx} {tg : Expr} {l : Expr} {tl : TE} (hl : PE X l tl) : PI X tg l (iSeq X.K tl) := by
  refine ⟨fun pins s σ H R I h => ?_⟩
  refine thn (hl.run pins s σ H _ I h) fun v s1 ⟨x, H1, I1, r1, q1⟩ => ?_
  obtain ⟨a, e, ⟨⟨xs, hq⟩, q⟩ | ⟨⟨xs, hq⟩, q⟩⟩ := q1
  · subst e
    cases r1
    obtain ⟨its, rv, p, hz⟩ := I1.list hq
    refine wpAny_pyIter_list p.isList ?_
    refine ⟨s1.heap.objs.size, [s1.heap.objs.size], _, _, H1, rfl, I1.kept (t' := s1.toks) fun b o e => Heap.get?_push_of_some _ e, turn_list a _, ⟨_, Heap.get?_push_size _ rfl, rfl, rfl⟩, fun b hb => ?_, q⟩
    have e : b = s1.heap.objs.size := by simpa using hb
    subst e
    exact I1.fpOk (Nat.le_refl _) (I1.hok.fresh (Nat.le_refl _))
  · subst e
    cases r1
    obtain ⟨its, rv, p, hz⟩ := I1.tuple hq
    refine wpAny_pyIter_tuple (show s1.heap.IsTuple a its.toArray from p) ?_
    refine ⟨s1.heap.objs.size, [s1.heap.objs.size], _, _, H1, rfl, I1.kept (t' := s1.toks) fun b o e => Heap.get?_push_of_some _ e, turn_tuple a _, ⟨_, Heap.get?_push_size _ rfl, rfl, rfl⟩, fun b hb => ?_, q⟩
    have e : b = s1.heap.objs.size := by simpa using hb
    subst e
    exact I1.fpOk (Nat.le_refl _) (I1.hok.fresh (Nat.le_refl _))
/-- the reading of for x in a, behind a: what stood at H0 stands -/
theorem for_seq {K : PySem.W.Frag} {a : Addr} {xs : List V} {g : TG} {tb : TS} {D : Ends} {σ : St} {H0 H : Hp} (hq : SqQ K H0 a xs) (Pv : Nat → St → Hp → Prop) (h0 : Pv 0 σ H) (he : ∀ i σ H, i ≤ xs.length → Pv i σ H → Ext H0 H)
    (hs : ∀ i x σ H, xs[i]? = some x → Pv i σ H → g x σ H fun σ2 H2 => tb { D with nx := Pv (i + 1), ct := Pv (i + 1), bk := D.nx } σ2 H2) (hd : ∀ σ H, Pv xs.length σ H → D.nx σ H) :
    ((∃ ys, SqL K H a ys) ∧ ∃ W : Nat → Nat → St → Hp → Prop, (∃ m, W 0 m σ H) ∧ ∀ i m σ H, W i m σ H →
      ((Itl K a).stop i H ∧ D.nx σ H) ∨ ((Itl K a).go i H ∧ ∃ N : St → Hp → Prop, (∀ σ' H', N σ' H' → ∃ m', m' < m ∧ W (i + 1) m' σ' H') ∧ ∀ x H', (Itl K a).yld i H x H' → g x σ H' fun σ2 H2 => tb { D with nx := N, ct := N, bk := D.nx } σ2 H2)) ∨
    ((∃ ys, SqT K H a ys) ∧ ∃ W : Nat → Nat → St → Hp → Prop, (∃ m, W 0 m σ H) ∧ ∀ i m σ H, W i m σ H →
      ((Itt K a).stop i H ∧ D.nx σ H) ∨ ((Itt K a).go i H ∧ ∃ N : St → Hp → Prop, (∀ σ' H', N σ' H' → ∃ m', m' < m ∧ W (i + 1) m' σ' H') ∧ ∀ x H', (Itt K a).yld i H x H' → g x σ H' fun σ2 H2 => tb { D with nx := N, ct := N, bk := D.nx } σ2 H2)) := by
  have e0 := he 0 σ H (Nat.zero_le _) h0
  rcases hq with hq | hq
  · exact .inl ⟨⟨xs, hq.ext e0⟩, for_list Pv h0 (fun i σ H hi p => hq.ext (he i σ H hi p)) hs hd⟩
  · exact .inr ⟨⟨xs, hq.ext e0⟩, for_tup Pv h0 (fun i σ H hi p => hq.ext (he i σ H hi p)) hs hd⟩
theorem lc_seq {K : PySem.W.Frag} {a : Addr} {xs : List V} {g : TG} {tt : TT} {te : TE} {vs : List Nat} {σ : St} {H0 H1 : Hp} {Q : Addr → Hp → Prop} (hq : SqQ K H0 a xs) (e1 : Ext H0 H1)
    (Pv : Addr → Nat → Hp → Prop) (h0 : ∀ D, H1 D = none → Pv D 0 (upd H1 D (.lst []))) (he : ∀ D i H, i ≤ xs.length → Pv D i H → Ext H0 H)
    (hs : ∀ D i x H, H1 D = none → xs[i]? = some x → Pv D i H → g x (wipe σ vs) H fun σ2 H2 => wipe σ2 vs = wipe σ vs ∧ tt σ2 H2 fun b H3 =>
      if b = true then te σ2 H3 fun y H4 => ∃ acc, H4 D = some (.lst acc) ∧ acc.length < sizeLine ∧ Pv D (i + 1) (upd H4 D (.lst (acc ++ [y]))) else Pv D (i + 1) H3) (hd : ∀ D H, H1 D = none → Pv D xs.length H → Q D H) :
    ((∃ ys, SqL K H1 a ys) ∧ ∀ D, H1 D = none → ∃ W : Nat → Nat → Hp → Prop, (∃ m, W 0 m (upd H1 D (.lst []))) ∧ ∀ i m H, W i m H →
      ((Itl K a).stop i H ∧ Q D H) ∨ ((Itl K a).go i H ∧ ∃ Nx : Hp → Prop, (∀ H', Nx H' → ∃ m', m' < m ∧ W (i + 1) m' H') ∧ ∀ x H', (Itl K a).yld i H x H' → g x (wipe σ vs) H' fun σ2 H2 => wipe σ2 vs = wipe σ vs ∧ tt σ2 H2 fun b H3 =>
        if b = true then te σ2 H3 fun y H4 => ∃ acc, H4 D = some (.lst acc) ∧ acc.length < sizeLine ∧ Nx (upd H4 D (.lst (acc ++ [y]))) else Nx H3)) ∨
    ((∃ ys, SqT K H1 a ys) ∧ ∀ D, H1 D = none → ∃ W : Nat → Nat → Hp → Prop, (∃ m, W 0 m (upd H1 D (.lst []))) ∧ ∀ i m H, W i m H →
      ((Itt K a).stop i H ∧ Q D H) ∨ ((Itt K a).go i H ∧ ∃ Nx : Hp → Prop, (∀ H', Nx H' → ∃ m', m' < m ∧ W (i + 1) m' H') ∧ ∀ x H', (Itt K a).yld i H x H' → g x (wipe σ vs) H' fun σ2 H2 => wipe σ2 vs = wipe σ vs ∧ tt σ2 H2 fun b H3 =>
        if b = true then te σ2 H3 fun y H4 => ∃ acc, H4 D = some (.lst acc) ∧ acc.length < sizeLine ∧ Nx (upd H4 D (.lst (acc ++ [y]))) else Nx H3)) := by
  rcases hq with hq | hq
  · exact .inl ⟨⟨xs, hq.ext e1⟩, fun D hD => lc_list (xs := xs) (Pv D) (h0 D hD) (fun i H hi p => hq.ext (he D i H hi p)) (fun i x H => hs D i x H hD) (fun H => hd D H hD)⟩
  · exact .inr ⟨⟨xs, hq.ext e1⟩, fun D hD => lc_tup (xs := xs) (Pv D) (h0 D hD) (fun i H hi p => hq.ext (he D i H hi p)) (fun i x H => hs D i x H hD) (fun H => hd D H hD)⟩
end L2
namespace L2
open PySem
/-- no own objects -/
theorem pureTab {P : Program} {w : World} {K : PySem.W.Frag} {mg : Str → Option Value} {base : Heap} : EqTab P w K mg base 0 (fun _ _ _ => False) := ⟨fun _ _ _ h => h.elim, fun _ _ _ _ _ _ h => h.elim⟩
theorem pureNe {K : PySem.W.Frag} : ∀ (C : Addr) (fs : List Str) (ds : List Dt), (fun (_ : Addr) (_ : List Str) (_ : List Dt) => False) C fs ds → LxE.NeFacts K C := fun _ _ _ h => h.elim
theorem pureL_ints : ∀ ns : List Int, pureL (ns.map Dt.int) = true
  | [] => rfl
  | _ :: r => by
    show (true && pureL (r.map Dt.int)) = true
    rw [pureL_ints r] <;> rfl
theorem depL_ints : ∀ ns : List Int, depL (ns.map Dt.int) = 0
  | [] => rfl
  | _ :: r => by
    show max 0 (depL (r.map Dt.int)) = 0
    rw [depL_ints r] <;> rfl
theorem deqL_ints : ∀ ns ms : List Int, deqL (ns.map Dt.int) (ms.map Dt.int) = decide (ns = ms)
  | [], [] => rfl
  | [], _ :: _ => rfl
  | _ :: _, [] => rfl
  | a :: r, b :: q => by
    show (a == b && deqL (r.map Dt.int) (q.map Dt.int)) = decide (a :: r = b :: q)
    rw [deqL_ints r q, Bool.eq_iff_iff]
    simp
end L2
namespace L2
open PySem PySem.Spec PyProof.Rows
/-- isinstance(e, c), e the exception that the suite holds -/
def rIsEX (K : PySem.W.Frag) (a : Addr) (cls : Value) (d : Option Addr) : List V → Hp → VK → Prop := fun xs H Q => ∃ (c : V) (cv : Value) (b : Bool) (D : Addr), xs = [.ref a, c] ∧ (∀ u, RelV c u → u = cv) ∧ cls = .ref D ∧ ExcC K D ∧ PySem.W.kitOne K (.ref D) cv = some b ∧
  (d = none ∨ ∃ dd fs, d = some dd ∧ H dd = some (.xd fs)) ∧ Q (.bl b) H
theorem call_isEX {X : Cx} {a : Addr} {cls : Value} {d : Option Addr} {oe : Obj} {pn : List (Addr × Obj)} (hz : Zc cls d oe) (hf : ∃ vs, oe.data = .fields vs) : CallR (X.suite a ((a, oe) :: pn)) (.builtin "isinstance") (rIsEX X.K a cls d) := by
  intro pins s σ H xs us Q I r h
  obtain ⟨c, cv, b, D, rfl, hcv, rfl, C, e, hd, q⟩ := h
  rcases hd with rfl | ⟨dd, fs, rfl, hd⟩
  · exact call_isE C hz hf pins s σ H _ us Q I r ⟨c, cv, b, rfl, hcv, e, q⟩
  · exact call_isED C hz hf pins s σ H _ us Q I r ⟨c, cv, b, fs, rfl, hcv, e, hd, q⟩
end L2

namespace LxC
open PySem PySem.Spec PyProof.Rows PyProof.V PySem.Calls L2 PySem.AutoSeq1
open Sem (wp)
theorem list_add_any (l : Addr) (items : Array Value) (n : Nat) (dd : Option Addr) (sl : Array (Option Value)) (b : Addr) (items2 : Array Value) (n2 : Nat) (dd2 : Option Addr) (sl2 : Array (Option Value)) (hc0 : items.size + items2.size ≤ sizeLine) :
    Meets (Builtin.«list.__add__» ⟨[.ref l, .ref b], []⟩) (fun _ R s => s.heap.get? l = some { cls := .type "list", dict := dd, data := .seq items n, slots := sl } ∧ s.heap.get? b = some { cls := .type "list", dict := dd2, data := .seq items2 n2, slots := sl2 } ∧ R (.ok (.ret (Value.ref s.heap.objs.size))) { s with heap := s.heap.push { cls := Value.type "list", data := Data.seq (items ++ items2) }, toks := s.toks }) :=
  .of_wp fun prog w A R s h => by obtain ⟨hp, g, d, tk, os⟩ := s; obtain ⟨hl, hb, h⟩ := h; have f1 := AutoSeq1.idx_int; have f2 := AutoSeq1.sub_tuple_tuple; have f3 := AutoSeq1.sub_list_list; have f4 := AutoSeq1.sub_tuple_list; have f5 := AutoSeq1.sub_list_tuple; wp_walk using wpAny_loadPart' hl, wpAny_loadPart' hb; exact ⟨_, rfl, h⟩
end LxC
namespace L2
open PySem PySem.Spec PyProof.Rows
/-- list + list, looked at -/
def rCatL (K : PySem.W.Frag) : R2 := fun x y H Q => ∃ l b xs zs, x = .ref l ∧ y = .ref b ∧ SqL K H l xs ∧ SqL K H b zs ∧ xs.length + zs.length ≤ sizeLine ∧ ∀ p, H p = none → Q (.ref p) (upd H p (.lst (xs ++ zs)))
theorem op_catL {X : Cx} : OpR X (binaryOp .Add) (rCatL X.K) := by
  intro pins s σ H x y v u Q I rx ry h
  obtain ⟨l, b, xs, zs, rfl, rfl, hH, hB, hz, q⟩ := h
  cases rx
  cases ry
  obtain ⟨its, r, p, z⟩ := I.list hH
  obtain ⟨its2, r2, p2, z2⟩ := I.list hB
  obtain ⟨n, dd, sl, e⟩ := LxE.isList_obj p.isList
  obtain ⟨n2, dd2, sl2, e2⟩ := LxE.isList_obj p2.isList
  have hl := r.length
  have hl2 := r2.length
  refine concat_meets ⟨_, e, rfl⟩ ⟨_, e2, rfl⟩ noFill_list_add seq_list_add PySem.F.slot_list_add PySem.F.entry_list_add (PySem.F.args_list_add_2 _ _) (LxC.list_add_any l its.toArray n dd sl b its2.toArray n2 dd2 sl2 (by rw [List.size_toArray, List.size_toArray]; omega)) ⟨e, e2, ?_⟩
  have ea : its.toArray ++ its2.toArray = (its ++ its2).toArray := by simp
  rw [ea]
  exact ⟨.ref _, _, I.lnew (t' := s.toks) (r.append r2) (by rw [List.length_append]; omega), rfl, q _ I.fresh⟩
/-- keywords bind, no defaults -/
theorem Fun.kbn {K : PySem.W.Frag} {x qual : Str} {st : Stmt} {f : Addr} {fd : FuncData} {ps ks : List Str} {n : Nat} {g : {α : Type} → List α → List α → List α} (F : Fun K x qual st f fd)
    (hrel : ∀ {vs zs : List V} {us ws : List Value}, Vals vs us → Vals zs ws → Vals (g vs zs) (g us ws))
    (h : ∀ (kV doc pm : Value) (an : Option Addr) (cdv ct : Value) (us ws : List Value), us.length = n → ws.length = ks.length → bindArgs (PySem.W.fnOf x qual (defArgs st) (defBody st) (defScope st) .none kV doc pm an cdv ct) ⟨us, ks.zip ws⟩ = pure (ps.zip (g us ws))) : KBn K fd ps n ks (fun us ws => g us ws) (fun vs zs => g vs zs) := by
  obtain ⟨oc, od, kV, doc, pm, an, cdv, ct, osl, rfl, lk, hcd⟩ := F.ex
  exact ⟨fun s us ws _ l1 l2 => .of_eq (h kV doc pm an cdv ct us ws l1 l2), fun r1 r2 => hrel r1 r2⟩
end L2
namespace L2
open PySem PySem.Spec PyProof.Rows
theorem DE.base {p : Addr} {H H1 H2 : Hp} (e : Ext H H1) (h : H p = none) (d : DE p H1 H2) : Ext H H2 := fun a o ha => by
  have hne : a ≠ p := fun z => by rw [z, h] at ha; cases ha
  exact d.to (e a o ha) hne
/-- a comprehension over a list of ints: each item its own int -/
theorem lc_ints {K : PySem.W.Frag} {a : Addr} {ns : List Int} {g : TG} {te : TE} {vs : List Nat} {σ : St} {H1 : Hp} {Q : Addr → Hp → Prop} (f : Int → Int) (hq : SqL K H1 a (ns.map V.int)) (hz : ns.length < 2000)
    (hs : ∀ n ∈ ns, ∀ (H : Hp) (R : V → Hp → Prop), R (.int (f n)) H → g (.int n) (wipe σ vs) H fun σ2 H2 => wipe σ2 vs = wipe σ vs ∧ te σ2 H2 R)
    (hd : ∀ D H', H1 D = none → Ext H1 H' → H' D = some (.lst ((ns.map f).map V.int)) → Q D H') :
    (∃ ys, SqL K H1 a ys) ∧ ∀ D, H1 D = none → ∃ W : Nat → Nat → Hp → Prop, (∃ m, W 0 m (upd H1 D (.lst []))) ∧ ∀ i m H, W i m H →
      ((Itl K a).stop i H ∧ Q D H) ∨ ((Itl K a).go i H ∧ ∃ Nx : Hp → Prop, (∀ H', Nx H' → ∃ m', m' < m ∧ W (i + 1) m' H') ∧ ∀ x H', (Itl K a).yld i H x H' → g x (wipe σ vs) H' fun σ2 H2 => wipe σ2 vs = wipe σ vs ∧ tYes σ2 H2 fun b H3 =>
        if b = true then te σ2 H3 fun y H4 => ∃ acc, H4 D = some (.lst acc) ∧ acc.length < sizeLine ∧ Nx (upd H4 D (.lst (acc ++ [y]))) else Nx H3) := by
  refine ⟨⟨_, hq⟩, fun D hD => lc_list (xs := ns.map V.int) (fun i H' => Ext H1 H' ∧ H' D = some (.lst (((ns.take i).map f).map V.int))) ⟨Ext.upd hD, upd_same⟩ (fun i H' _ p => hq.ext p.1) ?_ ?_⟩
  · rintro i y H' hi ⟨e1, hD1⟩
    obtain ⟨n, hn, rfl⟩ : ∃ n, ns[i]? = some n ∧ y = V.int n := by
      rw [List.getElem?_map] at hi
      cases e : ns[i]? with
      | none => rw [e] at hi; cases hi
      | some n => rw [e] at hi; exact ⟨n, rfl, (Option.some.inj hi).symm⟩
    have hin : i < ns.length := (List.getElem?_eq_some_iff.mp hn).1
    refine hs n (List.mem_of_getElem? hn) H' _ ⟨_, hD1, ?_, e1.mut hD, ?_⟩
    · rw [List.length_map, List.length_map, List.length_take]
      exact Nat.lt_of_lt_of_le (show min i ns.length < 2000 by omega) (by decide)
    · rw [upd_same, List.take_add_one, hn, List.map_append, List.map_append]
      rfl
  · rintro H' ⟨e1, hD1⟩
    rw [List.length_map, List.take_length] at hD1
    exact hd D H' hD e1 hD1
theorem SqT.mut {K : PySem.W.Frag} {H : Hp} {t h : Addr} {xs l : List V} {o : HO} (s : SqT K H t xs) (hh : H h = some (.lst l)) : SqT K (upd H h o) t xs := by
  rcases s with (r | ⟨o', r⟩) | r
  · have hne : t ≠ h := fun e => by rw [e, hh] at r; cases r
    exact .inl (.inl (by rw [upd_ne hne]; exact r))
  · have hne : t ≠ h := fun e => by rw [e, hh] at r; cases r
    exact .inl (.inr ⟨o', by rw [upd_ne hne]; exact r⟩)
  · exact .inr r
end L2
namespace L2
open PySem PySem.Spec PyProof.Rows
/-- a comprehension over a list of ints, with if -/
theorem lc_filter {K : PySem.W.Frag} {a : Addr} {ns : List Int} {g : TG} {tt : TT} {te : TE} {vs : List Nat} {σ : St} {H1 : Hp} {Q : Addr → Hp → Prop} (p : Int → Bool) (hq : SqL K H1 a (ns.map V.int)) (hz : ns.length < 2000)
    (hs : ∀ n ∈ ns, ∀ (H : Hp) (R : V → Hp → Prop) (N : Hp → Prop), (if p n = true then R (.int n) H else N H) → g (.int n) (wipe σ vs) H fun σ2 H2 => wipe σ2 vs = wipe σ vs ∧ tt σ2 H2 fun b H3 => if b = true then te σ2 H3 R else N H3)
    (hd : ∀ D H', H1 D = none → Ext H1 H' → H' D = some (.lst ((ns.filter p).map V.int)) → Q D H') :
    (∃ ys, SqL K H1 a ys) ∧ ∀ D, H1 D = none → ∃ W : Nat → Nat → Hp → Prop, (∃ m, W 0 m (upd H1 D (.lst []))) ∧ ∀ i m H, W i m H →
      ((Itl K a).stop i H ∧ Q D H) ∨ ((Itl K a).go i H ∧ ∃ Nx : Hp → Prop, (∀ H', Nx H' → ∃ m', m' < m ∧ W (i + 1) m' H') ∧ ∀ x H', (Itl K a).yld i H x H' → g x (wipe σ vs) H' fun σ2 H2 => wipe σ2 vs = wipe σ vs ∧ tt σ2 H2 fun b H3 =>
        if b = true then te σ2 H3 fun y H4 => ∃ acc, H4 D = some (.lst acc) ∧ acc.length < sizeLine ∧ Nx (upd H4 D (.lst (acc ++ [y]))) else Nx H3) := by
  refine ⟨⟨_, hq⟩, fun D hD => lc_list (xs := ns.map V.int) (fun i H' => Ext H1 H' ∧ H' D = some (.lst (((ns.take i).filter p).map V.int))) ⟨Ext.upd hD, upd_same⟩ (fun i H' _ p => hq.ext p.1) ?_ ?_⟩
  · rintro i y H' hi ⟨e1, hD1⟩
    obtain ⟨n, hn, rfl⟩ : ∃ n, ns[i]? = some n ∧ y = V.int n := by
      rw [List.getElem?_map] at hi
      cases e : ns[i]? with
      | none => rw [e] at hi; cases hi
      | some n => rw [e] at hi; exact ⟨n, rfl, (Option.some.inj hi).symm⟩
    have hin : i < ns.length := (List.getElem?_eq_some_iff.mp hn).1
    have et : (ns.take (i + 1)).filter p = (ns.take i).filter p ++ (if p n = true then [n] else []) := by
      rw [List.take_add_one, hn, List.filter_append]
      congr 1
      show List.filter p [n] = _
      rw [List.filter_cons]
      rfl
    refine hs n (List.mem_of_getElem? hn) H' _ _ ?_
    by_cases hp : p n = true
    · rw [if_pos hp] at et ⊢
      refine ⟨_, hD1, ?_, e1.mut hD, ?_⟩
      · rw [List.length_map]
        have := List.length_filter_le p (ns.take i)
        rw [List.length_take] at this
        exact Nat.lt_of_lt_of_le (show ((ns.take i).filter p).length < 2000 by omega) (by decide)
      · rw [upd_same, et, List.map_append]
        rfl
    · rw [if_neg hp] at et ⊢
      refine ⟨e1, ?_⟩
      rw [et, List.append_nil]
      exact hD1
  · rintro H' ⟨e1, hD1⟩
    rw [List.length_map, List.take_length] at hD1
    exact hd D H' hD e1 hD1
end L2

/-! enumerate over a list or a tuple -/
namespace LxN
open PySem PySem.Spec PyProof.Rows
open Sem (wp)
theorem meets_enumT (l : Addr) (items : Array Value) (n : Nat) (dct : Option Addr) (sl : Array (Option Value)) :
    Meets (Builtin.«enumerate.__new__» ⟨[.type "enumerate", .ref l], []⟩) (fun _ R s => s.heap.get? l = some { cls := .type "tuple", dict := dct, data := .seq items n, slots := sl } ∧
      R (.ok (.ret (.ref (s.heap.push { cls := .type "tuple_iterator", data := .fields #[.ref l, .int 0 0] }).objs.size)))
        { s with heap := (s.heap.push { cls := .type "tuple_iterator", data := .fields #[.ref l, .int 0 0] }).push { cls := .type "enumerate", data := .fields #[.none, .bool false, .ref s.heap.objs.size, rawInt 0, .none, .none] } }) :=
  .of_wp fun prog w A R s h => by
    obtain ⟨hp, g, d, tk, os⟩ := s; obtain ⟨hl, h⟩ := h
    have hsub := PySem.sub_enumerate
    have hL : Heap.IsTuple (Shared.heap ⟨hp, g, d, tk, os⟩) l items := ⟨_, hl, rfl, n, rfl⟩
    wp_walk using AutoSeq1.wpAny_loadPart' hl
    refine wpAny_stack_any fun st => wpAny_pure ?_
    split
    · rename_i c _ _ _ _ _
      cases (c == Value.type "enumerate")
      · wp_walk using AutoSeq1.wpAny_loadPart' hl, wpAny_pyIter_tuple hL
        exact ⟨_, rfl, h⟩
      · wp_walk using AutoSeq1.wpAny_loadPart' hl, wpAny_pyIter_tuple hL
        exact ⟨_, rfl, h⟩
    · wp_walk using AutoSeq1.wpAny_loadPart' hl, wpAny_pyIter_tuple hL
      exact ⟨_, rfl, h⟩
section
variable {prog : Program} {w : World} {A : Around} {E : Value → Shared → Prop} {s : Shared}
theorem call_enumT {l : Addr} {items : Array Value} {Q : Value → Shared → Prop} (hL : s.heap.IsTuple l items)
    (h : ∀ h', IsEnum h' (s.heap.objs.size + 1) s.heap.objs.size 0 .none → h'.IsTupleIter s.heap.objs.size l 0 → h'.objs.size = s.heap.objs.size + 2 →
      (∀ b o, s.heap.get? b = some o → h'.get? b = some o) → Q (.ref (s.heap.objs.size + 1)) { s with heap := h' }) :
    wpAny (model prog w) A (call (.type "enumerate") [.ref l]) Q E s := by
  obtain ⟨⟨c, dct, dt, sl⟩, hl, hc, n, hd⟩ := hL
  cases (show c = .type "tuple" from hc)
  cases (show dt = .seq items n from hd)
  refine callType_new F.called_enumerate (by decide) (F.typeCall_enumerate_1 _) (F.newCall_enumerate_1 _) (fun obj => F.args_object_init_2 obj _) F.entry_enumerate_new (meets_enumT l items n dct sl) ⟨hl, ?_⟩
  have hz : (s.heap.push { cls := .type "tuple_iterator", data := .fields #[.ref l, .int 0 0] }).objs.size = s.heap.objs.size + 1 := Heap.size_push ..
  show _ ∧ _
  rw [hz]
  have he : IsEnum ((s.heap.push { cls := .type "tuple_iterator", data := .fields #[.ref l, .int 0 0] }).push
      { cls := .type "enumerate", data := .fields #[.none, .bool false, .ref s.heap.objs.size, rawInt 0, .none, .none] }) (s.heap.objs.size + 1) s.heap.objs.size 0 .none := by
    have z := Heap.get?_push_size (s.heap.push { cls := .type "tuple_iterator", data := .fields #[.ref l, .int 0 0] })
      (o := { cls := .type "enumerate", data := .fields #[.none, .bool false, .ref s.heap.objs.size, rawInt 0, .none, .none] }) rfl
    rw [hz] at z
    exact z
  refine ⟨⟨_, he, rfl⟩, h _ he ⟨_, Heap.get?_push_of_some _ (Heap.get?_push_size _ rfl), rfl, rfl⟩ (by rw [Heap.size_push, hz]) fun b o x => Heap.get?_push_of_some _ (Heap.get?_push_of_some _ x)⟩
end
end LxN
namespace L2
open PySem PySem.Spec PyProof.Rows
/-- the tuple at a as it stands at each turn, its items in new pairs -/
def IteT (K : PySem.W.Frag) (a : Addr) : It :=
  ⟨fun i H => ∃ (xs : List V) (x : V), SqT K H a xs ∧ xs[i]? = some x, fun i H v H' => ∃ T x, v = .ref T ∧ H T = none ∧ H' = upd H T (.tup [.int (i : Nat), x]) ∧ ∀ xs, SqT K H a xs → xs[i]? = some x, fun i H => ∃ xs : List V, SqT K H a xs ∧ xs.length = i⟩
theorem turn_enumT {P : Program} {w : World} {K : PySem.W.Frag} {elts : List Expr} {kk : Nat} {tpos : Pos} (a e it : Addr) :
    Turn P w K (.Tuple elts kk tpos) (IteT K a) [e, it] e (fun i h => (∃ old, IsEnum h e it ((i : Nat) : Int) old) ∧ h.IsTupleIter it a i ∧ e ≠ it ∧ e ≠ a ∧ a ≠ it) where
  mem := by simp
  obj := fun i h st b hb => by
    obtain ⟨⟨old, he⟩, ⟨o, ho, hc, hd⟩, _⟩ := st
    have e' : b = e ∨ b = it := by simpa using hb
    rcases e' with z | z
    · rw [z]; exact ⟨_, he, fun v q => nomatch q⟩
    · rw [z]; exact ⟨o, ho, fun v q => by rw [hd] at q; cases q⟩
  keep := fun i h h' st k => let ⟨⟨old, he⟩, hi, hne⟩ := st; ⟨⟨old, k e (by simp) _ he⟩, hi.at fun o q => k it (by simp) o q, hne⟩
  item := by
    intro X hP hw hK hc i pins s σ H E I hf st hg
    subst hP hw hK
    obtain ⟨⟨old, he⟩, hit, hne, hea, hai⟩ := st
    obtain ⟨xs, x, hq, hx⟩ := hg
    obtain ⟨its, rv, p, hz⟩ := I.tuple hq
    obtain ⟨u, hu, ru⟩ := rv.get hx
    have hel : e < s.heap.objs.size := Heap.lt_size he
    have hil : it < s.heap.objs.size := by obtain ⟨_, q, _⟩ := hit; exact Heap.lt_size q
    have hlt : i < its.toArray.size := by
      rw [List.size_toArray]
      exact (List.getElem?_eq_some_iff.mp hu).1
    refine wpAny_pyNext_enum_itemD (Draws.tuple (A := X.A.in1) (show X.A.in1.handled = none from I.ok.hd hc) it a hai its.toArray) he ⟨hit, p⟩ hlt hne (by simp [hne, hea]) fun y h' tk hy ho st' hT hsz hk => ?_
    have hyu : y = u := by
      have z : its[i]? = some y := by simpa using hy
      rw [hu] at z
      exact (Option.some.inj z).symm
    subst hyu
    refine ⟨_, rfl, wpAny_letOwnedTupleGo_enum (s := { s with heap := h', toks := tk + 1 }) ho fun h'' he' sb => ?_⟩
    have hT2 : h''.get? s.heap.objs.size = some { cls := .type "tuple", data := .seq #[.int i tk, y] } := (sb.2 _ (Nat.ne_of_gt hel)).trans hT
    have new : ObjOk X.prog X.w (upd H s.heap.objs.size (.tup [.int (i : Nat), x])) h'' s.heap.objs.size (.tup [.int (i : Nat), x]) :=
      ⟨by show 2 ≤ sizeLine; decide, [.int i tk, y], .cons ⟨_, rfl⟩ (.cons ru .nil), ⟨_, hT2, rfl, _, rfl⟩⟩
    have I1 : Inv X pins σ (upd H s.heap.objs.size (.tup [.int (i : Nat), x])) { s with heap := h'', toks := tk + 1 } :=
      I.turnedNew (ch := [e, it]) (fun b ob hb q => (sb.2 b (fun z => hb (by simp [z]))).trans (hk b ob (fun z => hb (by simp [z])) (fun z => hb (by simp [z])) q)) hf (Nat.le_refl _) new
    refine ⟨.ref s.heap.objs.size, _, I1, rfl, ⟨_, x, rfl, I.hok.fresh (Nat.le_refl _), rfl, fun ys hy => by rw [I.tuple_inj hy hq]; exact hx⟩, ⟨⟨y, ?_⟩, st'.1.at fun o q => (sb.2 it (Ne.symm hne)).trans q, hne, hea, hai⟩, fun b hb => ?_⟩
    · have e1 : ((i + 1 : Nat) : Int) = (i : Int) + 1 := by omega
      rw [e1]
      exact he'
    · have hb' : b < s.heap.objs.size := by
        have e' : b = e ∨ b = it := by simpa using hb
        rcases e' with z | z
        · rw [z]; exact hel
        · rw [z]; exact hil
      rw [upd_ne (Nat.ne_of_lt hb')]
      exact (hf b hb).1
  done := by
    intro X hP hw hK hc i pins s σ H E I hf st hg
    subst hP hw hK
    obtain ⟨⟨old, he⟩, hit, hne, hea, hai⟩ := st
    obtain ⟨xs, hq, hx⟩ := hg
    obtain ⟨its, rv, p, hz⟩ := I.tuple hq
    obtain ⟨f0, f1, f2, f3, f4, f5⟩ := hf it (by simp)
    have hl := rv.length
    have hi : its.toArray.size = i := by rw [List.size_toArray, ← hl, hx]
    refine wpAny_pyNext_enum_endD (Draws.tuple (A := X.A.in1) (show X.A.in1.handled = none from I.ok.hd hc) it a hai its.toArray) he ⟨by rw [hi]; exact hit, p⟩ fun h' eb => ⟨rfl, I.turned (t' := s.toks) (fun b o hb q => eb b o hb q) f0 f1 f3 f4 f5⟩
  self := fun A i s Q E st h => let ⟨⟨_, he⟩, _⟩ := st; wpAny_pyIter_enum he h
def iEnumQ (K : PySem.W.Frag) (ta : TA) : TI := fun σ H R => ta σ H fun vs H1 => ∃ a, vs = [.ref a] ∧ (((∃ xs, SqL K H1 a xs) ∧ R (Ite K a) H1) ∨ ((∃ xs, SqT K H1 a xs) ∧ R (IteT K a) H1))
theorem pi_enumQ {X : Cx} {e : Expr} {ta : TA} {p pos tpos : Pos} {elts : List Expr} {kk : Nat} (hg : Gl X "enumerate") (hm : X.mg "enumerate" = none) (ha : PA X [e] ta) (hs : starEach [e] X.env = [(false, eval e X.env)] := by rfl) :
    PI X (.Tuple elts kk tpos) (.Call (.Name "enumerate" p) [e] [] pos) (iEnumQ X.K ta) := by
  refine ⟨fun pins s σ H R I h => ?_⟩
  refine Call_ (ld_blt I hg hm boot_enumerate (PyProof.Rows.callWith_type1 (thn (ha.run pos pins s σ H _ I h) fun us s1 ⟨vs, H1, I1, r1, q1⟩ => ?_) hs rfl))
  obtain ⟨a, ex, q⟩ := q1
  subst ex
  cases r1 with
  | cons r rr =>
    cases rr
    cases r
    have hle : ∀ b ∈ [s1.heap.objs.size + 1, s1.heap.objs.size], s1.heap.objs.size ≤ b := fun b hb => by
      have e' : b = s1.heap.objs.size + 1 ∨ b = s1.heap.objs.size := by simpa using hb
      rcases e' with z | z
      · rw [z]; exact Nat.le_add_right _ _
      · rw [z]; exact Nat.le_refl _
    rcases q with ⟨⟨xs, hq⟩, q⟩ | ⟨⟨xs, hq⟩, q⟩
    · obtain ⟨its, rv, p', hz⟩ := I1.list hq
      refine call_enumerate_list p'.isList fun h' he hit hsz hk => wpAny_pyIter_enum he ?_
      have I2 : Inv X pins σ H1 { s1 with heap := h' } := I1.kept (t' := s1.toks) hk
      exact ⟨s1.heap.objs.size + 1, [s1.heap.objs.size + 1, s1.heap.objs.size], _, _, H1, rfl, I2, turn_enum a (s1.heap.objs.size + 1) s1.heap.objs.size, ⟨⟨.none, he⟩, hit, Nat.succ_ne_self _⟩, fun b hb => I1.fpOk (hle b hb) (I1.hok.fresh (hle b hb)), q⟩
    · obtain ⟨its, rv, p', hz⟩ := I1.tuple hq
      have hal : a < s1.heap.objs.size := by obtain ⟨_, z, _⟩ := id p'; exact Heap.lt_size z
      refine LxN.call_enumT (show s1.heap.IsTuple a its.toArray from p') fun h' he hit hsz hk => wpAny_pyIter_enum he ?_
      have I2 : Inv X pins σ H1 { s1 with heap := h' } := I1.kept (t' := s1.toks) hk
      exact ⟨s1.heap.objs.size + 1, [s1.heap.objs.size + 1, s1.heap.objs.size], _, _, H1, rfl, I2, turn_enumT a (s1.heap.objs.size + 1) s1.heap.objs.size, ⟨⟨.none, he⟩, hit, Nat.succ_ne_self _, Nat.ne_of_gt (Nat.lt_succ_of_lt hal), Nat.ne_of_lt hal⟩, fun b hb => I1.fpOk (hle b hb) (I1.hok.fresh (hle b hb)), q⟩
theorem for_enumQ {K : PySem.W.Frag} {a : Addr} {xs : List V} {g : TG} {tb : TS} {D : Ends} {σ : St} {H0 H : Hp} (hq : SqQ K H0 a xs) (Pv : Nat → St → Hp → Prop) (h0 : Pv 0 σ H) (he : ∀ i σ H, i ≤ xs.length → Pv i σ H → Ext H0 H)
    (hs : ∀ i x σ H T, xs[i]? = some x → Pv i σ H → H T = none → g (.ref T) σ (upd H T (.tup [.int (i : Nat), x])) fun σ2 H2 => tb { D with nx := Pv (i + 1), ct := Pv (i + 1), bk := D.nx } σ2 H2) (hd : ∀ σ H, Pv xs.length σ H → D.nx σ H) :
    ((∃ ys, SqL K H a ys) ∧ ∃ W : Nat → Nat → St → Hp → Prop, (∃ m, W 0 m σ H) ∧ ∀ i m σ H, W i m σ H →
      ((Ite K a).stop i H ∧ D.nx σ H) ∨ ((Ite K a).go i H ∧ ∃ N : St → Hp → Prop, (∀ σ' H', N σ' H' → ∃ m', m' < m ∧ W (i + 1) m' σ' H') ∧ ∀ x H', (Ite K a).yld i H x H' → g x σ H' fun σ2 H2 => tb { D with nx := N, ct := N, bk := D.nx } σ2 H2)) ∨
    ((∃ ys, SqT K H a ys) ∧ ∃ W : Nat → Nat → St → Hp → Prop, (∃ m, W 0 m σ H) ∧ ∀ i m σ H, W i m σ H →
      ((IteT K a).stop i H ∧ D.nx σ H) ∨ ((IteT K a).go i H ∧ ∃ N : St → Hp → Prop, (∀ σ' H', N σ' H' → ∃ m', m' < m ∧ W (i + 1) m' σ' H') ∧ ∀ x H', (IteT K a).yld i H x H' → g x σ H' fun σ2 H2 => tb { D with nx := N, ct := N, bk := D.nx } σ2 H2)) := by
  have e0 := he 0 σ H (Nat.zero_le _) h0
  rcases hq with hq | hq
  · refine .inl ⟨⟨xs, hq.ext e0⟩, fun i m σ H => m = xs.length - i ∧ i ≤ xs.length ∧ Pv i σ H, ⟨xs.length, by simp, Nat.zero_le _, h0⟩, ?_⟩
    rintro i m σ H ⟨rfl, hi, p⟩
    have q := hq.ext (he i σ H hi p)
    by_cases hlt : i < xs.length
    · refine .inr ⟨⟨xs, xs[i], q, by simp [hlt]⟩, Pv (i + 1), fun σ' H' p' => ⟨xs.length - (i + 1), by omega, rfl, hlt, p'⟩, fun x H' y => ?_⟩
      obtain ⟨T, z, rfl, hT, rfl, hz⟩ := y
      exact hs i z σ H T (hz xs q) p hT
    · have e : i = xs.length := by omega
      subst e
      exact .inl ⟨⟨xs, q, Nat.le_refl _⟩, hd σ H p⟩
  · refine .inr ⟨⟨xs, hq.ext e0⟩, fun i m σ H => m = xs.length - i ∧ i ≤ xs.length ∧ Pv i σ H, ⟨xs.length, by simp, Nat.zero_le _, h0⟩, ?_⟩
    rintro i m σ H ⟨rfl, hi, p⟩
    have q := hq.ext (he i σ H hi p)
    by_cases hlt : i < xs.length
    · refine .inr ⟨⟨xs, xs[i], q, by simp [hlt]⟩, Pv (i + 1), fun σ' H' p' => ⟨xs.length - (i + 1), by omega, rfl, hlt, p'⟩, fun x H' y => ?_⟩
      obtain ⟨T, z, rfl, hT, rfl, hz⟩ := y
      exact hs i z σ H T (hz xs q) p hT
    · have e : i = xs.length := by omega
      subst e
      exact .inl ⟨⟨xs, q, rfl⟩, hd σ H p⟩
end L2
namespace L2
open PySem PySem.Spec PyProof.Rows
/-- a op b op c op d, tested -/
def tChain3 (r r' r'' : R2) (ta tb tc td : TE) : TT := fun σ H Q => ta σ H fun x H1 => tb σ H1 fun y H2 => r x y H2 fun z H3 => ∃ k, z = .bl k ∧
  (if k = true then tc σ H3 fun y2 H4 => r' y y2 H4 fun z2 H5 => ∃ k2, z2 = .bl k2 ∧ (if k2 = true then td σ H5 fun y3 H6 => r'' y2 y3 H6 fun z3 H7 => ∃ k3, z3 = .bl k3 ∧ Q k3 H7 else Q false H5) else Q false H3)
theorem pt_chain3 {X : Cx} {a b c d : Expr} {ta tb tc td : TE} {pos : Pos} {op op' op'' : CmpOp} {r r' r'' : R2} (ho : OpR X (compareOp op) r) (ho' : OpR X (compareOp op') r') (ho'' : OpR X (compareOp op'') r'') (ha : PE X a ta) (hb : PE X b tb) (hc : PE X c tc) (hd : PE X d td)
    (hm : lastMarks [op, op', op''] [b, c, d] = false := by with_unfolding_all rfl) : PT X (.Compare a [op, op', op''] [b, c, d] pos) (tChain3 r r' r'' ta tb tc td) := by
  refine ⟨fun pins s σ H Q I h => ?_⟩
  refine isTrue_chain (thn (ha.run pins s σ H _ I h) fun v s1 ⟨x, H1, I1, r1, q1⟩ => test_link (thn (hb.run pins s1 σ H1 _ I1 q1) fun u s2 ⟨y, H2, I2, r2, q2⟩ =>
    thn (ho pins s2 σ H2 x y v u _ I2 r1 r2 q2) fun d1 s3 ⟨z, H3, I3, r3, k, e, q3⟩ => ?_)) hm
  subst e
  cases r3
  refine wpAny_truthy_bool ?_
  cases k with
  | false => exact ite_ff ⟨H3, I3, q3⟩
  | true =>
    refine ite_tt (test_link (thn (hc.run pins s3 σ H3 _ I3 q3) fun w' s4 ⟨y2, H4, I4, r4, q4⟩ => thn (ho' pins s4 σ H4 y y2 u w' _ I4 r2 r4 q4) fun d2 s5 ⟨z2, H5, I5, r5, k2, e2, q5⟩ => ?_))
    subst e2
    cases r5
    refine wpAny_truthy_bool ?_
    cases k2 with
    | false => exact ite_ff ⟨H5, I5, q5⟩
    | true =>
      refine ite_tt (test_last (thn (hd.run pins s5 σ H5 _ I5 q5) fun w3 s6 ⟨y3, H6, I6, r6, q6⟩ => thn (ho'' pins s6 σ H6 y2 y3 w' w3 _ I6 r4 r6 q6) fun d3 s7 ⟨z3, H7, I7, r7, k3, e3, q7⟩ => ?_))
      subst e3
      cases r7
      exact wpAny_truthy_bool ⟨H7, I7, q7⟩
end L2
namespace L2
open PySem PySem.Spec PyProof.Rows
def rangeI (n : Nat) : List Int := (List.range n).map fun i : Nat => (i : Int)
theorem rangeI_succ (n : Nat) : rangeI (n + 1) = rangeI n ++ [(n : Int)] := by
  unfold rangeI
  rw [List.range_succ, List.map_append]
  rfl
/-- a comprehension over range(n), with if -/
theorem lc_rangeF {n : Nat} {g : TG} {tt : TT} {te : TE} {vs : List Nat} {σ : St} {H1 : Hp} {Q : Addr → Hp → Prop} (p : Int → Bool) (f : Int → Int) (hz : n ≤ 1000)
    (hs : ∀ (i : Nat), i < n → ∀ (H : Hp), Ext H1 H → ∀ (R : V → Hp → Prop) (N : Hp → Prop), (if p i = true then R (.int (f i)) H else N H) → g (.int (0 + (i : Nat))) (wipe σ vs) H fun σ2 H2 => wipe σ2 vs = wipe σ vs ∧ tt σ2 H2 fun b H3 => if b = true then te σ2 H3 R else N H3)
    (hd : ∀ D H', H1 D = none → Ext H1 H' → H' D = some (.lst ((((rangeI n).filter p).map f).map V.int)) → Q D H') : ∀ D, H1 D = none → 
    ∃ W : Nat → Nat → Hp → Prop, (∃ m, W 0 m (upd H1 D (.lst []))) ∧ ∀ i m H, W i m H →
      ((Itr 0 n).stop i H ∧ Q D H) ∨ ((Itr 0 n).go i H ∧ ∃ Nx : Hp → Prop, (∀ H', Nx H' → ∃ m', m' < m ∧ W (i + 1) m' H') ∧ ∀ x H', (Itr 0 n).yld i H x H' → g x (wipe σ vs) H' fun σ2 H2 => wipe σ2 vs = wipe σ vs ∧ tt σ2 H2 fun b H3 =>
        if b = true then te σ2 H3 fun y H4 => ∃ acc, H4 D = some (.lst acc) ∧ acc.length < sizeLine ∧ Nx (upd H4 D (.lst (acc ++ [y]))) else Nx H3) := fun D hD => by
  refine lc_range (lo := 0) (n := n) (fun i H' => Ext H1 H' ∧ H' D = some (.lst ((((rangeI i).filter p).map f).map V.int))) ⟨Ext.upd hD, upd_same⟩ ?_ ?_
  · rintro i H' hi ⟨e1, hD1⟩
    have et : (rangeI (i + 1)).filter p = (rangeI i).filter p ++ (if p i = true then [(i : Int)] else []) := by
      rw [rangeI_succ, List.filter_append]
      congr 1
      rw [List.filter_cons]
      rfl
    refine hs i hi H' e1 _ _ ?_
    by_cases hp : p i = true
    · rw [if_pos hp] at et ⊢
      refine ⟨_, hD1, ?_, e1.mut hD, ?_⟩
      · rw [List.length_map, List.length_map]
        have h1 := List.length_filter_le p (rangeI i)
        have h2 : (rangeI i).length = i := by unfold rangeI; rw [List.length_map, List.length_range]
        exact Nat.lt_of_lt_of_le (show ((rangeI i).filter p).length < 2000 by omega) (by decide)
      · rw [upd_same, et, List.map_append, List.map_append]
        rfl
    · rw [if_neg hp] at et ⊢
      refine ⟨e1, ?_⟩
      rw [et, List.append_nil]
      exact hD1
  · rintro H' ⟨e1, hD1⟩
    exact hd D H' hD e1 hD1
end L2

namespace L2
open PySem PySem.Spec PyProof.Rows RZ
/-- a comprehension over zip of two tuples of one length -/
theorem lc_zipT {K : PySem.W.Frag} {a b : Addr} {xs ys : List V} {g : TG} {tt : TT} {te : TE} {vs : List Nat} {σ : St} {H1 : Hp} {D : Addr} {Qd : Hp → Prop} (hl : xs.length = ys.length) (Pv : Nat → Hp → Prop) (h0 : Pv 0 (upd H1 D (.lst []))) (hq : ∀ i H, Pv i H → SqT K H a xs ∧ SqT K H b ys)
    (hs : ∀ (i : Nat) (x y : V) (T : Addr) (H : Hp), xs[i]? = some x → ys[i]? = some y → Pv i H → H T = none → g (.ref T) (wipe σ vs) (upd H T (.tup [x, y])) fun σ2 H2 => wipe σ2 vs = wipe σ vs ∧ tt σ2 H2 fun b H3 =>
      if b = true then te σ2 H3 fun y H4 => ∃ acc, H4 D = some (.lst acc) ∧ acc.length < sizeLine ∧ Pv (i + 1) (upd H4 D (.lst (acc ++ [y]))) else Pv (i + 1) H3) (hd : ∀ H, Pv xs.length H → Qd H) :
    ∃ W : Nat → Nat → Hp → Prop, (∃ m, W 0 m (upd H1 D (.lst []))) ∧ ∀ i m H, W i m H →
      ((ItzT K a b).stop i H ∧ Qd H) ∨ ((ItzT K a b).go i H ∧ ∃ Nx : Hp → Prop, (∀ H', Nx H' → ∃ m', m' < m ∧ W (i + 1) m' H') ∧ ∀ x H', (ItzT K a b).yld i H x H' → g x (wipe σ vs) H' fun σ2 H2 => wipe σ2 vs = wipe σ vs ∧ tt σ2 H2 fun b H3 =>
        if b = true then te σ2 H3 fun y H4 => ∃ acc, H4 D = some (.lst acc) ∧ acc.length < sizeLine ∧ Nx (upd H4 D (.lst (acc ++ [y]))) else Nx H3) := by
  refine ⟨fun i m H => m = xs.length - i ∧ i ≤ xs.length ∧ Pv i H, ⟨xs.length, rfl, Nat.zero_le _, h0⟩, ?_⟩
  rintro i m H ⟨rfl, hi, p⟩
  obtain ⟨qx, qy⟩ := hq i H p
  by_cases hlt : i < xs.length
  · have hx : xs[i]? = some xs[i] := List.getElem?_eq_getElem hlt
    have hlt2 : i < ys.length := by omega
    have hy : ys[i]? = some ys[i] := List.getElem?_eq_getElem hlt2
    refine .inr ⟨⟨xs, ys, _, _, qx, qy, hx, hy⟩, Pv (i + 1), fun H' p' => ⟨xs.length - (i + 1), by omega, rfl, hlt, p'⟩, fun v H' z => ?_⟩
    obtain ⟨T, x', y', rfl, hT, rfl, f1, f2⟩ := z
    exact hs i x' y' T H (f1 xs qx) (f2 ys qy) p hT
  · have e : i = xs.length := by omega
    subst e
    exact .inl ⟨⟨xs, ys, qx, qy, Or.inl (Nat.le_refl _)⟩, hd H p⟩
end L2
namespace L2
open PySem PySem.Spec PyProof.Rows
/-- any loop of a comprehension over a list -/
theorem it_list {K : PySem.W.Frag} {a : Addr} {xs : List V} {H0 : Hp} {Qd : Hp → Prop} {B : V → Hp → (Hp → Prop) → Prop} (Pv : Nat → Hp → Prop) (h0 : Pv 0 H0) (hl : ∀ i H, i ≤ xs.length → Pv i H → SqL K H a xs)
    (hs : ∀ (i : Nat) (x : V) (H : Hp), xs[i]? = some x → Pv i H → B x H (Pv (i + 1))) (hd : ∀ H, Pv xs.length H → Qd H) :
    ∃ W : Nat → Nat → Hp → Prop, (∃ m, W 0 m H0) ∧ ∀ i m H, W i m H → ((Itl K a).stop i H ∧ Qd H) ∨ ((Itl K a).go i H ∧ ∃ Nx : Hp → Prop, (∀ H', Nx H' → ∃ m', m' < m ∧ W (i + 1) m' H') ∧ ∀ x H', (Itl K a).yld i H x H' → B x H' Nx) := by
  refine ⟨fun i m H => m = xs.length - i ∧ i ≤ xs.length ∧ Pv i H, ⟨xs.length, by simp, Nat.zero_le _, h0⟩, ?_⟩
  rintro i m H ⟨rfl, hi, p⟩
  have q := hl i H hi p
  by_cases hlt : i < xs.length
  · refine .inr ⟨⟨xs, xs[i], q, by simp [hlt]⟩, Pv (i + 1), fun H' p' => ⟨xs.length - (i + 1), by omega, rfl, hlt, p'⟩, fun x H' y => ?_⟩
    obtain ⟨e, y⟩ := y
    subst e
    exact hs i x _ (y xs q) p
  · have e : i = xs.length := by omega
    subst e
    exact .inl ⟨⟨xs, q, Nat.le_refl _⟩, hd H p⟩
end L2

namespace L2
open PySem PySem.Spec PyProof.Rows
/-- o.f as a target among several -/
def gFld (K : PySem.W.Frag) (to : TE) (f : Str) : TG := fun v σ H Q => to σ H fun x H1 => ∃ a C dx fs, x = .ref a ∧ H1 a = some (.ins C dx fs) ∧ Cls K C ∧ NoAttr K C f ∧ fs.length < 1000 ∧ Q σ (upd H1 a (.ins C dx (putF f v fs)))
theorem pg_fld {X : Cx} {o : Expr} {f : Str} {pos : Pos} {to : TE} (ho : PE X o to) : PG X (.Attribute o f pos) (gFld X.K to f) := by
  refine ⟨fun pins s σ H v u Q I r h => ?_⟩
  rw [assign_Attribute]
  refine wpAny_bind (wpAny_holding (thn (ho.run pins s σ H _ I h) fun ov s1 ⟨x, H1, I1, rx, a, C, dx, fs, ex, ea, c, n, l, q⟩ => ?_))
  subst ex
  obtain rfl : ov = Value.ref a := rx
  refine wpAny_bind (wpAny_standAt (wpAny_bind (wpAny_holding (setattr_ok I1 ea c n l r fun s3 I3 => ?_))))
  exact wpAny_release ⟨σ, _, I3, q⟩
/-- // by any number but nought -/
def CDivZ (_ j : Int) : Prop := j ≠ 0 ∧ j.natAbs.log2 < 9000
theorem op_fdivZ {X : Cx} : OpR X (binaryOp .FloorDiv) (rI CDivZ fun i j => .int (i.fdiv j)) := opI fun _ _ _ _ _ _ _ hc q => floordiv_int hc.1 q (.inl (PyProof.noPylong_of_log2 hc.2))
theorem div_z {i j : Int} {b : Nat} (h : j ≠ 0) (hb : j.natAbs < 2 ^ b) (h0 : 0 < b) (h9 : b ≤ 9000) : CDivZ i j := ⟨h, Nat.lt_of_lt_of_le (PySem.Flt.log2_lt_of h0 hb) h9⟩
end L2

namespace Mx
/-! sums, and determinants by the first row -/
def sk (j k : Nat) : Nat := if k < j then k else k + 1
def sg (j : Nat) : Int := if j % 2 = 0 then 1 else -1
def sm : Nat → (Nat → Int) → Int
  | 0, _ => 0
  | n + 1, f => sm n f + f n
def det : Nat → (Nat → Nat → Int) → Int
  | 0, _ => 1
  | n + 1, M => sm (n + 1) fun j => sg j * M 0 j * det n fun i k => M (i + 1) (sk j k)
theorem sg_succ (j : Nat) : sg (j + 1) = - sg j := by
  unfold sg
  split <;> split <;> first | rfl | omega
theorem sg_add (a b : Nat) : sg (a + b) = sg a * sg b := by
  unfold sg
  split <;> split <;> split <;> first | rfl | omega
theorem sg_self (a : Nat) : sg a * sg a = 1 := by
  unfold sg
  split <;> rfl
theorem sg_even {a : Nat} (h : a % 2 = 0) : sg a = 1 := if_pos h
theorem sg_odd {a : Nat} (h : a % 2 = 1) : sg a = -1 := if_neg (by omega)
theorem sm_congr {n : Nat} {f g : Nat → Int} (h : ∀ j, j < n → f j = g j) : sm n f = sm n g := by
  induction n with
  | zero => rfl
  | succ n ih =>
    show sm n f + f n = sm n g + g n
    rw [ih fun j hj => h j (Nat.lt_succ_of_lt hj), h n (Nat.lt_succ_self n)]
theorem sm_add (n : Nat) (f g : Nat → Int) : sm n (fun j => f j + g j) = sm n f + sm n g := by
  induction n with
  | zero => rfl
  | succ n ih =>
    show sm n _ + (f n + g n) = (sm n f + f n) + (sm n g + g n)
    rw [ih]; omega
theorem sm_mul (n : Nat) (a : Int) (f : Nat → Int) : sm n (fun j => a * f j) = a * sm n f := by
  induction n with
  | zero => exact (Int.mul_zero a).symm
  | succ n ih =>
    show sm n _ + a * f n = a * (sm n f + f n)
    rw [ih, Int.mul_add]
theorem sm_neg (n : Nat) (f : Nat → Int) : sm n (fun j => - f j) = - sm n f := by
  induction n with
  | zero => rfl
  | succ n ih =>
    show sm n _ + - f n = - (sm n f + f n)
    rw [ih]; omega
theorem sm_zero {n : Nat} {f : Nat → Int} (h : ∀ j, j < n → f j = 0) : sm n f = 0 := by
  induction n with
  | zero => rfl
  | succ n ih =>
    show sm n f + f n = 0
    rw [ih fun j hj => h j (Nat.lt_succ_of_lt hj), h n (Nat.lt_succ_self n)]; rfl
theorem sm_one {n i : Nat} {f : Nat → Int} (hi : i < n) (h : ∀ j, j < n → j ≠ i → f j = 0) : sm n f = f i := by
  induction n with
  | zero => omega
  | succ n ih =>
    show sm n f + f n = f i
    by_cases e : i = n
    · subst e
      rw [sm_zero fun j hj => h j (by omega) (by omega)]; omega
    · rw [ih (by omega) fun j hj => h j (by omega), h n (by omega) (fun z => e z.symm)]; omega
theorem sm_comm (n m : Nat) (f : Nat → Nat → Int) : sm n (fun a => sm m fun b => f a b) = sm m (fun b => sm n fun a => f a b) := by
  induction n with
  | zero => exact (sm_zero fun _ _ => rfl).symm
  | succ n ih =>
    show sm n (fun a => sm m fun b => f a b) + sm m (fun b => f n b) = sm m (fun b => sm n (fun a => f a b) + f n b)
    rw [ih, sm_add]
theorem sm_sk {n a : Nat} (f : Nat → Int) (h : a ≤ n) : sm n (fun k => f (sk a k)) + f a = sm (n + 1) f := by
  induction n with
  | zero =>
    obtain rfl : a = 0 := by omega
    rfl
  | succ n ih =>
    by_cases e : a = n + 1
    · subst e
      show sm (n + 1) _ + f (n + 1) = sm (n + 1) f + f (n + 1)
      rw [sm_congr fun k hk => by rw [sk, if_pos hk]]
    · show (sm n (fun k => f (sk a k)) + f (sk a n)) + f a = sm (n + 1) f + f (n + 1)
      rw [← ih (by omega), sk, if_neg (by omega)]; omega
theorem sm_two {n c : Nat} (f : Nat → Int) (h : c + 1 < n) : sm n f = f c + f (c + 1) + sm n (fun j => if j = c ∨ j = c + 1 then 0 else f j) := by
  induction n with
  | zero => omega
  | succ n ih =>
    show sm n f + f n = f c + f (c + 1) + (sm n (fun j => if j = c ∨ j = c + 1 then 0 else f j) + if n = c ∨ n = c + 1 then 0 else f n)
    by_cases e : n = c + 1
    · subst e
      rw [if_pos (.inr rfl)]
      show (sm c f + f c) + f (c + 1) = f c + f (c + 1) + ((sm c (fun j => if j = c ∨ j = c + 1 then 0 else f j) + if c = c ∨ c = c + 1 then 0 else f c) + 0)
      rw [if_pos (.inl rfl), sm_congr (n := c) (f := fun j => if j = c ∨ j = c + 1 then 0 else f j) (g := f) fun j hj => if_neg (by omega)]
      omega
    · rw [ih (by omega), if_neg (by omega)]; omega
theorem det_congr {n : Nat} {M N : Nat → Nat → Int} (h : ∀ i k, i < n → k < n → M i k = N i k) : det n M = det n N := by
  induction n generalizing M N with
  | zero => rfl
  | succ n ih =>
    unfold det
    refine sm_congr fun j hj => ?_
    rw [h 0 j (by omega) hj, ih fun i k hi hk => h (i + 1) (sk j k) (by omega) (by unfold sk; split <;> omega)]
/-! columns -/
/-- the column c is v -/
def cr (M : Nat → Nat → Int) (c : Nat) (v : Nat → Int) : Nat → Nat → Int := fun i k => if k = c then v i else M i k
theorem cr_self (M : Nat → Nat → Int) (c : Nat) : cr M c (fun i => M i c) = M := by
  funext i k
  unfold cr
  split
  · rename_i h; rw [h]
  · rfl
theorem minor_cr_same (M : Nat → Nat → Int) (c : Nat) (v : Nat → Int) : (fun i k => cr M c v (i + 1) (sk c k)) = fun i k => M (i + 1) (sk c k) := by
  funext i k
  unfold cr
  rw [if_neg (by unfold sk; split <;> omega)]
theorem minor_cr_ne {j c : Nat} (M : Nat → Nat → Int) (v : Nat → Int) (h : j ≠ c) : (fun i k => cr M c v (i + 1) (sk j k)) = cr (fun i k => M (i + 1) (sk j k)) (if c < j then c else c - 1) (fun i => v (i + 1)) := by
  funext i k
  unfold cr
  by_cases e : sk j k = c
  · rw [if_pos e, if_pos (by unfold sk at e; split at e <;> split <;> omega)]
  · rw [if_neg e, if_neg (by unfold sk at e; split at e <;> split <;> omega)]
theorem det_lin {n c : Nat} (M : Nat → Nat → Int) (a b : Int) (u v : Nat → Int) (hc : c < n) : det n (cr M c fun i => a * u i + b * v i) = a * det n (cr M c u) + b * det n (cr M c v) := by
  induction n generalizing M c u v with
  | zero => omega
  | succ n ih =>
    unfold det
    rw [← sm_mul, ← sm_mul, ← sm_add]
    refine sm_congr fun j hj => ?_
    by_cases e : j = c
    · subst e
      rw [minor_cr_same, minor_cr_same, minor_cr_same]
      have h1 : ∀ w : Nat → Int, cr M j w 0 j = w 0 := fun w => if_pos rfl
      rw [h1, h1, h1]
      grind
    · rw [minor_cr_ne _ _ e, minor_cr_ne _ _ e, minor_cr_ne _ _ e]
      have h1 : ∀ w : Nat → Int, cr M c w 0 j = M 0 j := fun w => if_neg e
      rw [h1, h1, h1, ih _ _ _ (by split <;> omega)]
      grind
theorem det_scale {n c : Nat} (M : Nat → Nat → Int) (a : Int) (u : Nat → Int) (hc : c < n) : det n (cr M c fun i => a * u i) = a * det n (cr M c u) := by
  have z := det_lin M a 0 u u hc
  rw [Int.zero_mul, Int.add_zero] at z
  rw [← z]
  refine det_congr fun i k _ _ => ?_
  unfold cr
  split
  · show a * u i = a * u i + 0 * u i
    rw [Int.zero_mul, Int.add_zero]
  · rfl
theorem det_zero_col {n c : Nat} (M : Nat → Nat → Int) (hc : c < n) (h : ∀ i, i < n → M i c = 0) : det n M = 0 := by
  have z := det_scale M 0 (fun i => M i c) hc
  rw [Int.zero_mul] at z
  rw [← z]
  refine det_congr fun i k hi _ => ?_
  unfold cr
  split
  · rename_i e
    show M i k = 0 * M i c
    rw [e, h i hi, Int.mul_zero]
  · rfl
theorem det_sum {n c m : Nat} (M : Nat → Nat → Int) (a : Nat → Int) (u : Nat → Nat → Int) (hc : c < n) : det n (cr M c fun i => sm m fun l => a l * u l i) = sm m fun l => a l * det n (cr M c (u l)) := by
  induction m with
  | zero => exact det_zero_col _ hc fun i _ => by unfold cr; rw [if_pos rfl]; rfl
  | succ m ih =>
    show _ = sm m (fun l => a l * det n (cr M c (u l))) + a m * det n (cr M c (u m))
    rw [← ih]
    have z := det_lin M 1 (a m) (fun i => sm m fun l => a l * u l i) (u m) hc
    rw [Int.one_mul] at z
    rw [← z]
    refine det_congr fun i k _ _ => ?_
    unfold cr
    split
    · show sm m (fun l => a l * u l i) + a m * u m i = 1 * sm m (fun l => a l * u l i) + a m * u m i
      rw [Int.one_mul]
    · rfl
/-- two columns that stand side by side are exchanged -/
def cs (M : Nat → Nat → Int) (c : Nat) : Nat → Nat → Int := fun i k => M i (if k = c then c + 1 else if k = c + 1 then c else k)
theorem det_cs {n c : Nat} (M : Nat → Nat → Int) (hc : c + 1 < n) : det n (cs M c) = - det n M := by
  induction n generalizing M c with
  | zero => omega
  | succ n ih =>
    unfold det
    rw [sm_two _ hc, sm_two (fun j => sg j * M 0 j * det n fun i k => M (i + 1) (sk j k)) hc]
    have e1 : (fun i k => cs M c (i + 1) (sk c k)) = fun i k => M (i + 1) (sk (c + 1) k) := by
      funext i k
      unfold cs sk
      congr 1
      repeat' (first | omega | split)
    have e2 : (fun i k => cs M c (i + 1) (sk (c + 1) k)) = fun i k => M (i + 1) (sk c k) := by
      funext i k
      unfold cs sk
      congr 1
      repeat' (first | omega | split)
    have e3 : sm (n + 1) (fun j => if j = c ∨ j = c + 1 then 0 else sg j * cs M c 0 j * det n fun i k => cs M c (i + 1) (sk j k)) = - sm (n + 1) (fun j => if j = c ∨ j = c + 1 then 0 else sg j * M 0 j * det n fun i k => M (i + 1) (sk j k)) := by
      rw [← sm_neg]
      refine sm_congr fun j hj => ?_
      by_cases e : j = c ∨ j = c + 1
      · rw [if_pos e, if_pos e]; rfl
      · rw [if_neg e, if_neg e]
        have e4 : (fun i k => cs M c (i + 1) (sk j k)) = cs (fun i k => M (i + 1) (sk j k)) (if c < j then c else c - 1) := by
          funext i k
          unfold cs sk
          congr 1
          repeat' (first | omega | split)
        rw [e4, ih _ (by split <;> omega)]
        have e5 : cs M c 0 j = M 0 j := by
          unfold cs
          rw [if_neg (fun z => e (.inl z)), if_neg (fun z => e (.inr z))]
        rw [e5]
        grind
    rw [e3, e1, e2]
    have a1 : cs M c 0 c = M 0 (c + 1) := by unfold cs; rw [if_pos rfl]
    have a2 : cs M c 0 (c + 1) = M 0 c := by unfold cs; rw [if_neg (by omega), if_pos rfl]
    rw [a1, a2, sg_succ]
    grind
theorem det_eq_cols {n : Nat} : ∀ (d c : Nat) (M : Nat → Nat → Int), c + 1 + d < n → (∀ i, i < n → M i c = M i (c + 1 + d)) → det n M = 0 := by
  intro d
  induction d with
  | zero =>
    intro c M hc h
    have z := det_cs M (c := c) hc
    rw [show det n (cs M c) = det n M from det_congr fun i k hi _ => by
      unfold cs
      split
      · rename_i e; rw [e]; exact (h i hi).symm
      · split
        · rename_i e; rw [e]; exact h i hi
        · rfl] at z
    omega
  | succ d ih =>
    intro c M hc h
    have z := det_cs M (c := c + 1 + d) hc
    rw [ih c (cs M (c + 1 + d)) (by omega) (fun i hi => by
      unfold cs
      rw [if_neg (by omega), if_neg (by omega), if_pos rfl]
      exact h i hi)] at z
    omega
theorem det_cols {n c d : Nat} {M : Nat → Nat → Int} (hc : c < n) (hd : d < n) (hn : c ≠ d) (h : ∀ i, i < n → M i c = M i d) : det n M = 0 := by
  by_cases e : c < d
  · exact det_eq_cols (d - (c + 1)) c M (by omega) (fun i hi => by rw [h i hi]; congr 1; omega)
  · exact det_eq_cols (c - (d + 1)) d M (by omega) (fun i hi => by rw [← h i hi]; congr 1; omega)
theorem cr_cr (M : Nat → Nat → Int) (c : Nat) (u v : Nat → Int) : cr (cr M c u) c v = cr M c v := by
  funext i k
  unfold cr
  split <;> rfl
theorem cr_comm {c d : Nat} (M : Nat → Nat → Int) (u v : Nat → Int) (h : c ≠ d) : cr (cr M c u) d v = cr (cr M d v) c u := by
  funext i k
  unfold cr
  split <;> split <;> first | rfl | omega
theorem det_swap {n c d : Nat} (M : Nat → Nat → Int) (u v : Nat → Int) (hc : c < n) (hd : d < n) (hn : c ≠ d) : det n (cr (cr M c u) d v) = - det n (cr (cr M c v) d u) := by
  have same : ∀ w : Nat → Int, det n (cr (cr M c w) d w) = 0 := fun w => det_cols hc hd hn fun i _ => by
    unfold cr
    rw [if_neg hn, if_pos rfl, if_pos rfl]
  have z := same fun i => 1 * u i + 1 * v i
  rw [det_lin _ 1 1 u v hd, cr_comm _ _ _ hn, cr_comm _ _ _ hn, det_lin _ 1 1 u v hc, det_lin _ 1 1 u v hc, ← cr_comm _ _ _ hn, ← cr_comm _ _ _ hn, ← cr_comm _ _ _ hn, ← cr_comm _ _ _ hn, same u, same v] at z
  omega
/-- but for one number the last column is nought -/
theorem det_last : ∀ {n r : Nat} (M : Nat → Nat → Int), r ≤ n → (∀ i, i ≤ n → i ≠ r → M i n = 0) → det (n + 1) M = sg (n + r) * M r n * det n (fun i k => M (sk r i) k) := by
  intro n
  induction n with
  | zero =>
    intro r M hr h
    obtain rfl : r = 0 := by omega
    show 0 + sg 0 * M 0 0 * 1 = sg 0 * M 0 0 * 1
    omega
  | succ n ih =>
    intro r M hr h
    cases r with
    | zero =>
      show sm (n + 1) _ + _ = _
      rw [sm_zero fun j hj => ?_]
      · rw [Int.zero_add, Nat.add_zero]
        show sg (n + 1) * M 0 (n + 1) * det (n + 1) (fun i k => M (i + 1) (sk (n + 1) k)) = _
        rw [det_congr (n := n + 1) (N := fun i k => M (sk 0 i) k) fun i k hi hk => ?_]
        show M (i + 1) (sk (n + 1) k) = M (sk 0 i) k
        unfold sk
        rw [if_pos hk, if_neg (by omega)]
      · show sg j * M 0 j * det (n + 1) (fun i k => M (i + 1) (sk j k)) = 0
        rw [det_zero_col (c := n) _ (by omega) fun i hi => ?_, Int.mul_zero]
        show M (i + 1) (sk j n) = 0
        unfold sk
        rw [if_neg (by omega)]
        exact h (i + 1) (by omega) (by omega)
    | succ r =>
      show sm (n + 1) _ + sg (n + 1) * M 0 (n + 1) * _ = _
      rw [h 0 (by omega) (by omega), Int.mul_zero, Int.zero_mul, Int.add_zero]
      show sm (n + 1) _ = sg (n + 1 + (r + 1)) * M (r + 1) (n + 1) * (sm (n + 1) fun j => sg j * M (sk (r + 1) 0) j * det n fun i k => M (sk (r + 1) (i + 1)) (sk j k))
      rw [← sm_mul]
      refine sm_congr fun j hj => ?_
      rw [ih (r := r) (fun i k => M (i + 1) (sk j k)) (by omega) (fun i hi hne => by
        show M (i + 1) (sk j n) = 0
        unfold sk
        rw [if_neg (by omega)]
        exact h (i + 1) (by omega) (by omega))]
      have e1 : sk j n = n + 1 := by unfold sk; rw [if_neg (by omega)]
      have e2 : sk (r + 1) 0 = 0 := by unfold sk; rw [if_pos (by omega)]
      have e3 : ∀ i, sk (r + 1) (i + 1) = sk r i + 1 := fun i => by unfold sk; split <;> split <;> omega
      have e4 : sg (n + 1 + (r + 1)) = sg (n + r) := by rw [show n + 1 + (r + 1) = n + r + 1 + 1 by omega, sg_succ, sg_succ]; omega
      rw [e1, e2, e4]
      rw [show (fun i k => M (sk (r + 1) (i + 1)) (sk j k)) = fun i k => M (sk r i + 1) (sk j k) by funext i k; rw [e3]]
      grind
end Mx

namespace Mx
/-! rows -/
/-- the row r is u -/
def rr (M : Nat → Nat → Int) (r : Nat) (u : Nat → Int) : Nat → Nat → Int := fun i k => if i = r then u k else M i k
theorem det_rneg : ∀ {n r : Nat} (M : Nat → Nat → Int), r < n → det n (rr M r fun k => - M r k) = - det n M := by
  intro n
  induction n with
  | zero => intro r M h; omega
  | succ n ih =>
    intro r M h
    unfold det
    rw [← sm_neg]
    refine sm_congr fun j hj => ?_
    cases r with
    | zero =>
      rw [show (fun i k => rr M 0 (fun k => - M 0 k) (i + 1) (sk j k)) = fun i k => M (i + 1) (sk j k) from rfl, show rr M 0 (fun k => - M 0 k) 0 j = - M 0 j from rfl]
      grind
    | succ r =>
      have e : (fun i k => rr M (r + 1) (fun k => - M (r + 1) k) (i + 1) (sk j k)) = rr (fun i k => M (i + 1) (sk j k)) r (fun k => - (fun i k => M (i + 1) (sk j k)) r k) := by
        funext i k
        unfold rr
        by_cases h : i = r
        · rw [if_pos (by omega), if_pos h]
        · rw [if_neg (by omega), if_neg h]
      rw [e, ih _ (by omega), show rr M (r + 1) (fun k => - M (r + 1) k) 0 j = M 0 j from rfl]
      grind
/-- two rows are exchanged -/
def tr (a b i : Nat) : Nat := if i = a then b else if i = b then a else i
def un (a b : Nat) : Nat := if b < a then b else b - 1
theorem sk_un {a b : Nat} (h : b ≠ a) : sk a (un a b) = b := by unfold sk un; repeat' (first | omega | split)
theorem un_sk (a k : Nat) : un a (sk a k) = k := by unfold sk un; repeat' (first | omega | split)
theorem sk_ne (a k : Nat) : sk a k ≠ a := by unfold sk; split <;> omega
theorem sk_sk {a b : Nat} (h : a ≠ b) (l : Nat) : sk a (sk (un a b) l) = sk b (sk (un b a) l) := by
  unfold sk un
  repeat' (first | omega | split)
theorem sg_un {a b : Nat} (h : a ≠ b) : sg b * sg (un b a) = - (sg a * sg (un a b)) := by
  by_cases g : a < b
  · rw [show un b a = a by unfold un; rw [if_pos g], show un a b = b - 1 by unfold un; rw [if_neg (by omega)]]
    obtain ⟨c, rfl⟩ : ∃ c, b = c + 1 := ⟨b - 1, by omega⟩
    rw [sg_succ, Nat.add_sub_cancel]
    grind
  · rw [show un a b = b by unfold un; rw [if_pos (by omega)], show un b a = a - 1 by unfold un; rw [if_neg (by omega)]]
    obtain ⟨c, rfl⟩ : ∃ c, a = c + 1 := ⟨a - 1, by omega⟩
    rw [sg_succ, Nat.add_sub_cancel]
    grind
theorem det_two (n : Nat) (M : Nat → Nat → Int) : det (n + 2) M = sm (n + 2) fun a => sm (n + 2) fun b => if b = a then 0 else sg a * sg (un a b) * (M 0 a * M 1 b * det n fun i l => M (i + 2) (sk a (sk (un a b) l))) := by
  show sm (n + 2) (fun j => sg j * M 0 j * det (n + 1) fun i k => M (i + 1) (sk j k)) = _
  refine sm_congr fun a ha => ?_
  rw [show det (n + 1) (fun i k => M (i + 1) (sk a k)) = sm (n + 1) fun k => sg k * M 1 (sk a k) * det n fun i l => M (i + 2) (sk a (sk k l)) from rfl, ← sm_mul]
  rw [← sm_sk _ (show a ≤ n + 1 by omega), if_pos rfl, Int.add_zero]
  refine sm_congr fun k hk => ?_
  rw [if_neg (sk_ne a k), un_sk]
  grind
theorem det_r01 (n : Nat) (M : Nat → Nat → Int) : det (n + 2) (fun i k => M (tr 0 1 i) k) = - det (n + 2) M := by
  rw [det_two, det_two, sm_comm, ← sm_neg]
  refine sm_congr fun a _ => ?_
  rw [← sm_neg]
  refine sm_congr fun b _ => ?_
  by_cases h : a = b
  · rw [if_pos h, if_pos h.symm]; rfl
  · rw [if_neg h, if_neg (fun z => h z.symm)]
    rw [show (fun i l => M (tr 0 1 (i + 2)) (sk b (sk (un b a) l))) = fun i l => M (i + 2) (sk a (sk (un a b) l)) from by
      funext i l
      rw [sk_sk h, show tr 0 1 (i + 2) = i + 2 from by unfold tr; rw [if_neg (by omega), if_neg (by omega)]]]
    rw [show M (tr 0 1 0) b = M 1 b from rfl, show M (tr 0 1 1) a = M 0 a from rfl, sg_un h]
    grind
theorem det_radj : ∀ {n r : Nat} (M : Nat → Nat → Int), r + 1 < n → det n (fun i k => M (tr r (r + 1) i) k) = - det n M := by
  intro n
  induction n with
  | zero => intro r M h; omega
  | succ n ih =>
    intro r M h
    cases r with
    | zero =>
      obtain ⟨m, rfl⟩ : ∃ m, n = m + 1 := ⟨n - 1, by omega⟩
      exact det_r01 m M
    | succ r =>
      unfold det
      rw [← sm_neg]
      refine sm_congr fun j hj => ?_
      have e : (fun i k => M (tr (r + 1) (r + 1 + 1) (i + 1)) (sk j k)) = fun i k => (fun i k => M (i + 1) (sk j k)) (tr r (r + 1) i) k := by
        funext i k
        show M _ _ = M (tr r (r + 1) i + 1) (sk j k)
        congr 1
        unfold tr
        repeat' (first | omega | split)
      show sg j * M (tr (r + 1) (r + 1 + 1) 0) j * det n (fun i k => M (tr (r + 1) (r + 1 + 1) (i + 1)) (sk j k)) = _
      rw [e, ih (r := r) (fun i k => M (i + 1) (sk j k)) (by omega), show tr (r + 1) (r + 1 + 1) 0 = 0 from by unfold tr; rw [if_neg (by omega), if_neg (by omega)]]
      grind
theorem det_rdist : ∀ (d : Nat) {n r : Nat} (M : Nat → Nat → Int), r + 1 + d < n → det n (fun i k => M (tr r (r + 1 + d) i) k) = - det n M := by
  intro d
  induction d with
  | zero => intro n r M h; exact det_radj M h
  | succ d ih =>
    intro n r M h
    have h1 := det_radj (n := n) (r := r + 1 + d) (fun i k => M (tr r (r + 1 + d) (tr (r + 1 + d) (r + 1 + d + 1) i)) k) (by omega)
    have h2 := ih (n := n) (r := r) (fun i k => M (tr (r + 1 + d) (r + 1 + d + 1) i) k) (by omega)
    have h3 := det_radj (n := n) (r := r + 1 + d) M (by omega)
    have e : (fun i k => M (tr r (r + 1 + (d + 1)) i) k) = fun i k => M (tr (r + 1 + d) (r + 1 + d + 1) (tr r (r + 1 + d) (tr (r + 1 + d) (r + 1 + d + 1) i))) k := by
      funext i k
      congr 1
      unfold tr
      repeat' (first | omega | split)
    rw [e]
    have h4 := det_radj (n := n) (r := r + 1 + d) (fun i k => M (tr (r + 1 + d) (r + 1 + d + 1) (tr r (r + 1 + d) i)) k) (by omega)
    rw [h4]
    have h5 := ih (n := n) (r := r) (fun i k => M (tr (r + 1 + d) (r + 1 + d + 1) i) k) (by omega)
    rw [h5, h3]
    omega
theorem det_rows {n a b : Nat} (M : Nat → Nat → Int) (ha : a < n) (hb : b < n) (h : a ≠ b) : det n (fun i k => M (tr a b i) k) = - det n M := by
  by_cases g : a < b
  · obtain ⟨d, rfl⟩ : ∃ d, b = a + 1 + d := ⟨b - (a + 1), by omega⟩
    exact det_rdist d M hb
  · obtain ⟨d, rfl⟩ : ∃ d, a = b + 1 + d := ⟨a - (b + 1), by omega⟩
    rw [← det_rdist d M ha]
    refine det_congr fun i k _ _ => ?_
    congr 1
    unfold tr
    repeat' (first | omega | split)
/-- two rows are exchanged, one of them turns its signs -/
def sx (M : Nat → Nat → Int) (a b : Nat) : Nat → Nat → Int := fun i k => if i = a then M b k else if i = b then - M a k else M i k
theorem det_sx {n a b : Nat} (M : Nat → Nat → Int) (ha : a < n) (hb : b < n) (h : a ≠ b) : det n (sx M a b) = det n M := by
  have e : sx M a b = rr (fun i k => M (tr a b i) k) b fun k => - (fun i k => M (tr a b i) k) b k := by
    funext i k
    unfold sx rr tr
    repeat' (first | omega | split)
    all_goals (try rfl)
    all_goals (subst_vars; try (first | rfl | omega))
    all_goals simp_all
  rw [e, det_rneg _ hb, det_rows M ha hb h]
  omega
end Mx

namespace Mx
/-! clearing without fractions (Bareiss, all rows): A the table, R what it has become, k columns kept, s their number -/
structure Inv (n k : Nat) (c : Nat → Nat) (s : Int) (A R : Nat → Nat → Int) : Prop where
  s0 : s ≠ 0
  kn : k ≤ n
  dt : s = det k fun i l => A i (c l)
  up : ∀ r, r < k → ∀ j, s * A r j = sm k fun l => A r (c l) * R l j
  dn : ∀ r, k ≤ r → r < n → ∀ j, R r j = s * A r j - sm k fun l => A r (c l) * R l j
  kr : ∀ l m, l < k → m < k → R l (c m) = if l = m then s else 0
theorem Inv.zero {n k : Nat} {c : Nat → Nat} {s : Int} {A R : Nat → Nat → Int} (I : Inv n k c s A R) {r m : Nat} (h1 : k ≤ r) (h2 : r < n) (hm : m < k) : R r (c m) = 0 := by
  rw [I.dn r h1 h2, sm_one hm fun l hl hne => by rw [I.kr l m hl hm, if_neg hne, Int.mul_zero], I.kr m m hm hm, if_pos rfl, Int.mul_comm]
  omega
theorem Inv.start (n : Nat) (c : Nat → Nat) (A : Nat → Nat → Int) : Inv n 0 c 1 A A where
  s0 := by decide
  kn := Nat.zero_le _
  dt := rfl
  up := fun r h => by omega
  dn := fun r _ _ j => by show A r j = 1 * A r j - 0; omega
  kr := fun l m h => by omega
theorem Inv.congr {n k : Nat} {c : Nat → Nat} {s : Int} {A R S : Nat → Nat → Int} (I : Inv n k c s A R) (h : ∀ i, i < n → ∀ j, S i j = R i j) : Inv n k c s A S where
  s0 := I.s0
  kn := I.kn
  dt := I.dt
  up := fun r hr j => by rw [I.up r hr j]; exact sm_congr fun l hl => by rw [h l (Nat.lt_of_lt_of_le hl I.kn)]
  dn := fun r h1 h2 j => by rw [h r h2, I.dn r h1 h2]; congr 1; exact sm_congr fun l hl => by rw [h l (Nat.lt_of_lt_of_le hl I.kn)]
  kr := fun l m hl hm => by rw [h l (Nat.lt_of_lt_of_le hl I.kn)]; exact I.kr l m hl hm
theorem Inv.congrC {n k : Nat} {c d : Nat → Nat} {s : Int} {A R : Nat → Nat → Int} (I : Inv n k c s A R) (h : ∀ l, l < k → d l = c l) : Inv n k d s A R where
  s0 := I.s0
  kn := I.kn
  dt := by rw [I.dt]; exact det_congr fun i l _ hl => by rw [h l hl]
  up := fun r hr j => by rw [I.up r hr j]; exact sm_congr fun l hl => by rw [h l hl]
  dn := fun r h1 h2 j => by rw [I.dn r h1 h2]; congr 1; exact sm_congr fun l hl => by rw [h l hl]
  kr := fun l m hl hm => by rw [h m hm]; exact I.kr l m hl hm
theorem Inv.swap {n k a b : Nat} {c : Nat → Nat} {s : Int} {A R : Nat → Nat → Int} (I : Inv n k c s A R) (ha : k ≤ a) (hb : k ≤ b) (ha2 : a < n) (hb2 : b < n) : Inv n k c s (sx A a b) (sx R a b) := by
  have lo : ∀ (M : Nat → Nat → Int) (r j : Nat), r < k → sx M a b r j = M r j := fun M r j h => by unfold sx; rw [if_neg (by omega), if_neg (by omega)]
  refine ⟨I.s0, I.kn, ?_, fun r h j => ?_, fun r h1 h2 j => ?_, fun l m hl hm => ?_⟩
  · rw [I.dt]
    exact det_congr fun i l hi hl => (lo A i _ hi).symm
  · rw [lo A r _ h, I.up r h]
    exact sm_congr fun l hl => by rw [lo A r _ h, lo R l _ hl]
  · have e : sm k (fun l => sx A a b r (c l) * sx R a b l j) = sm k (fun l => sx A a b r (c l) * R l j) := sm_congr fun l hl => by rw [lo R l _ hl]
    rw [e]
    unfold sx
    by_cases e1 : r = a
    · simp only [if_pos e1]
      exact I.dn b hb hb2 j
    · by_cases e2 : r = b
      · simp only [if_neg e1, if_pos e2]
        rw [I.dn a ha ha2 j, show sm k (fun l => - A a (c l) * R l j) = - sm k (fun l => A a (c l) * R l j) from by
          rw [← sm_neg]
          exact sm_congr fun l _ => Int.neg_mul _ _]
        grind
      · simp only [if_neg e1, if_neg e2]
        exact I.dn r h1 h2 j
  · rw [lo R l _ hl]
    exact I.kr l m hl hm
/-- a column that is made of the columns ahead and a rest -/
theorem det_comb {m k p : Nat} (X : Nat → Nat → Int) (a : Nat → Int) (rest : Nat → Int) (hp : p < m) (hk : k ≤ p) : det m (cr X p fun r => sm k (fun l => a l * X r l) + rest r) = det m (cr X p rest) := by
  have z := det_lin X 1 1 (fun r => sm k fun l => a l * X r l) rest hp
  have e : (cr X p fun i => 1 * sm k (fun l => a l * X i l) + 1 * rest i) = cr X p fun r => sm k (fun l => a l * X r l) + rest r := by
    funext i j
    unfold cr
    try dsimp only
    split
    · rw [Int.one_mul, Int.one_mul]
    · rfl
  rw [e, det_sum X a (fun l r => X r l) hp, sm_zero fun l hl => by
    rw [det_cols (c := p) (d := l) hp (by omega) (by omega) fun i _ => by
      unfold cr
      try dsimp only
      rw [if_pos rfl, if_neg (by omega)], Int.mul_zero]] at z
  omega
/-- what is above, with a column ahead among those that make it -/
theorem det_comb_in {m k p : Nat} (X : Nat → Nat → Int) (a : Nat → Int) (rest : Nat → Int) (hk : k ≤ m) (hp : p < k) : det m (cr X p fun r => sm k (fun l => a l * X r l) + rest r) = a p * det m X + det m (cr X p rest) := by
  have z := det_lin X 1 1 (fun r => sm k fun l => a l * X r l) rest (show p < m by omega)
  have e : (cr X p fun i => 1 * sm k (fun l => a l * X i l) + 1 * rest i) = cr X p fun r => sm k (fun l => a l * X r l) + rest r := by
    funext i j
    unfold cr
    try dsimp only
    split
    · rw [Int.one_mul, Int.one_mul]
    · rfl
  rw [e, det_sum X a (fun l r => X r l) (show p < m by omega), sm_one hp fun l hl hne => by
    rw [det_cols (c := p) (d := l) (by omega) (by omega) (fun z => hne z.symm) fun i _ => by
      unfold cr
      try dsimp only
      rw [if_pos rfl, if_neg (fun z => hne z)], Int.mul_zero], cr_self] at z
  omega
theorem mul_left {a b c : Int} (h : a ≠ 0) (e : a * b = a * c) : b = c := Int.eq_of_mul_eq_mul_left h e
section
variable {n k : Nat} {c : Nat → Nat} {s : Int} {A R : Nat → Nat → Int}
theorem Inv.cramer (I : Inv n k c s A R) {i : Nat} (v : Nat) (hi : i < k) : det k (cr (fun r l => A r (c l)) i fun r => A r v) = R i v := by
  refine mul_left I.s0 ?_
  rw [← det_scale _ _ _ hi]
  have e : det k (cr (fun r l => A r (c l)) i fun r => s * A r v) = det k (cr (fun r l => A r (c l)) i fun r => sm k (fun l => R l v * (fun r l => A r (c l)) r l) + 0) := by
    refine det_congr fun r l hr _ => ?_
    unfold cr
    try dsimp only
    split
    · rw [I.up r hr v, Int.add_zero]
      exact sm_congr fun l _ => Int.mul_comm _ _
    · rfl
  rw [e, det_comb_in _ _ _ (Nat.le_refl _) hi, ← I.dt, det_zero_col (c := i) _ hi fun r _ => by unfold cr; (try dsimp only); rw [if_pos rfl], Int.add_zero, Int.mul_comm]
/-- the kept columns and one more, the rows ahead and one more -/
def bd (k : Nat) (c : Nat → Nat) (A : Nat → Nat → Int) (u v : Nat) : Nat → Nat → Int := fun r l => A (if r < k then r else u) (if l < k then c l else v)
theorem bd_lo {r l u v : Nat} (hl : l < k) : bd k c A u v r l = A (if r < k then r else u) (c l) := by unfold bd; rw [if_pos hl]
theorem Inv.border (I : Inv n k c s A R) {u : Nat} (v : Nat) (h1 : k ≤ u) (h2 : u < n) : det (k + 1) (bd k c A u v) = R u v := by
  refine mul_left I.s0 ?_
  rw [show bd k c A u v = cr (bd k c A u v) k fun r => bd k c A u v r k from (cr_self _ _).symm, ← det_scale _ _ _ (Nat.lt_succ_self k)]
  have e : det (k + 1) (cr (bd k c A u v) k fun r => s * bd k c A u v r k) = det (k + 1) (cr (bd k c A u v) k fun r => sm k (fun l => R l v * bd k c A u v r l) + if r = k then R u v else 0) := by
    refine det_congr fun r l hr _ => ?_
    unfold cr
    try dsimp only
    split
    · have ek : bd k c A u v r k = A (if r < k then r else u) v := by unfold bd; rw [if_neg (Nat.lt_irrefl k)]
      rw [ek, sm_congr (n := k) (f := fun l => R l v * bd k c A u v r l) (g := fun l => A (if r < k then r else u) (c l) * R l v) fun l hl => by rw [bd_lo hl, Int.mul_comm]]
      by_cases hrk : r < k
      · simp only [if_pos hrk]
        rw [if_neg (by omega), I.up r hrk v, Int.add_zero]
      · simp only [if_neg hrk]
        rw [if_pos (by omega), I.dn u h1 h2 v]
        omega
    · rfl
  rw [e, det_comb _ _ _ (Nat.lt_succ_self k) (Nat.le_refl k), det_last (r := k) _ (Nat.le_refl k) fun i hi hne => by unfold cr; (try dsimp only); rw [if_pos rfl, if_neg hne]]
  rw [show cr (bd k c A u v) k (fun r => if r = k then R u v else 0) k k = R u v from by unfold cr; (try dsimp only); rw [if_pos rfl, if_pos rfl], sg_even (by omega), Int.one_mul]
  rw [det_congr (n := k) (N := fun i l => A i (c l)) fun i l hi hl => by
    rw [show sk k i = i from by unfold sk; rw [if_pos hi]]
    unfold cr
    try dsimp only
    rw [if_neg (by omega), bd_lo hl, if_pos hi], ← I.dt, Int.mul_comm]
/-- the columns, one more kept -/
def ca (k : Nat) (c : Nat → Nat) (v : Nat) : Nat → Nat := fun l => if l < k then c l else v
theorem bd_pivot {v : Nat} (I : Inv n k c s A R) (hk : k < n) : det (k + 1) (fun r l => A r (ca k c v l)) = R k v := by
  rw [← I.border v (Nat.le_refl k) hk]
  refine det_congr fun r l hr _ => ?_
  unfold bd ca
  rw [show (if r < k then r else k) = r from by split <;> omega]
/-- with two more rows and columns -/
theorem Inv.below (I : Inv n k c s A R) {i v : Nat} (j : Nat) (hk : k < i) (hi : i < n) : s * det (k + 2) (fun r l => A (if r < k + 1 then r else i) (if l < k + 1 then ca k c v l else j)) = R k v * R i j - R i v * R k j := by
  generalize hX : (fun r l => A (if r < k + 1 then r else i) (if l < k + 1 then ca k c v l else j)) = X
  have xlo : ∀ r l, l < k → X r l = A (if r < k + 1 then r else i) (c l) := fun r l hl => by
    rw [← hX]
    show A _ (if l < k + 1 then ca k c v l else j) = _
    rw [if_pos (show l < k + 1 by omega), ca, if_pos hl]
  have xla : ∀ r, X r (k + 1) = A (if r < k + 1 then r else i) j := fun r => by
    rw [← hX]
    show A _ (if k + 1 < k + 1 then ca k c v (k + 1) else j) = _
    rw [if_neg (show ¬ k + 1 < k + 1 by omega)]
  have e0 : det (k + 2) X = det (k + 2) (cr X (k + 1) fun r => X r (k + 1)) := by rw [cr_self]
  rw [e0, ← det_scale _ _ _ (by omega)]
  have e : det (k + 2) (cr X (k + 1) fun r => s * X r (k + 1)) = det (k + 2) (cr X (k + 1) fun r => sm k (fun l => R l j * X r l) + (R k j * (if r = k then 1 else 0) + R i j * (if r = k + 1 then 1 else 0))) := by
    refine det_congr fun r l hr _ => ?_
    unfold cr
    try dsimp only
    split
    · rw [xla, sm_congr (n := k) (f := fun l => R l j * X r l) (g := fun l => A (if r < k + 1 then r else i) (c l) * R l j) fun l hl => by rw [xlo r l hl, Int.mul_comm]]
      by_cases h1 : r < k
      · simp only [if_pos (show r < k + 1 by omega)]
        rw [if_neg (by omega), if_neg (by omega), I.up r h1 j]
        omega
      · by_cases h2 : r = k
        · simp only [if_pos (show r < k + 1 by omega)]
          subst h2
          rw [if_pos rfl, if_neg (by omega), I.dn r (Nat.le_refl r) (by omega) j]
          omega
        · simp only [if_neg (show ¬ r < k + 1 by omega)]
          rw [if_neg h2, if_pos (by omega), I.dn i (by omega) hi j]
          omega
    · rfl
  rw [e, det_comb _ _ _ (by omega) (by omega), det_lin _ _ _ _ _ (by omega)]
  rw [det_last (n := k + 1) (r := k) _ (by omega) fun q hq hne => by unfold cr; (try dsimp only); rw [if_pos rfl, if_neg hne]]
  rw [det_last (n := k + 1) (r := k + 1) _ (by omega) fun q hq hne => by unfold cr; (try dsimp only); rw [if_pos rfl, if_neg hne]]
  rw [sg_odd (by omega), sg_even (by omega)]
  have c1 : cr X (k + 1) (fun r => if r = k then 1 else 0) k (k + 1) = 1 := by unfold cr; (try dsimp only); rw [if_pos rfl, if_pos rfl]
  have c2 : cr X (k + 1) (fun r => if r = k + 1 then 1 else 0) (k + 1) (k + 1) = 1 := by unfold cr; (try dsimp only); rw [if_pos rfl, if_pos rfl]
  rw [c1, c2]
  have d1 : det (k + 1) (fun q l => cr X (k + 1) (fun r => if r = k then 1 else 0) (sk k q) l) = R i v := by
    rw [← I.border v (show k ≤ i by omega) hi]
    refine det_congr fun q l hq hl => ?_
    unfold cr
    try dsimp only
    rw [if_neg (by omega), ← hX]
    show A (if sk k q < k + 1 then sk k q else i) (if l < k + 1 then ca k c v l else j) = A (if q < k then q else i) (if l < k then c l else v)
    rw [if_pos hl]
    unfold ca sk
    congr 1
    repeat' (first | omega | split)
  have d2 : det (k + 1) (fun q l => cr X (k + 1) (fun r => if r = k + 1 then 1 else 0) (sk (k + 1) q) l) = R k v := by
    rw [← bd_pivot I (by omega)]
    refine det_congr fun q l hq hl => ?_
    unfold cr
    try dsimp only
    rw [if_neg (by omega), ← hX]
    show A (if sk (k + 1) q < k + 1 then sk (k + 1) q else i) (if l < k + 1 then ca k c v l else j) = A q (ca k c v l)
    rw [if_pos hl, show sk (k + 1) q = q from by unfold sk; rw [if_pos hq], if_pos hq]
  rw [d1, d2]
  grind
theorem Inv.above (I : Inv n k c s A R) {i v : Nat} (j : Nat) (hk : k < n) (hi : i < k) : s * det (k + 1) (cr (fun r l => A r (ca k c v l)) i fun r => A r j) = R k v * R i j - R i v * R k j := by
  rw [← det_scale _ _ _ (by omega)]
  have lo : ∀ r l, l < k → (fun r l => A r (ca k c v l)) r l = A r (c l) := fun r l hl => by
    show A r (ca k c v l) = _
    rw [ca, if_pos hl]
  have e : det (k + 1) (cr (fun r l => A r (ca k c v l)) i fun r => s * A r j) = det (k + 1) (cr (fun r l => A r (ca k c v l)) i fun r => sm k (fun l => R l j * (fun r l => A r (ca k c v l)) r l) + R k j * (if r = k then 1 else 0)) := by
    refine det_congr fun r l hr _ => ?_
    unfold cr
    try dsimp only
    split
    · rw [sm_congr (n := k) (f := fun l => R l j * (fun r l => A r (ca k c v l)) r l) (g := fun l => A r (c l) * R l j) fun l hl => by rw [lo r l hl, Int.mul_comm]]
      by_cases h1 : r < k
      · rw [if_neg (by omega), I.up r h1 j]
        omega
      · obtain rfl : r = k := by omega
        rw [if_pos rfl, I.dn r (Nat.le_refl r) hk j]
        omega
    · rfl
  rw [e, det_comb_in _ _ _ (by omega) hi, bd_pivot I hk, det_scale _ _ _ (show i < k + 1 by omega)]
  have f : det (k + 1) (cr (fun r l => A r (ca k c v l)) i fun r => if r = k then 1 else 0) = - R i v := by
    have z := det_swap (n := k + 1) (c := i) (d := k) (fun r l => A r (ca k c v l)) (fun r => if r = k then 1 else 0) (fun r => A r v) (by omega) (by omega) (by omega)
    rw [show cr (cr (fun r l => A r (ca k c v l)) i fun r => if r = k then 1 else 0) k (fun r => A r v) = cr (fun r l => A r (ca k c v l)) i fun r => if r = k then 1 else 0 from by
      funext r l
      unfold cr
      try dsimp only
      by_cases h : l = k
      · rw [if_pos h, if_neg (by omega), ca, if_neg (by omega)]
      · rw [if_neg h]] at z
    rw [z, det_last (r := k) _ (Nat.le_refl k) fun q hq hne => by unfold cr; (try dsimp only); rw [if_pos rfl, if_neg hne]]
    rw [show cr (cr (fun r l => A r (ca k c v l)) i fun r => A r v) k (fun r => if r = k then 1 else 0) k k = 1 from by unfold cr; (try dsimp only); rw [if_pos rfl, if_pos rfl], sg_even (by omega)]
    rw [← I.cramer v hi]
    rw [det_congr (n := k) (M := fun q l => cr (cr (fun r l => A r (ca k c v l)) i fun r => A r v) k (fun r => if r = k then 1 else 0) (sk k q) l) (N := cr (fun r l => A r (c l)) i fun r => A r v) fun q l hq hl => by
      rw [show sk k q = q from by unfold sk; rw [if_pos hq]]
      unfold cr
      try dsimp only
      rw [if_neg (by omega)]
      split
      · rfl
      · rw [ca, if_pos hl]]
    omega
  rw [f]
  grind
/-- one column more is kept -/
theorem Inv.step (I : Inv n k c s A R) {v : Nat} (hk : k < n) (hp : R k v ≠ 0) : ∃ S : Nat → Nat → Int, (∀ j, S k j = R k j) ∧ (∀ i, i < n → i ≠ k → ∀ j, s * S i j = R k v * R i j - R i v * R k j) ∧ Inv n (k + 1) (ca k c v) (R k v) A S := by
  let S : Nat → Nat → Int := fun i j => if i = k then R k j else if i < k then det (k + 1) (cr (fun r l => A r (ca k c v l)) i fun r => A r j) else det (k + 2) (fun r l => A (if r < k + 1 then r else i) (if l < k + 1 then ca k c v l else j))
  have h1 : ∀ j, S k j = R k j := fun j => if_pos rfl
  have h2 : ∀ i, i < n → i ≠ k → ∀ j, s * S i j = R k v * R i j - R i v * R k j := fun i hi hne j => by
    show s * (if i = k then R k j else if i < k then _ else _) = _
    rw [if_neg hne]
    by_cases h : i < k
    · rw [if_pos h]
      exact I.above j hk h
    · rw [if_neg h]
      exact I.below j (by omega) hi
  have cl : ∀ l, l < k → ca k c v l = c l := fun l hl => by rw [ca, if_pos hl]
  have ck : ca k c v k = v := by rw [ca, if_neg (Nat.lt_irrefl k)]
  -- the sums, times s
  have hs : ∀ r j, s * sm k (fun l => A r (ca k c v l) * S l j) = R k v * sm k (fun l => A r (c l) * R l j) - R k j * sm k (fun l => A r (c l) * R l v) := fun r j => by
    rw [← sm_mul, ← sm_mul, ← sm_mul, Int.sub_eq_add_neg, ← sm_neg, ← sm_add]
    refine sm_congr fun l hl => ?_
    rw [cl l hl]
    have := h2 l (by omega) (by omega) j
    grind
  refine ⟨S, h1, h2, hp, hk, (bd_pivot I hk).symm, fun r hr j => ?_, fun r h3 h4 j => ?_, fun l m hl hm => ?_⟩
  · refine mul_left I.s0 ?_
    show s * (R k v * A r j) = s * (sm k (fun l => A r (ca k c v l) * S l j) + A r (ca k c v k) * S k j)
    rw [Int.mul_add, hs, ck, h1]
    by_cases h : r < k
    · rw [← I.up r h j, ← I.up r h v]
      grind
    · obtain rfl : r = k := by omega
      have a1 := I.dn r (Nat.le_refl r) hk j
      have a2 := I.dn r (Nat.le_refl r) hk v
      grind
  · refine mul_left I.s0 ?_
    show s * S r j = s * (R k v * A r j - (sm k (fun l => A r (ca k c v l) * S l j) + A r (ca k c v k) * S k j))
    rw [h2 r h4 (by omega), Int.mul_sub, Int.mul_add, hs, ck, h1]
    have a1 := I.dn r (by omega) h4 j
    have a2 := I.dn r (by omega) h4 v
    grind
  · by_cases e1 : l = k
    · subst e1
      rw [h1]
      by_cases e2 : m = l
      · subst e2
        rw [ck, if_pos rfl]
      · rw [cl m (by omega), I.zero (Nat.le_refl l) hk (by omega), if_neg (fun z => e2 z.symm)]
    · refine mul_left I.s0 ?_
      rw [h2 l (by omega) e1]
      by_cases e2 : m = k
      · subst e2
        rw [ck, if_neg e1]
        grind
      · rw [cl m (by omega), I.zero (Nat.le_refl k) hk (by omega), I.kr l m (by omega) (by omega)]
        split <;> grind
/-- a column that none of the rows left has: the determinant is nought -/
theorem Inv.none (I : Inv n k c s A R) {v : Nat} (hv : v < n) (hc : ∀ l, l < k → c l < n ∧ c l ≠ v) (h : ∀ r, k ≤ r → r < n → R r v = 0) : det n A = 0 := by
  refine mul_left I.s0 ?_
  rw [Int.mul_zero, show det n A = det n (cr A v fun r => A r v) by rw [cr_self], ← det_scale _ _ _ hv]
  have e : det n (cr A v fun r => s * A r v) = det n (cr A v fun r => sm k fun l => R l v * A r (c l)) := by
    refine det_congr fun r j hr _ => ?_
    unfold cr
    try dsimp only
    split
    · rw [sm_congr (n := k) (f := fun l => R l v * A r (c l)) (g := fun l => A r (c l) * R l v) fun l _ => Int.mul_comm _ _]
      by_cases g : r < k
      · exact I.up r g v
      · have := I.dn r (by omega) hr v
        rw [h r (by omega) hr] at this
        omega
    · rfl
  rw [e, det_sum _ (fun l => R l v) (fun l r => A r (c l)) hv]
  refine sm_zero fun l hl => ?_
  rw [det_cols (c := v) (d := c l) hv (hc l hl).1 (fun z => (hc l hl).2 z.symm) fun i _ => by
    unfold cr
    try dsimp only
    rw [if_pos rfl, if_neg (hc l hl).2], Int.mul_zero]
/-- all columns are kept -/
theorem Inv.all (I : Inv n n c s A R) (hc : ∀ l, l < n → c l = l) : s = det n A := by
  rw [I.dt]
  exact det_congr fun i l _ hl => by rw [hc l hl]
end
end Mx

namespace Mx
/-! how great a determinant can be -/
theorem natAbs_sm (n : Nat) (f : Nat → Int) (b : Nat) (h : ∀ j, j < n → (f j).natAbs ≤ b) : (sm n f).natAbs ≤ n * b := by
  induction n with
  | zero => show (0 : Int).natAbs ≤ _; simp
  | succ n ih =>
    show (sm n f + f n).natAbs ≤ _
    have h1 := ih fun j hj => h j (by omega)
    have h2 := h n (by omega)
    have h3 := Int.natAbs_add_le (sm n f) (f n)
    rw [Nat.add_mul]
    omega
theorem det_bound {B : Nat} : ∀ {n : Nat} {M : Nat → Nat → Int}, (∀ i k, i < n → k < n → (M i k).natAbs ≤ B) → (det n M).natAbs ≤ (n * B) ^ n := by
  intro n
  induction n with
  | zero => intro M _; exact Nat.le_refl 1
  | succ n ih =>
    intro M h
    refine Nat.le_trans (natAbs_sm (n + 1) _ (B * ((n + 1) * B) ^ n) fun j hj => ?_) ?_
    · rw [Int.natAbs_mul, Int.natAbs_mul]
      have e : (sg j).natAbs = 1 := by unfold sg; split <;> rfl
      rw [e, Nat.one_mul]
      refine Nat.mul_le_mul (h 0 j (by omega) hj) (Nat.le_trans (ih fun i k hi hk => h (i + 1) (sk j k) (by omega) (by unfold sk; split <;> omega)) ?_)
      exact Nat.pow_le_pow_left (Nat.mul_le_mul_right _ (by omega)) n
    · rw [Nat.pow_succ]
      exact Nat.le_of_eq (by rw [← Nat.mul_assoc, Nat.mul_comm])
theorem det_bits {b n : Nat} {M : Nat → Nat → Int} (hn : n ≤ 10) (h : ∀ i k, i < n → k < n → (M i k).natAbs < 2 ^ b) : (det n M).natAbs < 2 ^ ((b + 4) * n + 1) := by
  refine Nat.lt_of_le_of_lt (det_bound (B := 2 ^ b) fun i k hi hk => Nat.le_of_lt (h i k hi hk)) ?_
  rw [Nat.pow_succ, Nat.pow_mul]
  have h1 : (n * 2 ^ b) ^ n ≤ (2 ^ (b + 4)) ^ n := Nat.pow_le_pow_left (by rw [Nat.pow_add, Nat.mul_comm]; exact Nat.mul_le_mul_left _ (Nat.le_trans hn (by decide))) n
  have h2 : 0 < (2 ^ (b + 4)) ^ n := Nat.pow_pos (Nat.pow_pos (by decide))
  omega
/-! rows told as lists -/
def ent (rs : List (List Int)) (i j : Nat) : Int := (rs.getD i []).getD j 0
def elim (chief row : List Int) (p q s : Int) : List Int := (row.zip chief).map fun z => (p * z.1 - q * z.2).fdiv s
def clrRow (rs : List (List Int)) (at' c : Nat) (s : Int) (k : Nat) (row : List Int) : List Int :=
  if k = at' then row else elim (rs.getD at' []) row ((rs.getD at' []).getD c 0) (row.getD c 0) s
def clrOf (rs : List (List Int)) (at' c : Nat) (s : Int) : List (List Int) := rs.mapIdx (clrRow rs at' c s)
def swp (rs : List (List Int)) (a b : Nat) : List (List Int) := if a = b then rs else (rs.set a (rs.getD b [])).set b ((rs.getD a []).map fun x => -x)
theorem getD_lt {α : Type} {l : List α} {i : Nat} (d : α) (h : i < l.length) : l.getD i d = l[i] := by
  rw [List.getD_eq_getElem?_getD, List.getElem?_eq_getElem h]; rfl
theorem getD_ge {α : Type} {l : List α} {i : Nat} (d : α) (h : l.length ≤ i) : l.getD i d = d := by
  rw [List.getD_eq_getElem?_getD, List.getElem?_eq_none h]; rfl
theorem len_swp {rs : List (List Int)} {a b : Nat} : (swp rs a b).length = rs.length := by
  unfold swp
  split
  · rfl
  · rw [List.length_set, List.length_set]
theorem len_clr {rs : List (List Int)} {a c : Nat} {s : Int} : (clrOf rs a c s).length = rs.length := List.length_mapIdx
/-- n rows of w numbers -/
def Sq (n w : Nat) (rs : List (List Int)) : Prop := rs.length = n ∧ ∀ row ∈ rs, row.length = w
theorem Sq.at {n w : Nat} {rs : List (List Int)} (h : Sq n w rs) {i : Nat} (hi : i < n) : (rs.getD i []).length = w := by
  rw [getD_lt [] (by rw [h.1]; exact hi)]
  exact h.2 _ (List.getElem_mem _)
theorem Sq.swp {n w a b : Nat} {rs : List (List Int)} (h : Sq n w rs) (ha : a < n) (hb : b < n) : Sq n w (Mx.swp rs a b) := by
  refine ⟨by rw [len_swp, h.1], fun row hr => ?_⟩
  unfold Mx.swp at hr
  split at hr
  · exact h.2 row hr
  · rcases List.mem_or_eq_of_mem_set hr with hr | rfl
    · rcases List.mem_or_eq_of_mem_set hr with hr | rfl
      · exact h.2 row hr
      · exact h.at hb
    · rw [List.length_map]
      exact h.at ha
theorem Sq.clr {n w a c : Nat} {s : Int} {rs : List (List Int)} (h : Sq n w rs) (ha : a < n) : Sq n w (clrOf rs a c s) := by
  refine ⟨by rw [len_clr, h.1], fun row hr => ?_⟩
  obtain ⟨i, hi⟩ := List.mem_iff_getElem?.mp hr
  unfold clrOf at hi
  rw [List.getElem?_mapIdx] at hi
  cases e : rs[i]? with
  | none => rw [e] at hi; cases hi
  | some x =>
    rw [e] at hi
    have hx := h.2 x (List.mem_of_getElem? e)
    rw [← Option.some.inj hi]
    unfold clrRow
    split
    · exact hx
    · unfold elim
      rw [List.length_map, List.length_zip, h.at ha, hx, Nat.min_self]
theorem ent_out {n w : Nat} {rs : List (List Int)} (h : Sq n w rs) {i j : Nat} (hi : i < n) (hj : w ≤ j) : ent rs i j = 0 := getD_ge 0 (by rw [h.at hi]; exact hj)
theorem row_swp {n w a b : Nat} {rs : List (List Int)} (h : Sq n w rs) (ha : a < n) (hb : b < n) (hne : a ≠ b) (i : Nat) : (Mx.swp rs a b).getD i [] = if i = a then rs.getD b [] else if i = b then (rs.getD a []).map (fun x => -x) else rs.getD i [] := by
  have hl := h.1
  have g : ∀ l : List (List Int), l.getD i [] = (l[i]?).getD [] := fun l => List.getD_eq_getElem?_getD
  unfold Mx.swp
  rw [if_neg hne, g]
  by_cases e1 : i = a
  · subst e1
    rw [if_pos rfl, List.getElem?_set_ne (fun z => hne z.symm), List.getElem?_set_self (by omega)]
    rfl
  · rw [if_neg e1]
    by_cases e2 : i = b
    · subst e2
      rw [if_pos rfl, List.getElem?_set_self (by rw [List.length_set]; omega)]
      rfl
    · rw [if_neg e2, List.getElem?_set_ne (fun z => e2 z.symm), List.getElem?_set_ne (fun z => e1 z.symm), ← g]
theorem getD_neg (l : List Int) (j : Nat) : (l.map fun x => -x).getD j 0 = - l.getD j 0 := by
  rw [List.getD_eq_getElem?_getD, List.getD_eq_getElem?_getD, List.getElem?_map]
  cases l[j]? <;> rfl
theorem ent_swp {n w a b : Nat} {rs : List (List Int)} (h : Sq n w rs) (ha : a < n) (hb : b < n) (hne : a ≠ b) {i : Nat} (hi : i < n) (j : Nat) : ent (Mx.swp rs a b) i j = sx (ent rs) a b i j := by
  unfold ent sx
  rw [row_swp h ha hb hne]
  by_cases e1 : i = a
  · rw [if_pos e1, if_pos e1]
  · rw [if_neg e1, if_neg e1]
    by_cases e2 : i = b
    · rw [if_pos e2, if_pos e2, getD_neg]
    · rw [if_neg e2, if_neg e2]
theorem row_clr {rs : List (List Int)} {a c : Nat} {s : Int} {i : Nat} (hi : i < rs.length) : (clrOf rs a c s).getD i [] = clrRow rs a c s i (rs.getD i []) := by
  unfold clrOf
  rw [List.getD_eq_getElem?_getD, List.getElem?_mapIdx, List.getElem?_eq_getElem hi, getD_lt [] hi]
  rfl
theorem ent_chief {n w a c : Nat} {s : Int} {rs : List (List Int)} (h : Sq n w rs) (ha : a < n) (j : Nat) : ent (clrOf rs a c s) a j = ent rs a j := by
  unfold ent
  rw [row_clr (by rw [h.1]; exact ha)]
  unfold clrRow
  rw [if_pos rfl]
theorem ent_clr {n w a c : Nat} {s : Int} {rs : List (List Int)} (h : Sq n w rs) (ha : a < n) {i : Nat} (hi : i < n) (hne : i ≠ a) (j : Nat) (hs : s ≠ 0) : ent (clrOf rs a c s) i j = (ent rs a c * ent rs i j - ent rs i c * ent rs a j).fdiv s := by
  by_cases hj : j < w
  · unfold ent
    rw [row_clr (by rw [h.1]; exact hi)]
    unfold clrRow elim
    have l1 := h.at hi
    have l2 := h.at ha
    rw [if_neg hne, getD_lt (l := List.map _ _) 0 (by rw [List.length_map, List.length_zip, l1, l2]; omega), List.getElem_map, List.getElem_zip]
    dsimp only
    rw [getD_lt (l := rs.getD i []) (i := j) 0 (by omega), getD_lt (l := rs.getD a []) (i := j) 0 (by omega)]
  · rw [ent_out (i := i) (j := j) (h.clr ha) hi (by omega), ent_out (i := i) (j := j) h hi (by omega), ent_out (i := a) (j := j) h ha (by omega), Int.mul_zero, Int.mul_zero]
    exact (Int.zero_fdiv s).symm
/-- tables that come of one another by exchanges of rows -/
inductive Xr (n : Nat) : (Nat → Nat → Int) → (Nat → Nat → Int) → Prop where
  | refl (A) : Xr n A A
  | step {A B a b} : Xr n A B → a < n → b < n → a ≠ b → Xr n A (sx B a b)
theorem Xr.det {n : Nat} {A B : Nat → Nat → Int} (x : Xr n A B) : Mx.det n B = Mx.det n A := by
  induction x with
  | refl => rfl
  | step x ha hb hn ih => rw [det_sx _ ha hb hn, ih]
/-- what holds of the rows while columns are cleared: up to the column v -/
structure Cl (n w v : Nat) (A : Nat → Nat → Int) (rs : List (List Int)) (kept : List Nat) (s : Int) : Prop where
  sq : Sq n w rs
  inv : ∃ B, Xr n A B ∧ Inv n kept.length (fun l => kept.getD l 0) s B (ent rs)
  lt : ∀ c ∈ kept, c < v
  sorted : kept.Pairwise (· < ·)
  none : ∀ c, c < v → c ∉ kept → ∀ r, kept.length ≤ r → r < n → ent rs r c = 0
theorem Cl.start {n w : Nat} {rs : List (List Int)} (h : Sq n w rs) : Cl n w 0 (ent rs) rs [] 1 :=
  ⟨h, ⟨_, .refl _, Inv.start _ _ _⟩, (fun c h => by cases h), .nil, (fun c h => by omega)⟩
theorem Cl.skip {n w v : Nat} {A : Nat → Nat → Int} {rs : List (List Int)} {kept : List Nat} {s : Int} (C : Cl n w v A rs kept s) (h : ∀ r, kept.length ≤ r → r < n → ent rs r v = 0) : Cl n w (v + 1) A rs kept s :=
  ⟨C.sq, C.inv, fun c hc => Nat.lt_succ_of_lt (C.lt c hc), C.sorted, fun c hc hn r h1 h2 => by
    by_cases e : c = v
    · subst e; exact h r h1 h2
    · exact C.none c (by omega) hn r h1 h2⟩
theorem Cl.keep {n w v f : Nat} {A : Nat → Nat → Int} {rs : List (List Int)} {kept : List Nat} {s : Int} (C : Cl n w v A rs kept s) (h1 : kept.length ≤ f) (h2 : f < n) (hf : ent rs f v ≠ 0) :
    Cl n w (v + 1) A (clrOf (Mx.swp rs kept.length f) kept.length v s) (kept ++ [v]) (ent (clrOf (Mx.swp rs kept.length f) kept.length v s) kept.length v) := by
  obtain ⟨B, xB, I⟩ := C.inv
  have hk : kept.length < n := by omega
  -- the rows exchanged
  obtain ⟨B2, xB2, I2, hp, hz⟩ : ∃ B2, Xr n A B2 ∧ Inv n kept.length (fun l => kept.getD l 0) s B2 (ent (Mx.swp rs kept.length f)) ∧ ent (Mx.swp rs kept.length f) kept.length v ≠ 0 ∧ (∀ c, c < v → c ∉ kept → ∀ r, kept.length ≤ r → r < n → ent (Mx.swp rs kept.length f) r c = 0) := by
    by_cases e : kept.length = f
    · have e2 : Mx.swp rs kept.length f = rs := by unfold Mx.swp; rw [if_pos e]
      rw [e2]
      exact ⟨B, xB, I, by rw [e]; exact hf, C.none⟩
    · refine ⟨_, xB.step hk h2 e, (I.swap (Nat.le_refl _) h1 hk h2).congr fun i hi j => ent_swp C.sq hk h2 e hi j, ?_, fun c hc hn r hr hr2 => ?_⟩
      · rw [ent_swp C.sq hk h2 e hk v]
        unfold sx
        rw [if_pos rfl]
        exact hf
      · rw [ent_swp C.sq hk h2 e hr2 c]
        unfold sx
        split
        · exact C.none c hc hn f h1 h2
        · split
          · rw [C.none c hc hn _ (Nat.le_refl _) hk]; rfl
          · exact C.none c hc hn r hr hr2
  have sq2 : Sq n w (Mx.swp rs kept.length f) := C.sq.swp hk h2
  generalize Mx.swp rs kept.length f = rs2 at I2 hp hz sq2 ⊢
  obtain ⟨S, hS1, hS2, I3⟩ := I2.step hk hp
  have eS : ∀ i, i < n → ∀ j, ent (clrOf rs2 kept.length v s) i j = S i j := fun i hi j => by
    by_cases e : i = kept.length
    · subst e
      rw [ent_chief sq2 hk, hS1]
    · rw [ent_clr sq2 hk hi e j I.s0, ← hS2 i hi e j, Int.mul_fdiv_cancel_left _ I.s0]
  refine ⟨sq2.clr hk, ⟨B2, xB2, ?_⟩, fun c hc => ?_, ?_, fun c hc hn r hr hr2 => ?_⟩
  · rw [ent_chief sq2 hk, List.length_append]
    refine (I3.congr eS).congrC fun l hl => ?_
    unfold ca
    by_cases e : l < kept.length
    · rw [if_pos e, List.getD_eq_getElem?_getD, List.getElem?_append_left e, ← List.getD_eq_getElem?_getD]
    · have e' : l = kept.length := by omega
      rw [if_neg e, e', List.getD_eq_getElem?_getD, List.getElem?_append_right (Nat.le_refl _), Nat.sub_self]
      rfl
  · rcases List.mem_append.mp hc with h | h
    · exact Nat.lt_succ_of_lt (C.lt c h)
    · rw [List.mem_singleton.mp h]; exact Nat.lt_succ_self v
  · rw [List.pairwise_append]
    exact ⟨C.sorted, List.pairwise_singleton _ _, fun a ha b hb => by rw [List.mem_singleton.mp hb]; exact C.lt a ha⟩
  · rw [List.length_append] at hr
    have hne : c ≠ v := fun e => hn (List.mem_append_right _ (by rw [e]; exact List.mem_singleton.mpr rfl))
    have hn2 : c ∉ kept := fun z => hn (List.mem_append_left _ z)
    have hr' : kept.length < r := hr
    rw [eS r hr2]
    refine mul_left I.s0 ?_
    rw [hS2 r hr2 (by omega) c, hz c (by omega) hn2 r (by omega) hr2, hz c (by omega) hn2 _ (Nat.le_refl _) hk]
    simp
theorem Cl.bound {n w v b : Nat} {A : Nat → Nat → Int} {rs : List (List Int)} {kept : List Nat} {s : Int} (C : Cl n w v A rs kept s) (hn : n ≤ 10) (h : ∀ i j, i < n → (A i j).natAbs < 2 ^ b) : (∀ i j, i < n → (ent rs i j).natAbs < 2 ^ ((b + 4) * (n + 1) + 1)) ∧ s.natAbs < 2 ^ ((b + 4) * (n + 1) + 1) := by
  obtain ⟨B, xB, I⟩ := C.inv
  have hB : ∀ i j, i < n → (B i j).natAbs < 2 ^ b := by
    clear I
    induction xB with
    | refl => exact h
    | step x ha hb hne ih =>
      intro i j hi
      unfold sx
      split
      · exact ih _ _ hb
      · split
        · rw [Int.natAbs_neg]; exact ih _ _ ha
        · exact ih _ _ hi
  have up : ∀ (m : Nat) (x : Nat), m ≤ n + 1 → x < 2 ^ ((b + 4) * m + 1) → x < 2 ^ ((b + 4) * (n + 1) + 1) := fun m x hm hx => Nat.lt_of_lt_of_le hx (Nat.pow_le_pow_right (by decide) (Nat.add_le_add_right (Nat.mul_le_mul_left _ hm) 1))
  have hk := I.kn
  constructor
  · intro i j hi
    by_cases e : i < kept.length
    · rw [← I.cramer j e]
      refine up kept.length _ (by omega) (det_bits (by omega) fun r l hr hl => ?_)
      unfold cr
      split
      · exact hB _ _ (by omega)
      · exact hB _ _ (by omega)
    · rw [← I.border j (show kept.length ≤ i by omega) hi]
      by_cases hn0 : kept.length + 1 ≤ 10
      · refine up (kept.length + 1) _ (by omega) (det_bits hn0 fun r l hr hl => ?_)
        unfold bd
        exact hB _ _ (by split <;> omega)
      · omega
  · rw [I.dt]
    exact up kept.length _ (by omega) (det_bits (by omega) fun r l hr hl => hB _ _ (by omega))
theorem in_range {n : Nat} {l : List Nat} (hd : l.Nodup) (h : ∀ c ∈ l, c < n) : ((List.range n).filter fun x => decide (x ∈ l)).Perm l := by
  refine (List.perm_ext_iff_of_nodup (List.nodup_range.filter _) hd).mpr fun x => ?_
  rw [List.mem_filter, List.mem_range, decide_eq_true_iff]
  exact ⟨fun z => z.2, fun z => ⟨h x z, z⟩⟩
theorem missing {n : Nat} {l : List Nat} (hd : l.Nodup) (h : ∀ c ∈ l, c < n) (hl : l.length < n) : ∃ v, v < n ∧ v ∉ l := by
  refine Classical.byContradiction fun z => ?_
  have e := (in_range hd h).length_eq
  rw [List.filter_eq_self.mpr fun x hx => decide_eq_true (Classical.byContradiction fun y => z ⟨x, List.mem_range.mp hx, y⟩), List.length_range] at e
  omega
theorem is_range {n : Nat} {l : List Nat} (hs : l.Pairwise (· < ·)) (h : ∀ c ∈ l, c < n) (hl : l.length = n) : l = List.range n := by
  have hd : l.Nodup := List.nodup_iff_pairwise_ne.mpr (hs.imp fun h => Nat.ne_of_lt h)
  have p := in_range hd h
  have e : (List.range n).filter (fun x => decide (x ∈ l)) = List.range n := List.filter_sublist.eq_of_length (by rw [p.length_eq, hl, List.length_range])
  rw [e] at p
  exact (p.symm).eq_of_pairwise (le := (· < ·)) (fun a b _ _ h1 h2 => absurd h1 (Nat.lt_asymm h2)) hs List.pairwise_lt_range
/-- the end: the determinant -/
theorem Cl.det {n w : Nat} {A : Nat → Nat → Int} {rs : List (List Int)} {kept : List Nat} {s : Int} (C : Cl n w n A rs kept s) : (if kept.length < n then 0 else s) = Mx.det n A := by
  obtain ⟨B, xB, I⟩ := C.inv
  have hnd : kept.Nodup := List.nodup_iff_pairwise_ne.mpr (C.sorted.imp fun h => Nat.ne_of_lt h)
  by_cases e : kept.length < n
  · rw [if_pos e, ← xB.det]
    obtain ⟨v, hv, hvn⟩ := missing hnd C.lt e
    refine (I.none hv (fun l hl => ?_) fun r h1 h2 => C.none v hv hvn r h1 h2).symm
    rw [getD_lt 0 hl]
    exact ⟨C.lt _ (List.getElem_mem _), fun z => hvn (z ▸ List.getElem_mem _)⟩
  · have hk : kept.length = n := by have := I.kn; omega
    rw [if_neg e, ← xB.det]
    have hid : ∀ l, l < n → kept.getD l 0 = l := by
      intro l hl
      rw [is_range C.sorted C.lt hk, getD_lt 0 (by rw [List.length_range]; exact hl), List.getElem_range]
    rw [hk] at I
    exact I.all hid
end Mx

namespace L2
open PySem PySem.Spec PyProof.Rows
/-- a comprehension over zip of two lists of one length -/
theorem lc_zipL {K : PySem.W.Frag} {a b : Addr} {xs ys : List V} {g : TG} {tt : TT} {te : TE} {vs : List Nat} {σ : St} {H1 : Hp} {D : Addr} {Qd : Hp → Prop} (hl : xs.length = ys.length) (Pv : Nat → Hp → Prop) (h0 : Pv 0 (upd H1 D (.lst []))) (hq : ∀ i H, Pv i H → SqL K H a xs ∧ SqL K H b ys)
    (hs : ∀ (i : Nat) (x y : V) (T : Addr) (H : Hp), xs[i]? = some x → ys[i]? = some y → Pv i H → H T = none → g (.ref T) (wipe σ vs) (upd H T (.tup [x, y])) fun σ2 H2 => wipe σ2 vs = wipe σ vs ∧ tt σ2 H2 fun b H3 =>
      if b = true then te σ2 H3 fun y H4 => ∃ acc, H4 D = some (.lst acc) ∧ acc.length < sizeLine ∧ Pv (i + 1) (upd H4 D (.lst (acc ++ [y]))) else Pv (i + 1) H3) (hd : ∀ H, Pv xs.length H → Qd H) :
    ∃ W : Nat → Nat → Hp → Prop, (∃ m, W 0 m (upd H1 D (.lst []))) ∧ ∀ i m H, W i m H →
      ((Itz K a b).stop i H ∧ Qd H) ∨ ((Itz K a b).go i H ∧ ∃ Nx : Hp → Prop, (∀ H', Nx H' → ∃ m', m' < m ∧ W (i + 1) m' H') ∧ ∀ x H', (Itz K a b).yld i H x H' → g x (wipe σ vs) H' fun σ2 H2 => wipe σ2 vs = wipe σ vs ∧ tt σ2 H2 fun b H3 =>
        if b = true then te σ2 H3 fun y H4 => ∃ acc, H4 D = some (.lst acc) ∧ acc.length < sizeLine ∧ Nx (upd H4 D (.lst (acc ++ [y]))) else Nx H3) := by
  refine ⟨fun i m H => m = xs.length - i ∧ i ≤ xs.length ∧ Pv i H, ⟨xs.length, rfl, Nat.zero_le _, h0⟩, ?_⟩
  rintro i m H ⟨rfl, hi, p⟩
  obtain ⟨qx, qy⟩ := hq i H p
  by_cases hlt : i < xs.length
  · have hx : xs[i]? = some xs[i] := List.getElem?_eq_getElem hlt
    have hlt2 : i < ys.length := by omega
    have hy : ys[i]? = some ys[i] := List.getElem?_eq_getElem hlt2
    refine .inr ⟨⟨xs, ys, _, _, qx, qy, hx, hy⟩, Pv (i + 1), fun H' p' => ⟨xs.length - (i + 1), by omega, rfl, hlt, p'⟩, fun v H' z => ?_⟩
    obtain ⟨T, x', y', rfl, hT, rfl, f1, f2⟩ := z
    exact hs i x' y' T H (f1 xs qx) (f2 ys qy) p hT
  · have e : i = xs.length := by omega
    subst e
    exact .inl ⟨⟨xs, ys, qx, qy, Or.inl (Nat.le_refl _)⟩, hd H p⟩
/-- a comprehension over enumerate of a list -/
theorem lc_enum {K : PySem.W.Frag} {a : Addr} {xs : List V} {g : TG} {tt : TT} {te : TE} {vs : List Nat} {σ : St} {H1 : Hp} {D : Addr} {Qd : Hp → Prop} (Pv : Nat → Hp → Prop) (h0 : Pv 0 (upd H1 D (.lst []))) (hq : ∀ i H, Pv i H → SqL K H a xs)
    (hs : ∀ (i : Nat) (x : V) (T : Addr) (H : Hp), xs[i]? = some x → Pv i H → H T = none → g (.ref T) (wipe σ vs) (upd H T (.tup [.int (i : Nat), x])) fun σ2 H2 => wipe σ2 vs = wipe σ vs ∧ tt σ2 H2 fun b H3 =>
      if b = true then te σ2 H3 fun y H4 => ∃ acc, H4 D = some (.lst acc) ∧ acc.length < sizeLine ∧ Pv (i + 1) (upd H4 D (.lst (acc ++ [y]))) else Pv (i + 1) H3) (hd : ∀ H, Pv xs.length H → Qd H) :
    ∃ W : Nat → Nat → Hp → Prop, (∃ m, W 0 m (upd H1 D (.lst []))) ∧ ∀ i m H, W i m H →
      ((Ite K a).stop i H ∧ Qd H) ∨ ((Ite K a).go i H ∧ ∃ Nx : Hp → Prop, (∀ H', Nx H' → ∃ m', m' < m ∧ W (i + 1) m' H') ∧ ∀ x H', (Ite K a).yld i H x H' → g x (wipe σ vs) H' fun σ2 H2 => wipe σ2 vs = wipe σ vs ∧ tt σ2 H2 fun b H3 =>
        if b = true then te σ2 H3 fun y H4 => ∃ acc, H4 D = some (.lst acc) ∧ acc.length < sizeLine ∧ Nx (upd H4 D (.lst (acc ++ [y]))) else Nx H3) := by
  refine ⟨fun i m H => m = xs.length - i ∧ i ≤ xs.length ∧ Pv i H, ⟨xs.length, rfl, Nat.zero_le _, h0⟩, ?_⟩
  rintro i m H ⟨rfl, hi, p⟩
  have qx := hq i H p
  by_cases hlt : i < xs.length
  · have hx : xs[i]? = some xs[i] := List.getElem?_eq_getElem hlt
    refine .inr ⟨⟨xs, _, qx, hx⟩, Pv (i + 1), fun H' p' => ⟨xs.length - (i + 1), by omega, rfl, hlt, p'⟩, fun v H' z => ?_⟩
    obtain ⟨T, x', rfl, hT, rfl, f1⟩ := z
    exact hs i x' T H (f1 xs qx) p hT
  · have e : i = xs.length := by omega
    subst e
    exact .inl ⟨⟨xs, qx, Nat.le_refl _⟩, hd H p⟩
/-- ints of a list, each an int -/
theorem lc_intsE {K : PySem.W.Frag} {a : Addr} {ns : List Int} {g : TG} {te : TE} {vs : List Nat} {σ : St} {H1 : Hp} {Q : Addr → Hp → Prop} (f : Int → Int) (hq : SqL K H1 a (ns.map V.int)) (hz : ns.length < 2000)
    (hs : ∀ n ∈ ns, ∀ (H : Hp), Ext H1 H → ∀ (R : V → Hp → Prop), R (.int (f n)) H → g (.int n) (wipe σ vs) H fun σ2 H2 => wipe σ2 vs = wipe σ vs ∧ te σ2 H2 R)
    (hd : ∀ D H', H1 D = none → Ext H1 H' → H' D = some (.lst ((ns.map f).map V.int)) → Q D H') :
    (∃ ys, SqL K H1 a ys) ∧ ∀ D, H1 D = none → ∃ W : Nat → Nat → Hp → Prop, (∃ m, W 0 m (upd H1 D (.lst []))) ∧ ∀ i m H, W i m H →
      ((Itl K a).stop i H ∧ Q D H) ∨ ((Itl K a).go i H ∧ ∃ Nx : Hp → Prop, (∀ H', Nx H' → ∃ m', m' < m ∧ W (i + 1) m' H') ∧ ∀ x H', (Itl K a).yld i H x H' → g x (wipe σ vs) H' fun σ2 H2 => wipe σ2 vs = wipe σ vs ∧ tYes σ2 H2 fun b H3 =>
        if b = true then te σ2 H3 fun y H4 => ∃ acc, H4 D = some (.lst acc) ∧ acc.length < sizeLine ∧ Nx (upd H4 D (.lst (acc ++ [y]))) else Nx H3) := by
  refine ⟨⟨_, hq⟩, fun D hD => lc_list (xs := ns.map V.int) (fun i H' => Ext H1 H' ∧ H' D = some (.lst (((ns.take i).map f).map V.int))) ⟨Ext.upd hD, upd_same⟩ (fun i H' _ p => hq.ext p.1) ?_ ?_⟩
  · rintro i y H' hi ⟨e1, hD1⟩
    obtain ⟨n, hn, rfl⟩ : ∃ n, ns[i]? = some n ∧ y = V.int n := by
      rw [List.getElem?_map] at hi
      cases e : ns[i]? with
      | none => rw [e] at hi; cases hi
      | some n => rw [e] at hi; exact ⟨n, rfl, (Option.some.inj hi).symm⟩
    have hin : i < ns.length := (List.getElem?_eq_some_iff.mp hn).1
    refine hs n (List.mem_of_getElem? hn) H' e1 _ ⟨_, hD1, ?_, e1.mut hD, ?_⟩
    · rw [List.length_map, List.length_map, List.length_take]
      exact Nat.lt_of_lt_of_le (show min i ns.length < 2000 by omega) (by decide)
    · rw [upd_same, List.take_add_one, hn, List.map_append, List.map_append]
      rfl
  · rintro H' ⟨e1, hD1⟩
    rw [List.length_map, List.take_length] at hD1
    exact hd D H' hD e1 hD1
/-- ints of two lists side by side, each an int -/
theorem lc_zipI {K : PySem.W.Frag} {a b : Addr} {ns ms : List Int} {g : TG} {te : TE} {vs : List Nat} {σ : St} {H1 : Hp} {Q : Addr → Hp → Prop} (f : Int → Int → Int) (hl : ns.length = ms.length) (hq : SqL K H1 a (ns.map V.int)) (hq2 : SqL K H1 b (ms.map V.int)) (hz : ns.length < 2000)
    (hs : ∀ n m, n ∈ ns → m ∈ ms → ∀ (T : Addr) (H : Hp), Ext H1 H → H T = some (.tup [.int n, .int m]) → ∀ (R : V → Hp → Prop), R (.int (f n m)) H → g (.ref T) (wipe σ vs) H fun σ2 H2 => wipe σ2 vs = wipe σ vs ∧ te σ2 H2 R)
    (hd : ∀ D H', H1 D = none → Ext H1 H' → H' D = some (.lst (((ns.zip ms).map fun z => f z.1 z.2).map V.int)) → Q D H') :
    ∀ D, H1 D = none → ∃ W : Nat → Nat → Hp → Prop, (∃ m, W 0 m (upd H1 D (.lst []))) ∧ ∀ i m H, W i m H →
      ((Itz K a b).stop i H ∧ Q D H) ∨ ((Itz K a b).go i H ∧ ∃ Nx : Hp → Prop, (∀ H', Nx H' → ∃ m', m' < m ∧ W (i + 1) m' H') ∧ ∀ x H', (Itz K a b).yld i H x H' → g x (wipe σ vs) H' fun σ2 H2 => wipe σ2 vs = wipe σ vs ∧ tYes σ2 H2 fun b H3 =>
        if b = true then te σ2 H3 fun y H4 => ∃ acc, H4 D = some (.lst acc) ∧ acc.length < sizeLine ∧ Nx (upd H4 D (.lst (acc ++ [y]))) else Nx H3) := fun D hD => by
  refine lc_zipL (xs := ns.map V.int) (ys := ms.map V.int) (by rw [List.length_map, List.length_map, hl]) (fun i H' => Ext H1 H' ∧ H' D = some (.lst ((((ns.zip ms).take i).map fun z => f z.1 z.2).map V.int))) ⟨Ext.upd hD, upd_same⟩ (fun i H' p => ⟨hq.ext p.1, hq2.ext p.1⟩) ?_ ?_
  · rintro i x y T H' hx hy ⟨e1, hD1⟩ hT
    obtain ⟨n, hn, rfl⟩ : ∃ n, ns[i]? = some n ∧ x = V.int n := by
      rw [List.getElem?_map] at hx
      cases e : ns[i]? with
      | none => rw [e] at hx; cases hx
      | some n => rw [e] at hx; exact ⟨n, rfl, (Option.some.inj hx).symm⟩
    obtain ⟨m, hm, rfl⟩ : ∃ m, ms[i]? = some m ∧ y = V.int m := by
      rw [List.getElem?_map] at hy
      cases e : ms[i]? with
      | none => rw [e] at hy; cases hy
      | some n => rw [e] at hy; exact ⟨n, rfl, (Option.some.inj hy).symm⟩
    have hin : i < ns.length := (List.getElem?_eq_some_iff.mp hn).1
    have hz2 : (ns.zip ms)[i]? = some (n, m) := by rw [List.getElem?_zip_eq_some]; exact ⟨hn, hm⟩
    have e2 : Ext H1 (upd H' T (.tup [.int n, .int m])) := e1.trans (Ext.upd hT)
    have hD2 : (upd H' T (.tup [.int n, .int m])) D = some (.lst ((((ns.zip ms).take i).map fun z => f z.1 z.2).map V.int)) := Ext.upd hT _ _ hD1
    have key := hs n m (List.mem_of_getElem? hn) (List.mem_of_getElem? hm) T _ e2 upd_same
    refine key _ ⟨_, hD2, ?_, e2.mut hD, ?_⟩
    · rw [List.length_map, List.length_map, List.length_take, List.length_zip]
      exact Nat.lt_of_lt_of_le (show min i (min ns.length ms.length) < 2000 by omega) (by decide)
    · rw [upd_same, List.take_add_one, hz2, List.map_append, List.map_append]
      rfl
  · rintro H' ⟨e1, hD1⟩
    rw [List.length_map, show (ns.zip ms).take ns.length = ns.zip ms from List.take_of_length_le (by rw [List.length_zip]; omega)] at hD1
    exact hd D H' hD e1 hD1
/-! what is old is told by a smaller heap, what is new by the heap that it is made in -/
def mix (H0 H H' : Hp) : Hp := fun a => match H a with | none => H' a | some _ => H0 a
theorem mix_new {H0 H H' : Hp} {a : Addr} (h : H a = none) : mix H0 H H' a = H' a := by unfold mix; rw [h]
theorem mix_old {H0 H H' : Hp} (e : Ext H0 H) : Ext H0 (mix H0 H H') := fun a o h => by
  unfold mix
  rw [e a o h]
  exact h
theorem mix_ext {H0 H H1 H2 : Hp} (e : Ext H1 H2) : Ext (mix H0 H H1) (mix H0 H H2) := fun a o h => by
  unfold mix at h ⊢
  cases q : H a with
  | none => rw [q] at h; exact e a o h
  | some x => rw [q] at h; exact h
theorem mix_to {H0 H H' : Hp} (e0 : Ext H0 H) (e : Ext H H') : Ext (mix H0 H H') H' := fun a o h => by
  unfold mix at h
  cases q : H a with
  | none => rw [q] at h; exact h
  | some x => rw [q] at h; exact e a o (e0 a o h)
theorem mix_mix {H0 H H1 H2 : Hp} (e1 : Ext H H1) (e2 : Ext H1 H2) : Ext (mix (mix H0 H H1) H1 H2) (mix H0 H H2) := fun a o h => by
  unfold mix at h ⊢
  cases q1 : H1 a with
  | none =>
    rw [q1] at h
    rw [e1.fresh q1]
    exact h
  | some x =>
    rw [q1] at h
    dsimp only at h
    cases q : H a with
    | none => rw [q] at h; dsimp only at h ⊢; exact e2 a o (by rw [q1]; exact h)
    | some y => rw [q] at h; exact h
theorem mix_del {H H' : Hp} {k : Addr} {o : HO} (hk : H k = some o) (e : Ext H H') : Ext (mix (del H k) H H') (del H' k) := fun a o' h => by
  by_cases ek : a = k
  · subst ek
    unfold mix at h
    rw [hk] at h
    dsimp only at h
    rw [del_same] at h
    cases h
  · rw [del_ne ek]
    unfold mix at h
    cases q : H a with
    | none => rw [q] at h; exact h
    | some x => rw [q] at h; dsimp only at h; rw [del_ne ek] at h; exact e a o' h
theorem mix_self {H H' : Hp} (e : Ext H H') : Ext (mix H H H') H' := mix_to Ext.rfl' e
/-! rows of ints -/
def rwI (row : List Int) : Dt := .lst (row.map Dt.int)
def rowsD (rs : List (List Int)) : Dt := .lst (rs.map rwI)
theorem rwI_of {K : PySem.W.Frag} {H : Hp} {v : V} {row : List Int} (h : Is K H (rwI row) v) : ∃ a, v = .ref a ∧ SqL K H a (row.map V.int) := by
  obtain ⟨t, ws, rfl, ht, hl⟩ := h
  rw [of_isL_ints hl] at ht
  exact ⟨t, rfl, ht⟩
theorem rwI_is {K : PySem.W.Frag} {H : Hp} {t : Addr} {row : List Int} (h : SqL K H t (row.map V.int)) : Is K H (rwI row) (.ref t) := ⟨t, _, rfl, h, isL_ints _⟩
theorem rows_of {K : PySem.W.Frag} {H : Hp} {v : V} {rs : List (List Int)} (h : Is K H (rowsD rs) v) : ∃ a xs, v = .ref a ∧ SqL K H a xs ∧ IsL K H (rs.map rwI) xs ∧ xs.length = rs.length := by
  obtain ⟨t, ws, rfl, ht, hl⟩ := h
  exact ⟨t, ws, rfl, ht, hl, by rw [← hl.length, List.length_map]⟩
theorem isL_at {α : Type} {K : PySem.W.Frag} {H : Hp} {f : α → Dt} {rs : List α} {xs : List V} {i : Nat} {r : α} (h : IsL K H (rs.map f) xs) (hi : rs[i]? = some r) : ∃ v, xs[i]? = some v ∧ Is K H (f r) v :=
  h.get' (by rw [List.getElem?_map, hi]; rfl)
theorem isL_at' {α : Type} {K : PySem.W.Frag} {H : Hp} {f : α → Dt} {rs : List α} {xs : List V} {i : Nat} {v : V} (h : IsL K H (rs.map f) xs) (hi : xs[i]? = some v) : ∃ r, rs[i]? = some r ∧ Is K H (f r) v := by
  obtain ⟨d, hd, iv⟩ := h.get hi
  rw [List.getElem?_map] at hd
  cases e : rs[i]? with
  | none => rw [e] at hd; cases hd
  | some r => rw [e] at hd; exact ⟨r, rfl, (Option.some.inj hd).symm ▸ iv⟩
theorem isL_sn {K : PySem.W.Frag} {H : Hp} {ds : List Dt} {vs : List V} {d : Dt} {v : V} (h : IsL K H ds vs) (i : Is K H d v) : IsL K H (ds ++ [d]) (vs ++ [v]) := h.append ⟨v, [], rfl, i, rfl⟩
theorem row_get {rs : List (List Int)} {i : Nat} (h : i < rs.length) : rs[i]? = some (rs.getD i []) := by
  rw [List.getD_eq_getElem?_getD, List.getElem?_eq_getElem h]; rfl
theorem int_get {row : List Int} {j : Nat} (h : j < row.length) : row[j]? = some (row.getD j 0) := by
  rw [List.getD_eq_getElem?_getD, List.getElem?_eq_getElem h]; rfl
/-- an item of a row of ints -/
theorem atI_int {row : List Int} {j : Nat} (h : j < row.length) : atI (row.map V.int) (j : Int) = some (.int (row.getD j 0)) :=
  atI_nat (by rw [List.getElem?_map, int_get h]; rfl)
theorem isL_set {K : PySem.W.Frag} {H : Hp} : ∀ {ds : List Dt} {vs : List V} {i : Nat} {d : Dt} {v : V}, IsL K H ds vs → Is K H d v → IsL K H (ds.set i d) (vs.set i v)
  | [], _, _, _, _, h, _ => by cases h; exact rfl
  | _ :: _, _, 0, _, _, ⟨_, r, e, _, h⟩, i => by subst e; exact ⟨_, r, rfl, i, h⟩
  | _ :: _, _, k + 1, _, _, ⟨w, r, e, iw, h⟩, i => by subst e; exact ⟨w, _, rfl, iw, isL_set h i⟩
end L2

namespace L2
open PySem PySem.Spec PyProof.Rows
abbrev veB : List Value := [.type "ValueError", .type "Exception", .type "BaseException", .type "object"]
section
variable {X : Cx} {C : Addr} {bmB : List Value} {B newId initId : String} {W : WX}
/-- X(), X an own exception class without own __init__ -/
theorem pmk_own0 {x : Str} {p pos : Pos} (F : ExcBaseFacts B newId initId bmB) (q : PySem.W.excIn X.K C bmB newId = true) (gC : X.mg x = some (.ref C)) (kC : PySem.W.keepIn X.K (.ref C) = true) (r : Raises X (.ref C)) (hg : Gl X x)
    (hdb : (x == ("__debug__" : Str)) = false := by decide) : PMk X (.Call (.Name x p) [] [] pos) (fun _ H Q => Q (.ref C) none H) := by
  intro pins s σ H Q I h
  refine wpAny_Call_Name_kw (ld_glob I hg gC ?_ hdb)
  refine PySem.W.callWith_K0 I.kIn kC ?_
  obtain ⟨bm, N, nm, qn, bs, hdct, sn, sub, ab, col, dd, k0, k1, k2, k3, k5, mN, hC, hN, hni, T⟩ := exc_obj I.kIn q
  refine wpAny_call_exc_subT F T hC hN hni (fun h' e hm => ?_) (Nat.zero_le _)
  exact mk_of I hm r h (I.hok.gone hm.new)
theorem ps_raise0 {x : Str} {p pos pos2 : Pos} (q : PySem.W.excIn X.K C veB "ValueError.__new__" = true) (gC : X.mg x = some (.ref C)) (O : OexC X.K C) (hc : X.calm = true) (tk : Takes X W) (hg : Gl X x)
    (hdb : (x == ("__debug__" : Str)) = false := by decide) : PS X (.Raise (some (.Call (.Name x p) [] [] pos)) none pos2) (fun _ σ H => W (.ref C) none σ H) :=
  ps_raise hc tk (pmk_own0 PySem.F.excBase_ValueError q gC O.kC (raises_own O.exC O.tyC) hg hdb)
end
end L2

namespace L2
open PySem PySem.Spec PyProof.Rows
section
variable {X : Cx}
/-- set(t), t a tuple of ints -/
def rSetTI (K : PySem.W.Frag) (w : World) : List V → Hp → VK → Prop := fun vs H Q => ∃ (p : Addr) (ns : List Int), vs = [.ref p] ∧ SqT K H p (ns.map V.int) ∧ ns.length ≤ 1000 ∧ ∀ a n, H a = none → n ≤ ns.length → Q (.ref a) (upd H a (SetO w a (fun j => decide (j ∈ ns)) n))
theorem call_setTI (hc : X.calm = true) : CallR X (.type "set") (rSetTI X.K X.w) := by
  intro pins s σ H vs us Q I r h
  obtain ⟨p0, ns, rfl, hq, hl, q⟩ := h
  rw [Vals.ref1 r]
  obtain ⟨its, rv, pt, hz⟩ := I.tuple hq
  have hi : IntsAre its.toArray.toList ns := ints_of_vals rv
  refine call_set_tupI ns (I.ok.hd hc) (show s.heap.IsTuple p0 its.toArray from pt) hi (by unfold scanBound; omega) fun h' tk c R1 hcn k => ?_
  exact ⟨.ref _, upd H s.heap.objs.size (SetO X.w s.heap.objs.size (fun j => decide (j ∈ ns)) c), I.laid (t' := tk) k (Nat.le_refl _) (setO_new R1), rfl, q _ _ (I.hok.fresh (Nat.le_refl _)) hcn⟩
end
end L2

namespace L2
open PySem PySem.Spec PyProof.Rows
section
variable {X : Cx} {tg e : Expr} {te : TE}
theorem cr_range1 : CallR X (.type "range") (fun vs H Q => ∃ j : Int, vs = [V.int j] ∧ ∀ p, H p = none → Q (.ref p) (upd H p (.rng 0 j))) := by
  intro pins s σ H vs us Q I r h
  obtain ⟨j, rfl, q⟩ := h
  obtain ⟨u1, rfl, ri⟩ := vals1 r
  obtain ⟨t, rfl⟩ := ri
  refine call_range_1 ⟨.ref s.heap.objs.size, upd H s.heap.objs.size (.rng 0 j), I.laid (t' := _) (fun b o e => Heap.get?_push_of_some _ e) (Nat.le_refl _) ?_, rfl, q _ (I.hok.fresh (Nat.le_refl _))⟩
  exact ⟨_, _, _, Heap.get?_push_size _ rfl⟩
/-- a range that a name holds, walked -/
def iRngV (te : TE) : TI := fun σ H R => te σ H fun x H1 => ∃ (a : Addr) (lo hi : Int), x = .ref a ∧ H1 a = some (.rng lo hi) ∧ (-(2 ^ 62) ≤ lo ∧ lo < 2 ^ 62 ∧ -(2 ^ 62) ≤ hi ∧ hi < 2 ^ 62) ∧ R (Itr lo (hi - lo).toNat) H1
theorem pi_rngV (he : PE X e te) : PI X tg e (iRngV te) := by
  refine ⟨fun pins s σ H R I h => ?_⟩
  refine thn (he.run pins s σ H _ I h) fun v s1 ⟨x, H1, I1, r1, q1⟩ => ?_
  obtain ⟨a, lo, hi, ex, ha, ⟨h1, h2, h3, h4⟩, q⟩ := q1
  subst ex
  cases r1
  obtain ⟨t, u, w, ho⟩ := I1.hok a _ ha
  refine wpAny_pyIter_range (t := t) (u := u) (v := w) ho (small_one h1 h2 h3 h4) ?_
  refine ⟨s1.heap.objs.size, [s1.heap.objs.size], _, _, H1, rfl, I1.kept (t' := s1.toks) fun b o e => Heap.get?_push_of_some _ e, turn_range _ lo (hi - lo).toNat, ?_, fun b hb => ?_, q⟩
  · have e1 : lo + ((0 : Nat) : Int) * 1 = lo := by simp
    have e2 : (((hi - lo).toNat : Nat) : Int) - ((0 : Nat) : Int) = Builtin.Range.rangeSize lo hi 1 := by rw [rangeSize_one]; split <;> omega
    show IsRangeIter _ _ (lo + ((0 : Nat) : Int) * 1) ((((hi - lo).toNat : Nat) : Int) - ((0 : Nat) : Int)) 1
    rw [e1, e2]
    exact Heap.get?_push_size _ rfl
  · have e : b = s1.heap.objs.size := by simpa using hb
    subst e
    exact I1.fpOk (Nat.le_refl _) (I1.hok.fresh (Nat.le_refl _))
end
end L2

namespace L2
open PySem PySem.Spec PyProof.Rows
/-- a target that may be either of two kinds of rows -/
theorem pg_or {X : Cx} {e : Expr} {t1 t2 : TG} (h1 : PG X e t1) (h2 : PG X e t2) : PG X e (fun v σ H Q => t1 v σ H Q ∨ t2 v σ H Q) :=
  ⟨fun pins s σ H v u Q I r h => h.elim (h1.run pins s σ H v u Q I r) (h2.run pins s σ H v u Q I r)⟩
section
variable {X : Cx} {CX : CXT} {k : Nat} {f : Addr} {fd : FuncData} {ps ks : List Str} {sp : Sp} {E : XK} {x : Str} {p pos : Pos} {kws : List Keyword} {tk : TA} {g : List Value → List Value → List Value} {gV : List V → List V → List V}
/-- f(k = v, ..) without any by place -/
def tCallK0 (m : Nat) (sp : Sp) (gV : List V → List V → List V) (E : XK) (tk : TA) : TE := fun σ H Q => tk σ H fun zs H2 => zs.length = m ∧ sp (gV [] zs) H2 Q E
theorem pe_callK0 (F : FnOk X.prog X.w X.K X.mg X.base CX k f fd ps sp) (hr : Room k X.A) (hg : Gl X x) (hm : X.mg x = some (.ref f)) (hk : PySem.W.keepIn X.K (.ref f) = true) (hb : KBn X.K fd ps 0 ks g gV) (hx : Passes CX X E) (hkw : PK X kws tk)
    (hall : (backToKw pos (keywordEach kws X.env)).all (·.1.isSome) = true := by rfl) (hks : (backToKw pos (keywordEach kws X.env)).filterMap (·.1) = ks := by rfl) (hdb : (x == ("__debug__" : Str)) = false := by decide)
    (hpl : ((backTo pos (starEach [] X.env)).any (·.1) || (backToKw pos (keywordEach kws X.env)).any (·.1.isNone)) = false := by rfl) :
    PE X (.Call (.Name x p) [] kws pos) (tCallK0 ks.length sp gV E tk) := by
  refine ⟨fun pins s σ H Q I h => ?_⟩
  refine wpAny_Call_Name_kw (ld_glob I hg hm ?_ hdb)
  refine PySem.W.callWith_KW0 (h₀ := X.base) I.ok.mod.kin hk hall ?_ hpl
  refine thn (hkw.run pos pins s σ H _ I h) fun ws s2 ⟨zs, H2, I2, rz, l2, h2⟩ => ⟨I2.kIn, ?_⟩
  rw [hks]
  have r2 := hb.rel (vs := []) (us := []) .nil rz
  have hl : (g [] ws).length = ps.length := by rw [← r2.length]; exact F.len _ _ _ _ h2
  refine wpAny_call (codeAny_mono (F.run X.A X.stack s2 H2 ⟨[], ks.zip ws⟩ (g [] ws) (gV [] zs) Q E hr I2.env0 (hb.to s2 [] ws I2.kIn rfl (rz.length.symm.trans l2)) r2 h2) fun r s' hq => ?_)
  cases r with
  | error e => exact hx pins σ H2 s2 e s' I2 hq
  | ok fl =>
    cases fl with
    | ret u => exact I2.after hq
    | next => exact False.elim hq
    | brk => exact False.elim hq
    | cont => exact False.elim hq
end
/-- keywords in the order of the parameters -/
theorem Fun.kball {K : PySem.W.Frag} {x qual : Str} {st : Stmt} {f : Addr} {fd : FuncData} {ps : List Str} (F : Fun K x qual st f fd)
    (h : ∀ (kV doc pm : Value) (an : Option Addr) (cdv ct : Value) (ws : List Value), ws.length = ps.length → bindArgs (PySem.W.fnOf x qual (defArgs st) (defBody st) (defScope st) .none kV doc pm an cdv ct) ⟨[], ps.zip ws⟩ = pure (ps.zip ws)) : KBn K fd ps 0 ps (fun _ ws => ws) (fun _ zs => zs) :=
  F.kbn (n := 0) (ks := ps) (g := fun {α} (_ ws : List α) => ws) (fun _ r => r) fun kV doc pm an cdv ct us ws l1 l2 => by
    cases us with
    | nil => exact h kV doc pm an cdv ct ws l2
    | cons _ _ => cases l1
theorem empty_app (y : Str) : Str.empty ++ y = y := TL.ext_tl (by rw [TL.tl_append]; rfl)
theorem app_len (x y : Str) : (x ++ y).length = x.length + y.length := by rw [TL.len_tl, TL.tl_append, List.length_append, ← TL.len_tl, ← TL.len_tl]
/-- a number's text -/
abbrev itx (i : Int) : Str := Str.ofString (toString i)
theorem itx_len {i : Int} {k : Nat} (hk : 0 < k) (h : i.natAbs < 10 ^ k) : (itx i).length ≤ k + 1 := by
  rw [PySem.ofString_length]
  exact PySem.int_text_length_le10 hk h
set_option exponentiation.threshold 2000 in
theorem itx_log {i : Int} {k : Nat} (h : i.natAbs < 10 ^ k) (h2 : 10 ^ k < 2 ^ 1900) : i.natAbs.log2 < 1920 := by
  have : i.natAbs < 2 ^ 1920 := Nat.lt_trans (Nat.lt_trans h h2) (Nat.pow_lt_pow_right (by decide) (by decide))
  exact PySem.Flt.log2_lt_of (by decide) this
theorem join_len (a : Str) (n : Nat) : ∀ ys : List Str, (∀ y ∈ ys, y.length ≤ n) → (ys.map (·.length)).sum ≤ ys.length * n
  | [], _ => Nat.zero_le _
  | y :: r, h => by
    have h1 := h y List.mem_cons_self
    have h2 := join_len a n r fun z hz => h z (List.mem_cons_of_mem _ hz)
    simp only [List.map_cons, List.sum_cons, List.length_cons, Nat.add_mul, Nat.one_mul]
    omega
end L2

namespace L2
open PySem PySem.Spec PyProof.Rows
/-! ### a, *b = a list -/
theorem star_raw {prog : Program} {w : World} {A : Around} {E : Value → Shared → Prop} {s : Shared} {l : Addr} {items : Array Value} {x : Value} {rest : List Value} {Q : List Value → Shared → Prop} (hl : s.heap.IsList l items) (hh : A.handled = none) (he : items.toList = x :: rest) (hz : items.size ≤ 16384)
    (h : ∀ (h' : Heap) (tk : Nat), (∀ b o, s.heap.get? b = some o → h'.get? b = some o) → Q [x, .ref h'.objs.size] { s with heap := h'.push { cls := .type "list", data := .seq rest.toArray }, toks := tk }) : wpAny (model prog w) A (unpackItems (.ref l) 2 (some 1)) Q E s := by
  have hlt : l ≠ s.heap.objs.size := by obtain ⟨o, ho, _⟩ := hl; exact Nat.ne_of_lt (Heap.lt_size ho)
  have hsz : items.size = rest.length + 1 := by rw [← Array.length_toList, he]; rfl
  unfold unpackItems
  refine wpAny_bind ?_
  unfold notIterableAtAll
  refine wpAny_bind (wpAny_specialOf hl.typeIs slot_list_iter.lookup ?_)
  refine wpAny_pure ?_
  simp only [Bool.false_eq_true, if_false]
  refine wpAny_bind (wpAny_holding (wpAny_pyIter_list hl ?_))
  refine wpAny_bind (wpAny_holding (PySem.W.kun_draw hlt 1 0 _ _ ⟨_, Heap.get?_push_size _ rfl, rfl, rfl⟩ (hl.push _) (by omega) fun h₁ hit₁ hs₁ => ?_))
  have hl₁ : h₁.IsList l items := (hl.push _).extBut hs₁.extBut hlt
  rw [Nat.zero_add] at hit₁
  have hit₁' := hit₁
  obtain ⟨oi, hoi, _⟩ := hit₁'
  have hl₁' := hl₁
  obtain ⟨ol, hol, _⟩ := hl₁'
  rw [List.drop_zero, he]
  refine wpAny_bind (wpAny_holding (PySem.W.kun_collect (s := { s with heap := h₁ }) (T := "list_iterator") (.inr (.inr (.inl rfl))) (Walks.list (A := A.in1) hh s.heap.objs.size l hlt items) (fun j u st => st.1.typeIs) (k := 1) (by omega) ⟨hit₁, hl₁⟩ (Heap.lt_size hoi) (Heap.lt_size hol) (fun h₂ tk hk => ?_) (by rw [sizeLine_eq]; omega)))
  rw [he]
  have hke : ∀ b o, s.heap.get? b = some o → h₂.get? b = some o := fun b o e => hk b o (Nat.ne_of_lt (Heap.lt_size e)) (hs₁.extBut b o (Nat.ne_of_lt (Heap.lt_size e)) (Heap.get?_push_of_some _ e))
  show wpAny _ _ (if rest.length < 0 then _ else _) _ _ _
  rw [if_neg (Nat.not_lt_zero _)]
  show wpAny _ _ (newList (rest.take (rest.length - 0)) >>= fun d => pure ([x] ++ [d] ++ rest.drop (rest.length - 0))) _ _ _
  rw [Nat.sub_zero, List.take_length, List.drop_length]
  exact wpAny_bind (wpAny_newList (wpAny_pure (h h₂ tk hke)) (by rw [sizeLine_eq]; omega))
def gStar (K : PySem.W.Frag) (t1 t2 : TG) : TG := fun v σ H Q => ∃ a x xs, v = .ref a ∧ SqL K H a (x :: xs) ∧ xs.length ≤ 10000 ∧ ∀ D, H D = none → t1 x σ (upd H D (.lst xs)) fun σ1 H1 => t2 (.ref D) σ1 H1 Q
theorem pg_star {X : Cx} {e1 e2 : Expr} {k : Nat} {pos p2 : Pos} {t1 t2 : TG} (hc : X.calm = true) (h1 : PG X e1 t1) (h2 : PG X e2 t2) (hs : assignEach [e1, .Starred e2 p2] X.env = [(false, assign e1 X.env), (true, assign e2 X.env)] := by rfl) : PG X (.Tuple [e1, .Starred e2 p2] k pos) (gStar X.K t1 t2) := by
  refine ⟨fun pins s σ H v u Q I r hw => ?_⟩
  obtain ⟨a, x, xs, ev, hq, hl, hw⟩ := hw
  subst ev
  cases r
  obtain ⟨its, rv, pl, hz⟩ := I.list hq
  cases rv with
  | @cons _ u0 _ us r0 rr =>
    rw [PyProof.Rows.assign_Tuple]
    refine wpAny_bind (wpAny_standAt ?_)
    unfold unpack
    rw [hs]
    have hlen : us.length = xs.length := rr.length.symm
    refine wpAny_bind (wpAny_holding (star_raw (l := a) (items := (u0 :: us).toArray) (x := u0) (rest := us) pl.isList (I.ok.hd hc) (by simp) (by simp; omega) fun h' tk hk => ?_))
    have I1 : Inv X pins σ H { s with heap := h', toks := tk } := I.kept (t' := tk) hk
    have I2 : Inv X pins σ (upd H h'.objs.size (.lst xs)) { s with heap := h'.push { cls := .type "list", data := .seq us.toArray }, toks := tk } := I1.lnew (t' := tk) rr (by rw [sizeLine_eq]; omega)
    show wpAny _ _ (assignInOrder [assign e1 X.env, assign e2 X.env] [u0, .ref h'.objs.size]) _ _ _
    refine assignInOrder_cons (thn (h1.run pins _ σ _ x u0 _ I2 r0 (hw _ I1.fresh)) fun _ s1 ⟨σ1, H1, J1, q1⟩ => ?_)
    exact assignInOrder_cons (thn (h2.run pins s1 σ1 H1 _ _ _ J1 (show RelV (.ref h'.objs.size) (.ref h'.objs.size) from rfl) q1) fun _ s2 ⟨σ2, H2, J2, q2⟩ => assignInOrder_nil ⟨σ2, H2, J2, q2⟩)
/-! ### C( *y ) -/
section
variable {X : Cx} {CX : CXT} {k : Nat} {f C : Addr} {sp : Sp} {E : XK} {x : Str} {e : Expr} {te : TE} {p sp_ pos : Pos}
theorem pe_makeS1 (M : Mk X.K C f) (F : FnR X.prog X.w X.K X.mg X.base CX k f sp) (hr : Room (k + 1) X.A) (hg : Gl X x) (hm : X.mg x = some (.ref C)) (hx : Passes CX X E) (he : PE X e te) (hd : (x == ("__debug__" : Str)) = false := by decide)
    (hst : starEach [.Starred e sp_] X.env = [(true, eval e X.env)] := by rfl) :
    PE X (.Call (.Name x p) [.Starred e sp_] [] pos) (fun σ H Q => te σ H fun y H1 => ∃ a xs, y = V.ref a ∧ (SqT X.K H1 a xs ∨ SqL X.K H1 a xs) ∧ ∀ x dx, H1 x = none → H1 dx = none → dx ≠ x → sp (V.ref x :: xs) (upd (upd H1 dx (.own x)) x (.ins C dx [])) (fun v H2 => v = .non ∧ Q (.ref x) H2) E) := by
  refine ⟨fun pins s σ H Q I h => ?_⟩
  refine wpAny_Call_Name_kw (ld_glob I hg hm ?_ hd)
  refine PySem.W.callWith_S (h₀ := X.base) I.ok.mod.kin M.kp (thn (he.run pins s σ H _ I h) fun v s1 ⟨y, H1, I1, ry, a, xs, ey, hxs, q⟩ => ?_) hst
  subst ey
  obtain rfl : v = Value.ref a := ry
  exact StX.star_any I1 hxs fun us s2 I2 rv => ⟨I2.kIn, StX.run_makeR M F hr hx I2 rv q⟩
end
/-! ### max(d, default = ..) of a dict of ints -/
theorem argBest_max (val : Nat → Int) : ∀ k, argBest (fun i j => decide (val i > val j)) k ≤ k ∧ ∀ j, j ≤ k → val j ≤ val (argBest (fun i j => decide (val i > val j)) k)
  | 0 => ⟨Nat.le_refl _, fun j h => by
    have e : j = 0 := by omega
    subst e
    exact Int.le_refl _⟩
  | k + 1 => by
    obtain ⟨h1, h2⟩ := argBest_max val k
    show (if decide (val (k + 1) > val (argBest (fun i j => decide (val i > val j)) k)) = true then k + 1 else argBest (fun i j => decide (val i > val j)) k) ≤ k + 1 ∧ ∀ j, j ≤ k + 1 → val j ≤ val (if decide (val (k + 1) > val (argBest (fun i j => decide (val i > val j)) k)) = true then k + 1 else argBest (fun i j => decide (val i > val j)) k)
    by_cases hc : val (k + 1) > val (argBest (fun i j => decide (val i > val j)) k)
    · rw [if_pos (decide_eq_true hc)]
      refine ⟨Nat.le_refl _, fun j hj => ?_⟩
      rcases Nat.lt_or_ge j (k + 1) with h | h
      · have := h2 j (by omega)
        omega
      · have e : j = k + 1 := by omega
        subst e
        exact Int.le_refl _
    · rw [if_neg (by simpa using hc)]
      refine ⟨by omega, fun j hj => ?_⟩
      rcases Nat.lt_or_ge j (k + 1) with h | h
      · exact h2 j (by omega)
      · have e : j = k + 1 := by omega
        subst e
        omega
def rMaxDk : List V → List V → Hp → VK → Prop := fun xs zs H Q => ∃ (a : Addr) (kvs : List (Key × V)) (ks : List Int) (d : V), xs = [.ref a] ∧ zs = [d] ∧ Rd H a (.dK kvs) ∧ kvs.map (·.1) = ks.map Sum.inl ∧ (ks = [] → Q d H) ∧ (∀ m, m ∈ ks → (∀ y ∈ ks, y ≤ m) → Q (.int m) H)
theorem cr_maxDk {X : Cx} (hc : X.calm = true) : CallRK X (.builtin "max") ["default"] rMaxDk := by
  intro pins s σ H xs zs us ws Q I r rz q
  obtain ⟨a, kvs, ks, d, ex, ez, hd, hks, q0, q1⟩ := q
  subst ex ez
  obtain ⟨u, eu, rx⟩ := vals1 r
  subst eu
  cases rx
  obtain ⟨u2, eu2, rx2⟩ := vals1 rz
  subst eu2
  obtain ⟨z, lo, vs, rel, dd⟩ := dk_rd I.hok hd
  obtain ⟨ep, hat⟩ := dd.dictAt
  have hkeys : vs.map (·.1) = ks.map Sum.inl := rel.keys.symm.trans hks
  have hlen : vs.length = ks.length := by
    have e := congrArg List.length hkeys
    rw [List.length_map, List.length_map] at e
    exact e
  have W := PySem.W.kdl_dict (prog := X.prog) (w := X.w) (knd := mixKind X.prog X.w) (kvs := vs) (ep := ep) lo
  obtain ⟨oI, St, hit, hW, hst⟩ := W.iter X.A.in1 s (I.ok.hd hc) hat
  have hval : ∀ i v, (∃ k x, vs[i]? = some (k, x) ∧ (mixKind X.prog X.w).is k v = true) → ∃ t, v = .int (ks.getD i 0) t := by
    rintro i v ⟨k, x, e1, e2⟩
    have e3 : (vs.map (·.1))[i]? = some k := by rw [List.getElem?_map, e1]; rfl
    rw [hkeys, List.getElem?_map] at e3
    cases e4 : ks[i]? with
    | none => rw [e4] at e3; cases e3
    | some y =>
      rw [e4] at e3
      have e5 : Sum.inl y = k := Option.some.inj e3
      subst e5
      rcases keyIs_shape (show keyIs (Sum.inl y) v = true from e2) with ⟨i', t, ek, ev⟩ | ⟨z, t, ek, ev⟩
      · cases ek
        refine ⟨t, ?_⟩
        rw [ev, List.getD_eq_getElem?_getD, e4]
        rfl
      · cases ek
  show wpAny _ _ (call (.builtin "max") [.ref a] [(Str.ofString "default", u2)]) _ _ s
  have hlt := (W.there _ hat).1
  refine PySem.call_max_walkD (hit _ _ ?_)
  refine ⟨s.heap.objs.size, _, _, _, _, _, _, s.heap, (fun i j => decide (ks.getD i 0 > ks.getD j 0)), rfl, hW.toS, hst, ?_, ?_, ?_, ?_, ?_⟩
  · intro b hb
    show b < (s.heap.push _).objs.size
    rw [Heap.size_push]
    rcases List.mem_cons.mp hb with h | hb
    · rw [h]; exact Nat.lt_succ_self _
    · rw [List.mem_singleton.mp hb]; exact Nat.lt_succ_of_lt hlt
  · intro b o e hb
    exact absurd (Heap.lt_size e) ((List.mem_singleton.mp hb) ▸ Nat.lt_irrefl _)
  · exact fun b o e => Heap.get?_push_of_some _ e
  · intro hz s' m
    obtain ⟨h', tk, rfl, hk'⟩ := PySem.W.moved_old (s := s) rfl rfl m
    exact ⟨d, H, I.kept (t' := tk) hk', rx2, q0 (List.eq_nil_of_length_eq_zero (by omega))⟩
  · intro hp
    refine ⟨fun i j vi vj s' Q' E' _ hi hj h => CmpOf.ints_gt (A := X.A.in1) (fun i => ks.getD i 0) hval i j vi vj s' Q' E' hi hj h, fun v s' hP m => ?_⟩
    obtain ⟨h', tk, rfl, hk'⟩ := PySem.W.moved_old (s := s) rfl rfl m
    obtain ⟨hb1, hb2⟩ := argBest_max (fun i => ks.getD i 0) (vs.length - 1)
    obtain ⟨t, rfl⟩ := hval _ v hP
    refine ⟨.int _, H, I.kept (t' := tk) hk', ⟨t, rfl⟩, q1 _ ?_ fun y hy => ?_⟩
    · have hlt : argBest (fun i j => decide (ks.getD i 0 > ks.getD j 0)) (vs.length - 1) < ks.length := by omega
      rw [List.getD_eq_getElem?_getD, List.getElem?_eq_getElem hlt]
      exact List.getElem_mem hlt
    · obtain ⟨j, hj, e⟩ := List.getElem_of_mem hy
      have := hb2 j (by omega)
      rw [List.getD_eq_getElem?_getD, List.getElem?_eq_getElem hj] at this
      simp only [Option.getD_some] at this
      rw [← e]
      exact this
end L2

namespace L2
open PySem PySem.Spec PyProof.Rows
/-! ### d.items() as a value, and sorted of it, of ints by ints in rising order of keys -/
def rItemsK : V → List V → Hp → VK → Prop := fun x xs H Q => ∃ (a : Addr) (kvs : List (Key × V)), x = .ref a ∧ xs = [] ∧ Rd H a (.dK kvs) ∧ ∀ p, H p = none → Q (.ref p) (upd H p (DX.itemsO p a))
theorem mt_itemsK {X : Cx} : MtR X "dict.items" rItemsK := by
  intro pins s σ H x xs v us Q I rx rxs h
  obtain ⟨a, kvs, rfl, rfl, ha, q⟩ := h
  cases rx
  cases rxs
  obtain ⟨z, hd, vs, rel, o, es, ep, ho, hx, hdat, _⟩ := dk_rd I.hok ha
  refine DT.callItems (es := es) (ep := ep) hd ⟨o, ho, hx, hdat⟩ ?_
  have hf : H s.heap.objs.size = none := I.hok.fresh (Nat.le_refl _)
  exact ⟨.ref s.heap.objs.size, upd H s.heap.objs.size (DX.itemsO s.heap.objs.size a), I.laid (t' := s.toks) (fun b u e => Heap.get?_push_of_some _ e) (Nat.le_refl _) (DX.itemsO_ok (Heap.get?_push_size _ rfl)), rfl, q _ hf⟩
def iiK (hl : List (Int × Int)) : List (Key × V) := hl.map fun q => (Sum.inl q.1, V.int q.2)
def rSortItI : List V → Hp → VK → Prop := fun vs H Q => ∃ (p a : Addr) (hl : List (Int × Int)), vs = [.ref p] ∧ H p = some (DX.itemsO p a) ∧ Rd H a (.dK (iiK hl)) ∧ hl.Pairwise (fun x y => x.1 < y.1) ∧ hl.length ≤ 1000 ∧
  ∀ (H' : Hp) (l : Addr) (ps : List (Addr × Int × Int)), Ext H H' → H l = none → ps.map (·.2) = hl → H' l = some (.lst (ps.map fun z => V.ref z.1)) → (∀ z ∈ ps, H' z.1 = some (.tup [.int z.2.1, .int z.2.2])) → Q (.ref l) H'
theorem pairs_nth {prog : Program} {w : World} {es : List DictEntry} {vs : List (Key × Value)} (h : Pairs (mixKind prog w) es vs) {j : Nat} {e : DictEntry} (he : es[j]? = some e) : ∃ k v, vs[j]? = some (k, v) ∧ keyIs k e.key = true ∧ e.val = v := by
  induction h generalizing j with
  | nil => simp at he
  | @cons e0 kv es kvs h1 h2 _ ih =>
    cases j with
    | zero =>
      have : e0 = e := by simpa using he
      subst this
      exact ⟨kv.1, kv.2, rfl, h1, h2⟩
    | succ j => exact ih (by simpa using he)
theorem kv_nth : ∀ {kvs : List (Key × V)} {vs : List (Key × Value)} {j : Nat} {k : Key} {v : Value}, KV kvs vs → vs[j]? = some (k, v) → ∃ x, kvs[j]? = some (k, x) ∧ RelV x v
  | _, _, j, k, v, Paired.nil, h => by simp at h
  | _, _, 0, k, v, Paired.cons (a := p) (b := q) r _, h => by
    have e : q = (k, v) := by simpa using h
    subst e
    obtain ⟨r1, r2⟩ := r
    exact ⟨p.2, congrArg some (Prod.ext r1 rfl), r2⟩
  | _, _, j + 1, k, v, Paired.cons _ t, h => by
    obtain ⟨x, h1, h2⟩ := kv_nth (j := j) t (by simpa using h)
    exact ⟨x, by simpa using h1, h2⟩
open Classical in
noncomputable def keyPair (h : Heap) (v : Value) : Int × Int := if e : ∃ q : Int × Int, Srt.IsPair h v q.1 q.2 then Classical.choose e else (0, 0)
theorem isPair_one {h : Heap} {v : Value} {x y x' y' : Int} (a : Srt.IsPair h v x y) (b : Srt.IsPair h v x' y') : x = x' ∧ y = y' := by
  obtain ⟨a1, o, t, u, n, rfl, ho, hc, hd⟩ := a
  obtain ⟨a2, o', t', u', n', e, ho', hc', hd'⟩ := b
  cases e
  rw [ho] at ho'
  cases ho'
  rw [hd] at hd'
  cases hd'
  exact ⟨rfl, rfl⟩
theorem keyPair_eq {h : Heap} {v : Value} {x y : Int} (a : Srt.IsPair h v x y) : keyPair h v = (x, y) := by
  have e : ∃ q : Int × Int, Srt.IsPair h v q.1 q.2 := ⟨(x, y), a⟩
  unfold keyPair
  rw [dif_pos e]
  obtain ⟨h1, h2⟩ := isPair_one (Classical.choose_spec e) a
  exact Prod.ext h1 h2
theorem cr_sortedItI {X : Cx} (hc : X.calm = true) : CallR X (.builtin "sorted") rSortItI := by
  intro pins s σ H xs us Q I r h
  obtain ⟨p, a, hl, rfl, hp, ha, hup, hlen, q⟩ := h
  obtain rfl := Vals.ref1 r
  have view : s.heap.IsItemsView p a := (show ObjOk X.prog X.w H s.heap p (DX.itemsO p a) from I.hok p _ hp).1
  obtain ⟨z, hd, vs, rel, o, es, ep, ho, hx, hdat, hke, hpr, hnd⟩ := dk_rd I.hok ha
  have l1 : hl.length = vs.length := by
    have := Paired.length rel
    unfold iiK at this
    rw [List.length_map] at this
    exact this
  have l2 : es.size = vs.length := by
    have := hpr.length
    rw [Array.length_toList] at this
    exact this
  have hh : X.A.handled = none := I.ok.hd hc
  refine DT.sortedI (es := es) (ep := ep) hh view ⟨o, ho, hx, hdat⟩ (by rw [sizeLine_eq]; omega) fun h' tk as hk hlt hal hG => ?_
  have lak : as.length = hl.length := by omega
  have nd : as.Nodup := List.Pairwise.imp (fun h => Nat.ne_of_lt h) hG.rise
  -- the pairs that were made
  have pr : ∀ (j : Nat) (b : Addr), as[j]? = some b → ∃ (e : Int × Int) (t u : Tok), hl[j]? = some e ∧ h'.get? b = some { cls := .type "tuple", data := .seq #[Value.int e.1 t, Value.int e.2 u] } := by
    intro j b hj
    obtain ⟨en, he, hg⟩ := hG.pairs j b hj
    rw [← Array.getElem?_toList] at he
    obtain ⟨k, v, hv, hki, hval⟩ := pairs_nth hpr he
    obtain ⟨x, hx2, rx⟩ := kv_nth rel hv
    unfold iiK at hx2
    rw [List.getElem?_map] at hx2
    cases hq : hl[j]? with
    | none => rw [hq] at hx2; cases hx2
    | some e =>
      rw [hq] at hx2
      have e2 : (Sum.inl e.1, V.int e.2) = (k, x) := Option.some.inj hx2
      obtain ⟨e3, e4⟩ := Prod.mk.inj e2
      subst e3 e4
      obtain ⟨u, hu⟩ := (show ∃ u, v = Value.int e.2 u from rx)
      rcases keyIs_shape (show keyIs (Sum.inl e.1) en.key = true from hki) with ⟨i', t, ek, ev⟩ | ⟨z', t, ek, ev⟩
      · cases ek
        exact ⟨e, t, u, rfl, by rw [hg, ev, hval, hu]⟩
      · cases ek
  have hob : (h'.push { cls := .type "list", data := .seq (as.map Value.ref).toArray }).get? h'.objs.size = some (seqObj "list" (as.map Value.ref).toArray 0) := Heap.get?_push_size _ rfl
  have kb : ∀ b o, s.heap.get? b = some o → (h'.push { cls := .type "list", data := .seq (as.map Value.ref).toArray }).get? b = some o := fun b o e => Heap.get?_push_of_some _ (hk b o e)
  have ne0 : ∀ b o, h'.get? b = some o → b ≠ h'.objs.size := fun b o e => Nat.ne_of_lt (Heap.lt_size e)
  generalize hh2 : h'.push { cls := .type "list", data := .seq (as.map Value.ref).toArray } = h2 at hob kb ⊢
  have ka : ∀ b o, h'.get? b = some o → h2.get? b = some o := fun b o e => by rw [← hh2]; exact Heap.get?_push_of_some _ e
  have ip : ∀ (j : Nat) (b : Addr), as[j]? = some b → ∃ e, hl[j]? = some e ∧ Srt.IsPair h2 (.ref b) e.1 e.2 := fun j b hj => by
    obtain ⟨e, t, u, he, hg⟩ := pr j b hj
    exact ⟨e, he, b, _, t, u, 0, rfl, ka _ _ hg, rfl, rfl⟩
  have hpv : ∀ v ∈ as.map Value.ref, Srt.IsPair h2 v (keyPair h2 v).1 (keyPair h2 v).2 := fun v hv => by
    obtain ⟨b, hb, rfl⟩ := List.mem_map.mp hv
    obtain ⟨j, hj⟩ := List.mem_iff_getElem?.mp hb
    obtain ⟨e, _, hp2⟩ := ip j b hj
    rw [keyPair_eq hp2]
    exact hp2
  have O := SrtO.swo_lex (keyPair h2)
  have srtd : SrtO.Srtd (fun v u => SrtO.lexB (keyPair h2 v) (keyPair h2 u)) (as.map Value.ref) := by
    show List.Pairwise _ _
    rw [List.pairwise_map, List.pairwise_iff_getElem]
    intro i j hi hj hij
    obtain ⟨e1, he1, hp1⟩ := ip i _ (List.getElem?_eq_getElem hi)
    obtain ⟨e2, he2, hp2⟩ := ip j _ (List.getElem?_eq_getElem hj)
    show SrtO.lexB (keyPair h2 (Value.ref as[j])) (keyPair h2 (Value.ref as[i])) = false
    rw [keyPair_eq hp1, keyPair_eq hp2]
    have hi' : i < hl.length := by omega
    have hj' : j < hl.length := by omega
    have := List.pairwise_iff_getElem.mp hup i j hi' hj' hij
    rw [List.getElem?_eq_getElem hi'] at he1
    rw [List.getElem?_eq_getElem hj'] at he2
    have a1 := Option.some.inj he1
    have a2 := Option.some.inj he2
    rw [a1, a2] at this
    unfold SrtO.lexB
    rw [if_neg (by show ¬ e2.1 = e1.1; omega)]
    exact decide_eq_false (by show ¬ e2.1 < e1.1; omega)
  refine wpAny_call_entry PyProof.Rows.slot_list_sort ⟨_, hob, rfl⟩ PyProof.Rows.entry_list_sort
    (SrtO.list_sort_ord (s := { s with heap := h2, toks := tk }) O hob (by rw [List.length_map, sizeLine_eq]; omega) (fun h2' => SrtO.pairs_sortableO (s := { s with heap := h2, toks := tk }) (by omega) hpv fun o e => ?_) fun out hs hb => ⟨.none, rfl, ?_⟩) (PyProof.Rows.args_list_sort _)
  · rw [hob] at e
    cases e
    intro c
    exact absurd (Value.type.inj c) (by decide)
  · have hout : out = as.map Value.ref := SrtO.stb_uniq O hs srtd hb
    subst hout
    show EP X pins σ Q (.ref h'.objs.size) { s with heap := sortedHeap h2 h'.objs.size (as.map Value.ref) (as.map Value.ref).toArray, toks := tk }
    have kF : ∀ b o, b ≠ h'.objs.size → h2.get? b = some o → (sortedHeap h2 h'.objs.size (as.map Value.ref) (as.map Value.ref).toArray).get? b = some o := fun b o hb e => (PyProof.Rows.sortedHeap_old hb (Heap.lt_size e)).trans e
    have kS : ∀ b o, s.heap.get? b = some o → (sortedHeap h2 h'.objs.size (as.map Value.ref) (as.map Value.ref).toArray).get? b = some o := fun b o e => kF b o (ne0 _ _ (hk b o e)) (kb b o e)
    obtain ⟨eF, heF⟩ := PyProof.Rows.sortedHeap_at (vs := as.map Value.ref) (out := (as.map Value.ref).toArray) hob
    have I1 : Inv X pins σ H { s with heap := sortedHeap h2 h'.objs.size (as.map Value.ref) (as.map Value.ref).toArray, toks := tk } := I.kept (t' := tk) kS
    have hn0 : H h'.objs.size = none := I.hok.fresh (Nat.le_of_lt hlt)
    have hlen2 : (as.map V.ref).length ≤ sizeLine := by rw [List.length_map, sizeLine_eq]; omega
    have rv : Vals (as.map V.ref) (as.map Value.ref) := vals_maps (fun z : Addr => V.ref z) (fun z => Value.ref z) as fun _ _ => rfl
    have I2 : Inv X pins σ (upd H h'.objs.size (.lst (as.map V.ref))) { s with heap := sortedHeap h2 h'.objs.size (as.map Value.ref) (as.map Value.ref).toArray, toks := tk } :=
      I1.take (h' := sortedHeap h2 h'.objs.size (as.map Value.ref) (as.map Value.ref).toArray) (t' := tk) (fun b ob _ e => e) (I.fpOk (Nat.le_of_lt hlt) hn0) ⟨hlen2, as.map Value.ref, eF, rv, heF⟩
    obtain ⟨H2, I3, g, qt⟩ := DX.takeT (P := fun b vs => ∃ (j : Nat) (e : Int × Int), as[j]? = some b ∧ hl[j]? = some e ∧ vs = [.int e.1, .int e.2]) I as _ I2 nd fun b hb => by
      obtain ⟨j, hj⟩ := List.mem_iff_getElem?.mp hb
      obtain ⟨e, t, u, he, hg⟩ := pr j b hj
      have hbl : s.heap.objs.size ≤ b := Nat.le_of_lt (hG.above b hb)
      refine ⟨hbl, ?_, [.int e.1, .int e.2], ⟨j, e, hj, he, rfl⟩, fun H3 => ⟨(by rw [sizeLine_eq]; show 2 ≤ 16777216; omega), [Value.int e.1 t, Value.int e.2 u], .cons ⟨t, rfl⟩ (.cons ⟨u, rfl⟩ .nil), ⟨_, kF _ _ (ne0 _ _ hg) (ka _ _ hg), rfl, 0, rfl⟩⟩⟩
      rw [upd_ne (ne0 _ _ hg)]
      exact I.hok.fresh hbl
    have gr : Ext H H2 := fun b o e => g b o (by rw [upd_ne (ne_of_none e hn0)]; exact e)
    refine ⟨.ref h'.objs.size, H2, I3, rfl, q H2 h'.objs.size (as.zip hl) gr hn0 (List.map_snd_zip (by omega)) ?_ fun z hz => ?_⟩
    · rw [g _ _ upd_same]
      congr 2
      have : as.map V.ref = ((as.zip hl).map (·.1)).map V.ref := by rw [List.map_fst_zip (by omega)]
      rw [this, List.map_map]
      rfl
    · obtain ⟨j, hj⟩ := List.mem_iff_getElem?.mp hz
      obtain ⟨j1, j2⟩ := List.getElem?_zip_eq_some.mp hj
      obtain ⟨vs', ⟨i, e, i1, i2, ev⟩, hH⟩ := qt z.1 (List.mem_of_getElem? j1)
      have eij : i = j := (List.getElem?_inj (List.getElem?_eq_some_iff.mp i1).1 nd).mp (i1.trans j1.symm)
      subst eij
      have ee : e = z.2 := Option.some.inj (i2.symm.trans j2)
      rw [ev, ee] at hH
      exact hH
end L2

/-! enumerate with a start, over a list or a tuple -/
namespace L2
open PySem PySem.Spec PyProof.Rows
theorem callWith_type_kw {M : Model} {A : Around} {E : Value → Shared → Prop} {s : Shared} {env : Env} {pos : Pos} {T : String} {e : Expr} {rest : List Expr} {kws : List Keyword} {Q : Value → Shared → Prop}
    (h : wpAny M A (spliced (backTo pos (starEach (e :: rest) env))) (fun vs s₁ => wpAny M A (evalAll ((backToKw pos (keywordEach kws env)).map (·.2)))
      (fun kvs s₂ => wpAny M A (call (.type T) vs (((backToKw pos (keywordEach kws env)).filterMap (·.1)).zip kvs)) Q E s₂) E s₁) E s)
    (he : backTo pos (starEach (e :: rest) env) = (false, eval e env) :: backTo pos (starEach rest env) := by rfl)
    (hplain : (backTo pos (starEach (e :: rest) env)).any (·.1) = false := by rfl)
    (hall : (backToKw pos (keywordEach kws env)).all (·.1.isSome) = true := by rfl)
    (hkw : (backToKw pos (keywordEach kws env)).any (·.1.isNone) = false := by rfl) :
    wpAny M A (callWith pos (.type T) [] (backTo pos (starEach (e :: rest) env)) (backToKw pos (keywordEach kws env))) Q E s := by
  have hq : wpAny M A (evalArgs (.type T) true (backTo pos (starEach (e :: rest) env)) (backToKw pos (keywordEach kws env))) (fun a s₁ => wpAny M A (call (.type T) ([] ++ a.pos) a.kw) Q E s₁) E s := by
    rw [he] at h ⊢
    exact evalArgs_kwB hall h
  unfold callWith
  refine wpAny_bind (wpAny_holding (wpAny_mono hq (fun a s₁ h₁ => wpAny_bind (wpAny_standAt ?_)) fun _ _ x => x))
  simp only [hplain, hkw, Bool.or_false]
  refine wpAny_bind (wpAny_pure ?_)
  exact wpAny_bind (wpAny_mono h₁ (fun r s₂ hr => wpAny_bind (wpAny_holding (wpAny_point (wpAny_pure hr)))) fun _ _ x => x)
/-- the tuple at a as it stands at each turn, its items in new pairs -/
def IteTS (K : PySem.W.Frag) (c : Int) (a : Addr) : It :=
  ⟨fun i H => ∃ (xs : List V) (x : V), SqT K H a xs ∧ xs[i]? = some x, fun i H v H' => ∃ T x, v = .ref T ∧ H T = none ∧ H' = upd H T (.tup [.int (c + (i : Nat)), x]) ∧ ∀ xs, SqT K H a xs → xs[i]? = some x, fun i H => ∃ xs : List V, SqT K H a xs ∧ xs.length = i⟩
theorem turn_enumTS {P : Program} {w : World} {K : PySem.W.Frag} {elts : List Expr} {kk : Nat} {tpos : Pos} (c : Int) (a e it : Addr) :
    Turn P w K (.Tuple elts kk tpos) (IteTS K c a) [e, it] e (fun i h => (∃ old, IsEnum h e it (c + (i : Nat)) old) ∧ h.IsTupleIter it a i ∧ e ≠ it ∧ e ≠ a ∧ a ≠ it) where
  mem := by simp
  obj := fun i h st b hb => by
    obtain ⟨⟨old, he⟩, ⟨o, ho, hc, hd⟩, _⟩ := st
    have e' : b = e ∨ b = it := by simpa using hb
    rcases e' with z | z
    · rw [z]; exact ⟨_, he, fun v q => nomatch q⟩
    · rw [z]; exact ⟨o, ho, fun v q => by rw [hd] at q; cases q⟩
  keep := fun i h h' st k => let ⟨⟨old, he⟩, hi, hne⟩ := st; ⟨⟨old, k e (by simp) _ he⟩, hi.at fun o q => k it (by simp) o q, hne⟩
  item := by
    intro X hP hw hK hc i pins s σ H E I hf st hg
    subst hP hw hK
    obtain ⟨⟨old, he⟩, hit, hne, hea, hai⟩ := st
    obtain ⟨xs, x, hq, hx⟩ := hg
    obtain ⟨its, rv, p, hz⟩ := I.tuple hq
    obtain ⟨u, hu, ru⟩ := rv.get hx
    have hel : e < s.heap.objs.size := Heap.lt_size he
    have hil : it < s.heap.objs.size := by obtain ⟨_, q, _⟩ := hit; exact Heap.lt_size q
    have hlt : i < its.toArray.size := by
      rw [List.size_toArray]
      exact (List.getElem?_eq_some_iff.mp hu).1
    refine wpAny_pyNext_enum_itemC (Draws.tuple (A := X.A.in1) (show X.A.in1.handled = none from I.ok.hd hc) it a hai its.toArray) he ⟨hit, p⟩ hlt hne (by simp [hne, hea]) fun y h' tk hy ho st' hT hsz hk => ?_
    have hyu : y = u := by
      have z : its[i]? = some y := by simpa using hy
      rw [hu] at z
      exact (Option.some.inj z).symm
    subst hyu
    refine ⟨_, rfl, wpAny_letOwnedTupleGo_enum (s := { s with heap := h', toks := tk + 1 }) ho fun h'' he' sb => ?_⟩
    have hT2 : h''.get? s.heap.objs.size = some { cls := .type "tuple", data := .seq #[.int (c + (i : Nat)) tk, y] } := (sb.2 _ (Nat.ne_of_gt hel)).trans hT
    have new : ObjOk X.prog X.w (upd H s.heap.objs.size (.tup [.int (c + (i : Nat)), x])) h'' s.heap.objs.size (.tup [.int (c + (i : Nat)), x]) :=
      ⟨by show 2 ≤ sizeLine; decide, [.int (c + (i : Nat)) tk, y], .cons ⟨_, rfl⟩ (.cons ru .nil), ⟨_, hT2, rfl, _, rfl⟩⟩
    have I1 : Inv X pins σ (upd H s.heap.objs.size (.tup [.int (c + (i : Nat)), x])) { s with heap := h'', toks := tk + 1 } :=
      I.turnedNew (ch := [e, it]) (fun b ob hb q => (sb.2 b (fun z => hb (by simp [z]))).trans (hk b ob (fun z => hb (by simp [z])) (fun z => hb (by simp [z])) q)) hf (Nat.le_refl _) new
    refine ⟨.ref s.heap.objs.size, _, I1, rfl, ⟨_, x, rfl, I.hok.fresh (Nat.le_refl _), rfl, fun ys hy => by rw [I.tuple_inj hy hq]; exact hx⟩, ⟨⟨y, ?_⟩, st'.1.at fun o q => (sb.2 it (Ne.symm hne)).trans q, hne, hea, hai⟩, fun b hb => ?_⟩
    · have e1 : c + ((i + 1 : Nat) : Int) = c + (i : Int) + 1 := by omega
      rw [e1]
      exact he'
    · have hb' : b < s.heap.objs.size := by
        have e' : b = e ∨ b = it := by simpa using hb
        rcases e' with z | z
        · rw [z]; exact hel
        · rw [z]; exact hil
      rw [upd_ne (Nat.ne_of_lt hb')]
      exact (hf b hb).1
  done := by
    intro X hP hw hK hc i pins s σ H E I hf st hg
    subst hP hw hK
    obtain ⟨⟨old, he⟩, hit, hne, hea, hai⟩ := st
    obtain ⟨xs, hq, hx⟩ := hg
    obtain ⟨its, rv, p, hz⟩ := I.tuple hq
    obtain ⟨f0, f1, f2, f3, f4, f5⟩ := hf it (by simp)
    have hl := rv.length
    have hi : its.toArray.size = i := by rw [List.size_toArray, ← hl, hx]
    refine wpAny_pyNext_enum_endD (Draws.tuple (A := X.A.in1) (show X.A.in1.handled = none from I.ok.hd hc) it a hai its.toArray) he ⟨by rw [hi]; exact hit, p⟩ fun h' eb => ⟨rfl, I.turned (t' := s.toks) (fun b o hb q => eb b o hb q) f0 f1 f3 f4 f5⟩
  self := fun A i s Q E st h => let ⟨⟨_, he⟩, _⟩ := st; wpAny_pyIter_enum he h
/-- the list at a as it stands at each turn, its items in new pairs -/
def IteLS (K : PySem.W.Frag) (c : Int) (a : Addr) : It :=
  ⟨fun i H => ∃ (xs : List V) (x : V), SqL K H a xs ∧ xs[i]? = some x, fun i H v H' => ∃ T x, v = .ref T ∧ H T = none ∧ H' = upd H T (.tup [.int (c + (i : Nat)), x]) ∧ ∀ xs, SqL K H a xs → xs[i]? = some x, fun i H => ∃ xs : List V, SqL K H a xs ∧ xs.length = i⟩
theorem turn_enumLS {P : Program} {w : World} {K : PySem.W.Frag} {elts : List Expr} {kk : Nat} {tpos : Pos} (c : Int) (a e it : Addr) :
    Turn P w K (.Tuple elts kk tpos) (IteLS K c a) [e, it] e (fun i h => (∃ old, IsEnum h e it (c + (i : Nat)) old) ∧ h.IsListIter it a i ∧ e ≠ it ∧ e ≠ a ∧ a ≠ it) where
  mem := by simp
  obj := fun i h st b hb => by
    obtain ⟨⟨old, he⟩, ⟨o, ho, hc, hd⟩, _⟩ := st
    have e' : b = e ∨ b = it := by simpa using hb
    rcases e' with z | z
    · rw [z]; exact ⟨_, he, fun v q => nomatch q⟩
    · rw [z]; exact ⟨o, ho, fun v q => by rw [hd] at q; cases q⟩
  keep := fun i h h' st k => let ⟨⟨old, he⟩, hi, hne⟩ := st; ⟨⟨old, k e (by simp) _ he⟩, hi.at fun o q => k it (by simp) o q, hne⟩
  item := by
    intro X hP hw hK hc i pins s σ H E I hf st hg
    subst hP hw hK
    obtain ⟨⟨old, he⟩, hit, hne, hea, hai⟩ := st
    obtain ⟨xs, x, hq, hx⟩ := hg
    obtain ⟨its, rv, p, hz⟩ := I.list hq
    obtain ⟨u, hu, ru⟩ := rv.get hx
    have hel : e < s.heap.objs.size := Heap.lt_size he
    have hil : it < s.heap.objs.size := by obtain ⟨_, q, _⟩ := hit; exact Heap.lt_size q
    have hlt : i < its.toArray.size := by
      rw [List.size_toArray]
      exact (List.getElem?_eq_some_iff.mp hu).1
    refine wpAny_pyNext_enum_itemC (Draws.list (A := X.A.in1) (show X.A.in1.handled = none from I.ok.hd hc) it a hai its.toArray) he ⟨hit, p.isList⟩ hlt hne (by simp [hne, hea]) fun y h' tk hy ho st' hT hsz hk => ?_
    have hyu : y = u := by
      have z : its[i]? = some y := by simpa using hy
      rw [hu] at z
      exact (Option.some.inj z).symm
    subst hyu
    refine ⟨_, rfl, wpAny_letOwnedTupleGo_enum (s := { s with heap := h', toks := tk + 1 }) ho fun h'' he' sb => ?_⟩
    have hT2 : h''.get? s.heap.objs.size = some { cls := .type "tuple", data := .seq #[.int (c + (i : Nat)) tk, y] } := (sb.2 _ (Nat.ne_of_gt hel)).trans hT
    have new : ObjOk X.prog X.w (upd H s.heap.objs.size (.tup [.int (c + (i : Nat)), x])) h'' s.heap.objs.size (.tup [.int (c + (i : Nat)), x]) :=
      ⟨by show 2 ≤ sizeLine; decide, [.int (c + (i : Nat)) tk, y], .cons ⟨_, rfl⟩ (.cons ru .nil), ⟨_, hT2, rfl, _, rfl⟩⟩
    have I1 : Inv X pins σ (upd H s.heap.objs.size (.tup [.int (c + (i : Nat)), x])) { s with heap := h'', toks := tk + 1 } :=
      I.turnedNew (ch := [e, it]) (fun b ob hb q => (sb.2 b (fun z => hb (by simp [z]))).trans (hk b ob (fun z => hb (by simp [z])) (fun z => hb (by simp [z])) q)) hf (Nat.le_refl _) new
    refine ⟨.ref s.heap.objs.size, _, I1, rfl, ⟨_, x, rfl, I.hok.fresh (Nat.le_refl _), rfl, fun ys hy => by rw [I.list_inj hy hq]; exact hx⟩, ⟨⟨y, ?_⟩, st'.1.at fun o q => (sb.2 it (Ne.symm hne)).trans q, hne, hea, hai⟩, fun b hb => ?_⟩
    · have e1 : c + ((i + 1 : Nat) : Int) = c + (i : Int) + 1 := by omega
      rw [e1]
      exact he'
    · have hb' : b < s.heap.objs.size := by
        have e' : b = e ∨ b = it := by simpa using hb
        rcases e' with z | z
        · rw [z]; exact hel
        · rw [z]; exact hil
      rw [upd_ne (Nat.ne_of_lt hb')]
      exact (hf b hb).1
  done := by
    intro X hP hw hK hc i pins s σ H E I hf st hg
    subst hP hw hK
    obtain ⟨⟨old, he⟩, hit, hne, hea, hai⟩ := st
    obtain ⟨xs, hq, hx⟩ := hg
    obtain ⟨its, rv, p, hz⟩ := I.list hq
    obtain ⟨f0, f1, f2, f3, f4, f5⟩ := hf it (by simp)
    have hl := rv.length
    have hi : its.toArray.size = i := by rw [List.size_toArray, ← hl, hx]
    refine wpAny_pyNext_enum_endD (Draws.list (A := X.A.in1) (show X.A.in1.handled = none from I.ok.hd hc) it a hai its.toArray) he ⟨by rw [hi]; exact hit, p.isList⟩ fun h' eb => ⟨rfl, I.turned (t' := s.toks) (fun b o hb q => eb b o hb q) f0 f1 f3 f4 f5⟩
  self := fun A i s Q E st h => let ⟨⟨_, he⟩, _⟩ := st; wpAny_pyIter_enum he h
def iEnumS (K : PySem.W.Frag) (t tk : TA) : TI := fun σ H R => t σ H fun vs H1 => tk σ H1 fun zs H2 => ∃ a c, vs = [.ref a] ∧ zs = [.int c] ∧ -(2 ^ 63) ≤ c ∧ c < 2 ^ 63 ∧ (((∃ xs, SqL K H2 a xs) ∧ R (IteLS K c a) H2) ∨ ((∃ xs, SqT K H2 a xs) ∧ R (IteTS K c a) H2))
theorem pi_enumS {X : Cx} {e : Expr} {ta tk : TA} {p pos tpos : Pos} {elts : List Expr} {kk : Nat} {kws : List Keyword} (hg : Gl X "enumerate") (hm : X.mg "enumerate" = none) (ha : PA X [e] ta) (hk : PK X kws tk) (hks : (backToKw pos (keywordEach kws X.env)).filterMap (·.1) = (["start"] : List Str) := by rfl)
    (he : backTo pos (starEach [e] X.env) = (false, eval e X.env) :: backTo pos (starEach [] X.env) := by rfl) (hplain : (backTo pos (starEach [e] X.env)).any (·.1) = false := by rfl)
    (hall : (backToKw pos (keywordEach kws X.env)).all (·.1.isSome) = true := by rfl) (hkw : (backToKw pos (keywordEach kws X.env)).any (·.1.isNone) = false := by rfl) :
    PI X (.Tuple elts kk tpos) (.Call (.Name "enumerate" p) [e] kws pos) (iEnumS X.K ta tk) := by
  refine ⟨fun pins s σ H R I h => ?_⟩
  refine wpAny_Call_Name_kw (ld_blt I hg hm boot_enumerate ?_)
  refine callWith_type_kw (thn (ha.run pos pins s σ H _ I h) fun us s0 ⟨vs, H0, I0, r1, q0⟩ => thn (hk.run pos pins s0 σ H0 _ I0 q0) fun ws s1 ⟨zs, H1, I1, r2, a, c, ex, ez, c0, c1, q⟩ => ?_) he hplain hall hkw
  subst ex ez
  rw [hks]
  cases r1 with
  | cons r rr =>
    cases rr
    cases r
    obtain ⟨u2, eu2, rx2⟩ := vals1 r2
    subst eu2
    obtain ⟨tc, rfl⟩ := rx2
    have hle : ∀ b ∈ [s1.heap.objs.size + 1, s1.heap.objs.size], s1.heap.objs.size ≤ b := fun b hb => by
      have e' : b = s1.heap.objs.size + 1 ∨ b = s1.heap.objs.size := by simpa using hb
      rcases e' with z | z
      · rw [z]; exact Nat.le_add_right _ _
      · rw [z]; exact Nat.le_refl _
    show wpAny _ _ (call (.type "enumerate") [.ref a] [(Str.ofString "start", .int c tc)]) _ _ _
    rcases q with ⟨⟨xs, hq⟩, q⟩ | ⟨⟨xs, hq⟩, q⟩
    · obtain ⟨its, rv, p', hz⟩ := I1.list hq
      have hal : a < s1.heap.objs.size := by obtain ⟨_, z, _⟩ := id p'.isList; exact Heap.lt_size z
      refine enum_begins_start (begins_list a its.toArray) p'.isList c0 c1 fun h' he hit hsz hk => wpAny_pyIter_enum he ?_
      have I2 : Inv X pins σ H1 { s1 with heap := h' } := I1.kept (t' := s1.toks) hk
      exact ⟨s1.heap.objs.size + 1, [s1.heap.objs.size + 1, s1.heap.objs.size], _, _, H1, rfl, I2, turn_enumLS c a (s1.heap.objs.size + 1) s1.heap.objs.size, ⟨⟨.none, by rw [show c + ((0 : Nat) : Int) = c from Int.add_zero c]; exact he⟩, ⟨_, hit, rfl, rfl⟩, Nat.succ_ne_self _, Nat.ne_of_gt (Nat.lt_succ_of_lt hal), Nat.ne_of_lt hal⟩, fun b hb => I1.fpOk (hle b hb) (I1.hok.fresh (hle b hb)), q⟩
    · obtain ⟨its, rv, p', hz⟩ := I1.tuple hq
      have hal : a < s1.heap.objs.size := by obtain ⟨_, z, _⟩ := id p'; exact Heap.lt_size z
      refine enum_begins_start (begins_tuple a its.toArray) (show s1.heap.IsTuple a its.toArray from p') c0 c1 fun h' he hit hsz hk => wpAny_pyIter_enum he ?_
      have I2 : Inv X pins σ H1 { s1 with heap := h' } := I1.kept (t' := s1.toks) hk
      exact ⟨s1.heap.objs.size + 1, [s1.heap.objs.size + 1, s1.heap.objs.size], _, _, H1, rfl, I2, turn_enumTS c a (s1.heap.objs.size + 1) s1.heap.objs.size, ⟨⟨.none, by rw [show c + ((0 : Nat) : Int) = c from Int.add_zero c]; exact he⟩, ⟨_, hit, rfl, rfl⟩, Nat.succ_ne_self _, Nat.ne_of_gt (Nat.lt_succ_of_lt hal), Nat.ne_of_lt hal⟩, fun b hb => I1.fpOk (hle b hb) (I1.hok.fresh (hle b hb)), q⟩
theorem for_enumS {K : PySem.W.Frag} {c : Int} {a : Addr} {xs : List V} {g : TG} {tb : TS} {D : Ends} {σ : St} {H0 H : Hp} (hq : SqQ K H0 a xs) (Pv : Nat → St → Hp → Prop) (h0 : Pv 0 σ H) (he : ∀ i σ H, i ≤ xs.length → Pv i σ H → Ext H0 H)
    (hs : ∀ i x σ H T, xs[i]? = some x → Pv i σ H → H T = none → g (.ref T) σ (upd H T (.tup [.int (c + (i : Nat)), x])) fun σ2 H2 => tb { D with nx := Pv (i + 1), ct := Pv (i + 1), bk := D.nx } σ2 H2) (hd : ∀ σ H, Pv xs.length σ H → D.nx σ H) :
    ((∃ ys, SqL K H a ys) ∧ ∃ W : Nat → Nat → St → Hp → Prop, (∃ m, W 0 m σ H) ∧ ∀ i m σ H, W i m σ H →
      ((IteLS K c a).stop i H ∧ D.nx σ H) ∨ ((IteLS K c a).go i H ∧ ∃ N : St → Hp → Prop, (∀ σ' H', N σ' H' → ∃ m', m' < m ∧ W (i + 1) m' σ' H') ∧ ∀ x H', (IteLS K c a).yld i H x H' → g x σ H' fun σ2 H2 => tb { D with nx := N, ct := N, bk := D.nx } σ2 H2)) ∨
    ((∃ ys, SqT K H a ys) ∧ ∃ W : Nat → Nat → St → Hp → Prop, (∃ m, W 0 m σ H) ∧ ∀ i m σ H, W i m σ H →
      ((IteTS K c a).stop i H ∧ D.nx σ H) ∨ ((IteTS K c a).go i H ∧ ∃ N : St → Hp → Prop, (∀ σ' H', N σ' H' → ∃ m', m' < m ∧ W (i + 1) m' σ' H') ∧ ∀ x H', (IteTS K c a).yld i H x H' → g x σ H' fun σ2 H2 => tb { D with nx := N, ct := N, bk := D.nx } σ2 H2)) := by
  have e0 := he 0 σ H (Nat.zero_le _) h0
  rcases hq with hq | hq
  · refine .inl ⟨⟨xs, hq.ext e0⟩, fun i m σ H => m = xs.length - i ∧ i ≤ xs.length ∧ Pv i σ H, ⟨xs.length, by simp, Nat.zero_le _, h0⟩, ?_⟩
    rintro i m σ H ⟨rfl, hi, p⟩
    have q := hq.ext (he i σ H hi p)
    by_cases hlt : i < xs.length
    · refine .inr ⟨⟨xs, xs[i], q, by simp [hlt]⟩, Pv (i + 1), fun σ' H' p' => ⟨xs.length - (i + 1), by omega, rfl, hlt, p'⟩, fun x H' y => ?_⟩
      obtain ⟨T, z, rfl, hT, rfl, hz⟩ := y
      exact hs i z σ H T (hz xs q) p hT
    · have e : i = xs.length := by omega
      subst e
      exact .inl ⟨⟨xs, q, rfl⟩, hd σ H p⟩
  · refine .inr ⟨⟨xs, hq.ext e0⟩, fun i m σ H => m = xs.length - i ∧ i ≤ xs.length ∧ Pv i σ H, ⟨xs.length, by simp, Nat.zero_le _, h0⟩, ?_⟩
    rintro i m σ H ⟨rfl, hi, p⟩
    have q := hq.ext (he i σ H hi p)
    by_cases hlt : i < xs.length
    · refine .inr ⟨⟨xs, xs[i], q, by simp [hlt]⟩, Pv (i + 1), fun σ' H' p' => ⟨xs.length - (i + 1), by omega, rfl, hlt, p'⟩, fun x H' y => ?_⟩
      obtain ⟨T, z, rfl, hT, rfl, hz⟩ := y
      exact hs i z σ H T (hz xs q) p hT
    · have e : i = xs.length := by omega
      subst e
      exact .inl ⟨⟨xs, q, rfl⟩, hd σ H p⟩
end L2

/-! zip over two things that are walked each by its own iterator (a tuple beside a list) -/
namespace ZM
open PySem PySem.Spec PyProof.Rows
/-- an iterator at `it` over what stands at `l`: xs, at place k -/
structure ItK (it l : Addr) (S : Heap → Nat → Prop) (xs : Array Value) : Prop where
  item : ∀ {prog : Program} {w : World} {A : Around} {E : Value → Shared → Prop} {s : Shared} {k : Nat} {x : Value} {Q : Value → Shared → Prop}, S s.heap k → xs[k]? = some x →
    (∀ h', S h' (k + 1) → Heap.SameBut it s.heap h' → Q x { s with heap := h' }) → wpAny (model prog w) A (Builtin.SmallTypes.nextOf (.ref it)) Q E s
  stop : ∀ {prog : Program} {w : World} {A : Around} {E : Value → Shared → Prop} {s : Shared} {k : Nat} {Q : Value → Shared → Prop}, A.handled = none → S s.heap k → xs[k]? = none →
    (∀ h' e, Heap.ExtBut it s.heap h' → (∃ o, h'.get? e = some o ∧ o.cls = .type "StopIteration") → E (.ref e) { s with heap := h' }) → wpAny (model prog w) A (Builtin.SmallTypes.nextOf (.ref it)) Q E s
  ext : ∀ {h h' : Heap} {k : Nat} {c : Addr}, S h k → Heap.ExtBut c h h' → it ≠ c → l ≠ c → S h' k
  at_ : ∀ {h h' : Heap} {k : Nat}, S h k → (∀ c o, (c = it ∨ c = l) → h.get? c = some o → h'.get? c = some o) → S h' k
theorem itk_list {it l : Addr} {xs : Array Value} (hne : l ≠ it) : ItK it l (fun h k => h.IsListIter it l k ∧ h.IsList l xs) xs where
  item := fun hs hx q => wpAny_nextOf_list_item hs.1 hs.2 hx fun h' h1 h2 => q h' ⟨h1, hs.2.extBut h2.extBut hne⟩ h2
  stop := fun hh hs hx q => wpAny_nextOf_list_end hh hs.1 hs.2 hx q
  ext := fun hs e h1 h2 => ⟨hs.1.extBut e h1, hs.2.extBut e h2⟩
  at_ := fun hs e => ⟨hs.1.at fun o => e _ o (.inl rfl), by
    obtain ⟨o, ho, r⟩ := hs.2
    exact ⟨o, e _ o (.inr rfl) ho, r⟩⟩
theorem itk_tup {it l : Addr} {xs : Array Value} (hne : l ≠ it) : ItK it l (fun h k => h.IsTupleIter it l k ∧ h.IsTuple l xs) xs where
  item := fun hs hx q => RZ.nextOf_tuple_item hs.1 hs.2 hx fun h' h1 h2 => q h' ⟨h1, hs.2.extBut h2.extBut hne⟩ h2
  stop := fun hh hs hx q => RZ.nextOf_tuple_end hh hs.1 hs.2 hx q
  ext := fun hs e h1 h2 => ⟨hs.1.extBut e h1, hs.2.extBut e h2⟩
  at_ := fun hs e => ⟨hs.1.at fun o => e _ o (.inl rfl), by
    obtain ⟨o, ho, r⟩ := hs.2
    exact ⟨o, e _ o (.inr rfl) ho, r⟩⟩
section
variable {prog : Program} {w : World} {A : Around} {E : Value → Shared → Prop} {s : Shared}
theorem next_item {z TI TO i1 i2 l1 l2 : Addr} {S1 S2 : Heap → Nat → Prop} {k1 k2 : Nat} {xs ys : Array Value} {x y a b : Value} {Q : Value → Shared → Prop} (D : ZipApart z TI TO i1 i2 l1 l2)
    (K1 : ItK i1 l1 S1 xs) (K2 : ItK i2 l2 S2 ys) (hz : IsZip s.heap z TI TO .none) (hTI : IsPair s.heap TI (.ref i1) (.ref i2)) (hTO : IsPair s.heap TO a b)
    (h1 : S1 s.heap k1) (h2 : S2 s.heap k2) (hx : xs[k1]? = some x) (hy : ys[k2]? = some y)
    (hQ : ∀ h', IsZip h' z TI TO (rawInt s.heap.objs.size) → IsPair h' TO x y → S1 h' (k1 + 1) → S2 h' (k2 + 1) → IsPair h' s.heap.objs.size x y → h'.objs.size = s.heap.objs.size + 1 →
      (∀ c o, c ≠ z → c ≠ TO → c ≠ i1 → c ≠ i2 → s.heap.get? c = some o → h'.get? c = some o) → Q (.ref s.heap.objs.size) { s with heap := h' }) :
    wpAny (model prog w) A (Builtin.«zip.__next__» ⟨[.ref z], []⟩) (fun fin s' => ∃ v, fin = .done (.ret v) ∧ Q v s') E s := by
  show wpAny _ _ (field (.ref z) 2 >>= _) _ _ _
  refine wpAny_bind (wpAny_field hz rfl (x := .bool false) rfl ?_)
  show wpAny _ _ (field (.ref z) 3 >>= _) _ _ _
  refine wpAny_bind (wpAny_field hz rfl (x := .ref TI) rfl ?_)
  refine wpAny_bind (wpAny_seqItems hTI rfl ?_)
  show wpAny _ _ (Builtin.SmallTypes.ownedTupleIsFree (.ref z) >>= _) _ _ _
  refine wpAny_bind ?_
  unfold Builtin.SmallTypes.ownedTupleIsFree
  refine wpAny_bind (wpAny_field hz rfl (x := .none) rfl (wpAny_pure ?_))
  simp only [if_true]
  refine wpAny_bind (wpAny_rule ?_)
  refine wpAny_bind (wpAny_field hz rfl (x := .ref TO) rfl ?_)
  refine wpAny_bind (wpAny_setField_rec hz (by simp) fun g1 z1 s1 => ?_)
  replace z1 : IsZip g1 z TI TO .ellipsis := z1
  refine wpAny_bind ?_
  simp only [List.zipIdx_cons, List.zipIdx_nil, List.forIn_cons, List.forIn_nil]
  refine wpAny_bind (wpAny_bind (wpAny_onRaise ?_))
  show wpAny _ _ (Builtin.SmallTypes.nextOf (.ref i1) >>= _) _ _ _
  refine wpAny_bind (K1.item (K1.ext h1 s1.extBut D.i1z D.l1z) hx fun g2 h12 s2 => wpAny_pure ?_)
  have t2 : IsPair g2 TO a b := s2.extBut _ _ D.TOi1 (s1.extBut _ _ D.TOz hTO)
  refine wpAny_bind (wpAny_seqItems t2 rfl ?_)
  refine wpAny_bind (wpAny_updateSeq_pair t2 fun g3 t3 s3 => ?_)
  replace t3 : IsPair g3 TO x b := t3
  refine wpAny_bind (wpAny_letGo (wpAny_pure ?_))
  refine wpAny_bind (wpAny_bind (wpAny_onRaise ?_))
  show wpAny _ _ (Builtin.SmallTypes.nextOf (.ref i2) >>= _) _ _ _
  refine wpAny_bind (K2.item (K2.ext (K2.ext (K2.ext h2 s1.extBut D.i2z D.l2z) s2.extBut D.i12.symm D.l2i1) s3.extBut D.TOi2.symm D.l2TO) hy fun g4 h24 s4 => wpAny_pure ?_)
  have t4 : IsPair g4 TO x b := s4.extBut _ _ D.TOi2 t3
  refine wpAny_bind (wpAny_seqItems t4 rfl ?_)
  refine wpAny_bind (wpAny_updateSeq_pair t4 fun g5 t5 s5 => ?_)
  replace t5 : IsPair g5 TO x y := t5
  refine wpAny_bind (wpAny_letGo (wpAny_pure (wpAny_pure ?_)))
  refine wpAny_bind (wpAny_seqItems t5 rfl ?_)
  refine wpAny_bind (wpAny_newTuple ?_)
  have hsz : g5.objs.size = s.heap.objs.size := by rw [s5.1, s4.1, s3.1, s2.1, s1.1]
  have z5 : IsZip g5 z TI TO .ellipsis := s5.extBut _ _ D.TOz.symm (s4.extBut _ _ D.i2z.symm (s3.extBut _ _ D.TOz.symm (s2.extBut _ _ D.i1z.symm z1)))
  have keep : ∀ c o, c ≠ z → c ≠ TO → c ≠ i1 → c ≠ i2 → s.heap.get? c = some o → g5.get? c = some o := fun c o c1 c2 c3 c4 e =>
    s5.extBut _ _ c2 (s4.extBut _ _ c4 (s3.extBut _ _ c2 (s2.extBut _ _ c3 (s1.extBut _ _ c1 e))))
  have h15 : S1 g5 (k1 + 1) := K1.ext (K1.ext (K1.ext h12 s3.extBut D.TOi1.symm D.l1TO) s4.extBut D.i12 D.l1i2) s5.extBut D.TOi1.symm D.l1TO
  have h25 : S2 g5 (k2 + 1) := K2.ext h24 s5.extBut D.TOi2.symm D.l2TO
  have hzlt : z < g5.objs.size := Heap.lt_size z5
  show wpAny _ _ (Builtin.SmallTypes.ownedTupleHandOut (.ref z) (.ref g5.objs.size) >>= _) _ _ _
  refine wpAny_bind ?_
  unfold Builtin.SmallTypes.ownedTupleHandOut
  have z6 : IsZip (g5.push { cls := .type "tuple", data := .seq #[x, y] }) z TI TO .ellipsis := Heap.get?_push_of_some _ z5
  refine wpAny_bind (wpAny_setField_rec z6 (by simp) fun g7 z7 s7 => ?_)
  replace z7 : IsZip g7 z TI TO (rawInt g5.objs.size) := z7
  refine wpAny_setField_rec z7 (by simp) fun g8 z8 s8 => ?_
  replace z8 : IsZip g8 z TI TO (rawInt g5.objs.size) := z8
  have up : ∀ c o, c ≠ z → g5.get? c = some o → g8.get? c = some o := fun c o c1 e => s8.extBut _ _ c1 (s7.extBut _ _ c1 (Heap.get?_push_of_some _ e))
  have n8 : IsPair g8 g5.objs.size x y := s8.extBut _ _ (Nat.ne_of_gt hzlt) (s7.extBut _ _ (Nat.ne_of_gt hzlt) (Heap.get?_push_size _ rfl))
  have sz8 : g8.objs.size = g5.objs.size + 1 := by rw [s8.1, s7.1, Heap.size_push]
  rw [hsz] at z8 n8 sz8
  refine wpAny_pure ⟨_, rfl, ?_⟩
  show Q (.ref g5.objs.size) _
  rw [hsz]
  exact hQ g8 z8 (up _ _ D.TOz t5) (K1.at_ h15 fun c o hc e => up c o (hc.elim (fun q => by rw [q]; exact D.i1z) fun q => by rw [q]; exact D.l1z) e) (K2.at_ h25 fun c o hc e => up c o (hc.elim (fun q => by rw [q]; exact D.i2z) fun q => by rw [q]; exact D.l2z) e) n8 sz8 fun c o c1 c2 c3 c4 e => up c o c1 (keep c o c1 c2 c3 c4 e)
theorem next_stop {z TI TO i1 i2 l1 l2 : Addr} {S1 S2 : Heap → Nat → Prop} {k1 k2 : Nat} {xs ys : Array Value} {a b : Value} {Q : Fin → Shared → Prop} (hh : A.handled = none) (D : ZipApart z TI TO i1 i2 l1 l2)
    (K1 : ItK i1 l1 S1 xs) (K2 : ItK i2 l2 S2 ys) (hz : IsZip s.heap z TI TO .none) (hTI : IsPair s.heap TI (.ref i1) (.ref i2)) (hTO : IsPair s.heap TO a b)
    (h1 : S1 s.heap k1) (h2 : S2 s.heap k2) (hend : xs[k1]? = none ∨ ys[k2]? = none)
    (hE : ∀ h' e, (∀ c o, c ≠ z → c ≠ TO → c ≠ i1 → c ≠ i2 → s.heap.get? c = some o → h'.get? c = some o) → (∃ o, h'.get? e = some o ∧ o.cls = .type "StopIteration") → E (.ref e) { s with heap := h' }) :
    wpAny (model prog w) A (Builtin.«zip.__next__» ⟨[.ref z], []⟩) Q E s := by
  show wpAny _ _ (field (.ref z) 2 >>= _) _ _ _
  refine wpAny_bind (wpAny_field hz rfl (x := .bool false) rfl ?_)
  show wpAny _ _ (field (.ref z) 3 >>= _) _ _ _
  refine wpAny_bind (wpAny_field hz rfl (x := .ref TI) rfl ?_)
  refine wpAny_bind (wpAny_seqItems hTI rfl ?_)
  show wpAny _ _ (Builtin.SmallTypes.ownedTupleIsFree (.ref z) >>= _) _ _ _
  refine wpAny_bind ?_
  unfold Builtin.SmallTypes.ownedTupleIsFree
  refine wpAny_bind (wpAny_field hz rfl (x := .none) rfl (wpAny_pure ?_))
  simp only [if_true]
  refine wpAny_bind (wpAny_rule ?_)
  refine wpAny_bind (wpAny_field hz rfl (x := .ref TO) rfl ?_)
  refine wpAny_bind (wpAny_setField_rec hz (by simp) fun g1 z1 s1 => ?_)
  replace z1 : IsZip g1 z TI TO .ellipsis := z1
  refine wpAny_bind ?_
  simp only [List.zipIdx_cons, List.zipIdx_nil, List.forIn_cons, List.forIn_nil]
  refine wpAny_bind (wpAny_bind (wpAny_onRaise ?_))
  show wpAny _ _ (Builtin.SmallTypes.nextOf (.ref i1) >>= _) _ _ _
  have off : ∀ {h : Heap} {e : Addr} {oe o : Obj}, h.get? e = some oe → oe.cls = .type "StopIteration" → h.get? z = some o → o.cls = .type "zip" → e ≠ z := fun he hc ho hz' q => by
    subst q
    rw [he] at ho
    cases ho
    rw [hc] at hz'
    exact absurd hz' (by decide)
  cases hx : xs[k1]? with
  | none =>
    refine wpAny_bind (K1.stop hh (K1.ext h1 s1.extBut D.i1z D.l1z) hx fun g2 e s2 he => ?_)
    obtain ⟨oe, hoe, hce⟩ := he
    have z2 : IsZip g2 z TI TO .ellipsis := s2 _ _ D.i1z.symm z1
    refine wpAny_setField_rec z2 (by simp) fun g3 _ s3 => hE g3 e (fun c o c1 _ c3 _ x => s3.extBut _ _ c1 (s2 _ _ c3 (s1.extBut _ _ c1 x))) ⟨oe, s3.extBut _ _ (off hoe hce z2 rfl) hoe, hce⟩
  | some x =>
    have hy : ys[k2]? = none := by rcases hend with h | h; rw [hx] at h; cases h; exact h
    refine wpAny_bind (K1.item (K1.ext h1 s1.extBut D.i1z D.l1z) hx fun g2 h12 s2 => wpAny_pure ?_)
    have t2 : IsPair g2 TO a b := s2.extBut _ _ D.TOi1 (s1.extBut _ _ D.TOz hTO)
    refine wpAny_bind (wpAny_seqItems t2 rfl ?_)
    refine wpAny_bind (wpAny_updateSeq_pair t2 fun g3 t3 s3 => ?_)
    refine wpAny_bind (wpAny_letGo (wpAny_pure ?_))
    refine wpAny_bind (wpAny_bind (wpAny_onRaise ?_))
    show wpAny _ _ (Builtin.SmallTypes.nextOf (.ref i2) >>= _) _ _ _
    refine wpAny_bind (K2.stop hh (K2.ext (K2.ext (K2.ext h2 s1.extBut D.i2z D.l2z) s2.extBut D.i12.symm D.l2i1) s3.extBut D.TOi2.symm D.l2TO) hy fun g4 e s4 he => ?_)
    obtain ⟨oe, hoe, hce⟩ := he
    have z4 : IsZip g4 z TI TO .ellipsis := s4 _ _ D.i2z.symm (s3.extBut _ _ D.TOz.symm (s2.extBut _ _ D.i1z.symm z1))
    refine wpAny_setField_rec z4 (by simp) fun g5 _ s5 => hE g5 e (fun c o c1 c2 c3 c4 x => s5.extBut _ _ c1 (s4 _ _ c4 (s3.extBut _ _ c2 (s2.extBut _ _ c3 (s1.extBut _ _ c1 x))))) ⟨oe, s5.extBut _ _ (off hoe hce z4 rfl) hoe, hce⟩
theorem py_item {z TI TO i1 i2 l1 l2 : Addr} {S1 S2 : Heap → Nat → Prop} {k1 k2 : Nat} {xs ys : Array Value} {x y a b : Value} {Q : Option Value → Shared → Prop} (D : ZipApart z TI TO i1 i2 l1 l2)
    (K1 : ItK i1 l1 S1 xs) (K2 : ItK i2 l2 S2 ys) (hz : IsZip s.heap z TI TO .none) (hTI : IsPair s.heap TI (.ref i1) (.ref i2)) (hTO : IsPair s.heap TO a b)
    (h1 : S1 s.heap k1) (h2 : S2 s.heap k2) (hx : xs[k1]? = some x) (hy : ys[k2]? = some y)
    (hQ : ∀ h', IsZip h' z TI TO (rawInt s.heap.objs.size) → IsPair h' TO x y → S1 h' (k1 + 1) → S2 h' (k2 + 1) → IsPair h' s.heap.objs.size x y → h'.objs.size = s.heap.objs.size + 1 →
      (∀ c o, c ≠ z → c ≠ TO → c ≠ i1 → c ≠ i2 → s.heap.get? c = some o → h'.get? c = some o) → Q (some (.ref s.heap.objs.size)) { s with heap := h' }) :
    wpAny (model prog w) A (pyNext (.ref z)) Q E s := by
  have hT : s.TypeIs (.ref z) "zip" := ⟨_, hz, rfl⟩
  unfold pyNext
  exact wpAny_bind (wpAny_attempt (wpAny_callSpecial?_slot (name := Str.ofString "__next__") hT F.slot_zip_next
    (wpAny_call_entry F.slot_zip_next hT F.entry_zip_next
      (next_item D K1 K2 hz hTI hTO h1 h2 hx hy fun h' a1 a2 a3 a4 a5 a6 a7 => wpAny_pure (hQ h' a1 a2 a3 a4 a5 a6 a7)) (F.args_zip_next_1 _))))
theorem py_stop {z TI TO i1 i2 l1 l2 : Addr} {S1 S2 : Heap → Nat → Prop} {k1 k2 : Nat} {xs ys : Array Value} {a b : Value} {Q : Option Value → Shared → Prop} (hh : A.handled = none) (D : ZipApart z TI TO i1 i2 l1 l2)
    (K1 : ItK i1 l1 S1 xs) (K2 : ItK i2 l2 S2 ys) (hz : IsZip s.heap z TI TO .none) (hTI : IsPair s.heap TI (.ref i1) (.ref i2)) (hTO : IsPair s.heap TO a b)
    (h1 : S1 s.heap k1) (h2 : S2 s.heap k2) (hend : xs[k1]? = none ∨ ys[k2]? = none)
    (hQ : ∀ h', (∀ c o, c ≠ z → c ≠ TO → c ≠ i1 → c ≠ i2 → s.heap.get? c = some o → h'.get? c = some o) → Q none { s with heap := h' }) : wpAny (model prog w) A (pyNext (.ref z)) Q E s := by
  have hT : s.TypeIs (.ref z) "zip" := ⟨_, hz, rfl⟩
  unfold pyNext
  refine wpAny_bind (wpAny_attempt (wpAny_callSpecial?_slot (name := Str.ofString "__next__") hT F.slot_zip_next
    (wpAny_call_entry F.slot_zip_next hT F.entry_zip_next (next_stop hh D K1 K2 hz hTI hTO h1 h2 hend fun h' e hk he => ?_) (F.args_zip_next_1 _))))
  obtain ⟨o, ho, hc⟩ := he
  refine wpAny_bind (wpAny_isInstance (T := "StopIteration") (b := true) ⟨o, ho, hc⟩ isSubtype_stop ?_)
  exact wpAny_pure (hQ _ hk)
end
end ZM

namespace ZM
open PySem PySem.Spec PyProof.Rows L2 RZ
/-- side by side: the tuple at a, the list at b -/
def ItzM (K : PySem.W.Frag) (a b : Addr) : It :=
  ⟨fun i H => ∃ (xs ys : List V) (x y : V), SqT K H a xs ∧ SqL K H b ys ∧ xs[i]? = some x ∧ ys[i]? = some y,
    fun i H v H' => ∃ T x y, v = .ref T ∧ H T = none ∧ H' = upd H T (.tup [x, y]) ∧ (∀ xs, SqT K H a xs → xs[i]? = some x) ∧ ∀ ys, SqL K H b ys → ys[i]? = some y,
    fun i H => ∃ xs ys : List V, SqT K H a xs ∧ SqL K H b ys ∧ (xs.length ≤ i ∨ ys.length ≤ i)⟩
theorem turn_zipM {P : Program} {w : World} {K : PySem.W.Frag} {elts : List Expr} {kk : Nat} {tpos : Pos} {a b z TI TO i1 i2 : Addr} (D : ZipApart z TI TO i1 i2 a b) :
    Turn P w K (.Tuple elts kk tpos) (ItzM K a b) [z, TI, TO, i1, i2] z (fun i h => IsZip h z TI TO .none ∧ IsPair h TI (.ref i1) (.ref i2) ∧ (∃ x y, IsPair h TO x y) ∧ h.IsTupleIter i1 a i ∧ h.IsListIter i2 b i) where
  mem := by simp
  obj := fun i h st c hc => by
    obtain ⟨hz, hTI, ⟨x, y, hTO⟩, ⟨o1, e1, _, d1⟩, ⟨o2, e2, _, d2⟩⟩ := st
    have e' : c = z ∨ c = TI ∨ c = TO ∨ c = i1 ∨ c = i2 := by simpa using hc
    rcases e' with q | q | q | q | q
    · rw [q]; exact ⟨_, hz, fun v q => nomatch q⟩
    · rw [q]; exact ⟨_, hTI, fun v q => nomatch q⟩
    · rw [q]; exact ⟨_, hTO, fun v q => nomatch q⟩
    · rw [q]; exact ⟨o1, e1, fun v q => by rw [d1] at q; cases q⟩
    · rw [q]; exact ⟨o2, e2, fun v q => by rw [d2] at q; cases q⟩
  keep := fun i h h' st k => by
    obtain ⟨hz, hTI, ⟨x, y, hTO⟩, h1, h2⟩ := st
    exact ⟨k z (by simp) _ hz, k TI (by simp) _ hTI, ⟨x, y, k TO (by simp) _ hTO⟩, h1.at fun o q => k i1 (by simp) o q, h2.at fun o q => k i2 (by simp) o q⟩
  item := by
    intro X hP hw hK hc i pins s σ H E I hf st hg
    subst hP hw hK
    obtain ⟨hz, hTI, ⟨x0, y0, hTO⟩, h1, h2⟩ := st
    obtain ⟨xs, ys, x, y, hqx, hqy, hx, hy⟩ := hg
    obtain ⟨its, rv, p, _⟩ := I.tuple hqx
    obtain ⟨its2, rv2, p2, _⟩ := I.list hqy
    obtain ⟨u, hu, ru⟩ := rv.get hx
    obtain ⟨u2, hu2, ru2⟩ := rv2.get hy
    have hzl : z < s.heap.objs.size := Heap.lt_size hz
    refine py_item D (itk_tup D.l1i1) (itk_list D.l2i2) hz hTI hTO ⟨h1, p⟩ ⟨h2, p2.isList⟩ (x := u) (y := u2) (by simpa using hu) (by simpa using hu2) fun h' z' TO' h1' h2' hT hsz hk => ?_
    refine ⟨_, rfl, wpAny_letOwnedTupleGo_zip (s := { s with heap := h' }) z' fun h'' z'' sb => ?_⟩
    have hT2 : h''.get? s.heap.objs.size = some { cls := .type "tuple", data := .seq #[u, u2] } := (sb.2 _ (Nat.ne_of_gt hzl)).trans hT
    have new : ObjOk X.prog X.w (upd H s.heap.objs.size (.tup [x, y])) h'' s.heap.objs.size (.tup [x, y]) :=
      ⟨by show 2 ≤ sizeLine; decide, [u, u2], .cons ru (.cons ru2 .nil), ⟨_, hT2, rfl, _, rfl⟩⟩
    have I1 : Inv X pins σ (upd H s.heap.objs.size (.tup [x, y])) { s with heap := h'' } :=
      I.turnedNew (t' := s.toks) (ch := [z, TI, TO, i1, i2]) (fun c o hb q => (sb.2 c (fun q' => hb (by simp [q']))).trans (hk c o (fun q' => hb (by simp [q'])) (fun q' => hb (by simp [q'])) (fun q' => hb (by simp [q'])) (fun q' => hb (by simp [q'])) q)) hf (Nat.le_refl _) new
    refine ⟨.ref s.heap.objs.size, _, I1, rfl, ⟨_, x, y, rfl, I.hok.fresh (Nat.le_refl _), rfl, fun l hl => by rw [I.tuple_inj hl hqx]; exact hx, fun l hl => by rw [I.list_inj hl hqy]; exact hy⟩, ⟨z'', ?_, ⟨u, u2, ?_⟩, ?_, ?_⟩, fun c hcm => ?_⟩
    · exact (sb.2 _ D.TIz).trans (hk _ _ D.TIz D.TITO D.TIi1 D.TIi2 hTI)
    · exact (sb.2 _ D.TOz).trans TO'
    · exact h1'.1.at fun o q => (sb.2 _ D.i1z).trans q
    · exact h2'.1.at fun o q => (sb.2 _ D.i2z).trans q
    · have hlt : c < s.heap.objs.size := by
        have e' : c = z ∨ c = TI ∨ c = TO ∨ c = i1 ∨ c = i2 := by simpa using hcm
        rcases e' with q | q | q | q | q
        · rw [q]; exact hzl
        · rw [q]; exact Heap.lt_size hTI
        · rw [q]; exact Heap.lt_size hTO
        · rw [q]; obtain ⟨_, e1, _⟩ := h1; exact Heap.lt_size e1
        · rw [q]; obtain ⟨_, e2, _⟩ := h2; exact Heap.lt_size e2
      rw [upd_ne (Nat.ne_of_lt hlt)]
      exact (hf c hcm).1
  done := by
    intro X hP hw hK hc i pins s σ H E I hf st hg
    subst hP hw hK
    obtain ⟨hz, hTI, ⟨x0, y0, hTO⟩, h1, h2⟩ := st
    obtain ⟨xs, ys, hqx, hqy, hend⟩ := hg
    obtain ⟨its, rv, p, _⟩ := I.tuple hqx
    obtain ⟨its2, rv2, p2, _⟩ := I.list hqy
    have l1 := rv.length
    have l2 := rv2.length
    have he : its.toArray[i]? = none ∨ its2.toArray[i]? = none := by
      rcases hend with q | q
      · exact .inl (by simp; omega)
      · exact .inr (by simp; omega)
    exact py_stop (I.ok.hd hc) D (itk_tup D.l1i1) (itk_list D.l2i2) hz hTI hTO ⟨h1, p⟩ ⟨h2, p2.isList⟩ he fun h' hk => ⟨rfl, I.turnedL (t' := s.toks) (ch := [z, TI, TO, i1, i2]) (fun c o hb q =>
      hk c o (fun q' => hb (by simp [q'])) (fun q' => hb (by simp [q'])) (fun q' => hb (by simp [q'])) (fun q' => hb (by simp [q'])) q) hf⟩
  self := fun A i s Q E st h => wpAny_pyIter_zip st.1 h
abbrev mH1 (h : Heap) (l1 : Addr) : Heap := h.push { cls := .type "tuple_iterator", data := .fields #[.ref l1, .int 0 0] }
abbrev mH2 (h : Heap) (l1 l2 : Addr) : Heap := (mH1 h l1).push { cls := .type "list_iterator", data := .fields #[.ref l2, .int 0 0] }
abbrev mH3 (h : Heap) (l1 l2 : Addr) : Heap := (mH2 h l1 l2).push { cls := .type "tuple", data := .seq #[.ref h.objs.size, .ref (mH1 h l1).objs.size] }
abbrev mH4 (h : Heap) (l1 l2 : Addr) : Heap := (mH3 h l1 l2).push { cls := .type "tuple", data := .seq #[.none, .none] }
abbrev mH5 (h : Heap) (l1 l2 : Addr) : Heap := (mH4 h l1 l2).push { cls := .type "zip", data := .fields #[.none, .bool false, .bool false, .ref (mH2 h l1 l2).objs.size, .ref (mH3 h l1 l2).objs.size] }
theorem meets_new (l1 l2 : Addr) (xs ys : Array Value) :
    Meets (Builtin.«zip.__new__» ⟨[.type "zip", .ref l1, .ref l2], []⟩) (fun _ R s => s.heap.IsTuple l1 xs ∧ s.heap.IsList l2 ys ∧
      R (.ok (.ret (.ref (mH4 s.heap l1 l2).objs.size))) { s with heap := mH5 s.heap l1 l2 }) :=
  .of_wp fun prog w A R s h => by
    obtain ⟨hp, g, d, tk, os⟩ := s; obtain ⟨hl1, hl2, h⟩ := h
    have hsub := sub_zip
    have hL1 : Heap.IsTuple (Shared.heap ⟨hp, g, d, tk, os⟩) l1 xs := hl1
    have hL2 : Heap.IsList (Shared.heap ⟨hp.push { cls := .type "tuple_iterator", data := .fields #[.ref l1, .int 0 0] }, g, d, tk, os⟩) l2 ys := Heap.IsList.push hl2 _
    wp_walk using wpAny_pyIter_tuple hL1, wpAny_pyIter_list hL2
    exact ⟨_, rfl, h⟩
theorem call_zipM {prog : Program} {w : World} {A : Around} {E : Value → Shared → Prop} {s : Shared} {l1 l2 : Addr} {xs ys : Array Value} {Q : Value → Shared → Prop} (hl1 : s.heap.IsTuple l1 xs) (hl2 : s.heap.IsList l2 ys)
    (h : ∀ h', IsZip h' (s.heap.objs.size + 4) (s.heap.objs.size + 2) (s.heap.objs.size + 3) .none → IsPair h' (s.heap.objs.size + 2) (.ref s.heap.objs.size) (.ref (s.heap.objs.size + 1)) →
      IsPair h' (s.heap.objs.size + 3) .none .none → h'.IsTupleIter s.heap.objs.size l1 0 → h'.IsListIter (s.heap.objs.size + 1) l2 0 → h'.objs.size = s.heap.objs.size + 5 →
      (∀ c o, s.heap.get? c = some o → h'.get? c = some o) → Q (.ref (s.heap.objs.size + 4)) { s with heap := h' }) :
    wpAny (model prog w) A (call (.type "zip") [.ref l1, .ref l2]) Q E s := by
  refine callType_new F.called_zip (by decide) (F.typeCall_zip_2 _ _) (F.newCall_zip_2 _ _) (fun obj => F.args_object_init_3 obj _ _) F.entry_zip_new
    (meets_new l1 l2 xs ys) ⟨hl1, hl2, ?_⟩
  have z1 : (mH1 s.heap l1).objs.size = s.heap.objs.size + 1 := Heap.size_push ..
  have z2 : (mH2 s.heap l1 l2).objs.size = s.heap.objs.size + 2 := by rw [Heap.size_push, z1]
  have z3 : (mH3 s.heap l1 l2).objs.size = s.heap.objs.size + 3 := by rw [Heap.size_push, z2]
  have z4 : (mH4 s.heap l1 l2).objs.size = s.heap.objs.size + 4 := by rw [Heap.size_push, z3]
  have z5 : (mH5 s.heap l1 l2).objs.size = s.heap.objs.size + 5 := by rw [Heap.size_push, z4]
  have up : ∀ {h : Heap} {c : Addr} {o o' : Obj}, h.get? c = some o → (h.push o').get? c = some o := fun e => Heap.get?_push_of_some _ e
  have g5 : (mH5 s.heap l1 l2).get? (mH4 s.heap l1 l2).objs.size = some _ := Heap.get?_push_size _ rfl
  have g4 : (mH5 s.heap l1 l2).get? (mH3 s.heap l1 l2).objs.size = some _ := up (Heap.get?_push_size _ rfl)
  have g3 : (mH5 s.heap l1 l2).get? (mH2 s.heap l1 l2).objs.size = some _ := up (up (Heap.get?_push_size _ rfl))
  have g2 : (mH5 s.heap l1 l2).get? (mH1 s.heap l1).objs.size = some _ := up (up (up (Heap.get?_push_size _ rfl)))
  have g1 : (mH5 s.heap l1 l2).get? s.heap.objs.size = some _ := up (up (up (up (Heap.get?_push_size _ rfl))))
  show _ ∧ _
  rw [z2, z3, z4] at g5
  rw [z1, z2] at g3
  rw [z3] at g4
  rw [z1] at g2
  rw [z4]
  exact ⟨⟨_, g5, rfl⟩, h _ g5 g3 g4 ⟨_, g1, rfl, rfl⟩ ⟨_, g2, rfl, rfl⟩ z5 fun c o x => up (up (up (up (up x))))⟩
/-- zip of two lists, or of a tuple and a list -/
def iZipM (K : PySem.W.Frag) (ta : TA) : TI := fun σ H R => ta σ H fun vs H1 => ∃ a b xs ys, vs = [.ref a, .ref b] ∧ ((SqL K H1 a xs ∧ SqL K H1 b ys ∧ R (Itz K a b) H1) ∨ (SqT K H1 a xs ∧ SqL K H1 b ys ∧ R (ItzM K a b) H1))
theorem pi_zipM {X : Cx} {e e2 : Expr} {ta : TA} {p pos tpos : Pos} {elts : List Expr} {kk : Nat} (hg : Gl X "zip") (hm : X.mg "zip" = none) (ha : PA X [e, e2] ta)
    (hs : starEach [e, e2] X.env = (false, eval e X.env) :: starEach [e2] X.env := by rfl) (hpl : (backTo pos (starEach [e2] X.env)).any (·.1) = false := by rfl) :
    PI X (.Tuple elts kk tpos) (.Call (.Name "zip" p) [e, e2] [] pos) (iZipM X.K ta) := by
  refine ⟨fun pins s σ H R I h => ?_⟩
  refine Call_ (ld_blt I hg hm PyProof.Rows.boot_zip (PyProof.Rows.callWith_type1 (thn (ha.run pos pins s σ H _ I h) fun us s1 ⟨vs, H1, I1, r1, q1⟩ => ?_) hs hpl))
  obtain ⟨a, b, xs, ys, ex, q1⟩ := q1
  subst ex
  cases r1 with
  | cons r rr =>
    cases rr with
    | cons r' rr =>
      cases rr
      cases r
      cases r'
      have fresh5 : ∀ c, c ∈ [s1.heap.objs.size + 4, s1.heap.objs.size + 2, s1.heap.objs.size + 3, s1.heap.objs.size, s1.heap.objs.size + 1] → FpOk X pins H1 c := fun c hcm => by
        have hle : s1.heap.objs.size ≤ c := by
          simp only [List.mem_cons, List.not_mem_nil, or_false] at hcm
          rcases hcm with rfl | rfl | rfl | rfl | rfl
          all_goals first | exact Nat.le_add_right _ _ | exact Nat.le_refl _
        exact I1.fpOk hle (I1.hok.fresh hle)
      rcases q1 with ⟨hqx, hqy, q⟩ | ⟨hqx, hqy, q⟩
      · obtain ⟨its, rv, p1, _⟩ := I1.list hqx
        obtain ⟨its2, rv2, p2, _⟩ := I1.list hqy
        refine call_zip_2 p1.isList p2.isList fun h' hz hTI hTO h1 h2 hsz hk => wpAny_pyIter_zip hz ?_
        have I2 : Inv X pins σ H1 { s1 with heap := h' } := I1.kept (t' := s1.toks) hk
        exact ⟨s1.heap.objs.size + 4, [s1.heap.objs.size + 4, s1.heap.objs.size + 2, s1.heap.objs.size + 3, s1.heap.objs.size, s1.heap.objs.size + 1], _, _, H1, rfl, I2, turn_zip (PySem.W.ktu_apart s1.heap.objs.size a b p1.lt p2.lt), ⟨hz, hTI, ⟨_, _, hTO⟩, h1, h2⟩, fresh5, q⟩
      · obtain ⟨its, rv, p1, _⟩ := I1.tuple hqx
        obtain ⟨its2, rv2, p2, _⟩ := I1.list hqy
        obtain ⟨o1, ho1, _⟩ := id p1
        refine call_zipM (show s1.heap.IsTuple a its.toArray from p1) p2.isList fun h' hz hTI hTO h1 h2 hsz hk => wpAny_pyIter_zip hz ?_
        have I2 : Inv X pins σ H1 { s1 with heap := h' } := I1.kept (t' := s1.toks) hk
        exact ⟨s1.heap.objs.size + 4, [s1.heap.objs.size + 4, s1.heap.objs.size + 2, s1.heap.objs.size + 3, s1.heap.objs.size, s1.heap.objs.size + 1], _, _, H1, rfl, I2, turn_zipM (PySem.W.ktu_apart s1.heap.objs.size a b (Heap.lt_size ho1) p2.lt), ⟨hz, hTI, ⟨_, _, hTO⟩, h1, h2⟩, fresh5, q⟩
end ZM

namespace L2
open PySem PySem.Spec PyProof.Rows ZM
theorem walk_zipM {K : PySem.W.Frag} {a b : Addr} {xs ys : List V} {n : Nat} (hn : n = min xs.length ys.length) : Walk (ItzM K a b) n (fun H => SqT K H a xs ∧ SqL K H b ys) (YPair (fun i => xs[i]?) (fun i => ys[i]?)) := by
  subst hn
  refine ⟨fun i _ hi q => ?_, fun _ q => ⟨xs, ys, q.1, q.2, by omega⟩, fun i H v H' _ q y => ?_⟩
  · have h1 : i < xs.length := by omega
    have h2 : i < ys.length := by omega
    exact ⟨xs, ys, xs[i], ys[i], q.1, q.2, by simp [h1], by simp [h2]⟩
  · obtain ⟨T, x, z, h1, h2, h3, h4, h5⟩ := y
    exact ⟨T, x, z, h1, h2, h3, h4 xs q.1, h5 ys q.2⟩
/-- ints side by side, each pair an int -/
theorem lc_pairI {J : It} {G : Hp → Prop} {ns ms : List Int} {g : TG} {te : TE} {vs : List Nat} {σ : St} {H1 : Hp} {Q : Addr → Hp → Prop} (f : Int → Int → Int) (hl : ns.length = ms.length)
    (wk : Walk J ns.length G (YPair (fun i => (ns.map V.int)[i]?) (fun i => (ms.map V.int)[i]?))) (hG : ∀ H, Ext H1 H → G H) (hz : ns.length < 2000)
    (hs : ∀ n m, n ∈ ns → m ∈ ms → ∀ (T : Addr) (H : Hp), Ext H1 H → H T = some (.tup [.int n, .int m]) → ∀ (R : V → Hp → Prop), R (.int (f n m)) H → g (.ref T) (wipe σ vs) H fun σ2 H2 => wipe σ2 vs = wipe σ vs ∧ te σ2 H2 R)
    (hd : ∀ D H', H1 D = none → Ext H1 H' → H' D = some (.lst (((ns.zip ms).map fun z => f z.1 z.2).map V.int)) → Q D H') :
    ∀ D, H1 D = none → ∃ W : Nat → Nat → Hp → Prop, (∃ m, W 0 m (upd H1 D (.lst []))) ∧ ∀ i m H, W i m H →
      (J.stop i H ∧ Q D H) ∨ (J.go i H ∧ ∃ Nx : Hp → Prop, (∀ H', Nx H' → ∃ m', m' < m ∧ W (i + 1) m' H') ∧ ∀ x H', J.yld i H x H' → g x (wipe σ vs) H' fun σ2 H2 => wipe σ2 vs = wipe σ vs ∧ tYes σ2 H2 fun b H3 =>
        if b = true then te σ2 H3 fun y H4 => ∃ acc, H4 D = some (.lst acc) ∧ acc.length < sizeLine ∧ Nx (upd H4 D (.lst (acc ++ [y]))) else Nx H3) := fun D hD => by
  refine lc_it wk (fun i H' => Ext H1 H' ∧ H' D = some (.lst ((((ns.zip ms).take i).map fun z => f z.1 z.2).map V.int))) ⟨Ext.upd hD, upd_same⟩ (fun i H' _ p => hG _ p.1) ?_ ?_
  · rintro i v H' H'' hin ⟨e1, hD1⟩ ⟨T, x, y, rfl, hT, rfl, hx, hy⟩
    dsimp only at hx hy
    obtain ⟨n, hn, rfl⟩ : ∃ n, ns[i]? = some n ∧ x = V.int n := by
      rw [List.getElem?_map] at hx
      cases e : ns[i]? with
      | none => rw [e] at hx; cases hx
      | some n => rw [e] at hx; exact ⟨n, rfl, (Option.some.inj hx).symm⟩
    obtain ⟨m, hm, rfl⟩ : ∃ m, ms[i]? = some m ∧ y = V.int m := by
      rw [List.getElem?_map] at hy
      cases e : ms[i]? with
      | none => rw [e] at hy; cases hy
      | some n => rw [e] at hy; exact ⟨n, rfl, (Option.some.inj hy).symm⟩
    have hz2 : (ns.zip ms)[i]? = some (n, m) := by rw [List.getElem?_zip_eq_some]; exact ⟨hn, hm⟩
    have e2 : Ext H1 (upd H' T (.tup [.int n, .int m])) := e1.trans (Ext.upd hT)
    have hD2 : (upd H' T (.tup [.int n, .int m])) D = some (.lst ((((ns.zip ms).take i).map fun z => f z.1 z.2).map V.int)) := Ext.upd hT _ _ hD1
    have key := hs n m (List.mem_of_getElem? hn) (List.mem_of_getElem? hm) T _ e2 upd_same
    refine key _ ⟨_, hD2, ?_, e2.mut hD, ?_⟩
    · rw [List.length_map, List.length_map, List.length_take, List.length_zip]
      exact Nat.lt_of_lt_of_le (show min i (min ns.length ms.length) < 2000 by omega) (by decide)
    · rw [upd_same, List.take_add_one, hz2, List.map_append, List.map_append]
      rfl
  · rintro H' ⟨e1, hD1⟩
    rw [show (ns.zip ms).take ns.length = ns.zip ms from List.take_of_length_le (by rw [List.length_zip]; omega)] at hD1
    exact hd D H' hD e1 hD1
end L2

namespace L2
open PySem PySem.Spec PyProof.Rows
/-- the item of a list at a place, by values (for o[i] op= e) -/
theorem get_listI {X : Cx} : PGet X (rIxL X.K) := by
  intro pins s σ H o i ov iv Q I ro ri h
  obtain ⟨p, xs, k, z, rfl, rfl, hq, he, q⟩ := h
  cases ro
  obtain ⟨t, rfl⟩ := ri
  obtain ⟨its, r, pl, hz⟩ := I.list hq
  obtain ⟨j, h1, h2, h3, h4, h5⟩ := atI_get he
  obtain ⟨w, ew, rw'⟩ := r.get h2
  have hl := r.length
  have hn := line63
  have fin : EP X pins σ Q w s := ⟨z, H, I, rw', q⟩
  by_cases h0 : 0 ≤ k
  · have hj : k.toNat = j := by
      rw [seqIndex_of h0 h5] at h1
      exact Option.some.inj h1
    exact wpAny_getItem_list pl.isList h0 (by omega) (by rw [hj]; simpa using ew) fin
  · have hj : (k + (its.toArray.size : Int)).toNat = j := by
      rw [seqIndex_neg (by omega) h4] at h1
      rw [List.size_toArray, ← hl]
      exact Option.some.inj h1
    exact wpAny_getItem_list_neg pl.isList (by omega) (by rw [List.size_toArray, ← hl]; omega) (by omega) (by rw [hj]; simpa using ew) fin
/-- what isinstance asks of a class of its own, of its instances -/
structure InsT (K : PySem.W.Frag) (C : Addr) : Prop where
  cl : PySem.W.findIn K (.ref C) "__class__" = some (some (.builtin "object.__class__"))
  gn : PySem.W.specialIn K (.builtin "object.__class__") "__get__" = some (some (.builtin "getset_descriptor.__get__"))
  tk : PySem.W.takesIn K (.builtin "object.__class__") = some true
  ob : PySem.W.mroIn K C (.type "object") = some true
end L2

namespace K06
open PySem L2
def topS (i : Nat) : Stmt := PySem.Challenge.pw_hookspans_k06_hooks_led_back_from_stands.main.body.getD i (.Pass ⟨0, 0, 0, 0⟩)
abbrev s_divisor : Stmt := topS 13
abbrev N_divisor : List Str := ["numbers", "common", "number"]
theorem sc_divisor : FnScope N_divisor ["numbers"] (defScope s_divisor) := ⟨rfl, rfl, rfl, by decide +kernel, rfl, by decide +kernel, by decide +kernel⟩
abbrev s_lowest : Stmt := topS 14
abbrev N_lowest : List Str := ["tops", "bottom", "common", "top"]
theorem sc_lowest : FnScope N_lowest ["tops", "bottom"] (defScope s_lowest) := ⟨rfl, rfl, rfl, by decide +kernel, rfl, by decide +kernel, by decide +kernel⟩
abbrev s_fraction : Stmt := topS 15
abbrev N_fraction : List Str := ["top", "bottom", "tops", "shared"]
theorem sc_fraction : FnScope N_fraction ["top", "bottom"] (defScope s_fraction) := ⟨rfl, rfl, rfl, by decide +kernel, rfl, by decide +kernel, by decide +kernel⟩
abbrev s_led : Stmt := topS 17
abbrev N_led : List Str := ["web", "heights", "parts", "bar"]
theorem sc_led : FnScope N_led ["web", "heights", "parts"] (defScope s_led) := ⟨rfl, rfl, rfl, by decide +kernel, rfl, by decide +kernel, by decide +kernel⟩
abbrev s_check_heights : Stmt := topS 18
abbrev N_check_heights : List Str := ["web", "heights", "parts", "held", "rod"]
theorem sc_check_heights : FnScope N_check_heights ["web", "heights", "parts"] (defScope s_check_heights) := ⟨rfl, rfl, rfl, by decide +kernel, rfl, by decide +kernel, by decide +kernel⟩
abbrev s_led_bar : Stmt := topS 19
abbrev N_led_bar : List Str := ["bar", "heights", "rise", "share"]
theorem sc_led_bar : FnScope N_led_bar ["bar", "heights"] (defScope s_led_bar) := ⟨rfl, rfl, rfl, by decide +kernel, rfl, by decide +kernel, by decide +kernel⟩
abbrev s_check_places : Stmt := topS 22
abbrev N_check_places : List Str := ["web", "places", "at", "bar"]
theorem sc_check_places : FnScope N_check_places ["web", "places"] (defScope s_check_places) := ⟨rfl, rfl, rfl, by decide +kernel, rfl, by decide +kernel, by decide +kernel⟩
abbrev s_bar_rows : Stmt := topS 24
abbrev N_bar_rows : List Str := ["web", "numbers", "parts", "rows", "bar", "number", "row"]
theorem sc_bar_rows : FnScope N_bar_rows ["web", "numbers", "parts"] (defScope s_bar_rows) := ⟨rfl, rfl, rfl, by decide +kernel, rfl, by decide +kernel, by decide +kernel⟩
abbrev s_heights_at : Stmt := topS 25
abbrev N_heights_at : List Str := ["web", "numbers", "parts", "table", "asked", "rows", "kept", "shared", "sign", "held", "tops", "rod", "height", "row", "number"]
theorem sc_heights_at : FnScope N_heights_at ["web", "numbers", "parts"] (defScope s_heights_at) := ⟨rfl, rfl, rfl, by decide +kernel, rfl, by decide +kernel, by decide +kernel⟩
abbrev s_table : Stmt := topS 26
abbrev N_table : List Str := ["web", "numbers", "parts", "hanging", "row", "rod"]
theorem sc_table : FnScope N_table ["web", "numbers", "parts"] (defScope s_table) := ⟨rfl, rfl, rfl, by decide +kernel, rfl, by decide +kernel, by decide +kernel⟩
abbrev s_asked : Stmt := topS 27
abbrev N_asked : List Str := ["web", "numbers", "parts", "held", "row", "height", "rod"]
theorem sc_asked : FnScope N_asked ["web", "numbers", "parts"] (defScope s_asked) := ⟨rfl, rfl, rfl, by decide +kernel, rfl, by decide +kernel, by decide +kernel⟩
abbrev s_cleared : Stmt := topS 28
abbrev N_cleared : List Str := ["rows", "width", "kept", "shared", "column", "at", "found", "k"]
theorem sc_cleared : FnScope N_cleared ["rows", "width"] (defScope s_cleared) := ⟨rfl, rfl, rfl, by decide +kernel, rfl, by decide +kernel, by decide +kernel⟩
abbrev s_swapped : Stmt := topS 29
abbrev N_swapped : List Str := ["rows", "at", "other", "number"]
theorem sc_swapped : FnScope N_swapped ["rows", "at", "other"] (defScope s_swapped) := ⟨rfl, rfl, rfl, by decide +kernel, rfl, by decide +kernel, by decide +kernel⟩
abbrev s_cleared_of : Stmt := topS 30
abbrev N_cleared_of : List Str := ["rows", "at", "column", "shared", "chief", "k", "row", "against", "number"]
theorem sc_cleared_of : FnScope N_cleared_of ["rows", "at", "column", "shared"] (defScope s_cleared_of) := ⟨rfl, rfl, rfl, by decide +kernel, rfl, by decide +kernel, by decide +kernel⟩
abbrev s_stand : Stmt := topS 33
abbrev N_stand : List Str := ["web", "places", "found", "tops", "bottom"]
theorem sc_stand : FnScope N_stand ["web", "places"] (defScope s_stand) := ⟨rfl, rfl, rfl, by decide +kernel, rfl, by decide +kernel, by decide +kernel⟩
abbrev s_check_rods : Stmt := topS 42
abbrev N_check_rods : List Str := ["rods", "held", "rod"]
theorem sc_check_rods : FnScope N_check_rods ["rods", "held"] (defScope s_check_rods) := ⟨rfl, rfl, rfl, by decide +kernel, rfl, by decide +kernel, by decide +kernel⟩
abbrev s_check_bars : Stmt := topS 43
abbrev N_check_bars : List Str := ["rods", "held", "bars", "wanted", "number", "bar"]
theorem sc_check_bars : FnScope N_check_bars ["rods", "held", "bars"] (defScope s_check_bars) := ⟨rfl, rfl, rfl, by decide +kernel, rfl, by decide +kernel, by decide +kernel⟩
abbrev s_check_bar : Stmt := topS 44
abbrev N_check_bar : List Str := ["rods", "number", "bar", "rod"]
theorem sc_check_bar : FnScope N_check_bar ["rods", "number", "bar"] (defScope s_check_bar) := ⟨rfl, rfl, rfl, by decide +kernel, rfl, by decide +kernel, by decide +kernel⟩
abbrev s_l_well : Stmt := topS 46
abbrev N_l_well : List Str := ["_law_cell"]
theorem sc_l_well : FnScope N_l_well ["_law_cell"] (defScope s_l_well) := ⟨rfl, rfl, rfl, by decide +kernel, rfl, by decide +kernel, by decide +kernel⟩
abbrev s_l_draw : Stmt := topS 47
abbrev N_l_draw : List Str := ["_law_well_here", "_law_many", "_law_found", "_law_number"]
theorem sc_l_draw : FnScope N_l_draw ["_law_well_here", "_law_many"] (defScope s_l_draw) := ⟨rfl, rfl, rfl, by decide +kernel, rfl, by decide +kernel, by decide +kernel⟩
abbrev s_l_one : Stmt := topS 48
abbrev N_l_one : List Str := ["_law_well_here", "_law_some"]
theorem sc_l_one : FnScope N_l_one ["_law_well_here", "_law_some"] (defScope s_l_one) := ⟨rfl, rfl, rfl, by decide +kernel, rfl, by decide +kernel, by decide +kernel⟩
abbrev s_l_mixed : Stmt := topS 49
abbrev N_l_mixed : List Str := ["_law_well_here", "_law_some", "_law_left", "_law_found"]
theorem sc_l_mixed : FnScope N_l_mixed ["_law_well_here", "_law_some"] (defScope s_l_mixed) := ⟨rfl, rfl, rfl, by decide +kernel, rfl, by decide +kernel, by decide +kernel⟩
abbrev s_l_bar_fact : Stmt := topS 50
abbrev N_l_bar_fact : List Str := ["_law_well_here", "_law_rods_so", "_law_long", "_law_ends"]
theorem sc_l_bar_fact : FnScope N_l_bar_fact ["_law_well_here", "_law_rods_so"] (defScope s_l_bar_fact) := ⟨rfl, rfl, rfl, by decide +kernel, rfl, by decide +kernel, by decide +kernel⟩
abbrev s_l_height : Stmt := topS 51
abbrev N_l_height : List Str := ["_law_well_here"]
theorem sc_l_height : FnScope N_l_height ["_law_well_here"] (defScope s_l_height) := ⟨rfl, rfl, rfl, by decide +kernel, rfl, by decide +kernel, by decide +kernel⟩
abbrev s_l_line : Stmt := topS 52
abbrev N_l_line : List Str := ["_law_well_here", "_law_most", "_law_fixed", "_law_line_here", "_law_heights_so", "_law_some", "_law_at", "_law_rod"]
theorem sc_l_line : FnScope N_l_line ["_law_well_here", "_law_most"] (defScope s_l_line) := ⟨rfl, rfl, rfl, by decide +kernel, rfl, by decide +kernel, by decide +kernel⟩
abbrev s_l_web : Stmt := topS 53
abbrev N_l_web : List Str := ["_law_m", "_law_some", "_law_one_here"]
theorem sc_l_web : FnScope N_l_web ["_law_m"] (defScope s_l_web) := ⟨rfl, rfl, rfl, by decide +kernel, rfl, by decide +kernel, by decide +kernel⟩
abbrev s_l_spots : Stmt := topS 54
abbrev N_l_spots : List Str := ["_law_well_here", "_law_m", "_law_share", "_law_one_here"]
theorem sc_l_spots : FnScope N_l_spots ["_law_well_here", "_law_m"] (defScope s_l_spots) := ⟨rfl, rfl, rfl, by decide +kernel, rfl, by decide +kernel, by decide +kernel⟩
abbrev s_l_common : Stmt := topS 55
abbrev N_l_common : List Str := ["_law_numbers_so", "_law_found", "_law_number"]
theorem sc_l_common : FnScope N_l_common ["_law_numbers_so"] (defScope s_l_common) := ⟨rfl, rfl, rfl, by decide +kernel, rfl, by decide +kernel, by decide +kernel⟩
abbrev s_l_low : Stmt := topS 56
abbrev N_l_low : List Str := ["_law_top", "_law_bottom", "_law_down"]
theorem sc_l_low : FnScope N_l_low ["_law_top", "_law_bottom"] (defScope s_l_low) := ⟨rfl, rfl, rfl, by decide +kernel, rfl, by decide +kernel, by decide +kernel⟩
abbrev s_law : Stmt := topS 57
abbrev N_law : List Str := ["_law_script", "_law_cell", "_law_well_here", "_law_m", "_law_web_so", "_law_turn", "_law_spots_here", "_law_share", "_law_here", "_law_due", "_law_one_here", "_law_spot", "_law_is_level", "_law_found", "_law_often", "_law_top"]
theorem sc_law : FnScope N_law ["_law_script"] (defScope s_law) := ⟨rfl, rfl, rfl, by decide +kernel, rfl, by decide +kernel, by decide +kernel⟩
abbrev s_Bar_init : Stmt := inClass (topS 40) 0
abbrev N_Bar_init : List Str := ["self", "a", "b", "c", "length", "least", "greatest"]
theorem sc_Bar_init : FnScope N_Bar_init ["self", "a", "b", "c", "length", "least", "greatest"] (defScope s_Bar_init) := ⟨rfl, rfl, rfl, by decide +kernel, rfl, by decide +kernel, by decide +kernel⟩
abbrev s_Bar_eq : Stmt := inClass (topS 40) 1
abbrev N_Bar_eq : List Str := ["self", "other"]
theorem sc_Bar_eq : FnScope N_Bar_eq ["self", "other"] (defScope s_Bar_eq) := ⟨rfl, rfl, rfl, by decide +kernel, rfl, by decide +kernel, by decide +kernel⟩
abbrev s_Web_init : Stmt := inClass (topS 41) 0
abbrev N_Web_init : List Str := ["self", "rods", "held", "bars", "rod"]
theorem sc_Web_init : FnScope N_Web_init ["self", "rods", "held", "bars"] (defScope s_Web_init) := ⟨rfl, rfl, rfl, by decide +kernel, rfl, by decide +kernel, by decide +kernel⟩
abbrev s_Web_held : Stmt := inClass (topS 41) 1
abbrev N_Web_held : List Str := ["self"]
theorem sc_Web_held : FnScope N_Web_held ["self"] (defScope s_Web_held) := ⟨rfl, rfl, rfl, by decide +kernel, rfl, by decide +kernel, by decide +kernel⟩
abbrev s_Web_hanging : Stmt := inClass (topS 41) 2
abbrev N_Web_hanging : List Str := ["self", "rod"]
theorem sc_Web_hanging : FnScope N_Web_hanging ["self"] (defScope s_Web_hanging) := ⟨rfl, rfl, rfl, by decide +kernel, rfl, by decide +kernel, by decide +kernel⟩
abbrev s_Web_eq : Stmt := inClass (topS 41) 3
abbrev N_Web_eq : List Str := ["self", "other"]
theorem sc_Web_eq : FnScope N_Web_eq ["self", "other"] (defScope s_Web_eq) := ⟨rfl, rfl, rfl, by decide +kernel, rfl, by decide +kernel, by decide +kernel⟩
abbrev s_Places_init : Stmt := inClass (topS 21) 0
abbrev N_Places_init : List Str := ["self", "numbers", "parts"]
theorem sc_Places_init : FnScope N_Places_init ["self", "numbers", "parts"] (defScope s_Places_init) := ⟨rfl, rfl, rfl, by decide +kernel, rfl, by decide +kernel, by decide +kernel⟩
abbrev s_Stand_init : Stmt := inClass (topS 32) 0
abbrev N_Stand_init : List Str := ["self", "tops", "bottom"]
theorem sc_Stand_init : FnScope N_Stand_init ["self", "tops", "bottom"] (defScope s_Stand_init) := ⟨rfl, rfl, rfl, by decide +kernel, rfl, by decide +kernel, by decide +kernel⟩
abbrev s_BadCount_init : Stmt := inClass (topS 4) 0
abbrev N_BadCount_init : List Str := ["self", "what", "count"]
theorem sc_BadCount_init : FnScope N_BadCount_init ["self", "what", "count"] (defScope s_BadCount_init) := ⟨rfl, rfl, rfl, by decide +kernel, rfl, by decide +kernel, by decide +kernel⟩
abbrev s_NoRod_init : Stmt := inClass (topS 5) 0
abbrev N_NoRod_init : List Str := ["self", "rod"]
theorem sc_NoRod_init : FnScope N_NoRod_init ["self", "rod"] (defScope s_NoRod_init) := ⟨rfl, rfl, rfl, by decide +kernel, rfl, by decide +kernel, by decide +kernel⟩
abbrev s_SameRod_init : Stmt := inClass (topS 6) 0
abbrev N_SameRod_init : List Str := ["self", "rod"]
theorem sc_SameRod_init : FnScope N_SameRod_init ["self", "rod"] (defScope s_SameRod_init) := ⟨rfl, rfl, rfl, by decide +kernel, rfl, by decide +kernel, by decide +kernel⟩
abbrev s_BadSpan_init : Stmt := inClass (topS 7) 0
abbrev N_BadSpan_init : List Str := ["self", "bar"]
theorem sc_BadSpan_init : FnScope N_BadSpan_init ["self", "bar"] (defScope s_BadSpan_init) := ⟨rfl, rfl, rfl, by decide +kernel, rfl, by decide +kernel, by decide +kernel⟩
abbrev s_NotSquare_init : Stmt := inClass (topS 8) 0
abbrev N_NotSquare_init : List Str := ["self", "bars", "wanted"]
theorem sc_NotSquare_init : FnScope N_NotSquare_init ["self", "bars", "wanted"] (defScope s_NotSquare_init) := ⟨rfl, rfl, rfl, by decide +kernel, rfl, by decide +kernel, by decide +kernel⟩
/-- what the top has written -/
structure Tx (K : PySem.W.Frag) (mg : Str → Option Value) where
  a_divisor : Addr
  fd_divisor : FuncData
  F_divisor : Fun K "divisor" "divisor" s_divisor a_divisor fd_divisor
  b_divisor : Binds K fd_divisor ["numbers"] []
  m_divisor : mg "divisor" = some (.ref a_divisor)
  a_lowest : Addr
  fd_lowest : FuncData
  F_lowest : Fun K "lowest" "lowest" s_lowest a_lowest fd_lowest
  b_lowest : Binds K fd_lowest ["tops", "bottom"] []
  m_lowest : mg "lowest" = some (.ref a_lowest)
  a_fraction : Addr
  fd_fraction : FuncData
  F_fraction : Fun K "fraction" "fraction" s_fraction a_fraction fd_fraction
  b_fraction : Binds K fd_fraction ["top", "bottom"] []
  m_fraction : mg "fraction" = some (.ref a_fraction)
  a_led : Addr
  fd_led : FuncData
  F_led : Fun K "led" "led" s_led a_led fd_led
  m_led : mg "led" = some (.ref a_led)
  a_check_heights : Addr
  fd_check_heights : FuncData
  F_check_heights : Fun K "_check_heights" "_check_heights" s_check_heights a_check_heights fd_check_heights
  b_check_heights : Binds K fd_check_heights ["web", "heights", "parts"] []
  m_check_heights : mg "_check_heights" = some (.ref a_check_heights)
  a_led_bar : Addr
  fd_led_bar : FuncData
  F_led_bar : Fun K "_led_bar" "_led_bar" s_led_bar a_led_bar fd_led_bar
  b_led_bar : Binds K fd_led_bar ["bar", "heights"] []
  m_led_bar : mg "_led_bar" = some (.ref a_led_bar)
  a_check_places : Addr
  fd_check_places : FuncData
  F_check_places : Fun K "check_places" "check_places" s_check_places a_check_places fd_check_places
  b_check_places : Binds K fd_check_places ["web", "places"] []
  m_check_places : mg "check_places" = some (.ref a_check_places)
  a_bar_rows : Addr
  fd_bar_rows : FuncData
  F_bar_rows : Fun K "bar_rows" "bar_rows" s_bar_rows a_bar_rows fd_bar_rows
  b_bar_rows : Binds K fd_bar_rows ["web", "numbers", "parts"] []
  m_bar_rows : mg "bar_rows" = some (.ref a_bar_rows)
  a_heights_at : Addr
  fd_heights_at : FuncData
  F_heights_at : Fun K "heights_at" "heights_at" s_heights_at a_heights_at fd_heights_at
  b_heights_at : Binds K fd_heights_at ["web", "numbers", "parts"] []
  m_heights_at : mg "heights_at" = some (.ref a_heights_at)
  a_table : Addr
  fd_table : FuncData
  F_table : Fun K "_table" "_table" s_table a_table fd_table
  b_table : Binds K fd_table ["web", "numbers", "parts"] []
  m_table : mg "_table" = some (.ref a_table)
  a_asked : Addr
  fd_asked : FuncData
  F_asked : Fun K "_asked" "_asked" s_asked a_asked fd_asked
  b_asked : Binds K fd_asked ["web", "numbers", "parts"] []
  m_asked : mg "_asked" = some (.ref a_asked)
  a_cleared : Addr
  fd_cleared : FuncData
  F_cleared : Fun K "_cleared" "_cleared" s_cleared a_cleared fd_cleared
  b_cleared : Binds K fd_cleared ["rows", "width"] []
  m_cleared : mg "_cleared" = some (.ref a_cleared)
  a_swapped : Addr
  fd_swapped : FuncData
  F_swapped : Fun K "_swapped" "_swapped" s_swapped a_swapped fd_swapped
  b_swapped : Binds K fd_swapped ["rows", "at", "other"] []
  m_swapped : mg "_swapped" = some (.ref a_swapped)
  a_cleared_of : Addr
  fd_cleared_of : FuncData
  F_cleared_of : Fun K "_cleared_of" "_cleared_of" s_cleared_of a_cleared_of fd_cleared_of
  b_cleared_of : Binds K fd_cleared_of ["rows", "at", "column", "shared"] []
  m_cleared_of : mg "_cleared_of" = some (.ref a_cleared_of)
  a_stand : Addr
  fd_stand : FuncData
  F_stand : Fun K "stand" "stand" s_stand a_stand fd_stand
  b_stand : Binds K fd_stand ["web", "places"] []
  m_stand : mg "stand" = some (.ref a_stand)
  a_check_rods : Addr
  fd_check_rods : FuncData
  F_check_rods : Fun K "_check_rods" "_check_rods" s_check_rods a_check_rods fd_check_rods
  b_check_rods : Binds K fd_check_rods ["rods", "held"] []
  m_check_rods : mg "_check_rods" = some (.ref a_check_rods)
  a_check_bars : Addr
  fd_check_bars : FuncData
  F_check_bars : Fun K "_check_bars" "_check_bars" s_check_bars a_check_bars fd_check_bars
  b_check_bars : Binds K fd_check_bars ["rods", "held", "bars"] []
  m_check_bars : mg "_check_bars" = some (.ref a_check_bars)
  a_check_bar : Addr
  fd_check_bar : FuncData
  F_check_bar : Fun K "_check_bar" "_check_bar" s_check_bar a_check_bar fd_check_bar
  b_check_bar : Binds K fd_check_bar ["rods", "number", "bar"] []
  m_check_bar : mg "_check_bar" = some (.ref a_check_bar)
  a_l_well : Addr
  fd_l_well : FuncData
  F_l_well : Fun K "_law_well" "_law_well" s_l_well a_l_well fd_l_well
  b_l_well : Binds K fd_l_well ["_law_cell"] []
  m_l_well : mg "_law_well" = some (.ref a_l_well)
  a_l_draw : Addr
  fd_l_draw : FuncData
  F_l_draw : Fun K "_law_draw" "_law_draw" s_l_draw a_l_draw fd_l_draw
  b_l_draw : Binds K fd_l_draw ["_law_well_here", "_law_many"] []
  m_l_draw : mg "_law_draw" = some (.ref a_l_draw)
  a_l_one : Addr
  fd_l_one : FuncData
  F_l_one : Fun K "_law_one" "_law_one" s_l_one a_l_one fd_l_one
  b_l_one : Binds K fd_l_one ["_law_well_here", "_law_some"] []
  m_l_one : mg "_law_one" = some (.ref a_l_one)
  a_l_mixed : Addr
  fd_l_mixed : FuncData
  F_l_mixed : Fun K "_law_mixed" "_law_mixed" s_l_mixed a_l_mixed fd_l_mixed
  b_l_mixed : Binds K fd_l_mixed ["_law_well_here", "_law_some"] []
  m_l_mixed : mg "_law_mixed" = some (.ref a_l_mixed)
  a_l_bar_fact : Addr
  fd_l_bar_fact : FuncData
  F_l_bar_fact : Fun K "_law_bar_fact" "_law_bar_fact" s_l_bar_fact a_l_bar_fact fd_l_bar_fact
  b_l_bar_fact : Binds K fd_l_bar_fact ["_law_well_here", "_law_rods_so"] []
  m_l_bar_fact : mg "_law_bar_fact" = some (.ref a_l_bar_fact)
  a_l_height : Addr
  fd_l_height : FuncData
  F_l_height : Fun K "_law_height" "_law_height" s_l_height a_l_height fd_l_height
  b_l_height : Binds K fd_l_height ["_law_well_here"] []
  m_l_height : mg "_law_height" = some (.ref a_l_height)
  a_l_line : Addr
  fd_l_line : FuncData
  F_l_line : Fun K "_law_line" "_law_line" s_l_line a_l_line fd_l_line
  b_l_line : Binds K fd_l_line ["_law_well_here", "_law_most"] []
  m_l_line : mg "_law_line" = some (.ref a_l_line)
  a_l_web : Addr
  fd_l_web : FuncData
  F_l_web : Fun K "_law_web" "_law_web" s_l_web a_l_web fd_l_web
  b_l_web : Binds K fd_l_web ["_law_m"] []
  m_l_web : mg "_law_web" = some (.ref a_l_web)
  a_l_spots : Addr
  fd_l_spots : FuncData
  F_l_spots : Fun K "_law_spots" "_law_spots" s_l_spots a_l_spots fd_l_spots
  b_l_spots : Binds K fd_l_spots ["_law_well_here", "_law_m"] []
  m_l_spots : mg "_law_spots" = some (.ref a_l_spots)
  a_l_common : Addr
  fd_l_common : FuncData
  F_l_common : Fun K "_law_common" "_law_common" s_l_common a_l_common fd_l_common
  b_l_common : Binds K fd_l_common ["_law_numbers_so"] []
  m_l_common : mg "_law_common" = some (.ref a_l_common)
  a_l_low : Addr
  fd_l_low : FuncData
  F_l_low : Fun K "_law_low" "_law_low" s_l_low a_l_low fd_l_low
  b_l_low : Binds K fd_l_low ["_law_top", "_law_bottom"] []
  m_l_low : mg "_law_low" = some (.ref a_l_low)
  a_law : Addr
  fd_law : FuncData
  F_law : Fun K "law" "law" s_law a_law fd_law
  b_law : Binds K fd_law ["_law_script"] []
  m_law : mg "law" = some (.ref a_law)
  C_Bar : Addr
  m_Bar : mg "Bar" = some (.ref C_Bar)
  c_Bar : Cls K C_Bar
  mk_Bar : PySem.W.makesIn K C_Bar = true
  nf_Bar_a : NoAttr K C_Bar "a"
  nf_Bar_b : NoAttr K C_Bar "b"
  nf_Bar_c : NoAttr K C_Bar "c"
  nf_Bar_length : NoAttr K C_Bar "length"
  nf_Bar_least : NoAttr K C_Bar "least"
  nf_Bar_greatest : NoAttr K C_Bar "greatest"
  a_Bar_init : Addr
  fd_Bar_init : FuncData
  F_Bar_init : Fun K "__init__" "Bar.__init__" s_Bar_init a_Bar_init fd_Bar_init
  b_Bar_init : Binds K fd_Bar_init ["self", "a", "b", "c", "length", "least", "greatest"] []
  k_Bar : Mk K C_Bar a_Bar_init
  a_Bar_eq : Addr
  fd_Bar_eq : FuncData
  F_Bar_eq : Fun K "__eq__" "Bar.__eq__" s_Bar_eq a_Bar_eq fd_Bar_eq
  b_Bar_eq : Binds K fd_Bar_eq ["self", "other"] []
  M_Bar_eq : Meth K C_Bar "__eq__" a_Bar_eq
  ef_Bar : eqFacts K C_Bar = true
  ne_Bar : LxE.NeFacts K C_Bar
  C_Web : Addr
  m_Web : mg "Web" = some (.ref C_Web)
  c_Web : Cls K C_Web
  mk_Web : PySem.W.makesIn K C_Web = true
  nf_Web_rods : NoAttr K C_Web "rods"
  nf_Web_bars : NoAttr K C_Web "bars"
  nf_Web_held : NoAttr K C_Web "_held"
  a_Web_init : Addr
  fd_Web_init : FuncData
  F_Web_init : Fun K "__init__" "Web.__init__" s_Web_init a_Web_init fd_Web_init
  b_Web_init : Binds K fd_Web_init ["self", "rods", "held", "bars"] []
  k_Web : Mk K C_Web a_Web_init
  a_Web_held : Addr
  fd_Web_held : FuncData
  F_Web_held : Fun K "held" "Web.held" s_Web_held a_Web_held fd_Web_held
  b_Web_held : Binds K fd_Web_held ["self"] []
  M_Web_held : Meth K C_Web "held" a_Web_held
  a_Web_hanging : Addr
  fd_Web_hanging : FuncData
  F_Web_hanging : Fun K "hanging" "Web.hanging" s_Web_hanging a_Web_hanging fd_Web_hanging
  b_Web_hanging : Binds K fd_Web_hanging ["self"] []
  M_Web_hanging : Meth K C_Web "hanging" a_Web_hanging
  a_Web_eq : Addr
  fd_Web_eq : FuncData
  F_Web_eq : Fun K "__eq__" "Web.__eq__" s_Web_eq a_Web_eq fd_Web_eq
  b_Web_eq : Binds K fd_Web_eq ["self", "other"] []
  M_Web_eq : Meth K C_Web "__eq__" a_Web_eq
  ef_Web : eqFacts K C_Web = true
  ne_Web : LxE.NeFacts K C_Web
  C_Places : Addr
  m_Places : mg "Places" = some (.ref C_Places)
  c_Places : Cls K C_Places
  mk_Places : PySem.W.makesIn K C_Places = true
  nf_Places_numbers : NoAttr K C_Places "numbers"
  nf_Places_parts : NoAttr K C_Places "parts"
  a_Places_init : Addr
  fd_Places_init : FuncData
  F_Places_init : Fun K "__init__" "Places.__init__" s_Places_init a_Places_init fd_Places_init
  b_Places_init : Binds K fd_Places_init ["self", "numbers", "parts"] []
  k_Places : Mk K C_Places a_Places_init
  C_Stand : Addr
  m_Stand : mg "Stand" = some (.ref C_Stand)
  c_Stand : Cls K C_Stand
  mk_Stand : PySem.W.makesIn K C_Stand = true
  nf_Stand_tops : NoAttr K C_Stand "tops"
  nf_Stand_bottom : NoAttr K C_Stand "bottom"
  a_Stand_init : Addr
  fd_Stand_init : FuncData
  F_Stand_init : Fun K "__init__" "Stand.__init__" s_Stand_init a_Stand_init fd_Stand_init
  b_Stand_init : Binds K fd_Stand_init ["self", "tops", "bottom"] []
  k_Stand : Mk K C_Stand a_Stand_init
  nfst_Bar_Bar : PySem.W.notFirst K C_Bar (.ref C_Bar) = true
  nfst_Bar_Web : PySem.W.notFirst K C_Bar (.ref C_Web) = true
  dc_Bar_Web : C_Bar ≠ C_Web
  nfst_Web_Bar : PySem.W.notFirst K C_Web (.ref C_Bar) = true
  nfst_Web_Web : PySem.W.notFirst K C_Web (.ref C_Web) = true
  C_HooksError : Addr
  m_HooksError : mg "HooksError" = some (.ref C_HooksError)
  C_BadCount : Addr
  O_BadCount : OexC K C_BadCount
  m_BadCount : mg "BadCount" = some (.ref C_BadCount)
  isC_BadCount : ExcC K C_BadCount
  xf_BadCount : XfC K C_BadCount
  exm_BadCount_HooksError : PySem.W.exmOne K (.ref C_BadCount) (.ref C_HooksError) = some true
  a_BadCount_init : Addr
  fd_BadCount_init : FuncData
  F_BadCount_init : Fun K "__init__" "BadCount.__init__" s_BadCount_init a_BadCount_init fd_BadCount_init
  b_BadCount_init : Binds K fd_BadCount_init ["self", "what", "count"] []
  nf_BadCount_what : PySem.W.findIn K (.ref C_BadCount) "what" = some none
  nf_BadCount_count : PySem.W.findIn K (.ref C_BadCount) "count" = some none
  X_BadCount : XCls K mg "BadCount" C_BadCount a_BadCount_init fd_BadCount_init ["self", "what", "count"]
  C_NoRod : Addr
  O_NoRod : OexC K C_NoRod
  m_NoRod : mg "NoRod" = some (.ref C_NoRod)
  isC_NoRod : ExcC K C_NoRod
  xf_NoRod : XfC K C_NoRod
  exm_NoRod_HooksError : PySem.W.exmOne K (.ref C_NoRod) (.ref C_HooksError) = some true
  a_NoRod_init : Addr
  fd_NoRod_init : FuncData
  F_NoRod_init : Fun K "__init__" "NoRod.__init__" s_NoRod_init a_NoRod_init fd_NoRod_init
  b_NoRod_init : Binds K fd_NoRod_init ["self", "rod"] []
  nf_NoRod_rod : PySem.W.findIn K (.ref C_NoRod) "rod" = some none
  X_NoRod : XCls K mg "NoRod" C_NoRod a_NoRod_init fd_NoRod_init ["self", "rod"]
  C_SameRod : Addr
  O_SameRod : OexC K C_SameRod
  m_SameRod : mg "SameRod" = some (.ref C_SameRod)
  isC_SameRod : ExcC K C_SameRod
  xf_SameRod : XfC K C_SameRod
  exm_SameRod_HooksError : PySem.W.exmOne K (.ref C_SameRod) (.ref C_HooksError) = some true
  a_SameRod_init : Addr
  fd_SameRod_init : FuncData
  F_SameRod_init : Fun K "__init__" "SameRod.__init__" s_SameRod_init a_SameRod_init fd_SameRod_init
  b_SameRod_init : Binds K fd_SameRod_init ["self", "rod"] []
  nf_SameRod_rod : PySem.W.findIn K (.ref C_SameRod) "rod" = some none
  X_SameRod : XCls K mg "SameRod" C_SameRod a_SameRod_init fd_SameRod_init ["self", "rod"]
  C_BadSpan : Addr
  O_BadSpan : OexC K C_BadSpan
  m_BadSpan : mg "BadSpan" = some (.ref C_BadSpan)
  isC_BadSpan : ExcC K C_BadSpan
  xf_BadSpan : XfC K C_BadSpan
  exm_BadSpan_HooksError : PySem.W.exmOne K (.ref C_BadSpan) (.ref C_HooksError) = some true
  a_BadSpan_init : Addr
  fd_BadSpan_init : FuncData
  F_BadSpan_init : Fun K "__init__" "BadSpan.__init__" s_BadSpan_init a_BadSpan_init fd_BadSpan_init
  b_BadSpan_init : Binds K fd_BadSpan_init ["self", "bar"] []
  nf_BadSpan_bar : PySem.W.findIn K (.ref C_BadSpan) "bar" = some none
  X_BadSpan : XCls K mg "BadSpan" C_BadSpan a_BadSpan_init fd_BadSpan_init ["self", "bar"]
  C_NotSquare : Addr
  O_NotSquare : OexC K C_NotSquare
  m_NotSquare : mg "NotSquare" = some (.ref C_NotSquare)
  isC_NotSquare : ExcC K C_NotSquare
  xf_NotSquare : XfC K C_NotSquare
  exm_NotSquare_HooksError : PySem.W.exmOne K (.ref C_NotSquare) (.ref C_HooksError) = some true
  a_NotSquare_init : Addr
  fd_NotSquare_init : FuncData
  F_NotSquare_init : Fun K "__init__" "NotSquare.__init__" s_NotSquare_init a_NotSquare_init fd_NotSquare_init
  b_NotSquare_init : Binds K fd_NotSquare_init ["self", "bars", "wanted"] []
  nf_NotSquare_bars : PySem.W.findIn K (.ref C_NotSquare) "bars" = some none
  nf_NotSquare_wanted : PySem.W.findIn K (.ref C_NotSquare) "wanted" = some none
  X_NotSquare : XCls K mg "NotSquare" C_NotSquare a_NotSquare_init fd_NotSquare_init ["self", "bars", "wanted"]
  z_abs : mg "abs" = none
  z_len : mg "len" = none
  z_range : mg "range" = none
  z_tuple : mg "tuple" = none
  z_list : mg "list" = none
  z_dict : mg "dict" = none
  z_sorted : mg "sorted" = none
  z_enumerate : mg "enumerate" = none
  z_zip : mg "zip" = none
  z_min : mg "min" = none
  z_max : mg "max" = none
  z_int : mg "int" = none
  z_isinstance : mg "isinstance" = none
  z_type : mg "type" = none
  z_sum : mg "sum" = none
  m_gcd : mg "gcd" = some (.builtin "math.gcd")
  t_LEAST_RODS : Tok
  m_LEAST_RODS : mg "LEAST_RODS" = some (.int 3 t_LEAST_RODS)
  t_MOST_RODS : Tok
  m_MOST_RODS : mg "MOST_RODS" = some (.int 10 t_MOST_RODS)
  t_MOST_BARS : Tok
  m_MOST_BARS : mg "MOST_BARS" = some (.int 8 t_MOST_BARS)
  t_MOST_HEIGHT : Tok
  m_MOST_HEIGHT : mg "MOST_HEIGHT" = some (.int 1000000 t_MOST_HEIGHT)
  t_MOST_LENGTH : Tok
  m_MOST_LENGTH : mg "MOST_LENGTH" = some (.int 1000000 t_MOST_LENGTH)
end K06

namespace K06
open PySem L2
section
variable {P : Program} {w : World} {K : PySem.W.Frag} {mg : Str → Option Value} {base : Heap}
/-! exceptions -/
def fo1 (f : Str) : List V → List (Str × V) := fun ws => match ws with | [x] => [(f, x)] | _ => []
def fo2 (f g : Str) : List V → List (Str × V) := fun ws => match ws with | [x, y] => [(g, y), (f, x)] | _ => []
theorem ok_BadCount_init (T : Tx K mg) : FnOk P w K mg base CX0 1 T.a_BadCount_init T.fd_BadCount_init ["self", "what", "count"] (spX T.C_BadCount 2 (fo2 "what" "count")) := by
  refine T.F_BadCount_init.ok sc_BadCount_init (fun vs H Q E h => ?_) (fun cdv A outer s H vs Q E hr h => ?_)
  · obtain ⟨H0, a, ws, rfl, hn, _⟩ := h
    rw [List.length_cons, hn] <;> rfl
  · obtain ⟨H0, a, ws, rfl, hn, ha, rfl, k⟩ := h
    match ws, hn with
    | [x, y], _ =>
      refine ⟨_, pss_cons (ps_ost (pv 0) (pv 1)) (pss_one (ps_ost (pv 0) (pv 2))), ?_⟩
      refine ⟨_, rfl, _, rfl, a, T.C_BadCount, rfl, T.O_BadCount, T.nf_BadCount_what, .inl ⟨upd_same, fun d hd hda => ?_⟩⟩
      rw [upd_ne hda] at hd
      rw [exo1 hda]
      refine ⟨_, rfl, _, rfl, a, T.C_BadCount, rfl, T.O_BadCount, T.nf_BadCount_count, .inr ⟨d, _, upd_same, by rw [upd_ne hda, upd_same], by show 1 ≤ 900; decide, ?_⟩⟩
      rw [exo2 hda]
      exact k d hd hda
theorem ok_NotSquare_init (T : Tx K mg) : FnOk P w K mg base CX0 1 T.a_NotSquare_init T.fd_NotSquare_init ["self", "bars", "wanted"] (spX T.C_NotSquare 2 (fo2 "bars" "wanted")) := by
  refine T.F_NotSquare_init.ok sc_NotSquare_init (fun vs H Q E h => ?_) (fun cdv A outer s H vs Q E hr h => ?_)
  · obtain ⟨H0, a, ws, rfl, hn, _⟩ := h
    rw [List.length_cons, hn] <;> rfl
  · obtain ⟨H0, a, ws, rfl, hn, ha, rfl, k⟩ := h
    match ws, hn with
    | [x, y], _ =>
      refine ⟨_, pss_cons (ps_ost (pv 0) (pv 1)) (pss_one (ps_ost (pv 0) (pv 2))), ?_⟩
      refine ⟨_, rfl, _, rfl, a, T.C_NotSquare, rfl, T.O_NotSquare, T.nf_NotSquare_bars, .inl ⟨upd_same, fun d hd hda => ?_⟩⟩
      rw [upd_ne hda] at hd
      rw [exo1 hda]
      refine ⟨_, rfl, _, rfl, a, T.C_NotSquare, rfl, T.O_NotSquare, T.nf_NotSquare_wanted, .inr ⟨d, _, upd_same, by rw [upd_ne hda, upd_same], by show 1 ≤ 900; decide, ?_⟩⟩
      rw [exo2 hda]
      exact k d hd hda
theorem ok_NoRod_init (T : Tx K mg) : FnOk P w K mg base CX0 1 T.a_NoRod_init T.fd_NoRod_init ["self", "rod"] (spX T.C_NoRod 1 (fo1 "rod")) := by
  refine T.F_NoRod_init.ok sc_NoRod_init (fun vs H Q E h => ?_) (fun cdv A outer s H vs Q E hr h => ?_)
  · obtain ⟨H0, a, ws, rfl, hn, _⟩ := h
    rw [List.length_cons, hn] <;> rfl
  · obtain ⟨H0, a, ws, rfl, hn, ha, rfl, k⟩ := h
    match ws, hn with
    | [x], _ =>
      refine ⟨_, pss_one (ps_ost (pv 0) (pv 1)), ?_⟩
      refine ⟨_, rfl, _, rfl, a, T.C_NoRod, rfl, T.O_NoRod, T.nf_NoRod_rod, .inl ⟨upd_same, fun d hd hda => ?_⟩⟩
      rw [upd_ne hda] at hd
      rw [exo1 hda]
      exact k d hd hda
theorem ok_SameRod_init (T : Tx K mg) : FnOk P w K mg base CX0 1 T.a_SameRod_init T.fd_SameRod_init ["self", "rod"] (spX T.C_SameRod 1 (fo1 "rod")) := by
  refine T.F_SameRod_init.ok sc_SameRod_init (fun vs H Q E h => ?_) (fun cdv A outer s H vs Q E hr h => ?_)
  · obtain ⟨H0, a, ws, rfl, hn, _⟩ := h
    rw [List.length_cons, hn] <;> rfl
  · obtain ⟨H0, a, ws, rfl, hn, ha, rfl, k⟩ := h
    match ws, hn with
    | [x], _ =>
      refine ⟨_, pss_one (ps_ost (pv 0) (pv 1)), ?_⟩
      refine ⟨_, rfl, _, rfl, a, T.C_SameRod, rfl, T.O_SameRod, T.nf_SameRod_rod, .inl ⟨upd_same, fun d hd hda => ?_⟩⟩
      rw [upd_ne hda] at hd
      rw [exo1 hda]
      exact k d hd hda
theorem ok_BadSpan_init (T : Tx K mg) : FnOk P w K mg base CX0 1 T.a_BadSpan_init T.fd_BadSpan_init ["self", "bar"] (spX T.C_BadSpan 1 (fo1 "bar")) := by
  refine T.F_BadSpan_init.ok sc_BadSpan_init (fun vs H Q E h => ?_) (fun cdv A outer s H vs Q E hr h => ?_)
  · obtain ⟨H0, a, ws, rfl, hn, _⟩ := h
    rw [List.length_cons, hn] <;> rfl
  · obtain ⟨H0, a, ws, rfl, hn, ha, rfl, k⟩ := h
    match ws, hn with
    | [x], _ =>
      refine ⟨_, pss_one (ps_ost (pv 0) (pv 1)), ?_⟩
      refine ⟨_, rfl, _, rfl, a, T.C_BadSpan, rfl, T.O_BadSpan, T.nf_BadSpan_bar, .inl ⟨upd_same, fun d hd hda => ?_⟩⟩
      rw [upd_ne hda] at hd
      rw [exo1 hda]
      exact k d hd hda
/-! what a web refuses -/
inductive Rf where
  | cnt (what : Str) (n : Int) | rod (n : Int) | same (n : Int) | span (n : Int) | sq (a b : Int)
def Rf.fs : Rf → List (Str × V)
  | .cnt x n => [("count", .int n), ("what", .str x)]
  | .rod n => [("rod", .int n)]
  | .same n => [("rod", .int n)]
  | .span n => [("bar", .int n)]
  | .sq a b => [("wanted", .int b), ("bars", .int a)]
def Rf.C (T : Tx K mg) : Rf → Addr
  | .cnt _ _ => T.C_BadCount
  | .rod _ => T.C_NoRod
  | .same _ => T.C_SameRod
  | .span _ => T.C_BadSpan
  | .sq _ _ => T.C_NotSquare
def Rf.E (T : Tx K mg) (r : Rf) (E : XK) (H : Hp) : Prop := ∀ d H', Ext H H' → H d = none → H' d = some (.xd r.fs) → E (.ref (r.C T)) (some d) H'
/-! bars -/
structure BarD where
  a : Int
  b : Int
  c : Int
  len : Int
  lo : Int
  hi : Int
  deriving DecidableEq
abbrev brF : List Str := ["a", "b", "c", "length", "least", "greatest"]
def brV (b : BarD) : List V := [.int b.a, .int b.b, .int b.c, .int b.len, .int b.lo, .int b.hi]
def brT (b : BarD) : List Dt := [.int b.a, .int b.b, .int b.c, .int b.len, .int b.lo, .int b.hi]
def brD (C : Addr) (b : BarD) : Dt := .ins C brF (brT b)
theorem br_fields {C : Addr} {H : Hp} {b : BarD} {v : V} (i : Is K H (brD C b) v) : ∃ a dx, v = .ref a ∧ H a = some (.ins C dx [("a", .int b.a), ("b", .int b.b), ("c", .int b.c), ("length", .int b.len), ("least", .int b.lo), ("greatest", .int b.hi)]) := by
  obtain ⟨a, dx, kvs, rfl, ha, ek, hl⟩ := i
  obtain ⟨v1, r1, e1, f1, v2, r2, e2, f2, v3, r3, e3, f3, v4, r4, e4, f4, v5, r5, e5, f5, v6, r6, e6, f6, e7⟩ := hl
  subst e7 e6 e5 e4 e3 e2
  cases (show v1 = _ from f1)
  cases (show v2 = _ from f2)
  cases (show v3 = _ from f3)
  cases (show v4 = _ from f4)
  cases (show v5 = _ from f5)
  cases (show v6 = _ from f6)
  refine ⟨a, dx, rfl, ?_⟩
  match kvs, ek, e1 with
  | [(x1, y1), (x2, y2), (x3, y3), (x4, y4), (x5, y5), (x6, y6)], ek, e1 =>
    simp only [List.map_cons, List.map_nil] at ek e1
    injection ek with g1 ek
    injection ek with g2 ek
    injection ek with g3 ek
    injection ek with g4 ek
    injection ek with g5 ek
    injection ek with g6 _
    injection e1 with h1 e1
    injection e1 with h2 e1
    injection e1 with h3 e1
    injection e1 with h4 e1
    injection e1 with h5 e1
    injection e1 with h6 _
    subst g1 g2 g3 g4 g5 g6 h1 h2 h3 h4 h5 h6
    exact ha
theorem br_is {C a dx : Addr} {H : Hp} {b : BarD} (h : H a = some (.ins C dx [("a", .int b.a), ("b", .int b.b), ("c", .int b.c), ("length", .int b.len), ("least", .int b.lo), ("greatest", .int b.hi)])) : Is K H (brD C b) (.ref a) :=
  ⟨a, dx, _, rfl, h, rfl, _, _, rfl, rfl, _, _, rfl, rfl, _, _, rfl, rfl, _, _, rfl, rfl, _, _, rfl, rfl, _, _, rfl, rfl, rfl⟩
def spBar (K : PySem.W.Frag) (C : Addr) : Sp := fun vs H Q _ => ∃ (H0 : Hp) (x dx : Addr) (b : BarD), vs = .ref x :: brV b ∧ H0 x = none ∧ H0 dx = none ∧ dx ≠ x ∧ H = upd (upd H0 dx (.own x)) x (.ins C dx []) ∧ ∀ H', Ext H0 H' → Is K H' (brD C b) (.ref x) → Q .non H'
theorem ok_Bar_init (T : Tx K mg) : FnOk P w K mg base (L2.CX P w) 2 T.a_Bar_init T.fd_Bar_init ["self", "a", "b", "c", "length", "least", "greatest"] (spBar K T.C_Bar) := by
  refine T.F_Bar_init.okX sc_Bar_init (fun vs H Q E h => ?_) (fun cdv A outer s H vs Q E hr h => ?_)
  · obtain ⟨H0, x, dx, b, rfl, _⟩ := h
    rfl
  · obtain ⟨H0, x, dx, b, rfl, hx, hdx, hne, rfl, k⟩ := h
    refine ⟨_, (pss_cons (ps_fld (pv 0) (pv 1) rfl)
      (pss_cons (ps_fld (pv 0) (pv 2) rfl)
      (pss_cons (ps_fld (pv 0) (pv 3) rfl)
      (pss_cons (ps_fld (pv 0) (pv 4) rfl)
      (pss_cons (ps_fld (pv 0) (pv 5) rfl)
      (pss_one (ps_fld (pv 0) (pv 6) rfl))))))), ?_⟩
    have eH : Ext H0 (upd (upd H0 dx (.own x)) x (.ins T.C_Bar dx [])) := (Ext.upd hdx).mut hx
    refine ⟨_, rfl, _, rfl, x, T.C_Bar, dx, _, rfl, upd_same, T.c_Bar, T.nf_Bar_a, (by show 0 < 1000; decide), ?_⟩
    refine ⟨_, rfl, _, rfl, x, T.C_Bar, dx, _, rfl, upd_same, T.c_Bar, T.nf_Bar_b, (by show 1 < 1000; decide), ?_⟩
    refine ⟨_, rfl, _, rfl, x, T.C_Bar, dx, _, rfl, upd_same, T.c_Bar, T.nf_Bar_c, (by show 2 < 1000; decide), ?_⟩
    refine ⟨_, rfl, _, rfl, x, T.C_Bar, dx, _, rfl, upd_same, T.c_Bar, T.nf_Bar_length, (by show 3 < 1000; decide), ?_⟩
    refine ⟨_, rfl, _, rfl, x, T.C_Bar, dx, _, rfl, upd_same, T.c_Bar, T.nf_Bar_least, (by show 4 < 1000; decide), ?_⟩
    refine ⟨_, rfl, _, rfl, x, T.C_Bar, dx, _, rfl, upd_same, T.c_Bar, T.nf_Bar_greatest, (by show 5 < 1000; decide), ?_⟩
    exact k _ ((((((eH.mut hx).mut hx).mut hx).mut hx).mut hx).mut hx) (br_is (dx := dx) upd_same)
end
end K06

namespace K06
open PySem L2
section
variable {P : Program} {w : World} {K : PySem.W.Frag} {mg : Str → Option Value} {base : Heap}
theorem find_at {α : Type} {p : α → Bool} : ∀ {xs : List α} {i : Nat} {r : α}, (∀ j x, j < i → xs[j]? = some x → p x = false) → xs[i]? = some r → p r = true → xs.find? p = some r
  | [], _, _, _, h, _ => by simp at h
  | x :: xs, 0, r, _, h, hp => by
    cases (show some x = some r from h)
    rw [List.find?_cons, hp]
  | x :: xs, i + 1, r, hb, h, hp => by
    rw [List.find?_cons, hb 0 x (Nat.succ_pos _) rfl]
    exact find_at (xs := xs) (i := i) (fun j y hj e => hb (j + 1) y (Nat.succ_lt_succ hj) e) h hp
theorem find_no {α : Type} {p : α → Bool} {xs : List α} (h : ∀ (j : Nat) (x : α), xs[j]? = some x → p x = false) : xs.find? p = none := by
  rw [List.find?_eq_none]
  intro x hx
  obtain ⟨j, hj⟩ := List.getElem?_of_mem hx
  rw [h j x hj]
  exact Bool.false_ne_true
def offRod (n r : Int) : Bool := !(decide (0 ≤ r) && decide (r < n))
def ckBar (n k : Int) (b : BarD) : Option Rf :=
  match [b.a, b.b, b.c].find? (offRod n) with
  | some r => some (.rod r)
  | none => if b.b = b.a then some (.same b.b) else if b.c = b.a ∨ b.c = b.b then some (.same b.c) else if ¬ (1 ≤ b.len ∧ b.len ≤ 1000000) then some (.cnt "length" b.len) else if ¬ (0 ≤ b.lo ∧ b.lo ≤ b.hi ∧ b.hi ≤ b.len) then some (.span k) else none
def spCkBar (K : PySem.W.Frag) (T : Tx K mg) : Sp := fun vs H Q E => ∃ (n k : Int) (v : V) (b : BarD), vs = [.int n, .int k, v] ∧ Is K H (brD T.C_Bar b) v ∧ (∀ r, ckBar n k b = some r → r.E T E H) ∧ (ckBar n k b = none → ∀ H', Ext H H' → Q .non H')
theorem ok_check_bar (T : Tx K mg) : FnOk P w K mg base (L2.CX P w) 4 T.a_check_bar T.fd_check_bar ["rods", "number", "bar"] (spCkBar K T) := by
  refine T.F_check_bar.okX sc_check_bar (fun vs H Q E h => ?_) (fun cdv A outer s H vs Q E hr h => ?_)
  · obtain ⟨n, k, v, b, rfl, _⟩ := h
    rfl
  · obtain ⟨n, k, v, b, rfl, hb, kE, kQ⟩ := h
    refine ⟨_, (pss_cons (ps_for (passes_of rfl) rfl (pi_tup (pe_tup (pa_cons (pe_fld (pv 2) rfl) (pa_cons (pe_fld (pv 2) rfl) (pa_cons (pe_fld (pv 2) rfl) pa_nil))))) (pg_name (i := 3) sc_check_bar.nd rfl (Or.inl rfl)) (pss_one (ps_if (pt_not (pt_chain op_le op_lt pe_int (pv 3) (pv 0))) (pss_one (ps_raiseX T.X_NoRod (ok_NoRod_init T) (hr.mono (by decide)) rfl (takes_of rfl rfl rfl rfl) rfl (pa_cons (pv 3) pa_nil))) pss_nil)))
      (pss_cons (ps_if (pt_cmpR op_eq (pe_fld (pv 2) rfl) (pe_fld (pv 2) rfl) (nomark _)) (pss_one (ps_raiseX T.X_SameRod (ok_SameRod_init T) (hr.mono (by decide)) rfl (takes_of rfl rfl rfl rfl) rfl (pa_cons (pe_fld (pv 2) rfl) pa_nil))) pss_nil)
      (pss_cons (ps_if (pt_cmpR op_in_seq (pe_fld (pv 2) rfl) (pe_tup (pa_cons (pe_fld (pv 2) rfl) (pa_cons (pe_fld (pv 2) rfl) pa_nil))) rfl) (pss_one (ps_raiseX T.X_SameRod (ok_SameRod_init T) (hr.mono (by decide)) rfl (takes_of rfl rfl rfl rfl) rfl (pa_cons (pe_fld (pv 2) rfl) pa_nil))) pss_nil)
      (pss_cons (ps_if (pt_not (pt_chain op_le op_le pe_int (pe_fld (pv 2) rfl) (pe_glob (v := .int 1000000) rfl T.m_MOST_LENGTH ⟨_, rfl⟩))) (pss_one (ps_raiseX T.X_BadCount (ok_BadCount_init T) (hr.mono (by decide)) rfl (takes_of rfl rfl rfl rfl) rfl (pa_cons pe_str (pa_cons (pe_fld (pv 2) rfl) pa_nil)))) pss_nil)
      (pss_one (ps_if (pt_not (pt_chain3 op_le op_le op_le pe_int (pe_fld (pv 2) rfl) (pe_fld (pv 2) rfl) (pe_fld (pv 2) rfl))) (pss_one (ps_raiseX T.X_BadSpan (ok_BadSpan_init T) (hr.mono (by decide)) rfl (takes_of rfl rfl rfl rfl) rfl (pa_cons (pv 1) pa_nil))) pss_nil)))))), ?_⟩
    obtain ⟨ba, bdx, rfl, hba⟩ := br_fields hb
    refine ⟨_, rfl, ba, T.C_Bar, bdx, _, _, rfl, hba, T.c_Bar, T.nf_Bar_a, rfl, ?_⟩
    refine ⟨_, rfl, ba, T.C_Bar, bdx, _, _, rfl, hba, T.c_Bar, T.nf_Bar_b, rfl, ?_⟩
    refine ⟨_, rfl, ba, T.C_Bar, bdx, _, _, rfl, hba, T.c_Bar, T.nf_Bar_c, rfl, by show 3 ≤ sizeLine; decide, fun t ht => ?_⟩
    refine ⟨t, rfl, ⟨_, SqT.of upd_same⟩, for_tup (K := K) (a := t) (xs := [b.a, b.b, b.c].map V.int) (fun i σ H' => Ext H H' ∧ H' t = some (.tup ([b.a, b.b, b.c].map V.int)) ∧ (∀ j x, j < i → [b.a, b.b, b.c][j]? = some x → offRod n x = false) ∧ ∃ v3 : Option V, σ = [some (.int n), some (.int k), some (.ref ba), v3])
      ⟨Ext.upd ht, upd_same, fun j x hj => absurd hj (Nat.not_lt_zero _), none, rfl⟩ (fun i σ H' _ p => SqT.of p.2.1) ?_ ?_⟩
    · rintro i y σ H1 hi ⟨e1, ht1, hno, v3, rfl⟩
      obtain ⟨r, hr', rfl⟩ : ∃ r, [b.a, b.b, b.c][i]? = some r ∧ y = V.int r := by
        rw [List.getElem?_map] at hi
        cases e : [b.a, b.b, b.c][i]? with
        | none => rw [e] at hi; cases hi
        | some n => rw [e] at hi; exact ⟨n, rfl, (Option.some.inj hi).symm⟩
      have bad : offRod n r = true → ckBar n k b = some (.rod r) := fun ho => by
        unfold ckBar
        rw [find_at hno hr' ho]
      have rz : offRod n r = true → ∀ d, H1 d = none → E (.ref T.C_NoRod) (some d) (upd H1 d (.xd (fo1 "rod" [V.int r]))) := fun ho d hd =>
        kE _ (bad ho) d _ (e1.trans (Ext.upd hd)) (e1.fresh hd) upd_same
      refine ⟨_, rfl, _, _, rfl, rfl, _, rfl, ite2 (fun c0 => ?_) (fun c0 => ?_)⟩
      · refine ⟨_, rfl, _, _, rfl, rfl, _, rfl, ite2 (fun c1 => ?_) (fun c1 => ?_)⟩
        · refine ⟨_, rfl, rz_ok (n := 1) rfl (by decide) (rz ?_)⟩
          unfold offRod
          rw [c0, Bool.true_and]
          exact c1
        · refine ⟨e1, ht1, fun j x hj hx => ?_, _, rfl⟩
          by_cases hji : j = i
          · subst hji
            rw [hr'] at hx
            cases hx
            unfold offRod
            rw [c0, Bool.true_and]
            exact Bool.eq_false_iff.mpr c1
          · exact hno j x (by omega) hx
      · refine ⟨_, rfl, ite2 (fun c1 => ?_) (fun c1 => absurd rfl c1)⟩
        refine ⟨_, rfl, rz_ok (n := 1) rfl (by decide) (rz ?_)⟩
        unfold offRod
        rw [Bool.eq_false_iff.mpr c0]
        rfl
    · rintro σ H1 ⟨e1, ht1, hno, v3, rfl⟩
      have hnone : [b.a, b.b, b.c].find? (offRod n) = none := find_no fun j x hx => hno j x (by
        have := (List.getElem?_eq_some_iff.mp hx).1
        exact this) hx
      have hba1 := e1 _ _ hba
      refine ⟨_, rfl, ba, T.C_Bar, bdx, _, _, rfl, hba1, T.c_Bar, T.nf_Bar_b, rfl, ?_⟩
      refine ⟨_, rfl, ba, T.C_Bar, bdx, _, _, rfl, hba1, T.c_Bar, T.nf_Bar_a, rfl, rfl, _, rfl, ite2 (fun c0 => ?_) (fun c0 => ?_)⟩
      · have hba2 : b.b = b.a := V.int.inj (of_decide_eq_true c0)
        refine ⟨_, rfl, ba, T.C_Bar, bdx, _, _, rfl, hba1, T.c_Bar, T.nf_Bar_b, rfl, rz_ok (n := 1) rfl (by decide) fun d hd => ?_⟩
        refine kE (.same b.b) ?_ d _ (e1.trans (Ext.upd hd)) (e1.fresh hd) upd_same
        unfold ckBar
        rw [hnone]
        exact if_pos hba2
      have n1 : ¬ b.b = b.a := fun z => c0 (decide_eq_true (congrArg V.int z))
      refine ⟨_, rfl, ba, T.C_Bar, bdx, _, _, rfl, hba1, T.c_Bar, T.nf_Bar_c, rfl, ?_⟩
      refine ⟨_, rfl, ba, T.C_Bar, bdx, _, _, rfl, hba1, T.c_Bar, T.nf_Bar_a, rfl, ?_⟩
      refine ⟨_, rfl, ba, T.C_Bar, bdx, _, _, rfl, hba1, T.c_Bar, T.nf_Bar_b, rfl, by show 2 ≤ sizeLine; decide, fun t2 ht2 => ?_⟩
      have e2 : Ext H (upd H1 t2 (.tup [.int b.a, .int b.b])) := e1.trans (Ext.upd ht2)
      have hba2 := Ext.upd (o := HO.tup [.int b.a, .int b.b]) ht2 _ _ hba1
      refine ⟨_, _, rfl, .inr (SqT.of upd_same), rfl, rfl, ?_⟩
      generalize upd H1 t2 (.tup [.int b.a, .int b.b]) = H2 at e2 hba2 ⊢
      have hin : inV (.int b.c) [.int b.a, .int b.b] = decide (b.c = b.a ∨ b.c = b.b) := by
        show (b.a == b.c || (b.b == b.c || false)) = _
        rw [Bool.or_false, Bool.eq_iff_iff, Bool.or_eq_true, decide_eq_true_iff, beq_iff_eq, beq_iff_eq]
        exact ⟨fun h => h.imp Eq.symm Eq.symm, fun h => h.imp Eq.symm Eq.symm⟩
      rw [if_neg Bool.false_ne_true, hin]
      refine ⟨_, rfl, ite2 (fun c1 => ?_) (fun c1 => ?_)⟩
      · refine ⟨_, rfl, ba, T.C_Bar, bdx, _, _, rfl, hba2, T.c_Bar, T.nf_Bar_c, rfl, rz_ok (n := 1) rfl (by decide) fun d hd => ?_⟩
        refine kE (.same b.c) ?_ d _ (e2.trans (Ext.upd hd)) (e2.fresh hd) upd_same
        unfold ckBar
        rw [hnone]
        show (if _ then _ else _) = _
        rw [if_neg n1, if_pos (of_decide_eq_true c1)]
      have n2 : ¬ (b.c = b.a ∨ b.c = b.b) := fun z => c1 (decide_eq_true z)
      have r4 : ¬ (1 ≤ b.len ∧ b.len ≤ 1000000) → ckBar n k b = some (.cnt "length" b.len) := fun z => by
        unfold ckBar
        rw [hnone]
        show (if _ then _ else _) = _
        rw [if_neg n1, if_neg n2, if_pos z]
      have rz4 : ¬ (1 ≤ b.len ∧ b.len ≤ 1000000) → ∀ d, H2 d = none → E (.ref T.C_BadCount) (some d) (upd H2 d (.xd (fo2 "what" "count" [V.str "length", V.int b.len]))) := fun z d hd =>
        kE _ (r4 z) d _ (e2.trans (Ext.upd hd)) (e2.fresh hd) upd_same
      refine ⟨_, rfl, ba, T.C_Bar, bdx, _, _, rfl, hba2, T.c_Bar, T.nf_Bar_length, rfl, _, _, rfl, rfl, _, rfl, ite2 (fun c2 => ?_) (fun c2 => ?_)⟩
      · refine ⟨_, _, rfl, rfl, _, rfl, ite2 (fun c3 => ?_) (fun c3 => ?_)⟩
        · refine ⟨_, rfl, ba, T.C_Bar, bdx, _, _, rfl, hba2, T.c_Bar, T.nf_Bar_length, rfl, rz_ok (n := 2) rfl (by decide) (rz4 fun z => ?_)⟩
          rw [decide_eq_true z.2] at c3
          cases c3
        have ok4 : 1 ≤ b.len ∧ b.len ≤ 1000000 := ⟨of_decide_eq_true c2, Classical.byContradiction fun z => c3 (by rw [decide_eq_false z]; rfl)⟩
        have r5 : ¬ (0 ≤ b.lo ∧ b.lo ≤ b.hi ∧ b.hi ≤ b.len) → ckBar n k b = some (.span k) := fun z => by
          unfold ckBar
          rw [hnone]
          show (if _ then _ else _) = _
          rw [if_neg n1, if_neg n2, if_neg (fun y => y ok4), if_pos z]
        have rz5 : ¬ (0 ≤ b.lo ∧ b.lo ≤ b.hi ∧ b.hi ≤ b.len) → ∀ d, H2 d = none → E (.ref T.C_BadSpan) (some d) (upd H2 d (.xd (fo1 "bar" [V.int k]))) := fun z d hd =>
          kE _ (r5 z) d _ (e2.trans (Ext.upd hd)) (e2.fresh hd) upd_same
        refine ⟨_, rfl, ba, T.C_Bar, bdx, _, _, rfl, hba2, T.c_Bar, T.nf_Bar_least, rfl, _, _, rfl, rfl, _, rfl, ite2 (fun c4 => ?_) (fun c4 => ?_)⟩
        · refine ⟨_, rfl, ba, T.C_Bar, bdx, _, _, rfl, hba2, T.c_Bar, T.nf_Bar_greatest, rfl, _, _, rfl, rfl, _, rfl, ite2 (fun c5 => ?_) (fun c5 => ?_)⟩
          · refine ⟨_, rfl, ba, T.C_Bar, bdx, _, _, rfl, hba2, T.c_Bar, T.nf_Bar_length, rfl, _, _, rfl, rfl, _, rfl, ite2 (fun c6 => ?_) (fun c6 => ?_)⟩
            · refine ⟨_, rfl, rz_ok (n := 1) rfl (by decide) (rz5 fun z => ?_)⟩
              rw [decide_eq_true z.2.2] at c6
              cases c6
            · have ok5 : 0 ≤ b.lo ∧ b.lo ≤ b.hi ∧ b.hi ≤ b.len := ⟨of_decide_eq_true c4, of_decide_eq_true c5, Classical.byContradiction fun z => c6 (by rw [decide_eq_false z]; rfl)⟩
              refine kQ ?_ _ e2
              unfold ckBar
              rw [hnone]
              show (if _ then _ else _) = _
              rw [if_neg n1, if_neg n2, if_neg (fun y => y ok4), if_neg (fun y => y ok5)]
          · exact iteT ⟨_, rfl, rz_ok (n := 1) rfl (by decide) (rz5 fun z => c5 (decide_eq_true z.2.1))⟩
        · exact iteT ⟨_, rfl, rz_ok (n := 1) rfl (by decide) (rz5 fun z => c4 (decide_eq_true z.1))⟩
      · refine ⟨_, rfl, iteT ?_⟩
        exact ⟨_, rfl, ba, T.C_Bar, bdx, _, _, rfl, hba2, T.c_Bar, T.nf_Bar_length, rfl, rz_ok (n := 2) rfl (by decide) (rz4 fun z => c2 (decide_eq_true z.1))⟩
end
end K06

namespace K06
open PySem L2
section
variable {P : Program} {w : World} {K : PySem.W.Frag} {mg : Str → Option Value} {base : Heap}
def ckFrom (n : Int) : Nat → List BarD → Option Rf
  | _, [] => none
  | k, b :: r => match ckBar n (k : Nat) b with
    | some x => some x
    | none => ckFrom n (k + 1) r
theorem ck_at {n : Int} : ∀ {bs : List BarD} {k i : Nat} {b : BarD} {r : Rf}, (∀ (j : Nat) (c : BarD), j < i → bs[j]? = some c → ckBar n ((k + j : Nat) : Int) c = none) → bs[i]? = some b → ckBar n ((k + i : Nat) : Int) b = some r → ckFrom n k bs = some r
  | [], _, _, _, _, _, h, _ => by simp at h
  | c :: bs, k, 0, b, r, _, h, hp => by
    cases (show some c = some b from h)
    unfold ckFrom
    rw [show ckBar n (k : Nat) c = some r from hp]
  | c :: bs, k, i + 1, b, r, hb, h, hp => by
    unfold ckFrom
    rw [show ckBar n (k : Nat) c = none from hb 0 c (Nat.succ_pos _) rfl]
    exact ck_at (bs := bs) (k := k + 1) (i := i) (fun j y hj e => by
      rw [Nat.succ_add]
      exact hb (j + 1) y (Nat.succ_lt_succ hj) e) h (by rw [Nat.succ_add]; exact hp)
theorem ck_no {n : Int} : ∀ {bs : List BarD} {k : Nat}, (∀ (j : Nat) (c : BarD), bs[j]? = some c → ckBar n ((k + j : Nat) : Int) c = none) → ckFrom n k bs = none
  | [], _, _ => rfl
  | c :: bs, k, h => by
    unfold ckFrom
    rw [show ckBar n (k : Nat) c = none from h 0 c rfl]
    exact ck_no (bs := bs) (k := k + 1) fun j y e => by
      rw [Nat.succ_add]
      exact h (j + 1) y e
def ckBars (n : Int) (m : Nat) (bs : List BarD) : Option Rf :=
  if ¬ (1 ≤ (bs.length : Int) ∧ (bs.length : Int) ≤ 8) then some (.cnt "bars" bs.length) else if ¬ (bs.length : Int) = n - m then some (.sq bs.length (n - m)) else ckFrom n 0 bs
def hK (hl : List (Int × Int)) : List (Key × V) := hl.map fun p => (Sum.inl p.1, V.int p.2)
theorem isL_len {K : PySem.W.Frag} {H : Hp} : ∀ {ds : List Dt} {vs : List V}, IsL K H ds vs → vs.length = ds.length
  | [], _, h => by cases h; rfl
  | d :: ds, _, ⟨v, r, e, _, h⟩ => by
    subst e
    rw [List.length_cons, List.length_cons, isL_len (ds := ds) h]
def spCkBars (K : PySem.W.Frag) (T : Tx K mg) : Sp := fun vs H Q E => ∃ (n : Int) (hd bl : Addr) (hl : List (Int × Int)) (bs : List BarD) (ws : List V), vs = [.int n, .ref hd, .ref bl] ∧ H hd = some (.dK (hK hl)) ∧ SqQ K H bl ws ∧ IsL K H (bs.map (brD T.C_Bar)) ws ∧
  (∀ r, ckBars n hl.length bs = some r → r.E T E H) ∧ (ckBars n hl.length bs = none → ∀ H', Ext H H' → Q .non H')
theorem ok_check_bars (T : Tx K mg) : FnOk P w K mg base (L2.CX P w) 6 T.a_check_bars T.fd_check_bars ["rods", "held", "bars"] (spCkBars K T) := by
  refine T.F_check_bars.okX sc_check_bars (fun vs H Q E h => ?_) (fun cdv A outer s H vs Q E hr h => ?_)
  · obtain ⟨n, hd, bl, hl, bs, ws, rfl, _⟩ := h
    rfl
  · obtain ⟨n, hd, bl, hl, bs, ws, rfl, hhd, hbl, hbs, kE, kQ⟩ := h
    refine ⟨_, (pss_cons (ps_if (pt_not (pt_chain op_le op_le pe_int (pe_callB call_len_seq (by rfl) T.z_len PySem.boot_len (pa_cons (pv 2) pa_nil)) (pe_glob (v := .int 8) rfl T.m_MOST_BARS ⟨_, rfl⟩))) (pss_one (ps_raiseX T.X_BadCount (ok_BadCount_init T) (hr.mono (by decide)) rfl (takes_of rfl rfl rfl rfl) rfl (pa_cons pe_str (pa_cons (pe_callB call_len_seq (by rfl) T.z_len PySem.boot_len (pa_cons (pv 2) pa_nil)) pa_nil)))) pss_nil)
      (pss_cons (ps_set (i := 3) sc_check_bars.nd rfl (Or.inl rfl) (pe_op op_sub (pv 0) (pe_callB call_lenD (by rfl) T.z_len PySem.boot_len (pa_cons (pv 1) pa_nil))))
      (pss_cons (ps_if (pt_cmpR op_ne (pe_callB call_len_seq (by rfl) T.z_len PySem.boot_len (pa_cons (pv 2) pa_nil)) (pv 3) (nomark _)) (pss_one (ps_raiseX T.X_NotSquare (ok_NotSquare_init T) (hr.mono (by decide)) rfl (takes_of rfl rfl rfl rfl) rfl (pa_cons (pe_callB call_len_seq (by rfl) T.z_len PySem.boot_len (pa_cons (pv 2) pa_nil)) (pa_cons (pv 3) pa_nil)))) pss_nil)
      (pss_one (ps_for (passes_of rfl) rfl (pi_enumQ (by rfl) T.z_enumerate (pa_cons (pv 2) pa_nil)) (pg_tup rfl (pgs_cons (pg_name (i := 4) sc_check_bars.nd rfl (Or.inl rfl)) (pgs_cons (pg_name (i := 5) sc_check_bars.nd rfl (Or.inl rfl)) pgs_nil))) (pss_one (ps_expr (pe_call (ok_check_bar T) (hr.mono (by decide)) rfl T.m_check_bar T.F_check_bar.kp T.b_check_bar .nil (passes_call (takes_of rfl rfl rfl rfl) (fun _ _ _ _ h => h)) (pa_cons (pv 0) (pa_cons (pv 4) (pa_cons (pv 5) pa_nil))))))))))), ?_⟩
    have hlen : ws.length = bs.length := by rw [isL_len hbs, List.length_map]
    have r1 : ¬ (1 ≤ (ws.length : Int) ∧ (ws.length : Int) ≤ 8) → ∀ d, H d = none → E (.ref T.C_BadCount) (some d) (upd H d (.xd (fo2 "what" "count" [V.str "bars", V.int (ws.length : Int)]))) := fun z d hd => by
      have z' : ckBars n hl.length bs = some (.cnt "bars" (ws.length : Int)) := by
        unfold ckBars
        rw [← hlen]
        exact if_pos z
      exact kE _ z' d _ (Ext.upd hd) hd upd_same
    refine ⟨_, rfl, bl, ws, rfl, hbl, _, _, rfl, rfl, _, rfl, ite2 (fun c0 => ?_) (fun c0 => ?_)⟩
    · refine ⟨_, _, rfl, rfl, _, rfl, ite2 (fun c1 => ?_) (fun c1 => ?_)⟩
      · refine ⟨_, rfl, bl, ws, rfl, hbl, rz_ok (n := 2) rfl (by decide) (r1 fun z => ?_)⟩
        rw [decide_eq_true z.2] at c1
        cases c1
      have ok1 : 1 ≤ (ws.length : Int) ∧ (ws.length : Int) ≤ 8 := ⟨of_decide_eq_true c0, Classical.byContradiction fun z => c1 (by rw [decide_eq_false z]; rfl)⟩
      refine ⟨_, rfl, _, rfl, hd, _, rfl, hhd, _, _, rfl, rfl, ?_⟩
      have hkl : ((hK hl).length : Int) = (hl.length : Int) := by unfold hK; rw [List.length_map]
      dsimp only
      rw [hkl]
      refine ⟨_, rfl, bl, ws, rfl, hbl, _, rfl, rfl, _, rfl, ite2 (fun c2 => ?_) (fun c2 => ?_)⟩
      · refine ⟨_, rfl, bl, ws, rfl, hbl, _, rfl, rz_ok (n := 2) rfl (by decide) fun d hd => ?_⟩
        have hne : ¬ (ws.length : Int) = n - hl.length := fun z => by
          rw [z] at c2
          simp at c2
        have z' : ckBars n hl.length bs = some (.sq (ws.length : Int) (n - hl.length)) := by
          unfold ckBars
          rw [← hlen, if_neg (fun y => y ok1), if_pos hne]
        exact kE _ z' d _ (Ext.upd hd) hd upd_same
      have heq : (ws.length : Int) = n - hl.length := Classical.byContradiction fun z => c2 (by
        rw [decide_eq_false (fun y => z (V.int.inj y))]
        rfl)
      have hck : ckBars n hl.length bs = ckFrom n 0 bs := by
        unfold ckBars
        rw [← hlen, if_neg (fun y => y ok1), if_neg (fun y => y heq)]
      rw [hck] at kQ
      simp only [hck] at kE
      refine ⟨_, rfl, bl, rfl, for_enumQ (H0 := H) hbl (fun i σ H' => Ext H H' ∧ (∀ (j : Nat) (c : BarD), j < i → bs[j]? = some c → ckBar n ((0 + j : Nat) : Int) c = none) ∧ ∃ v4 v5 : Option V, σ = [some (.int n), some (.ref hd), some (.ref bl), some (.int (n - hl.length)), v4, v5])
        ⟨Ext.rfl', fun j c hj => absurd hj (Nat.not_lt_zero _), none, none, rfl⟩ (fun i σ H' _ p => p.1) ?_ ?_⟩
      · rintro i y σ H1 t hi ⟨e1, hno, v4, v5, rfl⟩ ht
        obtain ⟨d, hd', iy⟩ := hbs.get hi
        obtain ⟨b, hb, rfl⟩ : ∃ b, bs[i]? = some b ∧ d = brD T.C_Bar b := by
          rw [List.getElem?_map] at hd'
          cases e : bs[i]? with
          | none => rw [e] at hd'; cases hd'
          | some b => rw [e] at hd'; exact ⟨b, rfl, (Option.some.inj hd').symm⟩
        have e2 : Ext H (upd H1 t (.tup [.int (i : Nat), y])) := e1.trans (Ext.upd ht)
        refine ⟨t, _, rfl, SqT.of upd_same, rfl, _, _, rfl, _, _, rfl, rfl, ?_⟩
        refine ⟨_, rfl, _, rfl, _, rfl, n, (i : Nat), y, b, rfl, iy.ext e2, fun r hr' => ?_, fun hnn H3 e3 => ?_⟩
        · intro d' H' e' hd0 hx
          exact kE r (ck_at hno hb (by rw [Nat.zero_add]; exact hr')) d' H' (e2.trans e') (e2.fresh hd0) hx
        · refine ⟨e2.trans e3, fun j c hj hc => ?_, _, _, rfl⟩
          by_cases hji : j = i
          · subst hji
            rw [hb] at hc
            cases hc
            rw [Nat.zero_add]
            exact hnn
          · exact hno j c (by omega) hc
      · rintro σ H1 ⟨e1, hno, v4, v5, rfl⟩
        refine kQ (ck_no fun j c hc => hno j c ?_ hc) _ e1
        have := (List.getElem?_eq_some_iff.mp hc).1
        omega
    · exact ⟨_, rfl, iteT ⟨_, rfl, bl, ws, rfl, hbl, rz_ok (n := 2) rfl (by decide) (r1 fun z => c0 (decide_eq_true z.1))⟩⟩
end
end K06

namespace K06
open PySem L2
section
variable {P : Program} {w : World} {K : PySem.W.Frag} {mg : Str → Option Value} {base : Heap}
def srtI (ks : List Int) : List Int := ks.mergeSort fun a b => decide (a ≤ b)
theorem srtI_perm (ks : List Int) : (srtI ks).Perm ks := List.mergeSort_perm ..
theorem srtI_sorted (ks : List Int) : (srtI ks).Pairwise (· ≤ ·) := by
  have h := List.pairwise_mergeSort (le := fun a b : Int => decide (a ≤ b)) (fun a b c h1 h2 => decide_eq_true (Int.le_trans (of_decide_eq_true h1) (of_decide_eq_true h2))) (fun a b => by
    rw [Bool.or_eq_true, decide_eq_true_iff, decide_eq_true_iff]
    exact Int.le_total a b) ks
  exact h.imp fun h => of_decide_eq_true h
theorem srt_eq {ys ks : List Int} (hp : ys.Perm ks) (hs : ys.Pairwise (· ≤ ·)) : ys = srtI ks :=
  List.Perm.eq_of_pairwise (le := (· ≤ ·)) (fun a b _ _ h1 h2 => Int.le_antisymm h1 h2) hs (srtI_sorted ks) (hp.trans (srtI_perm ks).symm)
def lookI (hl : List (Int × Int)) (r : Int) : Int := match hl.find? fun p => decide (p.1 = r) with
  | some p => p.2
  | none => 0
theorem val_hK : ∀ {hl : List (Int × Int)} {r : Int}, r ∈ hl.map (·.1) → valV (hK hl) (Sum.inl r) = some (V.int (lookI hl r))
  | [], _, h => by cases h
  | p :: hl, r, h => by
    by_cases e : p.1 = r
    · have h1 : valV (hK (p :: hl)) (Sum.inl r) = some (V.int p.2) := valV_pos (by show Sum.inl p.1 = Sum.inl r; rw [e])
      rw [h1]
      unfold lookI
      rw [List.find?_cons, decide_eq_true e]
    · have h2 : r ∈ hl.map (·.1) := by
        rcases List.mem_cons.mp h with h | h
        · exact absurd h.symm e
        · exact h
      have h3 := val_hK h2
      have h4 : valV (hK (p :: hl)) (Sum.inl r) = valV (hK hl) (Sum.inl r) := by
        unfold valV hK
        rw [List.map_cons, List.find?_cons, decide_eq_false (fun z => e (Sum.inl.inj z))]
      rw [h4, h3]
      unfold lookI
      rw [List.find?_cons, decide_eq_false e]
def farH (hl : List (Int × Int)) (r : Int) : Bool := !(decide (-1000000 ≤ lookI hl r) && decide (lookI hl r ≤ 1000000))
def ckRods (n : Int) (hl : List (Int × Int)) : Option Rf :=
  if ¬ (3 ≤ n ∧ n ≤ 10) then some (.cnt "rods" n) else
  match (srtI (hl.map (·.1))).find? (offRod n) with
  | some r => some (.rod r)
  | none => match (srtI (hl.map (·.1))).find? (farH hl) with
    | some r => some (.cnt "height" (lookI hl r))
    | none => if hl = [] then some (.cnt "held" 0) else none
def spCkRods (K : PySem.W.Frag) (T : Tx K mg) : Sp := fun vs H Q E => ∃ (n : Int) (hd : Addr) (hl : List (Int × Int)), vs = [.int n, .ref hd] ∧ H hd = some (.dK (hK hl)) ∧ hl.length < 64 ∧
  (∀ r, ckRods n hl = some r → r.E T E H) ∧ (ckRods n hl = none → ∀ H', Ext H H' → Q .non H')
theorem ok_check_rods (T : Tx K mg) : FnOk P w K mg base (L2.CX P w) 4 T.a_check_rods T.fd_check_rods ["rods", "held"] (spCkRods K T) := by
  refine T.F_check_rods.okX sc_check_rods (fun vs H Q E h => ?_) (fun cdv A outer s H vs Q E hr h => ?_)
  · obtain ⟨n, hd, hl, rfl, _⟩ := h
    rfl
  · obtain ⟨n, hd, hl, rfl, hhd, h64, kE, kQ⟩ := h
    refine ⟨_, (pss_cons (ps_if (pt_not (pt_chain op_le op_le (pe_glob (v := .int 3) rfl T.m_LEAST_RODS ⟨_, rfl⟩) (pv 0) (pe_glob (v := .int 10) rfl T.m_MOST_RODS ⟨_, rfl⟩))) (pss_one (ps_raiseX T.X_BadCount (ok_BadCount_init T) (hr.mono (by decide)) rfl (takes_of rfl rfl rfl rfl) rfl (pa_cons pe_str (pa_cons (pv 0) pa_nil)))) pss_nil)
      (pss_cons (ps_for (passes_of rfl) rfl (pi_list (pe_callB (call_sortedDI rfl) (by rfl) T.z_sorted (by decide +kernel) (pa_cons (pv 1) pa_nil))) (pg_name (i := 2) sc_check_rods.nd rfl (Or.inl rfl)) (pss_one (ps_if (pt_not (pt_chain op_le op_lt pe_int (pv 2) (pv 0))) (pss_one (ps_raiseX T.X_NoRod (ok_NoRod_init T) (hr.mono (by decide)) rfl (takes_of rfl rfl rfl rfl) rfl (pa_cons (pv 2) pa_nil))) pss_nil)))
      (pss_cons (ps_for (passes_of rfl) rfl (pi_list (pe_callB (call_sortedDI rfl) (by rfl) T.z_sorted (by decide +kernel) (pa_cons (pv 1) pa_nil))) (pg_name (i := 2) sc_check_rods.nd rfl (Or.inl rfl)) (pss_one (ps_if (pt_not (pt_chain op_le op_le (pe_un un_neg (pe_glob (v := .int 1000000) rfl T.m_MOST_HEIGHT ⟨_, rfl⟩)) (pe_dget (hu_of hr) (pv 1) (pv 2) (fun _ _ => rfl)) (pe_glob (v := .int 1000000) rfl T.m_MOST_HEIGHT ⟨_, rfl⟩))) (pss_one (ps_raiseX T.X_BadCount (ok_BadCount_init T) (hr.mono (by decide)) rfl (takes_of rfl rfl rfl rfl) rfl (pa_cons pe_str (pa_cons (pe_dget (hu_of hr) (pv 1) (pv 2) (fun _ _ => rfl)) pa_nil)))) pss_nil)))
      (pss_one (ps_if (pt_not (pt_truth (pv 1) (by intro _; rfl))) (pss_one (ps_raiseX T.X_BadCount (ok_BadCount_init T) (hr.mono (by decide)) rfl (takes_of rfl rfl rfl rfl) rfl (pa_cons pe_str (pa_cons pe_int pa_nil)))) pss_nil))))), ?_⟩
    have r0 : ¬ (3 ≤ n ∧ n ≤ 10) → ∀ d, H d = none → E (.ref T.C_BadCount) (some d) (upd H d (.xd (fo2 "what" "count" [V.str "rods", V.int n]))) := fun z d hd =>
      kE (.cnt "rods" n) (by unfold ckRods; exact if_pos z) d _ (Ext.upd hd) hd upd_same
    refine ⟨_, rfl, _, _, rfl, rfl, _, rfl, ite2 (fun c0 => ?_) (fun c0 => ?_)⟩
    · refine ⟨_, _, rfl, rfl, _, rfl, ite2 (fun c1 => ?_) (fun c1 => ?_)⟩
      · refine ⟨_, rfl, rz_ok (n := 2) rfl (by decide) (r0 fun z => ?_)⟩
        rw [decide_eq_true z.2] at c1
        cases c1
      have ok0 : 3 ≤ n ∧ n ≤ 10 := ⟨of_decide_eq_true c0, Classical.byContradiction fun z => c1 (by rw [decide_eq_false z]; rfl)⟩
      have hkk : (hK hl).map (·.1) = (hl.map (·.1)).map Sum.inl := by
        unfold hK
        rw [List.map_map, List.map_map]
        rfl
      refine ⟨_, rfl, hd, _, _, rfl, .inl hhd, hkk, by rw [List.length_map]; exact h64, fun ys p hp hs hpn => ?_⟩
      cases srt_eq hp hs
      have e1 : Ext H (upd H p (.lst ((srtI (hl.map (·.1))).map V.int))) := Ext.upd hpn
      have hp1 : (upd H p (.lst ((srtI (hl.map (·.1))).map V.int))) p = some (.lst ((srtI (hl.map (·.1))).map V.int)) := upd_same
      generalize upd H p (.lst ((srtI (hl.map (·.1))).map V.int)) = H1 at e1 hp1 ⊢
      refine ⟨p, rfl, ⟨_, SqL.of hp1⟩, for_list (K := K) (a := p) (xs := (srtI (hl.map (·.1))).map V.int) (fun i σ H' => Ext H1 H' ∧ (∀ (j : Nat) (x : Int), j < i → (srtI (hl.map (·.1)))[j]? = some x → offRod n x = false) ∧ ∃ v2 : Option V, σ = [some (.int n), some (.ref hd), v2])
        ⟨Ext.rfl', fun j x hj => absurd hj (Nat.not_lt_zero _), none, rfl⟩ (fun i σ H' _ p => (SqL.of hp1).ext p.1) ?_ ?_⟩
      · rintro i y σ H2 hi ⟨e2, hno, v2, rfl⟩
        obtain ⟨r, hr', rfl⟩ : ∃ r, (srtI (hl.map (·.1)))[i]? = some r ∧ y = V.int r := by
          rw [List.getElem?_map] at hi
          cases e : (srtI (hl.map (·.1)))[i]? with
          | none => rw [e] at hi; cases hi
          | some n => rw [e] at hi; exact ⟨n, rfl, (Option.some.inj hi).symm⟩
        have rz : offRod n r = true → ∀ d, H2 d = none → E (.ref T.C_NoRod) (some d) (upd H2 d (.xd (fo1 "rod" [V.int r]))) := fun ho d hd =>
          kE (.rod r) (by unfold ckRods; rw [if_neg (fun y => y ok0), find_at hno hr' ho]) d _ ((e1.trans e2).trans (Ext.upd hd)) ((e1.trans e2).fresh hd) upd_same
        refine ⟨_, rfl, _, _, rfl, rfl, _, rfl, ite2 (fun c2 => ?_) (fun c2 => ?_)⟩
        · refine ⟨_, rfl, _, _, rfl, rfl, _, rfl, ite2 (fun c3 => ?_) (fun c3 => ?_)⟩
          · refine ⟨_, rfl, rz_ok (n := 1) rfl (by decide) (rz ?_)⟩
            unfold offRod
            rw [c2, Bool.true_and]
            exact c3
          · refine ⟨e2, fun j x hj hx => ?_, _, rfl⟩
            by_cases hji : j = i
            · subst hji
              rw [hr'] at hx
              cases hx
              unfold offRod
              rw [c2, Bool.true_and]
              exact Bool.eq_false_iff.mpr c3
            · exact hno j x (by omega) hx
        · refine ⟨_, rfl, ite2 (fun c3 => ?_) (fun c3 => absurd rfl c3)⟩
          refine ⟨_, rfl, rz_ok (n := 1) rfl (by decide) (rz ?_)⟩
          unfold offRod
          rw [Bool.eq_false_iff.mpr c2]
          rfl
      · rintro σ H2 ⟨e2, hno, v2, rfl⟩
        have hnone : (srtI (hl.map (·.1))).find? (offRod n) = none := find_no fun j x hx => hno j x (by
          rw [List.length_map]
          exact (List.getElem?_eq_some_iff.mp hx).1) hx
        have e02 := e1.trans e2
        clear e2 e1 hp1 hno hp hs hpn
        refine ⟨_, rfl, hd, _, _, rfl, .inl (e02 _ _ hhd), hkk, by rw [List.length_map]; exact h64, fun ys p2 hp hs hpn => ?_⟩
        cases srt_eq hp hs
        have e23 : Ext H2 (upd H2 p2 (.lst ((srtI (hl.map (·.1))).map V.int))) := Ext.upd hpn
        have hp1 : (upd H2 p2 (.lst ((srtI (hl.map (·.1))).map V.int))) p2 = some (.lst ((srtI (hl.map (·.1))).map V.int)) := upd_same
        generalize upd H2 p2 (.lst ((srtI (hl.map (·.1))).map V.int)) = H3 at e23 hp1 ⊢
        have e03 := e02.trans e23
        refine ⟨p2, rfl, ⟨_, SqL.of hp1⟩, for_list (K := K) (a := p2) (xs := (srtI (hl.map (·.1))).map V.int) (fun i σ H' => Ext H3 H' ∧ (∀ (j : Nat) (x : Int), j < i → (srtI (hl.map (·.1)))[j]? = some x → farH hl x = false) ∧ ∃ v2 : Option V, σ = [some (.int n), some (.ref hd), v2])
          ⟨Ext.rfl', fun j x hj => absurd hj (Nat.not_lt_zero _), _, rfl⟩ (fun i σ H' _ p => (SqL.of hp1).ext p.1) ?_ ?_⟩
        · rintro i y σ H4 hi ⟨e4, hno, v2, rfl⟩
          obtain ⟨r, hr', rfl⟩ : ∃ r, (srtI (hl.map (·.1)))[i]? = some r ∧ y = V.int r := by
            rw [List.getElem?_map] at hi
            cases e : (srtI (hl.map (·.1)))[i]? with
            | none => rw [e] at hi; cases hi
            | some n => rw [e] at hi; exact ⟨n, rfl, (Option.some.inj hi).symm⟩
          have hmem : r ∈ hl.map (·.1) := (srtI_perm _).mem_iff.mp (List.mem_of_getElem? hr')
          have e04 := e03.trans e4
          have hv : DGet H4 hd (V.int r) (some (V.int (lookI hl r))) := by
            rw [← val_hK hmem]
            exact DGet.k (k := Sum.inl r) (e04 _ _ hhd)
          have rz : farH hl r = true → ∀ d, H4 d = none → E (.ref T.C_BadCount) (some d) (upd H4 d (.xd (fo2 "what" "count" [V.str "height", V.int (lookI hl r)]))) := fun ho d hd =>
            kE (.cnt "height" (lookI hl r)) (by
              unfold ckRods
              rw [if_neg (fun y => y ok0), hnone]
              dsimp only
              rw [find_at hno hr' ho]) d _ (e04.trans (Ext.upd hd)) (e04.fresh hd) upd_same
          refine ⟨_, rfl, _, rfl, _, rfl, hd, _, rfl, hv, _, _, rfl, rfl, _, rfl, ite2 (fun c2 => ?_) (fun c2 => ?_)⟩
          · refine ⟨_, _, rfl, rfl, _, rfl, ite2 (fun c3 => ?_) (fun c3 => ?_)⟩
            · refine ⟨_, rfl, _, rfl, hd, _, rfl, hv, rz_ok (n := 2) rfl (by decide) (rz ?_)⟩
              unfold farH
              rw [c2, Bool.true_and]
              exact c3
            · refine ⟨e4, fun j x hj hx => ?_, _, rfl⟩
              by_cases hji : j = i
              · subst hji
                rw [hr'] at hx
                cases hx
                unfold farH
                rw [c2, Bool.true_and]
                exact Bool.eq_false_iff.mpr c3
              · exact hno j x (by omega) hx
          · refine ⟨_, rfl, ite2 (fun c3 => ?_) (fun c3 => absurd rfl c3)⟩
            refine ⟨_, rfl, _, rfl, hd, _, rfl, hv, rz_ok (n := 2) rfl (by decide) (rz ?_)⟩
            unfold farH
            rw [Bool.eq_false_iff.mpr c2]
            rfl
        · rintro σ H4 ⟨e4, hno, v2, rfl⟩
          have hnone2 : (srtI (hl.map (·.1))).find? (farH hl) = none := find_no fun j x hx => hno j x (by
            rw [List.length_map]
            exact (List.getElem?_eq_some_iff.mp hx).1) hx
          have e04 := e03.trans e4
          have hck : ckRods n hl = if hl = [] then some (.cnt "held" 0) else none := by
            unfold ckRods
            rw [if_neg (fun y => y ok0), hnone]
            dsimp only
            rw [hnone2]
          refine ⟨_, rfl, _, .inr (.inr ⟨_, e04 _ _ hhd, rfl⟩), ?_⟩
          cases hl with
          | nil =>
            refine iteT (rz_ok (n := 2) rfl (by decide) fun d hd => ?_)
            exact kE (.cnt "held" 0) (by rw [hck]; rfl) d _ (e04.trans (Ext.upd hd)) (e04.fresh hd) upd_same
          | cons x l => exact iteF (kQ (by rw [hck]; exact if_neg (fun z => by cases z)) _ e04)
    · exact ⟨_, rfl, iteT ⟨_, rfl, rz_ok (n := 2) rfl (by decide) (r0 fun z => c0 (decide_eq_true z.1))⟩⟩
end
end K06

namespace K06
open PySem L2
section
variable {P : Program} {w : World} {K : PySem.W.Frag} {mg : Str → Option Value} {base : Heap}
def normH (hl : List (Int × Int)) : List (Int × Int) := (srtI (hl.map (·.1))).map fun r => (r, lookI hl r)
abbrev wbF : List Str := ["rods", "bars", "_held"]
def hdD (hl : List (Int × Int)) : Dt := .dic (hl.map fun p => Sum.inl p.1) (hl.map fun p => Dt.int p.2)
def wbT (CB : Addr) (n : Int) (bs : List BarD) (hl : List (Int × Int)) : List Dt := [.int n, .tup (bs.map (brD CB)), hdD hl]
def wbD (C CB : Addr) (n : Int) (bs : List BarD) (hl : List (Int × Int)) : Dt := .ins C wbF (wbT CB n bs hl)
theorem hd_is {H : Hp} {a : Addr} {hl : List (Int × Int)} (h : H a = some (.dK (hK hl))) : Is K H (hdD hl) (.ref a) := by
  refine ⟨a, hK hl, rfl, h, by unfold hK; rw [List.map_map]; rfl, ?_⟩
  unfold hK
  rw [List.map_map]
  have z := isL_ints (K := K) (H := H) (hl.map (·.2))
  rw [List.map_map, List.map_map] at z
  exact z
theorem hd_of : ∀ {hl : List (Int × Int)} {kvs : List (Key × V)}, kvs.map (·.1) = (hl.map fun p => (Sum.inl p.1 : Key)) → kvs.map (·.2) = hl.map (fun p => V.int p.2) → kvs = hK hl
  | [], [], _, _ => rfl
  | [], _ :: _, h, _ => by cases h
  | _ :: _, [], h, _ => by cases h
  | p :: hl, (k, v) :: kvs, h1, h2 => by
    rw [List.map_cons, List.map_cons] at h1 h2
    injection h1 with a1 a2
    injection h2 with b1 b2
    show _ = (Sum.inl p.1, V.int p.2) :: hK hl
    rw [← hd_of a2 b2]
    cases (show k = _ from a1)
    cases (show v = _ from b1)
    rfl
theorem wb_fields {C CB : Addr} {H : Hp} {n : Int} {bs : List BarD} {hl : List (Int × Int)} {v : V} (i : Is K H (wbD C CB n bs hl) v) :
    ∃ (a dx t d : Addr) (ws : List V), v = .ref a ∧ H a = some (.ins C dx [("rods", .int n), ("bars", .ref t), ("_held", .ref d)]) ∧ SqT K H t ws ∧ IsL K H (bs.map (brD CB)) ws ∧ H d = some (.dK (hK hl)) := by
  obtain ⟨a, dx, kvs, rfl, ha, ek, h⟩ := i
  obtain ⟨v1, r1, e1, f1, v2, r2, e2, ⟨t, ws, g1, g2, g3⟩, v3, r3, e3, ⟨d, qs, k1, k2, k3, k4⟩, e4⟩ := h
  subst e4 e3 e2
  cases (show v1 = _ from f1)
  subst g1 k1
  have hq : qs = hK hl := hd_of k3 (by
    have z : IsL K H ((hl.map (·.2)).map Dt.int) (qs.map (·.2)) := by rw [List.map_map]; exact k4
    rw [of_isL_ints z, List.map_map]
    rfl)
  subst hq
  match kvs, ek, e1 with
  | [(x1, y1), (x2, y2), (x3, y3)], ek, e1 =>
    simp only [List.map_cons, List.map_nil] at ek e1
    injection ek with g1 ek
    injection ek with g2' ek
    injection ek with g3' _
    injection e1 with h1 e1
    injection e1 with h2 e1
    injection e1 with h3 _
    subst g1 g2' g3' h1 h2 h3
    exact ⟨a, dx, t, d, ws, rfl, ha, g2, g3, k2⟩
theorem wb_is {C CB a dx t d : Addr} {H : Hp} {n : Int} {bs : List BarD} {hl : List (Int × Int)} {ws : List V} (h : H a = some (.ins C dx [("rods", .int n), ("bars", .ref t), ("_held", .ref d)])) (ht : SqT K H t ws) (hb : IsL K H (bs.map (brD CB)) ws) (hd : H d = some (.dK (hK hl))) :
    Is K H (wbD C CB n bs hl) (.ref a) := ⟨a, dx, _, rfl, h, rfl, _, _, rfl, rfl, _, _, rfl, ⟨t, ws, rfl, ht, hb⟩, _, _, rfl, hd_is hd, rfl⟩
def ckWeb (n : Int) (hl : List (Int × Int)) (bs : List BarD) : Option Rf :=
  match ckRods n hl with
  | some r => some r
  | none => ckBars n hl.length bs
def spWeb (K : PySem.W.Frag) (T : Tx K mg) : Sp := fun vs H Q E => ∃ (H0 : Hp) (x dx : Addr) (n : Int) (hd bl : Addr) (hl : List (Int × Int)) (bs : List BarD) (ws : List V), vs = [.ref x, .int n, .ref hd, .ref bl] ∧ H0 x = none ∧ H0 dx = none ∧ dx ≠ x ∧ H = upd (upd H0 dx (.own x)) x (.ins T.C_Web dx []) ∧
  H0 hd = some (.dK (hK hl)) ∧ (hl.map (·.1)).Nodup ∧ hl.length < 64 ∧ SqQ K H0 bl ws ∧ IsL K H0 (bs.map (brD T.C_Bar)) ws ∧
  (∀ r, ckWeb n hl bs = some r → r.E T E H0) ∧ (ckWeb n hl bs = none → ∀ H', Ext H0 H' → Is K H' (wbD T.C_Web T.C_Bar n bs (normH hl)) (.ref x) → (∀ a kvs, H0 a = some (.dK kvs) → Is K (del H' a) (wbD T.C_Web T.C_Bar n bs (normH hl)) (.ref x)) → Q .non H')
theorem put_new {kvs : List (Key × V)} {k : Key} {v : V} (h : k ∉ kvs.map (·.1)) : putK kvs k v = kvs ++ [(k, v)] := by
  unfold putK
  rw [if_neg]
  intro z
  obtain ⟨p, hp, e⟩ := List.any_eq_true.mp z
  exact h (List.mem_map.mpr ⟨p, hp, of_decide_eq_true e⟩)
theorem dc_list {a : Addr} {xs : List V} {g : TG} {tt : TT} {tk tv : TE} {vs : List Nat} {σ : St} {H1 : Hp} {D : Addr} {Qd : Hp → Prop} (Pv : Nat → Hp → Prop) (h0 : Pv 0 (upd H1 D (.dK []))) (hl : ∀ i H, i ≤ xs.length → Pv i H → SqL K H a xs)
    (hs : ∀ i x H, xs[i]? = some x → Pv i H → g x (wipe σ vs) H fun σ2 H2 => wipe σ2 vs = wipe σ vs ∧ tt σ2 H2 fun b H3 =>
      if b = true then tk σ2 H3 fun y H4 => tv σ2 H4 fun z H5 => ∃ kvs k, y = kV k ∧ H5 D = some (.dK kvs) ∧ kvs.length < sizeLine ∧ Pv (i + 1) (upd H5 D (.dK (putK kvs k z))) else Pv (i + 1) H3) (hd : ∀ H, Pv xs.length H → Qd H) :
    ∃ W : Nat → Nat → Hp → Prop, (∃ m, W 0 m (upd H1 D (.dK []))) ∧ ∀ i m H, W i m H →
      ((Itl K a).stop i H ∧ Qd H) ∨ ((Itl K a).go i H ∧ ∃ Nx : Hp → Prop, (∀ H', Nx H' → ∃ m', m' < m ∧ W (i + 1) m' H') ∧ ∀ x H', (Itl K a).yld i H x H' → g x (wipe σ vs) H' fun σ2 H2 => wipe σ2 vs = wipe σ vs ∧ tt σ2 H2 fun b H3 =>
        if b = true then tk σ2 H3 fun y H4 => tv σ2 H4 fun z H5 => ∃ kvs k, y = kV k ∧ H5 D = some (.dK kvs) ∧ kvs.length < sizeLine ∧ Nx (upd H5 D (.dK (putK kvs k z))) else Nx H3) := by
  refine ⟨fun i m H => m = xs.length - i ∧ i ≤ xs.length ∧ Pv i H, ⟨xs.length, by simp, Nat.zero_le _, h0⟩, ?_⟩
  rintro i m H ⟨rfl, hi, p⟩
  have q := hl i H hi p
  by_cases hlt : i < xs.length
  · refine .inr ⟨⟨xs, xs[i], q, by simp [hlt]⟩, Pv (i + 1), fun H' p' => ⟨xs.length - (i + 1), by omega, rfl, hlt, p'⟩, fun x H' y => ?_⟩
    obtain ⟨e, y⟩ := y
    subst e
    exact hs i x _ (y xs q) p
  · have e : i = xs.length := by omega
    subst e
    exact .inl ⟨⟨xs, q, Nat.le_refl _⟩, hd H p⟩
theorem Ext.dele {H0 H5 : Hp} {x : Addr} (e : Ext H0 H5) (h : H0 x = none) : Ext H0 (del H5 x) := fun a o ha => by
  have hne : a ≠ x := fun z => by rw [z, h] at ha; cases ha
  rw [del_ne hne]
  exact e a o ha
theorem SqT.de' {H : Hp} {w a : Addr} {xs : List V} (h : SqT K (del H w) a xs) : SqT K H a xs := h.ext del_ext
theorem sqT_del {H : Hp} {t a : Addr} {xs : List V} {kvs : List (Key × V)} (s : SqT K H t xs) (h : H a = some (.dK kvs)) : SqT K (del H a) t xs := by
  rcases s with (r | ⟨b, r⟩) | r
  · exact .inl (.inl (by rw [del_ne (fun e => by rw [e, h] at r; cases r)]; exact r))
  · exact .inl (.inr ⟨b, by rw [del_ne (fun e => by rw [e, h] at r; cases r)]; exact r⟩)
  · exact .inr r
theorem brL_del {C : Addr} {H : Hp} {a : Addr} {kvs : List (Key × V)} (h : H a = some (.dK kvs)) : ∀ {bs : List BarD} {vs : List V}, IsL K H (bs.map (brD C)) vs → IsL K (del H a) (bs.map (brD C)) vs
  | [], _, e => e
  | b :: bs, _, ⟨v, r, e, i, il⟩ => by
    obtain ⟨x, dx, rfl, hx⟩ := br_fields i
    exact ⟨_, r, e, br_is (dx := dx) (by rw [del_ne (fun e => by rw [e, h] at hx; cases hx)]; exact hx), brL_del h il⟩
theorem ok_Web_init (T : Tx K mg) : FnOk P w K mg base (L2.CX P w) 8 T.a_Web_init T.fd_Web_init ["self", "rods", "held", "bars"] (spWeb K T) := by
  refine T.F_Web_init.okX sc_Web_init (fun vs H Q E h => ?_) (fun cdv A outer s H vs Q E hr h => ?_)
  · obtain ⟨H0, x, dx, n, hd, bl, hl, bs, ws, rfl, _⟩ := h
    rfl
  · obtain ⟨H0, x, dx, n, hd, bl, hl, bs, ws, rfl, hx, hdx, hne, rfl, hhd, hnd, h64, hbl, hbs, kE, kQ⟩ := h
    refine ⟨_, (pss_cons (ps_expr (pe_call (ok_check_rods T) (hr.mono (by decide)) rfl T.m_check_rods T.F_check_rods.kp T.b_check_rods .nil (passes_call (takes_of rfl rfl rfl rfl) (fun _ _ _ _ h => h)) (pa_cons (pv 1) (pa_cons (pv 2) pa_nil))))
      (pss_cons (ps_expr (pe_call (ok_check_bars T) (hr.mono (by decide)) rfl T.m_check_bars T.F_check_bars.kp T.b_check_bars .nil (passes_call (takes_of rfl rfl rfl rfl) (fun _ _ _ _ h => h)) (pa_cons (pv 1) (pa_cons (pv 2) (pa_cons (pv 3) pa_nil)))))
      (pss_cons (ps_fld (pv 0) (pv 1) rfl)
      (pss_cons (ps_fld (pv 0) (pe_callTy call_tuple_of (by rfl) T.z_tuple (by decide +kernel) (pa_cons (pv 3) pa_nil)) rfl)
      (pss_one (ps_fld (pv 0) (pe_dc (own := [("rod", 4)]) (g := gName 4) (tt := tYes) rfl sc_Web_init.nd (pi_list (pe_callB (call_sortedDI rfl) (by rfl) T.z_sorted (by decide +kernel) (pa_cons (pv 2) pa_nil))) (blkOk_by (own := [("rod", 4)]) (N := N_Web_init) (sc := defScope s_Web_init) (by decide +kernel)) (fun _ _ _ _ _ => pg_name (i := 4) sc_Web_init.nd rfl (Or.inl rfl)) (fun _ _ _ _ _ => pts_nil) (fun _ _ _ _ _ => pv 4) (fun _ _ _ _ _ => pe_dget (hu_of hr) (pv 2) (pv 4) (fun _ _ => rfl))) rfl)))))), ?_⟩
    have eH : Ext H0 (upd (upd H0 dx (.own x)) x (.ins T.C_Web dx [])) := (Ext.upd hdx).mut hx
    have hxi : (upd (upd H0 dx (.own x)) x (.ins T.C_Web dx [])) x = some (.ins T.C_Web dx []) := upd_same
    generalize upd (upd H0 dx (.own x)) x (.ins T.C_Web dx []) = H1 at eH hxi ⊢
    refine ⟨_, rfl, _, rfl, n, hd, hl, rfl, eH _ _ hhd, h64, fun r hr' => ?_, fun hc1 H2 e2 => ?_⟩
    · exact fun d H' e' hd0 hx' => kE r (by unfold ckWeb; rw [hr']) d H' (eH.trans e') (eH.fresh hd0) hx'
    have e02 := eH.trans e2
    refine ⟨_, rfl, _, rfl, _, rfl, n, hd, bl, hl, bs, ws, rfl, e02 _ _ hhd, hbl.ext e02, hbs.ext e02, fun r hr' => ?_, fun hc2 H3 e3 => ?_⟩
    · exact fun d H' e' hd0 hx' => kE r (by unfold ckWeb; rw [hc1]; exact hr') d H' (e02.trans e') (e02.fresh hd0) hx'
    have e03 := e02.trans e3
    have hx3 := e3 _ _ (e2 _ _ hxi)
    have hck : ckWeb n hl bs = none := by unfold ckWeb; rw [hc1]; exact hc2
    refine ⟨_, rfl, _, rfl, x, T.C_Web, dx, _, rfl, hx3, T.c_Web, T.nf_Web_rods, (by show 0 < 1000; decide), ?_⟩
    have e04 : Ext H0 (upd H3 x (.ins T.C_Web dx (putF "rods" (.int n) []))) := e03.mut hx
    have hx4 : (upd H3 x (.ins T.C_Web dx (putF "rods" (.int n) []))) x = some (.ins T.C_Web dx [("rods", .int n)]) := upd_same
    generalize upd H3 x (.ins T.C_Web dx (putF "rods" (.int n) [])) = H4 at e04 hx4 ⊢
    rcases hbl with hb | hb
    refine ⟨_, rfl, bl, ws, rfl, .inl ⟨hb.ext e04, fun t htn => ?_⟩⟩
    have e45 : Ext H4 (upd H4 t (.tup ws)) := Ext.upd htn
    have ht : SqT K (del (upd H4 t (.tup ws)) x) t ws := SqT.of (by rw [del_ne (ne_of_none hx4 htn).symm, upd_same])
    have hbs5 := hbs
    generalize upd H4 t (.tup ws) = H5 at e45 ht ⊢
    rotate_left
    refine ⟨_, rfl, bl, ws, rfl, .inr ⟨hb.ext e04, ?_⟩⟩
    obtain ⟨H5, e5⟩ : ∃ H5, H5 = H4 := ⟨_, rfl⟩
    rw [← e5]
    have e45 : Ext H4 H5 := e5 ▸ Ext.rfl'
    have ht : SqT K (del H5 x) bl ws := by rw [e5]; exact hb.ext (Ext.dele e04 hx)
    clear e5 hb
    have hbs5 := hbs
    revert ht
    generalize bl = t
    intro ht
    all_goals
      have hx5 := e45 _ _ hx4
      have e05 := e04.trans e45
      refine ⟨_, rfl, x, T.C_Web, dx, _, rfl, hx5, T.c_Web, T.nf_Web_bars, (by show 1 < 1000; decide), ?_⟩
      have e06 : Ext H0 (upd H5 x (.ins T.C_Web dx (putF "bars" (.ref t) [("rods", .int n)]))) := e05.mut hx
      have hx6 : (upd H5 x (.ins T.C_Web dx (putF "bars" (.ref t) [("rods", .int n)]))) x = some (.ins T.C_Web dx [("rods", .int n), ("bars", .ref t)]) := upd_same
      have d56 : DE x H5 (upd H5 x (.ins T.C_Web dx (putF "bars" (.ref t) [("rods", .int n)]))) := DE.upd
      generalize upd H5 x (.ins T.C_Web dx (putF "bars" (.ref t) [("rods", .int n)])) = H6 at e06 hx6 d56 ⊢
      have hkk : (hK hl).map (·.1) = (hl.map (·.1)).map Sum.inl := by
        unfold hK
        rw [List.map_map, List.map_map]
        rfl
      refine ⟨_, rfl, hd, _, _, rfl, .inl (e06 _ _ hhd), hkk, by rw [List.length_map]; exact h64, fun ys p hp hs hpn => ?_⟩
      cases srt_eq hp hs
      have hp7 : (upd H6 p (.lst ((srtI (hl.map (·.1))).map V.int))) p = some (.lst ((srtI (hl.map (·.1))).map V.int)) := upd_same
      have e67 : Ext H6 (upd H6 p (.lst ((srtI (hl.map (·.1))).map V.int))) := Ext.upd hpn
      generalize upd H6 p (.lst ((srtI (hl.map (·.1))).map V.int)) = H7 at hp7 e67 ⊢
      have e07 := e06.trans e67
      have hx7 := e67 _ _ hx6
      have d57 := d56.trans (DE.of e67)
      refine ⟨p, rfl, ⟨_, SqL.of hp7⟩, fun D hD => dc_list (K := K) (a := p) (xs := (srtI (hl.map (·.1))).map V.int) (fun i H' => Ext H7 H' ∧ H' D = some (.dK (hK (((srtI (hl.map (·.1))).take i).map fun r => (r, lookI hl r)))))
        ⟨Ext.upd hD, upd_same⟩ (fun i H' _ p => (SqL.of hp7).ext p.1) ?_ ?_⟩
      · rintro i y H8 hi ⟨e78, hD8⟩
        obtain ⟨r, hr', rfl⟩ : ∃ r, (srtI (hl.map (·.1)))[i]? = some r ∧ y = V.int r := by
          rw [List.getElem?_map] at hi
          cases e : (srtI (hl.map (·.1)))[i]? with
          | none => rw [e] at hi; cases hi
          | some n => rw [e] at hi; exact ⟨n, rfl, (Option.some.inj hi).symm⟩
        have hmem : r ∈ hl.map (·.1) := (srtI_perm _).mem_iff.mp (List.mem_of_getElem? hr')
        have hv : DGet H8 hd (V.int r) (some (V.int (lookI hl r))) := by
          rw [← val_hK hmem]
          exact DGet.k (k := Sum.inl r) ((e07.trans e78) _ _ hhd)
        have hnew : (Sum.inl r : Key) ∉ (hK (((srtI (hl.map (·.1))).take i).map fun r => (r, lookI hl r))).map (·.1) := by
          intro z
          unfold hK at z
          rw [List.map_map, List.map_map] at z
          obtain ⟨r', h1, h2⟩ := List.mem_map.mp z
          have e : r' = r := Sum.inl.inj h2
          subst e
          have hnd2 : (srtI (hl.map (·.1))).Nodup := (srtI_perm _).nodup_iff.mpr hnd
          obtain ⟨j, hj⟩ := List.getElem?_of_mem h1
          have hji : j < i := by
            have := (List.getElem?_eq_some_iff.mp hj).1
            rw [List.length_take] at this
            omega
          rw [List.getElem?_take_of_lt hji] at hj
          have hlt := (List.getElem?_eq_some_iff.mp hr').1
          have := (List.getElem?_inj (i := j) (j := i) (by omega) hnd2).mp (hj.trans hr'.symm)
          omega
        refine ⟨rfl, tyes ?_⟩
        refine ⟨_, rfl, _, rfl, _, rfl, hd, _, rfl, hv, _, Sum.inl r, rfl, hD8, ?_, e78.mut hD, ?_⟩
        · unfold hK
          rw [List.length_map, List.length_map, List.length_take]
          exact Nat.lt_of_lt_of_le (show min i (srtI (hl.map (·.1))).length < 100 by
            rw [(srtI_perm (hl.map (·.1))).length_eq, List.length_map]
            omega) (by decide)
        · rw [upd_same, put_new hnew, List.take_add_one, hr']
          unfold hK
          simp
      · rintro H8 ⟨e78, hD8⟩
        rw [List.length_map, List.take_length] at hD8
        have hx8 := e78 _ _ hx7
        refine ⟨_, rfl, x, T.C_Web, dx, _, rfl, hx8, T.c_Web, T.nf_Web_held, (by show 2 < 1000; decide), ?_⟩
        have d59 : DE x H5 (upd H8 x (.ins T.C_Web dx [("rods", .int n), ("bars", .ref t), ("_held", .ref D)])) := (d57.trans (DE.of e78)).trans DE.upd
        have e09 : Ext H0 (upd H8 x (.ins T.C_Web dx [("rods", .int n), ("bars", .ref t), ("_held", .ref D)])) := (e07.trans e78).mut hx
        have hDx : D ≠ x := (ne_of_none hx7 hD).symm
        have hD9 : (upd H8 x (.ins T.C_Web dx [("rods", .int n), ("bars", .ref t), ("_held", .ref D)])) D = some (.dK (hK (normH hl))) := by
          rw [upd_ne hDx]
          exact hD8
        have ht9 := SqT.de' (K := K) (ht.ext d59)
        refine kQ hck _ e09 (wb_is upd_same ht9 (hbs.ext e09) hD9) fun a kvs ha => ?_
        have ha9 := e09 _ _ ha
        refine wb_is (dx := dx) (t := t) (d := D) ?_ (sqT_del ht9 ha9) (brL_del ha9 (hbs.ext e09)) ?_
        · rw [del_ne (ne_of_none ha hx).symm, upd_same]
          rfl
        · rw [del_ne (ne_of_none (e07 _ _ ha) hD).symm]
          exact hD9
end
end K06

namespace K06
open PySem L2
section
variable {P : Program} {w : World} {K : PySem.W.Frag} {mg : Str → Option Value} {base : Heap}
def spHeld (K : PySem.W.Frag) (C CB : Addr) : Sp := fun vs H Q _ => ∃ (v : V) (n : Int) (bs : List BarD) (hl : List (Int × Int)), vs = [v] ∧ Is K H (wbD C CB n bs hl) v ∧ ∀ p, H p = none → Q (.ref p) (upd H p (.dK (hK hl)))
theorem ok_Web_held (T : Tx K mg) : FnOk P w K mg base (L2.CX P w) 2 T.a_Web_held T.fd_Web_held ["self"] (spHeld K T.C_Web T.C_Bar) := by
  refine T.F_Web_held.okX sc_Web_held (fun vs H Q E h => ?_) (fun cdv A outer s H vs Q E hr h => ?_)
  · obtain ⟨v, n, bs, hl, rfl, _⟩ := h
    rfl
  · obtain ⟨v, n, bs, hl, rfl, hw, k⟩ := h
    refine ⟨_, (pss_one (ps_ret (pe_callTy call_dictD (by rfl) T.z_dict (by decide +kernel) (pa_cons (pe_fld (pv 0) rfl) pa_nil)))), ?_⟩
    obtain ⟨a, dx, t, d, ws, rfl, ha, ht, hb, hd⟩ := wb_fields hw
    exact ⟨_, rfl, a, T.C_Web, dx, _, _, rfl, ha, T.c_Web, T.nf_Web_held, rfl, d, _, rfl, .inl hd, k⟩
def offK (hl : List (Int × Int)) (r : Int) : Bool := !((hl.map (·.1)).contains r)
def hangL (n : Int) (hl : List (Int × Int)) : List Int := (rangeI n.toNat).filter (offK hl)
theorem val_none : ∀ {hl : List (Int × Int)} {r : Int}, r ∉ hl.map (·.1) → valV (hK hl) (Sum.inl r) = none
  | [], _, _ => rfl
  | p :: hl, r, h => by
    have h1 : p.1 ≠ r := fun e => h (by rw [List.map_cons, e]; exact List.mem_cons_self)
    have h2 := val_none (hl := hl) (r := r) fun z => h (List.mem_cons_of_mem _ z)
    unfold valV hK at h2 ⊢
    rw [List.map_cons, List.find?_cons, decide_eq_false (fun z => h1 (Sum.inl.inj z))]
    exact h2
theorem val_some {hl : List (Int × Int)} {r : Int} : (valV (hK hl) (Sum.inl r)).isSome = (hl.map (·.1)).contains r := by
  by_cases h : r ∈ hl.map (·.1)
  · rw [val_hK h, List.contains_iff_mem.mpr h]
    rfl
  · rw [val_none h, Bool.eq_false_iff.mpr fun z => h (List.contains_iff_mem.mp z)]
    rfl
def spHanging (K : PySem.W.Frag) (C CB : Addr) : Sp := fun vs H Q _ => ∃ (v : V) (n : Int) (bs : List BarD) (hl : List (Int × Int)), vs = [v] ∧ Is K H (wbD C CB n bs hl) v ∧ 0 ≤ n ∧ n ≤ 1000 ∧ ∀ p H', H p = none → Ext H H' → H' p = some (.lst ((hangL n hl).map V.int)) → Q (.ref p) H'
theorem ok_Web_hanging (T : Tx K mg) : FnOk P w K mg base (L2.CX P w) 2 T.a_Web_hanging T.fd_Web_hanging ["self"] (spHanging K T.C_Web T.C_Bar) := by
  refine T.F_Web_hanging.okX sc_Web_hanging (fun vs H Q E h => ?_) (fun cdv A outer s H vs Q E hr h => ?_)
  · obtain ⟨v, n, bs, hl, rfl, _⟩ := h
    rfl
  · obtain ⟨v, n, bs, hl, rfl, hw, n0, n1, k⟩ := h
    refine ⟨_, (pss_one (ps_ret (pe_lc (own := [("rod", 1)]) (g := gName 1) (by rfl) sc_Web_hanging.nd (pi_range1 rfl T.z_range (pa_cons (pe_fld (pv 0) rfl) pa_nil)) (blkOk_by (own := [("rod", 1)]) (N := N_Web_hanging) (sc := defScope s_Web_hanging) (by decide +kernel)) (fun _ _ _ _ _ => (pg_name (i := 1) sc_Web_hanging.nd rfl (Or.inl rfl))) (fun _ _ _ _ _ => (pts_one (pt_cmp (h1 := rfl) (pc_dnotin (ty := tVar 1) (td := tFld K (tVar 0) "_held") (hu_of hr) (pv 1) (pe_fld (pv 0) rfl))))) (fun _ _ _ _ _ => (pv 1))))), ?_⟩
    obtain ⟨a, dx, t, d, ws, rfl, ha, ht, hb, hd⟩ := wb_fields hw
    refine ⟨_, rfl, a, T.C_Web, dx, _, _, rfl, ha, T.c_Web, T.nf_Web_rods, rfl, n, rfl, by omega, by omega, lc_rangeF (offK hl) (fun i => i) (by omega) (fun i hi H' e R N hR => ?_) (fun D H' hD e hD' => ?_)⟩
    · refine ⟨rfl, _, rfl, _, rfl, a, T.C_Web, dx, _, _, rfl, e _ _ ha, T.c_Web, T.nf_Web_held, rfl, d, _, rfl, DGet.k (k := Sum.inl (0 + (i : Nat) : Int)) (e _ _ hd), _, rfl, ?_⟩
      rw [val_some, Int.zero_add]
      by_cases hp : offK hl (i : Nat) = true
      · rw [if_pos hp] at hR
        unfold offK at hp
        rw [if_pos hp]
        exact ⟨_, rfl, hR⟩
      · rw [if_neg hp] at hR
        unfold offK at hp
        rw [if_neg hp]
        exact hR
    · refine k D H' hD e ?_
      rw [List.map_id'] at hD'
      exact hD'
/-! == -/
theorem br_deq {C : Addr} {x y : BarD} : deq (brD C x) (brD C y) = decide (x = y) := by
  obtain ⟨a, b, c, l, o, h⟩ := x
  obtain ⟨a', b', c', l', o', h'⟩ := y
  show (C == C && (a == a' && (b == b' && (c == c' && (l == l' && (o == o' && (h == h' && true))))))) = _
  rw [beq_self_eq_true, Bool.true_and, Bool.and_true, Bool.eq_iff_iff, decide_eq_true_iff]
  simp only [Bool.and_eq_true, beq_iff_eq, BarD.mk.injEq]
theorem ok_Bar_eq (T : Tx K mg) (shp : Addr → List Str → List Dt → Prop) (hsh : ∀ fs ds, shp T.C_Bar fs ds → ∃ b, fs = brF ∧ ds = brT b) (hmk : ∀ D fs ds, shp D fs ds → PySem.W.makesIn K D = true) (n : Nat) : FnOk P w K mg base CX0 (n + 1) T.a_Bar_eq T.fd_Bar_eq ["self", "other"] (spEqO K shp T.C_Bar) := by
  refine T.F_Bar_eq.ok sc_Bar_eq (fun vs H Q E h => ?_) (fun cdv A outer s H vs Q E hr h => ?_)
  · obtain ⟨a, y, fs, ds, e, rfl, _⟩ := h
    rfl
  · obtain ⟨a, y, fs, ds, e, rfl, hd, he, hs, oe, k⟩ := h
    obtain ⟨x, rfl, rfl⟩ := hsh _ _ hs
    refine ⟨_, (pss_one (ps_ret (pe_and (pe_cmpR op_is_ty (pe_callTy call_typeO (by rfl) T.z_type (by decide +kernel) (pa_cons (pv 0) pa_nil)) (pe_callTy call_typeO (by rfl) T.z_type (by decide +kernel) (pa_cons (pv 1) pa_nil)) (nomark _)) (pe_one (pe_and (pe_cmpR op_eq (pe_fld (pv 0) rfl) (pe_fld (pv 1) rfl) (nomark _)) (pe_and (pe_cmpR op_eq (pe_fld (pv 0) rfl) (pe_fld (pv 1) rfl) (nomark _)) (pe_and (pe_cmpR op_eq (pe_fld (pv 0) rfl) (pe_fld (pv 1) rfl) (nomark _)) (pe_and (pe_cmpR op_eq (pe_fld (pv 0) rfl) (pe_fld (pv 1) rfl) (nomark _)) (pe_and (pe_cmpR op_eq (pe_fld (pv 0) rfl) (pe_fld (pv 1) rfl) (nomark _)) (pe_one (pe_cmpR op_eq (pe_fld (pv 0) rfl) (pe_fld (pv 1) rfl) (nomark _)))))))))))), ?_⟩
    refine ⟨_, rfl, _, _, rfl, hd, ?_⟩
    refine ⟨_, rfl, _, e, rfl, he, ?_⟩
    have no : LxE.kd e ≠ 6 → ∃ Tn, tyD e = .ty Tn := fun h6 => by
      cases e <;> first | exact ⟨_, rfl⟩ | exact absurd rfl h6
    by_cases h6 : LxE.kd e = 6
    · cases e <;> first | (exfalso; simp [LxE.kd] at h6; done) | skip
      rename_i D fs es
      by_cases hD : D = T.C_Bar
      · subst hD
        obtain ⟨z, rfl, rfl⟩ := hsh _ _ (show shp _ _ _ from oe)
        refine ⟨_, rfl, .inr ⟨_, rfl, .inl rfl, ?_⟩⟩
        refine ⟨true, by simp, iteT ?_⟩
        obtain ⟨a', dx, ea, ha⟩ := br_fields (C := T.C_Bar) hd
        cases ea
        obtain ⟨b, dy, rfl, hb⟩ := br_fields (C := T.C_Bar) he
        have fin : ∀ c : Bool, decide (x = z) = c → Q (.bl c) H := fun c hc => by
          have q := k H Ext.rfl'
          rw [show deq (.ins T.C_Bar brF (brT x)) (.ins T.C_Bar brF (brT z)) = decide (x = z) from br_deq, hc] at q
          exact q
        have ne : ∀ {f : BarD → Int}, ¬ (decide (V.int (f x) = V.int (f z)) = true) → decide (x = z) = false := fun {f} c => decide_eq_false fun e => c (decide_eq_true (by rw [e]))
        refine ⟨_, rfl, a, T.C_Bar, dx, _, _, rfl, ha, T.c_Bar, T.nf_Bar_a, rfl, ?_⟩
        refine ⟨_, rfl, b, T.C_Bar, dy, _, _, rfl, hb, T.c_Bar, T.nf_Bar_a, rfl, rfl, _, rfl, ite2 (fun c1 => ?_) (fun c1 => fin _ (ne (f := BarD.a) c1))⟩
        refine ⟨_, rfl, a, T.C_Bar, dx, _, _, rfl, ha, T.c_Bar, T.nf_Bar_b, rfl, ?_⟩
        refine ⟨_, rfl, b, T.C_Bar, dy, _, _, rfl, hb, T.c_Bar, T.nf_Bar_b, rfl, rfl, _, rfl, ite2 (fun c2 => ?_) (fun c2 => fin _ (ne (f := BarD.b) c2))⟩
        refine ⟨_, rfl, a, T.C_Bar, dx, _, _, rfl, ha, T.c_Bar, T.nf_Bar_c, rfl, ?_⟩
        refine ⟨_, rfl, b, T.C_Bar, dy, _, _, rfl, hb, T.c_Bar, T.nf_Bar_c, rfl, rfl, _, rfl, ite2 (fun c3 => ?_) (fun c3 => fin _ (ne (f := BarD.c) c3))⟩
        refine ⟨_, rfl, a, T.C_Bar, dx, _, _, rfl, ha, T.c_Bar, T.nf_Bar_length, rfl, ?_⟩
        refine ⟨_, rfl, b, T.C_Bar, dy, _, _, rfl, hb, T.c_Bar, T.nf_Bar_length, rfl, rfl, _, rfl, ite2 (fun c4 => ?_) (fun c4 => fin _ (ne (f := BarD.len) c4))⟩
        refine ⟨_, rfl, a, T.C_Bar, dx, _, _, rfl, ha, T.c_Bar, T.nf_Bar_least, rfl, ?_⟩
        refine ⟨_, rfl, b, T.C_Bar, dy, _, _, rfl, hb, T.c_Bar, T.nf_Bar_least, rfl, rfl, _, rfl, ite2 (fun c5 => ?_) (fun c5 => fin _ (ne (f := BarD.lo) c5))⟩
        refine ⟨_, rfl, a, T.C_Bar, dx, _, _, rfl, ha, T.c_Bar, T.nf_Bar_greatest, rfl, ?_⟩
        refine ⟨_, rfl, b, T.C_Bar, dy, _, _, rfl, hb, T.c_Bar, T.nf_Bar_greatest, rfl, rfl, fin _ ?_⟩
        have f1 := V.int.inj (of_decide_eq_true c1)
        have f2 := V.int.inj (of_decide_eq_true c2)
        have f3 := V.int.inj (of_decide_eq_true c3)
        have f4 := V.int.inj (of_decide_eq_true c4)
        have f5 := V.int.inj (of_decide_eq_true c5)
        refine decide_eq_decide.mpr ⟨fun e => by rw [e], fun e => ?_⟩
        have f6 := V.int.inj e
        obtain ⟨a1, b1, c1', l1, o1, h1⟩ := x
        obtain ⟨a2, b2, c2', l2, o2, h2⟩ := z
        exact (BarD.mk.injEq ..).mpr ⟨f1, f2, f3, f4, f5, f6⟩
      · refine ⟨_, rfl, .inr ⟨_, rfl, .inr ⟨T.mk_Bar, hmk _ _ _ oe⟩, ?_⟩⟩
        refine ⟨false, by rw [decide_eq_false (fun z => hD z.symm)], iteF ?_⟩
        have z := k H Ext.rfl'
        rw [show deq (.ins T.C_Bar brF (brT x)) (.ins D fs es) = (T.C_Bar == D && deqL (brT x) es) from rfl, beq_eq_false_iff_ne.mpr (fun z => hD z.symm), Bool.false_and] at z
        exact z
    · obtain ⟨Tn, hTn⟩ := no h6
      rw [hTn]
      refine ⟨_, rfl, .inl ⟨Tn, rfl, ?_⟩⟩
      refine ⟨false, rfl, iteF ?_⟩
      have z := k H Ext.rfl'
      rw [LxE.deq_kd (fun z => h6 z.symm)] at z
      exact z
theorem hd_pure (hl : List (Int × Int)) : pureD (hdD hl) = true := by
  have z := pureL_ints (hl.map (·.2))
  rw [List.map_map] at z
  exact z
theorem hd_dep (hl : List (Int × Int)) : dep (hdD hl) ≤ 8 := by
  have z := depL_ints (hl.map (·.2))
  rw [List.map_map] at z
  show depL (hl.map fun p => Dt.int p.2) + 1 ≤ 8
  rw [show depL (hl.map fun p => Dt.int p.2) = 0 from z]
  decide
def shB (C : Addr) : Addr → List Str → List Dt → Prop := fun D fs ds => D = C ∧ ∃ b, fs = brF ∧ ds = brT b
def shA (C CB : Addr) : Addr → List Str → List Dt → Prop := fun D fs ds => (D = CB ∧ ∃ b, fs = brF ∧ ds = brT b) ∨ (D = C ∧ ∃ n bs hl, fs = wbF ∧ ds = wbT CB n bs hl)
theorem tabB (T : Tx K mg) (n : Nat) : EqTab P w K mg base (n + 1) (shB T.C_Bar) := ⟨fun C fs ds h => by
  obtain ⟨rfl, _⟩ := h
  exact ⟨⟨T.a_Bar_eq, T.fd_Bar_eq, ok_Bar_eq T (shB T.C_Bar) (fun fs ds h => h.2) (fun D fs ds h => h.1 ▸ T.mk_Bar) n, T.M_Bar_eq.at_, T.M_Bar_eq.fn, T.b_Bar_eq⟩, T.ef_Bar⟩, fun C fs ds C' fs' ds' h h' => by
  obtain ⟨rfl, _⟩ := h
  obtain ⟨rfl, _⟩ := h'
  exact T.nfst_Bar_Bar⟩
theorem bars_okB {C : Addr} : ∀ bs : List BarD, okL (shB C) (bs.map (brD C))
  | [] => trivial
  | b :: bs => ⟨⟨rfl, b, rfl, rfl⟩, bars_okB bs⟩
theorem bars_okA {C CB : Addr} : ∀ bs : List BarD, okL (shA C CB) (bs.map (brD CB))
  | [] => trivial
  | b :: bs => ⟨.inl ⟨rfl, b, rfl, rfl⟩, bars_okA bs⟩
theorem bars_dep {C : Addr} : ∀ bs : List BarD, depL (bs.map (brD C)) ≤ 1
  | [] => Nat.zero_le _
  | b :: bs => by
    show max 1 (depL (bs.map (brD C))) ≤ 1
    exact Nat.max_le.mpr ⟨Nat.le_refl _, bars_dep bs⟩
theorem bars_deq {C : Addr} : ∀ xs ys : List BarD, deqL (xs.map (brD C)) (ys.map (brD C)) = decide (xs = ys)
  | [], [] => rfl
  | [], _ :: _ => rfl
  | _ :: _, [] => rfl
  | a :: r, b :: q => by
    show (deq (brD C a) (brD C b) && deqL (r.map (brD C)) (q.map (brD C))) = decide (a :: r = b :: q)
    rw [bars_deq r q, br_deq, Bool.eq_iff_iff]
    simp
theorem ok_Web_eq (T : Tx K mg) : FnOk P w K mg base CX0 14 T.a_Web_eq T.fd_Web_eq ["self", "other"] (spEqO K (shA T.C_Web T.C_Bar) T.C_Web) := by
  refine T.F_Web_eq.ok sc_Web_eq (fun vs H Q E h => ?_) (fun cdv A outer s H vs Q E hr h => ?_)
  · obtain ⟨a, y, fs, ds, e, rfl, _⟩ := h
    rfl
  · obtain ⟨a, y, fs, ds, e, rfl, hd, he, hs, oe, k⟩ := h
    obtain ⟨z, _⟩ | ⟨_, n, bs, hl, rfl, rfl⟩ := hs
    · exact absurd z.symm T.dc_Bar_Web
    refine ⟨_, (pss_one (ps_ret (pe_and (pe_cmpR op_is_ty (pe_callTy call_typeO (by rfl) T.z_type (by decide +kernel) (pa_cons (pv 0) pa_nil)) (pe_callTy call_typeO (by rfl) T.z_type (by decide +kernel) (pa_cons (pv 1) pa_nil)) (nomark _)) (pe_one (pe_and (pe_cmpR op_eq (pe_fld (pv 0) rfl) (pe_fld (pv 1) rfl) (nomark _)) (pe_and (pe_cmpR (op_eqO pureTab hr (by decide)) (pe_fld (pv 0) rfl) (pe_fld (pv 1) rfl) (nomark _)) (pe_one (pe_cmpR (op_eqO (tabB T 3) hr (by decide)) (pe_fld (pv 0) rfl) (pe_fld (pv 1) rfl) (nomark _))))))))), ?_⟩
    refine ⟨_, rfl, _, _, rfl, hd, ?_⟩
    refine ⟨_, rfl, _, e, rfl, he, ?_⟩
    have no : LxE.kd e ≠ 6 → ∃ Tn, tyD e = .ty Tn := fun h6 => by
      cases e <;> first | exact ⟨_, rfl⟩ | exact absurd rfl h6
    by_cases h6 : LxE.kd e = 6
    · cases e <;> first | (exfalso; simp [LxE.kd] at h6; done) | skip
      rename_i D fs es
      obtain ⟨rfl, b, rfl, rfl⟩ | ⟨rfl, n', bs', hl', rfl, rfl⟩ := (show shA _ _ _ _ _ from oe)
      · refine ⟨_, rfl, .inr ⟨_, rfl, .inr ⟨T.mk_Web, T.mk_Bar⟩, ?_⟩⟩
        refine ⟨false, by rw [decide_eq_false (fun z => T.dc_Bar_Web z.symm)], iteF ?_⟩
        have z := k H Ext.rfl'
        rw [show deq (.ins T.C_Web wbF (wbT T.C_Bar n bs hl)) (.ins T.C_Bar brF (brT b)) = (T.C_Web == T.C_Bar && deqL (wbT T.C_Bar n bs hl) (brT b)) from rfl, beq_eq_false_iff_ne.mpr (fun z => T.dc_Bar_Web z.symm), Bool.false_and] at z
        exact z
      · refine ⟨_, rfl, .inr ⟨_, rfl, .inl rfl, ?_⟩⟩
        refine ⟨true, by simp, iteT ?_⟩
        obtain ⟨a', dx, t, d, ws, ea, ha, ht, hb, hhd⟩ := wb_fields (C := T.C_Web) hd
        cases ea
        obtain ⟨a2, dx2, t2, d2, ws2, rfl, ha2, ht2, hb2, hhd2⟩ := wb_fields (C := T.C_Web) he
        have dq : deq (.ins T.C_Web wbF (wbT T.C_Bar n bs hl)) (.ins T.C_Web wbF (wbT T.C_Bar n' bs' hl')) = (n == n' && (decide (bs = bs') && deq (hdD hl) (hdD hl'))) := by
          show (T.C_Web == T.C_Web && (n == n' && (deqL (bs.map (brD T.C_Bar)) (bs'.map (brD T.C_Bar)) && (deq (hdD hl) (hdD hl') && true)))) = _
          rw [beq_self_eq_true, Bool.true_and, Bool.and_true, bars_deq]
        refine ⟨_, rfl, a, T.C_Web, dx, _, _, rfl, ha, T.c_Web, T.nf_Web_rods, rfl, ?_⟩
        refine ⟨_, rfl, a2, T.C_Web, dx2, _, _, rfl, ha2, T.c_Web, T.nf_Web_rods, rfl, rfl, _, rfl, ite2 (fun c1 => ?_) (fun c1 => ?_)⟩
        · refine ⟨_, rfl, a, T.C_Web, dx, _, _, rfl, ha, T.c_Web, T.nf_Web_held, rfl, ?_⟩
          refine ⟨_, rfl, a2, T.C_Web, dx2, _, _, rfl, ha2, T.c_Web, T.nf_Web_held, rfl, hdD hl, hdD hl', hd_is hhd, hd_is hhd2, okD_pure (hd_pure hl), okD_pure (hd_pure hl'), hd_dep hl, fun H1 e1 => ?_⟩
          refine ⟨_, rfl, ite2 (fun c2 => ?_) (fun c2 => ?_)⟩
          · refine ⟨_, rfl, a, T.C_Web, dx, _, _, rfl, e1 _ _ ha, T.c_Web, T.nf_Web_bars, rfl, ?_⟩
            refine ⟨_, rfl, a2, T.C_Web, dx2, _, _, rfl, e1 _ _ ha2, T.c_Web, T.nf_Web_bars, rfl, .tup (bs.map (brD T.C_Bar)), .tup (bs'.map (brD T.C_Bar)), ⟨t, ws, rfl, ht.ext e1, hb.ext e1⟩, ⟨t2, ws2, rfl, ht2.ext e1, hb2.ext e1⟩, bars_okB bs, bars_okB bs', Nat.succ_le_succ (Nat.le_trans (bars_dep bs) (by decide)), fun H2 e2 => ?_⟩
            have z := k H2 (e1.trans e2)
            rw [dq, c2, Bool.and_true, beq_iff_eq.mpr (V.int.inj (of_decide_eq_true c1)), Bool.true_and] at z
            rw [show deq (.tup (bs.map (brD T.C_Bar))) (.tup (bs'.map (brD T.C_Bar))) = deqL (bs.map (brD T.C_Bar)) (bs'.map (brD T.C_Bar)) from rfl, bars_deq]
            exact z
          · have z := k H1 e1
            rw [dq, Bool.eq_false_iff.mpr c2, Bool.and_false, Bool.and_false] at z
            exact z
        · have z := k H Ext.rfl'
          rw [dq, beq_eq_false_iff_ne.mpr (fun e => c1 (decide_eq_true (by rw [e]))), Bool.false_and] at z
          exact z
    · obtain ⟨Tn, hTn⟩ := no h6
      rw [hTn]
      refine ⟨_, rfl, .inl ⟨Tn, rfl, ?_⟩⟩
      refine ⟨false, rfl, iteF ?_⟩
      have z := k H Ext.rfl'
      rw [LxE.deq_kd (fun z => h6 z.symm)] at z
      exact z
theorem tabA (T : Tx K mg) : EqTab P w K mg base 14 (shA T.C_Web T.C_Bar) := ⟨fun C fs ds h => by
  obtain ⟨rfl, _⟩ | ⟨rfl, _⟩ := h
  · exact ⟨⟨T.a_Bar_eq, T.fd_Bar_eq, ok_Bar_eq T (shA T.C_Web T.C_Bar) (fun fs ds h => h.elim (fun h => h.2) fun h => absurd h.1 T.dc_Bar_Web) (fun D fs ds h => h.elim (fun h => h.1 ▸ T.mk_Bar) fun h => h.1 ▸ T.mk_Web) 13, T.M_Bar_eq.at_, T.M_Bar_eq.fn, T.b_Bar_eq⟩, T.ef_Bar⟩
  · exact ⟨⟨T.a_Web_eq, T.fd_Web_eq, ok_Web_eq T, T.M_Web_eq.at_, T.M_Web_eq.fn, T.b_Web_eq⟩, T.ef_Web⟩, fun C fs ds C' fs' ds' h h' => by
  obtain ⟨rfl, _⟩ | ⟨rfl, _⟩ := h
  · obtain ⟨rfl, _⟩ | ⟨rfl, _⟩ := h'
    · exact T.nfst_Bar_Bar
    · exact T.nfst_Bar_Web
  · obtain ⟨rfl, _⟩ | ⟨rfl, _⟩ := h'
    · exact T.nfst_Web_Bar
    · exact T.nfst_Web_Web⟩
theorem tabANe (T : Tx K mg) : ∀ C fs ds, shA T.C_Web T.C_Bar C fs ds → LxE.NeFacts K C := fun C fs ds h => by
  obtain ⟨rfl, _⟩ | ⟨rfl, _⟩ := h
  · exact T.ne_Bar
  · exact T.ne_Web
end
end K06

namespace K06
open PySem L2
section
variable {P : Program} {w : World} {K : PySem.W.Frag} {mg : Str → Option Value} {base : Heap}
def spWell : Sp := fun vs H Q _ => ∃ c : Int, vs = [.int c] ∧ ∀ p H', H p = none → Ext H H' → WellAt H' p → Q (.ref p) H'
theorem ok_l_well (T : Tx K mg) : FnOk P w K mg base (L2.CX P w) 1 T.a_l_well T.fd_l_well ["_law_cell"] spWell := by
  refine T.F_l_well.okX sc_l_well (fun vs H Q E h => ?_) (fun cdv A outer s H vs Q E hr h => ?_)
  · obtain ⟨c, rfl, _⟩ := h
    rfl
  · obtain ⟨c, rfl, k⟩ := h
    refine ⟨_, (pss_one (ps_ret (pe_lst (pa_cons (pe_callB call_abs (by rfl) T.z_abs (by decide +kernel) (pa_cons (pv 0) pa_nil)) (pa_cons (pe_op op_modN (pv 0) pe_int) (pa_cons pe_int pa_nil)))))), ?_⟩
    refine ⟨_, rfl, _, rfl, _, rfl, _, _, rfl, rfl, (show (2147483629 : Int) ≠ 0 by decide), (by show 3 ≤ sizeLine; decide), fun p hp => ?_⟩
    exact k p _ hp (Ext.upd hp) ⟨_, _, _, upd_same⟩
def spDraw : Sp := fun vs H Q _ => ∃ (p : Addr) (m : Int), vs = [.ref p, .int m] ∧ WellAt H p ∧ 0 < m ∧ m < 1073741824 ∧ ∀ (r : Int) (H' : Hp), DE p H H' → WellAt H' p → 0 ≤ r → r < m → Q (.int r) H'
theorem ok_l_draw (T : Tx K mg) : FnOk P w K mg base (L2.CX P w) 1 T.a_l_draw T.fd_l_draw ["_law_well_here", "_law_many"] spDraw := by
  refine T.F_l_draw.okX sc_l_draw (fun vs H Q E h => ?_) (fun cdv A outer s H vs Q E hr h => ?_)
  · obtain ⟨p, m, rfl, _⟩ := h
    rfl
  · obtain ⟨p, m, rfl, ⟨a, b, c, hw⟩, hm, hm2, k⟩ := h
    refine ⟨_, (pss_cons (ps_if (pt_cmpR op_ge (pe_ix ix_list (pv 0) pe_int (fun _ _ => rfl)) (pe_op op_pow pe_int pe_int) (nomark _)) (pss_cons (ps_set (i := 2) sc_l_draw.nd rfl (Or.inl rfl) (pe_op op_modN (pe_ix ix_list (pv 0) pe_int (fun _ _ => rfl)) (pv 1)))
      (pss_cons (ps_asg (pe_op op_fdivN (pe_ix ix_list (pv 0) pe_int (fun _ _ => rfl)) (pv 1)) (pg_sub (pv 0) pe_int set_list))
      (pss_one (ps_ret (pv 2))))) pss_nil)
      (pss_cons (ps_asg (pe_op op_add (pe_ix ix_list (pv 0) pe_int (fun _ _ => rfl)) pe_int) (pg_sub (pv 0) pe_int set_list))
      (pss_cons (ps_set (i := 3) sc_l_draw.nd rfl (Or.inl rfl) (pe_op op_modN (pe_op op_mul (pe_op op_add (pe_op op_add (pe_ix ix_list (pv 0) pe_int (fun _ _ => rfl)) (pe_op op_mul pe_int (pe_ix ix_list (pv 0) pe_int (fun _ _ => rfl)))) pe_int) pe_int) pe_int))
      (pss_cons (ps_set (i := 3) sc_l_draw.nd rfl (Or.inl rfl) (pe_op op_modN (pe_op op_mul (pv 3) (pe_op op_add (pe_op op_fdivN (pv 3) pe_int) pe_int)) pe_int))
      (pss_one (ps_ret (pe_op op_modN (pe_op op_modN (pe_op op_add (pe_op op_fdivN (pv 3) pe_int) (pe_op op_mul (pe_op op_modN (pv 3) pe_int) pe_int)) pe_int) (pv 1)))))))), ?_⟩
    have b0 : (0 : Int) < 10 ^ 18 := by decide
    refine ⟨_, rfl, p, _, _, _, rfl, rfl, SqL.of hw, at3a, _, _, rfl, rfl, cpow18, _, _, rfl, rfl, _, rfl, ?_⟩
    refine ite2 (fun _ => ?_) (fun _ => ?_)
    · refine ⟨_, rfl, p, _, _, _, rfl, rfl, SqL.of hw, at3a, _, rfl, _, _, rfl, rfl, (by omega), ?_⟩
      refine ⟨_, rfl, p, _, _, _, rfl, rfl, SqL.of hw, at3a, _, rfl, _, _, rfl, rfl, ⟨by omega, by omega⟩, ?_⟩
      refine ⟨_, rfl, p, _, _, 0, rfl, rfl, hw, rfl, ?_⟩
      refine ⟨_, rfl, ?_⟩
      have fb := fmod_bounds (a := a) hm
      exact k _ _ DE.upd ⟨_, _, _, upd_same⟩ fb.1 fb.2
    · refine ⟨_, rfl, p, _, _, _, rfl, rfl, SqL.of hw, at3c, _, _, rfl, rfl, ?_⟩
      refine ⟨_, rfl, p, _, _, 2, rfl, rfl, hw, rfl, ?_⟩
      have hw2 : (upd H p (.lst [.int a, .int b, .int (c + 1)])) p = some (.lst [.int a, .int b, .int (c + 1)]) := upd_same
      refine ⟨_, rfl, p, _, _, _, rfl, rfl, SqL.of hw2, at3b, _, rfl, p, _, _, _, rfl, rfl, SqL.of hw2, at3c, _, _, rfl, rfl, .inl ⟨by decide, by decide⟩, _, _, rfl, rfl, _, _, rfl, rfl, _, _, rfl, rfl, .inr ⟨by decide, by decide⟩, _, _, rfl, rfl, (show (2147483647 : Int) ≠ 0 by decide), ?_⟩
      have n1 := fmod_bounds (a := (b + 7919 * (c + 1) + 1) * 48271) (m := 2147483647) (by decide)
      refine ⟨_, rfl, _, rfl, _, _, rfl, rfl, ⟨by decide, by decide⟩, _, _, rfl, rfl, _, _, rfl, rfl, .inl ⟨Int.lt_of_lt_of_le (by decide) n1.1, Int.lt_trans n1.2 (by decide)⟩, _, _, rfl, rfl, (show (2147483587 : Int) ≠ 0 by decide), ?_⟩
      refine ⟨_, rfl, _, _, rfl, rfl, ⟨by decide, by decide⟩, _, rfl, _, _, rfl, rfl, (show (7919 : Int) ≠ 0 by decide), _, _, rfl, rfl, .inr ⟨by decide, by decide⟩, _, _, rfl, rfl, _, _, rfl, rfl, (show (2147483399 : Int) ≠ 0 by decide), _, rfl, _, _, rfl, rfl, (show m ≠ 0 by omega), ?_⟩
      exact k _ _ DE.upd ⟨_, _, _, upd_same⟩ (fmod_bounds hm).1 (fmod_bounds hm).2
def spOne (K : PySem.W.Frag) : Sp := fun vs H Q _ => ∃ (p l : Addr) (xs : List V), vs = [.ref p, .ref l] ∧ WellAt H p ∧ SqL K (del H p) l xs ∧ 0 < xs.length ∧ xs.length < 1000000 ∧ ∀ (x : V) (H' : Hp), x ∈ xs → DE p H H' → WellAt H' p → Q x H'
theorem ok_l_one (T : Tx K mg) : FnOk P w K mg base (L2.CX P w) 2 T.a_l_one T.fd_l_one ["_law_well_here", "_law_some"] (spOne K) := by
  refine T.F_l_one.okX sc_l_one (fun vs H Q E h => ?_) (fun cdv A outer s H vs Q E hr h => ?_)
  · obtain ⟨p, l, xs, rfl, _⟩ := h
    rfl
  · obtain ⟨p, l, xs, rfl, hw, hl, h0, h1, k⟩ := h
    refine ⟨_, (pss_one (ps_ret (pe_ix ix_list (pv 1) (pe_call (ok_l_draw T) (hr.mono (by decide)) rfl T.m_l_draw T.F_l_draw.kp T.b_l_draw .nil passL (pa_cons (pv 0) (pa_cons (pe_callB call_len_seq (by rfl) T.z_len PySem.boot_len (pa_cons (pv 1) pa_nil)) pa_nil))) (fun _ _ => rfl)))), ?_⟩
    refine ⟨_, rfl, _, rfl, _, rfl, l, xs, rfl, .inl hl.de, p, _, rfl, hw, by omega, by omega, fun r H' e hw' r0 r1 => ?_⟩
    obtain ⟨x, hx, ha⟩ := atI_of r0 r1
    exact ⟨l, xs, r, x, rfl, rfl, (hl.ext e).de, ha, k x H' (List.mem_of_getElem? hx) e hw'⟩
end
end K06

namespace K06
open PySem L2
section
variable {P : Program} {w : World} {K : PySem.W.Frag} {mg : Str → Option Value} {base : Heap}
theorem erase_perm {α : Type} : ∀ {l : List α} {i : Nat} {y : α}, l[i]? = some y → (y :: l.eraseIdx i).Perm l
  | [], _, _, h => by simp at h
  | x :: l, 0, y, h => by
    cases (show some x = some y from h)
    exact .refl _
  | x :: l, i + 1, y, h => by
    rw [List.eraseIdx_cons_succ]
    exact (List.Perm.swap x y _).trans (.cons x (erase_perm (l := l) (i := i) h))
theorem erase_map {α β : Type} (f : α → β) : ∀ (l : List α) (i : Nat), (l.map f).eraseIdx i = (l.eraseIdx i).map f
  | [], _ => rfl
  | _ :: _, 0 => rfl
  | x :: l, i + 1 => by
    rw [List.map_cons, List.eraseIdx_cons_succ, List.eraseIdx_cons_succ, List.map_cons, erase_map f l i]
theorem erase_len {α : Type} : ∀ {l : List α} {i : Nat}, i < l.length → (l.eraseIdx i).length + 1 = l.length
  | [], _, h => absurd h (Nat.not_lt_zero _)
  | _ :: _, 0, _ => rfl
  | x :: l, i + 1, h => by
    rw [List.eraseIdx_cons_succ, List.length_cons, List.length_cons, erase_len (Nat.lt_of_succ_lt_succ h)]
def spMixed (K : PySem.W.Frag) : Sp := fun vs H Q _ => ∃ (p l : Addr) (ns : List Int), vs = [.ref p, .ref l] ∧ WellAt H p ∧ SqL K (del H p) l (ns.map V.int) ∧ ns.length < 1000 ∧
  ∀ (a : Addr) (ms : List Int) (H' : Hp), a ≠ p → del H p a = none → DE p H H' → WellAt H' p → H' a = some (.lst (ms.map V.int)) → ms.Perm ns → Q (.ref a) H'
theorem ok_l_mixed (T : Tx K mg) : FnOk P w K mg base (L2.CX P w) 12 T.a_l_mixed T.fd_l_mixed ["_law_well_here", "_law_some"] (spMixed K) := by
  refine T.F_l_mixed.okX sc_l_mixed (fun vs H Q E h => ?_) (fun cdv A outer s H vs Q E hr h => ?_)
  · obtain ⟨p, l, ns, rfl, _⟩ := h
    rfl
  · obtain ⟨p, l, ns, rfl, hw, hl, hn, k⟩ := h
    refine ⟨_, (pss_cons (ps_set (i := 2) sc_l_mixed.nd rfl (Or.inl rfl) (pe_callTy call_list_of (by rfl) T.z_list (by decide +kernel) (pa_cons (pv 1) pa_nil)))
      (pss_cons (ps_set (i := 3) sc_l_mixed.nd rfl (Or.inl rfl) (pe_lst pa_nil))
      (pss_cons (ps_while (passes_of rfl) (pt_cmpR (op_neO pureTab pureNe hr (by decide)) (pv 2) (pe_lst pa_nil) (nomark _)) (pss_one (ps_expr (pe_bm PySem.F.plainAttrs_list PySem.F.slot_list_append PySem.F.type_list_append mt_append (pv 3) (pa_cons (pe_bm PySem.F.plainAttrs_list PySem.F.slot_list_pop PySem.F.type_list_pop mt_popAt (pv 2) (pa_cons (pe_call (ok_l_draw T) (hr.mono (by decide)) rfl T.m_l_draw T.F_l_draw.kp T.b_l_draw .nil passL (pa_cons (pv 0) (pa_cons (pe_callB call_len_seq (by rfl) T.z_len PySem.boot_len (pa_cons (pv 2) pa_nil)) pa_nil))) pa_nil)) pa_nil)))))
      (pss_one (ps_ret (pv 3)))))), ?_⟩
    refine ⟨_, rfl, l, _, rfl, .inl hl.de, fun L hL => ?_⟩
    refine ⟨by show 0 ≤ sizeLine; decide, fun F hF => ?_⟩
    have hLp : L ≠ p := hw.ne hL
    have hw1 : WellAt (upd H L (.lst (ns.map V.int))) p := hw.ext (Ext.upd hL)
    have hFp : F ≠ p := hw1.ne hF
    have hFL : F ≠ L := fun e => by rw [e, upd_same] at hF; cases hF
    have hFH : H F = none := by rw [upd_ne hFL] at hF; exact hF
    have hL0 : del H p L = none := by rw [del_ne hLp]; exact hL
    have hF0 : del H p F = none := by rw [del_ne hFp]; exact hFH
    refine while_by (fun σ H' => ∃ ls fs : List Int, σ = [some (.ref p), some (.ref l), some (.ref L), some (.ref F)] ∧ H' L = some (.lst (ls.map V.int)) ∧ H' F = some (.lst (fs.map V.int)) ∧ (fs ++ ls).Perm ns ∧ DE p H H' ∧ WellAt H' p)
      (fun σ H' => match H' L with | some (.lst xs) => xs.length | _ => 0) ⟨ns, [], rfl, by rw [upd_ne hFL.symm, upd_same], upd_same, .refl _, (DE.of (Ext.upd hL)).trans (DE.of (Ext.upd hF)), hw1.ext (Ext.upd hF)⟩ ?_ ?_
    · rintro σ H1 ⟨ls, fs, rfl, hLs, hFs, hp, e1, hw2⟩
      have hlen : fs.length + ls.length = ns.length := by rw [← hp.length_eq, List.length_append]
      refine ⟨_, rfl, by show 0 ≤ sizeLine; decide, fun z hz => ⟨.lst (ls.map Dt.int), .lst [], is_lst (Ext.upd hz _ _ hLs) (isL_ints _), is_lst upd_same rfl, okL_pure (pureL_ints _), trivial, by show depL _ + 1 ≤ 8; rw [depL_ints]; decide, .inl rfl, fun H2 e2' => ?_⟩⟩
      have e2 : Ext H1 H2 := (Ext.upd hz).trans e2'
      rw [show deq (.lst (ls.map Dt.int)) (.lst []) = deqL (ls.map Dt.int) (([] : List Int).map Dt.int) from rfl, deqL_ints]
      refine ⟨_, rfl, ite2 (fun c => ?_) (fun c => ?_)⟩
      · have hne : ls ≠ [] := fun e => by rw [e] at c; simp at c
        have hpos : 0 < ls.length := List.length_pos_iff.mpr hne
        have hLs2 := e2 _ _ hLs
        have hFs2 := e2 _ _ hFs
        refine ⟨_, rfl, .inl ⟨rfl, _, SqL.of hFs2⟩, ?_⟩
        refine ⟨_, rfl, .inl ⟨rfl, _, SqL.of hLs2⟩, ?_⟩
        refine ⟨_, rfl, _, rfl, L, _, rfl, .inl (SqL.of hLs2), p, _, rfl, hw2.ext e2, by rw [List.length_map]; omega, by rw [List.length_map]; omega, fun r H3 e3 hw3 r0 r1 => ?_⟩
        rw [List.length_map] at r1
        have hLs3 := e3.to hLs2 hLp
        have hFs3 := e3.to hFs2 hFp
        have hr2 : r.toNat < ls.length := by omega
        have hy : ls[r.toNat]? = some (ls[r.toNat]'hr2) := List.getElem?_eq_getElem hr2
        generalize ls[r.toNat]'hr2 = y at hy
        refine ⟨L, _, r, r.toNat, V.int y, rfl, rfl, hLs3, by omega, by omega, seqIndex_of r0 (by rw [List.length_map]; exact r1), by rw [List.getElem?_map, hy]; rfl, ?_⟩
        refine ⟨F, _, _, rfl, rfl, by rw [upd_ne hFL]; exact hFs3, by rw [List.length_map]; exact Nat.lt_of_lt_of_le (show fs.length < 1000 by omega) (by decide), ?_⟩
        refine ⟨⟨ls.eraseIdx r.toNat, fs ++ [y], rfl, by rw [upd_ne hFL.symm, upd_same, erase_map], by rw [upd_same, List.map_append]; rfl, ?_, ?_, ?_⟩, ?_⟩
        · refine List.Perm.trans ?_ hp
          rw [List.append_assoc]
          exact List.Perm.append_left fs (erase_perm hy)
        · exact DE.mut (DE.mut ((e1.trans (DE.of e2)).trans e3) hL0) hF0
        · exact (hw3.upd hLp).upd hFp
        · show (match (upd (upd H3 L _) F _) L with | some (.lst xs) => xs.length | _ => 0) < (match H1 L with | some (.lst xs) => xs.length | _ => 0)
          rw [upd_ne hFL.symm, upd_same, hLs]
          show (List.eraseIdx _ _).length < (List.map V.int ls).length
          have := erase_len (l := ls.map V.int) (i := r.toNat) (by rw [List.length_map]; exact hr2)
          omega
      · have he : ls = [] := Classical.byContradiction fun z => c (by rw [decide_eq_false z]; rfl)
        subst he
        rw [List.append_nil] at hp
        exact ⟨_, rfl, k F fs H2 hFp hF0 (e1.trans (DE.of e2)) (hw2.ext e2) (e2 _ _ hFs) hp⟩
    · intro σ H Q Q' m h
      obtain ⟨v, hv, z, k⟩ := h
      exact ⟨v, hv, z, fun p hp => by
        obtain ⟨d, e, i1, i2, i3, i4, i5, i6, q⟩ := k p hp
        exact ⟨d, e, i1, i2, i3, i4, i5, i6, fun H' e' => by
          obtain ⟨c, hc, q⟩ := q H' e'
          exact ⟨c, hc, m _ _ q⟩⟩⟩
def spHeight : Sp := fun vs H Q _ => ∃ (p : Addr), vs = [.ref p] ∧ WellAt H p ∧ ∀ (x : Int) (H' : Hp), DE p H H' → WellAt H' p → -1000000 ≤ x → x ≤ 1000000 → Q (.int x) H'
theorem ok_l_height (T : Tx K mg) : FnOk P w K mg base (L2.CX P w) 3 T.a_l_height T.fd_l_height ["_law_well_here"] spHeight := by
  refine T.F_l_height.okX sc_l_height (fun vs H Q E h => ?_) (fun cdv A outer s H vs Q E hr h => ?_)
  · obtain ⟨p, rfl, _⟩ := h
    rfl
  · obtain ⟨p, rfl, hw, k⟩ := h
    refine ⟨_, (pss_one (ps_ret (pe_call (ok_l_one T) (hr.mono (by decide)) rfl T.m_l_one T.F_l_one.kp T.b_l_one .nil passL (pa_cons (pv 0) (pa_cons (pe_lst (pa_cons pe_int (pa_cons pe_int (pa_cons (pe_un un_neg pe_int) (pa_cons pe_int (pa_cons (pe_un un_neg pe_int) (pa_cons pe_int (pa_cons (pe_op op_pow pe_int pe_int) (pa_cons (pe_un un_neg pe_int) (pa_cons (pe_op op_sub (pe_call (ok_l_draw T) (hr.mono (by decide)) rfl T.m_l_draw T.F_l_draw.kp T.b_l_draw .nil passL (pa_cons (pv 0) (pa_cons pe_int pa_nil))) pe_int) pa_nil)))))))))) pa_nil))))), ?_⟩
    refine ⟨_, rfl, _, rfl, _, rfl, _, _, rfl, rfl, cpow6, _, rfl, _, rfl, p, _, rfl, hw, by decide, by decide, fun r H1 e1 hw1 r0 r1 => ?_⟩
    refine ⟨_, _, rfl, rfl, by show 9 ≤ sizeLine; decide, fun L hL => ?_⟩
    have hLp : L ≠ p := hw1.ne hL
    refine ⟨p, L, _, rfl, hw1.ext (Ext.upd hL), SqL.of (by rw [del_ne hLp]; exact upd_same), by show 0 < 9; decide, by show 9 < 1000000; decide, fun x H2 hx e2 hw2 => ?_⟩
    obtain ⟨y, rfl, y1, y2⟩ : ∃ y : Int, x = V.int y ∧ -1000000 ≤ y ∧ y ≤ 1000000 := by
      simp only [List.mem_cons, List.not_mem_nil, or_false] at hx
      rcases hx with rfl | rfl | rfl | rfl | rfl | rfl | rfl | rfl | rfl
      all_goals first
        | exact ⟨_, rfl, by decide, by decide⟩
        | exact ⟨_, rfl, by omega, by omega⟩
    exact k y H2 ((e1.trans (DE.of (Ext.upd hL))).trans e2) hw2 y1 y2
end
end K06

namespace K06
open PySem L2
section
variable {P : Program} {w : World} {K : PySem.W.Frag} {mg : Str → Option Value} {base : Heap}
def spBarFact (K : PySem.W.Frag) : Sp := fun vs H Q _ => ∃ (p l : Addr) (x y z : Int) (r : List Int), vs = [.ref p, .ref l] ∧ WellAt H p ∧ SqL K (del H p) l ((x :: y :: z :: r).map V.int) ∧
  ∀ (t : Addr) (b : BarD) (H' : Hp), t ≠ p → del H p t = none → DE p H H' → WellAt H' p → H' t = some (.tup (brV b)) → b.a = x → b.b = y → b.c = z → 1 ≤ b.len → b.len ≤ 1000000 → 0 ≤ b.lo → b.lo ≤ b.hi → b.hi ≤ b.len → Q (.ref t) H'
theorem two_sorted {r1 r2 m : Int} {ys : List Int} (hp : ys.Perm [r1, r2]) (hs : ys.Pairwise (· ≤ ·)) (a1 : 0 ≤ r1) (b1 : r1 ≤ m) (a2 : 0 ≤ r2) (b2 : r2 ≤ m) : ∃ u v, ys = [u, v] ∧ 0 ≤ u ∧ u ≤ v ∧ v ≤ m := by
  have hl := hp.length_eq
  match ys, hl with
  | [u, v], _ =>
    have hu : u ∈ [r1, r2] := hp.mem_iff.mp List.mem_cons_self
    have hv : v ∈ [r1, r2] := hp.mem_iff.mp (List.mem_cons_of_mem _ List.mem_cons_self)
    simp only [List.mem_cons, List.not_mem_nil, or_false] at hu hv
    have h12 : u ≤ v := by
      cases hs with
      | cons h _ => exact h v List.mem_cons_self
    exact ⟨u, v, rfl, by rcases hu with rfl | rfl <;> omega, h12, by rcases hv with rfl | rfl <;> omega⟩
theorem at_0 {x : Int} {r : List Int} : atI ((x :: r).map V.int) 0 = some (V.int x) := atI_nat (xs := (x :: r).map V.int) (j := 0) rfl
theorem at_1 {x y : Int} {r : List Int} : atI ((x :: y :: r).map V.int) 1 = some (V.int y) := atI_nat (xs := (x :: y :: r).map V.int) (j := 1) rfl
theorem at_2 {x y z : Int} {r : List Int} : atI ((x :: y :: z :: r).map V.int) 2 = some (V.int z) := atI_nat (xs := (x :: y :: z :: r).map V.int) (j := 2) rfl
theorem ok_l_bar_fact (T : Tx K mg) : FnOk P w K mg base (L2.CX P w) 4 T.a_l_bar_fact T.fd_l_bar_fact ["_law_well_here", "_law_rods_so"] (spBarFact K) := by
  refine T.F_l_bar_fact.okX sc_l_bar_fact (fun vs H Q E h => ?_) (fun cdv A outer s H vs Q E hr h => ?_)
  · obtain ⟨p, l, x, y, z, r, rfl, _⟩ := h
    rfl
  · obtain ⟨p, l, x, y, z, r, rfl, hw, hl, k⟩ := h
    refine ⟨_, (pss_cons (ps_set (i := 2) sc_l_bar_fact.nd rfl (Or.inl rfl) (pe_call (ok_l_one T) (hr.mono (by decide)) rfl T.m_l_one T.F_l_one.kp T.b_l_one .nil passL (pa_cons (pv 0) (pa_cons (pe_lst (pa_cons pe_int (pa_cons pe_int (pa_cons pe_int (pa_cons pe_int (pa_cons pe_int (pa_cons (pe_op op_pow pe_int pe_int) (pa_cons (pe_op op_add pe_int (pe_call (ok_l_draw T) (hr.mono (by decide)) rfl T.m_l_draw T.F_l_draw.kp T.b_l_draw .nil passL (pa_cons (pv 0) (pa_cons pe_int pa_nil)))) pa_nil)))))))) pa_nil))))
      (pss_cons (ps_set (i := 3) sc_l_bar_fact.nd rfl (Or.inl rfl) (pe_callB cr_sortedI (by rfl) T.z_sorted (by decide +kernel) (pa_cons (pe_lst (pa_cons (pe_call (ok_l_draw T) (hr.mono (by decide)) rfl T.m_l_draw T.F_l_draw.kp T.b_l_draw .nil passL (pa_cons (pv 0) (pa_cons (pe_op op_add (pv 2) pe_int) pa_nil))) (pa_cons (pe_call (ok_l_draw T) (hr.mono (by decide)) rfl T.m_l_draw T.F_l_draw.kp T.b_l_draw .nil passL (pa_cons (pv 0) (pa_cons (pe_op op_add (pv 2) pe_int) pa_nil))) pa_nil))) pa_nil)))
      (pss_cons (ps_if (pt_cmpR op_eq (pe_call (ok_l_draw T) (hr.mono (by decide)) rfl T.m_l_draw T.F_l_draw.kp T.b_l_draw .nil passL (pa_cons (pv 0) (pa_cons pe_int pa_nil))) pe_int (nomark _)) (pss_one (ps_asg (pe_ix ix_list (pv 3) pe_int (fun _ _ => rfl)) (pg_sub (pv 3) pe_int set_list))) pss_nil)
      (pss_one (ps_ret (pe_tup (pa_cons (pe_ix ix_list (pv 1) pe_int (fun _ _ => rfl)) (pa_cons (pe_ix ix_list (pv 1) pe_int (fun _ _ => rfl)) (pa_cons (pe_ix ix_list (pv 1) pe_int (fun _ _ => rfl)) (pa_cons (pv 2) (pa_cons (pe_ix ix_list (pv 3) pe_int (fun _ _ => rfl)) (pa_cons (pe_ix ix_list (pv 3) pe_int (fun _ _ => rfl)) pa_nil)))))))))))), ?_⟩
    refine ⟨_, rfl, _, _, rfl, rfl, cpow6, _, rfl, p, _, rfl, hw, by decide, by decide, fun r1 H1 e1 hw1 r10 r11 => ?_⟩
    refine ⟨_, _, rfl, rfl, by show 7 ≤ sizeLine; decide, fun L hL => ?_⟩
    have hLp : L ≠ p := hw1.ne hL
    refine ⟨p, L, _, rfl, hw1.ext (Ext.upd hL), SqL.of (by rw [del_ne hLp]; exact upd_same), by show 0 < 7; decide, by show 7 < 1000000; decide, fun v H2 hx e2 hw2 => ?_⟩
    obtain ⟨m, rfl, m1, m2⟩ : ∃ m : Int, v = V.int m ∧ 1 ≤ m ∧ m ≤ 1000000 := by
      simp only [List.mem_cons, List.not_mem_nil, or_false] at hx
      rcases hx with rfl | rfl | rfl | rfl | rfl | rfl | rfl
      all_goals first
        | exact ⟨_, rfl, by decide, by decide⟩
        | exact ⟨_, rfl, by omega, by omega⟩
    have e02 := (e1.trans (DE.of (Ext.upd hL))).trans e2
    clear hx e2 e1 hw1 hL
    refine ⟨_, rfl, _, rfl, _, _, rfl, rfl, p, _, rfl, hw2, by omega, by omega, fun u1 H3 e3 hw3 u10 u11 => ?_⟩
    refine ⟨_, rfl, _, rfl, _, _, rfl, rfl, p, _, rfl, hw3, by omega, by omega, fun u2 H4 e4 hw4 u20 u21 => ?_⟩
    refine ⟨by show 2 ≤ sizeLine; decide, fun q hq => ?_⟩
    refine ⟨q, [u1, u2], rfl, SqL.of upd_same, fun ys e hp hs hn => ?_⟩
    obtain ⟨a, b, rfl, a0, ab, bm⟩ := two_sorted (m := m) hp hs u10 (by omega) u20 (by omega)
    have hw5 := hw4.ext (Ext.upd (o := HO.lst [V.int u1, V.int u2]) hq)
    have hep : e ≠ p := hw5.ne hn
    have e05 : DE p H (upd (upd H4 q (.lst [.int u1, .int u2])) e (.lst ([a, b].map V.int))) := ((e02.trans e3).trans e4).trans ((DE.of (Ext.upd hq)).trans (DE.of (Ext.upd hn)))
    have hw6 : WellAt (upd (upd H4 q (.lst [.int u1, .int u2])) e (.lst ([a, b].map V.int))) p := hw5.ext (Ext.upd hn)
    have he0 : del H p e = none := DE.fresh (((e02.trans e3).trans e4).trans (DE.of (Ext.upd hq))) hw5 hn
    have he5 : (upd (upd H4 q (.lst [.int u1, .int u2])) e (.lst ([a, b].map V.int))) e = some (.lst [.int a, .int b]) := upd_same
    generalize upd (upd H4 q (.lst [.int u1, .int u2])) e (.lst ([a, b].map V.int)) = H5 at e05 hw6 he5 ⊢
    clear hp hs hn hq hw5 hw4 hw3 e3 e4 hw2 e02
    refine ⟨_, rfl, p, _, rfl, hw6, by decide, by decide, fun r3 H6 e6 hw7 _ _ => ?_⟩
    have he6 := e6.to he5 hep
    have e06 := e05.trans e6
    refine ⟨rfl, _, rfl, ite2 (fun c => ?_) (fun c => ?_)⟩
    · refine ⟨_, rfl, e, _, _, _, rfl, rfl, SqL.of he6, rfl, _, rfl, e, _, _, 1, rfl, rfl, he6, rfl, ?_⟩
      have he7 : (upd H6 e (.lst ([V.int a, V.int b].set 1 (.int a)))) e = some (.lst [.int a, .int a]) := upd_same
      have e07 : DE p H (upd H6 e (.lst ([V.int a, V.int b].set 1 (.int a)))) := DE.mut e06 he0
      have hw8 : WellAt (upd H6 e (.lst ([V.int a, V.int b].set 1 (.int a)))) p := hw7.upd hep
      generalize upd H6 e (.lst ([V.int a, V.int b].set 1 (.int a))) = H7 at he7 e07 hw8 ⊢
      have hl7 := (hl.ext e07).de
      refine ⟨_, rfl, l, _, 0, _, rfl, rfl, hl7, at_0, _, rfl, l, _, 1, _, rfl, rfl, hl7, at_1, _, rfl, l, _, 2, _, rfl, rfl, hl7, at_2, _, rfl, _, rfl, e, _, 0, _, rfl, rfl, SqL.of he7, rfl, _, rfl, e, _, 1, _, rfl, rfl, SqL.of he7, rfl, by show 6 ≤ sizeLine; decide, fun t ht => ?_⟩
      exact k t ⟨x, y, z, m, a, a⟩ _ (hw8.ne ht) (DE.fresh e07 hw8 ht) (e07.trans (DE.of (Ext.upd ht))) (hw8.ext (Ext.upd ht)) upd_same rfl rfl rfl m1 m2 a0 (Int.le_refl _) (show a ≤ m by omega)
    · have hl7 := (hl.ext e06).de
      refine ⟨_, rfl, l, _, 0, _, rfl, rfl, hl7, at_0, _, rfl, l, _, 1, _, rfl, rfl, hl7, at_1, _, rfl, l, _, 2, _, rfl, rfl, hl7, at_2, _, rfl, _, rfl, e, _, 0, _, rfl, rfl, SqL.of he6, rfl, _, rfl, e, _, 1, _, rfl, rfl, SqL.of he6, rfl, by show 6 ≤ sizeLine; decide, fun t ht => ?_⟩
      exact k t ⟨x, y, z, m, a, b⟩ _ (hw7.ne ht) (DE.fresh e06 hw7 ht) (e06.trans (DE.of (Ext.upd ht))) (hw7.ext (Ext.upd ht)) upd_same rfl rfl rfl m1 m2 a0 ab bm
end
end K06

namespace L2
theorem cut_take (xs : List V) (k : Nat) : cutV xs none (some (k : Int)) = xs.take k := by
  unfold cutV
  rw [HT.sIx_nat, HT.sIx_none, List.drop_zero, Nat.sub_zero]
  by_cases h : k ≤ xs.length
  · rw [Nat.min_eq_left h]
  · rw [Nat.min_eq_right (by omega), List.take_of_length_le (Nat.le_refl _), List.take_of_length_le (by omega)]
theorem cut_drop (xs : List V) (k : Nat) : cutV xs (some (k : Int)) none = xs.drop k := by
  unfold cutV
  rw [HT.sIx_nat, HT.sIx_none]
  by_cases h : k ≤ xs.length
  · rw [Nat.min_eq_left h, List.take_of_length_le (by rw [List.length_drop]; omega)]
  · rw [Nat.min_eq_right (by omega), List.drop_eq_nil_of_le (Nat.le_refl _), List.drop_eq_nil_of_le (by omega), List.take_nil]
theorem rgV_range (n : Nat) : rgV 0 (n : Int) = (rangeI n).map V.int := by
  unfold rgV rangeI
  rw [List.map_map, Int.sub_zero, Int.toNat_natCast]
  refine List.map_congr_left fun i _ => ?_
  show V.int (0 + (i : Nat)) = V.int (i : Nat)
  rw [Int.zero_add]
theorem mem_rangeI {n : Nat} {x : Int} : x ∈ rangeI n ↔ 0 ≤ x ∧ x < n := by
  unfold rangeI
  rw [List.mem_map]
  constructor
  · rintro ⟨i, hi, rfl⟩
    have := List.mem_range.mp hi
    omega
  · rintro ⟨h0, h1⟩
    exact ⟨x.toNat, List.mem_range.mpr (by omega), by omega⟩
theorem nodup_rangeI (n : Nat) : (rangeI n).Nodup := by
  unfold rangeI
  rw [List.nodup_iff_pairwise_ne, List.pairwise_map]
  exact (List.nodup_iff_pairwise_ne.mp List.nodup_range).imp fun h e => h (by omega)
theorem len_rangeI (n : Nat) : (rangeI n).length = n := by
  unfold rangeI
  rw [List.length_map, List.length_range]
end L2
namespace K06
open PySem L2
structure BarOk (n : Int) (b : BarD) : Prop where
  a0 : 0 ≤ b.a
  a1 : b.a < n
  b0 : 0 ≤ b.b
  b1 : b.b < n
  c0 : 0 ≤ b.c
  c1 : b.c < n
  ab : b.b ≠ b.a
  ac : b.c ≠ b.a
  bc : b.c ≠ b.b
  l0 : 1 ≤ b.len
  l1 : b.len ≤ 1000000
  o0 : 0 ≤ b.lo
  o1 : b.lo ≤ b.hi
  o2 : b.hi ≤ b.len
theorem BarOk.ck {n k : Int} {b : BarD} (h : BarOk n b) : ckBar n k b = none := by
  have hoff : ∀ r : Int, 0 ≤ r → r < n → offRod n r = false := fun r h0 h1 => by
    unfold offRod
    rw [decide_eq_true h0, decide_eq_true h1]
    rfl
  unfold ckBar
  have hf : [b.a, b.b, b.c].find? (offRod n) = none := by
    rw [List.find?_cons, hoff _ h.a0 h.a1, List.find?_cons, hoff _ h.b0 h.b1, List.find?_cons, hoff _ h.c0 h.c1]
    rfl
  rw [hf]
  dsimp only
  rw [if_neg h.ab, if_neg (fun z => z.elim h.ac h.bc), if_neg (fun z => z ⟨h.l0, h.l1⟩), if_neg (fun z => z ⟨h.o0, h.o1, h.o2⟩)]
structure WebOk (n : Int) (hl : List (Int × Int)) (bs : List BarD) : Prop where
  n3 : 3 ≤ n
  n10 : n ≤ 10
  keys : ∀ q ∈ hl, (0 ≤ q.1 ∧ q.1 < n) ∧ -1000000 ≤ q.2 ∧ q.2 ≤ 1000000
  nd : (hl.map (·.1)).Nodup
  ne : hl ≠ []
  b1 : 1 ≤ bs.length
  b8 : bs.length ≤ 8
  sum : (bs.length : Int) = n - hl.length
  bars : ∀ b ∈ bs, BarOk n b
theorem look_mem : ∀ {hl : List (Int × Int)} {r : Int}, r ∈ hl.map (·.1) → (r, lookI hl r) ∈ hl
  | [], _, h => by cases h
  | p :: hl, r, h => by
    unfold lookI
    by_cases e : p.1 = r
    · rw [List.find?_cons, decide_eq_true e]
      subst e
      exact List.mem_cons_self
    · rw [List.find?_cons, decide_eq_false e]
      refine List.mem_cons_of_mem _ ?_
      refine look_mem (hl := hl) ?_
      rcases List.mem_cons.mp h with h | h
      · exact absurd h.symm e
      · exact h
theorem WebOk.l64 {n : Int} {hl : List (Int × Int)} {bs : List BarD} (h : WebOk n hl bs) : hl.length < 64 := by
  have := h.sum
  have := h.n10
  omega
theorem WebOk.ck {n : Int} {hl : List (Int × Int)} {bs : List BarD} (h : WebOk n hl bs) : ckWeb n hl bs = none := by
  have h1 : (srtI (hl.map (·.1))).find? (offRod n) = none := by
    rw [List.find?_eq_none]
    intro r hr
    have hm := look_mem ((srtI_perm _).mem_iff.mp hr)
    have := (h.keys _ hm).1
    unfold offRod
    rw [decide_eq_true this.1, decide_eq_true this.2]
    decide
  have h2 : (srtI (hl.map (·.1))).find? (farH hl) = none := by
    rw [List.find?_eq_none]
    intro r hr
    have hm := look_mem ((srtI_perm _).mem_iff.mp hr)
    have := (h.keys _ hm).2
    unfold farH
    rw [decide_eq_true this.1, decide_eq_true this.2]
    decide
  have h3 : ckRods n hl = none := by
    unfold ckRods
    rw [if_neg (fun z => z ⟨h.n3, h.n10⟩), h1]
    dsimp only
    rw [h2]
    dsimp only
    rw [if_neg h.ne]
  unfold ckWeb
  rw [h3]
  dsimp only
  unfold ckBars
  have := h.b1
  have := h.b8
  rw [if_neg (fun z => z ⟨by omega, by omega⟩), if_neg (fun z => z h.sum)]
  exact ck_no fun j c hc => (h.bars c (List.mem_of_getElem? hc)).ck
section
variable {P : Program} {w : World} {K : PySem.W.Frag} {mg : Str → Option Value} {base : Heap}
/-! the facts of a web, as the law holds them -/
def bfD (b : BarD) : Dt := .tup (brT b)
def mK : List Key := [Sum.inr "rods", Sum.inr "held", Sum.inr "bars"]
def mT (n : Int) (hl : List (Int × Int)) (bs : List BarD) : List Dt := [.int n, hdD hl, .lst (bs.map bfD)]
def mD (n : Int) (hl : List (Int × Int)) (bs : List BarD) : Dt := .dic mK (mT n hl bs)
def mV (n : Int) (hd bl : Addr) : List (Key × V) := [(Sum.inr "rods", .int n), (Sum.inr "held", .ref hd), (Sum.inr "bars", .ref bl)]
theorem bf_is {H : Hp} {t : Addr} {b : BarD} (h : H t = some (.tup (brV b))) : Is K H (bfD b) (.ref t) :=
  ⟨t, _, rfl, SqT.of h, _, _, rfl, rfl, _, _, rfl, rfl, _, _, rfl, rfl, _, _, rfl, rfl, _, _, rfl, rfl, _, _, rfl, rfl, rfl⟩
theorem bf_of {H : Hp} {v : V} {b : BarD} (h : Is K H (bfD b) v) : ∃ t, v = .ref t ∧ SqT K H t (brV b) := by
  obtain ⟨t, ws, rfl, ht, v1, r1, e1, f1, v2, r2, e2, f2, v3, r3, e3, f3, v4, r4, e4, f4, v5, r5, e5, f5, v6, r6, e6, f6, e7⟩ := h
  subst e7 e6 e5 e4 e3 e2 e1
  cases (show v1 = _ from f1)
  cases (show v2 = _ from f2)
  cases (show v3 = _ from f3)
  cases (show v4 = _ from f4)
  cases (show v5 = _ from f5)
  cases (show v6 = _ from f6)
  exact ⟨t, rfl, ht⟩
theorem hd_of_is {H : Hp} {v : V} {hl : List (Int × Int)} (h : Is K H (hdD hl) v) : ∃ d, v = .ref d ∧ H d = some (.dK (hK hl)) := by
  obtain ⟨d, qs, rfl, k2, k3, k4⟩ := h
  have hq : qs = hK hl := hd_of k3 (by
    have z : IsL K H ((hl.map (·.2)).map Dt.int) (qs.map (·.2)) := by rw [List.map_map]; exact k4
    rw [of_isL_ints z, List.map_map]
    rfl)
  subst hq
  exact ⟨d, rfl, k2⟩
theorem m_is {H : Hp} {M hd bl : Addr} {n : Int} {hl : List (Int × Int)} {bs : List BarD} {ws : List V} (h : H M = some (.dK (mV n hd bl))) (h1 : H hd = some (.dK (hK hl))) (h2 : SqL K H bl ws) (h3 : IsL K H (bs.map bfD) ws) : Is K H (mD n hl bs) (.ref M) :=
  ⟨M, _, rfl, h, rfl, _, _, rfl, rfl, _, _, rfl, hd_is h1, _, _, rfl, ⟨bl, ws, rfl, h2, h3⟩, rfl⟩
theorem m_of {H : Hp} {v : V} {n : Int} {hl : List (Int × Int)} {bs : List BarD} (h : Is K H (mD n hl bs) v) :
    ∃ (M hd bl : Addr) (ws : List V), v = .ref M ∧ H M = some (.dK (mV n hd bl)) ∧ H hd = some (.dK (hK hl)) ∧ SqL K H bl ws ∧ IsL K H (bs.map bfD) ws := by
  obtain ⟨M, qs, rfl, k2, k3, v1, r1, e1, f1, v2, r2, e2, f2, v3, r3, e3, ⟨bl, ws, g1, g2, g3⟩, e4⟩ := h
  subst e4 e3 e2
  cases (show v1 = _ from f1)
  obtain ⟨hd, rfl, hhd⟩ := hd_of_is f2
  subst g1
  match qs, k3, e1 with
  | [(x1, y1), (x2, y2), (x3, y3)], ek, e1 =>
    simp only [List.map_cons, List.map_nil] at ek e1
    injection ek with a1 ek
    injection ek with a2 ek
    injection ek with a3 _
    injection e1 with b1 e1
    injection e1 with b2 e1
    injection e1 with b3 _
    subst a1 a2 a3 b1 b2 b3
    exact ⟨M, hd, bl, ws, rfl, k2, hhd, g2, g3⟩
theorem merge_new : ∀ (kvs acc : List (Key × V)), (acc.map (·.1) ++ kvs.map (·.1)).Nodup → mergeK acc kvs = acc ++ kvs
  | [], acc, _ => by rw [List.append_nil]; rfl
  | (k, v) :: kvs, acc, h => by
    show mergeK (putK acc k v) kvs = _
    have hk : k ∉ acc.map (·.1) := fun z => by
      have := List.nodup_append.mp h
      exact this.2.2 k z k List.mem_cons_self rfl
    rw [put_new hk, merge_new kvs (acc ++ [(k, v)]), List.append_assoc]
    · rfl
    · rw [List.map_append, List.append_assoc]
      exact h
end
end K06

namespace K06
open PySem L2
section
variable {P : Program} {w : World} {K : PySem.W.Frag} {mg : Str → Option Value} {base : Heap}
theorem val_next {p : Key × V} {r : List (Key × V)} {k : Key} (e : p.1 ≠ k) : valV (p :: r) k = valV r k := by
  unfold valV
  rw [List.find?_cons, decide_eq_false e]
theorem kne_rh : (Sum.inr "rods" : Key) ≠ (Sum.inr "held" : Key) := by decide +kernel
theorem kne_rb : (Sum.inr "rods" : Key) ≠ (Sum.inr "bars" : Key) := by decide +kernel
theorem kne_hb : (Sum.inr "held" : Key) ≠ (Sum.inr "bars" : Key) := by decide +kernel
theorem g_rods {H : Hp} {M hd bl : Addr} {n : Int} (h : H M = some (.dK (mV n hd bl))) : DGet H M (V.str "rods") (some (.int n)) := by
  rw [← show valV (mV n hd bl) (Sum.inr "rods") = some (.int n) from valV_pos rfl]
  exact DGet.k (k := Sum.inr "rods") h
theorem g_held {H : Hp} {M hd bl : Addr} {n : Int} (h : H M = some (.dK (mV n hd bl))) : DGet H M (V.str "held") (some (.ref hd)) := by
  rw [← show valV (mV n hd bl) (Sum.inr "held") = some (.ref hd) from (val_next kne_rh).trans (valV_pos rfl)]
  exact DGet.k (k := Sum.inr "held") h
theorem g_bars {H : Hp} {M hd bl : Addr} {n : Int} (h : H M = some (.dK (mV n hd bl))) : DGet H M (V.str "bars") (some (.ref bl)) := by
  rw [← show valV (mV n hd bl) (Sum.inr "bars") = some (.ref bl) from (val_next kne_rb).trans ((val_next kne_hb).trans (valV_pos rfl))]
  exact DGet.k (k := Sum.inr "bars") h
theorem br_del {C D : Addr} {H : Hp} {b : BarD} {v : V} {l : List V} (i : Is K H (brD C b) v) (h : H D = some (.lst l)) : Is K (del H D) (brD C b) v := by
  obtain ⟨a, dx, rfl, ha⟩ := br_fields i
  exact br_is (dx := dx) (by rw [del_ne (fun e => by rw [e, h] at ha; cases ha)]; exact ha)
theorem isL_snoc {H : Hp} : ∀ {ds : List Dt} {vs : List V} {d : Dt} {v : V}, IsL K H ds vs → Is K H d v → IsL K H (ds ++ [d]) (vs ++ [v])
  | [], _, _, _, h, i => by
    cases h
    exact ⟨_, _, rfl, i, rfl⟩
  | _ :: _, _, _, _, ⟨v, r, e, a, h⟩, i => by
    subst e
    exact ⟨v, _, rfl, a, isL_snoc h i⟩
def brTE (K : PySem.W.Frag) (C : Addr) (j : Nat) : TE := tMake C (spBar K C) [] E0 (tCons (tOp (rIxT K) (tVar j) (tC (.int 0))) (tCons (tOp (rIxT K) (tVar j) (tC (.int 1))) (tCons (tOp (rIxT K) (tVar j) (tC (.int 2))) (tCons (tOp (rIxT K) (tVar j) (tC (.int 3))) (tCons (tOp (rIxT K) (tVar j) (tC (.int 4))) (tCons (tOp (rIxT K) (tVar j) (tC (.int 5))) tNil))))))
theorem lc_bars {C a : Addr} {bs : List BarD} {ws : List V} {j : Nat} {vs : List Nat} {σ : St} {H1 : Hp} {Q : Addr → Hp → Prop} (hq : SqL K H1 a ws) (hb : IsL K H1 (bs.map bfD) ws) (hz : bs.length < 1000)
    (hj : ∀ v : V, ((wipe σ vs).set j (some v))[j]? = some (some v)) (hwp : ∀ v : V, wipe ((wipe σ vs).set j (some v)) vs = wipe σ vs)
    (hd : ∀ D H' rs, H1 D = none → Ext H1 H' → H' D = some (.lst rs) → IsL K (del H' D) (bs.map (brD C)) rs → Q D H') :
    (∃ ys, SqL K H1 a ys) ∧ ∀ D, H1 D = none → ∃ W : Nat → Nat → Hp → Prop, (∃ m, W 0 m (upd H1 D (.lst []))) ∧ ∀ i m H, W i m H →
      ((Itl K a).stop i H ∧ Q D H) ∨ ((Itl K a).go i H ∧ ∃ Nx : Hp → Prop, (∀ H', Nx H' → ∃ m', m' < m ∧ W (i + 1) m' H') ∧ ∀ x H', (Itl K a).yld i H x H' → gName j x (wipe σ vs) H' fun σ2 H2 => wipe σ2 vs = wipe σ vs ∧ tYes σ2 H2 fun b H3 =>
        if b = true then brTE K C j σ2 H3 fun y H4 => ∃ acc, H4 D = some (.lst acc) ∧ acc.length < sizeLine ∧ Nx (upd H4 D (.lst (acc ++ [y]))) else Nx H3) := by
  refine ⟨⟨_, hq⟩, fun D hD => lc_list (xs := ws) (fun i H' => Ext H1 H' ∧ ∃ rs, H' D = some (.lst rs) ∧ IsL K (del H' D) ((bs.take i).map (brD C)) rs) ⟨Ext.upd hD, [], upd_same, rfl⟩ (fun i H' _ p => hq.ext p.1) ?_ ?_⟩
  · rintro i y H' hi ⟨e1, rs, hD1, hrs⟩
    obtain ⟨d, hd', iy⟩ := hb.get hi
    obtain ⟨b, hbi, rfl⟩ : ∃ b, bs[i]? = some b ∧ d = bfD b := by
      rw [List.getElem?_map] at hd'
      cases e : bs[i]? with
      | none => rw [e] at hd'; cases hd'
      | some b => rw [e] at hd'; exact ⟨b, rfl, (Option.some.inj hd').symm⟩
    obtain ⟨t, rfl, ht⟩ := bf_of (iy.ext e1)
    refine ⟨hwp _, tyes ?_⟩
    refine ⟨_, hj _, t, _, 0, _, rfl, rfl, ht, atI_nat (xs := brV b) (j := 0) rfl, _, hj _, t, _, 1, _, rfl, rfl, ht, atI_nat (xs := brV b) (j := 1) rfl, _, hj _, t, _, 2, _, rfl, rfl, ht, atI_nat (xs := brV b) (j := 2) rfl, _, hj _, t, _, 3, _, rfl, rfl, ht, atI_nat (xs := brV b) (j := 3) rfl,
      _, hj _, t, _, 4, _, rfl, rfl, ht, atI_nat (xs := brV b) (j := 4) rfl, _, hj _, t, _, 5, _, rfl, rfl, ht, atI_nat (xs := brV b) (j := 5) rfl, fun x dx hx hdx hne => ?_⟩
    refine ⟨H', x, dx, b, rfl, hx, hdx, hne, rfl, fun H2 e2 i2 => ⟨rfl, ?_⟩⟩
    have hD2 := e2 _ _ hD1
    refine ⟨rs, hD2, ?_, (e1.trans e2).mut hD, rs ++ [.ref x], upd_same, ?_⟩
    · have h1 := isL_len hrs
      rw [List.length_map, List.length_take] at h1
      exact Nat.lt_of_lt_of_le (show rs.length < 2000 by omega) (by decide)
    · have hE : Ext (del H' D) (del (upd H2 D (.lst (rs ++ [.ref x]))) D) := (DE.of e2).trans DE.upd
      rw [List.take_add_one, hbi, List.map_append]
      refine isL_snoc (hrs.ext hE) ?_
      have z := br_del i2 hD2
      exact z.ext (DE.upd (w := D))
  · rintro H' ⟨e1, rs, hD1, hrs⟩
    have hl : ws.length = bs.length := by rw [isL_len hb, List.length_map]
    rw [hl, List.take_length] at hrs
    exact hd D H' rs hD e1 hD1 hrs
def spLWeb (K : PySem.W.Frag) (T : Tx K mg) : Sp := fun vs H Q _ => ∃ (v : V) (n : Int) (hl : List (Int × Int)) (bs : List BarD), vs = [v] ∧ Is K H (mD n hl bs) v ∧ WebOk n hl bs ∧ ∀ (u : V) (H' : Hp), Ext H H' → Is K H' (wbD T.C_Web T.C_Bar n bs (normH hl)) u → Q u H'
theorem ok_l_web (T : Tx K mg) : FnOk P w K mg base (L2.CX P w) 12 T.a_l_web T.fd_l_web ["_law_m"] (spLWeb K T) := by
  refine T.F_l_web.okX sc_l_web (fun vs H Q E h => ?_) (fun cdv A outer s H vs Q E hr h => ?_)
  · obtain ⟨v, n, hl, bs, rfl, _⟩ := h
    rfl
  · obtain ⟨v, n, hl, bs, rfl, hv, ok, k⟩ := h
    refine ⟨_, (pss_cons (ps_setLc (i := 1) (own := [("_law_one_here", 2)]) (g := gName 2) (tt := tYes) (te := brTE K T.C_Bar 2) (by rfl) sc_l_web.nd rfl rfl (sw_true rfl rfl rfl (by decide +kernel)) (pi_list (pe_dget (hu_of hr) (pv 0) pe_str (fun _ _ => rfl))) (blkOk_by (own := [("_law_one_here", 2)]) (N := N_l_web) (sc := defScope s_l_web) (by decide +kernel)) (fun _ _ _ _ _ => (pg_name (i := 2) sc_l_web.nd rfl (Or.inl rfl))) (fun _ _ _ _ _ => pts_nil) (fun _ _ _ _ _ => (pe_make T.k_Bar (ok_Bar_init T) (hr.mono (by decide)) rfl T.m_Bar T.b_Bar_init .nil passL (pa_cons (pe_ix ix_tup (pv 2) pe_int (fun _ _ => rfl)) (pa_cons (pe_ix ix_tup (pv 2) pe_int (fun _ _ => rfl)) (pa_cons (pe_ix ix_tup (pv 2) pe_int (fun _ _ => rfl)) (pa_cons (pe_ix ix_tup (pv 2) pe_int (fun _ _ => rfl)) (pa_cons (pe_ix ix_tup (pv 2) pe_int (fun _ _ => rfl)) (pa_cons (pe_ix ix_tup (pv 2) pe_int (fun _ _ => rfl)) pa_nil)))))))))
      (pss_one (ps_ret (pe_make T.k_Web (ok_Web_init T) (hr.mono (by decide)) rfl T.m_Web T.b_Web_init .nil passL (pa_cons (pe_dget (hu_of hr) (pv 0) pe_str (fun _ _ => rfl)) (pa_cons (pe_callTy call_dictD (by rfl) T.z_dict (by decide +kernel) (pa_cons (pe_dget (hu_of hr) (pv 0) pe_str (fun _ _ => rfl)) pa_nil)) (pa_cons (pv 1) pa_nil))))))), ?_⟩
    obtain ⟨M, hd, bl, ws, rfl, hM, hhd, hbl, hbs⟩ := m_of hv
    refine ⟨_, rfl, M, _, rfl, g_bars hM, bl, rfl, lc_bars hbl hbs (by have := ok.b8; omega) (fun v => rfl) (fun v => rfl) (fun D H1 rs hD e1 hD1 hrs => ?_)⟩
    refine ⟨_, rfl, M, _, rfl, g_rods (e1 _ _ hM), _, rfl, M, _, rfl, g_held (e1 _ _ hM), hd, _, rfl, .inl (e1 _ _ hhd), fun q hq => ?_⟩
    have e2 : Ext H (upd H1 q (.dK (hK hl))) := e1.trans (Ext.upd hq)
    refine ⟨_, rfl, fun x dx hx hdx hne => ?_⟩
    refine ⟨_, x, dx, n, q, D, hl, bs, rs, rfl, hx, hdx, hne, rfl, upd_same, ok.nd, ok.l64, .inl (SqL.of (Ext.upd hq _ _ hD1)), (hrs.ext del_ext).ext (Ext.upd hq), (by intro r h; rw [ok.ck] at h; cases h), fun _ H3 e3 i3 _ => ⟨rfl, k _ H3 (e2.trans e3) i3⟩⟩
end
end K06

namespace L2
open PySem
theorem pureL_of : ∀ {ds : List Dt}, (∀ d ∈ ds, pureD d = true) → pureL ds = true
  | [], _ => rfl
  | d :: r, h => by
    show (pureD d && pureL r) = true
    rw [h d List.mem_cons_self, pureL_of fun x hx => h x (List.mem_cons_of_mem _ hx)]
    rfl
theorem depL_of {n : Nat} : ∀ {ds : List Dt}, (∀ d ∈ ds, dep d ≤ n) → depL ds ≤ n
  | [], _ => Nat.zero_le _
  | d :: r, h => by
    show max (dep d) (depL r) ≤ n
    have h1 := h d List.mem_cons_self
    have h2 := depL_of (n := n) fun x hx => h x (List.mem_cons_of_mem d hx)
    omega
theorem isL_of {K : PySem.W.Frag} {H : Hp} : ∀ {qs : List (Dt × V)}, (∀ q ∈ qs, Is K H q.1 q.2) → IsL K H (qs.map (·.1)) (qs.map (·.2))
  | [], _ => rfl
  | q :: r, h => ⟨_, _, rfl, h q List.mem_cons_self, isL_of fun x hx => h x (List.mem_cons_of_mem _ hx)⟩
theorem of_isL {K : PySem.W.Frag} {H : Hp} : ∀ {ds : List Dt} {vs : List V}, IsL K H ds vs → ∃ qs : List (Dt × V), qs.map (·.1) = ds ∧ qs.map (·.2) = vs ∧ ∀ q ∈ qs, Is K H q.1 q.2
  | [], _, e => ⟨[], rfl, e.symm, fun q hq => by cases hq⟩
  | d :: ds, _, ⟨v, r, e, i, h⟩ => by
    subst e
    obtain ⟨qs, e1, e2, hq⟩ := of_isL h
    refine ⟨(d, v) :: qs, by rw [List.map_cons, e1], by rw [List.map_cons, e2], fun q hq' => ?_⟩
    rcases List.mem_cons.mp hq' with e | hq'
    · rw [e]; exact i
    · exact hq q hq'
end L2
namespace K06
open PySem L2
section
variable {P : Program} {w : World} {K : PySem.W.Frag} {mg : Str → Option Value} {base : Heap}
/-- the same of data -/
def spMixedD (K : PySem.W.Frag) : Sp := fun vs H Q _ => ∃ (p l : Addr) (qs : List (Dt × V)), vs = [.ref p, .ref l] ∧ WellAt H p ∧ SqL K (del H p) l (qs.map (·.2)) ∧ (∀ q ∈ qs, Is K (del H p) q.1 q.2) ∧ (∀ q ∈ qs, pureD q.1 = true ∧ dep q.1 ≤ 6) ∧ qs.length < 1000 ∧
  ∀ (a : Addr) (rs : List (Dt × V)) (H' : Hp), a ≠ p → del H p a = none → DE p H H' → WellAt H' p → H' a = some (.lst (rs.map (·.2))) → rs.Perm qs → Q (.ref a) H'
theorem ok_l_mixedD (T : Tx K mg) : FnOk P w K mg base (L2.CX P w) 12 T.a_l_mixed T.fd_l_mixed ["_law_well_here", "_law_some"] (spMixedD K) := by
  refine T.F_l_mixed.okX sc_l_mixed (fun vs H Q E h => ?_) (fun cdv A outer s H vs Q E hr h => ?_)
  · obtain ⟨p, l, qs, rfl, _⟩ := h
    rfl
  · obtain ⟨p, l, qs, rfl, hw, hl, hi, hpu, hn, k⟩ := h
    refine ⟨_, (pss_cons (ps_set (i := 2) sc_l_mixed.nd rfl (Or.inl rfl) (pe_callTy call_list_of (by rfl) T.z_list (by decide +kernel) (pa_cons (pv 1) pa_nil)))
      (pss_cons (ps_set (i := 3) sc_l_mixed.nd rfl (Or.inl rfl) (pe_lst pa_nil))
      (pss_cons (ps_while (passes_of rfl) (pt_cmpR (op_neO pureTab pureNe hr (by decide)) (pv 2) (pe_lst pa_nil) (nomark _)) (pss_one (ps_expr (pe_bm PySem.F.plainAttrs_list PySem.F.slot_list_append PySem.F.type_list_append mt_append (pv 3) (pa_cons (pe_bm PySem.F.plainAttrs_list PySem.F.slot_list_pop PySem.F.type_list_pop mt_popAt (pv 2) (pa_cons (pe_call (ok_l_draw T) (hr.mono (by decide)) rfl T.m_l_draw T.F_l_draw.kp T.b_l_draw .nil passL (pa_cons (pv 0) (pa_cons (pe_callB call_len_seq (by rfl) T.z_len PySem.boot_len (pa_cons (pv 2) pa_nil)) pa_nil))) pa_nil)) pa_nil)))))
      (pss_one (ps_ret (pv 3)))))), ?_⟩
    refine ⟨_, rfl, l, _, rfl, .inl hl.de, fun L hL => ?_⟩
    refine ⟨by show 0 ≤ sizeLine; decide, fun F hF => ?_⟩
    have hLp : L ≠ p := hw.ne hL
    have hw1 : WellAt (upd H L (.lst (qs.map (·.2)))) p := hw.ext (Ext.upd hL)
    have hFp : F ≠ p := hw1.ne hF
    have hFL : F ≠ L := fun e => by rw [e, upd_same] at hF; cases hF
    have hFH : H F = none := by rw [upd_ne hFL] at hF; exact hF
    have hL0 : del H p L = none := by rw [del_ne hLp]; exact hL
    have hF0 : del H p F = none := by rw [del_ne hFp]; exact hFH
    refine while_by (fun σ H' => ∃ ls fs : List (Dt × V), σ = [some (.ref p), some (.ref l), some (.ref L), some (.ref F)] ∧ H' L = some (.lst (ls.map (·.2))) ∧ H' F = some (.lst (fs.map (·.2))) ∧ (fs ++ ls).Perm qs ∧ DE p H H' ∧ WellAt H' p)
      (fun σ H' => match H' L with | some (.lst xs) => xs.length | _ => 0) ⟨qs, [], rfl, by rw [upd_ne hFL.symm, upd_same], upd_same, .refl _, (DE.of (Ext.upd hL)).trans (DE.of (Ext.upd hF)), hw1.ext (Ext.upd hF)⟩ ?_ ?_
    · rintro σ H1 ⟨ls, fs, rfl, hLs, hFs, hp, e1, hw2⟩
      have hlen : fs.length + ls.length = qs.length := by rw [← hp.length_eq, List.length_append]
      have hsub : ∀ q ∈ ls, q ∈ qs := fun q hq => hp.mem_iff.mp (List.mem_append.mpr (.inr hq))
      refine ⟨_, rfl, by show 0 ≤ sizeLine; decide, fun z hz => ⟨Dt.lst (ls.map fun q : Dt × V => q.1), .lst [], is_lst (Ext.upd hz _ _ hLs) (isL_of fun q hq => ((hi q (hsub q hq)).ext (Ext.trans e1 del_ext)).ext (Ext.upd hz)), is_lst upd_same rfl, okL_pure (pureL_of fun d hd => by
          obtain ⟨q, hq, rfl⟩ := List.mem_map.mp hd
          exact (hpu q (hsub q hq)).1), trivial, by
          show depL _ + 1 ≤ 8
          have := depL_of (n := 6) (ds := ls.map (·.1)) fun d hd => by
            obtain ⟨q, hq, rfl⟩ := List.mem_map.mp hd
            exact (hpu q (hsub q hq)).2
          omega, .inl rfl, fun H2 e2' => ?_⟩⟩
      have e2 : Ext H1 H2 := (Ext.upd hz).trans e2'
      have hdq : deq (.lst (ls.map (·.1))) (.lst []) = decide (ls = []) := by
        cases ls with
        | nil => rfl
        | cons _ _ => rfl
      rw [hdq]
      refine ⟨_, rfl, ite2 (fun c => ?_) (fun c => ?_)⟩
      · have hne : ls ≠ [] := fun e => by rw [e] at c; simp at c
        have hpos : 0 < ls.length := List.length_pos_iff.mpr hne
        have hLs2 := e2 _ _ hLs
        have hFs2 := e2 _ _ hFs
        refine ⟨_, rfl, .inl ⟨rfl, _, SqL.of hFs2⟩, ?_⟩
        refine ⟨_, rfl, .inl ⟨rfl, _, SqL.of hLs2⟩, ?_⟩
        refine ⟨_, rfl, _, rfl, L, _, rfl, .inl (SqL.of hLs2), p, _, rfl, hw2.ext e2, by rw [List.length_map]; omega, by rw [List.length_map]; omega, fun r H3 e3 hw3 r0 r1 => ?_⟩
        rw [List.length_map] at r1
        have hLs3 := e3.to hLs2 hLp
        have hFs3 := e3.to hFs2 hFp
        have hr2 : r.toNat < ls.length := by omega
        have hy : ls[r.toNat]? = some (ls[r.toNat]'hr2) := List.getElem?_eq_getElem hr2
        generalize ls[r.toNat]'hr2 = y at hy
        refine ⟨L, _, r, r.toNat, y.2, rfl, rfl, hLs3, by omega, by omega, seqIndex_of r0 (by rw [List.length_map]; exact r1), by rw [List.getElem?_map, hy]; rfl, ?_⟩
        refine ⟨F, _, _, rfl, rfl, by rw [upd_ne hFL]; exact hFs3, by rw [List.length_map]; exact Nat.lt_of_lt_of_le (show fs.length < 1000 by omega) (by decide), ?_⟩
        refine ⟨⟨ls.eraseIdx r.toNat, fs ++ [y], rfl, by rw [upd_ne hFL.symm, upd_same, erase_map], by rw [upd_same, List.map_append]; rfl, ?_, ?_, ?_⟩, ?_⟩
        · refine List.Perm.trans ?_ hp
          rw [List.append_assoc]
          exact List.Perm.append_left fs (erase_perm hy)
        · exact DE.mut (DE.mut ((e1.trans (DE.of e2)).trans e3) hL0) hF0
        · exact (hw3.upd hLp).upd hFp
        · show (match (upd (upd H3 L _) F _) L with | some (.lst xs) => xs.length | _ => 0) < (match H1 L with | some (.lst xs) => xs.length | _ => 0)
          rw [upd_ne hFL.symm, upd_same, hLs]
          show (List.eraseIdx _ _).length < (List.map _ ls).length
          have := erase_len (l := ls.map (·.2)) (i := r.toNat) (by rw [List.length_map]; exact hr2)
          omega
      · have he : ls = [] := Classical.byContradiction fun z => c (by rw [decide_eq_false z]; rfl)
        subst he
        rw [List.append_nil] at hp
        exact ⟨_, rfl, k F fs H2 hFp hF0 (e1.trans (DE.of e2)) (hw2.ext e2) (e2 _ _ hFs) hp⟩
    · intro σ H Q Q' m h
      obtain ⟨v, hv, z, k⟩ := h
      exact ⟨v, hv, z, fun p hp => by
        obtain ⟨d, e, i1, i2, i3, i4, i5, i6, q⟩ := k p hp
        exact ⟨d, e, i1, i2, i3, i4, i5, i6, fun H' e' => by
          obtain ⟨c, hc, q⟩ := q H' e'
          exact ⟨c, hc, m _ _ q⟩⟩⟩
end
end K06

namespace K06
open PySem L2
section
variable {P : Program} {w : World} {K : PySem.W.Frag} {mg : Str → Option Value} {base : Heap}
theorem isL_bf {H : Hp} {p : Addr} : ∀ {ts : List Addr} {bs : List BarD}, Paired (fun t b => t ≠ p ∧ H t = some (.tup (brV b))) ts bs → IsL K (del H p) (bs.map bfD) (ts.map V.ref)
  | _, _, .nil => rfl
  | _, _, .cons h r => ⟨_, _, rfl, bf_is (by rw [del_ne h.1]; exact h.2), isL_bf r⟩
theorem bf_pure (b : BarD) : pureD (bfD b) = true ∧ dep (bfD b) ≤ 6 := ⟨rfl, by show max 0 (max 0 (max 0 (max 0 (max 0 (max 0 0))))) + 1 ≤ 6; decide⟩
theorem perm_mapBf : ∀ {bs : List BarD} {qs rs : List (Dt × V)}, qs.map (·.1) = bs.map bfD → rs.Perm qs → ∃ bs' : List BarD, bs'.Perm bs ∧ rs.map (·.1) = bs'.map bfD := by
  intro bs qs rs e hp
  induction hp generalizing bs with
  | nil => exact ⟨[], (by cases bs with | nil => exact List.Perm.refl _ | cons _ _ => cases e), rfl⟩
  | @cons x l₁ l₂ _ ih =>
    cases bs with
    | nil => cases e
    | cons b bs =>
      rw [List.map_cons, List.map_cons] at e
      injection e with e1 e2
      obtain ⟨bs', h1, h2⟩ := ih e2
      exact ⟨b :: bs', .cons b h1, by rw [List.map_cons, List.map_cons, h2, e1]⟩
  | swap x y l =>
    match bs, e with
    | b1 :: b2 :: bs, e =>
      simp only [List.map_cons] at e
      injection e with e1 e
      injection e with e2 e
      exact ⟨b2 :: b1 :: bs, .swap b1 b2 bs, by simp only [List.map_cons]; rw [e1, e2, e]⟩
    | [], e => cases e
    | [_], e => simp at e
  | trans _ _ ih1 ih2 =>
    obtain ⟨b1, p1, e1⟩ := ih2 e
    obtain ⟨b2, p2, e2⟩ := ih1 e1
    exact ⟨b2, p2.trans p1, e2⟩
/-- each bar's hook stands behind its ends in one row of the rods; the held ones stand first -/
def LineOk (hl : List (Int × Int)) (bs : List BarD) : Prop := ∃ (ln : List Int) (c : Nat), ln.Nodup ∧ hl.map (·.1) = ln.take c ∧ (∀ b ∈ bs, ∃ j, c ≤ j ∧ ln[j]? = some b.c ∧ b.a ∈ ln.take j ∧ b.b ∈ ln.take j) ∧ (bs.map (·.c)).Nodup
def spLine (K : PySem.W.Frag) : Sp := fun vs H Q _ => ∃ (p : Addr) (most : Int), vs = [.ref p, .int most] ∧ WellAt H p ∧ 1 ≤ most ∧ most ≤ 6 ∧
  ∀ (v : V) (n : Int) (hl : List (Int × Int)) (bs : List BarD) (H' : Hp), DE p H H' → WellAt H' p → Is K (del H' p) (mD n hl bs) v → WebOk n hl bs → LineOk hl bs → Q v H'
theorem ok_l_line (T : Tx K mg) : FnOk P w K mg base (L2.CX P w) 14 T.a_l_line T.fd_l_line ["_law_well_here", "_law_most"] (spLine K) := by
  refine T.F_l_line.okX sc_l_line (fun vs H Q E h => ?_) (fun cdv A outer s H vs Q E hr h => ?_)
  · obtain ⟨p, most, rfl, _⟩ := h
    rfl
  · obtain ⟨p, most, rfl, hw, hm0, hm1, k⟩ := h
    refine ⟨_, (pss_cons (ps_set (i := 2) sc_l_line.nd rfl (Or.inl rfl) (pe_op op_add pe_int (pe_call (ok_l_draw T) (hr.mono (by decide)) rfl T.m_l_draw T.F_l_draw.kp T.b_l_draw .nil passL (pa_cons (pv 0) (pa_cons pe_int pa_nil)))))
      (pss_cons (ps_set (i := 3) sc_l_line.nd rfl (Or.inl rfl) (pe_call (ok_l_mixed T) (hr.mono (by decide)) rfl T.m_l_mixed T.F_l_mixed.kp T.b_l_mixed .nil passL (pa_cons (pv 0) (pa_cons (pe_listRg rfl rfl T.z_list (prg_1 rfl T.z_range (pe_op op_add (pe_op op_add (pv 2) pe_int) (pe_call (ok_l_draw T) (hr.mono (by decide)) rfl T.m_l_draw T.F_l_draw.kp T.b_l_draw .nil passL (pa_cons (pv 0) (pa_cons (pv 1) pa_nil)))))) pa_nil))))
      (pss_cons (ps_set (i := 4) sc_l_line.nd rfl (Or.inl rfl) (pe_callTy (call_dictP rfl) (by rfl) T.z_dict (by decide +kernel) (pa_cons (pe_lc (own := [("_law_rod", 7)]) (g := gName 7) (tt := tYes) (by rfl) sc_l_line.nd (pi_list (pe_slice sl_list (pv 3) po_none (po_some (pv 2)))) (blkOk_by (own := [("_law_rod", 7)]) (N := N_l_line) (sc := defScope s_l_line) (by decide +kernel)) (fun _ _ _ _ _ => (pg_name (i := 7) sc_l_line.nd rfl (Or.inl rfl))) (fun _ _ _ _ _ => pts_nil) (fun _ _ _ _ _ => (pe_tup (pa_cons (pv 7) (pa_cons (pe_call (ok_l_height T) (hr.mono (by decide)) rfl T.m_l_height T.F_l_height.kp T.b_l_height .nil passL (pa_cons (pv 0) pa_nil)) pa_nil))))) pa_nil)))
      (pss_cons (ps_set (i := 5) sc_l_line.nd rfl (Or.inl rfl) (pe_lst pa_nil))
      (pss_cons (ps_for (passes_of rfl) rfl (pi_range2 rfl T.z_range (pa_cons (pv 2) (pa_cons (pe_callB call_len_seq (by rfl) T.z_len PySem.boot_len (pa_cons (pv 3) pa_nil)) pa_nil))) (pg_name (i := 6) sc_l_line.nd rfl (Or.inl rfl)) (pss_one (ps_expr (pe_bm PySem.F.plainAttrs_list PySem.F.slot_list_append PySem.F.type_list_append mt_append (pv 5) (pa_cons (pe_call (ok_l_bar_fact T) (hr.mono (by decide)) rfl T.m_l_bar_fact T.F_l_bar_fact.kp T.b_l_bar_fact .nil passL (pa_cons (pv 0) (pa_cons (pe_op op_catL (pe_slice sl_list (pe_call (ok_l_mixed T) (hr.mono (by decide)) rfl T.m_l_mixed T.F_l_mixed.kp T.b_l_mixed .nil passL (pa_cons (pv 0) (pa_cons (pe_slice sl_list (pv 3) po_none (po_some (pv 6))) pa_nil))) po_none (po_some pe_int)) (pe_lst (pa_cons (pe_ix ix_list (pv 3) (pv 6) (fun _ _ => rfl)) pa_nil))) pa_nil))) pa_nil)))))
      (pss_one (ps_ret (pe_disp (pps_cons pe_str (pe_callB call_len_seq (by rfl) T.z_len PySem.boot_len (pa_cons (pv 3) pa_nil)) (pps_cons pe_str (pv 4) (pps_cons pe_str (pe_call (ok_l_mixedD T) (hr.mono (by decide)) rfl T.m_l_mixed T.F_l_mixed.kp T.b_l_mixed .nil passL (pa_cons (pv 0) (pa_cons (pv 5) pa_nil))) pps_nil))) rfl rfl (fun z => by cases z) (by decide))))))))), ?_⟩
    refine ⟨_, rfl, p, _, rfl, hw, by decide, by decide, fun r1 H1 e1 hw1 r10 r11 => ?_⟩
    refine ⟨_, _, rfl, rfl, ?_⟩
    obtain ⟨c, hc, c2, c4⟩ : ∃ c : Nat, 2 + r1 = (c : Int) ∧ 2 ≤ c ∧ c ≤ 4 := ⟨(2 + r1).toNat, by omega, by omega, by omega⟩
    dsimp only
    rw [hc]
    refine ⟨_, rfl, _, rfl, _, _, rfl, rfl, _, rfl, _, rfl, p, _, rfl, hw1, by omega, by omega, fun r2 H2 e2 hw2 r20 r21 => ?_⟩
    refine ⟨_, _, rfl, rfl, ?_⟩
    dsimp only
    obtain ⟨n, hn, nc, n10⟩ : ∃ n : Nat, (c : Int) + 1 + r2 = (n : Int) ∧ c + 1 ≤ n ∧ n ≤ c + 6 := ⟨((c : Int) + 1 + r2).toNat, by omega, by omega, by omega⟩
    rw [hn]
    refine ⟨_, rfl, RgOk.of_le (by decide) (by omega) (by decide) (by omega), fun g0 hg0 => ?_⟩
    rw [rgV_range]
    have hg0p : g0 ≠ p := hw2.ne hg0
    refine ⟨p, g0, rangeI n, rfl, hw2.ext (Ext.upd hg0), SqL.of (by rw [del_ne hg0p]; exact upd_same), by rw [len_rangeI]; omega, fun L ln H3 hLp hL0 e3 hw3 hL hperm => ?_⟩
    have e03 : DE p H H3 := ((e1.trans e2).trans (DE.of (Ext.upd hg0))).trans e3
    have hlen : ln.length = n := by rw [hperm.length_eq, len_rangeI]
    have hnd : ln.Nodup := hperm.nodup_iff.mpr (nodup_rangeI n)
    have hmem : ∀ x ∈ ln, 0 ≤ x ∧ x < (n : Int) := fun x hx => mem_rangeI.mp (hperm.mem_iff.mp hx)
    clear e1 e2 e3 hw1 hw2 hg0 hL0 hn r20 r21 r10 r11 hc
    -- heights
    refine ⟨_, rfl, _, rfl, (c : Int), rfl, L, _, rfl, SqL.of hL, fun S hS => ?_⟩
    rw [cut_take, ← List.map_take]
    have hSp : S ≠ p := hw3.ne hS
    have hS4 : (upd H3 S (.lst ((ln.take c).map V.int))) S = some (.lst ((ln.take c).map V.int)) := upd_same
    have e34 : Ext H3 (upd H3 S (.lst ((ln.take c).map V.int))) := Ext.upd hS
    generalize upd H3 S (.lst ((ln.take c).map V.int)) = H4 at hS4 e34 ⊢
    have hw4 := hw3.ext e34
    have e04 := e03.trans (DE.of e34)
    have hL4 := e34 _ _ hL
    clear hS e34 hL hw3 e03
    refine ⟨S, rfl, ⟨_, SqL.of hS4⟩, fun D hD => ?_⟩
    have hDp : D ≠ p := hw4.ne hD
    have hD0 : del H4 p D = none := by rw [del_ne hDp]; exact hD
    refine lc_list (xs := (ln.take c).map V.int) (fun i H' => ∃ (ps : List Addr) (hs : List Int), hs.length = i ∧ DE p H4 H' ∧ WellAt H' p ∧ H' D = some (.lst (ps.map V.ref)) ∧ Paired (fun a kv => a ≠ p ∧ H' a = some (.tup [kV kv.1, kv.2])) ps (hK ((ln.take c).zip hs)) ∧ ∀ x ∈ hs, -1000000 ≤ x ∧ x ≤ 1000000)
      ⟨[], [], rfl, DE.of (Ext.upd hD), hw4.ext (Ext.upd hD), upd_same, by rw [List.zip_nil_right]; exact .nil, fun x hx => by cases hx⟩ (fun i H' _ q => ?_) ?_ ?_
    · obtain ⟨_, _, _, e, _⟩ := q
      exact SqL.of (e.to hS4 hSp)
    · rintro i y H5 hi ⟨ps, hs, hli, e5, hw5, hD5, hps, hb⟩
      obtain ⟨x, hx, rfl⟩ : ∃ x, (ln.take c)[i]? = some x ∧ y = V.int x := by
        rw [List.getElem?_map] at hi
        cases e : (ln.take c)[i]? with
        | none => rw [e] at hi; cases hi
        | some n => rw [e] at hi; exact ⟨n, rfl, (Option.some.inj hi).symm⟩
      have hin : i < (ln.take c).length := (List.getElem?_eq_some_iff.mp hx).1
      refine ⟨rfl, tyes ?_⟩
      refine ⟨_, rfl, _, rfl, p, rfl, hw5, fun h H6 e6 hw6 b0 b1 => ?_⟩
      refine ⟨by show 2 ≤ sizeLine; decide, fun t ht => ?_⟩
      have htp : t ≠ p := hw6.ne ht
      have hD6 := e6.to hD5 hDp
      have htD : D ≠ t := ne_of_none hD6 ht
      refine ⟨ps.map V.ref, by rw [upd_ne htD]; exact hD6, ?_, ps ++ [t], hs ++ [h], by rw [List.length_append, hli]; rfl, ?_, (hw6.ext (Ext.upd ht)).upd hDp, by rw [upd_same, List.map_append]; rfl, ?_, fun z hz => ?_⟩
      · rw [List.length_map]
        have h1 := hps.length
        unfold hK at h1
        rw [List.length_map, List.length_zip] at h1
        have h2 : (ln.take c).length ≤ 10 := by rw [List.length_take]; omega
        exact Nat.lt_of_lt_of_le (show ps.length < 100 by omega) (by decide)
      · exact DE.mut ((e5.trans e6).trans (DE.of (Ext.upd ht))) hD0
      · have hz : (ln.take c).zip (hs ++ [h]) = (ln.take c).zip hs ++ [(x, h)] := by
          have e1 : ln.take c = (ln.take c).take i ++ x :: (ln.take c).drop (i + 1) := by
            have := List.take_append_drop i (ln.take c)
            rw [List.drop_eq_getElem_cons hin] at this
            rw [show (ln.take c)[i] = x from Option.some.inj ((List.getElem?_eq_getElem hin).symm.trans hx)] at this
            exact this.symm
          have l1 : ((ln.take c).take i).length = hs.length := by rw [List.length_take]; omega
          rw [e1, List.zip_append l1, show (((ln.take c).take i) ++ x :: (ln.take c).drop (i + 1)).zip hs = ((ln.take c).take i).zip hs from by
            have z := List.zip_append (l₁ := (ln.take c).take i) (r₁ := x :: (ln.take c).drop (i + 1)) (l₂ := hs) (r₂ := []) l1
            rw [List.append_nil, List.zip_nil_right, List.append_nil] at z
            exact z, List.zip_cons_cons, List.zip_nil_right]
        rw [hz]
        unfold hK
        rw [List.map_append]
        have hps' : Paired (fun a (kv : Key × V) => a ≠ p ∧ (upd (upd H6 t (.tup [V.int x, V.int h])) D (.lst (ps.map V.ref ++ [V.ref t]))) a = some (.tup [kV kv.1, kv.2])) ps (hK ((ln.take c).zip hs)) := PySem.Paired.mono (fun a kv q => by
          have h6 := e6.to q.2 q.1
          have hta : a ≠ t := ne_of_none h6 ht
          have hDa : a ≠ D := fun e => by rw [e, hD6] at h6; cases h6
          exact ⟨q.1, by rw [upd_ne hDa, upd_ne hta]; exact h6⟩) hps
        exact hps'.snoc ⟨htp, by rw [upd_ne htD.symm, upd_same]; rfl⟩
      · rcases List.mem_append.mp hz with h | h
        · exact hb z h
        · rw [List.mem_singleton.mp h]
          exact ⟨b0, b1⟩
    · rintro H5 ⟨ps, hs, hli, e5, hw5, hD5, hps, hb⟩
      rw [List.length_map] at hli
      have hS5 := e5.to hS4 hSp
      have hL5 := e5.to hL4 hLp
      have e05 := e04.trans e5
      refine ⟨D, ps, hK ((ln.take c).zip hs), rfl, SqL.of hD5, PySem.Paired.mono (fun a kv q => SqT.of q.2) hps, fun hd hhd => ?_⟩
      have hfst : ((ln.take c).zip hs).map (·.1) = ln.take c := List.map_fst_zip (by omega)
      have hnd2 : (ln.take c).Nodup := hnd.sublist (List.take_sublist _ _)
      rw [merge_new _ [] (by
        rw [List.map_nil, List.nil_append]
        unfold hK
        rw [List.map_map]
        show (((ln.take c).zip hs).map (Sum.inl ∘ Prod.fst)).Nodup
        rw [← List.map_map, hfst, List.nodup_iff_pairwise_ne, List.pairwise_map]
        exact (List.nodup_iff_pairwise_ne.mp hnd2).imp fun h e => h (Sum.inl.inj e)), List.nil_append]
      have hhp : hd ≠ p := hw5.ne hhd
      have h7d : (upd H5 hd (.dK (hK ((ln.take c).zip hs)))) hd = some (.dK (hK ((ln.take c).zip hs))) := upd_same
      have e57 : Ext H5 (upd H5 hd (.dK (hK ((ln.take c).zip hs)))) := Ext.upd hhd
      have hlz : ((ln.take c).zip hs).length = c := by
        rw [List.length_zip, hli, List.length_take, hlen]
        omega
      have hkeys : ∀ q ∈ (ln.take c).zip hs, (0 ≤ q.1 ∧ q.1 < (n : Int)) ∧ -1000000 ≤ q.2 ∧ q.2 ≤ 1000000 := fun q hq => by
        obtain ⟨h1, h2⟩ := List.of_mem_zip (a := q.1) (b := q.2) hq
        exact ⟨hmem _ (List.mem_of_mem_take h1), hb _ h2⟩
      have hnd3 : (((ln.take c).zip hs).map (·.1)).Nodup := by rw [hfst]; exact hnd2
      generalize (ln.take c).zip hs = hl at h7d e57 hlz hkeys hnd3 hfst ⊢
      generalize upd H5 hd (.dK (hK hl)) = H7 at h7d e57 ⊢
      have hw7 := hw5.ext e57
      have hL7 := e57 _ _ hL5
      have e07 := e05.trans (DE.of e57)
      clear e57 hhd hps hnd2 hli hb e05 hL5 hS5 hw5 e5 hD5 hD hD0 hDp hS4 hw4 e04 hL4 hSp
      -- bars
      refine ⟨by show 0 ≤ sizeLine; decide, fun B hB => ?_⟩
      have hBp : B ≠ p := hw7.ne hB
      have hB0 : del H7 p B = none := by rw [del_ne hBp]; exact hB
      refine ⟨_, rfl, _, rfl, L, _, rfl, .inl (SqL.of (by rw [upd_ne (ne_of_none hL7 hB)]; exact hL7)), ?_⟩
      rw [List.length_map, hlen]
      have hnm : ((n : Int) - (c : Int)).toNat = n - c := by omega
      refine ⟨(c : Int), (n : Int), rfl, ⟨by omega, by omega, by omega, by omega⟩, ?_⟩
      rw [hnm]
      refine for_range (lo := (c : Int)) (n := n - c) (fun i σ H' => ∃ (ts : List Addr) (bs : List BarD), bs.length = i ∧ DE p H7 H' ∧ WellAt H' p ∧ H' B = some (.lst (ts.map V.ref)) ∧ Paired (fun t b => t ≠ p ∧ H' t = some (.tup (brV b))) ts bs ∧ (∀ b ∈ bs, BarOk (n : Int) b) ∧ (∀ b ∈ bs, ∃ j, c ≤ j ∧ ln[j]? = some b.c ∧ b.a ∈ ln.take j ∧ b.b ∈ ln.take j) ∧ bs.map (·.c) = (ln.drop c).take i ∧ ∃ v6 v7 : Option V, σ = [some (.ref p), some (.int most), some (.int (c : Int)), some (.ref L), some (.ref hd), some (.ref B), v6, v7])
        ⟨[], [], rfl, DE.of (Ext.upd hB), hw7.ext (Ext.upd hB), upd_same, .nil, (fun b hb => by cases hb), (fun b hb => by cases hb), rfl, _, _, rfl⟩ ?_ ?_
      · rintro i σ H8 hi ⟨ts, bs, hbl, e8, hw8, hB8, hts, hbo, hst, hcs, v6, v7, rfl⟩
        have hL8 := e8.to hL7 hLp
        refine ⟨_, rfl, .inl ⟨rfl, _, SqL.of hB8⟩, ?_⟩
        have hci : ((c : Int) + (i : Nat)) = ((c + i : Nat) : Int) := by omega
        rw [hci]
        refine ⟨_, rfl, _, rfl, _, rfl, _, rfl, ((c + i : Nat) : Int), rfl, L, _, rfl, SqL.of hL8, fun S2 hS2 => ?_⟩
        rw [cut_take, ← List.map_take]
        have hS2p : S2 ≠ p := hw8.ne hS2
        have e89 : Ext H8 (upd H8 S2 (.lst ((ln.take (c + i)).map V.int))) := Ext.upd hS2
        refine ⟨p, S2, ln.take (c + i), rfl, hw8.ext e89, SqL.of (by rw [del_ne hS2p]; exact upd_same), by rw [List.length_take]; omega, fun A as' H9 hAp hA0 e9 hw9 hA hp2 => ?_⟩
        refine ⟨2, rfl, A, _, rfl, SqL.of hA, fun S3 hS3 => ?_⟩
        have hc3 : cutV (as'.map V.int) none (some 2) = (as'.take 2).map V.int := by
          rw [List.map_take]
          exact cut_take _ 2
        rw [hc3]
        obtain ⟨x, y, r, rfl⟩ : ∃ x y r, as' = x :: y :: r := by
          have hl3 : 2 ≤ as'.length := by rw [hp2.length_eq, List.length_take]; omega
          match as', hl3 with
          | x :: y :: r, _ => exact ⟨x, y, r, rfl⟩
        have hL9 := e9.to (e89 _ _ hL8) hLp
        have hin : c + i < ln.length := by omega
        have hz : ln[c + i]? = some (ln[c + i]'hin) := List.getElem?_eq_getElem hin
        generalize hze : ln[c + i]'hin = z at hz
        have e910 : Ext H9 (upd H9 S3 (.lst (((x :: y :: r).take 2).map V.int))) := Ext.upd hS3
        refine ⟨_, rfl, _, rfl, L, _, _, _, rfl, rfl, SqL.of (e910 _ _ hL9), atI_nat (xs := ln.map V.int) (j := c + i) (v := .int z) (by rw [List.getElem?_map, hz]; rfl), by show 1 ≤ sizeLine; decide, fun S4 hS4' => ?_⟩
        have hS34 : S3 ≠ S4 := ne_of_none upd_same hS4'
        refine ⟨S3, S4, _, _, rfl, rfl, SqL.of (by rw [upd_ne hS34, upd_same]), SqL.of upd_same, by show 2 + 1 ≤ sizeLine; decide, fun S5 hS5 => ?_⟩
        have e911 := (e910.trans (Ext.upd (o := .lst [.int z]) hS4')).trans (Ext.upd (o := .lst ([V.int x, V.int y] ++ [.int z])) hS5)
        have hw11 := hw9.ext e911
        have hS5p : S5 ≠ p := (hw9.ext (e910.trans (Ext.upd (o := .lst [.int z]) hS4'))).ne hS5
        have hnd4 : (x :: y :: r).Nodup := hp2.nodup_iff.mpr (hnd.sublist (List.take_sublist _ _))
        have hmm : ∀ u ∈ x :: y :: r, u ∈ ln.take (c + i) := fun u hu => hp2.mem_iff.mp hu
        have hzn : z ∉ ln.take (c + i) := fun hzm => by
          obtain ⟨j, hj, ej⟩ := List.getElem_of_mem hzm
          rw [List.length_take] at hj
          rw [List.getElem_take] at ej
          have := List.pairwise_iff_getElem.mp (List.nodup_iff_pairwise_ne.mp hnd) j (c + i) (by omega) hin (by omega)
          exact this (ej.trans hze.symm)
        have hzm : z ∈ ln := List.mem_of_getElem? hz
        refine ⟨p, S5, x, y, z, [], rfl, hw11, SqL.of (by rw [del_ne hS5p]; exact upd_same), fun t b H10 htp ht0 e10 hw10 ht hba hbb hbc l0 l1 o0 o1 o2 => ?_⟩
        have e810 : DE p H8 H10 := (((DE.of e89).trans e9).trans (DE.of e911)).trans e10
        have hB10 := e810.to hB8 hBp
        have htB : t ≠ B := fun e => by rw [e, hB10] at ht; cases ht
        have hdis := List.nodup_cons.mp hnd4
        have hbok : BarOk (n : Int) b := by
          have x1 := hmm x List.mem_cons_self
          have y1 := hmm y (List.mem_cons_of_mem _ List.mem_cons_self)
          have m1 := hmem x (List.mem_of_mem_take x1)
          have m2 := hmem y (List.mem_of_mem_take y1)
          have m3 := hmem z hzm
          subst hba hbb hbc
          exact ⟨m1.1, m1.2, m2.1, m2.2, m3.1, m3.2, fun e => hdis.1 (e ▸ List.mem_cons_self), fun e => hzn (e ▸ x1), fun e => hzn (e ▸ y1), l0, l1, o0, o1, o2⟩
        refine ⟨B, _, _, rfl, rfl, hB10, ?_, ts ++ [t], bs ++ [b], by rw [List.length_append, hbl]; rfl, DE.mut (e8.trans e810) hB0, hw10.upd hBp, by rw [upd_same, List.map_append]; rfl, ?_, fun c' hc' => ?_, fun c' hc' => ?_, ?_, _, _, rfl⟩
        · rw [List.length_map, hts.length, hbl]
          exact Nat.lt_of_lt_of_le (show i < 100 by omega) (by decide)
        · have hts' : Paired (fun t' b' => t' ≠ p ∧ (upd H10 B (.lst (ts.map V.ref ++ [V.ref t]))) t' = some (.tup (brV b'))) ts bs := PySem.Paired.mono (fun a b' q => by
            have h10 := e810.to q.2 q.1
            have hBa : a ≠ B := fun e => by rw [e, hB10] at h10; cases h10
            exact ⟨q.1, by rw [upd_ne hBa]; exact h10⟩) hts
          exact hts'.snoc ⟨htp, by rw [upd_ne htB]; exact ht⟩
        · rcases List.mem_append.mp hc' with h | h
          · exact hbo c' h
          · rw [List.mem_singleton.mp h]
            exact hbok
        · rcases List.mem_append.mp hc' with h | h
          · exact hst c' h
          · rw [List.mem_singleton.mp h]
            refine ⟨c + i, Nat.le_add_right _ _, by rw [hz, hbc], ?_, ?_⟩
            · rw [hba]; exact hmm x List.mem_cons_self
            · rw [hbb]; exact hmm y (List.mem_cons_of_mem _ List.mem_cons_self)
        · rw [List.map_append, hcs, List.take_add_one, List.getElem?_drop, hz]
          show _ ++ [b.c] = _
          rw [hbc]
          rfl
      · rintro σ H8 ⟨ts, bs, hbl, e8, hw8, hB8, hts, hbo, hst, hcs, v6, v7, rfl⟩
        have hL8 := e8.to hL7 hLp
        have hd8 := e8.to h7d hhp
        have e08 := e07.trans e8
        refine fun M hM => ?_
        have hMp : M ≠ p := hw8.ne hM
        have e8M : Ext H8 (upd H8 M (.dK [])) := Ext.upd hM
        have hM9 : (upd H8 M (.dK [])) M = some (.dK []) := upd_same
        refine ⟨_, rfl, L, _, rfl, .inl (SqL.of (e8M _ _ hL8)), ?_⟩
        rw [List.length_map, hlen]
        have hisl := isL_bf (K := K) hts
        obtain ⟨qs, q1, q2, q3⟩ := of_isL hisl
        refine ⟨_, rfl, _, rfl, _, rfl, p, B, qs, rfl, hw8.ext e8M, SqL.of (by rw [del_ne hBp, q2]; exact e8M _ _ hB8), fun q hq => (q3 q hq).ext (DE.of e8M), fun q hq => ?_, ?_, fun C rs H10 hCp hC0 e10 hw10 hC10 hperm2 => ?_⟩
        · have : q.1 ∈ bs.map bfD := by rw [← q1]; exact List.mem_map.mpr ⟨q, hq, rfl⟩
          obtain ⟨b, _, e⟩ := List.mem_map.mp this
          rw [← e]
          exact bf_pure b
        · have : qs.length = bs.length := by rw [← List.length_map (f := fun q : Dt × V => q.1), q1, List.length_map]
          omega
        obtain ⟨bs', hpb, hrs⟩ := perm_mapBf q1 hperm2
        have hM10 := e10.to hM9 hMp
        refine ⟨hM10, mV (n : Int) hd C, rfl, by show 3 ≤ 15; decide, ?_⟩
        rw [merge_new _ [] (by show ([Sum.inr "rods", Sum.inr "held", Sum.inr "bars"] : List Key).Nodup; decide +kernel), List.nil_append]
        have hM0 : del H8 p M = none := by rw [del_ne hMp]; exact hM
        have e8N : DE p H8 (upd H10 M (.dK (mV (n : Int) hd C))) := DE.mut (show DE p H8 H10 from (DE.of e8M).trans e10) hM0
        have hCM : C ≠ M := fun e => by rw [e, hM10] at hC10; cases hC10
        have hdM : hd ≠ M := ne_of_none hd8 hM
        have hbl2 : bs'.length = n - c := by rw [hpb.length_eq, hbl]
        refine k _ (n : Int) hl bs' _ (e08.trans e8N) (hw10.upd hMp) (m_is (hd := hd) (bl := C) (ws := rs.map (·.2)) ?_ ?_ ?_ ?_) ⟨by omega, by omega, hkeys, hnd3, fun e => ?_, by omega, by omega, by omega, fun b hb => hbo b (hpb.mem_iff.mp hb)⟩ ⟨ln, c, hnd, hfst, fun b hb => hst b (hpb.mem_iff.mp hb), by rw [(hpb.map (·.c)).nodup_iff, hcs]; exact hnd.sublist ((List.take_sublist _ _).trans (List.drop_sublist _ _))⟩
        · rw [del_ne hMp, upd_same]
        · rw [del_ne hhp]
          exact e8N.to hd8 hhp
        · exact SqL.of (by rw [del_ne hCp, upd_ne hCM]; exact hC10)
        · rw [← hrs]
          exact isL_of fun q hq => (q3 q (hperm2.mem_iff.mp hq)).ext e8N
        · rw [e] at hlz
          simp at hlz
          omega
end
end K06

namespace K06
open PySem L2 RZ
section
variable {P : Program} {w : World} {K : PySem.W.Frag} {mg : Str → Option Value} {base : Heap}
def spSwapped (K : PySem.W.Frag) : Sp := fun vs H Q _ => ∃ (H0 : Hp) (v : V) (rs : List (List Int)) (n m a b : Nat), vs = [v, .int (a : Int), .int (b : Int)] ∧ Ext H0 H ∧ Is K H0 (rowsD rs) v ∧ Mx.Sq n m rs ∧ a < n ∧ b < n ∧ n ≤ 10 ∧ m ≤ 20 ∧ ∀ u H', Ext H H' → Is K (mix H0 H H') (rowsD (Mx.swp rs a b)) u → Q u H'
theorem ok_swapped (T : Tx K mg) : FnOk P w K mg base (L2.CX P w) 1 T.a_swapped T.fd_swapped ["rows", "at", "other"] (spSwapped K) := by
  refine T.F_swapped.okX sc_swapped (fun vs H Q E h => ?_) (fun cdv A outer s H vs Q E hr h => ?_)
  · obtain ⟨H0, v, rs, n, m, a, b, rfl, _⟩ := h
    rfl
  · obtain ⟨H0, v, rs, n, m, a, b, rfl, e0, hv, sq, ha, hb, hn, hm, k⟩ := h
    refine ⟨_, (pss_cons (ps_if (pt_cmpR op_eq (pv 1) (pv 2) (nomark _)) (pss_one (ps_ret (pv 0))) pss_nil)
      (pss_cons (ps_set (i := 0) sc_swapped.nd rfl (Or.inl rfl) (pe_callTy call_list_of (by rfl) T.z_list (by decide +kernel) (pa_cons (pv 0) pa_nil)))
      (pss_cons (ps_asg (pe_tup (pa_cons (pe_ix ix_list (pv 0) (pv 2) (fun _ _ => rfl)) (pa_cons (pe_lc (own := [("number", 3)]) (g := gName 3) (tt := tYes) (by rfl) sc_swapped.nd (pi_list (pe_ix ix_list (pv 0) (pv 1) (fun _ _ => rfl))) (blkOk_by (own := [("number", 3)]) (N := N_swapped) (sc := defScope s_swapped) (by decide +kernel)) (fun _ _ _ _ _ => (pg_name (i := 3) sc_swapped.nd rfl (Or.inl rfl))) (fun _ _ _ _ _ => pts_nil) (fun _ _ _ _ _ => (pe_un un_neg (pv 3)))) pa_nil))) (pg_tup (by rfl) (pgs_cons (pg_sub (pv 0) (pv 1) set_list) (pgs_cons (pg_sub (pv 0) (pv 2) set_list) pgs_nil))))
      (pss_one (ps_ret (pv 0)))))), ?_⟩
    obtain ⟨l, xs, rfl, hl, hxs, hxl⟩ := rows_of hv
    refine ⟨_, rfl, _, rfl, rfl, _, rfl, ite2 (fun c => ?_) (fun c => ?_)⟩
    · have hab : a = b := by
        have := V.int.inj (of_decide_eq_true c)
        omega
      refine ⟨_, rfl, k _ _ Ext.rfl' ?_⟩
      unfold Mx.swp
      rw [if_pos hab]
      exact hv.ext (mix_old e0)
    · have hab : a ≠ b := fun z => c (decide_eq_true (by rw [z]))
      have hsa := row_get (rs := rs) (i := a) (by rw [sq.1]; exact ha)
      have hsb := row_get (rs := rs) (i := b) (by rw [sq.1]; exact hb)
      have hla := sq.at ha
      obtain ⟨va, hva, ia⟩ := isL_at hxs hsa
      obtain ⟨vb, hvb, ib⟩ := isL_at hxs hsb
      obtain ⟨ra, rfl, hra⟩ := rwI_of ia
      refine ⟨_, rfl, l, _, rfl, .inl (hl.ext e0), fun q hq => ?_⟩
      have e1 : Ext H (upd H q (.lst xs)) := Ext.upd hq
      have hq1 : (upd H q (.lst xs)) q = some (.lst xs) := upd_same
      generalize upd H q (.lst xs) = H1 at e1 hq1 ⊢
      refine ⟨_, rfl, _, rfl, q, _, _, _, rfl, rfl, SqL.of hq1, atI_nat hvb, ?_⟩
      refine ⟨_, rfl, _, rfl, q, _, _, _, rfl, rfl, SqL.of hq1, atI_nat hva, ra, rfl, lc_ints (fun x => -x) (hra.ext (e0.trans e1)) (by omega) (fun n _ H' R hR => ⟨rfl, _, rfl, _, rfl, hR⟩) (fun D H2 hD e2 hD2 => ?_)⟩
      refine ⟨by show 2 ≤ sizeLine; decide, fun t ht => ?_⟩
      have e3 : Ext H1 (upd H2 t (.tup [vb, .ref D])) := e2.trans (Ext.upd ht)
      have hq3 : (upd H2 t (.tup [vb, .ref D])) q = some (.lst xs) := e3 _ _ hq1
      have hD3 : (upd H2 t (.tup [vb, .ref D])) D = some (.lst (((rs.getD a []).map fun x => -x).map V.int)) := Ext.upd ht _ _ hD2
      refine ⟨t, _, rfl, SqT.of upd_same, rfl, ?_⟩
      generalize upd H2 t (.tup [vb, .ref D]) = H3 at e3 hq3 hD3 ⊢
      have hxa : ixN xs.length (a : Int) = some a := by
        unfold ixN
        rw [if_pos (by omega), Int.toNat_natCast, if_pos (by rw [hxl, sq.1]; exact Int.ofNat_lt.mpr ha)]
      have hxb : ixN (xs.set a vb).length (b : Int) = some b := by
        unfold ixN
        rw [List.length_set, if_pos (by omega), Int.toNat_natCast, if_pos (by rw [hxl, sq.1]; exact Int.ofNat_lt.mpr hb)]
      refine ⟨_, _, rfl, ⟨_, rfl, _, rfl, q, xs, _, a, rfl, rfl, hq3, hxa, ?_⟩⟩
      refine ⟨_, _, rfl, ⟨_, rfl, _, rfl, q, xs.set a vb, _, b, rfl, rfl, upd_same, hxb, ?_⟩⟩
      refine ⟨rfl, _, rfl, k _ _ (((e1.trans e3).mut hq).mut hq) ?_⟩
      have hqD : q ≠ D := fun z => by rw [← z, hq1] at hD; cases hD
      have hqH : H q = none := hq
      have hDH : H D = none := e1.fresh hD
      have z : IsL K (mix H0 H (upd (upd H3 q (.lst (xs.set a vb))) q (.lst ((xs.set a vb).set b (.ref D))))) ((rs.map rwI).set a (rwI (rs.getD b [])) |>.set b (rwI ((rs.getD a []).map fun x => -x))) ((xs.set a vb).set b (.ref D)) :=
        isL_set (isL_set (hxs.ext (mix_old e0)) (ib.ext (mix_old e0))) (rwI_is (SqL.of (by rw [mix_new hDH, upd_ne hqD.symm, upd_ne hqD.symm]; exact hD3)))
      rw [← List.map_set, ← List.map_set] at z
      unfold Mx.swp
      rw [if_neg hab]
      exact ⟨q, _, rfl, SqL.of (by rw [mix_new hqH, upd_same]), z⟩
def tRowE (K : PySem.W.Frag) : TE := tOp (rI CDivZ fun i j => .int (i.fdiv j)) (tOp (rI0 fun i j => .int (i - j)) (tOp (rI CMulW fun i j => .int (i * j)) (tOp (rIxL K) (tVar 4) (tVar 2)) (tVar 8)) (tOp (rI CMulW fun i j => .int (i * j)) (tOp (rIxL K) (tVar 6) (tVar 2)) (tVar 7))) (tVar 3)
def gTwo (K : PySem.W.Frag) (i j : Nat) : TG := gTup K 2 (gCons (gName i) (gCons (gName j) gNil))
def tClrE (K : PySem.W.Frag) : TE := tIf (tTest (tOp rEq (tVar 5) (tVar 1))) (tVar 6) (tLc (iZipA K (tCons (tVar 6) (tCons (tVar 4) tNil))) (gTwo K 8 7) tYes (tRowE K) [8, 7])
abbrev scClr : Scope := { kind := ScopeKind.function, names := [(Str.ofString ".0", NameKind.local), (Str.ofString "k", NameKind.local), (Str.ofString "row", NameKind.cell), (Str.ofString "zip", NameKind.globalImplicit), (Str.ofString "at", NameKind.cell), (Str.ofString "chief", NameKind.cell), (Str.ofString "column", NameKind.cell), (Str.ofString "shared", NameKind.cell)], isGenerator := false, isCoroutine := false }
def spClearedOf (K : PySem.W.Frag) : Sp := fun vs H Q _ => ∃ (H0 : Hp) (v : V) (rs : List (List Int)) (n m a c : Nat) (sh : Int), vs = [v, .int (a : Int), .int (c : Int), .int sh] ∧ Ext H0 H ∧ Is K H0 (rowsD rs) v ∧ Mx.Sq n m rs ∧ a < n ∧ c < m ∧ n ≤ 10 ∧ m ≤ 20 ∧ sh ≠ 0 ∧ sh.natAbs < 2 ^ 8000 ∧ (∀ i j, i < n → (Mx.ent rs i j).natAbs < 2 ^ 8000) ∧
  ∀ u H', Ext H H' → Is K (mix H0 H H') (rowsD (Mx.clrOf rs a c sh)) u → Q u H'
theorem ok_cleared_of (T : Tx K mg) : FnOk P w K mg base (L2.CX P w) 1 T.a_cleared_of T.fd_cleared_of ["rows", "at", "column", "shared"] (spClearedOf K) := by
  refine T.F_cleared_of.okX sc_cleared_of (fun vs H Q E h => ?_) (fun cdv A outer s H vs Q E hr h => ?_)
  · obtain ⟨H0, v, rs, n, m, a, c, sh, rfl, _⟩ := h
    rfl
  · obtain ⟨H0, v, rs, n, m, a, c, sh, rfl, e0, hv, sq, ha, hc, hn, hm, hs0, hsb, hb, k⟩ := h
    refine ⟨_, (pss_cons (ps_set (i := 4) sc_cleared_of.nd rfl (Or.inr rfl) (pe_ix ix_list (pv 0) (pv 1) (fun _ _ => rfl)))
      (pss_one (ps_ret (pe_lc (own := [("k", 5), ("row", 6)]) (g := gTwo K 5 6) (tt := tYes) (te := tClrE K) (by rfl) sc_cleared_of.nd (pi_enum (by rfl) T.z_enumerate (pa_cons (pv 0) pa_nil)) (blkOk_by (own := [("k", 5), ("row", 6)]) (N := N_cleared_of) (sc := defScope s_cleared_of) (by decide +kernel)) (fun _ _ _ _ _ => (by exact pg_tup rfl (pgs_cons (pg_name (i := 5) sc_cleared_of.nd rfl (Or.inl rfl)) (pgs_cons (pg_name (i := 6) sc_cleared_of.nd rfl (Or.inr rfl)) pgs_nil)))) (fun _ _ _ _ _ => pts_nil)
        (fun _ _ _ _ _ => (by exact pe_ifExp (pt_cmpR op_eq (pv 5) (pv 1) (nomark _)) (pv 6) (pe_lc (own := [("number", 8), ("against", 7)]) (g := gTwo K 8 7) (tt := tYes) (te := tRowE K) (by rfl) sc_cleared_of.nd (pi_zipA (by rfl) T.z_zip (pa_cons (pv 6) (pa_cons (pv 4) pa_nil))) (blkOk_by (own := [("number", 8), ("against", 7)]) (N := N_cleared_of) (sc := scClr) (by decide +kernel)) (fun _ _ _ _ _ => (by exact pg_tup rfl (pgs_cons (pg_name (i := 8) sc_cleared_of.nd rfl (Or.inl rfl)) (pgs_cons (pg_name (i := 7) sc_cleared_of.nd rfl (Or.inl rfl)) pgs_nil)))) (fun _ _ _ _ _ => pts_nil) (fun _ _ _ _ _ => (by exact pe_op op_fdivZ (pe_op op_sub (pe_op op_mulW (pe_ix ix_list (pv 4) (pv 2) (fun _ _ => rfl)) (pv 8)) (pe_op op_mulW (pe_ix ix_list (pv 6) (pv 2) (fun _ _ => rfl)) (pv 7))) (pv 3)))))))))), ?_⟩
    obtain ⟨l, xs, rfl, hl, hxs, hxl⟩ := rows_of hv
    have hlH := hl.ext e0
    have hlen := sq.1
    have hsa := row_get (rs := rs) (i := a) (by rw [hlen]; exact ha)
    have hla := sq.at ha
    obtain ⟨va, hva, ia⟩ := isL_at hxs hsa
    obtain ⟨ra, rfl, hra⟩ := rwI_of ia
    have mul : ∀ x y : Int, x.natAbs < 2 ^ 8000 → y.natAbs < 2 ^ 8000 → CMulW x y := fun x y hx hy => wide_mul hx hy (by decide) (by decide) (by decide)
    have entb : ∀ i, i < n → ∀ x ∈ rs.getD i [], x.natAbs < 2 ^ 8000 := fun i hi x hx => by
      obtain ⟨j, hj, rfl⟩ := List.mem_iff_getElem.mp hx
      have z := hb i j hi
      unfold Mx.ent at z
      rw [Mx.getD_lt (l := rs.getD i []) 0 hj] at z
      exact z
    refine ⟨_, rfl, _, rfl, l, _, _, _, rfl, rfl, hlH, atI_nat hva, ?_⟩
    refine ⟨_, rfl, l, xs, rfl, hlH, fun D hD => ?_⟩
    refine lc_enum (xs := xs) (fun i H' => Ext H H' ∧ ∃ acc, H' D = some (.lst acc) ∧ IsL K (del (mix H0 H H') D) (((Mx.clrOf rs a c sh).take i).map rwI) acc) ⟨Ext.upd hD, [], upd_same, rfl⟩ (fun i H' p => hlH.ext p.1) ?_ ?_
    · rintro i y tp H1 hi ⟨e1, acc, hD1, hacc⟩ htp
      obtain ⟨row, hrow, iy⟩ := isL_at' hxs hi
      have hin : i < n := by rw [← hlen]; exact (List.getElem?_eq_some_iff.mp hrow).1
      have hrd : rs.getD i [] = row := by rw [List.getD_eq_getElem?_getD, hrow]; rfl
      obtain ⟨rr, rfl, hrr⟩ := rwI_of iy
      have hrl : row.length = m := sq.2 row (List.mem_of_getElem? hrow)
      have hci : (Mx.clrOf rs a c sh)[i]? = some (Mx.clrRow rs a c sh i row) := by
        unfold Mx.clrOf
        rw [List.getElem?_mapIdx, hrow]
        rfl
      refine ⟨tp, _, rfl, SqT.of upd_same, rfl, _, _, rfl, _, _, rfl, rfl, rfl, tyes ?_⟩
      have e2 : Ext H (upd H1 tp (.tup [.int (i : Nat), .ref rr])) := e1.trans (Ext.upd htp)
      have hD2 : (upd H1 tp (.tup [.int (i : Nat), .ref rr])) D = some (.lst acc) := Ext.upd htp _ _ hD1
      have hacc2 : IsL K (del (mix H0 H (upd H1 tp (.tup [.int (i : Nat), .ref rr]))) D) (((Mx.clrOf rs a c sh).take i).map rwI) acc := hacc.ext (DE.of (mix_ext (Ext.upd htp)))
      generalize upd H1 tp (.tup [.int (i : Nat), .ref rr]) = H2 at e2 hD2 hacc2 ⊢
      have hal : acc.length < sizeLine := by
        rw [← hacc2.length, List.length_map, List.length_take]
        exact Nat.lt_of_lt_of_le (show min i (Mx.clrOf rs a c sh).length < 100 by omega) (by decide)
      have mixD : ∀ (H3 : Hp) (o : HO), Ext (del (mix H0 H H3) D) (del (mix H0 H (upd H3 D o)) D) := fun H3 o x u hx => by
        by_cases e : x = D
        · rw [e, del_same] at hx; cases hx
        · rw [del_ne e] at hx ⊢
          unfold mix at hx ⊢
          cases q : H x with
          | none => rw [q] at hx; dsimp only at hx ⊢; rw [upd_ne e]; exact hx
          | some y => rw [q] at hx; exact hx
      -- the new item
      have fin : ∀ (H3 : Hp) (u : Addr), Ext H2 H3 → SqL K (del (mix H0 H H3) D) u ((Mx.clrRow rs a c sh i row).map V.int) → ∃ acc, H3 D = some (.lst acc) ∧ acc.length < sizeLine ∧ Ext H (upd H3 D (.lst (acc ++ [V.ref u]))) ∧ ∃ acc', (upd H3 D (.lst (acc ++ [V.ref u]))) D = some (.lst acc') ∧ IsL K (del (mix H0 H (upd H3 D (.lst (acc ++ [V.ref u])))) D) (((Mx.clrOf rs a c sh).take (i + 1)).map rwI) acc' := fun H3 u e3 hu => by
        refine ⟨acc, e3 _ _ hD2, hal, (e2.trans e3).mut hD, _, upd_same, ?_⟩
        rw [List.take_add_one, hci, List.map_append]
        refine isL_sn ?_ (rwI_is ?_)
        · exact (hacc2.ext (DE.of (mix_ext e3))).ext (mixD H3 _)
        · exact hu.ext (mixD H3 _)
      refine ⟨_, rfl, _, rfl, rfl, _, rfl, ite2 (fun ce => ?_) (fun ce => ?_)⟩
      · have hia : i = a := by
          have := V.int.inj (of_decide_eq_true ce)
          omega
        refine ⟨_, rfl, ?_⟩
        refine fin H2 rr Ext.rfl' ?_
        unfold Mx.clrRow
        rw [if_pos hia]
        refine hrr.ext fun x o hx => ?_
        rw [del_ne (ne_of_none (e0 x o hx) hD)]
        exact mix_old e0 x o hx
      · have hia : i ≠ a := fun z => ce (decide_eq_true (by rw [z]))
        have hrr2 := hrr.ext (e0.trans e2)
        have hra2 := hra.ext (e0.trans e2)
        refine ⟨_, rfl, _, rfl, rr, ra, _, _, rfl, .inl ⟨hrr2, hra2, ?_⟩⟩
        refine lc_zipI (ns := row) (ms := rs.getD a []) (fun x y => ((rs.getD a []).getD c 0 * x - row.getD c 0 * y).fdiv sh) (by rw [hrl, hla]) hrr2 hra2 (by omega) (fun x y hx hy t H3 e3 ht R hR => ?_) (fun u H3 hu e3 hu3 => ?_)
        · refine ⟨t, _, rfl, SqT.of ht, rfl, _, _, rfl, _, _, rfl, rfl, rfl, ?_⟩
          have bx := entb i hin x (by rw [hrd]; exact hx)
          have by' := entb a ha y hy
          have bp := hb a c ha
          have bq := hb i c hin
          unfold Mx.ent at bp bq
          rw [hrd] at bq
          refine ⟨_, rfl, _, rfl, ra, _, _, _, rfl, rfl, hra2.ext e3, atI_int (by rw [hla]; exact hc), _, rfl, _, _, rfl, rfl, mul _ _ bp bx, ?_⟩
          refine ⟨_, rfl, _, rfl, rr, _, _, _, rfl, rfl, hrr2.ext e3, atI_int (by rw [hrl]; exact hc), _, rfl, _, _, rfl, rfl, mul _ _ bq by', ?_⟩
          exact ⟨_, _, rfl, rfl, _, rfl, _, _, rfl, rfl, div_z hs0 hsb (by decide) (by decide), hR⟩
        · have huD : u ≠ D := fun z => by rw [z, hD2] at hu; cases hu
          refine fin H3 u e3 (SqL.of ?_)
          rw [del_ne huD, mix_new (e2.fresh hu), hu3]
          unfold Mx.clrRow Mx.elim
          rw [if_neg hia]
    · rintro H1 ⟨e1, acc, hD1, hacc⟩
      rw [List.take_of_length_le (by rw [Mx.len_clr, hxl]; exact Nat.le_refl _)] at hacc
      exact k _ _ e1 ⟨D, acc, rfl, SqL.of (by rw [mix_new hD]; exact hD1), hacc.ext del_ext⟩
end
end K06

namespace L2
open PySem PySem.Spec PyProof.Rows
/-- ints of a range that pass a test -/
theorem lc_rangeP {lo : Int} {n : Nat} {g : TG} {tt : TT} {te : TE} {vs : List Nat} {σ : St} {H1 : Hp} {Q : Addr → Hp → Prop} (p : Nat → Bool) (hz : n ≤ 1000)
    (hs : ∀ (i : Nat), i < n → ∀ (H : Hp), Ext H1 H → ∀ (R : V → Hp → Prop) (N : Hp → Prop), (if p i = true then R (.int (lo + i)) H else N H) → g (.int (lo + (i : Nat))) (wipe σ vs) H fun σ2 H2 => wipe σ2 vs = wipe σ vs ∧ tt σ2 H2 fun b H3 => if b = true then te σ2 H3 R else N H3)
    (hd : ∀ D H', H1 D = none → Ext H1 H' → H' D = some (.lst (((List.range n).filter p).map fun i : Nat => V.int (lo + i))) → Q D H') : ∀ D, H1 D = none →
    ∃ W : Nat → Nat → Hp → Prop, (∃ m, W 0 m (upd H1 D (.lst []))) ∧ ∀ i m H, W i m H →
      ((Itr lo n).stop i H ∧ Q D H) ∨ ((Itr lo n).go i H ∧ ∃ Nx : Hp → Prop, (∀ H', Nx H' → ∃ m', m' < m ∧ W (i + 1) m' H') ∧ ∀ x H', (Itr lo n).yld i H x H' → g x (wipe σ vs) H' fun σ2 H2 => wipe σ2 vs = wipe σ vs ∧ tt σ2 H2 fun b H3 =>
        if b = true then te σ2 H3 fun y H4 => ∃ acc, H4 D = some (.lst acc) ∧ acc.length < sizeLine ∧ Nx (upd H4 D (.lst (acc ++ [y]))) else Nx H3) := fun D hD => by
  refine lc_range (lo := lo) (n := n) (fun i H' => Ext H1 H' ∧ H' D = some (.lst (((List.range i).filter p).map fun i : Nat => V.int (lo + i)))) ⟨Ext.upd hD, upd_same⟩ ?_ ?_
  · rintro i H' hi ⟨e1, hD1⟩
    have et : (List.range (i + 1)).filter p = (List.range i).filter p ++ (if p i = true then [i] else []) := by
      rw [List.range_succ, List.filter_append]
      congr 1
      rw [List.filter_cons]
      rfl
    refine hs i hi H' e1 _ _ ?_
    by_cases hp : p i = true
    · rw [if_pos hp]
      refine ⟨_, hD1, ?_, e1.mut hD, ?_⟩
      · rw [List.length_map]
        exact Nat.lt_of_le_of_lt (List.length_filter_le _ _) (Nat.lt_of_lt_of_le (show (List.range i).length < 2000 by rw [List.length_range]; omega) (by decide))
      · rw [upd_same, et, if_pos hp, List.map_append]
        rfl
    · rw [if_neg hp]
      refine ⟨e1, ?_⟩
      rw [hD1, et, if_neg hp, List.append_nil]
  · rintro H' ⟨e1, hD1⟩
    exact hd D H' hD e1 hD1
end L2
namespace K06
open PySem L2 RZ
section
variable {P : Program} {w : World} {K : PySem.W.Frag} {mg : Str → Option Value} {base : Heap}
theorem atI_row {xs : List V} {j : Nat} {v : V} (h : xs[j]? = some v) : atI xs (j : Int) = some v := atI_nat h
def spCleared (K : PySem.W.Frag) : Sp := fun vs H Q _ => ∃ (v : V) (rs : List (List Int)) (n m : Nat), vs = [v, .int (n : Int)] ∧ Is K H (rowsD rs) v ∧ Mx.Sq n m rs ∧ n ≤ m ∧ n ≤ 9 ∧ m ≤ 20 ∧ (∀ i j, i < n → (Mx.ent rs i j).natAbs < 2 ^ 400) ∧
  ∀ (t kp : Addr) (u : V) (rs' : List (List Int)) (kept : List Nat) (s : Int) (H' : Hp), Ext H H' → H' t = some (.tup [u, .ref kp, .int s]) → Is K H' (rowsD rs') u → H' kp = some (.lst (kept.map fun c : Nat => V.int (c : Int))) → Mx.Cl n m n (Mx.ent rs) rs' kept s → Q (.ref t) H'
theorem ok_cleared (T : Tx K mg) : FnOk P w K mg base (L2.CX P w) 2 T.a_cleared T.fd_cleared ["rows", "width"] (spCleared K) := by
  refine T.F_cleared.okX sc_cleared (fun vs H Q E h => ?_) (fun cdv A outer s H vs Q E hr h => ?_)
  · obtain ⟨v, rs, n, m, rfl, _⟩ := h
    rfl
  · obtain ⟨v, rs, n, m, rfl, hv, sq, hnm, hn, hm, hb, k⟩ := h
    refine ⟨_, (pss_cons (ps_set (i := 2) sc_cleared.nd rfl (Or.inl rfl) (pe_lst pa_nil))
      (pss_cons (ps_set (i := 3) sc_cleared.nd rfl (Or.inl rfl) pe_int)
      (pss_cons (ps_for (passes_of rfl) rfl (pi_range1 rfl T.z_range (pa_cons (pv 1) pa_nil)) (pg_name (i := 4) sc_cleared.nd rfl (Or.inr rfl)) (pss_cons (ps_set (i := 5) sc_cleared.nd rfl (Or.inl rfl) (pe_callB call_len_seq (by rfl) T.z_len PySem.boot_len (pa_cons (pv 2) pa_nil)))
      (pss_cons (ps_setLc (i := 6) (own := [("k", 7)]) (g := gName 7) (te := tVar 7) (by rfl) sc_cleared.nd rfl rfl (sw_true rfl rfl rfl (by decide +kernel)) (pi_range2 rfl T.z_range (pa_cons (pv 5) (pa_cons (pe_callB call_len_seq (by rfl) T.z_len PySem.boot_len (pa_cons (pv 0) pa_nil)) pa_nil))) (blkOk_by (own := [("k", 7)]) (N := N_cleared) (sc := defScope s_cleared) (by decide +kernel)) (fun _ _ _ _ _ => (pg_name (i := 7) sc_cleared.nd rfl (Or.inl rfl))) (fun _ _ _ _ _ => (pts_one (pt_cmpR op_ne (pe_ix (r := rIxL K) ix_list (pe_ix (r := rIxL K) ix_list (pv 0) (pv 7) (fun _ _ => rfl)) (pv 4) (fun _ _ => rfl)) pe_int (nomark _)))) (fun _ _ _ _ _ => (pv 7)))
      (pss_one (ps_if (pt_truth (pv 6) (by intro _; rfl)) (pss_cons (ps_set (i := 0) sc_cleared.nd rfl (Or.inr rfl) (pe_call (ok_swapped T) (hr.mono (by decide)) rfl T.m_swapped T.F_swapped.kp T.b_swapped .nil passL (pa_cons (pv 0) (pa_cons (pv 5) (pa_cons (pe_ix ix_list (pv 6) pe_int (fun _ _ => rfl)) pa_nil)))))
      (pss_cons (ps_set (i := 0) sc_cleared.nd rfl (Or.inr rfl) (pe_call (ok_cleared_of T) (hr.mono (by decide)) rfl T.m_cleared_of T.F_cleared_of.kp T.b_cleared_of .nil passL (pa_cons (pv 0) (pa_cons (pv 5) (pa_cons (pv 4) (pa_cons (pv 3) pa_nil))))))
      (pss_cons (ps_set (i := 3) sc_cleared.nd rfl (Or.inl rfl) (pe_ix ix_list (pe_ix ix_list (pv 0) (pv 5) (fun _ _ => rfl)) (pv 4) (fun _ _ => rfl)))
      (pss_one (ps_expr (pe_bm PySem.F.plainAttrs_list PySem.F.slot_list_append PySem.F.type_list_append mt_append (pv 2) (pa_cons (pv 4) pa_nil))))))) pss_nil)))))
      (pss_one (ps_ret (pe_tup (pa_cons (pv 0) (pa_cons (pv 2) (pa_cons (pv 3) pa_nil))))))))), ?_⟩
    refine ⟨by show 0 ≤ sizeLine; decide, fun kp hkp => ?_⟩
    have eK : Ext H (upd H kp (.lst [])) := Ext.upd hkp
    have hK0 : (upd H kp (.lst [])) kp = some (.lst []) := upd_same
    refine ⟨_, rfl, (n : Int), rfl, by omega, by omega, ?_⟩
    rw [Int.toNat_natCast]
    refine for_range (lo := 0) (n := n) (fun i σ H' => Ext H H' ∧ ∃ (u : V) (rs' : List (List Int)) (kept : List Nat) (s' : Int) (v4 v5 v6 v7 : Option V), σ = [some u, some (.int (n : Int)), some (.ref kp), some (.int s'), v4, v5, v6, v7] ∧ H' kp = some (.lst (kept.map fun c : Nat => V.int (c : Int))) ∧ Is K (del H' kp) (rowsD rs') u ∧ Mx.Cl n m i (Mx.ent rs) rs' kept s')
      ⟨eK, v, rs, [], 1, none, none, none, none, rfl, hK0, hv.ext (fun x o hx => by rw [del_ne (ne_of_none hx hkp)]; exact eK x o hx), Mx.Cl.start sq⟩ ?_ ?_
    · rintro i σ H1 hi ⟨e1, u, rs', kept, s', v4, v5, v6, v7, rfl, hK1, hu, C⟩
      have hkl : kept.length ≤ n := by
        obtain ⟨B, _, I⟩ := C.inv
        exact I.kn
      obtain ⟨bR, bS⟩ := C.bound (b := 400) (by omega) hb
      have pw : 2 ^ ((400 + 4) * (n + 1) + 1) ≤ 2 ^ 8000 := Nat.pow_le_pow_right (by decide) (by omega)
      have hs0 : s' ≠ 0 := by
        obtain ⟨B, _, I⟩ := C.inv
        exact I.s0
      obtain ⟨l, xs, rfl, hl, hxs, hxl⟩ := rows_of hu
      have hlen := C.sq.1
      have hl1 := hl.ext del_ext
      refine ⟨_, rfl, kp, _, rfl, .inl (SqL.of hK1), ?_⟩
      rw [List.length_map, Int.zero_add]
      refine ⟨_, rfl, _, rfl, l, _, rfl, .inl hl1, (kept.length : Int), (xs.length : Int), rfl, ⟨by omega, by omega, by omega, by omega⟩, ?_⟩
      rw [show ((xs.length : Int) - (kept.length : Int)).toNat = n - kept.length by omega]
      refine lc_rangeP (fun j => decide (Mx.ent rs' (kept.length + j) i ≠ 0)) (by omega) (fun j hj H' e R N hR => ?_) (fun D H2 hD e2 hD2 => ?_)
      · have hj' : kept.length + j < n := by omega
        obtain ⟨vr, hvr, ir⟩ := isL_at hxs (row_get (rs := rs') (i := kept.length + j) (by omega))
        obtain ⟨ra, rfl, hra⟩ := rwI_of ir
        have hrl := C.sq.at hj'
        have hij : atI ((rs'.getD (kept.length + j) []).map V.int) (i : Int) = some (.int (Mx.ent rs' (kept.length + j) i)) := atI_int (by rw [hrl]; omega)
        refine ⟨rfl, _, rfl, _, rfl, l, _, _, _, rfl, rfl, hl1.ext e, ?_, _, rfl, ra, _, _, _, rfl, rfl, (hra.ext del_ext).ext e, hij, rfl, _, rfl, ?_⟩
        · rw [← Int.natCast_add]
          exact atI_nat hvr
        · by_cases hp : Mx.ent rs' (kept.length + j) i = 0
          · have hb' : (!decide (V.int (Mx.ent rs' (kept.length + j) i) = V.int 0)) = false := by
              rw [Bool.not_eq_false', decide_eq_true_iff, hp]
            rw [if_neg (by rw [decide_eq_true_iff]; exact fun z => z hp)] at hR
            rw [hb']
            exact hR
          · have hb' : (!decide (V.int (Mx.ent rs' (kept.length + j) i) = V.int 0)) = true := by
              rw [Bool.not_eq_true', decide_eq_false_iff_not]
              exact fun z => hp (V.int.inj z)
            rw [if_pos (decide_eq_true hp)] at hR
            simp only [hb', if_true]
            exact ⟨_, rfl, hR⟩
      · have hK2 := e2 _ _ hK1
        have hu2 : Is K (del H2 kp) (rowsD rs') (.ref l) := hu.ext (DE.of e2)
        refine ⟨_, rfl, _, .inl ⟨_, SqL.of hD2, rfl⟩, ?_⟩
        cases hf : (List.range (n - kept.length)).filter (fun j => decide (Mx.ent rs' (kept.length + j) i ≠ 0)) with
        | nil =>
          rw [hf] at hD2
          refine iteF ?_
          refine ⟨e1.trans e2, _, rs', kept, s', _, _, _, _, rfl, hK2, hu2, C.skip fun r h1 h2 => ?_⟩
          refine Classical.byContradiction fun z => ?_
          have : (r - kept.length) ∈ (List.range (n - kept.length)).filter (fun j => decide (Mx.ent rs' (kept.length + j) i ≠ 0)) := by
            rw [List.mem_filter, List.mem_range, decide_eq_true_iff]
            exact ⟨by omega, by rw [show kept.length + (r - kept.length) = r by omega]; exact z⟩
          rw [hf] at this
          cases this
        | cons j0 js =>
          rw [hf] at hD2
          refine iteT ?_
          have hj0 : j0 ∈ (List.range (n - kept.length)).filter (fun j => decide (Mx.ent rs' (kept.length + j) i ≠ 0)) := by rw [hf]; exact List.mem_cons_self
          rw [List.mem_filter, List.mem_range, decide_eq_true_iff] at hj0
          obtain ⟨hj1, hj2⟩ := hj0
          have hkn : kept.length < n := by omega
          refine ⟨_, rfl, _, rfl, _, rfl, D, _, _, _, rfl, rfl, SqL.of hD2, atI_nat (j := 0) rfl, ?_⟩
          refine ⟨del H2 kp, _, rs', n, m, kept.length, kept.length + j0, (by rw [Int.natCast_add]; rfl), del_ext, hu2, C.sq, hkn, by omega, by omega, hm, fun u2 H3 e3 i3 => ?_⟩
          have hK3 := e3 _ _ hK2
          have i3' : Is K (del H3 kp) (rowsD (Mx.swp rs' kept.length (kept.length + j0))) u2 := i3.ext (mix_del hK2 e3)
          have sq3 := C.sq.swp hkn (show kept.length + j0 < n by omega)
          have b3 : ∀ p q, p < n → (Mx.ent (Mx.swp rs' kept.length (kept.length + j0)) p q).natAbs < 2 ^ 8000 := fun p q hp => by
            by_cases e : kept.length = kept.length + j0
            · have e2 : Mx.swp rs' kept.length (kept.length + j0) = rs' := by unfold Mx.swp; rw [if_pos e]
              rw [e2]
              exact Nat.lt_of_lt_of_le (bR p q hp) pw
            · rw [Mx.ent_swp C.sq hkn (by omega) e hp q]
              unfold Mx.sx
              split
              · exact Nat.lt_of_lt_of_le (bR _ q (by omega)) pw
              · split
                · rw [Int.natAbs_neg]
                  exact Nat.lt_of_lt_of_le (bR _ q hkn) pw
                · exact Nat.lt_of_lt_of_le (bR p q hp) pw
          refine ⟨_, rfl, _, rfl, _, rfl, _, rfl, del H3 kp, _, _, n, m, kept.length, i, s', rfl, del_ext, i3', sq3, hkn, by omega, by omega, hm, hs0, Nat.lt_of_lt_of_le bS pw, b3, fun u3 H4 e4 i4 => ?_⟩
          have hK4 := e4 _ _ hK3
          have i4' : Is K (del H4 kp) (rowsD (Mx.clrOf (Mx.swp rs' kept.length (kept.length + j0)) kept.length i s')) u3 := i4.ext (mix_del hK3 e4)
          have C4 := C.keep (f := kept.length + j0) (by omega) (by omega) hj2
          generalize Mx.clrOf (Mx.swp rs' kept.length (kept.length + j0)) kept.length i s' = rs4 at i4' C4 ⊢
          obtain ⟨l4, xs4, rfl, hl4, hxs4, hxl4⟩ := rows_of i4'
          obtain ⟨v4', hv4, iv4⟩ := isL_at hxs4 (row_get (rs := rs4) (i := kept.length) (by rw [C4.sq.1]; exact hkn))
          obtain ⟨r4, rfl, hr4⟩ := rwI_of iv4
          have hrl4 := C4.sq.at hkn
          have hij4 : atI ((rs4.getD kept.length []).map V.int) (i : Int) = some (.int (Mx.ent rs4 kept.length i)) := atI_int (by rw [hrl4]; omega)
          refine ⟨_, rfl, _, rfl, l4, _, _, _, rfl, rfl, hl4.ext del_ext, atI_nat hv4, _, rfl, r4, _, _, _, rfl, rfl, hr4.ext del_ext, hij4, ?_⟩
          refine ⟨_, rfl, .inl ⟨rfl, _, SqL.of hK4⟩, _, rfl, kp, _, _, rfl, rfl, hK4, ?_, ?_⟩
          · rw [List.length_map]
            exact Nat.lt_of_lt_of_le (show kept.length < 100 by omega) (by decide)
          · refine ⟨(((e1.trans e2).trans e3).trans e4).mut hkp, _, rs4, kept ++ [i], _, _, _, _, _, rfl, ?_, i4'.ext DE.upd, C4⟩
            rw [upd_same, List.map_append]
            rfl
    · rintro σ H1 ⟨e1, u, rs', kept, s', v4, v5, v6, v7, rfl, hK1, hu, C⟩
      refine ⟨_, rfl, _, rfl, _, rfl, by show 3 ≤ sizeLine; decide, fun t ht => ?_⟩
      exact k t kp u rs' kept s' _ (e1.trans (Ext.upd ht)) upd_same ((hu.ext del_ext).ext (Ext.upd ht)) (Ext.upd ht _ _ hK1) C
end
end K06

namespace K06
open PySem L2 RZ
section
variable {P : Program} {w : World} {K : PySem.W.Frag} {mg : Str → Option Value} {base : Heap}
/-- what a bar asks, of all rods -/
def barRow (n : Nat) (q : Int) (b : BarD) (x : Int) : List Int := (((List.replicate n 0).set b.a.toNat (x - q * b.len)).set b.b.toNat (-x)).set b.c.toNat (q * b.len)
def barRows (n : Nat) (q : Int) (bs : List BarD) (ns : List Int) : List (List Int) := (bs.zip ns).map fun z => barRow n q z.1 z.2
theorem len_barRow {n : Nat} {q : Int} {b : BarD} {x : Int} : (barRow n q b x).length = n := by
  unfold barRow
  rw [List.length_set, List.length_set, List.length_set, List.length_replicate]
theorem rep_zero (n : Nat) : (List.replicate n [V.int 0]).flatten = (List.replicate n (0 : Int)).map V.int := by
  induction n with
  | zero => rfl
  | succ n ih => rw [List.replicate_succ, List.replicate_succ, List.flatten_cons, ih]; rfl
theorem ixN_of {n : Nat} {i : Int} (h0 : 0 ≤ i) (h1 : i < (n : Int)) : ixN n i = some i.toNat := by
  unfold ixN
  rw [if_pos h0, if_pos (by omega)]
def spBarRows (K : PySem.W.Frag) (T : Tx K mg) : Sp := fun vs H Q _ => ∃ (v : V) (t : Addr) (n : Nat) (bs : List BarD) (hl : List (Int × Int)) (ns : List Int) (q : Int), vs = [v, .ref t, .int q] ∧ Is K H (wbD T.C_Web T.C_Bar (n : Int) bs hl) v ∧ SqT K H t (ns.map V.int) ∧ ns.length = bs.length ∧ n ≤ 10 ∧ bs.length ≤ 8 ∧ (∀ b ∈ bs, BarOk (n : Int) b) ∧
  ∀ u H', Ext H H' → Is K H' (rowsD (barRows n q bs ns)) u → Q u H'
theorem ok_bar_rows (T : Tx K mg) : FnOk P w K mg base (L2.CX P w) 1 T.a_bar_rows T.fd_bar_rows ["web", "numbers", "parts"] (spBarRows K T) := by
  refine T.F_bar_rows.okX sc_bar_rows (fun vs H Q E h => ?_) (fun cdv A outer s H vs Q E hr h => ?_)
  · obtain ⟨v, t, n, bs, hl, ns, q, rfl, _⟩ := h
    rfl
  · obtain ⟨v, tn, n, bs, hl, ns, q, rfl, hv, htn, hnl, hn, h8, hbo, k⟩ := h
    refine ⟨_, (pss_cons (ps_set (i := 3) sc_bar_rows.nd rfl (Or.inl rfl) (pe_lst pa_nil))
      (pss_cons (ps_for (passes_of rfl) rfl (pi_zipA (by rfl) T.z_zip (pa_cons (pe_fld (pv 0) rfl) (pa_cons (pv 1) pa_nil))) (pg_tup rfl (pgs_cons (pg_name (i := 4) sc_bar_rows.nd rfl (Or.inl rfl)) (pgs_cons (pg_name (i := 5) sc_bar_rows.nd rfl (Or.inl rfl)) pgs_nil))) (pss_cons (ps_set (i := 6) sc_bar_rows.nd rfl (Or.inl rfl) (pe_op op_rep (pe_lst (pa_cons pe_int pa_nil)) (pe_fld (pv 0) rfl)))
      (pss_cons (ps_asg (pe_op op_sub (pv 5) (pe_op op_mul (pv 2) (pe_fld (pv 4) rfl))) (pg_sub (pv 6) (pe_fld (pv 4) rfl) set_list))
      (pss_cons (ps_asg (pe_un un_neg (pv 5)) (pg_sub (pv 6) (pe_fld (pv 4) rfl) set_list))
      (pss_cons (ps_asg (pe_op op_mul (pv 2) (pe_fld (pv 4) rfl)) (pg_sub (pv 6) (pe_fld (pv 4) rfl) set_list))
      (pss_one (ps_expr (pe_bm PySem.F.plainAttrs_list PySem.F.slot_list_append PySem.F.type_list_append mt_append (pv 3) (pa_cons (pv 6) pa_nil)))))))))
      (pss_one (ps_ret (pv 3))))), ?_⟩
    obtain ⟨a, dx, t, d, ws, rfl, ha, ht, hb, _⟩ := wb_fields hv
    have hwl : ws.length = bs.length := by rw [isL_len hb, List.length_map]
    refine ⟨by show 0 ≤ sizeLine; decide, fun R hR => ?_⟩
    have eR : Ext H (upd H R (.lst [])) := Ext.upd hR
    have hR0 : (upd H R (.lst [])) R = some (.lst []) := upd_same
    generalize upd H R (.lst []) = HR at eR hR0 ⊢
    refine ⟨_, rfl, a, T.C_Web, dx, _, _, rfl, eR _ _ ha, T.c_Web, T.nf_Web_bars, rfl, _, rfl, t, tn, _, _, rfl, .inr ⟨ht.ext eR, htn.ext eR, ?_⟩⟩
    refine for_zipT (xs := ws) (ys := ns.map V.int) (by rw [List.length_map, hwl, hnl]) (fun i σ H' => Ext H H' ∧ ∃ (acc : List V) (v4 v5 v6 : Option V), σ = [some (.ref a), some (.ref tn), some (.int q), some (.ref R), v4, v5, v6] ∧ H' R = some (.lst acc) ∧ IsL K (del H' R) (((barRows n q bs ns).take i).map rwI) acc)
      ⟨eR, [], none, none, none, rfl, hR0, rfl⟩ (fun i σ H' p => ⟨ht.ext p.1, htn.ext p.1⟩) ?_ ?_
    · rintro i x y tp σ H1 hx hy ⟨e1, acc, v4, v5, v6, rfl, hR1, hacc⟩ htp
      obtain ⟨b, hbi, ib⟩ := isL_at' hb hx
      obtain ⟨z, hz, rfl⟩ : ∃ z, ns[i]? = some z ∧ y = V.int z := by
        rw [List.getElem?_map] at hy
        cases e : ns[i]? with
        | none => rw [e] at hy; cases hy
        | some n => rw [e] at hy; exact ⟨n, rfl, (Option.some.inj hy).symm⟩
      have hin : i < bs.length := (List.getElem?_eq_some_iff.mp hbi).1
      have ok := hbo b (List.mem_of_getElem? hbi)
      have e2 : Ext H (upd H1 tp (.tup [x, .int z])) := e1.trans (Ext.upd htp)
      have hR2 : (upd H1 tp (.tup [x, .int z])) R = some (.lst acc) := Ext.upd htp _ _ hR1
      have hacc2 : IsL K (del (upd H1 tp (.tup [x, .int z])) R) (((barRows n q bs ns).take i).map rwI) acc := hacc.ext (DE.of (Ext.upd htp))
      refine ⟨tp, _, rfl, SqT.of upd_same, rfl, _, _, rfl, _, _, rfl, rfl, ?_⟩
      generalize upd H1 tp (.tup [x, .int z]) = H2 at e2 hR2 hacc2 ⊢
      obtain ⟨ab, adx, rfl, hab0⟩ := br_fields ib
      have ha2 := e2 _ _ ha
      -- row = [0] * web.rods
      refine ⟨by show 1 ≤ sizeLine; decide, fun z1 hz1 => ?_⟩
      refine ⟨_, rfl, a, T.C_Web, dx, _, _, rfl, Ext.upd hz1 _ _ ha2, T.c_Web, T.nf_Web_rods, rfl, z1, (n : Int), _, rfl, rfl, upd_same, by omega, by omega, ?_, fun r hr1 => ?_⟩
      · show 1 * ((n : Int).toNat) ≤ sizeLine
        exact Nat.le_trans (show 1 * ((n : Int).toNat) ≤ 100 by omega) (by decide)
      rw [Int.toNat_natCast, rep_zero]
      have e3 : Ext H2 (upd (upd H2 z1 (.lst [.int 0])) r (.lst ((List.replicate n (0 : Int)).map V.int))) := (Ext.upd hz1).trans (Ext.upd hr1)
      have hr3 : (upd (upd H2 z1 (.lst [.int 0])) r (.lst ((List.replicate n (0 : Int)).map V.int))) r = some (.lst ((List.replicate n (0 : Int)).map V.int)) := upd_same
      have hrH2 : H2 r = none := (Ext.upd hz1).fresh hr1
      generalize upd (upd H2 z1 (.lst [.int 0])) r (.lst ((List.replicate n (0 : Int)).map V.int)) = H3 at e3 hr3 ⊢
      have fld : ∀ (H' : Hp), Ext H2 H' → H' ab = some (.ins T.C_Bar adx [("a", .int b.a), ("b", .int b.b), ("c", .int b.c), ("length", .int b.len), ("least", .int b.lo), ("greatest", .int b.hi)]) := fun H' e => e _ _ (e2 _ _ hab0)
      have h3 := fld H3 e3
      have l0 := ok.l0
      have l1 := ok.l1
      refine ⟨_, rfl, _, rfl, _, rfl, ab, T.C_Bar, adx, _, _, rfl, h3, T.c_Bar, T.nf_Bar_length, rfl, _, _, rfl, rfl, .inr ⟨by omega, by omega⟩, _, _, rfl, rfl, ?_⟩
      refine ⟨_, rfl, _, rfl, ab, T.C_Bar, adx, _, _, rfl, h3, T.c_Bar, T.nf_Bar_a, rfl, r, _, b.a, b.a.toNat, rfl, rfl, hr3, ?_, ?_⟩
      · rw [List.length_map, List.length_replicate]
        exact ixN_of ok.a0 ok.a1
      dsimp only
      rw [← List.map_set]
      have e4 : Ext H2 (upd H3 r (.lst (((List.replicate n (0 : Int)).set b.a.toNat (z - q * b.len)).map V.int))) := e3.mut hrH2
      have hr4 : (upd H3 r (.lst (((List.replicate n (0 : Int)).set b.a.toNat (z - q * b.len)).map V.int))) r = some (.lst (((List.replicate n (0 : Int)).set b.a.toNat (z - q * b.len)).map V.int)) := upd_same
      generalize upd H3 r (.lst (((List.replicate n (0 : Int)).set b.a.toNat (z - q * b.len)).map V.int)) = H4 at e4 hr4 ⊢
      have h4 := fld H4 e4
      refine ⟨_, rfl, _, rfl, _, rfl, _, rfl, ab, T.C_Bar, adx, _, _, rfl, h4, T.c_Bar, T.nf_Bar_b, rfl, r, _, b.b, b.b.toNat, rfl, rfl, hr4, ?_, ?_⟩
      · rw [List.length_map, List.length_set, List.length_replicate]
        exact ixN_of ok.b0 ok.b1
      dsimp only
      rw [← List.map_set]
      have e5 : Ext H2 (upd H4 r (.lst ((((List.replicate n (0 : Int)).set b.a.toNat (z - q * b.len)).set b.b.toNat (-z)).map V.int))) := e4.mut hrH2
      have hr5 : (upd H4 r (.lst ((((List.replicate n (0 : Int)).set b.a.toNat (z - q * b.len)).set b.b.toNat (-z)).map V.int))) r = some (.lst ((((List.replicate n (0 : Int)).set b.a.toNat (z - q * b.len)).set b.b.toNat (-z)).map V.int)) := upd_same
      generalize upd H4 r (.lst ((((List.replicate n (0 : Int)).set b.a.toNat (z - q * b.len)).set b.b.toNat (-z)).map V.int)) = H5 at e5 hr5 ⊢
      have h5 := fld H5 e5
      refine ⟨_, rfl, _, rfl, ab, T.C_Bar, adx, _, _, rfl, h5, T.c_Bar, T.nf_Bar_length, rfl, _, _, rfl, rfl, .inr ⟨by omega, by omega⟩, ?_⟩
      refine ⟨_, rfl, _, rfl, ab, T.C_Bar, adx, _, _, rfl, h5, T.c_Bar, T.nf_Bar_c, rfl, r, _, b.c, b.c.toNat, rfl, rfl, hr5, ?_, ?_⟩
      · rw [List.length_map, List.length_set, List.length_set, List.length_replicate]
        exact ixN_of ok.c0 ok.c1
      dsimp only
      rw [← List.map_set]
      have e6 : Ext H2 (upd H5 r (.lst ((barRow n q b z).map V.int))) := e5.mut hrH2
      have hr6 : (upd H5 r (.lst ((barRow n q b z).map V.int))) r = some (.lst ((barRow n q b z).map V.int)) := upd_same
      show tDrop _ _ _ (upd H5 r (.lst ((barRow n q b z).map V.int)))
      have hR6 := e6 _ _ hR2
      generalize upd H5 r (.lst ((barRow n q b z).map V.int)) = H6 at e6 hr6 hR6 ⊢
      have hrR : r ≠ R := fun e => by rw [e, hR2] at hrH2; cases hrH2
      have hzi : (barRows n q bs ns)[i]? = some (barRow n q b z) := by
        unfold barRows
        have hzz : (bs.zip ns)[i]? = some (b, z) := by rw [List.getElem?_zip_eq_some]; exact ⟨hbi, hz⟩
        rw [List.getElem?_map, hzz]
        rfl
      refine ⟨_, rfl, .inl ⟨rfl, _, SqL.of hR6⟩, _, rfl, R, _, _, rfl, rfl, hR6, ?_, ?_⟩
      · rw [← hacc2.length, List.length_map, List.length_take]
        exact Nat.lt_of_lt_of_le (show min i (barRows n q bs ns).length < 100 by omega) (by decide)
      · refine ⟨(e2.trans e6).mut hR, _, _, _, _, rfl, upd_same, ?_⟩
        rw [List.take_add_one, hzi, List.map_append]
        refine isL_sn ((hacc2.ext (DE.of e6)).ext DE.upd) (rwI_is (SqL.of ?_))
        rw [del_ne hrR, upd_ne hrR]
        exact hr6
    · rintro σ H1 ⟨e1, acc, v4, v5, v6, rfl, hR1, hacc⟩
      rw [List.take_of_length_le (by unfold barRows; rw [List.length_map, List.length_zip, hwl]; omega)] at hacc
      exact ⟨_, rfl, k _ _ e1 ⟨R, acc, rfl, SqL.of hR1, hacc.ext del_ext⟩⟩
/-! the table -/
def tabRow (hs : List Int) (row : List Int) : List Int := hs.map fun r => row.getD r.toNat 0
def tabRows (n : Nat) (hs : List Int) (q : Int) (bs : List BarD) (ns : List Int) : List (List Int) := (barRows n q bs ns).map (tabRow hs)
def tTabE (K : PySem.W.Frag) : TE := tLc (iList K (tVar 3)) (gName 5) tYes (tOp (rIxL K) (tVar 4) (tVar 5)) [5]
abbrev scTab : Scope := { kind := ScopeKind.function, names := [(Str.ofString ".0", NameKind.local), (Str.ofString "row", NameKind.cell), (Str.ofString "hanging", NameKind.cell)], isGenerator := false, isCoroutine := false }
theorem mem_hangL {n : Nat} {hl : List (Int × Int)} {r : Int} (h : r ∈ hangL (n : Int) hl) : 0 ≤ r ∧ r < (n : Int) := by
  unfold hangL at h
  rw [Int.toNat_natCast] at h
  exact mem_rangeI.mp (List.mem_filter.mp h).1
def spTable (K : PySem.W.Frag) (T : Tx K mg) : Sp := fun vs H Q _ => ∃ (v : V) (t : Addr) (n : Nat) (bs : List BarD) (hl : List (Int × Int)) (ns : List Int) (q : Int), vs = [v, .ref t, .int q] ∧ Is K H (wbD T.C_Web T.C_Bar (n : Int) bs hl) v ∧ SqT K H t (ns.map V.int) ∧ ns.length = bs.length ∧ n ≤ 10 ∧ bs.length ≤ 8 ∧ (∀ b ∈ bs, BarOk (n : Int) b) ∧
  ∀ u H', Ext H H' → Is K H' (rowsD (tabRows n (hangL (n : Int) hl) q bs ns)) u → Q u H'
theorem ok_table (T : Tx K mg) : FnOk P w K mg base (L2.CX P w) 4 T.a_table T.fd_table ["web", "numbers", "parts"] (spTable K T) := by
  refine T.F_table.okX sc_table (fun vs H Q E h => ?_) (fun cdv A outer s H vs Q E hr h => ?_)
  · obtain ⟨v, t, n, bs, hl, ns, q, rfl, _⟩ := h
    rfl
  · obtain ⟨v, tn, n, bs, hl, ns, q, rfl, hv, htn, hnl, hn, h8, hbo, k⟩ := h
    refine ⟨_, (pss_cons (ps_set (i := 3) sc_table.nd rfl (Or.inr rfl) (pe_meth0 (pv 0) T.c_Web T.M_Web_hanging (ok_Web_hanging T) (hr.mono (by decide)) T.b_Web_hanging .nil passL))
      (pss_one (ps_ret (pe_lc (own := [("row", 4)]) (g := gName 4) (tt := tYes) (te := tTabE K) (by rfl) sc_table.nd (pi_list (pe_call (ok_bar_rows T) (hr.mono (by decide)) rfl T.m_bar_rows T.F_bar_rows.kp T.b_bar_rows .nil passL (pa_cons (pv 0) (pa_cons (pv 1) (pa_cons (pv 2) pa_nil))))) (blkOk_by (own := [("row", 4)]) (N := N_table) (sc := defScope s_table) (by decide +kernel)) (fun _ _ _ _ _ => (pg_name (i := 4) sc_table.nd rfl (Or.inr rfl))) (fun _ _ _ _ _ => pts_nil) (fun _ _ _ _ _ => (by exact pe_lc (own := [("rod", 5)]) (g := gName 5) (tt := tYes) (te := tOp (rIxL K) (tVar 4) (tVar 5)) (by rfl) sc_table.nd (pi_list (pv 3)) (blkOk_by (own := [("rod", 5)]) (N := N_table) (sc := scTab) (by decide +kernel)) (fun _ _ _ _ _ => (pg_name (i := 5) sc_table.nd rfl (Or.inl rfl))) (fun _ _ _ _ _ => pts_nil) (fun _ _ _ _ _ => (by exact pe_ix ix_list (pv 4) (pv 5) (fun _ _ => rfl))))))))), ?_⟩
    obtain ⟨a, dx, t, d, ws, rfl, ha, ht, hb, hd⟩ := wb_fields hv
    refine ⟨_, rfl, a, dx, _, rfl, ha, rfl, .ref a, (n : Int), bs, hl, rfl, hv, by omega, by omega, fun hp H1 hhp e1 hh1 => ?_⟩
    refine ⟨_, rfl, _, rfl, _, rfl, .ref a, tn, n, bs, hl, ns, q, rfl, hv.ext e1, htn.ext e1, hnl, hn, h8, hbo, fun u H2 e2 i2 => ?_⟩
    obtain ⟨l, xs, rfl, hls, hxs, hxl⟩ := rows_of i2
    have hh2 := e2 _ _ hh1
    have hhl : (hangL (n : Int) hl).length ≤ 10 := by
      unfold hangL
      refine Nat.le_trans (List.length_filter_le _ _) ?_
      rw [len_rangeI, Int.toNat_natCast]
      exact hn
    refine ⟨l, rfl, ⟨_, hls⟩, fun D hD => lc_list (xs := xs) (fun i H' => Ext H2 H' ∧ ∃ acc, H' D = some (.lst acc) ∧ IsL K (del H' D) (((tabRows n (hangL (n : Int) hl) q bs ns).take i).map rwI) acc) ⟨Ext.upd hD, [], upd_same, rfl⟩ (fun i H' _ p => hls.ext p.1) ?_ ?_⟩
    · rintro i y H3 hi ⟨e3, acc, hD3, hacc⟩
      obtain ⟨row, hrow, iy⟩ := isL_at' hxs hi
      obtain ⟨ra, rfl, hra⟩ := rwI_of iy
      have hrl : row.length = n := by
        obtain ⟨z, _, hz⟩ := List.mem_map.mp (List.mem_of_getElem? hrow)
        rw [← hz]
        exact len_barRow
      have hin : i < (barRows n q bs ns).length := (List.getElem?_eq_some_iff.mp hrow).1
      have hi8 : (barRows n q bs ns).length ≤ 8 := by
        unfold barRows
        rw [List.length_map, List.length_zip]
        omega
      refine ⟨rfl, tyes ?_⟩
      refine ⟨_, rfl, hp, rfl, lc_intsE (fun r => row.getD r.toNat 0) (SqL.of (e3 _ _ hh2)) (by omega) (fun r hr' H' e R hR => ?_) (fun D2 H4 hD2 e4 hD4 => ?_)⟩
      · have hm := mem_hangL hr'
        refine ⟨rfl, _, rfl, _, rfl, ra, _, _, _, rfl, rfl, (hra.ext e3).ext e, ?_, hR⟩
        have z := atI_int (row := row) (j := r.toNat) (by rw [hrl]; omega)
        rwa [show ((r.toNat : Nat) : Int) = r by omega] at z
      · have hD5 := e4 _ _ hD3
        have hne : D2 ≠ D := fun e => by rw [e, hD3] at hD2; cases hD2
        refine ⟨acc, hD5, ?_, (e3.trans e4).mut hD, _, upd_same, ?_⟩
        · rw [← hacc.length, List.length_map, List.length_take]
          exact Nat.lt_of_lt_of_le (show min i (tabRows n (hangL (n : Int) hl) q bs ns).length < 100 by omega) (by decide)
        · have ht : (tabRows n (hangL (n : Int) hl) q bs ns)[i]? = some (tabRow (hangL (n : Int) hl) row) := by
            unfold tabRows
            rw [List.getElem?_map, hrow]
            rfl
          rw [List.take_add_one, ht, List.map_append]
          refine isL_sn ((hacc.ext (DE.of e4)).ext DE.upd) (rwI_is (SqL.of ?_))
          rw [del_ne hne, upd_ne hne]
          exact hD4
    · rintro H3 ⟨e3, acc, hD3, hacc⟩
      rw [List.take_of_length_le (by unfold tabRows; rw [List.length_map, hxl]; exact Nat.le_refl _)] at hacc
      exact k _ _ ((e1.trans e2).trans e3) ⟨D, acc, rfl, SqL.of hD3, hacc.ext del_ext⟩
end
end K06

namespace K06
open PySem L2 RZ
section
variable {P : Program} {w : World} {K : PySem.W.Frag} {mg : Str → Option Value} {base : Heap}
theorem len_barRows {n : Nat} {q : Int} {bs : List BarD} {ns : List Int} (h : ns.length = bs.length) : (barRows n q bs ns).length = bs.length := by
  unfold barRows
  rw [List.length_map, List.length_zip]
  omega
theorem sq_tab {n : Nat} {hs : List Int} {q : Int} {bs : List BarD} {ns : List Int} (h : ns.length = bs.length) (hl : hs.length = bs.length) : Mx.Sq bs.length bs.length (tabRows n hs q bs ns) := by
  refine ⟨by unfold tabRows; rw [List.length_map, len_barRows h], fun row hr => ?_⟩
  obtain ⟨r, _, rfl⟩ := List.mem_map.mp hr
  unfold tabRow
  rw [List.length_map, hl]
theorem mem_set4 {l : List Int} {i : Nat} {v x : Int} (h : x ∈ l.set i v) : x ∈ l ∨ x = v := List.mem_or_eq_of_mem_set h
theorem barRow_small {n : Nat} {q : Int} {b : BarD} {x : Int} (hx : x.natAbs < 2 ^ 300) (hq : q.natAbs < 2 ^ 300) (l0 : 1 ≤ b.len) (l1 : b.len ≤ 1000000) : ∀ y ∈ barRow n q b x, y.natAbs < 2 ^ 400 := by
  have hql : (q * b.len).natAbs < 2 ^ 399 := by
    rw [Int.natAbs_mul]
    have h1 : q.natAbs * b.len.natAbs ≤ 2 ^ 300 * 2 ^ 20 := Nat.mul_le_mul (Nat.le_of_lt hq) (Nat.le_trans (show b.len.natAbs ≤ 1000000 by omega) (by decide))
    exact Nat.lt_of_le_of_lt h1 (by decide +kernel)
  have hx2 : x.natAbs < 2 ^ 399 := Nat.lt_trans hx (by decide +kernel)
  have e : (2 : Nat) ^ 400 = 2 ^ 399 + 2 ^ 399 := by decide +kernel
  intro y hy
  unfold barRow at hy
  rw [e]
  generalize (2 : Nat) ^ 399 = B at hql hx2
  rcases mem_set4 hy with hy | rfl
  · rcases mem_set4 hy with hy | rfl
    · rcases mem_set4 hy with hy | rfl
      · rw [(List.mem_replicate.mp hy).2]
        omega
      · omega
    · omega
  · omega
theorem tab_small {n : Nat} {hs : List Int} {q : Int} {bs : List BarD} {ns : List Int} (hx : ∀ x ∈ ns, x.natAbs < 2 ^ 300) (hq : q.natAbs < 2 ^ 300) (hb : ∀ b ∈ bs, 1 ≤ b.len ∧ b.len ≤ 1000000) (i j : Nat) : (Mx.ent (tabRows n hs q bs ns) i j).natAbs < 2 ^ 400 := by
  have pos : (0 : Int).natAbs < 2 ^ 400 := by decide +kernel
  have gd : ∀ (l : List Int) (j : Nat), (∀ y ∈ l, y.natAbs < 2 ^ 400) → (l.getD j 0).natAbs < 2 ^ 400 := fun l j h => by
    by_cases hj : j < l.length
    · rw [Mx.getD_lt 0 hj]
      exact h _ (List.getElem_mem _)
    · rw [Mx.getD_ge 0 (by omega)]
      exact pos
  unfold Mx.ent
  refine gd _ _ fun y hy => ?_
  by_cases hi : i < (tabRows n hs q bs ns).length
  · rw [Mx.getD_lt [] hi] at hy
    have hm : (tabRows n hs q bs ns)[i] ∈ tabRows n hs q bs ns := List.getElem_mem _
    obtain ⟨r, hr, hre⟩ := List.mem_map.mp hm
    rw [← hre] at hy
    obtain ⟨rod, _, rfl⟩ := List.mem_map.mp hy
    refine gd _ _ fun z hz => ?_
    obtain ⟨p, hp, rfl⟩ := List.mem_map.mp hr
    obtain ⟨p1, p2⟩ := List.of_mem_zip (a := p.1) (b := p.2) hp
    have := hb p.1 p1
    exact barRow_small (hx _ p2) hq this.1 this.2 z hz
  · rw [Mx.getD_ge [] (by omega)] at hy
    cases hy
def detB (n : Nat) (hs : List Int) (q : Int) (bs : List BarD) (ns : List Int) : Int := Mx.det bs.length (Mx.ent (tabRows n hs q bs ns))
end
end K06

namespace K06
open PySem L2 RZ
section
variable {P : Program} {w : World} {K : PySem.W.Frag} {mg : Str → Option Value} {base : Heap}
/-- what the held rods' heights give to a row -/
def askRow (hl : List (Int × Int)) (row : List Int) : Int := -(hl.map fun p => row.getD p.1.toNat 0 * p.2).sum
def askB (n : Nat) (q : Int) (hl : List (Int × Int)) (bs : List BarD) (ns : List Int) : List Int := (barRows n q bs ns).map (askRow hl)
abbrev scAsk : Scope := { kind := ScopeKind.function, names := [(Str.ofString ".0", NameKind.local), (Str.ofString "row", NameKind.cell), (Str.ofString "sum", NameKind.globalImplicit), (Str.ofString "held", NameKind.cell)], isGenerator := false, isCoroutine := false }
def gRH (K : PySem.W.Frag) : TG := gTup K 2 (gCons (gName 6) (gCons (gName 5) gNil))
def tAskIn (K : PySem.W.Frag) : TE := tLc (iItems (tVar 3)) (gRH K) tYes (tOp (rI CMulW fun i j => .int (i * j)) (tOp (rIxL K) (tVar 4) (tVar 6)) (tVar 5)) [6, 5]
def tAskE (K : PySem.W.Frag) : TE := tUn (rU fun i => .int (-i)) (tCB (rSum K) (tCons (tAskIn K) tNil))
def spAsked (K : PySem.W.Frag) (T : Tx K mg) : Sp := fun vs H Q _ => ∃ (v : V) (t : Addr) (n : Nat) (bs : List BarD) (hl : List (Int × Int)) (ns : List Int) (q : Int), vs = [v, .ref t, .int q] ∧ Is K H (wbD T.C_Web T.C_Bar (n : Int) bs hl) v ∧ SqT K H t (ns.map V.int) ∧ ns.length = bs.length ∧ n ≤ 10 ∧ bs.length ≤ 8 ∧ (∀ b ∈ bs, BarOk (n : Int) b) ∧
  (∀ p ∈ hl, (0 ≤ p.1 ∧ p.1 < (n : Int)) ∧ -1000000 ≤ p.2 ∧ p.2 ≤ 1000000) ∧ hl.length ≤ 10 ∧ (∀ x ∈ ns, x.natAbs < 2 ^ 300) ∧ q.natAbs < 2 ^ 300 ∧
  ∀ a H', H a = none → Ext H H' → H' a = some (.lst ((askB n q hl bs ns).map V.int)) → Q (.ref a) H'
theorem ok_asked (T : Tx K mg) : FnOk P w K mg base (L2.CX P w) 4 T.a_asked T.fd_asked ["web", "numbers", "parts"] (spAsked K T) := by
  refine T.F_asked.okX sc_asked (fun vs H Q E h => ?_) (fun cdv A outer s H vs Q E hr h => ?_)
  · obtain ⟨v, t, n, bs, hl, ns, q, rfl, _⟩ := h
    rfl
  · obtain ⟨v, tn, n, bs, hl, ns, q, rfl, hv, htn, hnl, hn, h8, hbo, hho, hhl, hsm, hqs, k⟩ := h
    refine ⟨_, (pss_cons (ps_set (i := 3) sc_asked.nd rfl (Or.inr rfl) (pe_meth0 (pv 0) T.c_Web T.M_Web_held (ok_Web_held T) (hr.mono (by decide)) T.b_Web_held .nil passL))
      (pss_one (ps_ret (pe_lock (pe_lc (own := [("row", 4)]) (g := gName 4) (tt := tYes) (te := tAskE K) (by rfl) sc_asked.nd (pi_list (pe_call (ok_bar_rows T) (hr.mono (by decide)) rfl T.m_bar_rows T.F_bar_rows.kp T.b_bar_rows .nil passL (pa_cons (pv 0) (pa_cons (pv 1) (pa_cons (pv 2) pa_nil))))) (blkOk_by (own := [("row", 4)]) (N := N_asked) (sc := defScope s_asked) (by decide +kernel)) (fun _ _ _ _ _ => (pg_name (i := 4) sc_asked.nd rfl (Or.inr rfl))) (fun _ _ _ _ _ => pts_nil)
        (fun _ _ _ _ _ => (by exact pe_un un_neg (pe_callB (cr_sum rfl) (by rfl) T.z_sum (by decide +kernel) (pa_cons (pe_lc (own := [("rod", 6), ("height", 5)]) (g := gRH K) (tt := tYes) (te := tOp (rI CMulW fun i j => .int (i * j)) (tOp (rIxL K) (tVar 4) (tVar 6)) (tVar 5)) (by rfl) sc_asked.nd (pi_items (pv 3)) (blkOk_by (own := [("rod", 6), ("height", 5)]) (N := N_asked) (sc := scAsk) (by decide +kernel)) (fun _ _ _ _ _ => (by exact pg_tup (by rfl) (pgs_cons (pg_name (i := 6) sc_asked.nd rfl (Or.inl rfl)) (pgs_cons (pg_name (i := 5) sc_asked.nd rfl (Or.inl rfl)) pgs_nil)))) (fun _ _ _ _ _ => pts_nil) (fun _ _ _ _ _ => (by exact pe_op op_mulW (pe_ix ix_list (pv 4) (pv 6) (fun _ _ => rfl)) (pv 5)))) pa_nil))))))))), ?_⟩
    obtain ⟨a, dx, t, d, ws, rfl, ha, ht, hb, hd⟩ := wb_fields hv
    refine ⟨_, rfl, a, dx, _, rfl, ha, rfl, .ref a, (n : Int), bs, hl, rfl, hv, fun hp hhp => ?_⟩
    refine ⟨hp, _, upd_same, trivial, fun od => ?_⟩
    have e1 : Ext H (upd (upd H hp (.dK (hK hl))) hp (.frz od (.dK (hK hl)))) := (Ext.upd hhp).mut hhp
    have hf1 : (upd (upd H hp (.dK (hK hl))) hp (.frz od (.dK (hK hl)))) hp = some (.frz od (.dK (hK hl))) := upd_same
    generalize upd (upd H hp (.dK (hK hl))) hp (.frz od (.dK (hK hl))) = H1 at e1 hf1 ⊢
    refine ⟨_, rfl, _, rfl, _, rfl, .ref a, tn, n, bs, hl, ns, q, rfl, hv.ext e1, htn.ext e1, hnl, hn, h8, hbo, fun u H2 e2 i2 => ?_⟩
    obtain ⟨l, xs, rfl, hls, hxs, hxl⟩ := rows_of i2
    have hf2 := e2 _ _ hf1
    have hi8 : (barRows n q bs ns).length ≤ 8 := by
      unfold barRows
      rw [List.length_map, List.length_zip]
      omega
    refine ⟨l, rfl, ⟨_, hls⟩, fun D hD => lc_list (xs := xs) (fun i H' => Ext H2 H' ∧ H' D = some (.lst ((((barRows n q bs ns).take i).map (askRow hl)).map V.int))) ⟨Ext.upd hD, upd_same⟩ (fun i H' _ p => hls.ext p.1) ?_ ?_⟩
    · rintro i y H3 hi ⟨e3, hD3⟩
      obtain ⟨row, hrow, iy⟩ := isL_at' hxs hi
      obtain ⟨ra, rfl, hra⟩ := rwI_of iy
      obtain ⟨⟨b, x⟩, hbx, hbr⟩ := List.mem_map.mp (List.mem_of_getElem? hrow)
      obtain ⟨hb1, hx1⟩ := List.of_mem_zip hbx
      have hrl : row.length = n := by
        rw [← hbr]
        exact len_barRow
      have hrs : ∀ y ∈ row, y.natAbs < 2 ^ 400 := by
        rw [← hbr]
        exact barRow_small (hsm x hx1) hqs (hbo b hb1).l0 (hbo b hb1).l1
      have hin : i < (barRows n q bs ns).length := (List.getElem?_eq_some_iff.mp hrow).1
      refine ⟨rfl, tyes ?_⟩
      refine ⟨_, rfl, hp, od, hK hl, rfl, e3 _ _ hf2, fun D2 hD2 => ?_⟩
      have hDD : D ≠ D2 := ne_of_none hD3 hD2
      have hkl : (hK hl).length = hl.length := by unfold hK; rw [List.length_map]
      refine lc_it walk_items (fun j H' => Ext H3 H' ∧ H' D2 = some (.lst (((hl.take j).map fun p => row.getD p.1.toNat 0 * p.2).map V.int))) ⟨Ext.upd hD2, upd_same⟩ (fun j H' _ p => p.1 _ _ (e3 _ _ hf2)) ?_ ?_
      · rintro j y H4 H5 hj ⟨e4, hD4⟩ ⟨tp, z1, z2, rfl, htp, rfl, hz1, hz2⟩
        rw [hkl] at hj
        obtain ⟨⟨r, h⟩, hr⟩ : ∃ p, hl[j]? = some p := ⟨_, List.getElem?_eq_getElem hj⟩
        unfold hK at hz1 hz2
        dsimp only at hz1 hz2
        rw [List.getElem?_map, hr] at hz1 hz2
        obtain rfl : V.int r = z1 := Option.some.inj hz1
        obtain rfl : V.int h = z2 := Option.some.inj hz2
        have hho' := hho _ (List.mem_of_getElem? hr)
        have hD5 := Ext.upd (o := HO.tup [V.int r, V.int h]) htp _ _ hD4
        have hra5 := ((hra.ext e3).ext e4).ext (Ext.upd (o := HO.tup [V.int r, V.int h]) htp)
        refine ⟨tp, _, rfl, SqT.of upd_same, rfl, _, _, rfl, _, _, rfl, rfl, ?_⟩
        refine ⟨rfl, tyes ?_⟩
        have z := atI_int (row := row) (j := r.toNat) (by have := hho'.1; rw [hrl]; omega)
        rw [show ((r.toNat : Nat) : Int) = r by have := hho'.1; omega] at z
        have hrb : (row.getD r.toNat 0).natAbs < 2 ^ 400 := by
          have := hho'.1
          rw [Mx.getD_lt 0 (by rw [hrl]; omega)]
          exact hrs _ (List.getElem_mem _)
        have hhb : h.natAbs < 2 ^ 20 := by
          have := hho'.2
          exact Nat.lt_of_le_of_lt (show h.natAbs ≤ 1000000 by omega) (by decide)
        refine ⟨_, rfl, _, rfl, ra, _, _, _, rfl, rfl, hra5, z, _, rfl, _, _, rfl, rfl, wide_mul (a := 400) (b := 20) hrb hhb (by decide) (by decide) (by decide), ?_⟩
        refine ⟨_, hD5, ?_, (e4.trans (Ext.upd htp)).mut hD2, ?_⟩
        · rw [List.length_map, List.length_map, List.length_take]
          exact Nat.lt_of_lt_of_le (show min j hl.length < 100 by omega) (by decide)
        · rw [upd_same, List.take_add_one, hr, List.map_append, List.map_append]
          rfl
      · rintro H4 ⟨e4, hD4⟩
        rw [hkl, List.take_length] at hD4
        have hD5 := e4 _ _ hD3
        refine ⟨D2, _, rfl, SqL.of hD4, _, rfl, _, hD5, ?_, (e3.trans e4).mut hD, ?_⟩
        · rw [List.length_map, List.length_map, List.length_take]
          exact Nat.lt_of_lt_of_le (show min i (barRows n q bs ns).length < 100 by omega) (by decide)
        · rw [upd_same, List.take_add_one, hrow, List.map_append, List.map_append]
          rfl
    · rintro H3 ⟨e3, hD3⟩
      rw [List.take_of_length_le (by rw [hxl]; exact Nat.le_refl _)] at hD3
      have hf3 := e3 _ _ hf2
      have hDp : D ≠ hp := fun e => by rw [e, hf2] at hD; cases hD
      refine ⟨hf3, k D _ (((e1.trans e2)).fresh hD) (((e1.trans e2).trans e3).mut hhp) ?_⟩
      rw [upd_ne hDp]
      exact hD3
end
end K06

namespace Mx
theorem Xr.detc {n i v : Nat} {A B : Nat → Nat → Int} (x : Xr n A B) : Mx.det n (cr B i fun r => B r v) = Mx.det n (cr A i fun r => A r v) := by
  induction x with
  | refl => rfl
  | @step B a b x ha hb hn ih =>
    rw [← ih, ← det_sx (cr B i fun r => B r v) ha hb hn]
    refine det_congr fun r k _ _ => ?_
    unfold cr sx
    by_cases hk : k = i
    · simp only [hk, if_true]
    · simp only [hk, if_false]
theorem Cl.solved {n w : Nat} {A : Nat → Nat → Int} {rs : List (List Int)} {kept : List Nat} {s : Int} (C : Cl n w n A rs kept s) (h : ¬ kept.length < n) {i v : Nat} (hi : i < n) : ent rs i v = Mx.det n (cr A i fun r => A r v) := by
  obtain ⟨B, xB, I⟩ := C.inv
  have hk : kept.length = n := by have := I.kn; omega
  have hid : ∀ l, l < n → kept.getD l 0 = l := by
    intro l hl
    rw [is_range C.sorted C.lt hk, getD_lt 0 (by rw [List.length_range]; exact hl), List.getElem_range]
  rw [hk] at I
  rw [← xB.detc, ← I.cramer v hi]
  refine det_congr fun r k _ hk2 => ?_
  show (if k = i then B r v else B r (kept.getD k 0)) = if k = i then B r v else B r k
  rw [hid k hk2]
end Mx
namespace K06
open PySem L2 RZ
theorem barRow_small2 {n : Nat} {q : Int} {b : BarD} {x : Int} (hx : x.natAbs < 2 ^ 300) (hq : q.natAbs < 2 ^ 300) (l0 : 1 ≤ b.len) (l1 : b.len ≤ 1000000) : ∀ y ∈ barRow n q b x, y.natAbs < 2 ^ 330 := by
  have hql : (q * b.len).natAbs < 2 ^ 329 := by
    rw [Int.natAbs_mul]
    have h1 : q.natAbs * b.len.natAbs ≤ 2 ^ 300 * 2 ^ 20 := Nat.mul_le_mul (Nat.le_of_lt hq) (Nat.le_trans (show b.len.natAbs ≤ 1000000 by omega) (by decide))
    exact Nat.lt_of_le_of_lt h1 (by decide +kernel)
  have hx2 : x.natAbs < 2 ^ 329 := Nat.lt_trans hx (by decide +kernel)
  have e : (2 : Nat) ^ 330 = 2 ^ 329 + 2 ^ 329 := by decide +kernel
  intro y hy
  unfold barRow at hy
  rw [e]
  generalize (2 : Nat) ^ 329 = B at hql hx2
  rcases mem_set4 hy with hy | rfl
  · rcases mem_set4 hy with hy | rfl
    · rcases mem_set4 hy with hy | rfl
      · rw [(List.mem_replicate.mp hy).2]
        omega
      · omega
    · omega
  · omega
theorem sum_small {B : Nat} : ∀ {l : List Int}, (∀ y ∈ l, y.natAbs ≤ B) → l.sum.natAbs ≤ l.length * B
  | [], _ => by rw [List.sum_nil]; exact Nat.zero_le _
  | y :: l, h => by
    have h1 := h y List.mem_cons_self
    have h2 := sum_small (l := l) fun z hz => h z (List.mem_cons_of_mem _ hz)
    rw [List.sum_cons, List.length_cons, Nat.add_mul, Nat.one_mul]
    omega
theorem askRow_small {hl : List (Int × Int)} {row : List Int} (hr : ∀ y ∈ row, y.natAbs < 2 ^ 330) (hh : ∀ p ∈ hl, -1000000 ≤ p.2 ∧ p.2 ≤ 1000000) (h10 : hl.length ≤ 10) : (askRow hl row).natAbs < 2 ^ 400 := by
  unfold askRow
  rw [Int.natAbs_neg]
  have h := sum_small (l := hl.map fun p => row.getD p.1.toNat 0 * p.2) (B := 2 ^ 330 * 2 ^ 20) fun y hy => by
    obtain ⟨p, hp, rfl⟩ := List.mem_map.mp hy
    rw [Int.natAbs_mul]
    have h1 := hh p hp
    refine Nat.mul_le_mul ?_ (Nat.le_trans (show p.2.natAbs ≤ 1000000 by omega) (by decide))
    by_cases hi : p.1.toNat < row.length
    · rw [Mx.getD_lt 0 hi]
      exact Nat.le_of_lt (hr _ (List.getElem_mem _))
    · rw [Mx.getD_ge 0 (by omega)]
      exact Nat.zero_le _
  rw [List.length_map] at h
  refine Nat.lt_of_le_of_lt h (Nat.lt_of_le_of_lt (Nat.mul_le_mul_right _ h10) (by decide +kernel))
/-- the table, and behind it what is asked of it -/
def augRows (n : Nat) (hs : List Int) (q : Int) (hl : List (Int × Int)) (bs : List BarD) (ns : List Int) : List (List Int) := (barRows n q bs ns).map fun row => tabRow hs row ++ [askRow hl row]
theorem aug_tab {n : Nat} {hs : List Int} {q : Int} {hl : List (Int × Int)} {bs : List BarD} {ns : List Int} {i j : Nat} (hj : j < hs.length) : Mx.ent (augRows n hs q hl bs ns) i j = Mx.ent (tabRows n hs q bs ns) i j := by
  unfold Mx.ent augRows tabRows
  simp only [List.getD_eq_getElem?_getD, List.getElem?_map]
  cases h : (barRows n q bs ns)[i]? with
  | none => rfl
  | some row =>
    show (tabRow hs row ++ [askRow hl row])[j]?.getD 0 = (tabRow hs row)[j]?.getD 0
    rw [List.getElem?_append_left (by unfold tabRow; rw [List.length_map]; exact hj)]
theorem aug_ask {n : Nat} {hs : List Int} {q : Int} {hl : List (Int × Int)} {bs : List BarD} {ns : List Int} {i : Nat} : Mx.ent (augRows n hs q hl bs ns) i hs.length = (askB n q hl bs ns).getD i 0 := by
  unfold Mx.ent augRows askB
  simp only [List.getD_eq_getElem?_getD, List.getElem?_map]
  cases h : (barRows n q bs ns)[i]? with
  | none => rfl
  | some row =>
    show (tabRow hs row ++ [askRow hl row])[hs.length]?.getD 0 = askRow hl row
    rw [List.getElem?_append_right (by unfold tabRow; rw [List.length_map]; exact Nat.le_refl _)]
    unfold tabRow
    rw [List.length_map, Nat.sub_self]
    rfl
/-- a hanging rod's height times the determinant -/
def cramB (n : Nat) (hs : List Int) (q : Int) (hl : List (Int × Int)) (bs : List BarD) (ns : List Int) (k : Nat) : Int := Mx.det bs.length (Mx.cr (Mx.ent (tabRows n hs q bs ns)) k fun r => (askB n q hl bs ns).getD r 0)
theorem cram_aug {n : Nat} {hs : List Int} {q : Int} {hl : List (Int × Int)} {bs : List BarD} {ns : List Int} (hl' : hs.length = bs.length) (k : Nat) : Mx.det bs.length (Mx.cr (Mx.ent (augRows n hs q hl bs ns)) k fun r => Mx.ent (augRows n hs q hl bs ns) r bs.length) = cramB n hs q hl bs ns k := by
  unfold cramB
  refine Mx.det_congr fun i j _ hj => ?_
  unfold Mx.cr
  by_cases h : j = k
  · rw [if_pos h, if_pos h, ← hl']
    exact aug_ask
  · rw [if_neg h, if_neg h]
    exact aug_tab (by omega)
theorem det_aug {n : Nat} {hs : List Int} {q : Int} {hl : List (Int × Int)} {bs : List BarD} {ns : List Int} (hl' : hs.length = bs.length) : Mx.det bs.length (Mx.ent (augRows n hs q hl bs ns)) = detB n hs q bs ns :=
  Mx.det_congr fun i j _ hj => aug_tab (by omega)
/-- a rod's height times the determinant -/
def topB (n : Nat) (hs : List Int) (q : Int) (hl : List (Int × Int)) (bs : List BarD) (ns : List Int) (r : Int) : Int := if r ∈ hl.map (·.1) then lookI hl r * detB n hs q bs ns else cramB n hs q hl bs ns (hs.idxOf r)
def sgnI (d : Int) : Int := if d < 0 then -1 else 1
end K06

namespace K06
open PySem L2 RZ
section
variable {P : Program} {w : World} {K : PySem.W.Frag} {mg : Str → Option Value} {base : Heap}
def topsB (n : Nat) (q : Int) (hl : List (Int × Int)) (bs : List BarD) (ns : List Int) : List Int := (rangeI n).map fun r => topB n (hangL (n : Int) hl) q hl bs ns r * sgnI (detB n (hangL (n : Int) hl) q bs ns)
theorem aug_row {n : Nat} {hs : List Int} {q : Int} {hl : List (Int × Int)} {bs : List BarD} {ns : List Int} (hsm : ∀ x ∈ ns, x.natAbs < 2 ^ 300) (hq : q.natAbs < 2 ^ 300) (hb : ∀ b ∈ bs, BarOk (n : Int) b) (hh : ∀ p ∈ hl, -1000000 ≤ p.2 ∧ p.2 ≤ 1000000) (h10 : hl.length ≤ 10) :
    ∀ row ∈ augRows n hs q hl bs ns, row.length = hs.length + 1 ∧ ∀ y ∈ row, y.natAbs < 2 ^ 400 := by
  intro row hr
  obtain ⟨br, hbr, rfl⟩ := List.mem_map.mp hr
  obtain ⟨⟨b, x⟩, hbx, rfl⟩ := List.mem_map.mp hbr
  obtain ⟨h1, h2⟩ := List.of_mem_zip hbx
  have hs' := barRow_small2 (n := n) (hsm x h2) hq (hb b h1).l0 (hb b h1).l1
  refine ⟨by unfold tabRow; rw [List.length_append, List.length_map]; rfl, fun y hy => ?_⟩
  rcases List.mem_append.mp hy with hy | hy
  · obtain ⟨r, _, rfl⟩ := List.mem_map.mp hy
    by_cases hi : r.toNat < (barRow n q b x).length
    · rw [Mx.getD_lt 0 hi]
      exact Nat.lt_trans (hs' _ (List.getElem_mem _)) (by decide +kernel)
    · rw [Mx.getD_ge 0 (Nat.not_lt.mp hi)]
      decide +kernel
  · rw [List.mem_singleton.mp hy]
    exact askRow_small hs' hh h10
theorem ent_small {B : Nat} (h0 : 0 < B) {rs : List (List Int)} (h : ∀ row ∈ rs, ∀ y ∈ row, y.natAbs < B) (i j : Nat) : (Mx.ent rs i j).natAbs < B := by
  unfold Mx.ent
  by_cases hi : i < rs.length
  · rw [Mx.getD_lt [] hi]
    by_cases hj : j < rs[i].length
    · rw [Mx.getD_lt 0 hj]
      exact h _ (List.getElem_mem _) _ (List.getElem_mem _)
    · rw [Mx.getD_ge 0 (by omega)]
      exact h0
  · rw [Mx.getD_ge [] (by omega), Mx.getD_ge 0 (Nat.zero_le _)]
    exact h0
theorem tIf_sgn {tt : TT} {t1 t2 : TE} {σ : L2.St} {H : Hp} {Q : VK} (sh : Int) (h : Q (.int (sgnI sh)) H) (ht : ∀ R : Bool → Hp → Prop, R (decide (sh < 0)) H → tt σ H R) (h1 : ∀ R : VK, R (.int (-1)) H → t1 σ H R) (h2 : ∀ R : VK, R (.int 1) H → t2 σ H R) : tIf tt t1 t2 σ H Q := by
  refine ht _ ?_
  unfold sgnI at h
  by_cases c : sh < 0
  · rw [decide_eq_true c]
    rw [if_pos c] at h
    exact iteT (h1 _ h)
  · rw [decide_eq_false c]
    rw [if_neg c] at h
    exact iteF (h2 _ h)
theorem seq_sgn {u : TS} {D : Ends} {σ : L2.St} {H : Hp} {sh : Int} (h7 : σ[7]? = some (some (.int sh))) (h : u D (σ.set 8 (some (.int (sgnI sh)))) H) :
    tSeq (tAsg (tIf (tTest (tOp (rI0 fun i j => V.bl (decide (i < j))) (tVar 7) (tC (V.int 0)))) (tUn (rU fun i => V.int (-i)) (tC (V.int 1))) (tC (V.int 1))) (gName 8)) u D σ H := by
  unfold tSeq tAsg
  refine tIf_sgn sh ?_ ?_ ?_ ?_
  · exact h
  · exact fun R hR => ⟨_, h7, _, _, rfl, rfl, _, rfl, hR⟩
  · exact fun R hR => ⟨_, rfl, hR⟩
  · exact fun R hR => hR
def fillB (n : Nat) (f : Int → Int) (S : List Int) : List Int := (rangeI n).map fun r => if r ∈ S then f r else 0
theorem len_fill {n : Nat} {f : Int → Int} {S : List Int} : (fillB n f S).length = n := by unfold fillB; rw [List.length_map, len_rangeI]
theorem fill_nil {n : Nat} {f : Int → Int} : fillB n f [] = List.replicate n 0 := by
  unfold fillB
  refine List.ext_getElem (by rw [List.length_map, len_rangeI, List.length_replicate]) fun i h1 h2 => ?_
  rw [List.getElem_map, List.getElem_replicate, if_neg List.not_mem_nil]
theorem fill_set {n : Nat} {f : Int → Int} {S : List Int} {r : Int} (h0 : 0 ≤ r) : (fillB n f S).set r.toNat (f r) = fillB n f (S ++ [r]) := by
  unfold fillB
  refine List.ext_getElem (by rw [List.length_set, List.length_map, List.length_map]) fun i h1 h2 => ?_
  rw [List.length_map, len_rangeI] at h2
  have hi : (rangeI n)[i]'(by rw [len_rangeI]; exact h2) = (i : Int) := by unfold rangeI; rw [List.getElem_map, List.getElem_range]
  rw [List.getElem_set, List.getElem_map, List.getElem_map, hi]
  by_cases e : r.toNat = i
  · rw [if_pos e, if_pos (by rw [show (i : Int) = r by omega]; exact List.mem_append_right _ (List.mem_singleton.mpr rfl)), show (i : Int) = r by omega]
  · rw [if_neg e]
    have hm : (i : Int) ∈ S ↔ (i : Int) ∈ S ++ [r] := by
      rw [List.mem_append, List.mem_singleton]
      exact ⟨Or.inl, fun z => z.elim id fun y => absurd (show r.toNat = i by omega) e⟩
    by_cases hs : (i : Int) ∈ S
    · rw [if_pos hs, if_pos (hm.mp hs)]
    · rw [if_neg hs, if_neg fun z => hs (hm.mpr z)]
theorem fill_all {n : Nat} {f : Int → Int} {S : List Int} (h : ∀ r : Int, 0 ≤ r → r < n → r ∈ S) : fillB n f S = (rangeI n).map f := by
  unfold fillB
  refine List.map_congr_left fun r hr => ?_
  have := mem_rangeI.mp hr
  rw [if_pos (h r this.1 this.2)]
theorem ixN_last {n : Nat} (h : 0 < n) : ixN n (-1) = some (n - 1) := by
  unfold ixN
  rw [if_neg (by decide), if_pos (by omega)]
  congr 1
  omega
theorem nodup_hangL {n : Int} {hl : List (Int × Int)} : (hangL n hl).Nodup := (nodup_rangeI _).sublist List.filter_sublist
theorem not_held {n : Int} {hl : List (Int × Int)} {r : Int} (h : r ∈ hangL n hl) : r ∉ hl.map (·.1) := fun z => by
  have := (List.mem_filter.mp h).2
  unfold offK at this
  rw [List.contains_iff_mem.mpr z] at this
  cases this
theorem held_or {n : Nat} {hl : List (Int × Int)} {r : Int} (h0 : 0 ≤ r) (h1 : r < (n : Int)) : r ∈ hl.map (·.1) ++ hangL (n : Int) hl := by
  rw [List.mem_append]
  by_cases z : r ∈ hl.map (·.1)
  · exact .inl z
  · refine .inr (List.mem_filter.mpr ⟨by rw [Int.toNat_natCast]; exact mem_rangeI.mpr ⟨h0, h1⟩, ?_⟩)
    unfold offK
    cases hc : (hl.map (·.1)).contains r with
    | false => rfl
    | true => exact absurd (List.contains_iff_mem.mp hc) z
theorem idx_at {l : List Int} {i : Nat} {r : Int} (hn : l.Nodup) (h : l[i]? = some r) : l.idxOf r = i := by
  obtain ⟨hi, rfl⟩ := List.getElem?_eq_some_iff.mp h
  exact List.Nodup.idxOf_getElem hn i hi
theorem look_of : ∀ {hl : List (Int × Int)} {r h : Int}, (hl.map (·.1)).Nodup → (r, h) ∈ hl → lookI hl r = h
  | [], _, _, _, m => by cases m
  | p :: hl, r, h, hn, m => by
    rw [List.map_cons, List.nodup_cons] at hn
    unfold lookI
    rcases List.mem_cons.mp m with e | m
    · rw [List.find?_cons, ← e, decide_eq_true rfl]
    · have : p.1 ≠ r := fun e => hn.1 (e ▸ List.mem_map.mpr ⟨_, m, rfl⟩)
      rw [List.find?_cons, decide_eq_false this]
      exact look_of hn.2 m
def spHeights (K : PySem.W.Frag) (T : Tx K mg) : Sp := fun vs H Q _ => ∃ (v : V) (t : Addr) (n : Nat) (bs : List BarD) (hl : List (Int × Int)) (ns : List Int) (q : Int), vs = [v, .ref t, .int q] ∧ Is K H (wbD T.C_Web T.C_Bar (n : Int) bs hl) v ∧ SqT K H t (ns.map V.int) ∧ ns.length = bs.length ∧ n ≤ 10 ∧ bs.length ≤ 8 ∧ (∀ b ∈ bs, BarOk (n : Int) b) ∧
  (∀ p ∈ hl, (0 ≤ p.1 ∧ p.1 < (n : Int)) ∧ -1000000 ≤ p.2 ∧ p.2 ≤ 1000000) ∧ (hl.map (·.1)).Nodup ∧ hl.length ≤ 10 ∧ (hangL (n : Int) hl).length = bs.length ∧ (∀ x ∈ ns, x.natAbs < 2 ^ 300) ∧ q.natAbs < 2 ^ 300 ∧
  (detB n (hangL (n : Int) hl) q bs ns = 0 → ∀ H', Ext H H' → Q .non H') ∧
  (detB n (hangL (n : Int) hl) q bs ns ≠ 0 → ∀ (p l : Addr) (H' : Hp), H p = none → H l = none → Ext H H' → H' p = some (.tup [.ref l, .int (detB n (hangL (n : Int) hl) q bs ns * sgnI (detB n (hangL (n : Int) hl) q bs ns))]) → H' l = some (.lst ((topsB n q hl bs ns).map V.int)) → Q (.ref p) H')
theorem ok_heights_at (T : Tx K mg) : FnOk P w K mg base (L2.CX P w) 6 T.a_heights_at T.fd_heights_at ["web", "numbers", "parts"] (spHeights K T) := by
  refine T.F_heights_at.okX sc_heights_at (fun vs H Q E h => ?_) (fun cdv A outer s H vs Q E hr h => ?_)
  · obtain ⟨v, t, n, bs, hl, ns, q, rfl, _⟩ := h
    rfl
  · obtain ⟨v, tn, n, bs, hl, ns, q, rfl, hv, htn, hnl, hn, h8, hbo, hho, hnd, hhl, hgl, hsm, hqs, k0, k⟩ := h
    refine ⟨_, (pss_cons (ps_set (i := 3) sc_heights_at.nd rfl (Or.inl rfl) (pe_call (ok_table T) (hr.mono (by decide)) rfl T.m_table T.F_table.kp T.b_table .nil passL (pa_cons (pv 0) (pa_cons (pv 1) (pa_cons (pv 2) pa_nil)))))
      (pss_cons (ps_set (i := 4) sc_heights_at.nd rfl (Or.inl rfl) (pe_call (ok_asked T) (hr.mono (by decide)) rfl T.m_asked T.F_asked.kp T.b_asked .nil passL (pa_cons (pv 0) (pa_cons (pv 1) (pa_cons (pv 2) pa_nil)))))
      (pss_cons (ps_setLc (i := 5) (own := [("row", 13), ("number", 14)]) (g := gTwo K 13 14) (tt := tYes) (te := tOp (rCatL K) (tVar 13) (tLst (tCons (tVar 14) tNil))) (by rfl) sc_heights_at.nd rfl rfl (sw_true rfl rfl rfl (by decide +kernel)) (pi_zipA (by rfl) T.z_zip (pa_cons (pv 3) (pa_cons (pv 4) pa_nil))) (blkOk_by (own := [("row", 13), ("number", 14)]) (N := N_heights_at) (sc := defScope s_heights_at) (by decide +kernel)) (fun _ _ _ _ _ => (by exact pg_tup rfl (pgs_cons (pg_name (i := 13) sc_heights_at.nd rfl (Or.inl rfl)) (pgs_cons (pg_name (i := 14) sc_heights_at.nd rfl (Or.inl rfl)) pgs_nil)))) (fun _ _ _ _ _ => pts_nil) (fun _ _ _ _ _ => (by exact pe_op op_catL (pv 13) (pe_lst (pa_cons (pv 14) pa_nil)))))
      (pss_cons (ps_asg (pe_call (ok_cleared T) (hr.mono (by decide)) rfl T.m_cleared T.F_cleared.kp T.b_cleared .nil passL (pa_cons (pv 5) (pa_cons (pe_callB call_len_seq (by rfl) T.z_len PySem.boot_len (pa_cons (pv 3) pa_nil)) pa_nil))) (pg_tup (by rfl) (pgs_cons (pg_name (i := 5) sc_heights_at.nd rfl (Or.inl rfl)) (pgs_cons (pg_name (i := 6) sc_heights_at.nd rfl (Or.inl rfl)) (pgs_cons (pg_name (i := 7) sc_heights_at.nd rfl (Or.inl rfl)) pgs_nil)))))
      (pss_cons (ps_if (pt_cmpR op_lt (pe_callB call_len_seq (by rfl) T.z_len PySem.boot_len (pa_cons (pv 6) pa_nil)) (pe_callB call_len_seq (by rfl) T.z_len PySem.boot_len (pa_cons (pv 3) pa_nil)) (nomark _)) (pss_one (ps_ret pe_non)) pss_nil)
      (pss_cons (ps_set (i := 8) sc_heights_at.nd rfl (Or.inl rfl) (pe_ifExp (pt_cmpR op_lt (pv 7) pe_int (nomark _)) (pe_un un_neg pe_int) pe_int))
      (pss_cons (ps_set (i := 9) sc_heights_at.nd rfl (Or.inl rfl) (pe_meth0 (pv 0) T.c_Web T.M_Web_held (ok_Web_held T) (hr.mono (by decide)) T.b_Web_held .nil passL))
      (pss_cons (ps_set (i := 10) sc_heights_at.nd rfl (Or.inl rfl) (pe_op op_rep (pe_lst (pa_cons pe_int pa_nil)) (pe_fld (pv 0) rfl)))
      (pss_cons (ps_lock (ps_for (passes_of rfl) rfl (pi_items (pv 9)) (pg_tup (by rfl) (pgs_cons (pg_name (i := 11) sc_heights_at.nd rfl (Or.inl rfl)) (pgs_cons (pg_name (i := 12) sc_heights_at.nd rfl (Or.inl rfl)) pgs_nil))) (pss_one (ps_asg (pe_op op_mulW (pe_op op_mulW (pv 12) (pv 7)) (pv 8)) (pg_sub (pv 10) (pv 11) set_list)))))
      (pss_cons (ps_for (passes_of rfl) rfl (pi_zipA (by rfl) T.z_zip (pa_cons (pe_meth0 (pv 0) T.c_Web T.M_Web_hanging (ok_Web_hanging T) (hr.mono (by decide)) T.b_Web_hanging .nil passL) (pa_cons (pv 5) pa_nil))) (pg_tup (by rfl) (pgs_cons (pg_name (i := 11) sc_heights_at.nd rfl (Or.inl rfl)) (pgs_cons (pg_name (i := 13) sc_heights_at.nd rfl (Or.inl rfl)) pgs_nil))) (pss_one (ps_asg (pe_op op_mulW (pe_ix ix_list (pv 13) (pe_un un_neg pe_int) (fun _ _ => rfl)) (pv 8)) (pg_sub (pv 10) (pv 11) set_list))))
      (pss_one (ps_ret (pe_tup (pa_cons (pv 10) (pa_cons (pe_op op_mulW (pv 7) (pv 8)) pa_nil))))))))))))))), ?_⟩
    obtain ⟨a, dx, t, d, ws, rfl, ha, ht, hb, hd⟩ := wb_fields hv
    rw [show L2.start N_heights_at [V.ref a, V.ref tn, V.int q] = [some (.ref a), some (.ref tn), some (.int q), none, none, none, none, none, none, none, none, none, none, none, none] from rfl]
    refine ⟨_, rfl, _, rfl, _, rfl, .ref a, tn, n, bs, hl, ns, q, rfl, hv, htn, hnl, hn, h8, hbo, fun u1 H1 e1 i1 => ?_⟩
    simp only [List.set_cons_succ, List.set_cons_zero]
    refine ⟨_, rfl, _, rfl, _, rfl, .ref a, tn, n, bs, hl, ns, q, rfl, hv.ext e1, htn.ext e1, hnl, hn, h8, hbo, hho, hhl, hsm, hqs, fun a2 H2 ha2 e2 hA2 => ?_⟩
    simp only [List.set_cons_succ, List.set_cons_zero]
    obtain ⟨l1, xs1, rfl, hl1, hxs1, hxl1⟩ := rows_of i1
    have hbl : (barRows n q bs ns).length = bs.length := len_barRows hnl
    have htl : (tabRows n (hangL (n : Int) hl) q bs ns).length = bs.length := by unfold tabRows; rw [List.length_map, hbl]
    have hal : (askB n q hl bs ns).length = bs.length := by unfold askB; rw [List.length_map, hbl]
    have hgl' : (augRows n (hangL (n : Int) hl) q hl bs ns).length = bs.length := by unfold augRows; rw [List.length_map, hbl]
    refine ⟨_, rfl, _, rfl, l1, a2, xs1, (askB n q hl bs ns).map V.int, rfl, .inl ⟨hl1.ext e2, SqL.of hA2, fun D hD => ?_⟩⟩
    refine lc_zipL (xs := xs1) (ys := (askB n q hl bs ns).map V.int) (by rw [List.length_map, hxl1, htl, hal]) (fun i H' => Ext H2 H' ∧ ∃ acc, H' D = some (.lst acc) ∧ IsL K (del H' D) (((augRows n (hangL (n : Int) hl) q hl bs ns).take i).map rwI) acc) ⟨Ext.upd hD, [], upd_same, rfl⟩ (fun i H' p => ⟨(hl1.ext e2).ext p.1, SqL.of (p.1 _ _ hA2)⟩) ?_ ?_
    · rintro i x y tp H3 hx hy ⟨e3, acc, hD3, hacc⟩ htp
      obtain ⟨trow, hrow, iy⟩ := isL_at' hxs1 hx
      obtain ⟨ra, rfl, hra⟩ := rwI_of iy
      have hin : i < (barRows n q bs ns).length := by
        have := (List.getElem?_eq_some_iff.mp hrow).1
        omega
      obtain ⟨row, hbr⟩ : ∃ row, (barRows n q bs ns)[i]? = some row := ⟨_, List.getElem?_eq_getElem hin⟩
      have e1' : trow = tabRow (hangL (n : Int) hl) row := by
        unfold tabRows at hrow
        rw [List.getElem?_map, hbr] at hrow
        exact (Option.some.inj hrow).symm
      have e2' : y = .int (askRow hl row) := by
        unfold askB at hy
        rw [List.getElem?_map, List.getElem?_map, hbr] at hy
        exact (Option.some.inj hy).symm
      subst e1' e2'
      have hwp : wipe (List.set [some (V.ref a), some (V.ref tn), some (V.int q), some (V.ref l1), none, none, none, none, none, none, none, none, none, none, none] 4 (some (V.ref a2))) (List.map (fun x => x.2) [(("row" : Str), 13), (("number" : Str), 14)]) = [some (.ref a), some (.ref tn), some (.int q), some (.ref l1), some (.ref a2), none, none, none, none, none, none, none, none, none, none] := rfl
      rw [hwp]
      refine ⟨tp, _, rfl, SqT.of upd_same, rfl, _, _, rfl, _, _, rfl, rfl, ?_⟩
      simp only [List.set_cons_succ, List.set_cons_zero]
      have e4 : Ext H3 (upd H3 tp (.tup [V.ref ra, V.int (askRow hl row)])) := Ext.upd htp
      have hD4 := e4 _ _ hD3
      have hra4 := ((hra.ext e2).ext e3).ext e4
      have hacc4 := hacc.ext (DE.of e4)
      generalize upd H3 tp (.tup [V.ref ra, V.int (askRow hl row)]) = H4 at e4 hD4 hra4 hacc4 ⊢
      have htr : (tabRow (hangL (n : Int) hl) row).length = bs.length := by unfold tabRow; rw [List.length_map, hgl]
      refine ⟨rfl, tyes ?_⟩
      refine ⟨_, rfl, _, rfl, by show 1 ≤ sizeLine; decide, fun A2 hA2' => ?_⟩
      refine ⟨ra, A2, _, _, rfl, rfl, hra4.ext (Ext.upd hA2'), SqL.of upd_same, ?_, fun A3 hA3 => ?_⟩
      · rw [List.length_map, htr]
        exact Nat.le_trans (show bs.length + 1 ≤ 100 by omega) (by decide)
      have e5 : Ext H4 (upd (upd H4 A2 (.lst [.int (askRow hl row)])) A3 (.lst ((tabRow (hangL (n : Int) hl) row).map V.int ++ [.int (askRow hl row)]))) := (Ext.upd hA2').trans (Ext.upd hA3)
      have hA35 : (upd (upd H4 A2 (.lst [.int (askRow hl row)])) A3 (.lst ((tabRow (hangL (n : Int) hl) row).map V.int ++ [.int (askRow hl row)]))) A3 = some (.lst ((tabRow (hangL (n : Int) hl) row ++ [askRow hl row]).map V.int)) := by
        rw [upd_same, List.map_append]
        rfl
      have hA3n : H4 A3 = none := (Ext.upd hA2').fresh hA3
      generalize upd (upd H4 A2 (.lst [.int (askRow hl row)])) A3 (.lst ((tabRow (hangL (n : Int) hl) row).map V.int ++ [.int (askRow hl row)])) = H5 at e5 hA35 ⊢
      have hD5 := e5 _ _ hD4
      have hAD : A3 ≠ D := fun e => by rw [e, hD4] at hA3n; cases hA3n
      have hir : (augRows n (hangL (n : Int) hl) q hl bs ns)[i]? = some (tabRow (hangL (n : Int) hl) row ++ [askRow hl row]) := by
        unfold augRows
        rw [List.getElem?_map, hbr]
        rfl
      refine ⟨acc, hD5, ?_, (((e3.trans e4).trans e5)).mut hD, _, upd_same, ?_⟩
      · rw [← hacc.length, List.length_map, List.length_take]
        exact Nat.lt_of_lt_of_le (show min i (augRows n (hangL (n : Int) hl) q hl bs ns).length < 100 by omega) (by decide)
      · rw [List.take_add_one, hir, List.map_append]
        refine isL_sn ((hacc4.ext (DE.of e5)).ext DE.upd) (rwI_is (SqL.of ?_))
        rw [del_ne hAD, upd_ne hAD]
        exact hA35
    · rintro H3 ⟨e3, acc, hD3, hacc⟩
      rw [hxl1, htl, ← hgl', List.take_length] at hacc
      have i5 : Is K H3 (rowsD (augRows n (hangL (n : Int) hl) q hl bs ns)) (.ref D) := ⟨D, acc, rfl, SqL.of hD3, hacc.ext del_ext⟩
      have e03 : Ext H H3 := (e1.trans e2).trans e3
      have hx1 : xs1.length = bs.length := by rw [hxl1, htl]
      have hrow := aug_row (n := n) (hs := hangL (n : Int) hl) hsm hqs hbo (fun p hp => (hho p hp).2) hhl
      refine ⟨_, rfl, _, rfl, l1, xs1, rfl, .inl ((hl1.ext e2).ext e3), ?_⟩
      rw [hx1]
      refine ⟨.ref D, augRows n (hangL (n : Int) hl) q hl bs ns, bs.length, bs.length + 1, rfl, i5, ⟨hgl', fun row hr => by rw [(hrow row hr).1, hgl]⟩, Nat.le_succ _, by omega, by omega, fun i j _ => ent_small (by decide +kernel) (fun row hr => (hrow row hr).2) i j, fun tt kp u rs' kept sh H4 e4 ht4 iu hkp C => ?_⟩
      refine ⟨tt, _, rfl, SqT.of ht4, rfl, _, _, rfl, _, _, rfl, _, _, rfl, rfl, ?_⟩
      rw [show List.set _ 7 _ = [some (V.ref a), some (V.ref tn), some (V.int q), some (V.ref l1), some (V.ref a2), some u, some (V.ref kp), some (V.int sh), none, none, none, none, none, none, none] from rfl]
      have hdet := C.det
      rw [det_aug hgl] at hdet
      have e04 : Ext H H4 := e03.trans e4
      refine ⟨_, rfl, kp, _, rfl, .inl (SqL.of hkp), _, rfl, l1, xs1, rfl, .inl (((hl1.ext e2).ext e3).ext e4), _, _, rfl, rfl, _, rfl, ite2 (fun c => ?_) (fun c => ?_)⟩
      · rw [if_pos (by
          have := of_decide_eq_true c
          rw [List.length_map, hx1] at this
          omega)] at hdet
        exact k0 hdet.symm H4 e04
      have hkl : ¬ kept.length < bs.length := fun z => c (decide_eq_true (by rw [List.length_map, hx1]; omega))
      rw [if_neg hkl] at hdet
      delta tNext
      dsimp only
      refine seq_sgn (sh := sh) rfl ?_
      simp only [List.set_cons_succ, List.set_cons_zero]
      have v4 := hv.ext e04
      refine ⟨_, rfl, a, dx, _, rfl, e04 _ _ ha, rfl, .ref a, (n : Int), bs, hl, rfl, v4, fun hp hhp => ?_⟩
      have e5 : Ext H4 (upd H4 hp (.dK (hK hl))) := Ext.upd hhp
      have hp5 : (upd H4 hp (.dK (hK hl))) hp = some (.dK (hK hl)) := upd_same
      generalize upd H4 hp (.dK (hK hl)) = H5 at e5 hp5 ⊢
      refine ⟨by show 1 ≤ sizeLine; decide, fun z1 hz1 => ?_⟩
      have e05 := e04.trans e5
      have hn3 : 0 ≤ (n : Int) := by omega
      refine ⟨_, rfl, a, T.C_Web, dx, _, _, rfl, Ext.upd hz1 _ _ (e05 _ _ ha), T.c_Web, T.nf_Web_rods, rfl, z1, (n : Int), _, rfl, rfl, upd_same, by omega, by omega, ?_, fun tl htl' => ?_⟩
      · show 1 * ((n : Int).toNat) ≤ sizeLine
        exact Nat.le_trans (show 1 * ((n : Int).toNat) ≤ 100 by omega) (by decide)
      rw [Int.toNat_natCast, rep_zero]
      simp only [List.set_cons_succ, List.set_cons_zero]
      have e46 : Ext H4 (upd (upd H5 z1 (.lst [.int 0])) tl (.lst ((List.replicate n (0 : Int)).map V.int))) := e5.trans ((Ext.upd hz1).trans (Ext.upd htl'))
      have htl6 : (upd (upd H5 z1 (.lst [.int 0])) tl (.lst ((List.replicate n (0 : Int)).map V.int))) tl = some (.lst ((List.replicate n (0 : Int)).map V.int)) := upd_same
      have hp6 : (upd (upd H5 z1 (.lst [.int 0])) tl (.lst ((List.replicate n (0 : Int)).map V.int))) hp = some (.dK (hK hl)) := ((Ext.upd hz1).trans (Ext.upd htl')) _ _ hp5
      have hp50 : (upd H5 z1 (.lst [.int 0])) hp = some (.dK (hK hl)) := Ext.upd hz1 _ _ hp5
      have htp : tl ≠ hp := fun e => by rw [e, hp50] at htl'; cases htl'
      have htl4 : H4 tl = none := (e5.trans (Ext.upd hz1)).fresh htl'
      generalize upd (upd H5 z1 (.lst [.int 0])) tl (.lst ((List.replicate n (0 : Int)).map V.int)) = H6 at e46 htl6 hp6 ⊢
      let f : Int → Int := fun r => topB n (hangL (n : Int) hl) q hl bs ns r * sgnI (detB n (hangL (n : Int) hl) q bs ns)
      have hkb : (hK hl).length = hl.length := by unfold hK; rw [List.length_map]
      have hab := fun i j => ent_small (B := 2 ^ 400) (by decide +kernel) (fun row hr => (hrow row hr).2) i j
      have bsh : sh.natAbs < 2 ^ 5000 := by
        rw [hdet, ← det_aug (hl := hl) hgl]
        exact Nat.lt_of_lt_of_le (Mx.det_bits (b := 400) (n := bs.length) (by omega) (fun p q _ _ => hab p q)) (Nat.pow_le_pow_right (by decide) (by omega))
      have bsg : (sgnI sh).natAbs < 2 ^ 1 := by unfold sgnI; split <;> decide
      refine ⟨hp, _, hp6, trivial, fun od => ?_⟩
      refine ⟨_, rfl, hp, od, hK hl, rfl, upd_same, ?_⟩
      refine for_it walk_items (fun j σ H' => Ext H4 H' ∧ H' hp = some (.frz od (.dK (hK hl))) ∧ H' tl = some (.lst ((fillB n f ((hl.take j).map (·.1))).map V.int)) ∧ ∃ v11 v12 : Option V, σ = [some (.ref a), some (.ref tn), some (.int q), some (.ref l1), some (.ref a2), some u, some (.ref kp), some (.int sh), some (.int (sgnI sh)), some (.ref hp), some (.ref tl), v11, v12, none, none])
        ⟨e46.mut hhp, upd_same, by rw [upd_ne htp, htl6, List.take_zero, List.map_nil, fill_nil], none, none, rfl⟩ (fun j σ H' _ p => p.2.1) ?_ ?_
      · rintro j y σ H7 H8 hj ⟨e7, hp7, htl7, v11, v12, rfl⟩ ⟨tp, y1, y2, rfl, htp', rfl, hz1', hz2'⟩
        rw [hkb] at hj
        obtain ⟨⟨r, h⟩, hr'⟩ : ∃ p, hl[j]? = some p := ⟨_, List.getElem?_eq_getElem hj⟩
        unfold hK at hz1' hz2'
        dsimp only at hz1' hz2'
        rw [List.getElem?_map, hr'] at hz1' hz2'
        obtain rfl : V.int r = y1 := Option.some.inj hz1'
        obtain rfl : V.int h = y2 := Option.some.inj hz2'
        have hm := List.mem_of_getElem? hr'
        have hho' := hho _ hm
        dsimp only at hho'
        have e8 : Ext H7 (upd H7 tp (.tup [V.int r, V.int h])) := Ext.upd htp'
        refine ⟨tp, _, rfl, SqT.of upd_same, rfl, _, _, rfl, _, _, rfl, rfl, ?_⟩
        simp only [List.set_cons_succ, List.set_cons_zero]
        have hhb : h.natAbs < 2 ^ 20 := Nat.lt_of_le_of_lt (show h.natAbs ≤ 1000000 by omega) (by decide)
        have bhs : (h * sh).natAbs < 2 ^ 5020 := by
          rw [Int.natAbs_mul]
          exact Nat.lt_of_lt_of_le (Nat.mul_lt_mul'' hhb bsh) (by rw [← Nat.pow_add]; exact Nat.le_refl _)
        refine ⟨_, rfl, _, rfl, _, _, rfl, rfl, wide_mul (a := 20) (b := 5000) hhb bsh (by decide) (by decide) (by decide), _, rfl, _, _, rfl, rfl, wide_mul (a := 5020) (b := 1) bhs bsg (by decide) (by decide) (by decide), ?_⟩
        have hf : h * sh * sgnI sh = f r := by
          show _ = topB n (hangL (n : Int) hl) q hl bs ns r * sgnI (detB n (hangL (n : Int) hl) q bs ns)
          unfold topB
          rw [if_pos (List.mem_map.mpr ⟨_, hm, rfl⟩), ← hdet, look_of hnd hm]
        refine ⟨_, rfl, _, rfl, tl, _, r, r.toNat, rfl, rfl, e8 _ _ htl7, ?_, ?_⟩
        · rw [List.length_map, len_fill]
          exact ixN_of hho'.1.1 hho'.1.2
        dsimp only
        rw [← List.map_set, hf, fill_set hho'.1.1]
        have hth : hp ≠ tl := fun e => htp e.symm
        refine ⟨(e7.trans e8).mut htl4, by rw [upd_ne hth]; exact e8 _ _ hp7, ?_, _, _, rfl⟩
        rw [upd_same, List.take_add_one, hr', List.map_append]
        rfl
      · rintro σ H7 ⟨e7, hp7, htl7, v11, v12, rfl⟩
        rw [hkb, List.take_length] at htl7
        refine ⟨hp7, ?_⟩
        have e8 : Ext H4 (upd H7 hp (.dK (hK hl))) := e7.mut hhp
        have htl8 : (upd H7 hp (.dK (hK hl))) tl = some (.lst ((fillB n f (hl.map (·.1))).map V.int)) := by rw [upd_ne htp]; exact htl7
        generalize upd H7 hp (.dK (hK hl)) = H8 at e8 htl8 ⊢
        obtain ⟨lu, xu, rfl, hlu, hxu, hxul⟩ := rows_of iu
        refine ⟨_, rfl, a, dx, _, rfl, (e04.trans e8) _ _ ha, rfl, .ref a, (n : Int), bs, hl, rfl, hv.ext (e04.trans e8), by omega, by omega, fun g H9 hg e9 hg9 => ?_⟩
        have htl9 := e9 _ _ htl8
        have hgt : g ≠ tl := fun e => by rw [e, htl8] at hg; cases hg
        have hrl' : rs'.length = bs.length := C.sq.1
        refine ⟨_, rfl, g, lu, (hangL (n : Int) hl).map V.int, xu, rfl, .inl ⟨SqL.of hg9, hlu.ext (e8.trans e9), ?_⟩⟩
        refine for_zipL (xs := (hangL (n : Int) hl).map V.int) (ys := xu) (by rw [List.length_map, hgl, hxul, hrl']) (fun j σ H' => Ext H4 H' ∧ H' g = some (.lst ((hangL (n : Int) hl).map V.int)) ∧ H' tl = some (.lst ((fillB n f (hl.map (·.1) ++ (hangL (n : Int) hl).take j)).map V.int)) ∧ ∃ v11 v12 v13 v14 : Option V, σ = [some (.ref a), some (.ref tn), some (.int q), some (.ref l1), some (.ref a2), some (.ref lu), some (.ref kp), some (.int sh), some (.int (sgnI sh)), some (.ref hp), some (.ref tl), v11, v12, v13, v14])
          ⟨e8.trans e9, hg9, by rw [htl9, List.take_zero, List.append_nil], v11, v12, none, none, rfl⟩ (fun j σ H' p => ⟨SqL.of p.2.1, hlu.ext p.1⟩) ?_ ?_
        · rintro j x y tp σ H10 hx hy ⟨e10, hg10, htl10, w11, w12, w13, w14, rfl⟩ htp'
          obtain ⟨r, hr', rfl⟩ : ∃ r, (hangL (n : Int) hl)[j]? = some r ∧ x = V.int r := by
            rw [List.getElem?_map] at hx
            cases e : (hangL (n : Int) hl)[j]? with
            | none => rw [e] at hx; cases hx
            | some n => rw [e] at hx; exact ⟨n, rfl, (Option.some.inj hx).symm⟩
          have hjn : j < bs.length := by rw [← hgl]; exact (List.getElem?_eq_some_iff.mp hr').1
          have hmr := List.mem_of_getElem? hr'
          have hr01 := mem_hangL hmr
          obtain ⟨row, hrow', iy⟩ := isL_at' hxu hy
          obtain ⟨ra, rfl, hra⟩ := rwI_of iy
          have hrl2 : row.length = bs.length + 1 := C.sq.2 row (List.mem_of_getElem? hrow')
          have hval : Mx.ent rs' j bs.length = row.getD bs.length 0 := by
            unfold Mx.ent
            rw [List.getD_eq_getElem?_getD (l := rs'), hrow']
            rfl
          have hcr : row.getD bs.length 0 = cramB n (hangL (n : Int) hl) q hl bs ns j := by
            rw [← hval, C.solved hkl hjn, cram_aug hgl]
          have hat : atI (row.map V.int) (-1) = some (.int (cramB n (hangL (n : Int) hl) q hl bs ns j)) := by
            unfold atI
            rw [List.length_map, hrl2, ixN_last (by omega)]
            show (row.map V.int)[bs.length + 1 - 1]? = _
            rw [Nat.add_sub_cancel, List.getElem?_map, List.getElem?_eq_getElem (by omega), ← hcr, Mx.getD_lt 0 (by omega)]
            rfl
          have bcr : (cramB n (hangL (n : Int) hl) q hl bs ns j).natAbs < 2 ^ 5000 := by
            rw [← cram_aug hgl]
            refine Nat.lt_of_lt_of_le (Mx.det_bits (b := 400) (n := bs.length) (by omega) (fun p q _ _ => ?_)) (Nat.pow_le_pow_right (by decide) (by omega))
            unfold Mx.cr
            split
            · exact hab _ _
            · exact hab _ _
          have e11 : Ext H10 (upd H10 tp (.tup [V.int r, V.ref ra])) := Ext.upd htp'
          refine ⟨tp, _, rfl, SqT.of upd_same, rfl, _, _, rfl, _, _, rfl, rfl, ?_⟩
          simp only [List.set_cons_succ, List.set_cons_zero]
          refine ⟨_, rfl, _, rfl, ra, _, _, _, rfl, rfl, (hra.ext e10).ext e11, hat, _, rfl, _, _, rfl, rfl, wide_mul (a := 5000) (b := 1) bcr bsg (by decide) (by decide) (by decide), ?_⟩
          have hf : cramB n (hangL (n : Int) hl) q hl bs ns j * sgnI sh = f r := by
            show _ = topB n (hangL (n : Int) hl) q hl bs ns r * sgnI (detB n (hangL (n : Int) hl) q bs ns)
            unfold topB
            rw [if_neg (not_held hmr), ← hdet, idx_at nodup_hangL hr']
          refine ⟨_, rfl, _, rfl, tl, _, r, r.toNat, rfl, rfl, e11 _ _ htl10, ?_, ?_⟩
          · rw [List.length_map, len_fill]
            exact ixN_of hr01.1 hr01.2
          dsimp only
          rw [← List.map_set, hf, fill_set hr01.1]
          refine ⟨(e10.trans e11).mut htl4, by rw [upd_ne hgt]; exact e11 _ _ hg10, ?_, _, _, _, _, rfl⟩
          rw [upd_same, List.take_add_one, hr', ← List.append_assoc]
          rfl
        · rintro σ H10 ⟨e10, hg10, htl10, w11, w12, w13, w14, rfl⟩
          rw [List.length_map, List.take_length, fill_all fun r h0 h1 => held_or h0 h1] at htl10
          refine ⟨_, rfl, _, rfl, _, rfl, _, _, rfl, rfl, wide_mul (a := 5000) (b := 1) bsh bsg (by decide) (by decide) (by decide), by show 2 ≤ sizeLine; decide, fun p hp' => ?_⟩
          have hlp : tl ≠ p := ne_of_none htl10 hp'
          have e0 := e04.trans e10
          refine k (by rw [← hdet]; exact (let ⟨_, _, I⟩ := C.inv; I.s0)) p tl _ (e0.fresh hp') (e04.fresh htl4) (e0.trans (Ext.upd hp')) (by rw [upd_same, ← hdet]) ?_
          rw [upd_ne hlp]
          exact htl10
end
end K06

namespace K06
open PySem L2
section
variable {P : Program} {w : World} {K : PySem.W.Frag} {mg : Str → Option Value} {base : Heap}
theorem filter_split (p : Int → Bool) : ∀ l : List Int, (l.filter p).length + (l.filter fun x => !p x).length = l.length
  | [] => rfl
  | x :: r => by
    have := filter_split p r
    rw [List.filter_cons, List.filter_cons, List.length_cons]
    cases h : p x
    · simp only [Bool.not_false, if_true, List.length_cons, Bool.false_eq_true, if_false]
      omega
    · simp only [Bool.not_true, if_true, List.length_cons, Bool.false_eq_true, if_false]
      omega
theorem normH_keys {hl : List (Int × Int)} : (normH hl).map (·.1) = srtI (hl.map (·.1)) := by
  unfold normH
  rw [List.map_map]
  exact List.map_id _
theorem off_norm {hl : List (Int × Int)} {r : Int} : offK (normH hl) r = offK hl r := by
  unfold offK
  rw [normH_keys]
  congr 1
  rw [Bool.eq_iff_iff, List.contains_iff_mem, List.contains_iff_mem]
  exact (srtI_perm _).mem_iff
theorem hang_norm {n : Int} {hl : List (Int × Int)} : hangL n (normH hl) = hangL n hl := by
  unfold hangL
  congr 1
  funext r
  exact off_norm
theorem WebOk.hang {n : Nat} {hl : List (Int × Int)} {bs : List BarD} (h : WebOk (n : Int) hl bs) : (hangL (n : Int) hl).length = bs.length := by
  unfold hangL
  rw [Int.toNat_natCast]
  have h1 : ((rangeI n).filter (offK hl)).length + ((rangeI n).filter fun x => (hl.map (·.1)).contains x).length = (rangeI n).length := by
    have := filter_split (fun x => (hl.map (·.1)).contains x) (rangeI n)
    unfold offK
    omega
  have h2 : ((rangeI n).filter fun x => (hl.map (·.1)).contains x).Perm (hl.map (·.1)) := by
    refine (List.perm_ext_iff_of_nodup ((nodup_rangeI n).filter _) h.nd).mpr fun x => ?_
    rw [List.mem_filter, List.contains_iff_mem]
    refine ⟨fun h => h.2, fun z => ⟨?_, z⟩⟩
    obtain ⟨q, hq, rfl⟩ := List.mem_map.mp z
    exact mem_rangeI.mpr (h.keys q hq).1
  have := h.sum
  rw [h2.length_eq, List.length_map, len_rangeI] at h1
  omega
theorem topB_small {n : Nat} {q : Int} {hl : List (Int × Int)} {bs : List BarD} {ns : List Int} (ok : WebOk (n : Int) hl bs) (hnl : ns.length = bs.length) (hsm : ∀ x ∈ ns, x.natAbs < 2 ^ 300) (hqs : q.natAbs < 2 ^ 300) (r : Int) : (topB n (hangL (n : Int) hl) q hl bs ns r).natAbs < 2 ^ 5020 := by
  have hrow := aug_row (n := n) (hs := hangL (n : Int) hl) hsm hqs ok.bars (fun p hp => (ok.keys p hp).2) (by have := ok.sum; have := ok.b1; have := ok.n10; omega)
  have hab := fun i j => ent_small (B := 2 ^ 400) (by decide +kernel) (fun row hr => (hrow row hr).2) i j
  have b8 := ok.b8
  have bd : (detB n (hangL (n : Int) hl) q bs ns).natAbs < 2 ^ 5000 := by
    rw [← det_aug (hl := hl) ok.hang]
    exact Nat.lt_of_lt_of_le (Mx.det_bits (b := 400) (n := bs.length) (by omega) (fun p q _ _ => hab p q)) (Nat.pow_le_pow_right (by decide) (by omega))
  unfold topB
  split
  · rename_i hm
    have := (ok.keys _ (look_mem hm)).2
    dsimp only at this
    rw [Int.natAbs_mul]
    exact Nat.lt_of_lt_of_le (Nat.mul_lt_mul'' (Nat.lt_of_le_of_lt (show (lookI hl r).natAbs ≤ 1000000 by omega) (show 1000000 < 2 ^ 20 by decide)) bd) (by rw [← Nat.pow_add]; exact Nat.le_refl _)
  · rw [← cram_aug ok.hang]
    refine Nat.lt_of_lt_of_le (Mx.det_bits (b := 400) (n := bs.length) (by omega) (fun p q _ _ => ?_)) (Nat.pow_le_pow_right (by decide) (by omega))
    unfold Mx.cr
    split
    · exact hab _ _
    · exact hab _ _
theorem askRow_perm {hl hl' : List (Int × Int)} (h : hl.Perm hl') (row : List Int) : askRow hl row = askRow hl' row := by
  unfold askRow
  congr 1
  induction h with
  | nil => rfl
  | cons x _ ih => rw [List.map_cons, List.map_cons, List.sum_cons, List.sum_cons, ih]
  | swap x y l =>
    simp only [List.map_cons, List.sum_cons]
    omega
  | trans _ _ ih1 ih2 => rw [ih1, ih2]
theorem norm_perm {hl : List (Int × Int)} (hn : (hl.map (·.1)).Nodup) : (normH hl).Perm hl := by
  have e : (hl.map (·.1)).map (fun r => (r, lookI hl r)) = hl := by
    rw [List.map_map]
    refine (List.map_congr_left fun p hp => ?_).trans (List.map_id _)
    show (p.1, lookI hl p.1) = p
    rw [look_of hn (h := p.2) hp]
  have z := (srtI_perm (hl.map (·.1))).map fun r => (r, lookI hl r)
  rw [e] at z
  exact z
theorem norm_nd {hl : List (Int × Int)} (hn : (hl.map (·.1)).Nodup) : ((normH hl).map (·.1)).Nodup := ((norm_perm hn).map (·.1)).nodup_iff.mpr hn
theorem look_norm {hl : List (Int × Int)} (hn : (hl.map (·.1)).Nodup) {r : Int} (hr : r ∈ hl.map (·.1)) : lookI (normH hl) r = lookI hl r :=
  look_of (norm_nd hn) ((norm_perm hn).mem_iff.mpr (look_mem hr))
theorem topB_norm {n : Nat} {hs : List Int} {q : Int} {hl : List (Int × Int)} {bs : List BarD} {ns : List Int} (hn : (hl.map (·.1)).Nodup) (r : Int) : topB n hs q (normH hl) bs ns r = topB n hs q hl bs ns r := by
  have hk : r ∈ (normH hl).map (·.1) ↔ r ∈ hl.map (·.1) := ((norm_perm hn).map (·.1)).mem_iff
  have ha : askB n q (normH hl) bs ns = askB n q hl bs ns := List.map_congr_left fun row _ => askRow_perm (norm_perm hn) row
  unfold topB
  by_cases h : r ∈ hl.map (·.1)
  · rw [if_pos h, if_pos (hk.mpr h), look_norm hn h]
  · rw [if_neg h, if_neg fun z => h (hk.mp z)]
    unfold cramB
    rw [ha]
/-- the law's web as the program holds it: what order asks of it -/
theorem norm_ok {n : Nat} {hl : List (Int × Int)} {bs : List BarD} (ok : WebOk (n : Int) hl bs) : (∀ p ∈ normH hl, (0 ≤ p.1 ∧ p.1 < (n : Int)) ∧ -1000000 ≤ p.2 ∧ p.2 ≤ 1000000) ∧ ((normH hl).map (·.1)).Nodup ∧ (normH hl).length ≤ 10 ∧ (hangL (n : Int) (normH hl)).length = bs.length := by
  refine ⟨fun p hp => ok.keys p ((norm_perm ok.nd).mem_iff.mp hp), norm_nd ok.nd, ?_, by rw [hang_norm]; exact ok.hang⟩
  rw [(norm_perm ok.nd).length_eq]
  have h1 := ok.sum
  have h2 := ok.b1
  have h3 := ok.n10
  omega
theorem det_small {n : Nat} {q : Int} {hl : List (Int × Int)} {bs : List BarD} {ns : List Int} (ok : WebOk (n : Int) hl bs) (hnl : ns.length = bs.length) (hsm : ∀ x ∈ ns, x.natAbs < 2 ^ 300) (hqs : q.natAbs < 2 ^ 300) : (detB n (hangL (n : Int) hl) q bs ns).natAbs < 2 ^ 5000 := by
  have hrow := aug_row (n := n) (hs := hangL (n : Int) hl) hsm hqs ok.bars (fun p hp => (ok.keys p hp).2) (by have := ok.sum; have := ok.b1; have := ok.n10; omega)
  have hab := fun i j => ent_small (B := 2 ^ 400) (by decide +kernel) (fun row hr => (hrow row hr).2) i j
  have b8 := ok.b8
  rw [← det_aug (hl := hl) ok.hang]
  exact Nat.lt_of_lt_of_le (Mx.det_bits (b := 400) (n := bs.length) (by omega) (fun p q _ _ => hab p q)) (Nat.pow_le_pow_right (by decide) (by omega))
theorem sgn_abs (x d : Int) : (x * sgnI d).natAbs = x.natAbs := by
  unfold sgnI
  split
  · rw [Int.mul_neg, Int.mul_one, Int.natAbs_neg]
  · rw [Int.mul_one]
theorem tops_small {n : Nat} {q : Int} {hl : List (Int × Int)} {bs : List BarD} {ns : List Int} (ok : WebOk (n : Int) hl bs) (hnl : ns.length = bs.length) (hsm : ∀ x ∈ ns, x.natAbs < 2 ^ 300) (hqs : q.natAbs < 2 ^ 300) {t : Int} (ht : t ∈ topsB n q hl bs ns) : t.natAbs < 2 ^ 5020 := by
  unfold topsB at ht
  obtain ⟨r, _, rfl⟩ := List.mem_map.mp ht
  rw [sgn_abs]
  exact topB_small ok hnl hsm hqs r
theorem len_tops {n : Nat} {q : Int} {hl : List (Int × Int)} {bs : List BarD} {ns : List Int} : (topsB n q hl bs ns).length = n := by
  unfold topsB
  rw [List.length_map, len_rangeI]
theorem sgn_pos {d : Int} (h : d ≠ 0) : 1 ≤ d * sgnI d := by
  unfold sgnI
  split
  · omega
  · omega
theorem tops_norm {n : Nat} {q : Int} {hl : List (Int × Int)} {bs : List BarD} {ns : List Int} (hn : (hl.map (·.1)).Nodup) : topsB n q (normH hl) bs ns = topsB n q hl bs ns := by
  unfold topsB
  rw [hang_norm]
  exact List.map_congr_left fun r _ => by rw [topB_norm hn]
end
end K06

namespace Mx
/-! linear in each row, and what that gives between the corners of a box -/
theorem det_rlin : ∀ {n r : Nat} (M : Nat → Nat → Int) (a b : Int) (u v : Nat → Int), r < n → det n (rr M r fun k => a * u k + b * v k) = a * det n (rr M r u) + b * det n (rr M r v) := by
  intro n
  induction n with
  | zero => intro r M a b u v h; omega
  | succ n ih =>
    intro r M a b u v h
    unfold det
    rw [← sm_mul, ← sm_mul, ← sm_add]
    refine sm_congr fun j hj => ?_
    cases r with
    | zero =>
      have e : ∀ w : Nat → Int, (fun i k => rr M 0 w (i + 1) (sk j k)) = fun i k => M (i + 1) (sk j k) := fun w => rfl
      have e2 : ∀ w : Nat → Int, rr M 0 w 0 j = w j := fun w => rfl
      rw [e, e, e, e2, e2, e2]
      grind
    | succ r =>
      have e : ∀ w : Nat → Int, (fun i k => rr M (r + 1) w (i + 1) (sk j k)) = rr (fun i k => M (i + 1) (sk j k)) r (fun k => w (sk j k)) := fun w => by
        funext i k
        unfold rr
        by_cases h : i = r
        · rw [if_pos (by omega), if_pos h]
        · rw [if_neg (by omega), if_neg h]
      have e2 : ∀ w : Nat → Int, rr M (r + 1) w 0 j = M 0 j := fun w => rfl
      rw [e, e, e, e2, e2, e2]
      rw [ih (fun i k => M (i + 1) (sk j k)) a b (fun k => u (sk j k)) (fun k => v (sk j k)) (by omega)]
      grind
structure RowLin (n : Nat) (F : (Nat → Nat → Int) → Int) : Prop where
  lin : ∀ (M : Nat → Nat → Int) (r : Nat) (a b : Int) (u v : Nat → Int), r < n → F (rr M r fun k => a * u k + b * v k) = a * F (rr M r u) + b * F (rr M r v)
theorem RowLin.det (n : Nat) : RowLin n (Mx.det n) := ⟨fun M _ a b u v h => det_rlin M a b u v h⟩
theorem RowLin.cram (n k w : Nat) : RowLin n fun M => Mx.det n (cr M k fun r => M r w) := ⟨fun M r a b u v h => by
  have e : ∀ z : Nat → Int, cr (rr M r z) k (fun i => rr M r z i w) = rr (cr M k fun i => M i w) r (fun j => if j = k then z w else z j) := fun z => by
    funext i j
    unfold cr rr
    by_cases h1 : i = r
    · by_cases h2 : j = k
      · simp only [h1, h2, if_true]
      · simp only [h1, h2, if_true, if_false]
    · by_cases h2 : j = k
      · simp only [h1, h2, if_true, if_false]
      · simp only [h1, h2, if_false]
  show Mx.det n (cr (rr M r _) k fun i => rr M r _ i w) = a * Mx.det n (cr (rr M r u) k fun i => rr M r u i w) + b * Mx.det n (cr (rr M r v) k fun i => rr M r v i w)
  rw [e, e, e, ← det_rlin _ a b _ _ h]
  congr 2
  funext j
  split <;> rfl⟩
theorem RowLin.smul {n : Nat} {F : (Nat → Nat → Int) → Int} (c : Int) (h : RowLin n F) : RowLin n fun M => c * F M := ⟨fun M r a b u v hr => by
  show c * F _ = a * (c * F _) + b * (c * F _)
  rw [h.lin M r a b u v hr]
  grind⟩
theorem RowLin.sub {n : Nat} {F G : (Nat → Nat → Int) → Int} (h : RowLin n F) (g : RowLin n G) : RowLin n fun M => F M - G M := ⟨fun M r a b u v hr => by
  show F _ - G _ = a * (F _ - G _) + b * (F _ - G _)
  rw [h.lin M r a b u v hr, g.lin M r a b u v hr]
  grind⟩
/-- rows that are linear in a place and the parts -/
def bx (A B : Nat → Nat → Int) (x : Nat → Int) (q : Nat → Int) : Nat → Nat → Int := fun i k => x i * A i k + q i * B i k
theorem bx_rr {A B : Nat → Nat → Int} {x q : Nat → Int} {m : Nat} {y p : Int} : bx A B (fun i => if i = m then y else x i) (fun i => if i = m then p else q i) = rr (bx A B x q) m fun k => y * A m k + p * B m k := by
  funext i k
  unfold bx rr
  by_cases h : i = m
  · subst h
    simp only [if_true]
  · simp only [h, if_false]
/-- what is above nought at all corners of a box is above nought in it -/
theorem box_pos {n : Nat} {F : (Nat → Nat → Int) → Int} (L : RowLin n F) (A B : Nat → Nat → Int) (lo hi x : Nat → Int) (q : Int) (hq : 0 < q) (hx : ∀ i, i < n → lo i * q ≤ x i ∧ x i ≤ hi i * q)
    (hc : ∀ c : Nat → Int, (∀ i, i < n → c i = lo i ∨ c i = hi i) → 0 < F (bx A B c fun _ => 1)) :
    ∀ m, m ≤ n → ∀ c : Nat → Int, (∀ i, m ≤ i → i < n → c i = lo i ∨ c i = hi i) → (∀ i, i < m → c i = x i) → 0 < F (bx A B c fun i => if i < m then q else 1) := by
  intro m
  induction m with
  | zero =>
    intro _ c h1 _
    have e : (fun i => if i < 0 then q else 1) = fun _ : Nat => (1 : Int) := by funext i; rw [if_neg (Nat.not_lt_zero i)]
    rw [e]
    exact hc c fun i hi => h1 i (Nat.zero_le _) hi
  | succ m ih =>
    intro hm c h1 h2
    -- the same with the row m at a corner
    have key : ∀ y : Int, (y = lo m ∨ y = hi m) → 0 < F (rr (bx A B c fun i => if i < m + 1 then q else 1) m fun k => y * A m k + 1 * B m k) := fun y hy => by
      have z := ih (by omega) (fun i => if i = m then y else c i) (fun i h3 h4 => by
        by_cases e : i = m
        · simp only [e, if_true]; exact hy
        · simp only [e, if_false]; exact h1 i (by omega) h4) (fun i h3 => by
        simp only [show i ≠ m by omega, if_false]
        exact h2 i (by omega))
      have e : (fun i => if i < m then q else (1 : Int)) = fun i => if i = m then 1 else if i < m + 1 then q else 1 := by
        funext i
        by_cases h : i = m
        · rw [if_neg (by omega), if_pos h]
        · rw [if_neg h]
          by_cases h' : i < m
          · rw [if_pos h', if_pos (by omega)]
          · rw [if_neg h', if_neg (by omega)]
      rw [e, bx_rr] at z
      exact z
    have self : bx A B c (fun i => if i < m + 1 then q else 1) = rr (bx A B c fun i => if i < m + 1 then q else 1) m fun k => c m * A m k + q * B m k := by
      have z := bx_rr (A := A) (B := B) (x := c) (q := fun i => if i < m + 1 then q else 1) (m := m) (y := c m) (p := q)
      rw [← z]
      congr 1
      · funext i; by_cases h : i = m
        · rw [if_pos h, h]
        · rw [if_neg h]
      · funext i; by_cases h : i = m
        · rw [if_pos h, if_pos (by omega)]
        · rw [if_neg h]
    obtain ⟨g1, g2⟩ := hx m (by omega)
    have hcm : c m = x m := h2 m (by omega)
    rw [self, hcm]
    have p1 := key (lo m) (.inl rfl)
    have p2 := key (hi m) (.inr rfl)
    generalize bx A B c (fun i => if i < m + 1 then q else 1) = M at p1 p2 ⊢
    have lin := L.lin M m (hi m * q - x m) (x m - lo m * q) (fun k => lo m * A m k + 1 * B m k) (fun k => hi m * A m k + 1 * B m k) (by omega)
    by_cases hd : lo m = hi m
    · have hxe : x m = lo m * q := by rw [← hd] at g2; omega
      have l2 := L.lin M m q 0 (fun k => lo m * A m k + 1 * B m k) (fun k => lo m * A m k + 1 * B m k) (by omega)
      have e : (fun k => x m * A m k + q * B m k) = fun k => q * (lo m * A m k + 1 * B m k) + 0 * (lo m * A m k + 1 * B m k) := by
        funext k
        rw [hxe]
        grind
      rw [e, l2]
      have := Int.mul_pos hq p1
      omega
    · have hlt : lo m < hi m := by
        have : lo m * q ≤ hi m * q := Int.le_trans g1 g2
        have := Int.le_of_mul_le_mul_right this hq
        omega
      have l3 := L.lin M m (hi m - lo m) 0 (fun k => x m * A m k + q * B m k) (fun k => x m * A m k + q * B m k) (by omega)
      have e : (fun k => (hi m - lo m) * (x m * A m k + q * B m k) + 0 * (x m * A m k + q * B m k)) = fun k => (hi m * q - x m) * (lo m * A m k + 1 * B m k) + (x m - lo m * q) * (hi m * A m k + 1 * B m k) := by
        funext k
        grind
      rw [e, lin] at l3
      refine Classical.byContradiction fun hn => ?_
      have n1 : (hi m - lo m) * F (rr M m fun k => x m * A m k + q * B m k) ≤ 0 := Int.mul_nonpos_of_nonneg_of_nonpos (by omega) (by omega)
      have a1 : 0 ≤ (hi m * q - x m) * F (rr M m fun k => lo m * A m k + 1 * B m k) := Int.mul_nonneg (by omega) (by omega)
      have a2 : 0 ≤ (x m - lo m * q) * F (rr M m fun k => hi m * A m k + 1 * B m k) := Int.mul_nonneg (by omega) (by omega)
      by_cases z : 0 < hi m * q - x m
      · have := Int.mul_pos z p1
        omega
      · have hz : 0 < x m - lo m * q := by
          have : lo m * q < hi m * q := Int.mul_lt_mul_of_pos_right hlt hq
          omega
        have := Int.mul_pos hz p2
        omega
end Mx

namespace Mx
/-- two columns change places -/
def sc (M : Nat → Nat → Int) (c d : Nat) : Nat → Nat → Int := fun i k => M i (if k = c then d else if k = d then c else k)
theorem det_sc {n c d : Nat} (M : Nat → Nat → Int) (hc : c < n) (hd : d < n) (hn : c ≠ d) : det n (sc M c d) = - det n M := by
  have h := det_swap (n := n) (c := c) (d := d) M (fun i => M i d) (fun i => M i c) hc hd hn
  rw [show cr (cr M c fun i => M i c) d (fun i => M i d) = M from by rw [cr_self, cr_self]] at h
  rw [← h]
  refine det_congr fun i k _ _ => ?_
  unfold sc cr
  by_cases e1 : k = d
  · rw [if_pos e1]
    by_cases e2 : k = c
    · exact absurd (e2.symm.trans e1) hn
    · rw [if_neg e2, if_pos e1]
  · rw [if_neg e1]
    by_cases e2 : k = c
    · rw [if_pos e2, if_pos e2, if_neg e1]
    · rw [if_neg e2, if_neg e1, if_neg e2]
theorem exists_max (f : Nat → Nat) : ∀ n, ∃ k, k < n + 1 ∧ ∀ j, j < n + 1 → f j ≤ f k
  | 0 => ⟨0, by omega, fun j hj => by rw [show j = 0 by omega]; exact Nat.le_refl _⟩
  | n + 1 => by
    obtain ⟨k, hk, h⟩ := exists_max f n
    by_cases c : f k ≤ f (n + 1)
    · refine ⟨n + 1, by omega, fun j hj => ?_⟩
      by_cases e : j = n + 1
      · rw [e]; exact Nat.le_refl _
      · exact Nat.le_trans (h j (by omega)) c
    · refine ⟨k, by omega, fun j hj => ?_⟩
      by_cases e : j = n + 1
      · rw [e]; omega
      · exact h j (by omega)
/-- a table whose rows stand each by one column of its own, the others of the row behind it in rank, has a determinant -/
theorem tri_ne : ∀ (n : Nat) (M : Nat → Nat → Int) (s rk : Nat → Nat), (∀ i, i < n → s i < n) → (∀ i j, i < n → j < n → s i = s j → i = j) → (∀ i, i < n → M i (s i) ≠ 0) →
    (∀ i k, i < n → k < n → k ≠ s i → M i k ≠ 0 → rk k < rk (s i)) → det n M ≠ 0
  | 0, M, s, rk, _, _, _, _ => by show (1 : Int) ≠ 0; decide
  | n + 1, M, s, rk, h1, h2, h3, h4 => by
    obtain ⟨k, hk, hmax⟩ := exists_max rk n
    -- some row stands by k
    obtain ⟨r, hr, hsr⟩ : ∃ r, r < n + 1 ∧ s r = k := by
      refine Classical.byContradiction fun hno => ?_
      have hl : ((List.range (n + 1)).map s).Nodup := by
        rw [List.nodup_iff_pairwise_ne, List.pairwise_map]
        refine List.Pairwise.imp_of_mem (fun ha hb hne e => hne ?_) (List.nodup_iff_pairwise_ne.mp (List.nodup_range (n := n + 1)))
        exact h2 _ _ (List.mem_range.mp ha) (List.mem_range.mp hb) e
      have hsub : ∀ c ∈ (List.range (n + 1)).map s, c ∈ (List.range (n + 1)).erase k := fun c hc => by
        obtain ⟨i, hi, rfl⟩ := List.mem_map.mp hc
        have hi' := List.mem_range.mp hi
        refine (List.mem_erase_of_ne fun e => hno ⟨i, hi', e⟩).mpr (List.mem_range.mpr (h1 i hi'))
      have hlen := List.Nodup.length_le_of_subset hl hsub
      rw [List.length_map, List.length_range, List.length_erase_of_mem (List.mem_range.mpr hk), List.length_range] at hlen
      omega
    have hz : ∀ i, i < n + 1 → i ≠ r → M i k = 0 := fun i hi hne => Classical.byContradiction fun hm => by
      have hki : k ≠ s i := fun e => hne (h2 i r hi hr (e.symm.trans hsr.symm))
      have := h4 i k hi hk hki hm
      have := hmax (s i) (h1 i hi)
      omega
    -- bring k behind
    let t : Nat → Nat := fun c => if c = k then n else if c = n then k else c
    have htt : ∀ c, t (t c) = c := fun c => by
      show (if (if c = k then n else if c = n then k else c) = k then n else if (if c = k then n else if c = n then k else c) = n then k else (if c = k then n else if c = n then k else c)) = c
      by_cases e1 : c = k
      · subst e1
        rw [if_pos rfl]
        by_cases e2 : n = c
        · rw [if_pos e2, e2]
        · rw [if_neg e2, if_pos rfl]
      · rw [if_neg e1]
        by_cases e2 : c = n
        · subst e2
          rw [if_pos rfl, if_pos rfl]
        · rw [if_neg e2, if_neg e1, if_neg e2]
    have htlt : ∀ c, c < n + 1 → t c < n + 1 := fun c hc => by
      show (if c = k then n else if c = n then k else c) < n + 1
      split
      · omega
      · split <;> omega
    have hM : det (n + 1) (fun i c => M i (t c)) = det (n + 1) M ∨ det (n + 1) (fun i c => M i (t c)) = - det (n + 1) M := by
      by_cases e : k = n
      · refine .inl (det_congr fun i c _ _ => ?_)
        show M i (if c = k then n else if c = n then k else c) = M i c
        by_cases e1 : c = k
        · rw [if_pos e1, e1, e]
        · rw [if_neg e1, if_neg (fun z => e1 (z.trans e.symm))]
      · exact .inr (det_sc M hk (Nat.lt_succ_self n) e)
    have hlast := det_last (n := n) (r := r) (fun i c => M i (t c)) (by omega) (fun i hi hne => by
      show M i (if n = k then n else if n = n then k else n) = 0
      by_cases e : n = k
      · rw [if_pos e, e]; exact hz i (by omega) hne
      · rw [if_neg e, if_pos rfl]; exact hz i (by omega) hne)
    have hrn : M r (t n) ≠ 0 := by
      show M r (if n = k then n else if n = n then k else n) ≠ 0
      have := h3 r hr
      rw [hsr] at this
      by_cases e : n = k
      · rw [if_pos e, e]; exact this
      · rw [if_neg e, if_pos rfl]; exact this
    have sklt : ∀ i, i < n → sk r i < n + 1 := fun i hi => by unfold sk; split <;> omega
    have skinj : ∀ i j, sk r i = sk r j → i = j := fun i j e => by
      have a := un_sk r i
      rw [e, un_sk] at a
      exact a.symm
    have tk : ∀ c, t c = n → c = k := fun c e => by
      have z := htt c
      rw [e] at z
      rw [← z]
      show (if n = k then n else if n = n then k else n) = k
      by_cases e1 : n = k
      · rw [if_pos e1, e1]
      · rw [if_neg e1, if_pos rfl]
    have sne : ∀ i, i < n → s (sk r i) ≠ k := fun i hi e => sk_ne r i (h2 _ _ (sklt i hi) hr (e.trans hsr.symm))
    have ih := tri_ne n (fun i c => M (sk r i) (t c)) (fun i => t (s (sk r i))) (fun c => rk (t c))
      (fun i hi => by
        have a := htlt _ (h1 _ (sklt i hi))
        have b : t (s (sk r i)) ≠ n := fun e => sne i hi (tk _ e)
        show t (s (sk r i)) < n
        omega)
      (fun i j hi hj e => skinj i j (h2 _ _ (sklt i hi) (sklt j hj) (by have := congrArg t e; rw [htt, htt] at this; exact this)))
      (fun i hi => by
        show M (sk r i) (t (t (s (sk r i)))) ≠ 0
        rw [htt]
        exact h3 _ (sklt i hi))
      (fun i c hi hc hne hm => by
        show rk (t c) < rk (t (t (s (sk r i))))
        rw [htt]
        exact h4 _ _ (sklt i hi) (htlt c (by omega)) (fun e => hne (by show c = t (s (sk r i)); rw [← e, htt])) hm)
    have hne : det (n + 1) (fun i c => M i (t c)) ≠ 0 := by
      rw [hlast]
      refine Int.mul_ne_zero (Int.mul_ne_zero ?_ hrn) ih
      unfold sg
      split <;> decide
    intro z
    rw [z] at hM
    rcases hM with e | e
    · exact hne e
    · exact hne (by rw [e]; rfl)
end Mx

namespace Mx
/-- A without its column j, v put in at p -/
def ins (A : Nat → Nat → Int) (v : Nat → Int) (j p : Nat) : Nat → Nat → Int := fun i l => if l = p then v i else A i (sk j (un p l))
theorem ins_self (A : Nat → Nat → Int) (v : Nat → Int) (j : Nat) : ins A v j j = cr A j v := by
  funext i l
  unfold ins cr
  by_cases e : l = j
  · rw [if_pos e, if_pos e]
  · rw [if_neg e, if_neg e, sk_un e]
theorem ins_step {n : Nat} (A : Nat → Nat → Int) (v : Nat → Int) (j p : Nat) (h : p + 1 < n) : det n (ins A v j (p + 1)) = - det n (ins A v j p) := by
  rw [← det_cs (ins A v j p) h]
  refine det_congr fun i l _ _ => ?_
  unfold cs ins
  by_cases e1 : l = p
  · rw [if_pos e1, if_neg (by omega), if_neg (by omega)]
    congr 2
    unfold un
    rw [if_pos (by omega), if_neg (by omega)]
    omega
  · rw [if_neg e1]
    by_cases e2 : l = p + 1
    · rw [if_pos e2, if_pos e2, if_pos rfl]
    · rw [if_neg e2, if_neg e2, if_neg e1]
      congr 2
      unfold un
      by_cases e3 : l < p
      · rw [if_pos e3, if_pos (by omega)]
      · rw [if_neg e3, if_neg (by omega)]
theorem ins_far {n : Nat} (A : Nat → Nat → Int) (v : Nat → Int) (j : Nat) : ∀ d, j + d < n → det n (ins A v j (j + d)) = sg d * det n (cr A j v)
  | 0, h => by
    rw [Nat.add_zero, ins_self]
    show _ = 1 * _
    rw [Int.one_mul]
  | d + 1, h => by
    rw [← Nat.add_assoc, ins_step A v j (j + d) (by omega), ins_far A v j d (by omega), sg_succ, Int.neg_mul]
theorem det_same {n a b : Nat} (M : Nat → Nat → Int) (ha : a < n) (hb : b < n) (h : a ≠ b) (he : ∀ k, M a k = M b k) : det n M = 0 := by
  have z := det_rows M ha hb h
  have e : det n (fun i k => M (tr a b i) k) = det n M := det_congr fun i k _ _ => by
    show M (tr a b i) k = M i k
    unfold tr
    by_cases e1 : i = a
    · rw [if_pos e1, e1]; exact (he k).symm
    · rw [if_neg e1]
      by_cases e2 : i = b
      · rw [if_pos e2, e2]; exact he k
      · rw [if_neg e2]
  rw [e] at z
  omega
/-- the columns' determinants solve the rows -/
theorem cramer {n : Nat} (A : Nat → Nat → Int) (v : Nat → Int) {i : Nat} (hi : i < n) : sm n (fun j => A i j * det n (cr A j v)) = v i * det n A := by
  obtain ⟨m, rfl⟩ : ∃ m, n = m + 1 := ⟨n - 1, by omega⟩
  let B : Nat → Nat → Int := fun r c => if c < m + 1 then A (if r = 0 then i else r - 1) c else v (if r = 0 then i else r - 1)
  have h0 : det (m + 2) B = 0 := det_same B (a := 0) (b := i + 1) (by omega) (by omega) (by omega) fun k => by
    show (if k < m + 1 then A (if (0 : Nat) = 0 then i else 0 - 1) k else v (if (0 : Nat) = 0 then i else 0 - 1)) = (if k < m + 1 then A (if i + 1 = 0 then i else i + 1 - 1) k else v (if i + 1 = 0 then i else i + 1 - 1))
    simp
  have hx : det (m + 2) B = sm (m + 1) (fun j => sg j * B 0 j * det (m + 1) fun r k => B (r + 1) (sk j k)) + sg (m + 1) * B 0 (m + 1) * det (m + 1) fun r k => B (r + 1) (sk (m + 1) k) := rfl
  have b0 : ∀ j, j < m + 1 → B 0 j = A i j := fun j hj => by
    show (if j < m + 1 then A (if (0 : Nat) = 0 then i else 0 - 1) j else _) = _
    rw [if_pos hj, if_pos rfl]
  have b1 : B 0 (m + 1) = v i := by
    show (if m + 1 < m + 1 then _ else v (if (0 : Nat) = 0 then i else 0 - 1)) = _
    rw [if_neg (by omega), if_pos rfl]
  have bs : ∀ r c, B (r + 1) c = if c < m + 1 then A r c else v r := fun r c => by
    show (if c < m + 1 then A (if r + 1 = 0 then i else r + 1 - 1) c else v (if r + 1 = 0 then i else r + 1 - 1)) = _
    simp
  have last : det (m + 1) (fun r k => B (r + 1) (sk (m + 1) k)) = det (m + 1) A := det_congr fun r k _ hk => by
    rw [bs]
    have : sk (m + 1) k = k := by unfold sk; rw [if_pos hk]
    rw [this, if_pos hk]
  have mid : ∀ j, j < m + 1 → det (m + 1) (fun r k => B (r + 1) (sk j k)) = sg (m - j) * det (m + 1) (cr A j v) := fun j hj => by
    rw [← ins_far (n := m + 1) A v j (m - j) (by omega), show j + (m - j) = m by omega]
    refine det_congr fun r k _ hk => ?_
    rw [bs]
    unfold ins
    by_cases e : k = m
    · rw [if_pos e, if_neg (by unfold sk; split <;> omega)]
    · rw [if_neg e, if_pos (by unfold sk; split <;> omega)]
      congr 2
      unfold un
      rw [if_pos (by omega)]
  have hsum : sm (m + 1) (fun j => sg j * B 0 j * det (m + 1) fun r k => B (r + 1) (sk j k)) = sg m * sm (m + 1) (fun j => A i j * det (m + 1) (cr A j v)) := by
    rw [← sm_mul]
    refine sm_congr fun j hj => ?_
    rw [b0 j hj, mid j hj]
    have e : sg m = sg j * sg (m - j) := by rw [← sg_add]; congr 1; omega
    rw [e]
    simp only [Int.mul_assoc, Int.mul_left_comm (A i j) (sg (m - j))]
  rw [hx, hsum, b1, last, sg_succ] at h0
  have e2 : sg m * (sm (m + 1) (fun j => A i j * det (m + 1) (cr A j v)) - v i * det (m + 1) A) = 0 := by
    rw [Int.mul_sub]
    rw [Int.neg_mul, Int.neg_mul, Int.mul_assoc] at h0
    omega
  have e3 : sg m ≠ 0 := by unfold sg; split <;> decide
  rcases Int.mul_eq_zero.mp e2 with z | z
  · exact absurd z e3
  · omega
end Mx

namespace K06
open PySem L2
theorem idxA {l : List Int} (hn : l.Nodup) : ∀ {i : Nat} {a : Int}, l[i]? = some a → l.idxOf a = i := by
  induction l with
  | nil => intro i a h; cases h
  | cons x l ih =>
    intro i a h
    rw [List.nodup_cons] at hn
    cases i with
    | zero =>
      have : x = a := Option.some.inj h
      subst this
      rw [List.idxOf_cons, beq_self_eq_true]
      rfl
    | succ i =>
      have hm : a ∈ l := List.mem_of_getElem? (i := i) h
      have hne : (x == a) = false := beq_eq_false_iff_ne.mpr fun e => hn.1 (e ▸ hm)
      rw [List.idxOf_cons, hne]
      show l.idxOf a + 1 = i + 1
      rw [ih hn.2 (i := i) h]
theorem at_idx {l : List Int} : ∀ {a : Int}, a ∈ l → l[l.idxOf a]? = some a := by
  induction l with
  | nil => intro a h; cases h
  | cons x l ih =>
    intro a h
    by_cases e : x = a
    · subst e
      rw [List.idxOf_cons, beq_self_eq_true]
      rfl
    · have hm : a ∈ l := (List.mem_cons.mp h).resolve_left fun z => e z.symm
      rw [List.idxOf_cons, beq_eq_false_iff_ne.mpr e]
      exact ih hm
theorem getD_set' (l : List Int) (i j : Nat) (v : Int) : (l.set i v).getD j 0 = if i = j ∧ j < l.length then v else l.getD j 0 := by
  rw [List.getD_eq_getElem?_getD, List.getD_eq_getElem?_getD, List.getElem?_set]
  by_cases e : i = j
  · subst e
    by_cases h : i < l.length
    · rw [if_pos rfl, if_pos h, if_pos ⟨rfl, h⟩]; rfl
    · rw [if_pos rfl, if_neg h, if_neg fun z => h z.2, List.getElem?_eq_none (by omega)]
  · rw [if_neg e, if_neg fun z => e z.1]
/-- what a bar asks of a rod -/
def coef (q : Int) (b : BarD) (x : Int) (r : Int) : Int := if r = b.c then q * b.len else if r = b.b then -x else if r = b.a then x - q * b.len else 0
theorem bar_val {n : Nat} {q x : Int} {b : BarD} (ok : BarOk (n : Int) b) {r : Int} (h0 : 0 ≤ r) (h1 : r < (n : Int)) : (barRow n q b x).getD r.toNat 0 = coef q b x r := by
  unfold barRow coef
  have a0 := ok.a0; have a1 := ok.a1; have b0 := ok.b0; have b1 := ok.b1; have c0 := ok.c0; have c1 := ok.c1
  rw [getD_set', List.length_set, List.length_set, List.length_replicate]
  by_cases e1 : r = b.c
  · rw [if_pos e1, if_pos ⟨by rw [e1], by omega⟩]
  · rw [if_neg e1, if_neg (fun z => e1 (by omega)), getD_set', List.length_set, List.length_replicate]
    by_cases e2 : r = b.b
    · rw [if_pos e2, if_pos ⟨by rw [e2], by omega⟩]
    · rw [if_neg e2, if_neg (fun z => e2 (by omega)), getD_set', List.length_replicate]
      by_cases e3 : r = b.a
      · rw [if_pos e3, if_pos ⟨by rw [e3], by omega⟩]
      · rw [if_neg e3, if_neg (fun z => e3 (by omega)), List.getD_eq_getElem?_getD]
        by_cases e4 : r.toNat < n
        · rw [List.getElem?_replicate, if_pos e4]; rfl
        · rw [List.getElem?_eq_none (by rw [List.length_replicate]; omega)]; rfl
theorem row_at {n : Nat} {q : Int} {bs : List BarD} {ns : List Int} (hnl : ns.length = bs.length) {i : Nat} {b : BarD} {x : Int} (hb : bs[i]? = some b) (hx : ns[i]? = some x) : (barRows n q bs ns)[i]? = some (barRow n q b x) := by
  unfold barRows
  have hz : (bs.zip ns)[i]? = some (b, x) := by rw [List.getElem?_zip_eq_some]; exact ⟨hb, hx⟩
  rw [List.getElem?_map, hz]
  rfl
theorem tab_ent {n : Nat} {hs : List Int} {q : Int} {bs : List BarD} {ns : List Int} (hnl : ns.length = bs.length) {i k : Nat} {b : BarD} {x r : Int} (hb : bs[i]? = some b) (hx : ns[i]? = some x) (hr : hs[k]? = some r) (ok : BarOk (n : Int) b) (h0 : 0 ≤ r) (h1 : r < (n : Int)) :
    Mx.ent (tabRows n hs q bs ns) i k = coef q b x r := by
  unfold Mx.ent tabRows
  rw [List.getD_eq_getElem?_getD (l := (barRows n q bs ns).map (tabRow hs)), List.getElem?_map, row_at hnl hb hx]
  show (tabRow hs (barRow n q b x)).getD k 0 = _
  unfold tabRow
  rw [List.getD_eq_getElem?_getD, List.getElem?_map, hr]
  exact bar_val ok h0 h1
theorem hang_nodup {n : Nat} {hl : List (Int × Int)} : (hangL (n : Int) hl).Nodup := by
  unfold hangL
  exact (nodup_rangeI _).sublist List.filter_sublist
theorem mem_hang {n : Nat} {hl : List (Int × Int)} {r : Int} (h0 : 0 ≤ r) (h1 : r < (n : Int)) (h : r ∉ hl.map (·.1)) : r ∈ hangL (n : Int) hl := by
  unfold hangL
  rw [List.mem_filter]
  refine ⟨mem_rangeI.mpr ⟨h0, by rw [Int.toNat_natCast]; exact h1⟩, ?_⟩
  unfold offK
  rw [Bool.not_eq_true', Bool.eq_false_iff]
  intro z
  exact h (List.contains_iff_mem.mp z)
theorem hang_off {n : Nat} {hl : List (Int × Int)} {r : Int} (h : r ∈ hangL (n : Int) hl) : r ∉ hl.map (·.1) := by
  unfold hangL at h
  have z := (List.mem_filter.mp h).2
  unfold offK at z
  rw [Bool.not_eq_true', Bool.eq_false_iff] at z
  exact fun y => z (List.contains_iff_mem.mpr y)
theorem hang_len {n : Nat} {hl : List (Int × Int)} {bs : List BarD} (ok : WebOk (n : Int) hl bs) : (hangL (n : Int) hl).length = bs.length := ok.hang
/-- a web of such bars has a stand wherever its hooks sit -/
theorem line_det {n : Nat} {hl : List (Int × Int)} {bs : List BarD} {ns : List Int} {q : Int} (ok : WebOk (n : Int) hl bs) (li : LineOk hl bs) (q1 : 1 ≤ q) (hnl : ns.length = bs.length) : detB n (hangL (n : Int) hl) q bs ns ≠ 0 := by
  obtain ⟨ln, c, hnd, hk, hst, hcs⟩ := li
  have hang := hang_len ok
  have hoff : ∀ b ∈ bs, b.c ∈ hangL (n : Int) hl := fun b hb => by
    obtain ⟨j, hj, hjc, _⟩ := hst b hb
    have okb := ok.bars b hb
    refine mem_hang okb.c0 okb.c1 fun z => ?_
    rw [hk] at z
    obtain ⟨m, hm, e⟩ := List.getElem_of_mem z
    rw [List.length_take] at hm
    rw [List.getElem_take] at e
    have h1 := idxA hnd hjc
    have h2 := idxA hnd (i := m) (a := b.c) (by rw [← e]; exact List.getElem?_eq_getElem _)
    omega
  have bat : ∀ i, i < bs.length → ∃ b x, bs[i]? = some b ∧ ns[i]? = some x ∧ bs.getD i ⟨0, 0, 0, 0, 0, 0⟩ = b := fun i hi => by
    have h1 : bs[i]? = some bs[i] := List.getElem?_eq_getElem hi
    have h2 : ns[i]? = some (ns[i]'(by omega)) := List.getElem?_eq_getElem _
    exact ⟨_, _, h1, h2, by rw [List.getD_eq_getElem?_getD, h1]; rfl⟩
  refine Mx.tri_ne bs.length (Mx.ent (tabRows n (hangL (n : Int) hl) q bs ns)) (fun i => (hangL (n : Int) hl).idxOf (bs.getD i ⟨0, 0, 0, 0, 0, 0⟩).c) (fun k => ln.idxOf ((hangL (n : Int) hl).getD k 0)) ?_ ?_ ?_ ?_
  · intro i hi
    obtain ⟨b, x, hb, hx, e⟩ := bat i hi
    rw [e, ← hang]
    exact (List.getElem?_eq_some_iff.mp (at_idx (hoff b (List.mem_of_getElem? hb)))).1
  · intro i j hi hj e
    obtain ⟨b, x, hb, hx, eb⟩ := bat i hi
    obtain ⟨d, y, hd, hy, ed⟩ := bat j hj
    rw [eb, ed] at e
    have h1 := at_idx (hoff b (List.mem_of_getElem? hb))
    have h2 := at_idx (hoff d (List.mem_of_getElem? hd))
    rw [e, h2] at h1
    have hc : d.c = b.c := Option.some.inj h1
    have a1 := idxA hcs (i := i) (a := b.c) (by rw [List.getElem?_map, hb]; rfl)
    have a2 := idxA hcs (i := j) (a := b.c) (by rw [List.getElem?_map, hd]; exact congrArg some hc)
    omega
  · intro i hi
    obtain ⟨b, x, hb, hx, e⟩ := bat i hi
    have hbm := List.mem_of_getElem? hb
    have okb := ok.bars b hbm
    rw [e, tab_ent hnl hb hx (at_idx (hoff b hbm)) okb okb.c0 okb.c1]
    unfold coef
    rw [if_pos rfl]
    have := okb.l0
    exact Int.mul_ne_zero (by omega) (by omega)
  · intro i k hi hkk hne hm
    obtain ⟨b, x, hb, hx, e⟩ := bat i hi
    have hbm := List.mem_of_getElem? hb
    have okb := ok.bars b hbm
    have hkl : k < (hangL (n : Int) hl).length := by omega
    have hr : (hangL (n : Int) hl)[k]? = some ((hangL (n : Int) hl)[k]'hkl) := List.getElem?_eq_getElem hkl
    generalize (hangL (n : Int) hl)[k]'hkl = r at hr
    obtain ⟨r0, r1⟩ := mem_hangL (List.mem_of_getElem? hr)
    rw [tab_ent hnl hb hx hr okb r0 r1] at hm
    rw [e] at hne ⊢
    rw [List.getD_eq_getElem?_getD, hr]
    show ln.idxOf r < ln.idxOf ((hangL (n : Int) hl).getD ((hangL (n : Int) hl).idxOf b.c) 0)
    rw [List.getD_eq_getElem?_getD, at_idx (hoff b hbm)]
    show ln.idxOf r < ln.idxOf b.c
    have hrc : r ≠ b.c := fun z => hne (by rw [← z, idxA hang_nodup hr])
    obtain ⟨j, hj, hjc, ha, hbb⟩ := hst b hbm
    rw [idxA hnd hjc]
    have lt : ∀ u, u ∈ ln.take j → ln.idxOf u < j := fun u hu => by
      obtain ⟨m, hm, e⟩ := List.getElem_of_mem hu
      rw [List.length_take] at hm
      rw [List.getElem_take] at e
      have h2 := idxA hnd (i := m) (a := u) (by rw [← e]; exact List.getElem?_eq_getElem _)
      omega
    unfold coef at hm
    rw [if_neg hrc] at hm
    by_cases e2 : r = b.b
    · rw [e2]; exact lt _ hbb
    · rw [if_neg e2] at hm
      by_cases e3 : r = b.a
      · rw [e3]; exact lt _ ha
      · rw [if_neg e3] at hm
        exact absurd rfl hm
end K06

namespace K06
open PySem L2
theorem sum_perm {l l' : List Int} (h : l.Perm l') : l.sum = l'.sum := by
  induction h with
  | nil => rfl
  | cons x _ ih => rw [List.sum_cons, List.sum_cons, ih]
  | swap x y l => rw [List.sum_cons, List.sum_cons, List.sum_cons, List.sum_cons]; omega
  | trans _ _ a b => exact a.trans b
theorem sum_out {l : List Int} (g : Int → Int) {a : Int} (h : a ∈ l) : (l.map g).sum = g a + ((l.erase a).map g).sum := by
  have := sum_perm ((List.perm_cons_erase h).map g)
  rw [this, List.map_cons, List.sum_cons]
theorem sum_nil {l : List Int} {g : Int → Int} (h : ∀ x ∈ l, g x = 0) : (l.map g).sum = 0 := by
  induction l with
  | nil => rfl
  | cons x l ih => rw [List.map_cons, List.sum_cons, h x List.mem_cons_self, ih fun y hy => h y (List.mem_cons_of_mem _ hy)]; rfl
theorem sum_three {l : List Int} (hn : l.Nodup) (g : Int → Int) {a b c : Int} (ha : a ∈ l) (hb : b ∈ l) (hc : c ∈ l) (hab : b ≠ a) (hca : c ≠ a) (hcb : c ≠ b) (h : ∀ r, r ≠ a → r ≠ b → r ≠ c → g r = 0) : (l.map g).sum = g a + g b + g c := by
  have hb1 : b ∈ l.erase a := (List.mem_erase_of_ne hab).mpr hb
  have hc1 : c ∈ (l.erase a).erase b := (List.mem_erase_of_ne hcb).mpr ((List.mem_erase_of_ne hca).mpr hc)
  have n1 := hn.erase a
  have n2 := n1.erase b
  rw [sum_out g ha, sum_out g hb1, sum_out g hc1, sum_nil fun x hx => ?_]
  · omega
  · obtain ⟨x1, hx1⟩ := (n2.mem_erase_iff).mp hx
    obtain ⟨x2, hx2⟩ := (n1.mem_erase_iff).mp hx1
    obtain ⟨x3, _⟩ := (hn.mem_erase_iff).mp hx2
    exact h x x3 x2 x1
theorem sm_take (g : Int → Int) (hs : List Int) : ∀ m, m ≤ hs.length → ((hs.take m).map g).sum = Mx.sm m fun k => g (hs.getD k 0)
  | 0, _ => rfl
  | m + 1, h => by
    have hx : hs[m]? = some (hs[m]'h) := List.getElem?_eq_getElem h
    rw [List.take_add_one, hx, List.map_append, List.sum_append, sm_take g hs m (by omega)]
    show _ = (Mx.sm m fun k => g (hs.getD k 0)) + g (hs.getD m 0)
    rw [List.getD_eq_getElem?_getD, hx]
    show _ + (g hs[m] + 0) = _ + g hs[m]
    omega
theorem sm_list (g : Int → Int) (hs : List Int) : (hs.map g).sum = Mx.sm hs.length fun k => g (hs.getD k 0) := by
  have := sm_take g hs hs.length (Nat.le_refl _)
  rwa [List.take_length] at this
theorem sum_mulr (c : Int) : ∀ l : List Int, (l.map fun x => x * c).sum = l.sum * c
  | [] => (Int.zero_mul c).symm
  | x :: l => by rw [List.map_cons, List.sum_cons, List.sum_cons, sum_mulr c l, Int.add_mul]
/-- the rods stand as each bar says -/
theorem bar_eq {n : Nat} {hl : List (Int × Int)} {bs : List BarD} {ns : List Int} {q : Int} (ok : WebOk (n : Int) hl bs) (hnl : ns.length = bs.length) {i : Nat} {b : BarD} {x : Int} (hb : bs[i]? = some b) (hx : ns[i]? = some x) :
    (x - q * b.len) * topB n (hangL (n : Int) hl) q hl bs ns b.a + (-x) * topB n (hangL (n : Int) hl) q hl bs ns b.b + q * b.len * topB n (hangL (n : Int) hl) q hl bs ns b.c = 0 := by
  have hang := hang_len ok
  have hi : i < bs.length := (List.getElem?_eq_some_iff.mp hb).1
  have okb := ok.bars b (List.mem_of_getElem? hb)
  obtain ⟨T, hT⟩ : ∃ T, T = topB n (hangL (n : Int) hl) q hl bs ns := ⟨_, rfl⟩
  obtain ⟨D, hD⟩ : ∃ D, D = detB n (hangL (n : Int) hl) q bs ns := ⟨_, rfl⟩
  rw [← hT]
  have hnd : (hl.map (·.1) ++ hangL (n : Int) hl).Nodup := List.nodup_append.mpr ⟨ok.nd, hang_nodup, fun a ha c hc e => hang_off hc (e ▸ ha)⟩
  have hall : ∀ r, 0 ≤ r → r < (n : Int) → r ∈ hl.map (·.1) ++ hangL (n : Int) hl := fun r h0 h1 => by
    by_cases e : r ∈ hl.map (·.1)
    · exact List.mem_append.mpr (.inl e)
    · exact List.mem_append.mpr (.inr (mem_hang h0 h1 e))
  have h3 := sum_three hnd (fun r => coef q b x r * T r) (hall _ okb.a0 okb.a1) (hall _ okb.b0 okb.b1) (hall _ okb.c0 okb.c1) okb.ab okb.ac okb.bc fun r e1 e2 e3 => by
    unfold coef
    rw [if_neg e3, if_neg e2, if_neg e1, Int.zero_mul]
  have ca : coef q b x b.a = x - q * b.len := by
    unfold coef
    rw [if_neg (fun z => okb.ac z.symm), if_neg (fun z => okb.ab z.symm), if_pos rfl]
  have cb : coef q b x b.b = -x := by
    unfold coef
    rw [if_neg (fun z => okb.bc z.symm), if_pos rfl]
  have cc : coef q b x b.c = q * b.len := by
    unfold coef
    rw [if_pos rfl]
  rw [ca, cb, cc] at h3
  rw [← h3, List.map_append, List.sum_append, List.map_map]
  -- the held rods
  have held : (hl.map ((fun r => coef q b x r * T r) ∘ fun p => p.1)).sum = -(askRow hl (barRow n q b x)) * D := by
    unfold askRow
    rw [Int.neg_neg, ← sum_mulr, List.map_map]
    congr 1
    refine List.map_congr_left fun p hp => ?_
    show coef q b x p.1 * T p.1 = (barRow n q b x).getD p.1.toNat 0 * p.2 * D
    obtain ⟨⟨k0, k1⟩, _⟩ := ok.keys p hp
    rw [bar_val okb k0 k1, hT]
    unfold topB
    rw [if_pos (List.mem_map.mpr ⟨p, hp, rfl⟩), look_of ok.nd hp, ← hD, Int.mul_assoc]
  have hanging : ((hangL (n : Int) hl).map fun r => coef q b x r * T r).sum = askRow hl (barRow n q b x) * D := by
    rw [sm_list, hang]
    have cr := Mx.cramer (n := bs.length) (Mx.ent (tabRows n (hangL (n : Int) hl) q bs ns)) (fun r => (askB n q hl bs ns).getD r 0) hi
    have ea : (askB n q hl bs ns).getD i 0 = askRow hl (barRow n q b x) := by
      unfold askB
      rw [List.getD_eq_getElem?_getD, List.getElem?_map, row_at hnl hb hx]
      rfl
    rw [ea] at cr
    rw [hD]
    refine Eq.trans (Mx.sm_congr fun k hk => ?_) cr
    have hkl : k < (hangL (n : Int) hl).length := by omega
    have hr : (hangL (n : Int) hl)[k]? = some ((hangL (n : Int) hl)[k]'hkl) := List.getElem?_eq_getElem hkl
    generalize (hangL (n : Int) hl)[k]'hkl = r at hr
    have hrm := List.mem_of_getElem? hr
    obtain ⟨r0, r1⟩ := mem_hangL hrm
    rw [tab_ent hnl hb hx hr okb r0 r1, List.getD_eq_getElem?_getD, hr]
    show coef q b x r * T r = coef q b x r * _
    rw [hT]
    unfold topB
    rw [if_neg (hang_off hrm), idxA hang_nodup hr]
    rfl
  rw [held, hanging, Int.neg_mul]
  omega
end K06

/-! the greatest number that goes into all -/
namespace L2
def gcdL : Nat → List Int → Nat
  | g, [] => g
  | g, n :: r => gcdL (Nat.gcd g n.natAbs) r
theorem gcdL_append (g : Nat) (xs ys : List Int) : gcdL g (xs ++ ys) = gcdL (gcdL g xs) ys := by
  induction xs generalizing g with
  | nil => rfl
  | cons x r ih => exact ih _
theorem gcdL_gcd (g h : Nat) (xs : List Int) : gcdL (Nat.gcd g h) xs = Nat.gcd g (gcdL h xs) := by
  induction xs generalizing h with
  | nil => rfl
  | cons x r ih =>
    show gcdL (Nat.gcd (Nat.gcd g h) x.natAbs) r = Nat.gcd g (gcdL (Nat.gcd h x.natAbs) r)
    rw [Nat.gcd_assoc, ih]
theorem gcdL_turn (g : Nat) (xs : List Int) (s : Int) : gcdL g (xs ++ [s]) = gcdL (Nat.gcd g s.natAbs) xs := by
  rw [gcdL_append]
  show Nat.gcd (gcdL g xs) s.natAbs = _
  rw [Nat.gcd_comm g, gcdL_gcd, Nat.gcd_comm]
theorem gcdL_dvd_start (g : Nat) (xs : List Int) : gcdL g xs ∣ g := by
  induction xs generalizing g with
  | nil => exact Nat.dvd_refl _
  | cons x r ih => exact Nat.dvd_trans (ih _) (Nat.gcd_dvd_left _ _)
theorem gcdL_dvd {g : Nat} {xs : List Int} {x : Int} (h : x ∈ xs) : gcdL g xs ∣ x.natAbs := by
  induction xs generalizing g with
  | nil => cases h
  | cons y r ih =>
    rcases List.mem_cons.mp h with e | h
    · subst e
      exact Nat.dvd_trans (gcdL_dvd_start _ r) (Nat.gcd_dvd_right _ _)
    · exact ih h
theorem gcdL_pos {g : Nat} (xs : List Int) (h : 0 < g) : 0 < gcdL g xs := Nat.pos_of_dvd_of_pos (gcdL_dvd_start g xs) h
theorem gcdL_mul (g k : Nat) (xs : List Int) : gcdL (g * k) (xs.map fun n => n * (k : Int)) = gcdL g xs * k := by
  induction xs generalizing g with
  | nil => rfl
  | cons x r ih =>
    show gcdL (Nat.gcd (g * k) (x * (k : Int)).natAbs) (r.map fun n => n * (k : Int)) = gcdL (Nat.gcd g x.natAbs) r * k
    rw [Int.natAbs_mul, Int.natAbs_natCast, Nat.gcd_mul_right, ih]
theorem gcdL_le {g : Nat} (xs : List Int) (h : 0 < g) : gcdL g xs ≤ g := Nat.le_of_dvd h (gcdL_dvd_start g xs)
/-- what Places keeps -/
def normN (ns : List Int) (s : Int) : List Int := ns.map fun n => n / ((gcdL s.natAbs ns : Nat) : Int)
def normP (ns : List Int) (s : Int) : Int := s / ((gcdL s.natAbs ns : Nat) : Int)
theorem norm_mul {ns : List Int} {s : Int} {k : Nat} (hk : 0 < k) (hs : 0 < s) : normN (ns.map fun n => n * (k : Int)) (s * (k : Int)) = normN ns s ∧ normP (ns.map fun n => n * (k : Int)) (s * (k : Int)) = normP ns s := by
  have e : gcdL (s * (k : Int)).natAbs (ns.map fun n => n * (k : Int)) = gcdL s.natAbs ns * k := by
    rw [Int.natAbs_mul, Int.natAbs_natCast, gcdL_mul]
  have hk' : (k : Int) ≠ 0 := by omega
  unfold normN normP
  rw [e]
  constructor
  · rw [List.map_map]
    refine List.map_congr_left fun n _ => ?_
    show n * (k : Int) / ((gcdL s.natAbs ns * k : Nat) : Int) = _
    rw [Int.natCast_mul, Int.mul_ediv_mul_of_pos_left _ _ (by omega)]
  · rw [Int.natCast_mul, Int.mul_ediv_mul_of_pos_left _ _ (by omega)]
theorem div_mul_back {g : Nat} {x : Int} (h : g ∣ x.natAbs) : x / (g : Int) * (g : Int) = x :=
  Int.ediv_mul_cancel (Int.ofNat_dvd_left.mpr h)
theorem norm_inj {ns ms : List Int} {s : Int} (hs : 0 < s) (h1 : normN ns s = normN ms s) (h2 : normP ns s = normP ms s) : ns = ms := by
  have p1 : 0 < gcdL s.natAbs ns := gcdL_pos ns (by omega)
  have p2 : 0 < gcdL s.natAbs ms := gcdL_pos ms (by omega)
  have a1 := div_mul_back (g := gcdL s.natAbs ns) (x := s) (gcdL_dvd_start _ _)
  have a2 := div_mul_back (g := gcdL s.natAbs ms) (x := s) (gcdL_dvd_start _ _)
  unfold normP at h2
  have hg : ((gcdL s.natAbs ns : Nat) : Int) = ((gcdL s.natAbs ms : Nat) : Int) := by
    rw [h2] at a1
    have hq : s / ((gcdL s.natAbs ms : Nat) : Int) ≠ 0 := fun z => by
      rw [z] at a1
      omega
    exact Int.eq_of_mul_eq_mul_left hq (a1.trans a2.symm)
  have key : ∀ {xs : List Int} {g : Nat}, (∀ x ∈ xs, g ∣ x.natAbs) → (xs.map fun n => n / (g : Int)).map (fun q => q * (g : Int)) = xs := by
    intro xs g hx
    rw [List.map_map]
    conv => rhs; rw [← List.map_id xs]
    exact List.map_congr_left fun x hx' => div_mul_back (hx x hx')
  have k1 := key (xs := ns) (g := gcdL s.natAbs ns) fun x hx => gcdL_dvd hx
  have k2 := key (xs := ms) (g := gcdL s.natAbs ms) fun x hx => gcdL_dvd hx
  unfold normN at h1
  rw [← k1, ← k2, h1, hg]
theorem norm_next {ns : List Int} {s : Int} (hs : 0 < s) : (normN ns s = normN ns (s + 1) ∧ normP ns s = normP ns (s + 1)) ↔ ∀ n ∈ ns, n = 0 := by
  have p1 : 0 < gcdL s.natAbs ns := gcdL_pos ns (by omega)
  have p2 : 0 < gcdL (s + 1).natAbs ns := gcdL_pos ns (by omega)
  have a1 := div_mul_back (g := gcdL s.natAbs ns) (x := s) (gcdL_dvd_start _ _)
  have a2 := div_mul_back (g := gcdL (s + 1).natAbs ns) (x := s + 1) (gcdL_dvd_start _ _)
  constructor
  · rintro ⟨h1, h2⟩ n hn
    refine Classical.byContradiction fun hne => ?_
    unfold normN at h1
    have h3 : n / ((gcdL s.natAbs ns : Nat) : Int) = n / ((gcdL (s + 1).natAbs ns : Nat) : Int) := by
      have := List.map_inj_left.mp h1 n hn
      exact this
    have b1 := div_mul_back (g := gcdL s.natAbs ns) (x := n) (gcdL_dvd hn)
    have b2 := div_mul_back (g := gcdL (s + 1).natAbs ns) (x := n) (gcdL_dvd hn)
    have hg : ((gcdL s.natAbs ns : Nat) : Int) = ((gcdL (s + 1).natAbs ns : Nat) : Int) := by
      rw [h3] at b1
      have hq : n / ((gcdL (s + 1).natAbs ns : Nat) : Int) ≠ 0 := fun z => by
        rw [z] at b1
        omega
      exact Int.eq_of_mul_eq_mul_left hq (b1.trans b2.symm)
    unfold normP at h2
    rw [h2, hg] at a1
    omega
  · intro h
    have e : ∀ t : Nat, gcdL t ns = t := by
      intro t
      clear p1 p2 a1 a2
      induction ns generalizing t with
      | nil => rfl
      | cons x r ih =>
        have hx := h x List.mem_cons_self
        subst hx
        show gcdL (Nat.gcd t 0) r = t
        rw [Nat.gcd_zero_right]
        exact ih (fun n hn => h n (List.mem_cons_of_mem _ hn)) t
    unfold normN normP
    rw [e, e]
    constructor
    · refine List.map_congr_left fun n hn => ?_
      rw [h n hn, Int.zero_ediv, Int.zero_ediv]
    · rw [show ((s.natAbs : Nat) : Int) = s by omega, show (((s + 1).natAbs : Nat) : Int) = s + 1 by omega, Int.ediv_self (by omega), Int.ediv_self (by omega)]
end L2

/-! a fraction in lowest terms, and texts of fractions -/
namespace L2
open PySem PySem.Spec PyProof.Rows
def lowN (n s : Int) : Int := n / ((Nat.gcd s.natAbs n.natAbs : Nat) : Int)
def lowP (n s : Int) : Int := s / ((Nat.gcd s.natAbs n.natAbs : Nat) : Int)
theorem low_gpos {n s : Int} (hs : 1 ≤ s) : 0 < Nat.gcd s.natAbs n.natAbs := Nat.gcd_pos_of_pos_left _ (by omega)
theorem low_pos {n s : Int} (hs : 1 ≤ s) : 1 ≤ lowP n s := by
  have h := low_gpos (n := n) hs
  have hd : ((Nat.gcd s.natAbs n.natAbs : Nat) : Int) ∣ s := Int.ofNat_dvd_left.mpr (Nat.gcd_dvd_left _ _)
  exact Int.ediv_pos_of_pos_of_dvd (by omega) (by omega) hd
theorem ediv_abs_le {a : Int} {g : Nat} : (a / (g : Int)).natAbs ≤ a.natAbs := by
  rcases Nat.eq_zero_or_pos g with h | h
  · subst h; simp
  · exact Int.natAbs_ediv_le_natAbs a g
theorem lowN_le (n s : Int) : (lowN n s).natAbs ≤ n.natAbs := ediv_abs_le
theorem lowP_le (n s : Int) : (lowP n s).natAbs ≤ s.natAbs := ediv_abs_le
/-- the same by less -/
theorem low_div {n s : Int} {g : Nat} (hg : 0 < g) (h1 : g ∣ n.natAbs) (h2 : g ∣ s.natAbs) : lowN (n / (g : Int)) (s / (g : Int)) = lowN n s ∧ lowP (n / (g : Int)) (s / (g : Int)) = lowP n s := by
  have a1 := div_mul_back h1
  have a2 := div_mul_back h2
  generalize n / (g : Int) = m at a1 ⊢
  generalize s / (g : Int) = q at a2 ⊢
  subst a1 a2
  unfold lowN lowP
  rw [Int.natAbs_mul, Int.natAbs_mul, Int.natAbs_natCast, Nat.gcd_mul_right, Int.natCast_mul]
  exact ⟨(Int.mul_ediv_mul_of_pos_left _ _ (by omega)).symm, (Int.mul_ediv_mul_of_pos_left _ _ (by omega)).symm⟩
theorem low_norm {ns : List Int} {s n : Int} (hs : 1 ≤ s) (hn : n ∈ ns) : lowN (n / ((gcdL s.natAbs ns : Nat) : Int)) (normP ns s) = lowN n s ∧ lowP (n / ((gcdL s.natAbs ns : Nat) : Int)) (normP ns s) = lowP n s :=
  low_div (gcdL_pos ns (by omega)) (gcdL_dvd hn) (gcdL_dvd_start _ _)
/-- the text of a fraction -/
def frTxt (t b : Int) : Str := if b = 1 then itx t else itx t ++ (("/" : Str) ++ itx b)
def frD (p : Int × Int) : Dt := .tup [.int p.1, .int p.2]
theorem app_assoc (x y z : Str) : x ++ y ++ z = x ++ (y ++ z) := TL.ext_tl (by rw [TL.tl_append, TL.tl_append, TL.tl_append, TL.tl_append, List.append_assoc])
theorem frTxt_len {t b : Int} {k : Nat} (hk : 0 < k) (h1 : t.natAbs < 10 ^ k) (h2 : b.natAbs < 10 ^ k) : (frTxt t b).length ≤ 2 * k + 3 := by
  have a := itx_len hk h1
  have c := itx_len hk h2
  unfold frTxt
  split
  · omega
  · rw [app_len, app_len]
    have : ("/" : Str).length = 1 := rfl
    omega
end L2

namespace K06
open PySem L2
section
variable {P : Program} {w : World} {K : PySem.W.Frag} {mg : Str → Option Value} {base : Heap}
def plD (C : Addr) (ns : List Int) (q : Int) : Dt := .ins C ["numbers", "parts"] [.tup (ns.map Dt.int), .int q]
def spDivisor (K : PySem.W.Frag) : Sp := fun vs H Q _ => ∃ (l : Addr) (ns : List Int), vs = [.ref l] ∧ SqQ K H l (ns.map V.int) ∧ Q (.int ((gcdL 0 ns : Nat) : Int)) H
theorem ok_divisor (T : Tx K mg) : FnOk P w K mg base (L2.CX P w) 1 T.a_divisor T.fd_divisor ["numbers"] (spDivisor K) := by
  refine T.F_divisor.okX sc_divisor (fun vs H Q E h => ?_) (fun cdv A outer s H vs Q E hr h => ?_)
  · obtain ⟨l, ns, rfl, _⟩ := h
    rfl
  · obtain ⟨l, ns, rfl, hl, k⟩ := h
    refine ⟨_, (pss_cons (ps_set (i := 1) sc_divisor.nd rfl (Or.inl rfl) pe_int)
      (pss_cons (ps_for (passes_of rfl) rfl (pi_seq (pv 0)) (pg_name (i := 2) sc_divisor.nd rfl (Or.inl rfl)) (pss_one (ps_set (i := 1) sc_divisor.nd rfl (Or.inl rfl) (pe_callBfun cr_gcd rfl T.m_gcd (pa_cons (pv 1) (pa_cons (pv 2) pa_nil))))))
      (pss_one (ps_ret (pv 1))))), ?_⟩
    refine ⟨_, rfl, l, rfl, for_seq (xs := ns.map V.int) (H0 := H) hl (fun i σ H' => H' = H ∧ ∃ v : Option V, σ = [some (.ref l), some (.int ((gcdL 0 (ns.take i) : Nat) : Int)), v]) ⟨rfl, none, rfl⟩ (fun i σ H' _ p => p.1 ▸ Ext.rfl') ?_ ?_⟩
    · rintro i y σ H' hi ⟨rfl, v, rfl⟩
      obtain ⟨n, hn, rfl⟩ : ∃ n, ns[i]? = some n ∧ y = V.int n := by
        rw [List.getElem?_map] at hi
        cases e : ns[i]? with
        | none => rw [e] at hi; cases hi
        | some n => rw [e] at hi; exact ⟨n, rfl, (Option.some.inj hi).symm⟩
      have step : gcdL 0 (ns.take (i + 1)) = Nat.gcd (gcdL 0 (ns.take i)) n.natAbs := by
        rw [List.take_add_one, hn, gcdL_append]
        rfl
      refine ⟨_, rfl, _, rfl, _, _, rfl, rfl, some (.int n), ?_⟩
      rw [step, Int.natAbs_natCast]
      rfl
    · rintro σ H' ⟨rfl, v, rfl⟩
      rw [List.length_map, List.take_length]
      exact ⟨_, rfl, k⟩
/-- tops over a bottom above nought, in lowest terms: a new tuple of a new tuple and a number -/
def spLowest (K : PySem.W.Frag) : Sp := fun vs H Q _ => ∃ (l : Addr) (ns : List Int) (s : Int), vs = [.ref l, .int s] ∧ SqQ K H l (ns.map V.int) ∧ ns.length ≤ 1000 ∧ 1 ≤ s ∧ s.natAbs < 2 ^ 8000 ∧
  ∀ t u H', Ext H H' → H t = none → H u = none → H' t = some (.tup ((normN ns s).map V.int)) → H' u = some (.tup [.ref t, .int (normP ns s)]) → Q (.ref u) H'
theorem ok_lowest (T : Tx K mg) : FnOk P w K mg base (L2.CX P w) 2 T.a_lowest T.fd_lowest ["tops", "bottom"] (spLowest K) := by
  refine T.F_lowest.okX sc_lowest (fun vs H Q E h => ?_) (fun cdv A outer s H vs Q E hr h => ?_)
  · obtain ⟨l, ns, s, rfl, _⟩ := h
    rfl
  · obtain ⟨l, ns, sh, rfl, hq, hlen, hs1, hbig, k⟩ := h
    refine ⟨_, (pss_cons (ps_set (i := 2) sc_lowest.nd rfl (Or.inr rfl) (pe_callBfun cr_gcd rfl T.m_gcd (pa_cons (pe_call (ok_divisor T) (hr.mono (by decide)) rfl T.m_divisor T.F_divisor.kp T.b_divisor .nil passL (pa_cons (pv 0) pa_nil)) (pa_cons (pv 1) pa_nil))))
      (pss_one (ps_ret (pe_tup (pa_cons (pe_callTy call_tuple_of (by rfl) T.z_tuple (by decide +kernel) (pa_cons (pe_lc (own := [("top", 3)]) (g := gName 3) (tt := tYes) (by rfl) sc_lowest.nd (pi_seq (pv 0)) (blkOk_by (own := [("top", 3)]) (N := N_lowest) (sc := defScope s_lowest) (by decide +kernel)) (fun _ _ _ _ _ => (pg_name (i := 3) sc_lowest.nd rfl (Or.inl rfl))) (fun _ _ _ _ _ => pts_nil) (fun _ _ _ _ _ => (pe_op op_fdivW (pv 3) (pv 2)))) pa_nil)) (pa_cons (pe_op op_fdivW (pv 1) (pv 2)) pa_nil)))))), ?_⟩
    have hg0 : 0 < gcdL sh.natAbs ns := gcdL_pos ns (by omega)
    have hgb : gcdL sh.natAbs ns < 2 ^ 8000 := Nat.lt_of_le_of_lt (gcdL_le ns (by omega)) hbig
    have eg : Nat.gcd ((gcdL 0 ns : Nat) : Int).natAbs sh.natAbs = gcdL sh.natAbs ns := by
      rw [Int.natAbs_natCast, Nat.gcd_comm, ← gcdL_gcd, Nat.gcd_zero_right]
    refine ⟨_, rfl, l, ns, rfl, hq, _, rfl, _, _, rfl, ?_⟩
    dsimp only
    rw [eg]
    refine ⟨_, rfl, l, rfl, lc_seq (xs := ns.map V.int) hq Ext.rfl' (fun D i H' => Ext H H' ∧ H' D = some (.lst (((ns.take i).map fun n => n / ((gcdL sh.natAbs ns : Nat) : Int)).map V.int)))
      (fun D hD => ⟨Ext.upd hD, upd_same⟩) (fun D i H' _ p => p.1) ?_ ?_⟩
    · rintro D i y H' hD hi ⟨e1, hD1⟩
      obtain ⟨n, hn, rfl⟩ : ∃ n, ns[i]? = some n ∧ y = V.int n := by
        rw [List.getElem?_map] at hi
        cases e : ns[i]? with
        | none => rw [e] at hi; cases hi
        | some n => rw [e] at hi; exact ⟨n, rfl, (Option.some.inj hi).symm⟩
      have hin : i < ns.length := (List.getElem?_eq_some_iff.mp hn).1
      refine ⟨rfl, tyes ?_⟩
      refine ⟨_, rfl, _, rfl, _, _, rfl, rfl, wide_div (b := 8000) (by omega) (by rw [Int.natAbs_natCast]; exact hgb) (by decide) (by decide), ?_⟩
      refine ⟨_, hD1, ?_, e1.mut hD, ?_⟩
      · rw [List.length_map, List.length_map, List.length_take]
        exact Nat.lt_of_lt_of_le (show min i ns.length < 2000 by omega) (by decide)
      · rw [upd_same, List.take_add_one, hn, List.map_append, List.map_append]
        rfl
    · rintro D H' hD ⟨e1, hD1⟩
      rw [List.length_map, List.take_length] at hD1
      refine ⟨D, _, rfl, .inl ⟨SqL.of hD1, fun t ht => ?_⟩⟩
      refine ⟨_, rfl, _, rfl, _, _, rfl, rfl, wide_div (b := 8000) (by omega) (by rw [Int.natAbs_natCast]; exact hgb) (by decide) (by decide), (by show 2 ≤ sizeLine; decide), fun u hu => ?_⟩
      have htu : t ≠ u := ne_of_none upd_same hu
      have hu' : H' u = none := by rw [upd_ne htu.symm] at hu; exact hu
      refine k t u _ ((e1.trans (Ext.upd ht)).trans (Ext.upd hu)) (e1.fresh ht) (e1.fresh hu') ?_ upd_same
      rw [upd_ne htu, upd_same]
      rfl
def spPlaces (K : PySem.W.Frag) (C B : Addr) : Sp := fun vs H Q E => ∃ (H0 : Hp) (x dx l : Addr) (ns : List Int) (s : Int), vs = [.ref x, .ref l, .int s] ∧ H0 x = none ∧ H0 dx = none ∧ dx ≠ x ∧ H = upd (upd H0 dx (.own x)) x (.ins C dx []) ∧
  SqQ K H0 l (ns.map V.int) ∧ ns.length ≤ 1000 ∧ s.natAbs < 2 ^ 8000 ∧ (s < 1 → ∀ d H', Ext H0 H' → H0 d = none → H' d = some (.xd [("count", .int s), ("what", .str "parts")]) → E (.ref B) (some d) H') ∧
  (1 ≤ s → ∀ H', Ext H0 H' → Is K H' (plD C (normN ns s) (normP ns s)) (.ref x) → Q .non H')
theorem ok_Places_init (T : Tx K mg) : FnOk P w K mg base (L2.CX P w) 4 T.a_Places_init T.fd_Places_init ["self", "numbers", "parts"] (spPlaces K T.C_Places T.C_BadCount) := by
  refine T.F_Places_init.okX sc_Places_init (fun vs H Q E h => ?_) (fun cdv A outer s H vs Q E hr h => ?_)
  · obtain ⟨H0, x, dx, l, ns, s, rfl, _⟩ := h
    rfl
  · obtain ⟨H0, x, dx, l, ns, sh, rfl, hx, hdx, hne, rfl, hq, hlen, hbig, kE, kQ⟩ := h
    refine ⟨_, (pss_cons (ps_if (pt_cmpR op_lt (pv 2) pe_int (nomark _)) (pss_one (ps_raiseX T.X_BadCount (ok_BadCount_init T) (hr.mono (by decide)) rfl (takes_of rfl rfl rfl rfl) rfl (pa_cons pe_str (pa_cons (pv 2) pa_nil)))) pss_nil)
      (pss_one (ps_asg (pe_call (ok_lowest T) (hr.mono (by decide)) rfl T.m_lowest T.F_lowest.kp T.b_lowest .nil passL (pa_cons (pv 1) (pa_cons (pv 2) pa_nil))) (pg_tup (by rfl) (pgs_cons (pg_fld (pv 0)) (pgs_cons (pg_fld (pv 0)) pgs_nil)))))), ?_⟩
    have eH : Ext H0 (upd (upd H0 dx (.own x)) x (.ins T.C_Places dx [])) := (Ext.upd hdx).mut hx
    refine ⟨_, rfl, _, _, rfl, rfl, _, rfl, ?_⟩
    refine ite2 (fun hc => ?_) (fun hc => ?_)
    · have hs1 := of_decide_eq_true hc
      refine ⟨_, rfl, rz_ok (n := 2) rfl (by decide) fun d hd => ?_⟩
      refine kE hs1 d _ (eH.trans (Ext.upd hd)) (eH.fresh hd) upd_same
    · have hs1 : 1 ≤ sh := by
        have : ¬ (sh < 1) := fun z => hc (decide_eq_true z)
        omega
      refine ⟨_, rfl, _, rfl, l, ns, sh, rfl, hq.ext eH, hlen, hs1, hbig, fun t u H' e1 ht hu ht1 hu1 => ?_⟩
      have hxt : x ≠ t := ne_of_none upd_same ht
      have hxu : x ≠ u := ne_of_none upd_same hu
      have hx' : H' x = some (.ins T.C_Places dx []) := e1 x _ upd_same
      refine ⟨u, _, rfl, SqT.of hu1, rfl, ?_⟩
      refine ⟨_, _, rfl, ⟨_, rfl, x, T.C_Places, dx, [], rfl, hx', T.c_Places, T.nf_Places_numbers, (by show 0 < 1000; decide), ?_⟩⟩
      refine ⟨_, _, rfl, ⟨_, rfl, x, T.C_Places, dx, _, rfl, upd_same, T.c_Places, T.nf_Places_parts, (by show 1 < 1000; decide), ?_⟩⟩
      refine ⟨rfl, ?_⟩
      refine kQ hs1 _ (((eH.trans e1).mut hx).mut hx) ⟨x, dx, [("numbers", .ref t), ("parts", .int (normP ns sh))], rfl, ?_, rfl, ?_⟩
      · rw [upd_same]
        rfl
      · refine ⟨_, _, rfl, ⟨t, _, rfl, SqT.of (xs := (normN ns sh).map V.int) ?_, isL_ints _⟩, _, _, rfl, rfl, rfl⟩
        rw [upd_ne hxt.symm, upd_ne hxt.symm]
        exact ht1
end
end K06

namespace K06
open PySem L2
section
variable {P : Program} {w : World} {K : PySem.W.Frag} {mg : Str → Option Value} {base : Heap}
def spFraction (K : PySem.W.Frag) : Sp := fun vs H Q _ => ∃ (n s : Int), vs = [.int n, .int s] ∧ 1 ≤ s ∧ s.natAbs < 2 ^ 8000 ∧
  ∀ u H', Ext H H' → H u = none → H' u = some (.tup [.int (lowN n s), .int (lowP n s)]) → Q (.ref u) H'
theorem ok_fraction (T : Tx K mg) : FnOk P w K mg base (L2.CX P w) 3 T.a_fraction T.fd_fraction ["top", "bottom"] (spFraction K) := by
  refine T.F_fraction.okX sc_fraction (fun vs H Q E h => ?_) (fun cdv A outer s H vs Q E hr h => ?_)
  · obtain ⟨n, s, rfl, _⟩ := h
    rfl
  · obtain ⟨n, sh, rfl, hs1, hbig, k⟩ := h
    refine ⟨_, (pss_cons (ps_asg (pe_call (ok_lowest T) (hr.mono (by decide)) rfl T.m_lowest T.F_lowest.kp T.b_lowest .nil passL (pa_cons (pe_lst (pa_cons (pv 0) pa_nil)) (pa_cons (pv 1) pa_nil))) (pg_tup (by rfl) (pgs_cons (pg_name (i := 2) sc_fraction.nd rfl (Or.inl rfl)) (pgs_cons (pg_name (i := 3) sc_fraction.nd rfl (Or.inl rfl)) pgs_nil))))
      (pss_one (ps_ret (pe_tup (pa_cons (pe_ix ix_tup (pv 2) pe_int (fun _ _ => rfl)) (pa_cons (pv 3) pa_nil)))))), ?_⟩
    refine ⟨_, rfl, by show 1 ≤ sizeLine; decide, fun l hl => ?_⟩
    refine ⟨_, rfl, l, [n], sh, rfl, .inl (SqL.of upd_same), by show 1 ≤ 1000; decide, hs1, hbig, fun t u H' e1 ht hu ht1 hu1 => ?_⟩
    refine ⟨u, _, rfl, SqT.of hu1, rfl, _, _, rfl, _, _, rfl, rfl, ?_⟩
    refine ⟨_, rfl, t, _, _, _, rfl, rfl, SqT.of ht1, rfl, _, rfl, by show 2 ≤ sizeLine; decide, fun w hw => ?_⟩
    exact k w _ (((Ext.upd hl).trans e1).trans (Ext.upd hw)) (((Ext.upd hl).trans e1).fresh hw) upd_same
end
end K06

namespace L2
open PySem PySem.Spec PyProof.Rows
/-- an item of a list or of a tuple -/
def rIxQ (K : PySem.W.Frag) : R2 := fun x y H Q => ∃ p xs i v, x = .ref p ∧ y = .int i ∧ SqQ K H p xs ∧ atI xs i = some v ∧ Q v H
theorem ix_seqQ {X : Cx} : IxR X (rIxQ X.K) := by
  intro value slice pins s σ H x y v u Q I rx ry h hs
  obtain ⟨p, xs, i, z, e1, e2, hq, he, q⟩ := h
  rcases hq with hq | hq
  · exact ix_list value slice pins s σ H x y v u Q I rx ry ⟨p, xs, i, z, e1, e2, hq, he, q⟩ hs
  · exact ix_tup value slice pins s σ H x y v u Q I rx ry ⟨p, xs, i, z, e1, e2, hq, he, q⟩ hs
end L2

namespace K06
open PySem L2
section
variable {P : Program} {w : World} {K : PySem.W.Frag} {mg : Str → Option Value} {base : Heap}
def plF : List Str := ["numbers", "parts"]
def plT (ns : List Int) (q : Int) : List Dt := [.tup (ns.map Dt.int), .int q]
theorem two_fields {a : Addr} {H : Hp} {kvs : List (Str × V)} {ns : List Int} {q : Int} (ek : kvs.map (·.1) = plF) (hl : IsL K H (plT ns q) (kvs.map (·.2))) :
    ∃ t : Addr, kvs = ([("numbers", V.ref t), ("parts", V.int q)] : List (Str × V)) ∧ SqT K H t (ns.map V.int) := by
  match kvs, ek, hl with
  | [(f, x), (g, y)], ek, ⟨v, r, e1, ⟨t, xs, e2, hs, hl⟩, v2, r2, e3, e4, e5⟩ =>
    simp only [plF, List.map_cons, List.map_nil] at ek e1
    injection ek with f1 ek
    injection ek with f2 _
    injection e1 with a1 a2
    subst a1 a2
    injection e3 with b1 b2
    subst b1 b2 e2
    rw [of_isL_ints hl] at hs
    rw [f1, f2, show y = V.int q from e4]
    exact ⟨t, rfl, hs⟩
theorem pl_fields {C : Addr} {H : Hp} {ns : List Int} {q : Int} {v : V} (i : Is K H (plD C ns q) v) : ∃ (a dx t : Addr), v = .ref a ∧ H a = some (.ins C dx [("numbers", .ref t), ("parts", .int q)]) ∧ SqT K H t (ns.map V.int) := by
  obtain ⟨a, dx, kvs, rfl, ha, ek, h⟩ := i
  obtain ⟨t, rfl, ht⟩ := two_fields (a := a) ek h
  exact ⟨a, dx, t, rfl, ha, ht⟩
/-- places that are within the bars -/
structure PlOk (bs : List BarD) (ns : List Int) (q : Int) : Prop where
  len : ns.length = bs.length
  q1 : 1 ≤ q
  qs : q ≤ 1000000
  within : ∀ (i : Nat) (b : BarD) (x : Int), bs[i]? = some b → ns[i]? = some x → 0 ≤ x ∧ x ≤ b.len * q
def spCkPl (K : PySem.W.Frag) (T : Tx K mg) : Sp := fun vs H Q _ => ∃ (v u : V) (n : Int) (bs : List BarD) (hl : List (Int × Int)) (ns : List Int) (q : Int), vs = [v, u] ∧ Is K H (wbD T.C_Web T.C_Bar n bs hl) v ∧ Is K H (plD T.C_Places ns q) u ∧ PlOk bs ns q ∧ bs.length ≤ 8 ∧ (∀ b ∈ bs, 1 ≤ b.len ∧ b.len ≤ 1000000) ∧ ∀ H', Ext H H' → Q .non H'
theorem ok_check_places (T : Tx K mg) : FnOk P w K mg base (L2.CX P w) 2 T.a_check_places T.fd_check_places ["web", "places"] (spCkPl K T) := by
  refine T.F_check_places.okX sc_check_places (fun vs H Q E h => ?_) (fun cdv A outer s H vs Q E hr h => ?_)
  · obtain ⟨v, u, n, bs, hl, ns, q, rfl, _⟩ := h
    rfl
  · obtain ⟨v, u, n, bs, hl, ns, q, rfl, hv, hu, po, b8, bl, k⟩ := h
    refine ⟨_, (pss_cons (ps_if (pt_cmpR op_ne (pe_callB call_len_seq (by rfl) T.z_len PySem.boot_len (pa_cons (pe_fld (pv 1) rfl) pa_nil)) (pe_callB call_len_seq (by rfl) T.z_len PySem.boot_len (pa_cons (pe_fld (pv 0) rfl) pa_nil)) (nomark _)) (pss_one ps_never) pss_nil)
      (pss_one (ps_for (passes_of rfl) rfl (pi_enumQ (by rfl) T.z_enumerate (pa_cons (pe_fld (pv 0) rfl) pa_nil)) (pg_tup (by rfl) (pgs_cons (pg_name (i := 2) sc_check_places.nd rfl (Or.inl rfl)) (pgs_cons (pg_name (i := 3) sc_check_places.nd rfl (Or.inl rfl)) pgs_nil))) (pss_one (ps_if (pt_not (pt_chain op_le op_le pe_int (pe_ix ix_tup (pe_fld (pv 1) rfl) (pv 2) (fun _ _ => rfl)) (pe_op op_mul (pe_fld (pv 3) rfl) (pe_fld (pv 1) rfl)))) (pss_one ps_never) pss_nil))))), ?_⟩
    obtain ⟨a, dx, t, d, ws, rfl, ha, ht, hb, hd⟩ := wb_fields hv
    obtain ⟨pa, pdx, pt, rfl, hpa, hpt⟩ := pl_fields hu
    have hwl : ws.length = bs.length := by rw [isL_len hb, List.length_map]
    refine ⟨_, rfl, pa, T.C_Places, pdx, _, _, rfl, hpa, T.c_Places, T.nf_Places_numbers, rfl, pt, _, rfl, .inr hpt, _, rfl, a, T.C_Web, dx, _, _, rfl, ha, T.c_Web, T.nf_Web_bars, rfl, t, _, rfl, .inr ht, ?_⟩
    rw [List.length_map, po.len, hwl]
    refine ⟨rfl, _, rfl, ?_⟩
    refine ite2 (fun hc => absurd hc (by simp)) fun _ => ?_
    refine ⟨_, rfl, a, T.C_Web, dx, _, _, rfl, ha, T.c_Web, T.nf_Web_bars, rfl, t, rfl, for_enumQ (xs := ws) (H0 := H) (.inr ht) (fun i σ H' => Ext H H' ∧ ∃ v2 v3 : Option V, σ = [some (.ref a), some (.ref pa), v2, v3])
      ⟨Ext.rfl', _, _, rfl⟩ (fun i σ H' _ p => p.1) ?_ ?_⟩
    · rintro i y σ H1 z hi ⟨e1, v2, v3, rfl⟩ hz
      obtain ⟨b, hbi, ib⟩ := isL_at' hb hi
      have hin : i < bs.length := (List.getElem?_eq_some_iff.mp hbi).1
      have hx : ns[i]? = some (ns[i]'(by rw [po.len]; exact hin)) := List.getElem?_eq_getElem _
      generalize ns[i]'(by rw [po.len]; exact hin) = x at hx
      obtain ⟨w0, w1⟩ := po.within i b x hbi hx
      have hbl := bl b (List.mem_of_getElem? hbi)
      have e2 : Ext H (upd H1 z (.tup [.int (i : Nat), y])) := e1.trans (Ext.upd hz)
      have hz2 : (upd H1 z (.tup [.int (i : Nat), y])) z = some (.tup [.int (i : Nat), y]) := upd_same
      generalize upd H1 z (.tup [.int (i : Nat), y]) = H2 at e2 hz2 ⊢
      obtain ⟨bx, bdx, rfl, hbx⟩ := br_fields (ib.ext e2)
      refine ⟨z, _, rfl, SqT.of hz2, rfl, _, _, rfl, _, _, rfl, rfl, ?_⟩
      refine ⟨_, rfl, pa, T.C_Places, pdx, _, _, rfl, e2 _ _ hpa, T.c_Places, T.nf_Places_numbers, rfl, _, rfl, pt, _, _, _, rfl, rfl, hpt.ext e2, atI_nat (by rw [List.getElem?_map, hx]; rfl), ?_⟩
      refine ⟨_, _, rfl, rfl, _, rfl, ite2 (fun c0 => ?_) (fun c0 => absurd (decide_eq_true w0) c0)⟩
      refine ⟨_, rfl, bx, T.C_Bar, bdx, _, _, rfl, hbx, T.c_Bar, T.nf_Bar_length, rfl, _, rfl, pa, T.C_Places, pdx, _, _, rfl, e2 _ _ hpa, T.c_Places, T.nf_Places_parts, rfl, _, _, rfl, rfl, .inl ⟨by omega, by omega⟩, ?_⟩
      refine ⟨_, _, rfl, rfl, _, rfl, ?_⟩
      rw [decide_eq_true w1]
      refine iteF ?_
      exact ⟨e2, _, _, rfl⟩
    · rintro σ H1 ⟨e1, v2, v3, rfl⟩
      exact k H1 e1
end
end K06

namespace K06
open PySem L2
section
variable {P : Program} {w : World} {K : PySem.W.Frag} {mg : Str → Option Value} {base : Heap}
def stF : List Str := ["tops", "bottom"]
def stD (C : Addr) (ts : List Int) (s : Int) : Dt := .ins C stF [.tup (ts.map Dt.int), .int s]
theorem st_fields {C : Addr} {H : Hp} {ts : List Int} {s : Int} {v : V} (i : Is K H (stD C ts s) v) : ∃ (a dx t : Addr), v = .ref a ∧ H a = some (.ins C dx [("tops", .ref t), ("bottom", .int s)]) ∧ SqT K H t (ts.map V.int) := by
  obtain ⟨a, dx, kvs, rfl, ha, ek, h⟩ := i
  obtain ⟨v1, r1, e1, ⟨t, xs, g1, g2, g3⟩, v2, r2, e2, f2, e3⟩ := h
  subst e2
  cases e3
  subst g1
  rw [of_isL_ints g3] at g2
  cases (show v2 = V.int s from f2)
  match kvs, ek, e1 with
  | [(x1, y1), (x2, y2)], ek, e1 =>
    simp only [stF, List.map_cons, List.map_nil] at ek e1
    injection ek with g1 ek
    injection ek with g2' _
    injection e1 with h1 e1
    injection e1 with h2 _
    subst g1 g2' h1 h2
    exact ⟨a, dx, t, rfl, ha, g2⟩
def spStandI (K : PySem.W.Frag) (C : Addr) : Sp := fun vs H Q E => ∃ (H0 : Hp) (x dx t : Addr) (ts : List Int) (s : Int), vs = [.ref x, .ref t, .int s] ∧ H0 x = none ∧ H0 dx = none ∧ dx ≠ x ∧ H = upd (upd H0 dx (.own x)) x (.ins C dx []) ∧
  SqT K H0 t (ts.map V.int) ∧ ∀ H', Ext H0 H' → Is K H' (stD C ts s) (.ref x) → Q .non H'
theorem ok_Stand_init (T : Tx K mg) : FnOk P w K mg base (L2.CX P w) 4 T.a_Stand_init T.fd_Stand_init ["self", "tops", "bottom"] (spStandI K T.C_Stand) := by
  refine T.F_Stand_init.okX sc_Stand_init (fun vs H Q E h => ?_) (fun cdv A outer s H vs Q E hr h => ?_)
  · obtain ⟨H0, x, dx, t, ts, s, rfl, _⟩ := h
    rfl
  · obtain ⟨H0, x, dx, t, ts, sb, rfl, hx, hdx, hne, rfl, h1, k⟩ := h
    refine ⟨_, (pss_cons (ps_fld (pv 0) (pe_callTy call_tupleT (by rfl) T.z_tuple (by decide +kernel) (pa_cons (pv 1) pa_nil)) rfl)
      (pss_one (ps_fld (pv 0) (pv 2) rfl))), ?_⟩
    have eH : Ext H0 (upd (upd H0 dx (.own x)) x (.ins T.C_Stand dx [])) := (Ext.upd hdx).mut hx
    refine ⟨_, rfl, t, _, rfl, h1.ext eH, _, rfl, x, T.C_Stand, dx, _, rfl, upd_same, T.c_Stand, T.nf_Stand_tops, (by show 0 < 1000; decide), ?_⟩
    refine ⟨_, rfl, _, rfl, x, T.C_Stand, dx, _, rfl, upd_same, T.c_Stand, T.nf_Stand_bottom, (by show 1 < 1000; decide), ?_⟩
    have eF := ((eH.mut (o := HO.ins T.C_Stand dx [("tops", V.ref t)]) hx).mut (o := HO.ins T.C_Stand dx [("tops", V.ref t), ("bottom", V.int sb)]) hx)
    exact k _ eF ⟨x, dx, [("tops", .ref t), ("bottom", .int sb)], rfl, upd_same, rfl, _, _, rfl, ⟨t, _, rfl, h1.ext eF, isL_ints _⟩, _, _, rfl, rfl, rfl⟩
def stB (n : Nat) (q : Int) (hl : List (Int × Int)) (bs : List BarD) (ns : List Int) : Int := detB n (hangL (n : Int) hl) q bs ns * sgnI (detB n (hangL (n : Int) hl) q bs ns)
def spStand (K : PySem.W.Frag) (T : Tx K mg) : Sp := fun vs H Q _ => ∃ (v u : V) (n : Nat) (bs : List BarD) (hl : List (Int × Int)) (ns : List Int) (q : Int), vs = [v, u] ∧ Is K H (wbD T.C_Web T.C_Bar (n : Int) bs (normH hl)) v ∧ Is K H (plD T.C_Places ns q) u ∧ WebOk (n : Int) hl bs ∧ LineOk hl bs ∧ PlOk bs ns q ∧
  ∀ y H', Ext H H' → Is K H' (stD T.C_Stand (normN (topsB n q hl bs ns) (stB n q hl bs ns)) (normP (topsB n q hl bs ns) (stB n q hl bs ns))) y → Q y H'
theorem ok_stand (T : Tx K mg) : FnOk P w K mg base (L2.CX P w) 8 T.a_stand T.fd_stand ["web", "places"] (spStand K T) := by
  refine T.F_stand.okX sc_stand (fun vs H Q E h => ?_) (fun cdv A outer s H vs Q E hr h => ?_)
  · obtain ⟨v, u, n, bs, hl, ns, q, rfl, _⟩ := h
    rfl
  · obtain ⟨v, u, n, bs, hl, ns, q, rfl, hv, hu, ok, li, po, k⟩ := h
    refine ⟨_, (pss_cons (ps_expr (pe_call (ok_check_places T) (hr.mono (by decide)) rfl T.m_check_places T.F_check_places.kp T.b_check_places .nil passL (pa_cons (pv 0) (pa_cons (pv 1) pa_nil))))
      (pss_cons (ps_set (i := 2) sc_stand.nd rfl (Or.inl rfl) (pe_call (ok_heights_at T) (hr.mono (by decide)) rfl T.m_heights_at T.F_heights_at.kp T.b_heights_at .nil passL (pa_cons (pv 0) (pa_cons (pe_fld (pv 1) rfl) (pa_cons (pe_fld (pv 1) rfl) pa_nil)))))
      (pss_cons (ps_if (pt_cmpR op_isN (pv 2) pe_non (nomark _)) (pss_one ps_never) pss_nil)
      (pss_cons (ps_asg (pe_call (ok_lowest T) (hr.mono (by decide)) rfl T.m_lowest T.F_lowest.kp T.b_lowest .nil passL (pa_cons (pe_ix ix_tup (pv 2) pe_int (fun _ _ => rfl)) (pa_cons (pe_ix ix_tup (pv 2) pe_int (fun _ _ => rfl)) pa_nil))) (pg_tup (by rfl) (pgs_cons (pg_name (i := 3) sc_stand.nd rfl (Or.inl rfl)) (pgs_cons (pg_name (i := 4) sc_stand.nd rfl (Or.inl rfl)) pgs_nil))))
      (pss_one (ps_ret (pe_make T.k_Stand (ok_Stand_init T) (hr.mono (by decide)) rfl T.m_Stand T.b_Stand_init .nil passL (pa_cons (pv 3) (pa_cons (pv 4) pa_nil))))))))), ?_⟩
    obtain ⟨nk, nd, nl, nh⟩ := norm_ok ok
    have n10 : n ≤ 10 := by have := ok.n10; omega
    have hdet := line_det (q := q) ok li po.q1 po.len
    have hqs : q.natAbs < 2 ^ 300 := by have := po.qs; have := po.q1; exact Nat.lt_of_le_of_lt (show q.natAbs ≤ 1000000 by omega) (by decide +kernel)
    have hsm : ∀ x ∈ ns, x.natAbs < 2 ^ 300 := fun x hx => by
      obtain ⟨i, hi, e⟩ := List.getElem_of_mem hx
      have hib : i < bs.length := by rw [← po.len]; exact hi
      obtain ⟨w0, w1⟩ := po.within i bs[i] x (List.getElem?_eq_getElem hib) (by rw [← e]; exact List.getElem?_eq_getElem hi)
      have okb := ok.bars _ (List.getElem_mem hib)
      have hq0 := po.q1
      have hql := po.qs
      have w2 : bs[i].len * q ≤ 1000000 * 1000000 := Int.mul_le_mul okb.l1 hql (by omega) (by decide)
      exact Nat.lt_of_le_of_lt (show x.natAbs ≤ 1000000 * 1000000 by omega) (by decide +kernel)
    have hs1 : 1 ≤ stB n q hl bs ns := sgn_pos hdet
    have hsb : (stB n q hl bs ns).natAbs < 2 ^ 8000 := by
      show (_ * sgnI _).natAbs < _
      rw [sgn_abs]
      exact Nat.lt_of_lt_of_le (det_small ok po.len hsm hqs) (Nat.pow_le_pow_right (by decide) (by decide))
    refine ⟨_, rfl, _, rfl, v, u, n, bs, normH hl, ns, q, rfl, hv, hu, po, ok.b8, fun b hb => ⟨(ok.bars b hb).l0, (ok.bars b hb).l1⟩, fun H1 e1 => ?_⟩
    obtain ⟨pa, pdx, pt, rfl, hpa, hpt⟩ := pl_fields (hu.ext e1)
    refine ⟨_, rfl, _, rfl, pa, T.C_Places, pdx, _, _, rfl, hpa, T.c_Places, T.nf_Places_numbers, rfl, _, rfl, pa, T.C_Places, pdx, _, _, rfl, hpa, T.c_Places, T.nf_Places_parts, rfl, ?_⟩
    refine ⟨v, pt, n, bs, normH hl, ns, q, rfl, hv.ext e1, hpt, po.len, n10, ok.b8, ok.bars, nk, nd, nl, nh, hsm, hqs, (fun z => absurd (by rw [hang_norm] at z; exact z) hdet), fun _ p l H2 hp hl0 e2 hp2 hl2 => ?_⟩
    rw [hang_norm] at hp2
    rw [tops_norm ok.nd] at hl2
    refine ⟨_, rfl, rfl, _, rfl, ite2 (fun c => absurd (of_decide_eq_true c) (fun z => by cases z)) (fun _ => ?_)⟩
    refine ⟨_, rfl, p, _, _, _, rfl, rfl, SqT.of hp2, rfl, _, rfl, p, _, _, _, rfl, rfl, SqT.of hp2, rfl, ?_⟩
    refine ⟨l, topsB n q hl bs ns, stB n q hl bs ns, rfl, .inl (SqL.of hl2), by rw [len_tops]; omega, hs1, hsb, fun t y H3 e3 ht hy ht1 hy1 => ?_⟩
    refine ⟨y, _, rfl, SqT.of hy1, rfl, _, _, rfl, _, _, rfl, rfl, ?_⟩
    refine ⟨_, rfl, _, rfl, fun x dx hx hdx hne => ?_⟩
    refine ⟨H3, x, dx, t, _, _, rfl, hx, hdx, hne, rfl, SqT.of ht1, fun H4 e4 i4 => ⟨rfl, ?_⟩⟩
    exact k _ H4 (((e1.trans e2).trans e3).trans e4) i4
end
end K06

namespace K06
open PySem L2
theorem low_eq {n s n' s' : Int} (hs : 1 ≤ s) (hs' : 1 ≤ s') (h : n * s' = n' * s) : lowN n s = lowN n' s' ∧ lowP n s = lowP n' s' := by
  have one : ∀ {a c k : Int}, 1 ≤ c → 1 ≤ k → lowN a c = lowN (a * k) (c * k) ∧ lowP a c = lowP (a * k) (c * k) := fun {a c k} h1 hk => by
    obtain ⟨m, rfl⟩ : ∃ m : Nat, k = (m : Int) := ⟨k.toNat, by omega⟩
    have hm : 0 < m := by omega
    have z := low_div (n := a * (m : Int)) (s := c * (m : Int)) (g := m) hm (by rw [Int.natAbs_mul, Int.natAbs_natCast]; exact Nat.dvd_mul_left _ _) (by rw [Int.natAbs_mul, Int.natAbs_natCast]; exact Nat.dvd_mul_left _ _)
    rw [Int.mul_ediv_cancel _ (by omega), Int.mul_ediv_cancel _ (by omega)] at z
    exact z
  have z1 := one (a := n) hs hs'
  have z2 := one (a := n') hs' hs
  rw [z1.1, z1.2, z2.1, z2.2, h, Int.mul_comm s s']
  exact ⟨rfl, rfl⟩
theorem one_of {r : Int} (h : 0 ≤ r) (h2 : ¬ r = 0) : 1 ≤ r := by omega
theorem no1 {L m : Int} (h : 1 ≤ L) (a1 : m ≤ L * (-1)) (a2 : 0 ≤ m) : False := by omega
theorem no2 {L m m2 : Int} (h : 1 ≤ L) (a1 : m2 + L ≤ m) (a2 : m ≤ m2) : False := by omega
theorem len20 {x : Int} (h : 1 ≤ x) (h2 : x ≤ 1000000) : x.natAbs < 2 ^ 20 := by omega
def tv (ts : List Int) (r : Int) : Int := ts.getD r.toNat 0
theorem at_tv {ts : List Int} {r : Int} (h0 : 0 ≤ r) (h1 : r < (ts.length : Int)) : atI (ts.map V.int) r = some (.int (tv ts r)) := by
  obtain ⟨k, rfl⟩ : ∃ k : Nat, r = (k : Int) := ⟨r.toNat, by omega⟩
  have hk : k < ts.length := by omega
  refine atI_nat ?_
  unfold tv
  rw [Int.toNat_natCast, List.getElem?_map, List.getD_eq_getElem?_getD, List.getElem?_eq_getElem hk]
  rfl
def freeT : Str := Str.ofString "free"
/-- where the hook sits, told by the rods -/
def dueD (b : BarD) (ts : List Int) (x q : Int) : Dt := if tv ts b.b = tv ts b.a then .str freeT else .tup [.int (lowN x q), .int (lowP x q)]
section
variable {P : Program} {w : World} {K : PySem.W.Frag} {mg : Str → Option Value} {base : Heap}
def spLedBar (K : PySem.W.Frag) (T : Tx K mg) : Sp := fun vs H Q _ => ∃ (v : V) (h : Addr) (n : Int) (b : BarD) (ts : List Int) (x q : Int), vs = [v, .ref h] ∧ Is K H (brD T.C_Bar b) v ∧ SqQ K H h (ts.map V.int) ∧ BarOk n b ∧ (ts.length : Int) = n ∧ (∀ r, 0 ≤ r → r < n → (tv ts r).natAbs < 2 ^ 7000) ∧
  1 ≤ q ∧ 0 ≤ x ∧ x ≤ b.len * q ∧ b.len * q * (tv ts b.c - tv ts b.a) = x * (tv ts b.b - tv ts b.a) ∧ ∀ u H', Ext H H' → Is K H' (dueD b ts x q) u → Q u H'
theorem ok_led_bar (T : Tx K mg) : FnOk P w K mg base (L2.CX P w) 5 T.a_led_bar T.fd_led_bar ["bar", "heights"] (spLedBar K T) := by
  refine T.F_led_bar.okX sc_led_bar (fun vs H Q E h => ?_) (fun cdv A outer s H vs Q E hr h => ?_)
  · obtain ⟨v, h, n, b, ts, x, q, rfl, _⟩ := h
    rfl
  · obtain ⟨v, h, n, b, ts, x, q, rfl, hv, hh, okb, tl, tsm, q1, x0, x1, heq, k⟩ := h
    refine ⟨_, (pss_cons (ps_set (i := 2) sc_led_bar.nd rfl (Or.inl rfl) (pe_op op_sub (pe_ix ix_seqQ (pv 1) (pe_fld (pv 0) rfl) (fun _ _ => rfl)) (pe_ix ix_seqQ (pv 1) (pe_fld (pv 0) rfl) (fun _ _ => rfl))))
      (pss_cons (ps_set (i := 3) sc_led_bar.nd rfl (Or.inl rfl) (pe_op op_sub (pe_ix ix_seqQ (pv 1) (pe_fld (pv 0) rfl) (fun _ _ => rfl)) (pe_ix ix_seqQ (pv 1) (pe_fld (pv 0) rfl) (fun _ _ => rfl))))
      (pss_cons (ps_if (pt_cmpR op_lt (pv 2) pe_int (nomark _)) (pss_one (ps_par (i := 2) (j := 3) (by rfl) sc_led_bar.nd rfl rfl (by decide) rfl rfl (pa_cons (pe_un un_neg (pv 2)) (pa_cons (pe_un un_neg (pv 3)) pa_nil)) (by rfl))) pss_nil)
      (pss_cons (ps_if (pt_chain op_eq op_eq (pv 2) (pv 3) pe_int) (pss_one (ps_ret pe_str)) pss_nil)
      (pss_cons (ps_if (pt_not (pt_chain op_le op_le pe_int (pv 3) (pv 2))) (pss_one ps_never) pss_nil)
      (pss_one (ps_ret (pe_call (ok_fraction T) (hr.mono (by decide)) rfl T.m_fraction T.F_fraction.kp T.b_fraction .nil passL (pa_cons (pe_op op_mulW (pe_fld (pv 0) rfl) (pv 3)) (pa_cons (pv 2) pa_nil)))))))))), ?_⟩
    obtain ⟨bx, bdx, rfl, hbx⟩ := br_fields hv
    have aa := at_tv (ts := ts) okb.a0 (by have := okb.a1; omega)
    have ab := at_tv (ts := ts) okb.b0 (by have := okb.b1; omega)
    have ac := at_tv (ts := ts) okb.c0 (by have := okb.c1; omega)
    have sa := tsm _ okb.a0 okb.a1
    have sb := tsm _ okb.b0 okb.b1
    have sc := tsm _ okb.c0 okb.c1
    have hdue : dueD b ts x q = if tv ts b.b = tv ts b.a then .str freeT else .tup [.int (lowN x q), .int (lowP x q)] := rfl
    generalize tv ts b.a = ta at *
    generalize tv ts b.b = tb at *
    generalize tv ts b.c = tc at *
    refine ⟨_, rfl, _, rfl, bx, T.C_Bar, bdx, _, _, rfl, hbx, T.c_Bar, T.nf_Bar_b, rfl, h, _, _, _, rfl, rfl, hh, ab, ?_⟩
    refine ⟨_, rfl, _, rfl, bx, T.C_Bar, bdx, _, _, rfl, hbx, T.c_Bar, T.nf_Bar_a, rfl, h, _, _, _, rfl, rfl, hh, aa, _, _, rfl, rfl, ?_⟩
    refine ⟨_, rfl, _, rfl, bx, T.C_Bar, bdx, _, _, rfl, hbx, T.c_Bar, T.nf_Bar_c, rfl, h, _, _, _, rfl, rfl, hh, ac, ?_⟩
    refine ⟨_, rfl, _, rfl, bx, T.C_Bar, bdx, _, _, rfl, hbx, T.c_Bar, T.nf_Bar_a, rfl, h, _, _, _, rfl, rfl, hh, aa, _, _, rfl, rfl, ?_⟩
    have hR : (tb - ta).natAbs < 2 ^ 7001 := by
      have z : 2 ^ 7001 = 2 * 2 ^ 7000 := by rw [Nat.pow_succ, Nat.mul_comm]
      generalize 2 ^ 7000 = M at *
      generalize 2 ^ 7001 = N at *
      omega
    have hS : (tc - ta).natAbs < 2 ^ 7001 := by
      have z : 2 ^ 7001 = 2 * 2 ^ 7000 := by rw [Nat.pow_succ, Nat.mul_comm]
      generalize 2 ^ 7000 = M at *
      generalize 2 ^ 7001 = N at *
      omega
    have hfree : tb = ta ↔ tb - ta = 0 := by omega
    dsimp only
    generalize tb - ta = r0 at hR hfree heq ⊢
    generalize tc - ta = s0 at hS heq ⊢
    refine ⟨_, rfl, _, _, rfl, rfl, _, rfl, ite2 (fun c => ?_) (fun c => ?_)⟩
    · have hc := of_decide_eq_true c
      refine ⟨_, rfl, _, rfl, _, rfl, _, rfl, ⟨_, _, rfl, ?_⟩⟩
      obtain ⟨r, hr', hr, hz, hrs, s, hs', hss, he⟩ : ∃ r : Int, r = -r0 ∧ 0 ≤ r ∧ (r = 0 ↔ r0 = 0) ∧ r.natAbs < 2 ^ 7001 ∧ ∃ s : Int, s = -s0 ∧ s.natAbs < 2 ^ 7001 ∧ b.len * q * s = x * r :=
        ⟨-r0, rfl, Int.neg_nonneg.mpr (Int.le_of_lt hc), ⟨fun e => Int.neg_eq_zero.mp e, fun e => by rw [e]; rfl⟩, by rw [Int.natAbs_neg]; exact hR, -s0, rfl, by rw [Int.natAbs_neg]; exact hS, by rw [Int.mul_neg, Int.mul_neg, heq]⟩
      dsimp only
      rw [← hr', ← hs']
      clear hc c
      have hl1 : 1 ≤ b.len * q := Int.mul_le_mul okb.l0 q1 (by decide) (Int.le_trans (by decide) okb.l0)
      by_cases hr0 : r = 0
      · subst hr0
        have hs0 : s = 0 := by
          rw [Int.mul_zero] at he
          rcases Int.mul_eq_zero.mp he with z | z
          · rw [z] at hl1
            exact absurd hl1 (by decide)
          · exact z
        subst hs0
        refine ⟨_, rfl, _, rfl, rfl, _, rfl, iteT ?_⟩
        refine ⟨rfl, _, rfl, iteT ?_⟩
        refine k _ H Ext.rfl' ?_
        rw [hdue, if_pos (hfree.mpr (hz.mp rfl))]
        exact rfl
      · have hr1 : 1 ≤ r := one_of hr hr0
        have hs0 : 0 ≤ s := Int.not_lt.mp fun z => by
          have a1 : b.len * q * s ≤ b.len * q * (-1) := Int.mul_le_mul_of_nonneg_left (Int.le_sub_one_of_lt z) (Int.le_trans (by decide) hl1)
          have a2 : 0 ≤ x * r := Int.mul_nonneg x0 hr
          rw [he] at a1
          exact no1 hl1 a1 a2
        have hs1 : s ≤ r := Int.not_lt.mp fun z => by
          have a1 : b.len * q * (r + 1) ≤ b.len * q * s := Int.mul_le_mul_of_nonneg_left (Int.add_one_le_of_lt z) (Int.le_trans (by decide) hl1)
          have a2 : x * r ≤ b.len * q * r := Int.mul_le_mul_of_nonneg_right x1 hr
          rw [Int.mul_add, Int.mul_one, he] at a1
          exact no2 hl1 a1 a2
        have hne : ¬ tb = ta := fun z => hr0 (hz.mpr (hfree.mp z))
        have hlow := low_eq (n := b.len * s) (s := r) (n' := x) (s' := q) hr1 q1 (by rw [← he, Int.mul_assoc, Int.mul_assoc, Int.mul_comm s q])
        have hmul : CMulW b.len s := wide_mul (a := 20) (b := 7001) (len20 okb.l0 okb.l1) hss (by decide) (by decide) (by decide)
        refine ⟨_, rfl, _, rfl, rfl, _, rfl, ite2 (fun c1 => ?_) (fun c1 => ?_)⟩
        · have hsr : V.int r = V.int s := of_decide_eq_true c1
          have hs00 : ¬ V.int s = V.int 0 := fun z => hr0 (by rw [V.int.inj hsr, V.int.inj z])
          refine ⟨rfl, _, rfl, ?_⟩
          rw [decide_eq_false hs00]
          refine iteF ?_
          refine ⟨_, rfl, _, _, rfl, rfl, _, rfl, ?_⟩
          rw [decide_eq_true hs0]
          refine iteT ?_
          refine ⟨_, rfl, _, _, rfl, rfl, _, rfl, ?_⟩
          rw [decide_eq_true hs1]
          refine iteF ?_
          refine ⟨_, rfl, bx, T.C_Bar, bdx, _, _, rfl, hbx, T.c_Bar, T.nf_Bar_length, rfl, _, rfl, _, _, rfl, rfl, hmul, _, rfl, _, _, rfl, hr1, Nat.lt_of_lt_of_le hrs (Nat.pow_le_pow_right (by decide) (by decide)), fun u H' e hu hu' => ?_⟩
          refine k _ H' e ?_
          rw [hdue, if_neg hne]
          rw [hlow.1, hlow.2] at hu'
          exact ⟨u, _, rfl, SqT.of hu', _, _, rfl, rfl, _, _, rfl, rfl, rfl⟩
        · refine ⟨_, rfl, iteF ?_⟩
          refine ⟨_, rfl, _, _, rfl, rfl, _, rfl, ?_⟩
          rw [decide_eq_true hs0]
          refine iteT ?_
          refine ⟨_, rfl, _, _, rfl, rfl, _, rfl, ?_⟩
          rw [decide_eq_true hs1]
          refine iteF ?_
          refine ⟨_, rfl, bx, T.C_Bar, bdx, _, _, rfl, hbx, T.c_Bar, T.nf_Bar_length, rfl, _, rfl, _, _, rfl, rfl, hmul, _, rfl, _, _, rfl, hr1, Nat.lt_of_lt_of_le hrs (Nat.pow_le_pow_right (by decide) (by decide)), fun u H' e hu hu' => ?_⟩
          refine k _ H' e ?_
          rw [hdue, if_neg hne]
          rw [hlow.1, hlow.2] at hu'
          exact ⟨u, _, rfl, SqT.of hu', _, _, rfl, rfl, _, _, rfl, rfl, rfl⟩
    · have hr : 0 ≤ r0 := Int.not_lt.mp fun z => c (decide_eq_true z)
      obtain ⟨r, rfl⟩ : ∃ r, r = r0 := ⟨_, rfl⟩
      obtain ⟨s, rfl⟩ : ∃ s, s = s0 := ⟨_, rfl⟩
      have hz : r = 0 ↔ r = 0 := Iff.rfl
      have he := heq
      have hss := hS
      have hrs := hR
      clear c
      have hl1 : 1 ≤ b.len * q := Int.mul_le_mul okb.l0 q1 (by decide) (Int.le_trans (by decide) okb.l0)
      by_cases hr0 : r = 0
      · subst hr0
        have hs0 : s = 0 := by
          rw [Int.mul_zero] at he
          rcases Int.mul_eq_zero.mp he with z | z
          · rw [z] at hl1
            exact absurd hl1 (by decide)
          · exact z
        subst hs0
        refine ⟨_, rfl, _, rfl, rfl, _, rfl, iteT ?_⟩
        refine ⟨rfl, _, rfl, iteT ?_⟩
        refine k _ H Ext.rfl' ?_
        rw [hdue, if_pos (hfree.mpr (hz.mp rfl))]
        exact rfl
      · have hr1 : 1 ≤ r := one_of hr hr0
        have hs0 : 0 ≤ s := Int.not_lt.mp fun z => by
          have a1 : b.len * q * s ≤ b.len * q * (-1) := Int.mul_le_mul_of_nonneg_left (Int.le_sub_one_of_lt z) (Int.le_trans (by decide) hl1)
          have a2 : 0 ≤ x * r := Int.mul_nonneg x0 hr
          rw [he] at a1
          exact no1 hl1 a1 a2
        have hs1 : s ≤ r := Int.not_lt.mp fun z => by
          have a1 : b.len * q * (r + 1) ≤ b.len * q * s := Int.mul_le_mul_of_nonneg_left (Int.add_one_le_of_lt z) (Int.le_trans (by decide) hl1)
          have a2 : x * r ≤ b.len * q * r := Int.mul_le_mul_of_nonneg_right x1 hr
          rw [Int.mul_add, Int.mul_one, he] at a1
          exact no2 hl1 a1 a2
        have hne : ¬ tb = ta := fun z => hr0 (hz.mpr (hfree.mp z))
        have hlow := low_eq (n := b.len * s) (s := r) (n' := x) (s' := q) hr1 q1 (by rw [← he, Int.mul_assoc, Int.mul_assoc, Int.mul_comm s q])
        have hmul : CMulW b.len s := wide_mul (a := 20) (b := 7001) (len20 okb.l0 okb.l1) hss (by decide) (by decide) (by decide)
        refine ⟨_, rfl, _, rfl, rfl, _, rfl, ite2 (fun c1 => ?_) (fun c1 => ?_)⟩
        · have hsr : V.int r = V.int s := of_decide_eq_true c1
          have hs00 : ¬ V.int s = V.int 0 := fun z => hr0 (by rw [V.int.inj hsr, V.int.inj z])
          refine ⟨rfl, _, rfl, ?_⟩
          rw [decide_eq_false hs00]
          refine iteF ?_
          refine ⟨_, rfl, _, _, rfl, rfl, _, rfl, ?_⟩
          rw [decide_eq_true hs0]
          refine iteT ?_
          refine ⟨_, rfl, _, _, rfl, rfl, _, rfl, ?_⟩
          rw [decide_eq_true hs1]
          refine iteF ?_
          refine ⟨_, rfl, bx, T.C_Bar, bdx, _, _, rfl, hbx, T.c_Bar, T.nf_Bar_length, rfl, _, rfl, _, _, rfl, rfl, hmul, _, rfl, _, _, rfl, hr1, Nat.lt_of_lt_of_le hrs (Nat.pow_le_pow_right (by decide) (by decide)), fun u H' e hu hu' => ?_⟩
          refine k _ H' e ?_
          rw [hdue, if_neg hne]
          rw [hlow.1, hlow.2] at hu'
          exact ⟨u, _, rfl, SqT.of hu', _, _, rfl, rfl, _, _, rfl, rfl, rfl⟩
        · refine ⟨_, rfl, iteF ?_⟩
          refine ⟨_, rfl, _, _, rfl, rfl, _, rfl, ?_⟩
          rw [decide_eq_true hs0]
          refine iteT ?_
          refine ⟨_, rfl, _, _, rfl, rfl, _, rfl, ?_⟩
          rw [decide_eq_true hs1]
          refine iteF ?_
          refine ⟨_, rfl, bx, T.C_Bar, bdx, _, _, rfl, hbx, T.c_Bar, T.nf_Bar_length, rfl, _, rfl, _, _, rfl, rfl, hmul, _, rfl, _, _, rfl, hr1, Nat.lt_of_lt_of_le hrs (Nat.pow_le_pow_right (by decide) (by decide)), fun u H' e hu hu' => ?_⟩
          refine k _ H' e ?_
          rw [hdue, if_neg hne]
          rw [hlow.1, hlow.2] at hu'
          exact ⟨u, _, rfl, SqT.of hu', _, _, rfl, rfl, _, _, rfl, rfl, rfl⟩
end
end K06

namespace K06
open PySem L2
section
variable {P : Program} {w : World} {K : PySem.W.Frag} {mg : Str → Option Value} {base : Heap}
/-- heights in parts that keep the held rods where they are held -/
structure HtOk (n : Nat) (hl : List (Int × Int)) (ts : List Int) (s : Int) : Prop where
  len : ts.length = n
  s1 : 1 ≤ s
  held : ∀ r ∈ hl.map (·.1), tv ts r = lookI hl r * s
def spCkHt (K : PySem.W.Frag) (T : Tx K mg) : Sp := fun vs H Q _ => ∃ (v : V) (h : Addr) (n : Nat) (bs : List BarD) (hl : List (Int × Int)) (ts : List Int) (s : Int), vs = [v, .ref h, .int s] ∧ Is K H (wbD T.C_Web T.C_Bar (n : Int) bs hl) v ∧ SqQ K H h (ts.map V.int) ∧ HtOk n hl ts s ∧ (∀ p ∈ hl, (0 ≤ p.1 ∧ p.1 < (n : Int)) ∧ -1000000 ≤ p.2 ∧ p.2 ≤ 1000000) ∧ hl.length < 64 ∧
  ∀ H', Ext H H' → Q .non H'
theorem ok_check_heights (T : Tx K mg) : FnOk P w K mg base (L2.CX P w) 4 T.a_check_heights T.fd_check_heights ["web", "heights", "parts"] (spCkHt K T) := by
  refine T.F_check_heights.okX sc_check_heights (fun vs H Q E h => ?_) (fun cdv A outer s H vs Q E hr h => ?_)
  · obtain ⟨v, h, n, bs, hl, ts, sb, rfl, _⟩ := h
    rfl
  · obtain ⟨v, h, n, bs, hl, ts, sb, rfl, hv, hh, ho, hks, h64, k⟩ := h
    refine ⟨_, (pss_cons (ps_if (pt_cmpR op_lt (pv 2) pe_int (nomark _)) (pss_one ps_never) pss_nil)
      (pss_cons (ps_if (pt_cmpR op_ne (pe_callB call_len_seq (by rfl) T.z_len PySem.boot_len (pa_cons (pv 1) pa_nil)) (pe_fld (pv 0) rfl) (nomark _)) (pss_one ps_never) pss_nil)
      (pss_cons (ps_set (i := 3) sc_check_heights.nd rfl (Or.inl rfl) (pe_meth0 (pv 0) T.c_Web T.M_Web_held (ok_Web_held T) (hr.mono (by decide)) T.b_Web_held .nil passL))
      (pss_one (ps_for (passes_of rfl) rfl (pi_list (pe_callB (call_sortedDI rfl) (by rfl) T.z_sorted (by decide +kernel) (pa_cons (pv 3) pa_nil))) (pg_name (i := 4) sc_check_heights.nd rfl (Or.inl rfl)) (pss_one (ps_if (pt_cmpR op_ne (pe_ix ix_seqQ (pv 1) (pv 4) (fun _ _ => rfl)) (pe_op op_mul (pe_dget (hu_of hr) (pv 3) (pv 4) (fun _ _ => rfl)) (pv 2)) (nomark _)) (pss_one ps_never) pss_nil))))))), ?_⟩
    obtain ⟨a, dx, t, d, ws, rfl, ha, ht, hb, hd⟩ := wb_fields hv
    have s1 := ho.s1
    refine ⟨_, rfl, _, _, rfl, rfl, _, rfl, ite2 (fun c => absurd (of_decide_eq_true c) (by omega)) fun _ => ?_⟩
    refine ⟨_, rfl, h, _, rfl, hh, ?_⟩
    rw [List.length_map, ho.len]
    refine ⟨_, rfl, a, T.C_Web, dx, _, _, rfl, ha, T.c_Web, T.nf_Web_rods, rfl, rfl, _, rfl, ?_⟩
    refine ite2 (fun hc => absurd hc (by simp)) fun _ => ?_
    refine ⟨_, rfl, a, dx, _, rfl, ha, rfl, .ref a, (n : Int), bs, hl, rfl, hv, fun q hq => ?_⟩
    have e1 : Ext H (upd H q (.dK (hK hl))) := Ext.upd hq
    have hq1 : (upd H q (.dK (hK hl))) q = some (.dK (hK hl)) := upd_same
    generalize upd H q (.dK (hK hl)) = H1 at e1 hq1 ⊢
    have hkk : (hK hl).map (·.1) = (hl.map (·.1)).map Sum.inl := by
      unfold hK
      rw [List.map_map, List.map_map]
      rfl
    refine ⟨_, rfl, q, _, _, rfl, .inl hq1, hkk, by rw [List.length_map]; exact h64, fun ys p hp hs hpn => ?_⟩
    cases srt_eq hp hs
    have e2 : Ext H1 (upd H1 p (.lst ((srtI (hl.map (·.1))).map V.int))) := Ext.upd hpn
    have hp1 : (upd H1 p (.lst ((srtI (hl.map (·.1))).map V.int))) p = some (.lst ((srtI (hl.map (·.1))).map V.int)) := upd_same
    generalize upd H1 p (.lst ((srtI (hl.map (·.1))).map V.int)) = H2 at e2 hp1 ⊢
    refine ⟨p, rfl, ⟨_, SqL.of hp1⟩, for_list (K := K) (a := p) (xs := (srtI (hl.map (·.1))).map V.int) (fun i σ H' => Ext H2 H' ∧ ∃ v4 : Option V, σ = [some (.ref a), some (.ref h), some (.int sb), some (.ref q), v4])
      ⟨Ext.rfl', none, rfl⟩ (fun i σ H' _ p => (SqL.of hp1).ext p.1) ?_ ?_⟩
    · rintro i y σ H3 hi ⟨e3, v4, rfl⟩
      obtain ⟨r, hr', rfl⟩ : ∃ r, (srtI (hl.map (·.1)))[i]? = some r ∧ y = V.int r := by
        rw [List.getElem?_map] at hi
        cases e : (srtI (hl.map (·.1)))[i]? with
        | none => rw [e] at hi; cases hi
        | some n => rw [e] at hi; exact ⟨n, rfl, (Option.some.inj hi).symm⟩
      have hrm : r ∈ hl.map (·.1) := (srtI_perm _).mem_iff.mp (List.mem_of_getElem? hr')
      have hlm := look_mem hrm
      obtain ⟨⟨r0, r1⟩, b0, b1⟩ := hks _ hlm
      dsimp only at r0 r1 b0 b1
      have e03 := (e1.trans e2).trans e3
      refine ⟨_, rfl, _, rfl, h, _, _, _, rfl, rfl, hh.ext e03, at_tv r0 (by rw [ho.len]; exact r1), ?_⟩
      have dg : DGet H3 q (V.int r) (some (V.int (lookI hl r))) := by
        have z := DGet.k (k := Sum.inl r) ((e2.trans e3) _ _ hq1)
        rw [val_hK hrm] at z
        exact z
      refine ⟨_, rfl, _, rfl, q, _, rfl, dg, _, rfl, _, _, rfl, rfl, .inl ⟨by omega, by omega⟩, ?_⟩
      rw [ho.held r hrm]
      refine ⟨rfl, _, rfl, ?_⟩
      refine ite2 (fun hc => absurd hc (by simp)) fun _ => ?_
      exact ⟨e3, _, rfl⟩
    · rintro σ H3 ⟨e3, v4, rfl⟩
      exact k H3 ((e1.trans e2).trans e3)
def spLed (K : PySem.W.Frag) (T : Tx K mg) : Sp := fun vs H Q _ => ∃ (v : V) (h : Addr) (n : Nat) (bs : List BarD) (hl : List (Int × Int)) (ts ns : List Int) (s q : Int), vs = [v, .ref h, .int s] ∧ Is K H (wbD T.C_Web T.C_Bar (n : Int) bs hl) v ∧ SqQ K H h (ts.map V.int) ∧ HtOk n hl ts s ∧ (∀ p ∈ hl, (0 ≤ p.1 ∧ p.1 < (n : Int)) ∧ -1000000 ≤ p.2 ∧ p.2 ≤ 1000000) ∧ hl.length < 64 ∧
  bs.length ≤ 8 ∧ (∀ b ∈ bs, BarOk (n : Int) b) ∧ (∀ r, 0 ≤ r → r < (n : Int) → (tv ts r).natAbs < 2 ^ 7000) ∧ PlOk bs ns q ∧
  (∀ (i : Nat) (b : BarD) (x : Int), bs[i]? = some b → ns[i]? = some x → b.len * q * (tv ts b.c - tv ts b.a) = x * (tv ts b.b - tv ts b.a)) ∧
  ∀ (p : Addr) (us : List V) H', Ext H H' → H p = none → H' p = some (.lst us) → IsL K (del H' p) ((bs.zip ns).map fun z => dueD z.1 ts z.2 q) us → Q (.ref p) H'
theorem ok_led (T : Tx K mg) : FnOk P w K mg base (L2.CX P w) 8 T.a_led T.fd_led ["web", "heights", "parts"] (spLed K T) := by
  refine T.F_led.okX sc_led (fun vs H Q E h => ?_) (fun cdv A outer s H vs Q E hr h => ?_)
  · obtain ⟨v, h, n, bs, hl, ts, ns, sb, q, rfl, _⟩ := h
    rfl
  · obtain ⟨v, h, n, bs, hl, ts, ns, sb, q, rfl, hv, hh, ho, hks, h64, b8, okb, tsm, po, heq, k⟩ := h
    refine ⟨_, (pss_cons (ps_expr (pe_call (ok_check_heights T) (hr.mono (by decide)) rfl T.m_check_heights T.F_check_heights.kp T.b_check_heights .nil passL (pa_cons (pv 0) (pa_cons (pv 1) (pa_cons (pv 2) pa_nil)))))
      (pss_one (ps_ret (pe_lc (own := [("bar", 3)]) (g := gName 3) (tt := tYes) (te := tCall (spLedBar K T) [] E0 (tCons (tVar 3) (tCons (tVar 1) tNil))) (by rfl) sc_led.nd (pi_tup (pe_fld (pv 0) rfl)) (blkOk_by (own := [("bar", 3)]) (N := N_led) (sc := defScope s_led) (by decide +kernel)) (fun _ _ _ _ _ => (pg_name (i := 3) sc_led.nd rfl (Or.inl rfl))) (fun _ _ _ _ _ => pts_nil) (fun _ _ _ _ _ => (by exact pe_call (ok_led_bar T) (hr.mono (by decide)) rfl T.m_led_bar T.F_led_bar.kp T.b_led_bar .nil passL (pa_cons (pv 3) (pa_cons (pv 1) pa_nil)))))))), ?_⟩
    refine ⟨_, rfl, _, rfl, _, rfl, v, h, n, bs, hl, ts, sb, rfl, hv, hh, ho, hks, h64, fun H1 e1 => ?_⟩
    obtain ⟨a, dx, t, d, ws, rfl, ha, ht, hb, hd⟩ := wb_fields (hv.ext e1)
    have hwl : ws.length = bs.length := by rw [isL_len hb, List.length_map]
    refine ⟨_, rfl, a, T.C_Web, dx, _, _, rfl, ha, T.c_Web, T.nf_Web_bars, rfl, t, rfl, ⟨_, ht⟩, fun D hD => ?_⟩
    refine lc_tup (xs := ws) (fun i H' => Ext H1 H' ∧ ∃ us, H' D = some (.lst us) ∧ IsL K (del H' D) (((bs.zip ns).take i).map fun z => dueD z.1 ts z.2 q) us ∧ us.length = i) ⟨Ext.upd hD, [], upd_same, rfl, rfl⟩ (fun i H' _ p => ht.ext p.1) ?_ ?_
    · rintro i y H2 hi ⟨e2, us, hD2, hus, hul⟩
      obtain ⟨b, hbi, ib⟩ := isL_at' hb hi
      have hin : i < bs.length := (List.getElem?_eq_some_iff.mp hbi).1
      have hx : ns[i]? = some (ns[i]'(by rw [po.len]; exact hin)) := List.getElem?_eq_getElem _
      generalize ns[i]'(by rw [po.len]; exact hin) = x at hx
      obtain ⟨w0, w1⟩ := po.within i b x hbi hx
      refine ⟨rfl, tyes ?_⟩
      refine ⟨_, rfl, _, rfl, y, h, (n : Int), b, ts, x, q, rfl, ib.ext e2, hh.ext (e1.trans e2), okb b (List.mem_of_getElem? hbi), by rw [ho.len], tsm, po.q1, w0, w1, heq i b x hbi hx, fun u H3 e3 iu => ?_⟩
      have hD3 := e3 _ _ hD2
      have hz2 : (bs.zip ns)[i]? = some (b, x) := by rw [List.getElem?_zip_eq_some]; exact ⟨hbi, hx⟩
      have iu' : Is K (del H3 D) (dueD b ts x q) u := by
        unfold dueD at iu ⊢
        split at iu
        · rename_i c; rw [if_pos c]; exact iu
        · rename_i c
          rw [if_neg c]
          obtain ⟨tt, xs, rfl, hs, hl2⟩ := iu
          refine ⟨tt, xs, rfl, ?_, ?_⟩
          · rcases hs with (r | ⟨o', r⟩) | r
            · exact .inl (.inl (by rw [del_ne (fun e => by rw [e, hD3] at r; cases r)]; exact r))
            · exact .inl (.inr ⟨o', by rw [del_ne (fun e => by rw [e, hD3] at r; cases r)]; exact r⟩)
            · exact .inr r
          · obtain ⟨v1, r1, g1, f1, v2, r2, g2, f2, f3⟩ := hl2
            exact ⟨v1, r1, g1, f1, v2, r2, g2, f2, f3⟩
      refine ⟨us, hD3, ?_, (e2.trans e3).mut hD, us ++ [u], upd_same, ?_, by rw [List.length_append, hul]; rfl⟩
      · rw [hul]
        exact Nat.lt_of_lt_of_le (show i < 100 by omega) (by decide)
      · rw [List.take_add_one, hz2, List.map_append]
        have eD : Ext (del H2 D) (del (upd H3 D (.lst (us ++ [u]))) D) := (DE.of e3).trans DE.upd
        have eD3 : Ext (del H3 D) (del (upd H3 D (.lst (us ++ [u]))) D) := DE.upd
        exact isL_snoc (hus.ext eD) (iu'.ext eD3)
    · rintro H2 ⟨e2, us, hD2, hus, hul⟩
      rw [hwl, show (bs.zip ns).take bs.length = bs.zip ns from List.take_of_length_le (by rw [List.length_zip, po.len]; omega)] at hus
      exact k D us H2 (e1.trans e2) (e1.fresh hD) hD2 hus
end
end K06

namespace K06
open PySem L2
theorem normP_pos {ns : List Int} {s : Int} (hs : 1 ≤ s) : 1 ≤ normP ns s := by
  have h := gcdL_pos (g := s.natAbs) ns (by omega)
  exact Int.ediv_pos_of_pos_of_dvd (by omega) (by omega) (Int.ofNat_dvd_left.mpr (gcdL_dvd_start _ ns))
theorem normP_le {ns : List Int} {s : Int} : (normP ns s).natAbs ≤ s.natAbs := ediv_abs_le
/-- what was taken out of all -/
def gOf (ns : List Int) (s : Int) : Int := ((gcdL s.natAbs ns : Nat) : Int)
theorem gOf_pos {ns : List Int} {s : Int} (hs : 1 ≤ s) : 1 ≤ gOf ns s := by
  have h := gcdL_pos (g := s.natAbs) ns (by omega)
  unfold gOf
  omega
theorem normP_back (ns : List Int) (s : Int) : normP ns s * gOf ns s = s := div_mul_back (gcdL_dvd_start _ ns)
theorem len_norm (ns : List Int) (s : Int) : (normN ns s).length = ns.length := by unfold normN; rw [List.length_map]
theorem norm_at {ns : List Int} {s : Int} {i : Nat} {y : Int} (h : (normN ns s)[i]? = some y) : ∃ x, ns[i]? = some x ∧ y * gOf ns s = x := by
  unfold normN at h
  rw [List.getElem?_map] at h
  cases e : ns[i]? with
  | none => rw [e] at h; cases h
  | some x =>
    rw [e] at h
    cases h
    exact ⟨x, rfl, div_mul_back (gcdL_dvd (List.mem_of_getElem? e))⟩
theorem norm_of {ns : List Int} {s : Int} {i : Nat} {x : Int} (h : ns[i]? = some x) : ∃ y, (normN ns s)[i]? = some y ∧ y * gOf ns s = x := by
  unfold normN
  rw [List.getElem?_map, h]
  exact ⟨_, rfl, div_mul_back (gcdL_dvd (List.mem_of_getElem? h))⟩
theorem plok_norm {bs : List BarD} {ns : List Int} {q : Int} (h : PlOk bs ns q) : PlOk bs (normN ns q) (normP ns q) where
  len := by rw [len_norm]; exact h.len
  q1 := normP_pos h.q1
  qs := by have := normP_le (ns := ns) (s := q); have := h.qs; have := h.q1; have := normP_pos (ns := ns) h.q1; omega
  within := fun i b y hb hy => by
    obtain ⟨x, hx, e⟩ := norm_at hy
    obtain ⟨w0, w1⟩ := h.within i b x hb hx
    have g1 := gOf_pos (ns := ns) h.q1
    have eq := normP_back ns q
    generalize gOf ns q = g at *
    generalize normP ns q = p at *
    subst e eq
    refine ⟨Int.not_lt.mp fun z => ?_, ?_⟩
    · have := Int.mul_neg_of_neg_of_pos z (show 0 < g by omega)
      omega
    · rw [← Int.mul_assoc] at w1
      exact Int.le_of_mul_le_mul_right w1 (by omega)
theorem tv_norm {ts : List Int} {s : Int} {r : Int} (h0 : 0 ≤ r) (h1 : r < (ts.length : Int)) : tv (normN ts s) r * gOf ts s = tv ts r := by
  have hk : r.toNat < ts.length := by omega
  obtain ⟨y, hy, e⟩ := norm_of (s := s) (List.getElem?_eq_getElem hk)
  unfold tv
  rw [List.getD_eq_getElem?_getD, hy, List.getD_eq_getElem?_getD, List.getElem?_eq_getElem hk]
  exact e
theorem tv_tops {n : Nat} {q : Int} {hl : List (Int × Int)} {bs : List BarD} {ns : List Int} {r : Int} (h0 : 0 ≤ r) (h1 : r < (n : Int)) : tv (topsB n q hl bs ns) r = topB n (hangL (n : Int) hl) q hl bs ns r * sgnI (detB n (hangL (n : Int) hl) q bs ns) := by
  have hk : r.toNat < n := by omega
  have hr : (rangeI n)[r.toNat]? = some r := by
    unfold rangeI
    rw [List.getElem?_map, List.getElem?_range hk]
    show some ((r.toNat : Nat) : Int) = some r
    rw [Int.toNat_of_nonneg h0]
  unfold tv topsB
  rw [List.getD_eq_getElem?_getD, List.getElem?_map, hr]
  rfl
/-- what stand tells of such a web -/
structure StOk (n : Nat) (hl : List (Int × Int)) (bs : List BarD) (ns : List Int) (q : Int) (ts : List Int) (s : Int) : Prop where
  ht : HtOk n hl ts s
  small : ∀ r, 0 ≤ r → r < (n : Int) → (tv ts r).natAbs < 2 ^ 6000
  eqs : ∀ (i : Nat) (b : BarD) (x : Int), bs[i]? = some b → ns[i]? = some x → b.len * q * (tv ts b.c - tv ts b.a) = x * (tv ts b.b - tv ts b.a)
theorem three_eq {x q L A B C s : Int} (h : (x - q * L) * A + (-x) * B + q * L * C = 0) : L * q * (C * s - A * s) = x * (B * s - A * s) := by
  have e1 : L * q * (C * s - A * s) - x * (B * s - A * s) = ((x - q * L) * A + (-x) * B + q * L * C) * s := by
    simp only [Int.mul_sub, Int.sub_mul, Int.add_mul, Int.mul_assoc, Int.neg_mul, Int.mul_comm L, Int.mul_left_comm L]
    omega
  rw [h, Int.zero_mul] at e1
  omega
theorem cancel_eq {L q x A B C g k : Int} (hg : 1 ≤ g) (h : L * q * (C * g - A * g) = x * (B * g - A * g)) : L * (q * k) * (C - A) = x * k * (B - A) := by
  rw [← Int.sub_mul, ← Int.sub_mul, ← Int.mul_assoc, ← Int.mul_assoc] at h
  have h2 := Int.eq_of_mul_eq_mul_right (by omega : g ≠ 0) h
  have e1 : L * (q * k) * (C - A) = L * q * (C - A) * k := by rw [← Int.mul_assoc, Int.mul_right_comm]
  have e2 : x * k * (B - A) = x * (B - A) * k := by rw [Int.mul_right_comm]
  rw [e1, e2, h2]
theorem st_ok {n : Nat} {hl : List (Int × Int)} {bs : List BarD} {ns : List Int} {q : Int} (ok : WebOk (n : Int) hl bs) (li : LineOk hl bs) (po : PlOk bs ns q) :
    StOk n hl bs ns q (normN (topsB n (normP ns q) hl bs (normN ns q)) (stB n (normP ns q) hl bs (normN ns q))) (normP (topsB n (normP ns q) hl bs (normN ns q)) (stB n (normP ns q) hl bs (normN ns q))) := by
  have po2 := plok_norm po
  have hdet := line_det (q := normP ns q) ok li po2.q1 po2.len
  have hs1 : 1 ≤ stB n (normP ns q) hl bs (normN ns q) := sgn_pos hdet
  have g1 := gOf_pos (ns := topsB n (normP ns q) hl bs (normN ns q)) hs1
  have hqs : (normP ns q).natAbs < 2 ^ 300 := by have := po2.qs; have := po2.q1; exact Nat.lt_of_le_of_lt (show (normP ns q).natAbs ≤ 1000000 by omega) (by decide +kernel)
  have hsm : ∀ x ∈ normN ns q, x.natAbs < 2 ^ 300 := fun x hx => by
    obtain ⟨i, hi, e⟩ := List.getElem_of_mem hx
    have hib : i < bs.length := by rw [← po2.len]; exact hi
    obtain ⟨w0, w1⟩ := po2.within i bs[i] x (List.getElem?_eq_getElem hib) (by rw [← e]; exact List.getElem?_eq_getElem hi)
    have okb := ok.bars _ (List.getElem_mem hib)
    have w2 : bs[i].len * normP ns q ≤ 1000000 * 1000000 := Int.mul_le_mul okb.l1 po2.qs (by have := po2.q1; omega) (by decide)
    exact Nat.lt_of_le_of_lt (show x.natAbs ≤ 1000000 * 1000000 by omega) (by decide +kernel)
  have tl : (topsB n (normP ns q) hl bs (normN ns q)).length = n := len_tops
  refine ⟨⟨by rw [len_norm, tl], normP_pos hs1, fun r hr => ?_⟩, fun r r0 r1 => ?_, fun i b x hb hx => ?_⟩
  · obtain ⟨p, hp, rfl⟩ := List.mem_map.mp hr
    obtain ⟨⟨k0, k1⟩, _⟩ := ok.keys p hp
    have a := tv_norm (ts := topsB n (normP ns q) hl bs (normN ns q)) (s := stB n (normP ns q) hl bs (normN ns q)) k0 (by rw [tl]; exact k1)
    rw [tv_tops k0 k1] at a
    have bk := normP_back (topsB n (normP ns q) hl bs (normN ns q)) (stB n (normP ns q) hl bs (normN ns q))
    have tb : topB n (hangL (n : Int) hl) (normP ns q) hl bs (normN ns q) p.1 * sgnI (detB n (hangL (n : Int) hl) (normP ns q) bs (normN ns q)) = lookI hl p.1 * stB n (normP ns q) hl bs (normN ns q) := by
      unfold topB stB
      rw [if_pos hr, Int.mul_assoc]
    rw [tb] at a
    refine Int.eq_of_mul_eq_mul_right (show gOf (topsB n (normP ns q) hl bs (normN ns q)) (stB n (normP ns q) hl bs (normN ns q)) ≠ 0 by omega) ?_
    rw [a, Int.mul_assoc, bk]
  · have a := tv_norm (ts := topsB n (normP ns q) hl bs (normN ns q)) (s := stB n (normP ns q) hl bs (normN ns q)) r0 (by rw [tl]; exact r1)
    have hm : (tv (topsB n (normP ns q) hl bs (normN ns q)) r).natAbs < 2 ^ 5020 := by
      rw [tv_tops r0 r1, sgn_abs]
      exact topB_small ok po2.len hsm hqs r
    rw [← a, Int.natAbs_mul] at hm
    refine Nat.lt_of_le_of_lt ?_ (Nat.lt_of_lt_of_le hm (Nat.pow_le_pow_right (by decide) (by decide)))
    exact Nat.le_mul_of_pos_right _ (by omega)
  · obtain ⟨y, hy, ey⟩ := norm_of (s := q) hx
    have okb := ok.bars b (List.mem_of_getElem? hb)
    have be := three_eq (s := sgnI (detB n (hangL (n : Int) hl) (normP ns q) bs (normN ns q))) (bar_eq (q := normP ns q) ok po2.len hb hy)
    rw [← tv_tops okb.c0 okb.c1, ← tv_tops okb.a0 okb.a1, ← tv_tops okb.b0 okb.b1,
      ← tv_norm (s := stB n (normP ns q) hl bs (normN ns q)) okb.c0 (by rw [tl]; exact okb.c1), ← tv_norm (s := stB n (normP ns q) hl bs (normN ns q)) okb.a0 (by rw [tl]; exact okb.a1), ← tv_norm (s := stB n (normP ns q) hl bs (normN ns q)) okb.b0 (by rw [tl]; exact okb.b1)] at be
    have z := cancel_eq (k := gOf ns q) g1 be
    rw [normP_back ns q, ey] at z
    exact z
end K06

namespace K06
open PySem L2
section
variable {P : Program} {w : World} {K : PySem.W.Frag} {mg : Str → Option Value} {base : Heap}
def spCommon (K : PySem.W.Frag) : Sp := fun vs H Q _ => ∃ (l : Addr) (ns : List Int), vs = [.ref l] ∧ SqL K H l (ns.map V.int) ∧ Q (.int ((gcdL 0 ns : Nat) : Int)) H
theorem ok_l_common (T : Tx K mg) : FnOk P w K mg base (L2.CX P w) 1 T.a_l_common T.fd_l_common ["_law_numbers_so"] (spCommon K) := by
  refine T.F_l_common.okX sc_l_common (fun vs H Q E h => ?_) (fun cdv A outer s H vs Q E hr h => ?_)
  · obtain ⟨l, ns, rfl, _⟩ := h
    rfl
  · obtain ⟨l, ns, rfl, hl, k⟩ := h
    refine ⟨_, (pss_cons (ps_set (i := 1) sc_l_common.nd rfl (Or.inl rfl) pe_int)
      (pss_cons (ps_for (passes_of rfl) rfl (pi_list (pv 0)) (pg_name (i := 2) sc_l_common.nd rfl (Or.inl rfl)) (pss_cons (ps_set (i := 2) sc_l_common.nd rfl (Or.inl rfl) (pe_callB call_abs (by rfl) T.z_abs (by decide +kernel) (pa_cons (pv 2) pa_nil)))
      (pss_one (ps_while (passes_of rfl) (pt_cmpR op_gt (pv 2) pe_int (nomark _)) (pss_one (ps_par (i := 1) (j := 2) (by rfl) sc_l_common.nd rfl rfl (by decide) rfl rfl (pa_cons (pv 2) (pa_cons (pe_op op_modN (pv 1) (pv 2)) pa_nil)) (by rfl)))))))
      (pss_one (ps_ret (pv 1))))), ?_⟩
    refine ⟨_, rfl, l, rfl, ⟨_, hl⟩, for_list (K := K) (a := l) (xs := ns.map V.int) (fun i σ H' => H' = H ∧ ∃ v : Option V, σ = [some (.ref l), some (.int ((gcdL 0 (ns.take i) : Nat) : Int)), v]) ⟨rfl, none, rfl⟩ (fun i σ H' _ ⟨e, _⟩ => e ▸ hl) ?_ ?_⟩
    · rintro i y σ H' hi ⟨rfl, v, rfl⟩
      obtain ⟨n, hn, rfl⟩ : ∃ n, ns[i]? = some n ∧ y = V.int n := by
        rw [List.getElem?_map] at hi
        cases e : ns[i]? with
        | none => rw [e] at hi; cases hi
        | some n => rw [e] at hi; exact ⟨n, rfl, (Option.some.inj hi).symm⟩
      have hin : i < ns.length := (List.getElem?_eq_some_iff.mp hn).1
      have step : gcdL 0 (ns.take (i + 1)) = Nat.gcd (gcdL 0 (ns.take i)) n.natAbs := by
        rw [List.take_add_one, hn, gcdL_append]
        rfl
      refine ⟨_, rfl, n, rfl, ?_⟩
      have ea : (if n < 0 then -n else n) = ((n.natAbs : Nat) : Int) := by
        split <;> omega
      rw [ea]
      refine while_by (fun σ H2 => H2 = H' ∧ ∃ a b : Nat, σ = [some (.ref l), some (.int (a : Int)), some (.int (b : Int))] ∧ Nat.gcd a b = gcdL 0 (ns.take (i + 1)))
        (fun σ _ => match σ with | [_, _, some (.int b)] => b.toNat | _ => 0) ⟨rfl, _, _, rfl, step.symm⟩ ?_ ?_
      · rintro σ H2 ⟨rfl, a, b, rfl, hg⟩
        refine ⟨_, rfl, _, _, rfl, rfl, _, rfl, ?_⟩
        refine ite2 (fun hc => ?_) (fun hc => ?_)
        · have hb : 0 < b := by
            have := of_decide_eq_true hc
            omega
          refine ⟨_, rfl, _, rfl, _, rfl, _, _, rfl, rfl, (show (b : Int) ≠ 0 by omega), _, _, rfl, ?_⟩
          have em : Int.fmod (a : Int) (b : Int) = ((a % b : Nat) : Int) := by
            rw [Int.fmod_eq_emod_of_nonneg _ (by omega)]
            rfl
          refine ⟨⟨rfl, b, a % b, by rw [← em]; rfl, ?_⟩, ?_⟩
          · rw [Nat.gcd_comm b, ← Nat.gcd_rec, Nat.gcd_comm]
            exact hg
          · show (Int.fmod (a : Int) (b : Int)).toNat < ((b : Nat) : Int).toNat
            rw [em]
            have := Nat.mod_lt a hb
            omega
        · have hb : b = 0 := by
            have : ¬ (0 < (b : Int)) := fun z => hc (decide_eq_true z)
            omega
          subst hb
          rw [Nat.gcd_zero_right] at hg
          subst hg
          exact ⟨rfl, _, rfl⟩
      · intro σ H Q Q' m h
        obtain ⟨v, hv, i, j, hi, hj, k, hk, q⟩ := h
        exact ⟨v, hv, i, j, hi, hj, k, hk, m _ _ q⟩
    · rintro σ H' ⟨rfl, v, rfl⟩
      rw [List.length_map, List.take_length]
      exact ⟨_, rfl, k⟩
theorem common_eq (t b : Int) : gcdL 0 [t, b] = Nat.gcd b.natAbs t.natAbs := by
  show Nat.gcd (Nat.gcd 0 t.natAbs) b.natAbs = _
  rw [Nat.gcd_zero_left, Nat.gcd_comm]
theorem del_some {H : Hp} {p a : Addr} {o : HO} (h : del H p a = some o) : a ≠ p ∧ H a = some o := by
  have hne : a ≠ p := fun e => by rw [e, del_same] at h; cases h
  rw [del_ne hne] at h
  exact ⟨hne, h⟩
def updH (hl : List (Int × Int)) (r v : Int) : List (Int × Int) := hl.map fun q => if q.1 = r then (q.1, v) else q
def spLLow (K : PySem.W.Frag) : Sp := fun vs H Q _ => ∃ (t b : Int), vs = [.int t, .int b] ∧ 1 ≤ b ∧ b.natAbs < 2 ^ 300 ∧ ∀ u H', Ext H H' → H' u = some (.tup [.int (lowN t b), .int (lowP t b)]) → Q (.ref u) H'
theorem ok_l_low (T : Tx K mg) : FnOk P w K mg base (L2.CX P w) 3 T.a_l_low T.fd_l_low ["_law_top", "_law_bottom"] (spLLow K) := by
  refine T.F_l_low.okX sc_l_low (fun vs H Q E h => ?_) (fun cdv A outer s H vs Q E hr h => ?_)
  · obtain ⟨t, b, rfl, _⟩ := h
    rfl
  · obtain ⟨t, b, rfl, hb1, hb, k⟩ := h
    refine ⟨_, (pss_cons (ps_set (i := 2) sc_l_low.nd rfl (Or.inl rfl) (pe_call (ok_l_common T) (hr.mono (by decide)) rfl T.m_l_common T.F_l_common.kp T.b_l_common .nil passL (pa_cons (pe_lst (pa_cons (pv 0) (pa_cons (pv 1) pa_nil))) pa_nil)))
      (pss_one (ps_ret (pe_tup (pa_cons (pe_op op_fdivW (pv 0) (pv 2)) (pa_cons (pe_op op_fdivW (pv 1) (pv 2)) pa_nil)))))), ?_⟩
    refine ⟨_, rfl, _, rfl, by show 2 ≤ sizeLine; decide, fun N hN => ?_⟩
    refine ⟨N, [t, b], rfl, SqL.of upd_same, ?_⟩
    rw [common_eq]
    have hg0 := low_gpos (n := t) hb1
    have hgb : Nat.gcd b.natAbs t.natAbs < 2 ^ 300 := Nat.lt_of_le_of_lt (Nat.gcd_le_left _ (by omega)) hb
    have dv : ∀ x : Int, CDivW x ((Nat.gcd b.natAbs t.natAbs : Nat) : Int) := fun x => wide_div (b := 300) (by omega) (by rw [Int.natAbs_natCast]; exact hgb) (by decide) (by decide)
    refine ⟨_, rfl, _, rfl, _, _, rfl, rfl, dv _, _, rfl, _, rfl, _, _, rfl, rfl, dv _, by show 2 ≤ sizeLine; decide, fun u hu => ?_⟩
    exact k u _ ((Ext.upd hN).trans (Ext.upd hu)) upd_same
def spSpots (K : PySem.W.Frag) : Sp := fun vs H Q _ => ∃ (p : Addr) (v : V) (n : Int) (hl : List (Int × Int)) (bs : List BarD), vs = [.ref p, v] ∧ WellAt H p ∧ Is K (del H p) (mD n hl bs) v ∧ WebOk n hl bs ∧
  ∀ (t a : Addr) (ns : List Int) (q : Int) H', DE p H H' → WellAt H' p → t ≠ p → a ≠ p → H' t = some (.tup [.ref a, .int q]) → H' a = some (.lst (ns.map V.int)) → q ≤ 40 → PlOk bs ns q → Q (.ref t) H'
theorem ok_l_spots (T : Tx K mg) : FnOk P w K mg base (L2.CX P w) 6 T.a_l_spots T.fd_l_spots ["_law_well_here", "_law_m"] (spSpots K) := by
  refine T.F_l_spots.okX sc_l_spots (fun vs H Q E h => ?_) (fun cdv A outer s H vs Q E hr h => ?_)
  · obtain ⟨p, v, n, hl, bs, rfl, _⟩ := h
    rfl
  · obtain ⟨p, v, n, hl, bs, rfl, hw, hv, ok, k⟩ := h
    refine ⟨_, (pss_cons (ps_set (i := 2) sc_l_spots.nd rfl (Or.inr rfl) (pe_call (ok_l_one T) (hr.mono (by decide)) rfl T.m_l_one T.F_l_one.kp T.b_l_one .nil passL (pa_cons (pv 0) (pa_cons (pe_lst (pa_cons pe_int (pa_cons pe_int (pa_cons pe_int (pa_cons pe_int (pa_cons (pe_op op_add pe_int (pe_call (ok_l_draw T) (hr.mono (by decide)) rfl T.m_l_draw T.F_l_draw.kp T.b_l_draw .nil passL (pa_cons (pv 0) (pa_cons pe_int pa_nil)))) pa_nil)))))) pa_nil))))
      (pss_one (ps_ret (pe_tup (pa_cons (pe_lc (own := [("_law_one_here", 3)]) (g := gName 3) (tt := tYes) (te := tCall spDraw [] E0 (tCons (tVar 0) (tCons (tOp (rI0 fun i j => .int (i + j)) (tOp (rI CMul fun i j => .int (i * j)) (tOp (rIxT K) (tVar 3) (tC (.int 3))) (tVar 2)) (tC (.int 1))) tNil))) (by rfl) sc_l_spots.nd (pi_list (pe_dget (hu_of hr) (pv 1) pe_str (fun _ _ => rfl))) (blkOk_by (own := [("_law_one_here", 3)]) (N := N_l_spots) (sc := defScope s_l_spots) (by decide +kernel)) (fun _ _ _ _ _ => (pg_name (i := 3) sc_l_spots.nd rfl (Or.inl rfl))) (fun _ _ _ _ _ => pts_nil) (fun _ _ _ _ _ => (by exact pe_call (ok_l_draw T) (hr.mono (by decide)) rfl T.m_l_draw T.F_l_draw.kp T.b_l_draw .nil passL (pa_cons (pv 0) (pa_cons (pe_op op_add (pe_op op_mul (pe_ix ix_tup (pv 3) pe_int (fun _ _ => rfl)) (pv 2)) pe_int) pa_nil))))) (pa_cons (pv 2) pa_nil)))))), ?_⟩
    refine ⟨_, rfl, _, rfl, p, 40, rfl, hw, by decide, by decide, fun r H1 e1 hw1 r0 r1 => ⟨_, _, rfl, rfl, by show 5 ≤ sizeLine; decide, fun L hL => ?_⟩⟩
    have hLp : L ≠ p := hw1.ne hL
    refine ⟨p, L, _, rfl, hw1.ext (Ext.upd hL), SqL.of (by rw [del_ne hLp]; exact upd_same), by show 0 < 5; decide, by show 5 < 1000000; decide, fun x H2 hx e2' hw2 => ?_⟩
    have e2 : DE p H H2 := (e1.trans (DE.of (Ext.upd hL))).trans e2'
    obtain ⟨q, rfl, q1, q2⟩ : ∃ q : Int, x = .int q ∧ 1 ≤ q ∧ q ≤ 40 := by
      simp only [List.mem_cons, List.not_mem_nil, or_false] at hx
      rcases hx with rfl | rfl | rfl | rfl | rfl
      all_goals first
        | exact ⟨_, rfl, by decide, by decide⟩
        | exact ⟨_, rfl, by omega, by omega⟩
    clear hx e2' hL e1
    obtain ⟨M, hd, bl, ws, rfl, hM0, hhd0, hbl0, hbs0⟩ := m_of (hv.ext e2)
    obtain ⟨hMp, hM⟩ := del_some hM0
    have hwl : ws.length = bs.length := by rw [isL_len hbs0, List.length_map]
    refine ⟨_, rfl, M, _, rfl, g_bars hM, bl, rfl, ⟨_, hbl0.ext del_ext⟩, fun D hD => ?_⟩
    have hDp : D ≠ p := hw2.ne hD
    have hD0 : del H p D = none := DE.fresh e2 hw2 hD
    refine lc_list (xs := ws) (fun i H' => DE p H2 H' ∧ WellAt H' p ∧ ∃ ns : List Int, H' D = some (.lst (ns.map V.int)) ∧ ns.length = i ∧ ∀ (j : Nat) (b : BarD) (x : Int), bs[j]? = some b → ns[j]? = some x → 0 ≤ x ∧ x ≤ b.len * q)
      ⟨DE.of (Ext.upd hD), hw2.ext (Ext.upd hD), [], upd_same, rfl, fun j b x _ h => by cases h⟩ (fun i H' _ p => (hbl0.ext p.1).ext del_ext) ?_ ?_
    · rintro i y H3 hi ⟨e3, hw3, ns, hD3, hnl, hn⟩
      obtain ⟨b, hbi, ib⟩ := isL_at' hbs0 hi
      obtain ⟨tb, rfl, htb⟩ := bf_of (ib.ext e3)
      have okb := ok.bars b (List.mem_of_getElem? hbi)
      have hin : i < bs.length := (List.getElem?_eq_some_iff.mp hbi).1
      have l0 := okb.l0
      have l1 := okb.l1
      have p0 : 1 ≤ b.len * q := Int.mul_le_mul l0 q1 (by decide) (by omega)
      have p1 : b.len * q ≤ 1000000 * 40 := Int.mul_le_mul l1 q2 (by omega) (by decide)
      refine ⟨rfl, tyes ?_⟩
      refine ⟨_, rfl, _, rfl, tb, _, _, _, rfl, rfl, htb.ext del_ext, atI_nat (xs := brV b) (j := 3) rfl, _, rfl, _, _, rfl, rfl, .inl ⟨by omega, by omega⟩, _, _, rfl, rfl, p, _, rfl, hw3, by omega, by omega, fun r' H4 e4 hw4 r0' r1' => ?_⟩
      have hD4 := e4.to hD3 hDp
      refine ⟨_, hD4, ?_, DE.mut (e3.trans e4) (by rw [del_ne hDp]; exact hD), hw4.upd hDp, ns ++ [r'], by rw [upd_same, List.map_append]; rfl, by rw [List.length_append, hnl]; rfl, fun j b' x' hb' hx' => ?_⟩
      · rw [List.length_map, hnl]
        have := ok.b8
        exact Nat.lt_of_lt_of_le (show i < 100 by omega) (by decide)
      · by_cases hj : j < ns.length
        · rw [List.getElem?_append_left hj] at hx'
          exact hn j b' x' hb' hx'
        · rw [List.getElem?_append_right (by omega)] at hx'
          have hj2 : j = i := by
            have := (List.getElem?_eq_some_iff.mp hx').1
            rw [List.length_singleton] at this
            omega
          subst hj2
          rw [hbi] at hb'
          cases hb'
          rw [show j - ns.length = 0 by omega] at hx'
          cases hx'
          exact ⟨r0', by omega⟩
    · rintro H3 ⟨e3, hw3, ns, hD3, hnl, hn⟩
      refine ⟨_, rfl, by show 2 ≤ sizeLine; decide, fun t ht => ?_⟩
      have htD : D ≠ t := ne_of_none hD3 ht
      refine k t D ns q _ ((e2.trans e3).trans (DE.of (Ext.upd ht))) (hw3.ext (Ext.upd ht)) (hw3.ne ht) hDp upd_same (by rw [upd_ne htD]; exact hD3) q2 ⟨by rw [hnl, hwl], q1, by omega, hn⟩
end
end K06

namespace K06
open PySem L2 RZ
section
variable {P : Program} {w : World} {K : PySem.W.Frag} {mg : Str → Option Value} {base : Heap}
theorem br_dL {C D : Addr} {H : Hp} {b : BarD} {v : V} {l : List V} (i : Is K H (brD C b) v) (h : H D = some (.lst l)) : Is K (del H D) (brD C b) v := by
  obtain ⟨a, dx, rfl, ha⟩ := br_fields i
  exact br_is (dx := dx) (by rw [del_ne (fun e => by rw [e, h] at ha; cases ha)]; exact ha)
theorem isLbr_dL {C D : Addr} {H : Hp} {l : List V} (h : H D = some (.lst l)) : ∀ {bs : List BarD} {ws : List V}, IsL K H (bs.map (brD C)) ws → IsL K (del H D) (bs.map (brD C)) ws
  | [], _, e => e
  | _ :: _, _, ⟨v, r, e, i, il⟩ => ⟨v, r, e, br_dL i h, isLbr_dL h il⟩
theorem SqT.delL {H : Hp} {t D : Addr} {xs l : List V} (s : SqT K H t xs) (h : H D = some (.lst l)) : SqT K (del H D) t xs := by
  rcases s with (r | ⟨o', r⟩) | r
  · exact .inl (.inl (by rw [del_ne (fun e => by rw [e, h] at r; cases r)]; exact r))
  · exact .inl (.inr ⟨o', by rw [del_ne (fun e => by rw [e, h] at r; cases r)]; exact r⟩)
  · exact .inr r
theorem wb_del {C CB D : Addr} {H : Hp} {n : Int} {bs : List BarD} {hl : List (Int × Int)} {v : V} {l : List V} (i : Is K H (wbD C CB n bs hl) v) (h : H D = some (.lst l)) : Is K (del H D) (wbD C CB n bs hl) v := by
  obtain ⟨a, dx, t, d, ws, rfl, ha, ht, hb, hd⟩ := wb_fields i
  refine ⟨a, dx, _, rfl, by rw [del_ne (fun e => by rw [e, h] at ha; cases ha)]; exact ha, rfl, _, _, rfl, rfl, _, _, rfl, ⟨t, ws, rfl, SqT.delL ht h, isLbr_dL h hb⟩, _, _, rfl, hd_is (by rw [del_ne (fun e => by rw [e, h] at hd; cases hd)]; exact hd), rfl⟩
theorem sqT_de {H H' : Hp} {t p : Addr} {xs : List V} (s : SqT K H t xs) (hw : WellAt H p) (e : DE p H H') : SqT K H' t xs := by
  obtain ⟨wa, wb, wc, hw⟩ := hw
  rcases s with (r | ⟨o', r⟩) | r
  · exact .inl (.inl (e.to r fun e => by rw [e, hw] at r; cases r))
  · exact .inl (.inr ⟨o', e.to r fun e => by rw [e, hw] at r; cases r⟩)
  · exact .inr r
theorem due_one {H : Hp} {F : Addr} {l : List V} {b : BarD} {ts : List Int} {x q : Int} {v : V} (i : Is K H (dueD b ts x q) v) (h : H F = some (.lst l)) : Is K (del H F) (dueD b ts x q) v := by
  unfold dueD at i ⊢
  split at i
  · rename_i c; rw [if_pos c]; exact i
  · rename_i c
    rw [if_neg c]
    obtain ⟨t, xs, rfl, hs, hl⟩ := i
    obtain ⟨v1, r1, g1, f1, v2, r2, g2, f2, f3⟩ := hl
    exact ⟨t, xs, rfl, SqT.delL hs h, v1, r1, g1, f1, v2, r2, g2, f2, f3⟩
theorem due_mut {H H' : Hp} {F p : Addr} {b : BarD} {ts : List Int} {x q : Int} {v : V} (i : Is K (del H F) (dueD b ts x q) v) (hp : WellAt H p) (hF : F ≠ p) (e : DE p H H') : Is K (del H' F) (dueD b ts x q) v := by
  unfold dueD at i ⊢
  split at i
  · rename_i c; rw [if_pos c]; exact i
  · rename_i c
    rw [if_neg c]
    obtain ⟨t, xs, rfl, hs, hl⟩ := i
    obtain ⟨v1, r1, g1, f1, v2, r2, g2, f2, f3⟩ := hl
    obtain ⟨wa, wb, wc, hp⟩ := hp
    have tr : ∀ o, del H F t = some o → (∀ l, o ≠ .lst l) → del H' F t = some o := fun o r hne => by
      have htF : t ≠ F := fun e => by rw [e, del_same] at r; cases r
      rw [del_ne htF] at r ⊢
      exact e.to r fun e => by rw [e, hp] at r; exact hne _ (Option.some.inj r).symm
    refine ⟨t, xs, rfl, ?_, v1, r1, g1, f1, v2, r2, g2, f2, f3⟩
    rcases hs with (r | ⟨o', r⟩) | r
    · exact .inl (.inl (tr _ r (fun l e => by cases e)))
    · exact .inl (.inr ⟨o', tr _ r (fun l e => by cases e)⟩)
    · exact .inr r
theorem dues_mut {H H' : Hp} {F p : Addr} {ts : List Int} {q : Int} (hp : WellAt H p) (hF : F ≠ p) (e : DE p H H') : ∀ {zs : List (BarD × Int)} {us : List V}, IsL K (del H F) (zs.map fun z => dueD z.1 ts z.2 q) us → IsL K (del H' F) (zs.map fun z => dueD z.1 ts z.2 q) us
  | [], _, h => h
  | _ :: _, _, ⟨v, r, h, i, il⟩ => ⟨v, r, h, due_mut i hp hF e, dues_mut hp hF e il⟩
theorem dues_pure {ts : List Int} {q : Int} : ∀ zs : List (BarD × Int), pureL (zs.map fun z => dueD z.1 ts z.2 q) = true
  | [] => rfl
  | z :: r => by
    show (pureD (dueD z.1 ts z.2 q) && pureL _) = true
    rw [dues_pure r, Bool.and_true]
    unfold dueD
    split <;> rfl
theorem dues_dep {ts : List Int} {q : Int} : ∀ zs : List (BarD × Int), depL (zs.map fun z => dueD z.1 ts z.2 q) ≤ 1
  | [] => Nat.zero_le _
  | z :: r => by
    show max (dep (dueD z.1 ts z.2 q)) (depL _) ≤ 1
    refine Nat.max_le.mpr ⟨?_, dues_dep r⟩
    unfold dueD
    split
    · show 0 ≤ 1; decide
    · show max 0 (max 0 0) + 1 ≤ 1; decide
theorem dues_refl {ts : List Int} {q : Int} : ∀ zs : List (BarD × Int), deqL (zs.map fun z => dueD z.1 ts z.2 q) (zs.map fun z => dueD z.1 ts z.2 q) = true
  | [] => rfl
  | z :: r => by
    show (deq (dueD z.1 ts z.2 q) (dueD z.1 ts z.2 q) && deqL _ _) = true
    rw [dues_refl r, Bool.and_true]
    unfold dueD
    split
    · show (freeT == freeT) = true; simp
    · show ((lowN z.2 q == lowN z.2 q) && ((lowP z.2 q == lowP z.2 q) && true)) = true; simp
def dueL (bs : List BarD) (ns ts : List Int) (q : Int) : List Dt := (bs.zip ns).map fun z => dueD z.1 ts z.2 q
def oftL (k : Int) (ts : List Int) : List Int := ts.map fun t => k * t
theorem tv_oft {k : Int} {ts : List Int} (r : Int) : tv (oftL k ts) r = k * tv ts r := by
  unfold tv oftL
  rw [List.getD_eq_getElem?_getD, List.getD_eq_getElem?_getD, List.getElem?_map]
  cases ts[r.toNat]? with
  | none => exact (Int.mul_zero k).symm
  | some x => rfl
theorem due_oft {k : Int} (hk : 1 ≤ k) {b : BarD} {ts : List Int} {x q : Int} : dueD b (oftL k ts) x q = dueD b ts x q := by
  unfold dueD
  rw [tv_oft, tv_oft]
  by_cases c : tv ts b.b = tv ts b.a
  · rw [if_pos c, if_pos (by rw [c])]
  · rw [if_neg c, if_neg fun z => c (Int.eq_of_mul_eq_mul_left (by omega) z)]
theorem ht_norm {n : Nat} {hl : List (Int × Int)} {ts : List Int} {s : Int} (hn : (hl.map (·.1)).Nodup) (h : HtOk n hl ts s) : HtOk n (normH hl) ts s where
  len := h.len
  s1 := h.s1
  held := fun r hr => by
    have hr' : r ∈ hl.map (·.1) := ((norm_perm hn).map (·.1)).mem_iff.mp hr
    rw [look_norm hn hr']
    exact h.held r hr'
theorem ht_oft {n : Nat} {hl : List (Int × Int)} {ts : List Int} {s k : Int} (hk : 1 ≤ k) (h : HtOk n hl ts s) : HtOk n hl (oftL k ts) (k * s) where
  len := by unfold oftL; rw [List.length_map]; exact h.len
  s1 := Int.mul_le_mul hk h.s1 (by decide) (by omega)
  held := fun r hr => by rw [tv_oft, h.held r hr, Int.mul_left_comm]
theorem eq_oft {L q x A B C k : Int} (h : L * q * (C - A) = x * (B - A)) : L * q * (k * C - k * A) = x * (k * B - k * A) := by
  rw [← Int.mul_sub, ← Int.mul_sub, Int.mul_left_comm, h, Int.mul_left_comm]
theorem cut_mem {xs : List V} {lo hi : Option Int} {i : Nat} {y : V} (h : (cutV xs lo hi)[i]? = some y) : y ∈ xs :=
  List.mem_of_mem_drop (List.mem_of_mem_take (List.mem_of_getElem? h))
theorem kb_led1 (T : Tx K mg) : KBn K T.fd_led ["web", "heights", "parts"] 2 ["parts"] (fun us ws => us ++ ws) (fun vs zs => vs ++ zs) :=
  T.F_led.kbn (n := 2) (ks := ["parts"]) (ps := ["web", "heights", "parts"]) (g := fun {α} (us ws : List α) => us ++ ws) (fun r1 r2 => r1.append r2) fun _ _ _ _ _ _ us ws l1 l2 => match us, ws, l1, l2 with | [_, _], [_], _, _ => rfl
theorem kb_led0 (T : Tx K mg) : KBn K T.fd_led ["web", "heights", "parts"] 0 ["web", "heights", "parts"] (fun _ ws => ws) (fun _ zs => zs) := T.F_led.kball fun _ _ _ _ _ _ ws l => match ws, l with | [_, _, _], _ => rfl
def spLaw (K : PySem.W.Frag) : Sp := fun vs H Q _ => ∃ (a : Addr) (ns : List Int), vs = [.ref a] ∧ SqL K H a (ns.map V.int) ∧ ns.length ≤ 63 ∧ ∀ H', Q (.bl true) H'
theorem ok_law (T : Tx K mg) : FnOk P w K mg base (L2.CX P w) 60 T.a_law T.fd_law ["_law_script"] (spLaw K) := by
  refine T.F_law.okX sc_law (fun vs H Q E h => ?_) (fun cdv A outer s H vs Q E hr h => ?_)
  · obtain ⟨a, ns, rfl, _⟩ := h
    rfl
  · obtain ⟨a, ns, rfl, hs, hn, k⟩ := h
    refine ⟨_, (pss_cons (ps_for (passes_of rfl) rfl (pi_list (pe_slice sl_list (pe_op op_catL (pv 0) (pe_lst (pa_cons pe_int pa_nil))) po_none (po_some pe_int))) (pg_name (i := 1) sc_law.nd rfl (Or.inl rfl)) (pss_cons (ps_set (i := 2) sc_law.nd rfl (Or.inr rfl) (pe_call (ok_l_well T) (hr.mono (by decide)) rfl T.m_l_well T.F_l_well.kp T.b_l_well .nil passL (pa_cons (pv 1) pa_nil)))
      (pss_cons (ps_set (i := 3) sc_law.nd rfl (Or.inl rfl) (pe_call (ok_l_line T) (hr.mono (by decide)) rfl T.m_l_line T.F_l_line.kp T.b_l_line .nil passL (pa_cons (pv 2) (pa_cons pe_int pa_nil))))
      (pss_cons (ps_set (i := 4) sc_law.nd rfl (Or.inl rfl) (pe_call (ok_l_web T) (hr.mono (by decide)) rfl T.m_l_web T.F_l_web.kp T.b_l_web .nil passL (pa_cons (pv 3) pa_nil)))
      (pss_one (ps_for (passes_of rfl) rfl (pi_range1 rfl T.z_range (pa_cons pe_int pa_nil)) (pg_name (i := 5) sc_law.nd rfl (Or.inl rfl)) (pss_cons (ps_asg (pe_call (ok_l_spots T) (hr.mono (by decide)) rfl T.m_l_spots T.F_l_spots.kp T.b_l_spots .nil passL (pa_cons (pv 2) (pa_cons (pv 3) pa_nil))) (pg_tup (by rfl) (pgs_cons (pg_name (i := 6) sc_law.nd rfl (Or.inl rfl)) (pgs_cons (pg_name (i := 7) sc_law.nd rfl (Or.inr rfl)) pgs_nil))))
      (pss_cons (ps_if (pt_cmpR op_eq (pe_call (ok_l_draw T) (hr.mono (by decide)) rfl T.m_l_draw T.F_l_draw.kp T.b_l_draw .nil passL (pa_cons (pv 2) (pa_cons pe_int pa_nil))) pe_int (nomark _)) (pss_one (ps_setLc (i := 6) (own := [("_law_one_here", 10)]) (g := gName 10) (tt := tYes) (te := tOp (rI CMul fun i j => .int (i * j)) (tCall (spOne K) [] E0 (tCons (tVar 2) (tCons (tLst (tCons (tOp (rIxT K) (tVar 10) (tC (.int 4))) (tCons (tOp (rIxT K) (tVar 10) (tC (.int 5))) tNil))) tNil))) (tVar 7)) (by rfl) sc_law.nd rfl rfl (sw_true rfl rfl rfl (by decide +kernel)) (pi_list (pe_dget (hu_of hr) (pv 3) pe_str (fun _ _ => rfl))) (blkOk_by (own := [("_law_one_here", 10)]) (N := N_law) (sc := defScope s_law) (by decide +kernel)) (fun _ _ _ _ _ => (pg_name (i := 10) sc_law.nd rfl (Or.inl rfl))) (fun _ _ _ _ _ => pts_nil) (fun _ _ _ _ _ => (by exact pe_op op_mul (pe_call (ok_l_one T) (hr.mono (by decide)) rfl T.m_l_one T.F_l_one.kp T.b_l_one .nil passL (pa_cons (pv 2) (pa_cons (pe_lst (pa_cons (pe_ix ix_tup (pv 10) pe_int (fun _ _ => rfl)) (pa_cons (pe_ix ix_tup (pv 10) pe_int (fun _ _ => rfl)) pa_nil))) pa_nil))) (pv 7))))) pss_nil)
      (pss_cons (ps_set (i := 8) sc_law.nd rfl (Or.inl rfl) (pe_call (ok_stand T) (hr.mono (by decide)) rfl T.m_stand T.F_stand.kp T.b_stand .nil passL (pa_cons (pv 4) (pa_cons (pe_make T.k_Places (ok_Places_init T) (hr.mono (by decide)) rfl T.m_Places T.b_Places_init .nil passL (pa_cons (pv 6) (pa_cons (pv 7) pa_nil))) pa_nil))))
      (pss_cons (ps_set (i := 9) sc_law.nd rfl (Or.inl rfl) (pe_lst pa_nil))
      (pss_cons (ps_for (passes_of rfl) rfl (pi_zip (by rfl) T.z_zip (pa_cons (pe_dget (hu_of hr) (pv 3) pe_str (fun _ _ => rfl)) (pa_cons (pv 6) pa_nil))) (pg_tup (by rfl) (pgs_cons (pg_name (i := 10) sc_law.nd rfl (Or.inl rfl)) (pgs_cons (pg_name (i := 11) sc_law.nd rfl (Or.inl rfl)) pgs_nil))) (pss_cons (ps_set (i := 12) sc_law.nd rfl (Or.inl rfl) (pe_cmpR op_eq (pe_ix ix_tup (pe_fld (pv 8) rfl) (pe_ix ix_tup (pv 10) pe_int (fun _ _ => rfl)) (fun _ _ => rfl)) (pe_ix ix_tup (pe_fld (pv 8) rfl) (pe_ix ix_tup (pv 10) pe_int (fun _ _ => rfl)) (fun _ _ => rfl)) (nomark _)))
      (pss_one (ps_expr (pe_bm PySem.F.plainAttrs_list PySem.F.slot_list_append PySem.F.type_list_append mt_append (pv 9) (pa_cons (pe_ifExp (pt_truth (pv 12) (by intro _; rfl)) pe_str (pe_call (ok_l_low T) (hr.mono (by decide)) rfl T.m_l_low T.F_l_low.kp T.b_l_low .nil passL (pa_cons (pv 11) (pa_cons (pv 7) pa_nil)))) pa_nil))))))
      (pss_cons (ps_set (i := 13) sc_law.nd rfl (Or.inl rfl) (pe_callN (ok_led T) (hr.mono (by decide)) rfl T.m_led T.F_led.kp (kb_led1 T) passL (pa_cons (pv 4) (pa_cons (pe_fld (pv 8) rfl) pa_nil)) (pk_cons (pe_fld (pv 8) rfl) pk_nil)))
      (pss_cons (ps_if (PW.pt (pw_or (pt_not (pt_val (pe_callB call_isi (by rfl) T.z_isinstance (by decide +kernel) (pa_cons (pv 13) (pa_cons (pe_bltn (v := .ty "list") (u := .type "list") (by rfl) T.z_list (by decide +kernel) rfl) pa_nil))))) (pw_or1 (pt_cmpR (op_neO pureTab pureNe hr (by decide)) (pv 13) (pv 9) (nomark _))))) (pss_one (ps_ret pe_bl)) pss_nil)
      (pss_cons (ps_expr (pe_bm0 PySem.F.plainAttrs_list PySem.F.slot_list_clear PySem.F.type_list_clear mt_clear (pv 13)))
      (pss_cons (ps_set (i := 14) sc_law.nd rfl (Or.inr rfl) (pe_op op_add pe_int (pe_call (ok_l_draw T) (hr.mono (by decide)) rfl T.m_l_draw T.F_l_draw.kp T.b_l_draw .nil passL (pa_cons (pv 2) (pa_cons pe_int pa_nil)))))
      (pss_cons (ps_if (pt_cmpR (op_neO pureTab pureNe hr (by decide)) (pe_callN (ok_led T) (hr.mono (by decide)) rfl T.m_led T.F_led.kp (kb_led1 T) passL (pa_cons (pv 4) (pa_cons (pe_lc (own := [("_law_top", 15)]) (g := gName 15) (tt := tYes) (te := tOp (rI CMulW fun i j => .int (i * j)) (tVar 14) (tVar 15)) (by rfl) sc_law.nd (pi_tup (pe_fld (pv 8) rfl)) (blkOk_by (own := [("_law_top", 15)]) (N := N_law) (sc := defScope s_law) (by decide +kernel)) (fun _ _ _ _ _ => (pg_name (i := 15) sc_law.nd rfl (Or.inl rfl))) (fun _ _ _ _ _ => pts_nil) (fun _ _ _ _ _ => (by exact pe_op op_mulW (pv 14) (pv 15)))) pa_nil)) (pk_cons (pe_op op_mul (pv 14) (pe_fld (pv 8) rfl)) pk_nil)) (pv 9) (nomark _)) (pss_one (ps_ret pe_bl)) pss_nil)
      (pss_one (ps_if (pt_cmpR (op_neO pureTab pureNe hr (by decide)) (pe_callK0 (ok_led T) (hr.mono (by decide)) rfl T.m_led T.F_led.kp (kb_led0 T) passL (pk_cons (pv 4) (pk_cons (pe_callTy call_list_of (by rfl) T.z_list (by decide +kernel) (pa_cons (pe_fld (pv 8) rfl) pa_nil)) (pk_cons (pe_fld (pv 8) rfl) pk_nil)))) (pv 9) (nomark _)) (pss_one (ps_ret pe_bl)) pss_nil))))))))))))))))))
      (pss_one (ps_ret pe_bl))), ?_⟩
    refine ⟨_, rfl, by show 1 ≤ sizeLine; decide, fun q0 h0 => ?_⟩
    refine ⟨_, _, _, _, rfl, rfl, hs.ext (Ext.upd h0), SqL.of upd_same, by rw [List.length_map]; exact Nat.le_trans (show ns.length + 1 ≤ 100 by omega) (by decide), fun q1 h1 => ?_⟩
    refine ⟨5, rfl, _, _, rfl, SqL.of upd_same, fun q2 h2 => ?_⟩
    have hq2 : (upd (upd (upd H q0 (.lst [.int 0])) q1 (.lst (ns.map V.int ++ [.int 0]))) q2 (.lst (cutV (ns.map V.int ++ [.int 0]) none (some 5)))) q2 = some (.lst (cutV (ns.map V.int ++ [.int 0]) none (some 5))) := upd_same
    generalize upd (upd (upd H q0 (.lst [.int 0])) q1 (.lst (ns.map V.int ++ [.int 0]))) q2 (.lst (cutV (ns.map V.int ++ [.int 0]) none (some 5))) = H0 at hq2 ⊢
    refine ⟨q2, rfl, ⟨_, SqL.of hq2⟩, for_list (K := K) (a := q2) (xs := cutV (ns.map V.int ++ [.int 0]) none (some 5)) (fun i σ H' => Ext H0 H' ∧ ∃ v1 v2 v3 v4 v5 v6 v7 v8 v9 v10 v11 v12 v13 v14 v15 : Option V, σ = [some (.ref a), v1, v2, v3, v4, v5, v6, v7, v8, v9, v10, v11, v12, v13, v14, v15])
      ⟨Ext.rfl', none, none, none, none, none, none, none, none, none, none, none, none, none, none, none, rfl⟩ (fun i σ H' _ p => (SqL.of hq2).ext p.1) ?_ ?_⟩
    · rintro i y σ H1 hi ⟨e1, v1, v2, v3, v4, v5, v6, v7, v8, v9, v10, v11, v12, v13, v14, v15, rfl⟩
      obtain ⟨c, rfl⟩ : ∃ c : Int, y = V.int c := by
        rcases List.mem_append.mp (cut_mem hi) with h | h
        · obtain ⟨n, _, rfl⟩ := List.mem_map.mp h
          exact ⟨n, rfl⟩
        · exact ⟨0, List.mem_singleton.mp h⟩
      clear hi
      refine ⟨_, rfl, c, rfl, fun p H2 hp e2 hw2 => ?_⟩
      have hp0 : H0 p = none := e1.fresh hp
      have e02 : Ext H0 H2 := e1.trans e2
      clear hp e1 e2
      simp only [List.set_cons_succ, List.set_cons_zero]
      refine ⟨_, rfl, p, 4, rfl, hw2, by decide, by decide, fun v n hl bs H3 e3 hw3 iv ok li => ?_⟩
      obtain ⟨n, rfl⟩ : ∃ n' : Nat, n = (n' : Int) := ⟨n.toNat, by have := ok.n3; omega⟩
      simp only [List.set_cons_succ, List.set_cons_zero]
      refine ⟨_, rfl, v, (n : Int), hl, bs, rfl, iv.ext del_ext, ok, fun u H4 e4 iu => ?_⟩
      simp only [List.set_cons_succ, List.set_cons_zero]
      have hw4 := hw3.ext e4
      replace iv := iv.ext (DE.of e4)
      have e04 : DE p H2 H4 := e3.trans (DE.of e4)
      obtain ⟨z1, z2, z3, hwp⟩ := id hw4
      replace iu := wb_del iu hwp
      clear e3 e4 hw3 hwp hw2
      refine ⟨2, rfl, by decide, by decide, for_range (lo := 0) (n := 2) (fun i σ H' => DE p H4 H' ∧ WellAt H' p ∧ ∃ v5 v6 v7 v8 v9 v10 v11 v12 v13 v14 v15 : Option V, σ = [some (.ref a), some (.int c), some (.ref p), some v, some u, v5, v6, v7, v8, v9, v10, v11, v12, v13, v14, v15])
        ⟨DE.of Ext.rfl', hw4, _, _, _, _, _, _, _, _, _, _, _, rfl⟩ ?_ ?_⟩
      · rintro j σ H5 hj ⟨e5, hw5, u5, u6, u7, u8, u9, u10, u11, u12, u13, u14, u15, rfl⟩
        simp only [List.set_cons_succ, List.set_cons_zero]
        refine ⟨_, rfl, _, rfl, p, v, (n : Int), hl, bs, rfl, hw5, iv.ext e5, ok, fun t a2 ns q H6 e6 hw6 htp hap ht6 ha6 q40 po => ?_⟩
        refine ⟨t, _, rfl, SqT.of ht6, rfl, _, _, rfl, _, _, rfl, rfl, ?_⟩
        simp only [List.set_cons_succ, List.set_cons_zero]
        have e46 := e5.trans e6
        refine ⟨_, rfl, p, 3, rfl, hw6, by decide, by decide, fun r H7 e7 hw7 r0 r1 => ⟨rfl, _, rfl, ite2 (fun cc => ?_) (fun cc => ?_)⟩⟩
        · obtain ⟨M0, hd0, bl0, ws0, rfl, hM00, hhd00, hbl00, hbs00⟩ := m_of (iv.ext (e46.trans e7))
          obtain ⟨hMp0, hM0'⟩ := del_some hM00
          have hwl0 : ws0.length = bs.length := by rw [isL_len hbs00, List.length_map]
          have q1 := po.q1
          refine ⟨_, rfl, M0, _, rfl, g_bars hM0', bl0, rfl, ⟨_, hbl00.ext del_ext⟩, fun D hD => ?_⟩
          have hDp : D ≠ p := hw7.ne hD
          have hD0 : del H7 p D = none := by rw [del_ne hDp]; exact hD
          refine lc_list (xs := ws0) (fun i H' => DE p H7 H' ∧ WellAt H' p ∧ ∃ ns : List Int, H' D = some (.lst (ns.map V.int)) ∧ ns.length = i ∧ ∀ (j : Nat) (b : BarD) (x : Int), bs[j]? = some b → ns[j]? = some x → 0 ≤ x ∧ x ≤ b.len * q)
            ⟨DE.of (Ext.upd hD), hw7.ext (Ext.upd hD), [], upd_same, rfl, fun j b x _ h => by cases h⟩ (fun i H' _ p => (hbl00.ext p.1).ext del_ext) ?_ ?_
          · rintro i' y' H8 hi ⟨e8, hw8, ns', hD8, hnl, hn'⟩
            obtain ⟨b, hbi, ib⟩ := isL_at' hbs00 hi
            obtain ⟨tb, rfl, htb⟩ := bf_of (ib.ext e8)
            have okb := ok.bars b (List.mem_of_getElem? hbi)
            have hin : i' < bs.length := (List.getElem?_eq_some_iff.mp hbi).1
            have htb' := htb.ext del_ext
            refine ⟨rfl, tyes ?_⟩
            refine ⟨_, rfl, _, rfl, tb, _, _, _, rfl, rfl, htb', atI_nat (xs := brV b) (j := 4) rfl, _, rfl, tb, _, _, _, rfl, rfl, htb', atI_nat (xs := brV b) (j := 5) rfl, by show 2 ≤ sizeLine; decide, fun L hL => ?_⟩
            have hLp : L ≠ p := hw8.ne hL
            refine ⟨p, L, _, rfl, hw8.ext (Ext.upd hL), SqL.of (by rw [del_ne hLp]; exact upd_same), by show 0 < 2; decide, by show 2 < 1000000; decide, fun x H9 hx e9' hw9 => ?_⟩
            have e89 : DE p H8 H9 := (DE.of (Ext.upd hL)).trans e9'
            obtain ⟨xv, rfl, x0, x1⟩ : ∃ xv : Int, x = .int xv ∧ 0 ≤ xv ∧ xv ≤ b.len := by
              simp only [List.mem_cons, List.not_mem_nil, or_false] at hx
              have o0 := okb.o0
              have o1 := okb.o1
              have o2 := okb.o2
              rcases hx with rfl | rfl
              · exact ⟨_, rfl, o0, by omega⟩
              · exact ⟨_, rfl, by omega, o2⟩
            have l1 := okb.l1
            have hD9 := e89.to hD8 hDp
            refine ⟨_, rfl, _, _, rfl, rfl, .inl ⟨by omega, by omega⟩, _, hD9, ?_, DE.mut (e8.trans e89) hD0, hw9.upd hDp, ns' ++ [xv * q], by rw [upd_same, List.map_append]; rfl, by rw [List.length_append, hnl]; rfl, fun j b' x' hb' hx' => ?_⟩
            · rw [List.length_map, hnl]
              have := ok.b8
              exact Nat.lt_of_lt_of_le (show i' < 100 by omega) (by decide)
            · by_cases hj : j < ns'.length
              · rw [List.getElem?_append_left hj] at hx'
                exact hn' j b' x' hb' hx'
              · rw [List.getElem?_append_right (by omega)] at hx'
                have hj2 : j = i' := by
                  have := (List.getElem?_eq_some_iff.mp hx').1
                  rw [List.length_singleton] at this
                  omega
                subst hj2
                rw [hbi] at hb'
                cases hb'
                rw [show j - ns'.length = 0 by omega] at hx'
                cases hx'
                exact ⟨Int.mul_nonneg x0 (by omega), Int.mul_le_mul_of_nonneg_right x1 (by omega)⟩
          rintro H8 ⟨e8', hw8, ns', ha8, hnl, hn'⟩
          have po' : PlOk bs ns' q := ⟨by rw [hnl, hwl0], q1, po.qs, hn'⟩
          clear hn' hnl po
          rename PlOk bs ns' q => po
          clear ha6
          clear ns
          obtain ⟨ns, rfl⟩ : ∃ ns, ns = ns' := ⟨_, rfl⟩
          obtain ⟨a3, rfl⟩ : ∃ a3, a3 = D := ⟨_, rfl⟩
          obtain ⟨v, hvv⟩ : ∃ v : V, v = .ref M0 := ⟨_, rfl⟩
          rw [← hvv] at iv ⊢
          have e8 := (e46.trans e7).trans e8'
          clear hvv e8' hD0 hbs00 hbl00 hhd00 hM0' hM00 e7 hw7 ht6 htp e6 hw6 e5 hw5 cc e46 q1
          have web8 : Is K H8 (wbD T.C_Web T.C_Bar (n : Int) bs (normH hl)) u := (iu.ext e8).ext del_ext
          have q1 := po.q1
          have qbig : q.natAbs < 2 ^ 8000 := Nat.lt_of_le_of_lt (show q.natAbs ≤ 40 by omega) (Nat.lt_of_lt_of_le (show 40 < 2 ^ 6 by decide) (Nat.pow_le_pow_right (by decide) (by decide)))
          have b8 := ok.b8
          have sok := st_ok ok li po
          refine ⟨_, rfl, _, rfl, _, rfl, fun x dx hx hdx hne => ?_⟩
          refine ⟨H8, x, dx, a3, ns, q, rfl, hx, hdx, hne, rfl, .inl (SqL.of ha8), by rw [po.len]; omega, qbig, fun z => by omega, fun _ H9 e9 i9 => ⟨rfl, ?_⟩⟩
          refine ⟨u, .ref x, n, bs, hl, normN ns q, normP ns q, rfl, web8.ext e9, i9, ok, li, plok_norm po, fun y H10 e10 i10 => ?_⟩
          generalize normN (topsB n (normP ns q) hl bs (normN ns q)) (stB n (normP ns q) hl bs (normN ns q)) = ts at sok i10
          generalize normP (topsB n (normP ns q) hl bs (normN ns q)) (stB n (normP ns q) hl bs (normN ns q)) = sb at sok i10
          have e810 := e9.trans e10
          obtain ⟨hx', dx', tt, rfl, hst, htt⟩ := st_fields i10
          have tlen := sok.ht.len
          have e410 := e8.trans (DE.of e810)
          have hw10 := hw8.ext e810
          have ha10 := e810 _ _ ha8
          have web10 := web8.ext e810
          clear i10 e10 i9 e9 hx hdx hne web8
          obtain ⟨M, hd, bl, ws, rfl, hM0, hhd0, hbl0, hbs0⟩ := m_of (iv.ext e410)
          obtain ⟨hMp, hM⟩ := del_some hM0
          have hwl : ws.length = bs.length := by rw [isL_len hbs0, List.length_map]
          simp only [List.set_cons_succ, List.set_cons_zero]
          refine ⟨by show 0 ≤ sizeLine; decide, fun F hF => ?_⟩
          have hFp : F ≠ p := hw10.ne hF
          have e11 : Ext H10 (upd H10 F (.lst [])) := Ext.upd hF
          have hF11 : (upd H10 F (.lst [])) F = some (.lst []) := upd_same
          generalize upd H10 F (.lst []) = H11 at e11 hF11 ⊢
          simp only [List.set_cons_succ, List.set_cons_zero]
          refine ⟨_, rfl, M, _, rfl, g_bars (e11 _ _ hM), _, rfl, bl, a3, ws, ns.map V.int, rfl, (hbl0.ext del_ext).ext e11, SqL.of (e11 _ _ ha10), ?_⟩
          refine for_zipL (xs := ws) (ys := ns.map V.int) (by rw [hwl, List.length_map, po.len]) (fun i σ H' => Ext H10 H' ∧ (∃ us, H' F = some (.lst us) ∧ IsL K (del H' F) (((bs.zip ns).take i).map fun z => dueD z.1 ts z.2 q) us ∧ us.length = i) ∧ ∃ v10 v11 v12 : Option V, σ = [some (.ref a), some (.int c), some (.ref p), some (.ref M), some u, some (.int (0 + (j : Nat))), some (.ref a3), some (.int q), some (.ref hx'), some (.ref F), v10, v11, v12, u13, u14, u15])
            ⟨e11, ⟨[], hF11, rfl, rfl⟩, _, _, _, rfl⟩ (fun i σ H' p => ⟨(hbl0.ext del_ext).ext p.1, SqL.of (p.1 _ _ ha10)⟩) ?_ ?_
          · rintro i' y1 y2 T' σ H12 hy1 hy2 ⟨e12, ⟨us, hF12, hus, hul⟩, w10, w11, w12, rfl⟩ hT'
            obtain ⟨b, hbi, ib⟩ := isL_at' hbs0 hy1
            obtain ⟨x, hx, rfl⟩ : ∃ x, ns[i']? = some x ∧ y2 = V.int x := by
              rw [List.getElem?_map] at hy2
              cases e : ns[i']? with
              | none => rw [e] at hy2; cases hy2
              | some n => rw [e] at hy2; exact ⟨n, rfl, (Option.some.inj hy2).symm⟩
            have okb := ok.bars b (List.mem_of_getElem? hbi)
            have hTF : F ≠ T' := ne_of_none hF12 hT'
            have e1213 : Ext H12 (upd H12 T' (.tup [y1, .int x])) := Ext.upd hT'
            have hT13 : (upd H12 T' (.tup [y1, .int x])) T' = some (.tup [y1, .int x]) := upd_same
            generalize upd H12 T' (.tup [y1, .int x]) = H13 at e1213 hT13 ⊢
            have e13 := e12.trans e1213
            obtain ⟨tb, rfl, htb⟩ := bf_of ((ib.ext del_ext).ext e13)
            have hF13 := e1213 _ _ hF12
            have hus13 := hus.ext (DE.of (w := F) e1213)
            have aa := at_tv (ts := ts) okb.a0 (by rw [tlen]; exact okb.a1)
            have ab := at_tv (ts := ts) okb.b0 (by rw [tlen]; exact okb.b1)
            refine ⟨T', _, rfl, SqT.of hT13, rfl, _, _, rfl, _, _, rfl, rfl, ?_⟩
            simp only [List.set_cons_succ, List.set_cons_zero]
            refine ⟨_, rfl, hx', T.C_Stand, dx', _, _, rfl, e13 _ _ hst, T.c_Stand, T.nf_Stand_tops, rfl, _, rfl, tb, _, _, _, rfl, rfl, htb, atI_nat (xs := brV b) (j := 0) rfl, tt, _, _, _, rfl, rfl, htt.ext e13, aa, ?_⟩
            refine ⟨_, rfl, hx', T.C_Stand, dx', _, _, rfl, e13 _ _ hst, T.c_Stand, T.nf_Stand_tops, rfl, _, rfl, tb, _, _, _, rfl, rfl, htb, atI_nat (xs := brV b) (j := 1) rfl, tt, _, _, _, rfl, rfl, htt.ext e13, ab, rfl, ?_⟩
            simp only [List.set_cons_succ, List.set_cons_zero]
            have hlen8 : i' < 8 := by
              have := (List.getElem?_eq_some_iff.mp hbi).1
              omega
            have hz2 : (bs.zip ns)[i']? = some (b, x) := by rw [List.getElem?_zip_eq_some]; exact ⟨hbi, hx⟩
            have fin : ∀ (vv : V) (Hn : Hp), Ext H13 Hn → Is K (del Hn F) (dueD b ts x q) vv → Ext H10 (upd Hn F (.lst (us ++ [vv]))) ∧ (∃ us', (upd Hn F (.lst (us ++ [vv]))) F = some (.lst us') ∧ IsL K (del (upd Hn F (.lst (us ++ [vv]))) F) (((bs.zip ns).take (i' + 1)).map fun z => dueD z.1 ts z.2 q) us' ∧ us'.length = i' + 1) := fun vv Hn en ivv => by
              refine ⟨(e13.trans en).mut hF, us ++ [vv], upd_same, ?_, by rw [List.length_append, hul]; rfl⟩
              rw [List.take_add_one, hz2, List.map_append]
              exact isL_snoc (hus13.ext ((DE.of en).trans DE.upd)) (ivv.ext DE.upd)
            have hsz : us.length < sizeLine := by rw [hul]; exact Nat.lt_of_lt_of_le (show i' < 100 by omega) (by decide)
            refine ⟨_, rfl, .inl ⟨rfl, _, SqL.of hF13⟩, ?_⟩
            refine ⟨_, rfl, _, rfl, ?_⟩
            by_cases cl : tv ts b.a = tv ts b.b
            · rw [show decide (V.int (tv ts b.a) = V.int (tv ts b.b)) = true from decide_eq_true (by rw [cl])]
              refine iteT ?_
              obtain ⟨f1, f2⟩ := fin (.str freeT) H13 Ext.rfl' (by unfold dueD; rw [if_pos cl.symm]; exact rfl)
              exact ⟨F, _, _, rfl, rfl, hF13, hsz, f1, f2, _, _, _, rfl⟩
            · rw [show decide (V.int (tv ts b.a) = V.int (tv ts b.b)) = false from decide_eq_false fun z => cl (V.int.inj z)]
              refine iteF ?_
              refine ⟨_, rfl, _, rfl, x, q, rfl, q1, Nat.lt_of_le_of_lt (show q.natAbs ≤ 40 by omega) (by decide +kernel), fun uu H14 e14 huu => ?_⟩
              have hF14 := e14 _ _ hF13
              have huF : uu ≠ F := fun e => by rw [e, hF14] at huu; cases huu
              obtain ⟨f1, f2⟩ := fin (.ref uu) H14 e14 (by unfold dueD; rw [if_neg fun z => cl z.symm]; exact ⟨uu, _, rfl, SqT.of (by rw [del_ne huF]; exact huu), _, _, rfl, rfl, _, _, rfl, rfl, rfl⟩)
              exact ⟨F, _, _, rfl, rfl, hF14, hsz, f1, f2, _, _, _, rfl⟩
          · rintro σ H12 ⟨e12, ⟨us, hF12, hus, hul⟩, w10, w11, w12, rfl⟩
            rw [hwl, show (bs.zip ns).take bs.length = bs.zip ns from List.take_of_length_le (by rw [List.length_zip]; omega)] at hus
            have hst12 := e12 _ _ hst
            have htt12 := htt.ext e12
            have web12 := web10.ext e12
            have hw12 := hw10.ext e12
            have e412 := e410.trans (DE.of e12)
            obtain ⟨nk, nd, nl, nh⟩ := norm_ok ok
            have nl64 : (normH hl).length < 64 := Nat.lt_of_le_of_lt nl (by decide)
            have big : ∀ r, 0 ≤ r → r < (n : Int) → (tv ts r).natAbs < 2 ^ 7000 := fun r r0 r1 => Nat.lt_of_lt_of_le (sok.small r r0 r1) (Nat.pow_le_pow_right (by decide) (by decide))
            have hno := ht_norm ok.nd sok.ht
            have dR : dep (Dt.lst (dueL bs ns ts q)) ≤ 8 := by
              have := dues_dep (ts := ts) (q := q) (bs.zip ns)
              exact Nat.succ_le_succ (Nat.le_trans this (by decide))
            have qR : deq (.lst (dueL bs ns ts q)) (.lst (dueL bs ns ts q)) = true := dues_refl _
            have pR : ∀ {shp : Addr → List Str → List Dt → Prop}, okD shp (.lst (dueL bs ns ts q)) := okL_pure (dues_pure _)
            clear e12 hst htt web10 hw10 e410 e11 hF11 hF ha10 hM hM0 hhd0 hbl0 hbs0
            refine ⟨_, rfl, _, rfl, hx', T.C_Stand, dx', _, _, rfl, hst12, T.c_Stand, T.nf_Stand_tops, rfl, ?_⟩
            refine ⟨_, rfl, hx', T.C_Stand, dx', _, _, rfl, hst12, T.c_Stand, T.nf_Stand_bottom, rfl, rfl, rfl, ?_⟩
            refine ⟨u, tt, n, bs, normH hl, ts, ns, sb, q, rfl, web12, .inr htt12, hno, nk, nl64, b8, ok.bars, big, po, sok.eqs, fun p1 us1 H13 e13 hp1 hus1 i13 => ?_⟩
            simp only [List.set_cons_succ, List.set_cons_zero]
            refine ⟨_, rfl, .ref p1, .ty "list", .type "list", .type "list", true, rfl, ClsV.ty _, TyX.base (TyOf.lst hus1), kit_ty (by decide +kernel), _, rfl, ?_⟩
            refine ite2 (fun hc => absurd hc (by decide)) fun _ => ?_
            refine ⟨_, rfl, _, rfl, .lst (dueL bs ns ts q), .lst (dueL bs ns ts q), is_lst hus1 (i13.ext del_ext), is_lst (e13 _ _ hF12) ((hus.ext (DE.of e13)).ext del_ext), pR, pR, dR, .inl rfl, fun H14 e14 => ⟨false, by rw [qR]; rfl, iteF ?_⟩⟩
            have hp14 := e14 _ _ hus1
            refine ⟨_, rfl, .inl ⟨rfl, _, SqL.of hp14⟩, p1, _, rfl, rfl, hp14, ?_⟩
            have e1215 : Ext H12 (upd H14 p1 (.lst [])) := (e13.trans e14).mut hp1
            generalize upd H14 p1 (.lst []) = H15 at e1215 ⊢
            clear hp14 e14 i13 hus1 hp1 e13
            refine ⟨_, rfl, p, 9, rfl, hw12.ext e1215, by decide, by decide, fun r H16 e16 hw16 r0 r1 => ⟨_, _, rfl, rfl, ?_⟩⟩
            dsimp only
            obtain ⟨kk, hkk, hk1, hk9⟩ : ∃ kk : Int, 1 + r = kk ∧ 1 ≤ kk ∧ kk ≤ 9 := ⟨1 + r, rfl, by omega, by omega⟩
            rw [hkk]
            simp only [List.set_cons_succ, List.set_cons_zero]
            have e1216 : DE p H12 H16 := (DE.of e1215).trans e16
            have hF16 := e1216.to hF12 hFp
            have hus16 := dues_mut hw12 hFp e1216 hus
            have hst16 := e1216.to hst12 (fun e => by
              obtain ⟨_, _, _, hwp⟩ := hw12
              rw [e, hwp] at hst12
              cases hst12)
            have htt16 := sqT_de htt12 hw12 e1216
            have web16 : Is K H16 (wbD T.C_Web T.C_Bar (n : Int) bs (normH hl)) u := (iu.ext (e412.trans e1216)).ext del_ext
            have e416 := e412.trans e1216
            clear e16 e1215 hkk r0 r1 htt12 hst12 hus hF12 web12 e1216 e412 hw12
            refine ⟨_, rfl, _, rfl, hx', T.C_Stand, dx', _, _, rfl, hst16, T.c_Stand, T.nf_Stand_tops, rfl, tt, rfl, ⟨_, htt16⟩, fun D hD => ?_⟩
            refine lc_tup (xs := ts.map V.int) (fun i H' => Ext H16 H' ∧ H' D = some (.lst (((ts.take i).map fun t => kk * t).map V.int))) ⟨Ext.upd hD, upd_same⟩ (fun i H' _ p => htt16.ext p.1) ?_ ?_
            · rintro i2 y2 H17 hi2 ⟨e17, hD17⟩
              obtain ⟨t0, ht0, rfl⟩ : ∃ t0, ts[i2]? = some t0 ∧ y2 = V.int t0 := by
                rw [List.getElem?_map] at hi2
                cases e : ts[i2]? with
                | none => rw [e] at hi2; cases hi2
                | some n => rw [e] at hi2; exact ⟨n, rfl, (Option.some.inj hi2).symm⟩
              have hi2n : i2 < n := by rw [← tlen]; exact (List.getElem?_eq_some_iff.mp ht0).1
              have hn10 := ok.n10
              have t0s : t0.natAbs < 2 ^ 6000 := by
                have z := sok.small (i2 : Int) (Int.natCast_nonneg _) (by omega)
                unfold tv at z
                rw [Int.toNat_natCast, List.getD_eq_getElem?_getD, ht0] at z
                exact z
              have hmul : CMulW kk t0 := wide_mul (a := 20) (b := 6000) (len20 hk1 (Int.le_trans hk9 (by decide))) t0s (by decide) (by decide) (by decide)
              refine ⟨rfl, tyes ?_⟩
              refine ⟨_, rfl, _, rfl, _, _, rfl, rfl, hmul, _, hD17, ?_, e17.mut hD, by rw [upd_same, List.take_add_one, ht0, List.map_append, List.map_append]; rfl⟩
              rw [List.length_map, List.length_map, List.length_take]
              exact Nat.lt_of_lt_of_le (show min i2 ts.length < 100 by clear t0s; omega) (by decide)
            rintro H17 ⟨e17, hD17⟩
            rw [List.length_map, List.take_length] at hD17
            have hmulS : CMul kk sb := .inl ⟨by omega, by omega⟩
            refine ⟨_, rfl, _, rfl, hx', T.C_Stand, dx', _, _, rfl, e17 _ _ hst16, T.c_Stand, T.nf_Stand_bottom, rfl, _, _, rfl, rfl, hmulS, rfl, rfl, ?_⟩
            refine ⟨u, D, n, bs, normH hl, oftL kk ts, ns, kk * sb, q, rfl, web16.ext e17, .inl (SqL.of hD17), ht_oft hk1 hno, nk, nl64, b8, ok.bars, fun r r0 r1 => ?_, po, fun i b x hb hx => ?_, fun p2 us2 H18 e18 hp2 hus2 i18 => ?_⟩
            · rw [tv_oft, Int.natAbs_mul]
              refine Nat.lt_of_lt_of_le (Nat.mul_lt_mul'' (len20 hk1 (Int.le_trans hk9 (by decide))) (sok.small r r0 r1)) ?_
              rw [← Nat.pow_add]
              exact Nat.pow_le_pow_right (by decide) (by decide)
            · rw [tv_oft, tv_oft, tv_oft]
              exact eq_oft (sok.eqs i b x hb hx)
            rw [show (fun z : BarD × Int => dueD z.1 (oftL kk ts) z.2 q) = fun z => dueD z.1 ts z.2 q from funext fun z => due_oft hk1] at i18
            have e1618 := e17.trans e18
            refine ⟨_, rfl, .lst (dueL bs ns ts q), .lst (dueL bs ns ts q), is_lst hus2 (i18.ext del_ext), is_lst (e1618 _ _ hF16) ((hus16.ext (DE.of e1618)).ext del_ext), pR, pR, dR, .inl rfl, fun H19 e19 => ⟨false, by rw [qR]; rfl, iteF ?_⟩⟩
            have e1619 := e1618.trans e19
            clear i18 hus2 hp2 e18 hD17 e17 e1618 e19 hD
            refine ⟨_, rfl, _, rfl, hx', T.C_Stand, dx', _, _, rfl, e1619 _ _ hst16, T.c_Stand, T.nf_Stand_tops, rfl, tt, _, rfl, .inr (htt16.ext e1619), fun L hL => ?_⟩
            have e1920 : Ext H19 (upd H19 L (.lst (ts.map V.int))) := Ext.upd hL
            have hL20 : (upd H19 L (.lst (ts.map V.int))) L = some (.lst (ts.map V.int)) := upd_same
            generalize upd H19 L (.lst (ts.map V.int)) = H20 at e1920 hL20 ⊢
            have e1620 := e1619.trans e1920
            refine ⟨_, rfl, hx', T.C_Stand, dx', _, _, rfl, e1620 _ _ hst16, T.c_Stand, T.nf_Stand_bottom, rfl, rfl, ?_⟩
            refine ⟨u, L, n, bs, normH hl, ts, ns, sb, q, rfl, web16.ext e1620, .inl (SqL.of hL20), hno, nk, nl64, b8, ok.bars, big, po, sok.eqs, fun p3 us3 H21 e21 hp3 hus3 i21 => ?_⟩
            have e1621 := e1620.trans e21
            refine ⟨_, rfl, .lst (dueL bs ns ts q), .lst (dueL bs ns ts q), is_lst hus3 (i21.ext del_ext), is_lst (e1621 _ _ hF16) ((hus16.ext (DE.of e1621)).ext del_ext), pR, pR, dR, .inl rfl, fun H22 e22 => ⟨false, by rw [qR]; rfl, iteF ?_⟩⟩
            exact ⟨e416.trans (DE.of (e1621.trans e22)), hw16.ext (e1621.trans e22), _, _, _, _, _, _, _, _, _, _, _, rfl⟩
        · obtain ⟨a3, rfl⟩ : ∃ a3, a3 = a2 := ⟨_, rfl⟩
          have e8 := e46.trans e7
          have hw8 := hw7
          have ha8 := e7.to ha6 hap
          obtain ⟨H8, rfl⟩ : ∃ H8, H8 = H7 := ⟨_, rfl⟩
          clear e7 hw7 ha6 ht6 htp e6 hw6 e5 hw5 cc e46
          have web8 : Is K H8 (wbD T.C_Web T.C_Bar (n : Int) bs (normH hl)) u := (iu.ext e8).ext del_ext
          have q1 := po.q1
          have qbig : q.natAbs < 2 ^ 8000 := Nat.lt_of_le_of_lt (show q.natAbs ≤ 40 by omega) (Nat.lt_of_lt_of_le (show 40 < 2 ^ 6 by decide) (Nat.pow_le_pow_right (by decide) (by decide)))
          have b8 := ok.b8
          have sok := st_ok ok li po
          refine ⟨_, rfl, _, rfl, _, rfl, fun x dx hx hdx hne => ?_⟩
          refine ⟨H8, x, dx, a3, ns, q, rfl, hx, hdx, hne, rfl, .inl (SqL.of ha8), by rw [po.len]; omega, qbig, fun z => by omega, fun _ H9 e9 i9 => ⟨rfl, ?_⟩⟩
          refine ⟨u, .ref x, n, bs, hl, normN ns q, normP ns q, rfl, web8.ext e9, i9, ok, li, plok_norm po, fun y H10 e10 i10 => ?_⟩
          generalize normN (topsB n (normP ns q) hl bs (normN ns q)) (stB n (normP ns q) hl bs (normN ns q)) = ts at sok i10
          generalize normP (topsB n (normP ns q) hl bs (normN ns q)) (stB n (normP ns q) hl bs (normN ns q)) = sb at sok i10
          have e810 := e9.trans e10
          obtain ⟨hx', dx', tt, rfl, hst, htt⟩ := st_fields i10
          have tlen := sok.ht.len
          have e410 := e8.trans (DE.of e810)
          have hw10 := hw8.ext e810
          have ha10 := e810 _ _ ha8
          have web10 := web8.ext e810
          clear i10 e10 i9 e9 hx hdx hne web8
          obtain ⟨M, hd, bl, ws, rfl, hM0, hhd0, hbl0, hbs0⟩ := m_of (iv.ext e410)
          obtain ⟨hMp, hM⟩ := del_some hM0
          have hwl : ws.length = bs.length := by rw [isL_len hbs0, List.length_map]
          simp only [List.set_cons_succ, List.set_cons_zero]
          refine ⟨by show 0 ≤ sizeLine; decide, fun F hF => ?_⟩
          have hFp : F ≠ p := hw10.ne hF
          have e11 : Ext H10 (upd H10 F (.lst [])) := Ext.upd hF
          have hF11 : (upd H10 F (.lst [])) F = some (.lst []) := upd_same
          generalize upd H10 F (.lst []) = H11 at e11 hF11 ⊢
          simp only [List.set_cons_succ, List.set_cons_zero]
          refine ⟨_, rfl, M, _, rfl, g_bars (e11 _ _ hM), _, rfl, bl, a3, ws, ns.map V.int, rfl, (hbl0.ext del_ext).ext e11, SqL.of (e11 _ _ ha10), ?_⟩
          refine for_zipL (xs := ws) (ys := ns.map V.int) (by rw [hwl, List.length_map, po.len]) (fun i σ H' => Ext H10 H' ∧ (∃ us, H' F = some (.lst us) ∧ IsL K (del H' F) (((bs.zip ns).take i).map fun z => dueD z.1 ts z.2 q) us ∧ us.length = i) ∧ ∃ v10 v11 v12 : Option V, σ = [some (.ref a), some (.int c), some (.ref p), some (.ref M), some u, some (.int (0 + (j : Nat))), some (.ref a3), some (.int q), some (.ref hx'), some (.ref F), v10, v11, v12, u13, u14, u15])
            ⟨e11, ⟨[], hF11, rfl, rfl⟩, _, _, _, rfl⟩ (fun i σ H' p => ⟨(hbl0.ext del_ext).ext p.1, SqL.of (p.1 _ _ ha10)⟩) ?_ ?_
          · rintro i' y1 y2 T' σ H12 hy1 hy2 ⟨e12, ⟨us, hF12, hus, hul⟩, w10, w11, w12, rfl⟩ hT'
            obtain ⟨b, hbi, ib⟩ := isL_at' hbs0 hy1
            obtain ⟨x, hx, rfl⟩ : ∃ x, ns[i']? = some x ∧ y2 = V.int x := by
              rw [List.getElem?_map] at hy2
              cases e : ns[i']? with
              | none => rw [e] at hy2; cases hy2
              | some n => rw [e] at hy2; exact ⟨n, rfl, (Option.some.inj hy2).symm⟩
            have okb := ok.bars b (List.mem_of_getElem? hbi)
            have hTF : F ≠ T' := ne_of_none hF12 hT'
            have e1213 : Ext H12 (upd H12 T' (.tup [y1, .int x])) := Ext.upd hT'
            have hT13 : (upd H12 T' (.tup [y1, .int x])) T' = some (.tup [y1, .int x]) := upd_same
            generalize upd H12 T' (.tup [y1, .int x]) = H13 at e1213 hT13 ⊢
            have e13 := e12.trans e1213
            obtain ⟨tb, rfl, htb⟩ := bf_of ((ib.ext del_ext).ext e13)
            have hF13 := e1213 _ _ hF12
            have hus13 := hus.ext (DE.of (w := F) e1213)
            have aa := at_tv (ts := ts) okb.a0 (by rw [tlen]; exact okb.a1)
            have ab := at_tv (ts := ts) okb.b0 (by rw [tlen]; exact okb.b1)
            refine ⟨T', _, rfl, SqT.of hT13, rfl, _, _, rfl, _, _, rfl, rfl, ?_⟩
            simp only [List.set_cons_succ, List.set_cons_zero]
            refine ⟨_, rfl, hx', T.C_Stand, dx', _, _, rfl, e13 _ _ hst, T.c_Stand, T.nf_Stand_tops, rfl, _, rfl, tb, _, _, _, rfl, rfl, htb, atI_nat (xs := brV b) (j := 0) rfl, tt, _, _, _, rfl, rfl, htt.ext e13, aa, ?_⟩
            refine ⟨_, rfl, hx', T.C_Stand, dx', _, _, rfl, e13 _ _ hst, T.c_Stand, T.nf_Stand_tops, rfl, _, rfl, tb, _, _, _, rfl, rfl, htb, atI_nat (xs := brV b) (j := 1) rfl, tt, _, _, _, rfl, rfl, htt.ext e13, ab, rfl, ?_⟩
            simp only [List.set_cons_succ, List.set_cons_zero]
            have hlen8 : i' < 8 := by
              have := (List.getElem?_eq_some_iff.mp hbi).1
              omega
            have hz2 : (bs.zip ns)[i']? = some (b, x) := by rw [List.getElem?_zip_eq_some]; exact ⟨hbi, hx⟩
            have fin : ∀ (vv : V) (Hn : Hp), Ext H13 Hn → Is K (del Hn F) (dueD b ts x q) vv → Ext H10 (upd Hn F (.lst (us ++ [vv]))) ∧ (∃ us', (upd Hn F (.lst (us ++ [vv]))) F = some (.lst us') ∧ IsL K (del (upd Hn F (.lst (us ++ [vv]))) F) (((bs.zip ns).take (i' + 1)).map fun z => dueD z.1 ts z.2 q) us' ∧ us'.length = i' + 1) := fun vv Hn en ivv => by
              refine ⟨(e13.trans en).mut hF, us ++ [vv], upd_same, ?_, by rw [List.length_append, hul]; rfl⟩
              rw [List.take_add_one, hz2, List.map_append]
              exact isL_snoc (hus13.ext ((DE.of en).trans DE.upd)) (ivv.ext DE.upd)
            have hsz : us.length < sizeLine := by rw [hul]; exact Nat.lt_of_lt_of_le (show i' < 100 by omega) (by decide)
            refine ⟨_, rfl, .inl ⟨rfl, _, SqL.of hF13⟩, ?_⟩
            refine ⟨_, rfl, _, rfl, ?_⟩
            by_cases cl : tv ts b.a = tv ts b.b
            · rw [show decide (V.int (tv ts b.a) = V.int (tv ts b.b)) = true from decide_eq_true (by rw [cl])]
              refine iteT ?_
              obtain ⟨f1, f2⟩ := fin (.str freeT) H13 Ext.rfl' (by unfold dueD; rw [if_pos cl.symm]; exact rfl)
              exact ⟨F, _, _, rfl, rfl, hF13, hsz, f1, f2, _, _, _, rfl⟩
            · rw [show decide (V.int (tv ts b.a) = V.int (tv ts b.b)) = false from decide_eq_false fun z => cl (V.int.inj z)]
              refine iteF ?_
              refine ⟨_, rfl, _, rfl, x, q, rfl, q1, Nat.lt_of_le_of_lt (show q.natAbs ≤ 40 by omega) (by decide +kernel), fun uu H14 e14 huu => ?_⟩
              have hF14 := e14 _ _ hF13
              have huF : uu ≠ F := fun e => by rw [e, hF14] at huu; cases huu
              obtain ⟨f1, f2⟩ := fin (.ref uu) H14 e14 (by unfold dueD; rw [if_neg fun z => cl z.symm]; exact ⟨uu, _, rfl, SqT.of (by rw [del_ne huF]; exact huu), _, _, rfl, rfl, _, _, rfl, rfl, rfl⟩)
              exact ⟨F, _, _, rfl, rfl, hF14, hsz, f1, f2, _, _, _, rfl⟩
          · rintro σ H12 ⟨e12, ⟨us, hF12, hus, hul⟩, w10, w11, w12, rfl⟩
            rw [hwl, show (bs.zip ns).take bs.length = bs.zip ns from List.take_of_length_le (by rw [List.length_zip]; omega)] at hus
            have hst12 := e12 _ _ hst
            have htt12 := htt.ext e12
            have web12 := web10.ext e12
            have hw12 := hw10.ext e12
            have e412 := e410.trans (DE.of e12)
            obtain ⟨nk, nd, nl, nh⟩ := norm_ok ok
            have nl64 : (normH hl).length < 64 := Nat.lt_of_le_of_lt nl (by decide)
            have big : ∀ r, 0 ≤ r → r < (n : Int) → (tv ts r).natAbs < 2 ^ 7000 := fun r r0 r1 => Nat.lt_of_lt_of_le (sok.small r r0 r1) (Nat.pow_le_pow_right (by decide) (by decide))
            have hno := ht_norm ok.nd sok.ht
            have dR : dep (Dt.lst (dueL bs ns ts q)) ≤ 8 := by
              have := dues_dep (ts := ts) (q := q) (bs.zip ns)
              exact Nat.succ_le_succ (Nat.le_trans this (by decide))
            have qR : deq (.lst (dueL bs ns ts q)) (.lst (dueL bs ns ts q)) = true := dues_refl _
            have pR : ∀ {shp : Addr → List Str → List Dt → Prop}, okD shp (.lst (dueL bs ns ts q)) := okL_pure (dues_pure _)
            clear e12 hst htt web10 hw10 e410 e11 hF11 hF ha10 hM hM0 hhd0 hbl0 hbs0
            refine ⟨_, rfl, _, rfl, hx', T.C_Stand, dx', _, _, rfl, hst12, T.c_Stand, T.nf_Stand_tops, rfl, ?_⟩
            refine ⟨_, rfl, hx', T.C_Stand, dx', _, _, rfl, hst12, T.c_Stand, T.nf_Stand_bottom, rfl, rfl, rfl, ?_⟩
            refine ⟨u, tt, n, bs, normH hl, ts, ns, sb, q, rfl, web12, .inr htt12, hno, nk, nl64, b8, ok.bars, big, po, sok.eqs, fun p1 us1 H13 e13 hp1 hus1 i13 => ?_⟩
            simp only [List.set_cons_succ, List.set_cons_zero]
            refine ⟨_, rfl, .ref p1, .ty "list", .type "list", .type "list", true, rfl, ClsV.ty _, TyX.base (TyOf.lst hus1), kit_ty (by decide +kernel), _, rfl, ?_⟩
            refine ite2 (fun hc => absurd hc (by decide)) fun _ => ?_
            refine ⟨_, rfl, _, rfl, .lst (dueL bs ns ts q), .lst (dueL bs ns ts q), is_lst hus1 (i13.ext del_ext), is_lst (e13 _ _ hF12) ((hus.ext (DE.of e13)).ext del_ext), pR, pR, dR, .inl rfl, fun H14 e14 => ⟨false, by rw [qR]; rfl, iteF ?_⟩⟩
            have hp14 := e14 _ _ hus1
            refine ⟨_, rfl, .inl ⟨rfl, _, SqL.of hp14⟩, p1, _, rfl, rfl, hp14, ?_⟩
            have e1215 : Ext H12 (upd H14 p1 (.lst [])) := (e13.trans e14).mut hp1
            generalize upd H14 p1 (.lst []) = H15 at e1215 ⊢
            clear hp14 e14 i13 hus1 hp1 e13
            refine ⟨_, rfl, p, 9, rfl, hw12.ext e1215, by decide, by decide, fun r H16 e16 hw16 r0 r1 => ⟨_, _, rfl, rfl, ?_⟩⟩
            dsimp only
            obtain ⟨kk, hkk, hk1, hk9⟩ : ∃ kk : Int, 1 + r = kk ∧ 1 ≤ kk ∧ kk ≤ 9 := ⟨1 + r, rfl, by omega, by omega⟩
            rw [hkk]
            simp only [List.set_cons_succ, List.set_cons_zero]
            have e1216 : DE p H12 H16 := (DE.of e1215).trans e16
            have hF16 := e1216.to hF12 hFp
            have hus16 := dues_mut hw12 hFp e1216 hus
            have hst16 := e1216.to hst12 (fun e => by
              obtain ⟨_, _, _, hwp⟩ := hw12
              rw [e, hwp] at hst12
              cases hst12)
            have htt16 := sqT_de htt12 hw12 e1216
            have web16 : Is K H16 (wbD T.C_Web T.C_Bar (n : Int) bs (normH hl)) u := (iu.ext (e412.trans e1216)).ext del_ext
            have e416 := e412.trans e1216
            clear e16 e1215 hkk r0 r1 htt12 hst12 hus hF12 web12 e1216 e412 hw12
            refine ⟨_, rfl, _, rfl, hx', T.C_Stand, dx', _, _, rfl, hst16, T.c_Stand, T.nf_Stand_tops, rfl, tt, rfl, ⟨_, htt16⟩, fun D hD => ?_⟩
            refine lc_tup (xs := ts.map V.int) (fun i H' => Ext H16 H' ∧ H' D = some (.lst (((ts.take i).map fun t => kk * t).map V.int))) ⟨Ext.upd hD, upd_same⟩ (fun i H' _ p => htt16.ext p.1) ?_ ?_
            · rintro i2 y2 H17 hi2 ⟨e17, hD17⟩
              obtain ⟨t0, ht0, rfl⟩ : ∃ t0, ts[i2]? = some t0 ∧ y2 = V.int t0 := by
                rw [List.getElem?_map] at hi2
                cases e : ts[i2]? with
                | none => rw [e] at hi2; cases hi2
                | some n => rw [e] at hi2; exact ⟨n, rfl, (Option.some.inj hi2).symm⟩
              have hi2n : i2 < n := by rw [← tlen]; exact (List.getElem?_eq_some_iff.mp ht0).1
              have hn10 := ok.n10
              have t0s : t0.natAbs < 2 ^ 6000 := by
                have z := sok.small (i2 : Int) (Int.natCast_nonneg _) (by omega)
                unfold tv at z
                rw [Int.toNat_natCast, List.getD_eq_getElem?_getD, ht0] at z
                exact z
              have hmul : CMulW kk t0 := wide_mul (a := 20) (b := 6000) (len20 hk1 (Int.le_trans hk9 (by decide))) t0s (by decide) (by decide) (by decide)
              refine ⟨rfl, tyes ?_⟩
              refine ⟨_, rfl, _, rfl, _, _, rfl, rfl, hmul, _, hD17, ?_, e17.mut hD, by rw [upd_same, List.take_add_one, ht0, List.map_append, List.map_append]; rfl⟩
              rw [List.length_map, List.length_map, List.length_take]
              exact Nat.lt_of_lt_of_le (show min i2 ts.length < 100 by clear t0s; omega) (by decide)
            rintro H17 ⟨e17, hD17⟩
            rw [List.length_map, List.take_length] at hD17
            have hmulS : CMul kk sb := .inl ⟨by omega, by omega⟩
            refine ⟨_, rfl, _, rfl, hx', T.C_Stand, dx', _, _, rfl, e17 _ _ hst16, T.c_Stand, T.nf_Stand_bottom, rfl, _, _, rfl, rfl, hmulS, rfl, rfl, ?_⟩
            refine ⟨u, D, n, bs, normH hl, oftL kk ts, ns, kk * sb, q, rfl, web16.ext e17, .inl (SqL.of hD17), ht_oft hk1 hno, nk, nl64, b8, ok.bars, fun r r0 r1 => ?_, po, fun i b x hb hx => ?_, fun p2 us2 H18 e18 hp2 hus2 i18 => ?_⟩
            · rw [tv_oft, Int.natAbs_mul]
              refine Nat.lt_of_lt_of_le (Nat.mul_lt_mul'' (len20 hk1 (Int.le_trans hk9 (by decide))) (sok.small r r0 r1)) ?_
              rw [← Nat.pow_add]
              exact Nat.pow_le_pow_right (by decide) (by decide)
            · rw [tv_oft, tv_oft, tv_oft]
              exact eq_oft (sok.eqs i b x hb hx)
            rw [show (fun z : BarD × Int => dueD z.1 (oftL kk ts) z.2 q) = fun z => dueD z.1 ts z.2 q from funext fun z => due_oft hk1] at i18
            have e1618 := e17.trans e18
            refine ⟨_, rfl, .lst (dueL bs ns ts q), .lst (dueL bs ns ts q), is_lst hus2 (i18.ext del_ext), is_lst (e1618 _ _ hF16) ((hus16.ext (DE.of e1618)).ext del_ext), pR, pR, dR, .inl rfl, fun H19 e19 => ⟨false, by rw [qR]; rfl, iteF ?_⟩⟩
            have e1619 := e1618.trans e19
            clear i18 hus2 hp2 e18 hD17 e17 e1618 e19 hD
            refine ⟨_, rfl, _, rfl, hx', T.C_Stand, dx', _, _, rfl, e1619 _ _ hst16, T.c_Stand, T.nf_Stand_tops, rfl, tt, _, rfl, .inr (htt16.ext e1619), fun L hL => ?_⟩
            have e1920 : Ext H19 (upd H19 L (.lst (ts.map V.int))) := Ext.upd hL
            have hL20 : (upd H19 L (.lst (ts.map V.int))) L = some (.lst (ts.map V.int)) := upd_same
            generalize upd H19 L (.lst (ts.map V.int)) = H20 at e1920 hL20 ⊢
            have e1620 := e1619.trans e1920
            refine ⟨_, rfl, hx', T.C_Stand, dx', _, _, rfl, e1620 _ _ hst16, T.c_Stand, T.nf_Stand_bottom, rfl, rfl, ?_⟩
            refine ⟨u, L, n, bs, normH hl, ts, ns, sb, q, rfl, web16.ext e1620, .inl (SqL.of hL20), hno, nk, nl64, b8, ok.bars, big, po, sok.eqs, fun p3 us3 H21 e21 hp3 hus3 i21 => ?_⟩
            have e1621 := e1620.trans e21
            refine ⟨_, rfl, .lst (dueL bs ns ts q), .lst (dueL bs ns ts q), is_lst hus3 (i21.ext del_ext), is_lst (e1621 _ _ hF16) ((hus16.ext (DE.of e1621)).ext del_ext), pR, pR, dR, .inl rfl, fun H22 e22 => ⟨false, by rw [qR]; rfl, iteF ?_⟩⟩
            exact ⟨e416.trans (DE.of (e1621.trans e22)), hw16.ext (e1621.trans e22), _, _, _, _, _, _, _, _, _, _, _, rfl⟩
      · rintro σ H5 ⟨e5, hw5, u5, u6, u7, u8, u9, u10, u11, u12, u13, u14, u15, rfl⟩
        exact ⟨DE.base e02 hp0 (e04.trans e5), _, _, _, _, _, _, _, _, _, _, _, _, _, _, _, rfl⟩
    · rintro σ H' ⟨_, v1, v2, v3, v4, v5, v6, v7, v8, v9, v10, v11, v12, v13, v14, v15, rfl⟩
      exact k H'
end
end K06

namespace K06
open PySem L2
def mk_tx {K : PySem.W.Frag} {h : Heap} {mg : Str → Option Value} (X : K.In h) (G : h.Ns mainGlobals mg)
    {a_divisor : Addr} {od_divisor an_divisor : Option Addr} {sl_divisor : Array (Option Value)} {oc_divisor kV_divisor dc_divisor pm_divisor cd_divisor ct_divisor : Value} {a_lowest : Addr} {od_lowest an_lowest : Option Addr} {sl_lowest : Array (Option Value)} {oc_lowest kV_lowest dc_lowest pm_lowest cd_lowest ct_lowest : Value} {a_fraction : Addr} {od_fraction an_fraction : Option Addr} {sl_fraction : Array (Option Value)} {oc_fraction kV_fraction dc_fraction pm_fraction cd_fraction ct_fraction : Value} {a_led : Addr} {od_led an_led : Option Addr} {sl_led : Array (Option Value)} {oc_led kV_led dc_led pm_led cd_led ct_led : Value} {a_check_heights : Addr} {od_check_heights an_check_heights : Option Addr} {sl_check_heights : Array (Option Value)} {oc_check_heights kV_check_heights dc_check_heights pm_check_heights cd_check_heights ct_check_heights : Value} {a_led_bar : Addr} {od_led_bar an_led_bar : Option Addr} {sl_led_bar : Array (Option Value)} {oc_led_bar kV_led_bar dc_led_bar pm_led_bar cd_led_bar ct_led_bar : Value} {a_check_places : Addr} {od_check_places an_check_places : Option Addr} {sl_check_places : Array (Option Value)} {oc_check_places kV_check_places dc_check_places pm_check_places cd_check_places ct_check_places : Value} {a_bar_rows : Addr} {od_bar_rows an_bar_rows : Option Addr} {sl_bar_rows : Array (Option Value)} {oc_bar_rows kV_bar_rows dc_bar_rows pm_bar_rows cd_bar_rows ct_bar_rows : Value} {a_heights_at : Addr} {od_heights_at an_heights_at : Option Addr} {sl_heights_at : Array (Option Value)} {oc_heights_at kV_heights_at dc_heights_at pm_heights_at cd_heights_at ct_heights_at : Value} {a_table : Addr} {od_table an_table : Option Addr} {sl_table : Array (Option Value)} {oc_table kV_table dc_table pm_table cd_table ct_table : Value} {a_asked : Addr} {od_asked an_asked : Option Addr} {sl_asked : Array (Option Value)} {oc_asked kV_asked dc_asked pm_asked cd_asked ct_asked : Value} {a_cleared : Addr} {od_cleared an_cleared : Option Addr} {sl_cleared : Array (Option Value)} {oc_cleared kV_cleared dc_cleared pm_cleared cd_cleared ct_cleared : Value} {a_swapped : Addr} {od_swapped an_swapped : Option Addr} {sl_swapped : Array (Option Value)} {oc_swapped kV_swapped dc_swapped pm_swapped cd_swapped ct_swapped : Value} {a_cleared_of : Addr} {od_cleared_of an_cleared_of : Option Addr} {sl_cleared_of : Array (Option Value)} {oc_cleared_of kV_cleared_of dc_cleared_of pm_cleared_of cd_cleared_of ct_cleared_of : Value} {a_stand : Addr} {od_stand an_stand : Option Addr} {sl_stand : Array (Option Value)} {oc_stand kV_stand dc_stand pm_stand cd_stand ct_stand : Value} {a_check_rods : Addr} {od_check_rods an_check_rods : Option Addr} {sl_check_rods : Array (Option Value)} {oc_check_rods kV_check_rods dc_check_rods pm_check_rods cd_check_rods ct_check_rods : Value} {a_check_bars : Addr} {od_check_bars an_check_bars : Option Addr} {sl_check_bars : Array (Option Value)} {oc_check_bars kV_check_bars dc_check_bars pm_check_bars cd_check_bars ct_check_bars : Value} {a_check_bar : Addr} {od_check_bar an_check_bar : Option Addr} {sl_check_bar : Array (Option Value)} {oc_check_bar kV_check_bar dc_check_bar pm_check_bar cd_check_bar ct_check_bar : Value} {a_l_well : Addr} {od_l_well an_l_well : Option Addr} {sl_l_well : Array (Option Value)} {oc_l_well kV_l_well dc_l_well pm_l_well cd_l_well ct_l_well : Value} {a_l_draw : Addr} {od_l_draw an_l_draw : Option Addr} {sl_l_draw : Array (Option Value)} {oc_l_draw kV_l_draw dc_l_draw pm_l_draw cd_l_draw ct_l_draw : Value} {a_l_one : Addr} {od_l_one an_l_one : Option Addr} {sl_l_one : Array (Option Value)} {oc_l_one kV_l_one dc_l_one pm_l_one cd_l_one ct_l_one : Value} {a_l_mixed : Addr} {od_l_mixed an_l_mixed : Option Addr} {sl_l_mixed : Array (Option Value)} {oc_l_mixed kV_l_mixed dc_l_mixed pm_l_mixed cd_l_mixed ct_l_mixed : Value} {a_l_bar_fact : Addr} {od_l_bar_fact an_l_bar_fact : Option Addr} {sl_l_bar_fact : Array (Option Value)} {oc_l_bar_fact kV_l_bar_fact dc_l_bar_fact pm_l_bar_fact cd_l_bar_fact ct_l_bar_fact : Value} {a_l_height : Addr} {od_l_height an_l_height : Option Addr} {sl_l_height : Array (Option Value)} {oc_l_height kV_l_height dc_l_height pm_l_height cd_l_height ct_l_height : Value} {a_l_line : Addr} {od_l_line an_l_line : Option Addr} {sl_l_line : Array (Option Value)} {oc_l_line kV_l_line dc_l_line pm_l_line cd_l_line ct_l_line : Value} {a_l_web : Addr} {od_l_web an_l_web : Option Addr} {sl_l_web : Array (Option Value)} {oc_l_web kV_l_web dc_l_web pm_l_web cd_l_web ct_l_web : Value} {a_l_spots : Addr} {od_l_spots an_l_spots : Option Addr} {sl_l_spots : Array (Option Value)} {oc_l_spots kV_l_spots dc_l_spots pm_l_spots cd_l_spots ct_l_spots : Value} {a_l_common : Addr} {od_l_common an_l_common : Option Addr} {sl_l_common : Array (Option Value)} {oc_l_common kV_l_common dc_l_common pm_l_common cd_l_common ct_l_common : Value} {a_l_low : Addr} {od_l_low an_l_low : Option Addr} {sl_l_low : Array (Option Value)} {oc_l_low kV_l_low dc_l_low pm_l_low cd_l_low ct_l_low : Value} {a_law : Addr} {od_law an_law : Option Addr} {sl_law : Array (Option Value)} {oc_law kV_law dc_law pm_law cd_law ct_law : Value} {C_Bar : Addr} {a_Bar_init : Addr} {od_Bar_init an_Bar_init : Option Addr} {sl_Bar_init : Array (Option Value)} {oc_Bar_init kV_Bar_init dc_Bar_init pm_Bar_init cd_Bar_init ct_Bar_init : Value} {a_Bar_eq : Addr} {od_Bar_eq an_Bar_eq : Option Addr} {sl_Bar_eq : Array (Option Value)} {oc_Bar_eq kV_Bar_eq dc_Bar_eq pm_Bar_eq cd_Bar_eq ct_Bar_eq : Value} {C_Web : Addr} {a_Web_init : Addr} {od_Web_init an_Web_init : Option Addr} {sl_Web_init : Array (Option Value)} {oc_Web_init kV_Web_init dc_Web_init pm_Web_init cd_Web_init ct_Web_init : Value} {a_Web_held : Addr} {od_Web_held an_Web_held : Option Addr} {sl_Web_held : Array (Option Value)} {oc_Web_held kV_Web_held dc_Web_held pm_Web_held cd_Web_held ct_Web_held : Value} {a_Web_hanging : Addr} {od_Web_hanging an_Web_hanging : Option Addr} {sl_Web_hanging : Array (Option Value)} {oc_Web_hanging kV_Web_hanging dc_Web_hanging pm_Web_hanging cd_Web_hanging ct_Web_hanging : Value} {a_Web_eq : Addr} {od_Web_eq an_Web_eq : Option Addr} {sl_Web_eq : Array (Option Value)} {oc_Web_eq kV_Web_eq dc_Web_eq pm_Web_eq cd_Web_eq ct_Web_eq : Value} {C_Places : Addr} {a_Places_init : Addr} {od_Places_init an_Places_init : Option Addr} {sl_Places_init : Array (Option Value)} {oc_Places_init kV_Places_init dc_Places_init pm_Places_init cd_Places_init ct_Places_init : Value} {C_Stand : Addr} {a_Stand_init : Addr} {od_Stand_init an_Stand_init : Option Addr} {sl_Stand_init : Array (Option Value)} {oc_Stand_init kV_Stand_init dc_Stand_init pm_Stand_init cd_Stand_init ct_Stand_init : Value} {C_HooksError : Addr} {C_BadCount : Addr} {nm_BadCount q_BadCount : Str} {N_BadCount : Addr} {bs_BadCount : List Value} {sn_BadCount : List Str} {sub_BadCount : List Value} {ab_BadCount : Bool} {col_BadCount : Option Bool} {dd_BadCount : Option Addr} {u0_BadCount u1_BadCount u2_BadCount u3_BadCount u5_BadCount : Option Value} {a_BadCount_init : Addr} {od_BadCount_init an_BadCount_init : Option Addr} {sl_BadCount_init : Array (Option Value)} {oc_BadCount_init kV_BadCount_init dc_BadCount_init pm_BadCount_init cd_BadCount_init ct_BadCount_init : Value} {C_NoRod : Addr} {nm_NoRod q_NoRod : Str} {N_NoRod : Addr} {bs_NoRod : List Value} {sn_NoRod : List Str} {sub_NoRod : List Value} {ab_NoRod : Bool} {col_NoRod : Option Bool} {dd_NoRod : Option Addr} {u0_NoRod u1_NoRod u2_NoRod u3_NoRod u5_NoRod : Option Value} {a_NoRod_init : Addr} {od_NoRod_init an_NoRod_init : Option Addr} {sl_NoRod_init : Array (Option Value)} {oc_NoRod_init kV_NoRod_init dc_NoRod_init pm_NoRod_init cd_NoRod_init ct_NoRod_init : Value} {C_SameRod : Addr} {nm_SameRod q_SameRod : Str} {N_SameRod : Addr} {bs_SameRod : List Value} {sn_SameRod : List Str} {sub_SameRod : List Value} {ab_SameRod : Bool} {col_SameRod : Option Bool} {dd_SameRod : Option Addr} {u0_SameRod u1_SameRod u2_SameRod u3_SameRod u5_SameRod : Option Value} {a_SameRod_init : Addr} {od_SameRod_init an_SameRod_init : Option Addr} {sl_SameRod_init : Array (Option Value)} {oc_SameRod_init kV_SameRod_init dc_SameRod_init pm_SameRod_init cd_SameRod_init ct_SameRod_init : Value} {C_BadSpan : Addr} {nm_BadSpan q_BadSpan : Str} {N_BadSpan : Addr} {bs_BadSpan : List Value} {sn_BadSpan : List Str} {sub_BadSpan : List Value} {ab_BadSpan : Bool} {col_BadSpan : Option Bool} {dd_BadSpan : Option Addr} {u0_BadSpan u1_BadSpan u2_BadSpan u3_BadSpan u5_BadSpan : Option Value} {a_BadSpan_init : Addr} {od_BadSpan_init an_BadSpan_init : Option Addr} {sl_BadSpan_init : Array (Option Value)} {oc_BadSpan_init kV_BadSpan_init dc_BadSpan_init pm_BadSpan_init cd_BadSpan_init ct_BadSpan_init : Value} {C_NotSquare : Addr} {nm_NotSquare q_NotSquare : Str} {N_NotSquare : Addr} {bs_NotSquare : List Value} {sn_NotSquare : List Str} {sub_NotSquare : List Value} {ab_NotSquare : Bool} {col_NotSquare : Option Bool} {dd_NotSquare : Option Addr} {u0_NotSquare u1_NotSquare u2_NotSquare u3_NotSquare u5_NotSquare : Option Value} {a_NotSquare_init : Addr} {od_NotSquare_init an_NotSquare_init : Option Addr} {sl_NotSquare_init : Array (Option Value)} {oc_NotSquare_init kV_NotSquare_init dc_NotSquare_init pm_NotSquare_init cd_NotSquare_init ct_NotSquare_init : Value} {t_LEAST_RODS : Tok} {t_MOST_RODS : Tok} {t_MOST_BARS : Tok} {t_MOST_HEIGHT : Tok} {t_MOST_LENGTH : Tok}
    (g_clsget : PySem.W.specialIn K (.builtin "object.__class__") "__get__" = some (some (.builtin "getset_descriptor.__get__")))
    (g_clstk : PySem.W.takesIn K (.builtin "object.__class__") = some true)
    (n_divisor : PySem.W.nsIn K mainGlobals "divisor" = some (some (.ref a_divisor)))
    (l_divisor : K.lookup a_divisor = some ⟨oc_divisor, od_divisor, .func (PySem.W.fnOf "divisor" "divisor" (defArgs s_divisor) (defBody s_divisor) (defScope s_divisor) .none kV_divisor dc_divisor pm_divisor an_divisor cd_divisor ct_divisor), sl_divisor⟩)
    (c_divisor : PySem.W.codeIn K cd_divisor "divisor" = true)
    (p_divisor : PySem.W.keepIn K (.ref a_divisor) = true)
    (n_lowest : PySem.W.nsIn K mainGlobals "lowest" = some (some (.ref a_lowest)))
    (l_lowest : K.lookup a_lowest = some ⟨oc_lowest, od_lowest, .func (PySem.W.fnOf "lowest" "lowest" (defArgs s_lowest) (defBody s_lowest) (defScope s_lowest) .none kV_lowest dc_lowest pm_lowest an_lowest cd_lowest ct_lowest), sl_lowest⟩)
    (c_lowest : PySem.W.codeIn K cd_lowest "lowest" = true)
    (p_lowest : PySem.W.keepIn K (.ref a_lowest) = true)
    (n_fraction : PySem.W.nsIn K mainGlobals "fraction" = some (some (.ref a_fraction)))
    (l_fraction : K.lookup a_fraction = some ⟨oc_fraction, od_fraction, .func (PySem.W.fnOf "fraction" "fraction" (defArgs s_fraction) (defBody s_fraction) (defScope s_fraction) .none kV_fraction dc_fraction pm_fraction an_fraction cd_fraction ct_fraction), sl_fraction⟩)
    (c_fraction : PySem.W.codeIn K cd_fraction "fraction" = true)
    (p_fraction : PySem.W.keepIn K (.ref a_fraction) = true)
    (n_led : PySem.W.nsIn K mainGlobals "led" = some (some (.ref a_led)))
    (l_led : K.lookup a_led = some ⟨oc_led, od_led, .func (PySem.W.fnOf "led" "led" (defArgs s_led) (defBody s_led) (defScope s_led) .none kV_led dc_led pm_led an_led cd_led ct_led), sl_led⟩)
    (c_led : PySem.W.codeIn K cd_led "led" = true)
    (p_led : PySem.W.keepIn K (.ref a_led) = true)
    (n_check_heights : PySem.W.nsIn K mainGlobals "_check_heights" = some (some (.ref a_check_heights)))
    (l_check_heights : K.lookup a_check_heights = some ⟨oc_check_heights, od_check_heights, .func (PySem.W.fnOf "_check_heights" "_check_heights" (defArgs s_check_heights) (defBody s_check_heights) (defScope s_check_heights) .none kV_check_heights dc_check_heights pm_check_heights an_check_heights cd_check_heights ct_check_heights), sl_check_heights⟩)
    (c_check_heights : PySem.W.codeIn K cd_check_heights "_check_heights" = true)
    (p_check_heights : PySem.W.keepIn K (.ref a_check_heights) = true)
    (n_led_bar : PySem.W.nsIn K mainGlobals "_led_bar" = some (some (.ref a_led_bar)))
    (l_led_bar : K.lookup a_led_bar = some ⟨oc_led_bar, od_led_bar, .func (PySem.W.fnOf "_led_bar" "_led_bar" (defArgs s_led_bar) (defBody s_led_bar) (defScope s_led_bar) .none kV_led_bar dc_led_bar pm_led_bar an_led_bar cd_led_bar ct_led_bar), sl_led_bar⟩)
    (c_led_bar : PySem.W.codeIn K cd_led_bar "_led_bar" = true)
    (p_led_bar : PySem.W.keepIn K (.ref a_led_bar) = true)
    (n_check_places : PySem.W.nsIn K mainGlobals "check_places" = some (some (.ref a_check_places)))
    (l_check_places : K.lookup a_check_places = some ⟨oc_check_places, od_check_places, .func (PySem.W.fnOf "check_places" "check_places" (defArgs s_check_places) (defBody s_check_places) (defScope s_check_places) .none kV_check_places dc_check_places pm_check_places an_check_places cd_check_places ct_check_places), sl_check_places⟩)
    (c_check_places : PySem.W.codeIn K cd_check_places "check_places" = true)
    (p_check_places : PySem.W.keepIn K (.ref a_check_places) = true)
    (n_bar_rows : PySem.W.nsIn K mainGlobals "bar_rows" = some (some (.ref a_bar_rows)))
    (l_bar_rows : K.lookup a_bar_rows = some ⟨oc_bar_rows, od_bar_rows, .func (PySem.W.fnOf "bar_rows" "bar_rows" (defArgs s_bar_rows) (defBody s_bar_rows) (defScope s_bar_rows) .none kV_bar_rows dc_bar_rows pm_bar_rows an_bar_rows cd_bar_rows ct_bar_rows), sl_bar_rows⟩)
    (c_bar_rows : PySem.W.codeIn K cd_bar_rows "bar_rows" = true)
    (p_bar_rows : PySem.W.keepIn K (.ref a_bar_rows) = true)
    (n_heights_at : PySem.W.nsIn K mainGlobals "heights_at" = some (some (.ref a_heights_at)))
    (l_heights_at : K.lookup a_heights_at = some ⟨oc_heights_at, od_heights_at, .func (PySem.W.fnOf "heights_at" "heights_at" (defArgs s_heights_at) (defBody s_heights_at) (defScope s_heights_at) .none kV_heights_at dc_heights_at pm_heights_at an_heights_at cd_heights_at ct_heights_at), sl_heights_at⟩)
    (c_heights_at : PySem.W.codeIn K cd_heights_at "heights_at" = true)
    (p_heights_at : PySem.W.keepIn K (.ref a_heights_at) = true)
    (n_table : PySem.W.nsIn K mainGlobals "_table" = some (some (.ref a_table)))
    (l_table : K.lookup a_table = some ⟨oc_table, od_table, .func (PySem.W.fnOf "_table" "_table" (defArgs s_table) (defBody s_table) (defScope s_table) .none kV_table dc_table pm_table an_table cd_table ct_table), sl_table⟩)
    (c_table : PySem.W.codeIn K cd_table "_table" = true)
    (p_table : PySem.W.keepIn K (.ref a_table) = true)
    (n_asked : PySem.W.nsIn K mainGlobals "_asked" = some (some (.ref a_asked)))
    (l_asked : K.lookup a_asked = some ⟨oc_asked, od_asked, .func (PySem.W.fnOf "_asked" "_asked" (defArgs s_asked) (defBody s_asked) (defScope s_asked) .none kV_asked dc_asked pm_asked an_asked cd_asked ct_asked), sl_asked⟩)
    (c_asked : PySem.W.codeIn K cd_asked "_asked" = true)
    (p_asked : PySem.W.keepIn K (.ref a_asked) = true)
    (n_cleared : PySem.W.nsIn K mainGlobals "_cleared" = some (some (.ref a_cleared)))
    (l_cleared : K.lookup a_cleared = some ⟨oc_cleared, od_cleared, .func (PySem.W.fnOf "_cleared" "_cleared" (defArgs s_cleared) (defBody s_cleared) (defScope s_cleared) .none kV_cleared dc_cleared pm_cleared an_cleared cd_cleared ct_cleared), sl_cleared⟩)
    (c_cleared : PySem.W.codeIn K cd_cleared "_cleared" = true)
    (p_cleared : PySem.W.keepIn K (.ref a_cleared) = true)
    (n_swapped : PySem.W.nsIn K mainGlobals "_swapped" = some (some (.ref a_swapped)))
    (l_swapped : K.lookup a_swapped = some ⟨oc_swapped, od_swapped, .func (PySem.W.fnOf "_swapped" "_swapped" (defArgs s_swapped) (defBody s_swapped) (defScope s_swapped) .none kV_swapped dc_swapped pm_swapped an_swapped cd_swapped ct_swapped), sl_swapped⟩)
    (c_swapped : PySem.W.codeIn K cd_swapped "_swapped" = true)
    (p_swapped : PySem.W.keepIn K (.ref a_swapped) = true)
    (n_cleared_of : PySem.W.nsIn K mainGlobals "_cleared_of" = some (some (.ref a_cleared_of)))
    (l_cleared_of : K.lookup a_cleared_of = some ⟨oc_cleared_of, od_cleared_of, .func (PySem.W.fnOf "_cleared_of" "_cleared_of" (defArgs s_cleared_of) (defBody s_cleared_of) (defScope s_cleared_of) .none kV_cleared_of dc_cleared_of pm_cleared_of an_cleared_of cd_cleared_of ct_cleared_of), sl_cleared_of⟩)
    (c_cleared_of : PySem.W.codeIn K cd_cleared_of "_cleared_of" = true)
    (p_cleared_of : PySem.W.keepIn K (.ref a_cleared_of) = true)
    (n_stand : PySem.W.nsIn K mainGlobals "stand" = some (some (.ref a_stand)))
    (l_stand : K.lookup a_stand = some ⟨oc_stand, od_stand, .func (PySem.W.fnOf "stand" "stand" (defArgs s_stand) (defBody s_stand) (defScope s_stand) .none kV_stand dc_stand pm_stand an_stand cd_stand ct_stand), sl_stand⟩)
    (c_stand : PySem.W.codeIn K cd_stand "stand" = true)
    (p_stand : PySem.W.keepIn K (.ref a_stand) = true)
    (n_check_rods : PySem.W.nsIn K mainGlobals "_check_rods" = some (some (.ref a_check_rods)))
    (l_check_rods : K.lookup a_check_rods = some ⟨oc_check_rods, od_check_rods, .func (PySem.W.fnOf "_check_rods" "_check_rods" (defArgs s_check_rods) (defBody s_check_rods) (defScope s_check_rods) .none kV_check_rods dc_check_rods pm_check_rods an_check_rods cd_check_rods ct_check_rods), sl_check_rods⟩)
    (c_check_rods : PySem.W.codeIn K cd_check_rods "_check_rods" = true)
    (p_check_rods : PySem.W.keepIn K (.ref a_check_rods) = true)
    (n_check_bars : PySem.W.nsIn K mainGlobals "_check_bars" = some (some (.ref a_check_bars)))
    (l_check_bars : K.lookup a_check_bars = some ⟨oc_check_bars, od_check_bars, .func (PySem.W.fnOf "_check_bars" "_check_bars" (defArgs s_check_bars) (defBody s_check_bars) (defScope s_check_bars) .none kV_check_bars dc_check_bars pm_check_bars an_check_bars cd_check_bars ct_check_bars), sl_check_bars⟩)
    (c_check_bars : PySem.W.codeIn K cd_check_bars "_check_bars" = true)
    (p_check_bars : PySem.W.keepIn K (.ref a_check_bars) = true)
    (n_check_bar : PySem.W.nsIn K mainGlobals "_check_bar" = some (some (.ref a_check_bar)))
    (l_check_bar : K.lookup a_check_bar = some ⟨oc_check_bar, od_check_bar, .func (PySem.W.fnOf "_check_bar" "_check_bar" (defArgs s_check_bar) (defBody s_check_bar) (defScope s_check_bar) .none kV_check_bar dc_check_bar pm_check_bar an_check_bar cd_check_bar ct_check_bar), sl_check_bar⟩)
    (c_check_bar : PySem.W.codeIn K cd_check_bar "_check_bar" = true)
    (p_check_bar : PySem.W.keepIn K (.ref a_check_bar) = true)
    (n_l_well : PySem.W.nsIn K mainGlobals "_law_well" = some (some (.ref a_l_well)))
    (l_l_well : K.lookup a_l_well = some ⟨oc_l_well, od_l_well, .func (PySem.W.fnOf "_law_well" "_law_well" (defArgs s_l_well) (defBody s_l_well) (defScope s_l_well) .none kV_l_well dc_l_well pm_l_well an_l_well cd_l_well ct_l_well), sl_l_well⟩)
    (c_l_well : PySem.W.codeIn K cd_l_well "_law_well" = true)
    (p_l_well : PySem.W.keepIn K (.ref a_l_well) = true)
    (n_l_draw : PySem.W.nsIn K mainGlobals "_law_draw" = some (some (.ref a_l_draw)))
    (l_l_draw : K.lookup a_l_draw = some ⟨oc_l_draw, od_l_draw, .func (PySem.W.fnOf "_law_draw" "_law_draw" (defArgs s_l_draw) (defBody s_l_draw) (defScope s_l_draw) .none kV_l_draw dc_l_draw pm_l_draw an_l_draw cd_l_draw ct_l_draw), sl_l_draw⟩)
    (c_l_draw : PySem.W.codeIn K cd_l_draw "_law_draw" = true)
    (p_l_draw : PySem.W.keepIn K (.ref a_l_draw) = true)
    (n_l_one : PySem.W.nsIn K mainGlobals "_law_one" = some (some (.ref a_l_one)))
    (l_l_one : K.lookup a_l_one = some ⟨oc_l_one, od_l_one, .func (PySem.W.fnOf "_law_one" "_law_one" (defArgs s_l_one) (defBody s_l_one) (defScope s_l_one) .none kV_l_one dc_l_one pm_l_one an_l_one cd_l_one ct_l_one), sl_l_one⟩)
    (c_l_one : PySem.W.codeIn K cd_l_one "_law_one" = true)
    (p_l_one : PySem.W.keepIn K (.ref a_l_one) = true)
    (n_l_mixed : PySem.W.nsIn K mainGlobals "_law_mixed" = some (some (.ref a_l_mixed)))
    (l_l_mixed : K.lookup a_l_mixed = some ⟨oc_l_mixed, od_l_mixed, .func (PySem.W.fnOf "_law_mixed" "_law_mixed" (defArgs s_l_mixed) (defBody s_l_mixed) (defScope s_l_mixed) .none kV_l_mixed dc_l_mixed pm_l_mixed an_l_mixed cd_l_mixed ct_l_mixed), sl_l_mixed⟩)
    (c_l_mixed : PySem.W.codeIn K cd_l_mixed "_law_mixed" = true)
    (p_l_mixed : PySem.W.keepIn K (.ref a_l_mixed) = true)
    (n_l_bar_fact : PySem.W.nsIn K mainGlobals "_law_bar_fact" = some (some (.ref a_l_bar_fact)))
    (l_l_bar_fact : K.lookup a_l_bar_fact = some ⟨oc_l_bar_fact, od_l_bar_fact, .func (PySem.W.fnOf "_law_bar_fact" "_law_bar_fact" (defArgs s_l_bar_fact) (defBody s_l_bar_fact) (defScope s_l_bar_fact) .none kV_l_bar_fact dc_l_bar_fact pm_l_bar_fact an_l_bar_fact cd_l_bar_fact ct_l_bar_fact), sl_l_bar_fact⟩)
    (c_l_bar_fact : PySem.W.codeIn K cd_l_bar_fact "_law_bar_fact" = true)
    (p_l_bar_fact : PySem.W.keepIn K (.ref a_l_bar_fact) = true)
    (n_l_height : PySem.W.nsIn K mainGlobals "_law_height" = some (some (.ref a_l_height)))
    (l_l_height : K.lookup a_l_height = some ⟨oc_l_height, od_l_height, .func (PySem.W.fnOf "_law_height" "_law_height" (defArgs s_l_height) (defBody s_l_height) (defScope s_l_height) .none kV_l_height dc_l_height pm_l_height an_l_height cd_l_height ct_l_height), sl_l_height⟩)
    (c_l_height : PySem.W.codeIn K cd_l_height "_law_height" = true)
    (p_l_height : PySem.W.keepIn K (.ref a_l_height) = true)
    (n_l_line : PySem.W.nsIn K mainGlobals "_law_line" = some (some (.ref a_l_line)))
    (l_l_line : K.lookup a_l_line = some ⟨oc_l_line, od_l_line, .func (PySem.W.fnOf "_law_line" "_law_line" (defArgs s_l_line) (defBody s_l_line) (defScope s_l_line) .none kV_l_line dc_l_line pm_l_line an_l_line cd_l_line ct_l_line), sl_l_line⟩)
    (c_l_line : PySem.W.codeIn K cd_l_line "_law_line" = true)
    (p_l_line : PySem.W.keepIn K (.ref a_l_line) = true)
    (n_l_web : PySem.W.nsIn K mainGlobals "_law_web" = some (some (.ref a_l_web)))
    (l_l_web : K.lookup a_l_web = some ⟨oc_l_web, od_l_web, .func (PySem.W.fnOf "_law_web" "_law_web" (defArgs s_l_web) (defBody s_l_web) (defScope s_l_web) .none kV_l_web dc_l_web pm_l_web an_l_web cd_l_web ct_l_web), sl_l_web⟩)
    (c_l_web : PySem.W.codeIn K cd_l_web "_law_web" = true)
    (p_l_web : PySem.W.keepIn K (.ref a_l_web) = true)
    (n_l_spots : PySem.W.nsIn K mainGlobals "_law_spots" = some (some (.ref a_l_spots)))
    (l_l_spots : K.lookup a_l_spots = some ⟨oc_l_spots, od_l_spots, .func (PySem.W.fnOf "_law_spots" "_law_spots" (defArgs s_l_spots) (defBody s_l_spots) (defScope s_l_spots) .none kV_l_spots dc_l_spots pm_l_spots an_l_spots cd_l_spots ct_l_spots), sl_l_spots⟩)
    (c_l_spots : PySem.W.codeIn K cd_l_spots "_law_spots" = true)
    (p_l_spots : PySem.W.keepIn K (.ref a_l_spots) = true)
    (n_l_common : PySem.W.nsIn K mainGlobals "_law_common" = some (some (.ref a_l_common)))
    (l_l_common : K.lookup a_l_common = some ⟨oc_l_common, od_l_common, .func (PySem.W.fnOf "_law_common" "_law_common" (defArgs s_l_common) (defBody s_l_common) (defScope s_l_common) .none kV_l_common dc_l_common pm_l_common an_l_common cd_l_common ct_l_common), sl_l_common⟩)
    (c_l_common : PySem.W.codeIn K cd_l_common "_law_common" = true)
    (p_l_common : PySem.W.keepIn K (.ref a_l_common) = true)
    (n_l_low : PySem.W.nsIn K mainGlobals "_law_low" = some (some (.ref a_l_low)))
    (l_l_low : K.lookup a_l_low = some ⟨oc_l_low, od_l_low, .func (PySem.W.fnOf "_law_low" "_law_low" (defArgs s_l_low) (defBody s_l_low) (defScope s_l_low) .none kV_l_low dc_l_low pm_l_low an_l_low cd_l_low ct_l_low), sl_l_low⟩)
    (c_l_low : PySem.W.codeIn K cd_l_low "_law_low" = true)
    (p_l_low : PySem.W.keepIn K (.ref a_l_low) = true)
    (n_law : PySem.W.nsIn K mainGlobals "law" = some (some (.ref a_law)))
    (l_law : K.lookup a_law = some ⟨oc_law, od_law, .func (PySem.W.fnOf "law" "law" (defArgs s_law) (defBody s_law) (defScope s_law) .none kV_law dc_law pm_law an_law cd_law ct_law), sl_law⟩)
    (c_law : PySem.W.codeIn K cd_law "law" = true)
    (p_law : PySem.W.keepIn K (.ref a_law) = true)
    (n_Bar : PySem.W.nsIn K mainGlobals "Bar" = some (some (.ref C_Bar)))
    (pg_Bar : PySem.W.plainGet K C_Bar Str.empty = true)
    (hd_Bar : PySem.W.hasDictIn K C_Bar = true)
    (po_Bar : PySem.W.plainOver K C_Bar = true)
    (sa_Bar : PySem.W.findIn K (.ref C_Bar) "__setattr__" = some (some (.builtin "object.__setattr__")))
    (mk_Bar : PySem.W.makesIn K C_Bar = true)
    (kc_Bar : PySem.W.keepIn K (.ref C_Bar) = true)
    (nf_Bar_a : PySem.W.findIn K (.ref C_Bar) "a" = some none)
    (nf_Bar_b : PySem.W.findIn K (.ref C_Bar) "b" = some none)
    (nf_Bar_c : PySem.W.findIn K (.ref C_Bar) "c" = some none)
    (nf_Bar_length : PySem.W.findIn K (.ref C_Bar) "length" = some none)
    (nf_Bar_least : PySem.W.findIn K (.ref C_Bar) "least" = some none)
    (nf_Bar_greatest : PySem.W.findIn K (.ref C_Bar) "greatest" = some none)
    (n_Bar_init : PySem.W.findIn K (.ref C_Bar) "__init__" = some (some (.ref a_Bar_init)))
    (i_Bar_init : PySem.W.isFn K (.ref a_Bar_init) = true)
    (l_Bar_init : K.lookup a_Bar_init = some ⟨oc_Bar_init, od_Bar_init, .func (PySem.W.fnOf "__init__" "Bar.__init__" (defArgs s_Bar_init) (defBody s_Bar_init) (defScope s_Bar_init) .none kV_Bar_init dc_Bar_init pm_Bar_init an_Bar_init cd_Bar_init ct_Bar_init), sl_Bar_init⟩)
    (c_Bar_init : PySem.W.codeIn K cd_Bar_init "Bar.__init__" = true)
    (p_Bar_init : PySem.W.keepIn K (.ref a_Bar_init) = true)
    (n_Bar_eq : PySem.W.findIn K (.ref C_Bar) "__eq__" = some (some (.ref a_Bar_eq)))
    (i_Bar_eq : PySem.W.isFn K (.ref a_Bar_eq) = true)
    (l_Bar_eq : K.lookup a_Bar_eq = some ⟨oc_Bar_eq, od_Bar_eq, .func (PySem.W.fnOf "__eq__" "Bar.__eq__" (defArgs s_Bar_eq) (defBody s_Bar_eq) (defScope s_Bar_eq) .none kV_Bar_eq dc_Bar_eq pm_Bar_eq an_Bar_eq cd_Bar_eq ct_Bar_eq), sl_Bar_eq⟩)
    (c_Bar_eq : PySem.W.codeIn K cd_Bar_eq "Bar.__eq__" = true)
    (p_Bar_eq : PySem.W.keepIn K (.ref a_Bar_eq) = true)
    (ea_NoneType_Bar : PySem.W.notFirst K C_Bar (.type "NoneType") = true)
    (eb_NoneType_Bar : PySem.W.subIn K (.ref C_Bar) (.type "NoneType") = some false)
    (ea_bool_Bar : PySem.W.notFirst K C_Bar (.type "bool") = true)
    (eb_bool_Bar : PySem.W.subIn K (.ref C_Bar) (.type "bool") = some false)
    (ea_int_Bar : PySem.W.notFirst K C_Bar (.type "int") = true)
    (eb_int_Bar : PySem.W.subIn K (.ref C_Bar) (.type "int") = some false)
    (ea_str_Bar : PySem.W.notFirst K C_Bar (.type "str") = true)
    (eb_str_Bar : PySem.W.subIn K (.ref C_Bar) (.type "str") = some false)
    (ea_list_Bar : PySem.W.notFirst K C_Bar (.type "list") = true)
    (eb_list_Bar : PySem.W.subIn K (.ref C_Bar) (.type "list") = some false)
    (ea_tuple_Bar : PySem.W.notFirst K C_Bar (.type "tuple") = true)
    (eb_tuple_Bar : PySem.W.subIn K (.ref C_Bar) (.type "tuple") = some false)
    (ea_dict_Bar : PySem.W.notFirst K C_Bar (.type "dict") = true)
    (eb_dict_Bar : PySem.W.subIn K (.ref C_Bar) (.type "dict") = some false)
    (na_Bar : PySem.W.findIn K (.ref C_Bar) "__ne__" = some (some (.builtin "object.__ne__")))
    (nb_Bar : PySem.W.mroIn K C_Bar (.type "object") = some true)
    (n_Web : PySem.W.nsIn K mainGlobals "Web" = some (some (.ref C_Web)))
    (pg_Web : PySem.W.plainGet K C_Web Str.empty = true)
    (hd_Web : PySem.W.hasDictIn K C_Web = true)
    (po_Web : PySem.W.plainOver K C_Web = true)
    (sa_Web : PySem.W.findIn K (.ref C_Web) "__setattr__" = some (some (.builtin "object.__setattr__")))
    (mk_Web : PySem.W.makesIn K C_Web = true)
    (kc_Web : PySem.W.keepIn K (.ref C_Web) = true)
    (nf_Web_rods : PySem.W.findIn K (.ref C_Web) "rods" = some none)
    (nf_Web_bars : PySem.W.findIn K (.ref C_Web) "bars" = some none)
    (nf_Web_held : PySem.W.findIn K (.ref C_Web) "_held" = some none)
    (n_Web_init : PySem.W.findIn K (.ref C_Web) "__init__" = some (some (.ref a_Web_init)))
    (i_Web_init : PySem.W.isFn K (.ref a_Web_init) = true)
    (l_Web_init : K.lookup a_Web_init = some ⟨oc_Web_init, od_Web_init, .func (PySem.W.fnOf "__init__" "Web.__init__" (defArgs s_Web_init) (defBody s_Web_init) (defScope s_Web_init) .none kV_Web_init dc_Web_init pm_Web_init an_Web_init cd_Web_init ct_Web_init), sl_Web_init⟩)
    (c_Web_init : PySem.W.codeIn K cd_Web_init "Web.__init__" = true)
    (p_Web_init : PySem.W.keepIn K (.ref a_Web_init) = true)
    (n_Web_held : PySem.W.findIn K (.ref C_Web) "held" = some (some (.ref a_Web_held)))
    (i_Web_held : PySem.W.isFn K (.ref a_Web_held) = true)
    (l_Web_held : K.lookup a_Web_held = some ⟨oc_Web_held, od_Web_held, .func (PySem.W.fnOf "held" "Web.held" (defArgs s_Web_held) (defBody s_Web_held) (defScope s_Web_held) .none kV_Web_held dc_Web_held pm_Web_held an_Web_held cd_Web_held ct_Web_held), sl_Web_held⟩)
    (c_Web_held : PySem.W.codeIn K cd_Web_held "Web.held" = true)
    (p_Web_held : PySem.W.keepIn K (.ref a_Web_held) = true)
    (n_Web_hanging : PySem.W.findIn K (.ref C_Web) "hanging" = some (some (.ref a_Web_hanging)))
    (i_Web_hanging : PySem.W.isFn K (.ref a_Web_hanging) = true)
    (l_Web_hanging : K.lookup a_Web_hanging = some ⟨oc_Web_hanging, od_Web_hanging, .func (PySem.W.fnOf "hanging" "Web.hanging" (defArgs s_Web_hanging) (defBody s_Web_hanging) (defScope s_Web_hanging) .none kV_Web_hanging dc_Web_hanging pm_Web_hanging an_Web_hanging cd_Web_hanging ct_Web_hanging), sl_Web_hanging⟩)
    (c_Web_hanging : PySem.W.codeIn K cd_Web_hanging "Web.hanging" = true)
    (p_Web_hanging : PySem.W.keepIn K (.ref a_Web_hanging) = true)
    (n_Web_eq : PySem.W.findIn K (.ref C_Web) "__eq__" = some (some (.ref a_Web_eq)))
    (i_Web_eq : PySem.W.isFn K (.ref a_Web_eq) = true)
    (l_Web_eq : K.lookup a_Web_eq = some ⟨oc_Web_eq, od_Web_eq, .func (PySem.W.fnOf "__eq__" "Web.__eq__" (defArgs s_Web_eq) (defBody s_Web_eq) (defScope s_Web_eq) .none kV_Web_eq dc_Web_eq pm_Web_eq an_Web_eq cd_Web_eq ct_Web_eq), sl_Web_eq⟩)
    (c_Web_eq : PySem.W.codeIn K cd_Web_eq "Web.__eq__" = true)
    (p_Web_eq : PySem.W.keepIn K (.ref a_Web_eq) = true)
    (ea_NoneType_Web : PySem.W.notFirst K C_Web (.type "NoneType") = true)
    (eb_NoneType_Web : PySem.W.subIn K (.ref C_Web) (.type "NoneType") = some false)
    (ea_bool_Web : PySem.W.notFirst K C_Web (.type "bool") = true)
    (eb_bool_Web : PySem.W.subIn K (.ref C_Web) (.type "bool") = some false)
    (ea_int_Web : PySem.W.notFirst K C_Web (.type "int") = true)
    (eb_int_Web : PySem.W.subIn K (.ref C_Web) (.type "int") = some false)
    (ea_str_Web : PySem.W.notFirst K C_Web (.type "str") = true)
    (eb_str_Web : PySem.W.subIn K (.ref C_Web) (.type "str") = some false)
    (ea_list_Web : PySem.W.notFirst K C_Web (.type "list") = true)
    (eb_list_Web : PySem.W.subIn K (.ref C_Web) (.type "list") = some false)
    (ea_tuple_Web : PySem.W.notFirst K C_Web (.type "tuple") = true)
    (eb_tuple_Web : PySem.W.subIn K (.ref C_Web) (.type "tuple") = some false)
    (ea_dict_Web : PySem.W.notFirst K C_Web (.type "dict") = true)
    (eb_dict_Web : PySem.W.subIn K (.ref C_Web) (.type "dict") = some false)
    (na_Web : PySem.W.findIn K (.ref C_Web) "__ne__" = some (some (.builtin "object.__ne__")))
    (nb_Web : PySem.W.mroIn K C_Web (.type "object") = some true)
    (n_Places : PySem.W.nsIn K mainGlobals "Places" = some (some (.ref C_Places)))
    (pg_Places : PySem.W.plainGet K C_Places Str.empty = true)
    (hd_Places : PySem.W.hasDictIn K C_Places = true)
    (po_Places : PySem.W.plainOver K C_Places = true)
    (sa_Places : PySem.W.findIn K (.ref C_Places) "__setattr__" = some (some (.builtin "object.__setattr__")))
    (mk_Places : PySem.W.makesIn K C_Places = true)
    (kc_Places : PySem.W.keepIn K (.ref C_Places) = true)
    (nf_Places_numbers : PySem.W.findIn K (.ref C_Places) "numbers" = some none)
    (nf_Places_parts : PySem.W.findIn K (.ref C_Places) "parts" = some none)
    (n_Places_init : PySem.W.findIn K (.ref C_Places) "__init__" = some (some (.ref a_Places_init)))
    (i_Places_init : PySem.W.isFn K (.ref a_Places_init) = true)
    (l_Places_init : K.lookup a_Places_init = some ⟨oc_Places_init, od_Places_init, .func (PySem.W.fnOf "__init__" "Places.__init__" (defArgs s_Places_init) (defBody s_Places_init) (defScope s_Places_init) .none kV_Places_init dc_Places_init pm_Places_init an_Places_init cd_Places_init ct_Places_init), sl_Places_init⟩)
    (c_Places_init : PySem.W.codeIn K cd_Places_init "Places.__init__" = true)
    (p_Places_init : PySem.W.keepIn K (.ref a_Places_init) = true)
    (n_Stand : PySem.W.nsIn K mainGlobals "Stand" = some (some (.ref C_Stand)))
    (pg_Stand : PySem.W.plainGet K C_Stand Str.empty = true)
    (hd_Stand : PySem.W.hasDictIn K C_Stand = true)
    (po_Stand : PySem.W.plainOver K C_Stand = true)
    (sa_Stand : PySem.W.findIn K (.ref C_Stand) "__setattr__" = some (some (.builtin "object.__setattr__")))
    (mk_Stand : PySem.W.makesIn K C_Stand = true)
    (kc_Stand : PySem.W.keepIn K (.ref C_Stand) = true)
    (nf_Stand_tops : PySem.W.findIn K (.ref C_Stand) "tops" = some none)
    (nf_Stand_bottom : PySem.W.findIn K (.ref C_Stand) "bottom" = some none)
    (n_Stand_init : PySem.W.findIn K (.ref C_Stand) "__init__" = some (some (.ref a_Stand_init)))
    (i_Stand_init : PySem.W.isFn K (.ref a_Stand_init) = true)
    (l_Stand_init : K.lookup a_Stand_init = some ⟨oc_Stand_init, od_Stand_init, .func (PySem.W.fnOf "__init__" "Stand.__init__" (defArgs s_Stand_init) (defBody s_Stand_init) (defScope s_Stand_init) .none kV_Stand_init dc_Stand_init pm_Stand_init an_Stand_init cd_Stand_init ct_Stand_init), sl_Stand_init⟩)
    (c_Stand_init : PySem.W.codeIn K cd_Stand_init "Stand.__init__" = true)
    (p_Stand_init : PySem.W.keepIn K (.ref a_Stand_init) = true)
    (nfst_Bar_Bar : PySem.W.notFirst K C_Bar (.ref C_Bar) = true)
    (nfst_Bar_Web : PySem.W.notFirst K C_Bar (.ref C_Web) = true)
    (dc_Bar_Web : C_Bar ≠ C_Web)
    (nfst_Web_Bar : PySem.W.notFirst K C_Web (.ref C_Bar) = true)
    (nfst_Web_Web : PySem.W.notFirst K C_Web (.ref C_Web) = true)
    (n_HooksError : PySem.W.nsIn K mainGlobals "HooksError" = some (some (.ref C_HooksError)))
    (be_HooksError : PySem.W.subIn K (.ref C_HooksError) (.type "BaseException") = some true)
    (ty_HooksError : PySem.W.typeIn K (.ref C_HooksError) = some (.type "type"))
    (hd_HooksError : PySem.W.hasDictIn K C_HooksError = true)
    (n_BadCount : PySem.W.nsIn K mainGlobals "BadCount" = some (some (.ref C_BadCount)))
    (x_BadCount : K.lookup C_BadCount = some (excClassObj nm_BadCount q_BadCount C_BadCount N_BadCount bs_BadCount [.ref C_HooksError, .type "ValueError", .type "Exception", .type "BaseException", .type "object"] true sn_BadCount sub_BadCount ab_BadCount col_BadCount dd_BadCount u0_BadCount u1_BadCount u2_BadCount u3_BadCount u5_BadCount "ValueError.__new__"))
    (sa_BadCount : PySem.W.findIn K (.ref C_BadCount) "__setattr__" = some (some (.builtin "object.__setattr__")))
    (ga_BadCount : PySem.W.findIn K (.ref C_BadCount) "__getattribute__" = some (some (.builtin "BaseException.__getattribute__")))
    (gg_BadCount : PySem.W.findIn K (.ref C_BadCount) "__getattr__" = some none)
    (kc_BadCount : PySem.W.keepIn K (.ref C_BadCount) = true)
    (be_BadCount : PySem.W.subIn K (.ref C_BadCount) (.type "BaseException") = some true)
    (ty_BadCount : PySem.W.typeIn K (.ref C_BadCount) = some (.type "type"))
    (hd_BadCount : PySem.W.hasDictIn K C_BadCount = true)
    (cl_BadCount : PySem.W.findIn K (.ref C_BadCount) "__class__" = some (some (.builtin "object.__class__")))
    (ob_BadCount : PySem.W.mroIn K C_BadCount (.type "object") = some true)
    (sb_BadCount_HooksError : PySem.W.subIn K (.ref C_BadCount) (.ref C_HooksError) = some true)
    (n_BadCount_init : PySem.W.findIn K (.ref C_BadCount) "__init__" = some (some (.ref a_BadCount_init)))
    (t_BadCount_init : PySem.W.typeIn K (.ref a_BadCount_init) = some (.type "function"))
    (l_BadCount_init : K.lookup a_BadCount_init = some ⟨oc_BadCount_init, od_BadCount_init, .func (PySem.W.fnOf "__init__" "BadCount.__init__" (defArgs s_BadCount_init) (defBody s_BadCount_init) (defScope s_BadCount_init) .none kV_BadCount_init dc_BadCount_init pm_BadCount_init an_BadCount_init cd_BadCount_init ct_BadCount_init), sl_BadCount_init⟩)
    (c_BadCount_init : PySem.W.codeIn K cd_BadCount_init "BadCount.__init__" = true)
    (p_BadCount_init : PySem.W.keepIn K (.ref a_BadCount_init) = true)
    (nf_BadCount_what : PySem.W.findIn K (.ref C_BadCount) "what" = some none)
    (nf_BadCount_count : PySem.W.findIn K (.ref C_BadCount) "count" = some none)
    (n_NoRod : PySem.W.nsIn K mainGlobals "NoRod" = some (some (.ref C_NoRod)))
    (x_NoRod : K.lookup C_NoRod = some (excClassObj nm_NoRod q_NoRod C_NoRod N_NoRod bs_NoRod [.ref C_HooksError, .type "ValueError", .type "Exception", .type "BaseException", .type "object"] true sn_NoRod sub_NoRod ab_NoRod col_NoRod dd_NoRod u0_NoRod u1_NoRod u2_NoRod u3_NoRod u5_NoRod "ValueError.__new__"))
    (sa_NoRod : PySem.W.findIn K (.ref C_NoRod) "__setattr__" = some (some (.builtin "object.__setattr__")))
    (ga_NoRod : PySem.W.findIn K (.ref C_NoRod) "__getattribute__" = some (some (.builtin "BaseException.__getattribute__")))
    (gg_NoRod : PySem.W.findIn K (.ref C_NoRod) "__getattr__" = some none)
    (kc_NoRod : PySem.W.keepIn K (.ref C_NoRod) = true)
    (be_NoRod : PySem.W.subIn K (.ref C_NoRod) (.type "BaseException") = some true)
    (ty_NoRod : PySem.W.typeIn K (.ref C_NoRod) = some (.type "type"))
    (hd_NoRod : PySem.W.hasDictIn K C_NoRod = true)
    (cl_NoRod : PySem.W.findIn K (.ref C_NoRod) "__class__" = some (some (.builtin "object.__class__")))
    (ob_NoRod : PySem.W.mroIn K C_NoRod (.type "object") = some true)
    (sb_NoRod_HooksError : PySem.W.subIn K (.ref C_NoRod) (.ref C_HooksError) = some true)
    (n_NoRod_init : PySem.W.findIn K (.ref C_NoRod) "__init__" = some (some (.ref a_NoRod_init)))
    (t_NoRod_init : PySem.W.typeIn K (.ref a_NoRod_init) = some (.type "function"))
    (l_NoRod_init : K.lookup a_NoRod_init = some ⟨oc_NoRod_init, od_NoRod_init, .func (PySem.W.fnOf "__init__" "NoRod.__init__" (defArgs s_NoRod_init) (defBody s_NoRod_init) (defScope s_NoRod_init) .none kV_NoRod_init dc_NoRod_init pm_NoRod_init an_NoRod_init cd_NoRod_init ct_NoRod_init), sl_NoRod_init⟩)
    (c_NoRod_init : PySem.W.codeIn K cd_NoRod_init "NoRod.__init__" = true)
    (p_NoRod_init : PySem.W.keepIn K (.ref a_NoRod_init) = true)
    (nf_NoRod_rod : PySem.W.findIn K (.ref C_NoRod) "rod" = some none)
    (n_SameRod : PySem.W.nsIn K mainGlobals "SameRod" = some (some (.ref C_SameRod)))
    (x_SameRod : K.lookup C_SameRod = some (excClassObj nm_SameRod q_SameRod C_SameRod N_SameRod bs_SameRod [.ref C_HooksError, .type "ValueError", .type "Exception", .type "BaseException", .type "object"] true sn_SameRod sub_SameRod ab_SameRod col_SameRod dd_SameRod u0_SameRod u1_SameRod u2_SameRod u3_SameRod u5_SameRod "ValueError.__new__"))
    (sa_SameRod : PySem.W.findIn K (.ref C_SameRod) "__setattr__" = some (some (.builtin "object.__setattr__")))
    (ga_SameRod : PySem.W.findIn K (.ref C_SameRod) "__getattribute__" = some (some (.builtin "BaseException.__getattribute__")))
    (gg_SameRod : PySem.W.findIn K (.ref C_SameRod) "__getattr__" = some none)
    (kc_SameRod : PySem.W.keepIn K (.ref C_SameRod) = true)
    (be_SameRod : PySem.W.subIn K (.ref C_SameRod) (.type "BaseException") = some true)
    (ty_SameRod : PySem.W.typeIn K (.ref C_SameRod) = some (.type "type"))
    (hd_SameRod : PySem.W.hasDictIn K C_SameRod = true)
    (cl_SameRod : PySem.W.findIn K (.ref C_SameRod) "__class__" = some (some (.builtin "object.__class__")))
    (ob_SameRod : PySem.W.mroIn K C_SameRod (.type "object") = some true)
    (sb_SameRod_HooksError : PySem.W.subIn K (.ref C_SameRod) (.ref C_HooksError) = some true)
    (n_SameRod_init : PySem.W.findIn K (.ref C_SameRod) "__init__" = some (some (.ref a_SameRod_init)))
    (t_SameRod_init : PySem.W.typeIn K (.ref a_SameRod_init) = some (.type "function"))
    (l_SameRod_init : K.lookup a_SameRod_init = some ⟨oc_SameRod_init, od_SameRod_init, .func (PySem.W.fnOf "__init__" "SameRod.__init__" (defArgs s_SameRod_init) (defBody s_SameRod_init) (defScope s_SameRod_init) .none kV_SameRod_init dc_SameRod_init pm_SameRod_init an_SameRod_init cd_SameRod_init ct_SameRod_init), sl_SameRod_init⟩)
    (c_SameRod_init : PySem.W.codeIn K cd_SameRod_init "SameRod.__init__" = true)
    (p_SameRod_init : PySem.W.keepIn K (.ref a_SameRod_init) = true)
    (nf_SameRod_rod : PySem.W.findIn K (.ref C_SameRod) "rod" = some none)
    (n_BadSpan : PySem.W.nsIn K mainGlobals "BadSpan" = some (some (.ref C_BadSpan)))
    (x_BadSpan : K.lookup C_BadSpan = some (excClassObj nm_BadSpan q_BadSpan C_BadSpan N_BadSpan bs_BadSpan [.ref C_HooksError, .type "ValueError", .type "Exception", .type "BaseException", .type "object"] true sn_BadSpan sub_BadSpan ab_BadSpan col_BadSpan dd_BadSpan u0_BadSpan u1_BadSpan u2_BadSpan u3_BadSpan u5_BadSpan "ValueError.__new__"))
    (sa_BadSpan : PySem.W.findIn K (.ref C_BadSpan) "__setattr__" = some (some (.builtin "object.__setattr__")))
    (ga_BadSpan : PySem.W.findIn K (.ref C_BadSpan) "__getattribute__" = some (some (.builtin "BaseException.__getattribute__")))
    (gg_BadSpan : PySem.W.findIn K (.ref C_BadSpan) "__getattr__" = some none)
    (kc_BadSpan : PySem.W.keepIn K (.ref C_BadSpan) = true)
    (be_BadSpan : PySem.W.subIn K (.ref C_BadSpan) (.type "BaseException") = some true)
    (ty_BadSpan : PySem.W.typeIn K (.ref C_BadSpan) = some (.type "type"))
    (hd_BadSpan : PySem.W.hasDictIn K C_BadSpan = true)
    (cl_BadSpan : PySem.W.findIn K (.ref C_BadSpan) "__class__" = some (some (.builtin "object.__class__")))
    (ob_BadSpan : PySem.W.mroIn K C_BadSpan (.type "object") = some true)
    (sb_BadSpan_HooksError : PySem.W.subIn K (.ref C_BadSpan) (.ref C_HooksError) = some true)
    (n_BadSpan_init : PySem.W.findIn K (.ref C_BadSpan) "__init__" = some (some (.ref a_BadSpan_init)))
    (t_BadSpan_init : PySem.W.typeIn K (.ref a_BadSpan_init) = some (.type "function"))
    (l_BadSpan_init : K.lookup a_BadSpan_init = some ⟨oc_BadSpan_init, od_BadSpan_init, .func (PySem.W.fnOf "__init__" "BadSpan.__init__" (defArgs s_BadSpan_init) (defBody s_BadSpan_init) (defScope s_BadSpan_init) .none kV_BadSpan_init dc_BadSpan_init pm_BadSpan_init an_BadSpan_init cd_BadSpan_init ct_BadSpan_init), sl_BadSpan_init⟩)
    (c_BadSpan_init : PySem.W.codeIn K cd_BadSpan_init "BadSpan.__init__" = true)
    (p_BadSpan_init : PySem.W.keepIn K (.ref a_BadSpan_init) = true)
    (nf_BadSpan_bar : PySem.W.findIn K (.ref C_BadSpan) "bar" = some none)
    (n_NotSquare : PySem.W.nsIn K mainGlobals "NotSquare" = some (some (.ref C_NotSquare)))
    (x_NotSquare : K.lookup C_NotSquare = some (excClassObj nm_NotSquare q_NotSquare C_NotSquare N_NotSquare bs_NotSquare [.ref C_HooksError, .type "ValueError", .type "Exception", .type "BaseException", .type "object"] true sn_NotSquare sub_NotSquare ab_NotSquare col_NotSquare dd_NotSquare u0_NotSquare u1_NotSquare u2_NotSquare u3_NotSquare u5_NotSquare "ValueError.__new__"))
    (sa_NotSquare : PySem.W.findIn K (.ref C_NotSquare) "__setattr__" = some (some (.builtin "object.__setattr__")))
    (ga_NotSquare : PySem.W.findIn K (.ref C_NotSquare) "__getattribute__" = some (some (.builtin "BaseException.__getattribute__")))
    (gg_NotSquare : PySem.W.findIn K (.ref C_NotSquare) "__getattr__" = some none)
    (kc_NotSquare : PySem.W.keepIn K (.ref C_NotSquare) = true)
    (be_NotSquare : PySem.W.subIn K (.ref C_NotSquare) (.type "BaseException") = some true)
    (ty_NotSquare : PySem.W.typeIn K (.ref C_NotSquare) = some (.type "type"))
    (hd_NotSquare : PySem.W.hasDictIn K C_NotSquare = true)
    (cl_NotSquare : PySem.W.findIn K (.ref C_NotSquare) "__class__" = some (some (.builtin "object.__class__")))
    (ob_NotSquare : PySem.W.mroIn K C_NotSquare (.type "object") = some true)
    (sb_NotSquare_HooksError : PySem.W.subIn K (.ref C_NotSquare) (.ref C_HooksError) = some true)
    (n_NotSquare_init : PySem.W.findIn K (.ref C_NotSquare) "__init__" = some (some (.ref a_NotSquare_init)))
    (t_NotSquare_init : PySem.W.typeIn K (.ref a_NotSquare_init) = some (.type "function"))
    (l_NotSquare_init : K.lookup a_NotSquare_init = some ⟨oc_NotSquare_init, od_NotSquare_init, .func (PySem.W.fnOf "__init__" "NotSquare.__init__" (defArgs s_NotSquare_init) (defBody s_NotSquare_init) (defScope s_NotSquare_init) .none kV_NotSquare_init dc_NotSquare_init pm_NotSquare_init an_NotSquare_init cd_NotSquare_init ct_NotSquare_init), sl_NotSquare_init⟩)
    (c_NotSquare_init : PySem.W.codeIn K cd_NotSquare_init "NotSquare.__init__" = true)
    (p_NotSquare_init : PySem.W.keepIn K (.ref a_NotSquare_init) = true)
    (nf_NotSquare_bars : PySem.W.findIn K (.ref C_NotSquare) "bars" = some none)
    (nf_NotSquare_wanted : PySem.W.findIn K (.ref C_NotSquare) "wanted" = some none)
    (z_abs : PySem.W.nsIn K mainGlobals "abs" = some none)
    (z_len : PySem.W.nsIn K mainGlobals "len" = some none)
    (z_range : PySem.W.nsIn K mainGlobals "range" = some none)
    (z_tuple : PySem.W.nsIn K mainGlobals "tuple" = some none)
    (z_list : PySem.W.nsIn K mainGlobals "list" = some none)
    (z_dict : PySem.W.nsIn K mainGlobals "dict" = some none)
    (z_sorted : PySem.W.nsIn K mainGlobals "sorted" = some none)
    (z_enumerate : PySem.W.nsIn K mainGlobals "enumerate" = some none)
    (z_zip : PySem.W.nsIn K mainGlobals "zip" = some none)
    (z_min : PySem.W.nsIn K mainGlobals "min" = some none)
    (z_max : PySem.W.nsIn K mainGlobals "max" = some none)
    (z_int : PySem.W.nsIn K mainGlobals "int" = some none)
    (z_isinstance : PySem.W.nsIn K mainGlobals "isinstance" = some none)
    (z_type : PySem.W.nsIn K mainGlobals "type" = some none)
    (z_sum : PySem.W.nsIn K mainGlobals "sum" = some none)
    (v_gcd : PySem.W.nsIn K mainGlobals "gcd" = some (some (.builtin "math.gcd")))
    (v_LEAST_RODS : PySem.W.nsIn K mainGlobals "LEAST_RODS" = some (some (.int 3 t_LEAST_RODS)))
    (v_MOST_RODS : PySem.W.nsIn K mainGlobals "MOST_RODS" = some (some (.int 10 t_MOST_RODS)))
    (v_MOST_BARS : PySem.W.nsIn K mainGlobals "MOST_BARS" = some (some (.int 8 t_MOST_BARS)))
    (v_MOST_HEIGHT : PySem.W.nsIn K mainGlobals "MOST_HEIGHT" = some (some (.int 1000000 t_MOST_HEIGHT)))
    (v_MOST_LENGTH : PySem.W.nsIn K mainGlobals "MOST_LENGTH" = some (some (.int 1000000 t_MOST_LENGTH)))
    : Tx K mg := {
  a_divisor := a_divisor,
  fd_divisor := _,
  F_divisor := fun_mk (st := s_divisor) l_divisor c_divisor p_divisor,
  b_divisor := (fun_mk (st := s_divisor) l_divisor c_divisor p_divisor).binds (ps := ["numbers"]) fun _ _ _ _ _ _ us hl => match us, hl with | [_], _ => rfl,
  m_divisor := PySem.W.mg_of X G n_divisor,
  a_lowest := a_lowest,
  fd_lowest := _,
  F_lowest := fun_mk (st := s_lowest) l_lowest c_lowest p_lowest,
  b_lowest := (fun_mk (st := s_lowest) l_lowest c_lowest p_lowest).binds (ps := ["tops", "bottom"]) fun _ _ _ _ _ _ us hl => match us, hl with | [_, _], _ => rfl,
  m_lowest := PySem.W.mg_of X G n_lowest,
  a_fraction := a_fraction,
  fd_fraction := _,
  F_fraction := fun_mk (st := s_fraction) l_fraction c_fraction p_fraction,
  b_fraction := (fun_mk (st := s_fraction) l_fraction c_fraction p_fraction).binds (ps := ["top", "bottom"]) fun _ _ _ _ _ _ us hl => match us, hl with | [_, _], _ => rfl,
  m_fraction := PySem.W.mg_of X G n_fraction,
  a_led := a_led,
  fd_led := _,
  F_led := fun_mk (st := s_led) l_led c_led p_led,
  m_led := PySem.W.mg_of X G n_led,
  a_check_heights := a_check_heights,
  fd_check_heights := _,
  F_check_heights := fun_mk (st := s_check_heights) l_check_heights c_check_heights p_check_heights,
  b_check_heights := (fun_mk (st := s_check_heights) l_check_heights c_check_heights p_check_heights).binds (ps := ["web", "heights", "parts"]) fun _ _ _ _ _ _ us hl => match us, hl with | [_, _, _], _ => rfl,
  m_check_heights := PySem.W.mg_of X G n_check_heights,
  a_led_bar := a_led_bar,
  fd_led_bar := _,
  F_led_bar := fun_mk (st := s_led_bar) l_led_bar c_led_bar p_led_bar,
  b_led_bar := (fun_mk (st := s_led_bar) l_led_bar c_led_bar p_led_bar).binds (ps := ["bar", "heights"]) fun _ _ _ _ _ _ us hl => match us, hl with | [_, _], _ => rfl,
  m_led_bar := PySem.W.mg_of X G n_led_bar,
  a_check_places := a_check_places,
  fd_check_places := _,
  F_check_places := fun_mk (st := s_check_places) l_check_places c_check_places p_check_places,
  b_check_places := (fun_mk (st := s_check_places) l_check_places c_check_places p_check_places).binds (ps := ["web", "places"]) fun _ _ _ _ _ _ us hl => match us, hl with | [_, _], _ => rfl,
  m_check_places := PySem.W.mg_of X G n_check_places,
  a_bar_rows := a_bar_rows,
  fd_bar_rows := _,
  F_bar_rows := fun_mk (st := s_bar_rows) l_bar_rows c_bar_rows p_bar_rows,
  b_bar_rows := (fun_mk (st := s_bar_rows) l_bar_rows c_bar_rows p_bar_rows).binds (ps := ["web", "numbers", "parts"]) fun _ _ _ _ _ _ us hl => match us, hl with | [_, _, _], _ => rfl,
  m_bar_rows := PySem.W.mg_of X G n_bar_rows,
  a_heights_at := a_heights_at,
  fd_heights_at := _,
  F_heights_at := fun_mk (st := s_heights_at) l_heights_at c_heights_at p_heights_at,
  b_heights_at := (fun_mk (st := s_heights_at) l_heights_at c_heights_at p_heights_at).binds (ps := ["web", "numbers", "parts"]) fun _ _ _ _ _ _ us hl => match us, hl with | [_, _, _], _ => rfl,
  m_heights_at := PySem.W.mg_of X G n_heights_at,
  a_table := a_table,
  fd_table := _,
  F_table := fun_mk (st := s_table) l_table c_table p_table,
  b_table := (fun_mk (st := s_table) l_table c_table p_table).binds (ps := ["web", "numbers", "parts"]) fun _ _ _ _ _ _ us hl => match us, hl with | [_, _, _], _ => rfl,
  m_table := PySem.W.mg_of X G n_table,
  a_asked := a_asked,
  fd_asked := _,
  F_asked := fun_mk (st := s_asked) l_asked c_asked p_asked,
  b_asked := (fun_mk (st := s_asked) l_asked c_asked p_asked).binds (ps := ["web", "numbers", "parts"]) fun _ _ _ _ _ _ us hl => match us, hl with | [_, _, _], _ => rfl,
  m_asked := PySem.W.mg_of X G n_asked,
  a_cleared := a_cleared,
  fd_cleared := _,
  F_cleared := fun_mk (st := s_cleared) l_cleared c_cleared p_cleared,
  b_cleared := (fun_mk (st := s_cleared) l_cleared c_cleared p_cleared).binds (ps := ["rows", "width"]) fun _ _ _ _ _ _ us hl => match us, hl with | [_, _], _ => rfl,
  m_cleared := PySem.W.mg_of X G n_cleared,
  a_swapped := a_swapped,
  fd_swapped := _,
  F_swapped := fun_mk (st := s_swapped) l_swapped c_swapped p_swapped,
  b_swapped := (fun_mk (st := s_swapped) l_swapped c_swapped p_swapped).binds (ps := ["rows", "at", "other"]) fun _ _ _ _ _ _ us hl => match us, hl with | [_, _, _], _ => rfl,
  m_swapped := PySem.W.mg_of X G n_swapped,
  a_cleared_of := a_cleared_of,
  fd_cleared_of := _,
  F_cleared_of := fun_mk (st := s_cleared_of) l_cleared_of c_cleared_of p_cleared_of,
  b_cleared_of := (fun_mk (st := s_cleared_of) l_cleared_of c_cleared_of p_cleared_of).binds (ps := ["rows", "at", "column", "shared"]) fun _ _ _ _ _ _ us hl => match us, hl with | [_, _, _, _], _ => rfl,
  m_cleared_of := PySem.W.mg_of X G n_cleared_of,
  a_stand := a_stand,
  fd_stand := _,
  F_stand := fun_mk (st := s_stand) l_stand c_stand p_stand,
  b_stand := (fun_mk (st := s_stand) l_stand c_stand p_stand).binds (ps := ["web", "places"]) fun _ _ _ _ _ _ us hl => match us, hl with | [_, _], _ => rfl,
  m_stand := PySem.W.mg_of X G n_stand,
  a_check_rods := a_check_rods,
  fd_check_rods := _,
  F_check_rods := fun_mk (st := s_check_rods) l_check_rods c_check_rods p_check_rods,
  b_check_rods := (fun_mk (st := s_check_rods) l_check_rods c_check_rods p_check_rods).binds (ps := ["rods", "held"]) fun _ _ _ _ _ _ us hl => match us, hl with | [_, _], _ => rfl,
  m_check_rods := PySem.W.mg_of X G n_check_rods,
  a_check_bars := a_check_bars,
  fd_check_bars := _,
  F_check_bars := fun_mk (st := s_check_bars) l_check_bars c_check_bars p_check_bars,
  b_check_bars := (fun_mk (st := s_check_bars) l_check_bars c_check_bars p_check_bars).binds (ps := ["rods", "held", "bars"]) fun _ _ _ _ _ _ us hl => match us, hl with | [_, _, _], _ => rfl,
  m_check_bars := PySem.W.mg_of X G n_check_bars,
  a_check_bar := a_check_bar,
  fd_check_bar := _,
  F_check_bar := fun_mk (st := s_check_bar) l_check_bar c_check_bar p_check_bar,
  b_check_bar := (fun_mk (st := s_check_bar) l_check_bar c_check_bar p_check_bar).binds (ps := ["rods", "number", "bar"]) fun _ _ _ _ _ _ us hl => match us, hl with | [_, _, _], _ => rfl,
  m_check_bar := PySem.W.mg_of X G n_check_bar,
  a_l_well := a_l_well,
  fd_l_well := _,
  F_l_well := fun_mk (st := s_l_well) l_l_well c_l_well p_l_well,
  b_l_well := (fun_mk (st := s_l_well) l_l_well c_l_well p_l_well).binds (ps := ["_law_cell"]) fun _ _ _ _ _ _ us hl => match us, hl with | [_], _ => rfl,
  m_l_well := PySem.W.mg_of X G n_l_well,
  a_l_draw := a_l_draw,
  fd_l_draw := _,
  F_l_draw := fun_mk (st := s_l_draw) l_l_draw c_l_draw p_l_draw,
  b_l_draw := (fun_mk (st := s_l_draw) l_l_draw c_l_draw p_l_draw).binds (ps := ["_law_well_here", "_law_many"]) fun _ _ _ _ _ _ us hl => match us, hl with | [_, _], _ => rfl,
  m_l_draw := PySem.W.mg_of X G n_l_draw,
  a_l_one := a_l_one,
  fd_l_one := _,
  F_l_one := fun_mk (st := s_l_one) l_l_one c_l_one p_l_one,
  b_l_one := (fun_mk (st := s_l_one) l_l_one c_l_one p_l_one).binds (ps := ["_law_well_here", "_law_some"]) fun _ _ _ _ _ _ us hl => match us, hl with | [_, _], _ => rfl,
  m_l_one := PySem.W.mg_of X G n_l_one,
  a_l_mixed := a_l_mixed,
  fd_l_mixed := _,
  F_l_mixed := fun_mk (st := s_l_mixed) l_l_mixed c_l_mixed p_l_mixed,
  b_l_mixed := (fun_mk (st := s_l_mixed) l_l_mixed c_l_mixed p_l_mixed).binds (ps := ["_law_well_here", "_law_some"]) fun _ _ _ _ _ _ us hl => match us, hl with | [_, _], _ => rfl,
  m_l_mixed := PySem.W.mg_of X G n_l_mixed,
  a_l_bar_fact := a_l_bar_fact,
  fd_l_bar_fact := _,
  F_l_bar_fact := fun_mk (st := s_l_bar_fact) l_l_bar_fact c_l_bar_fact p_l_bar_fact,
  b_l_bar_fact := (fun_mk (st := s_l_bar_fact) l_l_bar_fact c_l_bar_fact p_l_bar_fact).binds (ps := ["_law_well_here", "_law_rods_so"]) fun _ _ _ _ _ _ us hl => match us, hl with | [_, _], _ => rfl,
  m_l_bar_fact := PySem.W.mg_of X G n_l_bar_fact,
  a_l_height := a_l_height,
  fd_l_height := _,
  F_l_height := fun_mk (st := s_l_height) l_l_height c_l_height p_l_height,
  b_l_height := (fun_mk (st := s_l_height) l_l_height c_l_height p_l_height).binds (ps := ["_law_well_here"]) fun _ _ _ _ _ _ us hl => match us, hl with | [_], _ => rfl,
  m_l_height := PySem.W.mg_of X G n_l_height,
  a_l_line := a_l_line,
  fd_l_line := _,
  F_l_line := fun_mk (st := s_l_line) l_l_line c_l_line p_l_line,
  b_l_line := (fun_mk (st := s_l_line) l_l_line c_l_line p_l_line).binds (ps := ["_law_well_here", "_law_most"]) fun _ _ _ _ _ _ us hl => match us, hl with | [_, _], _ => rfl,
  m_l_line := PySem.W.mg_of X G n_l_line,
  a_l_web := a_l_web,
  fd_l_web := _,
  F_l_web := fun_mk (st := s_l_web) l_l_web c_l_web p_l_web,
  b_l_web := (fun_mk (st := s_l_web) l_l_web c_l_web p_l_web).binds (ps := ["_law_m"]) fun _ _ _ _ _ _ us hl => match us, hl with | [_], _ => rfl,
  m_l_web := PySem.W.mg_of X G n_l_web,
  a_l_spots := a_l_spots,
  fd_l_spots := _,
  F_l_spots := fun_mk (st := s_l_spots) l_l_spots c_l_spots p_l_spots,
  b_l_spots := (fun_mk (st := s_l_spots) l_l_spots c_l_spots p_l_spots).binds (ps := ["_law_well_here", "_law_m"]) fun _ _ _ _ _ _ us hl => match us, hl with | [_, _], _ => rfl,
  m_l_spots := PySem.W.mg_of X G n_l_spots,
  a_l_common := a_l_common,
  fd_l_common := _,
  F_l_common := fun_mk (st := s_l_common) l_l_common c_l_common p_l_common,
  b_l_common := (fun_mk (st := s_l_common) l_l_common c_l_common p_l_common).binds (ps := ["_law_numbers_so"]) fun _ _ _ _ _ _ us hl => match us, hl with | [_], _ => rfl,
  m_l_common := PySem.W.mg_of X G n_l_common,
  a_l_low := a_l_low,
  fd_l_low := _,
  F_l_low := fun_mk (st := s_l_low) l_l_low c_l_low p_l_low,
  b_l_low := (fun_mk (st := s_l_low) l_l_low c_l_low p_l_low).binds (ps := ["_law_top", "_law_bottom"]) fun _ _ _ _ _ _ us hl => match us, hl with | [_, _], _ => rfl,
  m_l_low := PySem.W.mg_of X G n_l_low,
  a_law := a_law,
  fd_law := _,
  F_law := fun_mk (st := s_law) l_law c_law p_law,
  b_law := (fun_mk (st := s_law) l_law c_law p_law).binds (ps := ["_law_script"]) fun _ _ _ _ _ _ us hl => match us, hl with | [_], _ => rfl,
  m_law := PySem.W.mg_of X G n_law,
  C_Bar := C_Bar,
  m_Bar := PySem.W.mg_of X G n_Bar,
  c_Bar := ⟨pg_Bar, hd_Bar, po_Bar, sa_Bar⟩,
  mk_Bar := mk_Bar,
  nf_Bar_a := nf_Bar_a,
  nf_Bar_b := nf_Bar_b,
  nf_Bar_c := nf_Bar_c,
  nf_Bar_length := nf_Bar_length,
  nf_Bar_least := nf_Bar_least,
  nf_Bar_greatest := nf_Bar_greatest,
  a_Bar_init := a_Bar_init,
  fd_Bar_init := _,
  F_Bar_init := fun_mk (st := s_Bar_init) l_Bar_init c_Bar_init p_Bar_init,
  b_Bar_init := (fun_mk (st := s_Bar_init) l_Bar_init c_Bar_init p_Bar_init).binds (ps := ["self", "a", "b", "c", "length", "least", "greatest"]) fun _ _ _ _ _ _ us hl => match us, hl with | [_, _, _, _, _, _, _], _ => rfl,
  k_Bar := ⟨mk_Bar, n_Bar_init, i_Bar_init, kc_Bar⟩,
  a_Bar_eq := a_Bar_eq,
  fd_Bar_eq := _,
  F_Bar_eq := fun_mk (st := s_Bar_eq) l_Bar_eq c_Bar_eq p_Bar_eq,
  b_Bar_eq := (fun_mk (st := s_Bar_eq) l_Bar_eq c_Bar_eq p_Bar_eq).binds (ps := ["self", "other"]) fun _ _ _ _ _ _ us hl => match us, hl with | [_, _], _ => rfl,
  M_Bar_eq := ⟨n_Bar_eq, i_Bar_eq, p_Bar_eq⟩,
  ef_Bar := eqFacts_mk ea_NoneType_Bar eb_NoneType_Bar ea_bool_Bar eb_bool_Bar ea_int_Bar eb_int_Bar ea_str_Bar eb_str_Bar ea_list_Bar eb_list_Bar ea_tuple_Bar eb_tuple_Bar ea_dict_Bar eb_dict_Bar,
  ne_Bar := ⟨na_Bar, nb_Bar⟩,
  C_Web := C_Web,
  m_Web := PySem.W.mg_of X G n_Web,
  c_Web := ⟨pg_Web, hd_Web, po_Web, sa_Web⟩,
  mk_Web := mk_Web,
  nf_Web_rods := nf_Web_rods,
  nf_Web_bars := nf_Web_bars,
  nf_Web_held := nf_Web_held,
  a_Web_init := a_Web_init,
  fd_Web_init := _,
  F_Web_init := fun_mk (st := s_Web_init) l_Web_init c_Web_init p_Web_init,
  b_Web_init := (fun_mk (st := s_Web_init) l_Web_init c_Web_init p_Web_init).binds (ps := ["self", "rods", "held", "bars"]) fun _ _ _ _ _ _ us hl => match us, hl with | [_, _, _, _], _ => rfl,
  k_Web := ⟨mk_Web, n_Web_init, i_Web_init, kc_Web⟩,
  a_Web_held := a_Web_held,
  fd_Web_held := _,
  F_Web_held := fun_mk (st := s_Web_held) l_Web_held c_Web_held p_Web_held,
  b_Web_held := (fun_mk (st := s_Web_held) l_Web_held c_Web_held p_Web_held).binds (ps := ["self"]) fun _ _ _ _ _ _ us hl => match us, hl with | [_], _ => rfl,
  M_Web_held := ⟨n_Web_held, i_Web_held, p_Web_held⟩,
  a_Web_hanging := a_Web_hanging,
  fd_Web_hanging := _,
  F_Web_hanging := fun_mk (st := s_Web_hanging) l_Web_hanging c_Web_hanging p_Web_hanging,
  b_Web_hanging := (fun_mk (st := s_Web_hanging) l_Web_hanging c_Web_hanging p_Web_hanging).binds (ps := ["self"]) fun _ _ _ _ _ _ us hl => match us, hl with | [_], _ => rfl,
  M_Web_hanging := ⟨n_Web_hanging, i_Web_hanging, p_Web_hanging⟩,
  a_Web_eq := a_Web_eq,
  fd_Web_eq := _,
  F_Web_eq := fun_mk (st := s_Web_eq) l_Web_eq c_Web_eq p_Web_eq,
  b_Web_eq := (fun_mk (st := s_Web_eq) l_Web_eq c_Web_eq p_Web_eq).binds (ps := ["self", "other"]) fun _ _ _ _ _ _ us hl => match us, hl with | [_, _], _ => rfl,
  M_Web_eq := ⟨n_Web_eq, i_Web_eq, p_Web_eq⟩,
  ef_Web := eqFacts_mk ea_NoneType_Web eb_NoneType_Web ea_bool_Web eb_bool_Web ea_int_Web eb_int_Web ea_str_Web eb_str_Web ea_list_Web eb_list_Web ea_tuple_Web eb_tuple_Web ea_dict_Web eb_dict_Web,
  ne_Web := ⟨na_Web, nb_Web⟩,
  C_Places := C_Places,
  m_Places := PySem.W.mg_of X G n_Places,
  c_Places := ⟨pg_Places, hd_Places, po_Places, sa_Places⟩,
  mk_Places := mk_Places,
  nf_Places_numbers := nf_Places_numbers,
  nf_Places_parts := nf_Places_parts,
  a_Places_init := a_Places_init,
  fd_Places_init := _,
  F_Places_init := fun_mk (st := s_Places_init) l_Places_init c_Places_init p_Places_init,
  b_Places_init := (fun_mk (st := s_Places_init) l_Places_init c_Places_init p_Places_init).binds (ps := ["self", "numbers", "parts"]) fun _ _ _ _ _ _ us hl => match us, hl with | [_, _, _], _ => rfl,
  k_Places := ⟨mk_Places, n_Places_init, i_Places_init, kc_Places⟩,
  C_Stand := C_Stand,
  m_Stand := PySem.W.mg_of X G n_Stand,
  c_Stand := ⟨pg_Stand, hd_Stand, po_Stand, sa_Stand⟩,
  mk_Stand := mk_Stand,
  nf_Stand_tops := nf_Stand_tops,
  nf_Stand_bottom := nf_Stand_bottom,
  a_Stand_init := a_Stand_init,
  fd_Stand_init := _,
  F_Stand_init := fun_mk (st := s_Stand_init) l_Stand_init c_Stand_init p_Stand_init,
  b_Stand_init := (fun_mk (st := s_Stand_init) l_Stand_init c_Stand_init p_Stand_init).binds (ps := ["self", "tops", "bottom"]) fun _ _ _ _ _ _ us hl => match us, hl with | [_, _, _], _ => rfl,
  k_Stand := ⟨mk_Stand, n_Stand_init, i_Stand_init, kc_Stand⟩,
  nfst_Bar_Bar := nfst_Bar_Bar,
  nfst_Bar_Web := nfst_Bar_Web,
  dc_Bar_Web := dc_Bar_Web,
  nfst_Web_Bar := nfst_Web_Bar,
  nfst_Web_Web := nfst_Web_Web,
  C_HooksError := C_HooksError,
  m_HooksError := PySem.W.mg_of X G n_HooksError,
  C_BadCount := C_BadCount,
  O_BadCount := ⟨⟨nm_BadCount, q_BadCount, N_BadCount, bs_BadCount, _, sn_BadCount, sub_BadCount, ab_BadCount, col_BadCount, dd_BadCount, u0_BadCount, u1_BadCount, u2_BadCount, u3_BadCount, u5_BadCount, x_BadCount, rfl⟩, sa_BadCount, be_BadCount, ty_BadCount, kc_BadCount⟩,
  m_BadCount := PySem.W.mg_of X G n_BadCount,
  isC_BadCount := ⟨ga_BadCount, gg_BadCount, be_BadCount, hd_BadCount, cl_BadCount, g_clsget, g_clstk, ob_BadCount⟩,
  xf_BadCount := ⟨ga_BadCount, gg_BadCount, be_BadCount, hd_BadCount⟩,
  exm_BadCount_HooksError := PySem.W.exm_ref be_HooksError hd_HooksError ty_HooksError sb_BadCount_HooksError,
  a_BadCount_init := a_BadCount_init,
  fd_BadCount_init := _,
  F_BadCount_init := fun_mk (st := s_BadCount_init) l_BadCount_init c_BadCount_init p_BadCount_init,
  b_BadCount_init := (fun_mk (st := s_BadCount_init) l_BadCount_init c_BadCount_init p_BadCount_init).binds (ps := ["self", "what", "count"]) fun _ _ _ _ _ _ us hl => match us, hl with | [_, _, _], _ => rfl,
  nf_BadCount_what := nf_BadCount_what,
  nf_BadCount_count := nf_BadCount_count,
  X_BadCount := ⟨⟨⟨nm_BadCount, q_BadCount, N_BadCount, bs_BadCount, _, sn_BadCount, sub_BadCount, ab_BadCount, col_BadCount, dd_BadCount, u0_BadCount, u1_BadCount, u2_BadCount, u3_BadCount, u5_BadCount, x_BadCount, rfl⟩, sa_BadCount, be_BadCount, ty_BadCount, kc_BadCount⟩, PySem.W.mg_of X G n_BadCount, n_BadCount_init, t_BadCount_init, (fun_mk (st := s_BadCount_init) l_BadCount_init c_BadCount_init p_BadCount_init).binds (ps := ["self", "what", "count"]) fun _ _ _ _ _ _ us hl => match us, hl with | [_, _, _], _ => rfl, ⟨ga_BadCount, gg_BadCount, be_BadCount, hd_BadCount, cl_BadCount, g_clsget, g_clstk, ob_BadCount⟩, ⟨ga_BadCount, gg_BadCount, be_BadCount, hd_BadCount⟩⟩,
  C_NoRod := C_NoRod,
  O_NoRod := ⟨⟨nm_NoRod, q_NoRod, N_NoRod, bs_NoRod, _, sn_NoRod, sub_NoRod, ab_NoRod, col_NoRod, dd_NoRod, u0_NoRod, u1_NoRod, u2_NoRod, u3_NoRod, u5_NoRod, x_NoRod, rfl⟩, sa_NoRod, be_NoRod, ty_NoRod, kc_NoRod⟩,
  m_NoRod := PySem.W.mg_of X G n_NoRod,
  isC_NoRod := ⟨ga_NoRod, gg_NoRod, be_NoRod, hd_NoRod, cl_NoRod, g_clsget, g_clstk, ob_NoRod⟩,
  xf_NoRod := ⟨ga_NoRod, gg_NoRod, be_NoRod, hd_NoRod⟩,
  exm_NoRod_HooksError := PySem.W.exm_ref be_HooksError hd_HooksError ty_HooksError sb_NoRod_HooksError,
  a_NoRod_init := a_NoRod_init,
  fd_NoRod_init := _,
  F_NoRod_init := fun_mk (st := s_NoRod_init) l_NoRod_init c_NoRod_init p_NoRod_init,
  b_NoRod_init := (fun_mk (st := s_NoRod_init) l_NoRod_init c_NoRod_init p_NoRod_init).binds (ps := ["self", "rod"]) fun _ _ _ _ _ _ us hl => match us, hl with | [_, _], _ => rfl,
  nf_NoRod_rod := nf_NoRod_rod,
  X_NoRod := ⟨⟨⟨nm_NoRod, q_NoRod, N_NoRod, bs_NoRod, _, sn_NoRod, sub_NoRod, ab_NoRod, col_NoRod, dd_NoRod, u0_NoRod, u1_NoRod, u2_NoRod, u3_NoRod, u5_NoRod, x_NoRod, rfl⟩, sa_NoRod, be_NoRod, ty_NoRod, kc_NoRod⟩, PySem.W.mg_of X G n_NoRod, n_NoRod_init, t_NoRod_init, (fun_mk (st := s_NoRod_init) l_NoRod_init c_NoRod_init p_NoRod_init).binds (ps := ["self", "rod"]) fun _ _ _ _ _ _ us hl => match us, hl with | [_, _], _ => rfl, ⟨ga_NoRod, gg_NoRod, be_NoRod, hd_NoRod, cl_NoRod, g_clsget, g_clstk, ob_NoRod⟩, ⟨ga_NoRod, gg_NoRod, be_NoRod, hd_NoRod⟩⟩,
  C_SameRod := C_SameRod,
  O_SameRod := ⟨⟨nm_SameRod, q_SameRod, N_SameRod, bs_SameRod, _, sn_SameRod, sub_SameRod, ab_SameRod, col_SameRod, dd_SameRod, u0_SameRod, u1_SameRod, u2_SameRod, u3_SameRod, u5_SameRod, x_SameRod, rfl⟩, sa_SameRod, be_SameRod, ty_SameRod, kc_SameRod⟩,
  m_SameRod := PySem.W.mg_of X G n_SameRod,
  isC_SameRod := ⟨ga_SameRod, gg_SameRod, be_SameRod, hd_SameRod, cl_SameRod, g_clsget, g_clstk, ob_SameRod⟩,
  xf_SameRod := ⟨ga_SameRod, gg_SameRod, be_SameRod, hd_SameRod⟩,
  exm_SameRod_HooksError := PySem.W.exm_ref be_HooksError hd_HooksError ty_HooksError sb_SameRod_HooksError,
  a_SameRod_init := a_SameRod_init,
  fd_SameRod_init := _,
  F_SameRod_init := fun_mk (st := s_SameRod_init) l_SameRod_init c_SameRod_init p_SameRod_init,
  b_SameRod_init := (fun_mk (st := s_SameRod_init) l_SameRod_init c_SameRod_init p_SameRod_init).binds (ps := ["self", "rod"]) fun _ _ _ _ _ _ us hl => match us, hl with | [_, _], _ => rfl,
  nf_SameRod_rod := nf_SameRod_rod,
  X_SameRod := ⟨⟨⟨nm_SameRod, q_SameRod, N_SameRod, bs_SameRod, _, sn_SameRod, sub_SameRod, ab_SameRod, col_SameRod, dd_SameRod, u0_SameRod, u1_SameRod, u2_SameRod, u3_SameRod, u5_SameRod, x_SameRod, rfl⟩, sa_SameRod, be_SameRod, ty_SameRod, kc_SameRod⟩, PySem.W.mg_of X G n_SameRod, n_SameRod_init, t_SameRod_init, (fun_mk (st := s_SameRod_init) l_SameRod_init c_SameRod_init p_SameRod_init).binds (ps := ["self", "rod"]) fun _ _ _ _ _ _ us hl => match us, hl with | [_, _], _ => rfl, ⟨ga_SameRod, gg_SameRod, be_SameRod, hd_SameRod, cl_SameRod, g_clsget, g_clstk, ob_SameRod⟩, ⟨ga_SameRod, gg_SameRod, be_SameRod, hd_SameRod⟩⟩,
  C_BadSpan := C_BadSpan,
  O_BadSpan := ⟨⟨nm_BadSpan, q_BadSpan, N_BadSpan, bs_BadSpan, _, sn_BadSpan, sub_BadSpan, ab_BadSpan, col_BadSpan, dd_BadSpan, u0_BadSpan, u1_BadSpan, u2_BadSpan, u3_BadSpan, u5_BadSpan, x_BadSpan, rfl⟩, sa_BadSpan, be_BadSpan, ty_BadSpan, kc_BadSpan⟩,
  m_BadSpan := PySem.W.mg_of X G n_BadSpan,
  isC_BadSpan := ⟨ga_BadSpan, gg_BadSpan, be_BadSpan, hd_BadSpan, cl_BadSpan, g_clsget, g_clstk, ob_BadSpan⟩,
  xf_BadSpan := ⟨ga_BadSpan, gg_BadSpan, be_BadSpan, hd_BadSpan⟩,
  exm_BadSpan_HooksError := PySem.W.exm_ref be_HooksError hd_HooksError ty_HooksError sb_BadSpan_HooksError,
  a_BadSpan_init := a_BadSpan_init,
  fd_BadSpan_init := _,
  F_BadSpan_init := fun_mk (st := s_BadSpan_init) l_BadSpan_init c_BadSpan_init p_BadSpan_init,
  b_BadSpan_init := (fun_mk (st := s_BadSpan_init) l_BadSpan_init c_BadSpan_init p_BadSpan_init).binds (ps := ["self", "bar"]) fun _ _ _ _ _ _ us hl => match us, hl with | [_, _], _ => rfl,
  nf_BadSpan_bar := nf_BadSpan_bar,
  X_BadSpan := ⟨⟨⟨nm_BadSpan, q_BadSpan, N_BadSpan, bs_BadSpan, _, sn_BadSpan, sub_BadSpan, ab_BadSpan, col_BadSpan, dd_BadSpan, u0_BadSpan, u1_BadSpan, u2_BadSpan, u3_BadSpan, u5_BadSpan, x_BadSpan, rfl⟩, sa_BadSpan, be_BadSpan, ty_BadSpan, kc_BadSpan⟩, PySem.W.mg_of X G n_BadSpan, n_BadSpan_init, t_BadSpan_init, (fun_mk (st := s_BadSpan_init) l_BadSpan_init c_BadSpan_init p_BadSpan_init).binds (ps := ["self", "bar"]) fun _ _ _ _ _ _ us hl => match us, hl with | [_, _], _ => rfl, ⟨ga_BadSpan, gg_BadSpan, be_BadSpan, hd_BadSpan, cl_BadSpan, g_clsget, g_clstk, ob_BadSpan⟩, ⟨ga_BadSpan, gg_BadSpan, be_BadSpan, hd_BadSpan⟩⟩,
  C_NotSquare := C_NotSquare,
  O_NotSquare := ⟨⟨nm_NotSquare, q_NotSquare, N_NotSquare, bs_NotSquare, _, sn_NotSquare, sub_NotSquare, ab_NotSquare, col_NotSquare, dd_NotSquare, u0_NotSquare, u1_NotSquare, u2_NotSquare, u3_NotSquare, u5_NotSquare, x_NotSquare, rfl⟩, sa_NotSquare, be_NotSquare, ty_NotSquare, kc_NotSquare⟩,
  m_NotSquare := PySem.W.mg_of X G n_NotSquare,
  isC_NotSquare := ⟨ga_NotSquare, gg_NotSquare, be_NotSquare, hd_NotSquare, cl_NotSquare, g_clsget, g_clstk, ob_NotSquare⟩,
  xf_NotSquare := ⟨ga_NotSquare, gg_NotSquare, be_NotSquare, hd_NotSquare⟩,
  exm_NotSquare_HooksError := PySem.W.exm_ref be_HooksError hd_HooksError ty_HooksError sb_NotSquare_HooksError,
  a_NotSquare_init := a_NotSquare_init,
  fd_NotSquare_init := _,
  F_NotSquare_init := fun_mk (st := s_NotSquare_init) l_NotSquare_init c_NotSquare_init p_NotSquare_init,
  b_NotSquare_init := (fun_mk (st := s_NotSquare_init) l_NotSquare_init c_NotSquare_init p_NotSquare_init).binds (ps := ["self", "bars", "wanted"]) fun _ _ _ _ _ _ us hl => match us, hl with | [_, _, _], _ => rfl,
  nf_NotSquare_bars := nf_NotSquare_bars,
  nf_NotSquare_wanted := nf_NotSquare_wanted,
  X_NotSquare := ⟨⟨⟨nm_NotSquare, q_NotSquare, N_NotSquare, bs_NotSquare, _, sn_NotSquare, sub_NotSquare, ab_NotSquare, col_NotSquare, dd_NotSquare, u0_NotSquare, u1_NotSquare, u2_NotSquare, u3_NotSquare, u5_NotSquare, x_NotSquare, rfl⟩, sa_NotSquare, be_NotSquare, ty_NotSquare, kc_NotSquare⟩, PySem.W.mg_of X G n_NotSquare, n_NotSquare_init, t_NotSquare_init, (fun_mk (st := s_NotSquare_init) l_NotSquare_init c_NotSquare_init p_NotSquare_init).binds (ps := ["self", "bars", "wanted"]) fun _ _ _ _ _ _ us hl => match us, hl with | [_, _, _], _ => rfl, ⟨ga_NotSquare, gg_NotSquare, be_NotSquare, hd_NotSquare, cl_NotSquare, g_clsget, g_clstk, ob_NotSquare⟩, ⟨ga_NotSquare, gg_NotSquare, be_NotSquare, hd_NotSquare⟩⟩,
  z_abs := PySem.W.mg_none_of X G z_abs,
  z_len := PySem.W.mg_none_of X G z_len,
  z_range := PySem.W.mg_none_of X G z_range,
  z_tuple := PySem.W.mg_none_of X G z_tuple,
  z_list := PySem.W.mg_none_of X G z_list,
  z_dict := PySem.W.mg_none_of X G z_dict,
  z_sorted := PySem.W.mg_none_of X G z_sorted,
  z_enumerate := PySem.W.mg_none_of X G z_enumerate,
  z_zip := PySem.W.mg_none_of X G z_zip,
  z_min := PySem.W.mg_none_of X G z_min,
  z_max := PySem.W.mg_none_of X G z_max,
  z_int := PySem.W.mg_none_of X G z_int,
  z_isinstance := PySem.W.mg_none_of X G z_isinstance,
  z_type := PySem.W.mg_none_of X G z_type,
  z_sum := PySem.W.mg_none_of X G z_sum,
  m_gcd := PySem.W.mg_of X G v_gcd,
  t_LEAST_RODS := t_LEAST_RODS,
  m_LEAST_RODS := PySem.W.mg_of X G v_LEAST_RODS,
  t_MOST_RODS := t_MOST_RODS,
  m_MOST_RODS := PySem.W.mg_of X G v_MOST_RODS,
  t_MOST_BARS := t_MOST_BARS,
  m_MOST_BARS := PySem.W.mg_of X G v_MOST_BARS,
  t_MOST_HEIGHT := t_MOST_HEIGHT,
  m_MOST_HEIGHT := PySem.W.mg_of X G v_MOST_HEIGHT,
  t_MOST_LENGTH := t_MOST_LENGTH,
  m_MOST_LENGTH := PySem.W.mg_of X G v_MOST_LENGTH }
theorem all_mk {P : Program} {w : World} {K : PySem.W.Frag} {mg : Str → Option Value} {fa : Addr} (hfa : mg "law" = some (.ref fa)) (T : Tx K mg) :
    ∃ fd : FuncData, (∀ (s : Shared) (v : Value), BindsTo s fd ⟨[v], []⟩ [("_law_script", v)]) ∧ ∀ base : Heap, K.In base → base.Ns mainGlobals mg → FnOk P w K mg base (L2.CX P w) 60 fa fd ["_law_script"] (spLaw K) := by
  have e := hfa.symm.trans T.m_law
  cases e
  obtain ⟨oc, od, kV, doc, pm, an, cdv, ct, osl, e, _, _⟩ := T.F_law.ex
  exact ⟨T.fd_law, fun s v => by rw [e]; exact .of_eq rfl, fun base _ _ => ok_law T⟩
theorem walk {l : PySem.W.OpenLaw} {q : Program} {loose : List Str} {XP : (Str → Option Value) → Heap → Prop} {YP : World → Heap → Prop} {d : DefRec} {K : Params → PySem.W.Frag} (hn : l.most = some 63) (hdf : d.params.defaults = [])
    (hY : ∀ (w : World) (h : Heap), YP w h → (K w.params).In h)
    (F : ∀ (w : World) (mg : Str → Option Value) (fa : Addr) (h : Heap), (K w.params).In h → h.Ns mainGlobals mg → mg d.name = some (.ref fa) →
      ∃ fd : FuncData, (∀ (s : Shared) (u : Value), BindsTo s fd ⟨[u], []⟩ [("_law_script", u)]) ∧ ∀ base : Heap, (K w.params).In base → base.Ns mainGlobals mg → FnOk l.prog w (K w.params) mg base (L2.CX l.prog w) 60 fa fd ["_law_script"] (spLaw (K w.params))) :
    PySem.W.WalkO q loose XP YP l.row.toRowW d [] (fun f vs => PySem.call f vs) :=
  L2.walk_of (n := 63) (k := 60) (x := "_law_script") (CX := fun w => L2.CX l.prog w) (sp := fun w => spLaw (K w.params)) hn (by decide) hdf ⟨rfl, by decide, by decide⟩ hY F (fun _ _ a ns hl _ hS => ⟨a, ns, rfl, hS, hl, fun _ => rfl⟩) fun _ _ _ _ _ z => by
    obtain ⟨_, _, _, _, _, _, _, _, _, _, _, _, z⟩ := z
    exact z.elim
end K06
open PySem PySem.W PyProof.Rows in
set_option maxRecDepth 100000 in
set_option maxHeartbeats 0 in
theorem PySem.Challenge.cw_hookspans_k06_hooks_led_back_from_stands_holds : PySem.Challenge.rw_hookspans_k06_hooks_led_back_from_stands.Holds := by
  w_on; o_law; k_head; (case hw => w_witness2)
  k_fill
  refine K06.walk (l := PySem.Challenge.rw_hookspans_k06_hooks_led_back_from_stands) rfl rfl (fun w h Y => PySem.W.kIn_of Y) ?F
  case F =>
    intro w mg fa h KX G hmg
    refine' K06.all_mk hmg (K06.mk_tx KX G ?g_clsget ?g_clstk ?n_divisor ?l_divisor ?c_divisor ?p_divisor ?n_lowest ?l_lowest ?c_lowest ?p_lowest ?n_fraction ?l_fraction ?c_fraction ?p_fraction ?n_led ?l_led ?c_led ?p_led ?n_check_heights ?l_check_heights ?c_check_heights ?p_check_heights ?n_led_bar ?l_led_bar ?c_led_bar ?p_led_bar ?n_check_places ?l_check_places ?c_check_places ?p_check_places ?n_bar_rows ?l_bar_rows ?c_bar_rows ?p_bar_rows ?n_heights_at ?l_heights_at ?c_heights_at ?p_heights_at ?n_table ?l_table ?c_table ?p_table ?n_asked ?l_asked ?c_asked ?p_asked ?n_cleared ?l_cleared ?c_cleared ?p_cleared ?n_swapped ?l_swapped ?c_swapped ?p_swapped ?n_cleared_of ?l_cleared_of ?c_cleared_of ?p_cleared_of ?n_stand ?l_stand ?c_stand ?p_stand ?n_check_rods ?l_check_rods ?c_check_rods ?p_check_rods ?n_check_bars ?l_check_bars ?c_check_bars ?p_check_bars ?n_check_bar ?l_check_bar ?c_check_bar ?p_check_bar ?n_l_well ?l_l_well ?c_l_well ?p_l_well ?n_l_draw ?l_l_draw ?c_l_draw ?p_l_draw ?n_l_one ?l_l_one ?c_l_one ?p_l_one ?n_l_mixed ?l_l_mixed ?c_l_mixed ?p_l_mixed ?n_l_bar_fact ?l_l_bar_fact ?c_l_bar_fact ?p_l_bar_fact ?n_l_height ?l_l_height ?c_l_height ?p_l_height ?n_l_line ?l_l_line ?c_l_line ?p_l_line ?n_l_web ?l_l_web ?c_l_web ?p_l_web ?n_l_spots ?l_l_spots ?c_l_spots ?p_l_spots ?n_l_common ?l_l_common ?c_l_common ?p_l_common ?n_l_low ?l_l_low ?c_l_low ?p_l_low ?n_law ?l_law ?c_law ?p_law ?n_Bar ?pg_Bar ?hd_Bar ?po_Bar ?sa_Bar ?mk_Bar ?kc_Bar ?nf_Bar_a ?nf_Bar_b ?nf_Bar_c ?nf_Bar_length ?nf_Bar_least ?nf_Bar_greatest ?n_Bar_init ?i_Bar_init ?l_Bar_init ?c_Bar_init ?p_Bar_init ?n_Bar_eq ?i_Bar_eq ?l_Bar_eq ?c_Bar_eq ?p_Bar_eq ?ea_NoneType_Bar ?eb_NoneType_Bar ?ea_bool_Bar ?eb_bool_Bar ?ea_int_Bar ?eb_int_Bar ?ea_str_Bar ?eb_str_Bar ?ea_list_Bar ?eb_list_Bar ?ea_tuple_Bar ?eb_tuple_Bar ?ea_dict_Bar ?eb_dict_Bar ?na_Bar ?nb_Bar ?n_Web ?pg_Web ?hd_Web ?po_Web ?sa_Web ?mk_Web ?kc_Web ?nf_Web_rods ?nf_Web_bars ?nf_Web_held ?n_Web_init ?i_Web_init ?l_Web_init ?c_Web_init ?p_Web_init ?n_Web_held ?i_Web_held ?l_Web_held ?c_Web_held ?p_Web_held ?n_Web_hanging ?i_Web_hanging ?l_Web_hanging ?c_Web_hanging ?p_Web_hanging ?n_Web_eq ?i_Web_eq ?l_Web_eq ?c_Web_eq ?p_Web_eq ?ea_NoneType_Web ?eb_NoneType_Web ?ea_bool_Web ?eb_bool_Web ?ea_int_Web ?eb_int_Web ?ea_str_Web ?eb_str_Web ?ea_list_Web ?eb_list_Web ?ea_tuple_Web ?eb_tuple_Web ?ea_dict_Web ?eb_dict_Web ?na_Web ?nb_Web ?n_Places ?pg_Places ?hd_Places ?po_Places ?sa_Places ?mk_Places ?kc_Places ?nf_Places_numbers ?nf_Places_parts ?n_Places_init ?i_Places_init ?l_Places_init ?c_Places_init ?p_Places_init ?n_Stand ?pg_Stand ?hd_Stand ?po_Stand ?sa_Stand ?mk_Stand ?kc_Stand ?nf_Stand_tops ?nf_Stand_bottom ?n_Stand_init ?i_Stand_init ?l_Stand_init ?c_Stand_init ?p_Stand_init ?nfst_Bar_Bar ?nfst_Bar_Web ?dc_Bar_Web ?nfst_Web_Bar ?nfst_Web_Web ?n_HooksError ?be_HooksError ?ty_HooksError ?hd_HooksError ?n_BadCount ?x_BadCount ?sa_BadCount ?ga_BadCount ?gg_BadCount ?kc_BadCount ?be_BadCount ?ty_BadCount ?hd_BadCount ?cl_BadCount ?ob_BadCount ?sb_BadCount_HooksError ?n_BadCount_init ?t_BadCount_init ?l_BadCount_init ?c_BadCount_init ?p_BadCount_init ?nf_BadCount_what ?nf_BadCount_count ?n_NoRod ?x_NoRod ?sa_NoRod ?ga_NoRod ?gg_NoRod ?kc_NoRod ?be_NoRod ?ty_NoRod ?hd_NoRod ?cl_NoRod ?ob_NoRod ?sb_NoRod_HooksError ?n_NoRod_init ?t_NoRod_init ?l_NoRod_init ?c_NoRod_init ?p_NoRod_init ?nf_NoRod_rod ?n_SameRod ?x_SameRod ?sa_SameRod ?ga_SameRod ?gg_SameRod ?kc_SameRod ?be_SameRod ?ty_SameRod ?hd_SameRod ?cl_SameRod ?ob_SameRod ?sb_SameRod_HooksError ?n_SameRod_init ?t_SameRod_init ?l_SameRod_init ?c_SameRod_init ?p_SameRod_init ?nf_SameRod_rod ?n_BadSpan ?x_BadSpan ?sa_BadSpan ?ga_BadSpan ?gg_BadSpan ?kc_BadSpan ?be_BadSpan ?ty_BadSpan ?hd_BadSpan ?cl_BadSpan ?ob_BadSpan ?sb_BadSpan_HooksError ?n_BadSpan_init ?t_BadSpan_init ?l_BadSpan_init ?c_BadSpan_init ?p_BadSpan_init ?nf_BadSpan_bar ?n_NotSquare ?x_NotSquare ?sa_NotSquare ?ga_NotSquare ?gg_NotSquare ?kc_NotSquare ?be_NotSquare ?ty_NotSquare ?hd_NotSquare ?cl_NotSquare ?ob_NotSquare ?sb_NotSquare_HooksError ?n_NotSquare_init ?t_NotSquare_init ?l_NotSquare_init ?c_NotSquare_init ?p_NotSquare_init ?nf_NotSquare_bars ?nf_NotSquare_wanted ?z_abs ?z_len ?z_range ?z_tuple ?z_list ?z_dict ?z_sorted ?z_enumerate ?z_zip ?z_min ?z_max ?z_int ?z_isinstance ?z_type ?z_sum ?v_gcd ?v_LEAST_RODS ?v_MOST_RODS ?v_MOST_BARS ?v_MOST_HEIGHT ?v_MOST_LENGTH)
    (case g_clsget => k_is)
    (case g_clstk => k_is)
    (case n_divisor => k_is)
    (case l_divisor => k_is)
    (case c_divisor => k_is)
    (case p_divisor => k_is)
    (case n_lowest => k_is)
    (case l_lowest => k_is)
    (case c_lowest => k_is)
    (case p_lowest => k_is)
    (case n_fraction => k_is)
    (case l_fraction => k_is)
    (case c_fraction => k_is)
    (case p_fraction => k_is)
    (case n_led => k_is)
    (case l_led => k_is)
    (case c_led => k_is)
    (case p_led => k_is)
    (case n_check_heights => k_is)
    (case l_check_heights => k_is)
    (case c_check_heights => k_is)
    (case p_check_heights => k_is)
    (case n_led_bar => k_is)
    (case l_led_bar => k_is)
    (case c_led_bar => k_is)
    (case p_led_bar => k_is)
    (case n_check_places => k_is)
    (case l_check_places => k_is)
    (case c_check_places => k_is)
    (case p_check_places => k_is)
    (case n_bar_rows => k_is)
    (case l_bar_rows => k_is)
    (case c_bar_rows => k_is)
    (case p_bar_rows => k_is)
    (case n_heights_at => k_is)
    (case l_heights_at => k_is)
    (case c_heights_at => k_is)
    (case p_heights_at => k_is)
    (case n_table => k_is)
    (case l_table => k_is)
    (case c_table => k_is)
    (case p_table => k_is)
    (case n_asked => k_is)
    (case l_asked => k_is)
    (case c_asked => k_is)
    (case p_asked => k_is)
    (case n_cleared => k_is)
    (case l_cleared => k_is)
    (case c_cleared => k_is)
    (case p_cleared => k_is)
    (case n_swapped => k_is)
    (case l_swapped => k_is)
    (case c_swapped => k_is)
    (case p_swapped => k_is)
    (case n_cleared_of => k_is)
    (case l_cleared_of => k_is)
    (case c_cleared_of => k_is)
    (case p_cleared_of => k_is)
    (case n_stand => k_is)
    (case l_stand => k_is)
    (case c_stand => k_is)
    (case p_stand => k_is)
    (case n_check_rods => k_is)
    (case l_check_rods => k_is)
    (case c_check_rods => k_is)
    (case p_check_rods => k_is)
    (case n_check_bars => k_is)
    (case l_check_bars => k_is)
    (case c_check_bars => k_is)
    (case p_check_bars => k_is)
    (case n_check_bar => k_is)
    (case l_check_bar => k_is)
    (case c_check_bar => k_is)
    (case p_check_bar => k_is)
    (case n_l_well => k_is)
    (case l_l_well => k_is)
    (case c_l_well => k_is)
    (case p_l_well => k_is)
    (case n_l_draw => k_is)
    (case l_l_draw => k_is)
    (case c_l_draw => k_is)
    (case p_l_draw => k_is)
    (case n_l_one => k_is)
    (case l_l_one => k_is)
    (case c_l_one => k_is)
    (case p_l_one => k_is)
    (case n_l_mixed => k_is)
    (case l_l_mixed => k_is)
    (case c_l_mixed => k_is)
    (case p_l_mixed => k_is)
    (case n_l_bar_fact => k_is)
    (case l_l_bar_fact => k_is)
    (case c_l_bar_fact => k_is)
    (case p_l_bar_fact => k_is)
    (case n_l_height => k_is)
    (case l_l_height => k_is)
    (case c_l_height => k_is)
    (case p_l_height => k_is)
    (case n_l_line => k_is)
    (case l_l_line => k_is)
    (case c_l_line => k_is)
    (case p_l_line => k_is)
    (case n_l_web => k_is)
    (case l_l_web => k_is)
    (case c_l_web => k_is)
    (case p_l_web => k_is)
    (case n_l_spots => k_is)
    (case l_l_spots => k_is)
    (case c_l_spots => k_is)
    (case p_l_spots => k_is)
    (case n_l_common => k_is)
    (case l_l_common => k_is)
    (case c_l_common => k_is)
    (case p_l_common => k_is)
    (case n_l_low => k_is)
    (case l_l_low => k_is)
    (case c_l_low => k_is)
    (case p_l_low => k_is)
    (case n_law => k_is)
    (case l_law => k_is)
    (case c_law => k_is)
    (case p_law => k_is)
    (case n_Bar => k_is)
    (case pg_Bar => k_is)
    (case hd_Bar => k_is)
    (case po_Bar => k_is)
    (case sa_Bar => k_is)
    (case mk_Bar => k_is)
    (case kc_Bar => k_is)
    (case nf_Bar_a => k_is)
    (case nf_Bar_b => k_is)
    (case nf_Bar_c => k_is)
    (case nf_Bar_length => k_is)
    (case nf_Bar_least => k_is)
    (case nf_Bar_greatest => k_is)
    (case n_Bar_init => k_is)
    (case i_Bar_init => k_is)
    (case l_Bar_init => k_is)
    (case c_Bar_init => k_is)
    (case p_Bar_init => k_is)
    (case n_Bar_eq => k_is)
    (case i_Bar_eq => k_is)
    (case l_Bar_eq => k_is)
    (case c_Bar_eq => k_is)
    (case p_Bar_eq => k_is)
    (case ea_NoneType_Bar => k_is)
    (case eb_NoneType_Bar => k_is)
    (case ea_bool_Bar => k_is)
    (case eb_bool_Bar => k_is)
    (case ea_int_Bar => k_is)
    (case eb_int_Bar => k_is)
    (case ea_str_Bar => k_is)
    (case eb_str_Bar => k_is)
    (case ea_list_Bar => k_is)
    (case eb_list_Bar => k_is)
    (case ea_tuple_Bar => k_is)
    (case eb_tuple_Bar => k_is)
    (case ea_dict_Bar => k_is)
    (case eb_dict_Bar => k_is)
    (case na_Bar => k_is)
    (case nb_Bar => k_is)
    (case n_Web => k_is)
    (case pg_Web => k_is)
    (case hd_Web => k_is)
    (case po_Web => k_is)
    (case sa_Web => k_is)
    (case mk_Web => k_is)
    (case kc_Web => k_is)
    (case nf_Web_rods => k_is)
    (case nf_Web_bars => k_is)
    (case nf_Web_held => k_is)
    (case n_Web_init => k_is)
    (case i_Web_init => k_is)
    (case l_Web_init => k_is)
    (case c_Web_init => k_is)
    (case p_Web_init => k_is)
    (case n_Web_held => k_is)
    (case i_Web_held => k_is)
    (case l_Web_held => k_is)
    (case c_Web_held => k_is)
    (case p_Web_held => k_is)
    (case n_Web_hanging => k_is)
    (case i_Web_hanging => k_is)
    (case l_Web_hanging => k_is)
    (case c_Web_hanging => k_is)
    (case p_Web_hanging => k_is)
    (case n_Web_eq => k_is)
    (case i_Web_eq => k_is)
    (case l_Web_eq => k_is)
    (case c_Web_eq => k_is)
    (case p_Web_eq => k_is)
    (case ea_NoneType_Web => k_is)
    (case eb_NoneType_Web => k_is)
    (case ea_bool_Web => k_is)
    (case eb_bool_Web => k_is)
    (case ea_int_Web => k_is)
    (case eb_int_Web => k_is)
    (case ea_str_Web => k_is)
    (case eb_str_Web => k_is)
    (case ea_list_Web => k_is)
    (case eb_list_Web => k_is)
    (case ea_tuple_Web => k_is)
    (case eb_tuple_Web => k_is)
    (case ea_dict_Web => k_is)
    (case eb_dict_Web => k_is)
    (case na_Web => k_is)
    (case nb_Web => k_is)
    (case n_Places => k_is)
    (case pg_Places => k_is)
    (case hd_Places => k_is)
    (case po_Places => k_is)
    (case sa_Places => k_is)
    (case mk_Places => k_is)
    (case kc_Places => k_is)
    (case nf_Places_numbers => k_is)
    (case nf_Places_parts => k_is)
    (case n_Places_init => k_is)
    (case i_Places_init => k_is)
    (case l_Places_init => k_is)
    (case c_Places_init => k_is)
    (case p_Places_init => k_is)
    (case n_Stand => k_is)
    (case pg_Stand => k_is)
    (case hd_Stand => k_is)
    (case po_Stand => k_is)
    (case sa_Stand => k_is)
    (case mk_Stand => k_is)
    (case kc_Stand => k_is)
    (case nf_Stand_tops => k_is)
    (case nf_Stand_bottom => k_is)
    (case n_Stand_init => k_is)
    (case i_Stand_init => k_is)
    (case l_Stand_init => k_is)
    (case c_Stand_init => k_is)
    (case p_Stand_init => k_is)
    (case nfst_Bar_Bar => k_is)
    (case nfst_Bar_Web => k_is)
    (case dc_Bar_Web => decide)
    (case nfst_Web_Bar => k_is)
    (case nfst_Web_Web => k_is)
    (case n_HooksError => k_is)
    (case be_HooksError => k_is)
    (case ty_HooksError => k_is)
    (case hd_HooksError => k_is)
    (case n_BadCount => k_is)
    (case x_BadCount => k_is)
    (case sa_BadCount => k_is)
    (case ga_BadCount => k_is)
    (case gg_BadCount => k_is)
    (case kc_BadCount => k_is)
    (case be_BadCount => k_is)
    (case ty_BadCount => k_is)
    (case hd_BadCount => k_is)
    (case cl_BadCount => k_is)
    (case ob_BadCount => k_is)
    (case sb_BadCount_HooksError => k_is)
    (case n_BadCount_init => k_is)
    (case t_BadCount_init => k_is)
    (case l_BadCount_init => k_is)
    (case c_BadCount_init => k_is)
    (case p_BadCount_init => k_is)
    (case nf_BadCount_what => k_is)
    (case nf_BadCount_count => k_is)
    (case n_NoRod => k_is)
    (case x_NoRod => k_is)
    (case sa_NoRod => k_is)
    (case ga_NoRod => k_is)
    (case gg_NoRod => k_is)
    (case kc_NoRod => k_is)
    (case be_NoRod => k_is)
    (case ty_NoRod => k_is)
    (case hd_NoRod => k_is)
    (case cl_NoRod => k_is)
    (case ob_NoRod => k_is)
    (case sb_NoRod_HooksError => k_is)
    (case n_NoRod_init => k_is)
    (case t_NoRod_init => k_is)
    (case l_NoRod_init => k_is)
    (case c_NoRod_init => k_is)
    (case p_NoRod_init => k_is)
    (case nf_NoRod_rod => k_is)
    (case n_SameRod => k_is)
    (case x_SameRod => k_is)
    (case sa_SameRod => k_is)
    (case ga_SameRod => k_is)
    (case gg_SameRod => k_is)
    (case kc_SameRod => k_is)
    (case be_SameRod => k_is)
    (case ty_SameRod => k_is)
    (case hd_SameRod => k_is)
    (case cl_SameRod => k_is)
    (case ob_SameRod => k_is)
    (case sb_SameRod_HooksError => k_is)
    (case n_SameRod_init => k_is)
    (case t_SameRod_init => k_is)
    (case l_SameRod_init => k_is)
    (case c_SameRod_init => k_is)
    (case p_SameRod_init => k_is)
    (case nf_SameRod_rod => k_is)
    (case n_BadSpan => k_is)
    (case x_BadSpan => k_is)
    (case sa_BadSpan => k_is)
    (case ga_BadSpan => k_is)
    (case gg_BadSpan => k_is)
    (case kc_BadSpan => k_is)
    (case be_BadSpan => k_is)
    (case ty_BadSpan => k_is)
    (case hd_BadSpan => k_is)
    (case cl_BadSpan => k_is)
    (case ob_BadSpan => k_is)
    (case sb_BadSpan_HooksError => k_is)
    (case n_BadSpan_init => k_is)
    (case t_BadSpan_init => k_is)
    (case l_BadSpan_init => k_is)
    (case c_BadSpan_init => k_is)
    (case p_BadSpan_init => k_is)
    (case nf_BadSpan_bar => k_is)
    (case n_NotSquare => k_is)
    (case x_NotSquare => k_is)
    (case sa_NotSquare => k_is)
    (case ga_NotSquare => k_is)
    (case gg_NotSquare => k_is)
    (case kc_NotSquare => k_is)
    (case be_NotSquare => k_is)
    (case ty_NotSquare => k_is)
    (case hd_NotSquare => k_is)
    (case cl_NotSquare => k_is)
    (case ob_NotSquare => k_is)
    (case sb_NotSquare_HooksError => k_is)
    (case n_NotSquare_init => k_is)
    (case t_NotSquare_init => k_is)
    (case l_NotSquare_init => k_is)
    (case c_NotSquare_init => k_is)
    (case p_NotSquare_init => k_is)
    (case nf_NotSquare_bars => k_is)
    (case nf_NotSquare_wanted => k_is)
    (case z_abs => k_is)
    (case z_len => k_is)
    (case z_range => k_is)
    (case z_tuple => k_is)
    (case z_list => k_is)
    (case z_dict => k_is)
    (case z_sorted => k_is)
    (case z_enumerate => k_is)
    (case z_zip => k_is)
    (case z_min => k_is)
    (case z_max => k_is)
    (case z_int => k_is)
    (case z_isinstance => k_is)
    (case z_type => k_is)
    (case z_sum => k_is)
    (case v_gcd => k_is)
    (case v_LEAST_RODS => k_is)
    (case v_MOST_RODS => k_is)
    (case v_MOST_BARS => k_is)
    (case v_MOST_HEIGHT => k_is)
    (case v_MOST_LENGTH => k_is)
