import PyProof.Rows.All
import Wide.All
import OpenK.AllK
import Wide.FinOn
import HandS.ForMost
import HandS.ForExc
import HandS.ExcInit
import HandS.ExcIs
import HandS.ExcField
import HandS.Gcd
import HandS.Style
import HandS.OwnEq
import HandS.MakeKw
import HandS.SortInts
import HandS.IsInst
import HandS.DictEq
import HandS.DeepEq
import HandS.Zip
import HandS.Wide
import HandS.MakeKwOnly
import KE.GoesMore
import HandS.ExcOwn
import PyProof.ExcBaseAll.ValueError
import HandS.SetFor
import HandS.Strs
import HandS.Sort
import HandS.FStr
import HandS.Text
import HandS.Star
import HandS.SortKw
import KE.KUnpackStar
import KE.DataMinMax
import KE.KDictList
import HandS.DictTup
import HandS.SortRule
import KE.GoesEnum
import KE.GoesEnumKw
import HandS.Walk
import HandS.Defaults
import HandS.Nested
import HandS.HeadHook4
import HandS.HeadWalk
import HandS.Head2
import HandS.Head3
import HandS.DictComp
import HandS.Conv
import PySem.Challenge.RW_hookspans_k07_hooks_led_back_from_any_he
set_option Elab.async false
set_option linter.all false
set_option maxRecDepth 100000
set_option maxHeartbeats 4000000
namespace PySem.W
open PySem PySem.Spec PySem.Calls PyProof.Rows
section
variable {prog : Program} {w : World} {A : Around} {E : Value → Shared → Prop} {s : Shared} {K : Frag} {x D : Addr} {ox : Obj} {od : Option Obj}
theorem lx_findObj {C : Addr} {name : Str} {a g : Value} (hc : (clsIn K C).isSome = true) (ha : findIn K (.ref C) name = some (some a)) (hg : specialIn K a "__get__" = some (some g)) (ht : takesIn K a = some true) : findObj K C od name = some (.bind g a) := by
  obtain ⟨cd, hc⟩ := Option.isSome_iff_exists.mp hc
  unfold findObj
  rw [hc, Option.bind_some, ha, Option.bind_some]
  simp [hg, ht]
theorem lx_kin_class {Q : Option Value → Shared → Prop} (hga : findIn K (.ref D) "__getattribute__" = some (some (.builtin "BaseException.__getattribute__"))) (hgt : findIn K (.ref D) "__getattr__" = some none) (hsub : subIn K (.ref D) (.type "BaseException") = some true)
    (hdct : hasDictIn K D = true) (ha : findIn K (.ref D) "__class__" = some (some (.builtin "object.__class__")))
    (hn : specialIn K (.builtin "object.__class__") "__get__" = some (some (.builtin "getset_descriptor.__get__"))) (htk : takesIn K (.builtin "object.__class__") = some true) (hm : mroIn K D (.type "object") = some true)
    (X : K.In s.heap) (I : InstAt s.heap x ox D od) (h : Q (some (.ref D)) { s with toks := s.toks + 1 }) : wpAny (model prog w) A (getAttr? (.ref x) "__class__") Q E s := by
  have hf : findObj K D od "__class__" = some (.bind (.builtin "getset_descriptor.__get__") (.builtin "object.__class__")) := lx_findObj (by obtain ⟨cd, hc, _⟩ := any_some hdct; rw [hc]; rfl) ha hn htk
  obtain ⟨hp, g, d, t, os⟩ := s
  have L0 := I.type (M := model prog w)
  have L1 := looks_findIn (M := model prog w) X hga
  have L2 := looks_findIn (M := model prog w) X hgt
  have L3 := looks_find (M := model prog w) X I hf
  have sub : Looks (model prog w) hp (isInstance (.ref x) (.type "BaseException")) true := L0.andThen (looks_subIn X hsub)
  have hx0 : (false && onTheHeap (Value.builtin "BaseException.__getattribute__")) = false := rfl
  have hx2 : (Value.builtin "BaseException.__getattribute__" == Value.builtin "object.__getattribute__") = false := by decide +kernel
  have hx1 : (onTheHeap (Value.ref D) && Value.builtin "BaseException.__getattribute__" == Value.builtin "object.__getattribute__") = false := by rw [hx2]; rfl
  unfold getAttr? getAttrBy? getAttrBy
  refine wpAny_bind (wpAny_mkText (wpAny_bind (wpAny_attempt (wpAny_holding (wpAny_bind (L0.at (wpAny_bind (L1.at ?_))))))))
  show wpAny _ _ (if (onTheHeap (Value.ref D) && Value.builtin "BaseException.__getattribute__" == Value.builtin "object.__getattribute__") = true then _ else _) _ _ _
  rw [hx1, if_neg Bool.false_ne_true]
  unfold getAttrByItsOwn hookBefore
  refine wpAny_bind ?_
  rw [if_pos (show onTheHeap (Value.ref D) = true from rfl)]
  refine L2.at ?_
  refine wpAny_bind (wpAny_attempt (wpAny_holding ?_))
  unfold callGetattribute
  rw [hx0, if_neg Bool.false_ne_true]
  unfold boundAndCalled
  rw [PySem.F.excAttr_ValueError.ga.bind (.ref x)]
  refine wpAny_bind (wpAny_pure ?_)
  show wpAny _ _ (call (.builtin "BaseException.__getattribute__") [.ref x, .str "__class__" t]) _ _ _
  refine wpAny_call (codeAny_call_builtin PySem.F.excAttr_ValueError.ga.plain PySem.F.entry_bexc_ga ?_)
  refine @check_slot (model prog w) _ _ ⟨hp, g, d, t + 1, os⟩ "BaseException.__getattribute__" "BaseException" "__getattribute__" (.ref x) [.str "__class__" t] [] _ (by decide +kernel) (by decide +kernel) sub (PySem.F.args_bexc_ga (.ref x) (.str "__class__" t)) ?_
  unfold Builtin.«object.__getattribute__»
  refine wpAny_bind (wpAny_of_eq (a := ((Value.ref x : Value), [Value.str "__class__" t])) (by first | rfl | (simp only [slotArgs]; rfl)) ?_)
  refine wpAny_bind (wpAny_pure (wpAny_bind (L0.at (wpAny_bind (L3.at ?_)))))
  show wpAny _ _ (holding [Value.builtin "object.__class__"] (call (.builtin "getset_descriptor.__get__") [.builtin "object.__class__", .ref x, .ref D]) >>= ret) _ _ _
  refine wpAny_bind (wpAny_holding (wpAny_call (class_get (s := ⟨hp, g, d, t + 1, os⟩) (ox := ox) (od := od) X I hm ?_)))
  refine wpAny_pure ?_
  show wpAny _ _ (handedOut (.ref D)) _ _ _
  rw [handedOut_of (v := .ref D) rfl]
  first
    | exact wpAny_pure (wpAny_pure h)
    | exact wpAny_pure h
    | exact wpAny_pure (wpAny_bind (wpAny_pure (wpAny_pure h)))
theorem lx_kitx (hga : findIn K (.ref D) "__getattribute__" = some (some (.builtin "BaseException.__getattribute__"))) (hgt : findIn K (.ref D) "__getattr__" = some none) (hsub : subIn K (.ref D) (.type "BaseException") = some true) (hdct : hasDictIn K D = true) (ha : findIn K (.ref D) "__class__" = some (some (.builtin "object.__class__")))
    (hn : specialIn K (.builtin "object.__class__") "__get__" = some (some (.builtin "getset_descriptor.__get__"))) (htk : takesIn K (.builtin "object.__class__") = some true) (hm : mroIn K D (.type "object") = some true) :
    KitX K (.ref x) (.ref D) (fun h => InstAt h x ox D od) where
  ty := fun _ _ _ I => I.type
  it := fun _ _ X _ => by
    obtain ⟨cdD, hcD, _⟩ := any_some hdct
    unfold clsIn at hcD
    split at hcD
    · rename_i c' d' cd' sl' ho
      intro A' Q' E' s' k q
      unfold isType loadHead
      exact wpAny_bind (wpAny_loadPart (k _ _ (X _ _ ho)) (wpAny_pure q))
    · cases hcD
  ne := fun h tp dd its n sl X htp => by
    obtain ⟨cdD, hcD, _⟩ := any_some hdct
    refine Bool.eq_false_iff.mpr fun q => ?_
    have e : D = tp := Value.ref.inj (beq_iff_eq.mp q)
    subst e
    unfold clsIn at hcD
    split at hcD
    · rename_i c' d' cd' sl' ho
      have z := (X _ _ ho).symm.trans htp
      cases z
    · cases hcD
  ca := fun X I k => lx_kin_class hga hgt hsub hdct ha hn htk hm X I k
end
end PySem.W
namespace L2
open PySem PySem.Spec PyProof.Rows
/-- isinstance(e, c), e the exception that the suite holds, of the class at D, with its own dict at d -/
def rIsED (K : PySem.W.Frag) (D d a : Addr) : List V → Hp → VK → Prop := fun xs H Q => ∃ (c : V) (cv : Value) (b : Bool) (fs : List (Str × V)), xs = [.ref a, c] ∧ (∀ u, RelV c u → u = cv) ∧ PySem.W.kitOne K (.ref D) cv = some b ∧ H d = some (.xd fs) ∧ Q (.bl b) H
theorem call_isED {X : Cx} {a D d : Addr} {oe : Obj} {pn : List (Addr × Obj)} (C : ExcC X.K D) (hz : Zc (.ref D) (some d) oe) (hf : ∃ vs, oe.data = .fields vs) : CallR (X.suite a ((a, oe) :: pn)) (.builtin "isinstance") (rIsED X.K D d a) := by
  intro pins s σ H xs us Q I r h
  obtain ⟨c, cv, b, fs, rfl, hcv, e, hd, q⟩ := h
  cases r with
  | cons rx rr =>
    cases rr with
    | cons rt rr =>
      cases rr
      cases rx
      have ec := hcv _ rt
      subst ec
      obtain ⟨hget, _⟩ := I.pin (a, oe) (List.mem_append.mpr (.inl List.mem_cons_self))
      obtain ⟨vs, hv⟩ := hf
      obtain ⟨mA, ⟨od, es, ep, eo, _⟩, _⟩ : ObjOk X.prog X.w H s.heap d (.xd fs) := I.hok d _ hd
      have J : PySem.W.InstAt s.heap a oe D (some od) := by
        obtain ⟨oc, od', oda, osl⟩ := oe
        obtain ⟨h1, h2⟩ := hz
        dsimp only at h1 h2 hv
        subst h1 h2 hv
        exact ⟨hget, rfl, rfl, eo⟩
      exact PySem.W.kia_one (PySem.W.lx_kitx C.hg C.hk C.hs C.hd C.ha C.hn C.ht C.hm) I.kIn J e (fun z => nomatch z) fun tk => ⟨.bl b, H, I.kept (t' := tk) fun _ _ z => z, rfl, q⟩
end L2
namespace LxE
open PySem PySem.SeqAt
open AutoSeq1 (wpAny_loadPart')
open MeetsSeq MeetsSeq2 MeetsSeq3 SeqRoads2
section
variable {prog : Program} {w : World} {A : Around} {R : Result → Shared → Prop}
abbrev FinOf (prog : Program) (w : World) (A : Around) (R : Result → Shared → Prop) : Fin → Shared → Prop := fun fin s' => match fin with
  | .done f => R (.ok f) s'
  | .again c' => c'.quiet = true ∧ codeAny (model prog w) A c' R s'
def ListJ (prog : Program) (w : World) (A : Around) (E : Value → Shared → Prop) (l b : Addr) (N : Nat) (e : Nat → Bool) (I : Shared → Prop) : Prop :=
  ∀ s, I s → ∃ (items items2 : Array Value), s.heap.IsList l items ∧ s.heap.IsList b items2 ∧ items.size = N ∧ items2.size = N ∧
    ∀ i (h1 : i < items.size) (h2 : i < items2.size), wpAny (model prog w) A.in1 (eqBool items[i] items2[i]) (fun r s' => r = e i ∧ I s') E s
theorem isList_obj {h : Heap} {l : Addr} {items : Array Value} (hl : h.IsList l items) : ∃ n dd sl, h.get? l = some { cls := .type "list", dict := dd, data := .seq items n, slots := sl } := by
  obtain ⟨⟨cls, dd, data, sl⟩, ho, hc, n, hd⟩ := hl
  simp only at hc hd
  subst hc hd
  exact ⟨n, dd, sl, ho⟩
theorem all_drop {N : Nat} {e : Nat → Bool} {i : Nat} (hp : ∀ j, j < i → e j = true) (hi : i < N) (hf : e i = false) : (List.range N).all e = false := by
  rw [List.all_eq_false]
  exact ⟨i, List.mem_range.mpr hi, by rw [hf]; exact Bool.false_ne_true⟩
theorem all_full {N : Nat} {e : Nat → Bool} (hp : ∀ j, j < N → e j = true) : (List.range N).all e = true := by
  rw [List.all_eq_true]
  intro x hx
  exact hp x (List.mem_range.mp hx)
theorem eq_loopB (l b : Addr) (N : Nat) (e : Nat → Bool) (I : Shared → Prop) (hl : ListJ prog w A (fun e s' => R (.error e) s') l b N e I)
    (fin : ∀ s, I s → R (.ok (.ret (.bool ((List.range N).all e)))) s) (k : Nat) :
    ∀ i : Nat, N - i = k → i ≤ N → (∀ j, j < i → e j = true) → ∀ s, I s →
      wpAny (model prog w) A.in1 (Builtin.«list.__eq__.loop» ⟨[.ref l, .ref b, rawInt i, rawInt 2], []⟩) (FinOf prog w A R) (fun e s' => R (.error e) s') s := by
  induction k with
  | zero =>
    intro i hk hi hp s h
    obtain ⟨items, items2, hl1', hb1', hs1, hs2, _⟩ := hl _ h
    obtain ⟨n, dd, sl, hl1⟩ := isList_obj hl1'
    obtain ⟨n2, dd2, sl2, hb1⟩ := isList_obj hb1'
    have hi' : i = N := by omega
    have hR : R (.ok (.ret (.bool true))) s := by
      have z := fin s h
      rw [all_full (fun j hj => hp j (by omega))] at z
      exact z
    obtain ⟨hp', g, d, tk, os⟩ := s
    wp_walk using wpAny_loadPart' hl1, wpAny_loadPart' hb1
    have hi1 : items[((i : Nat) : Int).toNat]? = none := by simp; omega
    have hi2 : items2[((i : Nat) : Int).toNat]? = none := by simp; omega
    rw [hi1, hi2]
    wp_walk using wpAny_loadPart' hl1, wpAny_loadPart' hb1
    show R (.ok (.ret (.bool (items.size == items2.size)))) _
    rw [hs1, hs2]
    simpa using hR
  | succ k ih =>
    intro i hk hi hp s h
    obtain ⟨items, items2, hl1', hb1', hs1, hs2, turn⟩ := hl _ h
    obtain ⟨n, dd, sl, hl1⟩ := isList_obj hl1'
    obtain ⟨n2, dd2, sl2, hb1⟩ := isList_obj hb1'
    have hlt : i < items.size := by omega
    have hlt2 : i < items2.size := by omega
    have ht := turn i hlt hlt2
    obtain ⟨hp', g, d, tk, os⟩ := s
    wp_walk using wpAny_loadPart' hl1, wpAny_loadPart' hb1
    have hi1 : items[((i : Nat) : Int).toNat]? = some items[i] := by simp [hlt]
    have hi2 : items2[((i : Nat) : Int).toNat]? = some items2[i] := by simp [hlt2]
    have hc : ((i : Int) + 1) = ((i + 1 : Nat) : Int) := by omega
    rw [hi1, hi2]
    refine wpAny_bind (wpAny_mono ht (fun r s2 h2 => ?_) fun _ _ x => x)
    obtain ⟨hr, h2⟩ := h2
    subst hr
    obtain ⟨items3, items4, hl3', hb3', hs3, hs4, _⟩ := hl _ h2
    obtain ⟨n3, dd3, sl3, hl3⟩ := isList_obj hl3'
    obtain ⟨n4, dd4, sl4, hb3⟩ := isList_obj hb3'
    have fin2 := fin s2 h2
    cases hei : e i with
    | true =>
      have hrec := ih (i + 1) (by omega) (by omega) (fun j hj => by
        rcases Nat.lt_succ_iff_lt_or_eq.mp hj with z | z
        · exact hp j z
        · rw [z]; exact hei) s2 h2
      obtain ⟨hp2, g2, d2, tk2, os2⟩ := s2
      wp_walk
      rw [hc]
      exact ⟨plainId_quiet plain_eq_loop _, codeAny_builtin entry_eq_loop (by
        rw [Around.under_plainId plain_eq_loop _]
        exact hrec)⟩
    | false =>
      rw [all_drop hp (by omega) hei] at fin2
      have hj1 : items3[((i : Nat) : Int).toNat]? = some (items3[i]'(by omega)) := by simp <;> omega
      have hj2 : items4[((i : Nat) : Int).toNat]? = some (items4[i]'(by omega)) := by simp <;> omega
      obtain ⟨hp2, g2, d2, tk2, os2⟩ := s2
      wp_walk using wpAny_loadPart' hl3, wpAny_loadPart' hb3
      rw [hj1, hj2]
      wp_walk
      simpa using fin2
theorem list_eqB (l b : Addr) (N : Nat) (e : Nat → Bool) (I : Shared → Prop) (hl : ListJ prog w A (fun e s' => R (.error e) s') l b N e I)
    (fin : ∀ s, I s → R (.ok (.ret (.bool ((List.range N).all e)))) s) {s : Shared} (h : I s) :
    wpAny (model prog w) A.in1 (Builtin.«list.__eq__» ⟨[.ref l, .ref b], []⟩) (FinOf prog w A R) (fun e s' => R (.error e) s') s := by
  obtain ⟨items, items2, hl1', hb1', hs1, hs2, _⟩ := hl _ h
  obtain ⟨n, dd, sl, hl1⟩ := isList_obj hl1'
  obtain ⟨n2, dd2, sl2, hb1⟩ := isList_obj hb1'
  have hrec := eq_loopB (A := A) (R := R) l b N e I hl fin _ 0 rfl (Nat.zero_le _) (fun j hj => absurd hj (Nat.not_lt_zero j)) s h
  obtain ⟨hp, g, d, tk, os⟩ := s
  have f3 := AutoSeq1.sub_list_list
  have hne : ¬ (items.size != items2.size) = true := by simp [hs1, hs2]
  wp_walk using wpAny_loadPart' hl1, wpAny_loadPart' hb1
  exact ⟨plainId_quiet plain_eq_loop _, codeAny_builtin entry_eq_loop (by
    rw [Around.under_plainId plain_eq_loop _]
    exact hrec)⟩
theorem tuple_eqB (l b : Addr) (items items2 : Array Value) (n n2 : Nat) (dd dd2 : Option Addr) (sl sl2 : Array (Option Value)) (e : Nat → Bool) (I : Shared → Prop)
    (turn : ∀ i (h1 : i < items.size) (h2 : i < items2.size) s, I s → wpAny (model prog w) A.in1 (eqBool items[i] items2[i]) (fun r s' => r = e i ∧ I s') (fun e s' => R (.error e) s') s)
    (fin : ∀ s, I s → R (.ok (.ret (.bool ((List.range (min items.size items2.size)).all e && items.size == items2.size)))) s) {s : Shared} (hl1 : s.heap.get? l = some { cls := .type "tuple", dict := dd, data := .seq items n, slots := sl }) (hb1 : s.heap.get? b = some { cls := .type "tuple", dict := dd2, data := .seq items2 n2, slots := sl2 }) (h : I s) :
    wpAny (model prog w) A.in1 (Builtin.«tuple.__eq__» ⟨[.ref l, .ref b], []⟩) (FinOf prog w A R) (fun e s' => R (.error e) s') s := by
  have f2 := AutoSeq1.sub_tuple_tuple
  have hZ : (items.toList.zip items2.toList).length = min items.size items2.size := by simp
  have h0 := h
  obtain ⟨hp, g, d, tk, os⟩ := s
  wp_walk using wpAny_loadPart' hl1, wpAny_loadPart' hb1, wpAny_forIn_list _ (fun rest b s' => b.1 = none ∧ ∃ i, rest = (items.toList.zip items2.toList).drop i ∧ (∀ j, j < i → e j = true) ∧ i ≤ min items.size items2.size ∧ I s') _
  case turn =>
    rintro ⟨y, x⟩ rest b s' ⟨hb', i, hz, hpre, hi, hI⟩
    have hlt : i < (items.toList.zip items2.toList).length := by
      rcases Nat.lt_or_ge i (items.toList.zip items2.toList).length with h' | h'
      · exact h'
      · rw [List.drop_of_length_le h'] at hz; cases hz
    have hm : i < min items.size items2.size := hZ ▸ hlt
    have h1 : i < items.size := Nat.lt_of_lt_of_le hm (Nat.min_le_left _ _)
    have h2 : i < items2.size := Nat.lt_of_lt_of_le hm (Nat.min_le_right _ _)
    rw [List.drop_eq_getElem_cons hlt] at hz
    injection hz with hyx hrest
    have hy : y = items[i] := by have := congrArg Prod.fst hyx; simpa using this
    have hx : x = items2[i] := by have := congrArg Prod.snd hyx; simpa using this
    subst hy hx
    refine wpAny_bind (wpAny_mono (turn i h1 h2 s' hI) (fun r s2 q2 => ?_) fun _ _ x => x)
    obtain ⟨hr, q2⟩ := q2
    subst hr
    cases hei : e i with
    | true =>
      wp_walk
      exact ⟨rfl, i + 1, hrest, fun j hj => by
        rcases Nat.lt_succ_iff_lt_or_eq.mp hj with z | z
        · exact hpre j z
        · rw [z]; exact hei, hm, q2⟩
    | false =>
      have hR := fin s2 q2
      rw [all_drop hpre hm hei] at hR
      wp_walk
      simpa using hR
  case fin =>
    rintro ⟨b1, b2⟩ s' ⟨hb', i, hz, hpre, hi, hI⟩
    simp only at hb'
    subst hb'
    have hge : min items.size items2.size ≤ i := by
      rcases Nat.lt_or_ge i (items.toList.zip items2.toList).length with h' | h'
      · rw [List.drop_eq_getElem_cons h'] at hz; cases hz
      · exact hZ ▸ h'
    have hR := fin s' hI
    rw [all_full (fun j hj => hpre j (by omega))] at hR
    wp_walk
    simpa [Builtin.Tuple.tupleCompareSizes] using hR
  case h =>
    exact ⟨rfl, 0, rfl, fun j hj => absurd hj (Nat.not_lt_zero j), Nat.zero_le _, h0⟩
end
section
variable {prog : Program} {w : World} {A : Around} {E : Value → Shared → Prop} {s : Shared}
theorem call_here {T : String} {name : Str} {id : String} {B : Builtin} {self : Value} {rest : List Value} {Q : Value → Shared → Prop} (slot : Slot T name id) (hT : s.TypeIs self T)
    (entry : entryFor table id = some B) (args : argsOk id ⟨self :: rest, []⟩)
    (h : wpAny (model prog w) A.in1 (B ⟨self :: rest, []⟩) (FinOf prog w A (wants Q E)) (fun e s' => wants Q E (.error e) s') s) :
    wpAny (model prog w) A (call (.builtin id) (self :: rest)) Q E s :=
  wpAny_call (codeAny_call_builtin slot.plain entry (slot.check _ _ _ _ _ _ _ _ hT args h))
theorem rc_listB {l b : Addr} {N : Nat} {e : Nat → Bool} {Q : Value → Shared → Prop} (hu : A.units < cLine) (I : Shared → Prop) (hl : ListJ prog w A E l b N e I)
    (fin : ∀ s, I s → Q (.bool ((List.range N).all e)) s) (h : I s) : wpAny (model prog w) A (richCompare .Eq (.ref l) (.ref b)) Q E s := by
  obtain ⟨items, items2, hl1', hb1', _, _, _⟩ := hl _ h
  obtain ⟨n, dd, sl, hl1⟩ := isList_obj hl1'
  obtain ⟨n2, dd2, sl2, hb1⟩ := isList_obj hb1'
  refine wpAny_richCompare_same_room (op := .Eq) ⟨_, hl1, rfl⟩ ⟨_, hb1, rfl⟩ F.slot_list_eq (call_here F.slot_list_eq ⟨_, hl1, rfl⟩ F.entry_list_eq (F.args_list_eq_2 _ _) ?_) hu
  exact list_eqB (R := wants (fun v s' => v ≠ .notImplemented ∧ Q v s') E) l b N e I hl (fun s' q => ⟨(fun x => nomatch x), fin s' q⟩) h
theorem rc_tupB {l b : Addr} {items items2 : Array Value} {e : Nat → Bool} {Q : Value → Shared → Prop} (hu : A.units < cLine) (I : Shared → Prop)
    (hl : s.heap.IsTuple l items) (hb : s.heap.IsTuple b items2)
    (turn : ∀ i (h1 : i < items.size) (h2 : i < items2.size) s, I s → wpAny (model prog w) A.in1 (eqBool items[i] items2[i]) (fun r s' => r = e i ∧ I s') E s)
    (fin : ∀ s, I s → Q (.bool ((List.range (min items.size items2.size)).all e && items.size == items2.size)) s) (h : I s) : wpAny (model prog w) A (richCompare .Eq (.ref l) (.ref b)) Q E s := by
  obtain ⟨⟨cls, dd, data, sl⟩, ho, hc, n, hd⟩ := id hl
  obtain ⟨⟨cls2, dd2, data2, sl2⟩, ho2, hc2, n2, hd2⟩ := id hb
  simp only at hc hd hc2 hd2
  subst hc hd hc2 hd2
  refine wpAny_richCompare_same_room (op := .Eq) ⟨_, ho, rfl⟩ ⟨_, ho2, rfl⟩ F.slot_tuple_eq (call_here F.slot_tuple_eq ⟨_, ho, rfl⟩ F.entry_tuple_eq (F.args_tuple_eq_2 _ _) ?_) hu
  exact tuple_eqB (R := wants (fun v s' => v ≠ .notImplemented ∧ Q v s') E) l b items items2 n n2 dd dd2 sl sl2 e I turn (fun s' q => ⟨(fun x => nomatch x), fin s' q⟩) ho ho2 h
/-- == of two values inside a builtin, by their rich comparison -/
theorem eqBool_B {u v : Value} {Q : Bool → Shared → Prop} (hne : (u == v) = false) (hf : ∀ a t b t', u = .float a t → v = .float b t' → False) (h : wpAny (model prog w) A (richCompare .Eq u v) (fun v s' => ∃ r, v = .bool r ∧ Q r s') E s) : wpAny (model prog w) A (eqBool u v) Q E s := by
  unfold eqBool
  refine wpAny_holding ?_
  rw [if_neg (by rw [hne]; exact Bool.false_ne_true)]
  have z : wpAny (model prog w) A (do let r ← richCompare .Eq u v; truthOfDropped r) Q E s := by
    refine wpAny_bind (wpAny_mono h (fun v s' hv => ?_) fun _ _ x => x)
    obtain ⟨r, rfl, q⟩ := hv
    exact wpAny_truthy_bool q
  cases u <;> cases v <;> first | exact z | exact (hf _ _ _ _ rfl rfl).elim
end
end LxE
namespace LxE
open PySem PySem.SeqAt
open AutoSeq1 (wpAny_loadPart')
open MeetsSeq MeetsSeq2 MeetsSeq3 SeqRoads2
section
variable {prog : Program} {w : World} {A : Around} {E : Value → Shared → Prop} {s : Shared}
/-- b is no instance of T -/
def NotInst (prog : Program) (w : World) (s : Shared) (b : Value) (T : String) : Prop := ∀ (A : Around) (E : Value → Shared → Prop) (Q : Bool → Shared → Prop), Q false s → wpAny (model prog w) A (isInstance b (.type T)) Q E s
theorem list_declinesI {l b : Addr} {items : Array Value} {n : Nat} {dd : Option Addr} {sl : Array (Option Value)} {R : Fin → Shared → Prop} (hl : s.heap.get? l = some { cls := .type "list", dict := dd, data := .seq items n, slots := sl }) (hI : NotInst prog w s (.ref b) "list")
    (h : R (.done (.ret .notImplemented)) s) : wpAny (model prog w) A (Builtin.«list.__eq__» ⟨[.ref l, .ref b], []⟩) R E s := by
  obtain ⟨hp, g, d, tk, os⟩ := s
  have hI' := hI
  unfold NotInst at hI'
  wp_walk using wpAny_loadPart' hl, hI'
  exact h
theorem tuple_declinesI {l b : Addr} {items : Array Value} {n : Nat} {dd : Option Addr} {sl : Array (Option Value)} {R : Fin → Shared → Prop} (hl : s.heap.get? l = some { cls := .type "tuple", dict := dd, data := .seq items n, slots := sl }) (hI : NotInst prog w s (.ref b) "tuple")
    (h : R (.done (.ret .notImplemented)) s) : wpAny (model prog w) A (Builtin.«tuple.__eq__» ⟨[.ref l, .ref b], []⟩) R E s := by
  obtain ⟨hp, g, d, tk, os⟩ := s
  have hI' := hI
  unfold NotInst at hI'
  wp_walk using wpAny_loadPart' hl, hI'
  exact h
theorem int_declinesI {i : Int} {u : Tok} {b C dx : Addr} {R : Fin → Shared → Prop} (hb : s.heap.get? b = some (PySem.W.instObj C dx)) (h : R (.done (.ret .notImplemented)) s) : wpAny (model prog w) A (Builtin.«int.__eq__» ⟨[.int i u, .ref b], []⟩) R E s := by
  obtain ⟨hp, g, d, tk, os⟩ := s
  wp_walk using wpAny_loadPart' hb, wpAny_load hb
  exact h
theorem bool_declinesI {i : Bool} {b C dx : Addr} {R : Fin → Shared → Prop} (hb : s.heap.get? b = some (PySem.W.instObj C dx)) (h : R (.done (.ret .notImplemented)) s) : wpAny (model prog w) A (Builtin.«int.__eq__» ⟨[.bool i, .ref b], []⟩) R E s := by
  obtain ⟨hp, g, d, tk, os⟩ := s
  wp_walk using wpAny_loadPart' hb, wpAny_load hb
  exact h
theorem str_declinesI {i : Str} {u : Tok} {b C dx : Addr} {R : Fin → Shared → Prop} (hb : s.heap.get? b = some (PySem.W.instObj C dx)) (h : R (.done (.ret .notImplemented)) s) : wpAny (model prog w) A (Builtin.«str.__eq__» ⟨[.str i u, .ref b], []⟩) R E s := by
  obtain ⟨hp, g, d, tk, os⟩ := s
  wp_walk using wpAny_loadPart' hb, wpAny_load hb
  exact h
end
section
open PySem.W
variable {prog : Program} {w : World} {A : Around} {E : Value → Shared → Prop} {s : Shared} {K : Frag} {y C f : Addr} {oy : Obj} {od : Option Obj} {a : Value}
theorem notInst_of {T : String} (X : K.In s.heap) (I : InstAt s.heap y oy C od) (hs : subIn K (.ref C) (.type T) = some false) : NotInst prog w s (.ref y) T := fun A E Q q => by
  have L : Looks (model prog w) s.heap (isInstance (.ref y) (.type T)) false := I.type.andThen (looks_subIn X hs)
  exact L.here q
theorem cmp_back {Ta ida : String} {Q : Value → Shared → Prop} (hu : A.units < cLine) (X : K.In s.heap) (I : InstAt s.heap y oy C od) (ha : s.TypeIs a Ta) (hsub : subIn K (.ref C) (.type Ta) = some false) (slot : Slot Ta "__eq__" ida)
    (hc1 : ∀ Q' : Value → Shared → Prop, Q' .notImplemented s → wpAny (model prog w) A (call (.builtin ida) [a, .ref y]) Q' E s)
    (hs : findIn K (.ref C) "__eq__" = some (some (.ref f))) (hf : isFn K (.ref f) = true)
    (h : wpAny (model prog w) A (call (.ref f) [.ref y, a]) (CmpBack Q) E s) : wpAny (model prog w) A (richCompare .Eq a (.ref y)) Q E s := by
  have one : wpAny (model prog w) A (tryCompare (.ref y) "__eq__" a) (fun r s' => ∃ v, r = some v ∧ Q v s') E s := by
    unfold tryCompare
    refine wpAny_bind (ifBound_K X I hs hf (wpAny_mono h (fun v s' hv => ?_) fun _ _ e => e))
    cases v <;> first | exact hv.elim | exact wpAny_pure ⟨_, rfl, hv⟩
  unfold richCompare
  simp only [ha.oneThing_none, cmpInfo]
  refine wpAny_holding (wpAny_bind (wpAny_cRoomFor hu ?_))
  refine wpAny_bind (wpAny_typeOf ha (wpAny_bind (I.type.here ?_)))
  have hne : (Value.type Ta != Value.ref C) = true := by first | rfl | simp
  simp only [hne, if_true]
  refine wpAny_bind ((looks_subIn X hsub).here ?_)
  simp only [Bool.false_eq_true, if_false, Bool.not_false, if_true]
  refine wpAny_bind (m := tryCompare a _ _) (wpAny_tryCompare_declines ha slot (hc1 _ ⟨rfl, ?_⟩))
  refine wpAny_bind (wpAny_mono one (fun r s' z => ?_) fun _ _ e => e)
  obtain ⟨v, rfl, hq⟩ := z
  exact wpAny_pure hq
end
end LxE
namespace L2
open PySem PySem.Spec PyProof.Rows
/-- data and own objects, told without the heap -/
inductive Dt where
  | non | bl (b : Bool) | int (i : Int) | str (s : Str)
  | lst (ds : List Dt) | tup (ds : List Dt) | dic (ks : List Key) (ds : List Dt) | ins (C : Addr) (fs : List Str) (ds : List Dt)
mutual
def Is (K : PySem.W.Frag) (H : Hp) : Dt → V → Prop
  | .non, v => v = .non
  | .bl b, v => v = .bl b
  | .int i, v => v = .int i
  | .str s, v => v = .str s
  | .lst ds, v => ∃ a xs, v = .ref a ∧ SqL K H a xs ∧ IsL K H ds xs
  | .tup ds, v => ∃ a xs, v = .ref a ∧ SqT K H a xs ∧ IsL K H ds xs
  | .dic ks ds, v => ∃ a kvs, v = .ref a ∧ H a = some (.dK kvs) ∧ kvs.map (·.1) = ks ∧ IsL K H ds (kvs.map (·.2))
  | .ins C fs ds, v => ∃ a dx kvs, v = .ref a ∧ H a = some (.ins C dx kvs) ∧ kvs.map (·.1) = fs ∧ IsL K H ds (kvs.map (·.2))
def IsL (K : PySem.W.Frag) (H : Hp) : List Dt → List V → Prop
  | [], vs => vs = []
  | d :: ds, vs => ∃ v r, vs = v :: r ∧ Is K H d v ∧ IsL K H ds r
end
mutual
theorem Is.ext {K : PySem.W.Frag} {H H' : Hp} (e : Ext H H') : ∀ {d : Dt} {v : V}, Is K H d v → Is K H' d v
  | .non, _, h => h
  | .bl _, _, h => h
  | .int _, _, h => h
  | .str _, _, h => h
  | .lst _, _, ⟨a, xs, h1, h2, h3⟩ => ⟨a, xs, h1, h2.ext e, IsL.ext e h3⟩
  | .tup _, _, ⟨a, xs, h1, h2, h3⟩ => ⟨a, xs, h1, h2.ext e, IsL.ext e h3⟩
  | .dic _ _, _, ⟨a, kvs, h1, h2, h3, h4⟩ => ⟨a, kvs, h1, e _ _ h2, h3, IsL.ext e h4⟩
  | .ins _ _ _, _, ⟨a, dx, kvs, h1, h2, h3, h4⟩ => ⟨a, dx, kvs, h1, e _ _ h2, h3, IsL.ext e h4⟩
theorem IsL.ext {K : PySem.W.Frag} {H H' : Hp} (e : Ext H H') : ∀ {ds : List Dt} {vs : List V}, IsL K H ds vs → IsL K H' ds vs
  | [], _, h => h
  | _ :: _, _, ⟨v, r, h1, h2, h3⟩ => ⟨v, r, h1, Is.ext e h2, IsL.ext e h3⟩
end
theorem IsL.length {K : PySem.W.Frag} {H : Hp} : ∀ {ds : List Dt} {vs : List V}, IsL K H ds vs → ds.length = vs.length
  | [], _, h => by rw [show _ = [] from h] <;> rfl
  | _ :: _, _, ⟨v, r, h1, h2, h3⟩ => by rw [h1, List.length_cons, List.length_cons, IsL.length h3]
theorem IsL.get {K : PySem.W.Frag} {H : Hp} : ∀ {ds : List Dt} {vs : List V} {i : Nat} {v : V}, IsL K H ds vs → vs[i]? = some v → ∃ d, ds[i]? = some d ∧ Is K H d v
  | [], _, i, v, h, e => by rw [show _ = [] from h] at e; simp at e
  | d :: _, _, 0, v, ⟨w, r, h1, h2, h3⟩, e => by
    rw [h1] at e
    cases e
    exact ⟨d, rfl, h2⟩
  | _ :: _, _, i + 1, v, ⟨w, r, h1, h2, h3⟩, e => by
    rw [h1] at e
    exact IsL.get (i := i) h3 e
theorem IsL.get' {K : PySem.W.Frag} {H : Hp} : ∀ {ds : List Dt} {vs : List V} {i : Nat} {d : Dt}, IsL K H ds vs → ds[i]? = some d → ∃ v, vs[i]? = some v ∧ Is K H d v
  | [], _, i, d, h, e => by simp at e
  | d :: _, _, 0, d', ⟨w, r, h1, h2, h3⟩, e => by
    rw [h1]
    cases e
    exact ⟨w, rfl, h2⟩
  | _ :: _, _, i + 1, v, ⟨w, r, h1, h2, h3⟩, e => by
    rw [h1]
    exact IsL.get' (i := i) h3 e
theorem IsL.nil {K : PySem.W.Frag} {H : Hp} : IsL K H [] [] := rfl
theorem IsL.cons {K : PySem.W.Frag} {H : Hp} {d : Dt} {v : V} {ds : List Dt} {vs : List V} (h : Is K H d v) (t : IsL K H ds vs) : IsL K H (d :: ds) (v :: vs) := ⟨v, vs, rfl, h, t⟩
theorem IsL.append {K : PySem.W.Frag} {H : Hp} : ∀ {ds es : List Dt} {vs ws : List V}, IsL K H ds vs → IsL K H es ws → IsL K H (ds ++ es) (vs ++ ws)
  | [], _, _, _, h, t => by rw [show _ = [] from h]; exact t
  | _ :: _, _, _, _, ⟨v, r, h1, h2, h3⟩, t => by rw [h1]; exact ⟨v, _, rfl, h2, IsL.append h3 t⟩
/-- ints -/
theorem isL_ints {K : PySem.W.Frag} {H : Hp} : ∀ ns : List Int, IsL K H (ns.map Dt.int) (ns.map V.int)
  | [] => rfl
  | n :: r => ⟨_, _, rfl, rfl, isL_ints r⟩
theorem of_isL_ints {K : PySem.W.Frag} {H : Hp} : ∀ {ns : List Int} {vs : List V}, IsL K H (ns.map Dt.int) vs → vs = ns.map V.int
  | [], _, h => h
  | n :: r, _, ⟨v, w, h1, h2, h3⟩ => by rw [h1, show v = V.int n from h2, of_isL_ints h3] <;> rfl
def look (ls : List Key) (es : List Dt) (k : Key) : Option Dt := ((ls.zip es).find? fun p => decide (p.1 = k)).map (·.2)
mutual
def deq : Dt → Dt → Bool
  | .non, .non => true
  | .bl a, .bl b => a == b
  | .bl a, .int b => (if a then 1 else 0) == b
  | .int a, .bl b => a == (if b then 1 else 0)
  | .int a, .int b => a == b
  | .str a, .str b => a == b
  | .lst a, .lst b => deqL a b
  | .tup a, .tup b => deqL a b
  | .dic ks ds, .dic ls es => ks.length == ls.length && deqD ks ds ls es
  | .ins C _ a, .ins C' _ b => C == C' && deqL a b
  | _, _ => false
def deqL : List Dt → List Dt → Bool
  | [], [] => true
  | a :: as, b :: bs => deq a b && deqL as bs
  | _, _ => false
def deqD : List Key → List Dt → List Key → List Dt → Bool
  | k :: ks, d :: ds, ls, es => (match look ls es k with | some e => deq d e | none => false) && deqD ks ds ls es
  | _, _, _, _ => true
end
mutual
def dep : Dt → Nat
  | .lst ds => depL ds + 1
  | .tup ds => depL ds + 1
  | .dic _ ds => depL ds + 1
  | .ins _ _ ds => depL ds + 1
  | _ => 0
def depL : List Dt → Nat
  | [] => 0
  | d :: ds => max (dep d) (depL ds)
end
theorem depL_get : ∀ {ds : List Dt} {i : Nat} {d : Dt}, ds[i]? = some d → dep d ≤ depL ds
  | [], _, _, e => by simp at e
  | a :: ds, 0, d, e => by cases e; exact Nat.le_max_left _ _
  | a :: ds, i + 1, d, e => Nat.le_trans (depL_get (i := i) e) (Nat.le_max_right _ _)
/-- the item's answer -/
def eAt (ds es : List Dt) (i : Nat) : Bool := match ds[i]?, es[i]? with | some d, some e => deq d e | _, _ => true
theorem range_all_succ (n : Nat) (f : Nat → Bool) : (List.range (n + 1)).all f = (f 0 && (List.range n).all fun i => f (i + 1)) := by
  rw [List.range_succ_eq_map, List.all_cons, List.all_map]
  rfl
theorem deqL_eq : ∀ ds es : List Dt, deqL ds es = ((List.range (min ds.length es.length)).all (eAt ds es) && ds.length == es.length)
  | [], [] => by simp [deqL]
  | [], _ :: _ => by simp [deqL]
  | _ :: _, [] => by simp [deqL]
  | a :: as, b :: bs => by
    have ih := deqL_eq as bs
    have h1 : min (a :: as).length (b :: bs).length = min as.length bs.length + 1 := by simp [Nat.succ_min_succ]
    rw [h1, range_all_succ]
    show (deq a b && deqL as bs) = _
    rw [ih]
    have h2 : (fun i => eAt (a :: as) (b :: bs) (i + 1)) = eAt as bs := rfl
    have h3 : eAt (a :: as) (b :: bs) 0 = deq a b := rfl
    rw [h2, h3, List.length_cons, List.length_cons, Bool.and_assoc]
    congr 2
    simp
mutual
def pureD : Dt → Bool
  | .lst ds => pureL ds
  | .tup ds => pureL ds
  | .dic _ ds => pureL ds
  | .ins _ _ _ => false
  | _ => true
def pureL : List Dt → Bool
  | [] => true
  | d :: ds => pureD d && pureL ds
end
theorem pureL_get : ∀ {ds : List Dt} {i : Nat} {d : Dt}, pureL ds = true → ds[i]? = some d → pureD d = true
  | [], _, _, _, e => by simp at e
  | a :: ds, 0, d, h, e => by cases e; exact (Bool.and_eq_true_iff.mp h).1
  | a :: ds, i + 1, d, h, e => pureL_get (i := i) (Bool.and_eq_true_iff.mp h).2 e
end L2
namespace LxE
open PySem PySem.SeqAt
open AutoSeq1 (wpAny_loadPart')
open MeetsSeq MeetsSeq2 MeetsSeq3 SeqRoads2
section
variable {prog : Program} {w : World} {A : Around} {E : Value → Shared → Prop} {s : Shared}
theorem notInst_ty {v : Value} {T U : String} (hT : s.TypeIs v T) (h : isSubtype (.type T) (.type U) = pure false) : NotInst prog w s v U := fun _ _ _ q => wpAny_isInstance hT h q
theorem dict_declines {a : Addr} {v : Value} {R : Fin → Shared → Prop} (ha : s.TypeIs (.ref a) "dict") (hI : NotInst prog w s v "dict") (h : R (.done (.ret .notImplemented)) s) : wpAny (model prog w) A (Builtin.«dict.__eq__» ⟨[.ref a, v], []⟩) R E s := by
  show wpAny _ _ (Builtin.Dict.dictSlotArgs "__eq__" ⟨[.ref a, v], []⟩ >>= _) _ _ s
  refine wpAny_bind ?_
  unfold Builtin.Dict.dictSlotArgs
  refine wpAny_bind (wpAny_notOrdered_dict ha ?_)
  show wpAny _ _ (pure (Value.ref a, v)) _ _ s
  refine wpAny_pure ?_
  refine wpAny_bind (hI _ _ _ ?_)
  simp only [Bool.not_false, if_true]
  wp_walk
  exact h
theorem int_declinesD {i : Int} {u : Tok} {b : Addr} {o : Obj} {es : Array DictEntry} {ep : Nat} {R : Fin → Shared → Prop} (hb : s.heap.get? b = some o) (hd : o.data = .dict es ep) (h : R (.done (.ret .notImplemented)) s) : wpAny (model prog w) A (Builtin.«int.__eq__» ⟨[.int i u, .ref b], []⟩) R E s := by
  obtain ⟨hp, g, d, tk, os⟩ := s
  obtain ⟨cl, dd, dt, sl⟩ := o
  simp only at hd
  subst hd
  wp_walk using wpAny_loadPart' hb, wpAny_load hb
  exact h
theorem bool_declinesD {i : Bool} {b : Addr} {o : Obj} {es : Array DictEntry} {ep : Nat} {R : Fin → Shared → Prop} (hb : s.heap.get? b = some o) (hd : o.data = .dict es ep) (h : R (.done (.ret .notImplemented)) s) : wpAny (model prog w) A (Builtin.«int.__eq__» ⟨[.bool i, .ref b], []⟩) R E s := by
  obtain ⟨hp, g, d, tk, os⟩ := s
  obtain ⟨cl, dd, dt, sl⟩ := o
  simp only at hd
  subst hd
  wp_walk using wpAny_loadPart' hb, wpAny_load hb
  exact h
theorem str_declinesD {i : Str} {u : Tok} {b : Addr} {o : Obj} {es : Array DictEntry} {ep : Nat} {R : Fin → Shared → Prop} (hb : s.heap.get? b = some o) (hd : o.data = .dict es ep) (h : R (.done (.ret .notImplemented)) s) : wpAny (model prog w) A (Builtin.«str.__eq__» ⟨[.str i u, .ref b], []⟩) R E s := by
  obtain ⟨hp, g, d, tk, os⟩ := s
  obtain ⟨cl, dd, dt, sl⟩ := o
  simp only at hd
  subst hd
  wp_walk using wpAny_loadPart' hb, wpAny_load hb
  exact h
/-- a built-in == that declines, as a call -/
theorem callFin {self : Value} {rest : List Value} {T : String} {name : Str} {id : String} {B : Builtin} (slot : Slot T name id) (hT : s.TypeIs self T) (entry : entryFor table id = some B) (args : argsOk id ⟨self :: rest, []⟩)
    (hB : ∀ (A : Around) (E : Value → Shared → Prop) (R : Fin → Shared → Prop), R (.done (.ret .notImplemented)) s → wpAny (model prog w) A (B ⟨self :: rest, []⟩) R E s) (Q' : Value → Shared → Prop) (q : Q' .notImplemented s) :
    wpAny (model prog w) A (call (.builtin id) (self :: rest)) Q' E s := call_here slot hT entry args (hB _ _ _ q)
end
end LxE
namespace LxE
open PySem PySem.SeqAt L2
open AutoSeq1 (wpAny_loadPart')
open MeetsSeq MeetsSeq2 MeetsSeq3 SeqRoads2
section
variable {prog : Program} {w : World} {A : Around} {E : Value → Shared → Prop} {s : Shared}
theorem isTup_obj {h : Heap} {l : Addr} {items : Array Value} (hl : h.IsTuple l items) : ∃ n dd sl, h.get? l = some { cls := .type "tuple", dict := dd, data := .seq items n, slots := sl } := by
  obtain ⟨⟨cls, dd, data, sl⟩, ho, hc, n, hd⟩ := hl
  simp only at hc hd
  subst hc hd
  exact ⟨n, dd, sl, ho⟩
theorem dict_obj {K : Type} [DecidableEq K] {knd : KeyKind prog w K} {h : Heap} {l : Addr} {kvs : List (K × Value)} (hl : h.DictOf knd l kvs) : ∃ (o : Obj) (es : Array DictEntry) (ep : Nat), h.get? l = some o ∧ o.data = .dict es ep := by
  obtain ⟨o, es, ep, ho, _, hd, _⟩ := hl
  exact ⟨o, es, ep, ho, hd⟩
theorem ti_list {l : Addr} {items : Array Value} (hl : s.heap.IsList l items) : s.TypeIs (.ref l) "list" := by
  obtain ⟨o, ho, hc, _⟩ := hl
  exact ⟨o, ho, hc⟩
theorem ti_tuple {l : Addr} {items : Array Value} (hl : s.heap.IsTuple l items) : s.TypeIs (.ref l) "tuple" := by
  obtain ⟨o, ho, hc, _⟩ := hl
  exact ⟨o, ho, hc⟩
theorem ne_data {h : Heap} {a b : Addr} {oa ob : Obj} (ha : h.get? a = some oa) (hb : h.get? b = some ob) (hd : oa.data ≠ ob.data) : a ≠ b := fun e => by
  subst e
  rw [ha] at hb
  cases hb
  exact hd rfl
theorem isSame_lst_dic {K : Type} [DecidableEq K] {knd : KeyKind prog w K} {a b : Addr} {items : Array Value} {kvs : List (K × Value)} {M : Model} {R : Bool → Shared → Prop} (h1 : s.heap.IsList a items) (h2 : s.heap.DictOf knd b kvs) (q : R false s) : wpAny M A (isSame (.ref a) (.ref b)) R E s := by
  obtain ⟨n, dd, sl, ho⟩ := isList_obj h1
  obtain ⟨o, es, ep, ho2, hd⟩ := dict_obj h2
  exact wpAny_isSame_ref_other (ne_data ho ho2 (by rw [hd]; exact fun z => nomatch z)) ho ho2 (by simp) q
theorem isSame_dic_lst {K : Type} [DecidableEq K] {knd : KeyKind prog w K} {a b : Addr} {items : Array Value} {kvs : List (K × Value)} {M : Model} {R : Bool → Shared → Prop} (h2 : s.heap.DictOf knd a kvs) (h1 : s.heap.IsList b items) (q : R false s) : wpAny M A (isSame (.ref a) (.ref b)) R E s := by
  obtain ⟨n, dd, sl, ho⟩ := isList_obj h1
  obtain ⟨o, es, ep, ho2, hd⟩ := dict_obj h2
  exact wpAny_isSame_ref_other' (ne_data ho2 ho (by rw [hd]; exact fun z => nomatch z)) ho2 ho (by simp) q
theorem isSame_tup_dic {K : Type} [DecidableEq K] {knd : KeyKind prog w K} {a b : Addr} {items : Array Value} {kvs : List (K × Value)} {M : Model} {R : Bool → Shared → Prop} (h1 : s.heap.IsTuple a items) (h2 : s.heap.DictOf knd b kvs) (q : R false s) : wpAny M A (isSame (.ref a) (.ref b)) R E s := by
  obtain ⟨n, dd, sl, ho⟩ := isTup_obj h1
  have ht := h2.typeIs
  obtain ⟨o, es, ep, ho2, hd⟩ := dict_obj h2
  obtain ⟨o', ho', hc⟩ := ht
  rw [ho2] at ho'
  cases ho'
  exact wpAny_isSame_ref_other' (ne_data ho ho2 (by rw [hd]; exact fun z => nomatch z)) ho ho2 (by rw [hc]; simp) q
theorem isSame_dic_tup {K : Type} [DecidableEq K] {knd : KeyKind prog w K} {a b : Addr} {items : Array Value} {kvs : List (K × Value)} {M : Model} {R : Bool → Shared → Prop} (h2 : s.heap.DictOf knd a kvs) (h1 : s.heap.IsTuple b items) (q : R false s) : wpAny M A (isSame (.ref a) (.ref b)) R E s := by
  obtain ⟨n, dd, sl, ho⟩ := isTup_obj h1
  have ht := h2.typeIs
  obtain ⟨o, es, ep, ho2, hd⟩ := dict_obj h2
  obtain ⟨o', ho', hc⟩ := ht
  rw [ho2] at ho'
  cases ho'
  exact wpAny_isSame_ref_other (ne_data ho2 ho (by rw [hd]; exact fun z => nomatch z)) ho2 ho (by rw [hc]; simp) q
end
def kd : Dt → Nat
  | .non => 0 | .bl _ => 1 | .int _ => 1 | .str _ => 2 | .lst _ => 3 | .tup _ => 4 | .dic _ _ => 5 | .ins _ _ _ => 6
def RcP (prog : Program) (w : World) (A : Around) (s : Shared) (u v : Value) (k : Bool) : Prop := ∀ (E Q : Value → Shared → Prop), Q (.bool k) s → wpAny (model prog w) A (richCompare .Eq u v) Q E s
theorem mis {X : Cx} {pins : List (Addr × Obj)} {σ : L2.St} {H : Hp} {s : Shared} {A : Around} (I : Inv X pins σ H s) (hu : A.units < cLine) {x y : V} {u v : Value} :
    ∀ (d e : Dt), Is X.K H d x → Is X.K H e y → RelV x u → RelV y v → kd d ≠ kd e → kd d ≠ 6 → kd e ≠ 6 → RcP X.prog X.w A s u v false
  | .non, .non, _, _, _, _, h, _, _ => absurd rfl h
  | .non, .bl b2, hd, he, rx, ry, _, _, _ => by
    cases (show x = V.non from hd)
    cases (show u = Value.none from rx)
    cases (show y = V.bl b2 from he)
    cases (show v = Value.bool b2 from ry)
    exact fun E Q q => RcAt.none_bool b2 X.prog X.w E Q q
  | .non, .int i2, hd, he, rx, ry, _, _, _ => by
    cases (show x = V.non from hd)
    cases (show u = Value.none from rx)
    cases (show y = V.int i2 from he)
    obtain ⟨t2, rfl⟩ := (show ∃ t, v = Value.int i2 t from ry)
    exact fun E Q q => RcAt.none_int i2 t2 X.prog X.w E Q q
  | .non, .str z2, hd, he, rx, ry, _, _, _ => by
    cases (show x = V.non from hd)
    cases (show u = Value.none from rx)
    cases (show y = V.str z2 from he)
    obtain ⟨t2, rfl⟩ := (show ∃ t, v = Value.str z2 t from ry)
    exact fun E Q q => RcAt.none_str z2 t2 X.prog X.w E Q q
  | .non, .lst ds2, hd, he, rx, ry, _, _, _ => by
    cases (show x = V.non from hd)
    cases (show u = Value.none from rx)
    obtain ⟨a2, xs2, ex2, hs2, _⟩ := he
    subst ex2
    cases (show v = Value.ref a2 from ry)
    obtain ⟨its2, _, p2, _⟩ := I.list hs2
    have o2 := p2.isList
    exact fun E Q q => RcAt.none_list o2 hu X.prog X.w E Q q
  | .non, .tup ds2, hd, he, rx, ry, _, _, _ => by
    cases (show x = V.non from hd)
    cases (show u = Value.none from rx)
    obtain ⟨a2, xs2, ex2, hs2, _⟩ := he
    subst ex2
    cases (show v = Value.ref a2 from ry)
    obtain ⟨its2, _, o2, _⟩ := I.tuple hs2
    exact fun E Q q => RcAt.none_tuple o2 hu X.prog X.w E Q q
  | .non, .dic ks2 ds2, hd, he, rx, ry, _, _, _ => by
    cases (show x = V.non from hd)
    cases (show u = Value.none from rx)
    obtain ⟨a2, xs2, ex2, hs2, _⟩ := he
    subst ex2
    cases (show v = Value.ref a2 from ry)
    obtain ⟨_, _, va2, _, o2⟩ := (show ObjOk X.prog X.w H s.heap a2 (.dK xs2) from I.hok a2 _ hs2)
    exact fun E Q q => rc_eq_decline_or (k := false) (show s.TypeIs Value.none "NoneType" from rfl) o2.typeIs (by decide) F.sub_dict_NoneType F.slot_NoneType_eq F.slot_dict_eq_refl
      (fun Q' q' => call_gives F.slot_NoneType_eq rfl F.entry_NoneType_eq (F.args_NoneType_eq_2 _ _) (NoneType___eq___none_ref_0 a2) q')
      (fun Q' q' => callFin F.slot_dict_eq_refl o2.typeIs F.entry_dict_eq (F.args_dict_eq_2 _ _) (fun _ _ _ z => dict_declines o2.typeIs (notInst_ty (show s.TypeIs Value.none "NoneType" from rfl) F.sub_NoneType_dict) z) Q' q')
      (fun _ q' => wpAny_of_eq (rfl : isSame Value.none (Value.ref a2) = pure false) q') (.inr hu) q
  | .bl b1, .non, hd, he, rx, ry, _, _, _ => by
    cases (show x = V.bl b1 from hd)
    cases (show u = Value.bool b1 from rx)
    cases (show y = V.non from he)
    cases (show v = Value.none from ry)
    exact fun E Q q => RcAt.bool_none b1 X.prog X.w E Q q
  | .bl b1, .bl b2, _, _, _, _, h, _, _ => absurd rfl h
  | .bl b1, .int i2, _, _, _, _, h, _, _ => absurd rfl h
  | .bl b1, .str z2, hd, he, rx, ry, _, _, _ => by
    cases (show x = V.bl b1 from hd)
    cases (show u = Value.bool b1 from rx)
    cases (show y = V.str z2 from he)
    obtain ⟨t2, rfl⟩ := (show ∃ t, v = Value.str z2 t from ry)
    exact fun E Q q => RcAt.bool_str b1 z2 t2 X.prog X.w E Q q
  | .bl b1, .lst ds2, hd, he, rx, ry, _, _, _ => by
    cases (show x = V.bl b1 from hd)
    cases (show u = Value.bool b1 from rx)
    obtain ⟨a2, xs2, ex2, hs2, _⟩ := he
    subst ex2
    cases (show v = Value.ref a2 from ry)
    obtain ⟨its2, _, p2, _⟩ := I.list hs2
    have o2 := p2.isList
    exact fun E Q q => RcAt.bool_list b1 o2 hu X.prog X.w E Q q
  | .bl b1, .tup ds2, hd, he, rx, ry, _, _, _ => by
    cases (show x = V.bl b1 from hd)
    cases (show u = Value.bool b1 from rx)
    obtain ⟨a2, xs2, ex2, hs2, _⟩ := he
    subst ex2
    cases (show v = Value.ref a2 from ry)
    obtain ⟨its2, _, o2, _⟩ := I.tuple hs2
    exact fun E Q q => RcAt.bool_tuple b1 o2 hu X.prog X.w E Q q
  | .bl b1, .dic ks2 ds2, hd, he, rx, ry, _, _, _ => by
    cases (show x = V.bl b1 from hd)
    cases (show u = Value.bool b1 from rx)
    obtain ⟨a2, xs2, ex2, hs2, _⟩ := he
    subst ex2
    cases (show v = Value.ref a2 from ry)
    obtain ⟨_, _, va2, _, o2⟩ := (show ObjOk X.prog X.w H s.heap a2 (.dK xs2) from I.hok a2 _ hs2)
    exact fun E Q q => rc_eq_decline_or (k := false) (show s.TypeIs (Value.bool b1) "bool" from rfl) o2.typeIs (by decide) F.sub_dict_bool F.slot_bool_eq F.slot_dict_eq_refl
      (fun Q' q' => callFin F.slot_bool_eq (show s.TypeIs (Value.bool b1) "bool" from rfl) F.entry_int_eq (F.args_int_eq_2 _ _) (fun _ _ _ z => (dict_obj o2).elim fun _ y => y.elim fun _ y => y.elim fun _ ho => bool_declinesD ho.1 ho.2 z) Q' q')
      (fun Q' q' => callFin F.slot_dict_eq_refl o2.typeIs F.entry_dict_eq (F.args_dict_eq_2 _ _) (fun _ _ _ z => dict_declines o2.typeIs (notInst_ty (show s.TypeIs (Value.bool b1) "bool" from rfl) F.sub_bool_dict) z) Q' q')
      (fun _ q' => wpAny_of_eq (rfl : isSame (Value.bool b1) (Value.ref a2) = pure false) q') (.inr hu) q
  | .int i1, .non, hd, he, rx, ry, _, _, _ => by
    cases (show x = V.int i1 from hd)
    obtain ⟨t1, rfl⟩ := (show ∃ t, u = Value.int i1 t from rx)
    cases (show y = V.non from he)
    cases (show v = Value.none from ry)
    exact fun E Q q => RcAt.int_none i1 t1 X.prog X.w E Q q
  | .int i1, .bl b2, _, _, _, _, h, _, _ => absurd rfl h
  | .int i1, .int i2, _, _, _, _, h, _, _ => absurd rfl h
  | .int i1, .str z2, hd, he, rx, ry, _, _, _ => by
    cases (show x = V.int i1 from hd)
    obtain ⟨t1, rfl⟩ := (show ∃ t, u = Value.int i1 t from rx)
    cases (show y = V.str z2 from he)
    obtain ⟨t2, rfl⟩ := (show ∃ t, v = Value.str z2 t from ry)
    exact fun E Q q => RcAt.int_str i1 t1 z2 t2 X.prog X.w E Q q
  | .int i1, .lst ds2, hd, he, rx, ry, _, _, _ => by
    cases (show x = V.int i1 from hd)
    obtain ⟨t1, rfl⟩ := (show ∃ t, u = Value.int i1 t from rx)
    obtain ⟨a2, xs2, ex2, hs2, _⟩ := he
    subst ex2
    cases (show v = Value.ref a2 from ry)
    obtain ⟨its2, _, p2, _⟩ := I.list hs2
    have o2 := p2.isList
    exact fun E Q q => RcAt.int_list i1 t1 o2 hu X.prog X.w E Q q
  | .int i1, .tup ds2, hd, he, rx, ry, _, _, _ => by
    cases (show x = V.int i1 from hd)
    obtain ⟨t1, rfl⟩ := (show ∃ t, u = Value.int i1 t from rx)
    obtain ⟨a2, xs2, ex2, hs2, _⟩ := he
    subst ex2
    cases (show v = Value.ref a2 from ry)
    obtain ⟨its2, _, o2, _⟩ := I.tuple hs2
    exact fun E Q q => RcAt.int_tuple i1 t1 o2 hu X.prog X.w E Q q
  | .int i1, .dic ks2 ds2, hd, he, rx, ry, _, _, _ => by
    cases (show x = V.int i1 from hd)
    obtain ⟨t1, rfl⟩ := (show ∃ t, u = Value.int i1 t from rx)
    obtain ⟨a2, xs2, ex2, hs2, _⟩ := he
    subst ex2
    cases (show v = Value.ref a2 from ry)
    obtain ⟨_, _, va2, _, o2⟩ := (show ObjOk X.prog X.w H s.heap a2 (.dK xs2) from I.hok a2 _ hs2)
    exact fun E Q q => rc_eq_decline_or (k := false) (show s.TypeIs (Value.int i1 t1) "int" from rfl) o2.typeIs (by decide) F.sub_dict_int F.slot_int_eq F.slot_dict_eq_refl
      (fun Q' q' => callFin F.slot_int_eq (show s.TypeIs (Value.int i1 t1) "int" from rfl) F.entry_int_eq (F.args_int_eq_2 _ _) (fun _ _ _ z => (dict_obj o2).elim fun _ y => y.elim fun _ y => y.elim fun _ ho => int_declinesD ho.1 ho.2 z) Q' q')
      (fun Q' q' => callFin F.slot_dict_eq_refl o2.typeIs F.entry_dict_eq (F.args_dict_eq_2 _ _) (fun _ _ _ z => dict_declines o2.typeIs (notInst_ty (show s.TypeIs (Value.int i1 t1) "int" from rfl) F.sub_int_dict) z) Q' q')
      (fun _ q' => wpAny_of_eq (rfl : isSame (Value.int i1 t1) (Value.ref a2) = pure false) q') (.inr hu) q
  | .str z1, .non, hd, he, rx, ry, _, _, _ => by
    cases (show x = V.str z1 from hd)
    obtain ⟨t1, rfl⟩ := (show ∃ t, u = Value.str z1 t from rx)
    cases (show y = V.non from he)
    cases (show v = Value.none from ry)
    exact fun E Q q => RcAt.str_none z1 t1 X.prog X.w E Q q
  | .str z1, .bl b2, hd, he, rx, ry, _, _, _ => by
    cases (show x = V.str z1 from hd)
    obtain ⟨t1, rfl⟩ := (show ∃ t, u = Value.str z1 t from rx)
    cases (show y = V.bl b2 from he)
    cases (show v = Value.bool b2 from ry)
    exact fun E Q q => RcAt.str_bool z1 t1 b2 X.prog X.w E Q q
  | .str z1, .int i2, hd, he, rx, ry, _, _, _ => by
    cases (show x = V.str z1 from hd)
    obtain ⟨t1, rfl⟩ := (show ∃ t, u = Value.str z1 t from rx)
    cases (show y = V.int i2 from he)
    obtain ⟨t2, rfl⟩ := (show ∃ t, v = Value.int i2 t from ry)
    exact fun E Q q => RcAt.str_int z1 t1 i2 t2 X.prog X.w E Q q
  | .str z1, .str z2, _, _, _, _, h, _, _ => absurd rfl h
  | .str z1, .lst ds2, hd, he, rx, ry, _, _, _ => by
    cases (show x = V.str z1 from hd)
    obtain ⟨t1, rfl⟩ := (show ∃ t, u = Value.str z1 t from rx)
    obtain ⟨a2, xs2, ex2, hs2, _⟩ := he
    subst ex2
    cases (show v = Value.ref a2 from ry)
    obtain ⟨its2, _, p2, _⟩ := I.list hs2
    have o2 := p2.isList
    exact fun E Q q => RcAt.str_list z1 t1 o2 hu X.prog X.w E Q q
  | .str z1, .tup ds2, hd, he, rx, ry, _, _, _ => by
    cases (show x = V.str z1 from hd)
    obtain ⟨t1, rfl⟩ := (show ∃ t, u = Value.str z1 t from rx)
    obtain ⟨a2, xs2, ex2, hs2, _⟩ := he
    subst ex2
    cases (show v = Value.ref a2 from ry)
    obtain ⟨its2, _, o2, _⟩ := I.tuple hs2
    exact fun E Q q => RcAt.str_tuple z1 t1 o2 hu X.prog X.w E Q q
  | .str z1, .dic ks2 ds2, hd, he, rx, ry, _, _, _ => by
    cases (show x = V.str z1 from hd)
    obtain ⟨t1, rfl⟩ := (show ∃ t, u = Value.str z1 t from rx)
    obtain ⟨a2, xs2, ex2, hs2, _⟩ := he
    subst ex2
    cases (show v = Value.ref a2 from ry)
    obtain ⟨_, _, va2, _, o2⟩ := (show ObjOk X.prog X.w H s.heap a2 (.dK xs2) from I.hok a2 _ hs2)
    exact fun E Q q => rc_eq_decline_or (k := false) (show s.TypeIs (Value.str z1 t1) "str" from rfl) o2.typeIs (by decide) F.sub_dict_str F.slot_str_eq F.slot_dict_eq_refl
      (fun Q' q' => callFin F.slot_str_eq (show s.TypeIs (Value.str z1 t1) "str" from rfl) F.entry_str_eq (F.args_str_eq_2 _ _) (fun _ _ _ z => (dict_obj o2).elim fun _ y => y.elim fun _ y => y.elim fun _ ho => str_declinesD ho.1 ho.2 z) Q' q')
      (fun Q' q' => callFin F.slot_dict_eq_refl o2.typeIs F.entry_dict_eq (F.args_dict_eq_2 _ _) (fun _ _ _ z => dict_declines o2.typeIs (notInst_ty (show s.TypeIs (Value.str z1 t1) "str" from rfl) F.sub_str_dict) z) Q' q')
      (fun _ q' => wpAny_of_eq (rfl : isSame (Value.str z1 t1) (Value.ref a2) = pure false) q') (.inr hu) q
  | .lst ds1, .non, hd, he, rx, ry, _, _, _ => by
    obtain ⟨a1, xs1, ex1, hs1, _⟩ := hd
    subst ex1
    cases (show u = Value.ref a1 from rx)
    obtain ⟨its1, _, p1, _⟩ := I.list hs1
    have o1 := p1.isList
    cases (show y = V.non from he)
    cases (show v = Value.none from ry)
    exact fun E Q q => RcAt.list_none o1 hu X.prog X.w E Q q
  | .lst ds1, .bl b2, hd, he, rx, ry, _, _, _ => by
    obtain ⟨a1, xs1, ex1, hs1, _⟩ := hd
    subst ex1
    cases (show u = Value.ref a1 from rx)
    obtain ⟨its1, _, p1, _⟩ := I.list hs1
    have o1 := p1.isList
    cases (show y = V.bl b2 from he)
    cases (show v = Value.bool b2 from ry)
    exact fun E Q q => RcAt.list_bool b2 o1 hu X.prog X.w E Q q
  | .lst ds1, .int i2, hd, he, rx, ry, _, _, _ => by
    obtain ⟨a1, xs1, ex1, hs1, _⟩ := hd
    subst ex1
    cases (show u = Value.ref a1 from rx)
    obtain ⟨its1, _, p1, _⟩ := I.list hs1
    have o1 := p1.isList
    cases (show y = V.int i2 from he)
    obtain ⟨t2, rfl⟩ := (show ∃ t, v = Value.int i2 t from ry)
    exact fun E Q q => RcAt.list_int i2 t2 o1 hu X.prog X.w E Q q
  | .lst ds1, .str z2, hd, he, rx, ry, _, _, _ => by
    obtain ⟨a1, xs1, ex1, hs1, _⟩ := hd
    subst ex1
    cases (show u = Value.ref a1 from rx)
    obtain ⟨its1, _, p1, _⟩ := I.list hs1
    have o1 := p1.isList
    cases (show y = V.str z2 from he)
    obtain ⟨t2, rfl⟩ := (show ∃ t, v = Value.str z2 t from ry)
    exact fun E Q q => RcAt.list_str z2 t2 o1 hu X.prog X.w E Q q
  | .lst ds1, .lst ds2, _, _, _, _, h, _, _ => absurd rfl h
  | .lst ds1, .tup ds2, hd, he, rx, ry, _, _, _ => by
    obtain ⟨a1, xs1, ex1, hs1, _⟩ := hd
    subst ex1
    cases (show u = Value.ref a1 from rx)
    obtain ⟨its1, _, p1, _⟩ := I.list hs1
    have o1 := p1.isList
    obtain ⟨a2, xs2, ex2, hs2, _⟩ := he
    subst ex2
    cases (show v = Value.ref a2 from ry)
    obtain ⟨its2, _, o2, _⟩ := I.tuple hs2
    exact fun E Q q => RcAt.list_tuple o1 o2 hu X.prog X.w E Q q
  | .lst ds1, .dic ks2 ds2, hd, he, rx, ry, _, _, _ => by
    obtain ⟨a1, xs1, ex1, hs1, _⟩ := hd
    subst ex1
    cases (show u = Value.ref a1 from rx)
    obtain ⟨its1, _, p1, _⟩ := I.list hs1
    have o1 := p1.isList
    obtain ⟨a2, xs2, ex2, hs2, _⟩ := he
    subst ex2
    cases (show v = Value.ref a2 from ry)
    obtain ⟨_, _, va2, _, o2⟩ := (show ObjOk X.prog X.w H s.heap a2 (.dK xs2) from I.hok a2 _ hs2)
    exact fun E Q q => rc_eq_decline_or (k := false) (ti_list o1) o2.typeIs (by decide) F.sub_dict_list F.slot_list_eq F.slot_dict_eq_refl
      (fun Q' q' => callFin F.slot_list_eq (ti_list o1) F.entry_list_eq (F.args_list_eq_2 _ _) (fun _ _ _ z => (isList_obj o1).elim fun _ y => y.elim fun _ y => y.elim fun _ ho => list_declinesI ho (notInst_ty o2.typeIs F.sub_dict_list) z) Q' q')
      (fun Q' q' => callFin F.slot_dict_eq_refl o2.typeIs F.entry_dict_eq (F.args_dict_eq_2 _ _) (fun _ _ _ z => dict_declines o2.typeIs (notInst_ty (ti_list o1) F.sub_list_dict) z) Q' q')
      (fun _ q' => isSame_lst_dic o1 o2 q') (.inr hu) q
  | .tup ds1, .non, hd, he, rx, ry, _, _, _ => by
    obtain ⟨a1, xs1, ex1, hs1, _⟩ := hd
    subst ex1
    cases (show u = Value.ref a1 from rx)
    obtain ⟨its1, _, o1, _⟩ := I.tuple hs1
    cases (show y = V.non from he)
    cases (show v = Value.none from ry)
    exact fun E Q q => RcAt.tuple_none o1 hu X.prog X.w E Q q
  | .tup ds1, .bl b2, hd, he, rx, ry, _, _, _ => by
    obtain ⟨a1, xs1, ex1, hs1, _⟩ := hd
    subst ex1
    cases (show u = Value.ref a1 from rx)
    obtain ⟨its1, _, o1, _⟩ := I.tuple hs1
    cases (show y = V.bl b2 from he)
    cases (show v = Value.bool b2 from ry)
    exact fun E Q q => RcAt.tuple_bool b2 o1 hu X.prog X.w E Q q
  | .tup ds1, .int i2, hd, he, rx, ry, _, _, _ => by
    obtain ⟨a1, xs1, ex1, hs1, _⟩ := hd
    subst ex1
    cases (show u = Value.ref a1 from rx)
    obtain ⟨its1, _, o1, _⟩ := I.tuple hs1
    cases (show y = V.int i2 from he)
    obtain ⟨t2, rfl⟩ := (show ∃ t, v = Value.int i2 t from ry)
    exact fun E Q q => RcAt.tuple_int i2 t2 o1 hu X.prog X.w E Q q
  | .tup ds1, .str z2, hd, he, rx, ry, _, _, _ => by
    obtain ⟨a1, xs1, ex1, hs1, _⟩ := hd
    subst ex1
    cases (show u = Value.ref a1 from rx)
    obtain ⟨its1, _, o1, _⟩ := I.tuple hs1
    cases (show y = V.str z2 from he)
    obtain ⟨t2, rfl⟩ := (show ∃ t, v = Value.str z2 t from ry)
    exact fun E Q q => RcAt.tuple_str z2 t2 o1 hu X.prog X.w E Q q
  | .tup ds1, .lst ds2, hd, he, rx, ry, _, _, _ => by
    obtain ⟨a1, xs1, ex1, hs1, _⟩ := hd
    subst ex1
    cases (show u = Value.ref a1 from rx)
    obtain ⟨its1, _, o1, _⟩ := I.tuple hs1
    obtain ⟨a2, xs2, ex2, hs2, _⟩ := he
    subst ex2
    cases (show v = Value.ref a2 from ry)
    obtain ⟨its2, _, p2, _⟩ := I.list hs2
    have o2 := p2.isList
    exact fun E Q q => RcAt.tuple_list o1 o2 hu X.prog X.w E Q q
  | .tup ds1, .tup ds2, _, _, _, _, h, _, _ => absurd rfl h
  | .tup ds1, .dic ks2 ds2, hd, he, rx, ry, _, _, _ => by
    obtain ⟨a1, xs1, ex1, hs1, _⟩ := hd
    subst ex1
    cases (show u = Value.ref a1 from rx)
    obtain ⟨its1, _, o1, _⟩ := I.tuple hs1
    obtain ⟨a2, xs2, ex2, hs2, _⟩ := he
    subst ex2
    cases (show v = Value.ref a2 from ry)
    obtain ⟨_, _, va2, _, o2⟩ := (show ObjOk X.prog X.w H s.heap a2 (.dK xs2) from I.hok a2 _ hs2)
    exact fun E Q q => rc_eq_decline_or (k := false) (ti_tuple o1) o2.typeIs (by decide) F.sub_dict_tuple F.slot_tuple_eq F.slot_dict_eq_refl
      (fun Q' q' => callFin F.slot_tuple_eq (ti_tuple o1) F.entry_tuple_eq (F.args_tuple_eq_2 _ _) (fun _ _ _ z => (isTup_obj o1).elim fun _ y => y.elim fun _ y => y.elim fun _ ho => tuple_declinesI ho (notInst_ty o2.typeIs F.sub_dict_tuple) z) Q' q')
      (fun Q' q' => callFin F.slot_dict_eq_refl o2.typeIs F.entry_dict_eq (F.args_dict_eq_2 _ _) (fun _ _ _ z => dict_declines o2.typeIs (notInst_ty (ti_tuple o1) F.sub_tuple_dict) z) Q' q')
      (fun _ q' => isSame_tup_dic o1 o2 q') (.inr hu) q
  | .dic ks1 ds1, .non, hd, he, rx, ry, _, _, _ => by
    obtain ⟨a1, xs1, ex1, hs1, _⟩ := hd
    subst ex1
    cases (show u = Value.ref a1 from rx)
    obtain ⟨_, _, va1, _, o1⟩ := (show ObjOk X.prog X.w H s.heap a1 (.dK xs1) from I.hok a1 _ hs1)
    cases (show y = V.non from he)
    cases (show v = Value.none from ry)
    exact fun E Q q => rc_eq_decline_or (k := false) o1.typeIs (show s.TypeIs Value.none "NoneType" from rfl) (by decide) F.sub_NoneType_dict F.slot_dict_eq F.slot_NoneType_eq_refl
      (fun Q' q' => callFin F.slot_dict_eq o1.typeIs F.entry_dict_eq (F.args_dict_eq_2 _ _) (fun _ _ _ z => dict_declines o1.typeIs (notInst_ty (show s.TypeIs Value.none "NoneType" from rfl) F.sub_NoneType_dict) z) Q' q')
      (fun Q' q' => call_gives F.slot_NoneType_eq_refl rfl F.entry_NoneType_eq (F.args_NoneType_eq_2 _ _) (NoneType___eq___none_ref_0 a1) q')
      (fun _ q' => wpAny_of_eq (rfl : isSame (Value.ref a1) Value.none = pure false) q') (.inr hu) q
  | .dic ks1 ds1, .bl b2, hd, he, rx, ry, _, _, _ => by
    obtain ⟨a1, xs1, ex1, hs1, _⟩ := hd
    subst ex1
    cases (show u = Value.ref a1 from rx)
    obtain ⟨_, _, va1, _, o1⟩ := (show ObjOk X.prog X.w H s.heap a1 (.dK xs1) from I.hok a1 _ hs1)
    cases (show y = V.bl b2 from he)
    cases (show v = Value.bool b2 from ry)
    exact fun E Q q => rc_eq_decline_or (k := false) o1.typeIs (show s.TypeIs (Value.bool b2) "bool" from rfl) (by decide) F.sub_bool_dict F.slot_dict_eq F.slot_bool_eq_refl
      (fun Q' q' => callFin F.slot_dict_eq o1.typeIs F.entry_dict_eq (F.args_dict_eq_2 _ _) (fun _ _ _ z => dict_declines o1.typeIs (notInst_ty (show s.TypeIs (Value.bool b2) "bool" from rfl) F.sub_bool_dict) z) Q' q')
      (fun Q' q' => callFin F.slot_bool_eq_refl (show s.TypeIs (Value.bool b2) "bool" from rfl) F.entry_int_eq (F.args_int_eq_2 _ _) (fun _ _ _ z => (dict_obj o1).elim fun _ y => y.elim fun _ y => y.elim fun _ ho => bool_declinesD ho.1 ho.2 z) Q' q')
      (fun _ q' => wpAny_of_eq (rfl : isSame (Value.ref a1) (Value.bool b2) = pure false) q') (.inr hu) q
  | .dic ks1 ds1, .int i2, hd, he, rx, ry, _, _, _ => by
    obtain ⟨a1, xs1, ex1, hs1, _⟩ := hd
    subst ex1
    cases (show u = Value.ref a1 from rx)
    obtain ⟨_, _, va1, _, o1⟩ := (show ObjOk X.prog X.w H s.heap a1 (.dK xs1) from I.hok a1 _ hs1)
    cases (show y = V.int i2 from he)
    obtain ⟨t2, rfl⟩ := (show ∃ t, v = Value.int i2 t from ry)
    exact fun E Q q => rc_eq_decline_or (k := false) o1.typeIs (show s.TypeIs (Value.int i2 t2) "int" from rfl) (by decide) F.sub_int_dict F.slot_dict_eq F.slot_int_eq_refl
      (fun Q' q' => callFin F.slot_dict_eq o1.typeIs F.entry_dict_eq (F.args_dict_eq_2 _ _) (fun _ _ _ z => dict_declines o1.typeIs (notInst_ty (show s.TypeIs (Value.int i2 t2) "int" from rfl) F.sub_int_dict) z) Q' q')
      (fun Q' q' => callFin F.slot_int_eq_refl (show s.TypeIs (Value.int i2 t2) "int" from rfl) F.entry_int_eq (F.args_int_eq_2 _ _) (fun _ _ _ z => (dict_obj o1).elim fun _ y => y.elim fun _ y => y.elim fun _ ho => int_declinesD ho.1 ho.2 z) Q' q')
      (fun _ q' => wpAny_of_eq (rfl : isSame (Value.ref a1) (Value.int i2 t2) = pure false) q') (.inr hu) q
  | .dic ks1 ds1, .str z2, hd, he, rx, ry, _, _, _ => by
    obtain ⟨a1, xs1, ex1, hs1, _⟩ := hd
    subst ex1
    cases (show u = Value.ref a1 from rx)
    obtain ⟨_, _, va1, _, o1⟩ := (show ObjOk X.prog X.w H s.heap a1 (.dK xs1) from I.hok a1 _ hs1)
    cases (show y = V.str z2 from he)
    obtain ⟨t2, rfl⟩ := (show ∃ t, v = Value.str z2 t from ry)
    exact fun E Q q => rc_eq_decline_or (k := false) o1.typeIs (show s.TypeIs (Value.str z2 t2) "str" from rfl) (by decide) F.sub_str_dict F.slot_dict_eq F.slot_str_eq_refl
      (fun Q' q' => callFin F.slot_dict_eq o1.typeIs F.entry_dict_eq (F.args_dict_eq_2 _ _) (fun _ _ _ z => dict_declines o1.typeIs (notInst_ty (show s.TypeIs (Value.str z2 t2) "str" from rfl) F.sub_str_dict) z) Q' q')
      (fun Q' q' => callFin F.slot_str_eq_refl (show s.TypeIs (Value.str z2 t2) "str" from rfl) F.entry_str_eq (F.args_str_eq_2 _ _) (fun _ _ _ z => (dict_obj o1).elim fun _ y => y.elim fun _ y => y.elim fun _ ho => str_declinesD ho.1 ho.2 z) Q' q')
      (fun _ q' => wpAny_of_eq (rfl : isSame (Value.ref a1) (Value.str z2 t2) = pure false) q') (.inr hu) q
  | .dic ks1 ds1, .lst ds2, hd, he, rx, ry, _, _, _ => by
    obtain ⟨a1, xs1, ex1, hs1, _⟩ := hd
    subst ex1
    cases (show u = Value.ref a1 from rx)
    obtain ⟨_, _, va1, _, o1⟩ := (show ObjOk X.prog X.w H s.heap a1 (.dK xs1) from I.hok a1 _ hs1)
    obtain ⟨a2, xs2, ex2, hs2, _⟩ := he
    subst ex2
    cases (show v = Value.ref a2 from ry)
    obtain ⟨its2, _, p2, _⟩ := I.list hs2
    have o2 := p2.isList
    exact fun E Q q => rc_eq_decline_or (k := false) o1.typeIs (ti_list o2) (by decide) F.sub_list_dict F.slot_dict_eq F.slot_list_eq_refl
      (fun Q' q' => callFin F.slot_dict_eq o1.typeIs F.entry_dict_eq (F.args_dict_eq_2 _ _) (fun _ _ _ z => dict_declines o1.typeIs (notInst_ty (ti_list o2) F.sub_list_dict) z) Q' q')
      (fun Q' q' => callFin F.slot_list_eq_refl (ti_list o2) F.entry_list_eq (F.args_list_eq_2 _ _) (fun _ _ _ z => (isList_obj o2).elim fun _ y => y.elim fun _ y => y.elim fun _ ho => list_declinesI ho (notInst_ty o1.typeIs F.sub_dict_list) z) Q' q')
      (fun _ q' => isSame_dic_lst o1 o2 q') (.inr hu) q
  | .dic ks1 ds1, .tup ds2, hd, he, rx, ry, _, _, _ => by
    obtain ⟨a1, xs1, ex1, hs1, _⟩ := hd
    subst ex1
    cases (show u = Value.ref a1 from rx)
    obtain ⟨_, _, va1, _, o1⟩ := (show ObjOk X.prog X.w H s.heap a1 (.dK xs1) from I.hok a1 _ hs1)
    obtain ⟨a2, xs2, ex2, hs2, _⟩ := he
    subst ex2
    cases (show v = Value.ref a2 from ry)
    obtain ⟨its2, _, o2, _⟩ := I.tuple hs2
    exact fun E Q q => rc_eq_decline_or (k := false) o1.typeIs (ti_tuple o2) (by decide) F.sub_tuple_dict F.slot_dict_eq F.slot_tuple_eq_refl
      (fun Q' q' => callFin F.slot_dict_eq o1.typeIs F.entry_dict_eq (F.args_dict_eq_2 _ _) (fun _ _ _ z => dict_declines o1.typeIs (notInst_ty (ti_tuple o2) F.sub_tuple_dict) z) Q' q')
      (fun Q' q' => callFin F.slot_tuple_eq_refl (ti_tuple o2) F.entry_tuple_eq (F.args_tuple_eq_2 _ _) (fun _ _ _ z => (isTup_obj o2).elim fun _ y => y.elim fun _ y => y.elim fun _ ho => tuple_declinesI ho (notInst_ty o1.typeIs F.sub_dict_tuple) z) Q' q')
      (fun _ q' => isSame_dic_tup o1 o2 q') (.inr hu) q
  | .dic ks1 ds1, .dic ks2 ds2, _, _, _, _, h, _, _ => absurd rfl h
  | .ins _ _ _, _, _, _, _, _, _, h, _ => absurd rfl h
  | _, .ins _ _ _, _, _, _, _, _, _, h => absurd rfl h
end LxE
namespace LxE
open PySem PySem.SeqAt L2
theorem dep_lst {ds : List Dt} {i : Nat} {d : Dt} {n : Nat} (h : depL ds + 1 ≤ n + 1) (e : ds[i]? = some d) : dep d ≤ n := by
  have := depL_get e
  omega
theorem eAt_some {ds es : List Dt} {i : Nat} {d e : Dt} (h1 : ds[i]? = some d) (h2 : es[i]? = some e) : eAt ds es i = deq d e := by
  unfold eAt
  rw [h1, h2]
theorem deqL_true : ∀ {ds es : List Dt}, ds.length = es.length → (∀ (i : Nat) (d e : Dt), ds[i]? = some d → es[i]? = some e → deq d e = true) → deqL ds es = true
  | [], [], _, _ => rfl
  | [], _ :: _, h, _ => by simp at h
  | _ :: _, [], h, _ => by simp at h
  | a :: as, b :: bs, h, k => by
    show (deq a b && deqL as bs) = true
    rw [k 0 a b rfl rfl, deqL_true (by simpa using h) fun i d e h1 h2 => k (i + 1) d e h1 h2] <;> rfl
theorem look_cons {l : Key} {ls : List Key} {e : Dt} {es : List Dt} {k : Key} : look (l :: ls) (e :: es) k = if l = k then some e else look ls es k := by
  unfold look
  rw [List.zip_cons_cons, List.find?_cons]
  by_cases h : l = k
  · simp [h]
  · simp [h]
theorem look_val {K : PySem.W.Frag} {H : Hp} : ∀ {kvs : List (Key × V)} {es : List Dt} {k : Key}, IsL K H es (kvs.map (·.2)) →
    (∀ v, valV kvs k = some v → ∃ e, look (kvs.map (·.1)) es k = some e ∧ Is K H e v) ∧ (valV kvs k = none → look (kvs.map (·.1)) es k = none)
  | [], es, k, h => by
    constructor
    · intro v hv
      exact absurd hv (by unfold valV; simp)
    · intro _
      unfold look
      rw [List.map_nil, List.zip_nil_left] <;> rfl
  | p :: kvs, [], k, h => by
    have h' : List.map (·.2) (p :: kvs) = [] := h
    simp at h'
  | p :: kvs, e :: es, k, h => by
    obtain ⟨v, r, h1, h2, h3⟩ := h
    rw [List.map_cons] at h1
    injection h1 with a1 a2
    subst a1 a2
    have ih := look_val (k := k) h3
    have lc : look (List.map (·.1) (p :: kvs)) (e :: es) k = if p.1 = k then some e else look (kvs.map (·.1)) es k := look_cons
    have vc : valV (p :: kvs) k = if p.1 = k then some p.2 else valV kvs k := by
      unfold valV
      rw [List.find?_cons]
      by_cases hk : p.1 = k
      · simp [hk]
      · simp [hk]
    rw [lc, vc]
    by_cases hk : p.1 = k
    · rw [if_pos hk, if_pos hk]
      exact ⟨fun w hw => ⟨e, rfl, by cases hw; exact h2⟩, fun z => by cases z⟩
    · rw [if_neg hk, if_neg hk]
      exact ih
theorem valV_nodup : ∀ {kvs : List (Key × V)} {i : Nat} {p : Key × V}, (kvs.map (·.1)).Nodup → kvs[i]? = some p → valV kvs p.1 = some p.2
  | [], _, _, _, h => by simp at h
  | q :: kvs, 0, p, _, h => by
    cases h
    unfold valV
    rw [List.find?_cons]
    simp
  | q :: kvs, i + 1, p, hn, h => by
    rw [List.map_cons, List.nodup_cons] at hn
    have h' : kvs[i]? = some p := h
    have hm : p.1 ∈ kvs.map (·.1) := List.mem_map.mpr ⟨p, List.mem_of_getElem? h', rfl⟩
    have hne : q.1 ≠ p.1 := fun z => hn.1 (z ▸ hm)
    have ih := valV_nodup hn.2 h'
    unfold valV at ih ⊢
    rw [List.find?_cons]
    simp only [hne, decide_false]
    exact ih
theorem deqD_true {ls : List Key} {es : List Dt} : ∀ {ks : List Key} {ds : List Dt}, (∀ (i : Nat) (k : Key) (d : Dt), ks[i]? = some k → ds[i]? = some d → ∃ e, look ls es k = some e ∧ deq d e = true) → deqD ks ds ls es = true
  | [], _, _ => by cases ‹List Dt› <;> rfl
  | _ :: _, [], _ => rfl
  | k :: ks, d :: ds, h => by
    obtain ⟨e, h1, h2⟩ := h 0 k d rfl rfl
    show ((match look ls es k with | some e => deq d e | none => false) && deqD ks ds ls es) = true
    rw [h1, deqD_true fun i k d a b => h (i + 1) k d a b]
    show (deq d e && true) = true
    rw [h2] <;> rfl
section
variable {X : Cx} {pins : List (Addr × Obj)} {σ : L2.St} {H : Hp} {s : Shared}
theorem deqL_same (I : Inv X pins σ H s) {n : Nat} (ih : ∀ (d e : Dt) (x : V), dep d ≤ n → Is X.K H d x → Is X.K H e x → deq d e = true) {ds es : List Dt} {xs : List V} (hn : depL ds ≤ n) (h1 : IsL X.K H ds xs) (h2 : IsL X.K H es xs) : deqL ds es = true :=
  deqL_true (h1.length.trans h2.length.symm) fun i d e e1 e2 => by
    obtain ⟨v, hv, a⟩ := h1.get' e1
    obtain ⟨v', hv', b⟩ := h2.get' e2
    rw [hv] at hv'
    cases hv'
    exact ih d e v (Nat.le_trans (depL_get e1) hn) a b
theorem is_same (I : Inv X pins σ H s) : ∀ (n : Nat) (d e : Dt) (x : V), dep d ≤ n → Is X.K H d x → Is X.K H e x → deq d e = true := by
  intro n
  induction n with
  | zero =>
    intro d e x hn hd he
    cases d <;> first
      | (exfalso; simp [dep] at hn; done)
      | skip
    all_goals (cases e <;> first
      | (cases (show x = _ from hd); cases (show _ = _ from he); simp [deq]; done)
      | (cases (show x = _ from hd); exact absurd (show _ = _ from he) (by simp))
      | (cases (show x = _ from hd); obtain ⟨_, _, _, z, _⟩ := he; cases z; done)
      | (cases (show x = _ from hd); obtain ⟨_, _, z, _⟩ := he; cases z; done))
  | succ n ih =>
    intro d e x hn hd he
    by_cases h0 : dep d ≤ n
    · exact ih d e x h0 hd he
    cases d with
    | non => exact absurd (Nat.zero_le _) h0
    | bl b => exact absurd (Nat.zero_le _) h0
    | int b => exact absurd (Nat.zero_le _) h0
    | str b => exact absurd (Nat.zero_le _) h0
    | lst ds =>
      obtain ⟨a, xs, rfl, hs, hl⟩ := hd
      cases e with
      | lst es =>
        obtain ⟨a', ys, ea, hs', hl'⟩ := he
        cases ea
        cases I.list_inj hs hs'
        exact deqL_same I ih (Nat.le_of_succ_le_succ hn) hl hl'
      | tup es =>
        obtain ⟨a', ys, ea, hs', hl'⟩ := he
        cases ea
        obtain ⟨_, _, p1, _⟩ := I.list hs
        obtain ⟨_, _, p2, _⟩ := I.tuple hs'
        exact absurd rfl (ne_of_list_tuple p1.isList p2)
      | dic ks es =>
        obtain ⟨a', ys, ea, hs', hl'⟩ := he
        cases ea
        obtain ⟨_, _, p1, _⟩ := I.list hs
        obtain ⟨_, _, va, _, o⟩ := (show ObjOk X.prog X.w H s.heap a (.dK ys) from I.hok a _ hs')
        obtain ⟨_, _, _, ho⟩ := isList_obj p1.isList
        obtain ⟨_, _, _, ho2, hd2⟩ := dict_obj o
        exact absurd rfl (ne_data ho ho2 (by rw [hd2]; exact fun z => nomatch z))
      | ins C fs es =>
        obtain ⟨a', dx, ys, ea, hs', hl'⟩ := he
        cases ea
        obtain ⟨_, _, p1, _⟩ := I.list hs
        obtain ⟨_, _, _, ho⟩ := isList_obj p1.isList
        obtain ⟨_, J, _⟩ := ins_get I.hok hs'
        exact absurd rfl (ne_data ho J.obj (fun z => nomatch z))
      | non => exact absurd (show V.ref a = V.non from he) (by simp)
      | bl b => exact absurd (show V.ref a = V.bl b from he) (by simp)
      | int b => exact absurd (show V.ref a = V.int b from he) (by simp)
      | str b => exact absurd (show V.ref a = V.str b from he) (by simp)
    | tup ds =>
      obtain ⟨a, xs, rfl, hs, hl⟩ := hd
      cases e with
      | tup es =>
        obtain ⟨a', ys, ea, hs', hl'⟩ := he
        cases ea
        cases I.tuple_inj hs hs'
        exact deqL_same I ih (Nat.le_of_succ_le_succ hn) hl hl'
      | lst es =>
        obtain ⟨a', ys, ea, hs', hl'⟩ := he
        cases ea
        obtain ⟨_, _, p1, _⟩ := I.list hs'
        obtain ⟨_, _, p2, _⟩ := I.tuple hs
        exact absurd rfl (ne_of_list_tuple p1.isList p2)
      | dic ks es =>
        obtain ⟨a', ys, ea, hs', hl'⟩ := he
        cases ea
        obtain ⟨_, _, p1, _⟩ := I.tuple hs
        obtain ⟨_, _, va, _, o⟩ := (show ObjOk X.prog X.w H s.heap a (.dK ys) from I.hok a _ hs')
        obtain ⟨_, _, _, ho⟩ := isTup_obj p1
        obtain ⟨_, _, _, ho2, hd2⟩ := dict_obj o
        exact absurd rfl (ne_data ho ho2 (by rw [hd2]; exact fun z => nomatch z))
      | ins C fs es =>
        obtain ⟨a', dx, ys, ea, hs', hl'⟩ := he
        cases ea
        obtain ⟨_, _, p1, _⟩ := I.tuple hs
        obtain ⟨_, _, _, ho⟩ := isTup_obj p1
        obtain ⟨_, J, _⟩ := ins_get I.hok hs'
        exact absurd rfl (ne_data ho J.obj (fun z => nomatch z))
      | non => exact absurd (show V.ref a = V.non from he) (by simp)
      | bl b => exact absurd (show V.ref a = V.bl b from he) (by simp)
      | int b => exact absurd (show V.ref a = V.int b from he) (by simp)
      | str b => exact absurd (show V.ref a = V.str b from he) (by simp)
    | dic ks ds =>
      obtain ⟨a, kvs, rfl, hs, ek, hl⟩ := hd
      obtain ⟨_, _, va, rk, o⟩ := (show ObjOk X.prog X.w H s.heap a (.dK kvs) from I.hok a _ hs)
      cases e with
      | dic ls es =>
        obtain ⟨a', lvs, ea, hs', ek', hl'⟩ := he
        cases ea
        rw [hs] at hs'
        cases hs'
        subst ek ek'
        have hnd : (kvs.map (·.1)).Nodup := by
          obtain ⟨_, _, _, _, _, _, _, _, nd⟩ := o
          rw [KV.keys rk]
          exact nd
        show ((kvs.map (·.1)).length == (kvs.map (·.1)).length && deqD (kvs.map (·.1)) ds (kvs.map (·.1)) es) = true
        rw [beq_self_eq_true, Bool.true_and]
        refine deqD_true fun i k d e1 e2 => ?_
        obtain ⟨p, hp, rfl⟩ : ∃ p, kvs[i]? = some p ∧ p.1 = k := by
          rw [List.getElem?_map] at e1
          cases hq : kvs[i]? with
          | none => rw [hq] at e1; cases e1
          | some p => rw [hq] at e1; exact ⟨p, rfl, Option.some.inj e1⟩
        obtain ⟨v, hv, hiv⟩ := hl.get' e2
        rw [List.getElem?_map, hp] at hv
        cases hv
        obtain ⟨e, he1, he2⟩ := (look_val (k := p.1) hl').1 p.2 (valV_nodup hnd hp)
        exact ⟨e, he1, ih d e p.2 (dep_lst hn e2) hiv he2⟩
      | lst es =>
        obtain ⟨a', ys, ea, hs', hl'⟩ := he
        cases ea
        obtain ⟨_, _, p1, _⟩ := I.list hs'
        obtain ⟨_, _, _, ho⟩ := isList_obj p1.isList
        obtain ⟨_, _, _, ho2, hd2⟩ := dict_obj o
        exact absurd rfl (ne_data ho ho2 (by rw [hd2]; exact fun z => nomatch z))
      | tup es =>
        obtain ⟨a', ys, ea, hs', hl'⟩ := he
        cases ea
        obtain ⟨_, _, p1, _⟩ := I.tuple hs'
        obtain ⟨_, _, _, ho⟩ := isTup_obj p1
        obtain ⟨_, _, _, ho2, hd2⟩ := dict_obj o
        exact absurd rfl (ne_data ho ho2 (by rw [hd2]; exact fun z => nomatch z))
      | ins C fs es =>
        obtain ⟨a', dx, ys, ea, hs', hl'⟩ := he
        cases ea
        rw [hs] at hs'
        cases hs'
      | non => exact absurd (show V.ref a = V.non from he) (by simp)
      | bl b => exact absurd (show V.ref a = V.bl b from he) (by simp)
      | int b => exact absurd (show V.ref a = V.int b from he) (by simp)
      | str b => exact absurd (show V.ref a = V.str b from he) (by simp)
    | ins C fs ds =>
      obtain ⟨a, dx, kvs, rfl, hs, ek, hl⟩ := hd
      obtain ⟨_, J, _⟩ := ins_get I.hok hs
      cases e with
      | ins C' fs' es =>
        obtain ⟨a', dx', lvs, ea, hs', ek', hl'⟩ := he
        cases ea
        rw [hs] at hs'
        cases hs'
        show (C == C && deqL ds es) = true
        rw [beq_self_eq_true, deqL_same I ih (Nat.le_of_succ_le_succ hn) hl hl'] <;> rfl
      | lst es =>
        obtain ⟨a', ys, ea, hs', hl'⟩ := he
        cases ea
        obtain ⟨_, _, p1, _⟩ := I.list hs'
        obtain ⟨_, _, _, ho⟩ := isList_obj p1.isList
        exact absurd rfl (ne_data ho J.obj (fun z => nomatch z))
      | tup es =>
        obtain ⟨a', ys, ea, hs', hl'⟩ := he
        cases ea
        obtain ⟨_, _, p1, _⟩ := I.tuple hs'
        obtain ⟨_, _, _, ho⟩ := isTup_obj p1
        exact absurd rfl (ne_data ho J.obj (fun z => nomatch z))
      | dic ls es =>
        obtain ⟨a', ys, ea, hs', hl'⟩ := he
        cases ea
        rw [hs] at hs'
        cases hs'
      | non => exact absurd (show V.ref a = V.non from he) (by simp)
      | bl b => exact absurd (show V.ref a = V.bl b from he) (by simp)
      | int b => exact absurd (show V.ref a = V.int b from he) (by simp)
      | str b => exact absurd (show V.ref a = V.str b from he) (by simp)
end
end LxE
namespace LxE
open PySem PySem.SeqAt L2
theorem shape_of {K : PySem.W.Frag} {H : Hp} {d : Dt} {x : V} (h : Is K H d x) : (kd d ≤ 2 ∧ flatV x = true) ∨ (2 < kd d ∧ ∃ a, x = V.ref a) := by
  cases d with
  | non => rw [show x = _ from h]; exact .inl ⟨by decide, rfl⟩
  | bl b => rw [show x = _ from h]; exact .inl ⟨by show 1 ≤ 2; decide, rfl⟩
  | int b => rw [show x = _ from h]; exact .inl ⟨by show 1 ≤ 2; decide, rfl⟩
  | str b => rw [show x = _ from h]; exact .inl ⟨by show 2 ≤ 2; decide, rfl⟩
  | lst ds => obtain ⟨a, _, e, _⟩ := h; exact .inr ⟨by show 2 < 3; decide, a, e⟩
  | tup ds => obtain ⟨a, _, e, _⟩ := h; exact .inr ⟨by show 2 < 4; decide, a, e⟩
  | dic ks ds => obtain ⟨a, _, e, _⟩ := h; exact .inr ⟨by show 2 < 5; decide, a, e⟩
  | ins C fs ds => obtain ⟨a, _, _, e, _⟩ := h; exact .inr ⟨by show 2 < 6; decide, a, e⟩
theorem deq_kd : ∀ {d e : Dt}, kd d ≠ kd e → deq d e = false := by
  intro d e h
  cases d <;> cases e <;> first | rfl | exact absurd rfl h
theorem eqV_flat {K : PySem.W.Frag} {H : Hp} {d e : Dt} {x y : V} (hd : Is K H d x) (he : Is K H e y) (h1 : kd d ≤ 2) (h2 : kd e ≤ 2) : eqV x y = deq d e := by
  cases d <;> first
    | (exfalso; simp [kd] at h1; done)
    | skip
  all_goals (cases e <;> first
    | (exfalso; simp [kd] at h2; done)
    | skip)
  all_goals (cases (show x = _ from hd); cases (show y = _ from he); first | rfl | simp [eqV, deq])
section
variable {X : Cx} {pins : List (Addr × Obj)} {σ : L2.St} {H : Hp} {s : Shared}
theorem rc_flat {A : Around} {d e : Dt} {x y : V} {u v : Value} (hd : Is X.K H d x) (he : Is X.K H e y) (rx : RelV x u) (ry : RelV y v) (h1 : kd d ≤ 2) (h2 : kd d = kd e) : RcP X.prog X.w A s u v (deq d e) := by
  have h3 : kd e ≤ 2 := h2 ▸ h1
  cases d <;> first
    | (exfalso; simp [kd] at h1; done)
    | skip
  all_goals (cases e <;> first
    | (exfalso; simp [kd] at h2; done)
    | skip)
  · cases (show x = _ from hd); cases (show y = _ from he); cases (show u = _ from rx); cases (show v = _ from ry)
    exact fun E Q q => RcAt.none_none X.prog X.w E Q q
  · cases (show x = _ from hd); cases (show y = _ from he); cases (show u = _ from rx); cases (show v = _ from ry)
    exact fun E Q q => RcAt.bool_bool _ _ X.prog X.w E Q q
  · cases (show x = _ from hd); cases (show y = _ from he); cases (show u = _ from rx); obtain ⟨t, rfl⟩ := (show ∃ t, v = Value.int _ t from ry)
    exact fun E Q q => RcAt.bool_int _ _ _ X.prog X.w E Q q
  · cases (show x = _ from hd); cases (show y = _ from he); obtain ⟨t, rfl⟩ := (show ∃ t, u = Value.int _ t from rx); cases (show v = _ from ry)
    exact fun E Q q => RcAt.int_bool _ _ _ X.prog X.w E Q q
  · cases (show x = _ from hd); cases (show y = _ from he); obtain ⟨t, rfl⟩ := (show ∃ t, u = Value.int _ t from rx); obtain ⟨t', rfl⟩ := (show ∃ t, v = Value.int _ t from ry)
    exact fun E Q q => RcAt.int_int _ _ _ _ X.prog X.w E Q q
  · cases (show x = _ from hd); cases (show y = _ from he); obtain ⟨t, rfl⟩ := (show ∃ t, u = Value.str _ t from rx); obtain ⟨t', rfl⟩ := (show ∃ t, v = Value.str _ t from ry)
    exact fun E Q q => RcAt.str_str _ _ _ _ X.prog X.w E Q q
theorem ref_beq {a b : Addr} (h : a ≠ b) : (Value.ref a == Value.ref b) = false := beq_eq_false_iff_ne.mpr (fun e => h (Value.ref.inj e))
theorem flat_ref {x : V} {u : Value} {a : Addr} (f : flatV x = true) (r : RelV x u) : (u == Value.ref a) = false ∧ (Value.ref a == u) = false := by
  cases x <;> first | (exact absurd f Bool.false_ne_true) | skip
  · cases (show u = _ from r); exact ⟨rfl, rfl⟩
  · cases (show u = _ from r); exact ⟨rfl, rfl⟩
  · obtain ⟨t, rfl⟩ := (show ∃ t, u = Value.int _ t from r); exact ⟨rfl, rfl⟩
  · obtain ⟨t, rfl⟩ := (show ∃ t, u = Value.str _ t from r); exact ⟨rfl, rfl⟩
theorem flat_nofl {x : V} {u : Value} (f : flatV x = true) (r : RelV x u) : ∀ a t, u ≠ .float a t := by
  cases x <;> first | (exact absurd f Bool.false_ne_true) | skip
  · cases (show u = _ from r); exact fun _ _ z => nomatch z
  · cases (show u = _ from r); exact fun _ _ z => nomatch z
  · obtain ⟨t, rfl⟩ := (show ∃ t, u = Value.int _ t from r); exact fun _ _ z => nomatch z
  · obtain ⟨t, rfl⟩ := (show ∃ t, u = Value.str _ t from r); exact fun _ _ z => nomatch z
/-- from a rich comparison to == inside a builtin, with a state -/
theorem eq_get {A : Around} {E : Value → Shared → Prop} (I : Inv X pins σ H s) {d e : Dt} {x y : V} {u v : Value} {Q : Bool → Shared → Prop} (hd : Is X.K H d x) (he : Is X.K H e y) (rx : RelV x u) (ry : RelV y v) (q : Q (deq d e) s)
    (h : wpAny (model X.prog X.w) A (richCompare .Eq u v) (fun r s' => ∃ b, r = .bool b ∧ Q b s') E s) : wpAny (model X.prog X.w) A (eqBool u v) Q E s := by
  rcases shape_of hd with ⟨k1, f1⟩ | ⟨k1, a, rfl⟩
  · rcases shape_of he with ⟨k2, f2⟩ | ⟨k2, b, rfl⟩
    · have z := eqAt_V (A := A) (s := s) rx ry f1 f2
      rw [eqV_flat hd he k1 k2] at z
      exact z X.prog X.w E Q q
    · cases (show v = _ from ry)
      exact eqBool_B (flat_ref f1 rx).1 (fun a t b t' e1 _ => flat_nofl f1 rx a t e1) h
  · cases (show u = _ from rx)
    rcases shape_of he with ⟨k2, f2⟩ | ⟨k2, b, rfl⟩
    · exact eqBool_B (flat_ref f2 ry).2 (fun a t b t' e1 _ => nomatch e1) h
    · cases (show v = _ from ry)
      by_cases hab : a = b
      · subst hab
        have z := is_same I (dep d) d e (.ref a) (Nat.le_refl _) hd he
        rw [z] at q
        exact SeqAt.EqAt.same (A := A) (s := s) (.ref a) X.prog X.w E Q q
      · exact eqBool_B (ref_beq hab) (fun a t b t' e1 _ => nomatch e1) h
theorem hits_of {P : Program} {w : World} {A : Around} {K : PySem.W.Frag} {lvs : List (Key × V)} {es : List Dt} {vb : List (Key × Value)} (rb : KV lvs vb) (hl : IsL K H es (lvs.map (·.2)))
    : ∀ {kvs : List (Key × V)} {ds : List Dt} {va : List (Key × Value)}, IsL K H ds (kvs.map (·.2)) → KV kvs va →
      (∀ (i : Nat) (d e : Dt) (x y : V) (u v : Value), ds[i]? = some d → e ∈ es → Is K H d x → Is K H e y → RelV x u → RelV y v → EqP P w A s u v (deq d e)) →
      PySem.W.KeqHitsP P w A s vb va (deqD (kvs.map (·.1)) ds (lvs.map (·.1)) es)
  | [], ds, va, h, ra, _ => by
    cases ra
    cases ds with
    | nil => exact .nil
    | cons d ds => obtain ⟨v, r, e, _⟩ := h; cases e
  | p :: kvs, [], va, h, ra, _ => by
    have h' : List.map (·.2) (p :: kvs) = [] := h
    simp at h'
  | p :: kvs, d :: ds, va, h, ra, ih => by
    cases ra with
    | @cons _ q _ qs hpq t =>
    obtain ⟨h1, h2⟩ := hpq
    obtain ⟨x, r, e1, e2, e3⟩ := h
    rw [List.map_cons] at e1
    injection e1 with a1 a2
    subst a1 a2
    obtain ⟨key, u⟩ := q
    have h1' : p.1 = key := h1
    have rest := hits_of (A := A) (P := P) (w := w) rb hl e3 t fun i d' e x y u v k1 => ih (i + 1) d' e x y u v k1
    show PySem.W.KeqHitsP P w A s vb ((key, u) :: qs) ((match look (lvs.map (·.1)) es p.1 with | some e => deq d e | none => false) && deqD (kvs.map (·.1)) ds (lvs.map (·.1)) es)
    have rv : RelO (valV lvs p.1) (valueAt vb p.1) := rb.val p.1
    have lk := look_val (k := p.1) hl
    cases hv : valV lvs p.1 with
    | none =>
      rw [hv] at rv
      rw [lk.2 hv]
      refine .miss ?_
      rw [← h1']
      cases hz : valueAt vb p.1 with
      | none => rfl
      | some z => rw [hz] at rv; exact rv.elim
    | some y =>
      rw [hv] at rv
      obtain ⟨z, hz, rz⟩ := rv.some_of
      obtain ⟨e, le, ie⟩ := lk.1 y hv
      rw [le]
      refine .hit (by rw [← h1']; exact hz) (ih 0 d e p.2 y u z rfl ?_ e2 ie h2 rz) rest
      unfold look at le
      cases hf : ((lvs.map (·.1)).zip es).find? fun p' => decide (p'.1 = p.1) with
      | none => rw [hf] at le; cases le
      | some w =>
        rw [hf] at le
        cases le
        exact (List.of_mem_zip (List.mem_of_find?_eq_some hf)).2
theorem mem_get {es : List Dt} {e : Dt} (h : e ∈ es) : ∃ i : Nat, es[i]? = some e := List.mem_iff_getElem?.mp h
theorem rc_pure (I : Inv X pins σ H s) : ∀ (n : Nat) (d e : Dt) (x y : V) (u v : Value) (A : Around), dep d ≤ n → pureD d = true → pureD e = true → Is X.K H d x → Is X.K H e y → RelV x u → RelV y v → A.units + n < cLine → RcP X.prog X.w A s u v (deq d e) := by
  intro n
  induction n with
  | zero =>
    intro d e x y u v A hn pd pe hd he rx ry hu
    by_cases hk : kd d = kd e
    · have h2 : kd d ≤ 2 := by cases d <;> first | (exfalso; simp [dep] at hn; done) | (simp [kd])
      exact rc_flat hd he rx ry h2 hk
    · rw [deq_kd hk]
      exact mis I (by omega) d e hd he rx ry hk (fun z => by cases d <;> first | (simp [kd] at z; done) | (exact absurd pd Bool.false_ne_true)) (fun z => by cases e <;> first | (simp [kd] at z; done) | (exact absurd pe Bool.false_ne_true))
  | succ n ih =>
    intro d e x y u v A hn pd pe hd he rx ry hu
    have ihE : ∀ (d e : Dt) (x y : V) (u v : Value), dep d ≤ n → pureD d = true → pureD e = true → Is X.K H d x → Is X.K H e y → RelV x u → RelV y v → EqP X.prog X.w A.in1 s u v (deq d e) := fun d e x y u v hn pd pe hd he rx ry E Q q =>
      eq_get I hd he rx ry q (ih d e x y u v A.in1 hn pd pe hd he rx ry (by show A.units + 1 + n < cLine; omega) E _ ⟨_, rfl, q⟩)
    by_cases hk : kd d = kd e
    · by_cases h2 : kd d ≤ 2
      · exact rc_flat hd he rx ry h2 hk
      · have items : ∀ {ds es : List Dt} {xs ys : List V} {its its2 : List Value}, depL ds ≤ n → pureL ds = true → pureL es = true → IsL X.K H ds xs → IsL X.K H es ys → Vals xs its → Vals ys its2 →
            ∀ i (h1 : i < its.toArray.size) (h2 : i < its2.toArray.size), EqP X.prog X.w A.in1 s its.toArray[i] its2.toArray[i] (eAt ds es i) := by
          intro ds es xs ys its its2 hdn p1 p2 l1 l2 r1 r2 i h1 h2
          have g1 : its[i]? = some its.toArray[i] := by
            have h1' : i < its.length := by simpa using h1
            rw [List.getElem?_eq_getElem h1'] <;> simp
          have g2 : its2[i]? = some its2.toArray[i] := by
            have h2' : i < its2.length := by simpa using h2
            rw [List.getElem?_eq_getElem h2'] <;> simp
          have k1 : i < xs.length := by rw [r1.length]; simpa using h1
          have k2 : i < ys.length := by rw [r2.length]; simpa using h2
          obtain ⟨u', hu', ru⟩ := r1.get (List.getElem?_eq_getElem k1)
          obtain ⟨v', hv', rv⟩ := r2.get (List.getElem?_eq_getElem k2)
          rw [g1] at hu'
          rw [g2] at hv'
          rw [Option.some.inj hu', Option.some.inj hv']
          obtain ⟨d', e1, i1⟩ := l1.get (List.getElem?_eq_getElem k1)
          obtain ⟨e', e2, i2⟩ := l2.get (List.getElem?_eq_getElem k2)
          rw [eAt_some e1 e2]
          exact ihE d' e' _ _ u' v' (Nat.le_trans (depL_get e1) hdn) (pureL_get p1 e1) (pureL_get p2 e2) i1 i2 ru rv
        cases d with
        | non => exact absurd (by decide) h2
        | bl b => exact absurd (by show 1 ≤ 2; decide) h2
        | int b => exact absurd (by show 1 ≤ 2; decide) h2
        | str b => exact absurd (by show 2 ≤ 2; decide) h2
        | ins C fs ds => exact absurd pd Bool.false_ne_true
        | lst ds =>
          cases e <;> first | (exfalso; simp [kd] at hk; done) | skip
          rename_i es
          obtain ⟨a, xs, rfl, hs, l1⟩ := hd
          obtain ⟨b, ys, rfl, hs', l2⟩ := he
          cases (show u = _ from rx)
          cases (show v = _ from ry)
          obtain ⟨its, r1, p1, _⟩ := I.list hs
          obtain ⟨its2, r2, p2, _⟩ := I.list hs'
          intro E Q q
          have it := items (Nat.le_of_succ_le_succ hn) pd pe l1 l2 r1 r2
          have e1 : its.toArray.size = ds.length := by rw [List.size_toArray, ← r1.length, ← l1.length]
          have e2 : its2.toArray.size = es.length := by rw [List.size_toArray, ← r2.length, ← l2.length]
          rw [show deq (.lst ds) (.lst es) = deqL ds es from rfl, deqL_eq] at q
          by_cases hsz : ds.length = es.length
          · refine rc_listB (N := ds.length) (e := eAt ds es) (by omega) (fun s' => s' = s) (fun s' z => ?_) (fun s' z => ?_) rfl
            · subst z
              exact ⟨its.toArray, its2.toArray, p1.isList, p2.isList, e1, e2.trans hsz.symm, fun i h1 h2 => it i h1 h2 E _ ⟨rfl, rfl⟩⟩
            · subst z
              rw [hsz, Nat.min_self, beq_self_eq_true, Bool.and_true, ← hsz] at q
              exact q
          · have hb : (ds.length == es.length) = false := beq_eq_false_iff_ne.mpr hsz
            rw [hb, Bool.and_false] at q
            refine RcAt.lists_lengths p1.isList p2.isList ?_ (by omega) X.prog X.w E Q q
            rw [e1, e2]
            simp [hsz]
        | tup ds =>
          cases e <;> first | (exfalso; simp [kd] at hk; done) | skip
          rename_i es
          obtain ⟨a, xs, rfl, hs, l1⟩ := hd
          obtain ⟨b, ys, rfl, hs', l2⟩ := he
          cases (show u = _ from rx)
          cases (show v = _ from ry)
          obtain ⟨its, r1, p1, _⟩ := I.tuple hs
          obtain ⟨its2, r2, p2, _⟩ := I.tuple hs'
          intro E Q q
          have it := items (Nat.le_of_succ_le_succ hn) pd pe l1 l2 r1 r2
          have e1 : its.toArray.size = ds.length := by rw [List.size_toArray, ← r1.length, ← l1.length]
          have e2 : its2.toArray.size = es.length := by rw [List.size_toArray, ← r2.length, ← l2.length]
          rw [show deq (.tup ds) (.tup es) = deqL ds es from rfl, deqL_eq] at q
          refine rc_tupB (e := eAt ds es) (by omega) (fun s' => s' = s) p1 p2 (fun i h1 h2 s' z => ?_) (fun s' z => ?_) rfl
          · subst z
            exact it i h1 h2 E _ ⟨rfl, rfl⟩
          · subst z
            rw [e1, e2]
            exact q
        | dic ks ds =>
          cases e <;> first | (exfalso; simp [kd] at hk; done) | skip
          rename_i ls es
          obtain ⟨a, kvs, rfl, hs, ek, l1⟩ := hd
          obtain ⟨b, lvs, rfl, hs', el, l2⟩ := he
          subst ek el
          cases (show u = _ from rx)
          cases (show v = _ from ry)
          obtain ⟨_, ya, va, ra, da⟩ := (show ObjOk X.prog X.w H s.heap a (.dK kvs) from I.hok a _ hs)
          obtain ⟨_, yb, vb, rb, db⟩ := (show ObjOk X.prog X.w H s.heap b (.dK lvs) from I.hok b _ hs')
          intro E Q q
          refine PySem.W.rcP_dicts (knd := mixKind X.prog X.w) (r := deqD (kvs.map (·.1)) ds (lvs.map (·.1)) es) ya yb da db (by omega) (fun _ => hits_of rb l2 l1 ra fun i d e x y u v k1 k2 i1 i2 r1 r2 => ?_) E Q ?_
          · obtain ⟨j, hj⟩ := mem_get k2
            exact ihE d e x y u v (Nat.le_trans (depL_get k1) (Nat.le_of_succ_le_succ hn)) (pureL_get pd k1) (pureL_get pe hj) i1 i2 r1 r2
          · have e1 : va.length = (kvs.map (·.1)).length := by rw [List.length_map, ← KV.length ra]
            have e2 : vb.length = (lvs.map (·.1)).length := by rw [List.length_map, ← KV.length rb]
            rw [e1, e2]
            exact q
    · rw [deq_kd hk]
      exact mis I (by omega) d e hd he rx ry hk (fun z => by cases d <;> first | (simp [kd] at z; done) | (exact absurd pd Bool.false_ne_true)) (fun z => by cases e <;> first | (simp [kd] at z; done) | (exact absurd pe Bool.false_ne_true))
end
end LxE
namespace L2
open PySem PySem.Spec PyProof.Rows
mutual
def okD (shp : Addr → List Str → List Dt → Prop) : Dt → Prop
  | .lst ds => okL shp ds
  | .tup ds => okL shp ds
  | .dic _ ds => pureL ds = true
  | .ins C fs ds => shp C fs ds
  | _ => True
def okL (shp : Addr → List Str → List Dt → Prop) : List Dt → Prop
  | [] => True
  | d :: ds => okD shp d ∧ okL shp ds
end
theorem okL_get {shp : Addr → List Str → List Dt → Prop} : ∀ {ds : List Dt} {i : Nat} {d : Dt}, okL shp ds → ds[i]? = some d → okD shp d
  | [], _, _, _, e => by simp at e
  | a :: ds, 0, d, h, e => by cases e; exact h.1
  | a :: ds, i + 1, d, h, e => okL_get (i := i) h.2 e
mutual
theorem okD_pure {shp : Addr → List Str → List Dt → Prop} : ∀ {d : Dt}, pureD d = true → okD shp d
  | .non, _ => trivial
  | .bl _, _ => trivial
  | .int _, _ => trivial
  | .str _, _ => trivial
  | .lst ds, h => okL_pure (ds := ds) h
  | .tup ds, h => okL_pure (ds := ds) h
  | .dic _ _, h => h
  | .ins _ _ _, h => absurd h Bool.false_ne_true
theorem okL_pure {shp : Addr → List Str → List Dt → Prop} : ∀ {ds : List Dt}, pureL ds = true → okL shp ds
  | [], _ => trivial
  | _ :: ds, h => ⟨okD_pure (Bool.and_eq_true_iff.mp h).1, okL_pure (ds := ds) (Bool.and_eq_true_iff.mp h).2⟩
end
/-- what an own == promises -/
def spEqO (K : PySem.W.Frag) (shp : Addr → List Str → List Dt → Prop) (C : Addr) : Sp := fun vs H Q _ => ∃ (a : Addr) (y : V) (fs : List Str) (ds : List Dt) (e : Dt), vs = [.ref a, y] ∧ Is K H (.ins C fs ds) (.ref a) ∧ Is K H e y ∧ shp C fs ds ∧ okD shp e ∧
  ∀ H', Ext H H' → Q (.bl (deq (.ins C fs ds) e)) H'
def tyNames : List String := ["NoneType", "bool", "int", "str", "list", "tuple", "dict"]
def eqFacts (K : PySem.W.Frag) (C : Addr) : Bool := tyNames.all fun T => PySem.W.notFirst K C (.type T) && PySem.W.subIn K (.ref C) (.type T) == some false
/-- the class at C has an own == -/
structure OwnEq (P : Program) (w : World) (K : PySem.W.Frag) (mg : Str → Option Value) (base : Heap) (k : Nat) (shp : Addr → List Str → List Dt → Prop) (C : Addr) : Prop where
  fn : ∃ (f : Addr) (fd : FuncData), FnOk P w K mg base (fun _ _ _ _ _ _ => False) k f fd ["self", "other"] (spEqO K shp C) ∧ PySem.W.findIn K (.ref C) "__eq__" = some (some (.ref f)) ∧ PySem.W.isFn K (.ref f) = true ∧ Binds K fd ["self", "other"] []
  facts : eqFacts K C = true
structure EqTab (P : Program) (w : World) (K : PySem.W.Frag) (mg : Str → Option Value) (base : Heap) (k : Nat) (shp : Addr → List Str → List Dt → Prop) : Prop where
  own : ∀ C fs ds, shp C fs ds → OwnEq P w K mg base k shp C
  two : ∀ C fs ds C' fs' ds', shp C fs ds → shp C' fs' ds' → PySem.W.notFirst K C (.ref C') = true
end L2
namespace LxE
open PySem PySem.SeqAt L2
theorem facts_of {K : PySem.W.Frag} {C : Addr} {T : String} (h : eqFacts K C = true) (hT : T ∈ tyNames) : PySem.W.notFirst K C (.type T) = true ∧ PySem.W.subIn K (.ref C) (.type T) = some false := by
  have z := Bool.and_eq_true_iff.mp (List.all_eq_true.mp h T hT)
  exact ⟨z.1, beq_iff_eq.mp z.2⟩
section
variable {X : Cx} {pins : List (Addr × Obj)} {σ : L2.St} {H : Hp} {s : Shared}
theorem looks_ty {M : Model} {v : Value} {T : String} (hT : s.TypeIs v T) : PySem.W.Looks M s.heap (typeOf v) (.type T) := by
  cases v with
  | ref a =>
    obtain ⟨o, ho, hc⟩ := hT
    intro A Q E s' k q
    exact wpAny_typeOf_ref (k _ _ ho) (by rw [hc]; exact q)
  | _ =>
    intro A Q E s' k q
    exact wpAny_of_eq hT q
/-- a built-in value's type -/
theorem ty_of (I : Inv X pins σ H s) {d : Dt} {x : V} {u : Value} (hd : Is X.K H d x) (rx : RelV x u) (h6 : kd d ≠ 6) : ∃ T, T ∈ tyNames ∧ s.TypeIs u T := by
  cases d with
  | non => cases (show x = _ from hd); cases (show u = _ from rx); exact ⟨"NoneType", by decide, rfl⟩
  | bl b => cases (show x = _ from hd); cases (show u = _ from rx); exact ⟨"bool", by decide, rfl⟩
  | int i => cases (show x = _ from hd); obtain ⟨t, rfl⟩ := (show ∃ t, u = Value.int _ t from rx); exact ⟨"int", by decide, rfl⟩
  | str i => cases (show x = _ from hd); obtain ⟨t, rfl⟩ := (show ∃ t, u = Value.str _ t from rx); exact ⟨"str", by decide, rfl⟩
  | lst ds =>
    obtain ⟨a, xs, rfl, hs, _⟩ := hd
    cases (show u = _ from rx)
    obtain ⟨_, _, p, _⟩ := I.list hs
    exact ⟨"list", by decide, ti_list p.isList⟩
  | tup ds =>
    obtain ⟨a, xs, rfl, hs, _⟩ := hd
    cases (show u = _ from rx)
    obtain ⟨_, _, p, _⟩ := I.tuple hs
    exact ⟨"tuple", by decide, ti_tuple p⟩
  | dic ks ds =>
    obtain ⟨a, xs, rfl, hs, _⟩ := hd
    cases (show u = _ from rx)
    obtain ⟨_, _, va, _, o⟩ := (show ObjOk X.prog X.w H s.heap a (.dK xs) from I.hok a _ hs)
    exact ⟨"dict", by decide, o.typeIs⟩
  | ins C fs ds => exact absurd rfl h6
/-- how a built-in == declines an own instance -/
theorem back_of (I : Inv X pins σ H s) {A : Around} {d : Dt} {x : V} {u : Value} (hd : Is X.K H d x) (rx : RelV x u) (h6 : kd d ≠ 6) {y C dy : Addr} {od : Option Obj} (J : PySem.W.InstAt s.heap y (PySem.W.instObj C dy) C od) (hf : eqFacts X.K C = true) :
    ∃ T id, T ∈ tyNames ∧ s.TypeIs u T ∧ Slot T "__eq__" id ∧ ∀ (E : Value → Shared → Prop) (Q' : Value → Shared → Prop), Q' .notImplemented s → wpAny (model X.prog X.w) A (call (.builtin id) [u, .ref y]) Q' E s := by
  have NI : ∀ T, T ∈ tyNames → NotInst X.prog X.w s (.ref y) T := fun T hT => notInst_of I.kIn J (facts_of hf hT).2
  cases d with
  | non =>
    cases (show x = _ from hd); cases (show u = _ from rx)
    exact ⟨"NoneType", _, by decide, rfl, F.slot_NoneType_eq, fun E Q' q' => call_gives F.slot_NoneType_eq rfl F.entry_NoneType_eq (F.args_NoneType_eq_2 _ _) (NoneType___eq___none_ref_0 y) q'⟩
  | bl b =>
    cases (show x = _ from hd); cases (show u = _ from rx)
    exact ⟨"bool", _, by decide, rfl, F.slot_bool_eq, fun E Q' q' => callFin F.slot_bool_eq (show s.TypeIs (Value.bool b) "bool" from rfl) F.entry_int_eq (F.args_int_eq_2 _ _) (fun _ _ _ z => bool_declinesI J.at_ z) Q' q'⟩
  | int i =>
    cases (show x = _ from hd); obtain ⟨t, rfl⟩ := (show ∃ t, u = Value.int _ t from rx)
    exact ⟨"int", _, by decide, rfl, F.slot_int_eq, fun E Q' q' => callFin F.slot_int_eq (show s.TypeIs (Value.int i t) "int" from rfl) F.entry_int_eq (F.args_int_eq_2 _ _) (fun _ _ _ z => int_declinesI J.at_ z) Q' q'⟩
  | str i =>
    cases (show x = _ from hd); obtain ⟨t, rfl⟩ := (show ∃ t, u = Value.str _ t from rx)
    exact ⟨"str", _, by decide, rfl, F.slot_str_eq, fun E Q' q' => callFin F.slot_str_eq (show s.TypeIs (Value.str i t) "str" from rfl) F.entry_str_eq (F.args_str_eq_2 _ _) (fun _ _ _ z => str_declinesI J.at_ z) Q' q'⟩
  | lst ds =>
    obtain ⟨a, xs, rfl, hs, _⟩ := hd
    cases (show u = _ from rx)
    obtain ⟨_, _, p, _⟩ := I.list hs
    obtain ⟨n, dd, sl, ho⟩ := isList_obj p.isList
    exact ⟨"list", _, by decide, ti_list p.isList, F.slot_list_eq, fun E Q' q' => callFin F.slot_list_eq (ti_list p.isList) F.entry_list_eq (F.args_list_eq_2 _ _) (fun _ _ _ z => list_declinesI ho (NI "list" (by decide)) z) Q' q'⟩
  | tup ds =>
    obtain ⟨a, xs, rfl, hs, _⟩ := hd
    cases (show u = _ from rx)
    obtain ⟨_, _, p, _⟩ := I.tuple hs
    obtain ⟨n, dd, sl, ho⟩ := isTup_obj p
    exact ⟨"tuple", _, by decide, ti_tuple p, F.slot_tuple_eq, fun E Q' q' => callFin F.slot_tuple_eq (ti_tuple p) F.entry_tuple_eq (F.args_tuple_eq_2 _ _) (fun _ _ _ z => tuple_declinesI ho (NI "tuple" (by decide)) z) Q' q'⟩
  | dic ks ds =>
    obtain ⟨a, xs, rfl, hs, _⟩ := hd
    cases (show u = _ from rx)
    obtain ⟨_, _, va, _, o⟩ := (show ObjOk X.prog X.w H s.heap a (.dK xs) from I.hok a _ hs)
    exact ⟨"dict", _, by decide, o.typeIs, F.slot_dict_eq, fun E Q' q' => callFin F.slot_dict_eq o.typeIs F.entry_dict_eq (F.args_dict_eq_2 _ _) (fun _ _ _ z => dict_declines o.typeIs (NI "dict" (by decide)) z) Q' q'⟩
  | ins C fs ds => exact absurd rfl h6
/-- the own == runs -/
theorem own_run {k : Nat} {f : Addr} {fd : FuncData} {sp : Sp} {A : Around} {a : Addr} {y : V} {v : Value} {Q' : VK} (F1 : FnOk X.prog X.w X.K X.mg X.base (fun _ _ _ _ _ _ => False) k f fd ["self", "other"] sp) (hb : Binds X.K fd ["self", "other"] []) (sb : Sub X k A) (I : Inv X pins σ H s)
    (ry : RelV y v) (hsp : sp [.ref a, y] H Q' (fun _ _ _ => False)) : wpAny (model X.prog X.w) A (call (.ref f) [.ref a, v]) (fun r s' => ∃ z H', Inv X pins σ H' s' ∧ RelV z r ∧ Q' z H') X.xe s := by
  have e0 : Env0 X.prog X.w X.K X.mg X.base A X.stack s H := by
    have e := I.env0
    exact ⟨by rw [sb.fr]; exact e.frames, e.mod, e.bs, e.bsz, e.funs, e.frf, e.hok, e.bare⟩
  have r2 : Vals [V.ref a, y] [Value.ref a, v] := .cons rfl (.cons ry .nil)
  refine wpAny_call (codeAny_mono (F1.run A X.stack s H ⟨[.ref a, v], []⟩ [.ref a, v] [.ref a, y] _ _ sb.room e0 (by
    have := hb s [.ref a, v] I.kIn rfl
    simpa using this) r2 hsp) fun r s' hq => ?_)
  cases r with
  | error e => exact False.elim hq
  | ok fl =>
    cases fl with
    | ret w =>
      obtain ⟨z, H', I', rz, ez⟩ := I.after hq
      exact ⟨z, H', I', rz, ez⟩
    | next => exact False.elim hq
    | brk => exact False.elim hq
    | cont => exact False.elim hq
theorem rc_own {k : Nat} {shp : Addr → List Str → List Dt → Prop} (T : EqTab X.prog X.w X.K X.mg X.base k shp) : ∀ (n : Nat) (d e : Dt) (x y : V) (u v : Value) (A : Around) (pins : List (Addr × Obj)) (s : Shared) (H : Hp), dep d ≤ n → okD shp d → okD shp e → Is X.K H d x → Is X.K H e y → RelV x u → RelV y v → Sub X (k + n) A → Inv X pins σ H s →
    wpAny (model X.prog X.w) A (richCompare .Eq u v) (fun r s' => r = .bool (deq d e) ∧ LoopI X pins σ H s') X.xe s := by
  intro n
  induction n with
  | zero =>
    intro d e x y u v A pins s H hn od oe hd he rx ry sb I
    have h6 : kd d ≠ 6 := fun z => by cases d <;> first | (simp [kd] at z; done) | (simp [dep] at hn; done)
    by_cases h6' : kd e = 6
    · cases e <;> first | (exfalso; simp [kd] at h6'; done) | skip
      rename_i C fs ds
      obtain ⟨⟨f, fd, F1, hfind, hfn, hb⟩, hfc⟩ := T.own C fs ds oe
      have he' := he
      obtain ⟨b, dx, kvs, rfl, hs, ek, hl⟩ := he
      cases (show v = _ from ry)
      obtain ⟨mA, J0, _⟩ := ins_get I.hok hs
      obtain ⟨odj, J, _⟩ := J0.look
      obtain ⟨Tn, id, hT, tT, slot, hc⟩ := back_of (A := A) I hd rx h6 J hfc
      refine cmp_back sb.room.units0 I.kIn J tT (facts_of hfc hT).2 slot (hc _) hfind hfn ?_
      refine wpAny_mono (own_run (Q' := fun z H' => z = .bl (deq (.ins C fs ds) d) ∧ Ext H H') F1 hb (sb.mono (by omega)) I rx ⟨b, x, fs, ds, d, rfl, he', hd, oe, od, fun H' e' => ⟨rfl, e'⟩⟩) (fun r s' hr => ?_) fun _ _ z => z
      obtain ⟨z, H', I', rz, ez, ex⟩ := hr
      subst ez
      cases (show r = _ from rz)
      refine ⟨?_, H', I', ex⟩
      rw [deq_kd (d := d) (e := .ins C fs ds) (fun z => h6 z), deq_kd (d := .ins C fs ds) (e := d) (fun z => h6 z.symm)]
    · by_cases hk : kd d = kd e
      · have h2 : kd d ≤ 2 := by cases d <;> first | (exfalso; simp [dep] at hn; done) | (simp [kd])
        exact rc_flat hd he rx ry h2 hk X.xe _ ⟨rfl, H, I, Ext.rfl'⟩
      · exact mis I sb.room.units0 d e hd he rx ry hk h6 h6' X.xe _ ⟨by rw [deq_kd hk], H, I, Ext.rfl'⟩
  | succ n ih =>
    intro d e x y u v A pins s H hn od oe hd he rx ry sb I
    by_cases h6 : kd d = 6
    · cases d <;> first | (exfalso; simp [kd] at h6; done) | skip
      rename_i C fs ds
      obtain ⟨⟨f, fd, F1, hfind, hfn, hb⟩, hfc⟩ := T.own C fs ds od
      have hd' := hd
      obtain ⟨a, dx, kvs, rfl, hs, ek, hl⟩ := hd
      cases (show u = _ from rx)
      obtain ⟨mA, J0, _⟩ := ins_get I.hok hs
      obtain ⟨odj, J, _⟩ := J0.look
      have tb : ∃ tb, PySem.W.Looks (model X.prog X.w) s.heap (typeOf v) tb ∧ PySem.W.notFirst X.K C tb = true := by
        by_cases h6' : kd e = 6
        · cases e <;> first | (exfalso; simp [kd] at h6'; done) | skip
          rename_i C' fs' es
          have t2 := T.two _ _ _ _ _ _ od oe
          obtain ⟨b, dy, lvs, rfl, hs', _, _⟩ := he
          cases (show v = _ from ry)
          obtain ⟨mB, J0', _⟩ := ins_get I.hok hs'
          obtain ⟨odj', J', _⟩ := J0'.look
          exact ⟨_, J'.type, t2⟩
        · obtain ⟨Tn, hT, tT⟩ := ty_of I he ry h6'
          exact ⟨_, looks_ty tT, (facts_of hfc hT).1⟩
      obtain ⟨tb, Lt, hnf⟩ := tb
      obtain ⟨m, hF⟩ := I.fr
      refine PySem.W.cmp_K (op := .Eq) (tb := tb) sb.room.units0 hF I.ok.mod.kin J Lt hnf hfind hfn ?_
      refine wpAny_mono (own_run (Q' := fun z H' => z = .bl (deq (.ins C fs ds) e) ∧ Ext H H') F1 hb (sb.mono (by omega)) I ry ⟨a, y, fs, ds, e, rfl, hd', he, od, oe, fun H' e' => ⟨rfl, e'⟩⟩) (fun r s' hr => ?_) fun _ _ z => z
      obtain ⟨z, H', I', rz, ez, ex⟩ := hr
      subst ez
      cases (show r = _ from rz)
      exact ⟨rfl, H', I', ex⟩
    · by_cases h6' : kd e = 6
      · cases e <;> first | (exfalso; simp [kd] at h6'; done) | skip
        rename_i C fs ds
        obtain ⟨⟨f, fd, F1, hfind, hfn, hb⟩, hfc⟩ := T.own C fs ds oe
        have he' := he
        obtain ⟨b, dx, kvs, rfl, hs, ek, hl⟩ := he
        cases (show v = _ from ry)
        obtain ⟨mA, J0, _⟩ := ins_get I.hok hs
        obtain ⟨odj, J, _⟩ := J0.look
        obtain ⟨Tn, id, hT, tT, slot, hc⟩ := back_of (A := A) I hd rx h6 J hfc
        refine cmp_back sb.room.units0 I.kIn J tT (facts_of hfc hT).2 slot (hc _) hfind hfn ?_
        refine wpAny_mono (own_run (Q' := fun z H' => z = .bl (deq (.ins C fs ds) d) ∧ Ext H H') F1 hb (sb.mono (by omega)) I rx ⟨b, x, fs, ds, d, rfl, he', hd, oe, od, fun H' e' => ⟨rfl, e'⟩⟩) (fun r s' hr => ?_) fun _ _ z => z
        obtain ⟨z, H', I', rz, ez, ex⟩ := hr
        subst ez
        cases (show r = _ from rz)
        refine ⟨?_, H', I', ex⟩
        rw [deq_kd (d := d) (e := .ins C fs ds) (fun z => h6 z), deq_kd (d := .ins C fs ds) (e := d) (fun z => h6 z.symm)]
      · by_cases hk : kd d = kd e
        · by_cases h2 : kd d ≤ 2
          · exact rc_flat hd he rx ry h2 hk X.xe _ ⟨rfl, H, I, Ext.rfl'⟩
          · have sb1 : Sub X (k + n) A.in1 := (show Sub X (k + n + 1) A from sb).in1
            have items : ∀ {ds es : List Dt} {xs ys : List V} {its its2 : List Value}, depL ds ≤ n → okL shp ds → okL shp es → IsL X.K H ds xs → IsL X.K H es ys → Vals xs its → Vals ys its2 →
                ∀ i (h1 : i < its.toArray.size) (h2 : i < its2.toArray.size) (s' : Shared), LoopI X pins σ H s' → wpAny (model X.prog X.w) A.in1 (eqBool its.toArray[i] its2.toArray[i]) (fun r s2 => r = eAt ds es i ∧ LoopI X pins σ H s2) X.xe s' := by
              intro ds es xs ys its its2 hdn p1 p2 l1 l2 r1 r2 i h1 h2 s' L
              obtain ⟨H1, I1, e1⟩ := L
              have g1 : its[i]? = some its.toArray[i] := by
                have h1' : i < its.length := by simpa using h1
                rw [List.getElem?_eq_getElem h1'] <;> simp
              have g2 : its2[i]? = some its2.toArray[i] := by
                have h2' : i < its2.length := by simpa using h2
                rw [List.getElem?_eq_getElem h2'] <;> simp
              have k1 : i < xs.length := by rw [r1.length]; simpa using h1
              have k2 : i < ys.length := by rw [r2.length]; simpa using h2
              obtain ⟨u', hu', ru⟩ := r1.get (List.getElem?_eq_getElem k1)
              obtain ⟨v', hv', rv⟩ := r2.get (List.getElem?_eq_getElem k2)
              rw [g1] at hu'
              rw [g2] at hv'
              rw [Option.some.inj hu', Option.some.inj hv']
              obtain ⟨d', d1, i1⟩ := l1.get (List.getElem?_eq_getElem k1)
              obtain ⟨e', d2, i2⟩ := l2.get (List.getElem?_eq_getElem k2)
              rw [eAt_some d1 d2]
              refine eq_get I1 (i1.ext e1) (i2.ext e1) ru rv ⟨rfl, H1, I1, e1⟩ (wpAny_mono (ih d' e' _ _ u' v' A.in1 pins s' H1 (Nat.le_trans (depL_get d1) hdn) (okL_get p1 d1) (okL_get p2 d2) (i1.ext e1) (i2.ext e1) ru rv sb1 I1) (fun r s2 q => ?_) fun _ _ z => z)
              obtain ⟨hr, H2, I2, e2⟩ := q
              exact ⟨_, hr, rfl, H2, I2, e1.trans e2⟩
            cases d with
            | non => exact absurd (by decide) h2
            | bl b => exact absurd (by show 1 ≤ 2; decide) h2
            | int b => exact absurd (by show 1 ≤ 2; decide) h2
            | str b => exact absurd (by show 2 ≤ 2; decide) h2
            | ins C fs ds => exact absurd rfl h6
            | lst ds =>
              cases e <;> first | (exfalso; simp [kd] at hk; done) | skip
              rename_i es
              obtain ⟨a, xs, rfl, hs, l1⟩ := hd
              obtain ⟨b, ys, rfl, hs', l2⟩ := he
              cases (show u = _ from rx)
              cases (show v = _ from ry)
              have eq0 : deq (.lst ds) (.lst es) = ((List.range (min ds.length es.length)).all (eAt ds es) && ds.length == es.length) := deqL_eq ds es
              by_cases hsz : ds.length = es.length
              · refine rc_listB (N := ds.length) (e := eAt ds es) sb.room.units0 (LoopI X pins σ H) (fun s' z => ?_) (fun s' z => ⟨?_, z⟩) ⟨H, I, Ext.rfl'⟩
                · obtain ⟨H1, I1, e1⟩ := id z
                  obtain ⟨its, r1, p1, _⟩ := I1.list (hs.ext e1)
                  obtain ⟨its2, r2, p2, _⟩ := I1.list (hs'.ext e1)
                  exact ⟨its.toArray, its2.toArray, p1.isList, p2.isList, by rw [List.size_toArray, ← r1.length, ← l1.length], by rw [List.size_toArray, ← r2.length, ← l2.length, hsz],
                    fun i h1 h2 => items (Nat.le_of_succ_le_succ hn) od oe l1 l2 r1 r2 i h1 h2 s' z⟩
                · rw [eq0, hsz, Nat.min_self, beq_self_eq_true, Bool.and_true, ← hsz]
              · have hb : (ds.length == es.length) = false := beq_eq_false_iff_ne.mpr hsz
                rw [hb, Bool.and_false] at eq0
                obtain ⟨its, r1, p1, _⟩ := I.list hs
                obtain ⟨its2, r2, p2, _⟩ := I.list hs'
                refine RcAt.lists_lengths p1.isList p2.isList ?_ sb.room.units0 X.prog X.w X.xe _ ⟨by rw [eq0], H, I, Ext.rfl'⟩
                rw [List.size_toArray, List.size_toArray, ← r1.length, ← r2.length, ← l1.length, ← l2.length]
                simp [hsz]
            | tup ds =>
              cases e <;> first | (exfalso; simp [kd] at hk; done) | skip
              rename_i es
              obtain ⟨a, xs, rfl, hs, l1⟩ := hd
              obtain ⟨b, ys, rfl, hs', l2⟩ := he
              cases (show u = _ from rx)
              cases (show v = _ from ry)
              have eq0 : deq (.tup ds) (.tup es) = ((List.range (min ds.length es.length)).all (eAt ds es) && ds.length == es.length) := deqL_eq ds es
              obtain ⟨its, r1, p1, _⟩ := I.tuple hs
              obtain ⟨its2, r2, p2, _⟩ := I.tuple hs'
              have e1 : its.toArray.size = ds.length := by rw [List.size_toArray, ← r1.length, ← l1.length]
              have e2 : its2.toArray.size = es.length := by rw [List.size_toArray, ← r2.length, ← l2.length]
              refine rc_tupB (e := eAt ds es) sb.room.units0 (LoopI X pins σ H) p1 p2 (fun i h1 h2 s' z => items (Nat.le_of_succ_le_succ hn) od oe l1 l2 r1 r2 i h1 h2 s' z) (fun s' z => ⟨?_, z⟩) ⟨H, I, Ext.rfl'⟩
              rw [eq0, e1, e2]
            | dic ks ds =>
              cases e <;> first | (exfalso; simp [kd] at hk; done) | skip
              rename_i ls es
              have hu := sb.room.un
              refine rc_pure I (dep (.dic ks ds)) (.dic ks ds) (.dic ls es) x y u v A (Nat.le_refl _) od oe hd he rx ry ?_ X.xe _ ⟨rfl, H, I, Ext.rfl'⟩
              omega
        · exact mis I sb.room.units0 d e hd he rx ry hk h6 h6' X.xe _ ⟨by rw [deq_kd hk], H, I, Ext.rfl'⟩
theorem eq_own {k : Nat} {shp : Addr → List Str → List Dt → Prop} (T : EqTab X.prog X.w X.K X.mg X.base k shp) {d e : Dt} {x y : V} {u v : Value} {A : Around} (hn : dep d ≤ n) (od : okD shp d) (oe : okD shp e) (hd : Is X.K H d x) (he : Is X.K H e y) (rx : RelV x u) (ry : RelV y v) (sb : Sub X (k + n) A) (I : Inv X pins σ H s) :
    wpAny (model X.prog X.w) A (eqBool u v) (fun r s' => r = deq d e ∧ LoopI X pins σ H s') X.xe s :=
  eq_get I hd he rx ry ⟨rfl, H, I, Ext.rfl'⟩ (wpAny_mono (rc_own T n d e x y u v A pins s H hn od oe hd he rx ry sb I) (fun r s2 q => ⟨_, q.1, rfl, q.2⟩) fun _ _ z => z)
end
end LxE
namespace LxE
open PySem PySem.SeqAt
open AutoSeq1 (wpAny_loadPart')
open MeetsSeq MeetsSeq2 MeetsSeq3 SeqRoads2
section
variable {prog : Program} {w : World} {A : Around} {R : Result → Shared → Prop}
theorem ne_loopB (l b : Addr) (N : Nat) (e : Nat → Bool) (I : Shared → Prop) (hl : ListJ prog w A (fun e s' => R (.error e) s') l b N e I)
    (fin : ∀ s, I s → R (.ok (.ret (.bool (!(List.range N).all e)))) s) (k : Nat) :
    ∀ i : Nat, N - i = k → i ≤ N → (∀ j, j < i → e j = true) → ∀ s, I s →
      wpAny (model prog w) A.in1 (Builtin.«list.__eq__.loop» ⟨[.ref l, .ref b, rawInt i, rawInt 3], []⟩) (FinOf prog w A R) (fun e s' => R (.error e) s') s := by
  induction k with
  | zero =>
    intro i hk hi hp s h
    obtain ⟨items, items2, hl1', hb1', hs1, hs2, _⟩ := hl _ h
    obtain ⟨n, dd, sl, hl1⟩ := isList_obj hl1'
    obtain ⟨n2, dd2, sl2, hb1⟩ := isList_obj hb1'
    have hi' : i = N := by omega
    have hR : R (.ok (.ret (.bool false))) s := by
      have z := fin s h
      rw [all_full (fun j hj => hp j (by omega))] at z
      exact z
    obtain ⟨hp', g, d, tk, os⟩ := s
    wp_walk using wpAny_loadPart' hl1, wpAny_loadPart' hb1
    have hi1 : items[((i : Nat) : Int).toNat]? = none := by simp; omega
    have hi2 : items2[((i : Nat) : Int).toNat]? = none := by simp; omega
    rw [hi1, hi2]
    wp_walk using wpAny_loadPart' hl1, wpAny_loadPart' hb1
    show R (.ok (.ret (.bool (items.size != items2.size)))) _
    rw [hs1, hs2]
    simpa using hR
  | succ k ih =>
    intro i hk hi hp s h
    obtain ⟨items, items2, hl1', hb1', hs1, hs2, turn⟩ := hl _ h
    obtain ⟨n, dd, sl, hl1⟩ := isList_obj hl1'
    obtain ⟨n2, dd2, sl2, hb1⟩ := isList_obj hb1'
    have hlt : i < items.size := by omega
    have hlt2 : i < items2.size := by omega
    have ht := turn i hlt hlt2
    obtain ⟨hp', g, d, tk, os⟩ := s
    wp_walk using wpAny_loadPart' hl1, wpAny_loadPart' hb1
    have hi1 : items[((i : Nat) : Int).toNat]? = some items[i] := by simp [hlt]
    have hi2 : items2[((i : Nat) : Int).toNat]? = some items2[i] := by simp [hlt2]
    have hc : ((i : Int) + 1) = ((i + 1 : Nat) : Int) := by omega
    rw [hi1, hi2]
    refine wpAny_bind (wpAny_mono ht (fun r s2 h2 => ?_) fun _ _ x => x)
    obtain ⟨hr, h2⟩ := h2
    subst hr
    obtain ⟨items3, items4, hl3', hb3', hs3, hs4, _⟩ := hl _ h2
    obtain ⟨n3, dd3, sl3, hl3⟩ := isList_obj hl3'
    obtain ⟨n4, dd4, sl4, hb3⟩ := isList_obj hb3'
    have fin2 := fin s2 h2
    cases hei : e i with
    | true =>
      have hrec := ih (i + 1) (by omega) (by omega) (fun j hj => by
        rcases Nat.lt_succ_iff_lt_or_eq.mp hj with z | z
        · exact hp j z
        · rw [z]; exact hei) s2 h2
      obtain ⟨hp2, g2, d2, tk2, os2⟩ := s2
      wp_walk
      rw [hc]
      exact ⟨plainId_quiet plain_eq_loop _, codeAny_builtin entry_eq_loop (by
        rw [Around.under_plainId plain_eq_loop _]
        exact hrec)⟩
    | false =>
      rw [all_drop hp (by omega) hei] at fin2
      have hj1 : items3[((i : Nat) : Int).toNat]? = some (items3[i]'(by omega)) := by simp <;> omega
      have hj2 : items4[((i : Nat) : Int).toNat]? = some (items4[i]'(by omega)) := by simp <;> omega
      obtain ⟨hp2, g2, d2, tk2, os2⟩ := s2
      wp_walk using wpAny_loadPart' hl3, wpAny_loadPart' hb3
      rw [hj1, hj2]
      wp_walk
      simpa using fin2
theorem list_neB (l b : Addr) (N : Nat) (e : Nat → Bool) (I : Shared → Prop) (hl : ListJ prog w A (fun e s' => R (.error e) s') l b N e I)
    (fin : ∀ s, I s → R (.ok (.ret (.bool (!(List.range N).all e)))) s) {s : Shared} (h : I s) :
    wpAny (model prog w) A.in1 (Builtin.«list.__ne__» ⟨[.ref l, .ref b], []⟩) (FinOf prog w A R) (fun e s' => R (.error e) s') s := by
  obtain ⟨items, items2, hl1', hb1', hs1, hs2, _⟩ := hl _ h
  obtain ⟨n, dd, sl, hl1⟩ := isList_obj hl1'
  obtain ⟨n2, dd2, sl2, hb1⟩ := isList_obj hb1'
  have hrec := ne_loopB (A := A) (R := R) l b N e I hl fin _ 0 rfl (Nat.zero_le _) (fun j hj => absurd hj (Nat.not_lt_zero j)) s h
  obtain ⟨hp, g, d, tk, os⟩ := s
  have f3 := AutoSeq1.sub_list_list
  have hne : ¬ (items.size != items2.size) = true := by simp [hs1, hs2]
  wp_walk using wpAny_loadPart' hl1, wpAny_loadPart' hb1
  exact ⟨plainId_quiet plain_eq_loop _, codeAny_builtin entry_eq_loop (by
    rw [Around.under_plainId plain_eq_loop _]
    exact hrec)⟩
theorem tuple_neB (l b : Addr) (items items2 : Array Value) (n n2 : Nat) (dd dd2 : Option Addr) (sl sl2 : Array (Option Value)) (e : Nat → Bool) (I : Shared → Prop)
    (turn : ∀ i (h1 : i < items.size) (h2 : i < items2.size) s, I s → wpAny (model prog w) A.in1 (eqBool items[i] items2[i]) (fun r s' => r = e i ∧ I s') (fun e s' => R (.error e) s') s)
    (fin : ∀ s, I s → R (.ok (.ret (.bool (!((List.range (min items.size items2.size)).all e && items.size == items2.size))))) s) {s : Shared} (hl1 : s.heap.get? l = some { cls := .type "tuple", dict := dd, data := .seq items n, slots := sl }) (hb1 : s.heap.get? b = some { cls := .type "tuple", dict := dd2, data := .seq items2 n2, slots := sl2 }) (h : I s) :
    wpAny (model prog w) A.in1 (Builtin.«tuple.__ne__» ⟨[.ref l, .ref b], []⟩) (FinOf prog w A R) (fun e s' => R (.error e) s') s := by
  have f2 := AutoSeq1.sub_tuple_tuple
  have hZ : (items.toList.zip items2.toList).length = min items.size items2.size := by simp
  have h0 := h
  obtain ⟨hp, g, d, tk, os⟩ := s
  wp_walk using wpAny_loadPart' hl1, wpAny_loadPart' hb1, wpAny_forIn_list _ (fun rest b s' => b.1 = none ∧ ∃ i, rest = (items.toList.zip items2.toList).drop i ∧ (∀ j, j < i → e j = true) ∧ i ≤ min items.size items2.size ∧ I s') _
  case turn =>
    rintro ⟨y, x⟩ rest b s' ⟨hb', i, hz, hpre, hi, hI⟩
    have hlt : i < (items.toList.zip items2.toList).length := by
      rcases Nat.lt_or_ge i (items.toList.zip items2.toList).length with h' | h'
      · exact h'
      · rw [List.drop_of_length_le h'] at hz; cases hz
    have hm : i < min items.size items2.size := hZ ▸ hlt
    have h1 : i < items.size := Nat.lt_of_lt_of_le hm (Nat.min_le_left _ _)
    have h2 : i < items2.size := Nat.lt_of_lt_of_le hm (Nat.min_le_right _ _)
    rw [List.drop_eq_getElem_cons hlt] at hz
    injection hz with hyx hrest
    have hy : y = items[i] := by have := congrArg Prod.fst hyx; simpa using this
    have hx : x = items2[i] := by have := congrArg Prod.snd hyx; simpa using this
    subst hy hx
    refine wpAny_bind (wpAny_mono (turn i h1 h2 s' hI) (fun r s2 q2 => ?_) fun _ _ x => x)
    obtain ⟨hr, q2⟩ := q2
    subst hr
    cases hei : e i with
    | true =>
      wp_walk
      exact ⟨rfl, i + 1, hrest, fun j hj => by
        rcases Nat.lt_succ_iff_lt_or_eq.mp hj with z | z
        · exact hpre j z
        · rw [z]; exact hei, hm, q2⟩
    | false =>
      have hR := fin s2 q2
      rw [all_drop hpre hm hei] at hR
      wp_walk
      simpa using hR
  case fin =>
    rintro ⟨b1, b2⟩ s' ⟨hb', i, hz, hpre, hi, hI⟩
    simp only at hb'
    subst hb'
    have hge : min items.size items2.size ≤ i := by
      rcases Nat.lt_or_ge i (items.toList.zip items2.toList).length with h' | h'
      · rw [List.drop_eq_getElem_cons h'] at hz; cases hz
      · exact hZ ▸ h'
    have hR := fin s' hI
    rw [all_full (fun j hj => hpre j (by omega))] at hR
    wp_walk
    simpa [Builtin.Tuple.tupleCompareSizes, bne] using hR
  case h =>
    exact ⟨rfl, 0, rfl, fun j hj => absurd hj (Nat.not_lt_zero j), Nat.zero_le _, h0⟩
end
section
variable {prog : Program} {w : World} {A : Around} {E : Value → Shared → Prop} {s : Shared}
theorem rc_listNB {l b : Addr} {N : Nat} {e : Nat → Bool} {Q : Value → Shared → Prop} (hu : A.units < cLine) (I : Shared → Prop) (hl : ListJ prog w A E l b N e I)
    (fin : ∀ s, I s → Q (.bool (!(List.range N).all e)) s) (h : I s) : wpAny (model prog w) A (richCompare .NotEq (.ref l) (.ref b)) Q E s := by
  obtain ⟨items, items2, hl1', hb1', _, _, _⟩ := hl _ h
  obtain ⟨n, dd, sl, hl1⟩ := isList_obj hl1'
  obtain ⟨n2, dd2, sl2, hb1⟩ := isList_obj hb1'
  refine wpAny_richCompare_same_room (op := .NotEq) ⟨_, hl1, rfl⟩ ⟨_, hb1, rfl⟩ F.slot_list_ne (call_here F.slot_list_ne ⟨_, hl1, rfl⟩ F.entry_list_ne (F.args_list_ne_2 _ _) ?_) hu
  exact list_neB (R := wants (fun v s' => v ≠ .notImplemented ∧ Q v s') E) l b N e I hl (fun s' q => ⟨(fun x => nomatch x), fin s' q⟩) h
theorem rc_tupNB {l b : Addr} {items items2 : Array Value} {e : Nat → Bool} {Q : Value → Shared → Prop} (hu : A.units < cLine) (I : Shared → Prop)
    (hl : s.heap.IsTuple l items) (hb : s.heap.IsTuple b items2)
    (turn : ∀ i (h1 : i < items.size) (h2 : i < items2.size) s, I s → wpAny (model prog w) A.in1 (eqBool items[i] items2[i]) (fun r s' => r = e i ∧ I s') E s)
    (fin : ∀ s, I s → Q (.bool (!((List.range (min items.size items2.size)).all e && items.size == items2.size))) s) (h : I s) : wpAny (model prog w) A (richCompare .NotEq (.ref l) (.ref b)) Q E s := by
  obtain ⟨⟨cls, dd, data, sl⟩, ho, hc, n, hd⟩ := id hl
  obtain ⟨⟨cls2, dd2, data2, sl2⟩, ho2, hc2, n2, hd2⟩ := id hb
  simp only at hc hd hc2 hd2
  subst hc hd hc2 hd2
  refine wpAny_richCompare_same_room (op := .NotEq) ⟨_, ho, rfl⟩ ⟨_, ho2, rfl⟩ F.slot_tuple_ne (call_here F.slot_tuple_ne ⟨_, ho, rfl⟩ F.entry_tuple_ne (F.args_tuple_ne_2 _ _) ?_) hu
  exact tuple_neB (R := wants (fun v s' => v ≠ .notImplemented ∧ Q v s') E) l b items items2 n n2 dd dd2 sl sl2 e I turn (fun s' q => ⟨(fun x => nomatch x), fin s' q⟩) ho ho2 h
end
section
open PySem.W
variable {prog : Program} {w : World} {A : Around} {E : Value → Shared → Prop} {s : Shared} {K : Frag} {x C f : Addr} {ox : Obj} {od : Option Obj} {b tb : Value}
/-- x != b, x of an own class with an own == and no own != -/
theorem cmpne_K {Q : Value → Shared → Prop} (hu : A.units + 1 < cLine) (X : K.In s.heap) (I : InstAt s.heap x ox C od) (hb : Looks (model prog w) s.heap (typeOf b) tb) (hn : notFirst K C tb = true) (hm : mroIn K C (.type "object") = some true)
    (hne : findIn K (.ref C) "__ne__" = some (some (.builtin "object.__ne__"))) (hs : findIn K (.ref C) "__eq__" = some (some (.ref f))) (hf : isFn K (.ref f) = true)
    (h : wpAny (model prog w) A.in1 (call (.ref f) [.ref x, b]) (fun v s' => ∃ r, v = .bool r ∧ Q (.bool (!r)) s') E s) : wpAny (model prog w) A (richCompare .NotEq (.ref x) b) Q E s := by
  have one : wpAny (model prog w) A (tryCompare (.ref x) "__ne__" b) (fun r s' => ∃ v, r = some (.bool v) ∧ Q (.bool v) s') E s := by
    unfold tryCompare
    refine wpAny_bind ?_
    simp only [callSpecialIfBound?, bindSpecialIfBound?]
    refine wpAny_holding (wpAny_bind (wpAny_bind (wpAny_bind (I.type.here ((looks_findIn X hne).here ?_)))))
    refine wpAny_bind (wpAny_askSetting (wpAny_ite ?_))
    have fin : wpAny (model prog w) A (call (.builtin "object.__ne__") ([.ref x] ++ [b]) >>= fun v => pure (some v)) (fun a s₁ => wpAny (model prog w) A (match a with
        | some Value.notImplemented => pure none
        | none => pure none
        | some v => pure (some v)) (fun r s' => ∃ v, r = some (Value.bool v) ∧ Q (.bool v) s') E s₁) E s := by
      refine wpAny_bind (wpAny_call (codeAny_call_builtin PySem.F.cmp_object.ne.plain PySem.F.cmpEntry_ne ?_))
      refine check_slot PySem.F.cmpKind_ne PySem.F.cmpSplit_ne (I.type.andThen (looks_mroIn X hm)) (PySem.F.cmpArgs_ne _ _) ?_
      unfold Builtin.«object.__ne__»
      refine wpAny_bind (wpAny_of_eq (a := ((Value.ref x : Value), [b])) (by first | rfl | (simp only [slotArgs]; rfl)) ?_)
      refine wpAny_bind (wpAny_cRoomFor (by exact hu) ?_)
      refine wpAny_bind (ifBound_K X I hs hf (wpAny_mono h (fun v s' hv => ?_) fun _ _ e => e))
      obtain ⟨r, rfl, q⟩ := hv
      refine wpAny_bind (wpAny_truthy_bool ?_)
      exact wpAny_pure (wpAny_pure (wpAny_pure ⟨_, rfl, q⟩))
    split
    · exact wpAny_bind (wpAny_of_eq (PySem.F.cmp_object.ne.bind _) (wpAny_pure (by exact fin)))
    · exact wpAny_tryCatch (wpAny_bind (wpAny_of_eq (PySem.F.cmp_object.ne.bind _) (wpAny_pure (by exact fin))))
  unfold richCompare
  simp only [oneThing_ref, cmpInfo]
  refine wpAny_holding (wpAny_bind (wpAny_cRoomFor (by omega) ?_))
  refine wpAny_bind (I.type.here (wpAny_bind (hb.here ?_)))
  split
  · rename_i q
    have e : subIn K tb (.ref C) = some false := by
      rcases Bool.or_eq_true_iff.mp hn with e | e
      · rw [beq_iff_eq.mp e] at q; simp at q
      · exact beq_iff_eq.mp e
    refine wpAny_bind ((looks_subIn X e).here ?_)
    simp only [Bool.false_eq_true, if_false]
    refine wpAny_bind (wpAny_mono one (fun r s' z => ?_) fun _ _ e => e)
    obtain ⟨v, rfl, hq⟩ := z
    exact wpAny_pure hq
  · refine wpAny_bind (wpAny_pure ?_)
    simp only [Bool.false_eq_true, if_false]
    refine wpAny_bind (wpAny_mono one (fun r s' z => ?_) fun _ _ e => e)
    obtain ⟨v, rfl, hq⟩ := z
    exact wpAny_pure hq
end
end LxE
namespace PySem.W
open Lean Elab Tactic Meta PySem PySem.Calls PyProof.Rows PyProof.V PySem.Spec
theorem lx_ne_dicts {prog : Program} {w : World} {K : Type} [DecidableEq K] {knd : KeyKind prog w K} {A : Around} {s : Shared} {a b : Addr} {ka kb : List (K × Value)} {r : Bool} (ha : (a == sysModules) = false) (hb : (b == sysModules) = false)
    (da : s.heap.DictOf knd a ka) (db : s.heap.DictOf knd b kb) (hu : A.units < cLine) (hits : ka.length = kb.length → KeqHitsP prog w A.in1 s kb ka r) (E Q : Value → Shared → Prop) (h : Q (.bool (!(ka.length == kb.length && r))) s) : wpAny (model prog w) A (richCompare .NotEq (.ref a) (.ref b)) Q E s := by
  refine wpAny_richCompare_same_room (op := .NotEq) da.typeIs db.typeIs PySem.F.slot_dict_ne (wpAny_call_entry PySem.F.slot_dict_ne da.typeIs PySem.F.entry_dict_ne ?_ (PySem.F.args_dict_ne_2 _ _)) hu
  show wpAny _ _ (Builtin.Dict.dictSlotArgs "__ne__" ⟨[.ref a, .ref b], []⟩ >>= _) _ _ s
  refine wpAny_bind ?_
  unfold Builtin.Dict.dictSlotArgs
  refine wpAny_bind (wpAny_notOrdered_dict da.typeIs ?_)
  show wpAny _ _ (pure (Value.ref a, Value.ref b)) _ _ s
  refine wpAny_pure ?_
  refine wpAny_bind (wpAny_isInstance (T := "dict") db.typeIs PySem.F.sub_dict_dict ?_)
  simp only [Bool.not_true, Bool.false_eq_true, if_false]
  refine wpAny_bind (wpAny_pure (wpAny_bind (wpAny_pure ?_)))
  refine wpAny_bind (samePairsP ha hb da db hits ?_)
  refine wpAny_pure ⟨_, rfl, ?_, ?_⟩
  · exact fun x => nomatch x
  · simpa using h
end PySem.W
namespace LxE
open PySem PySem.SeqAt L2
section
variable {X : Cx} {pins : List (Addr × Obj)} {σ : L2.St} {H : Hp} {s : Shared}
theorem items_own {k n : Nat} {shp : Addr → List Str → List Dt → Prop} (T : EqTab X.prog X.w X.K X.mg X.base k shp) {A : Around} (sb : Sub X (k + n) A) {ds es : List Dt} {xs ys : List V} {its its2 : List Value} (hdn : depL ds ≤ n) (p1 : okL shp ds) (p2 : okL shp es)
    (l1 : IsL X.K H ds xs) (l2 : IsL X.K H es ys) (r1 : Vals xs its) (r2 : Vals ys its2) (i : Nat) (h1 : i < its.toArray.size) (h2 : i < its2.toArray.size) (s' : Shared) (L : LoopI X pins σ H s') :
    wpAny (model X.prog X.w) A (eqBool its.toArray[i] its2.toArray[i]) (fun r s2 => r = eAt ds es i ∧ LoopI X pins σ H s2) X.xe s' := by
  obtain ⟨H1, I1, e1⟩ := L
  have g1 : its[i]? = some its.toArray[i] := by
    have h1' : i < its.length := by simpa using h1
    rw [List.getElem?_eq_getElem h1'] <;> simp
  have g2 : its2[i]? = some its2.toArray[i] := by
    have h2' : i < its2.length := by simpa using h2
    rw [List.getElem?_eq_getElem h2'] <;> simp
  have k1 : i < xs.length := by rw [r1.length]; simpa using h1
  have k2 : i < ys.length := by rw [r2.length]; simpa using h2
  obtain ⟨u', hu', ru⟩ := r1.get (List.getElem?_eq_getElem k1)
  obtain ⟨v', hv', rv⟩ := r2.get (List.getElem?_eq_getElem k2)
  rw [g1] at hu'
  rw [g2] at hv'
  rw [Option.some.inj hu', Option.some.inj hv']
  obtain ⟨d', d1, i1⟩ := l1.get (List.getElem?_eq_getElem k1)
  obtain ⟨e', d2, i2⟩ := l2.get (List.getElem?_eq_getElem k2)
  rw [eAt_some d1 d2]
  refine wpAny_mono (eq_own T (Nat.le_trans (depL_get d1) hdn) (okL_get p1 d1) (okL_get p2 d2) (i1.ext e1) (i2.ext e1) ru rv sb I1) (fun r s2 q => ?_) fun _ _ z => z
  obtain ⟨hr, H2, I2, e2⟩ := q
  exact ⟨hr, H2, I2, e1.trans e2⟩
/-- what a class must have besides, for != -/
def NeFacts (K : PySem.W.Frag) (C : Addr) : Prop := PySem.W.findIn K (.ref C) "__ne__" = some (some (.builtin "object.__ne__")) ∧ PySem.W.mroIn K C (.type "object") = some true
theorem rcn_own {k : Nat} {shp : Addr → List Str → List Dt → Prop} (T : EqTab X.prog X.w X.K X.mg X.base k shp) (N : ∀ C fs ds, shp C fs ds → NeFacts X.K C) (n : Nat) (d e : Dt) (x y : V) (u v : Value) (A : Around) (hn : dep d ≤ n) (od : okD shp d) (oe : okD shp e) (hd : Is X.K H d x) (he : Is X.K H e y)
    (rx : RelV x u) (ry : RelV y v) (sb : Sub X (k + n + 1) A) (I : Inv X pins σ H s) (hk : kd d = kd e ∨ kd d = 6) :
    wpAny (model X.prog X.w) A (richCompare .NotEq u v) (fun r s' => r = .bool (!deq d e) ∧ LoopI X pins σ H s') X.xe s := by
  have sb1 : Sub X (k + n) A.in1 := sb.in1
  by_cases h6 : kd d = 6
  · cases d <;> first | (exfalso; simp [kd] at h6; done) | skip
    rename_i C fs ds
    obtain ⟨⟨f, fd, F1, hfind, hfn, hb⟩, hfc⟩ := T.own C fs ds od
    obtain ⟨hne, hm⟩ := N C fs ds od
    have hd' := hd
    obtain ⟨a, dx, kvs, rfl, hs, ek, hl⟩ := hd
    cases (show u = _ from rx)
    obtain ⟨mA, J0, _⟩ := ins_get I.hok hs
    obtain ⟨odj, J, _⟩ := J0.look
    have tb : ∃ tb, PySem.W.Looks (model X.prog X.w) s.heap (typeOf v) tb ∧ PySem.W.notFirst X.K C tb = true := by
      by_cases h6' : kd e = 6
      · cases e <;> first | (exfalso; simp [kd] at h6'; done) | skip
        rename_i C' fs' es
        have t2 := T.two _ _ _ _ _ _ od oe
        obtain ⟨b, dy, lvs, rfl, hs', _, _⟩ := he
        cases (show v = _ from ry)
        obtain ⟨mB, J0', _⟩ := ins_get I.hok hs'
        obtain ⟨odj', J', _⟩ := J0'.look
        exact ⟨_, J'.type, t2⟩
      · obtain ⟨Tn, hT, tT⟩ := ty_of I he ry h6'
        exact ⟨_, looks_ty tT, (facts_of hfc hT).1⟩
    obtain ⟨tb, Lt, hnf⟩ := tb
    have hun := sb.room.un
    refine cmpne_K (tb := tb) (by omega) I.kIn J Lt hnf hm hne hfind hfn ?_
    refine wpAny_mono (own_run (Q' := fun z H' => z = .bl (deq (.ins C fs ds) e) ∧ Ext H H') F1 hb (sb1.mono (by omega)) I ry ⟨a, y, fs, ds, e, rfl, hd', he, od, oe, fun H' e' => ⟨rfl, e'⟩⟩) (fun r s' hr => ?_) fun _ _ z => z
    obtain ⟨z, H', I', rz, ez, ex⟩ := hr
    subst ez
    cases (show r = _ from rz)
    exact ⟨_, rfl, rfl, H', I', ex⟩
  · have hk' : kd d = kd e := hk.resolve_right h6
    by_cases h2 : kd d ≤ 2
    · have h3 : kd e ≤ 2 := hk' ▸ h2
      have L : LoopI X pins σ H s := ⟨H, I, Ext.rfl'⟩
      cases d <;> first | (exfalso; simp [kd] at h2; done) | skip
      all_goals (cases e <;> first | (exfalso; simp [kd] at hk'; done) | skip)
      · cases (show x = _ from hd); cases (show y = _ from he); cases (show u = _ from rx); cases (show v = _ from ry)
        exact RcNeAt.none_none X.prog X.w X.xe _ ⟨rfl, L⟩
      · cases (show x = _ from hd); cases (show y = _ from he); cases (show u = _ from rx); cases (show v = _ from ry)
        exact RcNeAt.bool_bool _ _ X.prog X.w X.xe _ ⟨rfl, L⟩
      · cases (show x = _ from hd); cases (show y = _ from he); cases (show u = _ from rx); obtain ⟨t, rfl⟩ := (show ∃ t, v = Value.int _ t from ry)
        exact RcNeAt.bool_int _ _ _ X.prog X.w X.xe _ ⟨rfl, L⟩
      · cases (show x = _ from hd); cases (show y = _ from he); obtain ⟨t, rfl⟩ := (show ∃ t, u = Value.int _ t from rx); cases (show v = _ from ry)
        exact RcNeAt.int_bool _ _ _ X.prog X.w X.xe _ ⟨rfl, L⟩
      · cases (show x = _ from hd); cases (show y = _ from he); obtain ⟨t, rfl⟩ := (show ∃ t, u = Value.int _ t from rx); obtain ⟨t', rfl⟩ := (show ∃ t, v = Value.int _ t from ry)
        exact RcNeAt.int_int _ _ _ _ X.prog X.w X.xe _ ⟨rfl, L⟩
      · cases (show x = _ from hd); cases (show y = _ from he); obtain ⟨t, rfl⟩ := (show ∃ t, u = Value.str _ t from rx); obtain ⟨t', rfl⟩ := (show ∃ t, v = Value.str _ t from ry)
        exact RcNeAt.str_str _ _ _ _ X.prog X.w X.xe _ ⟨rfl, L⟩
    · cases d with
      | non => exact absurd (by decide) h2
      | bl b => exact absurd (by show 1 ≤ 2; decide) h2
      | int b => exact absurd (by show 1 ≤ 2; decide) h2
      | str b => exact absurd (by show 2 ≤ 2; decide) h2
      | ins C fs ds => exact absurd rfl h6
      | lst ds =>
        cases e <;> first | (exfalso; simp [kd] at hk'; done) | skip
        rename_i es
        obtain ⟨a, xs, rfl, hs, l1⟩ := hd
        obtain ⟨b, ys, rfl, hs', l2⟩ := he
        cases (show u = _ from rx)
        cases (show v = _ from ry)
        have eq0 : deq (.lst ds) (.lst es) = ((List.range (min ds.length es.length)).all (eAt ds es) && ds.length == es.length) := deqL_eq ds es
        have hdn : depL ds ≤ n := Nat.le_trans (Nat.le_succ _) hn
        by_cases hsz : ds.length = es.length
        · refine rc_listNB (N := ds.length) (e := eAt ds es) sb.room.units0 (LoopI X pins σ H) (fun s' z => ?_) (fun s' z => ⟨?_, z⟩) ⟨H, I, Ext.rfl'⟩
          · obtain ⟨H1, I1, e1⟩ := id z
            obtain ⟨its, r1, p1, _⟩ := I1.list (hs.ext e1)
            obtain ⟨its2, r2, p2, _⟩ := I1.list (hs'.ext e1)
            exact ⟨its.toArray, its2.toArray, p1.isList, p2.isList, by rw [List.size_toArray, ← r1.length, ← l1.length], by rw [List.size_toArray, ← r2.length, ← l2.length, hsz],
              fun i h1 h2 => items_own T sb1 hdn od oe l1 l2 r1 r2 i h1 h2 s' z⟩
          · rw [eq0, hsz, Nat.min_self, beq_self_eq_true, Bool.and_true, ← hsz]
        · have hb : (ds.length == es.length) = false := beq_eq_false_iff_ne.mpr hsz
          rw [hb, Bool.and_false] at eq0
          obtain ⟨its, r1, p1, _⟩ := I.list hs
          obtain ⟨its2, r2, p2, _⟩ := I.list hs'
          refine RcNeAt.lists_lengths p1.isList p2.isList ?_ sb.room.units0 X.prog X.w X.xe _ ⟨by rw [eq0] <;> rfl, H, I, Ext.rfl'⟩
          rw [List.size_toArray, List.size_toArray, ← r1.length, ← r2.length, ← l1.length, ← l2.length]
          simp [hsz]
      | tup ds =>
        cases e <;> first | (exfalso; simp [kd] at hk'; done) | skip
        rename_i es
        obtain ⟨a, xs, rfl, hs, l1⟩ := hd
        obtain ⟨b, ys, rfl, hs', l2⟩ := he
        cases (show u = _ from rx)
        cases (show v = _ from ry)
        have eq0 : deq (.tup ds) (.tup es) = ((List.range (min ds.length es.length)).all (eAt ds es) && ds.length == es.length) := deqL_eq ds es
        have hdn : depL ds ≤ n := Nat.le_trans (Nat.le_succ _) hn
        obtain ⟨its, r1, p1, _⟩ := I.tuple hs
        obtain ⟨its2, r2, p2, _⟩ := I.tuple hs'
        have e1 : its.toArray.size = ds.length := by rw [List.size_toArray, ← r1.length, ← l1.length]
        have e2 : its2.toArray.size = es.length := by rw [List.size_toArray, ← r2.length, ← l2.length]
        refine rc_tupNB (e := eAt ds es) sb.room.units0 (LoopI X pins σ H) p1 p2 (fun i h1 h2 s' z => items_own T sb1 hdn od oe l1 l2 r1 r2 i h1 h2 s' z) (fun s' z => ⟨?_, z⟩) ⟨H, I, Ext.rfl'⟩
        rw [eq0, e1, e2]
      | dic ks ds =>
        cases e <;> first | (exfalso; simp [kd] at hk'; done) | skip
        rename_i ls es
        obtain ⟨a, kvs, rfl, hs, ek, l1⟩ := hd
        obtain ⟨b, lvs, rfl, hs', el, l2⟩ := he
        subst ek el
        cases (show u = _ from rx)
        cases (show v = _ from ry)
        obtain ⟨_, ya, va, ra, da⟩ := (show ObjOk X.prog X.w H s.heap a (.dK kvs) from I.hok a _ hs)
        obtain ⟨_, yb, vb, rb, db⟩ := (show ObjOk X.prog X.w H s.heap b (.dK lvs) from I.hok b _ hs')
        have hun := sb.room.un
        have hdn : depL ds ≤ n := Nat.le_trans (Nat.le_succ _) hn
        refine PySem.W.lx_ne_dicts (knd := mixKind X.prog X.w) (r := deqD (kvs.map (·.1)) ds (lvs.map (·.1)) es) ya yb da db (by omega) (fun _ => hits_of rb l2 l1 ra fun i d e x y u v k1 k2 i1 i2 r1 r2 => ?_) X.xe _ ⟨?_, H, I, Ext.rfl'⟩
        · obtain ⟨j, hj⟩ := mem_get k2
          intro E Q q
          exact eq_get I i1 i2 r1 r2 q (rc_pure I n d e x y u v A.in1 (Nat.le_trans (depL_get k1) hdn) (pureL_get od k1) (pureL_get oe hj) i1 i2 r1 r2 (by show A.units + 1 + n < cLine; omega) E _ ⟨_, rfl, q⟩)
        · have e1 : va.length = (kvs.map (·.1)).length := by rw [List.length_map, ← KV.length ra]
          have e2 : vb.length = (lvs.map (·.1)).length := by rw [List.length_map, ← KV.length rb]
          rw [e1, e2] <;> rfl
end
end LxE
namespace L2
open PySem PySem.Spec PyProof.Rows
def rNeO (K : PySem.W.Frag) (shp : Addr → List Str → List Dt → Prop) : R2 := fun x y H Q => ∃ d e, Is K H d x ∧ Is K H e y ∧ okD shp d ∧ okD shp e ∧ dep d ≤ 8 ∧ (LxE.kd d = LxE.kd e ∨ LxE.kd d = 6) ∧ ∀ H', Ext H H' → Q (.bl (!deq d e)) H'
section
variable {X : Cx} {k m : Nat} {shp : Addr → List Str → List Dt → Prop}
theorem op_neO (T : EqTab X.prog X.w X.K X.mg X.base k shp) (N : ∀ C fs ds, shp C fs ds → LxE.NeFacts X.K C) (hr : Room m X.A) (hm : k + 9 ≤ m) : OpR X (compareOp .NotEq) (rNeO X.K shp) := by
  intro pins s σ H x y v u Q I rx ry hq
  obtain ⟨d, e, hd, he, od, oe, hn, hk, q⟩ := hq
  show wpAny (model X.prog X.w) X.A (richCompare .NotEq v u) (EP X pins σ Q) X.xe s
  refine wpAny_mono (LxE.rcn_own T N 8 d e x y v u X.A hn od oe hd he rx ry ⟨hr.mono (by omega), rfl⟩ I hk) (fun r s' z => ?_) fun _ _ x => x
  obtain ⟨hr', H', I', e'⟩ := z
  subst hr'
  exact ⟨.bl _, H', I', rfl, q H' e'⟩
end
end L2
namespace L2
open PySem PySem.Spec PyProof.Rows
def spX (C : Addr) (n : Nat) (fo : List V → List (Str × V)) : Sp := fun vs H Q _ => ∃ (H0 : Hp) (a : Addr) (ws : List V), vs = .ref a :: ws ∧ ws.length = n ∧ H0 a = none ∧ H = upd H0 a (exo a C none) ∧
  ∀ d, H0 d = none → d ≠ a → Q .non (upd (upd H0 d (exd d (fo ws))) a (exo a C (some d)))
theorem exo1 {H0 : Hp} {a d : Addr} {o o' e : HO} (hne : d ≠ a) : upd (upd (upd H0 a o) d e) a o' = upd (upd H0 d e) a o' := by
  funext b
  by_cases h1 : b = a
  · rw [h1, upd_same, upd_same]
  · rw [upd_ne h1, upd_ne h1]
    by_cases h2 : b = d
    · rw [h2, upd_same, upd_same]
    · rw [upd_ne h2, upd_ne h2, upd_ne h1]
theorem exo2 {H0 : Hp} {a d : Addr} {o' e e' : HO} (hne : d ≠ a) : upd (upd (upd H0 d e) a o') d e' = upd (upd H0 d e') a o' := by
  funext b
  by_cases h1 : b = d
  · rw [h1, upd_same, upd_ne hne, upd_same]
  · rw [upd_ne h1]
    by_cases h2 : b = a
    · rw [h2, upd_same, upd_same]
    · rw [upd_ne h2, upd_ne h2, upd_ne h1, upd_ne h1]
theorem exo3 {H0 : Hp} {a d : Addr} {o' e e' : HO} (ha : H0 a = none) (hne : d ≠ a) : upd (del (upd (upd H0 d e) a o') a) d e' = upd H0 d e' := by
  funext b
  by_cases h1 : b = d
  · rw [h1, upd_same, upd_same]
  · rw [upd_ne h1, upd_ne h1]
    by_cases h2 : b = a
    · rw [h2, del_same, ha]
    · rw [del_ne h2, upd_ne h2, upd_ne h1]
/-- what of the text an own exception class with an __init__ must have -/
structure XCls (K : PySem.W.Frag) (mg : Str → Option Value) (x : Str) (C fI : Addr) (fd : FuncData) (ps : List Str) : Prop where
  T : OexC K C
  m : mg x = some (.ref C)
  i : PySem.W.findIn K (.ref C) "__init__" = some (some (.ref fI))
  t : PySem.W.typeIn K (.ref fI) = some (.type "function")
  b : Binds K fd ps []
  isC : ExcC K C
  xf : XfC K C
/-- the reading of raise C(e, ..) behind its arguments -/
theorem rz_ok {C : Addr} {n : Nat} {fo : List V → List (Str × V)} {ws : List V} {H1 : Hp} {Q : XK} (hn : ws.length = n) (h10 : n ≤ 10) (k : ∀ d, H1 d = none → Q (.ref C) (some d) (upd H1 d (.xd (fo ws)))) :
    ws.length ≤ 1000 ∧ ∀ a, H1 a = none → spX C n fo (.ref a :: (ws ++ [])) (upd H1 a (exo a C none))
      (fun v H2 => v = .non ∧ ∃ (d : Addr) (fs : List (Str × V)), H2 a = some (exo a C (some d)) ∧ H2 d = some (exd d fs) ∧ H1 d = none ∧ Q (.ref C) (some d) (upd (del H2 a) d (.xd fs))) (fun _ _ _ => False) := by
  refine ⟨by omega, fun a ha => ⟨H1, a, ws, by rw [List.append_nil], hn, ha, rfl, fun d hd hne => ⟨rfl, d, fo ws, upd_same, ?_, hd, ?_⟩⟩⟩
  · rw [upd_ne hne, upd_same]
  · rw [exo3 ha hne]
    exact k d hd
section
variable {X : Cx} {x : Str} {C fI : Addr} {fd : FuncData} {ps : List Str} {k n : Nat} {fo : List V → List (Str × V)} {e : Expr} {es : List Expr} {ta : TA} {p pos pos2 : Pos} {W : WX}
/-- raise C(e, ..) -/
theorem ps_raiseX (T : XCls X.K X.mg x C fI fd ps) (F1 : FnOk X.prog X.w X.K X.mg X.base CX0 k fI fd ps (spX C n fo)) (hr : Room (k + 1) X.A) (hc : X.calm = true) (tk : Takes X W) (hg : Gl X x) (ha : PA X (e :: es) ta)
    (hdb : (x == ("__debug__" : Str)) = false := by decide) (he : starEach (e :: es) X.env = (false, eval e X.env) :: starEach es X.env := by rfl) (hpl : (backTo pos (starEach es X.env)).any (·.1) = false := by rfl) :
    PS X (.Raise (some (.Call (.Name x p) (e :: es) [] pos)) none pos2) (fun _ σ H => tMkO C (spX C n fo) [] ta σ H fun cls d H' => W cls d σ H') :=
  ps_raise hc tk (pmk_oex (k := k) (dvs := []) (ds := []) T.T T.i T.t F1 hr T.b .nil (fun _ _ _ _ _ _ _ h => h.elim) hg T.m ha hdb he hpl)
end
end L2
namespace L2
open PySem
theorem eqFacts_mk {K : PySem.W.Frag} {C : Addr} (a1 : PySem.W.notFirst K C (.type "NoneType") = true) (b1 : PySem.W.subIn K (.ref C) (.type "NoneType") = some false) (a2 : PySem.W.notFirst K C (.type "bool") = true) (b2 : PySem.W.subIn K (.ref C) (.type "bool") = some false)
    (a3 : PySem.W.notFirst K C (.type "int") = true) (b3 : PySem.W.subIn K (.ref C) (.type "int") = some false) (a4 : PySem.W.notFirst K C (.type "str") = true) (b4 : PySem.W.subIn K (.ref C) (.type "str") = some false)
    (a5 : PySem.W.notFirst K C (.type "list") = true) (b5 : PySem.W.subIn K (.ref C) (.type "list") = some false) (a6 : PySem.W.notFirst K C (.type "tuple") = true) (b6 : PySem.W.subIn K (.ref C) (.type "tuple") = some false)
    (a7 : PySem.W.notFirst K C (.type "dict") = true) (b7 : PySem.W.subIn K (.ref C) (.type "dict") = some false) : eqFacts K C = true := by
  unfold eqFacts tyNames
  simp only [List.all_cons, List.all_nil, a1, a2, a3, a4, a5, a6, a7, b1, b2, b3, b4, b5, b6, b7]
  rfl
end L2
namespace L2
open PySem
theorem kit_self {K : PySem.W.Frag} {C : Addr} : PySem.W.kitOne K (.ref C) (.ref C) = some true := by
  unfold PySem.W.kitOne
  rw [if_pos (by simp)]
theorem kit_two {K : PySem.W.Frag} {C E : Addr} {b : Bool} (hne : C ≠ E) (hd : PySem.W.hasDictIn K E = true) (ht : PySem.W.typeIn K (.ref E) = some (.type "type")) (h4 : PySem.W.subIn K (.ref C) (.ref E) = some b) : PySem.W.kitOne K (.ref C) (.ref E) = some b := by
  obtain ⟨cd, hc, _⟩ := PySem.W.any_some hd
  have e1 : (Value.ref C == Value.ref E) = false := beq_eq_false_iff_ne.mpr (fun e => hne (Value.ref.inj e))
  have e2 : ((PySem.W.clsIn K E).isSome && PySem.W.typeIn K (.ref E) == some (.type "type")) = true := by rw [hc, ht] <;> rfl
  unfold PySem.W.kitOne
  rw [if_neg (by rw [e1]; exact Bool.false_ne_true)]
  show (if ((PySem.W.clsIn K E).isSome && PySem.W.typeIn K (.ref E) == some (.type "type")) = true then PySem.W.subIn K (.ref C) (.ref E) else none) = some b
  rw [if_pos e2]
  exact h4
end L2
namespace L2
open PySem PySem.Spec PyProof.Rows
def WellAt (H : Hp) (w : Addr) : Prop := ∃ a b c : Int, H w = some (.lst [.int a, .int b, .int c])
/-- all but w is as it was -/
abbrev DE (w : Addr) (H H' : Hp) : Prop := Ext (del H w) (del H' w)
theorem del_ext {H : Hp} {w : Addr} : Ext (del H w) H := fun a o e => by
  by_cases h : a = w
  · rw [h, del_same] at e
    cases e
  · rw [del_ne h] at e
    exact e
theorem DE.of {w : Addr} {H H' : Hp} (e : Ext H H') : DE w H H' := fun a o h => by
  by_cases h1 : a = w
  · rw [h1, del_same] at h
    cases h
  · rw [del_ne h1] at h ⊢
    exact e a o h
theorem DE.rfl' {w : Addr} {H : Hp} : DE w H H := Ext.rfl'
theorem DE.upd {w : Addr} {H : Hp} {o : HO} : DE w H (upd H w o) := fun a o' h => by
  by_cases h1 : a = w
  · rw [h1, del_same] at h
    cases h
  · rw [del_ne h1] at h ⊢
    rw [upd_ne h1]
    exact h
theorem DE.to {w : Addr} {H H' : Hp} (e : DE w H H') {b : Addr} {o : HO} (h : H b = some o) (hb : b ≠ w) : H' b = some o := by
  have z := e b o (by rw [del_ne hb]; exact h)
  rw [del_ne hb] at z
  exact z
theorem WellAt.ext {H H' : Hp} {w : Addr} (h : WellAt H w) (e : Ext H H') : WellAt H' w := by
  obtain ⟨a, b, c, h⟩ := h
  exact ⟨a, b, c, e _ _ h⟩
theorem WellAt.at (a b c : Int) {H : Hp} {w : Addr} : WellAt (upd H w (.lst [.int a, .int b, .int c])) w := ⟨a, b, c, upd_same⟩
theorem WellAt.ne {H : Hp} {w p : Addr} (h : WellAt H w) (hp : H p = none) : p ≠ w := fun e => by
  obtain ⟨a, b, c, h⟩ := h
  rw [e, h] at hp
  cases hp
theorem DE.fresh {w : Addr} {H H' : Hp} (e : DE w H H') {p : Addr} (hw : WellAt H' w) (hp : H' p = none) : del H w p = none := by
  cases h : del H w p with
  | none => rfl
  | some o =>
    have z := e p o h
    rw [del_ne (hw.ne hp), hp] at z
    cases z
theorem DE.mut {w D : Addr} {H H' : Hp} {o : HO} (e : DE w H H') (h : del H w D = none) : DE w H (L2.upd H' D o) := fun a o' ha => by
  by_cases h1 : a = D
  · rw [h1, h] at ha
    cases ha
  · have z := e a o' ha
    by_cases h2 : a = w
    · rw [h2, del_same] at z
      cases z
    · rw [del_ne h2] at z ⊢
      rw [upd_ne h1]
      exact z
theorem Ext.mut {D : Addr} {H H' : Hp} {o : HO} (e : Ext H H') (h : H D = none) : Ext H (L2.upd H' D o) := fun a o' ha => by
  by_cases h1 : a = D
  · rw [h1, h] at ha
    cases ha
  · rw [upd_ne h1]
    exact e a o' ha
theorem Ext.fresh {H H' : Hp} (e : Ext H H') {p : Addr} (h : H' p = none) : H p = none := by
  cases q : H p with
  | none => rfl
  | some o =>
    rw [e p o q] at h
    cases h
theorem WellAt.upd {H : Hp} {w D : Addr} {o : HO} (h : WellAt H w) (hD : D ≠ w) : WellAt (L2.upd H D o) w := by
  obtain ⟨a, b, c, h⟩ := h
  exact ⟨a, b, c, by rw [upd_ne hD.symm]; exact h⟩
theorem SqL.de {K : PySem.W.Frag} {H : Hp} {w a : Addr} {xs : List V} (h : SqL K (del H w) a xs) : SqL K H a xs := h.ext del_ext
/-- a list of ints as drawn data -/
theorem is_lst {K : PySem.W.Frag} {H : Hp} {a : Addr} {xs : List V} {ds : List Dt} (h : H a = some (.lst xs)) (l : IsL K H ds xs) : Is K H (.lst ds) (.ref a) := ⟨a, xs, rfl, SqL.of h, l⟩
theorem at3a {x y z : V} : atI [x, y, z] 0 = some x := atI_nat (xs := [x, y, z]) (j := 0) rfl
theorem at3b {x y z : V} : atI [x, y, z] 1 = some y := atI_nat (xs := [x, y, z]) (j := 1) rfl
theorem at3c {x y z : V} : atI [x, y, z] 2 = some z := atI_nat (xs := [x, y, z]) (j := 2) rfl
theorem cpow18 : CPow 10 18 := ⟨by decide, by decide, by decide⟩
theorem cpow6 : CPow 10 6 := ⟨by decide, by decide, by decide⟩
/-- atI at a drawn place -/
theorem atI_of {xs : List V} {i : Int} (h0 : 0 ≤ i) (h1 : i < (xs.length : Int)) : ∃ x, xs[i.toNat]? = some x ∧ atI xs i = some x := by
  have h2 : i.toNat < xs.length := by omega
  obtain ⟨n, rfl⟩ : ∃ n : Nat, i = (n : Int) := ⟨i.toNat, by omega⟩
  exact ⟨_, List.getElem?_eq_getElem h2, atI_nat (List.getElem?_eq_getElem h2)⟩
theorem fmod_bounds {a m : Int} (h : 0 < m) : 0 ≤ a.fmod m ∧ a.fmod m < m := by
  rw [Int.fmod_eq_emod_of_nonneg a (Int.le_of_lt h)]
  exact ⟨Int.emod_nonneg _ (by omega), Int.emod_lt_of_pos _ h⟩
end L2
namespace L2
theorem tyes {σ : St} {H : Hp} {A B : Hp → Prop} (h : A H) : tYes σ H (fun b H3 => if b = true then A H3 else B H3) := by
  show (if true = true then A H else B H)
  rw [if_pos rfl]
  exact h
end L2
namespace L2
open PySem PySem.Spec PyProof.Rows
def SqQ (K : PySem.W.Frag) (H : Hp) (a : Addr) (xs : List V) : Prop := SqL K H a xs ∨ SqT K H a xs
theorem SqQ.ext {K : PySem.W.Frag} {H H' : Hp} {a : Addr} {xs : List V} (h : SqQ K H a xs) (e : Ext H H') : SqQ K H' a xs := h.elim (fun h => .inl (h.ext e)) fun h => .inr (h.ext e)
def iSeq (K : PySem.W.Frag) (tl : TE) : TI := fun σ H R => tl σ H fun x H1 => ∃ a, x = .ref a ∧ (((∃ xs, SqL K H1 a xs) ∧ R (Itl K a) H1) ∨ ((∃ xs, SqT K H1 a xs) ∧ R (Itt K a) H1))
theorem pi_seq {X : Cx} {tg : Expr} {l : Expr} {tl : TE} (hl : PE X l tl) : PI X tg l (iSeq X.K tl) := by
  refine ⟨fun pins s σ H R I h => ?_⟩
  refine thn (hl.run pins s σ H _ I h) fun v s1 ⟨x, H1, I1, r1, q1⟩ => ?_
  obtain ⟨a, e, ⟨⟨xs, hq⟩, q⟩ | ⟨⟨xs, hq⟩, q⟩⟩ := q1
  · subst e
    cases r1
    obtain ⟨its, rv, p, hz⟩ := I1.list hq
    refine wpAny_pyIter_list p.isList ?_
    refine ⟨s1.heap.objs.size, [s1.heap.objs.size], _, _, H1, rfl, I1.kept (t' := s1.toks) fun b o e => Heap.get?_push_of_some _ e, turn_list a _, ⟨_, Heap.get?_push_size _ rfl, rfl, rfl⟩, fun b hb => ?_, q⟩
    have e : b = s1.heap.objs.size := by simpa using hb
    subst e
    exact I1.fpOk (Nat.le_refl _) (I1.hok.fresh (Nat.le_refl _))
  · subst e
    cases r1
    obtain ⟨its, rv, p, hz⟩ := I1.tuple hq
    refine wpAny_pyIter_tuple (show s1.heap.IsTuple a its.toArray from p) ?_
    refine ⟨s1.heap.objs.size, [s1.heap.objs.size], _, _, H1, rfl, I1.kept (t' := s1.toks) fun b o e => Heap.get?_push_of_some _ e, turn_tuple a _, ⟨_, Heap.get?_push_size _ rfl, rfl, rfl⟩, fun b hb => ?_, q⟩
    have e : b = s1.heap.objs.size := by simpa using hb
    subst e
    exact I1.fpOk (Nat.le_refl _) (I1.hok.fresh (Nat.le_refl _))
/-- the reading of for x in a, behind a: what stood at H0 stands -/
theorem for_seq {K : PySem.W.Frag} {a : Addr} {xs : List V} {g : TG} {tb : TS} {D : Ends} {σ : St} {H0 H : Hp} (hq : SqQ K H0 a xs) (Pv : Nat → St → Hp → Prop) (h0 : Pv 0 σ H) (he : ∀ i σ H, i ≤ xs.length → Pv i σ H → Ext H0 H)
    (hs : ∀ i x σ H, xs[i]? = some x → Pv i σ H → g x σ H fun σ2 H2 => tb { D with nx := Pv (i + 1), ct := Pv (i + 1), bk := D.nx } σ2 H2) (hd : ∀ σ H, Pv xs.length σ H → D.nx σ H) :
    ((∃ ys, SqL K H a ys) ∧ ∃ W : Nat → Nat → St → Hp → Prop, (∃ m, W 0 m σ H) ∧ ∀ i m σ H, W i m σ H →
      ((Itl K a).stop i H ∧ D.nx σ H) ∨ ((Itl K a).go i H ∧ ∃ N : St → Hp → Prop, (∀ σ' H', N σ' H' → ∃ m', m' < m ∧ W (i + 1) m' σ' H') ∧ ∀ x H', (Itl K a).yld i H x H' → g x σ H' fun σ2 H2 => tb { D with nx := N, ct := N, bk := D.nx } σ2 H2)) ∨
    ((∃ ys, SqT K H a ys) ∧ ∃ W : Nat → Nat → St → Hp → Prop, (∃ m, W 0 m σ H) ∧ ∀ i m σ H, W i m σ H →
      ((Itt K a).stop i H ∧ D.nx σ H) ∨ ((Itt K a).go i H ∧ ∃ N : St → Hp → Prop, (∀ σ' H', N σ' H' → ∃ m', m' < m ∧ W (i + 1) m' σ' H') ∧ ∀ x H', (Itt K a).yld i H x H' → g x σ H' fun σ2 H2 => tb { D with nx := N, ct := N, bk := D.nx } σ2 H2)) := by
  have e0 := he 0 σ H (Nat.zero_le _) h0
  rcases hq with hq | hq
  · exact .inl ⟨⟨xs, hq.ext e0⟩, for_list Pv h0 (fun i σ H hi p => hq.ext (he i σ H hi p)) hs hd⟩
  · exact .inr ⟨⟨xs, hq.ext e0⟩, for_tup Pv h0 (fun i σ H hi p => hq.ext (he i σ H hi p)) hs hd⟩
theorem lc_seq {K : PySem.W.Frag} {a : Addr} {xs : List V} {g : TG} {tt : TT} {te : TE} {vs : List Nat} {σ : St} {H0 H1 : Hp} {Q : Addr → Hp → Prop} (hq : SqQ K H0 a xs) (e1 : Ext H0 H1)
    (Pv : Addr → Nat → Hp → Prop) (h0 : ∀ D, H1 D = none → Pv D 0 (upd H1 D (.lst []))) (he : ∀ D i H, i ≤ xs.length → Pv D i H → Ext H0 H)
    (hs : ∀ D i x H, H1 D = none → xs[i]? = some x → Pv D i H → g x (wipe σ vs) H fun σ2 H2 => wipe σ2 vs = wipe σ vs ∧ tt σ2 H2 fun b H3 =>
      if b = true then te σ2 H3 fun y H4 => ∃ acc, H4 D = some (.lst acc) ∧ acc.length < sizeLine ∧ Pv D (i + 1) (upd H4 D (.lst (acc ++ [y]))) else Pv D (i + 1) H3) (hd : ∀ D H, H1 D = none → Pv D xs.length H → Q D H) :
    ((∃ ys, SqL K H1 a ys) ∧ ∀ D, H1 D = none → ∃ W : Nat → Nat → Hp → Prop, (∃ m, W 0 m (upd H1 D (.lst []))) ∧ ∀ i m H, W i m H →
      ((Itl K a).stop i H ∧ Q D H) ∨ ((Itl K a).go i H ∧ ∃ Nx : Hp → Prop, (∀ H', Nx H' → ∃ m', m' < m ∧ W (i + 1) m' H') ∧ ∀ x H', (Itl K a).yld i H x H' → g x (wipe σ vs) H' fun σ2 H2 => wipe σ2 vs = wipe σ vs ∧ tt σ2 H2 fun b H3 =>
        if b = true then te σ2 H3 fun y H4 => ∃ acc, H4 D = some (.lst acc) ∧ acc.length < sizeLine ∧ Nx (upd H4 D (.lst (acc ++ [y]))) else Nx H3)) ∨
    ((∃ ys, SqT K H1 a ys) ∧ ∀ D, H1 D = none → ∃ W : Nat → Nat → Hp → Prop, (∃ m, W 0 m (upd H1 D (.lst []))) ∧ ∀ i m H, W i m H →
      ((Itt K a).stop i H ∧ Q D H) ∨ ((Itt K a).go i H ∧ ∃ Nx : Hp → Prop, (∀ H', Nx H' → ∃ m', m' < m ∧ W (i + 1) m' H') ∧ ∀ x H', (Itt K a).yld i H x H' → g x (wipe σ vs) H' fun σ2 H2 => wipe σ2 vs = wipe σ vs ∧ tt σ2 H2 fun b H3 =>
        if b = true then te σ2 H3 fun y H4 => ∃ acc, H4 D = some (.lst acc) ∧ acc.length < sizeLine ∧ Nx (upd H4 D (.lst (acc ++ [y]))) else Nx H3)) := by
  rcases hq with hq | hq
  · exact .inl ⟨⟨xs, hq.ext e1⟩, fun D hD => lc_list (xs := xs) (Pv D) (h0 D hD) (fun i H hi p => hq.ext (he D i H hi p)) (fun i x H => hs D i x H hD) (fun H => hd D H hD)⟩
  · exact .inr ⟨⟨xs, hq.ext e1⟩, fun D hD => lc_tup (xs := xs) (Pv D) (h0 D hD) (fun i H hi p => hq.ext (he D i H hi p)) (fun i x H => hs D i x H hD) (fun H => hd D H hD)⟩
end L2
namespace L2
open PySem
/-- no own objects -/
theorem pureTab {P : Program} {w : World} {K : PySem.W.Frag} {mg : Str → Option Value} {base : Heap} : EqTab P w K mg base 0 (fun _ _ _ => False) := ⟨fun _ _ _ h => h.elim, fun _ _ _ _ _ _ h => h.elim⟩
theorem pureNe {K : PySem.W.Frag} : ∀ (C : Addr) (fs : List Str) (ds : List Dt), (fun (_ : Addr) (_ : List Str) (_ : List Dt) => False) C fs ds → LxE.NeFacts K C := fun _ _ _ h => h.elim
theorem pureL_ints : ∀ ns : List Int, pureL (ns.map Dt.int) = true
  | [] => rfl
  | _ :: r => by
    show (true && pureL (r.map Dt.int)) = true
    rw [pureL_ints r] <;> rfl
theorem depL_ints : ∀ ns : List Int, depL (ns.map Dt.int) = 0
  | [] => rfl
  | _ :: r => by
    show max 0 (depL (r.map Dt.int)) = 0
    rw [depL_ints r] <;> rfl
theorem deqL_ints : ∀ ns ms : List Int, deqL (ns.map Dt.int) (ms.map Dt.int) = decide (ns = ms)
  | [], [] => rfl
  | [], _ :: _ => rfl
  | _ :: _, [] => rfl
  | a :: r, b :: q => by
    show (a == b && deqL (r.map Dt.int) (q.map Dt.int)) = decide (a :: r = b :: q)
    rw [deqL_ints r q, Bool.eq_iff_iff]
    simp
end L2
namespace L2
open PySem PySem.Spec PyProof.Rows
/-- isinstance(e, c), e the exception that the suite holds -/
def rIsEX (K : PySem.W.Frag) (a : Addr) (cls : Value) (d : Option Addr) : List V → Hp → VK → Prop := fun xs H Q => ∃ (c : V) (cv : Value) (b : Bool) (D : Addr), xs = [.ref a, c] ∧ (∀ u, RelV c u → u = cv) ∧ cls = .ref D ∧ ExcC K D ∧ PySem.W.kitOne K (.ref D) cv = some b ∧
  (d = none ∨ ∃ dd fs, d = some dd ∧ H dd = some (.xd fs)) ∧ Q (.bl b) H
theorem call_isEX {X : Cx} {a : Addr} {cls : Value} {d : Option Addr} {oe : Obj} {pn : List (Addr × Obj)} (hz : Zc cls d oe) (hf : ∃ vs, oe.data = .fields vs) : CallR (X.suite a ((a, oe) :: pn)) (.builtin "isinstance") (rIsEX X.K a cls d) := by
  intro pins s σ H xs us Q I r h
  obtain ⟨c, cv, b, D, rfl, hcv, rfl, C, e, hd, q⟩ := h
  rcases hd with rfl | ⟨dd, fs, rfl, hd⟩
  · exact call_isE C hz hf pins s σ H _ us Q I r ⟨c, cv, b, rfl, hcv, e, q⟩
  · exact call_isED C hz hf pins s σ H _ us Q I r ⟨c, cv, b, fs, rfl, hcv, e, hd, q⟩
end L2
namespace LxC
open PySem PySem.Spec PyProof.Rows PyProof.V PySem.Calls L2 PySem.AutoSeq1
open Sem (wp)
theorem list_add_any (l : Addr) (items : Array Value) (n : Nat) (dd : Option Addr) (sl : Array (Option Value)) (b : Addr) (items2 : Array Value) (n2 : Nat) (dd2 : Option Addr) (sl2 : Array (Option Value)) (hc0 : items.size + items2.size ≤ sizeLine) :
    Meets (Builtin.«list.__add__» ⟨[.ref l, .ref b], []⟩) (fun _ R s => s.heap.get? l = some { cls := .type "list", dict := dd, data := .seq items n, slots := sl } ∧ s.heap.get? b = some { cls := .type "list", dict := dd2, data := .seq items2 n2, slots := sl2 } ∧ R (.ok (.ret (Value.ref s.heap.objs.size))) { s with heap := s.heap.push { cls := Value.type "list", data := Data.seq (items ++ items2) }, toks := s.toks }) :=
  .of_wp fun prog w A R s h => by obtain ⟨hp, g, d, tk, os⟩ := s; obtain ⟨hl, hb, h⟩ := h; have f1 := AutoSeq1.idx_int; have f2 := AutoSeq1.sub_tuple_tuple; have f3 := AutoSeq1.sub_list_list; have f4 := AutoSeq1.sub_tuple_list; have f5 := AutoSeq1.sub_list_tuple; wp_walk using wpAny_loadPart' hl, wpAny_loadPart' hb; exact ⟨_, rfl, h⟩
end LxC
namespace L2
open PySem PySem.Spec PyProof.Rows
/-- list + list, looked at -/
def rCatL (K : PySem.W.Frag) : R2 := fun x y H Q => ∃ l b xs zs, x = .ref l ∧ y = .ref b ∧ SqL K H l xs ∧ SqL K H b zs ∧ xs.length + zs.length ≤ sizeLine ∧ ∀ p, H p = none → Q (.ref p) (upd H p (.lst (xs ++ zs)))
theorem op_catL {X : Cx} : OpR X (binaryOp .Add) (rCatL X.K) := by
  intro pins s σ H x y v u Q I rx ry h
  obtain ⟨l, b, xs, zs, rfl, rfl, hH, hB, hz, q⟩ := h
  cases rx
  cases ry
  obtain ⟨its, r, p, z⟩ := I.list hH
  obtain ⟨its2, r2, p2, z2⟩ := I.list hB
  obtain ⟨n, dd, sl, e⟩ := LxE.isList_obj p.isList
  obtain ⟨n2, dd2, sl2, e2⟩ := LxE.isList_obj p2.isList
  have hl := r.length
  have hl2 := r2.length
  refine concat_meets ⟨_, e, rfl⟩ ⟨_, e2, rfl⟩ noFill_list_add seq_list_add PySem.F.slot_list_add PySem.F.entry_list_add (PySem.F.args_list_add_2 _ _) (LxC.list_add_any l its.toArray n dd sl b its2.toArray n2 dd2 sl2 (by rw [List.size_toArray, List.size_toArray]; omega)) ⟨e, e2, ?_⟩
  have ea : its.toArray ++ its2.toArray = (its ++ its2).toArray := by simp
  rw [ea]
  exact ⟨.ref _, _, I.lnew (t' := s.toks) (r.append r2) (by rw [List.length_append]; omega), rfl, q _ I.fresh⟩
/-- keywords bind, no defaults -/
theorem Fun.kbn {K : PySem.W.Frag} {x qual : Str} {st : Stmt} {f : Addr} {fd : FuncData} {ps ks : List Str} {n : Nat} {g : {α : Type} → List α → List α → List α} (F : Fun K x qual st f fd)
    (hrel : ∀ {vs zs : List V} {us ws : List Value}, Vals vs us → Vals zs ws → Vals (g vs zs) (g us ws))
    (h : ∀ (kV doc pm : Value) (an : Option Addr) (cdv ct : Value) (us ws : List Value), us.length = n → ws.length = ks.length → bindArgs (PySem.W.fnOf x qual (defArgs st) (defBody st) (defScope st) .none kV doc pm an cdv ct) ⟨us, ks.zip ws⟩ = pure (ps.zip (g us ws))) : KBn K fd ps n ks (fun us ws => g us ws) (fun vs zs => g vs zs) := by
  obtain ⟨oc, od, kV, doc, pm, an, cdv, ct, osl, rfl, lk, hcd⟩ := F.ex
  exact ⟨fun s us ws _ l1 l2 => .of_eq (h kV doc pm an cdv ct us ws l1 l2), fun r1 r2 => hrel r1 r2⟩
end L2
namespace L2
open PySem PySem.Spec PyProof.Rows
theorem DE.base {p : Addr} {H H1 H2 : Hp} (e : Ext H H1) (h : H p = none) (d : DE p H1 H2) : Ext H H2 := fun a o ha => by
  have hne : a ≠ p := fun z => by rw [z, h] at ha; cases ha
  exact d.to (e a o ha) hne
theorem SqT.mut {K : PySem.W.Frag} {H : Hp} {t h : Addr} {xs l : List V} {o : HO} (s : SqT K H t xs) (hh : H h = some (.lst l)) : SqT K (upd H h o) t xs := by
  rcases s with (r | ⟨o', r⟩) | r
  · have hne : t ≠ h := fun e => by rw [e, hh] at r; cases r
    exact .inl (.inl (by rw [upd_ne hne]; exact r))
  · have hne : t ≠ h := fun e => by rw [e, hh] at r; cases r
    exact .inl (.inr ⟨o', by rw [upd_ne hne]; exact r⟩)
  · exact .inr r
end L2
namespace L2
open PySem PySem.Spec PyProof.Rows
end L2
namespace LxN
open PySem PySem.Spec PyProof.Rows
open Sem (wp)
theorem meets_enumT (l : Addr) (items : Array Value) (n : Nat) (dct : Option Addr) (sl : Array (Option Value)) :
    Meets (Builtin.«enumerate.__new__» ⟨[.type "enumerate", .ref l], []⟩) (fun _ R s => s.heap.get? l = some { cls := .type "tuple", dict := dct, data := .seq items n, slots := sl } ∧
      R (.ok (.ret (.ref (s.heap.push { cls := .type "tuple_iterator", data := .fields #[.ref l, .int 0 0] }).objs.size)))
        { s with heap := (s.heap.push { cls := .type "tuple_iterator", data := .fields #[.ref l, .int 0 0] }).push { cls := .type "enumerate", data := .fields #[.none, .bool false, .ref s.heap.objs.size, rawInt 0, .none, .none] } }) :=
  .of_wp fun prog w A R s h => by
    obtain ⟨hp, g, d, tk, os⟩ := s; obtain ⟨hl, h⟩ := h
    have hsub := PySem.sub_enumerate
    have hL : Heap.IsTuple (Shared.heap ⟨hp, g, d, tk, os⟩) l items := ⟨_, hl, rfl, n, rfl⟩
    wp_walk using AutoSeq1.wpAny_loadPart' hl
    refine wpAny_stack_any fun st => wpAny_pure ?_
    split
    · rename_i c _ _ _ _ _
      cases (c == Value.type "enumerate")
      · wp_walk using AutoSeq1.wpAny_loadPart' hl, wpAny_pyIter_tuple hL
        exact ⟨_, rfl, h⟩
      · wp_walk using AutoSeq1.wpAny_loadPart' hl, wpAny_pyIter_tuple hL
        exact ⟨_, rfl, h⟩
    · wp_walk using AutoSeq1.wpAny_loadPart' hl, wpAny_pyIter_tuple hL
      exact ⟨_, rfl, h⟩
section
variable {prog : Program} {w : World} {A : Around} {E : Value → Shared → Prop} {s : Shared}
theorem call_enumT {l : Addr} {items : Array Value} {Q : Value → Shared → Prop} (hL : s.heap.IsTuple l items)
    (h : ∀ h', IsEnum h' (s.heap.objs.size + 1) s.heap.objs.size 0 .none → h'.IsTupleIter s.heap.objs.size l 0 → h'.objs.size = s.heap.objs.size + 2 →
      (∀ b o, s.heap.get? b = some o → h'.get? b = some o) → Q (.ref (s.heap.objs.size + 1)) { s with heap := h' }) :
    wpAny (model prog w) A (call (.type "enumerate") [.ref l]) Q E s := by
  obtain ⟨⟨c, dct, dt, sl⟩, hl, hc, n, hd⟩ := hL
  cases (show c = .type "tuple" from hc)
  cases (show dt = .seq items n from hd)
  refine callType_new F.called_enumerate (by decide) (F.typeCall_enumerate_1 _) (F.newCall_enumerate_1 _) (fun obj => F.args_object_init_2 obj _) F.entry_enumerate_new (meets_enumT l items n dct sl) ⟨hl, ?_⟩
  have hz : (s.heap.push { cls := .type "tuple_iterator", data := .fields #[.ref l, .int 0 0] }).objs.size = s.heap.objs.size + 1 := Heap.size_push ..
  show _ ∧ _
  rw [hz]
  have he : IsEnum ((s.heap.push { cls := .type "tuple_iterator", data := .fields #[.ref l, .int 0 0] }).push
      { cls := .type "enumerate", data := .fields #[.none, .bool false, .ref s.heap.objs.size, rawInt 0, .none, .none] }) (s.heap.objs.size + 1) s.heap.objs.size 0 .none := by
    have z := Heap.get?_push_size (s.heap.push { cls := .type "tuple_iterator", data := .fields #[.ref l, .int 0 0] })
      (o := { cls := .type "enumerate", data := .fields #[.none, .bool false, .ref s.heap.objs.size, rawInt 0, .none, .none] }) rfl
    rw [hz] at z
    exact z
  refine ⟨⟨_, he, rfl⟩, h _ he ⟨_, Heap.get?_push_of_some _ (Heap.get?_push_size _ rfl), rfl, rfl⟩ (by rw [Heap.size_push, hz]) fun b o x => Heap.get?_push_of_some _ (Heap.get?_push_of_some _ x)⟩
end
end LxN
namespace L2
open PySem PySem.Spec PyProof.Rows
/-- the tuple at a as it stands at each turn, its items in new pairs -/
def IteT (K : PySem.W.Frag) (a : Addr) : It :=
  ⟨fun i H => ∃ (xs : List V) (x : V), SqT K H a xs ∧ xs[i]? = some x, fun i H v H' => ∃ T x, v = .ref T ∧ H T = none ∧ H' = upd H T (.tup [.int (i : Nat), x]) ∧ ∀ xs, SqT K H a xs → xs[i]? = some x, fun i H => ∃ xs : List V, SqT K H a xs ∧ xs.length = i⟩
theorem turn_enumT {P : Program} {w : World} {K : PySem.W.Frag} {elts : List Expr} {kk : Nat} {tpos : Pos} (a e it : Addr) :
    Turn P w K (.Tuple elts kk tpos) (IteT K a) [e, it] e (fun i h => (∃ old, IsEnum h e it ((i : Nat) : Int) old) ∧ h.IsTupleIter it a i ∧ e ≠ it ∧ e ≠ a ∧ a ≠ it) where
  mem := by simp
  obj := fun i h st b hb => by
    obtain ⟨⟨old, he⟩, ⟨o, ho, hc, hd⟩, _⟩ := st
    have e' : b = e ∨ b = it := by simpa using hb
    rcases e' with z | z
    · rw [z]; exact ⟨_, he, fun v q => nomatch q⟩
    · rw [z]; exact ⟨o, ho, fun v q => by rw [hd] at q; cases q⟩
  keep := fun i h h' st k => let ⟨⟨old, he⟩, hi, hne⟩ := st; ⟨⟨old, k e (by simp) _ he⟩, hi.at fun o q => k it (by simp) o q, hne⟩
  item := by
    intro X hP hw hK hc i pins s σ H E I hf st hg
    subst hP hw hK
    obtain ⟨⟨old, he⟩, hit, hne, hea, hai⟩ := st
    obtain ⟨xs, x, hq, hx⟩ := hg
    obtain ⟨its, rv, p, hz⟩ := I.tuple hq
    obtain ⟨u, hu, ru⟩ := rv.get hx
    have hel : e < s.heap.objs.size := Heap.lt_size he
    have hil : it < s.heap.objs.size := by obtain ⟨_, q, _⟩ := hit; exact Heap.lt_size q
    have hlt : i < its.toArray.size := by
      rw [List.size_toArray]
      exact (List.getElem?_eq_some_iff.mp hu).1
    refine wpAny_pyNext_enum_itemD (Draws.tuple (A := X.A.in1) (show X.A.in1.handled = none from I.ok.hd hc) it a hai its.toArray) he ⟨hit, p⟩ hlt hne (by simp [hne, hea]) fun y h' tk hy ho st' hT hsz hk => ?_
    have hyu : y = u := by
      have z : its[i]? = some y := by simpa using hy
      rw [hu] at z
      exact (Option.some.inj z).symm
    subst hyu
    refine ⟨_, rfl, wpAny_letOwnedTupleGo_enum (s := { s with heap := h', toks := tk + 1 }) ho fun h'' he' sb => ?_⟩
    have hT2 : h''.get? s.heap.objs.size = some { cls := .type "tuple", data := .seq #[.int i tk, y] } := (sb.2 _ (Nat.ne_of_gt hel)).trans hT
    have new : ObjOk X.prog X.w (upd H s.heap.objs.size (.tup [.int (i : Nat), x])) h'' s.heap.objs.size (.tup [.int (i : Nat), x]) :=
      ⟨by show 2 ≤ sizeLine; decide, [.int i tk, y], .cons ⟨_, rfl⟩ (.cons ru .nil), ⟨_, hT2, rfl, _, rfl⟩⟩
    have I1 : Inv X pins σ (upd H s.heap.objs.size (.tup [.int (i : Nat), x])) { s with heap := h'', toks := tk + 1 } :=
      I.turnedNew (ch := [e, it]) (fun b ob hb q => (sb.2 b (fun z => hb (by simp [z]))).trans (hk b ob (fun z => hb (by simp [z])) (fun z => hb (by simp [z])) q)) hf (Nat.le_refl _) new
    refine ⟨.ref s.heap.objs.size, _, I1, rfl, ⟨_, x, rfl, I.hok.fresh (Nat.le_refl _), rfl, fun ys hy => by rw [I.tuple_inj hy hq]; exact hx⟩, ⟨⟨y, ?_⟩, st'.1.at fun o q => (sb.2 it (Ne.symm hne)).trans q, hne, hea, hai⟩, fun b hb => ?_⟩
    · have e1 : ((i + 1 : Nat) : Int) = (i : Int) + 1 := by omega
      rw [e1]
      exact he'
    · have hb' : b < s.heap.objs.size := by
        have e' : b = e ∨ b = it := by simpa using hb
        rcases e' with z | z
        · rw [z]; exact hel
        · rw [z]; exact hil
      rw [upd_ne (Nat.ne_of_lt hb')]
      exact (hf b hb).1
  done := by
    intro X hP hw hK hc i pins s σ H E I hf st hg
    subst hP hw hK
    obtain ⟨⟨old, he⟩, hit, hne, hea, hai⟩ := st
    obtain ⟨xs, hq, hx⟩ := hg
    obtain ⟨its, rv, p, hz⟩ := I.tuple hq
    obtain ⟨f0, f1, f2, f3, f4, f5⟩ := hf it (by simp)
    have hl := rv.length
    have hi : its.toArray.size = i := by rw [List.size_toArray, ← hl, hx]
    refine wpAny_pyNext_enum_endD (Draws.tuple (A := X.A.in1) (show X.A.in1.handled = none from I.ok.hd hc) it a hai its.toArray) he ⟨by rw [hi]; exact hit, p⟩ fun h' eb => ⟨rfl, I.turned (t' := s.toks) (fun b o hb q => eb b o hb q) f0 f1 f3 f4 f5⟩
  self := fun A i s Q E st h => let ⟨⟨_, he⟩, _⟩ := st; wpAny_pyIter_enum he h
def iEnumQ (K : PySem.W.Frag) (ta : TA) : TI := fun σ H R => ta σ H fun vs H1 => ∃ a, vs = [.ref a] ∧ (((∃ xs, SqL K H1 a xs) ∧ R (Ite K a) H1) ∨ ((∃ xs, SqT K H1 a xs) ∧ R (IteT K a) H1))
theorem pi_enumQ {X : Cx} {e : Expr} {ta : TA} {p pos tpos : Pos} {elts : List Expr} {kk : Nat} (hg : Gl X "enumerate") (hm : X.mg "enumerate" = none) (ha : PA X [e] ta) (hs : starEach [e] X.env = [(false, eval e X.env)] := by rfl) :
    PI X (.Tuple elts kk tpos) (.Call (.Name "enumerate" p) [e] [] pos) (iEnumQ X.K ta) := by
  refine ⟨fun pins s σ H R I h => ?_⟩
  refine Call_ (ld_blt I hg hm boot_enumerate (PyProof.Rows.callWith_type1 (thn (ha.run pos pins s σ H _ I h) fun us s1 ⟨vs, H1, I1, r1, q1⟩ => ?_) hs rfl))
  obtain ⟨a, ex, q⟩ := q1
  subst ex
  cases r1 with
  | cons r rr =>
    cases rr
    cases r
    have hle : ∀ b ∈ [s1.heap.objs.size + 1, s1.heap.objs.size], s1.heap.objs.size ≤ b := fun b hb => by
      have e' : b = s1.heap.objs.size + 1 ∨ b = s1.heap.objs.size := by simpa using hb
      rcases e' with z | z
      · rw [z]; exact Nat.le_add_right _ _
      · rw [z]; exact Nat.le_refl _
    rcases q with ⟨⟨xs, hq⟩, q⟩ | ⟨⟨xs, hq⟩, q⟩
    · obtain ⟨its, rv, p', hz⟩ := I1.list hq
      refine call_enumerate_list p'.isList fun h' he hit hsz hk => wpAny_pyIter_enum he ?_
      have I2 : Inv X pins σ H1 { s1 with heap := h' } := I1.kept (t' := s1.toks) hk
      exact ⟨s1.heap.objs.size + 1, [s1.heap.objs.size + 1, s1.heap.objs.size], _, _, H1, rfl, I2, turn_enum a (s1.heap.objs.size + 1) s1.heap.objs.size, ⟨⟨.none, he⟩, hit, Nat.succ_ne_self _⟩, fun b hb => I1.fpOk (hle b hb) (I1.hok.fresh (hle b hb)), q⟩
    · obtain ⟨its, rv, p', hz⟩ := I1.tuple hq
      have hal : a < s1.heap.objs.size := by obtain ⟨_, z, _⟩ := id p'; exact Heap.lt_size z
      refine LxN.call_enumT (show s1.heap.IsTuple a its.toArray from p') fun h' he hit hsz hk => wpAny_pyIter_enum he ?_
      have I2 : Inv X pins σ H1 { s1 with heap := h' } := I1.kept (t' := s1.toks) hk
      exact ⟨s1.heap.objs.size + 1, [s1.heap.objs.size + 1, s1.heap.objs.size], _, _, H1, rfl, I2, turn_enumT a (s1.heap.objs.size + 1) s1.heap.objs.size, ⟨⟨.none, he⟩, hit, Nat.succ_ne_self _, Nat.ne_of_gt (Nat.lt_succ_of_lt hal), Nat.ne_of_lt hal⟩, fun b hb => I1.fpOk (hle b hb) (I1.hok.fresh (hle b hb)), q⟩
theorem for_enumQ {K : PySem.W.Frag} {a : Addr} {xs : List V} {g : TG} {tb : TS} {D : Ends} {σ : St} {H0 H : Hp} (hq : SqQ K H0 a xs) (Pv : Nat → St → Hp → Prop) (h0 : Pv 0 σ H) (he : ∀ i σ H, i ≤ xs.length → Pv i σ H → Ext H0 H)
    (hs : ∀ i x σ H T, xs[i]? = some x → Pv i σ H → H T = none → g (.ref T) σ (upd H T (.tup [.int (i : Nat), x])) fun σ2 H2 => tb { D with nx := Pv (i + 1), ct := Pv (i + 1), bk := D.nx } σ2 H2) (hd : ∀ σ H, Pv xs.length σ H → D.nx σ H) :
    ((∃ ys, SqL K H a ys) ∧ ∃ W : Nat → Nat → St → Hp → Prop, (∃ m, W 0 m σ H) ∧ ∀ i m σ H, W i m σ H →
      ((Ite K a).stop i H ∧ D.nx σ H) ∨ ((Ite K a).go i H ∧ ∃ N : St → Hp → Prop, (∀ σ' H', N σ' H' → ∃ m', m' < m ∧ W (i + 1) m' σ' H') ∧ ∀ x H', (Ite K a).yld i H x H' → g x σ H' fun σ2 H2 => tb { D with nx := N, ct := N, bk := D.nx } σ2 H2)) ∨
    ((∃ ys, SqT K H a ys) ∧ ∃ W : Nat → Nat → St → Hp → Prop, (∃ m, W 0 m σ H) ∧ ∀ i m σ H, W i m σ H →
      ((IteT K a).stop i H ∧ D.nx σ H) ∨ ((IteT K a).go i H ∧ ∃ N : St → Hp → Prop, (∀ σ' H', N σ' H' → ∃ m', m' < m ∧ W (i + 1) m' σ' H') ∧ ∀ x H', (IteT K a).yld i H x H' → g x σ H' fun σ2 H2 => tb { D with nx := N, ct := N, bk := D.nx } σ2 H2)) := by
  have e0 := he 0 σ H (Nat.zero_le _) h0
  rcases hq with hq | hq
  · refine .inl ⟨⟨xs, hq.ext e0⟩, fun i m σ H => m = xs.length - i ∧ i ≤ xs.length ∧ Pv i σ H, ⟨xs.length, by simp, Nat.zero_le _, h0⟩, ?_⟩
    rintro i m σ H ⟨rfl, hi, p⟩
    have q := hq.ext (he i σ H hi p)
    by_cases hlt : i < xs.length
    · refine .inr ⟨⟨xs, xs[i], q, by simp [hlt]⟩, Pv (i + 1), fun σ' H' p' => ⟨xs.length - (i + 1), by omega, rfl, hlt, p'⟩, fun x H' y => ?_⟩
      obtain ⟨T, z, rfl, hT, rfl, hz⟩ := y
      exact hs i z σ H T (hz xs q) p hT
    · have e : i = xs.length := by omega
      subst e
      exact .inl ⟨⟨xs, q, Nat.le_refl _⟩, hd σ H p⟩
  · refine .inr ⟨⟨xs, hq.ext e0⟩, fun i m σ H => m = xs.length - i ∧ i ≤ xs.length ∧ Pv i σ H, ⟨xs.length, by simp, Nat.zero_le _, h0⟩, ?_⟩
    rintro i m σ H ⟨rfl, hi, p⟩
    have q := hq.ext (he i σ H hi p)
    by_cases hlt : i < xs.length
    · refine .inr ⟨⟨xs, xs[i], q, by simp [hlt]⟩, Pv (i + 1), fun σ' H' p' => ⟨xs.length - (i + 1), by omega, rfl, hlt, p'⟩, fun x H' y => ?_⟩
      obtain ⟨T, z, rfl, hT, rfl, hz⟩ := y
      exact hs i z σ H T (hz xs q) p hT
    · have e : i = xs.length := by omega
      subst e
      exact .inl ⟨⟨xs, q, rfl⟩, hd σ H p⟩
end L2
namespace L2
open PySem PySem.Spec PyProof.Rows
/-- a op b op c op d, tested -/
def tChain3 (r r' r'' : R2) (ta tb tc td : TE) : TT := fun σ H Q => ta σ H fun x H1 => tb σ H1 fun y H2 => r x y H2 fun z H3 => ∃ k, z = .bl k ∧
  (if k = true then tc σ H3 fun y2 H4 => r' y y2 H4 fun z2 H5 => ∃ k2, z2 = .bl k2 ∧ (if k2 = true then td σ H5 fun y3 H6 => r'' y2 y3 H6 fun z3 H7 => ∃ k3, z3 = .bl k3 ∧ Q k3 H7 else Q false H5) else Q false H3)
theorem pt_chain3 {X : Cx} {a b c d : Expr} {ta tb tc td : TE} {pos : Pos} {op op' op'' : CmpOp} {r r' r'' : R2} (ho : OpR X (compareOp op) r) (ho' : OpR X (compareOp op') r') (ho'' : OpR X (compareOp op'') r'') (ha : PE X a ta) (hb : PE X b tb) (hc : PE X c tc) (hd : PE X d td)
    (hm : lastMarks [op, op', op''] [b, c, d] = false := by with_unfolding_all rfl) : PT X (.Compare a [op, op', op''] [b, c, d] pos) (tChain3 r r' r'' ta tb tc td) := by
  refine ⟨fun pins s σ H Q I h => ?_⟩
  refine isTrue_chain (thn (ha.run pins s σ H _ I h) fun v s1 ⟨x, H1, I1, r1, q1⟩ => test_link (thn (hb.run pins s1 σ H1 _ I1 q1) fun u s2 ⟨y, H2, I2, r2, q2⟩ =>
    thn (ho pins s2 σ H2 x y v u _ I2 r1 r2 q2) fun d1 s3 ⟨z, H3, I3, r3, k, e, q3⟩ => ?_)) hm
  subst e
  cases r3
  refine wpAny_truthy_bool ?_
  cases k with
  | false => exact ite_ff ⟨H3, I3, q3⟩
  | true =>
    refine ite_tt (test_link (thn (hc.run pins s3 σ H3 _ I3 q3) fun w' s4 ⟨y2, H4, I4, r4, q4⟩ => thn (ho' pins s4 σ H4 y y2 u w' _ I4 r2 r4 q4) fun d2 s5 ⟨z2, H5, I5, r5, k2, e2, q5⟩ => ?_))
    subst e2
    cases r5
    refine wpAny_truthy_bool ?_
    cases k2 with
    | false => exact ite_ff ⟨H5, I5, q5⟩
    | true =>
      refine ite_tt (test_last (thn (hd.run pins s5 σ H5 _ I5 q5) fun w3 s6 ⟨y3, H6, I6, r6, q6⟩ => thn (ho'' pins s6 σ H6 y2 y3 w' w3 _ I6 r4 r6 q6) fun d3 s7 ⟨z3, H7, I7, r7, k3, e3, q7⟩ => ?_))
      subst e3
      cases r7
      exact wpAny_truthy_bool ⟨H7, I7, q7⟩
end L2
namespace L2
open PySem PySem.Spec PyProof.Rows
def rangeI (n : Nat) : List Int := (List.range n).map fun i : Nat => (i : Int)
end L2
namespace L2
open PySem PySem.Spec PyProof.Rows RZ
end L2
namespace L2
open PySem PySem.Spec PyProof.Rows
end L2
namespace L2
open PySem PySem.Spec PyProof.Rows
end L2
namespace Mx
def sk (j k : Nat) : Nat := if k < j then k else k + 1
def sg (j : Nat) : Int := if j % 2 = 0 then 1 else -1
def sm : Nat → (Nat → Int) → Int
  | 0, _ => 0
  | n + 1, f => sm n f + f n
def det : Nat → (Nat → Nat → Int) → Int
  | 0, _ => 1
  | n + 1, M => sm (n + 1) fun j => sg j * M 0 j * det n fun i k => M (i + 1) (sk j k)
theorem sg_succ (j : Nat) : sg (j + 1) = - sg j := by
  unfold sg
  split <;> split <;> first | rfl | omega
theorem sm_congr {n : Nat} {f g : Nat → Int} (h : ∀ j, j < n → f j = g j) : sm n f = sm n g := by
  induction n with
  | zero => rfl
  | succ n ih =>
    show sm n f + f n = sm n g + g n
    rw [ih fun j hj => h j (Nat.lt_succ_of_lt hj), h n (Nat.lt_succ_self n)]
theorem sm_add (n : Nat) (f g : Nat → Int) : sm n (fun j => f j + g j) = sm n f + sm n g := by
  induction n with
  | zero => rfl
  | succ n ih =>
    show sm n _ + (f n + g n) = (sm n f + f n) + (sm n g + g n)
    rw [ih]; omega
theorem sm_mul (n : Nat) (a : Int) (f : Nat → Int) : sm n (fun j => a * f j) = a * sm n f := by
  induction n with
  | zero => exact (Int.mul_zero a).symm
  | succ n ih =>
    show sm n _ + a * f n = a * (sm n f + f n)
    rw [ih, Int.mul_add]
theorem sm_neg (n : Nat) (f : Nat → Int) : sm n (fun j => - f j) = - sm n f := by
  induction n with
  | zero => rfl
  | succ n ih =>
    show sm n _ + - f n = - (sm n f + f n)
    rw [ih]; omega
theorem sm_zero {n : Nat} {f : Nat → Int} (h : ∀ j, j < n → f j = 0) : sm n f = 0 := by
  induction n with
  | zero => rfl
  | succ n ih =>
    show sm n f + f n = 0
    rw [ih fun j hj => h j (Nat.lt_succ_of_lt hj), h n (Nat.lt_succ_self n)]; rfl
theorem sm_two {n c : Nat} (f : Nat → Int) (h : c + 1 < n) : sm n f = f c + f (c + 1) + sm n (fun j => if j = c ∨ j = c + 1 then 0 else f j) := by
  induction n with
  | zero => omega
  | succ n ih =>
    show sm n f + f n = f c + f (c + 1) + (sm n (fun j => if j = c ∨ j = c + 1 then 0 else f j) + if n = c ∨ n = c + 1 then 0 else f n)
    by_cases e : n = c + 1
    · subst e
      rw [if_pos (.inr rfl)]
      show (sm c f + f c) + f (c + 1) = f c + f (c + 1) + ((sm c (fun j => if j = c ∨ j = c + 1 then 0 else f j) + if c = c ∨ c = c + 1 then 0 else f c) + 0)
      rw [if_pos (.inl rfl), sm_congr (n := c) (f := fun j => if j = c ∨ j = c + 1 then 0 else f j) (g := f) fun j hj => if_neg (by omega)]
      omega
    · rw [ih (by omega), if_neg (by omega)]; omega
theorem det_congr {n : Nat} {M N : Nat → Nat → Int} (h : ∀ i k, i < n → k < n → M i k = N i k) : det n M = det n N := by
  induction n generalizing M N with
  | zero => rfl
  | succ n ih =>
    unfold det
    refine sm_congr fun j hj => ?_
    rw [h 0 j (by omega) hj, ih fun i k hi hk => h (i + 1) (sk j k) (by omega) (by unfold sk; split <;> omega)]
/-- the column c is v -/
def cr (M : Nat → Nat → Int) (c : Nat) (v : Nat → Int) : Nat → Nat → Int := fun i k => if k = c then v i else M i k
theorem cr_self (M : Nat → Nat → Int) (c : Nat) : cr M c (fun i => M i c) = M := by
  funext i k
  unfold cr
  split
  · rename_i h; rw [h]
  · rfl
theorem minor_cr_same (M : Nat → Nat → Int) (c : Nat) (v : Nat → Int) : (fun i k => cr M c v (i + 1) (sk c k)) = fun i k => M (i + 1) (sk c k) := by
  funext i k
  unfold cr
  rw [if_neg (by unfold sk; split <;> omega)]
theorem minor_cr_ne {j c : Nat} (M : Nat → Nat → Int) (v : Nat → Int) (h : j ≠ c) : (fun i k => cr M c v (i + 1) (sk j k)) = cr (fun i k => M (i + 1) (sk j k)) (if c < j then c else c - 1) (fun i => v (i + 1)) := by
  funext i k
  unfold cr
  by_cases e : sk j k = c
  · rw [if_pos e, if_pos (by unfold sk at e; split at e <;> split <;> omega)]
  · rw [if_neg e, if_neg (by unfold sk at e; split at e <;> split <;> omega)]
theorem det_lin {n c : Nat} (M : Nat → Nat → Int) (a b : Int) (u v : Nat → Int) (hc : c < n) : det n (cr M c fun i => a * u i + b * v i) = a * det n (cr M c u) + b * det n (cr M c v) := by
  induction n generalizing M c u v with
  | zero => omega
  | succ n ih =>
    unfold det
    rw [← sm_mul, ← sm_mul, ← sm_add]
    refine sm_congr fun j hj => ?_
    by_cases e : j = c
    · subst e
      rw [minor_cr_same, minor_cr_same, minor_cr_same]
      have h1 : ∀ w : Nat → Int, cr M j w 0 j = w 0 := fun w => if_pos rfl
      rw [h1, h1, h1]
      grind
    · rw [minor_cr_ne _ _ e, minor_cr_ne _ _ e, minor_cr_ne _ _ e]
      have h1 : ∀ w : Nat → Int, cr M c w 0 j = M 0 j := fun w => if_neg e
      rw [h1, h1, h1, ih _ _ _ (by split <;> omega)]
      grind
theorem det_scale {n c : Nat} (M : Nat → Nat → Int) (a : Int) (u : Nat → Int) (hc : c < n) : det n (cr M c fun i => a * u i) = a * det n (cr M c u) := by
  have z := det_lin M a 0 u u hc
  rw [Int.zero_mul, Int.add_zero] at z
  rw [← z]
  refine det_congr fun i k _ _ => ?_
  unfold cr
  split
  · show a * u i = a * u i + 0 * u i
    rw [Int.zero_mul, Int.add_zero]
  · rfl
theorem det_zero_col {n c : Nat} (M : Nat → Nat → Int) (hc : c < n) (h : ∀ i, i < n → M i c = 0) : det n M = 0 := by
  have z := det_scale M 0 (fun i => M i c) hc
  rw [Int.zero_mul] at z
  rw [← z]
  refine det_congr fun i k hi _ => ?_
  unfold cr
  split
  · rename_i e
    show M i k = 0 * M i c
    rw [e, h i hi, Int.mul_zero]
  · rfl
theorem det_sum {n c m : Nat} (M : Nat → Nat → Int) (a : Nat → Int) (u : Nat → Nat → Int) (hc : c < n) : det n (cr M c fun i => sm m fun l => a l * u l i) = sm m fun l => a l * det n (cr M c (u l)) := by
  induction m with
  | zero => exact det_zero_col _ hc fun i _ => by unfold cr; rw [if_pos rfl]; rfl
  | succ m ih =>
    show _ = sm m (fun l => a l * det n (cr M c (u l))) + a m * det n (cr M c (u m))
    rw [← ih]
    have z := det_lin M 1 (a m) (fun i => sm m fun l => a l * u l i) (u m) hc
    rw [Int.one_mul] at z
    rw [← z]
    refine det_congr fun i k _ _ => ?_
    unfold cr
    split
    · show sm m (fun l => a l * u l i) + a m * u m i = 1 * sm m (fun l => a l * u l i) + a m * u m i
      rw [Int.one_mul]
    · rfl
/-- two columns that stand side by side are exchanged -/
def cs (M : Nat → Nat → Int) (c : Nat) : Nat → Nat → Int := fun i k => M i (if k = c then c + 1 else if k = c + 1 then c else k)
theorem det_cs {n c : Nat} (M : Nat → Nat → Int) (hc : c + 1 < n) : det n (cs M c) = - det n M := by
  induction n generalizing M c with
  | zero => omega
  | succ n ih =>
    unfold det
    rw [sm_two _ hc, sm_two (fun j => sg j * M 0 j * det n fun i k => M (i + 1) (sk j k)) hc]
    have e1 : (fun i k => cs M c (i + 1) (sk c k)) = fun i k => M (i + 1) (sk (c + 1) k) := by
      funext i k
      unfold cs sk
      congr 1
      repeat' (first | omega | split)
    have e2 : (fun i k => cs M c (i + 1) (sk (c + 1) k)) = fun i k => M (i + 1) (sk c k) := by
      funext i k
      unfold cs sk
      congr 1
      repeat' (first | omega | split)
    have e3 : sm (n + 1) (fun j => if j = c ∨ j = c + 1 then 0 else sg j * cs M c 0 j * det n fun i k => cs M c (i + 1) (sk j k)) = - sm (n + 1) (fun j => if j = c ∨ j = c + 1 then 0 else sg j * M 0 j * det n fun i k => M (i + 1) (sk j k)) := by
      rw [← sm_neg]
      refine sm_congr fun j hj => ?_
      by_cases e : j = c ∨ j = c + 1
      · rw [if_pos e, if_pos e]; rfl
      · rw [if_neg e, if_neg e]
        have e4 : (fun i k => cs M c (i + 1) (sk j k)) = cs (fun i k => M (i + 1) (sk j k)) (if c < j then c else c - 1) := by
          funext i k
          unfold cs sk
          congr 1
          repeat' (first | omega | split)
        rw [e4, ih _ (by split <;> omega)]
        have e5 : cs M c 0 j = M 0 j := by
          unfold cs
          rw [if_neg (fun z => e (.inl z)), if_neg (fun z => e (.inr z))]
        rw [e5]
        grind
    rw [e3, e1, e2]
    have a1 : cs M c 0 c = M 0 (c + 1) := by unfold cs; rw [if_pos rfl]
    have a2 : cs M c 0 (c + 1) = M 0 c := by unfold cs; rw [if_neg (by omega), if_pos rfl]
    rw [a1, a2, sg_succ]
    grind
theorem det_eq_cols {n : Nat} : ∀ (d c : Nat) (M : Nat → Nat → Int), c + 1 + d < n → (∀ i, i < n → M i c = M i (c + 1 + d)) → det n M = 0 := by
  intro d
  induction d with
  | zero =>
    intro c M hc h
    have z := det_cs M (c := c) hc
    rw [show det n (cs M c) = det n M from det_congr fun i k hi _ => by
      unfold cs
      split
      · rename_i e; rw [e]; exact (h i hi).symm
      · split
        · rename_i e; rw [e]; exact h i hi
        · rfl] at z
    omega
  | succ d ih =>
    intro c M hc h
    have z := det_cs M (c := c + 1 + d) hc
    rw [ih c (cs M (c + 1 + d)) (by omega) (fun i hi => by
      unfold cs
      rw [if_neg (by omega), if_neg (by omega), if_pos rfl]
      exact h i hi)] at z
    omega
theorem det_cols {n c d : Nat} {M : Nat → Nat → Int} (hc : c < n) (hd : d < n) (hn : c ≠ d) (h : ∀ i, i < n → M i c = M i d) : det n M = 0 := by
  by_cases e : c < d
  · exact det_eq_cols (d - (c + 1)) c M (by omega) (fun i hi => by rw [h i hi]; congr 1; omega)
  · exact det_eq_cols (c - (d + 1)) d M (by omega) (fun i hi => by rw [← h i hi]; congr 1; omega)
end Mx
namespace Mx
/-- two rows are exchanged -/
def tr (a b i : Nat) : Nat := if i = a then b else if i = b then a else i
def un (a b : Nat) : Nat := if b < a then b else b - 1
/-- two rows are exchanged, one of them turns its signs -/
def sx (M : Nat → Nat → Int) (a b : Nat) : Nat → Nat → Int := fun i k => if i = a then M b k else if i = b then - M a k else M i k
end Mx
namespace Mx
structure Inv (n k : Nat) (c : Nat → Nat) (s : Int) (A R : Nat → Nat → Int) : Prop where
  s0 : s ≠ 0
  kn : k ≤ n
  dt : s = det k fun i l => A i (c l)
  up : ∀ r, r < k → ∀ j, s * A r j = sm k fun l => A r (c l) * R l j
  dn : ∀ r, k ≤ r → r < n → ∀ j, R r j = s * A r j - sm k fun l => A r (c l) * R l j
  kr : ∀ l m, l < k → m < k → R l (c m) = if l = m then s else 0
theorem Inv.start (n : Nat) (c : Nat → Nat) (A : Nat → Nat → Int) : Inv n 0 c 1 A A where
  s0 := by decide
  kn := Nat.zero_le _
  dt := rfl
  up := fun r h => by omega
  dn := fun r _ _ j => by show A r j = 1 * A r j - 0; omega
  kr := fun l m h => by omega
theorem Inv.swap {n k a b : Nat} {c : Nat → Nat} {s : Int} {A R : Nat → Nat → Int} (I : Inv n k c s A R) (ha : k ≤ a) (hb : k ≤ b) (ha2 : a < n) (hb2 : b < n) : Inv n k c s (sx A a b) (sx R a b) := by
  have lo : ∀ (M : Nat → Nat → Int) (r j : Nat), r < k → sx M a b r j = M r j := fun M r j h => by unfold sx; rw [if_neg (by omega), if_neg (by omega)]
  refine ⟨I.s0, I.kn, ?_, fun r h j => ?_, fun r h1 h2 j => ?_, fun l m hl hm => ?_⟩
  · rw [I.dt]
    exact det_congr fun i l hi hl => (lo A i _ hi).symm
  · rw [lo A r _ h, I.up r h]
    exact sm_congr fun l hl => by rw [lo A r _ h, lo R l _ hl]
  · have e : sm k (fun l => sx A a b r (c l) * sx R a b l j) = sm k (fun l => sx A a b r (c l) * R l j) := sm_congr fun l hl => by rw [lo R l _ hl]
    rw [e]
    unfold sx
    by_cases e1 : r = a
    · simp only [if_pos e1]
      exact I.dn b hb hb2 j
    · by_cases e2 : r = b
      · simp only [if_neg e1, if_pos e2]
        rw [I.dn a ha ha2 j, show sm k (fun l => - A a (c l) * R l j) = - sm k (fun l => A a (c l) * R l j) from by
          rw [← sm_neg]
          exact sm_congr fun l _ => Int.neg_mul _ _]
        grind
      · simp only [if_neg e1, if_neg e2]
        exact I.dn r h1 h2 j
  · rw [lo R l _ hl]
    exact I.kr l m hl hm
theorem mul_left {a b c : Int} (h : a ≠ 0) (e : a * b = a * c) : b = c := Int.eq_of_mul_eq_mul_left h e
section
variable {n k : Nat} {c : Nat → Nat} {s : Int} {A R : Nat → Nat → Int}
/-- a column that none of the rows left has: the determinant is nought -/
theorem Inv.none (I : Inv n k c s A R) {v : Nat} (hv : v < n) (hc : ∀ l, l < k → c l < n ∧ c l ≠ v) (h : ∀ r, k ≤ r → r < n → R r v = 0) : det n A = 0 := by
  refine mul_left I.s0 ?_
  rw [Int.mul_zero, show det n A = det n (cr A v fun r => A r v) by rw [cr_self], ← det_scale _ _ _ hv]
  have e : det n (cr A v fun r => s * A r v) = det n (cr A v fun r => sm k fun l => R l v * A r (c l)) := by
    refine det_congr fun r j hr _ => ?_
    unfold cr
    try dsimp only
    split
    · rw [sm_congr (n := k) (f := fun l => R l v * A r (c l)) (g := fun l => A r (c l) * R l v) fun l _ => Int.mul_comm _ _]
      by_cases g : r < k
      · exact I.up r g v
      · have := I.dn r (by omega) hr v
        rw [h r (by omega) hr] at this
        omega
    · rfl
  rw [e, det_sum _ (fun l => R l v) (fun l r => A r (c l)) hv]
  refine sm_zero fun l hl => ?_
  rw [det_cols (c := v) (d := c l) hv (hc l hl).1 (fun z => (hc l hl).2 z.symm) fun i _ => by
    unfold cr
    try dsimp only
    rw [if_pos rfl, if_neg (hc l hl).2], Int.mul_zero]
/-- all columns are kept -/
theorem Inv.all (I : Inv n n c s A R) (hc : ∀ l, l < n → c l = l) : s = det n A := by
  rw [I.dt]
  exact det_congr fun i l _ hl => by rw [hc l hl]
end
end Mx
namespace Mx
def ent (rs : List (List Int)) (i j : Nat) : Int := (rs.getD i []).getD j 0
def elim (chief row : List Int) (p q s : Int) : List Int := (row.zip chief).map fun z => (p * z.1 - q * z.2).fdiv s
theorem getD_lt {α : Type} {l : List α} {i : Nat} (d : α) (h : i < l.length) : l.getD i d = l[i] := by
  rw [List.getD_eq_getElem?_getD, List.getElem?_eq_getElem h]; rfl
/-- n rows of w numbers -/
def Sq (n w : Nat) (rs : List (List Int)) : Prop := rs.length = n ∧ ∀ row ∈ rs, row.length = w
theorem Sq.at {n w : Nat} {rs : List (List Int)} (h : Sq n w rs) {i : Nat} (hi : i < n) : (rs.getD i []).length = w := by
  rw [getD_lt [] (by rw [h.1]; exact hi)]
  exact h.2 _ (List.getElem_mem _)
/-- tables that come of one another by exchanges of rows -/
inductive Xr (n : Nat) : (Nat → Nat → Int) → (Nat → Nat → Int) → Prop where
  | refl (A) : Xr n A A
  | step {A B a b} : Xr n A B → a < n → b < n → a ≠ b → Xr n A (sx B a b)
/-- what holds of the rows while columns are cleared: up to the column v -/
structure Cl (n w v : Nat) (A : Nat → Nat → Int) (rs : List (List Int)) (kept : List Nat) (s : Int) : Prop where
  sq : Sq n w rs
  inv : ∃ B, Xr n A B ∧ Inv n kept.length (fun l => kept.getD l 0) s B (ent rs)
  lt : ∀ c ∈ kept, c < v
  sorted : kept.Pairwise (· < ·)
  none : ∀ c, c < v → c ∉ kept → ∀ r, kept.length ≤ r → r < n → ent rs r c = 0
theorem Cl.start {n w : Nat} {rs : List (List Int)} (h : Sq n w rs) : Cl n w 0 (ent rs) rs [] 1 :=
  ⟨h, ⟨_, .refl _, Inv.start _ _ _⟩, (fun c h => by cases h), .nil, (fun c h => by omega)⟩
end Mx
namespace L2
open PySem PySem.Spec PyProof.Rows
theorem isL_at' {α : Type} {K : PySem.W.Frag} {H : Hp} {f : α → Dt} {rs : List α} {xs : List V} {i : Nat} {v : V} (h : IsL K H (rs.map f) xs) (hi : xs[i]? = some v) : ∃ r, rs[i]? = some r ∧ Is K H (f r) v := by
  obtain ⟨d, hd, iv⟩ := h.get hi
  rw [List.getElem?_map] at hd
  cases e : rs[i]? with
  | none => rw [e] at hd; cases hd
  | some r => rw [e] at hd; exact ⟨r, rfl, (Option.some.inj hd).symm ▸ iv⟩
theorem isL_sn {K : PySem.W.Frag} {H : Hp} {ds : List Dt} {vs : List V} {d : Dt} {v : V} (h : IsL K H ds vs) (i : Is K H d v) : IsL K H (ds ++ [d]) (vs ++ [v]) := h.append ⟨v, [], rfl, i, rfl⟩
end L2
namespace L2
open PySem PySem.Spec PyProof.Rows
end L2
namespace L2
open PySem PySem.Spec PyProof.Rows
end L2
namespace L2
open PySem PySem.Spec PyProof.Rows
end L2
namespace L2
open PySem PySem.Spec PyProof.Rows
end L2
namespace L2
open PySem PySem.Spec PyProof.Rows
end L2
namespace L2
open PySem PySem.Spec PyProof.Rows
end L2
namespace L2
open PySem PySem.Spec PyProof.Rows
end L2
namespace ZM
open PySem PySem.Spec PyProof.Rows
end ZM
namespace ZM
open PySem PySem.Spec PyProof.Rows L2 RZ
end ZM
namespace L2
open PySem PySem.Spec PyProof.Rows ZM
end L2
namespace L2
open PySem PySem.Spec PyProof.Rows
end L2
namespace L2
open PySem PySem.Spec PyProof.Rows
/-- an item of a list or of a tuple -/
def rIxQ (K : PySem.W.Frag) : R2 := fun x y H Q => ∃ p xs i v, x = .ref p ∧ y = .int i ∧ SqQ K H p xs ∧ atI xs i = some v ∧ Q v H
theorem ix_seqQ {X : Cx} : IxR X (rIxQ X.K) := by
  intro value slice pins s σ H x y v u Q I rx ry h hs
  obtain ⟨p, xs, i, z, e1, e2, hq, he, q⟩ := h
  rcases hq with hq | hq
  · exact ix_list value slice pins s σ H x y v u Q I rx ry ⟨p, xs, i, z, e1, e2, hq, he, q⟩ hs
  · exact ix_tup value slice pins s σ H x y v u Q I rx ry ⟨p, xs, i, z, e1, e2, hq, he, q⟩ hs
end L2
namespace ZK
open PySem PySem.Spec PyProof.Rows L2
/-- no keyword is written: all keyword-only ones are left to their defaults -/
theorem kbD {K : PySem.W.Frag} {x qual : Str} {params : Arguments} {body : List Stmt} {scope : Scope} {kws : List (Str × V)} {f : Addr} {fd : FuncData} {ps : List Str} (F : FunD K x qual params body scope [] kws f fd) (n : Nat) (hk : kws ≠ []) (hn : n + kws.length = ps.length)
    (h : ∀ (D : Addr) (doc pm : Value) (an : Option Addr) (cdv ct : Value) (us ks : List Value), us.length = n → ks.length = kws.length →
      KwChain D ((kws.map (·.1)).zip ks) (bindArgs (PySem.W.fnOf x qual params body scope .none (.ref D) doc pm an cdv ct) ⟨us, []⟩) (ps.zip (us ++ ks))) : ∃ ds, Vals (kws.map (·.2)) ds ∧ Binds K fd ps ds := F.binds0 n hk hn h
end ZK
namespace K07
open PySem L2
def topS (i : Nat) : Stmt := PySem.Challenge.pw_hookspans_k07_hooks_led_back_from_any_he.main.body.getD i (.Pass ⟨0, 0, 0, 0⟩)
abbrev s_divisor : Stmt := topS 10
abbrev N_divisor : List Str := ["numbers", "common", "number"]
theorem sc_divisor : FnScope N_divisor ["numbers"] (defScope s_divisor) := ⟨rfl, rfl, rfl, by decide +kernel, rfl, by decide +kernel, by decide +kernel⟩
abbrev s_lowest : Stmt := topS 11
abbrev N_lowest : List Str := ["tops", "bottom", "common", "top"]
theorem sc_lowest : FnScope N_lowest ["tops", "bottom"] (defScope s_lowest) := ⟨rfl, rfl, rfl, by decide +kernel, rfl, by decide +kernel, by decide +kernel⟩
abbrev s_fraction : Stmt := topS 12
abbrev N_fraction : List Str := ["top", "bottom", "tops", "shared"]
theorem sc_fraction : FnScope N_fraction ["top", "bottom"] (defScope s_fraction) := ⟨rfl, rfl, rfl, by decide +kernel, rfl, by decide +kernel, by decide +kernel⟩
abbrev s_led : Stmt := topS 14
abbrev N_led : List Str := ["web", "heights", "parts", "bar"]
theorem sc_led : FnScope N_led ["web", "heights", "parts"] (defScope s_led) := ⟨rfl, rfl, rfl, by decide +kernel, rfl, by decide +kernel, by decide +kernel⟩
abbrev s_check_heights : Stmt := topS 15
abbrev N_check_heights : List Str := ["web", "heights", "parts", "held", "rod"]
theorem sc_check_heights : FnScope N_check_heights ["web", "heights", "parts"] (defScope s_check_heights) := ⟨rfl, rfl, rfl, by decide +kernel, rfl, by decide +kernel, by decide +kernel⟩
abbrev s_led_bar : Stmt := topS 16
abbrev N_led_bar : List Str := ["bar", "heights", "rise", "share"]
theorem sc_led_bar : FnScope N_led_bar ["bar", "heights"] (defScope s_led_bar) := ⟨rfl, rfl, rfl, by decide +kernel, rfl, by decide +kernel, by decide +kernel⟩
abbrev s_check_rods : Stmt := topS 25
abbrev N_check_rods : List Str := ["rods", "held", "rod"]
theorem sc_check_rods : FnScope N_check_rods ["rods", "held"] (defScope s_check_rods) := ⟨rfl, rfl, rfl, by decide +kernel, rfl, by decide +kernel, by decide +kernel⟩
abbrev s_check_bars : Stmt := topS 26
abbrev N_check_bars : List Str := ["rods", "held", "bars", "wanted", "number", "bar"]
theorem sc_check_bars : FnScope N_check_bars ["rods", "held", "bars"] (defScope s_check_bars) := ⟨rfl, rfl, rfl, by decide +kernel, rfl, by decide +kernel, by decide +kernel⟩
abbrev s_check_bar : Stmt := topS 27
abbrev N_check_bar : List Str := ["rods", "number", "bar", "rod"]
theorem sc_check_bar : FnScope N_check_bar ["rods", "number", "bar"] (defScope s_check_bar) := ⟨rfl, rfl, rfl, by decide +kernel, rfl, by decide +kernel, by decide +kernel⟩
abbrev s_l_well : Stmt := topS 29
abbrev N_l_well : List Str := ["_law_cell"]
theorem sc_l_well : FnScope N_l_well ["_law_cell"] (defScope s_l_well) := ⟨rfl, rfl, rfl, by decide +kernel, rfl, by decide +kernel, by decide +kernel⟩
abbrev s_l_draw : Stmt := topS 30
abbrev N_l_draw : List Str := ["_law_well_here", "_law_many", "_law_found", "_law_number"]
theorem sc_l_draw : FnScope N_l_draw ["_law_well_here", "_law_many"] (defScope s_l_draw) := ⟨rfl, rfl, rfl, by decide +kernel, rfl, by decide +kernel, by decide +kernel⟩
abbrev s_l_one : Stmt := topS 31
abbrev N_l_one : List Str := ["_law_well_here", "_law_some"]
theorem sc_l_one : FnScope N_l_one ["_law_well_here", "_law_some"] (defScope s_l_one) := ⟨rfl, rfl, rfl, by decide +kernel, rfl, by decide +kernel, by decide +kernel⟩
abbrev s_l_mixed : Stmt := topS 32
abbrev N_l_mixed : List Str := ["_law_well_here", "_law_some", "_law_left", "_law_found"]
theorem sc_l_mixed : FnScope N_l_mixed ["_law_well_here", "_law_some"] (defScope s_l_mixed) := ⟨rfl, rfl, rfl, by decide +kernel, rfl, by decide +kernel, by decide +kernel⟩
abbrev s_l_bar_fact : Stmt := topS 33
abbrev N_l_bar_fact : List Str := ["_law_well_here", "_law_rods_so", "_law_long", "_law_ends"]
theorem sc_l_bar_fact : FnScope N_l_bar_fact ["_law_well_here", "_law_rods_so"] (defScope s_l_bar_fact) := ⟨rfl, rfl, rfl, by decide +kernel, rfl, by decide +kernel, by decide +kernel⟩
abbrev s_l_any : Stmt := topS 34
abbrev N_l_any : List Str := ["_law_well_here", "_law_most", "_law_many", "_law_line", "_law_heights_so", "_law_some", "_law_rod", "_law_k"]
theorem sc_l_any : FnScope N_l_any ["_law_well_here", "_law_most"] (defScope s_l_any) := ⟨rfl, rfl, rfl, by decide +kernel, rfl, by decide +kernel, by decide +kernel⟩
abbrev s_l_web : Stmt := topS 35
abbrev N_l_web : List Str := ["_law_m", "_law_some", "_law_one_here"]
theorem sc_l_web : FnScope N_l_web ["_law_m"] (defScope s_l_web) := ⟨rfl, rfl, rfl, by decide +kernel, rfl, by decide +kernel, by decide +kernel⟩
abbrev s_l_common : Stmt := topS 36
abbrev N_l_common : List Str := ["_law_numbers_so", "_law_found", "_law_number"]
theorem sc_l_common : FnScope N_l_common ["_law_numbers_so"] (defScope s_l_common) := ⟨rfl, rfl, rfl, by decide +kernel, rfl, by decide +kernel, by decide +kernel⟩
abbrev s_l_height : Stmt := topS 37
abbrev N_l_height : List Str := ["_law_well_here"]
theorem sc_l_height : FnScope N_l_height ["_law_well_here"] (defScope s_l_height) := ⟨rfl, rfl, rfl, by decide +kernel, rfl, by decide +kernel, by decide +kernel⟩
abbrev s_l_seen : Stmt := topS 38
abbrev N_l_seen : List Str := ["_law_one_here", "_law_tops", "_law_left", "_law_right", "_law_mine", "_law_top", "_law_bottom", "_law_down"]
theorem sc_l_seen : FnScope N_l_seen ["_law_one_here", "_law_tops"] (defScope s_l_seen) := ⟨rfl, rfl, rfl, by decide +kernel, rfl, by decide +kernel, by decide +kernel⟩
abbrev s_l_due : Stmt := topS 39
abbrev N_l_due : List Str := ["_law_m", "_law_tops", "_law_share", "_law_off", "_law_rod", "_law_one_here"]
theorem sc_l_due : FnScope N_l_due ["_law_m", "_law_tops", "_law_share"] (defScope s_l_due) := ⟨rfl, rfl, rfl, by decide +kernel, rfl, by decide +kernel, by decide +kernel⟩
abbrev s_l_said : Stmt := topS 40
abbrev N_l_said : List Str := ["_law_ask", "_law_found", "e"]
theorem sc_l_said : FnScope N_l_said ["_law_ask"] (defScope s_l_said) := ⟨rfl, rfl, rfl, by decide +kernel, rfl, by decide +kernel, by decide +kernel⟩
abbrev s_law : Stmt := topS 41
abbrev N_law : List Str := ["_law_script", "_law_cell", "_law_well_here", "_law_m", "_law_web_so", "_law_turn", "_law_share", "_law_tops", "_law_rod", "_law_k", "_law_way", "_law_kept", "_law_due_here"]
theorem sc_law : FnScope N_law ["_law_script"] (defScope s_law) := ⟨rfl, rfl, rfl, by decide +kernel, rfl, by decide +kernel, by decide +kernel⟩
abbrev s_Bar_init : Stmt := inClass (topS 23) 0
abbrev N_Bar_init : List Str := ["self", "a", "b", "c", "length", "least", "greatest"]
theorem sc_Bar_init : FnScope N_Bar_init ["self", "a", "b", "c", "length", "least", "greatest"] (defScope s_Bar_init) := ⟨rfl, rfl, rfl, by decide +kernel, rfl, by decide +kernel, by decide +kernel⟩
abbrev s_Bar_eq : Stmt := inClass (topS 23) 1
abbrev s_Web_init : Stmt := inClass (topS 24) 0
abbrev N_Web_init : List Str := ["self", "rods", "held", "bars", "rod"]
theorem sc_Web_init : FnScope N_Web_init ["self", "rods", "held", "bars"] (defScope s_Web_init) := ⟨rfl, rfl, rfl, by decide +kernel, rfl, by decide +kernel, by decide +kernel⟩
abbrev s_Web_held : Stmt := inClass (topS 24) 1
abbrev N_Web_held : List Str := ["self"]
theorem sc_Web_held : FnScope N_Web_held ["self"] (defScope s_Web_held) := ⟨rfl, rfl, rfl, by decide +kernel, rfl, by decide +kernel, by decide +kernel⟩
abbrev s_Web_hanging : Stmt := inClass (topS 24) 2
abbrev s_Web_eq : Stmt := inClass (topS 24) 3
abbrev s_BadCount_init : Stmt := inClass (topS 3) 0
abbrev N_BadCount_init : List Str := ["self", "what", "count"]
theorem sc_BadCount_init : FnScope N_BadCount_init ["self", "what", "count"] (defScope s_BadCount_init) := ⟨rfl, rfl, rfl, by decide +kernel, rfl, by decide +kernel, by decide +kernel⟩
abbrev s_NoRod_init : Stmt := inClass (topS 4) 0
abbrev N_NoRod_init : List Str := ["self", "rod"]
theorem sc_NoRod_init : FnScope N_NoRod_init ["self", "rod"] (defScope s_NoRod_init) := ⟨rfl, rfl, rfl, by decide +kernel, rfl, by decide +kernel, by decide +kernel⟩
abbrev s_SameRod_init : Stmt := inClass (topS 5) 0
abbrev N_SameRod_init : List Str := ["self", "rod"]
theorem sc_SameRod_init : FnScope N_SameRod_init ["self", "rod"] (defScope s_SameRod_init) := ⟨rfl, rfl, rfl, by decide +kernel, rfl, by decide +kernel, by decide +kernel⟩
abbrev s_BadSpan_init : Stmt := inClass (topS 6) 0
abbrev N_BadSpan_init : List Str := ["self", "bar"]
theorem sc_BadSpan_init : FnScope N_BadSpan_init ["self", "bar"] (defScope s_BadSpan_init) := ⟨rfl, rfl, rfl, by decide +kernel, rfl, by decide +kernel, by decide +kernel⟩
abbrev s_NotSquare_init : Stmt := inClass (topS 7) 0
abbrev N_NotSquare_init : List Str := ["self", "bars", "wanted"]
theorem sc_NotSquare_init : FnScope N_NotSquare_init ["self", "bars", "wanted"] (defScope s_NotSquare_init) := ⟨rfl, rfl, rfl, by decide +kernel, rfl, by decide +kernel, by decide +kernel⟩
abbrev s_NotHeld_init : Stmt := inClass (topS 8) 0
abbrev N_NotHeld_init : List Str := ["self", "rod"]
theorem sc_NotHeld_init : FnScope N_NotHeld_init ["self", "rod"] (defScope s_NotHeld_init) := ⟨rfl, rfl, rfl, by decide +kernel, rfl, by decide +kernel, by decide +kernel⟩
/-- what the top has written -/
structure Tx (K : PySem.W.Frag) (mg : Str → Option Value) where
  a_divisor : Addr
  fd_divisor : FuncData
  F_divisor : Fun K "divisor" "divisor" s_divisor a_divisor fd_divisor
  b_divisor : Binds K fd_divisor ["numbers"] []
  m_divisor : mg "divisor" = some (.ref a_divisor)
  a_lowest : Addr
  fd_lowest : FuncData
  F_lowest : Fun K "lowest" "lowest" s_lowest a_lowest fd_lowest
  b_lowest : Binds K fd_lowest ["tops", "bottom"] []
  m_lowest : mg "lowest" = some (.ref a_lowest)
  a_fraction : Addr
  fd_fraction : FuncData
  F_fraction : Fun K "fraction" "fraction" s_fraction a_fraction fd_fraction
  b_fraction : Binds K fd_fraction ["top", "bottom"] []
  m_fraction : mg "fraction" = some (.ref a_fraction)
  a_led : Addr
  fd_led : FuncData
  F_led : Fun K "led" "led" s_led a_led fd_led
  D_led : L2.FunD K "led" "led" (defArgs s_led) (defBody s_led) (defScope s_led) [] [("parts", L2.V.int 1)] a_led fd_led
  m_led : mg "led" = some (.ref a_led)
  a_check_heights : Addr
  fd_check_heights : FuncData
  F_check_heights : Fun K "_check_heights" "_check_heights" s_check_heights a_check_heights fd_check_heights
  b_check_heights : Binds K fd_check_heights ["web", "heights", "parts"] []
  m_check_heights : mg "_check_heights" = some (.ref a_check_heights)
  a_led_bar : Addr
  fd_led_bar : FuncData
  F_led_bar : Fun K "_led_bar" "_led_bar" s_led_bar a_led_bar fd_led_bar
  b_led_bar : Binds K fd_led_bar ["bar", "heights"] []
  m_led_bar : mg "_led_bar" = some (.ref a_led_bar)
  a_check_rods : Addr
  fd_check_rods : FuncData
  F_check_rods : Fun K "_check_rods" "_check_rods" s_check_rods a_check_rods fd_check_rods
  b_check_rods : Binds K fd_check_rods ["rods", "held"] []
  m_check_rods : mg "_check_rods" = some (.ref a_check_rods)
  a_check_bars : Addr
  fd_check_bars : FuncData
  F_check_bars : Fun K "_check_bars" "_check_bars" s_check_bars a_check_bars fd_check_bars
  b_check_bars : Binds K fd_check_bars ["rods", "held", "bars"] []
  m_check_bars : mg "_check_bars" = some (.ref a_check_bars)
  a_check_bar : Addr
  fd_check_bar : FuncData
  F_check_bar : Fun K "_check_bar" "_check_bar" s_check_bar a_check_bar fd_check_bar
  b_check_bar : Binds K fd_check_bar ["rods", "number", "bar"] []
  m_check_bar : mg "_check_bar" = some (.ref a_check_bar)
  a_l_well : Addr
  fd_l_well : FuncData
  F_l_well : Fun K "_law_well" "_law_well" s_l_well a_l_well fd_l_well
  b_l_well : Binds K fd_l_well ["_law_cell"] []
  m_l_well : mg "_law_well" = some (.ref a_l_well)
  a_l_draw : Addr
  fd_l_draw : FuncData
  F_l_draw : Fun K "_law_draw" "_law_draw" s_l_draw a_l_draw fd_l_draw
  b_l_draw : Binds K fd_l_draw ["_law_well_here", "_law_many"] []
  m_l_draw : mg "_law_draw" = some (.ref a_l_draw)
  a_l_one : Addr
  fd_l_one : FuncData
  F_l_one : Fun K "_law_one" "_law_one" s_l_one a_l_one fd_l_one
  b_l_one : Binds K fd_l_one ["_law_well_here", "_law_some"] []
  m_l_one : mg "_law_one" = some (.ref a_l_one)
  a_l_mixed : Addr
  fd_l_mixed : FuncData
  F_l_mixed : Fun K "_law_mixed" "_law_mixed" s_l_mixed a_l_mixed fd_l_mixed
  b_l_mixed : Binds K fd_l_mixed ["_law_well_here", "_law_some"] []
  m_l_mixed : mg "_law_mixed" = some (.ref a_l_mixed)
  a_l_bar_fact : Addr
  fd_l_bar_fact : FuncData
  F_l_bar_fact : Fun K "_law_bar_fact" "_law_bar_fact" s_l_bar_fact a_l_bar_fact fd_l_bar_fact
  b_l_bar_fact : Binds K fd_l_bar_fact ["_law_well_here", "_law_rods_so"] []
  m_l_bar_fact : mg "_law_bar_fact" = some (.ref a_l_bar_fact)
  a_l_any : Addr
  fd_l_any : FuncData
  F_l_any : Fun K "_law_any" "_law_any" s_l_any a_l_any fd_l_any
  b_l_any : Binds K fd_l_any ["_law_well_here", "_law_most"] []
  m_l_any : mg "_law_any" = some (.ref a_l_any)
  a_l_web : Addr
  fd_l_web : FuncData
  F_l_web : Fun K "_law_web" "_law_web" s_l_web a_l_web fd_l_web
  b_l_web : Binds K fd_l_web ["_law_m"] []
  m_l_web : mg "_law_web" = some (.ref a_l_web)
  a_l_common : Addr
  fd_l_common : FuncData
  F_l_common : Fun K "_law_common" "_law_common" s_l_common a_l_common fd_l_common
  b_l_common : Binds K fd_l_common ["_law_numbers_so"] []
  m_l_common : mg "_law_common" = some (.ref a_l_common)
  a_l_height : Addr
  fd_l_height : FuncData
  F_l_height : Fun K "_law_height" "_law_height" s_l_height a_l_height fd_l_height
  b_l_height : Binds K fd_l_height ["_law_well_here"] []
  m_l_height : mg "_law_height" = some (.ref a_l_height)
  a_l_seen : Addr
  fd_l_seen : FuncData
  F_l_seen : Fun K "_law_seen" "_law_seen" s_l_seen a_l_seen fd_l_seen
  b_l_seen : Binds K fd_l_seen ["_law_one_here", "_law_tops"] []
  m_l_seen : mg "_law_seen" = some (.ref a_l_seen)
  a_l_due : Addr
  fd_l_due : FuncData
  F_l_due : Fun K "_law_due" "_law_due" s_l_due a_l_due fd_l_due
  b_l_due : Binds K fd_l_due ["_law_m", "_law_tops", "_law_share"] []
  m_l_due : mg "_law_due" = some (.ref a_l_due)
  a_l_said : Addr
  fd_l_said : FuncData
  F_l_said : Fun K "_law_said" "_law_said" s_l_said a_l_said fd_l_said
  b_l_said : Binds K fd_l_said ["_law_ask"] []
  m_l_said : mg "_law_said" = some (.ref a_l_said)
  a_law : Addr
  fd_law : FuncData
  F_law : Fun K "law" "law" s_law a_law fd_law
  b_law : Binds K fd_law ["_law_script"] []
  m_law : mg "law" = some (.ref a_law)
  C_Bar : Addr
  m_Bar : mg "Bar" = some (.ref C_Bar)
  c_Bar : Cls K C_Bar
  mk_Bar : PySem.W.makesIn K C_Bar = true
  nf_Bar_a : NoAttr K C_Bar "a"
  nf_Bar_b : NoAttr K C_Bar "b"
  nf_Bar_c : NoAttr K C_Bar "c"
  nf_Bar_length : NoAttr K C_Bar "length"
  nf_Bar_least : NoAttr K C_Bar "least"
  nf_Bar_greatest : NoAttr K C_Bar "greatest"
  a_Bar_init : Addr
  fd_Bar_init : FuncData
  F_Bar_init : Fun K "__init__" "Bar.__init__" s_Bar_init a_Bar_init fd_Bar_init
  b_Bar_init : Binds K fd_Bar_init ["self", "a", "b", "c", "length", "least", "greatest"] []
  k_Bar : Mk K C_Bar a_Bar_init
  a_Bar_eq : Addr
  fd_Bar_eq : FuncData
  F_Bar_eq : Fun K "__eq__" "Bar.__eq__" s_Bar_eq a_Bar_eq fd_Bar_eq
  b_Bar_eq : Binds K fd_Bar_eq ["self", "other"] []
  M_Bar_eq : Meth K C_Bar "__eq__" a_Bar_eq
  ef_Bar : eqFacts K C_Bar = true
  ne_Bar : LxE.NeFacts K C_Bar
  C_Web : Addr
  m_Web : mg "Web" = some (.ref C_Web)
  c_Web : Cls K C_Web
  mk_Web : PySem.W.makesIn K C_Web = true
  nf_Web_rods : NoAttr K C_Web "rods"
  nf_Web_bars : NoAttr K C_Web "bars"
  nf_Web_held : NoAttr K C_Web "_held"
  a_Web_init : Addr
  fd_Web_init : FuncData
  F_Web_init : Fun K "__init__" "Web.__init__" s_Web_init a_Web_init fd_Web_init
  b_Web_init : Binds K fd_Web_init ["self", "rods", "held", "bars"] []
  k_Web : Mk K C_Web a_Web_init
  a_Web_held : Addr
  fd_Web_held : FuncData
  F_Web_held : Fun K "held" "Web.held" s_Web_held a_Web_held fd_Web_held
  b_Web_held : Binds K fd_Web_held ["self"] []
  M_Web_held : Meth K C_Web "held" a_Web_held
  a_Web_hanging : Addr
  fd_Web_hanging : FuncData
  F_Web_hanging : Fun K "hanging" "Web.hanging" s_Web_hanging a_Web_hanging fd_Web_hanging
  b_Web_hanging : Binds K fd_Web_hanging ["self"] []
  M_Web_hanging : Meth K C_Web "hanging" a_Web_hanging
  a_Web_eq : Addr
  fd_Web_eq : FuncData
  F_Web_eq : Fun K "__eq__" "Web.__eq__" s_Web_eq a_Web_eq fd_Web_eq
  b_Web_eq : Binds K fd_Web_eq ["self", "other"] []
  M_Web_eq : Meth K C_Web "__eq__" a_Web_eq
  ef_Web : eqFacts K C_Web = true
  ne_Web : LxE.NeFacts K C_Web
  nfst_Bar_Bar : PySem.W.notFirst K C_Bar (.ref C_Bar) = true
  nfst_Bar_Web : PySem.W.notFirst K C_Bar (.ref C_Web) = true
  dc_Bar_Web : C_Bar ≠ C_Web
  nfst_Web_Bar : PySem.W.notFirst K C_Web (.ref C_Bar) = true
  nfst_Web_Web : PySem.W.notFirst K C_Web (.ref C_Web) = true
  C_HooksError : Addr
  m_HooksError : mg "HooksError" = some (.ref C_HooksError)
  C_BadCount : Addr
  O_BadCount : OexC K C_BadCount
  m_BadCount : mg "BadCount" = some (.ref C_BadCount)
  isC_BadCount : ExcC K C_BadCount
  xf_BadCount : XfC K C_BadCount
  exm_BadCount_HooksError : PySem.W.exmOne K (.ref C_BadCount) (.ref C_HooksError) = some true
  a_BadCount_init : Addr
  fd_BadCount_init : FuncData
  F_BadCount_init : Fun K "__init__" "BadCount.__init__" s_BadCount_init a_BadCount_init fd_BadCount_init
  b_BadCount_init : Binds K fd_BadCount_init ["self", "what", "count"] []
  nf_BadCount_what : PySem.W.findIn K (.ref C_BadCount) "what" = some none
  nf_BadCount_count : PySem.W.findIn K (.ref C_BadCount) "count" = some none
  X_BadCount : XCls K mg "BadCount" C_BadCount a_BadCount_init fd_BadCount_init ["self", "what", "count"]
  C_NoRod : Addr
  O_NoRod : OexC K C_NoRod
  m_NoRod : mg "NoRod" = some (.ref C_NoRod)
  isC_NoRod : ExcC K C_NoRod
  xf_NoRod : XfC K C_NoRod
  exm_NoRod_HooksError : PySem.W.exmOne K (.ref C_NoRod) (.ref C_HooksError) = some true
  a_NoRod_init : Addr
  fd_NoRod_init : FuncData
  F_NoRod_init : Fun K "__init__" "NoRod.__init__" s_NoRod_init a_NoRod_init fd_NoRod_init
  b_NoRod_init : Binds K fd_NoRod_init ["self", "rod"] []
  nf_NoRod_rod : PySem.W.findIn K (.ref C_NoRod) "rod" = some none
  X_NoRod : XCls K mg "NoRod" C_NoRod a_NoRod_init fd_NoRod_init ["self", "rod"]
  C_SameRod : Addr
  O_SameRod : OexC K C_SameRod
  m_SameRod : mg "SameRod" = some (.ref C_SameRod)
  isC_SameRod : ExcC K C_SameRod
  xf_SameRod : XfC K C_SameRod
  exm_SameRod_HooksError : PySem.W.exmOne K (.ref C_SameRod) (.ref C_HooksError) = some true
  a_SameRod_init : Addr
  fd_SameRod_init : FuncData
  F_SameRod_init : Fun K "__init__" "SameRod.__init__" s_SameRod_init a_SameRod_init fd_SameRod_init
  b_SameRod_init : Binds K fd_SameRod_init ["self", "rod"] []
  nf_SameRod_rod : PySem.W.findIn K (.ref C_SameRod) "rod" = some none
  X_SameRod : XCls K mg "SameRod" C_SameRod a_SameRod_init fd_SameRod_init ["self", "rod"]
  C_BadSpan : Addr
  O_BadSpan : OexC K C_BadSpan
  m_BadSpan : mg "BadSpan" = some (.ref C_BadSpan)
  isC_BadSpan : ExcC K C_BadSpan
  xf_BadSpan : XfC K C_BadSpan
  exm_BadSpan_HooksError : PySem.W.exmOne K (.ref C_BadSpan) (.ref C_HooksError) = some true
  a_BadSpan_init : Addr
  fd_BadSpan_init : FuncData
  F_BadSpan_init : Fun K "__init__" "BadSpan.__init__" s_BadSpan_init a_BadSpan_init fd_BadSpan_init
  b_BadSpan_init : Binds K fd_BadSpan_init ["self", "bar"] []
  nf_BadSpan_bar : PySem.W.findIn K (.ref C_BadSpan) "bar" = some none
  X_BadSpan : XCls K mg "BadSpan" C_BadSpan a_BadSpan_init fd_BadSpan_init ["self", "bar"]
  C_NotSquare : Addr
  O_NotSquare : OexC K C_NotSquare
  m_NotSquare : mg "NotSquare" = some (.ref C_NotSquare)
  isC_NotSquare : ExcC K C_NotSquare
  xf_NotSquare : XfC K C_NotSquare
  exm_NotSquare_HooksError : PySem.W.exmOne K (.ref C_NotSquare) (.ref C_HooksError) = some true
  a_NotSquare_init : Addr
  fd_NotSquare_init : FuncData
  F_NotSquare_init : Fun K "__init__" "NotSquare.__init__" s_NotSquare_init a_NotSquare_init fd_NotSquare_init
  b_NotSquare_init : Binds K fd_NotSquare_init ["self", "bars", "wanted"] []
  nf_NotSquare_bars : PySem.W.findIn K (.ref C_NotSquare) "bars" = some none
  nf_NotSquare_wanted : PySem.W.findIn K (.ref C_NotSquare) "wanted" = some none
  X_NotSquare : XCls K mg "NotSquare" C_NotSquare a_NotSquare_init fd_NotSquare_init ["self", "bars", "wanted"]
  C_NotHeld : Addr
  O_NotHeld : OexC K C_NotHeld
  m_NotHeld : mg "NotHeld" = some (.ref C_NotHeld)
  isC_NotHeld : ExcC K C_NotHeld
  xf_NotHeld : XfC K C_NotHeld
  exm_NotHeld_HooksError : PySem.W.exmOne K (.ref C_NotHeld) (.ref C_HooksError) = some true
  a_NotHeld_init : Addr
  fd_NotHeld_init : FuncData
  F_NotHeld_init : Fun K "__init__" "NotHeld.__init__" s_NotHeld_init a_NotHeld_init fd_NotHeld_init
  b_NotHeld_init : Binds K fd_NotHeld_init ["self", "rod"] []
  nf_NotHeld_rod : PySem.W.findIn K (.ref C_NotHeld) "rod" = some none
  X_NotHeld : XCls K mg "NotHeld" C_NotHeld a_NotHeld_init fd_NotHeld_init ["self", "rod"]
  kit_BadCount_BadCount : PySem.W.kitOne K (.ref C_BadCount) (.ref C_BadCount) = some true
  kit_BadCount_NotHeld : PySem.W.kitOne K (.ref C_BadCount) (.ref C_NotHeld) = some false
  kit_NotHeld_BadCount : PySem.W.kitOne K (.ref C_NotHeld) (.ref C_BadCount) = some false
  kit_NotHeld_NotHeld : PySem.W.kitOne K (.ref C_NotHeld) (.ref C_NotHeld) = some true
  z_abs : mg "abs" = none
  z_len : mg "len" = none
  z_range : mg "range" = none
  z_tuple : mg "tuple" = none
  z_list : mg "list" = none
  z_dict : mg "dict" = none
  z_sorted : mg "sorted" = none
  z_enumerate : mg "enumerate" = none
  z_zip : mg "zip" = none
  z_min : mg "min" = none
  z_max : mg "max" = none
  z_int : mg "int" = none
  z_isinstance : mg "isinstance" = none
  z_type : mg "type" = none
  z_sum : mg "sum" = none
  m_gcd : mg "gcd" = some (.builtin "math.gcd")
  t_LEAST_RODS : Tok
  m_LEAST_RODS : mg "LEAST_RODS" = some (.int 3 t_LEAST_RODS)
  t_MOST_RODS : Tok
  m_MOST_RODS : mg "MOST_RODS" = some (.int 10 t_MOST_RODS)
  t_MOST_BARS : Tok
  m_MOST_BARS : mg "MOST_BARS" = some (.int 8 t_MOST_BARS)
  t_MOST_HEIGHT : Tok
  m_MOST_HEIGHT : mg "MOST_HEIGHT" = some (.int 1000000 t_MOST_HEIGHT)
  t_MOST_LENGTH : Tok
  m_MOST_LENGTH : mg "MOST_LENGTH" = some (.int 1000000 t_MOST_LENGTH)
end K07
namespace Hk
open PySem
def seeT (at0 : List Addr) (f0 : List He.Fa) (d0 : List He.DefD) (tf : List He.Defn) (b0 : PySem.W.Frag → Bool) (look : Addr → Option Obj) : He.AlX :=
  (He.obsT f0 d0 [] (He.frT look at0), b0 (He.frT look at0) && He.tabsB look tf (He.frT look at0))
theorem saysT {at0 : List Addr} {f0 : List He.Fa} {d0 : List He.DefD} {tf : List He.Defn} {b0 : PySem.W.Frag → Bool} {w : World} {hp : Heap} (q : seeT at0 f0 d0 tf b0 hp.get? = He.valX d0 [] w) :
    He.SaysX f0 d0 [] tf b0 w hp (He.frT hp.get? at0) := by
  have told := congrArg Prod.snd q
  obtain ⟨facts, tabs⟩ := He.ba (show (b0 (He.frT hp.get? at0) && He.tabsB hp.get? tf (He.frT hp.get? at0)) = true from told)
  have each : ∀ p ∈ tf, PySem.W.codeHdIn (He.frT hp.get? at0) (He.cT (He.frT hp.get? at0) p).1 (He.cT (He.frT hp.get? at0) p).2 = true ∧ ∃ o, hp.get? (He.cT (He.frT hp.get? at0) p).2 = some o ∧ He.emptyTab o = true := by
    intro p hp'
    obtain ⟨z1, z2⟩ := He.ba (List.all_eq_true.mp tabs p hp')
    cases e : hp.get? (He.cT (He.frT hp.get? at0) p).2 with
    | none => rw [e] at z2; cases z2
    | some o => rw [e] at z2; exact ⟨z1, o, rfl, z2⟩
  refine ⟨congrArg Prod.fst q, facts, fun p m => (each p m).1, fun p m => ?_, fun p m => ?_⟩
  · obtain ⟨_, o, e, z⟩ := each p m
    exact He.frT_none e z
  · obtain ⟨_, o, e, z⟩ := each p m
    rw [e, He.emptyTab_eq z]
def hookT (at0 : List Addr) (f0 : List He.Fa) (d0 : List He.DefD) (tf : List He.Defn) (b0 : PySem.W.Frag → Bool) : PySem.W.Hook where
  α := He.AlX
  obs := fun st => seeT at0 f0 d0 tf b0 st.heap.get?
  val := fun w => He.valX d0 [] w
  says := fun w hp => ∃ F : PySem.W.Frag, F.In hp ∧ He.SaysX f0 d0 [] tf b0 w hp F
  of := fun _ _ q => ⟨_, He.frT_in, saysT q⟩
  keeps := fun _ _ _ ⟨F, hF, z⟩ kk => ⟨F, PySem.W.Frag.In.keeps hF kk, ⟨z.t, z.more, z.hd, z.out, fun p m => kk _ _ (z.empty p m)⟩⟩
theorem seeT_eq {at0 : List Addr} {f0 : List He.Fa} {d0 : List He.DefD} {tf : List He.Defn} {b0 : PySem.W.Frag → Bool} {look : Addr → Option Obj} {st : Shared} (q : ∀ x, look x = st.heap.get? x) : seeT at0 f0 d0 tf b0 look = (hookT at0 f0 d0 tf b0).obs st := by
  rw [show look = st.heap.get? from funext q]
  rfl
/-- the facts of defs that make lambdas: their names, no table shared -/
def nameB (K : PySem.W.Frag) (x : Str) : Bool := decide (PySem.W.nsIn K mainGlobals x = some (some (.ref (He.ga K x))))
end Hk
namespace K07
open PySem L2
def xcB (K : PySem.W.Frag) (C : Addr) (bm : List Value) (k : String) : Bool := match K.lookup C with
  | some ⟨.type "type", _, .cls cd, sl⟩ => decide (cd.mro = .ref C :: bm) && (cd.hasDict && (!cd.hasDel && (match sl.toList with
    | [_, _, _, _, some (.builtin n), _] => decide (n = k)
    | _ => false)))
  | _ => false
theorem xcB_ok {K : PySem.W.Frag} {C : Addr} {bm : List Value} {k : String} (h : xcB K C bm k = true) : ∃ (nm q : Str) (N : Addr) (bs : List Value) (sn : List Str) (sub : List Value) (ab : Bool) (col : Option Bool) (dd : Option Addr) (u0 u1 u2 u3 u5 : Option Value),
    K.lookup C = some (excClassObj nm q C N bs bm true sn sub ab col dd u0 u1 u2 u3 u5 k) := by
  unfold xcB at h
  split at h
  · rename_i dd cd sl e
    obtain ⟨h1, h⟩ := He.ba h
    obtain ⟨h2, h⟩ := He.ba h
    obtain ⟨h3, h⟩ := He.ba h
    have h1 := of_decide_eq_true h1
    obtain ⟨nm, bs, mro, N, q, hdct, sn, sub, ab, col, hdel⟩ := cd
    dsimp only at h1 h2 h3
    subst h1 h2
    cases hdel with
    | true => cases h3
    | false =>
      split at h
      · rename_i u0 u1 u2 u3 n u5 es
        have hn := of_decide_eq_true h
        subst hn
        obtain rfl : sl = #[u0, u1, u2, u3, some (.builtin n), u5] := Array.ext' es
        exact ⟨nm, q, N, bs, sn, sub, ab, col, dd, u0, u1, u2, u3, u5, e⟩
      · cases h
  · cases h
def intB (K : PySem.W.Frag) (x : Str) (i : Int) : Bool := match PySem.W.nsIn K mainGlobals x with
  | some (some (.int j _)) => decide (j = i)
  | _ => false
theorem intB_ok {K : PySem.W.Frag} {x : Str} {i : Int} (h : intB K x i = true) : ∃ t, PySem.W.nsIn K mainGlobals x = some (some (.int i t)) := by
  unfold intB at h
  split at h
  · rename_i j t e
    have hj := of_decide_eq_true h
    subst hj
    exact ⟨t, e⟩
  · cases h
theorem ex_at {l : List Bool} (h : l.all id = true) (i : Nat) {b : Bool} (e : l[i]? = some b) : b = true := List.all_eq_true.mp h b (List.mem_of_getElem? e)
theorem def_none {K : PySem.W.Frag} {dV : Value} (h : L2.DflV K dV []) : dV = .none := by
  rcases h with h | h
  · exact h.2
  · exact absurd rfl h.1
def exL0 (K : PySem.W.Frag) : List Bool := [
  decide (PySem.W.specialIn K (.builtin "object.__class__") "__get__" = some (some (.builtin "getset_descriptor.__get__"))),
  decide (PySem.W.takesIn K (.builtin "object.__class__") = some true),
  decide (PySem.W.nsIn K mainGlobals "divisor" = some (some (.ref (He.ga K "divisor")))),
  decide (PySem.W.nsIn K mainGlobals "lowest" = some (some (.ref (He.ga K "lowest")))),
  decide (PySem.W.nsIn K mainGlobals "fraction" = some (some (.ref (He.ga K "fraction")))),
  decide (PySem.W.nsIn K mainGlobals "led" = some (some (.ref (He.ga K "led")))),
  decide (PySem.W.nsIn K mainGlobals "_check_heights" = some (some (.ref (He.ga K "_check_heights")))),
  decide (PySem.W.nsIn K mainGlobals "_led_bar" = some (some (.ref (He.ga K "_led_bar")))),
  decide (PySem.W.nsIn K mainGlobals "_check_rods" = some (some (.ref (He.ga K "_check_rods")))),
  decide (PySem.W.nsIn K mainGlobals "_check_bars" = some (some (.ref (He.ga K "_check_bars")))),
  decide (PySem.W.nsIn K mainGlobals "_check_bar" = some (some (.ref (He.ga K "_check_bar")))),
  decide (PySem.W.nsIn K mainGlobals "_law_well" = some (some (.ref (He.ga K "_law_well")))),
  decide (PySem.W.nsIn K mainGlobals "_law_draw" = some (some (.ref (He.ga K "_law_draw")))),
  decide (PySem.W.nsIn K mainGlobals "_law_one" = some (some (.ref (He.ga K "_law_one")))),
  decide (PySem.W.nsIn K mainGlobals "_law_mixed" = some (some (.ref (He.ga K "_law_mixed")))),
  decide (PySem.W.nsIn K mainGlobals "_law_bar_fact" = some (some (.ref (He.ga K "_law_bar_fact")))),
  decide (PySem.W.nsIn K mainGlobals "_law_any" = some (some (.ref (He.ga K "_law_any")))),
  decide (PySem.W.nsIn K mainGlobals "_law_web" = some (some (.ref (He.ga K "_law_web")))),
  decide (PySem.W.nsIn K mainGlobals "_law_common" = some (some (.ref (He.ga K "_law_common")))),
  decide (PySem.W.nsIn K mainGlobals "_law_height" = some (some (.ref (He.ga K "_law_height")))),
  decide (PySem.W.nsIn K mainGlobals "_law_seen" = some (some (.ref (He.ga K "_law_seen")))),
  decide (PySem.W.nsIn K mainGlobals "_law_due" = some (some (.ref (He.ga K "_law_due")))),
  decide (PySem.W.nsIn K mainGlobals "_law_said" = some (some (.ref (He.ga K "_law_said")))),
  decide (PySem.W.nsIn K mainGlobals "law" = some (some (.ref (He.ga K "law")))),
  decide (PySem.W.nsIn K mainGlobals "Bar" = some (some (.ref (He.ga K "Bar")))),
  PySem.W.plainGet K (He.ga K "Bar") Str.empty,
  PySem.W.hasDictIn K (He.ga K "Bar"),
  PySem.W.plainOver K (He.ga K "Bar"),
  decide (PySem.W.findIn K (.ref (He.ga K "Bar")) "__setattr__" = some (some (.builtin "object.__setattr__"))),
  PySem.W.makesIn K (He.ga K "Bar"),
  PySem.W.keepIn K (.ref (He.ga K "Bar")),
  decide (PySem.W.findIn K (.ref (He.ga K "Bar")) "a" = some none),
  decide (PySem.W.findIn K (.ref (He.ga K "Bar")) "b" = some none),
  decide (PySem.W.findIn K (.ref (He.ga K "Bar")) "c" = some none),
  decide (PySem.W.findIn K (.ref (He.ga K "Bar")) "length" = some none),
  decide (PySem.W.findIn K (.ref (He.ga K "Bar")) "least" = some none),
  decide (PySem.W.findIn K (.ref (He.ga K "Bar")) "greatest" = some none),
  decide (PySem.W.findIn K (.ref (He.ga K "Bar")) "__init__" = some (some (.ref (He.ma K (He.ga K "Bar") "__init__")))),
  PySem.W.isFn K (.ref (He.ma K (He.ga K "Bar") "__init__")),
  decide (PySem.W.findIn K (.ref (He.ga K "Bar")) "__eq__" = some (some (.ref (He.ma K (He.ga K "Bar") "__eq__"))))]
def exL1 (K : PySem.W.Frag) : List Bool := [
  PySem.W.isFn K (.ref (He.ma K (He.ga K "Bar") "__eq__")),
  PySem.W.notFirst K (He.ga K "Bar") (.type "NoneType"),
  decide (PySem.W.subIn K (.ref (He.ga K "Bar")) (.type "NoneType") = some false),
  PySem.W.notFirst K (He.ga K "Bar") (.type "bool"),
  decide (PySem.W.subIn K (.ref (He.ga K "Bar")) (.type "bool") = some false),
  PySem.W.notFirst K (He.ga K "Bar") (.type "int"),
  decide (PySem.W.subIn K (.ref (He.ga K "Bar")) (.type "int") = some false),
  PySem.W.notFirst K (He.ga K "Bar") (.type "str"),
  decide (PySem.W.subIn K (.ref (He.ga K "Bar")) (.type "str") = some false),
  PySem.W.notFirst K (He.ga K "Bar") (.type "list"),
  decide (PySem.W.subIn K (.ref (He.ga K "Bar")) (.type "list") = some false),
  PySem.W.notFirst K (He.ga K "Bar") (.type "tuple"),
  decide (PySem.W.subIn K (.ref (He.ga K "Bar")) (.type "tuple") = some false),
  PySem.W.notFirst K (He.ga K "Bar") (.type "dict"),
  decide (PySem.W.subIn K (.ref (He.ga K "Bar")) (.type "dict") = some false),
  decide (PySem.W.findIn K (.ref (He.ga K "Bar")) "__ne__" = some (some (.builtin "object.__ne__"))),
  decide (PySem.W.mroIn K (He.ga K "Bar") (.type "object") = some true),
  decide (PySem.W.nsIn K mainGlobals "Web" = some (some (.ref (He.ga K "Web")))),
  PySem.W.plainGet K (He.ga K "Web") Str.empty,
  PySem.W.hasDictIn K (He.ga K "Web"),
  PySem.W.plainOver K (He.ga K "Web"),
  decide (PySem.W.findIn K (.ref (He.ga K "Web")) "__setattr__" = some (some (.builtin "object.__setattr__"))),
  PySem.W.makesIn K (He.ga K "Web"),
  PySem.W.keepIn K (.ref (He.ga K "Web")),
  decide (PySem.W.findIn K (.ref (He.ga K "Web")) "rods" = some none),
  decide (PySem.W.findIn K (.ref (He.ga K "Web")) "bars" = some none),
  decide (PySem.W.findIn K (.ref (He.ga K "Web")) "_held" = some none),
  decide (PySem.W.findIn K (.ref (He.ga K "Web")) "__init__" = some (some (.ref (He.ma K (He.ga K "Web") "__init__")))),
  PySem.W.isFn K (.ref (He.ma K (He.ga K "Web") "__init__")),
  decide (PySem.W.findIn K (.ref (He.ga K "Web")) "held" = some (some (.ref (He.ma K (He.ga K "Web") "held")))),
  PySem.W.isFn K (.ref (He.ma K (He.ga K "Web") "held")),
  decide (PySem.W.findIn K (.ref (He.ga K "Web")) "hanging" = some (some (.ref (He.ma K (He.ga K "Web") "hanging")))),
  PySem.W.isFn K (.ref (He.ma K (He.ga K "Web") "hanging")),
  decide (PySem.W.findIn K (.ref (He.ga K "Web")) "__eq__" = some (some (.ref (He.ma K (He.ga K "Web") "__eq__")))),
  PySem.W.isFn K (.ref (He.ma K (He.ga K "Web") "__eq__")),
  PySem.W.notFirst K (He.ga K "Web") (.type "NoneType"),
  decide (PySem.W.subIn K (.ref (He.ga K "Web")) (.type "NoneType") = some false),
  PySem.W.notFirst K (He.ga K "Web") (.type "bool"),
  decide (PySem.W.subIn K (.ref (He.ga K "Web")) (.type "bool") = some false),
  PySem.W.notFirst K (He.ga K "Web") (.type "int")]
def exL2 (K : PySem.W.Frag) : List Bool := [
  decide (PySem.W.subIn K (.ref (He.ga K "Web")) (.type "int") = some false),
  PySem.W.notFirst K (He.ga K "Web") (.type "str"),
  decide (PySem.W.subIn K (.ref (He.ga K "Web")) (.type "str") = some false),
  PySem.W.notFirst K (He.ga K "Web") (.type "list"),
  decide (PySem.W.subIn K (.ref (He.ga K "Web")) (.type "list") = some false),
  PySem.W.notFirst K (He.ga K "Web") (.type "tuple"),
  decide (PySem.W.subIn K (.ref (He.ga K "Web")) (.type "tuple") = some false),
  PySem.W.notFirst K (He.ga K "Web") (.type "dict"),
  decide (PySem.W.subIn K (.ref (He.ga K "Web")) (.type "dict") = some false),
  decide (PySem.W.findIn K (.ref (He.ga K "Web")) "__ne__" = some (some (.builtin "object.__ne__"))),
  decide (PySem.W.mroIn K (He.ga K "Web") (.type "object") = some true),
  PySem.W.notFirst K (He.ga K "Bar") (.ref (He.ga K "Bar")),
  PySem.W.notFirst K (He.ga K "Bar") (.ref (He.ga K "Web")),
  decide ((He.ga K "Bar") ≠ (He.ga K "Web")),
  PySem.W.notFirst K (He.ga K "Web") (.ref (He.ga K "Bar")),
  PySem.W.notFirst K (He.ga K "Web") (.ref (He.ga K "Web")),
  decide (PySem.W.nsIn K mainGlobals "HooksError" = some (some (.ref (He.ga K "HooksError")))),
  decide (PySem.W.subIn K (.ref (He.ga K "HooksError")) (.type "BaseException") = some true),
  decide (PySem.W.typeIn K (.ref (He.ga K "HooksError")) = some (.type "type")),
  PySem.W.hasDictIn K (He.ga K "HooksError"),
  decide (PySem.W.nsIn K mainGlobals "BadCount" = some (some (.ref (He.ga K "BadCount")))),
  xcB K (He.ga K "BadCount") [.ref (He.ga K "HooksError"), .type "ValueError", .type "Exception", .type "BaseException", .type "object"] "ValueError.__new__",
  decide (PySem.W.findIn K (.ref (He.ga K "BadCount")) "__setattr__" = some (some (.builtin "object.__setattr__"))),
  decide (PySem.W.findIn K (.ref (He.ga K "BadCount")) "__getattribute__" = some (some (.builtin "BaseException.__getattribute__"))),
  decide (PySem.W.findIn K (.ref (He.ga K "BadCount")) "__getattr__" = some none),
  PySem.W.keepIn K (.ref (He.ga K "BadCount")),
  decide (PySem.W.subIn K (.ref (He.ga K "BadCount")) (.type "BaseException") = some true),
  decide (PySem.W.typeIn K (.ref (He.ga K "BadCount")) = some (.type "type")),
  PySem.W.hasDictIn K (He.ga K "BadCount"),
  decide (PySem.W.findIn K (.ref (He.ga K "BadCount")) "__class__" = some (some (.builtin "object.__class__"))),
  decide (PySem.W.mroIn K (He.ga K "BadCount") (.type "object") = some true),
  decide (PySem.W.subIn K (.ref (He.ga K "BadCount")) (.ref (He.ga K "HooksError")) = some true),
  decide (PySem.W.findIn K (.ref (He.ga K "BadCount")) "__init__" = some (some (.ref (He.ma K (He.ga K "BadCount") "__init__")))),
  decide (PySem.W.typeIn K (.ref (He.ma K (He.ga K "BadCount") "__init__")) = some (.type "function")),
  decide (PySem.W.findIn K (.ref (He.ga K "BadCount")) "what" = some none),
  decide (PySem.W.findIn K (.ref (He.ga K "BadCount")) "count" = some none),
  decide (PySem.W.nsIn K mainGlobals "NoRod" = some (some (.ref (He.ga K "NoRod")))),
  xcB K (He.ga K "NoRod") [.ref (He.ga K "HooksError"), .type "ValueError", .type "Exception", .type "BaseException", .type "object"] "ValueError.__new__",
  decide (PySem.W.findIn K (.ref (He.ga K "NoRod")) "__setattr__" = some (some (.builtin "object.__setattr__"))),
  decide (PySem.W.findIn K (.ref (He.ga K "NoRod")) "__getattribute__" = some (some (.builtin "BaseException.__getattribute__")))]
def exL3 (K : PySem.W.Frag) : List Bool := [
  decide (PySem.W.findIn K (.ref (He.ga K "NoRod")) "__getattr__" = some none),
  PySem.W.keepIn K (.ref (He.ga K "NoRod")),
  decide (PySem.W.subIn K (.ref (He.ga K "NoRod")) (.type "BaseException") = some true),
  decide (PySem.W.typeIn K (.ref (He.ga K "NoRod")) = some (.type "type")),
  PySem.W.hasDictIn K (He.ga K "NoRod"),
  decide (PySem.W.findIn K (.ref (He.ga K "NoRod")) "__class__" = some (some (.builtin "object.__class__"))),
  decide (PySem.W.mroIn K (He.ga K "NoRod") (.type "object") = some true),
  decide (PySem.W.subIn K (.ref (He.ga K "NoRod")) (.ref (He.ga K "HooksError")) = some true),
  decide (PySem.W.findIn K (.ref (He.ga K "NoRod")) "__init__" = some (some (.ref (He.ma K (He.ga K "NoRod") "__init__")))),
  decide (PySem.W.typeIn K (.ref (He.ma K (He.ga K "NoRod") "__init__")) = some (.type "function")),
  decide (PySem.W.findIn K (.ref (He.ga K "NoRod")) "rod" = some none),
  decide (PySem.W.nsIn K mainGlobals "SameRod" = some (some (.ref (He.ga K "SameRod")))),
  xcB K (He.ga K "SameRod") [.ref (He.ga K "HooksError"), .type "ValueError", .type "Exception", .type "BaseException", .type "object"] "ValueError.__new__",
  decide (PySem.W.findIn K (.ref (He.ga K "SameRod")) "__setattr__" = some (some (.builtin "object.__setattr__"))),
  decide (PySem.W.findIn K (.ref (He.ga K "SameRod")) "__getattribute__" = some (some (.builtin "BaseException.__getattribute__"))),
  decide (PySem.W.findIn K (.ref (He.ga K "SameRod")) "__getattr__" = some none),
  PySem.W.keepIn K (.ref (He.ga K "SameRod")),
  decide (PySem.W.subIn K (.ref (He.ga K "SameRod")) (.type "BaseException") = some true),
  decide (PySem.W.typeIn K (.ref (He.ga K "SameRod")) = some (.type "type")),
  PySem.W.hasDictIn K (He.ga K "SameRod"),
  decide (PySem.W.findIn K (.ref (He.ga K "SameRod")) "__class__" = some (some (.builtin "object.__class__"))),
  decide (PySem.W.mroIn K (He.ga K "SameRod") (.type "object") = some true),
  decide (PySem.W.subIn K (.ref (He.ga K "SameRod")) (.ref (He.ga K "HooksError")) = some true),
  decide (PySem.W.findIn K (.ref (He.ga K "SameRod")) "__init__" = some (some (.ref (He.ma K (He.ga K "SameRod") "__init__")))),
  decide (PySem.W.typeIn K (.ref (He.ma K (He.ga K "SameRod") "__init__")) = some (.type "function")),
  decide (PySem.W.findIn K (.ref (He.ga K "SameRod")) "rod" = some none),
  decide (PySem.W.nsIn K mainGlobals "BadSpan" = some (some (.ref (He.ga K "BadSpan")))),
  xcB K (He.ga K "BadSpan") [.ref (He.ga K "HooksError"), .type "ValueError", .type "Exception", .type "BaseException", .type "object"] "ValueError.__new__",
  decide (PySem.W.findIn K (.ref (He.ga K "BadSpan")) "__setattr__" = some (some (.builtin "object.__setattr__"))),
  decide (PySem.W.findIn K (.ref (He.ga K "BadSpan")) "__getattribute__" = some (some (.builtin "BaseException.__getattribute__"))),
  decide (PySem.W.findIn K (.ref (He.ga K "BadSpan")) "__getattr__" = some none),
  PySem.W.keepIn K (.ref (He.ga K "BadSpan")),
  decide (PySem.W.subIn K (.ref (He.ga K "BadSpan")) (.type "BaseException") = some true),
  decide (PySem.W.typeIn K (.ref (He.ga K "BadSpan")) = some (.type "type")),
  PySem.W.hasDictIn K (He.ga K "BadSpan"),
  decide (PySem.W.findIn K (.ref (He.ga K "BadSpan")) "__class__" = some (some (.builtin "object.__class__"))),
  decide (PySem.W.mroIn K (He.ga K "BadSpan") (.type "object") = some true),
  decide (PySem.W.subIn K (.ref (He.ga K "BadSpan")) (.ref (He.ga K "HooksError")) = some true),
  decide (PySem.W.findIn K (.ref (He.ga K "BadSpan")) "__init__" = some (some (.ref (He.ma K (He.ga K "BadSpan") "__init__")))),
  decide (PySem.W.typeIn K (.ref (He.ma K (He.ga K "BadSpan") "__init__")) = some (.type "function"))]
def exL4 (K : PySem.W.Frag) : List Bool := [
  decide (PySem.W.findIn K (.ref (He.ga K "BadSpan")) "bar" = some none),
  decide (PySem.W.nsIn K mainGlobals "NotSquare" = some (some (.ref (He.ga K "NotSquare")))),
  xcB K (He.ga K "NotSquare") [.ref (He.ga K "HooksError"), .type "ValueError", .type "Exception", .type "BaseException", .type "object"] "ValueError.__new__",
  decide (PySem.W.findIn K (.ref (He.ga K "NotSquare")) "__setattr__" = some (some (.builtin "object.__setattr__"))),
  decide (PySem.W.findIn K (.ref (He.ga K "NotSquare")) "__getattribute__" = some (some (.builtin "BaseException.__getattribute__"))),
  decide (PySem.W.findIn K (.ref (He.ga K "NotSquare")) "__getattr__" = some none),
  PySem.W.keepIn K (.ref (He.ga K "NotSquare")),
  decide (PySem.W.subIn K (.ref (He.ga K "NotSquare")) (.type "BaseException") = some true),
  decide (PySem.W.typeIn K (.ref (He.ga K "NotSquare")) = some (.type "type")),
  PySem.W.hasDictIn K (He.ga K "NotSquare"),
  decide (PySem.W.findIn K (.ref (He.ga K "NotSquare")) "__class__" = some (some (.builtin "object.__class__"))),
  decide (PySem.W.mroIn K (He.ga K "NotSquare") (.type "object") = some true),
  decide (PySem.W.subIn K (.ref (He.ga K "NotSquare")) (.ref (He.ga K "HooksError")) = some true),
  decide (PySem.W.findIn K (.ref (He.ga K "NotSquare")) "__init__" = some (some (.ref (He.ma K (He.ga K "NotSquare") "__init__")))),
  decide (PySem.W.typeIn K (.ref (He.ma K (He.ga K "NotSquare") "__init__")) = some (.type "function")),
  decide (PySem.W.findIn K (.ref (He.ga K "NotSquare")) "bars" = some none),
  decide (PySem.W.findIn K (.ref (He.ga K "NotSquare")) "wanted" = some none),
  decide (PySem.W.nsIn K mainGlobals "NotHeld" = some (some (.ref (He.ga K "NotHeld")))),
  xcB K (He.ga K "NotHeld") [.ref (He.ga K "HooksError"), .type "ValueError", .type "Exception", .type "BaseException", .type "object"] "ValueError.__new__",
  decide (PySem.W.findIn K (.ref (He.ga K "NotHeld")) "__setattr__" = some (some (.builtin "object.__setattr__"))),
  decide (PySem.W.findIn K (.ref (He.ga K "NotHeld")) "__getattribute__" = some (some (.builtin "BaseException.__getattribute__"))),
  decide (PySem.W.findIn K (.ref (He.ga K "NotHeld")) "__getattr__" = some none),
  PySem.W.keepIn K (.ref (He.ga K "NotHeld")),
  decide (PySem.W.subIn K (.ref (He.ga K "NotHeld")) (.type "BaseException") = some true),
  decide (PySem.W.typeIn K (.ref (He.ga K "NotHeld")) = some (.type "type")),
  PySem.W.hasDictIn K (He.ga K "NotHeld"),
  decide (PySem.W.findIn K (.ref (He.ga K "NotHeld")) "__class__" = some (some (.builtin "object.__class__"))),
  decide (PySem.W.mroIn K (He.ga K "NotHeld") (.type "object") = some true),
  decide (PySem.W.subIn K (.ref (He.ga K "NotHeld")) (.ref (He.ga K "HooksError")) = some true),
  decide (PySem.W.findIn K (.ref (He.ga K "NotHeld")) "__init__" = some (some (.ref (He.ma K (He.ga K "NotHeld") "__init__")))),
  decide (PySem.W.typeIn K (.ref (He.ma K (He.ga K "NotHeld") "__init__")) = some (.type "function")),
  decide (PySem.W.findIn K (.ref (He.ga K "NotHeld")) "rod" = some none),
  decide ((He.ga K "BadCount") ≠ (He.ga K "NotHeld")),
  decide (PySem.W.subIn K (.ref (He.ga K "BadCount")) (.ref (He.ga K "NotHeld")) = some false),
  decide ((He.ga K "NotHeld") ≠ (He.ga K "BadCount")),
  decide (PySem.W.subIn K (.ref (He.ga K "NotHeld")) (.ref (He.ga K "BadCount")) = some false),
  decide (PySem.W.nsIn K mainGlobals "abs" = some none),
  decide (PySem.W.nsIn K mainGlobals "len" = some none),
  decide (PySem.W.nsIn K mainGlobals "range" = some none),
  decide (PySem.W.nsIn K mainGlobals "tuple" = some none)]
def exL5 (K : PySem.W.Frag) : List Bool := [
  decide (PySem.W.nsIn K mainGlobals "list" = some none),
  decide (PySem.W.nsIn K mainGlobals "dict" = some none),
  decide (PySem.W.nsIn K mainGlobals "sorted" = some none),
  decide (PySem.W.nsIn K mainGlobals "enumerate" = some none),
  decide (PySem.W.nsIn K mainGlobals "zip" = some none),
  decide (PySem.W.nsIn K mainGlobals "min" = some none),
  decide (PySem.W.nsIn K mainGlobals "max" = some none),
  decide (PySem.W.nsIn K mainGlobals "int" = some none),
  decide (PySem.W.nsIn K mainGlobals "isinstance" = some none),
  decide (PySem.W.nsIn K mainGlobals "type" = some none),
  decide (PySem.W.nsIn K mainGlobals "sum" = some none),
  decide (PySem.W.nsIn K mainGlobals "gcd" = some (some (.builtin "math.gcd"))),
  intB K "LEAST_RODS" 3,
  intB K "MOST_RODS" 10,
  intB K "MOST_BARS" 8,
  intB K "MOST_HEIGHT" 1000000,
  intB K "MOST_LENGTH" 1000000]
def exK (K : PySem.W.Frag) : Bool := [(exL0 K).all id, (exL1 K).all id, (exL2 K).all id, (exL3 K).all id, (exL4 K).all id, (exL5 K).all id].all id
def dH_divisor : He.DefD := ⟨("divisor", none), "divisor", "divisor", defArgs s_divisor, defBody s_divisor, defScope s_divisor, [], []⟩
def dH_lowest : He.DefD := ⟨("lowest", none), "lowest", "lowest", defArgs s_lowest, defBody s_lowest, defScope s_lowest, [], []⟩
def dH_fraction : He.DefD := ⟨("fraction", none), "fraction", "fraction", defArgs s_fraction, defBody s_fraction, defScope s_fraction, [], []⟩
def dH_led : He.DefD := ⟨("led", none), "led", "led", defArgs s_led, defBody s_led, defScope s_led, [], [("parts", He.Dv.int 1)]⟩
def dH_check_heights : He.DefD := ⟨("_check_heights", none), "_check_heights", "_check_heights", defArgs s_check_heights, defBody s_check_heights, defScope s_check_heights, [], []⟩
def dH_led_bar : He.DefD := ⟨("_led_bar", none), "_led_bar", "_led_bar", defArgs s_led_bar, defBody s_led_bar, defScope s_led_bar, [], []⟩
def dH_check_rods : He.DefD := ⟨("_check_rods", none), "_check_rods", "_check_rods", defArgs s_check_rods, defBody s_check_rods, defScope s_check_rods, [], []⟩
def dH_check_bars : He.DefD := ⟨("_check_bars", none), "_check_bars", "_check_bars", defArgs s_check_bars, defBody s_check_bars, defScope s_check_bars, [], []⟩
def dH_check_bar : He.DefD := ⟨("_check_bar", none), "_check_bar", "_check_bar", defArgs s_check_bar, defBody s_check_bar, defScope s_check_bar, [], []⟩
def dH_l_well : He.DefD := ⟨("_law_well", none), "_law_well", "_law_well", defArgs s_l_well, defBody s_l_well, defScope s_l_well, [], []⟩
def dH_l_draw : He.DefD := ⟨("_law_draw", none), "_law_draw", "_law_draw", defArgs s_l_draw, defBody s_l_draw, defScope s_l_draw, [], []⟩
def dH_l_one : He.DefD := ⟨("_law_one", none), "_law_one", "_law_one", defArgs s_l_one, defBody s_l_one, defScope s_l_one, [], []⟩
def dH_l_mixed : He.DefD := ⟨("_law_mixed", none), "_law_mixed", "_law_mixed", defArgs s_l_mixed, defBody s_l_mixed, defScope s_l_mixed, [], []⟩
def dH_l_bar_fact : He.DefD := ⟨("_law_bar_fact", none), "_law_bar_fact", "_law_bar_fact", defArgs s_l_bar_fact, defBody s_l_bar_fact, defScope s_l_bar_fact, [], []⟩
def dH_l_any : He.DefD := ⟨("_law_any", none), "_law_any", "_law_any", defArgs s_l_any, defBody s_l_any, defScope s_l_any, [], []⟩
def dH_l_web : He.DefD := ⟨("_law_web", none), "_law_web", "_law_web", defArgs s_l_web, defBody s_l_web, defScope s_l_web, [], []⟩
def dH_l_common : He.DefD := ⟨("_law_common", none), "_law_common", "_law_common", defArgs s_l_common, defBody s_l_common, defScope s_l_common, [], []⟩
def dH_l_height : He.DefD := ⟨("_law_height", none), "_law_height", "_law_height", defArgs s_l_height, defBody s_l_height, defScope s_l_height, [], []⟩
def dH_l_seen : He.DefD := ⟨("_law_seen", none), "_law_seen", "_law_seen", defArgs s_l_seen, defBody s_l_seen, defScope s_l_seen, [], []⟩
def dH_l_due : He.DefD := ⟨("_law_due", none), "_law_due", "_law_due", defArgs s_l_due, defBody s_l_due, defScope s_l_due, [], []⟩
def dH_l_said : He.DefD := ⟨("_law_said", none), "_law_said", "_law_said", defArgs s_l_said, defBody s_l_said, defScope s_l_said, [], []⟩
def dH_law : He.DefD := ⟨("law", none), "law", "law", defArgs s_law, defBody s_law, defScope s_law, [], []⟩
def dH_Bar_init : He.DefD := ⟨("Bar", some "__init__"), "__init__", "Bar.__init__", defArgs s_Bar_init, defBody s_Bar_init, defScope s_Bar_init, [], []⟩
def dH_Bar_eq : He.DefD := ⟨("Bar", some "__eq__"), "__eq__", "Bar.__eq__", defArgs s_Bar_eq, defBody s_Bar_eq, defScope s_Bar_eq, [], []⟩
def dH_Web_init : He.DefD := ⟨("Web", some "__init__"), "__init__", "Web.__init__", defArgs s_Web_init, defBody s_Web_init, defScope s_Web_init, [], []⟩
def dH_Web_held : He.DefD := ⟨("Web", some "held"), "held", "Web.held", defArgs s_Web_held, defBody s_Web_held, defScope s_Web_held, [], []⟩
def dH_Web_hanging : He.DefD := ⟨("Web", some "hanging"), "hanging", "Web.hanging", defArgs s_Web_hanging, defBody s_Web_hanging, defScope s_Web_hanging, [], []⟩
def dH_Web_eq : He.DefD := ⟨("Web", some "__eq__"), "__eq__", "Web.__eq__", defArgs s_Web_eq, defBody s_Web_eq, defScope s_Web_eq, [], []⟩
def dH_BadCount_init : He.DefD := ⟨("BadCount", some "__init__"), "__init__", "BadCount.__init__", defArgs s_BadCount_init, defBody s_BadCount_init, defScope s_BadCount_init, [], []⟩
def dH_NoRod_init : He.DefD := ⟨("NoRod", some "__init__"), "__init__", "NoRod.__init__", defArgs s_NoRod_init, defBody s_NoRod_init, defScope s_NoRod_init, [], []⟩
def dH_SameRod_init : He.DefD := ⟨("SameRod", some "__init__"), "__init__", "SameRod.__init__", defArgs s_SameRod_init, defBody s_SameRod_init, defScope s_SameRod_init, [], []⟩
def dH_BadSpan_init : He.DefD := ⟨("BadSpan", some "__init__"), "__init__", "BadSpan.__init__", defArgs s_BadSpan_init, defBody s_BadSpan_init, defScope s_BadSpan_init, [], []⟩
def dH_NotSquare_init : He.DefD := ⟨("NotSquare", some "__init__"), "__init__", "NotSquare.__init__", defArgs s_NotSquare_init, defBody s_NotSquare_init, defScope s_NotSquare_init, [], []⟩
def dH_NotHeld_init : He.DefD := ⟨("NotHeld", some "__init__"), "__init__", "NotHeld.__init__", defArgs s_NotHeld_init, defBody s_NotHeld_init, defScope s_NotHeld_init, [], []⟩
def dL0 : List He.DefD := [dH_divisor, dH_lowest, dH_fraction, dH_led, dH_check_heights, dH_led_bar, dH_check_rods, dH_check_bars, dH_check_bar, dH_l_well, dH_l_draw, dH_l_one, dH_l_mixed, dH_l_bar_fact, dH_l_any, dH_l_web, dH_l_common, dH_l_height, dH_l_seen, dH_l_due, dH_l_said, dH_law, dH_Bar_init, dH_Bar_eq, dH_Web_init, dH_Web_held, dH_Web_hanging, dH_Web_eq, dH_BadCount_init, dH_NoRod_init, dH_SameRod_init, dH_BadSpan_init, dH_NotSquare_init, dH_NotHeld_init]
def fnH : List He.DefD := dL0
def faH : List He.Fa := []
def lo0 : List Str := ["HooksError", "BadCount", "NoRod", "SameRod", "BadSpan", "NotSquare", "NotHeld", "divisor", "lowest", "fraction", "led", "_check_heights", "_led_bar", "LEAST_RODS", "MOST_RODS", "MOST_BARS", "MOST_HEIGHT", "MOST_LENGTH", "Bar", "Web", "_check_rods", "_check_bars", "_check_bar", "_law_well", "_law_draw", "_law_one", "_law_mixed", "_law_bar_fact", "_law_any", "_law_web"]
def lo1 : List Str := ["_law_common", "_law_height", "_law_seen", "_law_due", "_law_said"]
def loH : List Str := lo0 ++ lo1
abbrev RH : PySem.W.OpenRow := PySem.W.OpenLaw.row PySem.Challenge.rw_hookspans_k07_hooks_led_back_from_any_he
abbrev qH : Program := PySem.W.view RH.prog [0, 41]
def ad0 : List Addr := [0, 3, 4, 6, 50, 51, 52, 53, 63, 64, 65, 66, 67, 68, 69, 70, 71, 72, 73, 74, 75, 76, 77, 78, 79, 89, 90, 91, 92, 93, 94, 95, 96, 97, 98, 99, 100, 101, 102, 103]
def ad1 : List Addr := [104, 105, 115, 116, 117, 118, 119, 120, 121, 122, 123, 124, 125, 126, 127, 128, 129, 130, 131, 141, 142, 143, 144, 145, 146, 147, 148, 149, 150, 151, 152, 153, 154, 155, 156, 157, 167, 168, 169, 170]
def ad2 : List Addr := [171, 172, 173, 174, 175, 176, 177, 178, 179, 180, 181, 182, 183, 193, 194, 195, 196, 197, 198, 199, 200, 201, 202, 203, 204, 205, 206, 207, 208, 209, 212, 213, 214, 215, 216, 217, 218, 219, 220, 221]
def ad3 : List Addr := [222, 223, 224, 225, 226, 227, 228, 229, 230, 231, 232, 233, 234, 235, 236, 237, 238, 239, 240, 241, 242, 243, 244, 245, 246, 247, 248, 249, 250, 258, 259, 260, 261, 262, 263, 264, 265, 266, 267, 268]
def ad4 : List Addr := [269, 270, 271, 272, 273, 274, 275, 276, 286, 287, 288, 289, 290, 291, 292, 293, 294, 295, 296, 297, 298, 299, 300, 301, 302, 303, 304, 305, 306, 307, 308, 309, 310, 311, 312, 313, 314, 317, 318, 319]
def ad5 : List Addr := [320, 321, 322, 323, 324, 325, 326, 327, 328, 329, 330, 331, 332, 333, 334, 335, 336, 337, 338, 339, 340, 341, 342, 343, 344, 345, 346, 347, 348, 349, 350, 351, 352, 353, 354, 355, 356, 357, 358, 359]
def ad6 : List Addr := [360, 361, 362, 363, 364, 365, 366, 367, 368, 369, 370, 371, 372, 373, 374, 375, 376, 377, 378, 379, 380, 381, 382, 383, 384, 385, 386, 387, 388, 389, 390, 391, 392, 393, 394, 395, 396, 397, 398, 399]
def ad7 : List Addr := [400, 401, 402, 403, 404, 405, 406, 407, 408, 409, 410, 411, 412, 413, 414, 415, 416, 417, 418, 419, 420]
def adH : List Addr := ad0 ++ ad1 ++ ad2 ++ ad3 ++ ad4 ++ ad5 ++ ad6 ++ ad7
def tfH : List He.Defn := [("law", none)]
def exT (K : PySem.W.Frag) : Bool := (exK K && Hk.nameB K "law")
abbrev hkH : PySem.W.Hook := Hk.hookT adH faH fnH tfH exT
def obH (s : PySem.W.SharedT) : He.AlX := Hk.seeT adH faH fnH tfH exT (HandSHeadRun.getT s)
theorem obH_eq (s : PySem.W.SharedT) : obH s = hkH.obs s.abs := Hk.seeT_eq (HandSHeadRun.getT_eq s)
open PySem.W PySem.W.Fast HandSHeadRun in
theorem runA (w : World) : (wholeF (fun p => stepQ (denQ tabQ) p w) fenceQ 9000 RH.prog).map (fun x => (looksF RH.prog x.1.heap x.2.abs, seenQ qH loH (importedModules RH.prog.main.body) (fun s => xlAt qH [] s && recOk RH.toRowW.records s) x.2.abs)) = some (true, openGood qH loH) := by
  kernel_rfl
open PySem.W PySem.W.Fast HandSHeadRun in
theorem runB (w : World) : (wholeF (fun p => stepQ (denQ tabQ) p w) fenceQ 9000 RH.prog).map (fun x => obH x.2) = some (hkH.val w) := by
  kernel_rfl
theorem map_two {α β γ δ : Type} {m : Option α} {f1 : α → β} {f2 : α → γ} {g : α → δ} {b : β} {c : γ} {d : δ} (h1 : m.map (fun x => (f1 x, f2 x)) = some (b, c)) (h2 : m.map g = some d) : m.map (fun x => (f1 x, f2 x, g x)) = some (b, c, d) := by
  cases m with
  | none => cases h1
  | some x =>
    have e1 : (f1 x, f2 x) = (b, c) := Option.some.inj h1
    have e2 : g x = d := Option.some.inj h2
    show some (f1 x, f2 x, g x) = _
    rw [e2, show f1 x = b from congrArg Prod.fst e1, show f2 x = c from congrArg Prod.snd e1]
theorem runH (w : World) : HandSHeadRun.RunEqI RH qH hkH obH 9000 loH w := by
  unfold HandSHeadRun.RunEqI
  exact map_two (runA w) (runB w)
end K07
namespace L2
open PySem PySem.Spec PyProof.Rows LamX
section
variable {P : Program} {w : World} {K : PySem.W.Frag} {mg : Str → Option Value} {base : Heap}
theorem Fun.okXc {x qual : Str} {st : Stmt} {f : Addr} {fd : FuncData} {N ps : List Str} {k : Nat} {sp : Sp} (F : Fun K x qual st f fd) (S : FnScope N ps (defScope st)) (len : ∀ vs H Q E, sp vs H Q E → vs.length = ps.length)
    (hbody : ∀ (A : Around) (outer : List Env) (s : Shared) (H : Hp) (vs : List V) (Q : VK) (E : XK), Room k (A.deeper (envOfC qual (defScope st) s.heap.objs.size f fd.code)) → sp vs H Q E →
      ∃ t, PSs (cxOf (L2.CX P w) P w K mg base N qual (defScope st) f fd.code A outer s H E) (defBody st) t ∧ t { nx := fun _ H' => Q .non H', rt := Q } (start N vs) H) : FnOk P w K mg base (L2.CX P w) (k + 1) f fd ps sp := by
  obtain ⟨oc, od, kV, doc, pm, an, cdv, ct, osl, rfl, lk, hcd⟩ := F.ex
  exact fn_of lk hcd S len fun A outer s H vs Q E hr hsp => hbody A outer s H vs Q E hr hsp
end
/-- all but p and the tables stay -/
def DN (p : Addr) (H H' : Hp) : Prop := ∀ b o, b ≠ p → H b = some o → (∀ ps, o ≠ .tbl ps) → H' b = some o
theorem DN.rfl' {p : Addr} {H : Hp} : DN p H H := fun _ _ _ h _ => h
theorem DN.trans {p : Addr} {H H1 H2 : Hp} (a : DN p H H1) (b : DN p H1 H2) : DN p H H2 := fun c o n h z => b c o n (a c o n h z) z
theorem DN.of {p : Addr} {H H' : Hp} (e : Ext H H') : DN p H H' := fun b o _ h _ => e b o h
theorem DN.de {p : Addr} {H H' : Hp} (e : DE p H H') : DN p H H' := fun b o n h _ => e.to h n
theorem DN.lst {p q : Addr} {H H' : Hp} {l : List V} (e : DN p H H') (h : H q = some (.lst l)) (n : q ≠ p) : H' q = some (.lst l) := e q _ n h fun _ z => by cases z
theorem tabs_ne {T : List (Addr × Str)} {H : Hp} {p : Addr × Str} {q : Addr} {l : List V} (t : Tabs T H) (hp : p ∈ T) (h : H q = some (.lst l)) : p.1 ≠ q := fun z => by
  obtain ⟨ps, h1, _⟩ := t p hp
  rw [z, h] at h1
  cases h1
/-- the tables are kept by what keeps all but a list -/
theorem tabs_keep {T : List (Addr × Str)} {H H' : Hp} {q : Addr} {l : List V} (t : Tabs T H) (h : H q = some (.lst l)) (e : ∀ b o, b ≠ q → H b = some o → H' b = some o) : Tabs T H' := fun p hp => by
  have n := tabs_ne t hp h
  obtain ⟨ps, h1, h2, h3⟩ := t p hp
  refine ⟨ps, e _ _ n h1, h2, fun pos cv hc => ?_⟩
  obtain ⟨c, e1, e2⟩ := h3 pos cv hc
  exact ⟨c, e1, e c _ (fun z => by
    rw [z, h] at e2
    unfold CodeO at e2
    cases e2) e2⟩
theorem tabs_de {T : List (Addr × Str)} {H H' : Hp} {q : Addr} {l : List V} (t : Tabs T H) (h : H q = some (.lst l)) (e : DE q H H') : Tabs T H' := tabs_keep t h fun b o n z => e.to z n
theorem tabs_upd {T : List (Addr × Str)} {H : Hp} {q : Addr} {l : List V} {o : HO} (t : Tabs T H) (h : H q = some (.lst l)) : Tabs T (L2.upd H q o) := tabs_keep t h fun b o n z => by rw [upd_ne n]; exact z
theorem SqT.extN {K : PySem.W.Frag} {H H' : Hp} {a : Addr} {xs : List V} (e : ExtN H H') (s : SqT K H a xs) : SqT K H' a xs := by
  rcases s with (r | ⟨o, r⟩) | r
  · exact .inl (.inl (e _ _ r fun _ z => by cases z))
  · exact .inl (.inr ⟨o, e _ _ r fun _ z => by cases z⟩)
  · exact .inr r
theorem SqL.extN {K : PySem.W.Frag} {H H' : Hp} {a : Addr} {xs : List V} (e : ExtN H H') (s : SqL K H a xs) : SqL K H' a xs := by
  rcases s with (r | ⟨o, r⟩) | r
  · exact .inl (.inl (e _ _ r fun _ z => by cases z))
  · exact .inl (.inr ⟨o, e _ _ r fun _ z => by cases z⟩)
  · exact .inr r
mutual
theorem Is.extN {K : PySem.W.Frag} {H H' : Hp} (e : ExtN H H') : ∀ {d : Dt} {v : V}, Is K H d v → Is K H' d v
  | .non, _, h => h
  | .bl _, _, h => h
  | .int _, _, h => h
  | .str _, _, h => h
  | .lst _, _, ⟨a, xs, h1, h2, h3⟩ => ⟨a, xs, h1, h2.extN e, IsL.extN e h3⟩
  | .tup _, _, ⟨a, xs, h1, h2, h3⟩ => ⟨a, xs, h1, h2.extN e, IsL.extN e h3⟩
  | .dic _ _, _, ⟨a, kvs, h1, h2, h3, h4⟩ => ⟨a, kvs, h1, e _ _ h2 (fun _ z => by cases z), h3, IsL.extN e h4⟩
  | .ins _ _ _, _, ⟨a, dx, kvs, h1, h2, h3, h4⟩ => ⟨a, dx, kvs, h1, e _ _ h2 (fun _ z => by cases z), h3, IsL.extN e h4⟩
theorem IsL.extN {K : PySem.W.Frag} {H H' : Hp} (e : ExtN H H') : ∀ {ds : List Dt} {vs : List V}, IsL K H ds vs → IsL K H' ds vs
  | [], _, h => h
  | _ :: _, _, ⟨v, r, h1, h2, h3⟩ => ⟨v, r, h1, Is.extN e h2, IsL.extN e h3⟩
end
end L2
namespace Hk
open PySem
/-- a def's code object, as its table is told -/
theorem code_of {K : PySem.W.Frag} {hp : Heap} {mg : Str → Option Value} (KX : K.In hp) (G : hp.Ns mainGlobals mg) {x : Str} {st : Stmt} {a : Addr} {fd : FuncData} (nb : nameB K x = true) (hm : mg x = some (.ref a)) (F : L2.Fun K x x st a fd) : fd.code = .ref (He.cT K (x, none)).1 := by
  have ea : a = He.ga K x := by
    have z := hm.symm.trans (PySem.W.mg_of KX G (of_decide_eq_true nb))
    exact Value.ref.inj (Option.some.inj z)
  obtain ⟨oc, od, kV, doc, pm, an, cdv, ct, osl, ef, lk, hc⟩ := F.ex
  obtain ⟨c, rfl⟩ := He.codeIn_ref hc
  have e : fd.code = .ref c := by rw [ef]
  rw [e]
  congr 1
  exact (He.codeOf_eq (p := (x, none)) (show K.lookup (He.fAd K (x, none)) = some ⟨oc, od, .func fd, osl⟩ by rw [← lk, ea]; rfl) e).symm
end Hk
namespace K07
open PySem L2
section
variable {P : Program} {w : World} {K : PySem.W.Frag} {mg : Str → Option Value} {base : Heap}
def fo1 (f : Str) : List V → List (Str × V) := fun ws => match ws with | [x] => [(f, x)] | _ => []
def fo2 (f g : Str) : List V → List (Str × V) := fun ws => match ws with | [x, y] => [(g, y), (f, x)] | _ => []
theorem ok_BadCount_init (T : Tx K mg) : FnOk P w K mg base CX0 1 T.a_BadCount_init T.fd_BadCount_init ["self", "what", "count"] (spX T.C_BadCount 2 (fo2 "what" "count")) := by
  refine T.F_BadCount_init.ok sc_BadCount_init (fun vs H Q E h => ?_) (fun cdv A outer s H vs Q E hr h => ?_)
  · obtain ⟨H0, a, ws, rfl, hn, _⟩ := h
    rw [List.length_cons, hn] <;> rfl
  · obtain ⟨H0, a, ws, rfl, hn, ha, rfl, k⟩ := h
    match ws, hn with
    | [x, y], _ =>
      refine ⟨_, pss_cons (ps_ost (pv 0) (pv 1)) (pss_one (ps_ost (pv 0) (pv 2))), ?_⟩
      refine ⟨_, rfl, _, rfl, a, T.C_BadCount, rfl, T.O_BadCount, T.nf_BadCount_what, .inl ⟨upd_same, fun d hd hda => ?_⟩⟩
      rw [upd_ne hda] at hd
      rw [exo1 hda]
      refine ⟨_, rfl, _, rfl, a, T.C_BadCount, rfl, T.O_BadCount, T.nf_BadCount_count, .inr ⟨d, _, upd_same, by rw [upd_ne hda, upd_same], by show 1 ≤ 900; decide, ?_⟩⟩
      rw [exo2 hda]
      exact k d hd hda
theorem ok_NotSquare_init (T : Tx K mg) : FnOk P w K mg base CX0 1 T.a_NotSquare_init T.fd_NotSquare_init ["self", "bars", "wanted"] (spX T.C_NotSquare 2 (fo2 "bars" "wanted")) := by
  refine T.F_NotSquare_init.ok sc_NotSquare_init (fun vs H Q E h => ?_) (fun cdv A outer s H vs Q E hr h => ?_)
  · obtain ⟨H0, a, ws, rfl, hn, _⟩ := h
    rw [List.length_cons, hn] <;> rfl
  · obtain ⟨H0, a, ws, rfl, hn, ha, rfl, k⟩ := h
    match ws, hn with
    | [x, y], _ =>
      refine ⟨_, pss_cons (ps_ost (pv 0) (pv 1)) (pss_one (ps_ost (pv 0) (pv 2))), ?_⟩
      refine ⟨_, rfl, _, rfl, a, T.C_NotSquare, rfl, T.O_NotSquare, T.nf_NotSquare_bars, .inl ⟨upd_same, fun d hd hda => ?_⟩⟩
      rw [upd_ne hda] at hd
      rw [exo1 hda]
      refine ⟨_, rfl, _, rfl, a, T.C_NotSquare, rfl, T.O_NotSquare, T.nf_NotSquare_wanted, .inr ⟨d, _, upd_same, by rw [upd_ne hda, upd_same], by show 1 ≤ 900; decide, ?_⟩⟩
      rw [exo2 hda]
      exact k d hd hda
theorem ok_NoRod_init (T : Tx K mg) : FnOk P w K mg base CX0 1 T.a_NoRod_init T.fd_NoRod_init ["self", "rod"] (spX T.C_NoRod 1 (fo1 "rod")) := by
  refine T.F_NoRod_init.ok sc_NoRod_init (fun vs H Q E h => ?_) (fun cdv A outer s H vs Q E hr h => ?_)
  · obtain ⟨H0, a, ws, rfl, hn, _⟩ := h
    rw [List.length_cons, hn] <;> rfl
  · obtain ⟨H0, a, ws, rfl, hn, ha, rfl, k⟩ := h
    match ws, hn with
    | [x], _ =>
      refine ⟨_, pss_one (ps_ost (pv 0) (pv 1)), ?_⟩
      refine ⟨_, rfl, _, rfl, a, T.C_NoRod, rfl, T.O_NoRod, T.nf_NoRod_rod, .inl ⟨upd_same, fun d hd hda => ?_⟩⟩
      rw [upd_ne hda] at hd
      rw [exo1 hda]
      exact k d hd hda
theorem ok_SameRod_init (T : Tx K mg) : FnOk P w K mg base CX0 1 T.a_SameRod_init T.fd_SameRod_init ["self", "rod"] (spX T.C_SameRod 1 (fo1 "rod")) := by
  refine T.F_SameRod_init.ok sc_SameRod_init (fun vs H Q E h => ?_) (fun cdv A outer s H vs Q E hr h => ?_)
  · obtain ⟨H0, a, ws, rfl, hn, _⟩ := h
    rw [List.length_cons, hn] <;> rfl
  · obtain ⟨H0, a, ws, rfl, hn, ha, rfl, k⟩ := h
    match ws, hn with
    | [x], _ =>
      refine ⟨_, pss_one (ps_ost (pv 0) (pv 1)), ?_⟩
      refine ⟨_, rfl, _, rfl, a, T.C_SameRod, rfl, T.O_SameRod, T.nf_SameRod_rod, .inl ⟨upd_same, fun d hd hda => ?_⟩⟩
      rw [upd_ne hda] at hd
      rw [exo1 hda]
      exact k d hd hda
theorem ok_BadSpan_init (T : Tx K mg) : FnOk P w K mg base CX0 1 T.a_BadSpan_init T.fd_BadSpan_init ["self", "bar"] (spX T.C_BadSpan 1 (fo1 "bar")) := by
  refine T.F_BadSpan_init.ok sc_BadSpan_init (fun vs H Q E h => ?_) (fun cdv A outer s H vs Q E hr h => ?_)
  · obtain ⟨H0, a, ws, rfl, hn, _⟩ := h
    rw [List.length_cons, hn] <;> rfl
  · obtain ⟨H0, a, ws, rfl, hn, ha, rfl, k⟩ := h
    match ws, hn with
    | [x], _ =>
      refine ⟨_, pss_one (ps_ost (pv 0) (pv 1)), ?_⟩
      refine ⟨_, rfl, _, rfl, a, T.C_BadSpan, rfl, T.O_BadSpan, T.nf_BadSpan_bar, .inl ⟨upd_same, fun d hd hda => ?_⟩⟩
      rw [upd_ne hda] at hd
      rw [exo1 hda]
      exact k d hd hda
inductive Rf where
  | cnt (what : Str) (n : Int) | rod (n : Int) | same (n : Int) | span (n : Int) | sq (a b : Int)
def Rf.fs : Rf → List (Str × V)
  | .cnt x n => [("count", .int n), ("what", .str x)]
  | .rod n => [("rod", .int n)]
  | .same n => [("rod", .int n)]
  | .span n => [("bar", .int n)]
  | .sq a b => [("wanted", .int b), ("bars", .int a)]
def Rf.C (T : Tx K mg) : Rf → Addr
  | .cnt _ _ => T.C_BadCount
  | .rod _ => T.C_NoRod
  | .same _ => T.C_SameRod
  | .span _ => T.C_BadSpan
  | .sq _ _ => T.C_NotSquare
def Rf.E (T : Tx K mg) (r : Rf) (E : XK) (H : Hp) : Prop := ∀ d H', Ext H H' → H d = none → H' d = some (.xd r.fs) → E (.ref (r.C T)) (some d) H'
structure BarD where
  a : Int
  b : Int
  c : Int
  len : Int
  lo : Int
  hi : Int
  deriving DecidableEq
abbrev brF : List Str := ["a", "b", "c", "length", "least", "greatest"]
def brV (b : BarD) : List V := [.int b.a, .int b.b, .int b.c, .int b.len, .int b.lo, .int b.hi]
def brT (b : BarD) : List Dt := [.int b.a, .int b.b, .int b.c, .int b.len, .int b.lo, .int b.hi]
def brD (C : Addr) (b : BarD) : Dt := .ins C brF (brT b)
theorem br_fields {C : Addr} {H : Hp} {b : BarD} {v : V} (i : Is K H (brD C b) v) : ∃ a dx, v = .ref a ∧ H a = some (.ins C dx [("a", .int b.a), ("b", .int b.b), ("c", .int b.c), ("length", .int b.len), ("least", .int b.lo), ("greatest", .int b.hi)]) := by
  obtain ⟨a, dx, kvs, rfl, ha, ek, hl⟩ := i
  obtain ⟨v1, r1, e1, f1, v2, r2, e2, f2, v3, r3, e3, f3, v4, r4, e4, f4, v5, r5, e5, f5, v6, r6, e6, f6, e7⟩ := hl
  subst e7 e6 e5 e4 e3 e2
  cases (show v1 = _ from f1)
  cases (show v2 = _ from f2)
  cases (show v3 = _ from f3)
  cases (show v4 = _ from f4)
  cases (show v5 = _ from f5)
  cases (show v6 = _ from f6)
  refine ⟨a, dx, rfl, ?_⟩
  match kvs, ek, e1 with
  | [(x1, y1), (x2, y2), (x3, y3), (x4, y4), (x5, y5), (x6, y6)], ek, e1 =>
    simp only [List.map_cons, List.map_nil] at ek e1
    injection ek with g1 ek
    injection ek with g2 ek
    injection ek with g3 ek
    injection ek with g4 ek
    injection ek with g5 ek
    injection ek with g6 _
    injection e1 with h1 e1
    injection e1 with h2 e1
    injection e1 with h3 e1
    injection e1 with h4 e1
    injection e1 with h5 e1
    injection e1 with h6 _
    subst g1 g2 g3 g4 g5 g6 h1 h2 h3 h4 h5 h6
    exact ha
theorem br_is {C a dx : Addr} {H : Hp} {b : BarD} (h : H a = some (.ins C dx [("a", .int b.a), ("b", .int b.b), ("c", .int b.c), ("length", .int b.len), ("least", .int b.lo), ("greatest", .int b.hi)])) : Is K H (brD C b) (.ref a) :=
  ⟨a, dx, _, rfl, h, rfl, _, _, rfl, rfl, _, _, rfl, rfl, _, _, rfl, rfl, _, _, rfl, rfl, _, _, rfl, rfl, _, _, rfl, rfl, rfl⟩
def spBar (K : PySem.W.Frag) (C : Addr) : Sp := fun vs H Q _ => ∃ (H0 : Hp) (x dx : Addr) (b : BarD), vs = .ref x :: brV b ∧ H0 x = none ∧ H0 dx = none ∧ dx ≠ x ∧ H = upd (upd H0 dx (.own x)) x (.ins C dx []) ∧ ∀ H', Ext H0 H' → Is K H' (brD C b) (.ref x) → Q .non H'
theorem ok_Bar_init (T : Tx K mg) : FnOk P w K mg base (L2.CX P w) 2 T.a_Bar_init T.fd_Bar_init ["self", "a", "b", "c", "length", "least", "greatest"] (spBar K T.C_Bar) := by
  refine T.F_Bar_init.okX sc_Bar_init (fun vs H Q E h => ?_) (fun cdv A outer s H vs Q E hr h => ?_)
  · obtain ⟨H0, x, dx, b, rfl, _⟩ := h
    rfl
  · obtain ⟨H0, x, dx, b, rfl, hx, hdx, hne, rfl, k⟩ := h
    refine ⟨_, (pss_cons (ps_fld (pv 0) (pv 1) rfl)
      (pss_cons (ps_fld (pv 0) (pv 2) rfl)
      (pss_cons (ps_fld (pv 0) (pv 3) rfl)
      (pss_cons (ps_fld (pv 0) (pv 4) rfl)
      (pss_cons (ps_fld (pv 0) (pv 5) rfl)
      (pss_one (ps_fld (pv 0) (pv 6) rfl))))))), ?_⟩
    have eH : Ext H0 (upd (upd H0 dx (.own x)) x (.ins T.C_Bar dx [])) := (Ext.upd hdx).mut hx
    refine ⟨_, rfl, _, rfl, x, T.C_Bar, dx, _, rfl, upd_same, T.c_Bar, T.nf_Bar_a, (by show 0 < 1000; decide), ?_⟩
    refine ⟨_, rfl, _, rfl, x, T.C_Bar, dx, _, rfl, upd_same, T.c_Bar, T.nf_Bar_b, (by show 1 < 1000; decide), ?_⟩
    refine ⟨_, rfl, _, rfl, x, T.C_Bar, dx, _, rfl, upd_same, T.c_Bar, T.nf_Bar_c, (by show 2 < 1000; decide), ?_⟩
    refine ⟨_, rfl, _, rfl, x, T.C_Bar, dx, _, rfl, upd_same, T.c_Bar, T.nf_Bar_length, (by show 3 < 1000; decide), ?_⟩
    refine ⟨_, rfl, _, rfl, x, T.C_Bar, dx, _, rfl, upd_same, T.c_Bar, T.nf_Bar_least, (by show 4 < 1000; decide), ?_⟩
    refine ⟨_, rfl, _, rfl, x, T.C_Bar, dx, _, rfl, upd_same, T.c_Bar, T.nf_Bar_greatest, (by show 5 < 1000; decide), ?_⟩
    exact k _ ((((((eH.mut hx).mut hx).mut hx).mut hx).mut hx).mut hx) (br_is (dx := dx) upd_same)
end
end K07
namespace K07
open PySem L2
section
variable {P : Program} {w : World} {K : PySem.W.Frag} {mg : Str → Option Value} {base : Heap}
theorem find_at {α : Type} {p : α → Bool} : ∀ {xs : List α} {i : Nat} {r : α}, (∀ j x, j < i → xs[j]? = some x → p x = false) → xs[i]? = some r → p r = true → xs.find? p = some r
  | [], _, _, _, h, _ => by simp at h
  | x :: xs, 0, r, _, h, hp => by
    cases (show some x = some r from h)
    rw [List.find?_cons, hp]
  | x :: xs, i + 1, r, hb, h, hp => by
    rw [List.find?_cons, hb 0 x (Nat.succ_pos _) rfl]
    exact find_at (xs := xs) (i := i) (fun j y hj e => hb (j + 1) y (Nat.succ_lt_succ hj) e) h hp
theorem find_no {α : Type} {p : α → Bool} {xs : List α} (h : ∀ (j : Nat) (x : α), xs[j]? = some x → p x = false) : xs.find? p = none := by
  rw [List.find?_eq_none]
  intro x hx
  obtain ⟨j, hj⟩ := List.getElem?_of_mem hx
  rw [h j x hj]
  exact Bool.false_ne_true
def offRod (n r : Int) : Bool := !(decide (0 ≤ r) && decide (r < n))
def ckBar (n k : Int) (b : BarD) : Option Rf :=
  match [b.a, b.b, b.c].find? (offRod n) with
  | some r => some (.rod r)
  | none => if b.b = b.a then some (.same b.b) else if b.c = b.a ∨ b.c = b.b then some (.same b.c) else if ¬ (1 ≤ b.len ∧ b.len ≤ 1000000) then some (.cnt "length" b.len) else if ¬ (0 ≤ b.lo ∧ b.lo ≤ b.hi ∧ b.hi ≤ b.len) then some (.span k) else none
def spCkBar (K : PySem.W.Frag) (T : Tx K mg) : Sp := fun vs H Q E => ∃ (n k : Int) (v : V) (b : BarD), vs = [.int n, .int k, v] ∧ Is K H (brD T.C_Bar b) v ∧ (∀ r, ckBar n k b = some r → r.E T E H) ∧ (ckBar n k b = none → ∀ H', Ext H H' → Q .non H')
theorem ok_check_bar (T : Tx K mg) : FnOk P w K mg base (L2.CX P w) 4 T.a_check_bar T.fd_check_bar ["rods", "number", "bar"] (spCkBar K T) := by
  refine T.F_check_bar.okX sc_check_bar (fun vs H Q E h => ?_) (fun cdv A outer s H vs Q E hr h => ?_)
  · obtain ⟨n, k, v, b, rfl, _⟩ := h
    rfl
  · obtain ⟨n, k, v, b, rfl, hb, kE, kQ⟩ := h
    refine ⟨_, (pss_cons (ps_for (passes_of rfl) rfl (pi_tup (pe_tup (pa_cons (pe_fld (pv 2) rfl) (pa_cons (pe_fld (pv 2) rfl) (pa_cons (pe_fld (pv 2) rfl) pa_nil))))) (pg_name (i := 3) sc_check_bar.nd rfl (Or.inl rfl)) (pss_one (ps_if (pt_not (pt_chain op_le op_lt pe_int (pv 3) (pv 0))) (pss_one (ps_raiseX T.X_NoRod (ok_NoRod_init T) (hr.mono (by decide)) rfl (takes_of rfl rfl rfl rfl) rfl (pa_cons (pv 3) pa_nil))) pss_nil)))
      (pss_cons (ps_if (pt_cmpR op_eq (pe_fld (pv 2) rfl) (pe_fld (pv 2) rfl) (nomark _)) (pss_one (ps_raiseX T.X_SameRod (ok_SameRod_init T) (hr.mono (by decide)) rfl (takes_of rfl rfl rfl rfl) rfl (pa_cons (pe_fld (pv 2) rfl) pa_nil))) pss_nil)
      (pss_cons (ps_if (pt_cmpR op_in_seq (pe_fld (pv 2) rfl) (pe_tup (pa_cons (pe_fld (pv 2) rfl) (pa_cons (pe_fld (pv 2) rfl) pa_nil))) rfl) (pss_one (ps_raiseX T.X_SameRod (ok_SameRod_init T) (hr.mono (by decide)) rfl (takes_of rfl rfl rfl rfl) rfl (pa_cons (pe_fld (pv 2) rfl) pa_nil))) pss_nil)
      (pss_cons (ps_if (pt_not (pt_chain op_le op_le pe_int (pe_fld (pv 2) rfl) (pe_glob (v := .int 1000000) rfl T.m_MOST_LENGTH ⟨_, rfl⟩))) (pss_one (ps_raiseX T.X_BadCount (ok_BadCount_init T) (hr.mono (by decide)) rfl (takes_of rfl rfl rfl rfl) rfl (pa_cons pe_str (pa_cons (pe_fld (pv 2) rfl) pa_nil)))) pss_nil)
      (pss_one (ps_if (pt_not (pt_chain3 op_le op_le op_le pe_int (pe_fld (pv 2) rfl) (pe_fld (pv 2) rfl) (pe_fld (pv 2) rfl))) (pss_one (ps_raiseX T.X_BadSpan (ok_BadSpan_init T) (hr.mono (by decide)) rfl (takes_of rfl rfl rfl rfl) rfl (pa_cons (pv 1) pa_nil))) pss_nil)))))), ?_⟩
    obtain ⟨ba, bdx, rfl, hba⟩ := br_fields hb
    refine ⟨_, rfl, ba, T.C_Bar, bdx, _, _, rfl, hba, T.c_Bar, T.nf_Bar_a, rfl, ?_⟩
    refine ⟨_, rfl, ba, T.C_Bar, bdx, _, _, rfl, hba, T.c_Bar, T.nf_Bar_b, rfl, ?_⟩
    refine ⟨_, rfl, ba, T.C_Bar, bdx, _, _, rfl, hba, T.c_Bar, T.nf_Bar_c, rfl, by show 3 ≤ sizeLine; decide, fun t ht => ?_⟩
    refine ⟨t, rfl, ⟨_, SqT.of upd_same⟩, for_tup (K := K) (a := t) (xs := [b.a, b.b, b.c].map V.int) (fun i σ H' => Ext H H' ∧ H' t = some (.tup ([b.a, b.b, b.c].map V.int)) ∧ (∀ j x, j < i → [b.a, b.b, b.c][j]? = some x → offRod n x = false) ∧ ∃ v3 : Option V, σ = [some (.int n), some (.int k), some (.ref ba), v3])
      ⟨Ext.upd ht, upd_same, fun j x hj => absurd hj (Nat.not_lt_zero _), none, rfl⟩ (fun i σ H' _ p => SqT.of p.2.1) ?_ ?_⟩
    · rintro i y σ H1 hi ⟨e1, ht1, hno, v3, rfl⟩
      obtain ⟨r, hr', rfl⟩ : ∃ r, [b.a, b.b, b.c][i]? = some r ∧ y = V.int r := by
        rw [List.getElem?_map] at hi
        cases e : [b.a, b.b, b.c][i]? with
        | none => rw [e] at hi; cases hi
        | some n => rw [e] at hi; exact ⟨n, rfl, (Option.some.inj hi).symm⟩
      have bad : offRod n r = true → ckBar n k b = some (.rod r) := fun ho => by
        unfold ckBar
        rw [find_at hno hr' ho]
      have rz : offRod n r = true → ∀ d, H1 d = none → E (.ref T.C_NoRod) (some d) (upd H1 d (.xd (fo1 "rod" [V.int r]))) := fun ho d hd =>
        kE _ (bad ho) d _ (e1.trans (Ext.upd hd)) (e1.fresh hd) upd_same
      refine ⟨_, rfl, _, _, rfl, rfl, _, rfl, ite2 (fun c0 => ?_) (fun c0 => ?_)⟩
      · refine ⟨_, rfl, _, _, rfl, rfl, _, rfl, ite2 (fun c1 => ?_) (fun c1 => ?_)⟩
        · refine ⟨_, rfl, rz_ok (n := 1) rfl (by decide) (rz ?_)⟩
          unfold offRod
          rw [c0, Bool.true_and]
          exact c1
        · refine ⟨e1, ht1, fun j x hj hx => ?_, _, rfl⟩
          by_cases hji : j = i
          · subst hji
            rw [hr'] at hx
            cases hx
            unfold offRod
            rw [c0, Bool.true_and]
            exact Bool.eq_false_iff.mpr c1
          · exact hno j x (by omega) hx
      · refine ⟨_, rfl, ite2 (fun c1 => ?_) (fun c1 => absurd rfl c1)⟩
        refine ⟨_, rfl, rz_ok (n := 1) rfl (by decide) (rz ?_)⟩
        unfold offRod
        rw [Bool.eq_false_iff.mpr c0]
        rfl
    · rintro σ H1 ⟨e1, ht1, hno, v3, rfl⟩
      have hnone : [b.a, b.b, b.c].find? (offRod n) = none := find_no fun j x hx => hno j x (by
        have := (List.getElem?_eq_some_iff.mp hx).1
        exact this) hx
      have hba1 := e1 _ _ hba
      refine ⟨_, rfl, ba, T.C_Bar, bdx, _, _, rfl, hba1, T.c_Bar, T.nf_Bar_b, rfl, ?_⟩
      refine ⟨_, rfl, ba, T.C_Bar, bdx, _, _, rfl, hba1, T.c_Bar, T.nf_Bar_a, rfl, rfl, _, rfl, ite2 (fun c0 => ?_) (fun c0 => ?_)⟩
      · have hba2 : b.b = b.a := V.int.inj (of_decide_eq_true c0)
        refine ⟨_, rfl, ba, T.C_Bar, bdx, _, _, rfl, hba1, T.c_Bar, T.nf_Bar_b, rfl, rz_ok (n := 1) rfl (by decide) fun d hd => ?_⟩
        refine kE (.same b.b) ?_ d _ (e1.trans (Ext.upd hd)) (e1.fresh hd) upd_same
        unfold ckBar
        rw [hnone]
        exact if_pos hba2
      have n1 : ¬ b.b = b.a := fun z => c0 (decide_eq_true (congrArg V.int z))
      refine ⟨_, rfl, ba, T.C_Bar, bdx, _, _, rfl, hba1, T.c_Bar, T.nf_Bar_c, rfl, ?_⟩
      refine ⟨_, rfl, ba, T.C_Bar, bdx, _, _, rfl, hba1, T.c_Bar, T.nf_Bar_a, rfl, ?_⟩
      refine ⟨_, rfl, ba, T.C_Bar, bdx, _, _, rfl, hba1, T.c_Bar, T.nf_Bar_b, rfl, by show 2 ≤ sizeLine; decide, fun t2 ht2 => ?_⟩
      have e2 : Ext H (upd H1 t2 (.tup [.int b.a, .int b.b])) := e1.trans (Ext.upd ht2)
      have hba2 := Ext.upd (o := HO.tup [.int b.a, .int b.b]) ht2 _ _ hba1
      refine ⟨_, _, rfl, .inr (SqT.of upd_same), rfl, rfl, ?_⟩
      generalize upd H1 t2 (.tup [.int b.a, .int b.b]) = H2 at e2 hba2 ⊢
      have hin : inV (.int b.c) [.int b.a, .int b.b] = decide (b.c = b.a ∨ b.c = b.b) := by
        show (b.a == b.c || (b.b == b.c || false)) = _
        rw [Bool.or_false, Bool.eq_iff_iff, Bool.or_eq_true, decide_eq_true_iff, beq_iff_eq, beq_iff_eq]
        exact ⟨fun h => h.imp Eq.symm Eq.symm, fun h => h.imp Eq.symm Eq.symm⟩
      rw [if_neg Bool.false_ne_true, hin]
      refine ⟨_, rfl, ite2 (fun c1 => ?_) (fun c1 => ?_)⟩
      · refine ⟨_, rfl, ba, T.C_Bar, bdx, _, _, rfl, hba2, T.c_Bar, T.nf_Bar_c, rfl, rz_ok (n := 1) rfl (by decide) fun d hd => ?_⟩
        refine kE (.same b.c) ?_ d _ (e2.trans (Ext.upd hd)) (e2.fresh hd) upd_same
        unfold ckBar
        rw [hnone]
        show (if _ then _ else _) = _
        rw [if_neg n1, if_pos (of_decide_eq_true c1)]
      have n2 : ¬ (b.c = b.a ∨ b.c = b.b) := fun z => c1 (decide_eq_true z)
      have r4 : ¬ (1 ≤ b.len ∧ b.len ≤ 1000000) → ckBar n k b = some (.cnt "length" b.len) := fun z => by
        unfold ckBar
        rw [hnone]
        show (if _ then _ else _) = _
        rw [if_neg n1, if_neg n2, if_pos z]
      have rz4 : ¬ (1 ≤ b.len ∧ b.len ≤ 1000000) → ∀ d, H2 d = none → E (.ref T.C_BadCount) (some d) (upd H2 d (.xd (fo2 "what" "count" [V.str "length", V.int b.len]))) := fun z d hd =>
        kE _ (r4 z) d _ (e2.trans (Ext.upd hd)) (e2.fresh hd) upd_same
      refine ⟨_, rfl, ba, T.C_Bar, bdx, _, _, rfl, hba2, T.c_Bar, T.nf_Bar_length, rfl, _, _, rfl, rfl, _, rfl, ite2 (fun c2 => ?_) (fun c2 => ?_)⟩
      · refine ⟨_, _, rfl, rfl, _, rfl, ite2 (fun c3 => ?_) (fun c3 => ?_)⟩
        · refine ⟨_, rfl, ba, T.C_Bar, bdx, _, _, rfl, hba2, T.c_Bar, T.nf_Bar_length, rfl, rz_ok (n := 2) rfl (by decide) (rz4 fun z => ?_)⟩
          rw [decide_eq_true z.2] at c3
          cases c3
        have ok4 : 1 ≤ b.len ∧ b.len ≤ 1000000 := ⟨of_decide_eq_true c2, Classical.byContradiction fun z => c3 (by rw [decide_eq_false z]; rfl)⟩
        have r5 : ¬ (0 ≤ b.lo ∧ b.lo ≤ b.hi ∧ b.hi ≤ b.len) → ckBar n k b = some (.span k) := fun z => by
          unfold ckBar
          rw [hnone]
          show (if _ then _ else _) = _
          rw [if_neg n1, if_neg n2, if_neg (fun y => y ok4), if_pos z]
        have rz5 : ¬ (0 ≤ b.lo ∧ b.lo ≤ b.hi ∧ b.hi ≤ b.len) → ∀ d, H2 d = none → E (.ref T.C_BadSpan) (some d) (upd H2 d (.xd (fo1 "bar" [V.int k]))) := fun z d hd =>
          kE _ (r5 z) d _ (e2.trans (Ext.upd hd)) (e2.fresh hd) upd_same
        refine ⟨_, rfl, ba, T.C_Bar, bdx, _, _, rfl, hba2, T.c_Bar, T.nf_Bar_least, rfl, _, _, rfl, rfl, _, rfl, ite2 (fun c4 => ?_) (fun c4 => ?_)⟩
        · refine ⟨_, rfl, ba, T.C_Bar, bdx, _, _, rfl, hba2, T.c_Bar, T.nf_Bar_greatest, rfl, _, _, rfl, rfl, _, rfl, ite2 (fun c5 => ?_) (fun c5 => ?_)⟩
          · refine ⟨_, rfl, ba, T.C_Bar, bdx, _, _, rfl, hba2, T.c_Bar, T.nf_Bar_length, rfl, _, _, rfl, rfl, _, rfl, ite2 (fun c6 => ?_) (fun c6 => ?_)⟩
            · refine ⟨_, rfl, rz_ok (n := 1) rfl (by decide) (rz5 fun z => ?_)⟩
              rw [decide_eq_true z.2.2] at c6
              cases c6
            · have ok5 : 0 ≤ b.lo ∧ b.lo ≤ b.hi ∧ b.hi ≤ b.len := ⟨of_decide_eq_true c4, of_decide_eq_true c5, Classical.byContradiction fun z => c6 (by rw [decide_eq_false z]; rfl)⟩
              refine kQ ?_ _ e2
              unfold ckBar
              rw [hnone]
              show (if _ then _ else _) = _
              rw [if_neg n1, if_neg n2, if_neg (fun y => y ok4), if_neg (fun y => y ok5)]
          · exact iteT ⟨_, rfl, rz_ok (n := 1) rfl (by decide) (rz5 fun z => c5 (decide_eq_true z.2.1))⟩
        · exact iteT ⟨_, rfl, rz_ok (n := 1) rfl (by decide) (rz5 fun z => c4 (decide_eq_true z.1))⟩
      · refine ⟨_, rfl, iteT ?_⟩
        exact ⟨_, rfl, ba, T.C_Bar, bdx, _, _, rfl, hba2, T.c_Bar, T.nf_Bar_length, rfl, rz_ok (n := 2) rfl (by decide) (rz4 fun z => c2 (decide_eq_true z.1))⟩
end
end K07
namespace K07
open PySem L2
section
variable {P : Program} {w : World} {K : PySem.W.Frag} {mg : Str → Option Value} {base : Heap}
def ckFrom (n : Int) : Nat → List BarD → Option Rf
  | _, [] => none
  | k, b :: r => match ckBar n (k : Nat) b with
    | some x => some x
    | none => ckFrom n (k + 1) r
theorem ck_at {n : Int} : ∀ {bs : List BarD} {k i : Nat} {b : BarD} {r : Rf}, (∀ (j : Nat) (c : BarD), j < i → bs[j]? = some c → ckBar n ((k + j : Nat) : Int) c = none) → bs[i]? = some b → ckBar n ((k + i : Nat) : Int) b = some r → ckFrom n k bs = some r
  | [], _, _, _, _, _, h, _ => by simp at h
  | c :: bs, k, 0, b, r, _, h, hp => by
    cases (show some c = some b from h)
    unfold ckFrom
    rw [show ckBar n (k : Nat) c = some r from hp]
  | c :: bs, k, i + 1, b, r, hb, h, hp => by
    unfold ckFrom
    rw [show ckBar n (k : Nat) c = none from hb 0 c (Nat.succ_pos _) rfl]
    exact ck_at (bs := bs) (k := k + 1) (i := i) (fun j y hj e => by
      rw [Nat.succ_add]
      exact hb (j + 1) y (Nat.succ_lt_succ hj) e) h (by rw [Nat.succ_add]; exact hp)
theorem ck_no {n : Int} : ∀ {bs : List BarD} {k : Nat}, (∀ (j : Nat) (c : BarD), bs[j]? = some c → ckBar n ((k + j : Nat) : Int) c = none) → ckFrom n k bs = none
  | [], _, _ => rfl
  | c :: bs, k, h => by
    unfold ckFrom
    rw [show ckBar n (k : Nat) c = none from h 0 c rfl]
    exact ck_no (bs := bs) (k := k + 1) fun j y e => by
      rw [Nat.succ_add]
      exact h (j + 1) y e
def ckBars (n : Int) (m : Nat) (bs : List BarD) : Option Rf :=
  if ¬ (1 ≤ (bs.length : Int) ∧ (bs.length : Int) ≤ 8) then some (.cnt "bars" bs.length) else if ¬ (bs.length : Int) = n - m then some (.sq bs.length (n - m)) else ckFrom n 0 bs
def hK (hl : List (Int × Int)) : List (Key × V) := hl.map fun p => (Sum.inl p.1, V.int p.2)
theorem isL_len {K : PySem.W.Frag} {H : Hp} : ∀ {ds : List Dt} {vs : List V}, IsL K H ds vs → vs.length = ds.length
  | [], _, h => by cases h; rfl
  | d :: ds, _, ⟨v, r, e, _, h⟩ => by
    subst e
    rw [List.length_cons, List.length_cons, isL_len (ds := ds) h]
def spCkBars (K : PySem.W.Frag) (T : Tx K mg) : Sp := fun vs H Q E => ∃ (n : Int) (hd bl : Addr) (hl : List (Int × Int)) (bs : List BarD) (ws : List V), vs = [.int n, .ref hd, .ref bl] ∧ H hd = some (.dK (hK hl)) ∧ SqQ K H bl ws ∧ IsL K H (bs.map (brD T.C_Bar)) ws ∧
  (∀ r, ckBars n hl.length bs = some r → r.E T E H) ∧ (ckBars n hl.length bs = none → ∀ H', Ext H H' → Q .non H')
theorem ok_check_bars (T : Tx K mg) : FnOk P w K mg base (L2.CX P w) 6 T.a_check_bars T.fd_check_bars ["rods", "held", "bars"] (spCkBars K T) := by
  refine T.F_check_bars.okX sc_check_bars (fun vs H Q E h => ?_) (fun cdv A outer s H vs Q E hr h => ?_)
  · obtain ⟨n, hd, bl, hl, bs, ws, rfl, _⟩ := h
    rfl
  · obtain ⟨n, hd, bl, hl, bs, ws, rfl, hhd, hbl, hbs, kE, kQ⟩ := h
    refine ⟨_, (pss_cons (ps_if (pt_not (pt_chain op_le op_le pe_int (pe_callB call_len_seq (by rfl) T.z_len PySem.boot_len (pa_cons (pv 2) pa_nil)) (pe_glob (v := .int 8) rfl T.m_MOST_BARS ⟨_, rfl⟩))) (pss_one (ps_raiseX T.X_BadCount (ok_BadCount_init T) (hr.mono (by decide)) rfl (takes_of rfl rfl rfl rfl) rfl (pa_cons pe_str (pa_cons (pe_callB call_len_seq (by rfl) T.z_len PySem.boot_len (pa_cons (pv 2) pa_nil)) pa_nil)))) pss_nil)
      (pss_cons (ps_set (i := 3) sc_check_bars.nd rfl (Or.inl rfl) (pe_op op_sub (pv 0) (pe_callB call_lenD (by rfl) T.z_len PySem.boot_len (pa_cons (pv 1) pa_nil))))
      (pss_cons (ps_if (pt_cmpR op_ne (pe_callB call_len_seq (by rfl) T.z_len PySem.boot_len (pa_cons (pv 2) pa_nil)) (pv 3) (nomark _)) (pss_one (ps_raiseX T.X_NotSquare (ok_NotSquare_init T) (hr.mono (by decide)) rfl (takes_of rfl rfl rfl rfl) rfl (pa_cons (pe_callB call_len_seq (by rfl) T.z_len PySem.boot_len (pa_cons (pv 2) pa_nil)) (pa_cons (pv 3) pa_nil)))) pss_nil)
      (pss_one (ps_for (passes_of rfl) rfl (pi_enumQ (by rfl) T.z_enumerate (pa_cons (pv 2) pa_nil)) (pg_tup rfl (pgs_cons (pg_name (i := 4) sc_check_bars.nd rfl (Or.inl rfl)) (pgs_cons (pg_name (i := 5) sc_check_bars.nd rfl (Or.inl rfl)) pgs_nil))) (pss_one (ps_expr (pe_call (ok_check_bar T) (hr.mono (by decide)) rfl T.m_check_bar T.F_check_bar.kp T.b_check_bar .nil (passes_call (takes_of rfl rfl rfl rfl) (fun _ _ _ _ h => h)) (pa_cons (pv 0) (pa_cons (pv 4) (pa_cons (pv 5) pa_nil))))))))))), ?_⟩
    have hlen : ws.length = bs.length := by rw [isL_len hbs, List.length_map]
    have r1 : ¬ (1 ≤ (ws.length : Int) ∧ (ws.length : Int) ≤ 8) → ∀ d, H d = none → E (.ref T.C_BadCount) (some d) (upd H d (.xd (fo2 "what" "count" [V.str "bars", V.int (ws.length : Int)]))) := fun z d hd => by
      have z' : ckBars n hl.length bs = some (.cnt "bars" (ws.length : Int)) := by
        unfold ckBars
        rw [← hlen]
        exact if_pos z
      exact kE _ z' d _ (Ext.upd hd) hd upd_same
    refine ⟨_, rfl, bl, ws, rfl, hbl, _, _, rfl, rfl, _, rfl, ite2 (fun c0 => ?_) (fun c0 => ?_)⟩
    · refine ⟨_, _, rfl, rfl, _, rfl, ite2 (fun c1 => ?_) (fun c1 => ?_)⟩
      · refine ⟨_, rfl, bl, ws, rfl, hbl, rz_ok (n := 2) rfl (by decide) (r1 fun z => ?_)⟩
        rw [decide_eq_true z.2] at c1
        cases c1
      have ok1 : 1 ≤ (ws.length : Int) ∧ (ws.length : Int) ≤ 8 := ⟨of_decide_eq_true c0, Classical.byContradiction fun z => c1 (by rw [decide_eq_false z]; rfl)⟩
      refine ⟨_, rfl, _, rfl, hd, _, rfl, hhd, _, _, rfl, rfl, ?_⟩
      have hkl : ((hK hl).length : Int) = (hl.length : Int) := by unfold hK; rw [List.length_map]
      dsimp only
      rw [hkl]
      refine ⟨_, rfl, bl, ws, rfl, hbl, _, rfl, rfl, _, rfl, ite2 (fun c2 => ?_) (fun c2 => ?_)⟩
      · refine ⟨_, rfl, bl, ws, rfl, hbl, _, rfl, rz_ok (n := 2) rfl (by decide) fun d hd => ?_⟩
        have hne : ¬ (ws.length : Int) = n - hl.length := fun z => by
          rw [z] at c2
          simp at c2
        have z' : ckBars n hl.length bs = some (.sq (ws.length : Int) (n - hl.length)) := by
          unfold ckBars
          rw [← hlen, if_neg (fun y => y ok1), if_pos hne]
        exact kE _ z' d _ (Ext.upd hd) hd upd_same
      have heq : (ws.length : Int) = n - hl.length := Classical.byContradiction fun z => c2 (by
        rw [decide_eq_false (fun y => z (V.int.inj y))]
        rfl)
      have hck : ckBars n hl.length bs = ckFrom n 0 bs := by
        unfold ckBars
        rw [← hlen, if_neg (fun y => y ok1), if_neg (fun y => y heq)]
      rw [hck] at kQ
      simp only [hck] at kE
      refine ⟨_, rfl, bl, rfl, for_enumQ (H0 := H) hbl (fun i σ H' => Ext H H' ∧ (∀ (j : Nat) (c : BarD), j < i → bs[j]? = some c → ckBar n ((0 + j : Nat) : Int) c = none) ∧ ∃ v4 v5 : Option V, σ = [some (.int n), some (.ref hd), some (.ref bl), some (.int (n - hl.length)), v4, v5])
        ⟨Ext.rfl', fun j c hj => absurd hj (Nat.not_lt_zero _), none, none, rfl⟩ (fun i σ H' _ p => p.1) ?_ ?_⟩
      · rintro i y σ H1 t hi ⟨e1, hno, v4, v5, rfl⟩ ht
        obtain ⟨d, hd', iy⟩ := hbs.get hi
        obtain ⟨b, hb, rfl⟩ : ∃ b, bs[i]? = some b ∧ d = brD T.C_Bar b := by
          rw [List.getElem?_map] at hd'
          cases e : bs[i]? with
          | none => rw [e] at hd'; cases hd'
          | some b => rw [e] at hd'; exact ⟨b, rfl, (Option.some.inj hd').symm⟩
        have e2 : Ext H (upd H1 t (.tup [.int (i : Nat), y])) := e1.trans (Ext.upd ht)
        refine ⟨t, _, rfl, SqT.of upd_same, rfl, _, _, rfl, _, _, rfl, rfl, ?_⟩
        refine ⟨_, rfl, _, rfl, _, rfl, n, (i : Nat), y, b, rfl, iy.ext e2, fun r hr' => ?_, fun hnn H3 e3 => ?_⟩
        · intro d' H' e' hd0 hx
          exact kE r (ck_at hno hb (by rw [Nat.zero_add]; exact hr')) d' H' (e2.trans e') (e2.fresh hd0) hx
        · refine ⟨e2.trans e3, fun j c hj hc => ?_, _, _, rfl⟩
          by_cases hji : j = i
          · subst hji
            rw [hb] at hc
            cases hc
            rw [Nat.zero_add]
            exact hnn
          · exact hno j c (by omega) hc
      · rintro σ H1 ⟨e1, hno, v4, v5, rfl⟩
        refine kQ (ck_no fun j c hc => hno j c ?_ hc) _ e1
        have := (List.getElem?_eq_some_iff.mp hc).1
        omega
    · exact ⟨_, rfl, iteT ⟨_, rfl, bl, ws, rfl, hbl, rz_ok (n := 2) rfl (by decide) (r1 fun z => c0 (decide_eq_true z.1))⟩⟩
end
end K07
namespace K07
open PySem L2
section
variable {P : Program} {w : World} {K : PySem.W.Frag} {mg : Str → Option Value} {base : Heap}
def srtI (ks : List Int) : List Int := ks.mergeSort fun a b => decide (a ≤ b)
theorem srtI_perm (ks : List Int) : (srtI ks).Perm ks := List.mergeSort_perm ..
theorem srtI_sorted (ks : List Int) : (srtI ks).Pairwise (· ≤ ·) := by
  have h := List.pairwise_mergeSort (le := fun a b : Int => decide (a ≤ b)) (fun a b c h1 h2 => decide_eq_true (Int.le_trans (of_decide_eq_true h1) (of_decide_eq_true h2))) (fun a b => by
    rw [Bool.or_eq_true, decide_eq_true_iff, decide_eq_true_iff]
    exact Int.le_total a b) ks
  exact h.imp fun h => of_decide_eq_true h
theorem srt_eq {ys ks : List Int} (hp : ys.Perm ks) (hs : ys.Pairwise (· ≤ ·)) : ys = srtI ks :=
  List.Perm.eq_of_pairwise (le := (· ≤ ·)) (fun a b _ _ h1 h2 => Int.le_antisymm h1 h2) hs (srtI_sorted ks) (hp.trans (srtI_perm ks).symm)
def lookI (hl : List (Int × Int)) (r : Int) : Int := match hl.find? fun p => decide (p.1 = r) with
  | some p => p.2
  | none => 0
theorem val_hK : ∀ {hl : List (Int × Int)} {r : Int}, r ∈ hl.map (·.1) → valV (hK hl) (Sum.inl r) = some (V.int (lookI hl r))
  | [], _, h => by cases h
  | p :: hl, r, h => by
    by_cases e : p.1 = r
    · have h1 : valV (hK (p :: hl)) (Sum.inl r) = some (V.int p.2) := valV_pos (by show Sum.inl p.1 = Sum.inl r; rw [e])
      rw [h1]
      unfold lookI
      rw [List.find?_cons, decide_eq_true e]
    · have h2 : r ∈ hl.map (·.1) := by
        rcases List.mem_cons.mp h with h | h
        · exact absurd h.symm e
        · exact h
      have h3 := val_hK h2
      have h4 : valV (hK (p :: hl)) (Sum.inl r) = valV (hK hl) (Sum.inl r) := by
        unfold valV hK
        rw [List.map_cons, List.find?_cons, decide_eq_false (fun z => e (Sum.inl.inj z))]
      rw [h4, h3]
      unfold lookI
      rw [List.find?_cons, decide_eq_false e]
def farH (hl : List (Int × Int)) (r : Int) : Bool := !(decide (-1000000 ≤ lookI hl r) && decide (lookI hl r ≤ 1000000))
def ckRods (n : Int) (hl : List (Int × Int)) : Option Rf :=
  if ¬ (3 ≤ n ∧ n ≤ 10) then some (.cnt "rods" n) else
  match (srtI (hl.map (·.1))).find? (offRod n) with
  | some r => some (.rod r)
  | none => match (srtI (hl.map (·.1))).find? (farH hl) with
    | some r => some (.cnt "height" (lookI hl r))
    | none => if hl = [] then some (.cnt "held" 0) else none
def spCkRods (K : PySem.W.Frag) (T : Tx K mg) : Sp := fun vs H Q E => ∃ (n : Int) (hd : Addr) (hl : List (Int × Int)), vs = [.int n, .ref hd] ∧ H hd = some (.dK (hK hl)) ∧ hl.length < 64 ∧
  (∀ r, ckRods n hl = some r → r.E T E H) ∧ (ckRods n hl = none → ∀ H', Ext H H' → Q .non H')
theorem ok_check_rods (T : Tx K mg) : FnOk P w K mg base (L2.CX P w) 4 T.a_check_rods T.fd_check_rods ["rods", "held"] (spCkRods K T) := by
  refine T.F_check_rods.okX sc_check_rods (fun vs H Q E h => ?_) (fun cdv A outer s H vs Q E hr h => ?_)
  · obtain ⟨n, hd, hl, rfl, _⟩ := h
    rfl
  · obtain ⟨n, hd, hl, rfl, hhd, h64, kE, kQ⟩ := h
    refine ⟨_, (pss_cons (ps_if (pt_not (pt_chain op_le op_le (pe_glob (v := .int 3) rfl T.m_LEAST_RODS ⟨_, rfl⟩) (pv 0) (pe_glob (v := .int 10) rfl T.m_MOST_RODS ⟨_, rfl⟩))) (pss_one (ps_raiseX T.X_BadCount (ok_BadCount_init T) (hr.mono (by decide)) rfl (takes_of rfl rfl rfl rfl) rfl (pa_cons pe_str (pa_cons (pv 0) pa_nil)))) pss_nil)
      (pss_cons (ps_for (passes_of rfl) rfl (pi_list (pe_callB (call_sortedDI rfl) (by rfl) T.z_sorted (by decide +kernel) (pa_cons (pv 1) pa_nil))) (pg_name (i := 2) sc_check_rods.nd rfl (Or.inl rfl)) (pss_one (ps_if (pt_not (pt_chain op_le op_lt pe_int (pv 2) (pv 0))) (pss_one (ps_raiseX T.X_NoRod (ok_NoRod_init T) (hr.mono (by decide)) rfl (takes_of rfl rfl rfl rfl) rfl (pa_cons (pv 2) pa_nil))) pss_nil)))
      (pss_cons (ps_for (passes_of rfl) rfl (pi_list (pe_callB (call_sortedDI rfl) (by rfl) T.z_sorted (by decide +kernel) (pa_cons (pv 1) pa_nil))) (pg_name (i := 2) sc_check_rods.nd rfl (Or.inl rfl)) (pss_one (ps_if (pt_not (pt_chain op_le op_le (pe_un un_neg (pe_glob (v := .int 1000000) rfl T.m_MOST_HEIGHT ⟨_, rfl⟩)) (pe_dget (hu_of hr) (pv 1) (pv 2) (fun _ _ => rfl)) (pe_glob (v := .int 1000000) rfl T.m_MOST_HEIGHT ⟨_, rfl⟩))) (pss_one (ps_raiseX T.X_BadCount (ok_BadCount_init T) (hr.mono (by decide)) rfl (takes_of rfl rfl rfl rfl) rfl (pa_cons pe_str (pa_cons (pe_dget (hu_of hr) (pv 1) (pv 2) (fun _ _ => rfl)) pa_nil)))) pss_nil)))
      (pss_one (ps_if (pt_not (pt_truth (pv 1) (by intro _; rfl))) (pss_one (ps_raiseX T.X_BadCount (ok_BadCount_init T) (hr.mono (by decide)) rfl (takes_of rfl rfl rfl rfl) rfl (pa_cons pe_str (pa_cons pe_int pa_nil)))) pss_nil))))), ?_⟩
    have r0 : ¬ (3 ≤ n ∧ n ≤ 10) → ∀ d, H d = none → E (.ref T.C_BadCount) (some d) (upd H d (.xd (fo2 "what" "count" [V.str "rods", V.int n]))) := fun z d hd =>
      kE (.cnt "rods" n) (by unfold ckRods; exact if_pos z) d _ (Ext.upd hd) hd upd_same
    refine ⟨_, rfl, _, _, rfl, rfl, _, rfl, ite2 (fun c0 => ?_) (fun c0 => ?_)⟩
    · refine ⟨_, _, rfl, rfl, _, rfl, ite2 (fun c1 => ?_) (fun c1 => ?_)⟩
      · refine ⟨_, rfl, rz_ok (n := 2) rfl (by decide) (r0 fun z => ?_)⟩
        rw [decide_eq_true z.2] at c1
        cases c1
      have ok0 : 3 ≤ n ∧ n ≤ 10 := ⟨of_decide_eq_true c0, Classical.byContradiction fun z => c1 (by rw [decide_eq_false z]; rfl)⟩
      have hkk : (hK hl).map (·.1) = (hl.map (·.1)).map Sum.inl := by
        unfold hK
        rw [List.map_map, List.map_map]
        rfl
      refine ⟨_, rfl, hd, _, _, rfl, .inl hhd, hkk, by rw [List.length_map]; exact h64, fun ys p hp hs hpn => ?_⟩
      cases srt_eq hp hs
      have e1 : Ext H (upd H p (.lst ((srtI (hl.map (·.1))).map V.int))) := Ext.upd hpn
      have hp1 : (upd H p (.lst ((srtI (hl.map (·.1))).map V.int))) p = some (.lst ((srtI (hl.map (·.1))).map V.int)) := upd_same
      generalize upd H p (.lst ((srtI (hl.map (·.1))).map V.int)) = H1 at e1 hp1 ⊢
      refine ⟨p, rfl, ⟨_, SqL.of hp1⟩, for_list (K := K) (a := p) (xs := (srtI (hl.map (·.1))).map V.int) (fun i σ H' => Ext H1 H' ∧ (∀ (j : Nat) (x : Int), j < i → (srtI (hl.map (·.1)))[j]? = some x → offRod n x = false) ∧ ∃ v2 : Option V, σ = [some (.int n), some (.ref hd), v2])
        ⟨Ext.rfl', fun j x hj => absurd hj (Nat.not_lt_zero _), none, rfl⟩ (fun i σ H' _ p => (SqL.of hp1).ext p.1) ?_ ?_⟩
      · rintro i y σ H2 hi ⟨e2, hno, v2, rfl⟩
        obtain ⟨r, hr', rfl⟩ : ∃ r, (srtI (hl.map (·.1)))[i]? = some r ∧ y = V.int r := by
          rw [List.getElem?_map] at hi
          cases e : (srtI (hl.map (·.1)))[i]? with
          | none => rw [e] at hi; cases hi
          | some n => rw [e] at hi; exact ⟨n, rfl, (Option.some.inj hi).symm⟩
        have rz : offRod n r = true → ∀ d, H2 d = none → E (.ref T.C_NoRod) (some d) (upd H2 d (.xd (fo1 "rod" [V.int r]))) := fun ho d hd =>
          kE (.rod r) (by unfold ckRods; rw [if_neg (fun y => y ok0), find_at hno hr' ho]) d _ ((e1.trans e2).trans (Ext.upd hd)) ((e1.trans e2).fresh hd) upd_same
        refine ⟨_, rfl, _, _, rfl, rfl, _, rfl, ite2 (fun c2 => ?_) (fun c2 => ?_)⟩
        · refine ⟨_, rfl, _, _, rfl, rfl, _, rfl, ite2 (fun c3 => ?_) (fun c3 => ?_)⟩
          · refine ⟨_, rfl, rz_ok (n := 1) rfl (by decide) (rz ?_)⟩
            unfold offRod
            rw [c2, Bool.true_and]
            exact c3
          · refine ⟨e2, fun j x hj hx => ?_, _, rfl⟩
            by_cases hji : j = i
            · subst hji
              rw [hr'] at hx
              cases hx
              unfold offRod
              rw [c2, Bool.true_and]
              exact Bool.eq_false_iff.mpr c3
            · exact hno j x (by omega) hx
        · refine ⟨_, rfl, ite2 (fun c3 => ?_) (fun c3 => absurd rfl c3)⟩
          refine ⟨_, rfl, rz_ok (n := 1) rfl (by decide) (rz ?_)⟩
          unfold offRod
          rw [Bool.eq_false_iff.mpr c2]
          rfl
      · rintro σ H2 ⟨e2, hno, v2, rfl⟩
        have hnone : (srtI (hl.map (·.1))).find? (offRod n) = none := find_no fun j x hx => hno j x (by
          rw [List.length_map]
          exact (List.getElem?_eq_some_iff.mp hx).1) hx
        have e02 := e1.trans e2
        clear e2 e1 hp1 hno hp hs hpn
        refine ⟨_, rfl, hd, _, _, rfl, .inl (e02 _ _ hhd), hkk, by rw [List.length_map]; exact h64, fun ys p2 hp hs hpn => ?_⟩
        cases srt_eq hp hs
        have e23 : Ext H2 (upd H2 p2 (.lst ((srtI (hl.map (·.1))).map V.int))) := Ext.upd hpn
        have hp1 : (upd H2 p2 (.lst ((srtI (hl.map (·.1))).map V.int))) p2 = some (.lst ((srtI (hl.map (·.1))).map V.int)) := upd_same
        generalize upd H2 p2 (.lst ((srtI (hl.map (·.1))).map V.int)) = H3 at e23 hp1 ⊢
        have e03 := e02.trans e23
        refine ⟨p2, rfl, ⟨_, SqL.of hp1⟩, for_list (K := K) (a := p2) (xs := (srtI (hl.map (·.1))).map V.int) (fun i σ H' => Ext H3 H' ∧ (∀ (j : Nat) (x : Int), j < i → (srtI (hl.map (·.1)))[j]? = some x → farH hl x = false) ∧ ∃ v2 : Option V, σ = [some (.int n), some (.ref hd), v2])
          ⟨Ext.rfl', fun j x hj => absurd hj (Nat.not_lt_zero _), _, rfl⟩ (fun i σ H' _ p => (SqL.of hp1).ext p.1) ?_ ?_⟩
        · rintro i y σ H4 hi ⟨e4, hno, v2, rfl⟩
          obtain ⟨r, hr', rfl⟩ : ∃ r, (srtI (hl.map (·.1)))[i]? = some r ∧ y = V.int r := by
            rw [List.getElem?_map] at hi
            cases e : (srtI (hl.map (·.1)))[i]? with
            | none => rw [e] at hi; cases hi
            | some n => rw [e] at hi; exact ⟨n, rfl, (Option.some.inj hi).symm⟩
          have hmem : r ∈ hl.map (·.1) := (srtI_perm _).mem_iff.mp (List.mem_of_getElem? hr')
          have e04 := e03.trans e4
          have hv : DGet H4 hd (V.int r) (some (V.int (lookI hl r))) := by
            rw [← val_hK hmem]
            exact DGet.k (k := Sum.inl r) (e04 _ _ hhd)
          have rz : farH hl r = true → ∀ d, H4 d = none → E (.ref T.C_BadCount) (some d) (upd H4 d (.xd (fo2 "what" "count" [V.str "height", V.int (lookI hl r)]))) := fun ho d hd =>
            kE (.cnt "height" (lookI hl r)) (by
              unfold ckRods
              rw [if_neg (fun y => y ok0), hnone]
              dsimp only
              rw [find_at hno hr' ho]) d _ (e04.trans (Ext.upd hd)) (e04.fresh hd) upd_same
          refine ⟨_, rfl, _, rfl, _, rfl, hd, _, rfl, hv, _, _, rfl, rfl, _, rfl, ite2 (fun c2 => ?_) (fun c2 => ?_)⟩
          · refine ⟨_, _, rfl, rfl, _, rfl, ite2 (fun c3 => ?_) (fun c3 => ?_)⟩
            · refine ⟨_, rfl, _, rfl, hd, _, rfl, hv, rz_ok (n := 2) rfl (by decide) (rz ?_)⟩
              unfold farH
              rw [c2, Bool.true_and]
              exact c3
            · refine ⟨e4, fun j x hj hx => ?_, _, rfl⟩
              by_cases hji : j = i
              · subst hji
                rw [hr'] at hx
                cases hx
                unfold farH
                rw [c2, Bool.true_and]
                exact Bool.eq_false_iff.mpr c3
              · exact hno j x (by omega) hx
          · refine ⟨_, rfl, ite2 (fun c3 => ?_) (fun c3 => absurd rfl c3)⟩
            refine ⟨_, rfl, _, rfl, hd, _, rfl, hv, rz_ok (n := 2) rfl (by decide) (rz ?_)⟩
            unfold farH
            rw [Bool.eq_false_iff.mpr c2]
            rfl
        · rintro σ H4 ⟨e4, hno, v2, rfl⟩
          have hnone2 : (srtI (hl.map (·.1))).find? (farH hl) = none := find_no fun j x hx => hno j x (by
            rw [List.length_map]
            exact (List.getElem?_eq_some_iff.mp hx).1) hx
          have e04 := e03.trans e4
          have hck : ckRods n hl = if hl = [] then some (.cnt "held" 0) else none := by
            unfold ckRods
            rw [if_neg (fun y => y ok0), hnone]
            dsimp only
            rw [hnone2]
          refine ⟨_, rfl, _, .inr (.inr ⟨_, e04 _ _ hhd, rfl⟩), ?_⟩
          cases hl with
          | nil =>
            refine iteT (rz_ok (n := 2) rfl (by decide) fun d hd => ?_)
            exact kE (.cnt "held" 0) (by rw [hck]; rfl) d _ (e04.trans (Ext.upd hd)) (e04.fresh hd) upd_same
          | cons x l => exact iteF (kQ (by rw [hck]; exact if_neg (fun z => by cases z)) _ e04)
    · exact ⟨_, rfl, iteT ⟨_, rfl, rz_ok (n := 2) rfl (by decide) (r0 fun z => c0 (decide_eq_true z.1))⟩⟩
end
end K07
namespace K07
open PySem L2
section
variable {P : Program} {w : World} {K : PySem.W.Frag} {mg : Str → Option Value} {base : Heap}
def normH (hl : List (Int × Int)) : List (Int × Int) := (srtI (hl.map (·.1))).map fun r => (r, lookI hl r)
abbrev wbF : List Str := ["rods", "bars", "_held"]
def hdD (hl : List (Int × Int)) : Dt := .dic (hl.map fun p => Sum.inl p.1) (hl.map fun p => Dt.int p.2)
def wbT (CB : Addr) (n : Int) (bs : List BarD) (hl : List (Int × Int)) : List Dt := [.int n, .tup (bs.map (brD CB)), hdD hl]
def wbD (C CB : Addr) (n : Int) (bs : List BarD) (hl : List (Int × Int)) : Dt := .ins C wbF (wbT CB n bs hl)
theorem hd_is {H : Hp} {a : Addr} {hl : List (Int × Int)} (h : H a = some (.dK (hK hl))) : Is K H (hdD hl) (.ref a) := by
  refine ⟨a, hK hl, rfl, h, by unfold hK; rw [List.map_map]; rfl, ?_⟩
  unfold hK
  rw [List.map_map]
  have z := isL_ints (K := K) (H := H) (hl.map (·.2))
  rw [List.map_map, List.map_map] at z
  exact z
theorem hd_of : ∀ {hl : List (Int × Int)} {kvs : List (Key × V)}, kvs.map (·.1) = (hl.map fun p => (Sum.inl p.1 : Key)) → kvs.map (·.2) = hl.map (fun p => V.int p.2) → kvs = hK hl
  | [], [], _, _ => rfl
  | [], _ :: _, h, _ => by cases h
  | _ :: _, [], h, _ => by cases h
  | p :: hl, (k, v) :: kvs, h1, h2 => by
    rw [List.map_cons, List.map_cons] at h1 h2
    injection h1 with a1 a2
    injection h2 with b1 b2
    show _ = (Sum.inl p.1, V.int p.2) :: hK hl
    rw [← hd_of a2 b2]
    cases (show k = _ from a1)
    cases (show v = _ from b1)
    rfl
theorem wb_fields {C CB : Addr} {H : Hp} {n : Int} {bs : List BarD} {hl : List (Int × Int)} {v : V} (i : Is K H (wbD C CB n bs hl) v) :
    ∃ (a dx t d : Addr) (ws : List V), v = .ref a ∧ H a = some (.ins C dx [("rods", .int n), ("bars", .ref t), ("_held", .ref d)]) ∧ SqT K H t ws ∧ IsL K H (bs.map (brD CB)) ws ∧ H d = some (.dK (hK hl)) := by
  obtain ⟨a, dx, kvs, rfl, ha, ek, h⟩ := i
  obtain ⟨v1, r1, e1, f1, v2, r2, e2, ⟨t, ws, g1, g2, g3⟩, v3, r3, e3, ⟨d, qs, k1, k2, k3, k4⟩, e4⟩ := h
  subst e4 e3 e2
  cases (show v1 = _ from f1)
  subst g1 k1
  have hq : qs = hK hl := hd_of k3 (by
    have z : IsL K H ((hl.map (·.2)).map Dt.int) (qs.map (·.2)) := by rw [List.map_map]; exact k4
    rw [of_isL_ints z, List.map_map]
    rfl)
  subst hq
  match kvs, ek, e1 with
  | [(x1, y1), (x2, y2), (x3, y3)], ek, e1 =>
    simp only [List.map_cons, List.map_nil] at ek e1
    injection ek with g1 ek
    injection ek with g2' ek
    injection ek with g3' _
    injection e1 with h1 e1
    injection e1 with h2 e1
    injection e1 with h3 _
    subst g1 g2' g3' h1 h2 h3
    exact ⟨a, dx, t, d, ws, rfl, ha, g2, g3, k2⟩
theorem wb_is {C CB a dx t d : Addr} {H : Hp} {n : Int} {bs : List BarD} {hl : List (Int × Int)} {ws : List V} (h : H a = some (.ins C dx [("rods", .int n), ("bars", .ref t), ("_held", .ref d)])) (ht : SqT K H t ws) (hb : IsL K H (bs.map (brD CB)) ws) (hd : H d = some (.dK (hK hl))) :
    Is K H (wbD C CB n bs hl) (.ref a) := ⟨a, dx, _, rfl, h, rfl, _, _, rfl, rfl, _, _, rfl, ⟨t, ws, rfl, ht, hb⟩, _, _, rfl, hd_is hd, rfl⟩
def ckWeb (n : Int) (hl : List (Int × Int)) (bs : List BarD) : Option Rf :=
  match ckRods n hl with
  | some r => some r
  | none => ckBars n hl.length bs
def spWeb (K : PySem.W.Frag) (T : Tx K mg) : Sp := fun vs H Q E => ∃ (H0 : Hp) (x dx : Addr) (n : Int) (hd bl : Addr) (hl : List (Int × Int)) (bs : List BarD) (ws : List V), vs = [.ref x, .int n, .ref hd, .ref bl] ∧ H0 x = none ∧ H0 dx = none ∧ dx ≠ x ∧ H = upd (upd H0 dx (.own x)) x (.ins T.C_Web dx []) ∧
  H0 hd = some (.dK (hK hl)) ∧ (hl.map (·.1)).Nodup ∧ hl.length < 64 ∧ SqQ K H0 bl ws ∧ IsL K H0 (bs.map (brD T.C_Bar)) ws ∧
  (∀ r, ckWeb n hl bs = some r → r.E T E H0) ∧ (ckWeb n hl bs = none → ∀ H', Ext H0 H' → Is K H' (wbD T.C_Web T.C_Bar n bs (normH hl)) (.ref x) → (∀ a kvs, H0 a = some (.dK kvs) → Is K (del H' a) (wbD T.C_Web T.C_Bar n bs (normH hl)) (.ref x)) → Q .non H')
theorem put_new {kvs : List (Key × V)} {k : Key} {v : V} (h : k ∉ kvs.map (·.1)) : putK kvs k v = kvs ++ [(k, v)] := by
  unfold putK
  rw [if_neg]
  intro z
  obtain ⟨p, hp, e⟩ := List.any_eq_true.mp z
  exact h (List.mem_map.mpr ⟨p, hp, of_decide_eq_true e⟩)
theorem dc_list {a : Addr} {xs : List V} {g : TG} {tt : TT} {tk tv : TE} {vs : List Nat} {σ : St} {H1 : Hp} {D : Addr} {Qd : Hp → Prop} (Pv : Nat → Hp → Prop) (h0 : Pv 0 (upd H1 D (.dK []))) (hl : ∀ i H, i ≤ xs.length → Pv i H → SqL K H a xs)
    (hs : ∀ i x H, xs[i]? = some x → Pv i H → g x (wipe σ vs) H fun σ2 H2 => wipe σ2 vs = wipe σ vs ∧ tt σ2 H2 fun b H3 =>
      if b = true then tk σ2 H3 fun y H4 => tv σ2 H4 fun z H5 => ∃ kvs k, y = kV k ∧ H5 D = some (.dK kvs) ∧ kvs.length < sizeLine ∧ Pv (i + 1) (upd H5 D (.dK (putK kvs k z))) else Pv (i + 1) H3) (hd : ∀ H, Pv xs.length H → Qd H) :
    ∃ W : Nat → Nat → Hp → Prop, (∃ m, W 0 m (upd H1 D (.dK []))) ∧ ∀ i m H, W i m H →
      ((Itl K a).stop i H ∧ Qd H) ∨ ((Itl K a).go i H ∧ ∃ Nx : Hp → Prop, (∀ H', Nx H' → ∃ m', m' < m ∧ W (i + 1) m' H') ∧ ∀ x H', (Itl K a).yld i H x H' → g x (wipe σ vs) H' fun σ2 H2 => wipe σ2 vs = wipe σ vs ∧ tt σ2 H2 fun b H3 =>
        if b = true then tk σ2 H3 fun y H4 => tv σ2 H4 fun z H5 => ∃ kvs k, y = kV k ∧ H5 D = some (.dK kvs) ∧ kvs.length < sizeLine ∧ Nx (upd H5 D (.dK (putK kvs k z))) else Nx H3) := by
  refine ⟨fun i m H => m = xs.length - i ∧ i ≤ xs.length ∧ Pv i H, ⟨xs.length, by simp, Nat.zero_le _, h0⟩, ?_⟩
  rintro i m H ⟨rfl, hi, p⟩
  have q := hl i H hi p
  by_cases hlt : i < xs.length
  · refine .inr ⟨⟨xs, xs[i], q, by simp [hlt]⟩, Pv (i + 1), fun H' p' => ⟨xs.length - (i + 1), by omega, rfl, hlt, p'⟩, fun x H' y => ?_⟩
    obtain ⟨e, y⟩ := y
    subst e
    exact hs i x _ (y xs q) p
  · have e : i = xs.length := by omega
    subst e
    exact .inl ⟨⟨xs, q, Nat.le_refl _⟩, hd H p⟩
theorem Ext.dele {H0 H5 : Hp} {x : Addr} (e : Ext H0 H5) (h : H0 x = none) : Ext H0 (del H5 x) := fun a o ha => by
  have hne : a ≠ x := fun z => by rw [z, h] at ha; cases ha
  rw [del_ne hne]
  exact e a o ha
theorem SqT.de' {H : Hp} {w a : Addr} {xs : List V} (h : SqT K (del H w) a xs) : SqT K H a xs := h.ext del_ext
theorem sqT_del {H : Hp} {t a : Addr} {xs : List V} {kvs : List (Key × V)} (s : SqT K H t xs) (h : H a = some (.dK kvs)) : SqT K (del H a) t xs := by
  rcases s with (r | ⟨b, r⟩) | r
  · exact .inl (.inl (by rw [del_ne (fun e => by rw [e, h] at r; cases r)]; exact r))
  · exact .inl (.inr ⟨b, by rw [del_ne (fun e => by rw [e, h] at r; cases r)]; exact r⟩)
  · exact .inr r
theorem brL_del {C : Addr} {H : Hp} {a : Addr} {kvs : List (Key × V)} (h : H a = some (.dK kvs)) : ∀ {bs : List BarD} {vs : List V}, IsL K H (bs.map (brD C)) vs → IsL K (del H a) (bs.map (brD C)) vs
  | [], _, e => e
  | b :: bs, _, ⟨v, r, e, i, il⟩ => by
    obtain ⟨x, dx, rfl, hx⟩ := br_fields i
    exact ⟨_, r, e, br_is (dx := dx) (by rw [del_ne (fun e => by rw [e, h] at hx; cases hx)]; exact hx), brL_del h il⟩
theorem ok_Web_init (T : Tx K mg) : FnOk P w K mg base (L2.CX P w) 8 T.a_Web_init T.fd_Web_init ["self", "rods", "held", "bars"] (spWeb K T) := by
  refine T.F_Web_init.okX sc_Web_init (fun vs H Q E h => ?_) (fun cdv A outer s H vs Q E hr h => ?_)
  · obtain ⟨H0, x, dx, n, hd, bl, hl, bs, ws, rfl, _⟩ := h
    rfl
  · obtain ⟨H0, x, dx, n, hd, bl, hl, bs, ws, rfl, hx, hdx, hne, rfl, hhd, hnd, h64, hbl, hbs, kE, kQ⟩ := h
    refine ⟨_, (pss_cons (ps_expr (pe_call (ok_check_rods T) (hr.mono (by decide)) rfl T.m_check_rods T.F_check_rods.kp T.b_check_rods .nil (passes_call (takes_of rfl rfl rfl rfl) (fun _ _ _ _ h => h)) (pa_cons (pv 1) (pa_cons (pv 2) pa_nil))))
      (pss_cons (ps_expr (pe_call (ok_check_bars T) (hr.mono (by decide)) rfl T.m_check_bars T.F_check_bars.kp T.b_check_bars .nil (passes_call (takes_of rfl rfl rfl rfl) (fun _ _ _ _ h => h)) (pa_cons (pv 1) (pa_cons (pv 2) (pa_cons (pv 3) pa_nil)))))
      (pss_cons (ps_fld (pv 0) (pv 1) rfl)
      (pss_cons (ps_fld (pv 0) (pe_callTy call_tuple_of (by rfl) T.z_tuple (by decide +kernel) (pa_cons (pv 3) pa_nil)) rfl)
      (pss_one (ps_fld (pv 0) (pe_dc (own := [("rod", 4)]) (g := gName 4) (tt := tYes) rfl sc_Web_init.nd (pi_list (pe_callB (call_sortedDI rfl) (by rfl) T.z_sorted (by decide +kernel) (pa_cons (pv 2) pa_nil))) (blkOk_by (own := [("rod", 4)]) (N := N_Web_init) (sc := defScope s_Web_init) (by decide +kernel)) (fun _ _ _ _ _ => pg_name (i := 4) sc_Web_init.nd rfl (Or.inl rfl)) (fun _ _ _ _ _ => pts_nil) (fun _ _ _ _ _ => pv 4) (fun _ _ _ _ _ => pe_dget (hu_of hr) (pv 2) (pv 4) (fun _ _ => rfl))) rfl)))))), ?_⟩
    have eH : Ext H0 (upd (upd H0 dx (.own x)) x (.ins T.C_Web dx [])) := (Ext.upd hdx).mut hx
    have hxi : (upd (upd H0 dx (.own x)) x (.ins T.C_Web dx [])) x = some (.ins T.C_Web dx []) := upd_same
    generalize upd (upd H0 dx (.own x)) x (.ins T.C_Web dx []) = H1 at eH hxi ⊢
    refine ⟨_, rfl, _, rfl, n, hd, hl, rfl, eH _ _ hhd, h64, fun r hr' => ?_, fun hc1 H2 e2 => ?_⟩
    · exact fun d H' e' hd0 hx' => kE r (by unfold ckWeb; rw [hr']) d H' (eH.trans e') (eH.fresh hd0) hx'
    have e02 := eH.trans e2
    refine ⟨_, rfl, _, rfl, _, rfl, n, hd, bl, hl, bs, ws, rfl, e02 _ _ hhd, hbl.ext e02, hbs.ext e02, fun r hr' => ?_, fun hc2 H3 e3 => ?_⟩
    · exact fun d H' e' hd0 hx' => kE r (by unfold ckWeb; rw [hc1]; exact hr') d H' (e02.trans e') (e02.fresh hd0) hx'
    have e03 := e02.trans e3
    have hx3 := e3 _ _ (e2 _ _ hxi)
    have hck : ckWeb n hl bs = none := by unfold ckWeb; rw [hc1]; exact hc2
    refine ⟨_, rfl, _, rfl, x, T.C_Web, dx, _, rfl, hx3, T.c_Web, T.nf_Web_rods, (by show 0 < 1000; decide), ?_⟩
    have e04 : Ext H0 (upd H3 x (.ins T.C_Web dx (putF "rods" (.int n) []))) := e03.mut hx
    have hx4 : (upd H3 x (.ins T.C_Web dx (putF "rods" (.int n) []))) x = some (.ins T.C_Web dx [("rods", .int n)]) := upd_same
    generalize upd H3 x (.ins T.C_Web dx (putF "rods" (.int n) [])) = H4 at e04 hx4 ⊢
    rcases hbl with hb | hb
    refine ⟨_, rfl, bl, ws, rfl, .inl ⟨hb.ext e04, fun t htn => ?_⟩⟩
    have e45 : Ext H4 (upd H4 t (.tup ws)) := Ext.upd htn
    have ht : SqT K (del (upd H4 t (.tup ws)) x) t ws := SqT.of (by rw [del_ne (ne_of_none hx4 htn).symm, upd_same])
    have hbs5 := hbs
    generalize upd H4 t (.tup ws) = H5 at e45 ht ⊢
    rotate_left
    refine ⟨_, rfl, bl, ws, rfl, .inr ⟨hb.ext e04, ?_⟩⟩
    obtain ⟨H5, e5⟩ : ∃ H5, H5 = H4 := ⟨_, rfl⟩
    rw [← e5]
    have e45 : Ext H4 H5 := e5 ▸ Ext.rfl'
    have ht : SqT K (del H5 x) bl ws := by rw [e5]; exact hb.ext (Ext.dele e04 hx)
    clear e5 hb
    have hbs5 := hbs
    revert ht
    generalize bl = t
    intro ht
    all_goals
      have hx5 := e45 _ _ hx4
      have e05 := e04.trans e45
      refine ⟨_, rfl, x, T.C_Web, dx, _, rfl, hx5, T.c_Web, T.nf_Web_bars, (by show 1 < 1000; decide), ?_⟩
      have e06 : Ext H0 (upd H5 x (.ins T.C_Web dx (putF "bars" (.ref t) [("rods", .int n)]))) := e05.mut hx
      have hx6 : (upd H5 x (.ins T.C_Web dx (putF "bars" (.ref t) [("rods", .int n)]))) x = some (.ins T.C_Web dx [("rods", .int n), ("bars", .ref t)]) := upd_same
      have d56 : DE x H5 (upd H5 x (.ins T.C_Web dx (putF "bars" (.ref t) [("rods", .int n)]))) := DE.upd
      generalize upd H5 x (.ins T.C_Web dx (putF "bars" (.ref t) [("rods", .int n)])) = H6 at e06 hx6 d56 ⊢
      have hkk : (hK hl).map (·.1) = (hl.map (·.1)).map Sum.inl := by
        unfold hK
        rw [List.map_map, List.map_map]
        rfl
      refine ⟨_, rfl, hd, _, _, rfl, .inl (e06 _ _ hhd), hkk, by rw [List.length_map]; exact h64, fun ys p hp hs hpn => ?_⟩
      cases srt_eq hp hs
      have hp7 : (upd H6 p (.lst ((srtI (hl.map (·.1))).map V.int))) p = some (.lst ((srtI (hl.map (·.1))).map V.int)) := upd_same
      have e67 : Ext H6 (upd H6 p (.lst ((srtI (hl.map (·.1))).map V.int))) := Ext.upd hpn
      generalize upd H6 p (.lst ((srtI (hl.map (·.1))).map V.int)) = H7 at hp7 e67 ⊢
      have e07 := e06.trans e67
      have hx7 := e67 _ _ hx6
      have d57 := d56.trans (DE.of e67)
      refine ⟨p, rfl, ⟨_, SqL.of hp7⟩, fun D hD => dc_list (K := K) (a := p) (xs := (srtI (hl.map (·.1))).map V.int) (fun i H' => Ext H7 H' ∧ H' D = some (.dK (hK (((srtI (hl.map (·.1))).take i).map fun r => (r, lookI hl r)))))
        ⟨Ext.upd hD, upd_same⟩ (fun i H' _ p => (SqL.of hp7).ext p.1) ?_ ?_⟩
      · rintro i y H8 hi ⟨e78, hD8⟩
        obtain ⟨r, hr', rfl⟩ : ∃ r, (srtI (hl.map (·.1)))[i]? = some r ∧ y = V.int r := by
          rw [List.getElem?_map] at hi
          cases e : (srtI (hl.map (·.1)))[i]? with
          | none => rw [e] at hi; cases hi
          | some n => rw [e] at hi; exact ⟨n, rfl, (Option.some.inj hi).symm⟩
        have hmem : r ∈ hl.map (·.1) := (srtI_perm _).mem_iff.mp (List.mem_of_getElem? hr')
        have hv : DGet H8 hd (V.int r) (some (V.int (lookI hl r))) := by
          rw [← val_hK hmem]
          exact DGet.k (k := Sum.inl r) ((e07.trans e78) _ _ hhd)
        have hnew : (Sum.inl r : Key) ∉ (hK (((srtI (hl.map (·.1))).take i).map fun r => (r, lookI hl r))).map (·.1) := by
          intro z
          unfold hK at z
          rw [List.map_map, List.map_map] at z
          obtain ⟨r', h1, h2⟩ := List.mem_map.mp z
          have e : r' = r := Sum.inl.inj h2
          subst e
          have hnd2 : (srtI (hl.map (·.1))).Nodup := (srtI_perm _).nodup_iff.mpr hnd
          obtain ⟨j, hj⟩ := List.getElem?_of_mem h1
          have hji : j < i := by
            have := (List.getElem?_eq_some_iff.mp hj).1
            rw [List.length_take] at this
            omega
          rw [List.getElem?_take_of_lt hji] at hj
          have hlt := (List.getElem?_eq_some_iff.mp hr').1
          have := (List.getElem?_inj (i := j) (j := i) (by omega) hnd2).mp (hj.trans hr'.symm)
          omega
        refine ⟨rfl, tyes ?_⟩
        refine ⟨_, rfl, _, rfl, _, rfl, hd, _, rfl, hv, _, Sum.inl r, rfl, hD8, ?_, e78.mut hD, ?_⟩
        · unfold hK
          rw [List.length_map, List.length_map, List.length_take]
          exact Nat.lt_of_lt_of_le (show min i (srtI (hl.map (·.1))).length < 100 by
            rw [(srtI_perm (hl.map (·.1))).length_eq, List.length_map]
            omega) (by decide)
        · rw [upd_same, put_new hnew, List.take_add_one, hr']
          unfold hK
          simp
      · rintro H8 ⟨e78, hD8⟩
        rw [List.length_map, List.take_length] at hD8
        have hx8 := e78 _ _ hx7
        refine ⟨_, rfl, x, T.C_Web, dx, _, rfl, hx8, T.c_Web, T.nf_Web_held, (by show 2 < 1000; decide), ?_⟩
        have d59 : DE x H5 (upd H8 x (.ins T.C_Web dx [("rods", .int n), ("bars", .ref t), ("_held", .ref D)])) := (d57.trans (DE.of e78)).trans DE.upd
        have e09 : Ext H0 (upd H8 x (.ins T.C_Web dx [("rods", .int n), ("bars", .ref t), ("_held", .ref D)])) := (e07.trans e78).mut hx
        have hDx : D ≠ x := (ne_of_none hx7 hD).symm
        have hD9 : (upd H8 x (.ins T.C_Web dx [("rods", .int n), ("bars", .ref t), ("_held", .ref D)])) D = some (.dK (hK (normH hl))) := by
          rw [upd_ne hDx]
          exact hD8
        have ht9 := SqT.de' (K := K) (ht.ext d59)
        refine kQ hck _ e09 (wb_is upd_same ht9 (hbs.ext e09) hD9) fun a kvs ha => ?_
        have ha9 := e09 _ _ ha
        refine wb_is (dx := dx) (t := t) (d := D) ?_ (sqT_del ht9 ha9) (brL_del ha9 (hbs.ext e09)) ?_
        · rw [del_ne (ne_of_none ha hx).symm, upd_same]
          rfl
        · rw [del_ne (ne_of_none (e07 _ _ ha) hD).symm]
          exact hD9
end
end K07
namespace K07
open PySem L2
section
variable {P : Program} {w : World} {K : PySem.W.Frag} {mg : Str → Option Value} {base : Heap}
def spHeld (K : PySem.W.Frag) (C CB : Addr) : Sp := fun vs H Q _ => ∃ (v : V) (n : Int) (bs : List BarD) (hl : List (Int × Int)), vs = [v] ∧ Is K H (wbD C CB n bs hl) v ∧ ∀ p, H p = none → Q (.ref p) (upd H p (.dK (hK hl)))
theorem ok_Web_held (T : Tx K mg) : FnOk P w K mg base (L2.CX P w) 2 T.a_Web_held T.fd_Web_held ["self"] (spHeld K T.C_Web T.C_Bar) := by
  refine T.F_Web_held.okX sc_Web_held (fun vs H Q E h => ?_) (fun cdv A outer s H vs Q E hr h => ?_)
  · obtain ⟨v, n, bs, hl, rfl, _⟩ := h
    rfl
  · obtain ⟨v, n, bs, hl, rfl, hw, k⟩ := h
    refine ⟨_, (pss_one (ps_ret (pe_callTy call_dictD (by rfl) T.z_dict (by decide +kernel) (pa_cons (pe_fld (pv 0) rfl) pa_nil)))), ?_⟩
    obtain ⟨a, dx, t, d, ws, rfl, ha, ht, hb, hd⟩ := wb_fields hw
    exact ⟨_, rfl, a, T.C_Web, dx, _, _, rfl, ha, T.c_Web, T.nf_Web_held, rfl, d, _, rfl, .inl hd, k⟩
end
end K07
namespace K07
open PySem L2
section
variable {P : Program} {w : World} {K : PySem.W.Frag} {mg : Str → Option Value} {base : Heap}
def spWell : Sp := fun vs H Q _ => ∃ c : Int, vs = [.int c] ∧ ∀ p H', H p = none → Ext H H' → WellAt H' p → Q (.ref p) H'
theorem ok_l_well (T : Tx K mg) : FnOk P w K mg base (L2.CX P w) 1 T.a_l_well T.fd_l_well ["_law_cell"] spWell := by
  refine T.F_l_well.okX sc_l_well (fun vs H Q E h => ?_) (fun cdv A outer s H vs Q E hr h => ?_)
  · obtain ⟨c, rfl, _⟩ := h
    rfl
  · obtain ⟨c, rfl, k⟩ := h
    refine ⟨_, (pss_one (ps_ret (pe_lst (pa_cons (pe_callB call_abs (by rfl) T.z_abs (by decide +kernel) (pa_cons (pv 0) pa_nil)) (pa_cons (pe_op op_modN (pv 0) pe_int) (pa_cons pe_int pa_nil)))))), ?_⟩
    refine ⟨_, rfl, _, rfl, _, rfl, _, _, rfl, rfl, (show (2147483629 : Int) ≠ 0 by decide), (by show 3 ≤ sizeLine; decide), fun p hp => ?_⟩
    exact k p _ hp (Ext.upd hp) ⟨_, _, _, upd_same⟩
def spDraw : Sp := fun vs H Q _ => ∃ (p : Addr) (m : Int), vs = [.ref p, .int m] ∧ WellAt H p ∧ 0 < m ∧ m < 1073741824 ∧ ∀ (r : Int) (H' : Hp), DE p H H' → WellAt H' p → 0 ≤ r → r < m → Q (.int r) H'
theorem ok_l_draw (T : Tx K mg) : FnOk P w K mg base (L2.CX P w) 1 T.a_l_draw T.fd_l_draw ["_law_well_here", "_law_many"] spDraw := by
  refine T.F_l_draw.okX sc_l_draw (fun vs H Q E h => ?_) (fun cdv A outer s H vs Q E hr h => ?_)
  · obtain ⟨p, m, rfl, _⟩ := h
    rfl
  · obtain ⟨p, m, rfl, ⟨a, b, c, hw⟩, hm, hm2, k⟩ := h
    refine ⟨_, (pss_cons (ps_if (pt_cmpR op_ge (pe_ix ix_list (pv 0) pe_int (fun _ _ => rfl)) (pe_op op_pow pe_int pe_int) (nomark _)) (pss_cons (ps_set (i := 2) sc_l_draw.nd rfl (Or.inl rfl) (pe_op op_modN (pe_ix ix_list (pv 0) pe_int (fun _ _ => rfl)) (pv 1)))
      (pss_cons (ps_asg (pe_op op_fdivN (pe_ix ix_list (pv 0) pe_int (fun _ _ => rfl)) (pv 1)) (pg_sub (pv 0) pe_int set_list))
      (pss_one (ps_ret (pv 2))))) pss_nil)
      (pss_cons (ps_asg (pe_op op_add (pe_ix ix_list (pv 0) pe_int (fun _ _ => rfl)) pe_int) (pg_sub (pv 0) pe_int set_list))
      (pss_cons (ps_set (i := 3) sc_l_draw.nd rfl (Or.inl rfl) (pe_op op_modN (pe_op op_mul (pe_op op_add (pe_op op_add (pe_ix ix_list (pv 0) pe_int (fun _ _ => rfl)) (pe_op op_mul pe_int (pe_ix ix_list (pv 0) pe_int (fun _ _ => rfl)))) pe_int) pe_int) pe_int))
      (pss_cons (ps_set (i := 3) sc_l_draw.nd rfl (Or.inl rfl) (pe_op op_modN (pe_op op_mul (pv 3) (pe_op op_add (pe_op op_fdivN (pv 3) pe_int) pe_int)) pe_int))
      (pss_one (ps_ret (pe_op op_modN (pe_op op_modN (pe_op op_add (pe_op op_fdivN (pv 3) pe_int) (pe_op op_mul (pe_op op_modN (pv 3) pe_int) pe_int)) pe_int) (pv 1)))))))), ?_⟩
    have b0 : (0 : Int) < 10 ^ 18 := by decide
    refine ⟨_, rfl, p, _, _, _, rfl, rfl, SqL.of hw, at3a, _, _, rfl, rfl, cpow18, _, _, rfl, rfl, _, rfl, ?_⟩
    refine ite2 (fun _ => ?_) (fun _ => ?_)
    · refine ⟨_, rfl, p, _, _, _, rfl, rfl, SqL.of hw, at3a, _, rfl, _, _, rfl, rfl, (by omega), ?_⟩
      refine ⟨_, rfl, p, _, _, _, rfl, rfl, SqL.of hw, at3a, _, rfl, _, _, rfl, rfl, ⟨by omega, by omega⟩, ?_⟩
      refine ⟨_, rfl, p, _, _, 0, rfl, rfl, hw, rfl, ?_⟩
      refine ⟨_, rfl, ?_⟩
      have fb := fmod_bounds (a := a) hm
      exact k _ _ DE.upd ⟨_, _, _, upd_same⟩ fb.1 fb.2
    · refine ⟨_, rfl, p, _, _, _, rfl, rfl, SqL.of hw, at3c, _, _, rfl, rfl, ?_⟩
      refine ⟨_, rfl, p, _, _, 2, rfl, rfl, hw, rfl, ?_⟩
      have hw2 : (upd H p (.lst [.int a, .int b, .int (c + 1)])) p = some (.lst [.int a, .int b, .int (c + 1)]) := upd_same
      refine ⟨_, rfl, p, _, _, _, rfl, rfl, SqL.of hw2, at3b, _, rfl, p, _, _, _, rfl, rfl, SqL.of hw2, at3c, _, _, rfl, rfl, .inl ⟨by decide, by decide⟩, _, _, rfl, rfl, _, _, rfl, rfl, _, _, rfl, rfl, .inr ⟨by decide, by decide⟩, _, _, rfl, rfl, (show (2147483647 : Int) ≠ 0 by decide), ?_⟩
      have n1 := fmod_bounds (a := (b + 7919 * (c + 1) + 1) * 48271) (m := 2147483647) (by decide)
      refine ⟨_, rfl, _, rfl, _, _, rfl, rfl, ⟨by decide, by decide⟩, _, _, rfl, rfl, _, _, rfl, rfl, .inl ⟨Int.lt_of_lt_of_le (by decide) n1.1, Int.lt_trans n1.2 (by decide)⟩, _, _, rfl, rfl, (show (2147483587 : Int) ≠ 0 by decide), ?_⟩
      refine ⟨_, rfl, _, _, rfl, rfl, ⟨by decide, by decide⟩, _, rfl, _, _, rfl, rfl, (show (7919 : Int) ≠ 0 by decide), _, _, rfl, rfl, .inr ⟨by decide, by decide⟩, _, _, rfl, rfl, _, _, rfl, rfl, (show (2147483399 : Int) ≠ 0 by decide), _, rfl, _, _, rfl, rfl, (show m ≠ 0 by omega), ?_⟩
      exact k _ _ DE.upd ⟨_, _, _, upd_same⟩ (fmod_bounds hm).1 (fmod_bounds hm).2
def spOne (K : PySem.W.Frag) : Sp := fun vs H Q _ => ∃ (p l : Addr) (xs : List V), vs = [.ref p, .ref l] ∧ WellAt H p ∧ SqL K (del H p) l xs ∧ 0 < xs.length ∧ xs.length < 1000000 ∧ ∀ (x : V) (H' : Hp), x ∈ xs → DE p H H' → WellAt H' p → Q x H'
theorem ok_l_one (T : Tx K mg) : FnOk P w K mg base (L2.CX P w) 2 T.a_l_one T.fd_l_one ["_law_well_here", "_law_some"] (spOne K) := by
  refine T.F_l_one.okX sc_l_one (fun vs H Q E h => ?_) (fun cdv A outer s H vs Q E hr h => ?_)
  · obtain ⟨p, l, xs, rfl, _⟩ := h
    rfl
  · obtain ⟨p, l, xs, rfl, hw, hl, h0, h1, k⟩ := h
    refine ⟨_, (pss_one (ps_ret (pe_ix ix_list (pv 1) (pe_call (ok_l_draw T) (hr.mono (by decide)) rfl T.m_l_draw T.F_l_draw.kp T.b_l_draw .nil passL (pa_cons (pv 0) (pa_cons (pe_callB call_len_seq (by rfl) T.z_len PySem.boot_len (pa_cons (pv 1) pa_nil)) pa_nil))) (fun _ _ => rfl)))), ?_⟩
    refine ⟨_, rfl, _, rfl, _, rfl, l, xs, rfl, .inl hl.de, p, _, rfl, hw, by omega, by omega, fun r H' e hw' r0 r1 => ?_⟩
    obtain ⟨x, hx, ha⟩ := atI_of r0 r1
    exact ⟨l, xs, r, x, rfl, rfl, (hl.ext e).de, ha, k x H' (List.mem_of_getElem? hx) e hw'⟩
end
end K07
namespace K07
open PySem L2
section
variable {P : Program} {w : World} {K : PySem.W.Frag} {mg : Str → Option Value} {base : Heap}
theorem erase_perm {α : Type} : ∀ {l : List α} {i : Nat} {y : α}, l[i]? = some y → (y :: l.eraseIdx i).Perm l
  | [], _, _, h => by simp at h
  | x :: l, 0, y, h => by
    cases (show some x = some y from h)
    exact .refl _
  | x :: l, i + 1, y, h => by
    rw [List.eraseIdx_cons_succ]
    exact (List.Perm.swap x y _).trans (.cons x (erase_perm (l := l) (i := i) h))
theorem erase_map {α β : Type} (f : α → β) : ∀ (l : List α) (i : Nat), (l.map f).eraseIdx i = (l.eraseIdx i).map f
  | [], _ => rfl
  | _ :: _, 0 => rfl
  | x :: l, i + 1 => by
    rw [List.map_cons, List.eraseIdx_cons_succ, List.eraseIdx_cons_succ, List.map_cons, erase_map f l i]
theorem erase_len {α : Type} : ∀ {l : List α} {i : Nat}, i < l.length → (l.eraseIdx i).length + 1 = l.length
  | [], _, h => absurd h (Nat.not_lt_zero _)
  | _ :: _, 0, _ => rfl
  | x :: l, i + 1, h => by
    rw [List.eraseIdx_cons_succ, List.length_cons, List.length_cons, erase_len (Nat.lt_of_succ_lt_succ h)]
def spMixed (K : PySem.W.Frag) : Sp := fun vs H Q _ => ∃ (p l : Addr) (ns : List Int), vs = [.ref p, .ref l] ∧ WellAt H p ∧ SqL K (del H p) l (ns.map V.int) ∧ ns.length < 1000 ∧
  ∀ (a : Addr) (ms : List Int) (H' : Hp), a ≠ p → del H p a = none → DE p H H' → WellAt H' p → H' a = some (.lst (ms.map V.int)) → ms.Perm ns → Q (.ref a) H'
theorem ok_l_mixed (T : Tx K mg) : FnOk P w K mg base (L2.CX P w) 12 T.a_l_mixed T.fd_l_mixed ["_law_well_here", "_law_some"] (spMixed K) := by
  refine T.F_l_mixed.okX sc_l_mixed (fun vs H Q E h => ?_) (fun cdv A outer s H vs Q E hr h => ?_)
  · obtain ⟨p, l, ns, rfl, _⟩ := h
    rfl
  · obtain ⟨p, l, ns, rfl, hw, hl, hn, k⟩ := h
    refine ⟨_, (pss_cons (ps_set (i := 2) sc_l_mixed.nd rfl (Or.inl rfl) (pe_callTy call_list_of (by rfl) T.z_list (by decide +kernel) (pa_cons (pv 1) pa_nil)))
      (pss_cons (ps_set (i := 3) sc_l_mixed.nd rfl (Or.inl rfl) (pe_lst pa_nil))
      (pss_cons (ps_while (passes_of rfl) (pt_cmpR (op_neO pureTab pureNe hr (by decide)) (pv 2) (pe_lst pa_nil) (nomark _)) (pss_one (ps_expr (pe_bm PySem.F.plainAttrs_list PySem.F.slot_list_append PySem.F.type_list_append mt_append (pv 3) (pa_cons (pe_bm PySem.F.plainAttrs_list PySem.F.slot_list_pop PySem.F.type_list_pop mt_popAt (pv 2) (pa_cons (pe_call (ok_l_draw T) (hr.mono (by decide)) rfl T.m_l_draw T.F_l_draw.kp T.b_l_draw .nil passL (pa_cons (pv 0) (pa_cons (pe_callB call_len_seq (by rfl) T.z_len PySem.boot_len (pa_cons (pv 2) pa_nil)) pa_nil))) pa_nil)) pa_nil)))))
      (pss_one (ps_ret (pv 3)))))), ?_⟩
    refine ⟨_, rfl, l, _, rfl, .inl hl.de, fun L hL => ?_⟩
    refine ⟨by show 0 ≤ sizeLine; decide, fun F hF => ?_⟩
    have hLp : L ≠ p := hw.ne hL
    have hw1 : WellAt (upd H L (.lst (ns.map V.int))) p := hw.ext (Ext.upd hL)
    have hFp : F ≠ p := hw1.ne hF
    have hFL : F ≠ L := fun e => by rw [e, upd_same] at hF; cases hF
    have hFH : H F = none := by rw [upd_ne hFL] at hF; exact hF
    have hL0 : del H p L = none := by rw [del_ne hLp]; exact hL
    have hF0 : del H p F = none := by rw [del_ne hFp]; exact hFH
    refine while_by (fun σ H' => ∃ ls fs : List Int, σ = [some (.ref p), some (.ref l), some (.ref L), some (.ref F)] ∧ H' L = some (.lst (ls.map V.int)) ∧ H' F = some (.lst (fs.map V.int)) ∧ (fs ++ ls).Perm ns ∧ DE p H H' ∧ WellAt H' p)
      (fun σ H' => match H' L with | some (.lst xs) => xs.length | _ => 0) ⟨ns, [], rfl, by rw [upd_ne hFL.symm, upd_same], upd_same, .refl _, (DE.of (Ext.upd hL)).trans (DE.of (Ext.upd hF)), hw1.ext (Ext.upd hF)⟩ ?_ ?_
    · rintro σ H1 ⟨ls, fs, rfl, hLs, hFs, hp, e1, hw2⟩
      have hlen : fs.length + ls.length = ns.length := by rw [← hp.length_eq, List.length_append]
      refine ⟨_, rfl, by show 0 ≤ sizeLine; decide, fun z hz => ⟨.lst (ls.map Dt.int), .lst [], is_lst (Ext.upd hz _ _ hLs) (isL_ints _), is_lst upd_same rfl, okL_pure (pureL_ints _), trivial, by show depL _ + 1 ≤ 8; rw [depL_ints]; decide, .inl rfl, fun H2 e2' => ?_⟩⟩
      have e2 : Ext H1 H2 := (Ext.upd hz).trans e2'
      rw [show deq (.lst (ls.map Dt.int)) (.lst []) = deqL (ls.map Dt.int) (([] : List Int).map Dt.int) from rfl, deqL_ints]
      refine ⟨_, rfl, ite2 (fun c => ?_) (fun c => ?_)⟩
      · have hne : ls ≠ [] := fun e => by rw [e] at c; simp at c
        have hpos : 0 < ls.length := List.length_pos_iff.mpr hne
        have hLs2 := e2 _ _ hLs
        have hFs2 := e2 _ _ hFs
        refine ⟨_, rfl, .inl ⟨rfl, _, SqL.of hFs2⟩, ?_⟩
        refine ⟨_, rfl, .inl ⟨rfl, _, SqL.of hLs2⟩, ?_⟩
        refine ⟨_, rfl, _, rfl, L, _, rfl, .inl (SqL.of hLs2), p, _, rfl, hw2.ext e2, by rw [List.length_map]; omega, by rw [List.length_map]; omega, fun r H3 e3 hw3 r0 r1 => ?_⟩
        rw [List.length_map] at r1
        have hLs3 := e3.to hLs2 hLp
        have hFs3 := e3.to hFs2 hFp
        have hr2 : r.toNat < ls.length := by omega
        have hy : ls[r.toNat]? = some (ls[r.toNat]'hr2) := List.getElem?_eq_getElem hr2
        generalize ls[r.toNat]'hr2 = y at hy
        refine ⟨L, _, r, r.toNat, V.int y, rfl, rfl, hLs3, by omega, by omega, seqIndex_of r0 (by rw [List.length_map]; exact r1), by rw [List.getElem?_map, hy]; rfl, ?_⟩
        refine ⟨F, _, _, rfl, rfl, by rw [upd_ne hFL]; exact hFs3, by rw [List.length_map]; exact Nat.lt_of_lt_of_le (show fs.length < 1000 by omega) (by decide), ?_⟩
        refine ⟨⟨ls.eraseIdx r.toNat, fs ++ [y], rfl, by rw [upd_ne hFL.symm, upd_same, erase_map], by rw [upd_same, List.map_append]; rfl, ?_, ?_, ?_⟩, ?_⟩
        · refine List.Perm.trans ?_ hp
          rw [List.append_assoc]
          exact List.Perm.append_left fs (erase_perm hy)
        · exact DE.mut (DE.mut ((e1.trans (DE.of e2)).trans e3) hL0) hF0
        · exact (hw3.upd hLp).upd hFp
        · show (match (upd (upd H3 L _) F _) L with | some (.lst xs) => xs.length | _ => 0) < (match H1 L with | some (.lst xs) => xs.length | _ => 0)
          rw [upd_ne hFL.symm, upd_same, hLs]
          show (List.eraseIdx _ _).length < (List.map V.int ls).length
          have := erase_len (l := ls.map V.int) (i := r.toNat) (by rw [List.length_map]; exact hr2)
          omega
      · have he : ls = [] := Classical.byContradiction fun z => c (by rw [decide_eq_false z]; rfl)
        subst he
        rw [List.append_nil] at hp
        exact ⟨_, rfl, k F fs H2 hFp hF0 (e1.trans (DE.of e2)) (hw2.ext e2) (e2 _ _ hFs) hp⟩
    · intro σ H Q Q' m h
      obtain ⟨v, hv, z, k⟩ := h
      exact ⟨v, hv, z, fun p hp => by
        obtain ⟨d, e, i1, i2, i3, i4, i5, i6, q⟩ := k p hp
        exact ⟨d, e, i1, i2, i3, i4, i5, i6, fun H' e' => by
          obtain ⟨c, hc, q⟩ := q H' e'
          exact ⟨c, hc, m _ _ q⟩⟩⟩
def spHeight : Sp := fun vs H Q _ => ∃ (p : Addr), vs = [.ref p] ∧ WellAt H p ∧ ∀ (x : Int) (H' : Hp), DE p H H' → WellAt H' p → -1000000 ≤ x → x ≤ 1000000 → Q (.int x) H'
theorem ok_l_height (T : Tx K mg) : FnOk P w K mg base (L2.CX P w) 3 T.a_l_height T.fd_l_height ["_law_well_here"] spHeight := by
  refine T.F_l_height.okX sc_l_height (fun vs H Q E h => ?_) (fun cdv A outer s H vs Q E hr h => ?_)
  · obtain ⟨p, rfl, _⟩ := h
    rfl
  · obtain ⟨p, rfl, hw, k⟩ := h
    refine ⟨_, (pss_one (ps_ret (pe_call (ok_l_one T) (hr.mono (by decide)) rfl T.m_l_one T.F_l_one.kp T.b_l_one .nil passL (pa_cons (pv 0) (pa_cons (pe_lst (pa_cons pe_int (pa_cons pe_int (pa_cons (pe_un un_neg pe_int) (pa_cons pe_int (pa_cons (pe_un un_neg pe_int) (pa_cons pe_int (pa_cons pe_int (pa_cons (pe_op op_sub (pe_call (ok_l_draw T) (hr.mono (by decide)) rfl T.m_l_draw T.F_l_draw.kp T.b_l_draw .nil passL (pa_cons (pv 0) (pa_cons pe_int pa_nil))) pe_int) pa_nil))))))))) pa_nil))))), ?_⟩
    refine ⟨_, rfl, _, rfl, _, rfl, _, rfl, p, _, rfl, hw, by decide, by decide, fun r H1 e1 hw1 r0 r1 => ?_⟩
    refine ⟨_, _, rfl, rfl, by show 8 ≤ sizeLine; decide, fun L hL => ?_⟩
    have hLp : L ≠ p := hw1.ne hL
    refine ⟨p, L, _, rfl, hw1.ext (Ext.upd hL), SqL.of (by rw [del_ne hLp]; exact upd_same), by show 0 < 8; decide, by show 8 < 1000000; decide, fun x H2 hx e2 hw2 => ?_⟩
    obtain ⟨y, rfl, y1, y2⟩ : ∃ y : Int, x = V.int y ∧ -20 ≤ y ∧ y ≤ 20 := by
      simp only [List.mem_cons, List.not_mem_nil, or_false] at hx
      rcases hx with rfl | rfl | rfl | rfl | rfl | rfl | rfl | rfl
      all_goals first
        | exact ⟨_, rfl, by decide, by decide⟩
        | exact ⟨_, rfl, by omega, by omega⟩
    exact k y H2 ((e1.trans (DE.of (Ext.upd hL))).trans e2) hw2 (by omega) (by omega)
end
end K07
namespace K07
open PySem L2
section
variable {P : Program} {w : World} {K : PySem.W.Frag} {mg : Str → Option Value} {base : Heap}
def spBarFact (K : PySem.W.Frag) : Sp := fun vs H Q _ => ∃ (p l : Addr) (x y z : Int) (r : List Int), vs = [.ref p, .ref l] ∧ WellAt H p ∧ SqL K (del H p) l ((x :: y :: z :: r).map V.int) ∧
  ∀ (t : Addr) (b : BarD) (H' : Hp), t ≠ p → del H p t = none → DE p H H' → WellAt H' p → H' t = some (.tup (brV b)) → b.a = x → b.b = y → b.c = z → 1 ≤ b.len → b.len ≤ 1000000 → 0 ≤ b.lo → b.lo ≤ b.hi → b.hi ≤ b.len → Q (.ref t) H'
theorem two_sorted {r1 r2 m : Int} {ys : List Int} (hp : ys.Perm [r1, r2]) (hs : ys.Pairwise (· ≤ ·)) (a1 : 0 ≤ r1) (b1 : r1 ≤ m) (a2 : 0 ≤ r2) (b2 : r2 ≤ m) : ∃ u v, ys = [u, v] ∧ 0 ≤ u ∧ u ≤ v ∧ v ≤ m := by
  have hl := hp.length_eq
  match ys, hl with
  | [u, v], _ =>
    have hu : u ∈ [r1, r2] := hp.mem_iff.mp List.mem_cons_self
    have hv : v ∈ [r1, r2] := hp.mem_iff.mp (List.mem_cons_of_mem _ List.mem_cons_self)
    simp only [List.mem_cons, List.not_mem_nil, or_false] at hu hv
    have h12 : u ≤ v := by
      cases hs with
      | cons h _ => exact h v List.mem_cons_self
    exact ⟨u, v, rfl, by rcases hu with rfl | rfl <;> omega, h12, by rcases hv with rfl | rfl <;> omega⟩
theorem at_0 {x : Int} {r : List Int} : atI ((x :: r).map V.int) 0 = some (V.int x) := atI_nat (xs := (x :: r).map V.int) (j := 0) rfl
theorem at_1 {x y : Int} {r : List Int} : atI ((x :: y :: r).map V.int) 1 = some (V.int y) := atI_nat (xs := (x :: y :: r).map V.int) (j := 1) rfl
theorem at_2 {x y z : Int} {r : List Int} : atI ((x :: y :: z :: r).map V.int) 2 = some (V.int z) := atI_nat (xs := (x :: y :: z :: r).map V.int) (j := 2) rfl
theorem ok_l_bar_fact (T : Tx K mg) : FnOk P w K mg base (L2.CX P w) 4 T.a_l_bar_fact T.fd_l_bar_fact ["_law_well_here", "_law_rods_so"] (spBarFact K) := by
  refine T.F_l_bar_fact.okX sc_l_bar_fact (fun vs H Q E h => ?_) (fun cdv A outer s H vs Q E hr h => ?_)
  · obtain ⟨p, l, x, y, z, r, rfl, _⟩ := h
    rfl
  · obtain ⟨p, l, x, y, z, r, rfl, hw, hl, k⟩ := h
    refine ⟨_, (pss_cons (ps_set (i := 2) sc_l_bar_fact.nd rfl (Or.inl rfl) (pe_call (ok_l_one T) (hr.mono (by decide)) rfl T.m_l_one T.F_l_one.kp T.b_l_one .nil passL (pa_cons (pv 0) (pa_cons (pe_lst (pa_cons pe_int (pa_cons pe_int (pa_cons pe_int (pa_cons pe_int (pa_cons pe_int (pa_cons (pe_op op_pow pe_int pe_int) (pa_cons (pe_op op_add pe_int (pe_call (ok_l_draw T) (hr.mono (by decide)) rfl T.m_l_draw T.F_l_draw.kp T.b_l_draw .nil passL (pa_cons (pv 0) (pa_cons pe_int pa_nil)))) pa_nil)))))))) pa_nil))))
      (pss_cons (ps_set (i := 3) sc_l_bar_fact.nd rfl (Or.inl rfl) (pe_callB cr_sortedI (by rfl) T.z_sorted (by decide +kernel) (pa_cons (pe_lst (pa_cons (pe_call (ok_l_draw T) (hr.mono (by decide)) rfl T.m_l_draw T.F_l_draw.kp T.b_l_draw .nil passL (pa_cons (pv 0) (pa_cons (pe_op op_add (pv 2) pe_int) pa_nil))) (pa_cons (pe_call (ok_l_draw T) (hr.mono (by decide)) rfl T.m_l_draw T.F_l_draw.kp T.b_l_draw .nil passL (pa_cons (pv 0) (pa_cons (pe_op op_add (pv 2) pe_int) pa_nil))) pa_nil))) pa_nil)))
      (pss_cons (ps_if (pt_cmpR op_eq (pe_call (ok_l_draw T) (hr.mono (by decide)) rfl T.m_l_draw T.F_l_draw.kp T.b_l_draw .nil passL (pa_cons (pv 0) (pa_cons pe_int pa_nil))) pe_int (nomark _)) (pss_one (ps_asg (pe_ix ix_list (pv 3) pe_int (fun _ _ => rfl)) (pg_sub (pv 3) pe_int set_list))) pss_nil)
      (pss_one (ps_ret (pe_tup (pa_cons (pe_ix ix_list (pv 1) pe_int (fun _ _ => rfl)) (pa_cons (pe_ix ix_list (pv 1) pe_int (fun _ _ => rfl)) (pa_cons (pe_ix ix_list (pv 1) pe_int (fun _ _ => rfl)) (pa_cons (pv 2) (pa_cons (pe_ix ix_list (pv 3) pe_int (fun _ _ => rfl)) (pa_cons (pe_ix ix_list (pv 3) pe_int (fun _ _ => rfl)) pa_nil)))))))))))), ?_⟩
    refine ⟨_, rfl, _, _, rfl, rfl, cpow6, _, rfl, p, _, rfl, hw, by decide, by decide, fun r1 H1 e1 hw1 r10 r11 => ?_⟩
    refine ⟨_, _, rfl, rfl, by show 7 ≤ sizeLine; decide, fun L hL => ?_⟩
    have hLp : L ≠ p := hw1.ne hL
    refine ⟨p, L, _, rfl, hw1.ext (Ext.upd hL), SqL.of (by rw [del_ne hLp]; exact upd_same), by show 0 < 7; decide, by show 7 < 1000000; decide, fun v H2 hx e2 hw2 => ?_⟩
    obtain ⟨m, rfl, m1, m2⟩ : ∃ m : Int, v = V.int m ∧ 1 ≤ m ∧ m ≤ 1000000 := by
      simp only [List.mem_cons, List.not_mem_nil, or_false] at hx
      rcases hx with rfl | rfl | rfl | rfl | rfl | rfl | rfl
      all_goals first
        | exact ⟨_, rfl, by decide, by decide⟩
        | exact ⟨_, rfl, by omega, by omega⟩
    have e02 := (e1.trans (DE.of (Ext.upd hL))).trans e2
    clear hx e2 e1 hw1 hL
    refine ⟨_, rfl, _, rfl, _, _, rfl, rfl, p, _, rfl, hw2, by omega, by omega, fun u1 H3 e3 hw3 u10 u11 => ?_⟩
    refine ⟨_, rfl, _, rfl, _, _, rfl, rfl, p, _, rfl, hw3, by omega, by omega, fun u2 H4 e4 hw4 u20 u21 => ?_⟩
    refine ⟨by show 2 ≤ sizeLine; decide, fun q hq => ?_⟩
    refine ⟨q, [u1, u2], rfl, SqL.of upd_same, fun ys e hp hs hn => ?_⟩
    obtain ⟨a, b, rfl, a0, ab, bm⟩ := two_sorted (m := m) hp hs u10 (by omega) u20 (by omega)
    have hw5 := hw4.ext (Ext.upd (o := HO.lst [V.int u1, V.int u2]) hq)
    have hep : e ≠ p := hw5.ne hn
    have e05 : DE p H (upd (upd H4 q (.lst [.int u1, .int u2])) e (.lst ([a, b].map V.int))) := ((e02.trans e3).trans e4).trans ((DE.of (Ext.upd hq)).trans (DE.of (Ext.upd hn)))
    have hw6 : WellAt (upd (upd H4 q (.lst [.int u1, .int u2])) e (.lst ([a, b].map V.int))) p := hw5.ext (Ext.upd hn)
    have he0 : del H p e = none := DE.fresh (((e02.trans e3).trans e4).trans (DE.of (Ext.upd hq))) hw5 hn
    have he5 : (upd (upd H4 q (.lst [.int u1, .int u2])) e (.lst ([a, b].map V.int))) e = some (.lst [.int a, .int b]) := upd_same
    generalize upd (upd H4 q (.lst [.int u1, .int u2])) e (.lst ([a, b].map V.int)) = H5 at e05 hw6 he5 ⊢
    clear hp hs hn hq hw5 hw4 hw3 e3 e4 hw2 e02
    refine ⟨_, rfl, p, _, rfl, hw6, by decide, by decide, fun r3 H6 e6 hw7 _ _ => ?_⟩
    have he6 := e6.to he5 hep
    have e06 := e05.trans e6
    refine ⟨rfl, _, rfl, ite2 (fun c => ?_) (fun c => ?_)⟩
    · refine ⟨_, rfl, e, _, _, _, rfl, rfl, SqL.of he6, rfl, _, rfl, e, _, _, 1, rfl, rfl, he6, rfl, ?_⟩
      have he7 : (upd H6 e (.lst ([V.int a, V.int b].set 1 (.int a)))) e = some (.lst [.int a, .int a]) := upd_same
      have e07 : DE p H (upd H6 e (.lst ([V.int a, V.int b].set 1 (.int a)))) := DE.mut e06 he0
      have hw8 : WellAt (upd H6 e (.lst ([V.int a, V.int b].set 1 (.int a)))) p := hw7.upd hep
      generalize upd H6 e (.lst ([V.int a, V.int b].set 1 (.int a))) = H7 at he7 e07 hw8 ⊢
      have hl7 := (hl.ext e07).de
      refine ⟨_, rfl, l, _, 0, _, rfl, rfl, hl7, at_0, _, rfl, l, _, 1, _, rfl, rfl, hl7, at_1, _, rfl, l, _, 2, _, rfl, rfl, hl7, at_2, _, rfl, _, rfl, e, _, 0, _, rfl, rfl, SqL.of he7, rfl, _, rfl, e, _, 1, _, rfl, rfl, SqL.of he7, rfl, by show 6 ≤ sizeLine; decide, fun t ht => ?_⟩
      exact k t ⟨x, y, z, m, a, a⟩ _ (hw8.ne ht) (DE.fresh e07 hw8 ht) (e07.trans (DE.of (Ext.upd ht))) (hw8.ext (Ext.upd ht)) upd_same rfl rfl rfl m1 m2 a0 (Int.le_refl _) (show a ≤ m by omega)
    · have hl7 := (hl.ext e06).de
      refine ⟨_, rfl, l, _, 0, _, rfl, rfl, hl7, at_0, _, rfl, l, _, 1, _, rfl, rfl, hl7, at_1, _, rfl, l, _, 2, _, rfl, rfl, hl7, at_2, _, rfl, _, rfl, e, _, 0, _, rfl, rfl, SqL.of he6, rfl, _, rfl, e, _, 1, _, rfl, rfl, SqL.of he6, rfl, by show 6 ≤ sizeLine; decide, fun t ht => ?_⟩
      exact k t ⟨x, y, z, m, a, b⟩ _ (hw7.ne ht) (DE.fresh e06 hw7 ht) (e06.trans (DE.of (Ext.upd ht))) (hw7.ext (Ext.upd ht)) upd_same rfl rfl rfl m1 m2 a0 ab bm
end
end K07
namespace L2
theorem cut_take (xs : List V) (k : Nat) : cutV xs none (some (k : Int)) = xs.take k := by
  unfold cutV
  rw [HT.sIx_nat, HT.sIx_none, List.drop_zero, Nat.sub_zero]
  by_cases h : k ≤ xs.length
  · rw [Nat.min_eq_left h]
  · rw [Nat.min_eq_right (by omega), List.take_of_length_le (Nat.le_refl _), List.take_of_length_le (by omega)]
theorem cut_drop (xs : List V) (k : Nat) : cutV xs (some (k : Int)) none = xs.drop k := by
  unfold cutV
  rw [HT.sIx_nat, HT.sIx_none]
  by_cases h : k ≤ xs.length
  · rw [Nat.min_eq_left h, List.take_of_length_le (by rw [List.length_drop]; omega)]
  · rw [Nat.min_eq_right (by omega), List.drop_eq_nil_of_le (Nat.le_refl _), List.drop_eq_nil_of_le (by omega), List.take_nil]
theorem rgV_range (n : Nat) : rgV 0 (n : Int) = (rangeI n).map V.int := by
  unfold rgV rangeI
  rw [List.map_map, Int.sub_zero, Int.toNat_natCast]
  refine List.map_congr_left fun i _ => ?_
  show V.int (0 + (i : Nat)) = V.int (i : Nat)
  rw [Int.zero_add]
theorem mem_rangeI {n : Nat} {x : Int} : x ∈ rangeI n ↔ 0 ≤ x ∧ x < n := by
  unfold rangeI
  rw [List.mem_map]
  constructor
  · rintro ⟨i, hi, rfl⟩
    have := List.mem_range.mp hi
    omega
  · rintro ⟨h0, h1⟩
    exact ⟨x.toNat, List.mem_range.mpr (by omega), by omega⟩
theorem nodup_rangeI (n : Nat) : (rangeI n).Nodup := by
  unfold rangeI
  rw [List.nodup_iff_pairwise_ne, List.pairwise_map]
  exact (List.nodup_iff_pairwise_ne.mp List.nodup_range).imp fun h e => h (by omega)
theorem len_rangeI (n : Nat) : (rangeI n).length = n := by
  unfold rangeI
  rw [List.length_map, List.length_range]
end L2
namespace K07
open PySem L2
structure BarOk (n : Int) (b : BarD) : Prop where
  a0 : 0 ≤ b.a
  a1 : b.a < n
  b0 : 0 ≤ b.b
  b1 : b.b < n
  c0 : 0 ≤ b.c
  c1 : b.c < n
  ab : b.b ≠ b.a
  ac : b.c ≠ b.a
  bc : b.c ≠ b.b
  l0 : 1 ≤ b.len
  l1 : b.len ≤ 1000000
  o0 : 0 ≤ b.lo
  o1 : b.lo ≤ b.hi
  o2 : b.hi ≤ b.len
theorem BarOk.ck {n k : Int} {b : BarD} (h : BarOk n b) : ckBar n k b = none := by
  have hoff : ∀ r : Int, 0 ≤ r → r < n → offRod n r = false := fun r h0 h1 => by
    unfold offRod
    rw [decide_eq_true h0, decide_eq_true h1]
    rfl
  unfold ckBar
  have hf : [b.a, b.b, b.c].find? (offRod n) = none := by
    rw [List.find?_cons, hoff _ h.a0 h.a1, List.find?_cons, hoff _ h.b0 h.b1, List.find?_cons, hoff _ h.c0 h.c1]
    rfl
  rw [hf]
  dsimp only
  rw [if_neg h.ab, if_neg (fun z => z.elim h.ac h.bc), if_neg (fun z => z ⟨h.l0, h.l1⟩), if_neg (fun z => z ⟨h.o0, h.o1, h.o2⟩)]
structure WebOk (n : Int) (hl : List (Int × Int)) (bs : List BarD) : Prop where
  n3 : 3 ≤ n
  n10 : n ≤ 10
  keys : ∀ q ∈ hl, (0 ≤ q.1 ∧ q.1 < n) ∧ -1000000 ≤ q.2 ∧ q.2 ≤ 1000000
  nd : (hl.map (·.1)).Nodup
  ne : hl ≠ []
  b1 : 1 ≤ bs.length
  b8 : bs.length ≤ 8
  sum : (bs.length : Int) = n - hl.length
  bars : ∀ b ∈ bs, BarOk n b
theorem look_mem : ∀ {hl : List (Int × Int)} {r : Int}, r ∈ hl.map (·.1) → (r, lookI hl r) ∈ hl
  | [], _, h => by cases h
  | p :: hl, r, h => by
    unfold lookI
    by_cases e : p.1 = r
    · rw [List.find?_cons, decide_eq_true e]
      subst e
      exact List.mem_cons_self
    · rw [List.find?_cons, decide_eq_false e]
      refine List.mem_cons_of_mem _ ?_
      refine look_mem (hl := hl) ?_
      rcases List.mem_cons.mp h with h | h
      · exact absurd h.symm e
      · exact h
theorem WebOk.l64 {n : Int} {hl : List (Int × Int)} {bs : List BarD} (h : WebOk n hl bs) : hl.length < 64 := by
  have := h.sum
  have := h.n10
  omega
theorem WebOk.ck {n : Int} {hl : List (Int × Int)} {bs : List BarD} (h : WebOk n hl bs) : ckWeb n hl bs = none := by
  have h1 : (srtI (hl.map (·.1))).find? (offRod n) = none := by
    rw [List.find?_eq_none]
    intro r hr
    have hm := look_mem ((srtI_perm _).mem_iff.mp hr)
    have := (h.keys _ hm).1
    unfold offRod
    rw [decide_eq_true this.1, decide_eq_true this.2]
    decide
  have h2 : (srtI (hl.map (·.1))).find? (farH hl) = none := by
    rw [List.find?_eq_none]
    intro r hr
    have hm := look_mem ((srtI_perm _).mem_iff.mp hr)
    have := (h.keys _ hm).2
    unfold farH
    rw [decide_eq_true this.1, decide_eq_true this.2]
    decide
  have h3 : ckRods n hl = none := by
    unfold ckRods
    rw [if_neg (fun z => z ⟨h.n3, h.n10⟩), h1]
    dsimp only
    rw [h2]
    dsimp only
    rw [if_neg h.ne]
  unfold ckWeb
  rw [h3]
  dsimp only
  unfold ckBars
  have := h.b1
  have := h.b8
  rw [if_neg (fun z => z ⟨by omega, by omega⟩), if_neg (fun z => z h.sum)]
  exact ck_no fun j c hc => (h.bars c (List.mem_of_getElem? hc)).ck
section
variable {P : Program} {w : World} {K : PySem.W.Frag} {mg : Str → Option Value} {base : Heap}
def bfD (b : BarD) : Dt := .tup (brT b)
def mK : List Key := [Sum.inr "rods", Sum.inr "held", Sum.inr "bars"]
def mT (n : Int) (hl : List (Int × Int)) (bs : List BarD) : List Dt := [.int n, hdD hl, .lst (bs.map bfD)]
def mD (n : Int) (hl : List (Int × Int)) (bs : List BarD) : Dt := .dic mK (mT n hl bs)
def mV (n : Int) (hd bl : Addr) : List (Key × V) := [(Sum.inr "rods", .int n), (Sum.inr "held", .ref hd), (Sum.inr "bars", .ref bl)]
theorem bf_is {H : Hp} {t : Addr} {b : BarD} (h : H t = some (.tup (brV b))) : Is K H (bfD b) (.ref t) :=
  ⟨t, _, rfl, SqT.of h, _, _, rfl, rfl, _, _, rfl, rfl, _, _, rfl, rfl, _, _, rfl, rfl, _, _, rfl, rfl, _, _, rfl, rfl, rfl⟩
theorem bf_of {H : Hp} {v : V} {b : BarD} (h : Is K H (bfD b) v) : ∃ t, v = .ref t ∧ SqT K H t (brV b) := by
  obtain ⟨t, ws, rfl, ht, v1, r1, e1, f1, v2, r2, e2, f2, v3, r3, e3, f3, v4, r4, e4, f4, v5, r5, e5, f5, v6, r6, e6, f6, e7⟩ := h
  subst e7 e6 e5 e4 e3 e2 e1
  cases (show v1 = _ from f1)
  cases (show v2 = _ from f2)
  cases (show v3 = _ from f3)
  cases (show v4 = _ from f4)
  cases (show v5 = _ from f5)
  cases (show v6 = _ from f6)
  exact ⟨t, rfl, ht⟩
theorem hd_of_is {H : Hp} {v : V} {hl : List (Int × Int)} (h : Is K H (hdD hl) v) : ∃ d, v = .ref d ∧ H d = some (.dK (hK hl)) := by
  obtain ⟨d, qs, rfl, k2, k3, k4⟩ := h
  have hq : qs = hK hl := hd_of k3 (by
    have z : IsL K H ((hl.map (·.2)).map Dt.int) (qs.map (·.2)) := by rw [List.map_map]; exact k4
    rw [of_isL_ints z, List.map_map]
    rfl)
  subst hq
  exact ⟨d, rfl, k2⟩
theorem m_is {H : Hp} {M hd bl : Addr} {n : Int} {hl : List (Int × Int)} {bs : List BarD} {ws : List V} (h : H M = some (.dK (mV n hd bl))) (h1 : H hd = some (.dK (hK hl))) (h2 : SqL K H bl ws) (h3 : IsL K H (bs.map bfD) ws) : Is K H (mD n hl bs) (.ref M) :=
  ⟨M, _, rfl, h, rfl, _, _, rfl, rfl, _, _, rfl, hd_is h1, _, _, rfl, ⟨bl, ws, rfl, h2, h3⟩, rfl⟩
theorem m_of {H : Hp} {v : V} {n : Int} {hl : List (Int × Int)} {bs : List BarD} (h : Is K H (mD n hl bs) v) :
    ∃ (M hd bl : Addr) (ws : List V), v = .ref M ∧ H M = some (.dK (mV n hd bl)) ∧ H hd = some (.dK (hK hl)) ∧ SqL K H bl ws ∧ IsL K H (bs.map bfD) ws := by
  obtain ⟨M, qs, rfl, k2, k3, v1, r1, e1, f1, v2, r2, e2, f2, v3, r3, e3, ⟨bl, ws, g1, g2, g3⟩, e4⟩ := h
  subst e4 e3 e2
  cases (show v1 = _ from f1)
  obtain ⟨hd, rfl, hhd⟩ := hd_of_is f2
  subst g1
  match qs, k3, e1 with
  | [(x1, y1), (x2, y2), (x3, y3)], ek, e1 =>
    simp only [List.map_cons, List.map_nil] at ek e1
    injection ek with a1 ek
    injection ek with a2 ek
    injection ek with a3 _
    injection e1 with b1 e1
    injection e1 with b2 e1
    injection e1 with b3 _
    subst a1 a2 a3 b1 b2 b3
    exact ⟨M, hd, bl, ws, rfl, k2, hhd, g2, g3⟩
theorem merge_new : ∀ (kvs acc : List (Key × V)), (acc.map (·.1) ++ kvs.map (·.1)).Nodup → mergeK acc kvs = acc ++ kvs
  | [], acc, _ => by rw [List.append_nil]; rfl
  | (k, v) :: kvs, acc, h => by
    show mergeK (putK acc k v) kvs = _
    have hk : k ∉ acc.map (·.1) := fun z => by
      have := List.nodup_append.mp h
      exact this.2.2 k z k List.mem_cons_self rfl
    rw [put_new hk, merge_new kvs (acc ++ [(k, v)]), List.append_assoc]
    · rfl
    · rw [List.map_append, List.append_assoc]
      exact h
end
end K07
namespace K07
open PySem L2
section
variable {P : Program} {w : World} {K : PySem.W.Frag} {mg : Str → Option Value} {base : Heap}
def spAny (K : PySem.W.Frag) : Sp := fun vs H Q _ => ∃ (p : Addr) (most : Int), vs = [.ref p, .int most] ∧ WellAt H p ∧ 1 ≤ most ∧ most ≤ 8 ∧
  ∀ (v : V) (n : Int) (hl : List (Int × Int)) (bs : List BarD) (H' : Hp), DE p H H' → WellAt H' p → Is K (del H' p) (mD n hl bs) v → WebOk n hl bs → Q v H'
theorem isL_bf {H : Hp} {p : Addr} : ∀ {ts : List Addr} {bs : List BarD}, Paired (fun t b => t ≠ p ∧ H t = some (.tup (brV b))) ts bs → IsL K (del H p) (bs.map bfD) (ts.map V.ref)
  | _, _, .nil => rfl
  | _, _, .cons h r => ⟨_, _, rfl, bf_is (by rw [del_ne h.1]; exact h.2), isL_bf r⟩
theorem ok_l_any (T : Tx K mg) : FnOk P w K mg base (L2.CX P w) 14 T.a_l_any T.fd_l_any ["_law_well_here", "_law_most"] (spAny K) := by
  refine T.F_l_any.okX sc_l_any (fun vs H Q E h => ?_) (fun cdv A outer s H vs Q E hr h => ?_)
  · obtain ⟨p, most, rfl, _⟩ := h
    rfl
  · obtain ⟨p, most, rfl, hw, hm0, hm1, k⟩ := h
    refine ⟨_, (pss_cons (ps_set (i := 2) sc_l_any.nd rfl (Or.inl rfl) (pe_op op_add pe_int (pe_call (ok_l_draw T) (hr.mono (by decide)) rfl T.m_l_draw T.F_l_draw.kp T.b_l_draw .nil passL (pa_cons (pv 0) (pa_cons (pv 1) pa_nil)))))
      (pss_cons (ps_set (i := 3) sc_l_any.nd rfl (Or.inr rfl) (pe_call (ok_l_mixed T) (hr.mono (by decide)) rfl T.m_l_mixed T.F_l_mixed.kp T.b_l_mixed .nil passL (pa_cons (pv 0) (pa_cons (pe_listRg rfl rfl T.z_list (prg_1 rfl T.z_range (pe_callB (call_min2 rfl) (by rfl) T.z_min (by decide +kernel) (pa_cons pe_int (pa_cons (pe_callB (call_max2 rfl) (by rfl) T.z_max (by decide +kernel) (pa_cons pe_int (pa_cons (pe_op op_add (pe_op op_add (pv 2) pe_int) (pe_call (ok_l_draw T) (hr.mono (by decide)) rfl T.m_l_draw T.F_l_draw.kp T.b_l_draw .nil passL (pa_cons (pv 0) (pa_cons pe_int pa_nil)))) pa_nil))) pa_nil))))) pa_nil))))
      (pss_cons (ps_set (i := 4) sc_l_any.nd rfl (Or.inl rfl) (pe_callTy (call_dictP rfl) (by rfl) T.z_dict (by decide +kernel) (pa_cons (pe_lc (own := [("_law_rod", 6)]) (g := gName 6) (tt := tYes) (by rfl) sc_l_any.nd (pi_list (pe_slice sl_list (pv 3) (po_some (pv 2)) po_none)) (blkOk_by (own := [("_law_rod", 6)]) (N := N_l_any) (sc := defScope s_l_any) (by decide +kernel)) (fun _ _ _ _ _ => (pg_name (i := 6) sc_l_any.nd rfl (Or.inl rfl))) (fun _ _ _ _ _ => pts_nil) (fun _ _ _ _ _ => (pe_tup (pa_cons (pv 6) (pa_cons (pe_call (ok_l_height T) (hr.mono (by decide)) rfl T.m_l_height T.F_l_height.kp T.b_l_height .nil passL (pa_cons (pv 0) pa_nil)) pa_nil))))) pa_nil)))
      (pss_cons (ps_setLc (i := 5) (own := [("_law_k", 7)]) (g := gName 7) (tt := tYes) (by rfl) sc_l_any.nd rfl rfl (sw_true rfl rfl rfl (by decide +kernel)) (pi_range1 rfl T.z_range (pa_cons (pv 2) pa_nil)) (blkOk_by (own := [("_law_k", 7)]) (N := N_l_any) (sc := defScope s_l_any) (by decide +kernel)) (fun _ _ _ _ _ => (pg_name (i := 7) sc_l_any.nd rfl (Or.inl rfl))) (fun _ _ _ _ _ => pts_nil) (fun _ _ _ _ _ => (pe_call (ok_l_bar_fact T) (hr.mono (by decide)) rfl T.m_l_bar_fact T.F_l_bar_fact.kp T.b_l_bar_fact .nil passL (pa_cons (pv 0) (pa_cons (pe_slice (r := rSlL K) sl_list (pe_call (ok_l_mixed T) (hr.mono (by decide)) rfl T.m_l_mixed T.F_l_mixed.kp T.b_l_mixed .nil passL (pa_cons (pv 0) (pa_cons (pv 3) pa_nil))) po_none (po_some pe_int)) pa_nil)))))
      (pss_one (ps_ret (pe_disp (pps_cons pe_str (pe_callB call_len_seq (by rfl) T.z_len PySem.boot_len (pa_cons (pv 3) pa_nil)) (pps_cons pe_str (pv 4) (pps_cons pe_str (pv 5) pps_nil))) rfl rfl (fun z => by cases z) (by decide)))))))), ?_⟩
    refine ⟨_, rfl, _, rfl, p, most, rfl, hw, by omega, by omega, fun r1 H1 e1 hw1 r10 r11 => ?_⟩
    refine ⟨_, _, rfl, rfl, ?_⟩
    obtain ⟨m, hm, m0, m5⟩ : ∃ m : Nat, 1 + r1 = (m : Int) ∧ 1 ≤ m ∧ m ≤ 8 := ⟨(1 + r1).toNat, by omega, by omega, by omega⟩
    dsimp only
    rw [hm]
    -- line
    refine ⟨_, rfl, _, rfl, _, _, rfl, rfl, _, rfl, p, _, rfl, hw1, by decide, by decide, fun r2 H2 e2 hw2 r20 r21 => ?_⟩
    refine ⟨_, _, rfl, rfl, ?_⟩
    refine ⟨_, _, rfl, _, _, rfl, ?_⟩
    dsimp only
    obtain ⟨n, hn, n3, n10, nm⟩ : ∃ n : Nat, (if (if (m : Int) + 1 + r2 > 3 then (m : Int) + 1 + r2 else 3) < 10 then (if (m : Int) + 1 + r2 > 3 then (m : Int) + 1 + r2 else 3) else 10) = (n : Int) ∧ 3 ≤ n ∧ n ≤ 10 ∧ m + 1 ≤ n := by
      refine ⟨(if (if (m : Int) + 1 + r2 > 3 then (m : Int) + 1 + r2 else 3) < 10 then (if (m : Int) + 1 + r2 > 3 then (m : Int) + 1 + r2 else 3) else 10).toNat, ?_⟩
      split <;> split <;> omega
    rw [hn]
    refine ⟨_, rfl, RgOk.of_le (by decide) (by omega) (by decide) (by omega), fun g0 hg0 => ?_⟩
    rw [rgV_range]
    have hg0p : g0 ≠ p := hw2.ne hg0
    refine ⟨p, g0, rangeI n, rfl, hw2.ext (Ext.upd hg0), SqL.of (by rw [del_ne hg0p]; exact upd_same), by rw [len_rangeI]; omega, fun L ln H3 hLp hL0 e3 hw3 hL hperm => ?_⟩
    have e03 : DE p H H3 := ((e1.trans e2).trans (DE.of (Ext.upd hg0))).trans e3
    have hlen : ln.length = n := by rw [hperm.length_eq, len_rangeI]
    have hnd : ln.Nodup := hperm.nodup_iff.mpr (nodup_rangeI n)
    have hmem : ∀ x ∈ ln, 0 ≤ x ∧ x < (n : Int) := fun x hx => mem_rangeI.mp (hperm.mem_iff.mp hx)
    clear e1 e2 e3 hw1 hw2 hg0 hL0 hn r20 r21 r10 r11
    -- heights
    refine ⟨_, rfl, _, rfl, (m : Int), rfl, L, _, rfl, SqL.of hL, fun S hS => ?_⟩
    rw [cut_drop, ← List.map_drop]
    have hSp : S ≠ p := hw3.ne hS
    have hS4 : (upd H3 S (.lst ((ln.drop m).map V.int))) S = some (.lst ((ln.drop m).map V.int)) := upd_same
    have e34 : Ext H3 (upd H3 S (.lst ((ln.drop m).map V.int))) := Ext.upd hS
    generalize upd H3 S (.lst ((ln.drop m).map V.int)) = H4 at hS4 e34 ⊢
    have hw4 := hw3.ext e34
    have e04 := e03.trans (DE.of e34)
    have hL4 := e34 _ _ hL
    clear hS e34 hL hw3 e03
    refine ⟨S, rfl, ⟨_, SqL.of hS4⟩, fun D hD => ?_⟩
    have hDp : D ≠ p := hw4.ne hD
    have hD0 : del H4 p D = none := by rw [del_ne hDp]; exact hD
    refine lc_list (xs := (ln.drop m).map V.int) (fun i H' => ∃ (ps : List Addr) (hs : List Int), hs.length = i ∧ DE p H4 H' ∧ WellAt H' p ∧ H' D = some (.lst (ps.map V.ref)) ∧ Paired (fun a kv => a ≠ p ∧ H' a = some (.tup [kV kv.1, kv.2])) ps (hK ((ln.drop m).zip hs)) ∧ ∀ x ∈ hs, -1000000 ≤ x ∧ x ≤ 1000000)
      ⟨[], [], rfl, DE.of (Ext.upd hD), hw4.ext (Ext.upd hD), upd_same, by rw [List.zip_nil_right]; exact .nil, fun x hx => by cases hx⟩ (fun i H' _ q => ?_) ?_ ?_
    · obtain ⟨_, _, _, e, _⟩ := q
      exact SqL.of (e.to hS4 hSp)
    · rintro i y H5 hi ⟨ps, hs, hli, e5, hw5, hD5, hps, hb⟩
      obtain ⟨x, hx, rfl⟩ : ∃ x, (ln.drop m)[i]? = some x ∧ y = V.int x := by
        rw [List.getElem?_map] at hi
        cases e : (ln.drop m)[i]? with
        | none => rw [e] at hi; cases hi
        | some n => rw [e] at hi; exact ⟨n, rfl, (Option.some.inj hi).symm⟩
      have hin : i < (ln.drop m).length := (List.getElem?_eq_some_iff.mp hx).1
      refine ⟨rfl, tyes ?_⟩
      refine ⟨_, rfl, _, rfl, p, rfl, hw5, fun h H6 e6 hw6 b0 b1 => ?_⟩
      refine ⟨by show 2 ≤ sizeLine; decide, fun t ht => ?_⟩
      have htp : t ≠ p := hw6.ne ht
      have hD6 := e6.to hD5 hDp
      have htD : D ≠ t := ne_of_none hD6 ht
      refine ⟨ps.map V.ref, by rw [upd_ne htD]; exact hD6, ?_, ps ++ [t], hs ++ [h], by rw [List.length_append, hli]; rfl, ?_, (hw6.ext (Ext.upd ht)).upd hDp, by rw [upd_same, List.map_append]; rfl, ?_, fun z hz => ?_⟩
      · rw [List.length_map]
        have h1 := hps.length
        unfold hK at h1
        rw [List.length_map, List.length_zip] at h1
        have h2 : (ln.drop m).length ≤ 10 := by rw [List.length_drop]; omega
        exact Nat.lt_of_lt_of_le (show ps.length < 100 by omega) (by decide)
      · exact DE.mut ((e5.trans e6).trans (DE.of (Ext.upd ht))) hD0
      · have hz : (ln.drop m).zip (hs ++ [h]) = (ln.drop m).zip hs ++ [(x, h)] := by
          have e1 : ln.drop m = (ln.drop m).take i ++ x :: (ln.drop m).drop (i + 1) := by
            have := List.take_append_drop i (ln.drop m)
            rw [List.drop_eq_getElem_cons hin] at this
            rw [show (ln.drop m)[i] = x from Option.some.inj ((List.getElem?_eq_getElem hin).symm.trans hx)] at this
            exact this.symm
          have l1 : ((ln.drop m).take i).length = hs.length := by rw [List.length_take]; omega
          rw [e1, List.zip_append l1, show (((ln.drop m).take i) ++ x :: (ln.drop m).drop (i + 1)).zip hs = ((ln.drop m).take i).zip hs from by
            have z := List.zip_append (l₁ := (ln.drop m).take i) (r₁ := x :: (ln.drop m).drop (i + 1)) (l₂ := hs) (r₂ := []) l1
            rw [List.append_nil, List.zip_nil_right, List.append_nil] at z
            exact z, List.zip_cons_cons, List.zip_nil_right]
        rw [hz]
        unfold hK
        rw [List.map_append]
        have hps' : Paired (fun a (kv : Key × V) => a ≠ p ∧ (upd (upd H6 t (.tup [V.int x, V.int h])) D (.lst (ps.map V.ref ++ [V.ref t]))) a = some (.tup [kV kv.1, kv.2])) ps (hK ((ln.drop m).zip hs)) := PySem.Paired.mono (fun a kv q => by
          have h6 := e6.to q.2 q.1
          have hta : a ≠ t := ne_of_none h6 ht
          have hDa : a ≠ D := fun e => by rw [e, hD6] at h6; cases h6
          exact ⟨q.1, by rw [upd_ne hDa, upd_ne hta]; exact h6⟩) hps
        exact hps'.snoc ⟨htp, by rw [upd_ne htD.symm, upd_same]; rfl⟩
      · rcases List.mem_append.mp hz with h | h
        · exact hb z h
        · rw [List.mem_singleton.mp h]
          exact ⟨b0, b1⟩
    · rintro H5 ⟨ps, hs, hli, e5, hw5, hD5, hps, hb⟩
      rw [List.length_map] at hli
      have hS5 := e5.to hS4 hSp
      have hL5 := e5.to hL4 hLp
      have e05 := e04.trans e5
      refine ⟨D, ps, hK ((ln.drop m).zip hs), rfl, SqL.of hD5, PySem.Paired.mono (fun a kv q => SqT.of q.2) hps, fun hd hhd => ?_⟩
      have hfst : ((ln.drop m).zip hs).map (·.1) = ln.drop m := List.map_fst_zip (by omega)
      have hnd2 : (ln.drop m).Nodup := hnd.sublist (List.drop_sublist _ _)
      rw [merge_new _ [] (by
        rw [List.map_nil, List.nil_append]
        unfold hK
        rw [List.map_map]
        show (((ln.drop m).zip hs).map (Sum.inl ∘ Prod.fst)).Nodup
        rw [← List.map_map, hfst, List.nodup_iff_pairwise_ne, List.pairwise_map]
        exact (List.nodup_iff_pairwise_ne.mp hnd2).imp fun h e => h (Sum.inl.inj e)), List.nil_append]
      have hhp : hd ≠ p := hw5.ne hhd
      have h7d : (upd H5 hd (.dK (hK ((ln.drop m).zip hs)))) hd = some (.dK (hK ((ln.drop m).zip hs))) := upd_same
      have e57 : Ext H5 (upd H5 hd (.dK (hK ((ln.drop m).zip hs)))) := Ext.upd hhd
      have hlz : ((ln.drop m).zip hs).length = n - m := by
        rw [List.length_zip, hli, List.length_drop, hlen]
        omega
      have hkeys : ∀ q ∈ (ln.drop m).zip hs, (0 ≤ q.1 ∧ q.1 < (n : Int)) ∧ -1000000 ≤ q.2 ∧ q.2 ≤ 1000000 := fun q hq => by
        obtain ⟨h1, h2⟩ := List.of_mem_zip (a := q.1) (b := q.2) hq
        exact ⟨hmem _ (List.mem_of_mem_drop h1), hb _ h2⟩
      have hnd3 : (((ln.drop m).zip hs).map (·.1)).Nodup := by rw [hfst]; exact hnd2
      generalize (ln.drop m).zip hs = hl at h7d e57 hlz hkeys hnd3 ⊢
      generalize upd H5 hd (.dK (hK hl)) = H7 at h7d e57 ⊢
      have hw7 := hw5.ext e57
      have hL7 := e57 _ _ hL5
      have e07 := e05.trans (DE.of e57)
      clear e57 hhd hps hfst hnd2 hli hb e05 hL5 hS5 hw5 e5 hD5 hD hD0 hDp hS4 hw4 e04 hL4 hSp
      -- bars
      refine ⟨_, rfl, (m : Int), rfl, by omega, by omega, fun D2 hD2 => ?_⟩
      have hDp2 : D2 ≠ p := hw7.ne hD2
      have hD20 : del H7 p D2 = none := by rw [del_ne hDp2]; exact hD2
      refine lc_range (lo := 0) (n := m) (fun i H' => ∃ (ts : List Addr) (bs : List BarD), bs.length = i ∧ DE p H7 H' ∧ WellAt H' p ∧ H' D2 = some (.lst (ts.map V.ref)) ∧ Paired (fun t b => t ≠ p ∧ H' t = some (.tup (brV b))) ts bs ∧ ∀ b ∈ bs, BarOk (n : Int) b)
        ⟨[], [], rfl, DE.of (Ext.upd hD2), hw7.ext (Ext.upd hD2), upd_same, .nil, fun b hb => by cases hb⟩ ?_ ?_
      · rintro i H8 hi ⟨ts, bs, hbl, e8, hw8, hD8, hts, hbo⟩
        have hL8 := e8.to hL7 hLp
        refine ⟨rfl, tyes ?_⟩
        refine ⟨_, rfl, _, rfl, _, rfl, p, L, ln, rfl, hw8, SqL.of (by rw [del_ne hLp]; exact hL8), by omega, fun A as' H9 hAp hA0 e9 hw9 hA hp2 => ?_⟩
        refine ⟨3, rfl, A, _, rfl, SqL.of hA, fun S2 hS2 => ?_⟩
        have hc3 : cutV (as'.map V.int) none (some 3) = (as'.take 3).map V.int := by
          rw [List.map_take]
          exact cut_take _ 3
        rw [hc3]
        obtain ⟨x, y, z, r, rfl⟩ : ∃ x y z r, as' = x :: y :: z :: r := by
          have hl3 : 3 ≤ as'.length := by rw [hp2.length_eq, hlen]; exact n3
          match as', hl3 with
          | x :: y :: z :: r, _ => exact ⟨x, y, z, r, rfl⟩
        have hSp2 : S2 ≠ p := hw9.ne hS2
        have hnd4 : (x :: y :: z :: r).Nodup := hp2.nodup_iff.mpr hnd
        have hmm : ∀ u ∈ x :: y :: z :: r, 0 ≤ u ∧ u < (n : Int) := fun u hu => hmem u (hp2.mem_iff.mp hu)
        refine ⟨p, S2, x, y, z, [], rfl, hw9.ext (Ext.upd hS2), SqL.of (by rw [del_ne hSp2]; exact upd_same), fun t b H10 htp ht0 e10 hw10 ht hba hbb hbc l0 l1 o0 o1 o2 => ?_⟩
        have e810 : DE p H8 H10 := (e9.trans (DE.of (Ext.upd hS2))).trans e10
        have hD10 := e810.to hD8 hDp2
        have htD : t ≠ D2 := fun e => by rw [e, hD10] at ht; cases ht
        have hdis := List.nodup_cons.mp hnd4
        have hdis2 := List.nodup_cons.mp hdis.2
        have hbok : BarOk (n : Int) b := by
          have m1 := hmm x List.mem_cons_self
          have m2 := hmm y (List.mem_cons_of_mem _ List.mem_cons_self)
          have m3 := hmm z (List.mem_cons_of_mem _ (List.mem_cons_of_mem _ List.mem_cons_self))
          subst hba hbb hbc
          exact ⟨m1.1, m1.2, m2.1, m2.2, m3.1, m3.2, fun e => hdis.1 (e ▸ List.mem_cons_self), fun e => hdis.1 (e ▸ List.mem_cons_of_mem _ List.mem_cons_self), fun e => hdis2.1 (e ▸ List.mem_cons_self), l0, l1, o0, o1, o2⟩
        refine ⟨_, hD10, ?_, ts ++ [t], bs ++ [b], by rw [List.length_append, hbl]; rfl, DE.mut (e8.trans e810) hD20, hw10.upd hDp2, by rw [upd_same, List.map_append]; rfl, ?_, fun c hc => ?_⟩
        · rw [List.length_map, hts.length, hbl]
          exact Nat.lt_of_lt_of_le (show i < 100 by omega) (by decide)
        · have hts' : Paired (fun t' b' => t' ≠ p ∧ (upd H10 D2 (.lst (ts.map V.ref ++ [V.ref t]))) t' = some (.tup (brV b'))) ts bs := PySem.Paired.mono (fun a b' q => by
            have h10 := e810.to q.2 q.1
            have hDa : a ≠ D2 := fun e => by rw [e, hD10] at h10; cases h10
            exact ⟨q.1, by rw [upd_ne hDa]; exact h10⟩) hts
          exact hts'.snoc ⟨htp, by rw [upd_ne htD]; exact ht⟩
        · rcases List.mem_append.mp hc with h | h
          · exact hbo c h
          · rw [List.mem_singleton.mp h]
            exact hbok
      · rintro H8 ⟨ts, bs, hbl, e8, hw8, hD8, hts, hbo⟩
        have hL8 := e8.to hL7 hLp
        have hd8 := e8.to h7d hhp
        have e08 := e07.trans e8
        refine fun M hM => ?_
        have hMp : M ≠ p := hw8.ne hM
        have e8M : Ext H8 (upd H8 M (.dK [])) := Ext.upd hM
        refine ⟨_, rfl, L, _, rfl, .inl (SqL.of (e8M _ _ hL8)), ?_⟩
        rw [List.length_map, hlen]
        refine ⟨_, rfl, _, rfl, upd_same, mV (n : Int) hd D2, rfl, by show 3 ≤ 15; decide, ?_⟩
        rw [merge_new _ [] (by show ([Sum.inr "rods", Sum.inr "held", Sum.inr "bars"] : List Key).Nodup; decide +kernel), List.nil_append]
        have e8N : Ext H8 (upd (upd H8 M (.dK [])) M (.dK (mV (n : Int) hd D2))) := e8M.mut hM
        have eN := DE.of (w := p) e8N
        refine k _ (n : Int) hl bs _ (e08.trans eN) (hw8.ext e8N) (m_is (hd := hd) (bl := D2) (ws := ts.map V.ref) ?_ ?_ ?_ ?_) ⟨by omega, by omega, hkeys, hnd3, fun e => ?_, by omega, by omega, by omega, hbo⟩
        · rw [del_ne hMp, upd_same]
        · rw [del_ne hhp]
          exact e8N _ _ hd8
        · exact SqL.of (by rw [del_ne hDp2]; exact e8N _ _ hD8)
        · exact (isL_bf hts).ext eN
        · rw [e] at hlz
          simp at hlz
          omega
end
end K07
namespace K07
open PySem L2
section
variable {P : Program} {w : World} {K : PySem.W.Frag} {mg : Str → Option Value} {base : Heap}
theorem val_next {p : Key × V} {r : List (Key × V)} {k : Key} (e : p.1 ≠ k) : valV (p :: r) k = valV r k := by
  unfold valV
  rw [List.find?_cons, decide_eq_false e]
theorem kne_rh : (Sum.inr "rods" : Key) ≠ (Sum.inr "held" : Key) := by decide +kernel
theorem kne_rb : (Sum.inr "rods" : Key) ≠ (Sum.inr "bars" : Key) := by decide +kernel
theorem kne_hb : (Sum.inr "held" : Key) ≠ (Sum.inr "bars" : Key) := by decide +kernel
theorem g_rods {H : Hp} {M hd bl : Addr} {n : Int} (h : H M = some (.dK (mV n hd bl))) : DGet H M (V.str "rods") (some (.int n)) := by
  rw [← show valV (mV n hd bl) (Sum.inr "rods") = some (.int n) from valV_pos rfl]
  exact DGet.k (k := Sum.inr "rods") h
theorem g_held {H : Hp} {M hd bl : Addr} {n : Int} (h : H M = some (.dK (mV n hd bl))) : DGet H M (V.str "held") (some (.ref hd)) := by
  rw [← show valV (mV n hd bl) (Sum.inr "held") = some (.ref hd) from (val_next kne_rh).trans (valV_pos rfl)]
  exact DGet.k (k := Sum.inr "held") h
theorem g_bars {H : Hp} {M hd bl : Addr} {n : Int} (h : H M = some (.dK (mV n hd bl))) : DGet H M (V.str "bars") (some (.ref bl)) := by
  rw [← show valV (mV n hd bl) (Sum.inr "bars") = some (.ref bl) from (val_next kne_rb).trans ((val_next kne_hb).trans (valV_pos rfl))]
  exact DGet.k (k := Sum.inr "bars") h
theorem br_del {C D : Addr} {H : Hp} {b : BarD} {v : V} {l : List V} (i : Is K H (brD C b) v) (h : H D = some (.lst l)) : Is K (del H D) (brD C b) v := by
  obtain ⟨a, dx, rfl, ha⟩ := br_fields i
  exact br_is (dx := dx) (by rw [del_ne (fun e => by rw [e, h] at ha; cases ha)]; exact ha)
theorem isL_snoc {H : Hp} : ∀ {ds : List Dt} {vs : List V} {d : Dt} {v : V}, IsL K H ds vs → Is K H d v → IsL K H (ds ++ [d]) (vs ++ [v])
  | [], _, _, _, h, i => by
    cases h
    exact ⟨_, _, rfl, i, rfl⟩
  | _ :: _, _, _, _, ⟨v, r, e, a, h⟩, i => by
    subst e
    exact ⟨v, _, rfl, a, isL_snoc h i⟩
def brTE (K : PySem.W.Frag) (C : Addr) (j : Nat) : TE := tMake C (spBar K C) [] E0 (tCons (tOp (rIxT K) (tVar j) (tC (.int 0))) (tCons (tOp (rIxT K) (tVar j) (tC (.int 1))) (tCons (tOp (rIxT K) (tVar j) (tC (.int 2))) (tCons (tOp (rIxT K) (tVar j) (tC (.int 3))) (tCons (tOp (rIxT K) (tVar j) (tC (.int 4))) (tCons (tOp (rIxT K) (tVar j) (tC (.int 5))) tNil))))))
theorem lc_bars {C a : Addr} {bs : List BarD} {ws : List V} {j : Nat} {vs : List Nat} {σ : St} {H1 : Hp} {Q : Addr → Hp → Prop} (hq : SqL K H1 a ws) (hb : IsL K H1 (bs.map bfD) ws) (hz : bs.length < 1000)
    (hj : ∀ v : V, ((wipe σ vs).set j (some v))[j]? = some (some v)) (hwp : ∀ v : V, wipe ((wipe σ vs).set j (some v)) vs = wipe σ vs)
    (hd : ∀ D H' rs, H1 D = none → Ext H1 H' → H' D = some (.lst rs) → IsL K (del H' D) (bs.map (brD C)) rs → Q D H') :
    (∃ ys, SqL K H1 a ys) ∧ ∀ D, H1 D = none → ∃ W : Nat → Nat → Hp → Prop, (∃ m, W 0 m (upd H1 D (.lst []))) ∧ ∀ i m H, W i m H →
      ((Itl K a).stop i H ∧ Q D H) ∨ ((Itl K a).go i H ∧ ∃ Nx : Hp → Prop, (∀ H', Nx H' → ∃ m', m' < m ∧ W (i + 1) m' H') ∧ ∀ x H', (Itl K a).yld i H x H' → gName j x (wipe σ vs) H' fun σ2 H2 => wipe σ2 vs = wipe σ vs ∧ tYes σ2 H2 fun b H3 =>
        if b = true then brTE K C j σ2 H3 fun y H4 => ∃ acc, H4 D = some (.lst acc) ∧ acc.length < sizeLine ∧ Nx (upd H4 D (.lst (acc ++ [y]))) else Nx H3) := by
  refine ⟨⟨_, hq⟩, fun D hD => lc_list (xs := ws) (fun i H' => Ext H1 H' ∧ ∃ rs, H' D = some (.lst rs) ∧ IsL K (del H' D) ((bs.take i).map (brD C)) rs) ⟨Ext.upd hD, [], upd_same, rfl⟩ (fun i H' _ p => hq.ext p.1) ?_ ?_⟩
  · rintro i y H' hi ⟨e1, rs, hD1, hrs⟩
    obtain ⟨d, hd', iy⟩ := hb.get hi
    obtain ⟨b, hbi, rfl⟩ : ∃ b, bs[i]? = some b ∧ d = bfD b := by
      rw [List.getElem?_map] at hd'
      cases e : bs[i]? with
      | none => rw [e] at hd'; cases hd'
      | some b => rw [e] at hd'; exact ⟨b, rfl, (Option.some.inj hd').symm⟩
    obtain ⟨t, rfl, ht⟩ := bf_of (iy.ext e1)
    refine ⟨hwp _, tyes ?_⟩
    refine ⟨_, hj _, t, _, 0, _, rfl, rfl, ht, atI_nat (xs := brV b) (j := 0) rfl, _, hj _, t, _, 1, _, rfl, rfl, ht, atI_nat (xs := brV b) (j := 1) rfl, _, hj _, t, _, 2, _, rfl, rfl, ht, atI_nat (xs := brV b) (j := 2) rfl, _, hj _, t, _, 3, _, rfl, rfl, ht, atI_nat (xs := brV b) (j := 3) rfl,
      _, hj _, t, _, 4, _, rfl, rfl, ht, atI_nat (xs := brV b) (j := 4) rfl, _, hj _, t, _, 5, _, rfl, rfl, ht, atI_nat (xs := brV b) (j := 5) rfl, fun x dx hx hdx hne => ?_⟩
    refine ⟨H', x, dx, b, rfl, hx, hdx, hne, rfl, fun H2 e2 i2 => ⟨rfl, ?_⟩⟩
    have hD2 := e2 _ _ hD1
    refine ⟨rs, hD2, ?_, (e1.trans e2).mut hD, rs ++ [.ref x], upd_same, ?_⟩
    · have h1 := isL_len hrs
      rw [List.length_map, List.length_take] at h1
      exact Nat.lt_of_lt_of_le (show rs.length < 2000 by omega) (by decide)
    · have hE : Ext (del H' D) (del (upd H2 D (.lst (rs ++ [.ref x]))) D) := (DE.of e2).trans DE.upd
      rw [List.take_add_one, hbi, List.map_append]
      refine isL_snoc (hrs.ext hE) ?_
      have z := br_del i2 hD2
      exact z.ext (DE.upd (w := D))
  · rintro H' ⟨e1, rs, hD1, hrs⟩
    have hl : ws.length = bs.length := by rw [isL_len hb, List.length_map]
    rw [hl, List.take_length] at hrs
    exact hd D H' rs hD e1 hD1 hrs
def spLWeb (K : PySem.W.Frag) (T : Tx K mg) : Sp := fun vs H Q _ => ∃ (v : V) (n : Int) (hl : List (Int × Int)) (bs : List BarD), vs = [v] ∧ Is K H (mD n hl bs) v ∧ WebOk n hl bs ∧ ∀ (u : V) (H' : Hp), Ext H H' → Is K H' (wbD T.C_Web T.C_Bar n bs (normH hl)) u → Q u H'
theorem ok_l_web (T : Tx K mg) : FnOk P w K mg base (L2.CX P w) 12 T.a_l_web T.fd_l_web ["_law_m"] (spLWeb K T) := by
  refine T.F_l_web.okX sc_l_web (fun vs H Q E h => ?_) (fun cdv A outer s H vs Q E hr h => ?_)
  · obtain ⟨v, n, hl, bs, rfl, _⟩ := h
    rfl
  · obtain ⟨v, n, hl, bs, rfl, hv, ok, k⟩ := h
    refine ⟨_, (pss_cons (ps_setLc (i := 1) (own := [("_law_one_here", 2)]) (g := gName 2) (tt := tYes) (te := brTE K T.C_Bar 2) (by rfl) sc_l_web.nd rfl rfl (sw_true rfl rfl rfl (by decide +kernel)) (pi_list (pe_dget (hu_of hr) (pv 0) pe_str (fun _ _ => rfl))) (blkOk_by (own := [("_law_one_here", 2)]) (N := N_l_web) (sc := defScope s_l_web) (by decide +kernel)) (fun _ _ _ _ _ => (pg_name (i := 2) sc_l_web.nd rfl (Or.inl rfl))) (fun _ _ _ _ _ => pts_nil) (fun _ _ _ _ _ => (pe_make T.k_Bar (ok_Bar_init T) (hr.mono (by decide)) rfl T.m_Bar T.b_Bar_init .nil passL (pa_cons (pe_ix ix_tup (pv 2) pe_int (fun _ _ => rfl)) (pa_cons (pe_ix ix_tup (pv 2) pe_int (fun _ _ => rfl)) (pa_cons (pe_ix ix_tup (pv 2) pe_int (fun _ _ => rfl)) (pa_cons (pe_ix ix_tup (pv 2) pe_int (fun _ _ => rfl)) (pa_cons (pe_ix ix_tup (pv 2) pe_int (fun _ _ => rfl)) (pa_cons (pe_ix ix_tup (pv 2) pe_int (fun _ _ => rfl)) pa_nil)))))))))
      (pss_one (ps_ret (pe_make T.k_Web (ok_Web_init T) (hr.mono (by decide)) rfl T.m_Web T.b_Web_init .nil passL (pa_cons (pe_dget (hu_of hr) (pv 0) pe_str (fun _ _ => rfl)) (pa_cons (pe_callTy call_dictD (by rfl) T.z_dict (by decide +kernel) (pa_cons (pe_dget (hu_of hr) (pv 0) pe_str (fun _ _ => rfl)) pa_nil)) (pa_cons (pv 1) pa_nil))))))), ?_⟩
    obtain ⟨M, hd, bl, ws, rfl, hM, hhd, hbl, hbs⟩ := m_of hv
    refine ⟨_, rfl, M, _, rfl, g_bars hM, bl, rfl, lc_bars hbl hbs (by have := ok.b8; omega) (fun v => rfl) (fun v => rfl) (fun D H1 rs hD e1 hD1 hrs => ?_)⟩
    refine ⟨_, rfl, M, _, rfl, g_rods (e1 _ _ hM), _, rfl, M, _, rfl, g_held (e1 _ _ hM), hd, _, rfl, .inl (e1 _ _ hhd), fun q hq => ?_⟩
    have e2 : Ext H (upd H1 q (.dK (hK hl))) := e1.trans (Ext.upd hq)
    refine ⟨_, rfl, fun x dx hx hdx hne => ?_⟩
    refine ⟨_, x, dx, n, q, D, hl, bs, rs, rfl, hx, hdx, hne, rfl, upd_same, ok.nd, ok.l64, .inl (SqL.of (Ext.upd hq _ _ hD1)), (hrs.ext del_ext).ext (Ext.upd hq), (by intro r h; rw [ok.ck] at h; cases h), fun _ H3 e3 i3 _ => ⟨rfl, k _ H3 (e2.trans e3) i3⟩⟩
end
end K07
namespace L2
def gcdL : Nat → List Int → Nat
  | g, [] => g
  | g, n :: r => gcdL (Nat.gcd g n.natAbs) r
theorem gcdL_append (g : Nat) (xs ys : List Int) : gcdL g (xs ++ ys) = gcdL (gcdL g xs) ys := by
  induction xs generalizing g with
  | nil => rfl
  | cons x r ih => exact ih _
theorem gcdL_gcd (g h : Nat) (xs : List Int) : gcdL (Nat.gcd g h) xs = Nat.gcd g (gcdL h xs) := by
  induction xs generalizing h with
  | nil => rfl
  | cons x r ih =>
    show gcdL (Nat.gcd (Nat.gcd g h) x.natAbs) r = Nat.gcd g (gcdL (Nat.gcd h x.natAbs) r)
    rw [Nat.gcd_assoc, ih]
theorem gcdL_dvd_start (g : Nat) (xs : List Int) : gcdL g xs ∣ g := by
  induction xs generalizing g with
  | nil => exact Nat.dvd_refl _
  | cons x r ih => exact Nat.dvd_trans (ih _) (Nat.gcd_dvd_left _ _)
theorem gcdL_pos {g : Nat} (xs : List Int) (h : 0 < g) : 0 < gcdL g xs := Nat.pos_of_dvd_of_pos (gcdL_dvd_start g xs) h
theorem gcdL_le {g : Nat} (xs : List Int) (h : 0 < g) : gcdL g xs ≤ g := Nat.le_of_dvd h (gcdL_dvd_start g xs)
/-- what Places keeps -/
def normN (ns : List Int) (s : Int) : List Int := ns.map fun n => n / ((gcdL s.natAbs ns : Nat) : Int)
def normP (ns : List Int) (s : Int) : Int := s / ((gcdL s.natAbs ns : Nat) : Int)
end L2
namespace L2
open PySem PySem.Spec PyProof.Rows
def lowN (n s : Int) : Int := n / ((Nat.gcd s.natAbs n.natAbs : Nat) : Int)
def lowP (n s : Int) : Int := s / ((Nat.gcd s.natAbs n.natAbs : Nat) : Int)
theorem low_gpos {n s : Int} (hs : 1 ≤ s) : 0 < Nat.gcd s.natAbs n.natAbs := Nat.gcd_pos_of_pos_left _ (by omega)
end L2
namespace K07
open PySem L2
section
variable {P : Program} {w : World} {K : PySem.W.Frag} {mg : Str → Option Value} {base : Heap}
def spDivisor (K : PySem.W.Frag) : Sp := fun vs H Q _ => ∃ (l : Addr) (ns : List Int), vs = [.ref l] ∧ SqQ K H l (ns.map V.int) ∧ Q (.int ((gcdL 0 ns : Nat) : Int)) H
theorem ok_divisor (T : Tx K mg) : FnOk P w K mg base (L2.CX P w) 1 T.a_divisor T.fd_divisor ["numbers"] (spDivisor K) := by
  refine T.F_divisor.okX sc_divisor (fun vs H Q E h => ?_) (fun cdv A outer s H vs Q E hr h => ?_)
  · obtain ⟨l, ns, rfl, _⟩ := h
    rfl
  · obtain ⟨l, ns, rfl, hl, k⟩ := h
    refine ⟨_, (pss_cons (ps_set (i := 1) sc_divisor.nd rfl (Or.inl rfl) pe_int)
      (pss_cons (ps_for (passes_of rfl) rfl (pi_seq (pv 0)) (pg_name (i := 2) sc_divisor.nd rfl (Or.inl rfl)) (pss_one (ps_set (i := 1) sc_divisor.nd rfl (Or.inl rfl) (pe_callBfun cr_gcd rfl T.m_gcd (pa_cons (pv 1) (pa_cons (pv 2) pa_nil))))))
      (pss_one (ps_ret (pv 1))))), ?_⟩
    refine ⟨_, rfl, l, rfl, for_seq (xs := ns.map V.int) (H0 := H) hl (fun i σ H' => H' = H ∧ ∃ v : Option V, σ = [some (.ref l), some (.int ((gcdL 0 (ns.take i) : Nat) : Int)), v]) ⟨rfl, none, rfl⟩ (fun i σ H' _ p => p.1 ▸ Ext.rfl') ?_ ?_⟩
    · rintro i y σ H' hi ⟨rfl, v, rfl⟩
      obtain ⟨n, hn, rfl⟩ : ∃ n, ns[i]? = some n ∧ y = V.int n := by
        rw [List.getElem?_map] at hi
        cases e : ns[i]? with
        | none => rw [e] at hi; cases hi
        | some n => rw [e] at hi; exact ⟨n, rfl, (Option.some.inj hi).symm⟩
      have step : gcdL 0 (ns.take (i + 1)) = Nat.gcd (gcdL 0 (ns.take i)) n.natAbs := by
        rw [List.take_add_one, hn, gcdL_append]
        rfl
      refine ⟨_, rfl, _, rfl, _, _, rfl, rfl, some (.int n), ?_⟩
      rw [step, Int.natAbs_natCast]
      rfl
    · rintro σ H' ⟨rfl, v, rfl⟩
      rw [List.length_map, List.take_length]
      exact ⟨_, rfl, k⟩
/-- tops over a bottom above nought, in lowest terms: a new tuple of a new tuple and a number -/
def spLowest (K : PySem.W.Frag) : Sp := fun vs H Q _ => ∃ (l : Addr) (ns : List Int) (s : Int), vs = [.ref l, .int s] ∧ SqQ K H l (ns.map V.int) ∧ ns.length ≤ 1000 ∧ 1 ≤ s ∧ s.natAbs < 2 ^ 8000 ∧
  ∀ t u H', Ext H H' → H t = none → H u = none → H' t = some (.tup ((normN ns s).map V.int)) → H' u = some (.tup [.ref t, .int (normP ns s)]) → Q (.ref u) H'
theorem ok_lowest (T : Tx K mg) : FnOk P w K mg base (L2.CX P w) 2 T.a_lowest T.fd_lowest ["tops", "bottom"] (spLowest K) := by
  refine T.F_lowest.okX sc_lowest (fun vs H Q E h => ?_) (fun cdv A outer s H vs Q E hr h => ?_)
  · obtain ⟨l, ns, s, rfl, _⟩ := h
    rfl
  · obtain ⟨l, ns, sh, rfl, hq, hlen, hs1, hbig, k⟩ := h
    refine ⟨_, (pss_cons (ps_set (i := 2) sc_lowest.nd rfl (Or.inr rfl) (pe_callBfun cr_gcd rfl T.m_gcd (pa_cons (pe_call (ok_divisor T) (hr.mono (by decide)) rfl T.m_divisor T.F_divisor.kp T.b_divisor .nil passL (pa_cons (pv 0) pa_nil)) (pa_cons (pv 1) pa_nil))))
      (pss_one (ps_ret (pe_tup (pa_cons (pe_callTy call_tuple_of (by rfl) T.z_tuple (by decide +kernel) (pa_cons (pe_lc (own := [("top", 3)]) (g := gName 3) (tt := tYes) (by rfl) sc_lowest.nd (pi_seq (pv 0)) (blkOk_by (own := [("top", 3)]) (N := N_lowest) (sc := defScope s_lowest) (by decide +kernel)) (fun _ _ _ _ _ => (pg_name (i := 3) sc_lowest.nd rfl (Or.inl rfl))) (fun _ _ _ _ _ => pts_nil) (fun _ _ _ _ _ => (pe_op op_fdivW (pv 3) (pv 2)))) pa_nil)) (pa_cons (pe_op op_fdivW (pv 1) (pv 2)) pa_nil)))))), ?_⟩
    have hg0 : 0 < gcdL sh.natAbs ns := gcdL_pos ns (by omega)
    have hgb : gcdL sh.natAbs ns < 2 ^ 8000 := Nat.lt_of_le_of_lt (gcdL_le ns (by omega)) hbig
    have eg : Nat.gcd ((gcdL 0 ns : Nat) : Int).natAbs sh.natAbs = gcdL sh.natAbs ns := by
      rw [Int.natAbs_natCast, Nat.gcd_comm, ← gcdL_gcd, Nat.gcd_zero_right]
    refine ⟨_, rfl, l, ns, rfl, hq, _, rfl, _, _, rfl, ?_⟩
    dsimp only
    rw [eg]
    refine ⟨_, rfl, l, rfl, lc_seq (xs := ns.map V.int) hq Ext.rfl' (fun D i H' => Ext H H' ∧ H' D = some (.lst (((ns.take i).map fun n => n / ((gcdL sh.natAbs ns : Nat) : Int)).map V.int)))
      (fun D hD => ⟨Ext.upd hD, upd_same⟩) (fun D i H' _ p => p.1) ?_ ?_⟩
    · rintro D i y H' hD hi ⟨e1, hD1⟩
      obtain ⟨n, hn, rfl⟩ : ∃ n, ns[i]? = some n ∧ y = V.int n := by
        rw [List.getElem?_map] at hi
        cases e : ns[i]? with
        | none => rw [e] at hi; cases hi
        | some n => rw [e] at hi; exact ⟨n, rfl, (Option.some.inj hi).symm⟩
      have hin : i < ns.length := (List.getElem?_eq_some_iff.mp hn).1
      refine ⟨rfl, tyes ?_⟩
      refine ⟨_, rfl, _, rfl, _, _, rfl, rfl, wide_div (b := 8000) (by omega) (by rw [Int.natAbs_natCast]; exact hgb) (by decide) (by decide), ?_⟩
      refine ⟨_, hD1, ?_, e1.mut hD, ?_⟩
      · rw [List.length_map, List.length_map, List.length_take]
        exact Nat.lt_of_lt_of_le (show min i ns.length < 2000 by omega) (by decide)
      · rw [upd_same, List.take_add_one, hn, List.map_append, List.map_append]
        rfl
    · rintro D H' hD ⟨e1, hD1⟩
      rw [List.length_map, List.take_length] at hD1
      refine ⟨D, _, rfl, .inl ⟨SqL.of hD1, fun t ht => ?_⟩⟩
      refine ⟨_, rfl, _, rfl, _, _, rfl, rfl, wide_div (b := 8000) (by omega) (by rw [Int.natAbs_natCast]; exact hgb) (by decide) (by decide), (by show 2 ≤ sizeLine; decide), fun u hu => ?_⟩
      have htu : t ≠ u := ne_of_none upd_same hu
      have hu' : H' u = none := by rw [upd_ne htu.symm] at hu; exact hu
      refine k t u _ ((e1.trans (Ext.upd ht)).trans (Ext.upd hu)) (e1.fresh ht) (e1.fresh hu') ?_ upd_same
      rw [upd_ne htu, upd_same]
      rfl
end
end K07
namespace K07
open PySem L2
section
variable {P : Program} {w : World} {K : PySem.W.Frag} {mg : Str → Option Value} {base : Heap}
def spFraction (K : PySem.W.Frag) : Sp := fun vs H Q _ => ∃ (n s : Int), vs = [.int n, .int s] ∧ 1 ≤ s ∧ s.natAbs < 2 ^ 8000 ∧
  ∀ u H', Ext H H' → H u = none → H' u = some (.tup [.int (lowN n s), .int (lowP n s)]) → Q (.ref u) H'
theorem ok_fraction (T : Tx K mg) : FnOk P w K mg base (L2.CX P w) 3 T.a_fraction T.fd_fraction ["top", "bottom"] (spFraction K) := by
  refine T.F_fraction.okX sc_fraction (fun vs H Q E h => ?_) (fun cdv A outer s H vs Q E hr h => ?_)
  · obtain ⟨n, s, rfl, _⟩ := h
    rfl
  · obtain ⟨n, sh, rfl, hs1, hbig, k⟩ := h
    refine ⟨_, (pss_cons (ps_asg (pe_call (ok_lowest T) (hr.mono (by decide)) rfl T.m_lowest T.F_lowest.kp T.b_lowest .nil passL (pa_cons (pe_lst (pa_cons (pv 0) pa_nil)) (pa_cons (pv 1) pa_nil))) (pg_tup (by rfl) (pgs_cons (pg_name (i := 2) sc_fraction.nd rfl (Or.inl rfl)) (pgs_cons (pg_name (i := 3) sc_fraction.nd rfl (Or.inl rfl)) pgs_nil))))
      (pss_one (ps_ret (pe_tup (pa_cons (pe_ix ix_tup (pv 2) pe_int (fun _ _ => rfl)) (pa_cons (pv 3) pa_nil)))))), ?_⟩
    refine ⟨_, rfl, by show 1 ≤ sizeLine; decide, fun l hl => ?_⟩
    refine ⟨_, rfl, l, [n], sh, rfl, .inl (SqL.of upd_same), by show 1 ≤ 1000; decide, hs1, hbig, fun t u H' e1 ht hu ht1 hu1 => ?_⟩
    refine ⟨u, _, rfl, SqT.of hu1, rfl, _, _, rfl, _, _, rfl, rfl, ?_⟩
    refine ⟨_, rfl, t, _, _, _, rfl, rfl, SqT.of ht1, rfl, _, rfl, by show 2 ≤ sizeLine; decide, fun w hw => ?_⟩
    exact k w _ (((Ext.upd hl).trans e1).trans (Ext.upd hw)) (((Ext.upd hl).trans e1).fresh hw) upd_same
end
end K07
namespace K07
open PySem L2
def tv (ts : List Int) (r : Int) : Int := ts.getD r.toNat 0
theorem at_tv {ts : List Int} {r : Int} (h0 : 0 ≤ r) (h1 : r < (ts.length : Int)) : atI (ts.map V.int) r = some (.int (tv ts r)) := by
  obtain ⟨k, rfl⟩ : ∃ k : Nat, r = (k : Int) := ⟨r.toNat, by omega⟩
  have hk : k < ts.length := by omega
  refine atI_nat ?_
  unfold tv
  rw [Int.toNat_natCast, List.getElem?_map, List.getD_eq_getElem?_getD, List.getElem?_eq_getElem hk]
  rfl
theorem len20 {x : Int} (h : 1 ≤ x) (h2 : x ≤ 1000000) : x.natAbs < 2 ^ 20 := by omega
def freeT : Str := Str.ofString "free"
def noneT : Str := Str.ofString "none"
/-- what a rise and a share of it tell -/
def resD (L r s : Int) : Dt := if r = s ∧ s = 0 then .str freeT else if 0 ≤ s ∧ s ≤ r then .tup [.int (lowN (L * s) r), .int (lowP (L * s) r)] else .str noneT
/-- what heights tell of one bar -/
def seenD (b : BarD) (ts : List Int) : Dt := if tv ts b.b - tv ts b.a < 0 then resD b.len (-(tv ts b.b - tv ts b.a)) (-(tv ts b.c - tv ts b.a)) else resD b.len (tv ts b.b - tv ts b.a) (tv ts b.c - tv ts b.a)
section
variable {P : Program} {w : World} {K : PySem.W.Frag} {mg : Str → Option Value} {base : Heap}
def spLedBar (K : PySem.W.Frag) (T : Tx K mg) : Sp := fun vs H Q _ => ∃ (v : V) (h : Addr) (n : Int) (b : BarD) (ts : List Int), vs = [v, .ref h] ∧ Is K H (brD T.C_Bar b) v ∧ SqQ K H h (ts.map V.int) ∧ BarOk n b ∧ (ts.length : Int) = n ∧ (∀ x ∈ ts, x.natAbs < 2 ^ 60) ∧
  ∀ u H', Ext H H' → Is K H' (seenD b ts) u → Q u H'
theorem tv_lt {ts : List Int} {r : Int} (h : ∀ x ∈ ts, x.natAbs < 2 ^ 60) : (tv ts r).natAbs < 2 ^ 60 := by
  unfold tv
  rw [List.getD_eq_getElem?_getD]
  cases e : ts[r.toNat]? with
  | none => decide
  | some x => exact h x (List.mem_of_getElem? e)
theorem ok_led_bar (T : Tx K mg) : FnOk P w K mg base (L2.CX P w) 5 T.a_led_bar T.fd_led_bar ["bar", "heights"] (spLedBar K T) := by
  refine T.F_led_bar.okX sc_led_bar (fun vs H Q E h => ?_) (fun cdv A outer s H vs Q E hr h => ?_)
  · obtain ⟨v, h, n, b, ts, rfl, _⟩ := h
    rfl
  · obtain ⟨v, h, n, b, ts, rfl, hv, hh, okb, tl, tsm, k⟩ := h
    refine ⟨_, (pss_cons (ps_set (i := 2) sc_led_bar.nd rfl (Or.inl rfl) (pe_op op_sub (pe_ix ix_seqQ (pv 1) (pe_fld (pv 0) rfl) (fun _ _ => rfl)) (pe_ix ix_seqQ (pv 1) (pe_fld (pv 0) rfl) (fun _ _ => rfl))))
      (pss_cons (ps_set (i := 3) sc_led_bar.nd rfl (Or.inl rfl) (pe_op op_sub (pe_ix ix_seqQ (pv 1) (pe_fld (pv 0) rfl) (fun _ _ => rfl)) (pe_ix ix_seqQ (pv 1) (pe_fld (pv 0) rfl) (fun _ _ => rfl))))
      (pss_cons (ps_if (pt_cmpR op_lt (pv 2) pe_int (nomark _)) (pss_one (ps_par (i := 2) (j := 3) (by rfl) sc_led_bar.nd rfl rfl (by decide) rfl rfl (pa_cons (pe_un un_neg (pv 2)) (pa_cons (pe_un un_neg (pv 3)) pa_nil)) (by rfl))) pss_nil)
      (pss_cons (ps_if (pt_chain op_eq op_eq (pv 2) (pv 3) pe_int) (pss_one (ps_ret pe_str)) pss_nil)
      (pss_cons (ps_if (pt_not (pt_chain op_le op_le pe_int (pv 3) (pv 2))) (pss_one (ps_ret pe_str)) pss_nil)
      (pss_one (ps_ret (pe_call (ok_fraction T) (hr.mono (by decide)) rfl T.m_fraction T.F_fraction.kp T.b_fraction .nil passL (pa_cons (pe_op op_mulW (pe_fld (pv 0) rfl) (pv 3)) (pa_cons (pv 2) pa_nil)))))))))), ?_⟩
    obtain ⟨bx, bdx, rfl, hbx⟩ := br_fields hv
    have aa := at_tv (ts := ts) okb.a0 (by have := okb.a1; omega)
    have ab := at_tv (ts := ts) okb.b0 (by have := okb.b1; omega)
    have ac := at_tv (ts := ts) okb.c0 (by have := okb.c1; omega)
    have sa := tv_lt (r := b.a) tsm
    have sb := tv_lt (r := b.b) tsm
    have sc := tv_lt (r := b.c) tsm
    have hdue : seenD b ts = if tv ts b.b - tv ts b.a < 0 then resD b.len (-(tv ts b.b - tv ts b.a)) (-(tv ts b.c - tv ts b.a)) else resD b.len (tv ts b.b - tv ts b.a) (tv ts b.c - tv ts b.a) := rfl
    generalize tv ts b.a = ta at *
    generalize tv ts b.b = tb at *
    generalize tv ts b.c = tc at *
    refine ⟨_, rfl, _, rfl, bx, T.C_Bar, bdx, _, _, rfl, hbx, T.c_Bar, T.nf_Bar_b, rfl, h, _, _, _, rfl, rfl, hh, ab, ?_⟩
    refine ⟨_, rfl, _, rfl, bx, T.C_Bar, bdx, _, _, rfl, hbx, T.c_Bar, T.nf_Bar_a, rfl, h, _, _, _, rfl, rfl, hh, aa, _, _, rfl, rfl, ?_⟩
    refine ⟨_, rfl, _, rfl, bx, T.C_Bar, bdx, _, _, rfl, hbx, T.c_Bar, T.nf_Bar_c, rfl, h, _, _, _, rfl, rfl, hh, ac, ?_⟩
    refine ⟨_, rfl, _, rfl, bx, T.C_Bar, bdx, _, _, rfl, hbx, T.c_Bar, T.nf_Bar_a, rfl, h, _, _, _, rfl, rfl, hh, aa, _, _, rfl, rfl, ?_⟩
    have hR : (tb - ta).natAbs < 2 ^ 61 := by omega
    have hS : (tc - ta).natAbs < 2 ^ 61 := by omega
    dsimp only
    generalize tb - ta = r0 at hR hdue ⊢
    generalize tc - ta = s0 at hS hdue ⊢
    have big : ∀ {r : Int}, r.natAbs < 2 ^ 61 → r.natAbs < 2 ^ 8000 := fun h => Nat.lt_of_lt_of_le h (Nat.pow_le_pow_right (by decide) (by decide))
    have mul : ∀ {s : Int}, s.natAbs < 2 ^ 61 → CMulW b.len s := fun h => wide_mul (a := 20) (b := 61) (len20 okb.l0 okb.l1) h (by decide) (by decide) (by decide)
    refine ⟨_, rfl, _, _, rfl, rfl, _, rfl, ite2 (fun c => ?_) (fun c => ?_)⟩
    · have hc := of_decide_eq_true c
      rw [if_pos hc] at hdue
      refine ⟨_, rfl, _, rfl, _, rfl, _, rfl, ⟨_, _, rfl, ?_⟩⟩
      obtain ⟨r, hr', hr, hrs, s, hs', hmul⟩ : ∃ r : Int, r = -r0 ∧ 0 ≤ r ∧ r.natAbs < 2 ^ 8000 ∧ ∃ s : Int, s = -s0 ∧ CMulW b.len s :=
        ⟨-r0, rfl, by omega, by rw [Int.natAbs_neg]; exact big hR, -s0, rfl, mul (by rw [Int.natAbs_neg]; exact hS)⟩
      dsimp only
      rw [← hr', ← hs'] at hdue ⊢
      clear hc c hr' hs' hR hS big mul
      refine ⟨_, rfl, _, rfl, rfl, _, rfl, ite2 (fun c1 => ?_) (fun c1 => ?_)⟩
      · have hsr : r = s := V.int.inj (of_decide_eq_true c1)
        subst hsr
        refine ⟨rfl, _, rfl, ite2 (fun c2 => ?_) (fun c2 => ?_)⟩
        · have h0 : r = 0 := V.int.inj (of_decide_eq_true c2)
          refine k _ H Ext.rfl' ?_
          rw [hdue]
          unfold resD
          rw [if_pos ⟨rfl, h0⟩]
          exact rfl
        · have h0 : ¬ r = 0 := fun z => c2 (decide_eq_true (congrArg V.int z))
          refine ⟨_, rfl, _, _, rfl, rfl, _, rfl, ?_⟩
          rw [decide_eq_true hr]
          refine iteT ?_
          refine ⟨_, rfl, _, _, rfl, rfl, _, rfl, ?_⟩
          rw [decide_eq_true (Int.le_refl r)]
          refine iteF ?_
          refine ⟨_, rfl, bx, T.C_Bar, bdx, _, _, rfl, hbx, T.c_Bar, T.nf_Bar_length, rfl, _, rfl, _, _, rfl, rfl, hmul, _, rfl, _, _, rfl, by omega, hrs, fun u H' e hu hu' => ?_⟩
          refine k _ H' e ?_
          rw [hdue]
          unfold resD
          rw [if_neg (fun z => h0 z.2), if_pos ⟨hr, Int.le_refl r⟩]
          exact ⟨u, _, rfl, SqT.of hu', _, _, rfl, rfl, _, _, rfl, rfl, rfl⟩
      · have hne : ¬ r = s := fun z => c1 (decide_eq_true (congrArg V.int z))
        refine ⟨_, rfl, iteF ?_⟩
        by_cases h0 : 0 ≤ s
        · by_cases h1 : s ≤ r
          · refine ⟨_, rfl, _, _, rfl, rfl, _, rfl, ?_⟩
            rw [decide_eq_true h0]
            refine iteT ?_
            refine ⟨_, rfl, _, _, rfl, rfl, _, rfl, ?_⟩
            rw [decide_eq_true h1]
            refine iteF ?_
            refine ⟨_, rfl, bx, T.C_Bar, bdx, _, _, rfl, hbx, T.c_Bar, T.nf_Bar_length, rfl, _, rfl, _, _, rfl, rfl, hmul, _, rfl, _, _, rfl, by omega, hrs, fun u H' e hu hu' => ?_⟩
            refine k _ H' e ?_
            rw [hdue]
            unfold resD
            rw [if_neg (fun z => hne z.1), if_pos ⟨h0, h1⟩]
            exact ⟨u, _, rfl, SqT.of hu', _, _, rfl, rfl, _, _, rfl, rfl, rfl⟩
          · refine ⟨_, rfl, _, _, rfl, rfl, _, rfl, ?_⟩
            rw [decide_eq_true h0]
            refine iteT ?_
            refine ⟨_, rfl, _, _, rfl, rfl, _, rfl, ?_⟩
            rw [decide_eq_false h1]
            refine iteT ?_
            refine k _ H Ext.rfl' ?_
            rw [hdue]
            unfold resD
            rw [if_neg (fun z => hne z.1), if_neg (fun z => h1 z.2)]
            exact rfl
        · refine ⟨_, rfl, _, _, rfl, rfl, _, rfl, ?_⟩
          rw [decide_eq_false h0]
          refine iteF ?_
          refine ⟨_, rfl, iteT ?_⟩
          refine k _ H Ext.rfl' ?_
          rw [hdue]
          unfold resD
          rw [if_neg (fun z => hne z.1), if_neg (fun z => h0 z.1)]
          exact rfl
    · have hc : ¬ r0 < 0 := fun z => c (decide_eq_true z)
      rw [if_neg hc] at hdue
      obtain ⟨r, hr', hr, hrs, s, hs', hmul⟩ : ∃ r : Int, r = r0 ∧ 0 ≤ r ∧ r.natAbs < 2 ^ 8000 ∧ ∃ s : Int, s = s0 ∧ CMulW b.len s :=
        ⟨r0, rfl, by omega, big hR, s0, rfl, mul hS⟩
      rw [← hr', ← hs'] at hdue ⊢
      clear hc c hr' hs' hR hS big mul
      refine ⟨_, rfl, _, rfl, rfl, _, rfl, ite2 (fun c1 => ?_) (fun c1 => ?_)⟩
      · have hsr : r = s := V.int.inj (of_decide_eq_true c1)
        subst hsr
        refine ⟨rfl, _, rfl, ite2 (fun c2 => ?_) (fun c2 => ?_)⟩
        · have h0 : r = 0 := V.int.inj (of_decide_eq_true c2)
          refine k _ H Ext.rfl' ?_
          rw [hdue]
          unfold resD
          rw [if_pos ⟨rfl, h0⟩]
          exact rfl
        · have h0 : ¬ r = 0 := fun z => c2 (decide_eq_true (congrArg V.int z))
          refine ⟨_, rfl, _, _, rfl, rfl, _, rfl, ?_⟩
          rw [decide_eq_true hr]
          refine iteT ?_
          refine ⟨_, rfl, _, _, rfl, rfl, _, rfl, ?_⟩
          rw [decide_eq_true (Int.le_refl r)]
          refine iteF ?_
          refine ⟨_, rfl, bx, T.C_Bar, bdx, _, _, rfl, hbx, T.c_Bar, T.nf_Bar_length, rfl, _, rfl, _, _, rfl, rfl, hmul, _, rfl, _, _, rfl, by omega, hrs, fun u H' e hu hu' => ?_⟩
          refine k _ H' e ?_
          rw [hdue]
          unfold resD
          rw [if_neg (fun z => h0 z.2), if_pos ⟨hr, Int.le_refl r⟩]
          exact ⟨u, _, rfl, SqT.of hu', _, _, rfl, rfl, _, _, rfl, rfl, rfl⟩
      · have hne : ¬ r = s := fun z => c1 (decide_eq_true (congrArg V.int z))
        refine ⟨_, rfl, iteF ?_⟩
        by_cases h0 : 0 ≤ s
        · by_cases h1 : s ≤ r
          · refine ⟨_, rfl, _, _, rfl, rfl, _, rfl, ?_⟩
            rw [decide_eq_true h0]
            refine iteT ?_
            refine ⟨_, rfl, _, _, rfl, rfl, _, rfl, ?_⟩
            rw [decide_eq_true h1]
            refine iteF ?_
            refine ⟨_, rfl, bx, T.C_Bar, bdx, _, _, rfl, hbx, T.c_Bar, T.nf_Bar_length, rfl, _, rfl, _, _, rfl, rfl, hmul, _, rfl, _, _, rfl, by omega, hrs, fun u H' e hu hu' => ?_⟩
            refine k _ H' e ?_
            rw [hdue]
            unfold resD
            rw [if_neg (fun z => hne z.1), if_pos ⟨h0, h1⟩]
            exact ⟨u, _, rfl, SqT.of hu', _, _, rfl, rfl, _, _, rfl, rfl, rfl⟩
          · refine ⟨_, rfl, _, _, rfl, rfl, _, rfl, ?_⟩
            rw [decide_eq_true h0]
            refine iteT ?_
            refine ⟨_, rfl, _, _, rfl, rfl, _, rfl, ?_⟩
            rw [decide_eq_false h1]
            refine iteT ?_
            refine k _ H Ext.rfl' ?_
            rw [hdue]
            unfold resD
            rw [if_neg (fun z => hne z.1), if_neg (fun z => h1 z.2)]
            exact rfl
        · refine ⟨_, rfl, _, _, rfl, rfl, _, rfl, ?_⟩
          rw [decide_eq_false h0]
          refine iteF ?_
          refine ⟨_, rfl, iteT ?_⟩
          refine k _ H Ext.rfl' ?_
          rw [hdue]
          unfold resD
          rw [if_neg (fun z => hne z.1), if_neg (fun z => h0 z.1)]
          exact rfl
end
end K07
namespace K07
open PySem L2
/-- what heights are refused for -/
inductive Hf where
  | cnt (x : Str) (n : Int) | held (r : Int)
def Hf.fs : Hf → List (Str × V)
  | .cnt x n => [("count", .int n), ("what", .str x)]
  | .held r => [("rod", .int r)]
section
variable {P : Program} {w : World} {K : PySem.W.Frag} {mg : Str → Option Value} {base : Heap}
def Hf.C (T : Tx K mg) : Hf → Addr
  | .cnt _ _ => T.C_BadCount
  | .held _ => T.C_NotHeld
def Hf.E (T : Tx K mg) (r : Hf) (E : XK) (H : Hp) : Prop := ∀ d H', Ext H H' → H d = none → H' d = some (.xd r.fs) → E (.ref (r.C T)) (some d) H'
def offH (hl : List (Int × Int)) (ts : List Int) (s : Int) (r : Int) : Bool := !decide (tv ts r = lookI hl r * s)
def ckHt (n : Nat) (hl : List (Int × Int)) (ts : List Int) (s : Int) : Option Hf :=
  if s < 1 then some (.cnt (Str.ofString "parts") s) else if ¬ ts.length = n then some (.cnt (Str.ofString "heights") ts.length) else ((srtI (hl.map (·.1))).find? (offH hl ts s)).map .held
theorem ok_NotHeld_init (T : Tx K mg) : FnOk P w K mg base CX0 1 T.a_NotHeld_init T.fd_NotHeld_init ["self", "rod"] (spX T.C_NotHeld 1 (fo1 "rod")) := by
  refine T.F_NotHeld_init.ok sc_NotHeld_init (fun vs H Q E h => ?_) (fun cdv A outer s H vs Q E hr h => ?_)
  · obtain ⟨H0, a, ws, rfl, hn, _⟩ := h
    rw [List.length_cons, hn] <;> rfl
  · obtain ⟨H0, a, ws, rfl, hn, ha, rfl, k⟩ := h
    match ws, hn with
    | [x], _ =>
      refine ⟨_, pss_one (ps_ost (pv 0) (pv 1)), ?_⟩
      refine ⟨_, rfl, _, rfl, a, T.C_NotHeld, rfl, T.O_NotHeld, T.nf_NotHeld_rod, .inl ⟨upd_same, fun d hd hda => ?_⟩⟩
      rw [upd_ne hda] at hd
      rw [exo1 hda]
      exact k d hd hda
def spCkHt (K : PySem.W.Frag) (T : Tx K mg) : Sp := fun vs H Q E => ∃ (v : V) (h : Addr) (n : Nat) (bs : List BarD) (hl : List (Int × Int)) (ts : List Int) (s : Int), vs = [v, .ref h, .int s] ∧ Is K H (wbD T.C_Web T.C_Bar (n : Int) bs hl) v ∧ SqQ K H h (ts.map V.int) ∧ s.natAbs ≤ 10 ^ 9 ∧ (∀ p ∈ hl, (0 ≤ p.1 ∧ p.1 < (n : Int)) ∧ -1000000 ≤ p.2 ∧ p.2 ≤ 1000000) ∧ hl.length < 64 ∧
  (∀ r, ckHt n hl ts s = some r → r.E T E H) ∧ (ckHt n hl ts s = none → ∀ H', Ext H H' → Q .non H')
theorem ok_check_heights (T : Tx K mg) : FnOk P w K mg base (L2.CX P w) 4 T.a_check_heights T.fd_check_heights ["web", "heights", "parts"] (spCkHt K T) := by
  refine T.F_check_heights.okX sc_check_heights (fun vs H Q E h => ?_) (fun cdv A outer s H vs Q E hr h => ?_)
  · obtain ⟨v, h, n, bs, hl, ts, sb, rfl, _⟩ := h
    rfl
  · obtain ⟨v, h, n, bs, hl, ts, sb, rfl, hv, hh, hsb, hks, h64, kE, kQ⟩ := h
    refine ⟨_, (pss_cons (ps_if (pt_cmpR op_lt (pv 2) pe_int (nomark _)) (pss_one (ps_raiseX T.X_BadCount (ok_BadCount_init T) (hr.mono (by decide)) rfl (takes_of rfl rfl rfl rfl) rfl (pa_cons pe_str (pa_cons (pv 2) pa_nil)))) pss_nil)
      (pss_cons (ps_if (pt_cmpR op_ne (pe_callB call_len_seq (by rfl) T.z_len PySem.boot_len (pa_cons (pv 1) pa_nil)) (pe_fld (pv 0) rfl) (nomark _)) (pss_one (ps_raiseX T.X_BadCount (ok_BadCount_init T) (hr.mono (by decide)) rfl (takes_of rfl rfl rfl rfl) rfl (pa_cons pe_str (pa_cons (pe_callB call_len_seq (by rfl) T.z_len PySem.boot_len (pa_cons (pv 1) pa_nil)) pa_nil)))) pss_nil)
      (pss_cons (ps_set (i := 3) sc_check_heights.nd rfl (Or.inl rfl) (pe_meth0 (pv 0) T.c_Web T.M_Web_held (ok_Web_held T) (hr.mono (by decide)) T.b_Web_held .nil passL))
      (pss_one (ps_for (passes_of rfl) rfl (pi_list (pe_callB (call_sortedDI rfl) (by rfl) T.z_sorted (by decide +kernel) (pa_cons (pv 3) pa_nil))) (pg_name (i := 4) sc_check_heights.nd rfl (Or.inl rfl)) (pss_one (ps_if (pt_cmpR op_ne (pe_ix ix_seqQ (pv 1) (pv 4) (fun _ _ => rfl)) (pe_op op_mul (pe_dget (hu_of hr) (pv 3) (pv 4) (fun _ _ => rfl)) (pv 2)) (nomark _)) (pss_one (ps_raiseX T.X_NotHeld (ok_NotHeld_init T) (hr.mono (by decide)) rfl (takes_of rfl rfl rfl rfl) rfl (pa_cons (pv 4) pa_nil))) pss_nil))))))), ?_⟩
    obtain ⟨a, dx, t, d, ws, rfl, ha, ht, hb, hd⟩ := wb_fields hv
    refine ⟨_, rfl, _, _, rfl, rfl, _, rfl, ite2 (fun c => ?_) fun c => ?_⟩
    · have hc : sb < 1 := of_decide_eq_true c
      refine ⟨_, rfl, rz_ok (n := 2) rfl (by decide) fun d' hd' => kE (.cnt (Str.ofString "parts") sb) (by unfold ckHt; exact if_pos hc) d' _ (Ext.upd hd') hd' ?_⟩
      rw [upd_same]
      rfl
    have hs1 : ¬ sb < 1 := fun z => c (decide_eq_true z)
    refine ⟨_, rfl, h, _, rfl, hh, ?_⟩
    rw [List.length_map]
    refine ⟨_, rfl, a, T.C_Web, dx, _, _, rfl, ha, T.c_Web, T.nf_Web_rods, rfl, rfl, _, rfl, ?_⟩
    refine ite2 (fun hc => ?_) fun hc => ?_
    · have hne : ¬ ts.length = n := fun z => by
        rw [z] at hc
        simp at hc
      refine ⟨_, rfl, h, _, rfl, hh, rz_ok (n := 2) rfl (by decide) fun d' hd' => kE (.cnt (Str.ofString "heights") ts.length) (by unfold ckHt; rw [if_neg hs1]; exact if_pos hne) d' _ (Ext.upd hd') hd' ?_⟩
      rw [upd_same, List.length_map]
      rfl
    have hlen : ts.length = n := Classical.byContradiction fun z => hc (by
      rw [decide_eq_false (fun y => z (by have := V.int.inj y; omega))]
      rfl)
    have hck : ckHt n hl ts sb = ((srtI (hl.map (·.1))).find? (offH hl ts sb)).map .held := by
      unfold ckHt
      rw [if_neg hs1, if_neg (fun z => z hlen)]
    rw [hck] at kQ
    simp only [hck] at kE
    clear hck hc c
    refine ⟨_, rfl, a, dx, _, rfl, ha, rfl, .ref a, (n : Int), bs, hl, rfl, hv, fun q hq => ?_⟩
    have e1 : Ext H (upd H q (.dK (hK hl))) := Ext.upd hq
    have hq1 : (upd H q (.dK (hK hl))) q = some (.dK (hK hl)) := upd_same
    generalize upd H q (.dK (hK hl)) = H1 at e1 hq1 ⊢
    have hkk : (hK hl).map (·.1) = (hl.map (·.1)).map Sum.inl := by
      unfold hK
      rw [List.map_map, List.map_map]
      rfl
    refine ⟨_, rfl, q, _, _, rfl, .inl hq1, hkk, by rw [List.length_map]; exact h64, fun ys p hp hs hpn => ?_⟩
    cases srt_eq hp hs
    have e2 : Ext H1 (upd H1 p (.lst ((srtI (hl.map (·.1))).map V.int))) := Ext.upd hpn
    have hp1 : (upd H1 p (.lst ((srtI (hl.map (·.1))).map V.int))) p = some (.lst ((srtI (hl.map (·.1))).map V.int)) := upd_same
    generalize upd H1 p (.lst ((srtI (hl.map (·.1))).map V.int)) = H2 at e2 hp1 ⊢
    refine ⟨p, rfl, ⟨_, SqL.of hp1⟩, for_list (K := K) (a := p) (xs := (srtI (hl.map (·.1))).map V.int) (fun i σ H' => Ext H2 H' ∧ (∀ (j : Nat) (y : Int), j < i → (srtI (hl.map (·.1)))[j]? = some y → offH hl ts sb y = false) ∧ ∃ v4 : Option V, σ = [some (.ref a), some (.ref h), some (.int sb), some (.ref q), v4])
      ⟨Ext.rfl', fun j y z => absurd z (Nat.not_lt_zero _), none, rfl⟩ (fun i σ H' _ p => (SqL.of hp1).ext p.1) ?_ ?_⟩
    · rintro i y σ H3 hi ⟨e3, hno, v4, rfl⟩
      obtain ⟨r, hr', rfl⟩ : ∃ r, (srtI (hl.map (·.1)))[i]? = some r ∧ y = V.int r := by
        rw [List.getElem?_map] at hi
        cases e : (srtI (hl.map (·.1)))[i]? with
        | none => rw [e] at hi; cases hi
        | some n => rw [e] at hi; exact ⟨n, rfl, (Option.some.inj hi).symm⟩
      have hrm : r ∈ hl.map (·.1) := (srtI_perm _).mem_iff.mp (List.mem_of_getElem? hr')
      have hlm := look_mem hrm
      obtain ⟨⟨r0, r1⟩, b0, b1⟩ := hks _ hlm
      dsimp only at r0 r1 b0 b1
      have e03 := (e1.trans e2).trans e3
      refine ⟨_, rfl, _, rfl, h, _, _, _, rfl, rfl, hh.ext e03, at_tv r0 (by rw [hlen]; exact r1), ?_⟩
      have dg : DGet H3 q (V.int r) (some (V.int (lookI hl r))) := by
        have z := DGet.k (k := Sum.inl r) ((e2.trans e3) _ _ hq1)
        rw [val_hK hrm] at z
        exact z
      refine ⟨_, rfl, _, rfl, q, _, rfl, dg, _, rfl, _, _, rfl, rfl, .inl ⟨by omega, by omega⟩, ?_⟩
      refine ⟨rfl, _, rfl, ?_⟩
      refine ite2 (fun hc => ?_) fun hc => ?_
      · have hoff : offH hl ts sb r = true := by
          unfold offH
          rw [decide_eq_false (fun z => by rw [z] at hc; simp at hc)]
          rfl
        refine ⟨_, rfl, rz_ok (n := 1) rfl (by decide) fun d' hd' => kE (.held r) (by rw [find_at hno hr' hoff]; rfl) d' _ (e03.trans (Ext.upd hd')) (e03.fresh hd') ?_⟩
        rw [upd_same]
        rfl
      · refine ⟨e3, fun j y hj hy => ?_, _, rfl⟩
        by_cases hji : j = i
        · subst hji
          rw [hr'] at hy
          cases hy
          unfold offH
          rw [decide_eq_true (Classical.byContradiction fun z => hc (by
            rw [decide_eq_false (fun y => z (V.int.inj y))]
            rfl))]
          rfl
        · exact hno j y (by omega) hy
    · rintro σ H3 ⟨e3, hno, v4, rfl⟩
      refine kQ ?_ H3 ((e1.trans e2).trans e3)
      rw [find_no (fun j y hj => hno j y (by rw [List.length_map]; exact (List.getElem?_eq_some_iff.mp hj).1) hj)]
      rfl
theorem res_del {H : Hp} {D : Addr} {l : List V} {L r s : Int} {u : V} (i : Is K H (resD L r s) u) (h : H D = some (.lst l)) : Is K (del H D) (resD L r s) u := by
  unfold resD at i ⊢
  split at i
  · rename_i c; rw [if_pos c]; exact i
  · rename_i c
    rw [if_neg c]
    split at i
    · rename_i c2
      rw [if_pos c2]
      obtain ⟨tt, xs, rfl, hs, hl2⟩ := i
      refine ⟨tt, xs, rfl, ?_, ?_⟩
      · rcases hs with (r | ⟨o', r⟩) | r
        · exact .inl (.inl (by rw [del_ne (fun e => by rw [e, h] at r; cases r)]; exact r))
        · exact .inl (.inr ⟨o', by rw [del_ne (fun e => by rw [e, h] at r; cases r)]; exact r⟩)
        · exact .inr r
      · obtain ⟨v1, r1, g1, f1, v2, r2, g2, f2, f3⟩ := hl2
        exact ⟨v1, r1, g1, f1, v2, r2, g2, f2, f3⟩
    · rename_i c2; rw [if_neg c2]; exact i
theorem seen_del {H : Hp} {D : Addr} {l : List V} {b : BarD} {ts : List Int} {u : V} (i : Is K H (seenD b ts) u) (h : H D = some (.lst l)) : Is K (del H D) (seenD b ts) u := by
  unfold seenD at i ⊢
  split at i
  · rename_i c; rw [if_pos c]; exact res_del i h
  · rename_i c; rw [if_neg c]; exact res_del i h
def spLed (K : PySem.W.Frag) (T : Tx K mg) : Sp := fun vs H Q E => ∃ (v : V) (h : Addr) (n : Nat) (bs : List BarD) (hl : List (Int × Int)) (ts : List Int) (s : Int), vs = [v, .ref h, .int s] ∧ Is K H (wbD T.C_Web T.C_Bar (n : Int) bs hl) v ∧ SqQ K H h (ts.map V.int) ∧ s.natAbs ≤ 10 ^ 9 ∧ (∀ p ∈ hl, (0 ≤ p.1 ∧ p.1 < (n : Int)) ∧ -1000000 ≤ p.2 ∧ p.2 ≤ 1000000) ∧ hl.length < 64 ∧
  bs.length ≤ 8 ∧ (∀ b ∈ bs, BarOk (n : Int) b) ∧ (∀ x ∈ ts, x.natAbs < 2 ^ 60) ∧
  (∀ r, ckHt n hl ts s = some r → r.E T E H) ∧ (ckHt n hl ts s = none → ∀ (p : Addr) (us : List V) H', Ext H H' → H p = none → H' p = some (.lst us) → IsL K H' (bs.map fun b => seenD b ts) us → Q (.ref p) H')
theorem ok_led (T : Tx K mg) : FnOk P w K mg base (L2.CX P w) 8 T.a_led T.fd_led ["web", "heights", "parts"] (spLed K T) := by
  refine T.F_led.okX sc_led (fun vs H Q E h => ?_) (fun cdv A outer s H vs Q E hr h => ?_)
  · obtain ⟨v, h, n, bs, hl, ts, sb, rfl, _⟩ := h
    rfl
  · obtain ⟨v, h, n, bs, hl, ts, sb, rfl, hv, hh, hsb, hks, h64, b8, okb, tsm, kE, kQ⟩ := h
    refine ⟨_, (pss_cons (ps_expr (pe_call (ok_check_heights T) (hr.mono (by decide)) rfl T.m_check_heights T.F_check_heights.kp T.b_check_heights .nil (passes_call (takes_of rfl rfl rfl rfl) (fun _ _ _ _ h => h)) (pa_cons (pv 0) (pa_cons (pv 1) (pa_cons (pv 2) pa_nil)))))
      (pss_one (ps_ret (pe_lc (own := [("bar", 3)]) (g := gName 3) (tt := tYes) (te := tCall (spLedBar K T) [] E0 (tCons (tVar 3) (tCons (tVar 1) tNil))) (by rfl) sc_led.nd (pi_tup (pe_fld (pv 0) rfl)) (blkOk_by (own := [("bar", 3)]) (N := N_led) (sc := defScope s_led) (by decide +kernel)) (fun _ _ _ _ _ => (pg_name (i := 3) sc_led.nd rfl (Or.inl rfl))) (fun _ _ _ _ _ => pts_nil) (fun _ _ _ _ _ => (by exact pe_call (ok_led_bar T) (hr.mono (by decide)) rfl T.m_led_bar T.F_led_bar.kp T.b_led_bar .nil passL (pa_cons (pv 3) (pa_cons (pv 1) pa_nil)))))))), ?_⟩
    refine ⟨_, rfl, _, rfl, _, rfl, v, h, n, bs, hl, ts, sb, rfl, hv, hh, hsb, hks, h64, kE, fun hck H1 e1 => ?_⟩
    have hlen : ts.length = n := Classical.byContradiction fun z => by
      unfold ckHt at hck
      by_cases c : sb < 1
      · rw [if_pos c] at hck
        cases hck
      · rw [if_neg c, if_pos z] at hck
        cases hck
    obtain ⟨a, dx, t, d, ws, rfl, ha, ht, hb, hd⟩ := wb_fields (hv.ext e1)
    have hwl : ws.length = bs.length := by rw [isL_len hb, List.length_map]
    refine ⟨_, rfl, a, T.C_Web, dx, _, _, rfl, ha, T.c_Web, T.nf_Web_bars, rfl, t, rfl, ⟨_, ht⟩, fun D hD => ?_⟩
    refine lc_tup (xs := ws) (fun i H' => Ext H1 H' ∧ ∃ us, H' D = some (.lst us) ∧ IsL K (del H' D) ((bs.take i).map fun b => seenD b ts) us) ⟨Ext.upd hD, [], upd_same, rfl⟩ (fun i H' _ p => ht.ext p.1) ?_ ?_
    · rintro i y H2 hi ⟨e2, us, hD2, hus⟩
      obtain ⟨b, hbi, ib⟩ := isL_at' hb hi
      have hin : i < bs.length := (List.getElem?_eq_some_iff.mp hbi).1
      refine ⟨rfl, tyes ?_⟩
      refine ⟨_, rfl, _, rfl, y, h, (n : Int), b, ts, rfl, ib.ext e2, hh.ext (e1.trans e2), okb b (List.mem_of_getElem? hbi), by rw [hlen], tsm, fun u H3 e3 iu => ?_⟩
      have hD3 := e3 _ _ hD2
      have iu' : Is K (del H3 D) (seenD b ts) u := seen_del iu hD3
      refine ⟨us, hD3, ?_, (e2.trans e3).mut hD, us ++ [u], upd_same, ?_⟩
      · rw [isL_len hus, List.length_map, List.length_take]
        exact Nat.lt_of_lt_of_le (show min i bs.length < 100 by omega) (by decide)
      · rw [List.take_add_one, hbi, List.map_append]
        have eD : Ext (del H2 D) (del (upd H3 D (.lst (us ++ [u]))) D) := (DE.of e3).trans DE.upd
        have eD3 : Ext (del H3 D) (del (upd H3 D (.lst (us ++ [u]))) D) := DE.upd
        exact isL_snoc (hus.ext eD) (iu'.ext eD3)
    · rintro H2 ⟨e2, us, hD2, hus⟩
      rw [List.take_of_length_le (by rw [hwl]; exact Nat.le_refl _)] at hus
      exact kQ hck D us H2 (e1.trans e2) (e1.fresh hD) hD2 (hus.ext del_ext)
end
end K07
namespace K07
open PySem L2
section
variable {P : Program} {w : World} {K : PySem.W.Frag} {mg : Str → Option Value} {base : Heap}
def spCommon (K : PySem.W.Frag) : Sp := fun vs H Q _ => ∃ (l : Addr) (ns : List Int), vs = [.ref l] ∧ SqL K H l (ns.map V.int) ∧ Q (.int ((gcdL 0 ns : Nat) : Int)) H
theorem ok_l_common (T : Tx K mg) : FnOk P w K mg base (L2.CX P w) 1 T.a_l_common T.fd_l_common ["_law_numbers_so"] (spCommon K) := by
  refine T.F_l_common.okX sc_l_common (fun vs H Q E h => ?_) (fun cdv A outer s H vs Q E hr h => ?_)
  · obtain ⟨l, ns, rfl, _⟩ := h
    rfl
  · obtain ⟨l, ns, rfl, hl, k⟩ := h
    refine ⟨_, (pss_cons (ps_set (i := 1) sc_l_common.nd rfl (Or.inl rfl) pe_int)
      (pss_cons (ps_for (passes_of rfl) rfl (pi_list (pv 0)) (pg_name (i := 2) sc_l_common.nd rfl (Or.inl rfl)) (pss_cons (ps_set (i := 2) sc_l_common.nd rfl (Or.inl rfl) (pe_callB call_abs (by rfl) T.z_abs (by decide +kernel) (pa_cons (pv 2) pa_nil)))
      (pss_one (ps_while (passes_of rfl) (pt_cmpR op_gt (pv 2) pe_int (nomark _)) (pss_one (ps_par (i := 1) (j := 2) (by rfl) sc_l_common.nd rfl rfl (by decide) rfl rfl (pa_cons (pv 2) (pa_cons (pe_op op_modN (pv 1) (pv 2)) pa_nil)) (by rfl)))))))
      (pss_one (ps_ret (pv 1))))), ?_⟩
    refine ⟨_, rfl, l, rfl, ⟨_, hl⟩, for_list (K := K) (a := l) (xs := ns.map V.int) (fun i σ H' => H' = H ∧ ∃ v : Option V, σ = [some (.ref l), some (.int ((gcdL 0 (ns.take i) : Nat) : Int)), v]) ⟨rfl, none, rfl⟩ (fun i σ H' _ ⟨e, _⟩ => e ▸ hl) ?_ ?_⟩
    · rintro i y σ H' hi ⟨rfl, v, rfl⟩
      obtain ⟨n, hn, rfl⟩ : ∃ n, ns[i]? = some n ∧ y = V.int n := by
        rw [List.getElem?_map] at hi
        cases e : ns[i]? with
        | none => rw [e] at hi; cases hi
        | some n => rw [e] at hi; exact ⟨n, rfl, (Option.some.inj hi).symm⟩
      have hin : i < ns.length := (List.getElem?_eq_some_iff.mp hn).1
      have step : gcdL 0 (ns.take (i + 1)) = Nat.gcd (gcdL 0 (ns.take i)) n.natAbs := by
        rw [List.take_add_one, hn, gcdL_append]
        rfl
      refine ⟨_, rfl, n, rfl, ?_⟩
      have ea : (if n < 0 then -n else n) = ((n.natAbs : Nat) : Int) := by
        split <;> omega
      rw [ea]
      refine while_by (fun σ H2 => H2 = H' ∧ ∃ a b : Nat, σ = [some (.ref l), some (.int (a : Int)), some (.int (b : Int))] ∧ Nat.gcd a b = gcdL 0 (ns.take (i + 1)))
        (fun σ _ => match σ with | [_, _, some (.int b)] => b.toNat | _ => 0) ⟨rfl, _, _, rfl, step.symm⟩ ?_ ?_
      · rintro σ H2 ⟨rfl, a, b, rfl, hg⟩
        refine ⟨_, rfl, _, _, rfl, rfl, _, rfl, ?_⟩
        refine ite2 (fun hc => ?_) (fun hc => ?_)
        · have hb : 0 < b := by
            have := of_decide_eq_true hc
            omega
          refine ⟨_, rfl, _, rfl, _, rfl, _, _, rfl, rfl, (show (b : Int) ≠ 0 by omega), _, _, rfl, ?_⟩
          have em : Int.fmod (a : Int) (b : Int) = ((a % b : Nat) : Int) := by
            rw [Int.fmod_eq_emod_of_nonneg _ (by omega)]
            rfl
          refine ⟨⟨rfl, b, a % b, by rw [← em]; rfl, ?_⟩, ?_⟩
          · rw [Nat.gcd_comm b, ← Nat.gcd_rec, Nat.gcd_comm]
            exact hg
          · show (Int.fmod (a : Int) (b : Int)).toNat < ((b : Nat) : Int).toNat
            rw [em]
            have := Nat.mod_lt a hb
            omega
        · have hb : b = 0 := by
            have : ¬ (0 < (b : Int)) := fun z => hc (decide_eq_true z)
            omega
          subst hb
          rw [Nat.gcd_zero_right] at hg
          subst hg
          exact ⟨rfl, _, rfl⟩
      · intro σ H Q Q' m h
        obtain ⟨v, hv, i, j, hi, hj, k, hk, q⟩ := h
        exact ⟨v, hv, i, j, hi, hj, k, hk, m _ _ q⟩
    · rintro σ H' ⟨rfl, v, rfl⟩
      rw [List.length_map, List.take_length]
      exact ⟨_, rfl, k⟩
theorem common_eq (t b : Int) : gcdL 0 [t, b] = Nat.gcd b.natAbs t.natAbs := by
  show Nat.gcd (Nat.gcd 0 t.natAbs) b.natAbs = _
  rw [Nat.gcd_zero_left, Nat.gcd_comm]
def spSeen (K : PySem.W.Frag) : Sp := fun vs H Q _ => ∃ (v : V) (h : Addr) (n : Int) (b : BarD) (ts : List Int), vs = [v, .ref h] ∧ Is K H (bfD b) v ∧ SqL K H h (ts.map V.int) ∧ BarOk n b ∧ (ts.length : Int) = n ∧ (∀ x ∈ ts, x.natAbs < 2 ^ 60) ∧
  ∀ u H', Ext H H' → Is K H' (seenD b ts) u → Q u H'
theorem ok_l_seen (T : Tx K mg) : FnOk P w K mg base (L2.CX P w) 5 T.a_l_seen T.fd_l_seen ["_law_one_here", "_law_tops"] (spSeen K) := by
  refine T.F_l_seen.okX sc_l_seen (fun vs H Q E h => ?_) (fun cdv A outer s H vs Q E hr h => ?_)
  · obtain ⟨v, h, n, b, ts, rfl, _⟩ := h
    rfl
  · obtain ⟨v, h, n, b, ts, rfl, hv, hh, okb, tl, tsm, k⟩ := h
    refine ⟨_, (pss_cons (ps_par (i := 2) (j := 3) (by rfl) sc_l_seen.nd rfl rfl (by decide) rfl rfl (pa_cons (pe_ix ix_list (pv 1) (pe_ix ix_tup (pv 0) pe_int (fun _ _ => rfl)) (fun _ _ => rfl)) (pa_cons (pe_ix ix_list (pv 1) (pe_ix ix_tup (pv 0) pe_int (fun _ _ => rfl)) (fun _ _ => rfl)) pa_nil)) (by rfl))
      (pss_cons (ps_set (i := 4) sc_l_seen.nd rfl (Or.inl rfl) (pe_ix ix_list (pv 1) (pe_ix ix_tup (pv 0) pe_int (fun _ _ => rfl)) (fun _ _ => rfl)))
      (pss_cons (ps_if (pt_cmpR op_eq (pv 2) (pv 3) (nomark _)) (pss_one (ps_ret (pe_ix ix_list (pe_lst (pa_cons pe_str (pa_cons pe_str pa_nil))) (pe_callTy call_int1 (by rfl) T.z_int (by decide +kernel) (pa_cons (pe_cmpR op_eq (pv 4) (pv 2) (nomark _)) pa_nil)) (fun _ _ => rfl)))) pss_nil)
      (pss_cons (ps_par (i := 5) (j := 6) (by rfl) sc_l_seen.nd rfl rfl (by decide) rfl rfl (pa_cons (pe_op op_mulW (pe_ix ix_tup (pv 0) pe_int (fun _ _ => rfl)) (pe_op op_sub (pv 4) (pv 2))) (pa_cons (pe_op op_sub (pv 3) (pv 2)) pa_nil)) (by rfl))
      (pss_cons (ps_if (pt_cmpR op_lt (pv 6) pe_int (nomark _)) (pss_one (ps_par (i := 5) (j := 6) (by rfl) sc_l_seen.nd rfl rfl (by decide) rfl rfl (pa_cons (pe_op op_sub pe_int (pv 5)) (pa_cons (pe_op op_sub pe_int (pv 6)) pa_nil)) (by rfl))) pss_nil)
      (pss_cons (ps_if (PW.pt (pw_or (pt_cmpR op_lt (pv 5) pe_int (nomark _)) (pw_or1 (pt_cmpR op_gt (pv 5) (pe_op op_mulW (pe_ix ix_tup (pv 0) pe_int (fun _ _ => rfl)) (pv 6)) (nomark _))))) (pss_one (ps_ret pe_str)) pss_nil)
      (pss_cons (ps_set (i := 7) sc_l_seen.nd rfl (Or.inl rfl) (pe_call (ok_l_common T) (hr.mono (by decide)) rfl T.m_l_common T.F_l_common.kp T.b_l_common .nil passL (pa_cons (pe_lst (pa_cons (pv 5) (pa_cons (pv 6) pa_nil))) pa_nil)))
      (pss_one (ps_ret (pe_tup (pa_cons (pe_op op_fdivW (pv 5) (pv 7)) (pa_cons (pe_op op_fdivW (pv 6) (pv 7)) pa_nil)))))))))))), ?_⟩
    obtain ⟨tb0, rfl, ht⟩ := bf_of hv
    have aa := at_tv (ts := ts) okb.a0 (by have := okb.a1; omega)
    have ab := at_tv (ts := ts) okb.b0 (by have := okb.b1; omega)
    have ac := at_tv (ts := ts) okb.c0 (by have := okb.c1; omega)
    have sa := tv_lt (r := b.a) tsm
    have sb := tv_lt (r := b.b) tsm
    have sc := tv_lt (r := b.c) tsm
    have hdue : seenD b ts = if tv ts b.b - tv ts b.a < 0 then resD b.len (-(tv ts b.b - tv ts b.a)) (-(tv ts b.c - tv ts b.a)) else resD b.len (tv ts b.b - tv ts b.a) (tv ts b.c - tv ts b.a) := rfl
    generalize tv ts b.a = ta at *
    generalize tv ts b.b = tb at *
    generalize tv ts b.c = tc at *
    have mul : ∀ {s : Int}, s.natAbs < 2 ^ 61 → CMulW b.len s := fun h => wide_mul (a := 20) (b := 61) (len20 okb.l0 okb.l1) h (by decide) (by decide) (by decide)
    refine ⟨_, rfl, _, rfl, tb0, _, 0, _, rfl, rfl, ht, atI_nat (xs := brV b) (j := 0) rfl, h, _, _, _, rfl, rfl, hh, aa, ?_⟩
    refine ⟨_, rfl, _, rfl, tb0, _, 1, _, rfl, rfl, ht, atI_nat (xs := brV b) (j := 1) rfl, h, _, _, _, rfl, rfl, hh, ab, ⟨_, _, rfl, ?_⟩⟩
    refine ⟨_, rfl, _, rfl, tb0, _, 2, _, rfl, rfl, ht, atI_nat (xs := brV b) (j := 2) rfl, h, _, _, _, rfl, rfl, hh, ac, ?_⟩
    refine ⟨_, rfl, _, rfl, rfl, _, rfl, ite2 (fun c => ?_) (fun c => ?_)⟩
    · have hab : ta = tb := V.int.inj (of_decide_eq_true c)
      subst hab
      rw [Int.sub_self, if_neg (by decide)] at hdue
      refine ⟨by show 2 ≤ sizeLine; decide, fun L hL => ?_⟩
      refine ⟨_, rfl, _, rfl, rfl, .inr ⟨_, rfl, ?_⟩⟩
      by_cases hc : tc = ta
      · refine ⟨L, _, 1, .str freeT, rfl, by rw [hc, decide_eq_true rfl]; rfl, SqL.of upd_same, rfl, ?_⟩
        refine k _ _ (Ext.upd hL) ?_
        rw [hdue]
        unfold resD
        rw [if_pos ⟨by omega, by omega⟩]
        exact rfl
      · refine ⟨L, _, 0, .str noneT, rfl, by rw [decide_eq_false (fun z => hc (V.int.inj z))]; rfl, SqL.of upd_same, rfl, ?_⟩
        refine k _ _ (Ext.upd hL) ?_
        rw [hdue]
        unfold resD
        rw [if_neg (fun z => by omega), if_neg (fun z => by omega)]
        exact rfl
    have hne : ¬ ta = tb := fun z => c (decide_eq_true (congrArg V.int z))
    have hR : (tb - ta).natAbs < 2 ^ 61 := by omega
    have hS : (tc - ta).natAbs < 2 ^ 61 := by omega
    have hr00 : ¬ tb - ta = 0 := by omega
    refine ⟨_, rfl, tb0, _, 3, _, rfl, rfl, ht, atI_nat (xs := brV b) (j := 3) rfl, _, rfl, _, rfl, _, _, rfl, rfl, _, _, rfl, rfl, mul hS, _, rfl, _, rfl, _, _, rfl, rfl, ⟨_, _, rfl, ?_⟩⟩
    dsimp only
    generalize tb - ta = r0 at hR hdue hr00 ⊢
    generalize tc - ta = s0 at hS hdue ⊢
    refine ⟨_, rfl, _, _, rfl, rfl, _, rfl, ite2 (fun c => ?_) (fun c => ?_)⟩
    · have hc := of_decide_eq_true c
      rw [if_pos hc] at hdue
      refine ⟨_, rfl, _, _, rfl, rfl, _, rfl, _, _, rfl, rfl, ⟨_, _, rfl, ?_⟩⟩
      obtain ⟨r, hr', hr1, hrs, s, hs'⟩ : ∃ r : Int, r = -r0 ∧ 1 ≤ r ∧ r.natAbs < 2 ^ 61 ∧ ∃ s : Int, s = -s0 :=
        ⟨-r0, rfl, by omega, by rw [Int.natAbs_neg]; exact hR, -s0, rfl⟩
      dsimp only
      rw [show (0 : Int) - b.len * s0 = b.len * s by rw [hs', Int.mul_neg]; omega, show (0 : Int) - r0 = r by omega]
      rw [← hr', ← hs'] at hdue
      clear hc c hr' hs' hR hS hr00
      have hmul : CMulW b.len r := mul hrs
      have hL0 : 1 ≤ b.len := okb.l0
      refine ⟨_, rfl, _, _, rfl, rfl, decide (b.len * s < 0), rfl, ?_⟩
      by_cases h0 : 0 ≤ s
      · have e0 : ¬ b.len * s < 0 := Int.not_lt.mpr (Int.mul_nonneg (by omega) h0)
        rw [decide_eq_false e0]
        refine iteF ?_
        refine ⟨_, rfl, _, rfl, tb0, _, 3, _, rfl, rfl, ht, atI_nat (xs := brV b) (j := 3) rfl, _, rfl, _, _, rfl, rfl, hmul, _, _, rfl, rfl, decide (b.len * r < b.len * s), rfl, ?_⟩
        by_cases h1 : s ≤ r
        · have e1 : ¬ b.len * r < b.len * s := Int.not_lt.mpr (Int.mul_le_mul_of_nonneg_left h1 (by omega))
          rw [decide_eq_false e1]
          refine iteF ?_
          refine ⟨_, rfl, _, rfl, by show 2 ≤ sizeLine; decide, fun N hN => ?_⟩
          refine ⟨N, [b.len * s, r], rfl, SqL.of upd_same, ?_⟩
          rw [common_eq]
          have hg0 := low_gpos (n := b.len * s) hr1
          have hgb : Nat.gcd r.natAbs (b.len * s).natAbs < 2 ^ 300 := Nat.lt_of_le_of_lt (Nat.gcd_le_left _ (by omega)) (Nat.lt_of_lt_of_le hrs (Nat.pow_le_pow_right (by decide) (by decide)))
          have dv : ∀ x : Int, CDivW x ((Nat.gcd r.natAbs (b.len * s).natAbs : Nat) : Int) := fun x => wide_div (b := 300) (by omega) (by rw [Int.natAbs_natCast]; exact hgb) (by decide) (by decide)
          refine ⟨_, rfl, _, rfl, _, _, rfl, rfl, dv _, _, rfl, _, rfl, _, _, rfl, rfl, dv _, by show 2 ≤ sizeLine; decide, fun u hu => ?_⟩
          refine k _ _ ((Ext.upd hN).trans (Ext.upd hu)) ?_
          rw [hdue]
          unfold resD
          rw [if_neg (fun z => by omega), if_pos ⟨h0, h1⟩]
          exact ⟨u, _, rfl, SqT.of upd_same, _, _, rfl, rfl, _, _, rfl, rfl, rfl⟩
        · have e1 : b.len * r < b.len * s := Int.mul_lt_mul_of_pos_left (by omega) (by omega)
          rw [decide_eq_true e1]
          refine iteT ?_
          refine k _ H Ext.rfl' ?_
          rw [hdue]
          unfold resD
          rw [if_neg (fun z => by omega), if_neg (fun z => h1 z.2)]
          exact rfl
      · have e0 : b.len * s < 0 := Int.mul_neg_of_pos_of_neg (by omega) (by omega)
        rw [decide_eq_true e0]
        refine iteT ?_
        refine k _ H Ext.rfl' ?_
        rw [hdue]
        unfold resD
        rw [if_neg (fun z => by omega), if_neg (fun z => h0 z.1)]
        exact rfl
    · have hc : ¬ r0 < 0 := fun z => c (decide_eq_true z)
      rw [if_neg hc] at hdue
      obtain ⟨r, hr', hr1, hrs, s, hs'⟩ : ∃ r : Int, r = r0 ∧ 1 ≤ r ∧ r.natAbs < 2 ^ 61 ∧ ∃ s : Int, s = s0 :=
        ⟨r0, rfl, by omega, hR, s0, rfl⟩
      rw [← hr', ← hs'] at hdue ⊢
      clear hc c hr' hs' hR hS hr00
      have hmul : CMulW b.len r := mul hrs
      have hL0 : 1 ≤ b.len := okb.l0
      refine ⟨_, rfl, _, _, rfl, rfl, decide (b.len * s < 0), rfl, ?_⟩
      by_cases h0 : 0 ≤ s
      · have e0 : ¬ b.len * s < 0 := Int.not_lt.mpr (Int.mul_nonneg (by omega) h0)
        rw [decide_eq_false e0]
        refine iteF ?_
        refine ⟨_, rfl, _, rfl, tb0, _, 3, _, rfl, rfl, ht, atI_nat (xs := brV b) (j := 3) rfl, _, rfl, _, _, rfl, rfl, hmul, _, _, rfl, rfl, decide (b.len * r < b.len * s), rfl, ?_⟩
        by_cases h1 : s ≤ r
        · have e1 : ¬ b.len * r < b.len * s := Int.not_lt.mpr (Int.mul_le_mul_of_nonneg_left h1 (by omega))
          rw [decide_eq_false e1]
          refine iteF ?_
          refine ⟨_, rfl, _, rfl, by show 2 ≤ sizeLine; decide, fun N hN => ?_⟩
          refine ⟨N, [b.len * s, r], rfl, SqL.of upd_same, ?_⟩
          rw [common_eq]
          have hg0 := low_gpos (n := b.len * s) hr1
          have hgb : Nat.gcd r.natAbs (b.len * s).natAbs < 2 ^ 300 := Nat.lt_of_le_of_lt (Nat.gcd_le_left _ (by omega)) (Nat.lt_of_lt_of_le hrs (Nat.pow_le_pow_right (by decide) (by decide)))
          have dv : ∀ x : Int, CDivW x ((Nat.gcd r.natAbs (b.len * s).natAbs : Nat) : Int) := fun x => wide_div (b := 300) (by omega) (by rw [Int.natAbs_natCast]; exact hgb) (by decide) (by decide)
          refine ⟨_, rfl, _, rfl, _, _, rfl, rfl, dv _, _, rfl, _, rfl, _, _, rfl, rfl, dv _, by show 2 ≤ sizeLine; decide, fun u hu => ?_⟩
          refine k _ _ ((Ext.upd hN).trans (Ext.upd hu)) ?_
          rw [hdue]
          unfold resD
          rw [if_neg (fun z => by omega), if_pos ⟨h0, h1⟩]
          exact ⟨u, _, rfl, SqT.of upd_same, _, _, rfl, rfl, _, _, rfl, rfl, rfl⟩
        · have e1 : b.len * r < b.len * s := Int.mul_lt_mul_of_pos_left (by omega) (by omega)
          rw [decide_eq_true e1]
          refine iteT ?_
          refine k _ H Ext.rfl' ?_
          rw [hdue]
          unfold resD
          rw [if_neg (fun z => by omega), if_neg (fun z => h1 z.2)]
          exact rfl
      · have e0 : b.len * s < 0 := Int.mul_neg_of_pos_of_neg (by omega) (by omega)
        rw [decide_eq_true e0]
        refine iteT ?_
        refine k _ H Ext.rfl' ?_
        rw [hdue]
        unfold resD
        rw [if_neg (fun z => by omega), if_neg (fun z => h0 z.1)]
        exact rfl
end
end K07
namespace K07
open PySem L2
section
variable {P : Program} {w : World} {K : PySem.W.Frag} {mg : Str → Option Value} {base : Heap}
def ansD (bs : List BarD) (ts : List Int) : Option Hf → Dt
  | some (.cnt x n) => .tup [.str x, .int n]
  | some (.held r) => .tup [.str "notheld", .int r]
  | none => .tup [.str "told", .lst (bs.map fun b => seenD b ts)]
def spDue (K : PySem.W.Frag) : Sp := fun vs H Q _ => ∃ (v : V) (h : Addr) (n : Nat) (hl : List (Int × Int)) (bs : List BarD) (ts : List Int) (s : Int), vs = [v, .ref h, .int s] ∧ Is K H (mD (n : Int) hl bs) v ∧ SqL K H h (ts.map V.int) ∧ WebOk (n : Int) hl bs ∧ s.natAbs ≤ 10 ^ 9 ∧ (∀ x ∈ ts, x.natAbs < 2 ^ 60) ∧ ts.length ≤ 100 ∧
  ∀ u H', Ext H H' → Is K H' (ansD bs ts (ckHt n hl ts s)) u → Q u H'
theorem ok_l_due (T : Tx K mg) : FnOk P w K mg base (L2.CX P w) 11 T.a_l_due T.fd_l_due ["_law_m", "_law_tops", "_law_share"] (spDue K) := by
  refine T.F_l_due.okX sc_l_due (fun vs H Q E h => ?_) (fun cdv A outer s H vs Q E hr h => ?_)
  · obtain ⟨v, h, n, hl, bs, ts, sh, rfl, _⟩ := h
    rfl
  · obtain ⟨v, h, n, hl, bs, ts, sb, rfl, hv, hh, ok, hsb, tsm, tl, k⟩ := h
    refine ⟨_, (pss_cons (ps_if (pt_cmpR op_lt (pv 2) pe_int (nomark _)) (pss_one (ps_ret (pe_tup (pa_cons pe_str (pa_cons (pv 2) pa_nil))))) pss_nil)
      (pss_cons (ps_if (pt_cmpR op_ne (pe_callB call_len_seq (by rfl) T.z_len PySem.boot_len (pa_cons (pv 1) pa_nil)) (pe_dget (hu_of hr) (pv 0) pe_str (fun _ _ => rfl)) (nomark _)) (pss_one (ps_ret (pe_tup (pa_cons pe_str (pa_cons (pe_callB call_len_seq (by rfl) T.z_len PySem.boot_len (pa_cons (pv 1) pa_nil)) pa_nil))))) pss_nil)
      (pss_cons (ps_setLc (i := 3) (own := [("_law_rod", 4)]) (g := gName 4) (te := tVar 4) (tt := tTest (tOp rNe (tOp (rIxL K) (tVar 1) (tVar 4)) (tOp (rI CMul fun i j => .int (i * j)) (tVar 2) (tDGet (tDGet (tVar 0) (tC (.str "held"))) (tVar 4))))) (by rfl) sc_l_due.nd rfl rfl (sw_true rfl rfl rfl (by decide +kernel)) (pi_list (pe_callB cr_sortedI (by rfl) T.z_sorted (by decide +kernel) (pa_cons (pe_callTy (call_listD rfl) (by rfl) T.z_list (by decide +kernel) (pa_cons (pe_dget (hu_of hr) (pv 0) pe_str (fun _ _ => rfl)) pa_nil)) pa_nil))) (blkOk_by (own := [("_law_rod", 4)]) (N := N_l_due) (sc := defScope s_l_due) (by decide +kernel)) (fun _ _ _ _ _ => (pg_name (i := 4) sc_l_due.nd rfl (Or.inl rfl))) (fun _ _ _ _ _ => (pts_one (pt_cmpR op_ne (pe_ix (r := rIxL K) ix_list (pv 1) (pv 4) (fun _ _ => rfl)) (pe_op op_mul (pv 2) (pe_dget (hu_of hr) (pe_dget (hu_of hr) (pv 0) pe_str (fun _ _ => rfl)) (pv 4) (fun _ _ => rfl))) (nomark _)))) (fun _ _ _ _ _ => (pv 4)))
      (pss_cons (ps_if (pt_cmpR (op_neO pureTab pureNe hr (by decide)) (pv 3) (pe_lst pa_nil) (nomark _)) (pss_one (ps_ret (pe_tup (pa_cons pe_str (pa_cons (pe_ix ix_list (pv 3) pe_int (fun _ _ => rfl)) pa_nil))))) pss_nil)
      (pss_one (ps_ret (pe_tup (pa_cons pe_str (pa_cons (pe_lc (own := [("_law_one_here", 5)]) (g := gName 5) (tt := tYes) (te := tCall (spSeen K) [] E0 (tCons (tVar 5) (tCons (tVar 1) tNil))) (by rfl) sc_l_due.nd (pi_list (pe_dget (hu_of hr) (pv 0) pe_str (fun _ _ => rfl))) (blkOk_by (own := [("_law_one_here", 5)]) (N := N_l_due) (sc := defScope s_l_due) (by decide +kernel)) (fun _ _ _ _ _ => (pg_name (i := 5) sc_l_due.nd rfl (Or.inl rfl))) (fun _ _ _ _ _ => pts_nil) (fun _ _ _ _ _ => (pe_call (ok_l_seen T) (hr.mono (by decide)) rfl T.m_l_seen T.F_l_seen.kp T.b_l_seen .nil passL (pa_cons (pv 5) (pa_cons (pv 1) pa_nil))))) pa_nil))))))))), ?_⟩
    obtain ⟨M, hd, bl, ws, rfl, hM, hhd, hbl, hbs⟩ := m_of hv
    have hwl : ws.length = bs.length := by rw [isL_len hbs, List.length_map]
    have hlen64 : hl.length ≤ 10 := by have := ok.sum; have := ok.n10; omega
    refine ⟨_, rfl, _, _, rfl, rfl, _, rfl, ite2 (fun c => ?_) fun c => ?_⟩
    · have hc : sb < 1 := of_decide_eq_true c
      refine ⟨_, rfl, by show 2 ≤ sizeLine; decide, fun u hu => k _ _ (Ext.upd hu) ?_⟩
      have : ckHt n hl ts sb = some (.cnt (Str.ofString "parts") sb) := by unfold ckHt; exact if_pos hc
      rw [this]
      exact ⟨u, _, rfl, SqT.of upd_same, _, _, rfl, rfl, _, _, rfl, rfl, rfl⟩
    have hs1 : ¬ sb < 1 := fun z => c (decide_eq_true z)
    refine ⟨_, rfl, h, _, rfl, .inl hh, ?_⟩
    rw [List.length_map]
    refine ⟨_, rfl, M, _, rfl, g_rods hM, rfl, _, rfl, ?_⟩
    refine ite2 (fun hc => ?_) fun hc => ?_
    · have hne : ¬ ts.length = n := fun z => by
        rw [z] at hc
        simp at hc
      refine ⟨_, rfl, h, _, rfl, .inl hh, by show 2 ≤ sizeLine; decide, fun u hu => k _ _ (Ext.upd hu) ?_⟩
      have : ckHt n hl ts sb = some (.cnt (Str.ofString "heights") ts.length) := by unfold ckHt; rw [if_neg hs1]; exact if_pos hne
      rw [this]
      rw [List.length_map]
      exact ⟨u, _, rfl, SqT.of upd_same, _, _, rfl, rfl, _, _, rfl, rfl, rfl⟩
    have hlen : ts.length = n := Classical.byContradiction fun z => hc (by
      rw [decide_eq_false (fun y => z (by have := V.int.inj y; omega))]
      rfl)
    have hck : ckHt n hl ts sb = ((srtI (hl.map (·.1))).find? (offH hl ts sb)).map .held := by
      unfold ckHt
      rw [if_neg hs1, if_neg (fun z => z hlen)]
    clear hc c
    -- off
    refine ⟨_, rfl, M, _, rfl, g_held hM, hd, _, rfl, .inl hhd, fun q hq => ?_⟩
    have hkk : (hK hl).map (fun kv => kV kv.1) = (hl.map (·.1)).map V.int := by
      unfold hK
      rw [List.map_map, List.map_map]
      rfl
    rw [hkk]
    refine ⟨q, hl.map (·.1), rfl, SqL.of upd_same, fun ys p hperm hsrt hp => ?_⟩
    obtain rfl := srt_eq hperm hsrt
    have e2 : Ext H (upd (upd H q (.lst ((hl.map (·.1)).map V.int))) p (.lst ((srtI (hl.map (·.1))).map V.int))) := (Ext.upd hq).trans (Ext.upd hp)
    have hp2 : (upd (upd H q (.lst ((hl.map (·.1)).map V.int))) p (.lst ((srtI (hl.map (·.1))).map V.int))) p = some (.lst ((srtI (hl.map (·.1))).map V.int)) := upd_same
    generalize upd (upd H q (.lst ((hl.map (·.1)).map V.int))) p (.lst ((srtI (hl.map (·.1))).map V.int)) = H2 at e2 hp2 ⊢
    clear hp hq
    refine ⟨p, rfl, ⟨_, SqL.of hp2⟩, fun D hD => lc_list (xs := (srtI (hl.map (·.1))).map V.int) (fun i H' => Ext H2 H' ∧ H' D = some (.lst ((((srtI (hl.map (·.1))).take i).filter (offH hl ts sb)).map V.int))) ⟨Ext.upd hD, upd_same⟩ (fun i H' _ z => (SqL.of hp2).ext z.1) ?_ ?_⟩
    · rintro i y H3 hi ⟨e3, hD3⟩
      obtain ⟨r, hr', rfl⟩ : ∃ r, (srtI (hl.map (·.1)))[i]? = some r ∧ y = V.int r := by
        rw [List.getElem?_map] at hi
        cases e : (srtI (hl.map (·.1)))[i]? with
        | none => rw [e] at hi; cases hi
        | some r => rw [e] at hi; exact ⟨r, rfl, (Option.some.inj hi).symm⟩
      have hin : i < (srtI (hl.map (·.1))).length := (List.getElem?_eq_some_iff.mp hr').1
      have hsl : (srtI (hl.map (·.1))).length = hl.length := by rw [(srtI_perm _).length_eq, List.length_map]
      have hrm : r ∈ hl.map (·.1) := (srtI_perm _).mem_iff.mp (List.mem_of_getElem? hr')
      have hlm := look_mem hrm
      obtain ⟨⟨r0, r1⟩, b0, b1⟩ := ok.keys _ hlm
      dsimp only at r0 r1 b0 b1
      have e03 := e2.trans e3
      have dg : DGet H3 hd (V.int r) (some (V.int (lookI hl r))) := by
        have z := DGet.k (k := Sum.inl r) (e03 _ _ hhd)
        rw [val_hK hrm] at z
        exact z
      refine ⟨rfl, _, rfl, _, rfl, h, _, _, _, rfl, rfl, hh.ext e03, at_tv r0 (by rw [hlen]; exact r1), ?_⟩
      refine ⟨_, rfl, _, rfl, M, _, rfl, g_held (e03 _ _ hM), _, rfl, hd, _, rfl, dg, _, _, rfl, rfl, .inr ⟨by omega, by omega⟩, rfl, _, rfl, ?_⟩
      have hoff : (!decide (V.int (tv ts r) = V.int (sb * lookI hl r))) = offH hl ts sb r := by
        unfold offH
        rw [Int.mul_comm sb]
        congr 1
        exact decide_eq_decide.mpr ⟨fun z => V.int.inj z, fun z => by rw [z]⟩
      have step : ((srtI (hl.map (·.1))).take (i + 1)).filter (offH hl ts sb) = ((srtI (hl.map (·.1))).take i).filter (offH hl ts sb) ++ (if offH hl ts sb r = true then [r] else []) := by
        rw [List.take_add_one, hr', List.filter_append]
        congr 1
        show List.filter _ [r] = _
        rw [List.filter_cons, List.filter_nil]
      rw [hoff]
      by_cases ho : offH hl ts sb r = true
      · rw [ho]
        rw [if_pos ho] at step
        refine iteT ?_
        refine ⟨_, rfl, _, hD3, ?_, e3.mut hD, ?_⟩
        · rw [List.length_map]
          refine Nat.lt_of_le_of_lt (Nat.le_trans (List.length_filter_le _ _) (by rw [List.length_take]; exact Nat.min_le_left _ _)) ?_
          exact Nat.lt_of_lt_of_le (show i < 100 by omega) (by decide)
        · rw [upd_same, step, List.map_append]
          rfl
      · rw [Bool.eq_false_iff.mpr ho]
        rw [if_neg ho, List.append_nil] at step
        refine iteF ?_
        exact ⟨e3, by rw [step]; exact hD3⟩
    rintro H3 ⟨e3, hD3⟩
    rw [List.length_map, List.take_length] at hD3
    -- off != []
    refine ⟨_, rfl, by show 0 ≤ sizeLine; decide, fun z hz => ?_⟩
    have hfh : ((srtI (hl.map (·.1))).filter (offH hl ts sb)).head? = (srtI (hl.map (·.1))).find? (offH hl ts sb) := List.head?_filter
    generalize (srtI (hl.map (·.1))).filter (offH hl ts sb) = fs at hD3 hfh
    have hfl : True := trivial
    refine ⟨.lst (fs.map Dt.int), .lst [], is_lst (Ext.upd hz _ _ hD3) (isL_ints _), is_lst upd_same rfl, okL_pure (pureL_ints _), trivial, by show depL _ + 1 ≤ 8; rw [depL_ints]; decide, .inl rfl, fun H4 e4 => ?_⟩
    have e34 : Ext H3 H4 := (Ext.upd hz).trans e4
    have e04 : Ext H H4 := (e2.trans e3).trans e34
    cases hfs : fs with
    | cons r rest =>
      rw [hfs] at hfh hD3
      refine ⟨true, rfl, iteT ?_⟩
      refine ⟨_, rfl, D, _, 0, _, rfl, rfl, SqL.of (e34 _ _ hD3), atI_nat (j := 0) rfl, by show 2 ≤ sizeLine; decide, fun u hu => k _ _ (e04.trans (Ext.upd hu)) ?_⟩
      rw [hck, ← hfh]
      exact ⟨u, _, rfl, SqT.of upd_same, _, _, rfl, rfl, _, _, rfl, rfl, rfl⟩
    | nil =>
      rw [hfs] at hfh
      refine ⟨false, rfl, iteF ?_⟩
      refine ⟨_, rfl, M, _, rfl, g_bars (e04 _ _ hM), bl, rfl, ⟨_, hbl.ext e04⟩, fun B hB => lc_list (xs := ws) (fun i H' => Ext H4 H' ∧ ∃ us, H' B = some (.lst us) ∧ IsL K (del H' B) ((bs.take i).map fun b => seenD b ts) us) ⟨Ext.upd hB, [], upd_same, rfl⟩ (fun i H' _ z => (hbl.ext e04).ext z.1) ?_ ?_⟩
      · rintro i y H5 hi ⟨e5, us, hB5, hus⟩
        obtain ⟨b, hbi, ib⟩ := isL_at' hbs hi
        have hin : i < bs.length := (List.getElem?_eq_some_iff.mp hbi).1
        have hb8 := ok.b8
        refine ⟨rfl, tyes ?_⟩
        refine ⟨_, rfl, _, rfl, y, h, (n : Int), b, ts, rfl, ib.ext (e04.trans e5), hh.ext (e04.trans e5), ok.bars b (List.mem_of_getElem? hbi), by rw [hlen], tsm, fun u H6 e6 iu => ?_⟩
        have hB6 := e6 _ _ hB5
        have iu' : Is K (del H6 B) (seenD b ts) u := seen_del iu hB6
        refine ⟨us, hB6, ?_, (e5.trans e6).mut hB, us ++ [u], upd_same, ?_⟩
        · rw [isL_len hus, List.length_map, List.length_take]
          exact Nat.lt_of_lt_of_le (show min i bs.length < 100 by omega) (by decide)
        · rw [List.take_add_one, hbi, List.map_append]
          have eD : Ext (del H5 B) (del (upd H6 B (.lst (us ++ [u]))) B) := (DE.of e6).trans DE.upd
          have eD3 : Ext (del H6 B) (del (upd H6 B (.lst (us ++ [u]))) B) := DE.upd
          exact isL_sn (hus.ext eD) (iu'.ext eD3)
      · rintro H5 ⟨e5, us, hB5, hus⟩
        rw [List.take_of_length_le (by rw [hwl]; exact Nat.le_refl _)] at hus
        refine ⟨by show 2 ≤ sizeLine; decide, fun u hu => k _ _ ((e04.trans e5).trans (Ext.upd hu)) ?_⟩
        rw [hck, ← hfh]
        exact ⟨u, _, rfl, SqT.of upd_same, _, _, rfl, rfl, _, _, rfl, is_lst (Ext.upd hu _ _ hB5) ((hus.ext del_ext).ext (Ext.upd hu)), rfl⟩
end
end K07
namespace K07
open PySem PySem.Spec PyProof.Rows L2 LamX
/-- what a refusal is told as -/
def RefS (K : PySem.W.Frag) (B N : Addr) (Q : VK) : XK := fun cls d H => (cls = .ref B ∧ ∃ (a : Addr) (n : Int) (x : Str), d = some a ∧ H a = some (.xd [("count", .int n), ("what", .str x)]) ∧ ∀ v H', Ext H H' → Is K H' (.tup [.str x, .int n]) v → Q v H') ∨
  (cls = .ref N ∧ ∃ (a : Addr) (n : Int), d = some a ∧ H a = some (.xd [("rod", .int n)]) ∧ ∀ v H', Ext H H' → Is K H' (.tup [.str "notheld", .int n]) v → Q v H')
def TTsaid (K : PySem.W.Frag) (B N : Addr) : (XK → Hp → VK → Prop) → Hp → VK → Prop := fun tl H Q => ∀ p0, H p0 = none → tl (RefS K B N Q) (upd H p0 (.tup [.str "other", .non])) (fun u H1 => 2 ≤ sizeLine ∧ ∀ p, H1 p = none → ∃ v : V, (some (some (V.ref p)) : Option (Option V)) = some (some v) ∧ Q v (upd H1 p (.tup [.str "told", u])))
def ts_said (K : PySem.W.Frag) (B N : Addr) : Addr → Value → Option Addr → TS := fun a cls d =>
  tIfS (tAnd (tB (tCB (rIsEX K a cls d) (tCons (tVar 2) (tCons (tC (.ref B)) tNil)))) (tNot (tB (tCB (rIsEX K a cls d) (tCons (tVar 2) (tCons (tC (.ref N)) tNil))))))
    (tAsg (tTup (tCons (tXf a cls d B "what" (tVar 2)) (tCons (tXf a cls d B "count" (tVar 2)) tNil))) (gName 1))
    (tIfS (tB (tCB (rIsEX K a cls d) (tCons (tVar 2) (tCons (tC (.ref N)) tNil)))) (tAsg (tTup (tCons (tC (.str "notheld")) (tCons (tXf a cls d N "rod" (tVar 2)) tNil))) (gName 1)) tNext)
theorem said_gives {X : Cx} {K : PySem.W.Frag} {mg : Str → Option Value} (eK : X.K = K) (eM : X.mg = mg) {q : Str} {g : Addr} {cdg : Value} (T : Tx K mg) : GivesTo X N_l_said "_law_said" (defScope s_l_said) g cdg (defBody s_l_said) "_law_ask" q (TTsaid K T.C_BadCount T.C_NotHeld) := by
  subst eK
  subst eM
  intro f c' s H Q tl act hc h
  refine ⟨_, (pss_cons (ps_set (i := 1) sc_l_said.nd rfl (Or.inl rfl) (pe_tup (pa_cons pe_str (pa_cons pe_non pa_nil))))
      (pss_cons (ps_try_as (i := 2) (tb := fun W D σ H => ∃ Ech : XK, (∀ cls d σ' H', σ'.length = 3 → Ech cls d H' → W cls d σ' H') ∧ (tAsg (tTup (tCons (tC (.str "told")) (tCons (fun σZ HZ Q => σZ[0]? = some (some (V.ref f)) ∧ HZ c' = some (CodeO c' q) ∧ tl Ech HZ Q) tNil))) (gName 1)) D σ H) (ts := ts_said X.K T.C_BadCount T.C_NotHeld) (Wout := fun _ _ _ _ => False) rfl rfl sc_l_said.nd rfl rfl ⟨rfl, by decide, Or.inl T.m_HooksError⟩ L2.takes0
          (fun W pn xe tk _ => ?_)
          (fun a oe cls d pn hz hf => pss_one (ps_if (PW.pt (pw_and (pt_val (pe_callB (call_isEX hz hf) (by rfl) T.z_isinstance (by decide +kernel) (pa_cons (pv 2) (pa_cons (pe_glob rfl T.m_BadCount rfl) pa_nil)))) (pw_and1 (pt_not (pt_val (pe_callB (call_isEX hz hf) (by rfl) T.z_isinstance (by decide +kernel) (pa_cons (pv 2) (pa_cons (pe_glob rfl T.m_NotHeld rfl) pa_nil))))))))
            (pss_one (ps_set (i := 1) sc_l_said.nd rfl (Or.inl rfl) (pe_tup (pa_cons (pe_xf T.xf_BadCount T.nf_BadCount_what hz hf (pv 2)) (pa_cons (pe_xf T.xf_BadCount T.nf_BadCount_count hz hf (pv 2)) pa_nil)))))
            (pss_one (ps_if (pt_val (pe_callB (call_isEX hz hf) (by rfl) T.z_isinstance (by decide +kernel) (pa_cons (pv 2) (pa_cons (pe_glob rfl T.m_NotHeld rfl) pa_nil))))
              (pss_one (ps_set (i := 1) sc_l_said.nd rfl (Or.inl rfl) (pe_tup (pa_cons pe_str (pa_cons (pe_xf T.xf_NotHeld T.nf_NotHeld_rod hz hf (pv 2)) pa_nil)))))
              pss_nil)))))
      (pss_one (ps_ret (pv 1))))), ?_⟩
  · refine ⟨fun pins s' σ H' D I h' => ?_⟩
    obtain ⟨Ech, hW, h1⟩ := h'
    have tk2 : Takes ((cxOf C8.CX0 X.prog X.w X.K X.mg X.base N_l_said "_law_said" (defScope s_l_said) g cdg X.A X.stack s H C8.E0).tr pn xe) (fun cls d _ H' => Ech cls d H') := fun u s2 ⟨a, B, sI, pins2, σ2, H2, cls, d, e1, J, e2, e3, e4, e5, e6, e7, e8⟩ =>
      tk u s2 ⟨a, B, sI, pins2, σ2, H2, cls, d, e1, J, e2, e3, e4, e5, e6, e7, hW cls d σ2 H2 J.len e8⟩
    exact (pss_one (ps_set (i := 1) sc_l_said.nd rfl (Or.inl rfl) (pe_tup (pa_cons pe_str (pa_cons (act _ pn xe Ech _ _ tk2 (fun _ _ _ _ z => z)) pa_nil))))).run pins s' σ H' D I h1
  · refine ⟨by show 2 ≤ sizeLine; decide, fun p0 hp0 => ?_⟩
    refine ⟨RefS X.K T.C_BadCount T.C_NotHeld Q, fun cls d σ' H' hl hh => ?_, rfl, ?_, ?_⟩
    · match σ', hl with
      | [a0, a1, a2], _ =>
      rcases hh with ⟨rfl, a, n, x, rfl, hd, hq⟩ | ⟨rfl, a, n, rfl, hd, hq⟩
      · refine ⟨true, T.exm_BadCount_HooksError, fun _ ea hea => ?_, fun z => by cases z⟩
        have l1 : ([("count", .int n), ("what", .str x)] : List (Str × V)).lookup ("what" : Str) = some (V.str x) := by
          rw [lookup_put, if_neg (by decide +kernel), lookup_put, if_pos rfl]
        have l2 : ([("count", .int n), ("what", .str x)] : List (Str × V)).lookup ("count" : Str) = some (V.int n) := by
          rw [lookup_put, if_pos rfl]
        refine ⟨_, rfl, _, _, true, T.C_BadCount, rfl, fun u hu => hu, rfl, T.isC_BadCount, T.kit_BadCount_BadCount, .inr ⟨a, _, rfl, hd⟩, true, rfl, iteT ?_⟩
        refine ⟨_, rfl, _, _, false, T.C_BadCount, rfl, fun u hu => hu, rfl, T.isC_BadCount, T.kit_BadCount_NotHeld, .inr ⟨a, _, rfl, hd⟩, false, rfl, iteT ?_⟩
        refine ⟨_, rfl, rfl, rfl, a, _, _, rfl, hd, l1, ?_⟩
        refine ⟨_, rfl, rfl, rfl, a, _, _, rfl, hd, l2, ?_⟩
        refine ⟨by show 2 ≤ sizeLine; decide, fun p hp => ?_⟩
        refine ⟨_, rfl, ?_⟩
        exact hq _ _ (Ext.upd hp) ⟨p, _, rfl, SqT.of upd_same, _, _, rfl, rfl, _, _, rfl, rfl, rfl⟩
      · refine ⟨true, T.exm_NotHeld_HooksError, fun _ ea hea => ?_, fun z => by cases z⟩
        have l1 : ([("rod", .int n)] : List (Str × V)).lookup ("rod" : Str) = some (V.int n) := by
          rw [lookup_put, if_pos rfl]
        refine ⟨_, rfl, _, _, false, T.C_NotHeld, rfl, fun u hu => hu, rfl, T.isC_NotHeld, T.kit_NotHeld_BadCount, .inr ⟨a, _, rfl, hd⟩, false, rfl, iteF ?_⟩
        refine iteF ?_
        refine ⟨_, rfl, _, _, true, T.C_NotHeld, rfl, fun u hu => hu, rfl, T.isC_NotHeld, T.kit_NotHeld_NotHeld, .inr ⟨a, _, rfl, hd⟩, true, rfl, iteT ?_⟩
        refine ⟨_, rfl, rfl, rfl, a, _, _, rfl, hd, l1, ?_⟩
        refine ⟨by show 2 ≤ sizeLine; decide, fun p hp => ?_⟩
        refine ⟨_, rfl, ?_⟩
        exact hq _ _ (Ext.upd hp) ⟨p, _, rfl, SqT.of upd_same, _, _, rfl, rfl, _, _, rfl, rfl, rfl⟩
    · exact Ext.upd hp0 _ _ hc
    · exact h p0 hp0
end K07
namespace K07
open PySem PySem.Spec PyProof.Rows L2 LamX
theorem normH_keys {hl : List (Int × Int)} : (normH hl).map (·.1) = srtI (hl.map (·.1)) := by
  unfold normH
  rw [List.map_map]
  exact List.map_id _
theorem find_map {l : List Int} {g : Int → Int} {r : Int} (h : r ∈ l) : (l.map fun x => (x, g x)).find? (fun q => decide (q.1 = r)) = some (r, g r) := by
  induction l with
  | nil => cases h
  | cons a l ih =>
    rw [List.map_cons]
    by_cases e : a = r
    · subst e
      rw [List.find?_cons_of_pos (by simp)]
    · rw [List.find?_cons_of_neg (by simp [e])]
      exact ih (by
        rcases List.mem_cons.mp h with z | z
        · exact absurd z.symm e
        · exact z)
theorem normH_look {hl : List (Int × Int)} {r : Int} (h : r ∈ hl.map (·.1)) : lookI (normH hl) r = lookI hl r := by
  have z := find_map (l := srtI (hl.map (·.1))) (g := lookI hl) ((srtI_perm _).mem_iff.mpr h)
  show (match (normH hl).find? fun p => decide (p.1 = r) with | some p => p.2 | none => 0) = _
  unfold normH
  rw [z]
theorem ckHt_norm {n : Nat} {hl : List (Int × Int)} {ts : List Int} {s : Int} : ckHt n (normH hl) ts s = ckHt n hl ts s := by
  unfold ckHt
  rw [normH_keys, srt_eq (ks := hl.map (·.1)) ((srtI_perm (srtI (hl.map (·.1)))).trans (srtI_perm _)) (srtI_sorted _)]
  by_cases h1 : s < 1
  · rw [if_pos h1, if_pos h1]
  rw [if_neg h1, if_neg h1]
  by_cases h2 : ¬ ts.length = n
  · rw [if_pos h2, if_pos h2]
  rw [if_neg h2, if_neg h2]
  have key : ∀ l : List Int, (∀ r ∈ l, r ∈ hl.map (·.1)) → l.find? (offH (normH hl) ts s) = l.find? (offH hl ts s) := fun l => by
    induction l with
    | nil => intro _; rfl
    | cons a l ih =>
      intro h
      have e : offH (normH hl) ts s a = offH hl ts s a := by
        unfold offH
        rw [normH_look (h a List.mem_cons_self)]
      rw [List.find?_cons, List.find?_cons, e, ih fun r hr => h r (List.mem_cons_of_mem _ hr)]
  rw [key _ fun r hr => (srtI_perm _).mem_iff.mp hr]
theorem res_ok (L r s : Int) : pureD (resD L r s) = true ∧ dep (resD L r s) ≤ 1 ∧ deq (resD L r s) (resD L r s) = true := by
  unfold resD
  split
  · exact ⟨rfl, Nat.zero_le _, by show (freeT == freeT) = true; simp⟩
  · split
    · refine ⟨rfl, Nat.le_refl _, ?_⟩
      show ((_ : Int) == _ && ((_ : Int) == _ && true)) = true
      simp
    · exact ⟨rfl, Nat.zero_le _, by show (noneT == noneT) = true; simp⟩
theorem seen_ok (b : BarD) (ts : List Int) : pureD (seenD b ts) = true ∧ dep (seenD b ts) ≤ 1 ∧ deq (seenD b ts) (seenD b ts) = true := by
  unfold seenD
  split <;> exact res_ok _ _ _
theorem seens_ok (ts : List Int) : ∀ bs : List BarD, pureL (bs.map fun b => seenD b ts) = true ∧ depL (bs.map fun b => seenD b ts) ≤ 1 ∧ deqL (bs.map fun b => seenD b ts) (bs.map fun b => seenD b ts) = true
  | [] => ⟨rfl, Nat.zero_le _, rfl⟩
  | b :: bs => by
    obtain ⟨h1, h2, h3⟩ := seens_ok ts bs
    obtain ⟨g1, g2, g3⟩ := seen_ok b ts
    refine ⟨?_, ?_, ?_⟩
    · show (pureD (seenD b ts) && pureL (bs.map fun b => seenD b ts)) = true
      rw [g1, h1]; rfl
    · show max (dep (seenD b ts)) (depL (bs.map fun b => seenD b ts)) ≤ 1
      omega
    · show (deq (seenD b ts) (seenD b ts) && deqL (bs.map fun b => seenD b ts) (bs.map fun b => seenD b ts)) = true
      rw [g3, h3]; rfl
theorem ans_ok {shp : Addr → List Str → List Dt → Prop} (bs : List BarD) (ts : List Int) : ∀ r, okD shp (ansD bs ts r) ∧ dep (ansD bs ts r) ≤ 8 ∧ deq (ansD bs ts r) (ansD bs ts r) = true
  | some (.cnt x n) => ⟨⟨trivial, trivial, trivial⟩, by show 1 ≤ 8; decide, by show ((x == x) && ((n == n) && true)) = true; simp⟩
  | some (.held n) => ⟨⟨trivial, trivial, trivial⟩, by show 1 ≤ 8; decide, by show ((Str.ofString "notheld" == Str.ofString "notheld") && ((n == n) && true)) = true; simp⟩
  | none => by
    obtain ⟨h1, h2, h3⟩ := seens_ok ts bs
    refine ⟨⟨trivial, okL_pure h1, trivial⟩, ?_, ?_⟩
    · show max 0 (max (depL (bs.map fun b => seenD b ts) + 1) 0) + 1 ≤ 8
      omega
    · show ((Str.ofString "told" == Str.ofString "told") && (deqL (bs.map fun b => seenD b ts) (bs.map fun b => seenD b ts) && true)) = true
      rw [h3]
      simp
section
variable {P : Program} {w : World} {K : PySem.W.Frag} {mg : Str → Option Value} {base : Heap}
/-- what led tells, behind said -/
theorem said_led (T : Tx K mg) {H : Hp} {u : V} {h : Addr} {n : Nat} {hl : List (Int × Int)} {bs : List BarD} {ts : List Int} {s : Int} {Qr : VK} (iu : Is K H (wbD T.C_Web T.C_Bar (n : Int) bs (normH hl)) u) (hh : SqQ K H h (ts.map V.int)) (ok : WebOk (n : Int) hl bs) (hs : s.natAbs ≤ 10 ^ 9) (tsm : ∀ x ∈ ts, x.natAbs < 2 ^ 60)
    (k : ∀ v H2, Ext H H2 → Is K H2 (ansD bs ts (ckHt n hl ts s)) v → Qr v H2) :
    spLed K T [u, .ref h, .int s] H (fun v H1 => 2 ≤ sizeLine ∧ ∀ p, H1 p = none → ∃ v' : V, (some (some (V.ref p)) : Option (Option V)) = some (some v') ∧ Qr v' (upd H1 p (.tup [.str "told", v]))) (RefS K T.C_BadCount T.C_NotHeld Qr) := by
  have hlen64 : (normH hl).length < 64 := by
    unfold normH
    rw [List.length_map, (srtI_perm _).length_eq, List.length_map]
    have := ok.sum
    have := ok.n10
    omega
  refine ⟨u, h, n, bs, normH hl, ts, s, rfl, iu, hh, hs, fun p hp => ?_, hlen64, ok.b8, ok.bars, tsm, fun r hr d H1 e1 hd hd1 => ?_, fun hn p us H1 e1 hp hp1 hus => ⟨by decide, fun q hq => ⟨.ref q, rfl, k _ _ (e1.trans (Ext.upd hq)) ?_⟩⟩⟩
  · unfold normH at hp
    obtain ⟨r, hr, rfl⟩ := List.mem_map.mp hp
    exact ok.keys _ (look_mem ((srtI_perm _).mem_iff.mp hr))
  · rw [ckHt_norm] at hr
    cases r with
    | cnt x m => exact Or.inl ⟨rfl, d, m, x, rfl, hd1, fun v H' e iv => k v H' (e1.trans e) (by rw [hr]; exact iv)⟩
    | held m => exact Or.inr ⟨rfl, d, m, rfl, hd1, fun v H' e iv => k v H' (e1.trans e) (by rw [hr]; exact iv)⟩
  · rw [ckHt_norm] at hn
    rw [hn]
    exact ⟨q, _, rfl, SqT.of upd_same, _, _, rfl, rfl, _, _, rfl, is_lst (Ext.upd hq _ _ hp1) (hus.ext (Ext.upd hq)), rfl⟩
def D2 (p t : Addr) (H : Hp) : Hp := del (del H p) t
theorem d2_some {p t b : Addr} {H : Hp} {o : HO} (h : D2 p t H b = some o) : b ≠ p ∧ b ≠ t ∧ H b = some o := by
  unfold D2 at h
  have h1 : b ≠ t := fun e => by rw [e, del_same] at h; cases h
  rw [del_ne h1] at h
  have h2 : b ≠ p := fun e => by rw [e, del_same] at h; cases h
  rw [del_ne h2] at h
  exact ⟨h2, h1, h⟩
theorem d2_at {p t b : Addr} {H : Hp} {o : HO} (h1 : b ≠ p) (h2 : b ≠ t) (h : H b = some o) : D2 p t H b = some o := by
  unfold D2
  rw [del_ne h2, del_ne h1]
  exact h
structure StX (T : Tx K mg) (TS : List (Addr × Str)) (p q2 M tp : Addr) (u : V) (n : Nat) (hl : List (Int × Int)) (bs : List BarD) (XS : List V) (ts : List Int) (H : Hp) : Prop where
  well : WellAt H p
  m : Is K (D2 p tp H) (mD (n : Int) hl bs) (.ref M)
  u : Is K (D2 p tp H) (wbD T.C_Web T.C_Bar (n : Int) bs (normH hl)) u
  q : D2 p tp H q2 = some (.lst XS)
  tb : Tabs TS H
  ht : H tp = some (.lst (ts.map V.int))
  np : tp ≠ p
section
variable {T : Tx K mg} {TS : List (Addr × Str)} {p q2 M tp : Addr} {u : V} {n : Nat} {hl : List (Int × Int)} {bs : List BarD} {XS : List V} {ts ts' : List Int} {H H' : Hp}
theorem wellL (h : WellAt H p) : ∃ l, H p = some (.lst l) := let ⟨a, b, c, e⟩ := h; ⟨_, e⟩
theorem StX.ext (S : StX T TS p q2 M tp u n hl bs XS ts H) (e : Ext H H') : StX T TS p q2 M tp u n hl bs XS ts H' := by
  have ee : Ext (D2 p tp H) (D2 p tp H') := fun b o h => by
    obtain ⟨h1, h2, h3⟩ := d2_some h
    exact d2_at h1 h2 (e _ _ h3)
  exact ⟨S.well.ext e, S.m.ext ee, S.u.ext ee, ee _ _ S.q, S.tb.ext e, e _ _ S.ht, S.np⟩
theorem StX.de (S : StX T TS p q2 M tp u n hl bs XS ts H) (e : DE p H H') (w' : WellAt H' p) : StX T TS p q2 M tp u n hl bs XS ts H' := by
  have ee : Ext (D2 p tp H) (D2 p tp H') := fun b o h => by
    obtain ⟨h1, h2, h3⟩ := d2_some h
    exact d2_at h1 h2 (e.to h3 h1)
  obtain ⟨l, hl'⟩ := wellL S.well
  exact ⟨w', S.m.ext ee, S.u.ext ee, ee _ _ S.q, tabs_de S.tb hl' e, e.to S.ht S.np, S.np⟩
theorem StX.mut (S : StX T TS p q2 M tp u n hl bs XS ts H) : StX T TS p q2 M tp u n hl bs XS ts' (upd H tp (.lst (ts'.map V.int))) := by
  have ee : Ext (D2 p tp H) (D2 p tp (upd H tp (.lst (ts'.map V.int)))) := fun b o h => by
    obtain ⟨h1, h2, h3⟩ := d2_some h
    exact d2_at h1 h2 (by rw [upd_ne h2]; exact h3)
  exact ⟨S.well.upd S.np, S.m.ext ee, S.u.ext ee, ee _ _ S.q, tabs_upd S.tb S.ht, upd_same, S.np⟩
theorem StX.new (S : StX T TS p q2 M tp u n hl bs XS ts H) {tq : Addr} (hf : H tq = none) (e : Ext H H') (h : H' tq = some (.lst (ts'.map V.int))) : StX T TS p q2 M tq u n hl bs XS ts' H' := by
  have ee : Ext (D2 p tp H) (D2 p tq H') := fun b o h => by
    obtain ⟨h1, h2, h3⟩ := d2_some h
    exact d2_at h1 (fun z => by rw [z, hf] at h3; cases h3) (e _ _ h3)
  obtain ⟨l, hl'⟩ := wellL S.well
  exact ⟨S.well.ext e, S.m.ext ee, S.u.ext ee, ee _ _ S.q, S.tb.ext e, h, fun z => by rw [z, hl'] at hf; cases hf⟩
theorem StX.lam (S : StX T TS p q2 M tp u n hl bs XS ts H) (e : ExtN H H') (tb : Tabs TS H') : StX T TS p q2 M tp u n hl bs XS ts H' := by
  have ee : ExtN (D2 p tp H) (D2 p tp H') := fun b o h z => by
    obtain ⟨h1, h2, h3⟩ := d2_some h
    exact d2_at h1 h2 (e _ _ h3 z)
  obtain ⟨a, b, c, hw⟩ := id S.well
  exact ⟨⟨a, b, c, e _ _ hw (fun _ z => by cases z)⟩, Is.extN ee S.m, Is.extN ee S.u, ee _ _ S.q (fun _ z => by cases z), tb, e _ _ S.ht (fun _ z => by cases z), S.np⟩
theorem StX.start (hw : WellAt H p) (im : Is K (del H p) (mD (n : Int) hl bs) (.ref M)) (iu : Is K (del H p) (wbD T.C_Web T.C_Bar (n : Int) bs (normH hl)) u) (hq : H q2 = some (.lst XS)) (hqp : q2 ≠ p) (hT : Tabs TS H) {tq : Addr} (hf : H tq = none) (e : DE p H H') (w' : WellAt H' p) (h : H' tq = some (.lst (ts'.map V.int))) : StX T TS p q2 M tq u n hl bs XS ts' H' := by
  have ee : Ext (del H p) (D2 p tq H') := fun b o h => by
    have h1 : b ≠ p := fun z => by rw [z, del_same] at h; cases h
    rw [del_ne h1] at h
    exact d2_at h1 (fun z => by rw [z, hf] at h; cases h) (e.to h h1)
  obtain ⟨l, hl'⟩ := wellL hw
  have e1 : H q2 = some (.lst XS) := hq
  exact ⟨w', im.ext ee, iu.ext ee, ee _ _ (by rw [del_ne hqp]; exact e1), tabs_de hT hl' e, h, fun z => by rw [z, hl'] at hf; cases hf⟩
theorem if_join {c : Bool} {ta : L2.TS} {D : Ends} {σ : L2.St} {H : Hp} (R : L2.St → Hp → Prop) (hN : ∀ σ H, R σ H → D.nx σ H) (h1 : c = true → (∀ σ H, R σ H → D.nx σ H) → ta D σ H) (h0 : c = false → R σ H) : (if c = true then ta D σ H else tNext D σ H) := by
  cases c
  · exact hN _ _ (h0 rfl)
  · exact h1 rfl hN
theorem tn_join' {tt : TT} {ta rest : L2.TS} {D : Ends} {rt : VK} {bk ct : L2.St → Hp → Prop} {σ : L2.St} {H : Hp} (R : L2.St → Hp → Prop) (hN : ∀ σ H, R σ H → rest D σ H) (h : (∀ σ H, R σ H → rest D σ H) → tt σ H fun b H1 => if b = true then ta { D with nx := rest D } σ H1 else tNext { D with nx := rest D } σ H1) : tNext { nx := tSeq (tIfS tt ta tNext) rest D, rt := rt, bk := bk, ct := ct } σ H := h hN
theorem StX.newD (S : StX T TS p q2 M tp u n hl bs XS ts H) {tq : Addr} (hf : H tq = none) (e : DE p H H') (w' : WellAt H' p) (h : H' tq = some (.lst (ts'.map V.int))) : StX T TS p q2 M tq u n hl bs XS ts' H' := by
  have ee : Ext (D2 p tp H) (D2 p tq H') := fun b o h => by
    obtain ⟨h1, h2, h3⟩ := d2_some h
    exact d2_at h1 (fun z => by rw [z, hf] at h3; cases h3) (e.to h3 h1)
  obtain ⟨l, hl'⟩ := wellL S.well
  exact ⟨w', S.m.ext ee, S.u.ext ee, ee _ _ S.q, tabs_de S.tb hl' e, h, fun z => by rw [z, hl'] at hf; cases hf⟩
theorem upd_back {H : Hp} {d : Addr} {o o' : HO} (h : H d = some o) : upd (upd H d o') d o = H := by
  funext b
  by_cases e : b = d
  · rw [e, upd_same, h]
  · rw [upd_ne e, upd_ne e]
theorem upd_swap {H : Hp} {d t : Addr} {o o' : HO} (h : d ≠ t) : upd (upd H t o) d o' = upd (upd H d o') t o := by
  funext b
  by_cases e : b = d
  · subst e
    rw [upd_same, upd_ne h, upd_same]
  · rw [upd_ne e]
    by_cases e2 : b = t
    · subst e2
      rw [upd_same, upd_same]
    · rw [upd_ne e2, upd_ne e2, upd_ne e]
theorem m_hd {n' : Int} {hd bl : Addr} (hM : H M = some (.dK (mV n' hd bl))) (hh : H hd = some (.dK (hK hl))) : M ≠ hd := fun e => by
  rw [e, hh] at hM
  have z : hK hl = mV n' hd bl := by
    have := Option.some.inj hM
    injection this
  unfold hK mV at z
  cases hl with
  | nil => cases z
  | cons q r =>
    have z1 := (List.cons.inj z).1
    have z2 : (Sum.inl q.1 : Key) = Sum.inr ("rods" : Str) := congrArg Prod.fst z1
    cases z2
theorem StX.mH (S : StX T TS p q2 M tp u n hl bs XS ts H) : Is K H (mD (n : Int) hl bs) (.ref M) := S.m.ext fun b o h => (d2_some h).2.2
theorem StX.uH (S : StX T TS p q2 M tp u n hl bs XS ts H) : Is K H (wbD T.C_Web T.C_Bar (n : Int) bs (normH hl)) u := S.u.ext fun b o h => (d2_some h).2.2
theorem StX.mP (S : StX T TS p q2 M tp u n hl bs XS ts H) : Is K (del H p) (mD (n : Int) hl bs) (.ref M) := S.m.ext fun b o h => by
  obtain ⟨h1, _, h3⟩ := d2_some h
  rw [del_ne h1]
  exact h3
theorem StX.uP (S : StX T TS p q2 M tp u n hl bs XS ts H) : Is K (del H p) (wbD T.C_Web T.C_Bar (n : Int) bs (normH hl)) u := S.u.ext fun b o h => by
  obtain ⟨h1, _, h3⟩ := d2_some h
  rw [del_ne h1]
  exact h3
theorem StX.qH (S : StX T TS p q2 M tp u n hl bs XS ts H) : H q2 = some (.lst XS) := (d2_some S.q).2.2
end
end
end K07
namespace K07
open PySem PySem.Spec PyProof.Rows L2 LamX
theorem cut_mem {xs : List V} {lo hi : Option Int} {i : Nat} {y : V} (h : (cutV xs lo hi)[i]? = some y) : y ∈ xs :=
  List.mem_of_mem_drop (List.mem_of_mem_take (List.mem_of_getElem? h))
theorem ixN_of {n : Nat} {i : Int} (h0 : 0 ≤ i) (h1 : i < (n : Int)) : ixN n i = some i.toNat := by
  unfold ixN
  rw [if_pos h0, if_pos (by omega)]
theorem cut_ints (ms : List Int) (lo hi : Option Int) : ∃ ms' : List Int, cutV (ms.map V.int) lo hi = ms'.map V.int ∧ ms'.length ≤ ms.length ∧ ∀ x ∈ ms', x ∈ ms := by
  refine ⟨(ms.drop (HT.sIx ms.length 0 lo)).take (HT.sIx ms.length ms.length hi - HT.sIx ms.length 0 lo), ?_, ?_, fun x hx => List.mem_of_mem_drop (List.mem_of_mem_take hx)⟩
  · unfold cutV
    rw [List.length_map, ← List.map_drop, ← List.map_take]
  · rw [List.length_take, List.length_drop]
    omega
theorem topB {sh h r : Int} (s1 : 1 ≤ sh) (s2 : sh ≤ 10 ^ 9) (h0 : -1000000 ≤ h) (h1 : h ≤ 1000000) (r0 : 0 ≤ r) (r1 : r < sh) : (sh * h + r).natAbs ≤ 2 ^ 55 := by
  have a1 : (sh * h).natAbs ≤ 10 ^ 9 * 1000000 := by
    rw [Int.natAbs_mul]
    exact Nat.mul_le_mul (by omega) (by omega)
  omega
theorem ixN_last {n : Nat} (h : 0 < n) : ixN n (-1) = some (n - 1) := by
  unfold ixN
  rw [if_neg (by decide), if_pos (by omega)]
  congr 1
  omega
theorem atI_end {xs : List V} {v : V} (h0 : 0 < xs.length) (h : xs[xs.length - 1]? = some v) : atI xs (-1) = some v := by
  unfold atI
  rw [ixN_last h0]
  exact h
theorem cpow9 : CPow 10 9 := ⟨by decide, by decide, by decide⟩
abbrev rTupOf (K : PySem.W.Frag) : List V → Hp → VK → Prop := fun xs H Q => ∃ p ys, xs = [V.ref p] ∧ ((SqL K H p ys ∧ ∀ (l : Addr), H l = none → Q (V.ref l) (upd H l (HO.tup ys))) ∨ SqT K H p ys ∧ Q (V.ref p) H)
def qL : Str := "law.<locals>.<lambda>"
section
variable {P : Program} {w : World} {K : PySem.W.Frag} {mg : Str → Option Value} {base : Heap}
theorem isLbr_del {C D : Addr} {H : Hp} {l : List V} (h : H D = some (.lst l)) : ∀ {bs : List BarD} {ws : List V}, IsL K H (bs.map (brD C)) ws → IsL K (del H D) (bs.map (brD C)) ws
  | [], _, e => e
  | _ :: _, _, ⟨v, r, e, i, il⟩ => ⟨v, r, e, br_del i h, isLbr_del h il⟩
theorem SqT.delL {H : Hp} {t D : Addr} {xs l : List V} (s : SqT K H t xs) (h : H D = some (.lst l)) : SqT K (del H D) t xs := by
  rcases s with (r | ⟨o', r⟩) | r
  · exact .inl (.inl (by rw [del_ne (fun e => by rw [e, h] at r; cases r)]; exact r))
  · exact .inl (.inr ⟨o', by rw [del_ne (fun e => by rw [e, h] at r; cases r)]; exact r⟩)
  · exact .inr r
theorem wb_del {C CB D : Addr} {H : Hp} {n : Int} {bs : List BarD} {hl : List (Int × Int)} {v : V} {l : List V} (i : Is K H (wbD C CB n bs hl) v) (h : H D = some (.lst l)) : Is K (del H D) (wbD C CB n bs hl) v := by
  obtain ⟨a, dx, t, d, ws, rfl, ha, ht, hb, hd⟩ := wb_fields i
  refine ⟨a, dx, _, rfl, by rw [del_ne (fun e => by rw [e, h] at ha; cases ha)]; exact ha, rfl, _, _, rfl, rfl, _, _, rfl, ⟨t, ws, rfl, SqT.delL ht h, isLbr_del h hb⟩, _, _, rfl, hd_is (by rw [del_ne (fun e => by rw [e, h] at hd; cases hd)]; exact hd), rfl⟩
theorem kb_led1 (T : Tx K mg) : KBn K T.fd_led ["web", "heights", "parts"] 2 ["parts"] (fun us ws => us ++ ws) (fun vs zs => vs ++ zs) :=
  T.F_led.kbn (n := 2) (ks := ["parts"]) (ps := ["web", "heights", "parts"]) (g := fun {α} (us ws : List α) => us ++ ws) (fun r1 r2 => r1.append r2) fun _ _ _ _ _ _ us ws l1 l2 => match us, ws, l1, l2 with | [_, _], [_], _, _ => rfl
theorem b_led (T : Tx K mg) : ∃ ds, Vals [V.int 1] ds ∧ Binds K T.fd_led ["web", "heights", "parts"] ds :=
  ZK.kbD T.D_led 2 (by decide) rfl fun D doc pm an cdv ct us mv l1 l2 => match us, mv, l1, l2 with | [_, _], [_], _, _ => ⟨_, _, _, _, _, _, rfl, rfl, rfl⟩
def spLaw (K : PySem.W.Frag) (P0 : Addr) : Sp := fun vs H Q _ => ∃ (a : Addr) (ns : List Int), vs = [.ref a] ∧ SqL K H a (ns.map V.int) ∧ ns.length ≤ 63 ∧ H P0 = some (.tbl #[]) ∧ ∀ H', Q (.bl true) H'
theorem ok_law (T : Tx K mg) {c0 P0 : Addr} (TB0 : TabB base mg c0 P0) (hcd0 : T.fd_law.code = .ref c0) :
    FnOk P w K mg base (L2.CX P w) 60 T.a_law T.fd_law ["_law_script"] (spLaw K P0) := by
  obtain ⟨ocR, odR, kVR, docR, pmR, anR, cdR, ctR, oslR, hfR, lkR, hcR⟩ := T.F_l_said.ex
  rw [hfR] at lkR
  have hbR := T.b_l_said
  rw [hfR] at hbR
  obtain ⟨dsD, hvD, hbD⟩ := b_led T
  have hmT0 : (P0, qL) ∈ [(P0, qL)] := List.mem_cons_self
  have huT0 : ∀ p ∈ [(P0, qL)], p.1 = P0 → p.2 = qL := fun p hp e => by
    simp only [List.mem_cons, List.not_mem_nil, or_false] at hp
    rw [hp]
  refine T.F_law.okXc sc_law (fun vs H Q E h => ?_) (fun A outer s H vs Q E hr h => ?_)
  · obtain ⟨a, ns, rfl, _⟩ := h
    rfl
  · obtain ⟨a, ns, rfl, hs, hn, hP0, k⟩ := h
    refine ⟨_, (pss_cons (ps_for (passes_of rfl) rfl (pi_list (pe_slice sl_list (pe_op op_catL (pv 0) (pe_lst (pa_cons pe_int pa_nil))) po_none (po_some pe_int))) (pg_name (i := 1) sc_law.nd rfl (Or.inl rfl)) (pss_cons (ps_set (i := 2) sc_law.nd rfl (Or.inr rfl) (pe_call (ok_l_well T) (hr.mono (by decide)) rfl T.m_l_well T.F_l_well.kp T.b_l_well .nil passL (pa_cons (pv 1) pa_nil)))
      (pss_cons (ps_set (i := 3) sc_law.nd rfl (Or.inl rfl) (pe_call (ok_l_any T) (hr.mono (by decide)) rfl T.m_l_any T.F_l_any.kp T.b_l_any .nil passL (pa_cons (pv 2) (pa_cons pe_int pa_nil))))
      (pss_cons (ps_set (i := 4) sc_law.nd rfl (Or.inr rfl) (pe_call (ok_l_web T) (hr.mono (by decide)) rfl T.m_l_web T.F_l_web.kp T.b_l_web .nil passL (pa_cons (pv 3) pa_nil)))
      (pss_one (ps_for (passes_of rfl) rfl (pi_range1 rfl T.z_range (pa_cons pe_int pa_nil)) (pg_name (i := 5) sc_law.nd rfl (Or.inl rfl)) (pss_cons (ps_set (i := 6) sc_law.nd rfl (Or.inr rfl) (pe_call (ok_l_one T) (hr.mono (by decide)) rfl T.m_l_one T.F_l_one.kp T.b_l_one .nil passL (pa_cons (pv 2) (pa_cons (pe_lst (pa_cons pe_int (pa_cons pe_int (pa_cons pe_int (pa_cons pe_int (pa_cons (pe_op op_pow pe_int pe_int) pa_nil)))))) pa_nil))))
      (pss_cons (ps_set (i := 7) sc_law.nd rfl (Or.inr rfl) (pe_lc (own := [("_law_rod", 8)]) (g := gName 8) (tt := tYes) (te := tOp (rI0 fun i j => .int (i + j)) (tOp (rI CMul fun i j => .int (i * j)) (tVar 6) (tCall spHeight [] E0 (tCons (tVar 2) tNil))) (tCall spDraw [] E0 (tCons (tVar 2) (tCons (tVar 6) tNil)))) (by rfl) sc_law.nd (pi_range1 rfl T.z_range (pa_cons (pe_dget (hu_of hr) (pv 3) pe_str (fun _ _ => rfl)) pa_nil)) (blkOk_by (own := [("_law_rod", 8)]) (N := N_law) (sc := defScope s_law) (by decide +kernel)) (fun _ _ _ _ _ => (pg_name (i := 8) sc_law.nd rfl (Or.inl rfl))) (fun _ _ _ _ _ => pts_nil) (fun _ _ _ _ _ => (pe_op op_add (pe_op op_mul (pv 6) (pe_call (ok_l_height T) (hr.mono (by decide)) rfl T.m_l_height T.F_l_height.kp T.b_l_height .nil passL (pa_cons (pv 2) pa_nil))) (pe_call (ok_l_draw T) (hr.mono (by decide)) rfl T.m_l_draw T.F_l_draw.kp T.b_l_draw .nil passL (pa_cons (pv 2) (pa_cons (pv 6) pa_nil)))))))
      (pss_cons (ps_if (pt_cmpR op_eq (pe_call (ok_l_draw T) (hr.mono (by decide)) rfl T.m_l_draw T.F_l_draw.kp T.b_l_draw .nil passL (pa_cons (pv 2) (pa_cons pe_int pa_nil))) pe_int (nomark _)) (pss_one (ps_set (i := 7) sc_law.nd rfl (Or.inr rfl) (pe_lc (own := [("_law_rod", 8)]) (g := gName 8) (tt := tYes) (te := tCall (spOne K) [] E0 (tCons (tVar 2) (tCons (tLst (tCons (tOp (rIxL K) (tVar 7) (tC (.int 0))) (tCons (tOp (rIxL K) (tVar 7) (tUn (rU fun i => .int (-i)) (tC (.int 1)))) tNil))) tNil))) (by rfl) sc_law.nd (pi_range1 rfl T.z_range (pa_cons (pe_dget (hu_of hr) (pv 3) pe_str (fun _ _ => rfl)) pa_nil)) (blkOk_by (own := [("_law_rod", 8)]) (N := N_law) (sc := defScope s_law) (by decide +kernel)) (fun _ _ _ _ _ => (pg_name (i := 8) sc_law.nd rfl (Or.inl rfl))) (fun _ _ _ _ _ => pts_nil) (fun _ _ _ _ _ => (pe_call (ok_l_one T) (hr.mono (by decide)) rfl T.m_l_one T.F_l_one.kp T.b_l_one .nil passL (pa_cons (pv 2) (pa_cons (pe_lst (pa_cons (pe_ix ix_list (pv 7) pe_int (fun _ _ => rfl)) (pa_cons (pe_ix ix_list (pv 7) (pe_un un_neg pe_int) (fun _ _ => rfl)) pa_nil))) pa_nil))))))) pss_nil)
      (pss_cons (ps_lock (ps_for (passes_of rfl) rfl (pi_keys (pe_dget (hu_of hr) (pv 3) pe_str (fun _ _ => rfl))) (pg_name (i := 8) sc_law.nd rfl (Or.inl rfl)) (pss_one (ps_asg (pe_op op_mul (pv 6) (pe_dget (hu_of hr) (pe_dget (hu_of hr) (pv 3) pe_str (fun _ _ => rfl)) (pv 8) (fun _ _ => rfl))) (pg_sub (pv 7) (pv 8) set_list)))))
      (pss_cons (ps_for (passes_of rfl) rfl (pi_range1 rfl T.z_range (pa_cons (pe_op op_mul (pe_call (ok_l_draw T) (hr.mono (by decide)) rfl T.m_l_draw T.F_l_draw.kp T.b_l_draw .nil passL (pa_cons (pv 2) (pa_cons pe_int pa_nil))) (pe_callTy call_int1 (by rfl) T.z_int (by decide +kernel) (pa_cons (pe_cmpR op_gt (pv 5) pe_int (nomark _)) pa_nil))) pa_nil)) (pg_name (i := 9) sc_law.nd rfl (Or.inl rfl)) (pss_cons (ps_set (i := 10) sc_law.nd rfl (Or.inl rfl) (pe_call (ok_l_draw T) (hr.mono (by decide)) rfl T.m_l_draw T.F_l_draw.kp T.b_l_draw .nil passL (pa_cons (pv 2) (pa_cons pe_int pa_nil))))
      (pss_cons (ps_if (pt_cmpR op_eq (pv 10) pe_int (nomark _)) (pss_one (ps_set (i := 6) sc_law.nd rfl (Or.inr rfl) (pe_call (ok_l_one T) (hr.mono (by decide)) rfl T.m_l_one T.F_l_one.kp T.b_l_one .nil passL (pa_cons (pv 2) (pa_cons (pe_lst (pa_cons pe_int (pa_cons (pe_un un_neg pe_int) (pa_cons (pe_un un_neg pe_int) pa_nil)))) pa_nil))))) pss_nil)
      (pss_cons (ps_if (pt_cmpR op_eq (pv 10) pe_int (nomark _)) (pss_one (ps_set (i := 7) sc_law.nd rfl (Or.inr rfl) (pe_op op_catL (pv 7) (pe_lst (pa_cons pe_int pa_nil))))) pss_nil)
      (pss_cons (ps_if (pt_cmpR op_eq (pv 10) pe_int (nomark _)) (pss_one (ps_set (i := 7) sc_law.nd rfl (Or.inr rfl) (pe_slice sl_list (pv 7) po_none (po_some (pe_un un_neg pe_int))))) pss_nil)
      (pss_one (ps_if (PW.pt (pw_and (pt_cmpR op_eq (pv 10) pe_int (nomark _)) (pw_and1 (pt_cmpR (op_neO pureTab pureNe hr (by decide)) (pv 7) (pe_lst pa_nil) (nomark _))))) (pss_one (ps_asg pe_int (pg_sub (pv 7) (pe_call (ok_l_draw T) (hr.mono (by decide)) rfl T.m_l_draw T.F_l_draw.kp T.b_l_draw .nil passL (pa_cons (pv 2) (pa_cons (pe_callB call_len_seq (by rfl) T.z_len PySem.boot_len (pa_cons (pv 7) pa_nil)) pa_nil))) set_list))) pss_nil)))))))
      (pss_cons (ps_set (i := 11) sc_law.nd rfl (Or.inl rfl) (pe_callTy call_list_of (by rfl) T.z_list (by decide +kernel) (pa_cons (pv 7) pa_nil)))
      (pss_cons (ps_set (i := 12) sc_law.nd rfl (Or.inl rfl) (pe_call (ok_l_due T) (hr.mono (by decide)) rfl T.m_l_due T.F_l_due.kp T.b_l_due .nil passL (pa_cons (pv 3) (pa_cons (pv 7) (pa_cons (pv 6) pa_nil)))))
      (pss_cons (ps_if (PW.pt (pw_or (pt_cmpR (op_neO pureTab pureNe hr (by decide)) (pe_lamcall (T := [(P0, qL)]) (TT := TTsaid K T.C_BadCount T.C_NotHeld) (t := fun E => tCallN 2 ([("parts" : Str)].length) (spLed K T) (fun vs zs => vs ++ zs) E (tCons (tVar 4) (tCons (tVar 7) tNil)) (tCons (tVar 6) tNil)) (k := 20) rfl T.m_l_said T.F_l_said.kp lkR hcR hbR sc_l_said rfl (Or.inl rfl) (said_gives (K := K) (mg := mg) rfl rfl T) TB0 hcd0 hmT0 huT0 (hr.mono (by decide)) (lamS_by (by rfl)) rfl (fun _ _ _ _ _ => rfl) (fun A outer s H E f c hr2 => by exact pe_callN (ok_led T) (hr2.mono (by decide)) rfl T.m_led T.F_led.kp (kb_led1 T) (passes_call (takes_of rfl rfl rfl rfl) (fun _ _ _ _ h => h)) (pa_cons (pv 4) (pa_cons (pv 7) pa_nil)) (pk_cons (pv 6) pk_nil))) (pv 12) (nomark _)) (pw_or1 (pt_cmpR (op_neO pureTab pureNe hr (by decide)) (pv 7) (pv 11) (nomark _))))) (pss_one (ps_ret pe_bl)) pss_nil)
      (pss_cons (ps_if (PW.pt (pw_and (pt_cmpR op_eq (pv 6) pe_int (nomark _)) (pw_and1 (pt_cmpR (op_neO pureTab pureNe hr (by decide)) (pe_lamcall (T := [(P0, qL)]) (TT := TTsaid K T.C_BadCount T.C_NotHeld) (t := fun E => tCall (spLed K T) [V.int 1] E (tCons (tVar 4) (tCons (tCB (rTupOf K) (tCons (tVar 7) tNil)) tNil))) (k := 20) rfl T.m_l_said T.F_l_said.kp lkR hcR hbR sc_l_said rfl (Or.inl rfl) (said_gives (K := K) (mg := mg) rfl rfl T) TB0 hcd0 hmT0 huT0 (hr.mono (by decide)) (lamS_by (by rfl)) rfl (fun _ _ _ _ _ => rfl) (fun A outer s H E f c hr2 => by exact pe_call (ok_led T) (hr2.mono (by decide)) rfl T.m_led T.F_led.kp hbD hvD (passes_call (takes_of rfl rfl rfl rfl) (fun _ _ _ _ h => h)) (pa_cons (pv 4) (pa_cons (pe_callTy call_tuple_of (by rfl) T.z_tuple (by decide +kernel) (pa_cons (pv 7) pa_nil)) pa_nil)))) (pe_call (ok_l_due T) (hr.mono (by decide)) rfl T.m_l_due T.F_l_due.kp T.b_l_due .nil passL (pa_cons (pv 3) (pa_cons (pv 7) (pa_cons pe_int pa_nil)))) (nomark _))))) (pss_one (ps_ret pe_bl)) pss_nil)
      (pss_cons (ps_for (passes_of rfl) rfl (pi_range1 rfl T.z_range (pa_cons (pe_callB call_len_seq (by rfl) T.z_len PySem.boot_len (pa_cons (pv 7) pa_nil)) pa_nil)) (pg_name (i := 8) sc_law.nd rfl (Or.inl rfl)) (pss_one (ps_if (pt_cmp (h1 := rfl) (pc_dnotin (hu_of hr) (pv 8) (pe_dget (hu_of hr) (pv 3) pe_str (fun _ _ => rfl)))) (pss_one (ps_asg (pe_op op_add (pe_op op_add (pe_ix ix_list (pv 7) (pv 8) (fun _ _ => rfl)) pe_int) (pe_call (ok_l_draw T) (hr.mono (by decide)) rfl T.m_l_draw T.F_l_draw.kp T.b_l_draw .nil passL (pa_cons (pv 2) (pa_cons pe_int pa_nil)))) (pg_sub (pv 7) (pv 8) set_list))) pss_nil)))
      (pss_one (ps_if (pt_cmpR (op_neO pureTab pureNe hr (by decide)) (pe_lamcall (T := [(P0, qL)]) (TT := TTsaid K T.C_BadCount T.C_NotHeld) (t := fun E => tCallN 2 ([("parts" : Str)].length) (spLed K T) (fun vs zs => vs ++ zs) E (tCons (tVar 4) (tCons (tVar 7) tNil)) (tCons (tVar 6) tNil)) (k := 20) rfl T.m_l_said T.F_l_said.kp lkR hcR hbR sc_l_said rfl (Or.inl rfl) (said_gives (K := K) (mg := mg) rfl rfl T) TB0 hcd0 hmT0 huT0 (hr.mono (by decide)) (lamS_by (by rfl)) rfl (fun _ _ _ _ _ => rfl) (fun A outer s H E f c hr2 => by exact pe_callN (ok_led T) (hr2.mono (by decide)) rfl T.m_led T.F_led.kp (kb_led1 T) (passes_call (takes_of rfl rfl rfl rfl) (fun _ _ _ _ h => h)) (pa_cons (pv 4) (pa_cons (pv 7) pa_nil)) (pk_cons (pv 6) pk_nil))) (pe_call (ok_l_due T) (hr.mono (by decide)) rfl T.m_l_due T.F_l_due.kp T.b_l_due .nil passL (pa_cons (pv 3) (pa_cons (pv 7) (pa_cons (pv 6) pa_nil)))) (nomark _)) (pss_one (ps_ret pe_bl)) pss_nil))))))))))))))))))
      (pss_one (ps_ret pe_bl))), ?_⟩
    rw [show L2.start N_law [V.ref a] = [some (.ref a), none, none, none, none, none, none, none, none, none, none, none, none] from rfl]
    refine ⟨_, rfl, by show 1 ≤ sizeLine; decide, fun q0 h0 => ?_⟩
    refine ⟨_, _, _, _, rfl, rfl, hs.ext (Ext.upd h0), SqL.of upd_same, by rw [List.length_map]; exact Nat.le_trans (show ns.length + 1 ≤ 100 by omega) (by decide), fun q1 h1 => ?_⟩
    refine ⟨6, rfl, _, _, rfl, SqL.of upd_same, fun q2 h2 => ?_⟩
    have hXm : ∀ y ∈ (cutV (ns.map V.int ++ [.int 0]) none (some 6)), ∃ c : Int, y = V.int c := fun y hy => by
      obtain ⟨i, hi⟩ := List.getElem?_of_mem hy
      rcases List.mem_append.mp (cut_mem hi) with h | h
      · obtain ⟨n, _, rfl⟩ := List.mem_map.mp h
        exact ⟨n, rfl⟩
      · exact ⟨0, List.mem_singleton.mp h⟩
    have hq2 : (upd (upd (upd H q0 (.lst [.int 0])) q1 (.lst (ns.map V.int ++ [.int 0]))) q2 (.lst (cutV (ns.map V.int ++ [.int 0]) none (some 6)))) q2 = some (.lst (cutV (ns.map V.int ++ [.int 0]) none (some 6))) := upd_same
    have hT0 : Tabs [(P0, qL)] (upd (upd (upd H q0 (.lst [.int 0])) q1 (.lst (ns.map V.int ++ [.int 0]))) q2 (.lst (cutV (ns.map V.int ++ [.int 0]) none (some 6)))) := by
      refine Tabs.ext (H := H) (fun p hp => ?_) (((Ext.upd h0).trans (Ext.upd h1)).trans (Ext.upd h2))
      simp only [List.mem_cons, List.not_mem_nil, or_false] at hp
      rw [hp]
      exact TabS.nil hP0
    generalize upd (upd (upd H q0 (.lst [.int 0])) q1 (.lst (ns.map V.int ++ [.int 0]))) q2 (.lst (cutV (ns.map V.int ++ [.int 0]) none (some 6))) = H0 at hq2 hT0 ⊢
    refine ⟨q2, rfl, ⟨_, SqL.of hq2⟩, for_list (K := K) (a := q2) (xs := (cutV (ns.map V.int ++ [.int 0]) none (some 6))) (fun i σ H' => H' q2 = some (.lst (cutV (ns.map V.int ++ [.int 0]) none (some 6))) ∧ Tabs [(P0, qL)] H' ∧ ∃ v1 v2 v3 v4 v5 v6 v7 v8 v9 v10 v11 v12 : Option V, σ = [some (.ref a), v1, v2, v3, v4, v5, v6, v7, v8, v9, v10, v11, v12])
      ⟨hq2, hT0, none, none, none, none, none, none, none, none, none, none, none, none, rfl⟩ (fun i σ H' _ p => SqL.of p.1) ?_ ?_⟩
    · rintro i y σ H1 hi ⟨hq1, hT1, v1, v2, v3, v4, v5, v6, v7, v8, v9, v10, v11, v12, rfl⟩
      obtain ⟨c, rfl⟩ := hXm y (List.mem_of_getElem? hi)
      clear hi
      refine ⟨_, rfl, c, rfl, fun p H2 hp e2 hw2 => ?_⟩
      have hqp : q2 ≠ p := fun z => by rw [← z, hq1] at hp; cases hp
      have hT2 : Tabs [(P0, qL)] H2 := hT1.ext e2
      have hq2' := e2 _ _ hq1
      simp only [List.set_cons_succ, List.set_cons_zero]
      refine ⟨_, rfl, p, 4, rfl, hw2, by decide, by decide, fun v n0 hl bs H3 e3 hw3 im ok => ?_⟩
      obtain ⟨n, rfl⟩ : ∃ n : Nat, n0 = (n : Int) := ⟨n0.toNat, by have := ok.n3; omega⟩
      have hT3 : Tabs [(P0, qL)] H3 := by
        obtain ⟨za, zb, zc, hz⟩ := id hw2
        exact tabs_de hT2 hz e3
      have hq3 := e3.to hq2' hqp
      obtain ⟨M, _, _, _, rfl, _⟩ := m_of im
      refine ⟨_, rfl, .ref M, (n : Int), hl, bs, rfl, im.ext del_ext, ok, fun u H4 e4 iu => ?_⟩
      have im4 := im.ext (DE.of (w := p) e4)
      have hw4 := hw3.ext e4
      obtain ⟨za, zb, zc, hz4⟩ := id hw4
      have iu4 : Is K (del H4 p) (wbD T.C_Web T.C_Bar (n : Int) bs (normH hl)) u := wb_del iu hz4
      have hT4 : Tabs [(P0, qL)] H4 := hT3.ext e4
      have hq4 := e4 _ _ hq3
      have hn3 := ok.n3
      have hn10 := ok.n10
      simp only [List.set_cons_succ, List.set_cons_zero]
      clear im iu e4 hq3 hT3 hw3 e3 hq2' hT2 hw2 e2 hp hT1 hq1
      refine ⟨5, rfl, by decide, by decide, ?_⟩
      refine for_range (lo := 0) (n := 5) (fun i σ H' => WellAt H' p ∧ Is K (del H' p) (mD (n : Int) hl bs) (.ref M) ∧ Is K (del H' p) (wbD T.C_Web T.C_Bar (n : Int) bs (normH hl)) u ∧ H' q2 = some (.lst (cutV (ns.map V.int ++ [.int 0]) none (some 6))) ∧ Tabs [(P0, qL)] H' ∧ ∃ v5 v6 v7 v8 v9 v10 v11 v12 : Option V, σ = [some (.ref a), some (.int c), some (.ref p), some (.ref M), some u, v5, v6, v7, v8, v9, v10, v11, v12])
        ⟨hw4, im4, iu4, hq4, hT4, v5, v6, v7, v8, v9, v10, v11, v12, rfl⟩ ?_ ?_
      · clear hw4 im4 iu4 hq4 hT4 hz4
        rintro turn σ H1 hturn ⟨hw1, im1, iu1, hq1, hT1, w5, w6, w7, w8, w9, w10, w11, w12, rfl⟩
        simp only [List.set_cons_succ, List.set_cons_zero]
        -- share
        refine ⟨_, rfl, _, _, rfl, rfl, cpow9, by show 5 ≤ sizeLine; decide, fun L hL => ?_⟩
        have hLp : L ≠ p := hw1.ne hL
        refine ⟨p, L, _, rfl, hw1.ext (Ext.upd hL), SqL.of (by rw [del_ne hLp]; exact upd_same), by show 0 < 5; decide, by show 5 < 1000000; decide, fun x H2 hx e2 hw2 => ?_⟩
        obtain ⟨sh, rfl, s1, s2⟩ : ∃ sh : Int, x = .int sh ∧ 1 ≤ sh ∧ sh ≤ 10 ^ 9 := by
          simp only [List.mem_cons, List.not_mem_nil, or_false] at hx
          rcases hx with rfl | rfl | rfl | rfl | rfl
          all_goals exact ⟨_, rfl, by decide, by decide⟩
        have e12 : DE p H1 H2 := Ext.trans (DE.of (Ext.upd hL)) e2
        have im2 := im1.ext e12
        have iu2 := iu1.ext e12
        have hq2 := e12.to hq1 hqp
        have hT2 : Tabs [(P0, qL)] H2 := by
          obtain ⟨za, zb, zc, hz⟩ := id hw1
          exact tabs_de hT1 hz e12
        obtain ⟨M', hd, bl, ws, eM, hM, hhd, _, _⟩ := m_of (im2.ext del_ext)
        cases eM
        clear hx e2 e12 hw1 im1 iu1 hq1 hT1 hL hLp
        simp only [List.set_cons_succ, List.set_cons_zero]
        -- tops
        refine ⟨_, rfl, M, _, rfl, g_rods hM, (n : Int), rfl, by omega, by omega, fun D hD => ?_⟩
        have hDp : D ≠ p := hw2.ne hD
        have hD0 : del H2 p D = none := by rw [del_ne hDp]; exact hD
        refine lc_range (lo := 0) (n := n) (fun i H' => ∃ ts : List Int, ts.length = i ∧ (∀ x ∈ ts, x.natAbs ≤ 2 ^ 55) ∧ H' D = some (.lst (ts.map V.int)) ∧ DE p H2 H' ∧ WellAt H' p)
          ⟨[], rfl, (fun x hx => by cases hx), upd_same, DE.of (Ext.upd hD), hw2.ext (Ext.upd hD)⟩ ?_ ?_
        · rintro i H3 hi ⟨ts, hlen, hb, hD3, e3, hw3⟩
          refine ⟨rfl, tyes ?_⟩
          refine ⟨_, rfl, _, rfl, p, rfl, hw3, fun h H4 e4 hw4 h0 h1 => ?_⟩
          refine ⟨_, _, rfl, rfl, .inl ⟨by omega, by omega⟩, ?_⟩
          refine ⟨_, rfl, _, rfl, p, _, rfl, hw4, by omega, by omega, fun r H5 e5 hw5 r0 r1 => ?_⟩
          refine ⟨_, _, rfl, rfl, ?_⟩
          refine ⟨ts.map V.int, e5.to (e4.to hD3 hDp) hDp, ?_, ts ++ [sh * h + r], by rw [List.length_append, hlen] <;> rfl, fun z hz => ?_, by rw [upd_same, List.map_append]; rfl, DE.mut (Ext.trans (Ext.trans e3 e4) e5) hD0, hw5.upd hDp⟩
          · rw [List.length_map, hlen]
            exact Nat.lt_of_lt_of_le (show i < 100 by omega) (by decide)
          · rcases List.mem_append.mp hz with h' | h'
            · exact hb z h'
            · rw [List.mem_singleton.mp h']
              exact topB s1 s2 h0 h1 r0 r1
        rintro H3 ⟨ts, hlen, hb, hD3, e3, hw3⟩
        have S3 : StX T [(P0, qL)] p q2 M D u n hl bs (cutV (ns.map V.int ++ [.int 0]) none (some 6)) ts H3 := StX.start hw2 im2 iu2 hq2 hqp hT2 hD e3 hw3 hD3
        clear hw3 hD3 e3 hD0 hDp hD hM hhd hw2 im2 iu2 hq2 hT2
        simp only [List.set_cons_succ, List.set_cons_zero]
        -- all alike, now and then
        refine ⟨_, rfl, p, _, rfl, S3.well, by decide, by decide, fun r3 H4 e4 hw4 _ _ => ?_⟩
        have S4 := S3.de e4 hw4
        refine ⟨rfl, _, rfl, ?_⟩
        refine if_join (fun σ H => ∃ (tp : Addr) (ts : List Int) (v8 : Option V), StX T [(P0, qL)] p q2 M tp u n hl bs (cutV (ns.map V.int ++ [.int 0]) none (some 6)) ts H ∧ ts.length = n ∧ (∀ x ∈ ts, x.natAbs ≤ 2 ^ 55) ∧ σ = [some (.ref a), some (.int c), some (.ref p), some (.ref M), some u, some (.int (0 + (turn : Int))), some (.int sh), some (.ref tp), v8, w9, w10, w11, w12]) ?_ (fun _ hN => ?_) (fun _ => ⟨D, ts, _, S4, hlen, hb, rfl⟩)
        · clear S4 hw4 e4 S3 hlen hb ts
          rintro σ H4 ⟨tp, ts, v8, S, hlen, hb, rfl⟩
          obtain ⟨M', hd, bl, ws, eM, hM, hhd, _, _⟩ := m_of S.mH
          cases eM
          have hMd : M ≠ hd := m_hd hM hhd
          have htd : tp ≠ hd := fun z => by
            have := S.ht
            rw [z, hhd] at this
            cases this
          have hhk : (hK hl).length = hl.length := by unfold hK; rw [List.length_map]
          -- the held rods
          refine ⟨hd, _, hhd, trivial, fun od => ?_⟩
          refine ⟨_, rfl, M, _, rfl, g_held (by rw [upd_ne hMd]; exact hM), hd, od, rfl, .inl ⟨hK hl, upd_same, ?_⟩⟩
          refine for_it walk_keys (fun j σ H' => H' hd = some (.frz od (.dK (hK hl))) ∧ H' M = some (.dK (mV (n : Int) hd bl)) ∧ ∃ (ts : List Int) (v8 : Option V), StX T [(P0, qL)] p q2 M tp u n hl bs (cutV (ns.map V.int ++ [.int 0]) none (some 6)) ts (upd H' hd (.dK (hK hl))) ∧ ts.length = n ∧ (∀ x ∈ ts, x.natAbs ≤ 2 ^ 55) ∧ σ = [some (.ref a), some (.int c), some (.ref p), some (.ref M), some u, some (.int (0 + (turn : Int))), some (.int sh), some (.ref tp), v8, w9, w10, w11, w12])
            ⟨upd_same, by rw [upd_ne hMd]; exact hM, ts, v8, by rw [upd_back hhd]; exact S, hlen, hb, rfl⟩ (fun j σ H' _ z => z.1) ?_ ?_
          · rintro j y σ H5 H5' hj ⟨hf5, hM5, ts, v8, S5, hlen, hb, rfl⟩ ⟨rfl, ky, vy, hky, rfl⟩
            rw [hhk] at hj
            obtain ⟨⟨r, hv⟩, hr'⟩ : ∃ q, hl[j]? = some q := ⟨_, List.getElem?_eq_getElem hj⟩
            unfold hK at hky
            rw [List.getElem?_map, hr'] at hky
            cases hky
            have hrm : r ∈ hl.map (·.1) := List.mem_map.mpr ⟨_, List.mem_of_getElem? hr', rfl⟩
            obtain ⟨⟨r0, r1⟩, b0, b1⟩ := ok.keys _ (look_mem hrm)
            dsimp only at r0 r1 b0 b1
            have ht5 : H5' tp = some (.lst (ts.map V.int)) := by
              have := S5.ht
              rw [upd_ne htd] at this
              exact this
            refine ⟨_, rfl, _, rfl, M, _, rfl, g_held hM5, ?_⟩
            refine ⟨_, rfl, hd, _, rfl, .inl ⟨hK hl, Sum.inl r, .inr ⟨od, hf5⟩, rfl, (val_hK hrm).symm⟩, _, _, rfl, rfl, .inl ⟨by omega, by omega⟩, ?_⟩
            refine ⟨_, rfl, _, rfl, tp, _, _, r.toNat, rfl, rfl, ht5, by rw [List.length_map]; exact ixN_of r0 (by omega), ?_⟩
            rw [← List.map_set]
            refine ⟨by rw [upd_ne (fun z => htd z.symm)]; exact hf5, by rw [upd_ne (fun z => by rw [z, ht5] at hM5; cases hM5)]; exact hM5, ts.set r.toNat (sh * lookI hl r), _, ?_, by rw [List.length_set]; exact hlen, fun x hx => ?_, rfl⟩
            · rw [upd_swap (fun z => htd z.symm)]
              exact S5.mut
            · rcases List.mem_or_eq_of_mem_set hx with h' | h'
              · exact hb x h'
              · rw [h']
                have := topB s1 s2 b0 b1 (Int.le_refl 0) (by omega)
                rwa [Int.add_zero] at this
          rintro σ H5 ⟨hf5, _, ts, v8, S5, hlen, hb, rfl⟩
          refine ⟨hf5, ?_⟩
          generalize upd H5 hd (.dK (hK hl)) = H6 at S5 ⊢
          clear hf5 hhk htd hMd hhd hM
          -- changes, now and then
          refine ⟨_, rfl, p, _, rfl, S5.well, by decide, by decide, fun r4 H7 e7 hw7 r40 r41 => ?_⟩
          have S7 := S5.de e7 hw7
          refine ⟨_, rfl, _, _, rfl, rfl, .inr ⟨_, rfl, ?_⟩⟩
          obtain ⟨tw, htw, tw0, tw1⟩ : ∃ tw : Int, (if decide (2 < (0 + (turn : Int))) = true then (1 : Int) else 0) = tw ∧ 0 ≤ tw ∧ tw ≤ 1 := ⟨_, rfl, by split <;> decide, by split <;> decide⟩
          have rt0 : 0 ≤ r4 * tw := Int.mul_nonneg r40 tw0
          have rt1 : r4 * tw ≤ 2 * 1 := Int.mul_le_mul (by omega) tw1 tw0 (by decide)
          refine ⟨_, _, rfl, rfl, .inl ⟨by omega, by omega⟩, ?_⟩
          refine ⟨_, rfl, by rw [htw]; omega, by rw [htw]; omega, ?_⟩
          rw [htw]
          refine for_range (lo := 0) (n := (r4 * tw).toNat) (fun i σ H => ∃ (tp : Addr) (ts : List Int) (sh : Int) (v8 v9 v10 : Option V), StX T [(P0, qL)] p q2 M tp u n hl bs (cutV (ns.map V.int ++ [.int 0]) none (some 6)) ts H ∧ ts.length ≤ n + i ∧ (∀ x ∈ ts, x.natAbs ≤ 2 ^ 55) ∧ sh.natAbs ≤ 10 ^ 9 ∧ σ = [some (.ref a), some (.int c), some (.ref p), some (.ref M), some u, some (.int (0 + (turn : Int))), some (.int sh), some (.ref tp), v8, v9, v10, w11, w12])
            ⟨tp, ts, sh, _, _, _, S7, by omega, hb, by omega, rfl⟩ ?_ ?_
          · clear S7 hw7 e7 S5 hlen hb ts
            rintro i σ H8 hi ⟨tp, ts, sh, v8, v9, v10, S8, hlen, hb, hsh, rfl⟩
            have hi2 : i < 2 := by omega
            simp only [List.set_cons_succ, List.set_cons_zero]
            refine ⟨_, rfl, p, _, rfl, S8.well, by decide, by decide, fun way H9 e9 hw9 y0 y1 => ?_⟩
            have S9 := S8.de e9 hw9
            simp only [List.set_cons_succ, List.set_cons_zero]
            clear S8 e9 hw9
            refine ⟨_, rfl, rfl, _, rfl, ?_⟩
            refine if_join (fun σ H => ∃ (tp : Addr) (ts : List Int) (sh : Int) (v8 v9 v10 : Option V), StX T [(P0, qL)] p q2 M tp u n hl bs (cutV (ns.map V.int ++ [.int 0]) none (some 6)) ts H ∧ ts.length ≤ n + i ∧ (∀ x ∈ ts, x.natAbs ≤ 2 ^ 55) ∧ sh.natAbs ≤ 10 ^ 9 ∧ σ = [some (.ref a), some (.int c), some (.ref p), some (.ref M), some u, some (.int (0 + (turn : Int))), some (.int sh), some (.ref tp), v8, v9, some (.int way), w11, w12]) ?_ (fun _ hN => ?_) (fun _ => ⟨tp, ts, sh, _, _, none, S9, hlen, hb, hsh, rfl⟩)
            · clear S9 hlen hb hsh tp ts sh
              rintro σ H10 ⟨tp, ts, sh, v8, v9, _, S9, hlen, hb, hsh, rfl⟩
              refine ⟨_, rfl, rfl, _, rfl, ?_⟩
              refine if_join (fun σ H => ∃ (tp : Addr) (ts : List Int) (sh : Int) (v8 v9 v10 : Option V), StX T [(P0, qL)] p q2 M tp u n hl bs (cutV (ns.map V.int ++ [.int 0]) none (some 6)) ts H ∧ ts.length ≤ n + (i + 1) ∧ (∀ x ∈ ts, x.natAbs ≤ 2 ^ 55) ∧ sh.natAbs ≤ 10 ^ 9 ∧ σ = [some (.ref a), some (.int c), some (.ref p), some (.ref M), some u, some (.int (0 + (turn : Int))), some (.int sh), some (.ref tp), v8, v9, some (.int way), w11, w12]) ?_ (fun _ hN => ?_) (fun _ => ⟨tp, ts, sh, _, _, none, S9, by omega, hb, hsh, rfl⟩)
              · clear S9 hlen hb hsh tp ts sh
                rintro σ H11 ⟨tp, ts, sh, v8, v9, _, S9, hlen, hb, hsh, rfl⟩
                refine ⟨_, rfl, rfl, _, rfl, ?_⟩
                refine if_join (fun σ H => ∃ (tp : Addr) (ts : List Int) (sh : Int) (v8 v9 v10 : Option V), StX T [(P0, qL)] p q2 M tp u n hl bs (cutV (ns.map V.int ++ [.int 0]) none (some 6)) ts H ∧ ts.length ≤ n + (i + 1) ∧ (∀ x ∈ ts, x.natAbs ≤ 2 ^ 55) ∧ sh.natAbs ≤ 10 ^ 9 ∧ σ = [some (.ref a), some (.int c), some (.ref p), some (.ref M), some u, some (.int (0 + (turn : Int))), some (.int sh), some (.ref tp), v8, v9, some (.int way), w11, w12]) ?_ (fun _ hN => ?_) (fun _ => ⟨tp, ts, sh, _, _, none, S9, by omega, hb, hsh, rfl⟩)
                · clear S9 hlen hb hsh tp ts sh
                  rintro σ H12 ⟨tp, ts, sh, v8, v9, _, S9, hlen, hb, hsh, rfl⟩
                  refine ⟨_, rfl, rfl, _, rfl, ite2 (fun cw => ?_) (fun cw => iteF ⟨tp, ts, sh, _, _, _, S9, hlen, hb, hsh, rfl⟩)⟩
                  refine ⟨_, rfl, by show 0 ≤ sizeLine; decide, fun z hz => ?_⟩
                  refine ⟨.lst (ts.map Dt.int), .lst [], is_lst (Ext.upd hz _ _ S9.ht) (isL_ints _), is_lst upd_same rfl, okL_pure (pureL_ints _), trivial, by show depL _ + 1 ≤ 8; rw [depL_ints]; decide, .inl rfl, fun H13 e13 => ?_⟩
                  have S13 := (S9.ext (Ext.upd hz)).ext e13
                  cases hts : ts with
                  | nil =>
                    refine ⟨false, rfl, iteF ?_⟩
                    exact ⟨tp, ts, sh, _, _, _, S13, hlen, hb, hsh, rfl⟩
                  | cons x0 rest =>
                    refine ⟨true, rfl, iteT ?_⟩
                    have hpos : 0 < ts.length := by rw [hts]; exact Nat.succ_pos _
                    refine ⟨_, rfl, _, rfl, _, rfl, tp, _, rfl, .inl (SqL.of S13.ht), p, _, rfl, S13.well, by rw [List.length_map]; omega, by rw [List.length_map]; omega, fun r5 H14 e14 hw14 r50 r51 => ?_⟩
                    rw [List.length_map] at r51
                    have S14 := S13.de e14 hw14
                    refine ⟨tp, _, _, r5.toNat, rfl, rfl, S14.ht, by rw [List.length_map]; exact ixN_of r50 r51, ?_⟩
                    rw [← List.map_set]
                    refine ⟨tp, ts.set r5.toNat 3, sh, _, _, _, S14.mut, by rw [List.length_set]; exact hlen, fun x hx => ?_, hsh, rfl⟩
                    rcases List.mem_or_eq_of_mem_set hx with h' | h'
                    · exact hb x h'
                    · rw [h']; decide
                · obtain ⟨ks, hks, hkl, hkb⟩ := cut_ints ts none (some (-1))
                  refine ⟨_, rfl, _, rfl, _, rfl, tp, _, rfl, SqL.of S9.ht, fun q1 h1 => ?_⟩
                  exact hN _ _ ⟨q1, ks, sh, _, _, none, S9.new h1 (Ext.upd h1) (by rw [upd_same, hks]), by omega, fun x hx => hb x (hkb x hx), hsh, rfl⟩
              · refine ⟨_, rfl, by show 1 ≤ sizeLine; decide, fun q1 h1 => ?_⟩
                refine ⟨tp, q1, _, _, rfl, rfl, SqL.of (Ext.upd h1 _ _ S9.ht), SqL.of upd_same, by rw [List.length_map]; exact Nat.le_trans (show ts.length + 1 ≤ 100 by omega) (by decide), fun q2' h2 => ?_⟩
                refine hN _ _ ⟨q2', ts ++ [0], sh, _, _, none, S9.new ((Ext.upd h1).fresh h2) ((Ext.upd h1).trans (Ext.upd h2)) (by rw [upd_same, List.map_append]; rfl), by rw [List.length_append]; show ts.length + 1 ≤ _; omega, fun x hx => ?_, hsh, rfl⟩
                rcases List.mem_append.mp hx with h' | h'
                · exact hb x h'
                · rw [List.mem_singleton.mp h']; decide
            · refine ⟨_, rfl, _, rfl, _, rfl, by show 3 ≤ sizeLine; decide, fun L hL => ?_⟩
              have hLp : L ≠ p := S9.well.ne hL
              refine ⟨p, L, _, rfl, S9.well.ext (Ext.upd hL), SqL.of (by rw [del_ne hLp]; exact upd_same), by show 0 < 3; decide, by show 3 < 1000000; decide, fun x H10 hx e10 hw10 => ?_⟩
              obtain ⟨z, rfl, hz⟩ : ∃ z : Int, x = .int z ∧ z.natAbs ≤ 10 ^ 9 := by
                simp only [List.mem_cons, List.not_mem_nil, or_false] at hx
                rcases hx with rfl | rfl | rfl
                all_goals exact ⟨_, rfl, by decide⟩
              exact hN _ _ ⟨tp, ts, z, _, _, none, (S9.ext (Ext.upd hL)).de e10 hw10, hlen, hb, hz, rfl⟩
          · rintro σ H8 ⟨tp, ts, sh, v8, v9, v10, S8, hlen, hb, hsh, rfl⟩
            clear S7 hw7 e7 S5
            have tsm : ∀ x ∈ ts, x.natAbs < 2 ^ 60 := fun x hx => Nat.lt_of_le_of_lt (hb x hx) (by decide)
            have tl : ts.length ≤ 100 := by omega
            -- kept, due
            refine ⟨_, rfl, tp, _, rfl, .inl (SqL.of S8.ht), fun kp hkp => ?_⟩
            have S9 := S8.ext (Ext.upd (o := HO.lst (ts.map V.int)) hkp)
            have hk9 : (upd H8 kp (.lst (ts.map V.int))) kp = some (.lst (ts.map V.int)) := upd_same
            generalize upd H8 kp (.lst (ts.map V.int)) = H9 at S9 hk9 ⊢
            clear S8 hkp
            simp only [List.set_cons_succ, List.set_cons_zero]
            refine ⟨_, rfl, _, rfl, _, rfl, .ref M, tp, n, hl, bs, ts, sh, rfl, S9.mH, SqL.of S9.ht, ok, hsh, tsm, tl, fun du H10 e10 hdu => ?_⟩
            have S10 := S9.ext e10
            have hk10 := e10 _ _ hk9
            simp only [List.set_cons_succ, List.set_cons_zero]
            clear S9 e10 hk9
            -- the first question
            refine ⟨S10.tb, fun H11 e11 hT11 => ?_⟩
            have S11 := S10.lam e11 hT11
            have hk11 := e11 _ _ hk10 (fun _ z => by cases z)
            have hdu11 := Is.extN e11 hdu
            clear S10 hk10 e11 hT11
            intro p0 hp0
            have S12 := S11.ext (Ext.upd (o := HO.tup [.str "other", .non]) hp0)
            refine ⟨_, rfl, _, rfl, _, rfl, rfl, rfl, said_led T S12.uH (.inl (SqL.of S12.ht)) ok hsh tsm fun v H13 e13 iv => ?_⟩
            have S13 := S12.ext e13
            have hk13 := e13 _ _ (Ext.upd (o := HO.tup [.str "other", .non]) hp0 _ _ hk11)
            have hdu13 := (hdu11.ext (Ext.upd (o := HO.tup [.str "other", .non]) hp0)).ext e13
            obtain ⟨ao, ad, ae⟩ := ans_ok (shp := fun _ _ _ => False) bs ts (ckHt n hl ts sh)
            refine ⟨_, rfl, _, _, iv, hdu13, ao, ao, ad, .inl rfl, fun H14 e14 => ?_⟩
            refine ⟨false, by rw [ae]; rfl, iteF ?_⟩
            have S14 := S13.ext e14
            refine ⟨_, rfl, _, rfl, .lst (ts.map Dt.int), .lst (ts.map Dt.int), is_lst S14.ht (isL_ints _), is_lst (e14 _ _ hk13) (isL_ints _), okL_pure (pureL_ints _), okL_pure (pureL_ints _), by show depL _ + 1 ≤ 8; rw [depL_ints]; decide, .inl rfl, fun H15 e15 => ?_⟩
            refine ⟨false, ?_, iteF ?_⟩
            · show V.bl (!(deqL (ts.map Dt.int) (ts.map Dt.int))) = V.bl false
              rw [deqL_ints]
              simp
            have S15 := S14.ext e15
            clear S14 e15 hdu13 hk13 S13 e14 e13 iv S12 hp0 hdu11 hk11 S11 hdu
            -- the second question
            refine tn_join' (fun σ H => StX T [(P0, qL)] p q2 M tp u n hl bs (cutV (ns.map V.int ++ [.int 0]) none (some 6)) ts H ∧ σ = [some (.ref a), some (.int c), some (.ref p), some (.ref M), some u, some (.int (0 + (turn : Int))), some (.int sh), some (.ref tp), v8, v9, v10, some (.ref kp), some du]) ?_ (fun hN => ?_)
            · clear S15
              rintro σ H15 ⟨S15, rfl⟩
              -- heights moved
              refine ⟨_, rfl, tp, _, rfl, .inl (SqL.of S15.ht), _, rfl, by rw [List.length_map]; omega, by rw [List.length_map]; omega, ?_⟩
              rw [List.length_map]
              refine for_range (lo := 0) (n := ts.length) (fun i σ H => ∃ (ts' : List Int) (v8 : Option V), StX T [(P0, qL)] p q2 M tp u n hl bs (cutV (ns.map V.int ++ [.int 0]) none (some 6)) ts' H ∧ ts'.length = ts.length ∧ (∀ x ∈ ts', x.natAbs ≤ 2 ^ 55 + 3 * i) ∧ σ = [some (.ref a), some (.int c), some (.ref p), some (.ref M), some u, some (.int (0 + (turn : Int))), some (.int sh), some (.ref tp), v8, v9, v10, some (.ref kp), some du])
                ⟨ts, v8, S15, rfl, fun x hx => by have := hb x hx; omega, rfl⟩ ?_ ?_
              · clear S15
                rintro i σ H16 hi ⟨ts', v8, S16, hl6, hb6, rfl⟩
                obtain ⟨M', hd, bl, ws, eM, hM, hhd, _, _⟩ := m_of S16.mH
                cases eM
                simp only [List.set_cons_succ, List.set_cons_zero]
                obtain ⟨x0, hx0⟩ : ∃ x0, ts'[i]? = some x0 := ⟨_, List.getElem?_eq_getElem (show i < ts'.length by omega)⟩
                have hb0 := hb6 x0 (List.mem_of_getElem? hx0)
                refine ⟨_, rfl, _, rfl, M, _, rfl, g_held hM, hd, valV (hK hl) (Sum.inl (0 + (i : Int))), rfl, DGet.k (k := Sum.inl (0 + (i : Int))) hhd, _, rfl, ite2 (fun cc => ?_) (fun cc => ⟨ts', _, S16, hl6, fun x hx => by have := hb6 x hx; omega, rfl⟩)⟩
                refine ⟨_, rfl, _, rfl, tp, _, _, _, rfl, rfl, SqL.of S16.ht, (by rw [Int.zero_add]; exact atI_nat (by rw [List.getElem?_map, hx0]; rfl)), _, _, rfl, rfl, _, rfl, p, _, rfl, S16.well, by decide, by decide, fun r H17 e17 hw17 r0 r1 => ?_⟩
                have S17 := S16.de e17 hw17
                refine ⟨_, _, rfl, rfl, _, rfl, _, rfl, tp, _, _, i, rfl, rfl, S17.ht, by rw [List.length_map, Int.zero_add, ixN_of (by omega) (by omega)]; rfl, ?_⟩
                rw [← List.map_set]
                refine ⟨ts'.set i (x0 + 1 + r), _, S17.mut, by rw [List.length_set]; exact hl6, fun x hx => ?_, rfl⟩
                rcases List.mem_or_eq_of_mem_set hx with h' | h'
                · have := hb6 x h'; omega
                · rw [h']; omega
              · rintro σ H16 ⟨ts', v8, S16, hl6, hb6, rfl⟩
                have tsm' : ∀ x ∈ ts', x.natAbs < 2 ^ 60 := fun x hx => by have := hb6 x hx; omega
                refine ⟨S16.tb, fun H17 e17 hT17 => ?_⟩
                have S17 := S16.lam e17 hT17
                intro p0 hp0
                have S18 := S17.ext (Ext.upd (o := HO.tup [.str "other", .non]) hp0)
                refine ⟨_, rfl, _, rfl, _, rfl, rfl, rfl, said_led T S18.uH (.inl (SqL.of S18.ht)) ok hsh tsm' fun v H19 e19 iv => ?_⟩
                have S19 := S18.ext e19
                obtain ⟨ao, ad, ae⟩ := ans_ok (shp := fun _ _ _ => False) bs ts' (ckHt n hl ts' sh)
                refine ⟨_, rfl, _, rfl, _, rfl, .ref M, tp, n, hl, bs, ts', sh, rfl, S19.mH, SqL.of S19.ht, ok, hsh, tsm', by omega, fun dv H20 e20 idv => ?_⟩
                have S20 := S19.ext e20
                refine ⟨_, _, iv.ext e20, idv, ao, ao, ad, .inl rfl, fun H21 e21 => ?_⟩
                have S21 := S20.ext e21
                refine ⟨false, by rw [ae]; rfl, iteF ?_⟩
                exact ⟨S21.well, S21.mP, S21.uP, S21.qH, S21.tb, _, _, _, _, _, _, _, _, rfl⟩
            · refine ⟨_, rfl, rfl, _, rfl, ite2 (fun c1 => ?_) (fun c1 => iteF (hN _ _ ⟨S15, rfl⟩))⟩
              refine ⟨S15.tb, fun H16 e16 hT16 => ?_⟩
              have S16 := S15.lam e16 hT16
              intro p0 hp0
              have S17 := S16.ext (Ext.upd (o := HO.tup [.str "other", .non]) hp0)
              refine ⟨_, rfl, _, rfl, tp, _, rfl, .inl ⟨SqL.of S17.ht, fun t1 ht1 => ?_⟩⟩
              have S18 := S17.ext (Ext.upd (o := HO.tup (ts.map V.int)) ht1)
              refine said_led T S18.uH (.inr (SqT.of upd_same)) ok (by decide) tsm fun v H19 e19 iv => ?_
              have S19 := S18.ext e19
              obtain ⟨ao, ad, ae⟩ := ans_ok (shp := fun _ _ _ => False) bs ts (ckHt n hl ts 1)
              refine ⟨_, rfl, _, rfl, .ref M, tp, n, hl, bs, ts, 1, rfl, S19.mH, SqL.of S19.ht, ok, by decide, tsm, tl, fun dv H20 e20 idv => ?_⟩
              have S20 := S19.ext e20
              refine ⟨_, _, iv.ext e20, idv, ao, ao, ad, .inl rfl, fun H21 e21 => ?_⟩
              refine ⟨false, by rw [ae]; rfl, iteF ?_⟩
              exact hN _ _ ⟨S20.ext e21, rfl⟩
        · obtain ⟨M', hd, bl, ws, eM, hM, hhd, _, _⟩ := m_of S4.mH
          cases eM
          refine ⟨_, rfl, M, _, rfl, g_rods hM, (n : Int), rfl, by omega, by omega, fun E' hE => ?_⟩
          have hEp : E' ≠ p := S4.well.ne hE
          have hE0 : del H4 p E' = none := by rw [del_ne hEp]; exact hE
          obtain ⟨x0, hx0⟩ : ∃ x0, ts[0]? = some x0 := ⟨_, List.getElem?_eq_getElem (show 0 < ts.length by omega)⟩
          obtain ⟨x1, hx1⟩ : ∃ x1, ts[ts.length - 1]? = some x1 := ⟨_, List.getElem?_eq_getElem (show ts.length - 1 < ts.length by omega)⟩
          refine lc_range (lo := 0) (n := n) (fun i H' => ∃ ns : List Int, ns.length = i ∧ (∀ x ∈ ns, x.natAbs ≤ 2 ^ 55) ∧ H' E' = some (.lst (ns.map V.int)) ∧ DE p H4 H' ∧ WellAt H' p)
            ⟨[], rfl, (fun x hx => by cases hx), upd_same, DE.of (Ext.upd hE), S4.well.ext (Ext.upd hE)⟩ ?_ ?_
          · rintro i H5 hi ⟨ns', hl5, hb5, hE5, e5, hw5⟩
            have hD5 := e5.to S4.ht S4.np
            refine ⟨rfl, tyes ?_⟩
            refine ⟨_, rfl, _, rfl, D, _, 0, _, rfl, rfl, SqL.of hD5, atI_nat (j := 0) (by rw [List.getElem?_map, hx0]; rfl), ?_⟩
            refine ⟨_, rfl, _, rfl, D, _, _, _, rfl, rfl, SqL.of hD5, atI_end (by rw [List.length_map]; omega) (by rw [List.length_map, List.getElem?_map, hx1]; rfl), by show 2 ≤ sizeLine; decide, fun L hL => ?_⟩
            have hLp : L ≠ p := hw5.ne hL
            refine ⟨p, L, _, rfl, hw5.ext (Ext.upd hL), SqL.of (by rw [del_ne hLp]; exact upd_same), by show 0 < 2; decide, by show 2 < 1000000; decide, fun x H6 hx e6 hw6 => ?_⟩
            have e56 : DE p H5 H6 := Ext.trans (DE.of (Ext.upd hL)) e6
            obtain ⟨z, rfl, hz⟩ : ∃ z : Int, x = .int z ∧ z.natAbs ≤ 2 ^ 55 := by
              simp only [List.mem_cons, List.not_mem_nil, or_false] at hx
              rcases hx with rfl | rfl
              · exact ⟨_, rfl, hb _ (List.mem_of_getElem? hx0)⟩
              · exact ⟨_, rfl, hb _ (List.mem_of_getElem? hx1)⟩
            refine ⟨ns'.map V.int, e56.to hE5 hEp, ?_, ns' ++ [z], by rw [List.length_append, hl5] <;> rfl, fun y hy => ?_, by rw [upd_same, List.map_append]; rfl, DE.mut (Ext.trans e5 e56) hE0, hw6.upd hEp⟩
            · rw [List.length_map, hl5]
              exact Nat.lt_of_lt_of_le (show i < 100 by omega) (by decide)
            · rcases List.mem_append.mp hy with h' | h'
              · exact hb5 y h'
              · rw [List.mem_singleton.mp h']
                exact hz
          rintro H5 ⟨ns', hl5, hb5, hE5, e5, hw5⟩
          exact hN _ _ ⟨E', ns', _, S4.newD hE e5 hw5 hE5, hl5, hb5, rfl⟩
      · rintro σ H' ⟨hw1, im1, iu1, hq1, hT1, w5, w6, w7, w8, w9, w10, w11, w12, rfl⟩
        exact ⟨hq1, hT1, _, _, _, _, _, _, _, _, _, _, _, _, rfl⟩
    · rintro σ H' ⟨_, _, v1, v2, v3, v4, v5, v6, v7, v8, v9, v10, v11, v12, rfl⟩
      exact k H'
end
end K07
namespace K07
open PySem L2
def mk_tx {K : PySem.W.Frag} {h : Heap} {mg : Str → Option Value} (X : K.In h) (G : h.Ns mainGlobals mg)
    {a_divisor : Addr} {od_divisor an_divisor : Option Addr} {sl_divisor : Array (Option Value)} {oc_divisor kV_divisor dc_divisor pm_divisor cd_divisor ct_divisor : Value} {a_lowest : Addr} {od_lowest an_lowest : Option Addr} {sl_lowest : Array (Option Value)} {oc_lowest kV_lowest dc_lowest pm_lowest cd_lowest ct_lowest : Value} {a_fraction : Addr} {od_fraction an_fraction : Option Addr} {sl_fraction : Array (Option Value)} {oc_fraction kV_fraction dc_fraction pm_fraction cd_fraction ct_fraction : Value} {a_led : Addr} {od_led an_led : Option Addr} {sl_led : Array (Option Value)} {oc_led kV_led dc_led pm_led cd_led ct_led : Value} {a_check_heights : Addr} {od_check_heights an_check_heights : Option Addr} {sl_check_heights : Array (Option Value)} {oc_check_heights kV_check_heights dc_check_heights pm_check_heights cd_check_heights ct_check_heights : Value} {a_led_bar : Addr} {od_led_bar an_led_bar : Option Addr} {sl_led_bar : Array (Option Value)} {oc_led_bar kV_led_bar dc_led_bar pm_led_bar cd_led_bar ct_led_bar : Value} {a_check_rods : Addr} {od_check_rods an_check_rods : Option Addr} {sl_check_rods : Array (Option Value)} {oc_check_rods kV_check_rods dc_check_rods pm_check_rods cd_check_rods ct_check_rods : Value} {a_check_bars : Addr} {od_check_bars an_check_bars : Option Addr} {sl_check_bars : Array (Option Value)} {oc_check_bars kV_check_bars dc_check_bars pm_check_bars cd_check_bars ct_check_bars : Value} {a_check_bar : Addr} {od_check_bar an_check_bar : Option Addr} {sl_check_bar : Array (Option Value)} {oc_check_bar kV_check_bar dc_check_bar pm_check_bar cd_check_bar ct_check_bar : Value} {a_l_well : Addr} {od_l_well an_l_well : Option Addr} {sl_l_well : Array (Option Value)} {oc_l_well kV_l_well dc_l_well pm_l_well cd_l_well ct_l_well : Value} {a_l_draw : Addr} {od_l_draw an_l_draw : Option Addr} {sl_l_draw : Array (Option Value)} {oc_l_draw kV_l_draw dc_l_draw pm_l_draw cd_l_draw ct_l_draw : Value} {a_l_one : Addr} {od_l_one an_l_one : Option Addr} {sl_l_one : Array (Option Value)} {oc_l_one kV_l_one dc_l_one pm_l_one cd_l_one ct_l_one : Value} {a_l_mixed : Addr} {od_l_mixed an_l_mixed : Option Addr} {sl_l_mixed : Array (Option Value)} {oc_l_mixed kV_l_mixed dc_l_mixed pm_l_mixed cd_l_mixed ct_l_mixed : Value} {a_l_bar_fact : Addr} {od_l_bar_fact an_l_bar_fact : Option Addr} {sl_l_bar_fact : Array (Option Value)} {oc_l_bar_fact kV_l_bar_fact dc_l_bar_fact pm_l_bar_fact cd_l_bar_fact ct_l_bar_fact : Value} {a_l_any : Addr} {od_l_any an_l_any : Option Addr} {sl_l_any : Array (Option Value)} {oc_l_any kV_l_any dc_l_any pm_l_any cd_l_any ct_l_any : Value} {a_l_web : Addr} {od_l_web an_l_web : Option Addr} {sl_l_web : Array (Option Value)} {oc_l_web kV_l_web dc_l_web pm_l_web cd_l_web ct_l_web : Value} {a_l_common : Addr} {od_l_common an_l_common : Option Addr} {sl_l_common : Array (Option Value)} {oc_l_common kV_l_common dc_l_common pm_l_common cd_l_common ct_l_common : Value} {a_l_height : Addr} {od_l_height an_l_height : Option Addr} {sl_l_height : Array (Option Value)} {oc_l_height kV_l_height dc_l_height pm_l_height cd_l_height ct_l_height : Value} {a_l_seen : Addr} {od_l_seen an_l_seen : Option Addr} {sl_l_seen : Array (Option Value)} {oc_l_seen kV_l_seen dc_l_seen pm_l_seen cd_l_seen ct_l_seen : Value} {a_l_due : Addr} {od_l_due an_l_due : Option Addr} {sl_l_due : Array (Option Value)} {oc_l_due kV_l_due dc_l_due pm_l_due cd_l_due ct_l_due : Value} {a_l_said : Addr} {od_l_said an_l_said : Option Addr} {sl_l_said : Array (Option Value)} {oc_l_said kV_l_said dc_l_said pm_l_said cd_l_said ct_l_said : Value} {a_law : Addr} {od_law an_law : Option Addr} {sl_law : Array (Option Value)} {oc_law kV_law dc_law pm_law cd_law ct_law : Value} {C_Bar : Addr} {a_Bar_init : Addr} {od_Bar_init an_Bar_init : Option Addr} {sl_Bar_init : Array (Option Value)} {oc_Bar_init kV_Bar_init dc_Bar_init pm_Bar_init cd_Bar_init ct_Bar_init : Value} {a_Bar_eq : Addr} {od_Bar_eq an_Bar_eq : Option Addr} {sl_Bar_eq : Array (Option Value)} {oc_Bar_eq kV_Bar_eq dc_Bar_eq pm_Bar_eq cd_Bar_eq ct_Bar_eq : Value} {C_Web : Addr} {a_Web_init : Addr} {od_Web_init an_Web_init : Option Addr} {sl_Web_init : Array (Option Value)} {oc_Web_init kV_Web_init dc_Web_init pm_Web_init cd_Web_init ct_Web_init : Value} {a_Web_held : Addr} {od_Web_held an_Web_held : Option Addr} {sl_Web_held : Array (Option Value)} {oc_Web_held kV_Web_held dc_Web_held pm_Web_held cd_Web_held ct_Web_held : Value} {a_Web_hanging : Addr} {od_Web_hanging an_Web_hanging : Option Addr} {sl_Web_hanging : Array (Option Value)} {oc_Web_hanging kV_Web_hanging dc_Web_hanging pm_Web_hanging cd_Web_hanging ct_Web_hanging : Value} {a_Web_eq : Addr} {od_Web_eq an_Web_eq : Option Addr} {sl_Web_eq : Array (Option Value)} {oc_Web_eq kV_Web_eq dc_Web_eq pm_Web_eq cd_Web_eq ct_Web_eq : Value} {C_HooksError : Addr} {C_BadCount : Addr} {nm_BadCount q_BadCount : Str} {N_BadCount : Addr} {bs_BadCount : List Value} {sn_BadCount : List Str} {sub_BadCount : List Value} {ab_BadCount : Bool} {col_BadCount : Option Bool} {dd_BadCount : Option Addr} {u0_BadCount u1_BadCount u2_BadCount u3_BadCount u5_BadCount : Option Value} {a_BadCount_init : Addr} {od_BadCount_init an_BadCount_init : Option Addr} {sl_BadCount_init : Array (Option Value)} {oc_BadCount_init kV_BadCount_init dc_BadCount_init pm_BadCount_init cd_BadCount_init ct_BadCount_init : Value} {C_NoRod : Addr} {nm_NoRod q_NoRod : Str} {N_NoRod : Addr} {bs_NoRod : List Value} {sn_NoRod : List Str} {sub_NoRod : List Value} {ab_NoRod : Bool} {col_NoRod : Option Bool} {dd_NoRod : Option Addr} {u0_NoRod u1_NoRod u2_NoRod u3_NoRod u5_NoRod : Option Value} {a_NoRod_init : Addr} {od_NoRod_init an_NoRod_init : Option Addr} {sl_NoRod_init : Array (Option Value)} {oc_NoRod_init kV_NoRod_init dc_NoRod_init pm_NoRod_init cd_NoRod_init ct_NoRod_init : Value} {C_SameRod : Addr} {nm_SameRod q_SameRod : Str} {N_SameRod : Addr} {bs_SameRod : List Value} {sn_SameRod : List Str} {sub_SameRod : List Value} {ab_SameRod : Bool} {col_SameRod : Option Bool} {dd_SameRod : Option Addr} {u0_SameRod u1_SameRod u2_SameRod u3_SameRod u5_SameRod : Option Value} {a_SameRod_init : Addr} {od_SameRod_init an_SameRod_init : Option Addr} {sl_SameRod_init : Array (Option Value)} {oc_SameRod_init kV_SameRod_init dc_SameRod_init pm_SameRod_init cd_SameRod_init ct_SameRod_init : Value} {C_BadSpan : Addr} {nm_BadSpan q_BadSpan : Str} {N_BadSpan : Addr} {bs_BadSpan : List Value} {sn_BadSpan : List Str} {sub_BadSpan : List Value} {ab_BadSpan : Bool} {col_BadSpan : Option Bool} {dd_BadSpan : Option Addr} {u0_BadSpan u1_BadSpan u2_BadSpan u3_BadSpan u5_BadSpan : Option Value} {a_BadSpan_init : Addr} {od_BadSpan_init an_BadSpan_init : Option Addr} {sl_BadSpan_init : Array (Option Value)} {oc_BadSpan_init kV_BadSpan_init dc_BadSpan_init pm_BadSpan_init cd_BadSpan_init ct_BadSpan_init : Value} {C_NotSquare : Addr} {nm_NotSquare q_NotSquare : Str} {N_NotSquare : Addr} {bs_NotSquare : List Value} {sn_NotSquare : List Str} {sub_NotSquare : List Value} {ab_NotSquare : Bool} {col_NotSquare : Option Bool} {dd_NotSquare : Option Addr} {u0_NotSquare u1_NotSquare u2_NotSquare u3_NotSquare u5_NotSquare : Option Value} {a_NotSquare_init : Addr} {od_NotSquare_init an_NotSquare_init : Option Addr} {sl_NotSquare_init : Array (Option Value)} {oc_NotSquare_init kV_NotSquare_init dc_NotSquare_init pm_NotSquare_init cd_NotSquare_init ct_NotSquare_init : Value} {C_NotHeld : Addr} {nm_NotHeld q_NotHeld : Str} {N_NotHeld : Addr} {bs_NotHeld : List Value} {sn_NotHeld : List Str} {sub_NotHeld : List Value} {ab_NotHeld : Bool} {col_NotHeld : Option Bool} {dd_NotHeld : Option Addr} {u0_NotHeld u1_NotHeld u2_NotHeld u3_NotHeld u5_NotHeld : Option Value} {a_NotHeld_init : Addr} {od_NotHeld_init an_NotHeld_init : Option Addr} {sl_NotHeld_init : Array (Option Value)} {oc_NotHeld_init kV_NotHeld_init dc_NotHeld_init pm_NotHeld_init cd_NotHeld_init ct_NotHeld_init : Value} {t_LEAST_RODS : Tok} {t_MOST_RODS : Tok} {t_MOST_BARS : Tok} {t_MOST_HEIGHT : Tok} {t_MOST_LENGTH : Tok}
    (g_clsget : PySem.W.specialIn K (.builtin "object.__class__") "__get__" = some (some (.builtin "getset_descriptor.__get__")))
    (g_clstk : PySem.W.takesIn K (.builtin "object.__class__") = some true)
    (n_divisor : PySem.W.nsIn K mainGlobals "divisor" = some (some (.ref a_divisor)))
    (l_divisor : K.lookup a_divisor = some ⟨oc_divisor, od_divisor, .func (PySem.W.fnOf "divisor" "divisor" (defArgs s_divisor) (defBody s_divisor) (defScope s_divisor) .none kV_divisor dc_divisor pm_divisor an_divisor cd_divisor ct_divisor), sl_divisor⟩)
    (c_divisor : PySem.W.codeIn K cd_divisor "divisor" = true)
    (p_divisor : PySem.W.keepIn K (.ref a_divisor) = true)
    (n_lowest : PySem.W.nsIn K mainGlobals "lowest" = some (some (.ref a_lowest)))
    (l_lowest : K.lookup a_lowest = some ⟨oc_lowest, od_lowest, .func (PySem.W.fnOf "lowest" "lowest" (defArgs s_lowest) (defBody s_lowest) (defScope s_lowest) .none kV_lowest dc_lowest pm_lowest an_lowest cd_lowest ct_lowest), sl_lowest⟩)
    (c_lowest : PySem.W.codeIn K cd_lowest "lowest" = true)
    (p_lowest : PySem.W.keepIn K (.ref a_lowest) = true)
    (n_fraction : PySem.W.nsIn K mainGlobals "fraction" = some (some (.ref a_fraction)))
    (l_fraction : K.lookup a_fraction = some ⟨oc_fraction, od_fraction, .func (PySem.W.fnOf "fraction" "fraction" (defArgs s_fraction) (defBody s_fraction) (defScope s_fraction) .none kV_fraction dc_fraction pm_fraction an_fraction cd_fraction ct_fraction), sl_fraction⟩)
    (c_fraction : PySem.W.codeIn K cd_fraction "fraction" = true)
    (p_fraction : PySem.W.keepIn K (.ref a_fraction) = true)
    (n_led : PySem.W.nsIn K mainGlobals "led" = some (some (.ref a_led)))
    (l_led : K.lookup a_led = some ⟨oc_led, od_led, .func (PySem.W.fnOf "led" "led" (defArgs s_led) (defBody s_led) (defScope s_led) .none kV_led dc_led pm_led an_led cd_led ct_led), sl_led⟩)
    (c_led : PySem.W.codeIn K cd_led "led" = true)
    (p_led : PySem.W.keepIn K (.ref a_led) = true)
    (w_led : L2.KwdV K kV_led [("parts", L2.V.int 1)])
    (n_check_heights : PySem.W.nsIn K mainGlobals "_check_heights" = some (some (.ref a_check_heights)))
    (l_check_heights : K.lookup a_check_heights = some ⟨oc_check_heights, od_check_heights, .func (PySem.W.fnOf "_check_heights" "_check_heights" (defArgs s_check_heights) (defBody s_check_heights) (defScope s_check_heights) .none kV_check_heights dc_check_heights pm_check_heights an_check_heights cd_check_heights ct_check_heights), sl_check_heights⟩)
    (c_check_heights : PySem.W.codeIn K cd_check_heights "_check_heights" = true)
    (p_check_heights : PySem.W.keepIn K (.ref a_check_heights) = true)
    (n_led_bar : PySem.W.nsIn K mainGlobals "_led_bar" = some (some (.ref a_led_bar)))
    (l_led_bar : K.lookup a_led_bar = some ⟨oc_led_bar, od_led_bar, .func (PySem.W.fnOf "_led_bar" "_led_bar" (defArgs s_led_bar) (defBody s_led_bar) (defScope s_led_bar) .none kV_led_bar dc_led_bar pm_led_bar an_led_bar cd_led_bar ct_led_bar), sl_led_bar⟩)
    (c_led_bar : PySem.W.codeIn K cd_led_bar "_led_bar" = true)
    (p_led_bar : PySem.W.keepIn K (.ref a_led_bar) = true)
    (n_check_rods : PySem.W.nsIn K mainGlobals "_check_rods" = some (some (.ref a_check_rods)))
    (l_check_rods : K.lookup a_check_rods = some ⟨oc_check_rods, od_check_rods, .func (PySem.W.fnOf "_check_rods" "_check_rods" (defArgs s_check_rods) (defBody s_check_rods) (defScope s_check_rods) .none kV_check_rods dc_check_rods pm_check_rods an_check_rods cd_check_rods ct_check_rods), sl_check_rods⟩)
    (c_check_rods : PySem.W.codeIn K cd_check_rods "_check_rods" = true)
    (p_check_rods : PySem.W.keepIn K (.ref a_check_rods) = true)
    (n_check_bars : PySem.W.nsIn K mainGlobals "_check_bars" = some (some (.ref a_check_bars)))
    (l_check_bars : K.lookup a_check_bars = some ⟨oc_check_bars, od_check_bars, .func (PySem.W.fnOf "_check_bars" "_check_bars" (defArgs s_check_bars) (defBody s_check_bars) (defScope s_check_bars) .none kV_check_bars dc_check_bars pm_check_bars an_check_bars cd_check_bars ct_check_bars), sl_check_bars⟩)
    (c_check_bars : PySem.W.codeIn K cd_check_bars "_check_bars" = true)
    (p_check_bars : PySem.W.keepIn K (.ref a_check_bars) = true)
    (n_check_bar : PySem.W.nsIn K mainGlobals "_check_bar" = some (some (.ref a_check_bar)))
    (l_check_bar : K.lookup a_check_bar = some ⟨oc_check_bar, od_check_bar, .func (PySem.W.fnOf "_check_bar" "_check_bar" (defArgs s_check_bar) (defBody s_check_bar) (defScope s_check_bar) .none kV_check_bar dc_check_bar pm_check_bar an_check_bar cd_check_bar ct_check_bar), sl_check_bar⟩)
    (c_check_bar : PySem.W.codeIn K cd_check_bar "_check_bar" = true)
    (p_check_bar : PySem.W.keepIn K (.ref a_check_bar) = true)
    (n_l_well : PySem.W.nsIn K mainGlobals "_law_well" = some (some (.ref a_l_well)))
    (l_l_well : K.lookup a_l_well = some ⟨oc_l_well, od_l_well, .func (PySem.W.fnOf "_law_well" "_law_well" (defArgs s_l_well) (defBody s_l_well) (defScope s_l_well) .none kV_l_well dc_l_well pm_l_well an_l_well cd_l_well ct_l_well), sl_l_well⟩)
    (c_l_well : PySem.W.codeIn K cd_l_well "_law_well" = true)
    (p_l_well : PySem.W.keepIn K (.ref a_l_well) = true)
    (n_l_draw : PySem.W.nsIn K mainGlobals "_law_draw" = some (some (.ref a_l_draw)))
    (l_l_draw : K.lookup a_l_draw = some ⟨oc_l_draw, od_l_draw, .func (PySem.W.fnOf "_law_draw" "_law_draw" (defArgs s_l_draw) (defBody s_l_draw) (defScope s_l_draw) .none kV_l_draw dc_l_draw pm_l_draw an_l_draw cd_l_draw ct_l_draw), sl_l_draw⟩)
    (c_l_draw : PySem.W.codeIn K cd_l_draw "_law_draw" = true)
    (p_l_draw : PySem.W.keepIn K (.ref a_l_draw) = true)
    (n_l_one : PySem.W.nsIn K mainGlobals "_law_one" = some (some (.ref a_l_one)))
    (l_l_one : K.lookup a_l_one = some ⟨oc_l_one, od_l_one, .func (PySem.W.fnOf "_law_one" "_law_one" (defArgs s_l_one) (defBody s_l_one) (defScope s_l_one) .none kV_l_one dc_l_one pm_l_one an_l_one cd_l_one ct_l_one), sl_l_one⟩)
    (c_l_one : PySem.W.codeIn K cd_l_one "_law_one" = true)
    (p_l_one : PySem.W.keepIn K (.ref a_l_one) = true)
    (n_l_mixed : PySem.W.nsIn K mainGlobals "_law_mixed" = some (some (.ref a_l_mixed)))
    (l_l_mixed : K.lookup a_l_mixed = some ⟨oc_l_mixed, od_l_mixed, .func (PySem.W.fnOf "_law_mixed" "_law_mixed" (defArgs s_l_mixed) (defBody s_l_mixed) (defScope s_l_mixed) .none kV_l_mixed dc_l_mixed pm_l_mixed an_l_mixed cd_l_mixed ct_l_mixed), sl_l_mixed⟩)
    (c_l_mixed : PySem.W.codeIn K cd_l_mixed "_law_mixed" = true)
    (p_l_mixed : PySem.W.keepIn K (.ref a_l_mixed) = true)
    (n_l_bar_fact : PySem.W.nsIn K mainGlobals "_law_bar_fact" = some (some (.ref a_l_bar_fact)))
    (l_l_bar_fact : K.lookup a_l_bar_fact = some ⟨oc_l_bar_fact, od_l_bar_fact, .func (PySem.W.fnOf "_law_bar_fact" "_law_bar_fact" (defArgs s_l_bar_fact) (defBody s_l_bar_fact) (defScope s_l_bar_fact) .none kV_l_bar_fact dc_l_bar_fact pm_l_bar_fact an_l_bar_fact cd_l_bar_fact ct_l_bar_fact), sl_l_bar_fact⟩)
    (c_l_bar_fact : PySem.W.codeIn K cd_l_bar_fact "_law_bar_fact" = true)
    (p_l_bar_fact : PySem.W.keepIn K (.ref a_l_bar_fact) = true)
    (n_l_any : PySem.W.nsIn K mainGlobals "_law_any" = some (some (.ref a_l_any)))
    (l_l_any : K.lookup a_l_any = some ⟨oc_l_any, od_l_any, .func (PySem.W.fnOf "_law_any" "_law_any" (defArgs s_l_any) (defBody s_l_any) (defScope s_l_any) .none kV_l_any dc_l_any pm_l_any an_l_any cd_l_any ct_l_any), sl_l_any⟩)
    (c_l_any : PySem.W.codeIn K cd_l_any "_law_any" = true)
    (p_l_any : PySem.W.keepIn K (.ref a_l_any) = true)
    (n_l_web : PySem.W.nsIn K mainGlobals "_law_web" = some (some (.ref a_l_web)))
    (l_l_web : K.lookup a_l_web = some ⟨oc_l_web, od_l_web, .func (PySem.W.fnOf "_law_web" "_law_web" (defArgs s_l_web) (defBody s_l_web) (defScope s_l_web) .none kV_l_web dc_l_web pm_l_web an_l_web cd_l_web ct_l_web), sl_l_web⟩)
    (c_l_web : PySem.W.codeIn K cd_l_web "_law_web" = true)
    (p_l_web : PySem.W.keepIn K (.ref a_l_web) = true)
    (n_l_common : PySem.W.nsIn K mainGlobals "_law_common" = some (some (.ref a_l_common)))
    (l_l_common : K.lookup a_l_common = some ⟨oc_l_common, od_l_common, .func (PySem.W.fnOf "_law_common" "_law_common" (defArgs s_l_common) (defBody s_l_common) (defScope s_l_common) .none kV_l_common dc_l_common pm_l_common an_l_common cd_l_common ct_l_common), sl_l_common⟩)
    (c_l_common : PySem.W.codeIn K cd_l_common "_law_common" = true)
    (p_l_common : PySem.W.keepIn K (.ref a_l_common) = true)
    (n_l_height : PySem.W.nsIn K mainGlobals "_law_height" = some (some (.ref a_l_height)))
    (l_l_height : K.lookup a_l_height = some ⟨oc_l_height, od_l_height, .func (PySem.W.fnOf "_law_height" "_law_height" (defArgs s_l_height) (defBody s_l_height) (defScope s_l_height) .none kV_l_height dc_l_height pm_l_height an_l_height cd_l_height ct_l_height), sl_l_height⟩)
    (c_l_height : PySem.W.codeIn K cd_l_height "_law_height" = true)
    (p_l_height : PySem.W.keepIn K (.ref a_l_height) = true)
    (n_l_seen : PySem.W.nsIn K mainGlobals "_law_seen" = some (some (.ref a_l_seen)))
    (l_l_seen : K.lookup a_l_seen = some ⟨oc_l_seen, od_l_seen, .func (PySem.W.fnOf "_law_seen" "_law_seen" (defArgs s_l_seen) (defBody s_l_seen) (defScope s_l_seen) .none kV_l_seen dc_l_seen pm_l_seen an_l_seen cd_l_seen ct_l_seen), sl_l_seen⟩)
    (c_l_seen : PySem.W.codeIn K cd_l_seen "_law_seen" = true)
    (p_l_seen : PySem.W.keepIn K (.ref a_l_seen) = true)
    (n_l_due : PySem.W.nsIn K mainGlobals "_law_due" = some (some (.ref a_l_due)))
    (l_l_due : K.lookup a_l_due = some ⟨oc_l_due, od_l_due, .func (PySem.W.fnOf "_law_due" "_law_due" (defArgs s_l_due) (defBody s_l_due) (defScope s_l_due) .none kV_l_due dc_l_due pm_l_due an_l_due cd_l_due ct_l_due), sl_l_due⟩)
    (c_l_due : PySem.W.codeIn K cd_l_due "_law_due" = true)
    (p_l_due : PySem.W.keepIn K (.ref a_l_due) = true)
    (n_l_said : PySem.W.nsIn K mainGlobals "_law_said" = some (some (.ref a_l_said)))
    (l_l_said : K.lookup a_l_said = some ⟨oc_l_said, od_l_said, .func (PySem.W.fnOf "_law_said" "_law_said" (defArgs s_l_said) (defBody s_l_said) (defScope s_l_said) .none kV_l_said dc_l_said pm_l_said an_l_said cd_l_said ct_l_said), sl_l_said⟩)
    (c_l_said : PySem.W.codeIn K cd_l_said "_law_said" = true)
    (p_l_said : PySem.W.keepIn K (.ref a_l_said) = true)
    (n_law : PySem.W.nsIn K mainGlobals "law" = some (some (.ref a_law)))
    (l_law : K.lookup a_law = some ⟨oc_law, od_law, .func (PySem.W.fnOf "law" "law" (defArgs s_law) (defBody s_law) (defScope s_law) .none kV_law dc_law pm_law an_law cd_law ct_law), sl_law⟩)
    (c_law : PySem.W.codeIn K cd_law "law" = true)
    (p_law : PySem.W.keepIn K (.ref a_law) = true)
    (n_Bar : PySem.W.nsIn K mainGlobals "Bar" = some (some (.ref C_Bar)))
    (pg_Bar : PySem.W.plainGet K C_Bar Str.empty = true)
    (hd_Bar : PySem.W.hasDictIn K C_Bar = true)
    (po_Bar : PySem.W.plainOver K C_Bar = true)
    (sa_Bar : PySem.W.findIn K (.ref C_Bar) "__setattr__" = some (some (.builtin "object.__setattr__")))
    (mk_Bar : PySem.W.makesIn K C_Bar = true)
    (kc_Bar : PySem.W.keepIn K (.ref C_Bar) = true)
    (nf_Bar_a : PySem.W.findIn K (.ref C_Bar) "a" = some none)
    (nf_Bar_b : PySem.W.findIn K (.ref C_Bar) "b" = some none)
    (nf_Bar_c : PySem.W.findIn K (.ref C_Bar) "c" = some none)
    (nf_Bar_length : PySem.W.findIn K (.ref C_Bar) "length" = some none)
    (nf_Bar_least : PySem.W.findIn K (.ref C_Bar) "least" = some none)
    (nf_Bar_greatest : PySem.W.findIn K (.ref C_Bar) "greatest" = some none)
    (n_Bar_init : PySem.W.findIn K (.ref C_Bar) "__init__" = some (some (.ref a_Bar_init)))
    (i_Bar_init : PySem.W.isFn K (.ref a_Bar_init) = true)
    (l_Bar_init : K.lookup a_Bar_init = some ⟨oc_Bar_init, od_Bar_init, .func (PySem.W.fnOf "__init__" "Bar.__init__" (defArgs s_Bar_init) (defBody s_Bar_init) (defScope s_Bar_init) .none kV_Bar_init dc_Bar_init pm_Bar_init an_Bar_init cd_Bar_init ct_Bar_init), sl_Bar_init⟩)
    (c_Bar_init : PySem.W.codeIn K cd_Bar_init "Bar.__init__" = true)
    (p_Bar_init : PySem.W.keepIn K (.ref a_Bar_init) = true)
    (n_Bar_eq : PySem.W.findIn K (.ref C_Bar) "__eq__" = some (some (.ref a_Bar_eq)))
    (i_Bar_eq : PySem.W.isFn K (.ref a_Bar_eq) = true)
    (l_Bar_eq : K.lookup a_Bar_eq = some ⟨oc_Bar_eq, od_Bar_eq, .func (PySem.W.fnOf "__eq__" "Bar.__eq__" (defArgs s_Bar_eq) (defBody s_Bar_eq) (defScope s_Bar_eq) .none kV_Bar_eq dc_Bar_eq pm_Bar_eq an_Bar_eq cd_Bar_eq ct_Bar_eq), sl_Bar_eq⟩)
    (c_Bar_eq : PySem.W.codeIn K cd_Bar_eq "Bar.__eq__" = true)
    (p_Bar_eq : PySem.W.keepIn K (.ref a_Bar_eq) = true)
    (ea_NoneType_Bar : PySem.W.notFirst K C_Bar (.type "NoneType") = true)
    (eb_NoneType_Bar : PySem.W.subIn K (.ref C_Bar) (.type "NoneType") = some false)
    (ea_bool_Bar : PySem.W.notFirst K C_Bar (.type "bool") = true)
    (eb_bool_Bar : PySem.W.subIn K (.ref C_Bar) (.type "bool") = some false)
    (ea_int_Bar : PySem.W.notFirst K C_Bar (.type "int") = true)
    (eb_int_Bar : PySem.W.subIn K (.ref C_Bar) (.type "int") = some false)
    (ea_str_Bar : PySem.W.notFirst K C_Bar (.type "str") = true)
    (eb_str_Bar : PySem.W.subIn K (.ref C_Bar) (.type "str") = some false)
    (ea_list_Bar : PySem.W.notFirst K C_Bar (.type "list") = true)
    (eb_list_Bar : PySem.W.subIn K (.ref C_Bar) (.type "list") = some false)
    (ea_tuple_Bar : PySem.W.notFirst K C_Bar (.type "tuple") = true)
    (eb_tuple_Bar : PySem.W.subIn K (.ref C_Bar) (.type "tuple") = some false)
    (ea_dict_Bar : PySem.W.notFirst K C_Bar (.type "dict") = true)
    (eb_dict_Bar : PySem.W.subIn K (.ref C_Bar) (.type "dict") = some false)
    (na_Bar : PySem.W.findIn K (.ref C_Bar) "__ne__" = some (some (.builtin "object.__ne__")))
    (nb_Bar : PySem.W.mroIn K C_Bar (.type "object") = some true)
    (n_Web : PySem.W.nsIn K mainGlobals "Web" = some (some (.ref C_Web)))
    (pg_Web : PySem.W.plainGet K C_Web Str.empty = true)
    (hd_Web : PySem.W.hasDictIn K C_Web = true)
    (po_Web : PySem.W.plainOver K C_Web = true)
    (sa_Web : PySem.W.findIn K (.ref C_Web) "__setattr__" = some (some (.builtin "object.__setattr__")))
    (mk_Web : PySem.W.makesIn K C_Web = true)
    (kc_Web : PySem.W.keepIn K (.ref C_Web) = true)
    (nf_Web_rods : PySem.W.findIn K (.ref C_Web) "rods" = some none)
    (nf_Web_bars : PySem.W.findIn K (.ref C_Web) "bars" = some none)
    (nf_Web_held : PySem.W.findIn K (.ref C_Web) "_held" = some none)
    (n_Web_init : PySem.W.findIn K (.ref C_Web) "__init__" = some (some (.ref a_Web_init)))
    (i_Web_init : PySem.W.isFn K (.ref a_Web_init) = true)
    (l_Web_init : K.lookup a_Web_init = some ⟨oc_Web_init, od_Web_init, .func (PySem.W.fnOf "__init__" "Web.__init__" (defArgs s_Web_init) (defBody s_Web_init) (defScope s_Web_init) .none kV_Web_init dc_Web_init pm_Web_init an_Web_init cd_Web_init ct_Web_init), sl_Web_init⟩)
    (c_Web_init : PySem.W.codeIn K cd_Web_init "Web.__init__" = true)
    (p_Web_init : PySem.W.keepIn K (.ref a_Web_init) = true)
    (n_Web_held : PySem.W.findIn K (.ref C_Web) "held" = some (some (.ref a_Web_held)))
    (i_Web_held : PySem.W.isFn K (.ref a_Web_held) = true)
    (l_Web_held : K.lookup a_Web_held = some ⟨oc_Web_held, od_Web_held, .func (PySem.W.fnOf "held" "Web.held" (defArgs s_Web_held) (defBody s_Web_held) (defScope s_Web_held) .none kV_Web_held dc_Web_held pm_Web_held an_Web_held cd_Web_held ct_Web_held), sl_Web_held⟩)
    (c_Web_held : PySem.W.codeIn K cd_Web_held "Web.held" = true)
    (p_Web_held : PySem.W.keepIn K (.ref a_Web_held) = true)
    (n_Web_hanging : PySem.W.findIn K (.ref C_Web) "hanging" = some (some (.ref a_Web_hanging)))
    (i_Web_hanging : PySem.W.isFn K (.ref a_Web_hanging) = true)
    (l_Web_hanging : K.lookup a_Web_hanging = some ⟨oc_Web_hanging, od_Web_hanging, .func (PySem.W.fnOf "hanging" "Web.hanging" (defArgs s_Web_hanging) (defBody s_Web_hanging) (defScope s_Web_hanging) .none kV_Web_hanging dc_Web_hanging pm_Web_hanging an_Web_hanging cd_Web_hanging ct_Web_hanging), sl_Web_hanging⟩)
    (c_Web_hanging : PySem.W.codeIn K cd_Web_hanging "Web.hanging" = true)
    (p_Web_hanging : PySem.W.keepIn K (.ref a_Web_hanging) = true)
    (n_Web_eq : PySem.W.findIn K (.ref C_Web) "__eq__" = some (some (.ref a_Web_eq)))
    (i_Web_eq : PySem.W.isFn K (.ref a_Web_eq) = true)
    (l_Web_eq : K.lookup a_Web_eq = some ⟨oc_Web_eq, od_Web_eq, .func (PySem.W.fnOf "__eq__" "Web.__eq__" (defArgs s_Web_eq) (defBody s_Web_eq) (defScope s_Web_eq) .none kV_Web_eq dc_Web_eq pm_Web_eq an_Web_eq cd_Web_eq ct_Web_eq), sl_Web_eq⟩)
    (c_Web_eq : PySem.W.codeIn K cd_Web_eq "Web.__eq__" = true)
    (p_Web_eq : PySem.W.keepIn K (.ref a_Web_eq) = true)
    (ea_NoneType_Web : PySem.W.notFirst K C_Web (.type "NoneType") = true)
    (eb_NoneType_Web : PySem.W.subIn K (.ref C_Web) (.type "NoneType") = some false)
    (ea_bool_Web : PySem.W.notFirst K C_Web (.type "bool") = true)
    (eb_bool_Web : PySem.W.subIn K (.ref C_Web) (.type "bool") = some false)
    (ea_int_Web : PySem.W.notFirst K C_Web (.type "int") = true)
    (eb_int_Web : PySem.W.subIn K (.ref C_Web) (.type "int") = some false)
    (ea_str_Web : PySem.W.notFirst K C_Web (.type "str") = true)
    (eb_str_Web : PySem.W.subIn K (.ref C_Web) (.type "str") = some false)
    (ea_list_Web : PySem.W.notFirst K C_Web (.type "list") = true)
    (eb_list_Web : PySem.W.subIn K (.ref C_Web) (.type "list") = some false)
    (ea_tuple_Web : PySem.W.notFirst K C_Web (.type "tuple") = true)
    (eb_tuple_Web : PySem.W.subIn K (.ref C_Web) (.type "tuple") = some false)
    (ea_dict_Web : PySem.W.notFirst K C_Web (.type "dict") = true)
    (eb_dict_Web : PySem.W.subIn K (.ref C_Web) (.type "dict") = some false)
    (na_Web : PySem.W.findIn K (.ref C_Web) "__ne__" = some (some (.builtin "object.__ne__")))
    (nb_Web : PySem.W.mroIn K C_Web (.type "object") = some true)
    (nfst_Bar_Bar : PySem.W.notFirst K C_Bar (.ref C_Bar) = true)
    (nfst_Bar_Web : PySem.W.notFirst K C_Bar (.ref C_Web) = true)
    (dc_Bar_Web : C_Bar ≠ C_Web)
    (nfst_Web_Bar : PySem.W.notFirst K C_Web (.ref C_Bar) = true)
    (nfst_Web_Web : PySem.W.notFirst K C_Web (.ref C_Web) = true)
    (n_HooksError : PySem.W.nsIn K mainGlobals "HooksError" = some (some (.ref C_HooksError)))
    (be_HooksError : PySem.W.subIn K (.ref C_HooksError) (.type "BaseException") = some true)
    (ty_HooksError : PySem.W.typeIn K (.ref C_HooksError) = some (.type "type"))
    (hd_HooksError : PySem.W.hasDictIn K C_HooksError = true)
    (n_BadCount : PySem.W.nsIn K mainGlobals "BadCount" = some (some (.ref C_BadCount)))
    (x_BadCount : K.lookup C_BadCount = some (excClassObj nm_BadCount q_BadCount C_BadCount N_BadCount bs_BadCount [.ref C_HooksError, .type "ValueError", .type "Exception", .type "BaseException", .type "object"] true sn_BadCount sub_BadCount ab_BadCount col_BadCount dd_BadCount u0_BadCount u1_BadCount u2_BadCount u3_BadCount u5_BadCount "ValueError.__new__"))
    (sa_BadCount : PySem.W.findIn K (.ref C_BadCount) "__setattr__" = some (some (.builtin "object.__setattr__")))
    (ga_BadCount : PySem.W.findIn K (.ref C_BadCount) "__getattribute__" = some (some (.builtin "BaseException.__getattribute__")))
    (gg_BadCount : PySem.W.findIn K (.ref C_BadCount) "__getattr__" = some none)
    (kc_BadCount : PySem.W.keepIn K (.ref C_BadCount) = true)
    (be_BadCount : PySem.W.subIn K (.ref C_BadCount) (.type "BaseException") = some true)
    (ty_BadCount : PySem.W.typeIn K (.ref C_BadCount) = some (.type "type"))
    (hd_BadCount : PySem.W.hasDictIn K C_BadCount = true)
    (cl_BadCount : PySem.W.findIn K (.ref C_BadCount) "__class__" = some (some (.builtin "object.__class__")))
    (ob_BadCount : PySem.W.mroIn K C_BadCount (.type "object") = some true)
    (sb_BadCount_HooksError : PySem.W.subIn K (.ref C_BadCount) (.ref C_HooksError) = some true)
    (n_BadCount_init : PySem.W.findIn K (.ref C_BadCount) "__init__" = some (some (.ref a_BadCount_init)))
    (t_BadCount_init : PySem.W.typeIn K (.ref a_BadCount_init) = some (.type "function"))
    (l_BadCount_init : K.lookup a_BadCount_init = some ⟨oc_BadCount_init, od_BadCount_init, .func (PySem.W.fnOf "__init__" "BadCount.__init__" (defArgs s_BadCount_init) (defBody s_BadCount_init) (defScope s_BadCount_init) .none kV_BadCount_init dc_BadCount_init pm_BadCount_init an_BadCount_init cd_BadCount_init ct_BadCount_init), sl_BadCount_init⟩)
    (c_BadCount_init : PySem.W.codeIn K cd_BadCount_init "BadCount.__init__" = true)
    (p_BadCount_init : PySem.W.keepIn K (.ref a_BadCount_init) = true)
    (nf_BadCount_what : PySem.W.findIn K (.ref C_BadCount) "what" = some none)
    (nf_BadCount_count : PySem.W.findIn K (.ref C_BadCount) "count" = some none)
    (n_NoRod : PySem.W.nsIn K mainGlobals "NoRod" = some (some (.ref C_NoRod)))
    (x_NoRod : K.lookup C_NoRod = some (excClassObj nm_NoRod q_NoRod C_NoRod N_NoRod bs_NoRod [.ref C_HooksError, .type "ValueError", .type "Exception", .type "BaseException", .type "object"] true sn_NoRod sub_NoRod ab_NoRod col_NoRod dd_NoRod u0_NoRod u1_NoRod u2_NoRod u3_NoRod u5_NoRod "ValueError.__new__"))
    (sa_NoRod : PySem.W.findIn K (.ref C_NoRod) "__setattr__" = some (some (.builtin "object.__setattr__")))
    (ga_NoRod : PySem.W.findIn K (.ref C_NoRod) "__getattribute__" = some (some (.builtin "BaseException.__getattribute__")))
    (gg_NoRod : PySem.W.findIn K (.ref C_NoRod) "__getattr__" = some none)
    (kc_NoRod : PySem.W.keepIn K (.ref C_NoRod) = true)
    (be_NoRod : PySem.W.subIn K (.ref C_NoRod) (.type "BaseException") = some true)
    (ty_NoRod : PySem.W.typeIn K (.ref C_NoRod) = some (.type "type"))
    (hd_NoRod : PySem.W.hasDictIn K C_NoRod = true)
    (cl_NoRod : PySem.W.findIn K (.ref C_NoRod) "__class__" = some (some (.builtin "object.__class__")))
    (ob_NoRod : PySem.W.mroIn K C_NoRod (.type "object") = some true)
    (sb_NoRod_HooksError : PySem.W.subIn K (.ref C_NoRod) (.ref C_HooksError) = some true)
    (n_NoRod_init : PySem.W.findIn K (.ref C_NoRod) "__init__" = some (some (.ref a_NoRod_init)))
    (t_NoRod_init : PySem.W.typeIn K (.ref a_NoRod_init) = some (.type "function"))
    (l_NoRod_init : K.lookup a_NoRod_init = some ⟨oc_NoRod_init, od_NoRod_init, .func (PySem.W.fnOf "__init__" "NoRod.__init__" (defArgs s_NoRod_init) (defBody s_NoRod_init) (defScope s_NoRod_init) .none kV_NoRod_init dc_NoRod_init pm_NoRod_init an_NoRod_init cd_NoRod_init ct_NoRod_init), sl_NoRod_init⟩)
    (c_NoRod_init : PySem.W.codeIn K cd_NoRod_init "NoRod.__init__" = true)
    (p_NoRod_init : PySem.W.keepIn K (.ref a_NoRod_init) = true)
    (nf_NoRod_rod : PySem.W.findIn K (.ref C_NoRod) "rod" = some none)
    (n_SameRod : PySem.W.nsIn K mainGlobals "SameRod" = some (some (.ref C_SameRod)))
    (x_SameRod : K.lookup C_SameRod = some (excClassObj nm_SameRod q_SameRod C_SameRod N_SameRod bs_SameRod [.ref C_HooksError, .type "ValueError", .type "Exception", .type "BaseException", .type "object"] true sn_SameRod sub_SameRod ab_SameRod col_SameRod dd_SameRod u0_SameRod u1_SameRod u2_SameRod u3_SameRod u5_SameRod "ValueError.__new__"))
    (sa_SameRod : PySem.W.findIn K (.ref C_SameRod) "__setattr__" = some (some (.builtin "object.__setattr__")))
    (ga_SameRod : PySem.W.findIn K (.ref C_SameRod) "__getattribute__" = some (some (.builtin "BaseException.__getattribute__")))
    (gg_SameRod : PySem.W.findIn K (.ref C_SameRod) "__getattr__" = some none)
    (kc_SameRod : PySem.W.keepIn K (.ref C_SameRod) = true)
    (be_SameRod : PySem.W.subIn K (.ref C_SameRod) (.type "BaseException") = some true)
    (ty_SameRod : PySem.W.typeIn K (.ref C_SameRod) = some (.type "type"))
    (hd_SameRod : PySem.W.hasDictIn K C_SameRod = true)
    (cl_SameRod : PySem.W.findIn K (.ref C_SameRod) "__class__" = some (some (.builtin "object.__class__")))
    (ob_SameRod : PySem.W.mroIn K C_SameRod (.type "object") = some true)
    (sb_SameRod_HooksError : PySem.W.subIn K (.ref C_SameRod) (.ref C_HooksError) = some true)
    (n_SameRod_init : PySem.W.findIn K (.ref C_SameRod) "__init__" = some (some (.ref a_SameRod_init)))
    (t_SameRod_init : PySem.W.typeIn K (.ref a_SameRod_init) = some (.type "function"))
    (l_SameRod_init : K.lookup a_SameRod_init = some ⟨oc_SameRod_init, od_SameRod_init, .func (PySem.W.fnOf "__init__" "SameRod.__init__" (defArgs s_SameRod_init) (defBody s_SameRod_init) (defScope s_SameRod_init) .none kV_SameRod_init dc_SameRod_init pm_SameRod_init an_SameRod_init cd_SameRod_init ct_SameRod_init), sl_SameRod_init⟩)
    (c_SameRod_init : PySem.W.codeIn K cd_SameRod_init "SameRod.__init__" = true)
    (p_SameRod_init : PySem.W.keepIn K (.ref a_SameRod_init) = true)
    (nf_SameRod_rod : PySem.W.findIn K (.ref C_SameRod) "rod" = some none)
    (n_BadSpan : PySem.W.nsIn K mainGlobals "BadSpan" = some (some (.ref C_BadSpan)))
    (x_BadSpan : K.lookup C_BadSpan = some (excClassObj nm_BadSpan q_BadSpan C_BadSpan N_BadSpan bs_BadSpan [.ref C_HooksError, .type "ValueError", .type "Exception", .type "BaseException", .type "object"] true sn_BadSpan sub_BadSpan ab_BadSpan col_BadSpan dd_BadSpan u0_BadSpan u1_BadSpan u2_BadSpan u3_BadSpan u5_BadSpan "ValueError.__new__"))
    (sa_BadSpan : PySem.W.findIn K (.ref C_BadSpan) "__setattr__" = some (some (.builtin "object.__setattr__")))
    (ga_BadSpan : PySem.W.findIn K (.ref C_BadSpan) "__getattribute__" = some (some (.builtin "BaseException.__getattribute__")))
    (gg_BadSpan : PySem.W.findIn K (.ref C_BadSpan) "__getattr__" = some none)
    (kc_BadSpan : PySem.W.keepIn K (.ref C_BadSpan) = true)
    (be_BadSpan : PySem.W.subIn K (.ref C_BadSpan) (.type "BaseException") = some true)
    (ty_BadSpan : PySem.W.typeIn K (.ref C_BadSpan) = some (.type "type"))
    (hd_BadSpan : PySem.W.hasDictIn K C_BadSpan = true)
    (cl_BadSpan : PySem.W.findIn K (.ref C_BadSpan) "__class__" = some (some (.builtin "object.__class__")))
    (ob_BadSpan : PySem.W.mroIn K C_BadSpan (.type "object") = some true)
    (sb_BadSpan_HooksError : PySem.W.subIn K (.ref C_BadSpan) (.ref C_HooksError) = some true)
    (n_BadSpan_init : PySem.W.findIn K (.ref C_BadSpan) "__init__" = some (some (.ref a_BadSpan_init)))
    (t_BadSpan_init : PySem.W.typeIn K (.ref a_BadSpan_init) = some (.type "function"))
    (l_BadSpan_init : K.lookup a_BadSpan_init = some ⟨oc_BadSpan_init, od_BadSpan_init, .func (PySem.W.fnOf "__init__" "BadSpan.__init__" (defArgs s_BadSpan_init) (defBody s_BadSpan_init) (defScope s_BadSpan_init) .none kV_BadSpan_init dc_BadSpan_init pm_BadSpan_init an_BadSpan_init cd_BadSpan_init ct_BadSpan_init), sl_BadSpan_init⟩)
    (c_BadSpan_init : PySem.W.codeIn K cd_BadSpan_init "BadSpan.__init__" = true)
    (p_BadSpan_init : PySem.W.keepIn K (.ref a_BadSpan_init) = true)
    (nf_BadSpan_bar : PySem.W.findIn K (.ref C_BadSpan) "bar" = some none)
    (n_NotSquare : PySem.W.nsIn K mainGlobals "NotSquare" = some (some (.ref C_NotSquare)))
    (x_NotSquare : K.lookup C_NotSquare = some (excClassObj nm_NotSquare q_NotSquare C_NotSquare N_NotSquare bs_NotSquare [.ref C_HooksError, .type "ValueError", .type "Exception", .type "BaseException", .type "object"] true sn_NotSquare sub_NotSquare ab_NotSquare col_NotSquare dd_NotSquare u0_NotSquare u1_NotSquare u2_NotSquare u3_NotSquare u5_NotSquare "ValueError.__new__"))
    (sa_NotSquare : PySem.W.findIn K (.ref C_NotSquare) "__setattr__" = some (some (.builtin "object.__setattr__")))
    (ga_NotSquare : PySem.W.findIn K (.ref C_NotSquare) "__getattribute__" = some (some (.builtin "BaseException.__getattribute__")))
    (gg_NotSquare : PySem.W.findIn K (.ref C_NotSquare) "__getattr__" = some none)
    (kc_NotSquare : PySem.W.keepIn K (.ref C_NotSquare) = true)
    (be_NotSquare : PySem.W.subIn K (.ref C_NotSquare) (.type "BaseException") = some true)
    (ty_NotSquare : PySem.W.typeIn K (.ref C_NotSquare) = some (.type "type"))
    (hd_NotSquare : PySem.W.hasDictIn K C_NotSquare = true)
    (cl_NotSquare : PySem.W.findIn K (.ref C_NotSquare) "__class__" = some (some (.builtin "object.__class__")))
    (ob_NotSquare : PySem.W.mroIn K C_NotSquare (.type "object") = some true)
    (sb_NotSquare_HooksError : PySem.W.subIn K (.ref C_NotSquare) (.ref C_HooksError) = some true)
    (n_NotSquare_init : PySem.W.findIn K (.ref C_NotSquare) "__init__" = some (some (.ref a_NotSquare_init)))
    (t_NotSquare_init : PySem.W.typeIn K (.ref a_NotSquare_init) = some (.type "function"))
    (l_NotSquare_init : K.lookup a_NotSquare_init = some ⟨oc_NotSquare_init, od_NotSquare_init, .func (PySem.W.fnOf "__init__" "NotSquare.__init__" (defArgs s_NotSquare_init) (defBody s_NotSquare_init) (defScope s_NotSquare_init) .none kV_NotSquare_init dc_NotSquare_init pm_NotSquare_init an_NotSquare_init cd_NotSquare_init ct_NotSquare_init), sl_NotSquare_init⟩)
    (c_NotSquare_init : PySem.W.codeIn K cd_NotSquare_init "NotSquare.__init__" = true)
    (p_NotSquare_init : PySem.W.keepIn K (.ref a_NotSquare_init) = true)
    (nf_NotSquare_bars : PySem.W.findIn K (.ref C_NotSquare) "bars" = some none)
    (nf_NotSquare_wanted : PySem.W.findIn K (.ref C_NotSquare) "wanted" = some none)
    (n_NotHeld : PySem.W.nsIn K mainGlobals "NotHeld" = some (some (.ref C_NotHeld)))
    (x_NotHeld : K.lookup C_NotHeld = some (excClassObj nm_NotHeld q_NotHeld C_NotHeld N_NotHeld bs_NotHeld [.ref C_HooksError, .type "ValueError", .type "Exception", .type "BaseException", .type "object"] true sn_NotHeld sub_NotHeld ab_NotHeld col_NotHeld dd_NotHeld u0_NotHeld u1_NotHeld u2_NotHeld u3_NotHeld u5_NotHeld "ValueError.__new__"))
    (sa_NotHeld : PySem.W.findIn K (.ref C_NotHeld) "__setattr__" = some (some (.builtin "object.__setattr__")))
    (ga_NotHeld : PySem.W.findIn K (.ref C_NotHeld) "__getattribute__" = some (some (.builtin "BaseException.__getattribute__")))
    (gg_NotHeld : PySem.W.findIn K (.ref C_NotHeld) "__getattr__" = some none)
    (kc_NotHeld : PySem.W.keepIn K (.ref C_NotHeld) = true)
    (be_NotHeld : PySem.W.subIn K (.ref C_NotHeld) (.type "BaseException") = some true)
    (ty_NotHeld : PySem.W.typeIn K (.ref C_NotHeld) = some (.type "type"))
    (hd_NotHeld : PySem.W.hasDictIn K C_NotHeld = true)
    (cl_NotHeld : PySem.W.findIn K (.ref C_NotHeld) "__class__" = some (some (.builtin "object.__class__")))
    (ob_NotHeld : PySem.W.mroIn K C_NotHeld (.type "object") = some true)
    (sb_NotHeld_HooksError : PySem.W.subIn K (.ref C_NotHeld) (.ref C_HooksError) = some true)
    (n_NotHeld_init : PySem.W.findIn K (.ref C_NotHeld) "__init__" = some (some (.ref a_NotHeld_init)))
    (t_NotHeld_init : PySem.W.typeIn K (.ref a_NotHeld_init) = some (.type "function"))
    (l_NotHeld_init : K.lookup a_NotHeld_init = some ⟨oc_NotHeld_init, od_NotHeld_init, .func (PySem.W.fnOf "__init__" "NotHeld.__init__" (defArgs s_NotHeld_init) (defBody s_NotHeld_init) (defScope s_NotHeld_init) .none kV_NotHeld_init dc_NotHeld_init pm_NotHeld_init an_NotHeld_init cd_NotHeld_init ct_NotHeld_init), sl_NotHeld_init⟩)
    (c_NotHeld_init : PySem.W.codeIn K cd_NotHeld_init "NotHeld.__init__" = true)
    (p_NotHeld_init : PySem.W.keepIn K (.ref a_NotHeld_init) = true)
    (nf_NotHeld_rod : PySem.W.findIn K (.ref C_NotHeld) "rod" = some none)
    (dc_BadCount_NotHeld : C_BadCount ≠ C_NotHeld)
    (sb_BadCount_NotHeld : PySem.W.subIn K (.ref C_BadCount) (.ref C_NotHeld) = some false)
    (dc_NotHeld_BadCount : C_NotHeld ≠ C_BadCount)
    (sb_NotHeld_BadCount : PySem.W.subIn K (.ref C_NotHeld) (.ref C_BadCount) = some false)
    (z_abs : PySem.W.nsIn K mainGlobals "abs" = some none)
    (z_len : PySem.W.nsIn K mainGlobals "len" = some none)
    (z_range : PySem.W.nsIn K mainGlobals "range" = some none)
    (z_tuple : PySem.W.nsIn K mainGlobals "tuple" = some none)
    (z_list : PySem.W.nsIn K mainGlobals "list" = some none)
    (z_dict : PySem.W.nsIn K mainGlobals "dict" = some none)
    (z_sorted : PySem.W.nsIn K mainGlobals "sorted" = some none)
    (z_enumerate : PySem.W.nsIn K mainGlobals "enumerate" = some none)
    (z_zip : PySem.W.nsIn K mainGlobals "zip" = some none)
    (z_min : PySem.W.nsIn K mainGlobals "min" = some none)
    (z_max : PySem.W.nsIn K mainGlobals "max" = some none)
    (z_int : PySem.W.nsIn K mainGlobals "int" = some none)
    (z_isinstance : PySem.W.nsIn K mainGlobals "isinstance" = some none)
    (z_type : PySem.W.nsIn K mainGlobals "type" = some none)
    (z_sum : PySem.W.nsIn K mainGlobals "sum" = some none)
    (v_gcd : PySem.W.nsIn K mainGlobals "gcd" = some (some (.builtin "math.gcd")))
    (v_LEAST_RODS : PySem.W.nsIn K mainGlobals "LEAST_RODS" = some (some (.int 3 t_LEAST_RODS)))
    (v_MOST_RODS : PySem.W.nsIn K mainGlobals "MOST_RODS" = some (some (.int 10 t_MOST_RODS)))
    (v_MOST_BARS : PySem.W.nsIn K mainGlobals "MOST_BARS" = some (some (.int 8 t_MOST_BARS)))
    (v_MOST_HEIGHT : PySem.W.nsIn K mainGlobals "MOST_HEIGHT" = some (some (.int 1000000 t_MOST_HEIGHT)))
    (v_MOST_LENGTH : PySem.W.nsIn K mainGlobals "MOST_LENGTH" = some (some (.int 1000000 t_MOST_LENGTH)))
    : Tx K mg := {
  a_divisor := a_divisor,
  fd_divisor := _,
  F_divisor := fun_mk (st := s_divisor) l_divisor c_divisor p_divisor,
  b_divisor := (fun_mk (st := s_divisor) l_divisor c_divisor p_divisor).binds (ps := ["numbers"]) fun _ _ _ _ _ _ us hl => match us, hl with | [_], _ => rfl,
  m_divisor := PySem.W.mg_of X G n_divisor,
  a_lowest := a_lowest,
  fd_lowest := _,
  F_lowest := fun_mk (st := s_lowest) l_lowest c_lowest p_lowest,
  b_lowest := (fun_mk (st := s_lowest) l_lowest c_lowest p_lowest).binds (ps := ["tops", "bottom"]) fun _ _ _ _ _ _ us hl => match us, hl with | [_, _], _ => rfl,
  m_lowest := PySem.W.mg_of X G n_lowest,
  a_fraction := a_fraction,
  fd_fraction := _,
  F_fraction := fun_mk (st := s_fraction) l_fraction c_fraction p_fraction,
  b_fraction := (fun_mk (st := s_fraction) l_fraction c_fraction p_fraction).binds (ps := ["top", "bottom"]) fun _ _ _ _ _ _ us hl => match us, hl with | [_, _], _ => rfl,
  m_fraction := PySem.W.mg_of X G n_fraction,
  a_led := a_led,
  fd_led := _,
  F_led := fun_mk (st := s_led) l_led c_led p_led,
  D_led := ⟨⟨_, _, _, _, _, _, _, _, _, _, rfl, l_led, c_led, .inl ⟨rfl, rfl⟩, w_led⟩, p_led⟩,
  m_led := PySem.W.mg_of X G n_led,
  a_check_heights := a_check_heights,
  fd_check_heights := _,
  F_check_heights := fun_mk (st := s_check_heights) l_check_heights c_check_heights p_check_heights,
  b_check_heights := (fun_mk (st := s_check_heights) l_check_heights c_check_heights p_check_heights).binds (ps := ["web", "heights", "parts"]) fun _ _ _ _ _ _ us hl => match us, hl with | [_, _, _], _ => rfl,
  m_check_heights := PySem.W.mg_of X G n_check_heights,
  a_led_bar := a_led_bar,
  fd_led_bar := _,
  F_led_bar := fun_mk (st := s_led_bar) l_led_bar c_led_bar p_led_bar,
  b_led_bar := (fun_mk (st := s_led_bar) l_led_bar c_led_bar p_led_bar).binds (ps := ["bar", "heights"]) fun _ _ _ _ _ _ us hl => match us, hl with | [_, _], _ => rfl,
  m_led_bar := PySem.W.mg_of X G n_led_bar,
  a_check_rods := a_check_rods,
  fd_check_rods := _,
  F_check_rods := fun_mk (st := s_check_rods) l_check_rods c_check_rods p_check_rods,
  b_check_rods := (fun_mk (st := s_check_rods) l_check_rods c_check_rods p_check_rods).binds (ps := ["rods", "held"]) fun _ _ _ _ _ _ us hl => match us, hl with | [_, _], _ => rfl,
  m_check_rods := PySem.W.mg_of X G n_check_rods,
  a_check_bars := a_check_bars,
  fd_check_bars := _,
  F_check_bars := fun_mk (st := s_check_bars) l_check_bars c_check_bars p_check_bars,
  b_check_bars := (fun_mk (st := s_check_bars) l_check_bars c_check_bars p_check_bars).binds (ps := ["rods", "held", "bars"]) fun _ _ _ _ _ _ us hl => match us, hl with | [_, _, _], _ => rfl,
  m_check_bars := PySem.W.mg_of X G n_check_bars,
  a_check_bar := a_check_bar,
  fd_check_bar := _,
  F_check_bar := fun_mk (st := s_check_bar) l_check_bar c_check_bar p_check_bar,
  b_check_bar := (fun_mk (st := s_check_bar) l_check_bar c_check_bar p_check_bar).binds (ps := ["rods", "number", "bar"]) fun _ _ _ _ _ _ us hl => match us, hl with | [_, _, _], _ => rfl,
  m_check_bar := PySem.W.mg_of X G n_check_bar,
  a_l_well := a_l_well,
  fd_l_well := _,
  F_l_well := fun_mk (st := s_l_well) l_l_well c_l_well p_l_well,
  b_l_well := (fun_mk (st := s_l_well) l_l_well c_l_well p_l_well).binds (ps := ["_law_cell"]) fun _ _ _ _ _ _ us hl => match us, hl with | [_], _ => rfl,
  m_l_well := PySem.W.mg_of X G n_l_well,
  a_l_draw := a_l_draw,
  fd_l_draw := _,
  F_l_draw := fun_mk (st := s_l_draw) l_l_draw c_l_draw p_l_draw,
  b_l_draw := (fun_mk (st := s_l_draw) l_l_draw c_l_draw p_l_draw).binds (ps := ["_law_well_here", "_law_many"]) fun _ _ _ _ _ _ us hl => match us, hl with | [_, _], _ => rfl,
  m_l_draw := PySem.W.mg_of X G n_l_draw,
  a_l_one := a_l_one,
  fd_l_one := _,
  F_l_one := fun_mk (st := s_l_one) l_l_one c_l_one p_l_one,
  b_l_one := (fun_mk (st := s_l_one) l_l_one c_l_one p_l_one).binds (ps := ["_law_well_here", "_law_some"]) fun _ _ _ _ _ _ us hl => match us, hl with | [_, _], _ => rfl,
  m_l_one := PySem.W.mg_of X G n_l_one,
  a_l_mixed := a_l_mixed,
  fd_l_mixed := _,
  F_l_mixed := fun_mk (st := s_l_mixed) l_l_mixed c_l_mixed p_l_mixed,
  b_l_mixed := (fun_mk (st := s_l_mixed) l_l_mixed c_l_mixed p_l_mixed).binds (ps := ["_law_well_here", "_law_some"]) fun _ _ _ _ _ _ us hl => match us, hl with | [_, _], _ => rfl,
  m_l_mixed := PySem.W.mg_of X G n_l_mixed,
  a_l_bar_fact := a_l_bar_fact,
  fd_l_bar_fact := _,
  F_l_bar_fact := fun_mk (st := s_l_bar_fact) l_l_bar_fact c_l_bar_fact p_l_bar_fact,
  b_l_bar_fact := (fun_mk (st := s_l_bar_fact) l_l_bar_fact c_l_bar_fact p_l_bar_fact).binds (ps := ["_law_well_here", "_law_rods_so"]) fun _ _ _ _ _ _ us hl => match us, hl with | [_, _], _ => rfl,
  m_l_bar_fact := PySem.W.mg_of X G n_l_bar_fact,
  a_l_any := a_l_any,
  fd_l_any := _,
  F_l_any := fun_mk (st := s_l_any) l_l_any c_l_any p_l_any,
  b_l_any := (fun_mk (st := s_l_any) l_l_any c_l_any p_l_any).binds (ps := ["_law_well_here", "_law_most"]) fun _ _ _ _ _ _ us hl => match us, hl with | [_, _], _ => rfl,
  m_l_any := PySem.W.mg_of X G n_l_any,
  a_l_web := a_l_web,
  fd_l_web := _,
  F_l_web := fun_mk (st := s_l_web) l_l_web c_l_web p_l_web,
  b_l_web := (fun_mk (st := s_l_web) l_l_web c_l_web p_l_web).binds (ps := ["_law_m"]) fun _ _ _ _ _ _ us hl => match us, hl with | [_], _ => rfl,
  m_l_web := PySem.W.mg_of X G n_l_web,
  a_l_common := a_l_common,
  fd_l_common := _,
  F_l_common := fun_mk (st := s_l_common) l_l_common c_l_common p_l_common,
  b_l_common := (fun_mk (st := s_l_common) l_l_common c_l_common p_l_common).binds (ps := ["_law_numbers_so"]) fun _ _ _ _ _ _ us hl => match us, hl with | [_], _ => rfl,
  m_l_common := PySem.W.mg_of X G n_l_common,
  a_l_height := a_l_height,
  fd_l_height := _,
  F_l_height := fun_mk (st := s_l_height) l_l_height c_l_height p_l_height,
  b_l_height := (fun_mk (st := s_l_height) l_l_height c_l_height p_l_height).binds (ps := ["_law_well_here"]) fun _ _ _ _ _ _ us hl => match us, hl with | [_], _ => rfl,
  m_l_height := PySem.W.mg_of X G n_l_height,
  a_l_seen := a_l_seen,
  fd_l_seen := _,
  F_l_seen := fun_mk (st := s_l_seen) l_l_seen c_l_seen p_l_seen,
  b_l_seen := (fun_mk (st := s_l_seen) l_l_seen c_l_seen p_l_seen).binds (ps := ["_law_one_here", "_law_tops"]) fun _ _ _ _ _ _ us hl => match us, hl with | [_, _], _ => rfl,
  m_l_seen := PySem.W.mg_of X G n_l_seen,
  a_l_due := a_l_due,
  fd_l_due := _,
  F_l_due := fun_mk (st := s_l_due) l_l_due c_l_due p_l_due,
  b_l_due := (fun_mk (st := s_l_due) l_l_due c_l_due p_l_due).binds (ps := ["_law_m", "_law_tops", "_law_share"]) fun _ _ _ _ _ _ us hl => match us, hl with | [_, _, _], _ => rfl,
  m_l_due := PySem.W.mg_of X G n_l_due,
  a_l_said := a_l_said,
  fd_l_said := _,
  F_l_said := fun_mk (st := s_l_said) l_l_said c_l_said p_l_said,
  b_l_said := (fun_mk (st := s_l_said) l_l_said c_l_said p_l_said).binds (ps := ["_law_ask"]) fun _ _ _ _ _ _ us hl => match us, hl with | [_], _ => rfl,
  m_l_said := PySem.W.mg_of X G n_l_said,
  a_law := a_law,
  fd_law := _,
  F_law := fun_mk (st := s_law) l_law c_law p_law,
  b_law := (fun_mk (st := s_law) l_law c_law p_law).binds (ps := ["_law_script"]) fun _ _ _ _ _ _ us hl => match us, hl with | [_], _ => rfl,
  m_law := PySem.W.mg_of X G n_law,
  C_Bar := C_Bar,
  m_Bar := PySem.W.mg_of X G n_Bar,
  c_Bar := ⟨pg_Bar, hd_Bar, po_Bar, sa_Bar⟩,
  mk_Bar := mk_Bar,
  nf_Bar_a := nf_Bar_a,
  nf_Bar_b := nf_Bar_b,
  nf_Bar_c := nf_Bar_c,
  nf_Bar_length := nf_Bar_length,
  nf_Bar_least := nf_Bar_least,
  nf_Bar_greatest := nf_Bar_greatest,
  a_Bar_init := a_Bar_init,
  fd_Bar_init := _,
  F_Bar_init := fun_mk (st := s_Bar_init) l_Bar_init c_Bar_init p_Bar_init,
  b_Bar_init := (fun_mk (st := s_Bar_init) l_Bar_init c_Bar_init p_Bar_init).binds (ps := ["self", "a", "b", "c", "length", "least", "greatest"]) fun _ _ _ _ _ _ us hl => match us, hl with | [_, _, _, _, _, _, _], _ => rfl,
  k_Bar := ⟨mk_Bar, n_Bar_init, i_Bar_init, kc_Bar⟩,
  a_Bar_eq := a_Bar_eq,
  fd_Bar_eq := _,
  F_Bar_eq := fun_mk (st := s_Bar_eq) l_Bar_eq c_Bar_eq p_Bar_eq,
  b_Bar_eq := (fun_mk (st := s_Bar_eq) l_Bar_eq c_Bar_eq p_Bar_eq).binds (ps := ["self", "other"]) fun _ _ _ _ _ _ us hl => match us, hl with | [_, _], _ => rfl,
  M_Bar_eq := ⟨n_Bar_eq, i_Bar_eq, p_Bar_eq⟩,
  ef_Bar := eqFacts_mk ea_NoneType_Bar eb_NoneType_Bar ea_bool_Bar eb_bool_Bar ea_int_Bar eb_int_Bar ea_str_Bar eb_str_Bar ea_list_Bar eb_list_Bar ea_tuple_Bar eb_tuple_Bar ea_dict_Bar eb_dict_Bar,
  ne_Bar := ⟨na_Bar, nb_Bar⟩,
  C_Web := C_Web,
  m_Web := PySem.W.mg_of X G n_Web,
  c_Web := ⟨pg_Web, hd_Web, po_Web, sa_Web⟩,
  mk_Web := mk_Web,
  nf_Web_rods := nf_Web_rods,
  nf_Web_bars := nf_Web_bars,
  nf_Web_held := nf_Web_held,
  a_Web_init := a_Web_init,
  fd_Web_init := _,
  F_Web_init := fun_mk (st := s_Web_init) l_Web_init c_Web_init p_Web_init,
  b_Web_init := (fun_mk (st := s_Web_init) l_Web_init c_Web_init p_Web_init).binds (ps := ["self", "rods", "held", "bars"]) fun _ _ _ _ _ _ us hl => match us, hl with | [_, _, _, _], _ => rfl,
  k_Web := ⟨mk_Web, n_Web_init, i_Web_init, kc_Web⟩,
  a_Web_held := a_Web_held,
  fd_Web_held := _,
  F_Web_held := fun_mk (st := s_Web_held) l_Web_held c_Web_held p_Web_held,
  b_Web_held := (fun_mk (st := s_Web_held) l_Web_held c_Web_held p_Web_held).binds (ps := ["self"]) fun _ _ _ _ _ _ us hl => match us, hl with | [_], _ => rfl,
  M_Web_held := ⟨n_Web_held, i_Web_held, p_Web_held⟩,
  a_Web_hanging := a_Web_hanging,
  fd_Web_hanging := _,
  F_Web_hanging := fun_mk (st := s_Web_hanging) l_Web_hanging c_Web_hanging p_Web_hanging,
  b_Web_hanging := (fun_mk (st := s_Web_hanging) l_Web_hanging c_Web_hanging p_Web_hanging).binds (ps := ["self"]) fun _ _ _ _ _ _ us hl => match us, hl with | [_], _ => rfl,
  M_Web_hanging := ⟨n_Web_hanging, i_Web_hanging, p_Web_hanging⟩,
  a_Web_eq := a_Web_eq,
  fd_Web_eq := _,
  F_Web_eq := fun_mk (st := s_Web_eq) l_Web_eq c_Web_eq p_Web_eq,
  b_Web_eq := (fun_mk (st := s_Web_eq) l_Web_eq c_Web_eq p_Web_eq).binds (ps := ["self", "other"]) fun _ _ _ _ _ _ us hl => match us, hl with | [_, _], _ => rfl,
  M_Web_eq := ⟨n_Web_eq, i_Web_eq, p_Web_eq⟩,
  ef_Web := eqFacts_mk ea_NoneType_Web eb_NoneType_Web ea_bool_Web eb_bool_Web ea_int_Web eb_int_Web ea_str_Web eb_str_Web ea_list_Web eb_list_Web ea_tuple_Web eb_tuple_Web ea_dict_Web eb_dict_Web,
  ne_Web := ⟨na_Web, nb_Web⟩,
  nfst_Bar_Bar := nfst_Bar_Bar,
  nfst_Bar_Web := nfst_Bar_Web,
  dc_Bar_Web := dc_Bar_Web,
  nfst_Web_Bar := nfst_Web_Bar,
  nfst_Web_Web := nfst_Web_Web,
  C_HooksError := C_HooksError,
  m_HooksError := PySem.W.mg_of X G n_HooksError,
  C_BadCount := C_BadCount,
  O_BadCount := ⟨⟨nm_BadCount, q_BadCount, N_BadCount, bs_BadCount, _, sn_BadCount, sub_BadCount, ab_BadCount, col_BadCount, dd_BadCount, u0_BadCount, u1_BadCount, u2_BadCount, u3_BadCount, u5_BadCount, x_BadCount, rfl⟩, sa_BadCount, be_BadCount, ty_BadCount, kc_BadCount⟩,
  m_BadCount := PySem.W.mg_of X G n_BadCount,
  isC_BadCount := ⟨ga_BadCount, gg_BadCount, be_BadCount, hd_BadCount, cl_BadCount, g_clsget, g_clstk, ob_BadCount⟩,
  xf_BadCount := ⟨ga_BadCount, gg_BadCount, be_BadCount, hd_BadCount⟩,
  exm_BadCount_HooksError := PySem.W.exm_ref be_HooksError hd_HooksError ty_HooksError sb_BadCount_HooksError,
  a_BadCount_init := a_BadCount_init,
  fd_BadCount_init := _,
  F_BadCount_init := fun_mk (st := s_BadCount_init) l_BadCount_init c_BadCount_init p_BadCount_init,
  b_BadCount_init := (fun_mk (st := s_BadCount_init) l_BadCount_init c_BadCount_init p_BadCount_init).binds (ps := ["self", "what", "count"]) fun _ _ _ _ _ _ us hl => match us, hl with | [_, _, _], _ => rfl,
  nf_BadCount_what := nf_BadCount_what,
  nf_BadCount_count := nf_BadCount_count,
  X_BadCount := ⟨⟨⟨nm_BadCount, q_BadCount, N_BadCount, bs_BadCount, _, sn_BadCount, sub_BadCount, ab_BadCount, col_BadCount, dd_BadCount, u0_BadCount, u1_BadCount, u2_BadCount, u3_BadCount, u5_BadCount, x_BadCount, rfl⟩, sa_BadCount, be_BadCount, ty_BadCount, kc_BadCount⟩, PySem.W.mg_of X G n_BadCount, n_BadCount_init, t_BadCount_init, (fun_mk (st := s_BadCount_init) l_BadCount_init c_BadCount_init p_BadCount_init).binds (ps := ["self", "what", "count"]) fun _ _ _ _ _ _ us hl => match us, hl with | [_, _, _], _ => rfl, ⟨ga_BadCount, gg_BadCount, be_BadCount, hd_BadCount, cl_BadCount, g_clsget, g_clstk, ob_BadCount⟩, ⟨ga_BadCount, gg_BadCount, be_BadCount, hd_BadCount⟩⟩,
  C_NoRod := C_NoRod,
  O_NoRod := ⟨⟨nm_NoRod, q_NoRod, N_NoRod, bs_NoRod, _, sn_NoRod, sub_NoRod, ab_NoRod, col_NoRod, dd_NoRod, u0_NoRod, u1_NoRod, u2_NoRod, u3_NoRod, u5_NoRod, x_NoRod, rfl⟩, sa_NoRod, be_NoRod, ty_NoRod, kc_NoRod⟩,
  m_NoRod := PySem.W.mg_of X G n_NoRod,
  isC_NoRod := ⟨ga_NoRod, gg_NoRod, be_NoRod, hd_NoRod, cl_NoRod, g_clsget, g_clstk, ob_NoRod⟩,
  xf_NoRod := ⟨ga_NoRod, gg_NoRod, be_NoRod, hd_NoRod⟩,
  exm_NoRod_HooksError := PySem.W.exm_ref be_HooksError hd_HooksError ty_HooksError sb_NoRod_HooksError,
  a_NoRod_init := a_NoRod_init,
  fd_NoRod_init := _,
  F_NoRod_init := fun_mk (st := s_NoRod_init) l_NoRod_init c_NoRod_init p_NoRod_init,
  b_NoRod_init := (fun_mk (st := s_NoRod_init) l_NoRod_init c_NoRod_init p_NoRod_init).binds (ps := ["self", "rod"]) fun _ _ _ _ _ _ us hl => match us, hl with | [_, _], _ => rfl,
  nf_NoRod_rod := nf_NoRod_rod,
  X_NoRod := ⟨⟨⟨nm_NoRod, q_NoRod, N_NoRod, bs_NoRod, _, sn_NoRod, sub_NoRod, ab_NoRod, col_NoRod, dd_NoRod, u0_NoRod, u1_NoRod, u2_NoRod, u3_NoRod, u5_NoRod, x_NoRod, rfl⟩, sa_NoRod, be_NoRod, ty_NoRod, kc_NoRod⟩, PySem.W.mg_of X G n_NoRod, n_NoRod_init, t_NoRod_init, (fun_mk (st := s_NoRod_init) l_NoRod_init c_NoRod_init p_NoRod_init).binds (ps := ["self", "rod"]) fun _ _ _ _ _ _ us hl => match us, hl with | [_, _], _ => rfl, ⟨ga_NoRod, gg_NoRod, be_NoRod, hd_NoRod, cl_NoRod, g_clsget, g_clstk, ob_NoRod⟩, ⟨ga_NoRod, gg_NoRod, be_NoRod, hd_NoRod⟩⟩,
  C_SameRod := C_SameRod,
  O_SameRod := ⟨⟨nm_SameRod, q_SameRod, N_SameRod, bs_SameRod, _, sn_SameRod, sub_SameRod, ab_SameRod, col_SameRod, dd_SameRod, u0_SameRod, u1_SameRod, u2_SameRod, u3_SameRod, u5_SameRod, x_SameRod, rfl⟩, sa_SameRod, be_SameRod, ty_SameRod, kc_SameRod⟩,
  m_SameRod := PySem.W.mg_of X G n_SameRod,
  isC_SameRod := ⟨ga_SameRod, gg_SameRod, be_SameRod, hd_SameRod, cl_SameRod, g_clsget, g_clstk, ob_SameRod⟩,
  xf_SameRod := ⟨ga_SameRod, gg_SameRod, be_SameRod, hd_SameRod⟩,
  exm_SameRod_HooksError := PySem.W.exm_ref be_HooksError hd_HooksError ty_HooksError sb_SameRod_HooksError,
  a_SameRod_init := a_SameRod_init,
  fd_SameRod_init := _,
  F_SameRod_init := fun_mk (st := s_SameRod_init) l_SameRod_init c_SameRod_init p_SameRod_init,
  b_SameRod_init := (fun_mk (st := s_SameRod_init) l_SameRod_init c_SameRod_init p_SameRod_init).binds (ps := ["self", "rod"]) fun _ _ _ _ _ _ us hl => match us, hl with | [_, _], _ => rfl,
  nf_SameRod_rod := nf_SameRod_rod,
  X_SameRod := ⟨⟨⟨nm_SameRod, q_SameRod, N_SameRod, bs_SameRod, _, sn_SameRod, sub_SameRod, ab_SameRod, col_SameRod, dd_SameRod, u0_SameRod, u1_SameRod, u2_SameRod, u3_SameRod, u5_SameRod, x_SameRod, rfl⟩, sa_SameRod, be_SameRod, ty_SameRod, kc_SameRod⟩, PySem.W.mg_of X G n_SameRod, n_SameRod_init, t_SameRod_init, (fun_mk (st := s_SameRod_init) l_SameRod_init c_SameRod_init p_SameRod_init).binds (ps := ["self", "rod"]) fun _ _ _ _ _ _ us hl => match us, hl with | [_, _], _ => rfl, ⟨ga_SameRod, gg_SameRod, be_SameRod, hd_SameRod, cl_SameRod, g_clsget, g_clstk, ob_SameRod⟩, ⟨ga_SameRod, gg_SameRod, be_SameRod, hd_SameRod⟩⟩,
  C_BadSpan := C_BadSpan,
  O_BadSpan := ⟨⟨nm_BadSpan, q_BadSpan, N_BadSpan, bs_BadSpan, _, sn_BadSpan, sub_BadSpan, ab_BadSpan, col_BadSpan, dd_BadSpan, u0_BadSpan, u1_BadSpan, u2_BadSpan, u3_BadSpan, u5_BadSpan, x_BadSpan, rfl⟩, sa_BadSpan, be_BadSpan, ty_BadSpan, kc_BadSpan⟩,
  m_BadSpan := PySem.W.mg_of X G n_BadSpan,
  isC_BadSpan := ⟨ga_BadSpan, gg_BadSpan, be_BadSpan, hd_BadSpan, cl_BadSpan, g_clsget, g_clstk, ob_BadSpan⟩,
  xf_BadSpan := ⟨ga_BadSpan, gg_BadSpan, be_BadSpan, hd_BadSpan⟩,
  exm_BadSpan_HooksError := PySem.W.exm_ref be_HooksError hd_HooksError ty_HooksError sb_BadSpan_HooksError,
  a_BadSpan_init := a_BadSpan_init,
  fd_BadSpan_init := _,
  F_BadSpan_init := fun_mk (st := s_BadSpan_init) l_BadSpan_init c_BadSpan_init p_BadSpan_init,
  b_BadSpan_init := (fun_mk (st := s_BadSpan_init) l_BadSpan_init c_BadSpan_init p_BadSpan_init).binds (ps := ["self", "bar"]) fun _ _ _ _ _ _ us hl => match us, hl with | [_, _], _ => rfl,
  nf_BadSpan_bar := nf_BadSpan_bar,
  X_BadSpan := ⟨⟨⟨nm_BadSpan, q_BadSpan, N_BadSpan, bs_BadSpan, _, sn_BadSpan, sub_BadSpan, ab_BadSpan, col_BadSpan, dd_BadSpan, u0_BadSpan, u1_BadSpan, u2_BadSpan, u3_BadSpan, u5_BadSpan, x_BadSpan, rfl⟩, sa_BadSpan, be_BadSpan, ty_BadSpan, kc_BadSpan⟩, PySem.W.mg_of X G n_BadSpan, n_BadSpan_init, t_BadSpan_init, (fun_mk (st := s_BadSpan_init) l_BadSpan_init c_BadSpan_init p_BadSpan_init).binds (ps := ["self", "bar"]) fun _ _ _ _ _ _ us hl => match us, hl with | [_, _], _ => rfl, ⟨ga_BadSpan, gg_BadSpan, be_BadSpan, hd_BadSpan, cl_BadSpan, g_clsget, g_clstk, ob_BadSpan⟩, ⟨ga_BadSpan, gg_BadSpan, be_BadSpan, hd_BadSpan⟩⟩,
  C_NotSquare := C_NotSquare,
  O_NotSquare := ⟨⟨nm_NotSquare, q_NotSquare, N_NotSquare, bs_NotSquare, _, sn_NotSquare, sub_NotSquare, ab_NotSquare, col_NotSquare, dd_NotSquare, u0_NotSquare, u1_NotSquare, u2_NotSquare, u3_NotSquare, u5_NotSquare, x_NotSquare, rfl⟩, sa_NotSquare, be_NotSquare, ty_NotSquare, kc_NotSquare⟩,
  m_NotSquare := PySem.W.mg_of X G n_NotSquare,
  isC_NotSquare := ⟨ga_NotSquare, gg_NotSquare, be_NotSquare, hd_NotSquare, cl_NotSquare, g_clsget, g_clstk, ob_NotSquare⟩,
  xf_NotSquare := ⟨ga_NotSquare, gg_NotSquare, be_NotSquare, hd_NotSquare⟩,
  exm_NotSquare_HooksError := PySem.W.exm_ref be_HooksError hd_HooksError ty_HooksError sb_NotSquare_HooksError,
  a_NotSquare_init := a_NotSquare_init,
  fd_NotSquare_init := _,
  F_NotSquare_init := fun_mk (st := s_NotSquare_init) l_NotSquare_init c_NotSquare_init p_NotSquare_init,
  b_NotSquare_init := (fun_mk (st := s_NotSquare_init) l_NotSquare_init c_NotSquare_init p_NotSquare_init).binds (ps := ["self", "bars", "wanted"]) fun _ _ _ _ _ _ us hl => match us, hl with | [_, _, _], _ => rfl,
  nf_NotSquare_bars := nf_NotSquare_bars,
  nf_NotSquare_wanted := nf_NotSquare_wanted,
  X_NotSquare := ⟨⟨⟨nm_NotSquare, q_NotSquare, N_NotSquare, bs_NotSquare, _, sn_NotSquare, sub_NotSquare, ab_NotSquare, col_NotSquare, dd_NotSquare, u0_NotSquare, u1_NotSquare, u2_NotSquare, u3_NotSquare, u5_NotSquare, x_NotSquare, rfl⟩, sa_NotSquare, be_NotSquare, ty_NotSquare, kc_NotSquare⟩, PySem.W.mg_of X G n_NotSquare, n_NotSquare_init, t_NotSquare_init, (fun_mk (st := s_NotSquare_init) l_NotSquare_init c_NotSquare_init p_NotSquare_init).binds (ps := ["self", "bars", "wanted"]) fun _ _ _ _ _ _ us hl => match us, hl with | [_, _, _], _ => rfl, ⟨ga_NotSquare, gg_NotSquare, be_NotSquare, hd_NotSquare, cl_NotSquare, g_clsget, g_clstk, ob_NotSquare⟩, ⟨ga_NotSquare, gg_NotSquare, be_NotSquare, hd_NotSquare⟩⟩,
  C_NotHeld := C_NotHeld,
  O_NotHeld := ⟨⟨nm_NotHeld, q_NotHeld, N_NotHeld, bs_NotHeld, _, sn_NotHeld, sub_NotHeld, ab_NotHeld, col_NotHeld, dd_NotHeld, u0_NotHeld, u1_NotHeld, u2_NotHeld, u3_NotHeld, u5_NotHeld, x_NotHeld, rfl⟩, sa_NotHeld, be_NotHeld, ty_NotHeld, kc_NotHeld⟩,
  m_NotHeld := PySem.W.mg_of X G n_NotHeld,
  isC_NotHeld := ⟨ga_NotHeld, gg_NotHeld, be_NotHeld, hd_NotHeld, cl_NotHeld, g_clsget, g_clstk, ob_NotHeld⟩,
  xf_NotHeld := ⟨ga_NotHeld, gg_NotHeld, be_NotHeld, hd_NotHeld⟩,
  exm_NotHeld_HooksError := PySem.W.exm_ref be_HooksError hd_HooksError ty_HooksError sb_NotHeld_HooksError,
  a_NotHeld_init := a_NotHeld_init,
  fd_NotHeld_init := _,
  F_NotHeld_init := fun_mk (st := s_NotHeld_init) l_NotHeld_init c_NotHeld_init p_NotHeld_init,
  b_NotHeld_init := (fun_mk (st := s_NotHeld_init) l_NotHeld_init c_NotHeld_init p_NotHeld_init).binds (ps := ["self", "rod"]) fun _ _ _ _ _ _ us hl => match us, hl with | [_, _], _ => rfl,
  nf_NotHeld_rod := nf_NotHeld_rod,
  X_NotHeld := ⟨⟨⟨nm_NotHeld, q_NotHeld, N_NotHeld, bs_NotHeld, _, sn_NotHeld, sub_NotHeld, ab_NotHeld, col_NotHeld, dd_NotHeld, u0_NotHeld, u1_NotHeld, u2_NotHeld, u3_NotHeld, u5_NotHeld, x_NotHeld, rfl⟩, sa_NotHeld, be_NotHeld, ty_NotHeld, kc_NotHeld⟩, PySem.W.mg_of X G n_NotHeld, n_NotHeld_init, t_NotHeld_init, (fun_mk (st := s_NotHeld_init) l_NotHeld_init c_NotHeld_init p_NotHeld_init).binds (ps := ["self", "rod"]) fun _ _ _ _ _ _ us hl => match us, hl with | [_, _], _ => rfl, ⟨ga_NotHeld, gg_NotHeld, be_NotHeld, hd_NotHeld, cl_NotHeld, g_clsget, g_clstk, ob_NotHeld⟩, ⟨ga_NotHeld, gg_NotHeld, be_NotHeld, hd_NotHeld⟩⟩,
  kit_BadCount_BadCount := kit_self,
  kit_BadCount_NotHeld := kit_two dc_BadCount_NotHeld hd_NotHeld ty_NotHeld sb_BadCount_NotHeld,
  kit_NotHeld_BadCount := kit_two dc_NotHeld_BadCount hd_BadCount ty_BadCount sb_NotHeld_BadCount,
  kit_NotHeld_NotHeld := kit_self,
  z_abs := PySem.W.mg_none_of X G z_abs,
  z_len := PySem.W.mg_none_of X G z_len,
  z_range := PySem.W.mg_none_of X G z_range,
  z_tuple := PySem.W.mg_none_of X G z_tuple,
  z_list := PySem.W.mg_none_of X G z_list,
  z_dict := PySem.W.mg_none_of X G z_dict,
  z_sorted := PySem.W.mg_none_of X G z_sorted,
  z_enumerate := PySem.W.mg_none_of X G z_enumerate,
  z_zip := PySem.W.mg_none_of X G z_zip,
  z_min := PySem.W.mg_none_of X G z_min,
  z_max := PySem.W.mg_none_of X G z_max,
  z_int := PySem.W.mg_none_of X G z_int,
  z_isinstance := PySem.W.mg_none_of X G z_isinstance,
  z_type := PySem.W.mg_none_of X G z_type,
  z_sum := PySem.W.mg_none_of X G z_sum,
  m_gcd := PySem.W.mg_of X G v_gcd,
  t_LEAST_RODS := t_LEAST_RODS,
  m_LEAST_RODS := PySem.W.mg_of X G v_LEAST_RODS,
  t_MOST_RODS := t_MOST_RODS,
  m_MOST_RODS := PySem.W.mg_of X G v_MOST_RODS,
  t_MOST_BARS := t_MOST_BARS,
  m_MOST_BARS := PySem.W.mg_of X G v_MOST_BARS,
  t_MOST_HEIGHT := t_MOST_HEIGHT,
  m_MOST_HEIGHT := PySem.W.mg_of X G v_MOST_HEIGHT,
  t_MOST_LENGTH := t_MOST_LENGTH,
  m_MOST_LENGTH := PySem.W.mg_of X G v_MOST_LENGTH }
theorem txH {w : World} {K : PySem.W.Frag} {h : Heap} {mg : Str → Option Value} (X : K.In h) (G : h.Ns mainGlobals mg) (c : He.SaysX faH fnH [] [] exK w h K) : Nonempty (Tx K mg) := by
  have hx := c.more
  have x0 : (exL0 K).all id = true := ex_at hx 0 rfl
  have x1 : (exL1 K).all id = true := ex_at hx 1 rfl
  have x2 : (exL2 K).all id = true := ex_at hx 2 rfl
  have x3 : (exL3 K).all id = true := ex_at hx 3 rfl
  have x4 : (exL4 K).all id = true := ex_at hx 4 rfl
  have x5 : (exL5 K).all id = true := ex_at hx 5 rfl
  obtain ⟨nm_BadCount, q_BadCount, N_BadCount, bs_BadCount, sn_BadCount, sub_BadCount, ab_BadCount, col_BadCount, dd_BadCount, u0_BadCount, u1_BadCount, u2_BadCount, u3_BadCount, u5_BadCount, x_BadCount⟩ := xcB_ok (ex_at x2 21 rfl)
  obtain ⟨nm_NoRod, q_NoRod, N_NoRod, bs_NoRod, sn_NoRod, sub_NoRod, ab_NoRod, col_NoRod, dd_NoRod, u0_NoRod, u1_NoRod, u2_NoRod, u3_NoRod, u5_NoRod, x_NoRod⟩ := xcB_ok (ex_at x2 37 rfl)
  obtain ⟨nm_SameRod, q_SameRod, N_SameRod, bs_SameRod, sn_SameRod, sub_SameRod, ab_SameRod, col_SameRod, dd_SameRod, u0_SameRod, u1_SameRod, u2_SameRod, u3_SameRod, u5_SameRod, x_SameRod⟩ := xcB_ok (ex_at x3 12 rfl)
  obtain ⟨nm_BadSpan, q_BadSpan, N_BadSpan, bs_BadSpan, sn_BadSpan, sub_BadSpan, ab_BadSpan, col_BadSpan, dd_BadSpan, u0_BadSpan, u1_BadSpan, u2_BadSpan, u3_BadSpan, u5_BadSpan, x_BadSpan⟩ := xcB_ok (ex_at x3 27 rfl)
  obtain ⟨nm_NotSquare, q_NotSquare, N_NotSquare, bs_NotSquare, sn_NotSquare, sub_NotSquare, ab_NotSquare, col_NotSquare, dd_NotSquare, u0_NotSquare, u1_NotSquare, u2_NotSquare, u3_NotSquare, u5_NotSquare, x_NotSquare⟩ := xcB_ok (ex_at x4 2 rfl)
  obtain ⟨nm_NotHeld, q_NotHeld, N_NotHeld, bs_NotHeld, sn_NotHeld, sub_NotHeld, ab_NotHeld, col_NotHeld, dd_NotHeld, u0_NotHeld, u1_NotHeld, u2_NotHeld, u3_NotHeld, u5_NotHeld, x_NotHeld⟩ := xcB_ok (ex_at x4 18 rfl)
  obtain ⟨t_LEAST_RODS, v_LEAST_RODS⟩ := intB_ok (ex_at x5 12 rfl)
  obtain ⟨t_MOST_RODS, v_MOST_RODS⟩ := intB_ok (ex_at x5 13 rfl)
  obtain ⟨t_MOST_BARS, v_MOST_BARS⟩ := intB_ok (ex_at x5 14 rfl)
  obtain ⟨t_MOST_HEIGHT, v_MOST_HEIGHT⟩ := intB_ok (ex_at x5 15 rfl)
  obtain ⟨t_MOST_LENGTH, v_MOST_LENGTH⟩ := intB_ok (ex_at x5 16 rfl)
  obtain ⟨fd_divisor, ⟨oc_divisor, od_divisor, dV_divisor, kV_divisor, dc_divisor, pm_divisor, an_divisor, cd_divisor, ct_divisor, sl_divisor, e_divisor, l_divisor, c_divisor, g_divisor, _⟩, p_divisor⟩ := c.t.d.def_ 0 (d := dH_divisor) rfl
  cases def_none g_divisor
  subst e_divisor
  obtain ⟨fd_lowest, ⟨oc_lowest, od_lowest, dV_lowest, kV_lowest, dc_lowest, pm_lowest, an_lowest, cd_lowest, ct_lowest, sl_lowest, e_lowest, l_lowest, c_lowest, g_lowest, _⟩, p_lowest⟩ := c.t.d.def_ 1 (d := dH_lowest) rfl
  cases def_none g_lowest
  subst e_lowest
  obtain ⟨fd_fraction, ⟨oc_fraction, od_fraction, dV_fraction, kV_fraction, dc_fraction, pm_fraction, an_fraction, cd_fraction, ct_fraction, sl_fraction, e_fraction, l_fraction, c_fraction, g_fraction, _⟩, p_fraction⟩ := c.t.d.def_ 2 (d := dH_fraction) rfl
  cases def_none g_fraction
  subst e_fraction
  obtain ⟨fd_led, ⟨oc_led, od_led, dV_led, kV_led, dc_led, pm_led, an_led, cd_led, ct_led, sl_led, e_led, l_led, c_led, g_led, w_led⟩, p_led⟩ := c.t.d.def_ 3 (d := dH_led) rfl
  cases def_none g_led
  subst e_led
  obtain ⟨fd_check_heights, ⟨oc_check_heights, od_check_heights, dV_check_heights, kV_check_heights, dc_check_heights, pm_check_heights, an_check_heights, cd_check_heights, ct_check_heights, sl_check_heights, e_check_heights, l_check_heights, c_check_heights, g_check_heights, _⟩, p_check_heights⟩ := c.t.d.def_ 4 (d := dH_check_heights) rfl
  cases def_none g_check_heights
  subst e_check_heights
  obtain ⟨fd_led_bar, ⟨oc_led_bar, od_led_bar, dV_led_bar, kV_led_bar, dc_led_bar, pm_led_bar, an_led_bar, cd_led_bar, ct_led_bar, sl_led_bar, e_led_bar, l_led_bar, c_led_bar, g_led_bar, _⟩, p_led_bar⟩ := c.t.d.def_ 5 (d := dH_led_bar) rfl
  cases def_none g_led_bar
  subst e_led_bar
  obtain ⟨fd_check_rods, ⟨oc_check_rods, od_check_rods, dV_check_rods, kV_check_rods, dc_check_rods, pm_check_rods, an_check_rods, cd_check_rods, ct_check_rods, sl_check_rods, e_check_rods, l_check_rods, c_check_rods, g_check_rods, _⟩, p_check_rods⟩ := c.t.d.def_ 6 (d := dH_check_rods) rfl
  cases def_none g_check_rods
  subst e_check_rods
  obtain ⟨fd_check_bars, ⟨oc_check_bars, od_check_bars, dV_check_bars, kV_check_bars, dc_check_bars, pm_check_bars, an_check_bars, cd_check_bars, ct_check_bars, sl_check_bars, e_check_bars, l_check_bars, c_check_bars, g_check_bars, _⟩, p_check_bars⟩ := c.t.d.def_ 7 (d := dH_check_bars) rfl
  cases def_none g_check_bars
  subst e_check_bars
  obtain ⟨fd_check_bar, ⟨oc_check_bar, od_check_bar, dV_check_bar, kV_check_bar, dc_check_bar, pm_check_bar, an_check_bar, cd_check_bar, ct_check_bar, sl_check_bar, e_check_bar, l_check_bar, c_check_bar, g_check_bar, _⟩, p_check_bar⟩ := c.t.d.def_ 8 (d := dH_check_bar) rfl
  cases def_none g_check_bar
  subst e_check_bar
  obtain ⟨fd_l_well, ⟨oc_l_well, od_l_well, dV_l_well, kV_l_well, dc_l_well, pm_l_well, an_l_well, cd_l_well, ct_l_well, sl_l_well, e_l_well, l_l_well, c_l_well, g_l_well, _⟩, p_l_well⟩ := c.t.d.def_ 9 (d := dH_l_well) rfl
  cases def_none g_l_well
  subst e_l_well
  obtain ⟨fd_l_draw, ⟨oc_l_draw, od_l_draw, dV_l_draw, kV_l_draw, dc_l_draw, pm_l_draw, an_l_draw, cd_l_draw, ct_l_draw, sl_l_draw, e_l_draw, l_l_draw, c_l_draw, g_l_draw, _⟩, p_l_draw⟩ := c.t.d.def_ 10 (d := dH_l_draw) rfl
  cases def_none g_l_draw
  subst e_l_draw
  obtain ⟨fd_l_one, ⟨oc_l_one, od_l_one, dV_l_one, kV_l_one, dc_l_one, pm_l_one, an_l_one, cd_l_one, ct_l_one, sl_l_one, e_l_one, l_l_one, c_l_one, g_l_one, _⟩, p_l_one⟩ := c.t.d.def_ 11 (d := dH_l_one) rfl
  cases def_none g_l_one
  subst e_l_one
  obtain ⟨fd_l_mixed, ⟨oc_l_mixed, od_l_mixed, dV_l_mixed, kV_l_mixed, dc_l_mixed, pm_l_mixed, an_l_mixed, cd_l_mixed, ct_l_mixed, sl_l_mixed, e_l_mixed, l_l_mixed, c_l_mixed, g_l_mixed, _⟩, p_l_mixed⟩ := c.t.d.def_ 12 (d := dH_l_mixed) rfl
  cases def_none g_l_mixed
  subst e_l_mixed
  obtain ⟨fd_l_bar_fact, ⟨oc_l_bar_fact, od_l_bar_fact, dV_l_bar_fact, kV_l_bar_fact, dc_l_bar_fact, pm_l_bar_fact, an_l_bar_fact, cd_l_bar_fact, ct_l_bar_fact, sl_l_bar_fact, e_l_bar_fact, l_l_bar_fact, c_l_bar_fact, g_l_bar_fact, _⟩, p_l_bar_fact⟩ := c.t.d.def_ 13 (d := dH_l_bar_fact) rfl
  cases def_none g_l_bar_fact
  subst e_l_bar_fact
  obtain ⟨fd_l_any, ⟨oc_l_any, od_l_any, dV_l_any, kV_l_any, dc_l_any, pm_l_any, an_l_any, cd_l_any, ct_l_any, sl_l_any, e_l_any, l_l_any, c_l_any, g_l_any, _⟩, p_l_any⟩ := c.t.d.def_ 14 (d := dH_l_any) rfl
  cases def_none g_l_any
  subst e_l_any
  obtain ⟨fd_l_web, ⟨oc_l_web, od_l_web, dV_l_web, kV_l_web, dc_l_web, pm_l_web, an_l_web, cd_l_web, ct_l_web, sl_l_web, e_l_web, l_l_web, c_l_web, g_l_web, _⟩, p_l_web⟩ := c.t.d.def_ 15 (d := dH_l_web) rfl
  cases def_none g_l_web
  subst e_l_web
  obtain ⟨fd_l_common, ⟨oc_l_common, od_l_common, dV_l_common, kV_l_common, dc_l_common, pm_l_common, an_l_common, cd_l_common, ct_l_common, sl_l_common, e_l_common, l_l_common, c_l_common, g_l_common, _⟩, p_l_common⟩ := c.t.d.def_ 16 (d := dH_l_common) rfl
  cases def_none g_l_common
  subst e_l_common
  obtain ⟨fd_l_height, ⟨oc_l_height, od_l_height, dV_l_height, kV_l_height, dc_l_height, pm_l_height, an_l_height, cd_l_height, ct_l_height, sl_l_height, e_l_height, l_l_height, c_l_height, g_l_height, _⟩, p_l_height⟩ := c.t.d.def_ 17 (d := dH_l_height) rfl
  cases def_none g_l_height
  subst e_l_height
  obtain ⟨fd_l_seen, ⟨oc_l_seen, od_l_seen, dV_l_seen, kV_l_seen, dc_l_seen, pm_l_seen, an_l_seen, cd_l_seen, ct_l_seen, sl_l_seen, e_l_seen, l_l_seen, c_l_seen, g_l_seen, _⟩, p_l_seen⟩ := c.t.d.def_ 18 (d := dH_l_seen) rfl
  cases def_none g_l_seen
  subst e_l_seen
  obtain ⟨fd_l_due, ⟨oc_l_due, od_l_due, dV_l_due, kV_l_due, dc_l_due, pm_l_due, an_l_due, cd_l_due, ct_l_due, sl_l_due, e_l_due, l_l_due, c_l_due, g_l_due, _⟩, p_l_due⟩ := c.t.d.def_ 19 (d := dH_l_due) rfl
  cases def_none g_l_due
  subst e_l_due
  obtain ⟨fd_l_said, ⟨oc_l_said, od_l_said, dV_l_said, kV_l_said, dc_l_said, pm_l_said, an_l_said, cd_l_said, ct_l_said, sl_l_said, e_l_said, l_l_said, c_l_said, g_l_said, _⟩, p_l_said⟩ := c.t.d.def_ 20 (d := dH_l_said) rfl
  cases def_none g_l_said
  subst e_l_said
  obtain ⟨fd_law, ⟨oc_law, od_law, dV_law, kV_law, dc_law, pm_law, an_law, cd_law, ct_law, sl_law, e_law, l_law, c_law, g_law, _⟩, p_law⟩ := c.t.d.def_ 21 (d := dH_law) rfl
  cases def_none g_law
  subst e_law
  obtain ⟨fd_Bar_init, ⟨oc_Bar_init, od_Bar_init, dV_Bar_init, kV_Bar_init, dc_Bar_init, pm_Bar_init, an_Bar_init, cd_Bar_init, ct_Bar_init, sl_Bar_init, e_Bar_init, l_Bar_init, c_Bar_init, g_Bar_init, _⟩, p_Bar_init⟩ := c.t.d.def_ 22 (d := dH_Bar_init) rfl
  cases def_none g_Bar_init
  subst e_Bar_init
  obtain ⟨fd_Bar_eq, ⟨oc_Bar_eq, od_Bar_eq, dV_Bar_eq, kV_Bar_eq, dc_Bar_eq, pm_Bar_eq, an_Bar_eq, cd_Bar_eq, ct_Bar_eq, sl_Bar_eq, e_Bar_eq, l_Bar_eq, c_Bar_eq, g_Bar_eq, _⟩, p_Bar_eq⟩ := c.t.d.def_ 23 (d := dH_Bar_eq) rfl
  cases def_none g_Bar_eq
  subst e_Bar_eq
  obtain ⟨fd_Web_init, ⟨oc_Web_init, od_Web_init, dV_Web_init, kV_Web_init, dc_Web_init, pm_Web_init, an_Web_init, cd_Web_init, ct_Web_init, sl_Web_init, e_Web_init, l_Web_init, c_Web_init, g_Web_init, _⟩, p_Web_init⟩ := c.t.d.def_ 24 (d := dH_Web_init) rfl
  cases def_none g_Web_init
  subst e_Web_init
  obtain ⟨fd_Web_held, ⟨oc_Web_held, od_Web_held, dV_Web_held, kV_Web_held, dc_Web_held, pm_Web_held, an_Web_held, cd_Web_held, ct_Web_held, sl_Web_held, e_Web_held, l_Web_held, c_Web_held, g_Web_held, _⟩, p_Web_held⟩ := c.t.d.def_ 25 (d := dH_Web_held) rfl
  cases def_none g_Web_held
  subst e_Web_held
  obtain ⟨fd_Web_hanging, ⟨oc_Web_hanging, od_Web_hanging, dV_Web_hanging, kV_Web_hanging, dc_Web_hanging, pm_Web_hanging, an_Web_hanging, cd_Web_hanging, ct_Web_hanging, sl_Web_hanging, e_Web_hanging, l_Web_hanging, c_Web_hanging, g_Web_hanging, _⟩, p_Web_hanging⟩ := c.t.d.def_ 26 (d := dH_Web_hanging) rfl
  cases def_none g_Web_hanging
  subst e_Web_hanging
  obtain ⟨fd_Web_eq, ⟨oc_Web_eq, od_Web_eq, dV_Web_eq, kV_Web_eq, dc_Web_eq, pm_Web_eq, an_Web_eq, cd_Web_eq, ct_Web_eq, sl_Web_eq, e_Web_eq, l_Web_eq, c_Web_eq, g_Web_eq, _⟩, p_Web_eq⟩ := c.t.d.def_ 27 (d := dH_Web_eq) rfl
  cases def_none g_Web_eq
  subst e_Web_eq
  obtain ⟨fd_BadCount_init, ⟨oc_BadCount_init, od_BadCount_init, dV_BadCount_init, kV_BadCount_init, dc_BadCount_init, pm_BadCount_init, an_BadCount_init, cd_BadCount_init, ct_BadCount_init, sl_BadCount_init, e_BadCount_init, l_BadCount_init, c_BadCount_init, g_BadCount_init, _⟩, p_BadCount_init⟩ := c.t.d.def_ 28 (d := dH_BadCount_init) rfl
  cases def_none g_BadCount_init
  subst e_BadCount_init
  obtain ⟨fd_NoRod_init, ⟨oc_NoRod_init, od_NoRod_init, dV_NoRod_init, kV_NoRod_init, dc_NoRod_init, pm_NoRod_init, an_NoRod_init, cd_NoRod_init, ct_NoRod_init, sl_NoRod_init, e_NoRod_init, l_NoRod_init, c_NoRod_init, g_NoRod_init, _⟩, p_NoRod_init⟩ := c.t.d.def_ 29 (d := dH_NoRod_init) rfl
  cases def_none g_NoRod_init
  subst e_NoRod_init
  obtain ⟨fd_SameRod_init, ⟨oc_SameRod_init, od_SameRod_init, dV_SameRod_init, kV_SameRod_init, dc_SameRod_init, pm_SameRod_init, an_SameRod_init, cd_SameRod_init, ct_SameRod_init, sl_SameRod_init, e_SameRod_init, l_SameRod_init, c_SameRod_init, g_SameRod_init, _⟩, p_SameRod_init⟩ := c.t.d.def_ 30 (d := dH_SameRod_init) rfl
  cases def_none g_SameRod_init
  subst e_SameRod_init
  obtain ⟨fd_BadSpan_init, ⟨oc_BadSpan_init, od_BadSpan_init, dV_BadSpan_init, kV_BadSpan_init, dc_BadSpan_init, pm_BadSpan_init, an_BadSpan_init, cd_BadSpan_init, ct_BadSpan_init, sl_BadSpan_init, e_BadSpan_init, l_BadSpan_init, c_BadSpan_init, g_BadSpan_init, _⟩, p_BadSpan_init⟩ := c.t.d.def_ 31 (d := dH_BadSpan_init) rfl
  cases def_none g_BadSpan_init
  subst e_BadSpan_init
  obtain ⟨fd_NotSquare_init, ⟨oc_NotSquare_init, od_NotSquare_init, dV_NotSquare_init, kV_NotSquare_init, dc_NotSquare_init, pm_NotSquare_init, an_NotSquare_init, cd_NotSquare_init, ct_NotSquare_init, sl_NotSquare_init, e_NotSquare_init, l_NotSquare_init, c_NotSquare_init, g_NotSquare_init, _⟩, p_NotSquare_init⟩ := c.t.d.def_ 32 (d := dH_NotSquare_init) rfl
  cases def_none g_NotSquare_init
  subst e_NotSquare_init
  obtain ⟨fd_NotHeld_init, ⟨oc_NotHeld_init, od_NotHeld_init, dV_NotHeld_init, kV_NotHeld_init, dc_NotHeld_init, pm_NotHeld_init, an_NotHeld_init, cd_NotHeld_init, ct_NotHeld_init, sl_NotHeld_init, e_NotHeld_init, l_NotHeld_init, c_NotHeld_init, g_NotHeld_init, _⟩, p_NotHeld_init⟩ := c.t.d.def_ 33 (d := dH_NotHeld_init) rfl
  cases def_none g_NotHeld_init
  subst e_NotHeld_init
  exact ⟨mk_tx X G (of_decide_eq_true (ex_at x0 0 rfl)) (of_decide_eq_true (ex_at x0 1 rfl)) (of_decide_eq_true (ex_at x0 2 rfl)) l_divisor c_divisor p_divisor (of_decide_eq_true (ex_at x0 3 rfl)) l_lowest c_lowest p_lowest (of_decide_eq_true (ex_at x0 4 rfl)) l_fraction c_fraction p_fraction (of_decide_eq_true (ex_at x0 5 rfl)) l_led c_led p_led w_led (of_decide_eq_true (ex_at x0 6 rfl)) l_check_heights c_check_heights p_check_heights (of_decide_eq_true (ex_at x0 7 rfl)) l_led_bar c_led_bar p_led_bar (of_decide_eq_true (ex_at x0 8 rfl)) l_check_rods c_check_rods p_check_rods (of_decide_eq_true (ex_at x0 9 rfl)) l_check_bars c_check_bars p_check_bars (of_decide_eq_true (ex_at x0 10 rfl)) l_check_bar c_check_bar p_check_bar (of_decide_eq_true (ex_at x0 11 rfl)) l_l_well c_l_well p_l_well (of_decide_eq_true (ex_at x0 12 rfl)) l_l_draw c_l_draw p_l_draw (of_decide_eq_true (ex_at x0 13 rfl)) l_l_one c_l_one p_l_one (of_decide_eq_true (ex_at x0 14 rfl)) l_l_mixed c_l_mixed p_l_mixed (of_decide_eq_true (ex_at x0 15 rfl)) l_l_bar_fact c_l_bar_fact p_l_bar_fact (of_decide_eq_true (ex_at x0 16 rfl)) l_l_any c_l_any p_l_any (of_decide_eq_true (ex_at x0 17 rfl)) l_l_web c_l_web p_l_web (of_decide_eq_true (ex_at x0 18 rfl)) l_l_common c_l_common p_l_common (of_decide_eq_true (ex_at x0 19 rfl)) l_l_height c_l_height p_l_height (of_decide_eq_true (ex_at x0 20 rfl)) l_l_seen c_l_seen p_l_seen (of_decide_eq_true (ex_at x0 21 rfl)) l_l_due c_l_due p_l_due (of_decide_eq_true (ex_at x0 22 rfl)) l_l_said c_l_said p_l_said (of_decide_eq_true (ex_at x0 23 rfl)) l_law c_law p_law (of_decide_eq_true (ex_at x0 24 rfl)) (ex_at x0 25 rfl) (ex_at x0 26 rfl) (ex_at x0 27 rfl) (of_decide_eq_true (ex_at x0 28 rfl)) (ex_at x0 29 rfl) (ex_at x0 30 rfl) (of_decide_eq_true (ex_at x0 31 rfl)) (of_decide_eq_true (ex_at x0 32 rfl)) (of_decide_eq_true (ex_at x0 33 rfl)) (of_decide_eq_true (ex_at x0 34 rfl)) (of_decide_eq_true (ex_at x0 35 rfl)) (of_decide_eq_true (ex_at x0 36 rfl)) (of_decide_eq_true (ex_at x0 37 rfl)) (ex_at x0 38 rfl) l_Bar_init c_Bar_init p_Bar_init (of_decide_eq_true (ex_at x0 39 rfl)) (ex_at x1 0 rfl) l_Bar_eq c_Bar_eq p_Bar_eq (ex_at x1 1 rfl) (of_decide_eq_true (ex_at x1 2 rfl)) (ex_at x1 3 rfl) (of_decide_eq_true (ex_at x1 4 rfl)) (ex_at x1 5 rfl) (of_decide_eq_true (ex_at x1 6 rfl)) (ex_at x1 7 rfl) (of_decide_eq_true (ex_at x1 8 rfl)) (ex_at x1 9 rfl) (of_decide_eq_true (ex_at x1 10 rfl)) (ex_at x1 11 rfl) (of_decide_eq_true (ex_at x1 12 rfl)) (ex_at x1 13 rfl) (of_decide_eq_true (ex_at x1 14 rfl)) (of_decide_eq_true (ex_at x1 15 rfl)) (of_decide_eq_true (ex_at x1 16 rfl)) (of_decide_eq_true (ex_at x1 17 rfl)) (ex_at x1 18 rfl) (ex_at x1 19 rfl) (ex_at x1 20 rfl) (of_decide_eq_true (ex_at x1 21 rfl)) (ex_at x1 22 rfl) (ex_at x1 23 rfl) (of_decide_eq_true (ex_at x1 24 rfl)) (of_decide_eq_true (ex_at x1 25 rfl)) (of_decide_eq_true (ex_at x1 26 rfl)) (of_decide_eq_true (ex_at x1 27 rfl)) (ex_at x1 28 rfl) l_Web_init c_Web_init p_Web_init (of_decide_eq_true (ex_at x1 29 rfl)) (ex_at x1 30 rfl) l_Web_held c_Web_held p_Web_held (of_decide_eq_true (ex_at x1 31 rfl)) (ex_at x1 32 rfl) l_Web_hanging c_Web_hanging p_Web_hanging (of_decide_eq_true (ex_at x1 33 rfl)) (ex_at x1 34 rfl) l_Web_eq c_Web_eq p_Web_eq (ex_at x1 35 rfl) (of_decide_eq_true (ex_at x1 36 rfl)) (ex_at x1 37 rfl) (of_decide_eq_true (ex_at x1 38 rfl)) (ex_at x1 39 rfl) (of_decide_eq_true (ex_at x2 0 rfl)) (ex_at x2 1 rfl) (of_decide_eq_true (ex_at x2 2 rfl)) (ex_at x2 3 rfl) (of_decide_eq_true (ex_at x2 4 rfl)) (ex_at x2 5 rfl) (of_decide_eq_true (ex_at x2 6 rfl)) (ex_at x2 7 rfl) (of_decide_eq_true (ex_at x2 8 rfl)) (of_decide_eq_true (ex_at x2 9 rfl)) (of_decide_eq_true (ex_at x2 10 rfl)) (ex_at x2 11 rfl) (ex_at x2 12 rfl) (of_decide_eq_true (ex_at x2 13 rfl)) (ex_at x2 14 rfl) (ex_at x2 15 rfl) (of_decide_eq_true (ex_at x2 16 rfl)) (of_decide_eq_true (ex_at x2 17 rfl)) (of_decide_eq_true (ex_at x2 18 rfl)) (ex_at x2 19 rfl) (of_decide_eq_true (ex_at x2 20 rfl)) x_BadCount (of_decide_eq_true (ex_at x2 22 rfl)) (of_decide_eq_true (ex_at x2 23 rfl)) (of_decide_eq_true (ex_at x2 24 rfl)) (ex_at x2 25 rfl) (of_decide_eq_true (ex_at x2 26 rfl)) (of_decide_eq_true (ex_at x2 27 rfl)) (ex_at x2 28 rfl) (of_decide_eq_true (ex_at x2 29 rfl)) (of_decide_eq_true (ex_at x2 30 rfl)) (of_decide_eq_true (ex_at x2 31 rfl)) (of_decide_eq_true (ex_at x2 32 rfl)) (of_decide_eq_true (ex_at x2 33 rfl)) l_BadCount_init c_BadCount_init p_BadCount_init (of_decide_eq_true (ex_at x2 34 rfl)) (of_decide_eq_true (ex_at x2 35 rfl)) (of_decide_eq_true (ex_at x2 36 rfl)) x_NoRod (of_decide_eq_true (ex_at x2 38 rfl)) (of_decide_eq_true (ex_at x2 39 rfl)) (of_decide_eq_true (ex_at x3 0 rfl)) (ex_at x3 1 rfl) (of_decide_eq_true (ex_at x3 2 rfl)) (of_decide_eq_true (ex_at x3 3 rfl)) (ex_at x3 4 rfl) (of_decide_eq_true (ex_at x3 5 rfl)) (of_decide_eq_true (ex_at x3 6 rfl)) (of_decide_eq_true (ex_at x3 7 rfl)) (of_decide_eq_true (ex_at x3 8 rfl)) (of_decide_eq_true (ex_at x3 9 rfl)) l_NoRod_init c_NoRod_init p_NoRod_init (of_decide_eq_true (ex_at x3 10 rfl)) (of_decide_eq_true (ex_at x3 11 rfl)) x_SameRod (of_decide_eq_true (ex_at x3 13 rfl)) (of_decide_eq_true (ex_at x3 14 rfl)) (of_decide_eq_true (ex_at x3 15 rfl)) (ex_at x3 16 rfl) (of_decide_eq_true (ex_at x3 17 rfl)) (of_decide_eq_true (ex_at x3 18 rfl)) (ex_at x3 19 rfl) (of_decide_eq_true (ex_at x3 20 rfl)) (of_decide_eq_true (ex_at x3 21 rfl)) (of_decide_eq_true (ex_at x3 22 rfl)) (of_decide_eq_true (ex_at x3 23 rfl)) (of_decide_eq_true (ex_at x3 24 rfl)) l_SameRod_init c_SameRod_init p_SameRod_init (of_decide_eq_true (ex_at x3 25 rfl)) (of_decide_eq_true (ex_at x3 26 rfl)) x_BadSpan (of_decide_eq_true (ex_at x3 28 rfl)) (of_decide_eq_true (ex_at x3 29 rfl)) (of_decide_eq_true (ex_at x3 30 rfl)) (ex_at x3 31 rfl) (of_decide_eq_true (ex_at x3 32 rfl)) (of_decide_eq_true (ex_at x3 33 rfl)) (ex_at x3 34 rfl) (of_decide_eq_true (ex_at x3 35 rfl)) (of_decide_eq_true (ex_at x3 36 rfl)) (of_decide_eq_true (ex_at x3 37 rfl)) (of_decide_eq_true (ex_at x3 38 rfl)) (of_decide_eq_true (ex_at x3 39 rfl)) l_BadSpan_init c_BadSpan_init p_BadSpan_init (of_decide_eq_true (ex_at x4 0 rfl)) (of_decide_eq_true (ex_at x4 1 rfl)) x_NotSquare (of_decide_eq_true (ex_at x4 3 rfl)) (of_decide_eq_true (ex_at x4 4 rfl)) (of_decide_eq_true (ex_at x4 5 rfl)) (ex_at x4 6 rfl) (of_decide_eq_true (ex_at x4 7 rfl)) (of_decide_eq_true (ex_at x4 8 rfl)) (ex_at x4 9 rfl) (of_decide_eq_true (ex_at x4 10 rfl)) (of_decide_eq_true (ex_at x4 11 rfl)) (of_decide_eq_true (ex_at x4 12 rfl)) (of_decide_eq_true (ex_at x4 13 rfl)) (of_decide_eq_true (ex_at x4 14 rfl)) l_NotSquare_init c_NotSquare_init p_NotSquare_init (of_decide_eq_true (ex_at x4 15 rfl)) (of_decide_eq_true (ex_at x4 16 rfl)) (of_decide_eq_true (ex_at x4 17 rfl)) x_NotHeld (of_decide_eq_true (ex_at x4 19 rfl)) (of_decide_eq_true (ex_at x4 20 rfl)) (of_decide_eq_true (ex_at x4 21 rfl)) (ex_at x4 22 rfl) (of_decide_eq_true (ex_at x4 23 rfl)) (of_decide_eq_true (ex_at x4 24 rfl)) (ex_at x4 25 rfl) (of_decide_eq_true (ex_at x4 26 rfl)) (of_decide_eq_true (ex_at x4 27 rfl)) (of_decide_eq_true (ex_at x4 28 rfl)) (of_decide_eq_true (ex_at x4 29 rfl)) (of_decide_eq_true (ex_at x4 30 rfl)) l_NotHeld_init c_NotHeld_init p_NotHeld_init (of_decide_eq_true (ex_at x4 31 rfl)) (of_decide_eq_true (ex_at x4 32 rfl)) (of_decide_eq_true (ex_at x4 33 rfl)) (of_decide_eq_true (ex_at x4 34 rfl)) (of_decide_eq_true (ex_at x4 35 rfl)) (of_decide_eq_true (ex_at x4 36 rfl)) (of_decide_eq_true (ex_at x4 37 rfl)) (of_decide_eq_true (ex_at x4 38 rfl)) (of_decide_eq_true (ex_at x4 39 rfl)) (of_decide_eq_true (ex_at x5 0 rfl)) (of_decide_eq_true (ex_at x5 1 rfl)) (of_decide_eq_true (ex_at x5 2 rfl)) (of_decide_eq_true (ex_at x5 3 rfl)) (of_decide_eq_true (ex_at x5 4 rfl)) (of_decide_eq_true (ex_at x5 5 rfl)) (of_decide_eq_true (ex_at x5 6 rfl)) (of_decide_eq_true (ex_at x5 7 rfl)) (of_decide_eq_true (ex_at x5 8 rfl)) (of_decide_eq_true (ex_at x5 9 rfl)) (of_decide_eq_true (ex_at x5 10 rfl)) (of_decide_eq_true (ex_at x5 11 rfl)) v_LEAST_RODS v_MOST_RODS v_MOST_BARS v_MOST_HEIGHT v_MOST_LENGTH⟩
theorem all_mk {P : Program} {w : World} {K : PySem.W.Frag} {h : Heap} {mg : Str → Option Value} {fa : Addr} (KX : K.In h) (G : h.Ns mainGlobals mg) (hfa : mg "law" = some (.ref fa)) (T : Tx K mg) (hb : exT K = true) :
    ∃ fd : FuncData, (∀ (s : Shared) (v : Value), BindsTo s fd ⟨[v], []⟩ [("_law_script", v)]) ∧ ∀ base : Heap, K.In base → base.Ns mainGlobals mg → (∀ p ∈ tfH.map (He.cT K), LamX.TabB base mg p.1 p.2) → FnOk P w K mg base (L2.CX P w) 60 fa fd ["_law_script"] (spLaw K (He.cT K ("law", none)).2) := by
  have e := hfa.symm.trans T.m_law
  cases e
  obtain ⟨oc, od, kV, doc, pm, an, cdv, ct, osl, e, _, _⟩ := T.F_law.ex
  unfold exT at hb
  simp only [Bool.and_eq_true] at hb
  obtain ⟨_, nb0⟩ := hb
  exact ⟨T.fd_law, fun s v => by rw [e]; exact .of_eq rfl, fun base _ _ TB => ok_law T (TB _ (List.mem_map_of_mem (show (("law", none) : He.Defn) ∈ tfH by decide))) (Hk.code_of KX G nb0 T.m_law T.F_law) ⟩
end K07
open PySem PySem.W PyProof.Rows in
set_option maxRecDepth 100000 in
set_option maxHeartbeats 0 in
theorem PySem.Challenge.cw_hookspans_k07_hooks_led_back_from_any_he_holds : PySem.Challenge.rw_hookspans_k07_hooks_led_back_from_any_he.Holds := by
  w_on; o_law
  refine HandSHeadRun.head_imp (r := OpenLaw.row PySem.Challenge.rw_hookspans_k07_hooks_led_back_from_any_he) (q := K07.qH) (H := K07.hkH) (ob := K07.obH) (M := 9000) (loose := K07.loH) (d := HandSHeadRun.topDef (OpenLaw.row PySem.Challenge.rw_hookspans_k07_hooks_led_back_from_any_he).prog 41) (kwd := []) K07.obH_eq K07.runH
    (by kernel_rfl) (by kernel_rfl) (by kernel_rfl) (by rfl) (by first | assumption | decide +kernel) (by decide +kernel) ⟨rfl, rfl, rfl, rfl, rfl, by decide +kernel⟩ ?hw ?hc
  case hw => w_witness2
  case hc =>
    refine LamX.walk_ofTsE (l := PySem.Challenge.rw_hookspans_k07_hooks_led_back_from_any_he) (n := 63) (k := 60) (x := "_law_script") (CX := fun w => L2.CX (PySem.Challenge.rw_hookspans_k07_hooks_led_back_from_any_he).prog w) rfl (by decide) (by kernel_rfl) ⟨rfl, by decide, by decide⟩ ?F (fun _ _ _ _ _ z => by
      obtain ⟨_, _, _, _, _, _, _, _, _, _, _, _, z⟩ := z
      exact z.elim)
    intro w mg fa h Y G hmg0
    obtain ⟨K, KX, c⟩ := Y
    have hmg : mg ("law" : PySem.Str) = some (.ref fa) := by
      have e : (HandSHeadRun.topDef (OpenLaw.row PySem.Challenge.rw_hookspans_k07_hooks_led_back_from_any_he).prog 41).name = ("law" : PySem.Str) := by kernel_rfl
      rw [← e]
      exact hmg0
    have hb := c.more
    have hk : K07.exK K = true := by
      unfold K07.exT at hb
      simp only [Bool.and_eq_true] at hb
      exact hb.1
    obtain ⟨T⟩ := K07.txH KX G (⟨c.t, hk, (fun p hp => by cases hp), (fun p hp => by cases hp), (fun p hp => by cases hp)⟩ : He.SaysX K07.faH K07.fnH [] [] K07.exK w h K)
    obtain ⟨fd, hb', hF⟩ := K07.all_mk (P := (PySem.Challenge.rw_hookspans_k07_hooks_led_back_from_any_he).prog) (w := w) KX G hmg T c.more
    refine ⟨K, KX, fd, K07.tfH.map (He.cT K), K07.spLaw K (He.cT K ("law", none)).2, (fun p hp => ?_), (fun p hp => ?_), (fun p hp => ?_), hb', (fun H a ns hl _ hT hS => ⟨a, ns, rfl, hS, hl, hT _ (List.mem_map_of_mem (show (("law", none) : He.Defn) ∈ K07.tfH by decide)), fun _ => rfl⟩), fun base KB GB TB => hF base KB GB TB⟩
    · obtain ⟨q, hq, rfl⟩ := List.mem_map.mp hp
      exact c.empty q hq
    · obtain ⟨q, hq, rfl⟩ := List.mem_map.mp hp
      exact c.out q hq
    · obtain ⟨q, hq, rfl⟩ := List.mem_map.mp hp
      exact PySem.W.codeHd_of_K KX (c.hd q hq)
