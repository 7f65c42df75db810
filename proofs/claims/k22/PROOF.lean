import PyProof.Rows.All
import Wide.All
import OpenK.AllK
import Wide.FinOn
import HandS.ForMost
import HandS.ForExc
import HandS.ExcInit
import HandS.ExcIs
import HandS.ExcField
import HandS.Gcd
import HandS.Style
import HandS.OwnEq
import HandS.MakeKw
import HandS.SortInts
import HandS.IsInst
import HandS.DictEq
import HandS.DeepEq
import HandS.Zip
import HandS.Wide
import HandS.MakeKwOnly
import KE.GoesMore
import HandS.ExcOwn
import PyProof.ExcBaseAll.ValueError
import HandS.SetFor
import HandS.Strs
import HandS.Sort
import HandS.FStr
import HandS.Text
import HandS.Star
import HandS.SortKw
import KE.KUnpackStar
import KE.DataMinMax
import KE.KDictList
import HandS.DictTup
import HandS.SortRule
import KE.GoesEnum
import KE.GoesEnumKw
import HandS.Walk
import HandS.Defaults
import HandS.Nested
import HandS.Conv
import HandS.HeadHook4
import HandS.HeadWalk
import HandS.Head2
import HandS.Head3
import HandS.DictComp
import HandS.TupAny
import HandS.SetBool
import PySem.Challenge.RW_hookspans_k22_stands_and_moves
set_option Elab.async false
set_option linter.all false
set_option maxRecDepth 100000
set_option maxHeartbeats 4000000
namespace PySem.W
open PySem PySem.Spec PySem.Calls PyProof.Rows
section
variable {prog : Program} {w : World} {A : Around} {E : Value → Shared → Prop} {s : Shared} {K : Frag} {x D : Addr} {ox : Obj} {od : Option Obj}
theorem lx_findObj {C : Addr} {name : Str} {a g : Value} (hc : (clsIn K C).isSome = true) (ha : findIn K (.ref C) name = some (some a)) (hg : specialIn K a "__get__" = some (some g)) (ht : takesIn K a = some true) : findObj K C od name = some (.bind g a) := by
  obtain ⟨cd, hc⟩ := Option.isSome_iff_exists.mp hc
  unfold findObj
  rw [hc, Option.bind_some, ha, Option.bind_some]
  simp [hg, ht]
theorem lx_kin_class {Q : Option Value → Shared → Prop} (hga : findIn K (.ref D) "__getattribute__" = some (some (.builtin "BaseException.__getattribute__"))) (hgt : findIn K (.ref D) "__getattr__" = some none) (hsub : subIn K (.ref D) (.type "BaseException") = some true)
    (hdct : hasDictIn K D = true) (ha : findIn K (.ref D) "__class__" = some (some (.builtin "object.__class__")))
    (hn : specialIn K (.builtin "object.__class__") "__get__" = some (some (.builtin "getset_descriptor.__get__"))) (htk : takesIn K (.builtin "object.__class__") = some true) (hm : mroIn K D (.type "object") = some true)
    (X : K.In s.heap) (I : InstAt s.heap x ox D od) (h : Q (some (.ref D)) { s with toks := s.toks + 1 }) : wpAny (model prog w) A (getAttr? (.ref x) "__class__") Q E s := by
  have hf : findObj K D od "__class__" = some (.bind (.builtin "getset_descriptor.__get__") (.builtin "object.__class__")) := lx_findObj (by obtain ⟨cd, hc, _⟩ := any_some hdct; rw [hc]; rfl) ha hn htk
  obtain ⟨hp, g, d, t, os⟩ := s
  have L0 := I.type (M := model prog w)
  have L1 := looks_findIn (M := model prog w) X hga
  have L2 := looks_findIn (M := model prog w) X hgt
  have L3 := looks_find (M := model prog w) X I hf
  have sub : Looks (model prog w) hp (isInstance (.ref x) (.type "BaseException")) true := L0.andThen (looks_subIn X hsub)
  have hx0 : (false && onTheHeap (Value.builtin "BaseException.__getattribute__")) = false := rfl
  have hx2 : (Value.builtin "BaseException.__getattribute__" == Value.builtin "object.__getattribute__") = false := by decide +kernel
  have hx1 : (onTheHeap (Value.ref D) && Value.builtin "BaseException.__getattribute__" == Value.builtin "object.__getattribute__") = false := by rw [hx2]; rfl
  unfold getAttr? getAttrBy? getAttrBy
  refine wpAny_bind (wpAny_mkText (wpAny_bind (wpAny_attempt (wpAny_holding (wpAny_bind (L0.at (wpAny_bind (L1.at ?_))))))))
  show wpAny _ _ (if (onTheHeap (Value.ref D) && Value.builtin "BaseException.__getattribute__" == Value.builtin "object.__getattribute__") = true then _ else _) _ _ _
  rw [hx1, if_neg Bool.false_ne_true]
  unfold getAttrByItsOwn hookBefore
  refine wpAny_bind ?_
  rw [if_pos (show onTheHeap (Value.ref D) = true from rfl)]
  refine L2.at ?_
  refine wpAny_bind (wpAny_attempt (wpAny_holding ?_))
  unfold callGetattribute
  rw [hx0, if_neg Bool.false_ne_true]
  unfold boundAndCalled
  rw [PySem.F.excAttr_ValueError.ga.bind (.ref x)]
  refine wpAny_bind (wpAny_pure ?_)
  show wpAny _ _ (call (.builtin "BaseException.__getattribute__") [.ref x, .str "__class__" t]) _ _ _
  refine wpAny_call (codeAny_call_builtin PySem.F.excAttr_ValueError.ga.plain PySem.F.entry_bexc_ga ?_)
  refine @check_slot (model prog w) _ _ ⟨hp, g, d, t + 1, os⟩ "BaseException.__getattribute__" "BaseException" "__getattribute__" (.ref x) [.str "__class__" t] [] _ (by decide +kernel) (by decide +kernel) sub (PySem.F.args_bexc_ga (.ref x) (.str "__class__" t)) ?_
  unfold Builtin.«object.__getattribute__»
  refine wpAny_bind (wpAny_of_eq (a := ((Value.ref x : Value), [Value.str "__class__" t])) (by first | rfl | (simp only [slotArgs]; rfl)) ?_)
  refine wpAny_bind (wpAny_pure (wpAny_bind (L0.at (wpAny_bind (L3.at ?_)))))
  show wpAny _ _ (holding [Value.builtin "object.__class__"] (call (.builtin "getset_descriptor.__get__") [.builtin "object.__class__", .ref x, .ref D]) >>= ret) _ _ _
  refine wpAny_bind (wpAny_holding (wpAny_call (class_get (s := ⟨hp, g, d, t + 1, os⟩) (ox := ox) (od := od) X I hm ?_)))
  refine wpAny_pure ?_
  show wpAny _ _ (handedOut (.ref D)) _ _ _
  rw [handedOut_of (v := .ref D) rfl]
  first
    | exact wpAny_pure (wpAny_pure h)
    | exact wpAny_pure h
    | exact wpAny_pure (wpAny_bind (wpAny_pure (wpAny_pure h)))
theorem lx_kitx (hga : findIn K (.ref D) "__getattribute__" = some (some (.builtin "BaseException.__getattribute__"))) (hgt : findIn K (.ref D) "__getattr__" = some none) (hsub : subIn K (.ref D) (.type "BaseException") = some true) (hdct : hasDictIn K D = true) (ha : findIn K (.ref D) "__class__" = some (some (.builtin "object.__class__")))
    (hn : specialIn K (.builtin "object.__class__") "__get__" = some (some (.builtin "getset_descriptor.__get__"))) (htk : takesIn K (.builtin "object.__class__") = some true) (hm : mroIn K D (.type "object") = some true) :
    KitX K (.ref x) (.ref D) (fun h => InstAt h x ox D od) where
  ty := fun _ _ _ I => I.type
  it := fun _ _ X _ => by
    obtain ⟨cdD, hcD, _⟩ := any_some hdct
    unfold clsIn at hcD
    split at hcD
    · rename_i c' d' cd' sl' ho
      intro A' Q' E' s' k q
      unfold isType loadHead
      exact wpAny_bind (wpAny_loadPart (k _ _ (X _ _ ho)) (wpAny_pure q))
    · cases hcD
  ne := fun h tp dd its n sl X htp => by
    obtain ⟨cdD, hcD, _⟩ := any_some hdct
    refine Bool.eq_false_iff.mpr fun q => ?_
    have e : D = tp := Value.ref.inj (beq_iff_eq.mp q)
    subst e
    unfold clsIn at hcD
    split at hcD
    · rename_i c' d' cd' sl' ho
      have z := (X _ _ ho).symm.trans htp
      cases z
    · cases hcD
  ca := fun X I k => lx_kin_class hga hgt hsub hdct ha hn htk hm X I k
end
end PySem.W
namespace L2
open PySem PySem.Spec PyProof.Rows
/-- isinstance(e, c), e the exception that the suite holds, of the class at D, with its own dict at d -/
def rIsED (K : PySem.W.Frag) (D d a : Addr) : List V → Hp → VK → Prop := fun xs H Q => ∃ (c : V) (cv : Value) (b : Bool) (fs : List (Str × V)), xs = [.ref a, c] ∧ (∀ u, RelV c u → u = cv) ∧ PySem.W.kitOne K (.ref D) cv = some b ∧ H d = some (.xd fs) ∧ Q (.bl b) H
theorem call_isED {X : Cx} {a D d : Addr} {oe : Obj} {pn : List (Addr × Obj)} (C : ExcC X.K D) (hz : Zc (.ref D) (some d) oe) (hf : ∃ vs, oe.data = .fields vs) : CallR (X.suite a ((a, oe) :: pn)) (.builtin "isinstance") (rIsED X.K D d a) := by
  intro pins s σ H xs us Q I r h
  obtain ⟨c, cv, b, fs, rfl, hcv, e, hd, q⟩ := h
  cases r with
  | cons rx rr =>
    cases rr with
    | cons rt rr =>
      cases rr
      cases rx
      have ec := hcv _ rt
      subst ec
      obtain ⟨hget, _⟩ := I.pin (a, oe) (List.mem_append.mpr (.inl List.mem_cons_self))
      obtain ⟨vs, hv⟩ := hf
      obtain ⟨mA, ⟨od, es, ep, eo, _⟩, _⟩ : ObjOk X.prog X.w H s.heap d (.xd fs) := I.hok d _ hd
      have J : PySem.W.InstAt s.heap a oe D (some od) := by
        obtain ⟨oc, od', oda, osl⟩ := oe
        obtain ⟨h1, h2⟩ := hz
        dsimp only at h1 h2 hv
        subst h1 h2 hv
        exact ⟨hget, rfl, rfl, eo⟩
      exact PySem.W.kia_one (PySem.W.lx_kitx C.hg C.hk C.hs C.hd C.ha C.hn C.ht C.hm) I.kIn J e (fun z => nomatch z) fun tk => ⟨.bl b, H, I.kept (t' := tk) fun _ _ z => z, rfl, q⟩
end L2
namespace LxE
open PySem PySem.SeqAt
open AutoSeq1 (wpAny_loadPart')
open MeetsSeq MeetsSeq2 MeetsSeq3 SeqRoads2
section
variable {prog : Program} {w : World} {A : Around} {R : Result → Shared → Prop}
abbrev FinOf (prog : Program) (w : World) (A : Around) (R : Result → Shared → Prop) : Fin → Shared → Prop := fun fin s' => match fin with
  | .done f => R (.ok f) s'
  | .again c' => c'.quiet = true ∧ codeAny (model prog w) A c' R s'
def ListJ (prog : Program) (w : World) (A : Around) (E : Value → Shared → Prop) (l b : Addr) (N : Nat) (e : Nat → Bool) (I : Shared → Prop) : Prop :=
  ∀ s, I s → ∃ (items items2 : Array Value), s.heap.IsList l items ∧ s.heap.IsList b items2 ∧ items.size = N ∧ items2.size = N ∧
    ∀ i (h1 : i < items.size) (h2 : i < items2.size), wpAny (model prog w) A.in1 (eqBool items[i] items2[i]) (fun r s' => r = e i ∧ I s') E s
theorem isList_obj {h : Heap} {l : Addr} {items : Array Value} (hl : h.IsList l items) : ∃ n dd sl, h.get? l = some { cls := .type "list", dict := dd, data := .seq items n, slots := sl } := by
  obtain ⟨⟨cls, dd, data, sl⟩, ho, hc, n, hd⟩ := hl
  simp only at hc hd
  subst hc hd
  exact ⟨n, dd, sl, ho⟩
theorem all_drop {N : Nat} {e : Nat → Bool} {i : Nat} (hp : ∀ j, j < i → e j = true) (hi : i < N) (hf : e i = false) : (List.range N).all e = false := by
  rw [List.all_eq_false]
  exact ⟨i, List.mem_range.mpr hi, by rw [hf]; exact Bool.false_ne_true⟩
theorem all_full {N : Nat} {e : Nat → Bool} (hp : ∀ j, j < N → e j = true) : (List.range N).all e = true := by
  rw [List.all_eq_true]
  intro x hx
  exact hp x (List.mem_range.mp hx)
theorem eq_loopB (l b : Addr) (N : Nat) (e : Nat → Bool) (I : Shared → Prop) (hl : ListJ prog w A (fun e s' => R (.error e) s') l b N e I)
    (fin : ∀ s, I s → R (.ok (.ret (.bool ((List.range N).all e)))) s) (k : Nat) :
    ∀ i : Nat, N - i = k → i ≤ N → (∀ j, j < i → e j = true) → ∀ s, I s →
      wpAny (model prog w) A.in1 (Builtin.«list.__eq__.loop» ⟨[.ref l, .ref b, rawInt i, rawInt 2], []⟩) (FinOf prog w A R) (fun e s' => R (.error e) s') s := by
  induction k with
  | zero =>
    intro i hk hi hp s h
    obtain ⟨items, items2, hl1', hb1', hs1, hs2, _⟩ := hl _ h
    obtain ⟨n, dd, sl, hl1⟩ := isList_obj hl1'
    obtain ⟨n2, dd2, sl2, hb1⟩ := isList_obj hb1'
    have hi' : i = N := by omega
    have hR : R (.ok (.ret (.bool true))) s := by
      have z := fin s h
      rw [all_full (fun j hj => hp j (by omega))] at z
      exact z
    obtain ⟨hp', g, d, tk, os⟩ := s
    wp_walk using wpAny_loadPart' hl1, wpAny_loadPart' hb1
    have hi1 : items[((i : Nat) : Int).toNat]? = none := by simp; omega
    have hi2 : items2[((i : Nat) : Int).toNat]? = none := by simp; omega
    rw [hi1, hi2]
    wp_walk using wpAny_loadPart' hl1, wpAny_loadPart' hb1
    show R (.ok (.ret (.bool (items.size == items2.size)))) _
    rw [hs1, hs2]
    simpa using hR
  | succ k ih =>
    intro i hk hi hp s h
    obtain ⟨items, items2, hl1', hb1', hs1, hs2, turn⟩ := hl _ h
    obtain ⟨n, dd, sl, hl1⟩ := isList_obj hl1'
    obtain ⟨n2, dd2, sl2, hb1⟩ := isList_obj hb1'
    have hlt : i < items.size := by omega
    have hlt2 : i < items2.size := by omega
    have ht := turn i hlt hlt2
    obtain ⟨hp', g, d, tk, os⟩ := s
    wp_walk using wpAny_loadPart' hl1, wpAny_loadPart' hb1
    have hi1 : items[((i : Nat) : Int).toNat]? = some items[i] := by simp [hlt]
    have hi2 : items2[((i : Nat) : Int).toNat]? = some items2[i] := by simp [hlt2]
    have hc : ((i : Int) + 1) = ((i + 1 : Nat) : Int) := by omega
    rw [hi1, hi2]
    refine wpAny_bind (wpAny_mono ht (fun r s2 h2 => ?_) fun _ _ x => x)
    obtain ⟨hr, h2⟩ := h2
    subst hr
    obtain ⟨items3, items4, hl3', hb3', hs3, hs4, _⟩ := hl _ h2
    obtain ⟨n3, dd3, sl3, hl3⟩ := isList_obj hl3'
    obtain ⟨n4, dd4, sl4, hb3⟩ := isList_obj hb3'
    have fin2 := fin s2 h2
    cases hei : e i with
    | true =>
      have hrec := ih (i + 1) (by omega) (by omega) (fun j hj => by
        rcases Nat.lt_succ_iff_lt_or_eq.mp hj with z | z
        · exact hp j z
        · rw [z]; exact hei) s2 h2
      obtain ⟨hp2, g2, d2, tk2, os2⟩ := s2
      wp_walk
      rw [hc]
      exact ⟨plainId_quiet plain_eq_loop _, codeAny_builtin entry_eq_loop (by
        rw [Around.under_plainId plain_eq_loop _]
        exact hrec)⟩
    | false =>
      rw [all_drop hp (by omega) hei] at fin2
      have hj1 : items3[((i : Nat) : Int).toNat]? = some (items3[i]'(by omega)) := by simp <;> omega
      have hj2 : items4[((i : Nat) : Int).toNat]? = some (items4[i]'(by omega)) := by simp <;> omega
      obtain ⟨hp2, g2, d2, tk2, os2⟩ := s2
      wp_walk using wpAny_loadPart' hl3, wpAny_loadPart' hb3
      rw [hj1, hj2]
      wp_walk
      simpa using fin2
theorem list_eqB (l b : Addr) (N : Nat) (e : Nat → Bool) (I : Shared → Prop) (hl : ListJ prog w A (fun e s' => R (.error e) s') l b N e I)
    (fin : ∀ s, I s → R (.ok (.ret (.bool ((List.range N).all e)))) s) {s : Shared} (h : I s) :
    wpAny (model prog w) A.in1 (Builtin.«list.__eq__» ⟨[.ref l, .ref b], []⟩) (FinOf prog w A R) (fun e s' => R (.error e) s') s := by
  obtain ⟨items, items2, hl1', hb1', hs1, hs2, _⟩ := hl _ h
  obtain ⟨n, dd, sl, hl1⟩ := isList_obj hl1'
  obtain ⟨n2, dd2, sl2, hb1⟩ := isList_obj hb1'
  have hrec := eq_loopB (A := A) (R := R) l b N e I hl fin _ 0 rfl (Nat.zero_le _) (fun j hj => absurd hj (Nat.not_lt_zero j)) s h
  obtain ⟨hp, g, d, tk, os⟩ := s
  have f3 := AutoSeq1.sub_list_list
  have hne : ¬ (items.size != items2.size) = true := by simp [hs1, hs2]
  wp_walk using wpAny_loadPart' hl1, wpAny_loadPart' hb1
  exact ⟨plainId_quiet plain_eq_loop _, codeAny_builtin entry_eq_loop (by
    rw [Around.under_plainId plain_eq_loop _]
    exact hrec)⟩
theorem tuple_eqB (l b : Addr) (items items2 : Array Value) (n n2 : Nat) (dd dd2 : Option Addr) (sl sl2 : Array (Option Value)) (e : Nat → Bool) (I : Shared → Prop)
    (turn : ∀ i (h1 : i < items.size) (h2 : i < items2.size) s, I s → wpAny (model prog w) A.in1 (eqBool items[i] items2[i]) (fun r s' => r = e i ∧ I s') (fun e s' => R (.error e) s') s)
    (fin : ∀ s, I s → R (.ok (.ret (.bool ((List.range (min items.size items2.size)).all e && items.size == items2.size)))) s) {s : Shared} (hl1 : s.heap.get? l = some { cls := .type "tuple", dict := dd, data := .seq items n, slots := sl }) (hb1 : s.heap.get? b = some { cls := .type "tuple", dict := dd2, data := .seq items2 n2, slots := sl2 }) (h : I s) :
    wpAny (model prog w) A.in1 (Builtin.«tuple.__eq__» ⟨[.ref l, .ref b], []⟩) (FinOf prog w A R) (fun e s' => R (.error e) s') s := by
  have f2 := AutoSeq1.sub_tuple_tuple
  have hZ : (items.toList.zip items2.toList).length = min items.size items2.size := by simp
  have h0 := h
  obtain ⟨hp, g, d, tk, os⟩ := s
  wp_walk using wpAny_loadPart' hl1, wpAny_loadPart' hb1, wpAny_forIn_list _ (fun rest b s' => b.1 = none ∧ ∃ i, rest = (items.toList.zip items2.toList).drop i ∧ (∀ j, j < i → e j = true) ∧ i ≤ min items.size items2.size ∧ I s') _
  case turn =>
    rintro ⟨y, x⟩ rest b s' ⟨hb', i, hz, hpre, hi, hI⟩
    have hlt : i < (items.toList.zip items2.toList).length := by
      rcases Nat.lt_or_ge i (items.toList.zip items2.toList).length with h' | h'
      · exact h'
      · rw [List.drop_of_length_le h'] at hz; cases hz
    have hm : i < min items.size items2.size := hZ ▸ hlt
    have h1 : i < items.size := Nat.lt_of_lt_of_le hm (Nat.min_le_left _ _)
    have h2 : i < items2.size := Nat.lt_of_lt_of_le hm (Nat.min_le_right _ _)
    rw [List.drop_eq_getElem_cons hlt] at hz
    injection hz with hyx hrest
    have hy : y = items[i] := by have := congrArg Prod.fst hyx; simpa using this
    have hx : x = items2[i] := by have := congrArg Prod.snd hyx; simpa using this
    subst hy hx
    refine wpAny_bind (wpAny_mono (turn i h1 h2 s' hI) (fun r s2 q2 => ?_) fun _ _ x => x)
    obtain ⟨hr, q2⟩ := q2
    subst hr
    cases hei : e i with
    | true =>
      wp_walk
      exact ⟨rfl, i + 1, hrest, fun j hj => by
        rcases Nat.lt_succ_iff_lt_or_eq.mp hj with z | z
        · exact hpre j z
        · rw [z]; exact hei, hm, q2⟩
    | false =>
      have hR := fin s2 q2
      rw [all_drop hpre hm hei] at hR
      wp_walk
      simpa using hR
  case fin =>
    rintro ⟨b1, b2⟩ s' ⟨hb', i, hz, hpre, hi, hI⟩
    simp only at hb'
    subst hb'
    have hge : min items.size items2.size ≤ i := by
      rcases Nat.lt_or_ge i (items.toList.zip items2.toList).length with h' | h'
      · rw [List.drop_eq_getElem_cons h'] at hz; cases hz
      · exact hZ ▸ h'
    have hR := fin s' hI
    rw [all_full (fun j hj => hpre j (by omega))] at hR
    wp_walk
    simpa [Builtin.Tuple.tupleCompareSizes] using hR
  case h =>
    exact ⟨rfl, 0, rfl, fun j hj => absurd hj (Nat.not_lt_zero j), Nat.zero_le _, h0⟩
end
section
variable {prog : Program} {w : World} {A : Around} {E : Value → Shared → Prop} {s : Shared}
theorem call_here {T : String} {name : Str} {id : String} {B : Builtin} {self : Value} {rest : List Value} {Q : Value → Shared → Prop} (slot : Slot T name id) (hT : s.TypeIs self T)
    (entry : entryFor table id = some B) (args : argsOk id ⟨self :: rest, []⟩)
    (h : wpAny (model prog w) A.in1 (B ⟨self :: rest, []⟩) (FinOf prog w A (wants Q E)) (fun e s' => wants Q E (.error e) s') s) :
    wpAny (model prog w) A (call (.builtin id) (self :: rest)) Q E s :=
  wpAny_call (codeAny_call_builtin slot.plain entry (slot.check _ _ _ _ _ _ _ _ hT args h))
theorem rc_listB {l b : Addr} {N : Nat} {e : Nat → Bool} {Q : Value → Shared → Prop} (hu : A.units < cLine) (I : Shared → Prop) (hl : ListJ prog w A E l b N e I)
    (fin : ∀ s, I s → Q (.bool ((List.range N).all e)) s) (h : I s) : wpAny (model prog w) A (richCompare .Eq (.ref l) (.ref b)) Q E s := by
  obtain ⟨items, items2, hl1', hb1', _, _, _⟩ := hl _ h
  obtain ⟨n, dd, sl, hl1⟩ := isList_obj hl1'
  obtain ⟨n2, dd2, sl2, hb1⟩ := isList_obj hb1'
  refine wpAny_richCompare_same_room (op := .Eq) ⟨_, hl1, rfl⟩ ⟨_, hb1, rfl⟩ F.slot_list_eq (call_here F.slot_list_eq ⟨_, hl1, rfl⟩ F.entry_list_eq (F.args_list_eq_2 _ _) ?_) hu
  exact list_eqB (R := wants (fun v s' => v ≠ .notImplemented ∧ Q v s') E) l b N e I hl (fun s' q => ⟨(fun x => nomatch x), fin s' q⟩) h
theorem rc_tupB {l b : Addr} {items items2 : Array Value} {e : Nat → Bool} {Q : Value → Shared → Prop} (hu : A.units < cLine) (I : Shared → Prop)
    (hl : s.heap.IsTuple l items) (hb : s.heap.IsTuple b items2)
    (turn : ∀ i (h1 : i < items.size) (h2 : i < items2.size) s, I s → wpAny (model prog w) A.in1 (eqBool items[i] items2[i]) (fun r s' => r = e i ∧ I s') E s)
    (fin : ∀ s, I s → Q (.bool ((List.range (min items.size items2.size)).all e && items.size == items2.size)) s) (h : I s) : wpAny (model prog w) A (richCompare .Eq (.ref l) (.ref b)) Q E s := by
  obtain ⟨⟨cls, dd, data, sl⟩, ho, hc, n, hd⟩ := id hl
  obtain ⟨⟨cls2, dd2, data2, sl2⟩, ho2, hc2, n2, hd2⟩ := id hb
  simp only at hc hd hc2 hd2
  subst hc hd hc2 hd2
  refine wpAny_richCompare_same_room (op := .Eq) ⟨_, ho, rfl⟩ ⟨_, ho2, rfl⟩ F.slot_tuple_eq (call_here F.slot_tuple_eq ⟨_, ho, rfl⟩ F.entry_tuple_eq (F.args_tuple_eq_2 _ _) ?_) hu
  exact tuple_eqB (R := wants (fun v s' => v ≠ .notImplemented ∧ Q v s') E) l b items items2 n n2 dd dd2 sl sl2 e I turn (fun s' q => ⟨(fun x => nomatch x), fin s' q⟩) ho ho2 h
/-- == of two values inside a builtin, by their rich comparison -/
theorem eqBool_B {u v : Value} {Q : Bool → Shared → Prop} (hne : (u == v) = false) (hf : ∀ a t b t', u = .float a t → v = .float b t' → False) (h : wpAny (model prog w) A (richCompare .Eq u v) (fun v s' => ∃ r, v = .bool r ∧ Q r s') E s) : wpAny (model prog w) A (eqBool u v) Q E s := by
  unfold eqBool
  refine wpAny_holding ?_
  rw [if_neg (by rw [hne]; exact Bool.false_ne_true)]
  have z : wpAny (model prog w) A (do let r ← richCompare .Eq u v; truthOfDropped r) Q E s := by
    refine wpAny_bind (wpAny_mono h (fun v s' hv => ?_) fun _ _ x => x)
    obtain ⟨r, rfl, q⟩ := hv
    exact wpAny_truthy_bool q
  cases u <;> cases v <;> first | exact z | exact (hf _ _ _ _ rfl rfl).elim
end
end LxE
namespace LxE
open PySem PySem.SeqAt
open AutoSeq1 (wpAny_loadPart')
open MeetsSeq MeetsSeq2 MeetsSeq3 SeqRoads2
section
variable {prog : Program} {w : World} {A : Around} {E : Value → Shared → Prop} {s : Shared}
/-- b is no instance of T -/
def NotInst (prog : Program) (w : World) (s : Shared) (b : Value) (T : String) : Prop := ∀ (A : Around) (E : Value → Shared → Prop) (Q : Bool → Shared → Prop), Q false s → wpAny (model prog w) A (isInstance b (.type T)) Q E s
theorem list_declinesI {l b : Addr} {items : Array Value} {n : Nat} {dd : Option Addr} {sl : Array (Option Value)} {R : Fin → Shared → Prop} (hl : s.heap.get? l = some { cls := .type "list", dict := dd, data := .seq items n, slots := sl }) (hI : NotInst prog w s (.ref b) "list")
    (h : R (.done (.ret .notImplemented)) s) : wpAny (model prog w) A (Builtin.«list.__eq__» ⟨[.ref l, .ref b], []⟩) R E s := by
  obtain ⟨hp, g, d, tk, os⟩ := s
  have hI' := hI
  unfold NotInst at hI'
  wp_walk using wpAny_loadPart' hl, hI'
  exact h
theorem tuple_declinesI {l b : Addr} {items : Array Value} {n : Nat} {dd : Option Addr} {sl : Array (Option Value)} {R : Fin → Shared → Prop} (hl : s.heap.get? l = some { cls := .type "tuple", dict := dd, data := .seq items n, slots := sl }) (hI : NotInst prog w s (.ref b) "tuple")
    (h : R (.done (.ret .notImplemented)) s) : wpAny (model prog w) A (Builtin.«tuple.__eq__» ⟨[.ref l, .ref b], []⟩) R E s := by
  obtain ⟨hp, g, d, tk, os⟩ := s
  have hI' := hI
  unfold NotInst at hI'
  wp_walk using wpAny_loadPart' hl, hI'
  exact h
theorem int_declinesI {i : Int} {u : Tok} {b C dx : Addr} {R : Fin → Shared → Prop} (hb : s.heap.get? b = some (PySem.W.instObj C dx)) (h : R (.done (.ret .notImplemented)) s) : wpAny (model prog w) A (Builtin.«int.__eq__» ⟨[.int i u, .ref b], []⟩) R E s := by
  obtain ⟨hp, g, d, tk, os⟩ := s
  wp_walk using wpAny_loadPart' hb, wpAny_load hb
  exact h
theorem bool_declinesI {i : Bool} {b C dx : Addr} {R : Fin → Shared → Prop} (hb : s.heap.get? b = some (PySem.W.instObj C dx)) (h : R (.done (.ret .notImplemented)) s) : wpAny (model prog w) A (Builtin.«int.__eq__» ⟨[.bool i, .ref b], []⟩) R E s := by
  obtain ⟨hp, g, d, tk, os⟩ := s
  wp_walk using wpAny_loadPart' hb, wpAny_load hb
  exact h
theorem str_declinesI {i : Str} {u : Tok} {b C dx : Addr} {R : Fin → Shared → Prop} (hb : s.heap.get? b = some (PySem.W.instObj C dx)) (h : R (.done (.ret .notImplemented)) s) : wpAny (model prog w) A (Builtin.«str.__eq__» ⟨[.str i u, .ref b], []⟩) R E s := by
  obtain ⟨hp, g, d, tk, os⟩ := s
  wp_walk using wpAny_loadPart' hb, wpAny_load hb
  exact h
end
section
open PySem.W
variable {prog : Program} {w : World} {A : Around} {E : Value → Shared → Prop} {s : Shared} {K : Frag} {y C f : Addr} {oy : Obj} {od : Option Obj} {a : Value}
theorem notInst_of {T : String} (X : K.In s.heap) (I : InstAt s.heap y oy C od) (hs : subIn K (.ref C) (.type T) = some false) : NotInst prog w s (.ref y) T := fun A E Q q => by
  have L : Looks (model prog w) s.heap (isInstance (.ref y) (.type T)) false := I.type.andThen (looks_subIn X hs)
  exact L.here q
theorem cmp_back {Ta ida : String} {Q : Value → Shared → Prop} (hu : A.units < cLine) (X : K.In s.heap) (I : InstAt s.heap y oy C od) (ha : s.TypeIs a Ta) (hsub : subIn K (.ref C) (.type Ta) = some false) (slot : Slot Ta "__eq__" ida)
    (hc1 : ∀ Q' : Value → Shared → Prop, Q' .notImplemented s → wpAny (model prog w) A (call (.builtin ida) [a, .ref y]) Q' E s)
    (hs : findIn K (.ref C) "__eq__" = some (some (.ref f))) (hf : isFn K (.ref f) = true)
    (h : wpAny (model prog w) A (call (.ref f) [.ref y, a]) (CmpBack Q) E s) : wpAny (model prog w) A (richCompare .Eq a (.ref y)) Q E s := by
  have one : wpAny (model prog w) A (tryCompare (.ref y) "__eq__" a) (fun r s' => ∃ v, r = some v ∧ Q v s') E s := by
    unfold tryCompare
    refine wpAny_bind (ifBound_K X I hs hf (wpAny_mono h (fun v s' hv => ?_) fun _ _ e => e))
    cases v <;> first | exact hv.elim | exact wpAny_pure ⟨_, rfl, hv⟩
  unfold richCompare
  simp only [ha.oneThing_none, cmpInfo]
  refine wpAny_holding (wpAny_bind (wpAny_cRoomFor hu ?_))
  refine wpAny_bind (wpAny_typeOf ha (wpAny_bind (I.type.here ?_)))
  have hne : (Value.type Ta != Value.ref C) = true := by first | rfl | simp
  simp only [hne, if_true]
  refine wpAny_bind ((looks_subIn X hsub).here ?_)
  simp only [Bool.false_eq_true, if_false, Bool.not_false, if_true]
  refine wpAny_bind (m := tryCompare a _ _) (wpAny_tryCompare_declines ha slot (hc1 _ ⟨rfl, ?_⟩))
  refine wpAny_bind (wpAny_mono one (fun r s' z => ?_) fun _ _ e => e)
  obtain ⟨v, rfl, hq⟩ := z
  exact wpAny_pure hq
end
end LxE
namespace L2
open PySem PySem.Spec PyProof.Rows
/-- data and own objects, told without the heap -/
inductive Dt where
  | non | bl (b : Bool) | int (i : Int) | str (s : Str)
  | lst (ds : List Dt) | tup (ds : List Dt) | dic (ks : List Key) (ds : List Dt) | ins (C : Addr) (fs : List Str) (ds : List Dt)
mutual
def Is (K : PySem.W.Frag) (H : Hp) : Dt → V → Prop
  | .non, v => v = .non
  | .bl b, v => v = .bl b
  | .int i, v => v = .int i
  | .str s, v => v = .str s
  | .lst ds, v => ∃ a xs, v = .ref a ∧ SqL K H a xs ∧ IsL K H ds xs
  | .tup ds, v => ∃ a xs, v = .ref a ∧ SqT K H a xs ∧ IsL K H ds xs
  | .dic ks ds, v => ∃ a kvs, v = .ref a ∧ H a = some (.dK kvs) ∧ kvs.map (·.1) = ks ∧ IsL K H ds (kvs.map (·.2))
  | .ins C fs ds, v => ∃ a dx kvs, v = .ref a ∧ H a = some (.ins C dx kvs) ∧ kvs.map (·.1) = fs ∧ IsL K H ds (kvs.map (·.2))
def IsL (K : PySem.W.Frag) (H : Hp) : List Dt → List V → Prop
  | [], vs => vs = []
  | d :: ds, vs => ∃ v r, vs = v :: r ∧ Is K H d v ∧ IsL K H ds r
end
mutual
theorem Is.ext {K : PySem.W.Frag} {H H' : Hp} (e : Ext H H') : ∀ {d : Dt} {v : V}, Is K H d v → Is K H' d v
  | .non, _, h => h
  | .bl _, _, h => h
  | .int _, _, h => h
  | .str _, _, h => h
  | .lst _, _, ⟨a, xs, h1, h2, h3⟩ => ⟨a, xs, h1, h2.ext e, IsL.ext e h3⟩
  | .tup _, _, ⟨a, xs, h1, h2, h3⟩ => ⟨a, xs, h1, h2.ext e, IsL.ext e h3⟩
  | .dic _ _, _, ⟨a, kvs, h1, h2, h3, h4⟩ => ⟨a, kvs, h1, e _ _ h2, h3, IsL.ext e h4⟩
  | .ins _ _ _, _, ⟨a, dx, kvs, h1, h2, h3, h4⟩ => ⟨a, dx, kvs, h1, e _ _ h2, h3, IsL.ext e h4⟩
theorem IsL.ext {K : PySem.W.Frag} {H H' : Hp} (e : Ext H H') : ∀ {ds : List Dt} {vs : List V}, IsL K H ds vs → IsL K H' ds vs
  | [], _, h => h
  | _ :: _, _, ⟨v, r, h1, h2, h3⟩ => ⟨v, r, h1, Is.ext e h2, IsL.ext e h3⟩
end
theorem IsL.length {K : PySem.W.Frag} {H : Hp} : ∀ {ds : List Dt} {vs : List V}, IsL K H ds vs → ds.length = vs.length
  | [], _, h => by rw [show _ = [] from h] <;> rfl
  | _ :: _, _, ⟨v, r, h1, h2, h3⟩ => by rw [h1, List.length_cons, List.length_cons, IsL.length h3]
theorem IsL.get {K : PySem.W.Frag} {H : Hp} : ∀ {ds : List Dt} {vs : List V} {i : Nat} {v : V}, IsL K H ds vs → vs[i]? = some v → ∃ d, ds[i]? = some d ∧ Is K H d v
  | [], _, i, v, h, e => by rw [show _ = [] from h] at e; simp at e
  | d :: _, _, 0, v, ⟨w, r, h1, h2, h3⟩, e => by
    rw [h1] at e
    cases e
    exact ⟨d, rfl, h2⟩
  | _ :: _, _, i + 1, v, ⟨w, r, h1, h2, h3⟩, e => by
    rw [h1] at e
    exact IsL.get (i := i) h3 e
theorem IsL.get' {K : PySem.W.Frag} {H : Hp} : ∀ {ds : List Dt} {vs : List V} {i : Nat} {d : Dt}, IsL K H ds vs → ds[i]? = some d → ∃ v, vs[i]? = some v ∧ Is K H d v
  | [], _, i, d, h, e => by simp at e
  | d :: _, _, 0, d', ⟨w, r, h1, h2, h3⟩, e => by
    rw [h1]
    cases e
    exact ⟨w, rfl, h2⟩
  | _ :: _, _, i + 1, v, ⟨w, r, h1, h2, h3⟩, e => by
    rw [h1]
    exact IsL.get' (i := i) h3 e
theorem IsL.nil {K : PySem.W.Frag} {H : Hp} : IsL K H [] [] := rfl
theorem IsL.cons {K : PySem.W.Frag} {H : Hp} {d : Dt} {v : V} {ds : List Dt} {vs : List V} (h : Is K H d v) (t : IsL K H ds vs) : IsL K H (d :: ds) (v :: vs) := ⟨v, vs, rfl, h, t⟩
theorem IsL.append {K : PySem.W.Frag} {H : Hp} : ∀ {ds es : List Dt} {vs ws : List V}, IsL K H ds vs → IsL K H es ws → IsL K H (ds ++ es) (vs ++ ws)
  | [], _, _, _, h, t => by rw [show _ = [] from h]; exact t
  | _ :: _, _, _, _, ⟨v, r, h1, h2, h3⟩, t => by rw [h1]; exact ⟨v, _, rfl, h2, IsL.append h3 t⟩
/-- ints -/
theorem isL_ints {K : PySem.W.Frag} {H : Hp} : ∀ ns : List Int, IsL K H (ns.map Dt.int) (ns.map V.int)
  | [] => rfl
  | n :: r => ⟨_, _, rfl, rfl, isL_ints r⟩
theorem of_isL_ints {K : PySem.W.Frag} {H : Hp} : ∀ {ns : List Int} {vs : List V}, IsL K H (ns.map Dt.int) vs → vs = ns.map V.int
  | [], _, h => h
  | n :: r, _, ⟨v, w, h1, h2, h3⟩ => by rw [h1, show v = V.int n from h2, of_isL_ints h3] <;> rfl
def look (ls : List Key) (es : List Dt) (k : Key) : Option Dt := ((ls.zip es).find? fun p => decide (p.1 = k)).map (·.2)
mutual
def deq : Dt → Dt → Bool
  | .non, .non => true
  | .bl a, .bl b => a == b
  | .bl a, .int b => (if a then 1 else 0) == b
  | .int a, .bl b => a == (if b then 1 else 0)
  | .int a, .int b => a == b
  | .str a, .str b => a == b
  | .lst a, .lst b => deqL a b
  | .tup a, .tup b => deqL a b
  | .dic ks ds, .dic ls es => ks.length == ls.length && deqD ks ds ls es
  | .ins C _ a, .ins C' _ b => C == C' && deqL a b
  | _, _ => false
def deqL : List Dt → List Dt → Bool
  | [], [] => true
  | a :: as, b :: bs => deq a b && deqL as bs
  | _, _ => false
def deqD : List Key → List Dt → List Key → List Dt → Bool
  | k :: ks, d :: ds, ls, es => (match look ls es k with | some e => deq d e | none => false) && deqD ks ds ls es
  | _, _, _, _ => true
end
mutual
def dep : Dt → Nat
  | .lst ds => depL ds + 1
  | .tup ds => depL ds + 1
  | .dic _ ds => depL ds + 1
  | .ins _ _ ds => depL ds + 1
  | _ => 0
def depL : List Dt → Nat
  | [] => 0
  | d :: ds => max (dep d) (depL ds)
end
theorem depL_get : ∀ {ds : List Dt} {i : Nat} {d : Dt}, ds[i]? = some d → dep d ≤ depL ds
  | [], _, _, e => by simp at e
  | a :: ds, 0, d, e => by cases e; exact Nat.le_max_left _ _
  | a :: ds, i + 1, d, e => Nat.le_trans (depL_get (i := i) e) (Nat.le_max_right _ _)
/-- the item's answer -/
def eAt (ds es : List Dt) (i : Nat) : Bool := match ds[i]?, es[i]? with | some d, some e => deq d e | _, _ => true
theorem range_all_succ (n : Nat) (f : Nat → Bool) : (List.range (n + 1)).all f = (f 0 && (List.range n).all fun i => f (i + 1)) := by
  rw [List.range_succ_eq_map, List.all_cons, List.all_map]
  rfl
theorem deqL_eq : ∀ ds es : List Dt, deqL ds es = ((List.range (min ds.length es.length)).all (eAt ds es) && ds.length == es.length)
  | [], [] => by simp [deqL]
  | [], _ :: _ => by simp [deqL]
  | _ :: _, [] => by simp [deqL]
  | a :: as, b :: bs => by
    have ih := deqL_eq as bs
    have h1 : min (a :: as).length (b :: bs).length = min as.length bs.length + 1 := by simp [Nat.succ_min_succ]
    rw [h1, range_all_succ]
    show (deq a b && deqL as bs) = _
    rw [ih]
    have h2 : (fun i => eAt (a :: as) (b :: bs) (i + 1)) = eAt as bs := rfl
    have h3 : eAt (a :: as) (b :: bs) 0 = deq a b := rfl
    rw [h2, h3, List.length_cons, List.length_cons, Bool.and_assoc]
    congr 2
    simp
mutual
def pureD : Dt → Bool
  | .lst ds => pureL ds
  | .tup ds => pureL ds
  | .dic _ ds => pureL ds
  | .ins _ _ _ => false
  | _ => true
def pureL : List Dt → Bool
  | [] => true
  | d :: ds => pureD d && pureL ds
end
theorem pureL_get : ∀ {ds : List Dt} {i : Nat} {d : Dt}, pureL ds = true → ds[i]? = some d → pureD d = true
  | [], _, _, _, e => by simp at e
  | a :: ds, 0, d, h, e => by cases e; exact (Bool.and_eq_true_iff.mp h).1
  | a :: ds, i + 1, d, h, e => pureL_get (i := i) (Bool.and_eq_true_iff.mp h).2 e
end L2
namespace LxE
open PySem PySem.SeqAt
open AutoSeq1 (wpAny_loadPart')
open MeetsSeq MeetsSeq2 MeetsSeq3 SeqRoads2
section
variable {prog : Program} {w : World} {A : Around} {E : Value → Shared → Prop} {s : Shared}
theorem notInst_ty {v : Value} {T U : String} (hT : s.TypeIs v T) (h : isSubtype (.type T) (.type U) = pure false) : NotInst prog w s v U := fun _ _ _ q => wpAny_isInstance hT h q
theorem dict_declines {a : Addr} {v : Value} {R : Fin → Shared → Prop} (ha : s.TypeIs (.ref a) "dict") (hI : NotInst prog w s v "dict") (h : R (.done (.ret .notImplemented)) s) : wpAny (model prog w) A (Builtin.«dict.__eq__» ⟨[.ref a, v], []⟩) R E s := by
  show wpAny _ _ (Builtin.Dict.dictSlotArgs "__eq__" ⟨[.ref a, v], []⟩ >>= _) _ _ s
  refine wpAny_bind ?_
  unfold Builtin.Dict.dictSlotArgs
  refine wpAny_bind (wpAny_notOrdered_dict ha ?_)
  show wpAny _ _ (pure (Value.ref a, v)) _ _ s
  refine wpAny_pure ?_
  refine wpAny_bind (hI _ _ _ ?_)
  simp only [Bool.not_false, if_true]
  wp_walk
  exact h
theorem int_declinesD {i : Int} {u : Tok} {b : Addr} {o : Obj} {es : Array DictEntry} {ep : Nat} {R : Fin → Shared → Prop} (hb : s.heap.get? b = some o) (hd : o.data = .dict es ep) (h : R (.done (.ret .notImplemented)) s) : wpAny (model prog w) A (Builtin.«int.__eq__» ⟨[.int i u, .ref b], []⟩) R E s := by
  obtain ⟨hp, g, d, tk, os⟩ := s
  obtain ⟨cl, dd, dt, sl⟩ := o
  simp only at hd
  subst hd
  wp_walk using wpAny_loadPart' hb, wpAny_load hb
  exact h
theorem bool_declinesD {i : Bool} {b : Addr} {o : Obj} {es : Array DictEntry} {ep : Nat} {R : Fin → Shared → Prop} (hb : s.heap.get? b = some o) (hd : o.data = .dict es ep) (h : R (.done (.ret .notImplemented)) s) : wpAny (model prog w) A (Builtin.«int.__eq__» ⟨[.bool i, .ref b], []⟩) R E s := by
  obtain ⟨hp, g, d, tk, os⟩ := s
  obtain ⟨cl, dd, dt, sl⟩ := o
  simp only at hd
  subst hd
  wp_walk using wpAny_loadPart' hb, wpAny_load hb
  exact h
theorem str_declinesD {i : Str} {u : Tok} {b : Addr} {o : Obj} {es : Array DictEntry} {ep : Nat} {R : Fin → Shared → Prop} (hb : s.heap.get? b = some o) (hd : o.data = .dict es ep) (h : R (.done (.ret .notImplemented)) s) : wpAny (model prog w) A (Builtin.«str.__eq__» ⟨[.str i u, .ref b], []⟩) R E s := by
  obtain ⟨hp, g, d, tk, os⟩ := s
  obtain ⟨cl, dd, dt, sl⟩ := o
  simp only at hd
  subst hd
  wp_walk using wpAny_loadPart' hb, wpAny_load hb
  exact h
/-- a built-in == that declines, as a call -/
theorem callFin {self : Value} {rest : List Value} {T : String} {name : Str} {id : String} {B : Builtin} (slot : Slot T name id) (hT : s.TypeIs self T) (entry : entryFor table id = some B) (args : argsOk id ⟨self :: rest, []⟩)
    (hB : ∀ (A : Around) (E : Value → Shared → Prop) (R : Fin → Shared → Prop), R (.done (.ret .notImplemented)) s → wpAny (model prog w) A (B ⟨self :: rest, []⟩) R E s) (Q' : Value → Shared → Prop) (q : Q' .notImplemented s) :
    wpAny (model prog w) A (call (.builtin id) (self :: rest)) Q' E s := call_here slot hT entry args (hB _ _ _ q)
end
end LxE
namespace LxE
open PySem PySem.SeqAt L2
open AutoSeq1 (wpAny_loadPart')
open MeetsSeq MeetsSeq2 MeetsSeq3 SeqRoads2
section
variable {prog : Program} {w : World} {A : Around} {E : Value → Shared → Prop} {s : Shared}
theorem isTup_obj {h : Heap} {l : Addr} {items : Array Value} (hl : h.IsTuple l items) : ∃ n dd sl, h.get? l = some { cls := .type "tuple", dict := dd, data := .seq items n, slots := sl } := by
  obtain ⟨⟨cls, dd, data, sl⟩, ho, hc, n, hd⟩ := hl
  simp only at hc hd
  subst hc hd
  exact ⟨n, dd, sl, ho⟩
theorem dict_obj {K : Type} [DecidableEq K] {knd : KeyKind prog w K} {h : Heap} {l : Addr} {kvs : List (K × Value)} (hl : h.DictOf knd l kvs) : ∃ (o : Obj) (es : Array DictEntry) (ep : Nat), h.get? l = some o ∧ o.data = .dict es ep := by
  obtain ⟨o, es, ep, ho, _, hd, _⟩ := hl
  exact ⟨o, es, ep, ho, hd⟩
theorem ti_list {l : Addr} {items : Array Value} (hl : s.heap.IsList l items) : s.TypeIs (.ref l) "list" := by
  obtain ⟨o, ho, hc, _⟩ := hl
  exact ⟨o, ho, hc⟩
theorem ti_tuple {l : Addr} {items : Array Value} (hl : s.heap.IsTuple l items) : s.TypeIs (.ref l) "tuple" := by
  obtain ⟨o, ho, hc, _⟩ := hl
  exact ⟨o, ho, hc⟩
theorem ne_data {h : Heap} {a b : Addr} {oa ob : Obj} (ha : h.get? a = some oa) (hb : h.get? b = some ob) (hd : oa.data ≠ ob.data) : a ≠ b := fun e => by
  subst e
  rw [ha] at hb
  cases hb
  exact hd rfl
theorem isSame_lst_dic {K : Type} [DecidableEq K] {knd : KeyKind prog w K} {a b : Addr} {items : Array Value} {kvs : List (K × Value)} {M : Model} {R : Bool → Shared → Prop} (h1 : s.heap.IsList a items) (h2 : s.heap.DictOf knd b kvs) (q : R false s) : wpAny M A (isSame (.ref a) (.ref b)) R E s := by
  obtain ⟨n, dd, sl, ho⟩ := isList_obj h1
  obtain ⟨o, es, ep, ho2, hd⟩ := dict_obj h2
  exact wpAny_isSame_ref_other (ne_data ho ho2 (by rw [hd]; exact fun z => nomatch z)) ho ho2 (by simp) q
theorem isSame_dic_lst {K : Type} [DecidableEq K] {knd : KeyKind prog w K} {a b : Addr} {items : Array Value} {kvs : List (K × Value)} {M : Model} {R : Bool → Shared → Prop} (h2 : s.heap.DictOf knd a kvs) (h1 : s.heap.IsList b items) (q : R false s) : wpAny M A (isSame (.ref a) (.ref b)) R E s := by
  obtain ⟨n, dd, sl, ho⟩ := isList_obj h1
  obtain ⟨o, es, ep, ho2, hd⟩ := dict_obj h2
  exact wpAny_isSame_ref_other' (ne_data ho2 ho (by rw [hd]; exact fun z => nomatch z)) ho2 ho (by simp) q
theorem isSame_tup_dic {K : Type} [DecidableEq K] {knd : KeyKind prog w K} {a b : Addr} {items : Array Value} {kvs : List (K × Value)} {M : Model} {R : Bool → Shared → Prop} (h1 : s.heap.IsTuple a items) (h2 : s.heap.DictOf knd b kvs) (q : R false s) : wpAny M A (isSame (.ref a) (.ref b)) R E s := by
  obtain ⟨n, dd, sl, ho⟩ := isTup_obj h1
  have ht := h2.typeIs
  obtain ⟨o, es, ep, ho2, hd⟩ := dict_obj h2
  obtain ⟨o', ho', hc⟩ := ht
  rw [ho2] at ho'
  cases ho'
  exact wpAny_isSame_ref_other' (ne_data ho ho2 (by rw [hd]; exact fun z => nomatch z)) ho ho2 (by rw [hc]; simp) q
theorem isSame_dic_tup {K : Type} [DecidableEq K] {knd : KeyKind prog w K} {a b : Addr} {items : Array Value} {kvs : List (K × Value)} {M : Model} {R : Bool → Shared → Prop} (h2 : s.heap.DictOf knd a kvs) (h1 : s.heap.IsTuple b items) (q : R false s) : wpAny M A (isSame (.ref a) (.ref b)) R E s := by
  obtain ⟨n, dd, sl, ho⟩ := isTup_obj h1
  have ht := h2.typeIs
  obtain ⟨o, es, ep, ho2, hd⟩ := dict_obj h2
  obtain ⟨o', ho', hc⟩ := ht
  rw [ho2] at ho'
  cases ho'
  exact wpAny_isSame_ref_other (ne_data ho2 ho (by rw [hd]; exact fun z => nomatch z)) ho2 ho (by rw [hc]; simp) q
end
def kd : Dt → Nat
  | .non => 0 | .bl _ => 1 | .int _ => 1 | .str _ => 2 | .lst _ => 3 | .tup _ => 4 | .dic _ _ => 5 | .ins _ _ _ => 6
def RcP (prog : Program) (w : World) (A : Around) (s : Shared) (u v : Value) (k : Bool) : Prop := ∀ (E Q : Value → Shared → Prop), Q (.bool k) s → wpAny (model prog w) A (richCompare .Eq u v) Q E s
theorem mis {X : Cx} {pins : List (Addr × Obj)} {σ : L2.St} {H : Hp} {s : Shared} {A : Around} (I : Inv X pins σ H s) (hu : A.units < cLine) {x y : V} {u v : Value} :
    ∀ (d e : Dt), Is X.K H d x → Is X.K H e y → RelV x u → RelV y v → kd d ≠ kd e → kd d ≠ 6 → kd e ≠ 6 → RcP X.prog X.w A s u v false
  | .non, .non, _, _, _, _, h, _, _ => absurd rfl h
  | .non, .bl b2, hd, he, rx, ry, _, _, _ => by
    cases (show x = V.non from hd)
    cases (show u = Value.none from rx)
    cases (show y = V.bl b2 from he)
    cases (show v = Value.bool b2 from ry)
    exact fun E Q q => RcAt.none_bool b2 X.prog X.w E Q q
  | .non, .int i2, hd, he, rx, ry, _, _, _ => by
    cases (show x = V.non from hd)
    cases (show u = Value.none from rx)
    cases (show y = V.int i2 from he)
    obtain ⟨t2, rfl⟩ := (show ∃ t, v = Value.int i2 t from ry)
    exact fun E Q q => RcAt.none_int i2 t2 X.prog X.w E Q q
  | .non, .str z2, hd, he, rx, ry, _, _, _ => by
    cases (show x = V.non from hd)
    cases (show u = Value.none from rx)
    cases (show y = V.str z2 from he)
    obtain ⟨t2, rfl⟩ := (show ∃ t, v = Value.str z2 t from ry)
    exact fun E Q q => RcAt.none_str z2 t2 X.prog X.w E Q q
  | .non, .lst ds2, hd, he, rx, ry, _, _, _ => by
    cases (show x = V.non from hd)
    cases (show u = Value.none from rx)
    obtain ⟨a2, xs2, ex2, hs2, _⟩ := he
    subst ex2
    cases (show v = Value.ref a2 from ry)
    obtain ⟨its2, _, p2, _⟩ := I.list hs2
    have o2 := p2.isList
    exact fun E Q q => RcAt.none_list o2 hu X.prog X.w E Q q
  | .non, .tup ds2, hd, he, rx, ry, _, _, _ => by
    cases (show x = V.non from hd)
    cases (show u = Value.none from rx)
    obtain ⟨a2, xs2, ex2, hs2, _⟩ := he
    subst ex2
    cases (show v = Value.ref a2 from ry)
    obtain ⟨its2, _, o2, _⟩ := I.tuple hs2
    exact fun E Q q => RcAt.none_tuple o2 hu X.prog X.w E Q q
  | .non, .dic ks2 ds2, hd, he, rx, ry, _, _, _ => by
    cases (show x = V.non from hd)
    cases (show u = Value.none from rx)
    obtain ⟨a2, xs2, ex2, hs2, _⟩ := he
    subst ex2
    cases (show v = Value.ref a2 from ry)
    obtain ⟨_, _, va2, _, o2⟩ := (show ObjOk X.prog X.w H s.heap a2 (.dK xs2) from I.hok a2 _ hs2)
    exact fun E Q q => rc_eq_decline_or (k := false) (show s.TypeIs Value.none "NoneType" from rfl) o2.typeIs (by decide) F.sub_dict_NoneType F.slot_NoneType_eq F.slot_dict_eq_refl
      (fun Q' q' => call_gives F.slot_NoneType_eq rfl F.entry_NoneType_eq (F.args_NoneType_eq_2 _ _) (NoneType___eq___none_ref_0 a2) q')
      (fun Q' q' => callFin F.slot_dict_eq_refl o2.typeIs F.entry_dict_eq (F.args_dict_eq_2 _ _) (fun _ _ _ z => dict_declines o2.typeIs (notInst_ty (show s.TypeIs Value.none "NoneType" from rfl) F.sub_NoneType_dict) z) Q' q')
      (fun _ q' => wpAny_of_eq (rfl : isSame Value.none (Value.ref a2) = pure false) q') (.inr hu) q
  | .bl b1, .non, hd, he, rx, ry, _, _, _ => by
    cases (show x = V.bl b1 from hd)
    cases (show u = Value.bool b1 from rx)
    cases (show y = V.non from he)
    cases (show v = Value.none from ry)
    exact fun E Q q => RcAt.bool_none b1 X.prog X.w E Q q
  | .bl b1, .bl b2, _, _, _, _, h, _, _ => absurd rfl h
  | .bl b1, .int i2, _, _, _, _, h, _, _ => absurd rfl h
  | .bl b1, .str z2, hd, he, rx, ry, _, _, _ => by
    cases (show x = V.bl b1 from hd)
    cases (show u = Value.bool b1 from rx)
    cases (show y = V.str z2 from he)
    obtain ⟨t2, rfl⟩ := (show ∃ t, v = Value.str z2 t from ry)
    exact fun E Q q => RcAt.bool_str b1 z2 t2 X.prog X.w E Q q
  | .bl b1, .lst ds2, hd, he, rx, ry, _, _, _ => by
    cases (show x = V.bl b1 from hd)
    cases (show u = Value.bool b1 from rx)
    obtain ⟨a2, xs2, ex2, hs2, _⟩ := he
    subst ex2
    cases (show v = Value.ref a2 from ry)
    obtain ⟨its2, _, p2, _⟩ := I.list hs2
    have o2 := p2.isList
    exact fun E Q q => RcAt.bool_list b1 o2 hu X.prog X.w E Q q
  | .bl b1, .tup ds2, hd, he, rx, ry, _, _, _ => by
    cases (show x = V.bl b1 from hd)
    cases (show u = Value.bool b1 from rx)
    obtain ⟨a2, xs2, ex2, hs2, _⟩ := he
    subst ex2
    cases (show v = Value.ref a2 from ry)
    obtain ⟨its2, _, o2, _⟩ := I.tuple hs2
    exact fun E Q q => RcAt.bool_tuple b1 o2 hu X.prog X.w E Q q
  | .bl b1, .dic ks2 ds2, hd, he, rx, ry, _, _, _ => by
    cases (show x = V.bl b1 from hd)
    cases (show u = Value.bool b1 from rx)
    obtain ⟨a2, xs2, ex2, hs2, _⟩ := he
    subst ex2
    cases (show v = Value.ref a2 from ry)
    obtain ⟨_, _, va2, _, o2⟩ := (show ObjOk X.prog X.w H s.heap a2 (.dK xs2) from I.hok a2 _ hs2)
    exact fun E Q q => rc_eq_decline_or (k := false) (show s.TypeIs (Value.bool b1) "bool" from rfl) o2.typeIs (by decide) F.sub_dict_bool F.slot_bool_eq F.slot_dict_eq_refl
      (fun Q' q' => callFin F.slot_bool_eq (show s.TypeIs (Value.bool b1) "bool" from rfl) F.entry_int_eq (F.args_int_eq_2 _ _) (fun _ _ _ z => (dict_obj o2).elim fun _ y => y.elim fun _ y => y.elim fun _ ho => bool_declinesD ho.1 ho.2 z) Q' q')
      (fun Q' q' => callFin F.slot_dict_eq_refl o2.typeIs F.entry_dict_eq (F.args_dict_eq_2 _ _) (fun _ _ _ z => dict_declines o2.typeIs (notInst_ty (show s.TypeIs (Value.bool b1) "bool" from rfl) F.sub_bool_dict) z) Q' q')
      (fun _ q' => wpAny_of_eq (rfl : isSame (Value.bool b1) (Value.ref a2) = pure false) q') (.inr hu) q
  | .int i1, .non, hd, he, rx, ry, _, _, _ => by
    cases (show x = V.int i1 from hd)
    obtain ⟨t1, rfl⟩ := (show ∃ t, u = Value.int i1 t from rx)
    cases (show y = V.non from he)
    cases (show v = Value.none from ry)
    exact fun E Q q => RcAt.int_none i1 t1 X.prog X.w E Q q
  | .int i1, .bl b2, _, _, _, _, h, _, _ => absurd rfl h
  | .int i1, .int i2, _, _, _, _, h, _, _ => absurd rfl h
  | .int i1, .str z2, hd, he, rx, ry, _, _, _ => by
    cases (show x = V.int i1 from hd)
    obtain ⟨t1, rfl⟩ := (show ∃ t, u = Value.int i1 t from rx)
    cases (show y = V.str z2 from he)
    obtain ⟨t2, rfl⟩ := (show ∃ t, v = Value.str z2 t from ry)
    exact fun E Q q => RcAt.int_str i1 t1 z2 t2 X.prog X.w E Q q
  | .int i1, .lst ds2, hd, he, rx, ry, _, _, _ => by
    cases (show x = V.int i1 from hd)
    obtain ⟨t1, rfl⟩ := (show ∃ t, u = Value.int i1 t from rx)
    obtain ⟨a2, xs2, ex2, hs2, _⟩ := he
    subst ex2
    cases (show v = Value.ref a2 from ry)
    obtain ⟨its2, _, p2, _⟩ := I.list hs2
    have o2 := p2.isList
    exact fun E Q q => RcAt.int_list i1 t1 o2 hu X.prog X.w E Q q
  | .int i1, .tup ds2, hd, he, rx, ry, _, _, _ => by
    cases (show x = V.int i1 from hd)
    obtain ⟨t1, rfl⟩ := (show ∃ t, u = Value.int i1 t from rx)
    obtain ⟨a2, xs2, ex2, hs2, _⟩ := he
    subst ex2
    cases (show v = Value.ref a2 from ry)
    obtain ⟨its2, _, o2, _⟩ := I.tuple hs2
    exact fun E Q q => RcAt.int_tuple i1 t1 o2 hu X.prog X.w E Q q
  | .int i1, .dic ks2 ds2, hd, he, rx, ry, _, _, _ => by
    cases (show x = V.int i1 from hd)
    obtain ⟨t1, rfl⟩ := (show ∃ t, u = Value.int i1 t from rx)
    obtain ⟨a2, xs2, ex2, hs2, _⟩ := he
    subst ex2
    cases (show v = Value.ref a2 from ry)
    obtain ⟨_, _, va2, _, o2⟩ := (show ObjOk X.prog X.w H s.heap a2 (.dK xs2) from I.hok a2 _ hs2)
    exact fun E Q q => rc_eq_decline_or (k := false) (show s.TypeIs (Value.int i1 t1) "int" from rfl) o2.typeIs (by decide) F.sub_dict_int F.slot_int_eq F.slot_dict_eq_refl
      (fun Q' q' => callFin F.slot_int_eq (show s.TypeIs (Value.int i1 t1) "int" from rfl) F.entry_int_eq (F.args_int_eq_2 _ _) (fun _ _ _ z => (dict_obj o2).elim fun _ y => y.elim fun _ y => y.elim fun _ ho => int_declinesD ho.1 ho.2 z) Q' q')
      (fun Q' q' => callFin F.slot_dict_eq_refl o2.typeIs F.entry_dict_eq (F.args_dict_eq_2 _ _) (fun _ _ _ z => dict_declines o2.typeIs (notInst_ty (show s.TypeIs (Value.int i1 t1) "int" from rfl) F.sub_int_dict) z) Q' q')
      (fun _ q' => wpAny_of_eq (rfl : isSame (Value.int i1 t1) (Value.ref a2) = pure false) q') (.inr hu) q
  | .str z1, .non, hd, he, rx, ry, _, _, _ => by
    cases (show x = V.str z1 from hd)
    obtain ⟨t1, rfl⟩ := (show ∃ t, u = Value.str z1 t from rx)
    cases (show y = V.non from he)
    cases (show v = Value.none from ry)
    exact fun E Q q => RcAt.str_none z1 t1 X.prog X.w E Q q
  | .str z1, .bl b2, hd, he, rx, ry, _, _, _ => by
    cases (show x = V.str z1 from hd)
    obtain ⟨t1, rfl⟩ := (show ∃ t, u = Value.str z1 t from rx)
    cases (show y = V.bl b2 from he)
    cases (show v = Value.bool b2 from ry)
    exact fun E Q q => RcAt.str_bool z1 t1 b2 X.prog X.w E Q q
  | .str z1, .int i2, hd, he, rx, ry, _, _, _ => by
    cases (show x = V.str z1 from hd)
    obtain ⟨t1, rfl⟩ := (show ∃ t, u = Value.str z1 t from rx)
    cases (show y = V.int i2 from he)
    obtain ⟨t2, rfl⟩ := (show ∃ t, v = Value.int i2 t from ry)
    exact fun E Q q => RcAt.str_int z1 t1 i2 t2 X.prog X.w E Q q
  | .str z1, .str z2, _, _, _, _, h, _, _ => absurd rfl h
  | .str z1, .lst ds2, hd, he, rx, ry, _, _, _ => by
    cases (show x = V.str z1 from hd)
    obtain ⟨t1, rfl⟩ := (show ∃ t, u = Value.str z1 t from rx)
    obtain ⟨a2, xs2, ex2, hs2, _⟩ := he
    subst ex2
    cases (show v = Value.ref a2 from ry)
    obtain ⟨its2, _, p2, _⟩ := I.list hs2
    have o2 := p2.isList
    exact fun E Q q => RcAt.str_list z1 t1 o2 hu X.prog X.w E Q q
  | .str z1, .tup ds2, hd, he, rx, ry, _, _, _ => by
    cases (show x = V.str z1 from hd)
    obtain ⟨t1, rfl⟩ := (show ∃ t, u = Value.str z1 t from rx)
    obtain ⟨a2, xs2, ex2, hs2, _⟩ := he
    subst ex2
    cases (show v = Value.ref a2 from ry)
    obtain ⟨its2, _, o2, _⟩ := I.tuple hs2
    exact fun E Q q => RcAt.str_tuple z1 t1 o2 hu X.prog X.w E Q q
  | .str z1, .dic ks2 ds2, hd, he, rx, ry, _, _, _ => by
    cases (show x = V.str z1 from hd)
    obtain ⟨t1, rfl⟩ := (show ∃ t, u = Value.str z1 t from rx)
    obtain ⟨a2, xs2, ex2, hs2, _⟩ := he
    subst ex2
    cases (show v = Value.ref a2 from ry)
    obtain ⟨_, _, va2, _, o2⟩ := (show ObjOk X.prog X.w H s.heap a2 (.dK xs2) from I.hok a2 _ hs2)
    exact fun E Q q => rc_eq_decline_or (k := false) (show s.TypeIs (Value.str z1 t1) "str" from rfl) o2.typeIs (by decide) F.sub_dict_str F.slot_str_eq F.slot_dict_eq_refl
      (fun Q' q' => callFin F.slot_str_eq (show s.TypeIs (Value.str z1 t1) "str" from rfl) F.entry_str_eq (F.args_str_eq_2 _ _) (fun _ _ _ z => (dict_obj o2).elim fun _ y => y.elim fun _ y => y.elim fun _ ho => str_declinesD ho.1 ho.2 z) Q' q')
      (fun Q' q' => callFin F.slot_dict_eq_refl o2.typeIs F.entry_dict_eq (F.args_dict_eq_2 _ _) (fun _ _ _ z => dict_declines o2.typeIs (notInst_ty (show s.TypeIs (Value.str z1 t1) "str" from rfl) F.sub_str_dict) z) Q' q')
      (fun _ q' => wpAny_of_eq (rfl : isSame (Value.str z1 t1) (Value.ref a2) = pure false) q') (.inr hu) q
  | .lst ds1, .non, hd, he, rx, ry, _, _, _ => by
    obtain ⟨a1, xs1, ex1, hs1, _⟩ := hd
    subst ex1
    cases (show u = Value.ref a1 from rx)
    obtain ⟨its1, _, p1, _⟩ := I.list hs1
    have o1 := p1.isList
    cases (show y = V.non from he)
    cases (show v = Value.none from ry)
    exact fun E Q q => RcAt.list_none o1 hu X.prog X.w E Q q
  | .lst ds1, .bl b2, hd, he, rx, ry, _, _, _ => by
    obtain ⟨a1, xs1, ex1, hs1, _⟩ := hd
    subst ex1
    cases (show u = Value.ref a1 from rx)
    obtain ⟨its1, _, p1, _⟩ := I.list hs1
    have o1 := p1.isList
    cases (show y = V.bl b2 from he)
    cases (show v = Value.bool b2 from ry)
    exact fun E Q q => RcAt.list_bool b2 o1 hu X.prog X.w E Q q
  | .lst ds1, .int i2, hd, he, rx, ry, _, _, _ => by
    obtain ⟨a1, xs1, ex1, hs1, _⟩ := hd
    subst ex1
    cases (show u = Value.ref a1 from rx)
    obtain ⟨its1, _, p1, _⟩ := I.list hs1
    have o1 := p1.isList
    cases (show y = V.int i2 from he)
    obtain ⟨t2, rfl⟩ := (show ∃ t, v = Value.int i2 t from ry)
    exact fun E Q q => RcAt.list_int i2 t2 o1 hu X.prog X.w E Q q
  | .lst ds1, .str z2, hd, he, rx, ry, _, _, _ => by
    obtain ⟨a1, xs1, ex1, hs1, _⟩ := hd
    subst ex1
    cases (show u = Value.ref a1 from rx)
    obtain ⟨its1, _, p1, _⟩ := I.list hs1
    have o1 := p1.isList
    cases (show y = V.str z2 from he)
    obtain ⟨t2, rfl⟩ := (show ∃ t, v = Value.str z2 t from ry)
    exact fun E Q q => RcAt.list_str z2 t2 o1 hu X.prog X.w E Q q
  | .lst ds1, .lst ds2, _, _, _, _, h, _, _ => absurd rfl h
  | .lst ds1, .tup ds2, hd, he, rx, ry, _, _, _ => by
    obtain ⟨a1, xs1, ex1, hs1, _⟩ := hd
    subst ex1
    cases (show u = Value.ref a1 from rx)
    obtain ⟨its1, _, p1, _⟩ := I.list hs1
    have o1 := p1.isList
    obtain ⟨a2, xs2, ex2, hs2, _⟩ := he
    subst ex2
    cases (show v = Value.ref a2 from ry)
    obtain ⟨its2, _, o2, _⟩ := I.tuple hs2
    exact fun E Q q => RcAt.list_tuple o1 o2 hu X.prog X.w E Q q
  | .lst ds1, .dic ks2 ds2, hd, he, rx, ry, _, _, _ => by
    obtain ⟨a1, xs1, ex1, hs1, _⟩ := hd
    subst ex1
    cases (show u = Value.ref a1 from rx)
    obtain ⟨its1, _, p1, _⟩ := I.list hs1
    have o1 := p1.isList
    obtain ⟨a2, xs2, ex2, hs2, _⟩ := he
    subst ex2
    cases (show v = Value.ref a2 from ry)
    obtain ⟨_, _, va2, _, o2⟩ := (show ObjOk X.prog X.w H s.heap a2 (.dK xs2) from I.hok a2 _ hs2)
    exact fun E Q q => rc_eq_decline_or (k := false) (ti_list o1) o2.typeIs (by decide) F.sub_dict_list F.slot_list_eq F.slot_dict_eq_refl
      (fun Q' q' => callFin F.slot_list_eq (ti_list o1) F.entry_list_eq (F.args_list_eq_2 _ _) (fun _ _ _ z => (isList_obj o1).elim fun _ y => y.elim fun _ y => y.elim fun _ ho => list_declinesI ho (notInst_ty o2.typeIs F.sub_dict_list) z) Q' q')
      (fun Q' q' => callFin F.slot_dict_eq_refl o2.typeIs F.entry_dict_eq (F.args_dict_eq_2 _ _) (fun _ _ _ z => dict_declines o2.typeIs (notInst_ty (ti_list o1) F.sub_list_dict) z) Q' q')
      (fun _ q' => isSame_lst_dic o1 o2 q') (.inr hu) q
  | .tup ds1, .non, hd, he, rx, ry, _, _, _ => by
    obtain ⟨a1, xs1, ex1, hs1, _⟩ := hd
    subst ex1
    cases (show u = Value.ref a1 from rx)
    obtain ⟨its1, _, o1, _⟩ := I.tuple hs1
    cases (show y = V.non from he)
    cases (show v = Value.none from ry)
    exact fun E Q q => RcAt.tuple_none o1 hu X.prog X.w E Q q
  | .tup ds1, .bl b2, hd, he, rx, ry, _, _, _ => by
    obtain ⟨a1, xs1, ex1, hs1, _⟩ := hd
    subst ex1
    cases (show u = Value.ref a1 from rx)
    obtain ⟨its1, _, o1, _⟩ := I.tuple hs1
    cases (show y = V.bl b2 from he)
    cases (show v = Value.bool b2 from ry)
    exact fun E Q q => RcAt.tuple_bool b2 o1 hu X.prog X.w E Q q
  | .tup ds1, .int i2, hd, he, rx, ry, _, _, _ => by
    obtain ⟨a1, xs1, ex1, hs1, _⟩ := hd
    subst ex1
    cases (show u = Value.ref a1 from rx)
    obtain ⟨its1, _, o1, _⟩ := I.tuple hs1
    cases (show y = V.int i2 from he)
    obtain ⟨t2, rfl⟩ := (show ∃ t, v = Value.int i2 t from ry)
    exact fun E Q q => RcAt.tuple_int i2 t2 o1 hu X.prog X.w E Q q
  | .tup ds1, .str z2, hd, he, rx, ry, _, _, _ => by
    obtain ⟨a1, xs1, ex1, hs1, _⟩ := hd
    subst ex1
    cases (show u = Value.ref a1 from rx)
    obtain ⟨its1, _, o1, _⟩ := I.tuple hs1
    cases (show y = V.str z2 from he)
    obtain ⟨t2, rfl⟩ := (show ∃ t, v = Value.str z2 t from ry)
    exact fun E Q q => RcAt.tuple_str z2 t2 o1 hu X.prog X.w E Q q
  | .tup ds1, .lst ds2, hd, he, rx, ry, _, _, _ => by
    obtain ⟨a1, xs1, ex1, hs1, _⟩ := hd
    subst ex1
    cases (show u = Value.ref a1 from rx)
    obtain ⟨its1, _, o1, _⟩ := I.tuple hs1
    obtain ⟨a2, xs2, ex2, hs2, _⟩ := he
    subst ex2
    cases (show v = Value.ref a2 from ry)
    obtain ⟨its2, _, p2, _⟩ := I.list hs2
    have o2 := p2.isList
    exact fun E Q q => RcAt.tuple_list o1 o2 hu X.prog X.w E Q q
  | .tup ds1, .tup ds2, _, _, _, _, h, _, _ => absurd rfl h
  | .tup ds1, .dic ks2 ds2, hd, he, rx, ry, _, _, _ => by
    obtain ⟨a1, xs1, ex1, hs1, _⟩ := hd
    subst ex1
    cases (show u = Value.ref a1 from rx)
    obtain ⟨its1, _, o1, _⟩ := I.tuple hs1
    obtain ⟨a2, xs2, ex2, hs2, _⟩ := he
    subst ex2
    cases (show v = Value.ref a2 from ry)
    obtain ⟨_, _, va2, _, o2⟩ := (show ObjOk X.prog X.w H s.heap a2 (.dK xs2) from I.hok a2 _ hs2)
    exact fun E Q q => rc_eq_decline_or (k := false) (ti_tuple o1) o2.typeIs (by decide) F.sub_dict_tuple F.slot_tuple_eq F.slot_dict_eq_refl
      (fun Q' q' => callFin F.slot_tuple_eq (ti_tuple o1) F.entry_tuple_eq (F.args_tuple_eq_2 _ _) (fun _ _ _ z => (isTup_obj o1).elim fun _ y => y.elim fun _ y => y.elim fun _ ho => tuple_declinesI ho (notInst_ty o2.typeIs F.sub_dict_tuple) z) Q' q')
      (fun Q' q' => callFin F.slot_dict_eq_refl o2.typeIs F.entry_dict_eq (F.args_dict_eq_2 _ _) (fun _ _ _ z => dict_declines o2.typeIs (notInst_ty (ti_tuple o1) F.sub_tuple_dict) z) Q' q')
      (fun _ q' => isSame_tup_dic o1 o2 q') (.inr hu) q
  | .dic ks1 ds1, .non, hd, he, rx, ry, _, _, _ => by
    obtain ⟨a1, xs1, ex1, hs1, _⟩ := hd
    subst ex1
    cases (show u = Value.ref a1 from rx)
    obtain ⟨_, _, va1, _, o1⟩ := (show ObjOk X.prog X.w H s.heap a1 (.dK xs1) from I.hok a1 _ hs1)
    cases (show y = V.non from he)
    cases (show v = Value.none from ry)
    exact fun E Q q => rc_eq_decline_or (k := false) o1.typeIs (show s.TypeIs Value.none "NoneType" from rfl) (by decide) F.sub_NoneType_dict F.slot_dict_eq F.slot_NoneType_eq_refl
      (fun Q' q' => callFin F.slot_dict_eq o1.typeIs F.entry_dict_eq (F.args_dict_eq_2 _ _) (fun _ _ _ z => dict_declines o1.typeIs (notInst_ty (show s.TypeIs Value.none "NoneType" from rfl) F.sub_NoneType_dict) z) Q' q')
      (fun Q' q' => call_gives F.slot_NoneType_eq_refl rfl F.entry_NoneType_eq (F.args_NoneType_eq_2 _ _) (NoneType___eq___none_ref_0 a1) q')
      (fun _ q' => wpAny_of_eq (rfl : isSame (Value.ref a1) Value.none = pure false) q') (.inr hu) q
  | .dic ks1 ds1, .bl b2, hd, he, rx, ry, _, _, _ => by
    obtain ⟨a1, xs1, ex1, hs1, _⟩ := hd
    subst ex1
    cases (show u = Value.ref a1 from rx)
    obtain ⟨_, _, va1, _, o1⟩ := (show ObjOk X.prog X.w H s.heap a1 (.dK xs1) from I.hok a1 _ hs1)
    cases (show y = V.bl b2 from he)
    cases (show v = Value.bool b2 from ry)
    exact fun E Q q => rc_eq_decline_or (k := false) o1.typeIs (show s.TypeIs (Value.bool b2) "bool" from rfl) (by decide) F.sub_bool_dict F.slot_dict_eq F.slot_bool_eq_refl
      (fun Q' q' => callFin F.slot_dict_eq o1.typeIs F.entry_dict_eq (F.args_dict_eq_2 _ _) (fun _ _ _ z => dict_declines o1.typeIs (notInst_ty (show s.TypeIs (Value.bool b2) "bool" from rfl) F.sub_bool_dict) z) Q' q')
      (fun Q' q' => callFin F.slot_bool_eq_refl (show s.TypeIs (Value.bool b2) "bool" from rfl) F.entry_int_eq (F.args_int_eq_2 _ _) (fun _ _ _ z => (dict_obj o1).elim fun _ y => y.elim fun _ y => y.elim fun _ ho => bool_declinesD ho.1 ho.2 z) Q' q')
      (fun _ q' => wpAny_of_eq (rfl : isSame (Value.ref a1) (Value.bool b2) = pure false) q') (.inr hu) q
  | .dic ks1 ds1, .int i2, hd, he, rx, ry, _, _, _ => by
    obtain ⟨a1, xs1, ex1, hs1, _⟩ := hd
    subst ex1
    cases (show u = Value.ref a1 from rx)
    obtain ⟨_, _, va1, _, o1⟩ := (show ObjOk X.prog X.w H s.heap a1 (.dK xs1) from I.hok a1 _ hs1)
    cases (show y = V.int i2 from he)
    obtain ⟨t2, rfl⟩ := (show ∃ t, v = Value.int i2 t from ry)
    exact fun E Q q => rc_eq_decline_or (k := false) o1.typeIs (show s.TypeIs (Value.int i2 t2) "int" from rfl) (by decide) F.sub_int_dict F.slot_dict_eq F.slot_int_eq_refl
      (fun Q' q' => callFin F.slot_dict_eq o1.typeIs F.entry_dict_eq (F.args_dict_eq_2 _ _) (fun _ _ _ z => dict_declines o1.typeIs (notInst_ty (show s.TypeIs (Value.int i2 t2) "int" from rfl) F.sub_int_dict) z) Q' q')
      (fun Q' q' => callFin F.slot_int_eq_refl (show s.TypeIs (Value.int i2 t2) "int" from rfl) F.entry_int_eq (F.args_int_eq_2 _ _) (fun _ _ _ z => (dict_obj o1).elim fun _ y => y.elim fun _ y => y.elim fun _ ho => int_declinesD ho.1 ho.2 z) Q' q')
      (fun _ q' => wpAny_of_eq (rfl : isSame (Value.ref a1) (Value.int i2 t2) = pure false) q') (.inr hu) q
  | .dic ks1 ds1, .str z2, hd, he, rx, ry, _, _, _ => by
    obtain ⟨a1, xs1, ex1, hs1, _⟩ := hd
    subst ex1
    cases (show u = Value.ref a1 from rx)
    obtain ⟨_, _, va1, _, o1⟩ := (show ObjOk X.prog X.w H s.heap a1 (.dK xs1) from I.hok a1 _ hs1)
    cases (show y = V.str z2 from he)
    obtain ⟨t2, rfl⟩ := (show ∃ t, v = Value.str z2 t from ry)
    exact fun E Q q => rc_eq_decline_or (k := false) o1.typeIs (show s.TypeIs (Value.str z2 t2) "str" from rfl) (by decide) F.sub_str_dict F.slot_dict_eq F.slot_str_eq_refl
      (fun Q' q' => callFin F.slot_dict_eq o1.typeIs F.entry_dict_eq (F.args_dict_eq_2 _ _) (fun _ _ _ z => dict_declines o1.typeIs (notInst_ty (show s.TypeIs (Value.str z2 t2) "str" from rfl) F.sub_str_dict) z) Q' q')
      (fun Q' q' => callFin F.slot_str_eq_refl (show s.TypeIs (Value.str z2 t2) "str" from rfl) F.entry_str_eq (F.args_str_eq_2 _ _) (fun _ _ _ z => (dict_obj o1).elim fun _ y => y.elim fun _ y => y.elim fun _ ho => str_declinesD ho.1 ho.2 z) Q' q')
      (fun _ q' => wpAny_of_eq (rfl : isSame (Value.ref a1) (Value.str z2 t2) = pure false) q') (.inr hu) q
  | .dic ks1 ds1, .lst ds2, hd, he, rx, ry, _, _, _ => by
    obtain ⟨a1, xs1, ex1, hs1, _⟩ := hd
    subst ex1
    cases (show u = Value.ref a1 from rx)
    obtain ⟨_, _, va1, _, o1⟩ := (show ObjOk X.prog X.w H s.heap a1 (.dK xs1) from I.hok a1 _ hs1)
    obtain ⟨a2, xs2, ex2, hs2, _⟩ := he
    subst ex2
    cases (show v = Value.ref a2 from ry)
    obtain ⟨its2, _, p2, _⟩ := I.list hs2
    have o2 := p2.isList
    exact fun E Q q => rc_eq_decline_or (k := false) o1.typeIs (ti_list o2) (by decide) F.sub_list_dict F.slot_dict_eq F.slot_list_eq_refl
      (fun Q' q' => callFin F.slot_dict_eq o1.typeIs F.entry_dict_eq (F.args_dict_eq_2 _ _) (fun _ _ _ z => dict_declines o1.typeIs (notInst_ty (ti_list o2) F.sub_list_dict) z) Q' q')
      (fun Q' q' => callFin F.slot_list_eq_refl (ti_list o2) F.entry_list_eq (F.args_list_eq_2 _ _) (fun _ _ _ z => (isList_obj o2).elim fun _ y => y.elim fun _ y => y.elim fun _ ho => list_declinesI ho (notInst_ty o1.typeIs F.sub_dict_list) z) Q' q')
      (fun _ q' => isSame_dic_lst o1 o2 q') (.inr hu) q
  | .dic ks1 ds1, .tup ds2, hd, he, rx, ry, _, _, _ => by
    obtain ⟨a1, xs1, ex1, hs1, _⟩ := hd
    subst ex1
    cases (show u = Value.ref a1 from rx)
    obtain ⟨_, _, va1, _, o1⟩ := (show ObjOk X.prog X.w H s.heap a1 (.dK xs1) from I.hok a1 _ hs1)
    obtain ⟨a2, xs2, ex2, hs2, _⟩ := he
    subst ex2
    cases (show v = Value.ref a2 from ry)
    obtain ⟨its2, _, o2, _⟩ := I.tuple hs2
    exact fun E Q q => rc_eq_decline_or (k := false) o1.typeIs (ti_tuple o2) (by decide) F.sub_tuple_dict F.slot_dict_eq F.slot_tuple_eq_refl
      (fun Q' q' => callFin F.slot_dict_eq o1.typeIs F.entry_dict_eq (F.args_dict_eq_2 _ _) (fun _ _ _ z => dict_declines o1.typeIs (notInst_ty (ti_tuple o2) F.sub_tuple_dict) z) Q' q')
      (fun Q' q' => callFin F.slot_tuple_eq_refl (ti_tuple o2) F.entry_tuple_eq (F.args_tuple_eq_2 _ _) (fun _ _ _ z => (isTup_obj o2).elim fun _ y => y.elim fun _ y => y.elim fun _ ho => tuple_declinesI ho (notInst_ty o1.typeIs F.sub_dict_tuple) z) Q' q')
      (fun _ q' => isSame_dic_tup o1 o2 q') (.inr hu) q
  | .dic ks1 ds1, .dic ks2 ds2, _, _, _, _, h, _, _ => absurd rfl h
  | .ins _ _ _, _, _, _, _, _, _, h, _ => absurd rfl h
  | _, .ins _ _ _, _, _, _, _, _, _, h => absurd rfl h
end LxE
namespace LxE
open PySem PySem.SeqAt L2
theorem dep_lst {ds : List Dt} {i : Nat} {d : Dt} {n : Nat} (h : depL ds + 1 ≤ n + 1) (e : ds[i]? = some d) : dep d ≤ n := by
  have := depL_get e
  omega
theorem eAt_some {ds es : List Dt} {i : Nat} {d e : Dt} (h1 : ds[i]? = some d) (h2 : es[i]? = some e) : eAt ds es i = deq d e := by
  unfold eAt
  rw [h1, h2]
theorem deqL_true : ∀ {ds es : List Dt}, ds.length = es.length → (∀ (i : Nat) (d e : Dt), ds[i]? = some d → es[i]? = some e → deq d e = true) → deqL ds es = true
  | [], [], _, _ => rfl
  | [], _ :: _, h, _ => by simp at h
  | _ :: _, [], h, _ => by simp at h
  | a :: as, b :: bs, h, k => by
    show (deq a b && deqL as bs) = true
    rw [k 0 a b rfl rfl, deqL_true (by simpa using h) fun i d e h1 h2 => k (i + 1) d e h1 h2] <;> rfl
theorem look_cons {l : Key} {ls : List Key} {e : Dt} {es : List Dt} {k : Key} : look (l :: ls) (e :: es) k = if l = k then some e else look ls es k := by
  unfold look
  rw [List.zip_cons_cons, List.find?_cons]
  by_cases h : l = k
  · simp [h]
  · simp [h]
theorem look_val {K : PySem.W.Frag} {H : Hp} : ∀ {kvs : List (Key × V)} {es : List Dt} {k : Key}, IsL K H es (kvs.map (·.2)) →
    (∀ v, valV kvs k = some v → ∃ e, look (kvs.map (·.1)) es k = some e ∧ Is K H e v) ∧ (valV kvs k = none → look (kvs.map (·.1)) es k = none)
  | [], es, k, h => by
    constructor
    · intro v hv
      exact absurd hv (by unfold valV; simp)
    · intro _
      unfold look
      rw [List.map_nil, List.zip_nil_left] <;> rfl
  | p :: kvs, [], k, h => by
    have h' : List.map (·.2) (p :: kvs) = [] := h
    simp at h'
  | p :: kvs, e :: es, k, h => by
    obtain ⟨v, r, h1, h2, h3⟩ := h
    rw [List.map_cons] at h1
    injection h1 with a1 a2
    subst a1 a2
    have ih := look_val (k := k) h3
    have lc : look (List.map (·.1) (p :: kvs)) (e :: es) k = if p.1 = k then some e else look (kvs.map (·.1)) es k := look_cons
    have vc : valV (p :: kvs) k = if p.1 = k then some p.2 else valV kvs k := by
      unfold valV
      rw [List.find?_cons]
      by_cases hk : p.1 = k
      · simp [hk]
      · simp [hk]
    rw [lc, vc]
    by_cases hk : p.1 = k
    · rw [if_pos hk, if_pos hk]
      exact ⟨fun w hw => ⟨e, rfl, by cases hw; exact h2⟩, fun z => by cases z⟩
    · rw [if_neg hk, if_neg hk]
      exact ih
theorem valV_nodup : ∀ {kvs : List (Key × V)} {i : Nat} {p : Key × V}, (kvs.map (·.1)).Nodup → kvs[i]? = some p → valV kvs p.1 = some p.2
  | [], _, _, _, h => by simp at h
  | q :: kvs, 0, p, _, h => by
    cases h
    unfold valV
    rw [List.find?_cons]
    simp
  | q :: kvs, i + 1, p, hn, h => by
    rw [List.map_cons, List.nodup_cons] at hn
    have h' : kvs[i]? = some p := h
    have hm : p.1 ∈ kvs.map (·.1) := List.mem_map.mpr ⟨p, List.mem_of_getElem? h', rfl⟩
    have hne : q.1 ≠ p.1 := fun z => hn.1 (z ▸ hm)
    have ih := valV_nodup hn.2 h'
    unfold valV at ih ⊢
    rw [List.find?_cons]
    simp only [hne, decide_false]
    exact ih
theorem deqD_true {ls : List Key} {es : List Dt} : ∀ {ks : List Key} {ds : List Dt}, (∀ (i : Nat) (k : Key) (d : Dt), ks[i]? = some k → ds[i]? = some d → ∃ e, look ls es k = some e ∧ deq d e = true) → deqD ks ds ls es = true
  | [], _, _ => by cases ‹List Dt› <;> rfl
  | _ :: _, [], _ => rfl
  | k :: ks, d :: ds, h => by
    obtain ⟨e, h1, h2⟩ := h 0 k d rfl rfl
    show ((match look ls es k with | some e => deq d e | none => false) && deqD ks ds ls es) = true
    rw [h1, deqD_true fun i k d a b => h (i + 1) k d a b]
    show (deq d e && true) = true
    rw [h2] <;> rfl
section
variable {X : Cx} {pins : List (Addr × Obj)} {σ : L2.St} {H : Hp} {s : Shared}
theorem deqL_same (I : Inv X pins σ H s) {n : Nat} (ih : ∀ (d e : Dt) (x : V), dep d ≤ n → Is X.K H d x → Is X.K H e x → deq d e = true) {ds es : List Dt} {xs : List V} (hn : depL ds ≤ n) (h1 : IsL X.K H ds xs) (h2 : IsL X.K H es xs) : deqL ds es = true :=
  deqL_true (h1.length.trans h2.length.symm) fun i d e e1 e2 => by
    obtain ⟨v, hv, a⟩ := h1.get' e1
    obtain ⟨v', hv', b⟩ := h2.get' e2
    rw [hv] at hv'
    cases hv'
    exact ih d e v (Nat.le_trans (depL_get e1) hn) a b
theorem is_same (I : Inv X pins σ H s) : ∀ (n : Nat) (d e : Dt) (x : V), dep d ≤ n → Is X.K H d x → Is X.K H e x → deq d e = true := by
  intro n
  induction n with
  | zero =>
    intro d e x hn hd he
    cases d <;> first
      | (exfalso; simp [dep] at hn; done)
      | skip
    all_goals (cases e <;> first
      | (cases (show x = _ from hd); cases (show _ = _ from he); simp [deq]; done)
      | (cases (show x = _ from hd); exact absurd (show _ = _ from he) (by simp))
      | (cases (show x = _ from hd); obtain ⟨_, _, _, z, _⟩ := he; cases z; done)
      | (cases (show x = _ from hd); obtain ⟨_, _, z, _⟩ := he; cases z; done))
  | succ n ih =>
    intro d e x hn hd he
    by_cases h0 : dep d ≤ n
    · exact ih d e x h0 hd he
    cases d with
    | non => exact absurd (Nat.zero_le _) h0
    | bl b => exact absurd (Nat.zero_le _) h0
    | int b => exact absurd (Nat.zero_le _) h0
    | str b => exact absurd (Nat.zero_le _) h0
    | lst ds =>
      obtain ⟨a, xs, rfl, hs, hl⟩ := hd
      cases e with
      | lst es =>
        obtain ⟨a', ys, ea, hs', hl'⟩ := he
        cases ea
        cases I.list_inj hs hs'
        exact deqL_same I ih (Nat.le_of_succ_le_succ hn) hl hl'
      | tup es =>
        obtain ⟨a', ys, ea, hs', hl'⟩ := he
        cases ea
        obtain ⟨_, _, p1, _⟩ := I.list hs
        obtain ⟨_, _, p2, _⟩ := I.tuple hs'
        exact absurd rfl (ne_of_list_tuple p1.isList p2)
      | dic ks es =>
        obtain ⟨a', ys, ea, hs', hl'⟩ := he
        cases ea
        obtain ⟨_, _, p1, _⟩ := I.list hs
        obtain ⟨_, _, va, _, o⟩ := (show ObjOk X.prog X.w H s.heap a (.dK ys) from I.hok a _ hs')
        obtain ⟨_, _, _, ho⟩ := isList_obj p1.isList
        obtain ⟨_, _, _, ho2, hd2⟩ := dict_obj o
        exact absurd rfl (ne_data ho ho2 (by rw [hd2]; exact fun z => nomatch z))
      | ins C fs es =>
        obtain ⟨a', dx, ys, ea, hs', hl'⟩ := he
        cases ea
        obtain ⟨_, _, p1, _⟩ := I.list hs
        obtain ⟨_, _, _, ho⟩ := isList_obj p1.isList
        obtain ⟨_, J, _⟩ := ins_get I.hok hs'
        exact absurd rfl (ne_data ho J.obj (fun z => nomatch z))
      | non => exact absurd (show V.ref a = V.non from he) (by simp)
      | bl b => exact absurd (show V.ref a = V.bl b from he) (by simp)
      | int b => exact absurd (show V.ref a = V.int b from he) (by simp)
      | str b => exact absurd (show V.ref a = V.str b from he) (by simp)
    | tup ds =>
      obtain ⟨a, xs, rfl, hs, hl⟩ := hd
      cases e with
      | tup es =>
        obtain ⟨a', ys, ea, hs', hl'⟩ := he
        cases ea
        cases I.tuple_inj hs hs'
        exact deqL_same I ih (Nat.le_of_succ_le_succ hn) hl hl'
      | lst es =>
        obtain ⟨a', ys, ea, hs', hl'⟩ := he
        cases ea
        obtain ⟨_, _, p1, _⟩ := I.list hs'
        obtain ⟨_, _, p2, _⟩ := I.tuple hs
        exact absurd rfl (ne_of_list_tuple p1.isList p2)
      | dic ks es =>
        obtain ⟨a', ys, ea, hs', hl'⟩ := he
        cases ea
        obtain ⟨_, _, p1, _⟩ := I.tuple hs
        obtain ⟨_, _, va, _, o⟩ := (show ObjOk X.prog X.w H s.heap a (.dK ys) from I.hok a _ hs')
        obtain ⟨_, _, _, ho⟩ := isTup_obj p1
        obtain ⟨_, _, _, ho2, hd2⟩ := dict_obj o
        exact absurd rfl (ne_data ho ho2 (by rw [hd2]; exact fun z => nomatch z))
      | ins C fs es =>
        obtain ⟨a', dx, ys, ea, hs', hl'⟩ := he
        cases ea
        obtain ⟨_, _, p1, _⟩ := I.tuple hs
        obtain ⟨_, _, _, ho⟩ := isTup_obj p1
        obtain ⟨_, J, _⟩ := ins_get I.hok hs'
        exact absurd rfl (ne_data ho J.obj (fun z => nomatch z))
      | non => exact absurd (show V.ref a = V.non from he) (by simp)
      | bl b => exact absurd (show V.ref a = V.bl b from he) (by simp)
      | int b => exact absurd (show V.ref a = V.int b from he) (by simp)
      | str b => exact absurd (show V.ref a = V.str b from he) (by simp)
    | dic ks ds =>
      obtain ⟨a, kvs, rfl, hs, ek, hl⟩ := hd
      obtain ⟨_, _, va, rk, o⟩ := (show ObjOk X.prog X.w H s.heap a (.dK kvs) from I.hok a _ hs)
      cases e with
      | dic ls es =>
        obtain ⟨a', lvs, ea, hs', ek', hl'⟩ := he
        cases ea
        rw [hs] at hs'
        cases hs'
        subst ek ek'
        have hnd : (kvs.map (·.1)).Nodup := by
          obtain ⟨_, _, _, _, _, _, _, _, nd⟩ := o
          rw [KV.keys rk]
          exact nd
        show ((kvs.map (·.1)).length == (kvs.map (·.1)).length && deqD (kvs.map (·.1)) ds (kvs.map (·.1)) es) = true
        rw [beq_self_eq_true, Bool.true_and]
        refine deqD_true fun i k d e1 e2 => ?_
        obtain ⟨p, hp, rfl⟩ : ∃ p, kvs[i]? = some p ∧ p.1 = k := by
          rw [List.getElem?_map] at e1
          cases hq : kvs[i]? with
          | none => rw [hq] at e1; cases e1
          | some p => rw [hq] at e1; exact ⟨p, rfl, Option.some.inj e1⟩
        obtain ⟨v, hv, hiv⟩ := hl.get' e2
        rw [List.getElem?_map, hp] at hv
        cases hv
        obtain ⟨e, he1, he2⟩ := (look_val (k := p.1) hl').1 p.2 (valV_nodup hnd hp)
        exact ⟨e, he1, ih d e p.2 (dep_lst hn e2) hiv he2⟩
      | lst es =>
        obtain ⟨a', ys, ea, hs', hl'⟩ := he
        cases ea
        obtain ⟨_, _, p1, _⟩ := I.list hs'
        obtain ⟨_, _, _, ho⟩ := isList_obj p1.isList
        obtain ⟨_, _, _, ho2, hd2⟩ := dict_obj o
        exact absurd rfl (ne_data ho ho2 (by rw [hd2]; exact fun z => nomatch z))
      | tup es =>
        obtain ⟨a', ys, ea, hs', hl'⟩ := he
        cases ea
        obtain ⟨_, _, p1, _⟩ := I.tuple hs'
        obtain ⟨_, _, _, ho⟩ := isTup_obj p1
        obtain ⟨_, _, _, ho2, hd2⟩ := dict_obj o
        exact absurd rfl (ne_data ho ho2 (by rw [hd2]; exact fun z => nomatch z))
      | ins C fs es =>
        obtain ⟨a', dx, ys, ea, hs', hl'⟩ := he
        cases ea
        rw [hs] at hs'
        cases hs'
      | non => exact absurd (show V.ref a = V.non from he) (by simp)
      | bl b => exact absurd (show V.ref a = V.bl b from he) (by simp)
      | int b => exact absurd (show V.ref a = V.int b from he) (by simp)
      | str b => exact absurd (show V.ref a = V.str b from he) (by simp)
    | ins C fs ds =>
      obtain ⟨a, dx, kvs, rfl, hs, ek, hl⟩ := hd
      obtain ⟨_, J, _⟩ := ins_get I.hok hs
      cases e with
      | ins C' fs' es =>
        obtain ⟨a', dx', lvs, ea, hs', ek', hl'⟩ := he
        cases ea
        rw [hs] at hs'
        cases hs'
        show (C == C && deqL ds es) = true
        rw [beq_self_eq_true, deqL_same I ih (Nat.le_of_succ_le_succ hn) hl hl'] <;> rfl
      | lst es =>
        obtain ⟨a', ys, ea, hs', hl'⟩ := he
        cases ea
        obtain ⟨_, _, p1, _⟩ := I.list hs'
        obtain ⟨_, _, _, ho⟩ := isList_obj p1.isList
        exact absurd rfl (ne_data ho J.obj (fun z => nomatch z))
      | tup es =>
        obtain ⟨a', ys, ea, hs', hl'⟩ := he
        cases ea
        obtain ⟨_, _, p1, _⟩ := I.tuple hs'
        obtain ⟨_, _, _, ho⟩ := isTup_obj p1
        exact absurd rfl (ne_data ho J.obj (fun z => nomatch z))
      | dic ls es =>
        obtain ⟨a', ys, ea, hs', hl'⟩ := he
        cases ea
        rw [hs] at hs'
        cases hs'
      | non => exact absurd (show V.ref a = V.non from he) (by simp)
      | bl b => exact absurd (show V.ref a = V.bl b from he) (by simp)
      | int b => exact absurd (show V.ref a = V.int b from he) (by simp)
      | str b => exact absurd (show V.ref a = V.str b from he) (by simp)
end
end LxE
namespace LxE
open PySem PySem.SeqAt L2
theorem shape_of {K : PySem.W.Frag} {H : Hp} {d : Dt} {x : V} (h : Is K H d x) : (kd d ≤ 2 ∧ flatV x = true) ∨ (2 < kd d ∧ ∃ a, x = V.ref a) := by
  cases d with
  | non => rw [show x = _ from h]; exact .inl ⟨by decide, rfl⟩
  | bl b => rw [show x = _ from h]; exact .inl ⟨by show 1 ≤ 2; decide, rfl⟩
  | int b => rw [show x = _ from h]; exact .inl ⟨by show 1 ≤ 2; decide, rfl⟩
  | str b => rw [show x = _ from h]; exact .inl ⟨by show 2 ≤ 2; decide, rfl⟩
  | lst ds => obtain ⟨a, _, e, _⟩ := h; exact .inr ⟨by show 2 < 3; decide, a, e⟩
  | tup ds => obtain ⟨a, _, e, _⟩ := h; exact .inr ⟨by show 2 < 4; decide, a, e⟩
  | dic ks ds => obtain ⟨a, _, e, _⟩ := h; exact .inr ⟨by show 2 < 5; decide, a, e⟩
  | ins C fs ds => obtain ⟨a, _, _, e, _⟩ := h; exact .inr ⟨by show 2 < 6; decide, a, e⟩
theorem deq_kd : ∀ {d e : Dt}, kd d ≠ kd e → deq d e = false := by
  intro d e h
  cases d <;> cases e <;> first | rfl | exact absurd rfl h
theorem eqV_flat {K : PySem.W.Frag} {H : Hp} {d e : Dt} {x y : V} (hd : Is K H d x) (he : Is K H e y) (h1 : kd d ≤ 2) (h2 : kd e ≤ 2) : eqV x y = deq d e := by
  cases d <;> first
    | (exfalso; simp [kd] at h1; done)
    | skip
  all_goals (cases e <;> first
    | (exfalso; simp [kd] at h2; done)
    | skip)
  all_goals (cases (show x = _ from hd); cases (show y = _ from he); first | rfl | simp [eqV, deq])
section
variable {X : Cx} {pins : List (Addr × Obj)} {σ : L2.St} {H : Hp} {s : Shared}
theorem rc_flat {A : Around} {d e : Dt} {x y : V} {u v : Value} (hd : Is X.K H d x) (he : Is X.K H e y) (rx : RelV x u) (ry : RelV y v) (h1 : kd d ≤ 2) (h2 : kd d = kd e) : RcP X.prog X.w A s u v (deq d e) := by
  have h3 : kd e ≤ 2 := h2 ▸ h1
  cases d <;> first
    | (exfalso; simp [kd] at h1; done)
    | skip
  all_goals (cases e <;> first
    | (exfalso; simp [kd] at h2; done)
    | skip)
  · cases (show x = _ from hd); cases (show y = _ from he); cases (show u = _ from rx); cases (show v = _ from ry)
    exact fun E Q q => RcAt.none_none X.prog X.w E Q q
  · cases (show x = _ from hd); cases (show y = _ from he); cases (show u = _ from rx); cases (show v = _ from ry)
    exact fun E Q q => RcAt.bool_bool _ _ X.prog X.w E Q q
  · cases (show x = _ from hd); cases (show y = _ from he); cases (show u = _ from rx); obtain ⟨t, rfl⟩ := (show ∃ t, v = Value.int _ t from ry)
    exact fun E Q q => RcAt.bool_int _ _ _ X.prog X.w E Q q
  · cases (show x = _ from hd); cases (show y = _ from he); obtain ⟨t, rfl⟩ := (show ∃ t, u = Value.int _ t from rx); cases (show v = _ from ry)
    exact fun E Q q => RcAt.int_bool _ _ _ X.prog X.w E Q q
  · cases (show x = _ from hd); cases (show y = _ from he); obtain ⟨t, rfl⟩ := (show ∃ t, u = Value.int _ t from rx); obtain ⟨t', rfl⟩ := (show ∃ t, v = Value.int _ t from ry)
    exact fun E Q q => RcAt.int_int _ _ _ _ X.prog X.w E Q q
  · cases (show x = _ from hd); cases (show y = _ from he); obtain ⟨t, rfl⟩ := (show ∃ t, u = Value.str _ t from rx); obtain ⟨t', rfl⟩ := (show ∃ t, v = Value.str _ t from ry)
    exact fun E Q q => RcAt.str_str _ _ _ _ X.prog X.w E Q q
theorem ref_beq {a b : Addr} (h : a ≠ b) : (Value.ref a == Value.ref b) = false := beq_eq_false_iff_ne.mpr (fun e => h (Value.ref.inj e))
theorem flat_ref {x : V} {u : Value} {a : Addr} (f : flatV x = true) (r : RelV x u) : (u == Value.ref a) = false ∧ (Value.ref a == u) = false := by
  cases x <;> first | (exact absurd f Bool.false_ne_true) | skip
  · cases (show u = _ from r); exact ⟨rfl, rfl⟩
  · cases (show u = _ from r); exact ⟨rfl, rfl⟩
  · obtain ⟨t, rfl⟩ := (show ∃ t, u = Value.int _ t from r); exact ⟨rfl, rfl⟩
  · obtain ⟨t, rfl⟩ := (show ∃ t, u = Value.str _ t from r); exact ⟨rfl, rfl⟩
theorem flat_nofl {x : V} {u : Value} (f : flatV x = true) (r : RelV x u) : ∀ a t, u ≠ .float a t := by
  cases x <;> first | (exact absurd f Bool.false_ne_true) | skip
  · cases (show u = _ from r); exact fun _ _ z => nomatch z
  · cases (show u = _ from r); exact fun _ _ z => nomatch z
  · obtain ⟨t, rfl⟩ := (show ∃ t, u = Value.int _ t from r); exact fun _ _ z => nomatch z
  · obtain ⟨t, rfl⟩ := (show ∃ t, u = Value.str _ t from r); exact fun _ _ z => nomatch z
/-- from a rich comparison to == inside a builtin, with a state -/
theorem eq_get {A : Around} {E : Value → Shared → Prop} (I : Inv X pins σ H s) {d e : Dt} {x y : V} {u v : Value} {Q : Bool → Shared → Prop} (hd : Is X.K H d x) (he : Is X.K H e y) (rx : RelV x u) (ry : RelV y v) (q : Q (deq d e) s)
    (h : wpAny (model X.prog X.w) A (richCompare .Eq u v) (fun r s' => ∃ b, r = .bool b ∧ Q b s') E s) : wpAny (model X.prog X.w) A (eqBool u v) Q E s := by
  rcases shape_of hd with ⟨k1, f1⟩ | ⟨k1, a, rfl⟩
  · rcases shape_of he with ⟨k2, f2⟩ | ⟨k2, b, rfl⟩
    · have z := eqAt_V (A := A) (s := s) rx ry f1 f2
      rw [eqV_flat hd he k1 k2] at z
      exact z X.prog X.w E Q q
    · cases (show v = _ from ry)
      exact eqBool_B (flat_ref f1 rx).1 (fun a t b t' e1 _ => flat_nofl f1 rx a t e1) h
  · cases (show u = _ from rx)
    rcases shape_of he with ⟨k2, f2⟩ | ⟨k2, b, rfl⟩
    · exact eqBool_B (flat_ref f2 ry).2 (fun a t b t' e1 _ => nomatch e1) h
    · cases (show v = _ from ry)
      by_cases hab : a = b
      · subst hab
        have z := is_same I (dep d) d e (.ref a) (Nat.le_refl _) hd he
        rw [z] at q
        exact SeqAt.EqAt.same (A := A) (s := s) (.ref a) X.prog X.w E Q q
      · exact eqBool_B (ref_beq hab) (fun a t b t' e1 _ => nomatch e1) h
theorem hits_of {P : Program} {w : World} {A : Around} {K : PySem.W.Frag} {lvs : List (Key × V)} {es : List Dt} {vb : List (Key × Value)} (rb : KV lvs vb) (hl : IsL K H es (lvs.map (·.2)))
    : ∀ {kvs : List (Key × V)} {ds : List Dt} {va : List (Key × Value)}, IsL K H ds (kvs.map (·.2)) → KV kvs va →
      (∀ (i : Nat) (d e : Dt) (x y : V) (u v : Value), ds[i]? = some d → e ∈ es → Is K H d x → Is K H e y → RelV x u → RelV y v → EqP P w A s u v (deq d e)) →
      PySem.W.KeqHitsP P w A s vb va (deqD (kvs.map (·.1)) ds (lvs.map (·.1)) es)
  | [], ds, va, h, ra, _ => by
    cases ra
    cases ds with
    | nil => exact .nil
    | cons d ds => obtain ⟨v, r, e, _⟩ := h; cases e
  | p :: kvs, [], va, h, ra, _ => by
    have h' : List.map (·.2) (p :: kvs) = [] := h
    simp at h'
  | p :: kvs, d :: ds, va, h, ra, ih => by
    cases ra with
    | @cons _ q _ qs hpq t =>
    obtain ⟨h1, h2⟩ := hpq
    obtain ⟨x, r, e1, e2, e3⟩ := h
    rw [List.map_cons] at e1
    injection e1 with a1 a2
    subst a1 a2
    obtain ⟨key, u⟩ := q
    have h1' : p.1 = key := h1
    have rest := hits_of (A := A) (P := P) (w := w) rb hl e3 t fun i d' e x y u v k1 => ih (i + 1) d' e x y u v k1
    show PySem.W.KeqHitsP P w A s vb ((key, u) :: qs) ((match look (lvs.map (·.1)) es p.1 with | some e => deq d e | none => false) && deqD (kvs.map (·.1)) ds (lvs.map (·.1)) es)
    have rv : RelO (valV lvs p.1) (valueAt vb p.1) := rb.val p.1
    have lk := look_val (k := p.1) hl
    cases hv : valV lvs p.1 with
    | none =>
      rw [hv] at rv
      rw [lk.2 hv]
      refine .miss ?_
      rw [← h1']
      cases hz : valueAt vb p.1 with
      | none => rfl
      | some z => rw [hz] at rv; exact rv.elim
    | some y =>
      rw [hv] at rv
      obtain ⟨z, hz, rz⟩ := rv.some_of
      obtain ⟨e, le, ie⟩ := lk.1 y hv
      rw [le]
      refine .hit (by rw [← h1']; exact hz) (ih 0 d e p.2 y u z rfl ?_ e2 ie h2 rz) rest
      unfold look at le
      cases hf : ((lvs.map (·.1)).zip es).find? fun p' => decide (p'.1 = p.1) with
      | none => rw [hf] at le; cases le
      | some w =>
        rw [hf] at le
        cases le
        exact (List.of_mem_zip (List.mem_of_find?_eq_some hf)).2
theorem mem_get {es : List Dt} {e : Dt} (h : e ∈ es) : ∃ i : Nat, es[i]? = some e := List.mem_iff_getElem?.mp h
theorem rc_pure (I : Inv X pins σ H s) : ∀ (n : Nat) (d e : Dt) (x y : V) (u v : Value) (A : Around), dep d ≤ n → pureD d = true → pureD e = true → Is X.K H d x → Is X.K H e y → RelV x u → RelV y v → A.units + n < cLine → RcP X.prog X.w A s u v (deq d e) := by
  intro n
  induction n with
  | zero =>
    intro d e x y u v A hn pd pe hd he rx ry hu
    by_cases hk : kd d = kd e
    · have h2 : kd d ≤ 2 := by cases d <;> first | (exfalso; simp [dep] at hn; done) | (simp [kd])
      exact rc_flat hd he rx ry h2 hk
    · rw [deq_kd hk]
      exact mis I (by omega) d e hd he rx ry hk (fun z => by cases d <;> first | (simp [kd] at z; done) | (exact absurd pd Bool.false_ne_true)) (fun z => by cases e <;> first | (simp [kd] at z; done) | (exact absurd pe Bool.false_ne_true))
  | succ n ih =>
    intro d e x y u v A hn pd pe hd he rx ry hu
    have ihE : ∀ (d e : Dt) (x y : V) (u v : Value), dep d ≤ n → pureD d = true → pureD e = true → Is X.K H d x → Is X.K H e y → RelV x u → RelV y v → EqP X.prog X.w A.in1 s u v (deq d e) := fun d e x y u v hn pd pe hd he rx ry E Q q =>
      eq_get I hd he rx ry q (ih d e x y u v A.in1 hn pd pe hd he rx ry (by show A.units + 1 + n < cLine; omega) E _ ⟨_, rfl, q⟩)
    by_cases hk : kd d = kd e
    · by_cases h2 : kd d ≤ 2
      · exact rc_flat hd he rx ry h2 hk
      · have items : ∀ {ds es : List Dt} {xs ys : List V} {its its2 : List Value}, depL ds ≤ n → pureL ds = true → pureL es = true → IsL X.K H ds xs → IsL X.K H es ys → Vals xs its → Vals ys its2 →
            ∀ i (h1 : i < its.toArray.size) (h2 : i < its2.toArray.size), EqP X.prog X.w A.in1 s its.toArray[i] its2.toArray[i] (eAt ds es i) := by
          intro ds es xs ys its its2 hdn p1 p2 l1 l2 r1 r2 i h1 h2
          have g1 : its[i]? = some its.toArray[i] := by
            have h1' : i < its.length := by simpa using h1
            rw [List.getElem?_eq_getElem h1'] <;> simp
          have g2 : its2[i]? = some its2.toArray[i] := by
            have h2' : i < its2.length := by simpa using h2
            rw [List.getElem?_eq_getElem h2'] <;> simp
          have k1 : i < xs.length := by rw [r1.length]; simpa using h1
          have k2 : i < ys.length := by rw [r2.length]; simpa using h2
          obtain ⟨u', hu', ru⟩ := r1.get (List.getElem?_eq_getElem k1)
          obtain ⟨v', hv', rv⟩ := r2.get (List.getElem?_eq_getElem k2)
          rw [g1] at hu'
          rw [g2] at hv'
          rw [Option.some.inj hu', Option.some.inj hv']
          obtain ⟨d', e1, i1⟩ := l1.get (List.getElem?_eq_getElem k1)
          obtain ⟨e', e2, i2⟩ := l2.get (List.getElem?_eq_getElem k2)
          rw [eAt_some e1 e2]
          exact ihE d' e' _ _ u' v' (Nat.le_trans (depL_get e1) hdn) (pureL_get p1 e1) (pureL_get p2 e2) i1 i2 ru rv
        cases d with
        | non => exact absurd (by decide) h2
        | bl b => exact absurd (by show 1 ≤ 2; decide) h2
        | int b => exact absurd (by show 1 ≤ 2; decide) h2
        | str b => exact absurd (by show 2 ≤ 2; decide) h2
        | ins C fs ds => exact absurd pd Bool.false_ne_true
        | lst ds =>
          cases e <;> first | (exfalso; simp [kd] at hk; done) | skip
          rename_i es
          obtain ⟨a, xs, rfl, hs, l1⟩ := hd
          obtain ⟨b, ys, rfl, hs', l2⟩ := he
          cases (show u = _ from rx)
          cases (show v = _ from ry)
          obtain ⟨its, r1, p1, _⟩ := I.list hs
          obtain ⟨its2, r2, p2, _⟩ := I.list hs'
          intro E Q q
          have it := items (Nat.le_of_succ_le_succ hn) pd pe l1 l2 r1 r2
          have e1 : its.toArray.size = ds.length := by rw [List.size_toArray, ← r1.length, ← l1.length]
          have e2 : its2.toArray.size = es.length := by rw [List.size_toArray, ← r2.length, ← l2.length]
          rw [show deq (.lst ds) (.lst es) = deqL ds es from rfl, deqL_eq] at q
          by_cases hsz : ds.length = es.length
          · refine rc_listB (N := ds.length) (e := eAt ds es) (by omega) (fun s' => s' = s) (fun s' z => ?_) (fun s' z => ?_) rfl
            · subst z
              exact ⟨its.toArray, its2.toArray, p1.isList, p2.isList, e1, e2.trans hsz.symm, fun i h1 h2 => it i h1 h2 E _ ⟨rfl, rfl⟩⟩
            · subst z
              rw [hsz, Nat.min_self, beq_self_eq_true, Bool.and_true, ← hsz] at q
              exact q
          · have hb : (ds.length == es.length) = false := beq_eq_false_iff_ne.mpr hsz
            rw [hb, Bool.and_false] at q
            refine RcAt.lists_lengths p1.isList p2.isList ?_ (by omega) X.prog X.w E Q q
            rw [e1, e2]
            simp [hsz]
        | tup ds =>
          cases e <;> first | (exfalso; simp [kd] at hk; done) | skip
          rename_i es
          obtain ⟨a, xs, rfl, hs, l1⟩ := hd
          obtain ⟨b, ys, rfl, hs', l2⟩ := he
          cases (show u = _ from rx)
          cases (show v = _ from ry)
          obtain ⟨its, r1, p1, _⟩ := I.tuple hs
          obtain ⟨its2, r2, p2, _⟩ := I.tuple hs'
          intro E Q q
          have it := items (Nat.le_of_succ_le_succ hn) pd pe l1 l2 r1 r2
          have e1 : its.toArray.size = ds.length := by rw [List.size_toArray, ← r1.length, ← l1.length]
          have e2 : its2.toArray.size = es.length := by rw [List.size_toArray, ← r2.length, ← l2.length]
          rw [show deq (.tup ds) (.tup es) = deqL ds es from rfl, deqL_eq] at q
          refine rc_tupB (e := eAt ds es) (by omega) (fun s' => s' = s) p1 p2 (fun i h1 h2 s' z => ?_) (fun s' z => ?_) rfl
          · subst z
            exact it i h1 h2 E _ ⟨rfl, rfl⟩
          · subst z
            rw [e1, e2]
            exact q
        | dic ks ds =>
          cases e <;> first | (exfalso; simp [kd] at hk; done) | skip
          rename_i ls es
          obtain ⟨a, kvs, rfl, hs, ek, l1⟩ := hd
          obtain ⟨b, lvs, rfl, hs', el, l2⟩ := he
          subst ek el
          cases (show u = _ from rx)
          cases (show v = _ from ry)
          obtain ⟨_, ya, va, ra, da⟩ := (show ObjOk X.prog X.w H s.heap a (.dK kvs) from I.hok a _ hs)
          obtain ⟨_, yb, vb, rb, db⟩ := (show ObjOk X.prog X.w H s.heap b (.dK lvs) from I.hok b _ hs')
          intro E Q q
          refine PySem.W.rcP_dicts (knd := mixKind X.prog X.w) (r := deqD (kvs.map (·.1)) ds (lvs.map (·.1)) es) ya yb da db (by omega) (fun _ => hits_of rb l2 l1 ra fun i d e x y u v k1 k2 i1 i2 r1 r2 => ?_) E Q ?_
          · obtain ⟨j, hj⟩ := mem_get k2
            exact ihE d e x y u v (Nat.le_trans (depL_get k1) (Nat.le_of_succ_le_succ hn)) (pureL_get pd k1) (pureL_get pe hj) i1 i2 r1 r2
          · have e1 : va.length = (kvs.map (·.1)).length := by rw [List.length_map, ← KV.length ra]
            have e2 : vb.length = (lvs.map (·.1)).length := by rw [List.length_map, ← KV.length rb]
            rw [e1, e2]
            exact q
    · rw [deq_kd hk]
      exact mis I (by omega) d e hd he rx ry hk (fun z => by cases d <;> first | (simp [kd] at z; done) | (exact absurd pd Bool.false_ne_true)) (fun z => by cases e <;> first | (simp [kd] at z; done) | (exact absurd pe Bool.false_ne_true))
end
end LxE
namespace L2
open PySem PySem.Spec PyProof.Rows
mutual
def okD (shp : Addr → List Str → List Dt → Prop) : Dt → Prop
  | .lst ds => okL shp ds
  | .tup ds => okL shp ds
  | .dic _ ds => pureL ds = true
  | .ins C fs ds => shp C fs ds
  | _ => True
def okL (shp : Addr → List Str → List Dt → Prop) : List Dt → Prop
  | [] => True
  | d :: ds => okD shp d ∧ okL shp ds
end
theorem okL_get {shp : Addr → List Str → List Dt → Prop} : ∀ {ds : List Dt} {i : Nat} {d : Dt}, okL shp ds → ds[i]? = some d → okD shp d
  | [], _, _, _, e => by simp at e
  | a :: ds, 0, d, h, e => by cases e; exact h.1
  | a :: ds, i + 1, d, h, e => okL_get (i := i) h.2 e
mutual
theorem okD_pure {shp : Addr → List Str → List Dt → Prop} : ∀ {d : Dt}, pureD d = true → okD shp d
  | .non, _ => trivial
  | .bl _, _ => trivial
  | .int _, _ => trivial
  | .str _, _ => trivial
  | .lst ds, h => okL_pure (ds := ds) h
  | .tup ds, h => okL_pure (ds := ds) h
  | .dic _ _, h => h
  | .ins _ _ _, h => absurd h Bool.false_ne_true
theorem okL_pure {shp : Addr → List Str → List Dt → Prop} : ∀ {ds : List Dt}, pureL ds = true → okL shp ds
  | [], _ => trivial
  | _ :: ds, h => ⟨okD_pure (Bool.and_eq_true_iff.mp h).1, okL_pure (ds := ds) (Bool.and_eq_true_iff.mp h).2⟩
end
/-- what an own == promises -/
def spEqO (K : PySem.W.Frag) (shp : Addr → List Str → List Dt → Prop) (C : Addr) : Sp := fun vs H Q _ => ∃ (a : Addr) (y : V) (fs : List Str) (ds : List Dt) (e : Dt), vs = [.ref a, y] ∧ Is K H (.ins C fs ds) (.ref a) ∧ Is K H e y ∧ shp C fs ds ∧ okD shp e ∧
  ∀ H', Ext H H' → Q (.bl (deq (.ins C fs ds) e)) H'
def tyNames : List String := ["NoneType", "bool", "int", "str", "list", "tuple", "dict"]
def eqFacts (K : PySem.W.Frag) (C : Addr) : Bool := tyNames.all fun T => PySem.W.notFirst K C (.type T) && PySem.W.subIn K (.ref C) (.type T) == some false
/-- the class at C has an own == -/
structure OwnEq (P : Program) (w : World) (K : PySem.W.Frag) (mg : Str → Option Value) (base : Heap) (k : Nat) (shp : Addr → List Str → List Dt → Prop) (C : Addr) : Prop where
  fn : ∃ (f : Addr) (fd : FuncData), FnOk P w K mg base (fun _ _ _ _ _ _ => False) k f fd ["self", "other"] (spEqO K shp C) ∧ PySem.W.findIn K (.ref C) "__eq__" = some (some (.ref f)) ∧ PySem.W.isFn K (.ref f) = true ∧ Binds K fd ["self", "other"] []
  facts : eqFacts K C = true
structure EqTab (P : Program) (w : World) (K : PySem.W.Frag) (mg : Str → Option Value) (base : Heap) (k : Nat) (shp : Addr → List Str → List Dt → Prop) : Prop where
  own : ∀ C fs ds, shp C fs ds → OwnEq P w K mg base k shp C
  two : ∀ C fs ds C' fs' ds', shp C fs ds → shp C' fs' ds' → PySem.W.notFirst K C (.ref C') = true
end L2
namespace LxE
open PySem PySem.SeqAt L2
theorem facts_of {K : PySem.W.Frag} {C : Addr} {T : String} (h : eqFacts K C = true) (hT : T ∈ tyNames) : PySem.W.notFirst K C (.type T) = true ∧ PySem.W.subIn K (.ref C) (.type T) = some false := by
  have z := Bool.and_eq_true_iff.mp (List.all_eq_true.mp h T hT)
  exact ⟨z.1, beq_iff_eq.mp z.2⟩
section
variable {X : Cx} {pins : List (Addr × Obj)} {σ : L2.St} {H : Hp} {s : Shared}
theorem looks_ty {M : Model} {v : Value} {T : String} (hT : s.TypeIs v T) : PySem.W.Looks M s.heap (typeOf v) (.type T) := by
  cases v with
  | ref a =>
    obtain ⟨o, ho, hc⟩ := hT
    intro A Q E s' k q
    exact wpAny_typeOf_ref (k _ _ ho) (by rw [hc]; exact q)
  | _ =>
    intro A Q E s' k q
    exact wpAny_of_eq hT q
/-- a built-in value's type -/
theorem ty_of (I : Inv X pins σ H s) {d : Dt} {x : V} {u : Value} (hd : Is X.K H d x) (rx : RelV x u) (h6 : kd d ≠ 6) : ∃ T, T ∈ tyNames ∧ s.TypeIs u T := by
  cases d with
  | non => cases (show x = _ from hd); cases (show u = _ from rx); exact ⟨"NoneType", by decide, rfl⟩
  | bl b => cases (show x = _ from hd); cases (show u = _ from rx); exact ⟨"bool", by decide, rfl⟩
  | int i => cases (show x = _ from hd); obtain ⟨t, rfl⟩ := (show ∃ t, u = Value.int _ t from rx); exact ⟨"int", by decide, rfl⟩
  | str i => cases (show x = _ from hd); obtain ⟨t, rfl⟩ := (show ∃ t, u = Value.str _ t from rx); exact ⟨"str", by decide, rfl⟩
  | lst ds =>
    obtain ⟨a, xs, rfl, hs, _⟩ := hd
    cases (show u = _ from rx)
    obtain ⟨_, _, p, _⟩ := I.list hs
    exact ⟨"list", by decide, ti_list p.isList⟩
  | tup ds =>
    obtain ⟨a, xs, rfl, hs, _⟩ := hd
    cases (show u = _ from rx)
    obtain ⟨_, _, p, _⟩ := I.tuple hs
    exact ⟨"tuple", by decide, ti_tuple p⟩
  | dic ks ds =>
    obtain ⟨a, xs, rfl, hs, _⟩ := hd
    cases (show u = _ from rx)
    obtain ⟨_, _, va, _, o⟩ := (show ObjOk X.prog X.w H s.heap a (.dK xs) from I.hok a _ hs)
    exact ⟨"dict", by decide, o.typeIs⟩
  | ins C fs ds => exact absurd rfl h6
/-- how a built-in == declines an own instance -/
theorem back_of (I : Inv X pins σ H s) {A : Around} {d : Dt} {x : V} {u : Value} (hd : Is X.K H d x) (rx : RelV x u) (h6 : kd d ≠ 6) {y C dy : Addr} {od : Option Obj} (J : PySem.W.InstAt s.heap y (PySem.W.instObj C dy) C od) (hf : eqFacts X.K C = true) :
    ∃ T id, T ∈ tyNames ∧ s.TypeIs u T ∧ Slot T "__eq__" id ∧ ∀ (E : Value → Shared → Prop) (Q' : Value → Shared → Prop), Q' .notImplemented s → wpAny (model X.prog X.w) A (call (.builtin id) [u, .ref y]) Q' E s := by
  have NI : ∀ T, T ∈ tyNames → NotInst X.prog X.w s (.ref y) T := fun T hT => notInst_of I.kIn J (facts_of hf hT).2
  cases d with
  | non =>
    cases (show x = _ from hd); cases (show u = _ from rx)
    exact ⟨"NoneType", _, by decide, rfl, F.slot_NoneType_eq, fun E Q' q' => call_gives F.slot_NoneType_eq rfl F.entry_NoneType_eq (F.args_NoneType_eq_2 _ _) (NoneType___eq___none_ref_0 y) q'⟩
  | bl b =>
    cases (show x = _ from hd); cases (show u = _ from rx)
    exact ⟨"bool", _, by decide, rfl, F.slot_bool_eq, fun E Q' q' => callFin F.slot_bool_eq (show s.TypeIs (Value.bool b) "bool" from rfl) F.entry_int_eq (F.args_int_eq_2 _ _) (fun _ _ _ z => bool_declinesI J.at_ z) Q' q'⟩
  | int i =>
    cases (show x = _ from hd); obtain ⟨t, rfl⟩ := (show ∃ t, u = Value.int _ t from rx)
    exact ⟨"int", _, by decide, rfl, F.slot_int_eq, fun E Q' q' => callFin F.slot_int_eq (show s.TypeIs (Value.int i t) "int" from rfl) F.entry_int_eq (F.args_int_eq_2 _ _) (fun _ _ _ z => int_declinesI J.at_ z) Q' q'⟩
  | str i =>
    cases (show x = _ from hd); obtain ⟨t, rfl⟩ := (show ∃ t, u = Value.str _ t from rx)
    exact ⟨"str", _, by decide, rfl, F.slot_str_eq, fun E Q' q' => callFin F.slot_str_eq (show s.TypeIs (Value.str i t) "str" from rfl) F.entry_str_eq (F.args_str_eq_2 _ _) (fun _ _ _ z => str_declinesI J.at_ z) Q' q'⟩
  | lst ds =>
    obtain ⟨a, xs, rfl, hs, _⟩ := hd
    cases (show u = _ from rx)
    obtain ⟨_, _, p, _⟩ := I.list hs
    obtain ⟨n, dd, sl, ho⟩ := isList_obj p.isList
    exact ⟨"list", _, by decide, ti_list p.isList, F.slot_list_eq, fun E Q' q' => callFin F.slot_list_eq (ti_list p.isList) F.entry_list_eq (F.args_list_eq_2 _ _) (fun _ _ _ z => list_declinesI ho (NI "list" (by decide)) z) Q' q'⟩
  | tup ds =>
    obtain ⟨a, xs, rfl, hs, _⟩ := hd
    cases (show u = _ from rx)
    obtain ⟨_, _, p, _⟩ := I.tuple hs
    obtain ⟨n, dd, sl, ho⟩ := isTup_obj p
    exact ⟨"tuple", _, by decide, ti_tuple p, F.slot_tuple_eq, fun E Q' q' => callFin F.slot_tuple_eq (ti_tuple p) F.entry_tuple_eq (F.args_tuple_eq_2 _ _) (fun _ _ _ z => tuple_declinesI ho (NI "tuple" (by decide)) z) Q' q'⟩
  | dic ks ds =>
    obtain ⟨a, xs, rfl, hs, _⟩ := hd
    cases (show u = _ from rx)
    obtain ⟨_, _, va, _, o⟩ := (show ObjOk X.prog X.w H s.heap a (.dK xs) from I.hok a _ hs)
    exact ⟨"dict", _, by decide, o.typeIs, F.slot_dict_eq, fun E Q' q' => callFin F.slot_dict_eq o.typeIs F.entry_dict_eq (F.args_dict_eq_2 _ _) (fun _ _ _ z => dict_declines o.typeIs (NI "dict" (by decide)) z) Q' q'⟩
  | ins C fs ds => exact absurd rfl h6
/-- the own == runs -/
theorem own_run {k : Nat} {f : Addr} {fd : FuncData} {sp : Sp} {A : Around} {a : Addr} {y : V} {v : Value} {Q' : VK} (F1 : FnOk X.prog X.w X.K X.mg X.base (fun _ _ _ _ _ _ => False) k f fd ["self", "other"] sp) (hb : Binds X.K fd ["self", "other"] []) (sb : Sub X k A) (I : Inv X pins σ H s)
    (ry : RelV y v) (hsp : sp [.ref a, y] H Q' (fun _ _ _ => False)) : wpAny (model X.prog X.w) A (call (.ref f) [.ref a, v]) (fun r s' => ∃ z H', Inv X pins σ H' s' ∧ RelV z r ∧ Q' z H') X.xe s := by
  have e0 : Env0 X.prog X.w X.K X.mg X.base A X.stack s H := by
    have e := I.env0
    exact ⟨by rw [sb.fr]; exact e.frames, e.mod, e.bs, e.bsz, e.funs, e.frf, e.hok, e.bare⟩
  have r2 : Vals [V.ref a, y] [Value.ref a, v] := .cons rfl (.cons ry .nil)
  refine wpAny_call (codeAny_mono (F1.run A X.stack s H ⟨[.ref a, v], []⟩ [.ref a, v] [.ref a, y] _ _ sb.room e0 (by
    have := hb s [.ref a, v] I.kIn rfl
    simpa using this) r2 hsp) fun r s' hq => ?_)
  cases r with
  | error e => exact False.elim hq
  | ok fl =>
    cases fl with
    | ret w =>
      obtain ⟨z, H', I', rz, ez⟩ := I.after hq
      exact ⟨z, H', I', rz, ez⟩
    | next => exact False.elim hq
    | brk => exact False.elim hq
    | cont => exact False.elim hq
theorem rc_own {k : Nat} {shp : Addr → List Str → List Dt → Prop} (T : EqTab X.prog X.w X.K X.mg X.base k shp) : ∀ (n : Nat) (d e : Dt) (x y : V) (u v : Value) (A : Around) (pins : List (Addr × Obj)) (s : Shared) (H : Hp), dep d ≤ n → okD shp d → okD shp e → Is X.K H d x → Is X.K H e y → RelV x u → RelV y v → Sub X (k + n) A → Inv X pins σ H s →
    wpAny (model X.prog X.w) A (richCompare .Eq u v) (fun r s' => r = .bool (deq d e) ∧ LoopI X pins σ H s') X.xe s := by
  intro n
  induction n with
  | zero =>
    intro d e x y u v A pins s H hn od oe hd he rx ry sb I
    have h6 : kd d ≠ 6 := fun z => by cases d <;> first | (simp [kd] at z; done) | (simp [dep] at hn; done)
    by_cases h6' : kd e = 6
    · cases e <;> first | (exfalso; simp [kd] at h6'; done) | skip
      rename_i C fs ds
      obtain ⟨⟨f, fd, F1, hfind, hfn, hb⟩, hfc⟩ := T.own C fs ds oe
      have he' := he
      obtain ⟨b, dx, kvs, rfl, hs, ek, hl⟩ := he
      cases (show v = _ from ry)
      obtain ⟨mA, J0, _⟩ := ins_get I.hok hs
      obtain ⟨odj, J, _⟩ := J0.look
      obtain ⟨Tn, id, hT, tT, slot, hc⟩ := back_of (A := A) I hd rx h6 J hfc
      refine cmp_back sb.room.units0 I.kIn J tT (facts_of hfc hT).2 slot (hc _) hfind hfn ?_
      refine wpAny_mono (own_run (Q' := fun z H' => z = .bl (deq (.ins C fs ds) d) ∧ Ext H H') F1 hb (sb.mono (by omega)) I rx ⟨b, x, fs, ds, d, rfl, he', hd, oe, od, fun H' e' => ⟨rfl, e'⟩⟩) (fun r s' hr => ?_) fun _ _ z => z
      obtain ⟨z, H', I', rz, ez, ex⟩ := hr
      subst ez
      cases (show r = _ from rz)
      refine ⟨?_, H', I', ex⟩
      rw [deq_kd (d := d) (e := .ins C fs ds) (fun z => h6 z), deq_kd (d := .ins C fs ds) (e := d) (fun z => h6 z.symm)]
    · by_cases hk : kd d = kd e
      · have h2 : kd d ≤ 2 := by cases d <;> first | (exfalso; simp [dep] at hn; done) | (simp [kd])
        exact rc_flat hd he rx ry h2 hk X.xe _ ⟨rfl, H, I, Ext.rfl'⟩
      · exact mis I sb.room.units0 d e hd he rx ry hk h6 h6' X.xe _ ⟨by rw [deq_kd hk], H, I, Ext.rfl'⟩
  | succ n ih =>
    intro d e x y u v A pins s H hn od oe hd he rx ry sb I
    by_cases h6 : kd d = 6
    · cases d <;> first | (exfalso; simp [kd] at h6; done) | skip
      rename_i C fs ds
      obtain ⟨⟨f, fd, F1, hfind, hfn, hb⟩, hfc⟩ := T.own C fs ds od
      have hd' := hd
      obtain ⟨a, dx, kvs, rfl, hs, ek, hl⟩ := hd
      cases (show u = _ from rx)
      obtain ⟨mA, J0, _⟩ := ins_get I.hok hs
      obtain ⟨odj, J, _⟩ := J0.look
      have tb : ∃ tb, PySem.W.Looks (model X.prog X.w) s.heap (typeOf v) tb ∧ PySem.W.notFirst X.K C tb = true := by
        by_cases h6' : kd e = 6
        · cases e <;> first | (exfalso; simp [kd] at h6'; done) | skip
          rename_i C' fs' es
          have t2 := T.two _ _ _ _ _ _ od oe
          obtain ⟨b, dy, lvs, rfl, hs', _, _⟩ := he
          cases (show v = _ from ry)
          obtain ⟨mB, J0', _⟩ := ins_get I.hok hs'
          obtain ⟨odj', J', _⟩ := J0'.look
          exact ⟨_, J'.type, t2⟩
        · obtain ⟨Tn, hT, tT⟩ := ty_of I he ry h6'
          exact ⟨_, looks_ty tT, (facts_of hfc hT).1⟩
      obtain ⟨tb, Lt, hnf⟩ := tb
      obtain ⟨m, hF⟩ := I.fr
      refine PySem.W.cmp_K (op := .Eq) (tb := tb) sb.room.units0 hF I.ok.mod.kin J Lt hnf hfind hfn ?_
      refine wpAny_mono (own_run (Q' := fun z H' => z = .bl (deq (.ins C fs ds) e) ∧ Ext H H') F1 hb (sb.mono (by omega)) I ry ⟨a, y, fs, ds, e, rfl, hd', he, od, oe, fun H' e' => ⟨rfl, e'⟩⟩) (fun r s' hr => ?_) fun _ _ z => z
      obtain ⟨z, H', I', rz, ez, ex⟩ := hr
      subst ez
      cases (show r = _ from rz)
      exact ⟨rfl, H', I', ex⟩
    · by_cases h6' : kd e = 6
      · cases e <;> first | (exfalso; simp [kd] at h6'; done) | skip
        rename_i C fs ds
        obtain ⟨⟨f, fd, F1, hfind, hfn, hb⟩, hfc⟩ := T.own C fs ds oe
        have he' := he
        obtain ⟨b, dx, kvs, rfl, hs, ek, hl⟩ := he
        cases (show v = _ from ry)
        obtain ⟨mA, J0, _⟩ := ins_get I.hok hs
        obtain ⟨odj, J, _⟩ := J0.look
        obtain ⟨Tn, id, hT, tT, slot, hc⟩ := back_of (A := A) I hd rx h6 J hfc
        refine cmp_back sb.room.units0 I.kIn J tT (facts_of hfc hT).2 slot (hc _) hfind hfn ?_
        refine wpAny_mono (own_run (Q' := fun z H' => z = .bl (deq (.ins C fs ds) d) ∧ Ext H H') F1 hb (sb.mono (by omega)) I rx ⟨b, x, fs, ds, d, rfl, he', hd, oe, od, fun H' e' => ⟨rfl, e'⟩⟩) (fun r s' hr => ?_) fun _ _ z => z
        obtain ⟨z, H', I', rz, ez, ex⟩ := hr
        subst ez
        cases (show r = _ from rz)
        refine ⟨?_, H', I', ex⟩
        rw [deq_kd (d := d) (e := .ins C fs ds) (fun z => h6 z), deq_kd (d := .ins C fs ds) (e := d) (fun z => h6 z.symm)]
      · by_cases hk : kd d = kd e
        · by_cases h2 : kd d ≤ 2
          · exact rc_flat hd he rx ry h2 hk X.xe _ ⟨rfl, H, I, Ext.rfl'⟩
          · have sb1 : Sub X (k + n) A.in1 := (show Sub X (k + n + 1) A from sb).in1
            have items : ∀ {ds es : List Dt} {xs ys : List V} {its its2 : List Value}, depL ds ≤ n → okL shp ds → okL shp es → IsL X.K H ds xs → IsL X.K H es ys → Vals xs its → Vals ys its2 →
                ∀ i (h1 : i < its.toArray.size) (h2 : i < its2.toArray.size) (s' : Shared), LoopI X pins σ H s' → wpAny (model X.prog X.w) A.in1 (eqBool its.toArray[i] its2.toArray[i]) (fun r s2 => r = eAt ds es i ∧ LoopI X pins σ H s2) X.xe s' := by
              intro ds es xs ys its its2 hdn p1 p2 l1 l2 r1 r2 i h1 h2 s' L
              obtain ⟨H1, I1, e1⟩ := L
              have g1 : its[i]? = some its.toArray[i] := by
                have h1' : i < its.length := by simpa using h1
                rw [List.getElem?_eq_getElem h1'] <;> simp
              have g2 : its2[i]? = some its2.toArray[i] := by
                have h2' : i < its2.length := by simpa using h2
                rw [List.getElem?_eq_getElem h2'] <;> simp
              have k1 : i < xs.length := by rw [r1.length]; simpa using h1
              have k2 : i < ys.length := by rw [r2.length]; simpa using h2
              obtain ⟨u', hu', ru⟩ := r1.get (List.getElem?_eq_getElem k1)
              obtain ⟨v', hv', rv⟩ := r2.get (List.getElem?_eq_getElem k2)
              rw [g1] at hu'
              rw [g2] at hv'
              rw [Option.some.inj hu', Option.some.inj hv']
              obtain ⟨d', d1, i1⟩ := l1.get (List.getElem?_eq_getElem k1)
              obtain ⟨e', d2, i2⟩ := l2.get (List.getElem?_eq_getElem k2)
              rw [eAt_some d1 d2]
              refine eq_get I1 (i1.ext e1) (i2.ext e1) ru rv ⟨rfl, H1, I1, e1⟩ (wpAny_mono (ih d' e' _ _ u' v' A.in1 pins s' H1 (Nat.le_trans (depL_get d1) hdn) (okL_get p1 d1) (okL_get p2 d2) (i1.ext e1) (i2.ext e1) ru rv sb1 I1) (fun r s2 q => ?_) fun _ _ z => z)
              obtain ⟨hr, H2, I2, e2⟩ := q
              exact ⟨_, hr, rfl, H2, I2, e1.trans e2⟩
            cases d with
            | non => exact absurd (by decide) h2
            | bl b => exact absurd (by show 1 ≤ 2; decide) h2
            | int b => exact absurd (by show 1 ≤ 2; decide) h2
            | str b => exact absurd (by show 2 ≤ 2; decide) h2
            | ins C fs ds => exact absurd rfl h6
            | lst ds =>
              cases e <;> first | (exfalso; simp [kd] at hk; done) | skip
              rename_i es
              obtain ⟨a, xs, rfl, hs, l1⟩ := hd
              obtain ⟨b, ys, rfl, hs', l2⟩ := he
              cases (show u = _ from rx)
              cases (show v = _ from ry)
              have eq0 : deq (.lst ds) (.lst es) = ((List.range (min ds.length es.length)).all (eAt ds es) && ds.length == es.length) := deqL_eq ds es
              by_cases hsz : ds.length = es.length
              · refine rc_listB (N := ds.length) (e := eAt ds es) sb.room.units0 (LoopI X pins σ H) (fun s' z => ?_) (fun s' z => ⟨?_, z⟩) ⟨H, I, Ext.rfl'⟩
                · obtain ⟨H1, I1, e1⟩ := id z
                  obtain ⟨its, r1, p1, _⟩ := I1.list (hs.ext e1)
                  obtain ⟨its2, r2, p2, _⟩ := I1.list (hs'.ext e1)
                  exact ⟨its.toArray, its2.toArray, p1.isList, p2.isList, by rw [List.size_toArray, ← r1.length, ← l1.length], by rw [List.size_toArray, ← r2.length, ← l2.length, hsz],
                    fun i h1 h2 => items (Nat.le_of_succ_le_succ hn) od oe l1 l2 r1 r2 i h1 h2 s' z⟩
                · rw [eq0, hsz, Nat.min_self, beq_self_eq_true, Bool.and_true, ← hsz]
              · have hb : (ds.length == es.length) = false := beq_eq_false_iff_ne.mpr hsz
                rw [hb, Bool.and_false] at eq0
                obtain ⟨its, r1, p1, _⟩ := I.list hs
                obtain ⟨its2, r2, p2, _⟩ := I.list hs'
                refine RcAt.lists_lengths p1.isList p2.isList ?_ sb.room.units0 X.prog X.w X.xe _ ⟨by rw [eq0], H, I, Ext.rfl'⟩
                rw [List.size_toArray, List.size_toArray, ← r1.length, ← r2.length, ← l1.length, ← l2.length]
                simp [hsz]
            | tup ds =>
              cases e <;> first | (exfalso; simp [kd] at hk; done) | skip
              rename_i es
              obtain ⟨a, xs, rfl, hs, l1⟩ := hd
              obtain ⟨b, ys, rfl, hs', l2⟩ := he
              cases (show u = _ from rx)
              cases (show v = _ from ry)
              have eq0 : deq (.tup ds) (.tup es) = ((List.range (min ds.length es.length)).all (eAt ds es) && ds.length == es.length) := deqL_eq ds es
              obtain ⟨its, r1, p1, _⟩ := I.tuple hs
              obtain ⟨its2, r2, p2, _⟩ := I.tuple hs'
              have e1 : its.toArray.size = ds.length := by rw [List.size_toArray, ← r1.length, ← l1.length]
              have e2 : its2.toArray.size = es.length := by rw [List.size_toArray, ← r2.length, ← l2.length]
              refine rc_tupB (e := eAt ds es) sb.room.units0 (LoopI X pins σ H) p1 p2 (fun i h1 h2 s' z => items (Nat.le_of_succ_le_succ hn) od oe l1 l2 r1 r2 i h1 h2 s' z) (fun s' z => ⟨?_, z⟩) ⟨H, I, Ext.rfl'⟩
              rw [eq0, e1, e2]
            | dic ks ds =>
              cases e <;> first | (exfalso; simp [kd] at hk; done) | skip
              rename_i ls es
              have hu := sb.room.un
              refine rc_pure I (dep (.dic ks ds)) (.dic ks ds) (.dic ls es) x y u v A (Nat.le_refl _) od oe hd he rx ry ?_ X.xe _ ⟨rfl, H, I, Ext.rfl'⟩
              omega
        · exact mis I sb.room.units0 d e hd he rx ry hk h6 h6' X.xe _ ⟨by rw [deq_kd hk], H, I, Ext.rfl'⟩
theorem eq_own {k : Nat} {shp : Addr → List Str → List Dt → Prop} (T : EqTab X.prog X.w X.K X.mg X.base k shp) {d e : Dt} {x y : V} {u v : Value} {A : Around} (hn : dep d ≤ n) (od : okD shp d) (oe : okD shp e) (hd : Is X.K H d x) (he : Is X.K H e y) (rx : RelV x u) (ry : RelV y v) (sb : Sub X (k + n) A) (I : Inv X pins σ H s) :
    wpAny (model X.prog X.w) A (eqBool u v) (fun r s' => r = deq d e ∧ LoopI X pins σ H s') X.xe s :=
  eq_get I hd he rx ry ⟨rfl, H, I, Ext.rfl'⟩ (wpAny_mono (rc_own T n d e x y u v A pins s H hn od oe hd he rx ry sb I) (fun r s2 q => ⟨_, q.1, rfl, q.2⟩) fun _ _ z => z)
end
end LxE
namespace LxE
open PySem PySem.SeqAt
open AutoSeq1 (wpAny_loadPart')
open MeetsSeq MeetsSeq2 MeetsSeq3 SeqRoads2
section
variable {prog : Program} {w : World} {A : Around} {R : Result → Shared → Prop}
theorem ne_loopB (l b : Addr) (N : Nat) (e : Nat → Bool) (I : Shared → Prop) (hl : ListJ prog w A (fun e s' => R (.error e) s') l b N e I)
    (fin : ∀ s, I s → R (.ok (.ret (.bool (!(List.range N).all e)))) s) (k : Nat) :
    ∀ i : Nat, N - i = k → i ≤ N → (∀ j, j < i → e j = true) → ∀ s, I s →
      wpAny (model prog w) A.in1 (Builtin.«list.__eq__.loop» ⟨[.ref l, .ref b, rawInt i, rawInt 3], []⟩) (FinOf prog w A R) (fun e s' => R (.error e) s') s := by
  induction k with
  | zero =>
    intro i hk hi hp s h
    obtain ⟨items, items2, hl1', hb1', hs1, hs2, _⟩ := hl _ h
    obtain ⟨n, dd, sl, hl1⟩ := isList_obj hl1'
    obtain ⟨n2, dd2, sl2, hb1⟩ := isList_obj hb1'
    have hi' : i = N := by omega
    have hR : R (.ok (.ret (.bool false))) s := by
      have z := fin s h
      rw [all_full (fun j hj => hp j (by omega))] at z
      exact z
    obtain ⟨hp', g, d, tk, os⟩ := s
    wp_walk using wpAny_loadPart' hl1, wpAny_loadPart' hb1
    have hi1 : items[((i : Nat) : Int).toNat]? = none := by simp; omega
    have hi2 : items2[((i : Nat) : Int).toNat]? = none := by simp; omega
    rw [hi1, hi2]
    wp_walk using wpAny_loadPart' hl1, wpAny_loadPart' hb1
    show R (.ok (.ret (.bool (items.size != items2.size)))) _
    rw [hs1, hs2]
    simpa using hR
  | succ k ih =>
    intro i hk hi hp s h
    obtain ⟨items, items2, hl1', hb1', hs1, hs2, turn⟩ := hl _ h
    obtain ⟨n, dd, sl, hl1⟩ := isList_obj hl1'
    obtain ⟨n2, dd2, sl2, hb1⟩ := isList_obj hb1'
    have hlt : i < items.size := by omega
    have hlt2 : i < items2.size := by omega
    have ht := turn i hlt hlt2
    obtain ⟨hp', g, d, tk, os⟩ := s
    wp_walk using wpAny_loadPart' hl1, wpAny_loadPart' hb1
    have hi1 : items[((i : Nat) : Int).toNat]? = some items[i] := by simp [hlt]
    have hi2 : items2[((i : Nat) : Int).toNat]? = some items2[i] := by simp [hlt2]
    have hc : ((i : Int) + 1) = ((i + 1 : Nat) : Int) := by omega
    rw [hi1, hi2]
    refine wpAny_bind (wpAny_mono ht (fun r s2 h2 => ?_) fun _ _ x => x)
    obtain ⟨hr, h2⟩ := h2
    subst hr
    obtain ⟨items3, items4, hl3', hb3', hs3, hs4, _⟩ := hl _ h2
    obtain ⟨n3, dd3, sl3, hl3⟩ := isList_obj hl3'
    obtain ⟨n4, dd4, sl4, hb3⟩ := isList_obj hb3'
    have fin2 := fin s2 h2
    cases hei : e i with
    | true =>
      have hrec := ih (i + 1) (by omega) (by omega) (fun j hj => by
        rcases Nat.lt_succ_iff_lt_or_eq.mp hj with z | z
        · exact hp j z
        · rw [z]; exact hei) s2 h2
      obtain ⟨hp2, g2, d2, tk2, os2⟩ := s2
      wp_walk
      rw [hc]
      exact ⟨plainId_quiet plain_eq_loop _, codeAny_builtin entry_eq_loop (by
        rw [Around.under_plainId plain_eq_loop _]
        exact hrec)⟩
    | false =>
      rw [all_drop hp (by omega) hei] at fin2
      have hj1 : items3[((i : Nat) : Int).toNat]? = some (items3[i]'(by omega)) := by simp <;> omega
      have hj2 : items4[((i : Nat) : Int).toNat]? = some (items4[i]'(by omega)) := by simp <;> omega
      obtain ⟨hp2, g2, d2, tk2, os2⟩ := s2
      wp_walk using wpAny_loadPart' hl3, wpAny_loadPart' hb3
      rw [hj1, hj2]
      wp_walk
      simpa using fin2
theorem list_neB (l b : Addr) (N : Nat) (e : Nat → Bool) (I : Shared → Prop) (hl : ListJ prog w A (fun e s' => R (.error e) s') l b N e I)
    (fin : ∀ s, I s → R (.ok (.ret (.bool (!(List.range N).all e)))) s) {s : Shared} (h : I s) :
    wpAny (model prog w) A.in1 (Builtin.«list.__ne__» ⟨[.ref l, .ref b], []⟩) (FinOf prog w A R) (fun e s' => R (.error e) s') s := by
  obtain ⟨items, items2, hl1', hb1', hs1, hs2, _⟩ := hl _ h
  obtain ⟨n, dd, sl, hl1⟩ := isList_obj hl1'
  obtain ⟨n2, dd2, sl2, hb1⟩ := isList_obj hb1'
  have hrec := ne_loopB (A := A) (R := R) l b N e I hl fin _ 0 rfl (Nat.zero_le _) (fun j hj => absurd hj (Nat.not_lt_zero j)) s h
  obtain ⟨hp, g, d, tk, os⟩ := s
  have f3 := AutoSeq1.sub_list_list
  have hne : ¬ (items.size != items2.size) = true := by simp [hs1, hs2]
  wp_walk using wpAny_loadPart' hl1, wpAny_loadPart' hb1
  exact ⟨plainId_quiet plain_eq_loop _, codeAny_builtin entry_eq_loop (by
    rw [Around.under_plainId plain_eq_loop _]
    exact hrec)⟩
theorem tuple_neB (l b : Addr) (items items2 : Array Value) (n n2 : Nat) (dd dd2 : Option Addr) (sl sl2 : Array (Option Value)) (e : Nat → Bool) (I : Shared → Prop)
    (turn : ∀ i (h1 : i < items.size) (h2 : i < items2.size) s, I s → wpAny (model prog w) A.in1 (eqBool items[i] items2[i]) (fun r s' => r = e i ∧ I s') (fun e s' => R (.error e) s') s)
    (fin : ∀ s, I s → R (.ok (.ret (.bool (!((List.range (min items.size items2.size)).all e && items.size == items2.size))))) s) {s : Shared} (hl1 : s.heap.get? l = some { cls := .type "tuple", dict := dd, data := .seq items n, slots := sl }) (hb1 : s.heap.get? b = some { cls := .type "tuple", dict := dd2, data := .seq items2 n2, slots := sl2 }) (h : I s) :
    wpAny (model prog w) A.in1 (Builtin.«tuple.__ne__» ⟨[.ref l, .ref b], []⟩) (FinOf prog w A R) (fun e s' => R (.error e) s') s := by
  have f2 := AutoSeq1.sub_tuple_tuple
  have hZ : (items.toList.zip items2.toList).length = min items.size items2.size := by simp
  have h0 := h
  obtain ⟨hp, g, d, tk, os⟩ := s
  wp_walk using wpAny_loadPart' hl1, wpAny_loadPart' hb1, wpAny_forIn_list _ (fun rest b s' => b.1 = none ∧ ∃ i, rest = (items.toList.zip items2.toList).drop i ∧ (∀ j, j < i → e j = true) ∧ i ≤ min items.size items2.size ∧ I s') _
  case turn =>
    rintro ⟨y, x⟩ rest b s' ⟨hb', i, hz, hpre, hi, hI⟩
    have hlt : i < (items.toList.zip items2.toList).length := by
      rcases Nat.lt_or_ge i (items.toList.zip items2.toList).length with h' | h'
      · exact h'
      · rw [List.drop_of_length_le h'] at hz; cases hz
    have hm : i < min items.size items2.size := hZ ▸ hlt
    have h1 : i < items.size := Nat.lt_of_lt_of_le hm (Nat.min_le_left _ _)
    have h2 : i < items2.size := Nat.lt_of_lt_of_le hm (Nat.min_le_right _ _)
    rw [List.drop_eq_getElem_cons hlt] at hz
    injection hz with hyx hrest
    have hy : y = items[i] := by have := congrArg Prod.fst hyx; simpa using this
    have hx : x = items2[i] := by have := congrArg Prod.snd hyx; simpa using this
    subst hy hx
    refine wpAny_bind (wpAny_mono (turn i h1 h2 s' hI) (fun r s2 q2 => ?_) fun _ _ x => x)
    obtain ⟨hr, q2⟩ := q2
    subst hr
    cases hei : e i with
    | true =>
      wp_walk
      exact ⟨rfl, i + 1, hrest, fun j hj => by
        rcases Nat.lt_succ_iff_lt_or_eq.mp hj with z | z
        · exact hpre j z
        · rw [z]; exact hei, hm, q2⟩
    | false =>
      have hR := fin s2 q2
      rw [all_drop hpre hm hei] at hR
      wp_walk
      simpa using hR
  case fin =>
    rintro ⟨b1, b2⟩ s' ⟨hb', i, hz, hpre, hi, hI⟩
    simp only at hb'
    subst hb'
    have hge : min items.size items2.size ≤ i := by
      rcases Nat.lt_or_ge i (items.toList.zip items2.toList).length with h' | h'
      · rw [List.drop_eq_getElem_cons h'] at hz; cases hz
      · exact hZ ▸ h'
    have hR := fin s' hI
    rw [all_full (fun j hj => hpre j (by omega))] at hR
    wp_walk
    simpa [Builtin.Tuple.tupleCompareSizes, bne] using hR
  case h =>
    exact ⟨rfl, 0, rfl, fun j hj => absurd hj (Nat.not_lt_zero j), Nat.zero_le _, h0⟩
end
section
variable {prog : Program} {w : World} {A : Around} {E : Value → Shared → Prop} {s : Shared}
theorem rc_listNB {l b : Addr} {N : Nat} {e : Nat → Bool} {Q : Value → Shared → Prop} (hu : A.units < cLine) (I : Shared → Prop) (hl : ListJ prog w A E l b N e I)
    (fin : ∀ s, I s → Q (.bool (!(List.range N).all e)) s) (h : I s) : wpAny (model prog w) A (richCompare .NotEq (.ref l) (.ref b)) Q E s := by
  obtain ⟨items, items2, hl1', hb1', _, _, _⟩ := hl _ h
  obtain ⟨n, dd, sl, hl1⟩ := isList_obj hl1'
  obtain ⟨n2, dd2, sl2, hb1⟩ := isList_obj hb1'
  refine wpAny_richCompare_same_room (op := .NotEq) ⟨_, hl1, rfl⟩ ⟨_, hb1, rfl⟩ F.slot_list_ne (call_here F.slot_list_ne ⟨_, hl1, rfl⟩ F.entry_list_ne (F.args_list_ne_2 _ _) ?_) hu
  exact list_neB (R := wants (fun v s' => v ≠ .notImplemented ∧ Q v s') E) l b N e I hl (fun s' q => ⟨(fun x => nomatch x), fin s' q⟩) h
theorem rc_tupNB {l b : Addr} {items items2 : Array Value} {e : Nat → Bool} {Q : Value → Shared → Prop} (hu : A.units < cLine) (I : Shared → Prop)
    (hl : s.heap.IsTuple l items) (hb : s.heap.IsTuple b items2)
    (turn : ∀ i (h1 : i < items.size) (h2 : i < items2.size) s, I s → wpAny (model prog w) A.in1 (eqBool items[i] items2[i]) (fun r s' => r = e i ∧ I s') E s)
    (fin : ∀ s, I s → Q (.bool (!((List.range (min items.size items2.size)).all e && items.size == items2.size))) s) (h : I s) : wpAny (model prog w) A (richCompare .NotEq (.ref l) (.ref b)) Q E s := by
  obtain ⟨⟨cls, dd, data, sl⟩, ho, hc, n, hd⟩ := id hl
  obtain ⟨⟨cls2, dd2, data2, sl2⟩, ho2, hc2, n2, hd2⟩ := id hb
  simp only at hc hd hc2 hd2
  subst hc hd hc2 hd2
  refine wpAny_richCompare_same_room (op := .NotEq) ⟨_, ho, rfl⟩ ⟨_, ho2, rfl⟩ F.slot_tuple_ne (call_here F.slot_tuple_ne ⟨_, ho, rfl⟩ F.entry_tuple_ne (F.args_tuple_ne_2 _ _) ?_) hu
  exact tuple_neB (R := wants (fun v s' => v ≠ .notImplemented ∧ Q v s') E) l b items items2 n n2 dd dd2 sl sl2 e I turn (fun s' q => ⟨(fun x => nomatch x), fin s' q⟩) ho ho2 h
end
section
open PySem.W
variable {prog : Program} {w : World} {A : Around} {E : Value → Shared → Prop} {s : Shared} {K : Frag} {x C f : Addr} {ox : Obj} {od : Option Obj} {b tb : Value}
/-- x != b, x of an own class with an own == and no own != -/
theorem cmpne_K {Q : Value → Shared → Prop} (hu : A.units + 1 < cLine) (X : K.In s.heap) (I : InstAt s.heap x ox C od) (hb : Looks (model prog w) s.heap (typeOf b) tb) (hn : notFirst K C tb = true) (hm : mroIn K C (.type "object") = some true)
    (hne : findIn K (.ref C) "__ne__" = some (some (.builtin "object.__ne__"))) (hs : findIn K (.ref C) "__eq__" = some (some (.ref f))) (hf : isFn K (.ref f) = true)
    (h : wpAny (model prog w) A.in1 (call (.ref f) [.ref x, b]) (fun v s' => ∃ r, v = .bool r ∧ Q (.bool (!r)) s') E s) : wpAny (model prog w) A (richCompare .NotEq (.ref x) b) Q E s := by
  have one : wpAny (model prog w) A (tryCompare (.ref x) "__ne__" b) (fun r s' => ∃ v, r = some (.bool v) ∧ Q (.bool v) s') E s := by
    unfold tryCompare
    refine wpAny_bind ?_
    simp only [callSpecialIfBound?, bindSpecialIfBound?]
    refine wpAny_holding (wpAny_bind (wpAny_bind (wpAny_bind (I.type.here ((looks_findIn X hne).here ?_)))))
    refine wpAny_bind (wpAny_askSetting (wpAny_ite ?_))
    have fin : wpAny (model prog w) A (call (.builtin "object.__ne__") ([.ref x] ++ [b]) >>= fun v => pure (some v)) (fun a s₁ => wpAny (model prog w) A (match a with
        | some Value.notImplemented => pure none
        | none => pure none
        | some v => pure (some v)) (fun r s' => ∃ v, r = some (Value.bool v) ∧ Q (.bool v) s') E s₁) E s := by
      refine wpAny_bind (wpAny_call (codeAny_call_builtin PySem.F.cmp_object.ne.plain PySem.F.cmpEntry_ne ?_))
      refine check_slot PySem.F.cmpKind_ne PySem.F.cmpSplit_ne (I.type.andThen (looks_mroIn X hm)) (PySem.F.cmpArgs_ne _ _) ?_
      unfold Builtin.«object.__ne__»
      refine wpAny_bind (wpAny_of_eq (a := ((Value.ref x : Value), [b])) (by first | rfl | (simp only [slotArgs]; rfl)) ?_)
      refine wpAny_bind (wpAny_cRoomFor (by exact hu) ?_)
      refine wpAny_bind (ifBound_K X I hs hf (wpAny_mono h (fun v s' hv => ?_) fun _ _ e => e))
      obtain ⟨r, rfl, q⟩ := hv
      refine wpAny_bind (wpAny_truthy_bool ?_)
      exact wpAny_pure (wpAny_pure (wpAny_pure ⟨_, rfl, q⟩))
    split
    · exact wpAny_bind (wpAny_of_eq (PySem.F.cmp_object.ne.bind _) (wpAny_pure (by exact fin)))
    · exact wpAny_tryCatch (wpAny_bind (wpAny_of_eq (PySem.F.cmp_object.ne.bind _) (wpAny_pure (by exact fin))))
  unfold richCompare
  simp only [oneThing_ref, cmpInfo]
  refine wpAny_holding (wpAny_bind (wpAny_cRoomFor (by omega) ?_))
  refine wpAny_bind (I.type.here (wpAny_bind (hb.here ?_)))
  split
  · rename_i q
    have e : subIn K tb (.ref C) = some false := by
      rcases Bool.or_eq_true_iff.mp hn with e | e
      · rw [beq_iff_eq.mp e] at q; simp at q
      · exact beq_iff_eq.mp e
    refine wpAny_bind ((looks_subIn X e).here ?_)
    simp only [Bool.false_eq_true, if_false]
    refine wpAny_bind (wpAny_mono one (fun r s' z => ?_) fun _ _ e => e)
    obtain ⟨v, rfl, hq⟩ := z
    exact wpAny_pure hq
  · refine wpAny_bind (wpAny_pure ?_)
    simp only [Bool.false_eq_true, if_false]
    refine wpAny_bind (wpAny_mono one (fun r s' z => ?_) fun _ _ e => e)
    obtain ⟨v, rfl, hq⟩ := z
    exact wpAny_pure hq
end
end LxE
namespace LxE
open PySem PySem.SeqAt L2
open AutoSeq1 (wpAny_loadPart')
open MeetsSeq MeetsSeq2 MeetsSeq3 SeqRoads2
section
variable {prog : Program} {w : World} {A : Around} {R : Result → Shared → Prop}
def ListC (prog : Program) (w : World) (A : Around) (E : Value → Shared → Prop) (l : Addr) (x : Value) (N : Nat) (e : Nat → Bool) (I : Shared → Prop) : Prop :=
  ∀ s, I s → ∃ (items : Array Value), s.heap.IsList l items ∧ items.size = N ∧ ∀ i (h1 : i < items.size), wpAny (model prog w) A.in1 (eqBool items[i] x) (fun r s' => r = e i ∧ I s') E s
theorem any_hit {N : Nat} {e : Nat → Bool} {i : Nat} (hi : i < N) (hf : e i = true) : (List.range N).any e = true := by
  rw [List.any_eq_true]
  exact ⟨i, List.mem_range.mpr hi, hf⟩
theorem any_none {N : Nat} {e : Nat → Bool} (hp : ∀ j, j < N → e j = false) : (List.range N).any e = false := by
  rw [List.any_eq_false]
  intro x hx
  rw [hp x (List.mem_range.mp hx)]
  exact Bool.false_ne_true
theorem contains_loopB (l : Addr) (x : Value) (N : Nat) (e : Nat → Bool) (I : Shared → Prop) (hl : ListC prog w A (fun e s' => R (.error e) s') l x N e I)
    (fin : ∀ s, I s → R (.ok (.ret (.bool ((List.range N).any e)))) s) (k : Nat) :
    ∀ i : Nat, N - i = k → i ≤ N → (∀ j, j < i → e j = false) → ∀ s, I s →
      wpAny (model prog w) A.in1 (Builtin.«list.__contains__.loop» ⟨[.ref l, x, rawInt i], []⟩) (FinOf prog w A R) (fun e s' => R (.error e) s') s := by
  induction k with
  | zero =>
    intro i hk hi hp s h
    obtain ⟨items, hl1', hs1, _⟩ := hl _ h
    obtain ⟨n, dd, sl, hl1⟩ := isList_obj hl1'
    have hR := fin s h
    rw [any_none (fun j hj => hp j (by omega))] at hR
    obtain ⟨hp', g, d, tk, os⟩ := s
    wp_walk using wpAny_loadPart' hl1
    have hi1 : items[((i : Nat) : Int).toNat]? = none := by simp; omega
    rw [hi1]
    wp_walk
    exact hR
  | succ k ih =>
    intro i hk hi hp s h
    obtain ⟨items, hl1', hs1, turn⟩ := hl _ h
    obtain ⟨n, dd, sl, hl1⟩ := isList_obj hl1'
    have hlt : i < items.size := by omega
    have ht := turn i hlt
    obtain ⟨hp', g, d, tk, os⟩ := s
    wp_walk using wpAny_loadPart' hl1
    have hi1 : items[((i : Nat) : Int).toNat]? = some items[i] := by simp [hlt]
    have hc : ((i : Int) + 1) = ((i + 1 : Nat) : Int) := by omega
    rw [hi1]
    refine wpAny_bind (wpAny_mono ht (fun r s2 h2 => ?_) fun _ _ x => x)
    obtain ⟨hr, h2⟩ := h2
    subst hr
    have fin2 := fin s2 h2
    cases hei : e i with
    | true =>
      rw [any_hit (by omega) hei] at fin2
      obtain ⟨hp2, g2, d2, tk2, os2⟩ := s2
      wp_walk
      exact fin2
    | false =>
      have hrec := ih (i + 1) (by omega) (by omega) (fun j hj => by
        rcases Nat.lt_succ_iff_lt_or_eq.mp hj with z | z
        · exact hp j z
        · rw [z]; exact hei) s2 h2
      obtain ⟨hp2, g2, d2, tk2, os2⟩ := s2
      wp_walk
      rw [hc]
      exact ⟨plainId_quiet plain_contains_loop _, codeAny_builtin entry_contains_loop (by
        rw [Around.under_plainId plain_contains_loop _]
        exact hrec)⟩
theorem list_containsB (l : Addr) (x : Value) (N : Nat) (e : Nat → Bool) (I : Shared → Prop) (hl : ListC prog w A (fun e s' => R (.error e) s') l x N e I)
    (fin : ∀ s, I s → R (.ok (.ret (.bool ((List.range N).any e)))) s) {s : Shared} (h : I s) :
    wpAny (model prog w) A.in1 (Builtin.«list.__contains__» ⟨[.ref l, x], []⟩) (FinOf prog w A R) (fun e s' => R (.error e) s') s := by
  obtain ⟨items, hl1', hs1, _⟩ := hl _ h
  obtain ⟨n, dd, sl, hl1⟩ := isList_obj hl1'
  have hrec := contains_loopB (A := A) (R := R) l x N e I hl fin _ 0 rfl (Nat.zero_le _) (fun j hj => absurd hj (Nat.not_lt_zero j)) s h
  obtain ⟨hp, g, d, tk, os⟩ := s
  wp_walk using wpAny_loadPart' hl1
  exact ⟨plainId_quiet plain_contains_loop _, codeAny_builtin entry_contains_loop (by
    rw [Around.under_plainId plain_contains_loop _]
    exact hrec)⟩
theorem tuple_containsB (l : Addr) (x : Value) (items : Array Value) (n : Nat) (dd : Option Addr) (sl : Array (Option Value)) (e : Nat → Bool) (I : Shared → Prop)
    (turn : ∀ i (h1 : i < items.size) s, I s → wpAny (model prog w) A.in1 (eqBool items[i] x) (fun r s' => r = e i ∧ I s') (fun e s' => R (.error e) s') s)
    (fin : ∀ s, I s → R (.ok (.ret (.bool ((List.range items.size).any e)))) s) {s : Shared} (hl1 : s.heap.get? l = some { cls := .type "tuple", dict := dd, data := .seq items n, slots := sl }) (h : I s) :
    wpAny (model prog w) A.in1 (Builtin.«tuple.__contains__» ⟨[.ref l, x], []⟩) (FinOf prog w A R) (fun e s' => R (.error e) s') s := by
  have h0 := h
  obtain ⟨hp, g, d, tk, os⟩ := s
  wp_walk using wpAny_loadPart' hl1, wpAny_forIn_array _ (fun rest b s' => b.1 = none ∧ ∃ i, rest = items.toList.drop i ∧ (∀ j, j < i → e j = false) ∧ i ≤ items.size ∧ I s') _
  case turn =>
    rintro y rest b s' ⟨hb', i, hz, hpre, hi, hI⟩
    have hlt : i < items.toList.length := by
      rcases Nat.lt_or_ge i items.toList.length with h' | h'
      · exact h'
      · rw [List.drop_of_length_le h'] at hz; cases hz
    have h1 : i < items.size := by simpa using hlt
    rw [List.drop_eq_getElem_cons hlt] at hz
    injection hz with hy hrest
    have hy' : y = items[i] := by simpa using hy
    subst hy'
    refine wpAny_bind (wpAny_mono (turn i h1 s' hI) (fun r s2 q2 => ?_) fun _ _ x => x)
    obtain ⟨hr, q2⟩ := q2
    subst hr
    have hR := fin s2 q2
    cases hei : e i with
    | true =>
      rw [any_hit h1 hei] at hR
      wp_walk
      exact hR
    | false =>
      wp_walk
      exact ⟨rfl, i + 1, hrest, fun j hj => by
        rcases Nat.lt_succ_iff_lt_or_eq.mp hj with z | z
        · exact hpre j z
        · rw [z]; exact hei, h1, q2⟩
  case fin =>
    rintro ⟨b1, b2⟩ s' ⟨hb', i, hz, hpre, hi, hI⟩
    simp only at hb'
    subst hb'
    have hge : items.size ≤ i := by
      rcases Nat.lt_or_ge i items.toList.length with h' | h'
      · rw [List.drop_eq_getElem_cons h'] at hz; cases hz
      · simpa using h'
    have hR := fin s' hI
    rw [any_none (fun j hj => hpre j (by omega))] at hR
    wp_walk
    exact hR
  case h =>
    exact ⟨rfl, 0, rfl, fun j hj => absurd hj (Nat.not_lt_zero j), Nat.zero_le _, h0⟩
end
end LxE
namespace PySem.W
open Lean Elab Tactic Meta PySem PySem.Calls PyProof.Rows PyProof.V PySem.Spec
theorem lx_ne_dicts {prog : Program} {w : World} {K : Type} [DecidableEq K] {knd : KeyKind prog w K} {A : Around} {s : Shared} {a b : Addr} {ka kb : List (K × Value)} {r : Bool} (ha : (a == sysModules) = false) (hb : (b == sysModules) = false)
    (da : s.heap.DictOf knd a ka) (db : s.heap.DictOf knd b kb) (hu : A.units < cLine) (hits : ka.length = kb.length → KeqHitsP prog w A.in1 s kb ka r) (E Q : Value → Shared → Prop) (h : Q (.bool (!(ka.length == kb.length && r))) s) : wpAny (model prog w) A (richCompare .NotEq (.ref a) (.ref b)) Q E s := by
  refine wpAny_richCompare_same_room (op := .NotEq) da.typeIs db.typeIs PySem.F.slot_dict_ne (wpAny_call_entry PySem.F.slot_dict_ne da.typeIs PySem.F.entry_dict_ne ?_ (PySem.F.args_dict_ne_2 _ _)) hu
  show wpAny _ _ (Builtin.Dict.dictSlotArgs "__ne__" ⟨[.ref a, .ref b], []⟩ >>= _) _ _ s
  refine wpAny_bind ?_
  unfold Builtin.Dict.dictSlotArgs
  refine wpAny_bind (wpAny_notOrdered_dict da.typeIs ?_)
  show wpAny _ _ (pure (Value.ref a, Value.ref b)) _ _ s
  refine wpAny_pure ?_
  refine wpAny_bind (wpAny_isInstance (T := "dict") db.typeIs PySem.F.sub_dict_dict ?_)
  simp only [Bool.not_true, Bool.false_eq_true, if_false]
  refine wpAny_bind (wpAny_pure (wpAny_bind (wpAny_pure ?_)))
  refine wpAny_bind (samePairsP ha hb da db hits ?_)
  refine wpAny_pure ⟨_, rfl, ?_, ?_⟩
  · exact fun x => nomatch x
  · simpa using h
end PySem.W
namespace LxE
open PySem PySem.SeqAt L2
section
variable {X : Cx} {pins : List (Addr × Obj)} {σ : L2.St} {H : Hp} {s : Shared}
theorem items_own {k n : Nat} {shp : Addr → List Str → List Dt → Prop} (T : EqTab X.prog X.w X.K X.mg X.base k shp) {A : Around} (sb : Sub X (k + n) A) {ds es : List Dt} {xs ys : List V} {its its2 : List Value} (hdn : depL ds ≤ n) (p1 : okL shp ds) (p2 : okL shp es)
    (l1 : IsL X.K H ds xs) (l2 : IsL X.K H es ys) (r1 : Vals xs its) (r2 : Vals ys its2) (i : Nat) (h1 : i < its.toArray.size) (h2 : i < its2.toArray.size) (s' : Shared) (L : LoopI X pins σ H s') :
    wpAny (model X.prog X.w) A (eqBool its.toArray[i] its2.toArray[i]) (fun r s2 => r = eAt ds es i ∧ LoopI X pins σ H s2) X.xe s' := by
  obtain ⟨H1, I1, e1⟩ := L
  have g1 : its[i]? = some its.toArray[i] := by
    have h1' : i < its.length := by simpa using h1
    rw [List.getElem?_eq_getElem h1'] <;> simp
  have g2 : its2[i]? = some its2.toArray[i] := by
    have h2' : i < its2.length := by simpa using h2
    rw [List.getElem?_eq_getElem h2'] <;> simp
  have k1 : i < xs.length := by rw [r1.length]; simpa using h1
  have k2 : i < ys.length := by rw [r2.length]; simpa using h2
  obtain ⟨u', hu', ru⟩ := r1.get (List.getElem?_eq_getElem k1)
  obtain ⟨v', hv', rv⟩ := r2.get (List.getElem?_eq_getElem k2)
  rw [g1] at hu'
  rw [g2] at hv'
  rw [Option.some.inj hu', Option.some.inj hv']
  obtain ⟨d', d1, i1⟩ := l1.get (List.getElem?_eq_getElem k1)
  obtain ⟨e', d2, i2⟩ := l2.get (List.getElem?_eq_getElem k2)
  rw [eAt_some d1 d2]
  refine wpAny_mono (eq_own T (Nat.le_trans (depL_get d1) hdn) (okL_get p1 d1) (okL_get p2 d2) (i1.ext e1) (i2.ext e1) ru rv sb I1) (fun r s2 q => ?_) fun _ _ z => z
  obtain ⟨hr, H2, I2, e2⟩ := q
  exact ⟨hr, H2, I2, e1.trans e2⟩
/-- what a class must have besides, for != -/
def NeFacts (K : PySem.W.Frag) (C : Addr) : Prop := PySem.W.findIn K (.ref C) "__ne__" = some (some (.builtin "object.__ne__")) ∧ PySem.W.mroIn K C (.type "object") = some true
theorem rcn_own {k : Nat} {shp : Addr → List Str → List Dt → Prop} (T : EqTab X.prog X.w X.K X.mg X.base k shp) (N : ∀ C fs ds, shp C fs ds → NeFacts X.K C) (n : Nat) (d e : Dt) (x y : V) (u v : Value) (A : Around) (hn : dep d ≤ n) (od : okD shp d) (oe : okD shp e) (hd : Is X.K H d x) (he : Is X.K H e y)
    (rx : RelV x u) (ry : RelV y v) (sb : Sub X (k + n + 1) A) (I : Inv X pins σ H s) (hk : kd d = kd e ∨ kd d = 6) :
    wpAny (model X.prog X.w) A (richCompare .NotEq u v) (fun r s' => r = .bool (!deq d e) ∧ LoopI X pins σ H s') X.xe s := by
  have sb1 : Sub X (k + n) A.in1 := sb.in1
  by_cases h6 : kd d = 6
  · cases d <;> first | (exfalso; simp [kd] at h6; done) | skip
    rename_i C fs ds
    obtain ⟨⟨f, fd, F1, hfind, hfn, hb⟩, hfc⟩ := T.own C fs ds od
    obtain ⟨hne, hm⟩ := N C fs ds od
    have hd' := hd
    obtain ⟨a, dx, kvs, rfl, hs, ek, hl⟩ := hd
    cases (show u = _ from rx)
    obtain ⟨mA, J0, _⟩ := ins_get I.hok hs
    obtain ⟨odj, J, _⟩ := J0.look
    have tb : ∃ tb, PySem.W.Looks (model X.prog X.w) s.heap (typeOf v) tb ∧ PySem.W.notFirst X.K C tb = true := by
      by_cases h6' : kd e = 6
      · cases e <;> first | (exfalso; simp [kd] at h6'; done) | skip
        rename_i C' fs' es
        have t2 := T.two _ _ _ _ _ _ od oe
        obtain ⟨b, dy, lvs, rfl, hs', _, _⟩ := he
        cases (show v = _ from ry)
        obtain ⟨mB, J0', _⟩ := ins_get I.hok hs'
        obtain ⟨odj', J', _⟩ := J0'.look
        exact ⟨_, J'.type, t2⟩
      · obtain ⟨Tn, hT, tT⟩ := ty_of I he ry h6'
        exact ⟨_, looks_ty tT, (facts_of hfc hT).1⟩
    obtain ⟨tb, Lt, hnf⟩ := tb
    have hun := sb.room.un
    refine cmpne_K (tb := tb) (by omega) I.kIn J Lt hnf hm hne hfind hfn ?_
    refine wpAny_mono (own_run (Q' := fun z H' => z = .bl (deq (.ins C fs ds) e) ∧ Ext H H') F1 hb (sb1.mono (by omega)) I ry ⟨a, y, fs, ds, e, rfl, hd', he, od, oe, fun H' e' => ⟨rfl, e'⟩⟩) (fun r s' hr => ?_) fun _ _ z => z
    obtain ⟨z, H', I', rz, ez, ex⟩ := hr
    subst ez
    cases (show r = _ from rz)
    exact ⟨_, rfl, rfl, H', I', ex⟩
  · have hk' : kd d = kd e := hk.resolve_right h6
    by_cases h2 : kd d ≤ 2
    · have h3 : kd e ≤ 2 := hk' ▸ h2
      have L : LoopI X pins σ H s := ⟨H, I, Ext.rfl'⟩
      cases d <;> first | (exfalso; simp [kd] at h2; done) | skip
      all_goals (cases e <;> first | (exfalso; simp [kd] at hk'; done) | skip)
      · cases (show x = _ from hd); cases (show y = _ from he); cases (show u = _ from rx); cases (show v = _ from ry)
        exact RcNeAt.none_none X.prog X.w X.xe _ ⟨rfl, L⟩
      · cases (show x = _ from hd); cases (show y = _ from he); cases (show u = _ from rx); cases (show v = _ from ry)
        exact RcNeAt.bool_bool _ _ X.prog X.w X.xe _ ⟨rfl, L⟩
      · cases (show x = _ from hd); cases (show y = _ from he); cases (show u = _ from rx); obtain ⟨t, rfl⟩ := (show ∃ t, v = Value.int _ t from ry)
        exact RcNeAt.bool_int _ _ _ X.prog X.w X.xe _ ⟨rfl, L⟩
      · cases (show x = _ from hd); cases (show y = _ from he); obtain ⟨t, rfl⟩ := (show ∃ t, u = Value.int _ t from rx); cases (show v = _ from ry)
        exact RcNeAt.int_bool _ _ _ X.prog X.w X.xe _ ⟨rfl, L⟩
      · cases (show x = _ from hd); cases (show y = _ from he); obtain ⟨t, rfl⟩ := (show ∃ t, u = Value.int _ t from rx); obtain ⟨t', rfl⟩ := (show ∃ t, v = Value.int _ t from ry)
        exact RcNeAt.int_int _ _ _ _ X.prog X.w X.xe _ ⟨rfl, L⟩
      · cases (show x = _ from hd); cases (show y = _ from he); obtain ⟨t, rfl⟩ := (show ∃ t, u = Value.str _ t from rx); obtain ⟨t', rfl⟩ := (show ∃ t, v = Value.str _ t from ry)
        exact RcNeAt.str_str _ _ _ _ X.prog X.w X.xe _ ⟨rfl, L⟩
    · cases d with
      | non => exact absurd (by decide) h2
      | bl b => exact absurd (by show 1 ≤ 2; decide) h2
      | int b => exact absurd (by show 1 ≤ 2; decide) h2
      | str b => exact absurd (by show 2 ≤ 2; decide) h2
      | ins C fs ds => exact absurd rfl h6
      | lst ds =>
        cases e <;> first | (exfalso; simp [kd] at hk'; done) | skip
        rename_i es
        obtain ⟨a, xs, rfl, hs, l1⟩ := hd
        obtain ⟨b, ys, rfl, hs', l2⟩ := he
        cases (show u = _ from rx)
        cases (show v = _ from ry)
        have eq0 : deq (.lst ds) (.lst es) = ((List.range (min ds.length es.length)).all (eAt ds es) && ds.length == es.length) := deqL_eq ds es
        have hdn : depL ds ≤ n := Nat.le_trans (Nat.le_succ _) hn
        by_cases hsz : ds.length = es.length
        · refine rc_listNB (N := ds.length) (e := eAt ds es) sb.room.units0 (LoopI X pins σ H) (fun s' z => ?_) (fun s' z => ⟨?_, z⟩) ⟨H, I, Ext.rfl'⟩
          · obtain ⟨H1, I1, e1⟩ := id z
            obtain ⟨its, r1, p1, _⟩ := I1.list (hs.ext e1)
            obtain ⟨its2, r2, p2, _⟩ := I1.list (hs'.ext e1)
            exact ⟨its.toArray, its2.toArray, p1.isList, p2.isList, by rw [List.size_toArray, ← r1.length, ← l1.length], by rw [List.size_toArray, ← r2.length, ← l2.length, hsz],
              fun i h1 h2 => items_own T sb1 hdn od oe l1 l2 r1 r2 i h1 h2 s' z⟩
          · rw [eq0, hsz, Nat.min_self, beq_self_eq_true, Bool.and_true, ← hsz]
        · have hb : (ds.length == es.length) = false := beq_eq_false_iff_ne.mpr hsz
          rw [hb, Bool.and_false] at eq0
          obtain ⟨its, r1, p1, _⟩ := I.list hs
          obtain ⟨its2, r2, p2, _⟩ := I.list hs'
          refine RcNeAt.lists_lengths p1.isList p2.isList ?_ sb.room.units0 X.prog X.w X.xe _ ⟨by rw [eq0] <;> rfl, H, I, Ext.rfl'⟩
          rw [List.size_toArray, List.size_toArray, ← r1.length, ← r2.length, ← l1.length, ← l2.length]
          simp [hsz]
      | tup ds =>
        cases e <;> first | (exfalso; simp [kd] at hk'; done) | skip
        rename_i es
        obtain ⟨a, xs, rfl, hs, l1⟩ := hd
        obtain ⟨b, ys, rfl, hs', l2⟩ := he
        cases (show u = _ from rx)
        cases (show v = _ from ry)
        have eq0 : deq (.tup ds) (.tup es) = ((List.range (min ds.length es.length)).all (eAt ds es) && ds.length == es.length) := deqL_eq ds es
        have hdn : depL ds ≤ n := Nat.le_trans (Nat.le_succ _) hn
        obtain ⟨its, r1, p1, _⟩ := I.tuple hs
        obtain ⟨its2, r2, p2, _⟩ := I.tuple hs'
        have e1 : its.toArray.size = ds.length := by rw [List.size_toArray, ← r1.length, ← l1.length]
        have e2 : its2.toArray.size = es.length := by rw [List.size_toArray, ← r2.length, ← l2.length]
        refine rc_tupNB (e := eAt ds es) sb.room.units0 (LoopI X pins σ H) p1 p2 (fun i h1 h2 s' z => items_own T sb1 hdn od oe l1 l2 r1 r2 i h1 h2 s' z) (fun s' z => ⟨?_, z⟩) ⟨H, I, Ext.rfl'⟩
        rw [eq0, e1, e2]
      | dic ks ds =>
        cases e <;> first | (exfalso; simp [kd] at hk'; done) | skip
        rename_i ls es
        obtain ⟨a, kvs, rfl, hs, ek, l1⟩ := hd
        obtain ⟨b, lvs, rfl, hs', el, l2⟩ := he
        subst ek el
        cases (show u = _ from rx)
        cases (show v = _ from ry)
        obtain ⟨_, ya, va, ra, da⟩ := (show ObjOk X.prog X.w H s.heap a (.dK kvs) from I.hok a _ hs)
        obtain ⟨_, yb, vb, rb, db⟩ := (show ObjOk X.prog X.w H s.heap b (.dK lvs) from I.hok b _ hs')
        have hun := sb.room.un
        have hdn : depL ds ≤ n := Nat.le_trans (Nat.le_succ _) hn
        refine PySem.W.lx_ne_dicts (knd := mixKind X.prog X.w) (r := deqD (kvs.map (·.1)) ds (lvs.map (·.1)) es) ya yb da db (by omega) (fun _ => hits_of rb l2 l1 ra fun i d e x y u v k1 k2 i1 i2 r1 r2 => ?_) X.xe _ ⟨?_, H, I, Ext.rfl'⟩
        · obtain ⟨j, hj⟩ := mem_get k2
          intro E Q q
          exact eq_get I i1 i2 r1 r2 q (rc_pure I n d e x y u v A.in1 (Nat.le_trans (depL_get k1) hdn) (pureL_get od k1) (pureL_get oe hj) i1 i2 r1 r2 (by show A.units + 1 + n < cLine; omega) E _ ⟨_, rfl, q⟩)
        · have e1 : va.length = (kvs.map (·.1)).length := by rw [List.length_map, ← KV.length ra]
          have e2 : vb.length = (lvs.map (·.1)).length := by rw [List.length_map, ← KV.length rb]
          rw [e1, e2] <;> rfl
/-- x in l, l a list or a tuple -/
theorem in_own {k : Nat} {shp : Addr → List Str → List Dt → Prop} (T : EqTab X.prog X.w X.K X.mg X.base k shp) (n : Nat) (d : Dt) (es : List Dt) (x y : V) (u v : Value) (A : Around) (hn : depL es ≤ n) (od : okD shp d) (oe : okL shp es) (hd : Is X.K H d x) (he : Is X.K H (.lst es) y ∨ Is X.K H (.tup es) y)
    (rx : RelV x u) (ry : RelV y v) (sb : Sub X (k + n + 1) A) (I : Inv X pins σ H s) :
    wpAny (model X.prog X.w) A (contains v u) (fun r s' => r = (es.any fun e => deq e d) ∧ LoopI X pins σ H s') X.xe s := by
  have sb1 : Sub X (k + n) A.in1 := sb.in1
  have eqr : ∀ N, N = es.length → (List.range N).any (fun i => match es[i]? with | some e => deq e d | none => false) = es.any fun e => deq e d := by
    intro N hN
    subst hN
    rw [Bool.eq_iff_iff, List.any_eq_true, List.any_eq_true]
    constructor
    · rintro ⟨i, hi, h⟩
      have hi' := List.mem_range.mp hi
      rw [List.getElem?_eq_getElem hi'] at h
      exact ⟨_, List.getElem_mem hi', h⟩
    · rintro ⟨e, he, h⟩
      obtain ⟨i, hi, rfl⟩ := List.mem_iff_getElem.mp he
      exact ⟨i, List.mem_range.mpr hi, by rw [List.getElem?_eq_getElem hi]; exact h⟩
  have item : ∀ {ys : List V} {its : List Value}, IsL X.K H es ys → Vals ys its → ∀ i (h1 : i < its.toArray.size) (s' : Shared), LoopI X pins σ H s' →
      wpAny (model X.prog X.w) A.in1 (eqBool its.toArray[i] u) (fun r s2 => r = (match es[i]? with | some e => deq e d | none => false) ∧ LoopI X pins σ H s2) X.xe s' := by
    intro ys its l1 r1 i h1 s' L
    obtain ⟨H1, I1, e1⟩ := L
    have g1 : its[i]? = some its.toArray[i] := by
      have h1' : i < its.length := by simpa using h1
      rw [List.getElem?_eq_getElem h1'] <;> simp
    have k1 : i < ys.length := by rw [r1.length]; simpa using h1
    obtain ⟨u', hu', ru⟩ := r1.get (List.getElem?_eq_getElem k1)
    rw [g1] at hu'
    rw [Option.some.inj hu']
    obtain ⟨d', d1, i1⟩ := l1.get (List.getElem?_eq_getElem k1)
    rw [d1]
    refine wpAny_mono (eq_own T (Nat.le_trans (depL_get d1) hn) (okL_get oe d1) od (i1.ext e1) (hd.ext e1) ru rx sb1 I1) (fun r s2 q => ?_) fun _ _ z => z
    obtain ⟨hr, H2, I2, e2⟩ := q
    exact ⟨hr, H2, I2, e1.trans e2⟩
  rcases he with he | he
  · obtain ⟨a, ys, rfl, hs, l1⟩ := he
    cases (show v = _ from ry)
    obtain ⟨its0, r0, p0, _⟩ := I.list hs
    refine wpAny_contains_slot (ti_list p0.isList) F.slot_list_contains (call_here F.slot_list_contains (ti_list p0.isList) F.entry_list_contains (F.args_list_contains_2 _ _) ?_)
    refine list_containsB (R := wants (fun v s' => wpAny (model X.prog X.w) A (truthy v) (fun r s' => r = (es.any fun e => deq e d) ∧ LoopI X pins σ H s') X.xe s') X.xe) a u es.length (fun i => match es[i]? with | some e => deq e d | none => false) (LoopI X pins σ H) (fun s' z => ?_) (fun s' z => ?_) ⟨H, I, Ext.rfl'⟩
    · obtain ⟨H1, I1, e1⟩ := id z
      obtain ⟨its, r1, p1, _⟩ := I1.list (hs.ext e1)
      exact ⟨its.toArray, p1.isList, by rw [List.size_toArray, ← r1.length, ← l1.length], fun i h1 => item l1 r1 i h1 s' z⟩
    · rw [eqr _ rfl]
      exact wpAny_truthy_bool ⟨rfl, z⟩
  · obtain ⟨a, ys, rfl, hs, l1⟩ := he
    cases (show v = _ from ry)
    obtain ⟨its, r1, p1, _⟩ := I.tuple hs
    have e1 : its.toArray.size = es.length := by rw [List.size_toArray, ← r1.length, ← l1.length]
    obtain ⟨n', dd, sl, ho⟩ := isTup_obj p1
    refine wpAny_contains_slot (ti_tuple p1) F.slot_tuple_contains (call_here F.slot_tuple_contains (ti_tuple p1) F.entry_tuple_contains (F.args_tuple_contains_2 _ _) ?_)
    refine tuple_containsB (R := wants (fun v s' => wpAny (model X.prog X.w) A (truthy v) (fun r s' => r = (es.any fun e => deq e d) ∧ LoopI X pins σ H s') X.xe s') X.xe) a u its.toArray n' dd sl (fun i => match es[i]? with | some e => deq e d | none => false) (LoopI X pins σ H) (fun i h1 s' z => item l1 r1 i h1 s' z) (fun s' z => ?_) ho ⟨H, I, Ext.rfl'⟩
    rw [e1, eqr _ rfl]
    exact wpAny_truthy_bool ⟨rfl, z⟩
end
end LxE
namespace L2
open PySem PySem.Spec PyProof.Rows
def rEqO (K : PySem.W.Frag) (shp : Addr → List Str → List Dt → Prop) : R2 := fun x y H Q => ∃ d e, Is K H d x ∧ Is K H e y ∧ okD shp d ∧ okD shp e ∧ dep d ≤ 8 ∧ ∀ H', Ext H H' → Q (.bl (deq d e)) H'
def rNeO (K : PySem.W.Frag) (shp : Addr → List Str → List Dt → Prop) : R2 := fun x y H Q => ∃ d e, Is K H d x ∧ Is K H e y ∧ okD shp d ∧ okD shp e ∧ dep d ≤ 8 ∧ (LxE.kd d = LxE.kd e ∨ LxE.kd d = 6) ∧ ∀ H', Ext H H' → Q (.bl (!deq d e)) H'
def rNiO (K : PySem.W.Frag) (shp : Addr → List Str → List Dt → Prop) : R2 := fun x y H Q => ∃ d es, Is K H d x ∧ (Is K H (.lst es) y ∨ Is K H (.tup es) y) ∧ okD shp d ∧ okL shp es ∧ depL es ≤ 8 ∧ ∀ H', Ext H H' → Q (.bl (!es.any fun e => deq e d)) H'
section
variable {X : Cx} {k m : Nat} {shp : Addr → List Str → List Dt → Prop}
theorem op_eqO (T : EqTab X.prog X.w X.K X.mg X.base k shp) (hr : Room m X.A) (hm : k + 9 ≤ m) : OpR X (compareOp .Eq) (rEqO X.K shp) := by
  intro pins s σ H x y v u Q I rx ry hq
  obtain ⟨d, e, hd, he, od, oe, hn, q⟩ := hq
  show wpAny (model X.prog X.w) X.A (richCompare .Eq v u) (EP X pins σ Q) X.xe s
  refine wpAny_mono (LxE.rc_own T 8 d e x y v u X.A pins s H hn od oe hd he rx ry ⟨hr.mono (by omega), rfl⟩ I) (fun r s' z => ?_) fun _ _ x => x
  obtain ⟨hr', H', I', e'⟩ := z
  subst hr'
  exact ⟨.bl _, H', I', rfl, q H' e'⟩
theorem op_neO (T : EqTab X.prog X.w X.K X.mg X.base k shp) (N : ∀ C fs ds, shp C fs ds → LxE.NeFacts X.K C) (hr : Room m X.A) (hm : k + 9 ≤ m) : OpR X (compareOp .NotEq) (rNeO X.K shp) := by
  intro pins s σ H x y v u Q I rx ry hq
  obtain ⟨d, e, hd, he, od, oe, hn, hk, q⟩ := hq
  show wpAny (model X.prog X.w) X.A (richCompare .NotEq v u) (EP X pins σ Q) X.xe s
  refine wpAny_mono (LxE.rcn_own T N 8 d e x y v u X.A hn od oe hd he rx ry ⟨hr.mono (by omega), rfl⟩ I hk) (fun r s' z => ?_) fun _ _ x => x
  obtain ⟨hr', H', I', e'⟩ := z
  subst hr'
  exact ⟨.bl _, H', I', rfl, q H' e'⟩
theorem op_niO (T : EqTab X.prog X.w X.K X.mg X.base k shp) (hr : Room m X.A) (hm : k + 9 ≤ m) : OpR X (compareOp .NotIn) (rNiO X.K shp) := by
  intro pins s σ H x y v u Q I rx ry hq
  obtain ⟨d, es, hd, he, od, oe, hn, q⟩ := hq
  show wpAny (model X.prog X.w) X.A (do return .bool (!(← contains u v))) (EP X pins σ Q) X.xe s
  refine wpAny_bind (wpAny_mono (LxE.in_own T 8 d es x y v u X.A hn od oe hd he rx ry ⟨hr.mono (by omega), rfl⟩ I) (fun r s' z => ?_) fun _ _ x => x)
  obtain ⟨hr', H', I', e'⟩ := z
  subst hr'
  exact wpAny_pure ⟨.bl _, H', I', rfl, q H' e'⟩
end
end L2
namespace L2
open PySem PySem.Spec PyProof.Rows
def tyD : Dt → V
  | .non => .ty "NoneType" | .bl _ => .ty "bool" | .int _ => .ty "int" | .str _ => .ty "str" | .lst _ => .ty "list" | .tup _ => .ty "tuple" | .dic _ _ => .ty "dict" | .ins C _ _ => .ref C
def rTypeO (K : PySem.W.Frag) : List V → Hp → VK → Prop := fun xs H Q => ∃ x d, xs = [x] ∧ Is K H d x ∧ Q (tyD d) H
section
variable {X : Cx}
theorem call_typeO : CallR X (.type "type") (rTypeO X.K) := by
  intro pins s σ H xs us Q I r h
  obtain ⟨x, d, rfl, hd, q⟩ := h
  obtain ⟨u, rfl, rx⟩ := vals1 r
  by_cases h6 : LxE.kd d = 6
  · cases d <;> first | (exfalso; simp [LxE.kd] at h6; done) | skip
    rename_i C fs ds
    obtain ⟨a, dx, kvs, rfl, hs, _, _⟩ := hd
    cases (show u = _ from rx)
    obtain ⟨mA, O, _⟩ := ins_get I.hok hs
    obtain ⟨od, J, _⟩ := O.look
    exact PySem.W.kto_own J ⟨.ref C, H, I, rfl, q⟩
  · have fin : ∀ T, s.TypeIs u T → (Value.type T == Value.type "builtin_function_or_method") = false → tyD d = .ty T → wpAny (model X.prog X.w) X.A (call (.type "type") [u]) (EP X pins σ Q) X.xe s := fun T h1 h2 h3 => by
      rw [h3] at q
      exact call_type_of h1 h2 ⟨.ty T, H, I, rfl, q⟩
    cases d with
    | non => cases (show x = _ from hd); cases (show u = _ from rx); exact fin "NoneType" rfl (by decide +kernel) rfl
    | bl b => cases (show x = _ from hd); cases (show u = _ from rx); exact fin "bool" rfl (by decide +kernel) rfl
    | int i => cases (show x = _ from hd); obtain ⟨t, rfl⟩ := (show ∃ t, u = Value.int _ t from rx); exact fin "int" rfl (by decide +kernel) rfl
    | str i => cases (show x = _ from hd); obtain ⟨t, rfl⟩ := (show ∃ t, u = Value.str _ t from rx); exact fin "str" rfl (by decide +kernel) rfl
    | lst ds =>
      obtain ⟨a, xs, rfl, hs, _⟩ := hd
      cases (show u = _ from rx)
      obtain ⟨_, _, p, _⟩ := I.list hs
      exact fin "list" (LxE.ti_list p.isList) (by decide +kernel) rfl
    | tup ds =>
      obtain ⟨a, xs, rfl, hs, _⟩ := hd
      cases (show u = _ from rx)
      obtain ⟨_, _, p, _⟩ := I.tuple hs
      exact fin "tuple" (LxE.ti_tuple p) (by decide +kernel) rfl
    | dic ks ds =>
      obtain ⟨a, xs, rfl, hs, _⟩ := hd
      cases (show u = _ from rx)
      obtain ⟨_, _, va, _, o⟩ := (show ObjOk X.prog X.w H s.heap a (.dK xs) from I.hok a _ hs)
      exact fin "dict" o.typeIs (by decide +kernel) rfl
    | ins C fs ds => exact absurd rfl h6
/-- C is T: a class of the text, and any type -/
def rIsT (K : PySem.W.Frag) : R2 := fun x y H Q => ∃ C, x = V.ref C ∧ ((∃ T, y = V.ty T ∧ Q (.bl false) H) ∨ (∃ C', y = V.ref C' ∧ (C = C' ∨ (PySem.W.makesIn K C = true ∧ PySem.W.makesIn K C' = true)) ∧ Q (.bl (decide (C = C'))) H))
theorem op_is_ty : OpR X (compareOp .Is) (rIsT X.K) := by
  intro pins s σ H x y v u Q I rx ry h
  obtain ⟨C, rfl, ⟨T, rfl, q⟩ | ⟨C', rfl, hab, q⟩⟩ := h
  · cases (show v = _ from rx)
    cases (show u = _ from ry)
    show wpAny _ _ (do return Value.bool (← isSame (.ref C) (.type T))) _ _ _
    refine wpAny_bind (wpAny_of_eq (rfl : isSame (.ref C) (.type T) = pure false) ?_)
    exact wpAny_pure ⟨.bl false, H, I, rfl, q⟩
  · exact op_is_cls pins s σ H _ _ v u Q I rx ry ⟨C, C', rfl, rfl, hab, q⟩
end
def spX (C : Addr) (n : Nat) (fo : List V → List (Str × V)) : Sp := fun vs H Q _ => ∃ (H0 : Hp) (a : Addr) (ws : List V), vs = .ref a :: ws ∧ ws.length = n ∧ H0 a = none ∧ H = upd H0 a (exo a C none) ∧
  ∀ d, H0 d = none → d ≠ a → Q .non (upd (upd H0 d (exd d (fo ws))) a (exo a C (some d)))
theorem exo1 {H0 : Hp} {a d : Addr} {o o' e : HO} (hne : d ≠ a) : upd (upd (upd H0 a o) d e) a o' = upd (upd H0 d e) a o' := by
  funext b
  by_cases h1 : b = a
  · rw [h1, upd_same, upd_same]
  · rw [upd_ne h1, upd_ne h1]
    by_cases h2 : b = d
    · rw [h2, upd_same, upd_same]
    · rw [upd_ne h2, upd_ne h2, upd_ne h1]
theorem exo2 {H0 : Hp} {a d : Addr} {o' e e' : HO} (hne : d ≠ a) : upd (upd (upd H0 d e) a o') d e' = upd (upd H0 d e') a o' := by
  funext b
  by_cases h1 : b = d
  · rw [h1, upd_same, upd_ne hne, upd_same]
  · rw [upd_ne h1]
    by_cases h2 : b = a
    · rw [h2, upd_same, upd_same]
    · rw [upd_ne h2, upd_ne h2, upd_ne h1, upd_ne h1]
theorem exo3 {H0 : Hp} {a d : Addr} {o' e e' : HO} (ha : H0 a = none) (hne : d ≠ a) : upd (del (upd (upd H0 d e) a o') a) d e' = upd H0 d e' := by
  funext b
  by_cases h1 : b = d
  · rw [h1, upd_same, upd_same]
  · rw [upd_ne h1, upd_ne h1]
    by_cases h2 : b = a
    · rw [h2, del_same, ha]
    · rw [del_ne h2, upd_ne h2, upd_ne h1]
/-- what of the text an own exception class with an __init__ must have -/
structure XCls (K : PySem.W.Frag) (mg : Str → Option Value) (x : Str) (C fI : Addr) (fd : FuncData) (ps : List Str) : Prop where
  T : OexC K C
  m : mg x = some (.ref C)
  i : PySem.W.findIn K (.ref C) "__init__" = some (some (.ref fI))
  t : PySem.W.typeIn K (.ref fI) = some (.type "function")
  b : Binds K fd ps []
  isC : ExcC K C
  xf : XfC K C
/-- the reading of raise C(e, ..) behind its arguments -/
theorem rz_ok {C : Addr} {n : Nat} {fo : List V → List (Str × V)} {ws : List V} {H1 : Hp} {Q : XK} (hn : ws.length = n) (h10 : n ≤ 10) (k : ∀ d, H1 d = none → Q (.ref C) (some d) (upd H1 d (.xd (fo ws)))) :
    ws.length ≤ 1000 ∧ ∀ a, H1 a = none → spX C n fo (.ref a :: (ws ++ [])) (upd H1 a (exo a C none))
      (fun v H2 => v = .non ∧ ∃ (d : Addr) (fs : List (Str × V)), H2 a = some (exo a C (some d)) ∧ H2 d = some (exd d fs) ∧ H1 d = none ∧ Q (.ref C) (some d) (upd (del H2 a) d (.xd fs))) (fun _ _ _ => False) := by
  refine ⟨by omega, fun a ha => ⟨H1, a, ws, by rw [List.append_nil], hn, ha, rfl, fun d hd hne => ⟨rfl, d, fo ws, upd_same, ?_, hd, ?_⟩⟩⟩
  · rw [upd_ne hne, upd_same]
  · rw [exo3 ha hne]
    exact k d hd
section
variable {X : Cx} {x : Str} {C fI : Addr} {fd : FuncData} {ps : List Str} {k n : Nat} {fo : List V → List (Str × V)} {e : Expr} {es : List Expr} {ta : TA} {p pos pos2 : Pos} {W : WX}
/-- raise C(e, ..) -/
theorem ps_raiseX (T : XCls X.K X.mg x C fI fd ps) (F1 : FnOk X.prog X.w X.K X.mg X.base CX0 k fI fd ps (spX C n fo)) (hr : Room (k + 1) X.A) (hc : X.calm = true) (tk : Takes X W) (hg : Gl X x) (ha : PA X (e :: es) ta)
    (hdb : (x == ("__debug__" : Str)) = false := by decide) (he : starEach (e :: es) X.env = (false, eval e X.env) :: starEach es X.env := by rfl) (hpl : (backTo pos (starEach es X.env)).any (·.1) = false := by rfl) :
    PS X (.Raise (some (.Call (.Name x p) (e :: es) [] pos)) none pos2) (fun _ σ H => tMkO C (spX C n fo) [] ta σ H fun cls d H' => W cls d σ H') :=
  ps_raise hc tk (pmk_oex (k := k) (dvs := []) (ds := []) T.T T.i T.t F1 hr T.b .nil (fun _ _ _ _ _ _ _ h => h.elim) hg T.m ha hdb he hpl)
end
end L2
namespace L2
open PySem
theorem eqFacts_mk {K : PySem.W.Frag} {C : Addr} (a1 : PySem.W.notFirst K C (.type "NoneType") = true) (b1 : PySem.W.subIn K (.ref C) (.type "NoneType") = some false) (a2 : PySem.W.notFirst K C (.type "bool") = true) (b2 : PySem.W.subIn K (.ref C) (.type "bool") = some false)
    (a3 : PySem.W.notFirst K C (.type "int") = true) (b3 : PySem.W.subIn K (.ref C) (.type "int") = some false) (a4 : PySem.W.notFirst K C (.type "str") = true) (b4 : PySem.W.subIn K (.ref C) (.type "str") = some false)
    (a5 : PySem.W.notFirst K C (.type "list") = true) (b5 : PySem.W.subIn K (.ref C) (.type "list") = some false) (a6 : PySem.W.notFirst K C (.type "tuple") = true) (b6 : PySem.W.subIn K (.ref C) (.type "tuple") = some false)
    (a7 : PySem.W.notFirst K C (.type "dict") = true) (b7 : PySem.W.subIn K (.ref C) (.type "dict") = some false) : eqFacts K C = true := by
  unfold eqFacts tyNames
  simp only [List.all_cons, List.all_nil, a1, a2, a3, a4, a5, a6, a7, b1, b2, b3, b4, b5, b6, b7]
  rfl
end L2
namespace L2
open PySem
theorem kit_self {K : PySem.W.Frag} {C : Addr} : PySem.W.kitOne K (.ref C) (.ref C) = some true := by
  unfold PySem.W.kitOne
  rw [if_pos (by simp)]
theorem kit_two {K : PySem.W.Frag} {C E : Addr} {b : Bool} (hne : C ≠ E) (hd : PySem.W.hasDictIn K E = true) (ht : PySem.W.typeIn K (.ref E) = some (.type "type")) (h4 : PySem.W.subIn K (.ref C) (.ref E) = some b) : PySem.W.kitOne K (.ref C) (.ref E) = some b := by
  obtain ⟨cd, hc, _⟩ := PySem.W.any_some hd
  have e1 : (Value.ref C == Value.ref E) = false := beq_eq_false_iff_ne.mpr (fun e => hne (Value.ref.inj e))
  have e2 : ((PySem.W.clsIn K E).isSome && PySem.W.typeIn K (.ref E) == some (.type "type")) = true := by rw [hc, ht] <;> rfl
  unfold PySem.W.kitOne
  rw [if_neg (by rw [e1]; exact Bool.false_ne_true)]
  show (if ((PySem.W.clsIn K E).isSome && PySem.W.typeIn K (.ref E) == some (.type "type")) = true then PySem.W.subIn K (.ref C) (.ref E) else none) = some b
  rw [if_pos e2]
  exact h4
end L2
namespace L2
open PySem PySem.Spec PyProof.Rows
def WellAt (H : Hp) (w : Addr) : Prop := ∃ a b c : Int, H w = some (.lst [.int a, .int b, .int c])
/-- all but w is as it was -/
abbrev DE (w : Addr) (H H' : Hp) : Prop := Ext (del H w) (del H' w)
theorem del_ext {H : Hp} {w : Addr} : Ext (del H w) H := fun a o e => by
  by_cases h : a = w
  · rw [h, del_same] at e
    cases e
  · rw [del_ne h] at e
    exact e
theorem DE.of {w : Addr} {H H' : Hp} (e : Ext H H') : DE w H H' := fun a o h => by
  by_cases h1 : a = w
  · rw [h1, del_same] at h
    cases h
  · rw [del_ne h1] at h ⊢
    exact e a o h
theorem DE.rfl' {w : Addr} {H : Hp} : DE w H H := Ext.rfl'
theorem DE.upd {w : Addr} {H : Hp} {o : HO} : DE w H (upd H w o) := fun a o' h => by
  by_cases h1 : a = w
  · rw [h1, del_same] at h
    cases h
  · rw [del_ne h1] at h ⊢
    rw [upd_ne h1]
    exact h
theorem DE.to {w : Addr} {H H' : Hp} (e : DE w H H') {b : Addr} {o : HO} (h : H b = some o) (hb : b ≠ w) : H' b = some o := by
  have z := e b o (by rw [del_ne hb]; exact h)
  rw [del_ne hb] at z
  exact z
theorem WellAt.ext {H H' : Hp} {w : Addr} (h : WellAt H w) (e : Ext H H') : WellAt H' w := by
  obtain ⟨a, b, c, h⟩ := h
  exact ⟨a, b, c, e _ _ h⟩
theorem WellAt.at (a b c : Int) {H : Hp} {w : Addr} : WellAt (upd H w (.lst [.int a, .int b, .int c])) w := ⟨a, b, c, upd_same⟩
theorem WellAt.ne {H : Hp} {w p : Addr} (h : WellAt H w) (hp : H p = none) : p ≠ w := fun e => by
  obtain ⟨a, b, c, h⟩ := h
  rw [e, h] at hp
  cases hp
theorem DE.fresh {w : Addr} {H H' : Hp} (e : DE w H H') {p : Addr} (hw : WellAt H' w) (hp : H' p = none) : del H w p = none := by
  cases h : del H w p with
  | none => rfl
  | some o =>
    have z := e p o h
    rw [del_ne (hw.ne hp), hp] at z
    cases z
theorem DE.mut {w D : Addr} {H H' : Hp} {o : HO} (e : DE w H H') (h : del H w D = none) : DE w H (L2.upd H' D o) := fun a o' ha => by
  by_cases h1 : a = D
  · rw [h1, h] at ha
    cases ha
  · have z := e a o' ha
    by_cases h2 : a = w
    · rw [h2, del_same] at z
      cases z
    · rw [del_ne h2] at z ⊢
      rw [upd_ne h1]
      exact z
theorem Ext.mut {D : Addr} {H H' : Hp} {o : HO} (e : Ext H H') (h : H D = none) : Ext H (L2.upd H' D o) := fun a o' ha => by
  by_cases h1 : a = D
  · rw [h1, h] at ha
    cases ha
  · rw [upd_ne h1]
    exact e a o' ha
theorem Ext.fresh {H H' : Hp} (e : Ext H H') {p : Addr} (h : H' p = none) : H p = none := by
  cases q : H p with
  | none => rfl
  | some o =>
    rw [e p o q] at h
    cases h
theorem WellAt.upd {H : Hp} {w D : Addr} {o : HO} (h : WellAt H w) (hD : D ≠ w) : WellAt (L2.upd H D o) w := by
  obtain ⟨a, b, c, h⟩ := h
  exact ⟨a, b, c, by rw [upd_ne hD.symm]; exact h⟩
theorem at3a {x y z : V} : atI [x, y, z] 0 = some x := atI_nat (xs := [x, y, z]) (j := 0) rfl
theorem at3b {x y z : V} : atI [x, y, z] 1 = some y := atI_nat (xs := [x, y, z]) (j := 1) rfl
theorem at3c {x y z : V} : atI [x, y, z] 2 = some z := atI_nat (xs := [x, y, z]) (j := 2) rfl
theorem cpow18 : CPow 10 18 := ⟨by decide, by decide, by decide⟩
theorem fmod_bounds {a m : Int} (h : 0 < m) : 0 ≤ a.fmod m ∧ a.fmod m < m := by
  rw [Int.fmod_eq_emod_of_nonneg a (Int.le_of_lt h)]
  exact ⟨Int.emod_nonneg _ (by omega), Int.emod_lt_of_pos _ h⟩
end L2
namespace L2
theorem tyes {σ : St} {H : Hp} {A B : Hp → Prop} (h : A H) : tYes σ H (fun b H3 => if b = true then A H3 else B H3) := by
  show (if true = true then A H else B H)
  rw [if_pos rfl]
  exact h
end L2
namespace L2
open PySem PySem.Spec PyProof.Rows
def SqQ (K : PySem.W.Frag) (H : Hp) (a : Addr) (xs : List V) : Prop := SqL K H a xs ∨ SqT K H a xs
theorem SqQ.ext {K : PySem.W.Frag} {H H' : Hp} {a : Addr} {xs : List V} (h : SqQ K H a xs) (e : Ext H H') : SqQ K H' a xs := h.elim (fun h => .inl (h.ext e)) fun h => .inr (h.ext e)
def iSeq (K : PySem.W.Frag) (tl : TE) : TI := fun σ H R => tl σ H fun x H1 => ∃ a, x = .ref a ∧ (((∃ xs, SqL K H1 a xs) ∧ R (Itl K a) H1) ∨ ((∃ xs, SqT K H1 a xs) ∧ R (Itt K a) H1))
theorem pi_seq {X : Cx} {tg : Expr} {l : Expr} {tl : TE} (hl : PE X l tl) : PI X tg l (iSeq X.K tl) := by
  refine ⟨fun pins s σ H R I h => ?_⟩
  refine thn (hl.run pins s σ H _ I h) fun v s1 ⟨x, H1, I1, r1, q1⟩ => ?_
  obtain ⟨a, e, ⟨⟨xs, hq⟩, q⟩ | ⟨⟨xs, hq⟩, q⟩⟩ := q1
  · subst e
    cases r1
    obtain ⟨its, rv, p, hz⟩ := I1.list hq
    refine wpAny_pyIter_list p.isList ?_
    refine ⟨s1.heap.objs.size, [s1.heap.objs.size], _, _, H1, rfl, I1.kept (t' := s1.toks) fun b o e => Heap.get?_push_of_some _ e, turn_list a _, ⟨_, Heap.get?_push_size _ rfl, rfl, rfl⟩, fun b hb => ?_, q⟩
    have e : b = s1.heap.objs.size := by simpa using hb
    subst e
    exact I1.fpOk (Nat.le_refl _) (I1.hok.fresh (Nat.le_refl _))
  · subst e
    cases r1
    obtain ⟨its, rv, p, hz⟩ := I1.tuple hq
    refine wpAny_pyIter_tuple (show s1.heap.IsTuple a its.toArray from p) ?_
    refine ⟨s1.heap.objs.size, [s1.heap.objs.size], _, _, H1, rfl, I1.kept (t' := s1.toks) fun b o e => Heap.get?_push_of_some _ e, turn_tuple a _, ⟨_, Heap.get?_push_size _ rfl, rfl, rfl⟩, fun b hb => ?_, q⟩
    have e : b = s1.heap.objs.size := by simpa using hb
    subst e
    exact I1.fpOk (Nat.le_refl _) (I1.hok.fresh (Nat.le_refl _))
/-- the reading of for x in a, behind a: what stood at H0 stands -/
theorem for_seq {K : PySem.W.Frag} {a : Addr} {xs : List V} {g : TG} {tb : TS} {D : Ends} {σ : St} {H0 H : Hp} (hq : SqQ K H0 a xs) (Pv : Nat → St → Hp → Prop) (h0 : Pv 0 σ H) (he : ∀ i σ H, i ≤ xs.length → Pv i σ H → Ext H0 H)
    (hs : ∀ i x σ H, xs[i]? = some x → Pv i σ H → g x σ H fun σ2 H2 => tb { D with nx := Pv (i + 1), ct := Pv (i + 1), bk := D.nx } σ2 H2) (hd : ∀ σ H, Pv xs.length σ H → D.nx σ H) :
    ((∃ ys, SqL K H a ys) ∧ ∃ W : Nat → Nat → St → Hp → Prop, (∃ m, W 0 m σ H) ∧ ∀ i m σ H, W i m σ H →
      ((Itl K a).stop i H ∧ D.nx σ H) ∨ ((Itl K a).go i H ∧ ∃ N : St → Hp → Prop, (∀ σ' H', N σ' H' → ∃ m', m' < m ∧ W (i + 1) m' σ' H') ∧ ∀ x H', (Itl K a).yld i H x H' → g x σ H' fun σ2 H2 => tb { D with nx := N, ct := N, bk := D.nx } σ2 H2)) ∨
    ((∃ ys, SqT K H a ys) ∧ ∃ W : Nat → Nat → St → Hp → Prop, (∃ m, W 0 m σ H) ∧ ∀ i m σ H, W i m σ H →
      ((Itt K a).stop i H ∧ D.nx σ H) ∨ ((Itt K a).go i H ∧ ∃ N : St → Hp → Prop, (∀ σ' H', N σ' H' → ∃ m', m' < m ∧ W (i + 1) m' σ' H') ∧ ∀ x H', (Itt K a).yld i H x H' → g x σ H' fun σ2 H2 => tb { D with nx := N, ct := N, bk := D.nx } σ2 H2)) := by
  have e0 := he 0 σ H (Nat.zero_le _) h0
  rcases hq with hq | hq
  · exact .inl ⟨⟨xs, hq.ext e0⟩, for_list Pv h0 (fun i σ H hi p => hq.ext (he i σ H hi p)) hs hd⟩
  · exact .inr ⟨⟨xs, hq.ext e0⟩, for_tup Pv h0 (fun i σ H hi p => hq.ext (he i σ H hi p)) hs hd⟩
theorem lc_seq {K : PySem.W.Frag} {a : Addr} {xs : List V} {g : TG} {tt : TT} {te : TE} {vs : List Nat} {σ : St} {H0 H1 : Hp} {Q : Addr → Hp → Prop} (hq : SqQ K H0 a xs) (e1 : Ext H0 H1)
    (Pv : Addr → Nat → Hp → Prop) (h0 : ∀ D, H1 D = none → Pv D 0 (upd H1 D (.lst []))) (he : ∀ D i H, i ≤ xs.length → Pv D i H → Ext H0 H)
    (hs : ∀ D i x H, H1 D = none → xs[i]? = some x → Pv D i H → g x (wipe σ vs) H fun σ2 H2 => wipe σ2 vs = wipe σ vs ∧ tt σ2 H2 fun b H3 =>
      if b = true then te σ2 H3 fun y H4 => ∃ acc, H4 D = some (.lst acc) ∧ acc.length < sizeLine ∧ Pv D (i + 1) (upd H4 D (.lst (acc ++ [y]))) else Pv D (i + 1) H3) (hd : ∀ D H, H1 D = none → Pv D xs.length H → Q D H) :
    ((∃ ys, SqL K H1 a ys) ∧ ∀ D, H1 D = none → ∃ W : Nat → Nat → Hp → Prop, (∃ m, W 0 m (upd H1 D (.lst []))) ∧ ∀ i m H, W i m H →
      ((Itl K a).stop i H ∧ Q D H) ∨ ((Itl K a).go i H ∧ ∃ Nx : Hp → Prop, (∀ H', Nx H' → ∃ m', m' < m ∧ W (i + 1) m' H') ∧ ∀ x H', (Itl K a).yld i H x H' → g x (wipe σ vs) H' fun σ2 H2 => wipe σ2 vs = wipe σ vs ∧ tt σ2 H2 fun b H3 =>
        if b = true then te σ2 H3 fun y H4 => ∃ acc, H4 D = some (.lst acc) ∧ acc.length < sizeLine ∧ Nx (upd H4 D (.lst (acc ++ [y]))) else Nx H3)) ∨
    ((∃ ys, SqT K H1 a ys) ∧ ∀ D, H1 D = none → ∃ W : Nat → Nat → Hp → Prop, (∃ m, W 0 m (upd H1 D (.lst []))) ∧ ∀ i m H, W i m H →
      ((Itt K a).stop i H ∧ Q D H) ∨ ((Itt K a).go i H ∧ ∃ Nx : Hp → Prop, (∀ H', Nx H' → ∃ m', m' < m ∧ W (i + 1) m' H') ∧ ∀ x H', (Itt K a).yld i H x H' → g x (wipe σ vs) H' fun σ2 H2 => wipe σ2 vs = wipe σ vs ∧ tt σ2 H2 fun b H3 =>
        if b = true then te σ2 H3 fun y H4 => ∃ acc, H4 D = some (.lst acc) ∧ acc.length < sizeLine ∧ Nx (upd H4 D (.lst (acc ++ [y]))) else Nx H3)) := by
  rcases hq with hq | hq
  · exact .inl ⟨⟨xs, hq.ext e1⟩, fun D hD => lc_list (xs := xs) (Pv D) (h0 D hD) (fun i H hi p => hq.ext (he D i H hi p)) (fun i x H => hs D i x H hD) (fun H => hd D H hD)⟩
  · exact .inr ⟨⟨xs, hq.ext e1⟩, fun D hD => lc_tup (xs := xs) (Pv D) (h0 D hD) (fun i H hi p => hq.ext (he D i H hi p)) (fun i x H => hs D i x H hD) (fun H => hd D H hD)⟩
end L2
namespace L2
open PySem
/-- no own objects -/
theorem pureTab {P : Program} {w : World} {K : PySem.W.Frag} {mg : Str → Option Value} {base : Heap} : EqTab P w K mg base 0 (fun _ _ _ => False) := ⟨fun _ _ _ h => h.elim, fun _ _ _ _ _ _ h => h.elim⟩
theorem pureNe {K : PySem.W.Frag} : ∀ (C : Addr) (fs : List Str) (ds : List Dt), (fun (_ : Addr) (_ : List Str) (_ : List Dt) => False) C fs ds → LxE.NeFacts K C := fun _ _ _ h => h.elim
theorem pureL_ints : ∀ ns : List Int, pureL (ns.map Dt.int) = true
  | [] => rfl
  | _ :: r => by
    show (true && pureL (r.map Dt.int)) = true
    rw [pureL_ints r] <;> rfl
theorem depL_ints : ∀ ns : List Int, depL (ns.map Dt.int) = 0
  | [] => rfl
  | _ :: r => by
    show max 0 (depL (r.map Dt.int)) = 0
    rw [depL_ints r] <;> rfl
theorem deqL_ints : ∀ ns ms : List Int, deqL (ns.map Dt.int) (ms.map Dt.int) = decide (ns = ms)
  | [], [] => rfl
  | [], _ :: _ => rfl
  | _ :: _, [] => rfl
  | a :: r, b :: q => by
    show (a == b && deqL (r.map Dt.int) (q.map Dt.int)) = decide (a :: r = b :: q)
    rw [deqL_ints r q, Bool.eq_iff_iff]
    simp
end L2
namespace L2
open PySem PySem.Spec PyProof.Rows
/-- isinstance(e, c), e the exception that the suite holds -/
def rIsEX (K : PySem.W.Frag) (a : Addr) (cls : Value) (d : Option Addr) : List V → Hp → VK → Prop := fun xs H Q => ∃ (c : V) (cv : Value) (b : Bool) (D : Addr), xs = [.ref a, c] ∧ (∀ u, RelV c u → u = cv) ∧ cls = .ref D ∧ ExcC K D ∧ PySem.W.kitOne K (.ref D) cv = some b ∧
  (d = none ∨ ∃ dd fs, d = some dd ∧ H dd = some (.xd fs)) ∧ Q (.bl b) H
theorem call_isEX {X : Cx} {a : Addr} {cls : Value} {d : Option Addr} {oe : Obj} {pn : List (Addr × Obj)} (hz : Zc cls d oe) (hf : ∃ vs, oe.data = .fields vs) : CallR (X.suite a ((a, oe) :: pn)) (.builtin "isinstance") (rIsEX X.K a cls d) := by
  intro pins s σ H xs us Q I r h
  obtain ⟨c, cv, b, D, rfl, hcv, rfl, C, e, hd, q⟩ := h
  rcases hd with rfl | ⟨dd, fs, rfl, hd⟩
  · exact call_isE C hz hf pins s σ H _ us Q I r ⟨c, cv, b, rfl, hcv, e, q⟩
  · exact call_isED C hz hf pins s σ H _ us Q I r ⟨c, cv, b, fs, rfl, hcv, e, hd, q⟩
end L2
namespace LxC
open PySem PySem.Spec PyProof.Rows PyProof.V PySem.Calls L2 PySem.AutoSeq1
open Sem (wp)
theorem list_add_any (l : Addr) (items : Array Value) (n : Nat) (dd : Option Addr) (sl : Array (Option Value)) (b : Addr) (items2 : Array Value) (n2 : Nat) (dd2 : Option Addr) (sl2 : Array (Option Value)) (hc0 : items.size + items2.size ≤ sizeLine) :
    Meets (Builtin.«list.__add__» ⟨[.ref l, .ref b], []⟩) (fun _ R s => s.heap.get? l = some { cls := .type "list", dict := dd, data := .seq items n, slots := sl } ∧ s.heap.get? b = some { cls := .type "list", dict := dd2, data := .seq items2 n2, slots := sl2 } ∧ R (.ok (.ret (Value.ref s.heap.objs.size))) { s with heap := s.heap.push { cls := Value.type "list", data := Data.seq (items ++ items2) }, toks := s.toks }) :=
  .of_wp fun prog w A R s h => by obtain ⟨hp, g, d, tk, os⟩ := s; obtain ⟨hl, hb, h⟩ := h; have f1 := AutoSeq1.idx_int; have f2 := AutoSeq1.sub_tuple_tuple; have f3 := AutoSeq1.sub_list_list; have f4 := AutoSeq1.sub_tuple_list; have f5 := AutoSeq1.sub_list_tuple; wp_walk using wpAny_loadPart' hl, wpAny_loadPart' hb; exact ⟨_, rfl, h⟩
end LxC
namespace L2
open PySem PySem.Spec PyProof.Rows
/-- list + list, looked at -/
def rCatL (K : PySem.W.Frag) : R2 := fun x y H Q => ∃ l b xs zs, x = .ref l ∧ y = .ref b ∧ SqL K H l xs ∧ SqL K H b zs ∧ xs.length + zs.length ≤ sizeLine ∧ ∀ p, H p = none → Q (.ref p) (upd H p (.lst (xs ++ zs)))
theorem op_catL {X : Cx} : OpR X (binaryOp .Add) (rCatL X.K) := by
  intro pins s σ H x y v u Q I rx ry h
  obtain ⟨l, b, xs, zs, rfl, rfl, hH, hB, hz, q⟩ := h
  cases rx
  cases ry
  obtain ⟨its, r, p, z⟩ := I.list hH
  obtain ⟨its2, r2, p2, z2⟩ := I.list hB
  obtain ⟨n, dd, sl, e⟩ := LxE.isList_obj p.isList
  obtain ⟨n2, dd2, sl2, e2⟩ := LxE.isList_obj p2.isList
  have hl := r.length
  have hl2 := r2.length
  refine concat_meets ⟨_, e, rfl⟩ ⟨_, e2, rfl⟩ noFill_list_add seq_list_add PySem.F.slot_list_add PySem.F.entry_list_add (PySem.F.args_list_add_2 _ _) (LxC.list_add_any l its.toArray n dd sl b its2.toArray n2 dd2 sl2 (by rw [List.size_toArray, List.size_toArray]; omega)) ⟨e, e2, ?_⟩
  have ea : its.toArray ++ its2.toArray = (its ++ its2).toArray := by simp
  rw [ea]
  exact ⟨.ref _, _, I.lnew (t' := s.toks) (r.append r2) (by rw [List.length_append]; omega), rfl, q _ I.fresh⟩
end L2
namespace L2
open PySem PySem.Spec PyProof.Rows
theorem DE.base {p : Addr} {H H1 H2 : Hp} (e : Ext H H1) (h : H p = none) (d : DE p H1 H2) : Ext H H2 := fun a o ha => by
  have hne : a ≠ p := fun z => by rw [z, h] at ha; cases ha
  exact d.to (e a o ha) hne
/-- a comprehension over a list of ints: each item its own int -/
theorem lc_ints {K : PySem.W.Frag} {a : Addr} {ns : List Int} {g : TG} {te : TE} {vs : List Nat} {σ : St} {H1 : Hp} {Q : Addr → Hp → Prop} (f : Int → Int) (hq : SqL K H1 a (ns.map V.int)) (hz : ns.length < 2000)
    (hs : ∀ n ∈ ns, ∀ (H : Hp) (R : V → Hp → Prop), R (.int (f n)) H → g (.int n) (wipe σ vs) H fun σ2 H2 => wipe σ2 vs = wipe σ vs ∧ te σ2 H2 R)
    (hd : ∀ D H', H1 D = none → Ext H1 H' → H' D = some (.lst ((ns.map f).map V.int)) → Q D H') :
    (∃ ys, SqL K H1 a ys) ∧ ∀ D, H1 D = none → ∃ W : Nat → Nat → Hp → Prop, (∃ m, W 0 m (upd H1 D (.lst []))) ∧ ∀ i m H, W i m H →
      ((Itl K a).stop i H ∧ Q D H) ∨ ((Itl K a).go i H ∧ ∃ Nx : Hp → Prop, (∀ H', Nx H' → ∃ m', m' < m ∧ W (i + 1) m' H') ∧ ∀ x H', (Itl K a).yld i H x H' → g x (wipe σ vs) H' fun σ2 H2 => wipe σ2 vs = wipe σ vs ∧ tYes σ2 H2 fun b H3 =>
        if b = true then te σ2 H3 fun y H4 => ∃ acc, H4 D = some (.lst acc) ∧ acc.length < sizeLine ∧ Nx (upd H4 D (.lst (acc ++ [y]))) else Nx H3) := by
  refine ⟨⟨_, hq⟩, fun D hD => lc_list (xs := ns.map V.int) (fun i H' => Ext H1 H' ∧ H' D = some (.lst (((ns.take i).map f).map V.int))) ⟨Ext.upd hD, upd_same⟩ (fun i H' _ p => hq.ext p.1) ?_ ?_⟩
  · rintro i y H' hi ⟨e1, hD1⟩
    obtain ⟨n, hn, rfl⟩ : ∃ n, ns[i]? = some n ∧ y = V.int n := by
      rw [List.getElem?_map] at hi
      cases e : ns[i]? with
      | none => rw [e] at hi; cases hi
      | some n => rw [e] at hi; exact ⟨n, rfl, (Option.some.inj hi).symm⟩
    have hin : i < ns.length := (List.getElem?_eq_some_iff.mp hn).1
    refine hs n (List.mem_of_getElem? hn) H' _ ⟨_, hD1, ?_, e1.mut hD, ?_⟩
    · rw [List.length_map, List.length_map, List.length_take]
      exact Nat.lt_of_lt_of_le (show min i ns.length < 2000 by omega) (by decide)
    · rw [upd_same, List.take_add_one, hn, List.map_append, List.map_append]
      rfl
  · rintro H' ⟨e1, hD1⟩
    rw [List.length_map, List.take_length] at hD1
    exact hd D H' hD e1 hD1
theorem SqT.mut {K : PySem.W.Frag} {H : Hp} {t h : Addr} {xs l : List V} {o : HO} (s : SqT K H t xs) (hh : H h = some (.lst l)) : SqT K (upd H h o) t xs := by
  rcases s with (r | ⟨o', r⟩) | r
  · have hne : t ≠ h := fun e => by rw [e, hh] at r; cases r
    exact .inl (.inl (by rw [upd_ne hne]; exact r))
  · have hne : t ≠ h := fun e => by rw [e, hh] at r; cases r
    exact .inl (.inr ⟨o', by rw [upd_ne hne]; exact r⟩)
  · exact .inr r
end L2
namespace L2
open PySem PySem.Spec PyProof.Rows
end L2
namespace LxN
open PySem PySem.Spec PyProof.Rows
open Sem (wp)
theorem meets_enumT (l : Addr) (items : Array Value) (n : Nat) (dct : Option Addr) (sl : Array (Option Value)) :
    Meets (Builtin.«enumerate.__new__» ⟨[.type "enumerate", .ref l], []⟩) (fun _ R s => s.heap.get? l = some { cls := .type "tuple", dict := dct, data := .seq items n, slots := sl } ∧
      R (.ok (.ret (.ref (s.heap.push { cls := .type "tuple_iterator", data := .fields #[.ref l, .int 0 0] }).objs.size)))
        { s with heap := (s.heap.push { cls := .type "tuple_iterator", data := .fields #[.ref l, .int 0 0] }).push { cls := .type "enumerate", data := .fields #[.none, .bool false, .ref s.heap.objs.size, rawInt 0, .none, .none] } }) :=
  .of_wp fun prog w A R s h => by
    obtain ⟨hp, g, d, tk, os⟩ := s; obtain ⟨hl, h⟩ := h
    have hsub := PySem.sub_enumerate
    have hL : Heap.IsTuple (Shared.heap ⟨hp, g, d, tk, os⟩) l items := ⟨_, hl, rfl, n, rfl⟩
    wp_walk using AutoSeq1.wpAny_loadPart' hl
    refine wpAny_stack_any fun st => wpAny_pure ?_
    split
    · rename_i c _ _ _ _ _
      cases (c == Value.type "enumerate")
      · wp_walk using AutoSeq1.wpAny_loadPart' hl, wpAny_pyIter_tuple hL
        exact ⟨_, rfl, h⟩
      · wp_walk using AutoSeq1.wpAny_loadPart' hl, wpAny_pyIter_tuple hL
        exact ⟨_, rfl, h⟩
    · wp_walk using AutoSeq1.wpAny_loadPart' hl, wpAny_pyIter_tuple hL
      exact ⟨_, rfl, h⟩
section
variable {prog : Program} {w : World} {A : Around} {E : Value → Shared → Prop} {s : Shared}
theorem call_enumT {l : Addr} {items : Array Value} {Q : Value → Shared → Prop} (hL : s.heap.IsTuple l items)
    (h : ∀ h', IsEnum h' (s.heap.objs.size + 1) s.heap.objs.size 0 .none → h'.IsTupleIter s.heap.objs.size l 0 → h'.objs.size = s.heap.objs.size + 2 →
      (∀ b o, s.heap.get? b = some o → h'.get? b = some o) → Q (.ref (s.heap.objs.size + 1)) { s with heap := h' }) :
    wpAny (model prog w) A (call (.type "enumerate") [.ref l]) Q E s := by
  obtain ⟨⟨c, dct, dt, sl⟩, hl, hc, n, hd⟩ := hL
  cases (show c = .type "tuple" from hc)
  cases (show dt = .seq items n from hd)
  refine callType_new F.called_enumerate (by decide) (F.typeCall_enumerate_1 _) (F.newCall_enumerate_1 _) (fun obj => F.args_object_init_2 obj _) F.entry_enumerate_new (meets_enumT l items n dct sl) ⟨hl, ?_⟩
  have hz : (s.heap.push { cls := .type "tuple_iterator", data := .fields #[.ref l, .int 0 0] }).objs.size = s.heap.objs.size + 1 := Heap.size_push ..
  show _ ∧ _
  rw [hz]
  have he : IsEnum ((s.heap.push { cls := .type "tuple_iterator", data := .fields #[.ref l, .int 0 0] }).push
      { cls := .type "enumerate", data := .fields #[.none, .bool false, .ref s.heap.objs.size, rawInt 0, .none, .none] }) (s.heap.objs.size + 1) s.heap.objs.size 0 .none := by
    have z := Heap.get?_push_size (s.heap.push { cls := .type "tuple_iterator", data := .fields #[.ref l, .int 0 0] })
      (o := { cls := .type "enumerate", data := .fields #[.none, .bool false, .ref s.heap.objs.size, rawInt 0, .none, .none] }) rfl
    rw [hz] at z
    exact z
  refine ⟨⟨_, he, rfl⟩, h _ he ⟨_, Heap.get?_push_of_some _ (Heap.get?_push_size _ rfl), rfl, rfl⟩ (by rw [Heap.size_push, hz]) fun b o x => Heap.get?_push_of_some _ (Heap.get?_push_of_some _ x)⟩
end
end LxN
namespace L2
open PySem PySem.Spec PyProof.Rows
/-- the tuple at a as it stands at each turn, its items in new pairs -/
def IteT (K : PySem.W.Frag) (a : Addr) : It :=
  ⟨fun i H => ∃ (xs : List V) (x : V), SqT K H a xs ∧ xs[i]? = some x, fun i H v H' => ∃ T x, v = .ref T ∧ H T = none ∧ H' = upd H T (.tup [.int (i : Nat), x]) ∧ ∀ xs, SqT K H a xs → xs[i]? = some x, fun i H => ∃ xs : List V, SqT K H a xs ∧ xs.length = i⟩
theorem turn_enumT {P : Program} {w : World} {K : PySem.W.Frag} {elts : List Expr} {kk : Nat} {tpos : Pos} (a e it : Addr) :
    Turn P w K (.Tuple elts kk tpos) (IteT K a) [e, it] e (fun i h => (∃ old, IsEnum h e it ((i : Nat) : Int) old) ∧ h.IsTupleIter it a i ∧ e ≠ it ∧ e ≠ a ∧ a ≠ it) where
  mem := by simp
  obj := fun i h st b hb => by
    obtain ⟨⟨old, he⟩, ⟨o, ho, hc, hd⟩, _⟩ := st
    have e' : b = e ∨ b = it := by simpa using hb
    rcases e' with z | z
    · rw [z]; exact ⟨_, he, fun v q => nomatch q⟩
    · rw [z]; exact ⟨o, ho, fun v q => by rw [hd] at q; cases q⟩
  keep := fun i h h' st k => let ⟨⟨old, he⟩, hi, hne⟩ := st; ⟨⟨old, k e (by simp) _ he⟩, hi.at fun o q => k it (by simp) o q, hne⟩
  item := by
    intro X hP hw hK hc i pins s σ H E I hf st hg
    subst hP hw hK
    obtain ⟨⟨old, he⟩, hit, hne, hea, hai⟩ := st
    obtain ⟨xs, x, hq, hx⟩ := hg
    obtain ⟨its, rv, p, hz⟩ := I.tuple hq
    obtain ⟨u, hu, ru⟩ := rv.get hx
    have hel : e < s.heap.objs.size := Heap.lt_size he
    have hil : it < s.heap.objs.size := by obtain ⟨_, q, _⟩ := hit; exact Heap.lt_size q
    have hlt : i < its.toArray.size := by
      rw [List.size_toArray]
      exact (List.getElem?_eq_some_iff.mp hu).1
    refine wpAny_pyNext_enum_itemD (Draws.tuple (A := X.A.in1) (show X.A.in1.handled = none from I.ok.hd hc) it a hai its.toArray) he ⟨hit, p⟩ hlt hne (by simp [hne, hea]) fun y h' tk hy ho st' hT hsz hk => ?_
    have hyu : y = u := by
      have z : its[i]? = some y := by simpa using hy
      rw [hu] at z
      exact (Option.some.inj z).symm
    subst hyu
    refine ⟨_, rfl, wpAny_letOwnedTupleGo_enum (s := { s with heap := h', toks := tk + 1 }) ho fun h'' he' sb => ?_⟩
    have hT2 : h''.get? s.heap.objs.size = some { cls := .type "tuple", data := .seq #[.int i tk, y] } := (sb.2 _ (Nat.ne_of_gt hel)).trans hT
    have new : ObjOk X.prog X.w (upd H s.heap.objs.size (.tup [.int (i : Nat), x])) h'' s.heap.objs.size (.tup [.int (i : Nat), x]) :=
      ⟨by show 2 ≤ sizeLine; decide, [.int i tk, y], .cons ⟨_, rfl⟩ (.cons ru .nil), ⟨_, hT2, rfl, _, rfl⟩⟩
    have I1 : Inv X pins σ (upd H s.heap.objs.size (.tup [.int (i : Nat), x])) { s with heap := h'', toks := tk + 1 } :=
      I.turnedNew (ch := [e, it]) (fun b ob hb q => (sb.2 b (fun z => hb (by simp [z]))).trans (hk b ob (fun z => hb (by simp [z])) (fun z => hb (by simp [z])) q)) hf (Nat.le_refl _) new
    refine ⟨.ref s.heap.objs.size, _, I1, rfl, ⟨_, x, rfl, I.hok.fresh (Nat.le_refl _), rfl, fun ys hy => by rw [I.tuple_inj hy hq]; exact hx⟩, ⟨⟨y, ?_⟩, st'.1.at fun o q => (sb.2 it (Ne.symm hne)).trans q, hne, hea, hai⟩, fun b hb => ?_⟩
    · have e1 : ((i + 1 : Nat) : Int) = (i : Int) + 1 := by omega
      rw [e1]
      exact he'
    · have hb' : b < s.heap.objs.size := by
        have e' : b = e ∨ b = it := by simpa using hb
        rcases e' with z | z
        · rw [z]; exact hel
        · rw [z]; exact hil
      rw [upd_ne (Nat.ne_of_lt hb')]
      exact (hf b hb).1
  done := by
    intro X hP hw hK hc i pins s σ H E I hf st hg
    subst hP hw hK
    obtain ⟨⟨old, he⟩, hit, hne, hea, hai⟩ := st
    obtain ⟨xs, hq, hx⟩ := hg
    obtain ⟨its, rv, p, hz⟩ := I.tuple hq
    obtain ⟨f0, f1, f2, f3, f4, f5⟩ := hf it (by simp)
    have hl := rv.length
    have hi : its.toArray.size = i := by rw [List.size_toArray, ← hl, hx]
    refine wpAny_pyNext_enum_endD (Draws.tuple (A := X.A.in1) (show X.A.in1.handled = none from I.ok.hd hc) it a hai its.toArray) he ⟨by rw [hi]; exact hit, p⟩ fun h' eb => ⟨rfl, I.turned (t' := s.toks) (fun b o hb q => eb b o hb q) f0 f1 f3 f4 f5⟩
  self := fun A i s Q E st h => let ⟨⟨_, he⟩, _⟩ := st; wpAny_pyIter_enum he h
def iEnumQ (K : PySem.W.Frag) (ta : TA) : TI := fun σ H R => ta σ H fun vs H1 => ∃ a, vs = [.ref a] ∧ (((∃ xs, SqL K H1 a xs) ∧ R (Ite K a) H1) ∨ ((∃ xs, SqT K H1 a xs) ∧ R (IteT K a) H1))
theorem pi_enumQ {X : Cx} {e : Expr} {ta : TA} {p pos tpos : Pos} {elts : List Expr} {kk : Nat} (hg : Gl X "enumerate") (hm : X.mg "enumerate" = none) (ha : PA X [e] ta) (hs : starEach [e] X.env = [(false, eval e X.env)] := by rfl) :
    PI X (.Tuple elts kk tpos) (.Call (.Name "enumerate" p) [e] [] pos) (iEnumQ X.K ta) := by
  refine ⟨fun pins s σ H R I h => ?_⟩
  refine Call_ (ld_blt I hg hm boot_enumerate (PyProof.Rows.callWith_type1 (thn (ha.run pos pins s σ H _ I h) fun us s1 ⟨vs, H1, I1, r1, q1⟩ => ?_) hs rfl))
  obtain ⟨a, ex, q⟩ := q1
  subst ex
  cases r1 with
  | cons r rr =>
    cases rr
    cases r
    have hle : ∀ b ∈ [s1.heap.objs.size + 1, s1.heap.objs.size], s1.heap.objs.size ≤ b := fun b hb => by
      have e' : b = s1.heap.objs.size + 1 ∨ b = s1.heap.objs.size := by simpa using hb
      rcases e' with z | z
      · rw [z]; exact Nat.le_add_right _ _
      · rw [z]; exact Nat.le_refl _
    rcases q with ⟨⟨xs, hq⟩, q⟩ | ⟨⟨xs, hq⟩, q⟩
    · obtain ⟨its, rv, p', hz⟩ := I1.list hq
      refine call_enumerate_list p'.isList fun h' he hit hsz hk => wpAny_pyIter_enum he ?_
      have I2 : Inv X pins σ H1 { s1 with heap := h' } := I1.kept (t' := s1.toks) hk
      exact ⟨s1.heap.objs.size + 1, [s1.heap.objs.size + 1, s1.heap.objs.size], _, _, H1, rfl, I2, turn_enum a (s1.heap.objs.size + 1) s1.heap.objs.size, ⟨⟨.none, he⟩, hit, Nat.succ_ne_self _⟩, fun b hb => I1.fpOk (hle b hb) (I1.hok.fresh (hle b hb)), q⟩
    · obtain ⟨its, rv, p', hz⟩ := I1.tuple hq
      have hal : a < s1.heap.objs.size := by obtain ⟨_, z, _⟩ := id p'; exact Heap.lt_size z
      refine LxN.call_enumT (show s1.heap.IsTuple a its.toArray from p') fun h' he hit hsz hk => wpAny_pyIter_enum he ?_
      have I2 : Inv X pins σ H1 { s1 with heap := h' } := I1.kept (t' := s1.toks) hk
      exact ⟨s1.heap.objs.size + 1, [s1.heap.objs.size + 1, s1.heap.objs.size], _, _, H1, rfl, I2, turn_enumT a (s1.heap.objs.size + 1) s1.heap.objs.size, ⟨⟨.none, he⟩, hit, Nat.succ_ne_self _, Nat.ne_of_gt (Nat.lt_succ_of_lt hal), Nat.ne_of_lt hal⟩, fun b hb => I1.fpOk (hle b hb) (I1.hok.fresh (hle b hb)), q⟩
theorem for_enumQ {K : PySem.W.Frag} {a : Addr} {xs : List V} {g : TG} {tb : TS} {D : Ends} {σ : St} {H0 H : Hp} (hq : SqQ K H0 a xs) (Pv : Nat → St → Hp → Prop) (h0 : Pv 0 σ H) (he : ∀ i σ H, i ≤ xs.length → Pv i σ H → Ext H0 H)
    (hs : ∀ i x σ H T, xs[i]? = some x → Pv i σ H → H T = none → g (.ref T) σ (upd H T (.tup [.int (i : Nat), x])) fun σ2 H2 => tb { D with nx := Pv (i + 1), ct := Pv (i + 1), bk := D.nx } σ2 H2) (hd : ∀ σ H, Pv xs.length σ H → D.nx σ H) :
    ((∃ ys, SqL K H a ys) ∧ ∃ W : Nat → Nat → St → Hp → Prop, (∃ m, W 0 m σ H) ∧ ∀ i m σ H, W i m σ H →
      ((Ite K a).stop i H ∧ D.nx σ H) ∨ ((Ite K a).go i H ∧ ∃ N : St → Hp → Prop, (∀ σ' H', N σ' H' → ∃ m', m' < m ∧ W (i + 1) m' σ' H') ∧ ∀ x H', (Ite K a).yld i H x H' → g x σ H' fun σ2 H2 => tb { D with nx := N, ct := N, bk := D.nx } σ2 H2)) ∨
    ((∃ ys, SqT K H a ys) ∧ ∃ W : Nat → Nat → St → Hp → Prop, (∃ m, W 0 m σ H) ∧ ∀ i m σ H, W i m σ H →
      ((IteT K a).stop i H ∧ D.nx σ H) ∨ ((IteT K a).go i H ∧ ∃ N : St → Hp → Prop, (∀ σ' H', N σ' H' → ∃ m', m' < m ∧ W (i + 1) m' σ' H') ∧ ∀ x H', (IteT K a).yld i H x H' → g x σ H' fun σ2 H2 => tb { D with nx := N, ct := N, bk := D.nx } σ2 H2)) := by
  have e0 := he 0 σ H (Nat.zero_le _) h0
  rcases hq with hq | hq
  · refine .inl ⟨⟨xs, hq.ext e0⟩, fun i m σ H => m = xs.length - i ∧ i ≤ xs.length ∧ Pv i σ H, ⟨xs.length, by simp, Nat.zero_le _, h0⟩, ?_⟩
    rintro i m σ H ⟨rfl, hi, p⟩
    have q := hq.ext (he i σ H hi p)
    by_cases hlt : i < xs.length
    · refine .inr ⟨⟨xs, xs[i], q, by simp [hlt]⟩, Pv (i + 1), fun σ' H' p' => ⟨xs.length - (i + 1), by omega, rfl, hlt, p'⟩, fun x H' y => ?_⟩
      obtain ⟨T, z, rfl, hT, rfl, hz⟩ := y
      exact hs i z σ H T (hz xs q) p hT
    · have e : i = xs.length := by omega
      subst e
      exact .inl ⟨⟨xs, q, Nat.le_refl _⟩, hd σ H p⟩
  · refine .inr ⟨⟨xs, hq.ext e0⟩, fun i m σ H => m = xs.length - i ∧ i ≤ xs.length ∧ Pv i σ H, ⟨xs.length, by simp, Nat.zero_le _, h0⟩, ?_⟩
    rintro i m σ H ⟨rfl, hi, p⟩
    have q := hq.ext (he i σ H hi p)
    by_cases hlt : i < xs.length
    · refine .inr ⟨⟨xs, xs[i], q, by simp [hlt]⟩, Pv (i + 1), fun σ' H' p' => ⟨xs.length - (i + 1), by omega, rfl, hlt, p'⟩, fun x H' y => ?_⟩
      obtain ⟨T, z, rfl, hT, rfl, hz⟩ := y
      exact hs i z σ H T (hz xs q) p hT
    · have e : i = xs.length := by omega
      subst e
      exact .inl ⟨⟨xs, q, rfl⟩, hd σ H p⟩
end L2
namespace L2
open PySem PySem.Spec PyProof.Rows
/-- a op b op c op d, tested -/
def tChain3 (r r' r'' : R2) (ta tb tc td : TE) : TT := fun σ H Q => ta σ H fun x H1 => tb σ H1 fun y H2 => r x y H2 fun z H3 => ∃ k, z = .bl k ∧
  (if k = true then tc σ H3 fun y2 H4 => r' y y2 H4 fun z2 H5 => ∃ k2, z2 = .bl k2 ∧ (if k2 = true then td σ H5 fun y3 H6 => r'' y2 y3 H6 fun z3 H7 => ∃ k3, z3 = .bl k3 ∧ Q k3 H7 else Q false H5) else Q false H3)
theorem pt_chain3 {X : Cx} {a b c d : Expr} {ta tb tc td : TE} {pos : Pos} {op op' op'' : CmpOp} {r r' r'' : R2} (ho : OpR X (compareOp op) r) (ho' : OpR X (compareOp op') r') (ho'' : OpR X (compareOp op'') r'') (ha : PE X a ta) (hb : PE X b tb) (hc : PE X c tc) (hd : PE X d td)
    (hm : lastMarks [op, op', op''] [b, c, d] = false := by with_unfolding_all rfl) : PT X (.Compare a [op, op', op''] [b, c, d] pos) (tChain3 r r' r'' ta tb tc td) := by
  refine ⟨fun pins s σ H Q I h => ?_⟩
  refine isTrue_chain (thn (ha.run pins s σ H _ I h) fun v s1 ⟨x, H1, I1, r1, q1⟩ => test_link (thn (hb.run pins s1 σ H1 _ I1 q1) fun u s2 ⟨y, H2, I2, r2, q2⟩ =>
    thn (ho pins s2 σ H2 x y v u _ I2 r1 r2 q2) fun d1 s3 ⟨z, H3, I3, r3, k, e, q3⟩ => ?_)) hm
  subst e
  cases r3
  refine wpAny_truthy_bool ?_
  cases k with
  | false => exact ite_ff ⟨H3, I3, q3⟩
  | true =>
    refine ite_tt (test_link (thn (hc.run pins s3 σ H3 _ I3 q3) fun w' s4 ⟨y2, H4, I4, r4, q4⟩ => thn (ho' pins s4 σ H4 y y2 u w' _ I4 r2 r4 q4) fun d2 s5 ⟨z2, H5, I5, r5, k2, e2, q5⟩ => ?_))
    subst e2
    cases r5
    refine wpAny_truthy_bool ?_
    cases k2 with
    | false => exact ite_ff ⟨H5, I5, q5⟩
    | true =>
      refine ite_tt (test_last (thn (hd.run pins s5 σ H5 _ I5 q5) fun w3 s6 ⟨y3, H6, I6, r6, q6⟩ => thn (ho'' pins s6 σ H6 y2 y3 w' w3 _ I6 r4 r6 q6) fun d3 s7 ⟨z3, H7, I7, r7, k3, e3, q7⟩ => ?_))
      subst e3
      cases r7
      exact wpAny_truthy_bool ⟨H7, I7, q7⟩
end L2
namespace L2
open PySem PySem.Spec PyProof.Rows
def rangeI (n : Nat) : List Int := (List.range n).map fun i : Nat => (i : Int)
theorem rangeI_succ (n : Nat) : rangeI (n + 1) = rangeI n ++ [(n : Int)] := by
  unfold rangeI
  rw [List.range_succ, List.map_append]
  rfl
/-- a comprehension over range(n), with if -/
theorem lc_rangeF {n : Nat} {g : TG} {tt : TT} {te : TE} {vs : List Nat} {σ : St} {H1 : Hp} {Q : Addr → Hp → Prop} (p : Int → Bool) (f : Int → Int) (hz : n ≤ 1000)
    (hs : ∀ (i : Nat), i < n → ∀ (H : Hp), Ext H1 H → ∀ (R : V → Hp → Prop) (N : Hp → Prop), (if p i = true then R (.int (f i)) H else N H) → g (.int (0 + (i : Nat))) (wipe σ vs) H fun σ2 H2 => wipe σ2 vs = wipe σ vs ∧ tt σ2 H2 fun b H3 => if b = true then te σ2 H3 R else N H3)
    (hd : ∀ D H', H1 D = none → Ext H1 H' → H' D = some (.lst ((((rangeI n).filter p).map f).map V.int)) → Q D H') : ∀ D, H1 D = none → 
    ∃ W : Nat → Nat → Hp → Prop, (∃ m, W 0 m (upd H1 D (.lst []))) ∧ ∀ i m H, W i m H →
      ((Itr 0 n).stop i H ∧ Q D H) ∨ ((Itr 0 n).go i H ∧ ∃ Nx : Hp → Prop, (∀ H', Nx H' → ∃ m', m' < m ∧ W (i + 1) m' H') ∧ ∀ x H', (Itr 0 n).yld i H x H' → g x (wipe σ vs) H' fun σ2 H2 => wipe σ2 vs = wipe σ vs ∧ tt σ2 H2 fun b H3 =>
        if b = true then te σ2 H3 fun y H4 => ∃ acc, H4 D = some (.lst acc) ∧ acc.length < sizeLine ∧ Nx (upd H4 D (.lst (acc ++ [y]))) else Nx H3) := fun D hD => by
  refine lc_range (lo := 0) (n := n) (fun i H' => Ext H1 H' ∧ H' D = some (.lst ((((rangeI i).filter p).map f).map V.int))) ⟨Ext.upd hD, upd_same⟩ ?_ ?_
  · rintro i H' hi ⟨e1, hD1⟩
    have et : (rangeI (i + 1)).filter p = (rangeI i).filter p ++ (if p i = true then [(i : Int)] else []) := by
      rw [rangeI_succ, List.filter_append]
      congr 1
      rw [List.filter_cons]
      rfl
    refine hs i hi H' e1 _ _ ?_
    by_cases hp : p i = true
    · rw [if_pos hp] at et ⊢
      refine ⟨_, hD1, ?_, e1.mut hD, ?_⟩
      · rw [List.length_map, List.length_map]
        have h1 := List.length_filter_le p (rangeI i)
        have h2 : (rangeI i).length = i := by unfold rangeI; rw [List.length_map, List.length_range]
        exact Nat.lt_of_lt_of_le (show ((rangeI i).filter p).length < 2000 by omega) (by decide)
      · rw [upd_same, et, List.map_append, List.map_append]
        rfl
    · rw [if_neg hp] at et ⊢
      refine ⟨e1, ?_⟩
      rw [et, List.append_nil]
      exact hD1
  · rintro H' ⟨e1, hD1⟩
    exact hd D H' hD e1 hD1
end L2
namespace L2
open PySem PySem.Spec PyProof.Rows RZ
end L2
namespace L2
open PySem PySem.Spec PyProof.Rows
end L2
namespace L2
open PySem PySem.Spec PyProof.Rows
/-- o.f as a target among several -/
def gFld (K : PySem.W.Frag) (to : TE) (f : Str) : TG := fun v σ H Q => to σ H fun x H1 => ∃ a C dx fs, x = .ref a ∧ H1 a = some (.ins C dx fs) ∧ Cls K C ∧ NoAttr K C f ∧ fs.length < 1000 ∧ Q σ (upd H1 a (.ins C dx (putF f v fs)))
theorem pg_fld {X : Cx} {o : Expr} {f : Str} {pos : Pos} {to : TE} (ho : PE X o to) : PG X (.Attribute o f pos) (gFld X.K to f) := by
  refine ⟨fun pins s σ H v u Q I r h => ?_⟩
  rw [assign_Attribute]
  refine wpAny_bind (wpAny_holding (thn (ho.run pins s σ H _ I h) fun ov s1 ⟨x, H1, I1, rx, a, C, dx, fs, ex, ea, c, n, l, q⟩ => ?_))
  subst ex
  obtain rfl : ov = Value.ref a := rx
  refine wpAny_bind (wpAny_standAt (wpAny_bind (wpAny_holding (setattr_ok I1 ea c n l r fun s3 I3 => ?_))))
  exact wpAny_release ⟨σ, _, I3, q⟩
/-- // by any number but nought -/
def CDivZ (_ j : Int) : Prop := j ≠ 0 ∧ j.natAbs.log2 < 9000
theorem op_fdivZ {X : Cx} : OpR X (binaryOp .FloorDiv) (rI CDivZ fun i j => .int (i.fdiv j)) := opI fun _ _ _ _ _ _ _ hc q => floordiv_int hc.1 q (.inl (PyProof.noPylong_of_log2 hc.2))
theorem div_z {i j : Int} {b : Nat} (h : j ≠ 0) (hb : j.natAbs < 2 ^ b) (h0 : 0 < b) (h9 : b ≤ 9000) : CDivZ i j := ⟨h, Nat.lt_of_lt_of_le (PySem.Flt.log2_lt_of h0 hb) h9⟩
end L2
namespace Mx
def sk (j k : Nat) : Nat := if k < j then k else k + 1
def sg (j : Nat) : Int := if j % 2 = 0 then 1 else -1
def sm : Nat → (Nat → Int) → Int
  | 0, _ => 0
  | n + 1, f => sm n f + f n
def det : Nat → (Nat → Nat → Int) → Int
  | 0, _ => 1
  | n + 1, M => sm (n + 1) fun j => sg j * M 0 j * det n fun i k => M (i + 1) (sk j k)
theorem sg_succ (j : Nat) : sg (j + 1) = - sg j := by
  unfold sg
  split <;> split <;> first | rfl | omega
theorem sg_add (a b : Nat) : sg (a + b) = sg a * sg b := by
  unfold sg
  split <;> split <;> split <;> first | rfl | omega
theorem sg_even {a : Nat} (h : a % 2 = 0) : sg a = 1 := if_pos h
theorem sg_odd {a : Nat} (h : a % 2 = 1) : sg a = -1 := if_neg (by omega)
theorem sm_congr {n : Nat} {f g : Nat → Int} (h : ∀ j, j < n → f j = g j) : sm n f = sm n g := by
  induction n with
  | zero => rfl
  | succ n ih =>
    show sm n f + f n = sm n g + g n
    rw [ih fun j hj => h j (Nat.lt_succ_of_lt hj), h n (Nat.lt_succ_self n)]
theorem sm_add (n : Nat) (f g : Nat → Int) : sm n (fun j => f j + g j) = sm n f + sm n g := by
  induction n with
  | zero => rfl
  | succ n ih =>
    show sm n _ + (f n + g n) = (sm n f + f n) + (sm n g + g n)
    rw [ih]; omega
theorem sm_mul (n : Nat) (a : Int) (f : Nat → Int) : sm n (fun j => a * f j) = a * sm n f := by
  induction n with
  | zero => exact (Int.mul_zero a).symm
  | succ n ih =>
    show sm n _ + a * f n = a * (sm n f + f n)
    rw [ih, Int.mul_add]
theorem sm_neg (n : Nat) (f : Nat → Int) : sm n (fun j => - f j) = - sm n f := by
  induction n with
  | zero => rfl
  | succ n ih =>
    show sm n _ + - f n = - (sm n f + f n)
    rw [ih]; omega
theorem sm_zero {n : Nat} {f : Nat → Int} (h : ∀ j, j < n → f j = 0) : sm n f = 0 := by
  induction n with
  | zero => rfl
  | succ n ih =>
    show sm n f + f n = 0
    rw [ih fun j hj => h j (Nat.lt_succ_of_lt hj), h n (Nat.lt_succ_self n)]; rfl
theorem sm_one {n i : Nat} {f : Nat → Int} (hi : i < n) (h : ∀ j, j < n → j ≠ i → f j = 0) : sm n f = f i := by
  induction n with
  | zero => omega
  | succ n ih =>
    show sm n f + f n = f i
    by_cases e : i = n
    · subst e
      rw [sm_zero fun j hj => h j (by omega) (by omega)]; omega
    · rw [ih (by omega) fun j hj => h j (by omega), h n (by omega) (fun z => e z.symm)]; omega
theorem sm_comm (n m : Nat) (f : Nat → Nat → Int) : sm n (fun a => sm m fun b => f a b) = sm m (fun b => sm n fun a => f a b) := by
  induction n with
  | zero => exact (sm_zero fun _ _ => rfl).symm
  | succ n ih =>
    show sm n (fun a => sm m fun b => f a b) + sm m (fun b => f n b) = sm m (fun b => sm n (fun a => f a b) + f n b)
    rw [ih, sm_add]
theorem sm_sk {n a : Nat} (f : Nat → Int) (h : a ≤ n) : sm n (fun k => f (sk a k)) + f a = sm (n + 1) f := by
  induction n with
  | zero =>
    obtain rfl : a = 0 := by omega
    rfl
  | succ n ih =>
    by_cases e : a = n + 1
    · subst e
      show sm (n + 1) _ + f (n + 1) = sm (n + 1) f + f (n + 1)
      rw [sm_congr fun k hk => by rw [sk, if_pos hk]]
    · show (sm n (fun k => f (sk a k)) + f (sk a n)) + f a = sm (n + 1) f + f (n + 1)
      rw [← ih (by omega), sk, if_neg (by omega)]; omega
theorem sm_two {n c : Nat} (f : Nat → Int) (h : c + 1 < n) : sm n f = f c + f (c + 1) + sm n (fun j => if j = c ∨ j = c + 1 then 0 else f j) := by
  induction n with
  | zero => omega
  | succ n ih =>
    show sm n f + f n = f c + f (c + 1) + (sm n (fun j => if j = c ∨ j = c + 1 then 0 else f j) + if n = c ∨ n = c + 1 then 0 else f n)
    by_cases e : n = c + 1
    · subst e
      rw [if_pos (.inr rfl)]
      show (sm c f + f c) + f (c + 1) = f c + f (c + 1) + ((sm c (fun j => if j = c ∨ j = c + 1 then 0 else f j) + if c = c ∨ c = c + 1 then 0 else f c) + 0)
      rw [if_pos (.inl rfl), sm_congr (n := c) (f := fun j => if j = c ∨ j = c + 1 then 0 else f j) (g := f) fun j hj => if_neg (by omega)]
      omega
    · rw [ih (by omega), if_neg (by omega)]; omega
theorem det_congr {n : Nat} {M N : Nat → Nat → Int} (h : ∀ i k, i < n → k < n → M i k = N i k) : det n M = det n N := by
  induction n generalizing M N with
  | zero => rfl
  | succ n ih =>
    unfold det
    refine sm_congr fun j hj => ?_
    rw [h 0 j (by omega) hj, ih fun i k hi hk => h (i + 1) (sk j k) (by omega) (by unfold sk; split <;> omega)]
/-- the column c is v -/
def cr (M : Nat → Nat → Int) (c : Nat) (v : Nat → Int) : Nat → Nat → Int := fun i k => if k = c then v i else M i k
theorem cr_self (M : Nat → Nat → Int) (c : Nat) : cr M c (fun i => M i c) = M := by
  funext i k
  unfold cr
  split
  · rename_i h; rw [h]
  · rfl
theorem minor_cr_same (M : Nat → Nat → Int) (c : Nat) (v : Nat → Int) : (fun i k => cr M c v (i + 1) (sk c k)) = fun i k => M (i + 1) (sk c k) := by
  funext i k
  unfold cr
  rw [if_neg (by unfold sk; split <;> omega)]
theorem minor_cr_ne {j c : Nat} (M : Nat → Nat → Int) (v : Nat → Int) (h : j ≠ c) : (fun i k => cr M c v (i + 1) (sk j k)) = cr (fun i k => M (i + 1) (sk j k)) (if c < j then c else c - 1) (fun i => v (i + 1)) := by
  funext i k
  unfold cr
  by_cases e : sk j k = c
  · rw [if_pos e, if_pos (by unfold sk at e; split at e <;> split <;> omega)]
  · rw [if_neg e, if_neg (by unfold sk at e; split at e <;> split <;> omega)]
theorem det_lin {n c : Nat} (M : Nat → Nat → Int) (a b : Int) (u v : Nat → Int) (hc : c < n) : det n (cr M c fun i => a * u i + b * v i) = a * det n (cr M c u) + b * det n (cr M c v) := by
  induction n generalizing M c u v with
  | zero => omega
  | succ n ih =>
    unfold det
    rw [← sm_mul, ← sm_mul, ← sm_add]
    refine sm_congr fun j hj => ?_
    by_cases e : j = c
    · subst e
      rw [minor_cr_same, minor_cr_same, minor_cr_same]
      have h1 : ∀ w : Nat → Int, cr M j w 0 j = w 0 := fun w => if_pos rfl
      rw [h1, h1, h1]
      grind
    · rw [minor_cr_ne _ _ e, minor_cr_ne _ _ e, minor_cr_ne _ _ e]
      have h1 : ∀ w : Nat → Int, cr M c w 0 j = M 0 j := fun w => if_neg e
      rw [h1, h1, h1, ih _ _ _ (by split <;> omega)]
      grind
theorem det_scale {n c : Nat} (M : Nat → Nat → Int) (a : Int) (u : Nat → Int) (hc : c < n) : det n (cr M c fun i => a * u i) = a * det n (cr M c u) := by
  have z := det_lin M a 0 u u hc
  rw [Int.zero_mul, Int.add_zero] at z
  rw [← z]
  refine det_congr fun i k _ _ => ?_
  unfold cr
  split
  · show a * u i = a * u i + 0 * u i
    rw [Int.zero_mul, Int.add_zero]
  · rfl
theorem det_zero_col {n c : Nat} (M : Nat → Nat → Int) (hc : c < n) (h : ∀ i, i < n → M i c = 0) : det n M = 0 := by
  have z := det_scale M 0 (fun i => M i c) hc
  rw [Int.zero_mul] at z
  rw [← z]
  refine det_congr fun i k hi _ => ?_
  unfold cr
  split
  · rename_i e
    show M i k = 0 * M i c
    rw [e, h i hi, Int.mul_zero]
  · rfl
theorem det_sum {n c m : Nat} (M : Nat → Nat → Int) (a : Nat → Int) (u : Nat → Nat → Int) (hc : c < n) : det n (cr M c fun i => sm m fun l => a l * u l i) = sm m fun l => a l * det n (cr M c (u l)) := by
  induction m with
  | zero => exact det_zero_col _ hc fun i _ => by unfold cr; rw [if_pos rfl]; rfl
  | succ m ih =>
    show _ = sm m (fun l => a l * det n (cr M c (u l))) + a m * det n (cr M c (u m))
    rw [← ih]
    have z := det_lin M 1 (a m) (fun i => sm m fun l => a l * u l i) (u m) hc
    rw [Int.one_mul] at z
    rw [← z]
    refine det_congr fun i k _ _ => ?_
    unfold cr
    split
    · show sm m (fun l => a l * u l i) + a m * u m i = 1 * sm m (fun l => a l * u l i) + a m * u m i
      rw [Int.one_mul]
    · rfl
/-- two columns that stand side by side are exchanged -/
def cs (M : Nat → Nat → Int) (c : Nat) : Nat → Nat → Int := fun i k => M i (if k = c then c + 1 else if k = c + 1 then c else k)
theorem det_cs {n c : Nat} (M : Nat → Nat → Int) (hc : c + 1 < n) : det n (cs M c) = - det n M := by
  induction n generalizing M c with
  | zero => omega
  | succ n ih =>
    unfold det
    rw [sm_two _ hc, sm_two (fun j => sg j * M 0 j * det n fun i k => M (i + 1) (sk j k)) hc]
    have e1 : (fun i k => cs M c (i + 1) (sk c k)) = fun i k => M (i + 1) (sk (c + 1) k) := by
      funext i k
      unfold cs sk
      congr 1
      repeat' (first | omega | split)
    have e2 : (fun i k => cs M c (i + 1) (sk (c + 1) k)) = fun i k => M (i + 1) (sk c k) := by
      funext i k
      unfold cs sk
      congr 1
      repeat' (first | omega | split)
    have e3 : sm (n + 1) (fun j => if j = c ∨ j = c + 1 then 0 else sg j * cs M c 0 j * det n fun i k => cs M c (i + 1) (sk j k)) = - sm (n + 1) (fun j => if j = c ∨ j = c + 1 then 0 else sg j * M 0 j * det n fun i k => M (i + 1) (sk j k)) := by
      rw [← sm_neg]
      refine sm_congr fun j hj => ?_
      by_cases e : j = c ∨ j = c + 1
      · rw [if_pos e, if_pos e]; rfl
      · rw [if_neg e, if_neg e]
        have e4 : (fun i k => cs M c (i + 1) (sk j k)) = cs (fun i k => M (i + 1) (sk j k)) (if c < j then c else c - 1) := by
          funext i k
          unfold cs sk
          congr 1
          repeat' (first | omega | split)
        rw [e4, ih _ (by split <;> omega)]
        have e5 : cs M c 0 j = M 0 j := by
          unfold cs
          rw [if_neg (fun z => e (.inl z)), if_neg (fun z => e (.inr z))]
        rw [e5]
        grind
    rw [e3, e1, e2]
    have a1 : cs M c 0 c = M 0 (c + 1) := by unfold cs; rw [if_pos rfl]
    have a2 : cs M c 0 (c + 1) = M 0 c := by unfold cs; rw [if_neg (by omega), if_pos rfl]
    rw [a1, a2, sg_succ]
    grind
theorem det_eq_cols {n : Nat} : ∀ (d c : Nat) (M : Nat → Nat → Int), c + 1 + d < n → (∀ i, i < n → M i c = M i (c + 1 + d)) → det n M = 0 := by
  intro d
  induction d with
  | zero =>
    intro c M hc h
    have z := det_cs M (c := c) hc
    rw [show det n (cs M c) = det n M from det_congr fun i k hi _ => by
      unfold cs
      split
      · rename_i e; rw [e]; exact (h i hi).symm
      · split
        · rename_i e; rw [e]; exact h i hi
        · rfl] at z
    omega
  | succ d ih =>
    intro c M hc h
    have z := det_cs M (c := c + 1 + d) hc
    rw [ih c (cs M (c + 1 + d)) (by omega) (fun i hi => by
      unfold cs
      rw [if_neg (by omega), if_neg (by omega), if_pos rfl]
      exact h i hi)] at z
    omega
theorem det_cols {n c d : Nat} {M : Nat → Nat → Int} (hc : c < n) (hd : d < n) (hn : c ≠ d) (h : ∀ i, i < n → M i c = M i d) : det n M = 0 := by
  by_cases e : c < d
  · exact det_eq_cols (d - (c + 1)) c M (by omega) (fun i hi => by rw [h i hi]; congr 1; omega)
  · exact det_eq_cols (c - (d + 1)) d M (by omega) (fun i hi => by rw [← h i hi]; congr 1; omega)
theorem cr_comm {c d : Nat} (M : Nat → Nat → Int) (u v : Nat → Int) (h : c ≠ d) : cr (cr M c u) d v = cr (cr M d v) c u := by
  funext i k
  unfold cr
  split <;> split <;> first | rfl | omega
theorem det_swap {n c d : Nat} (M : Nat → Nat → Int) (u v : Nat → Int) (hc : c < n) (hd : d < n) (hn : c ≠ d) : det n (cr (cr M c u) d v) = - det n (cr (cr M c v) d u) := by
  have same : ∀ w : Nat → Int, det n (cr (cr M c w) d w) = 0 := fun w => det_cols hc hd hn fun i _ => by
    unfold cr
    rw [if_neg hn, if_pos rfl, if_pos rfl]
  have z := same fun i => 1 * u i + 1 * v i
  rw [det_lin _ 1 1 u v hd, cr_comm _ _ _ hn, cr_comm _ _ _ hn, det_lin _ 1 1 u v hc, det_lin _ 1 1 u v hc, ← cr_comm _ _ _ hn, ← cr_comm _ _ _ hn, ← cr_comm _ _ _ hn, ← cr_comm _ _ _ hn, same u, same v] at z
  omega
/-- but for one number the last column is nought -/
theorem det_last : ∀ {n r : Nat} (M : Nat → Nat → Int), r ≤ n → (∀ i, i ≤ n → i ≠ r → M i n = 0) → det (n + 1) M = sg (n + r) * M r n * det n (fun i k => M (sk r i) k) := by
  intro n
  induction n with
  | zero =>
    intro r M hr h
    obtain rfl : r = 0 := by omega
    show 0 + sg 0 * M 0 0 * 1 = sg 0 * M 0 0 * 1
    omega
  | succ n ih =>
    intro r M hr h
    cases r with
    | zero =>
      show sm (n + 1) _ + _ = _
      rw [sm_zero fun j hj => ?_]
      · rw [Int.zero_add, Nat.add_zero]
        show sg (n + 1) * M 0 (n + 1) * det (n + 1) (fun i k => M (i + 1) (sk (n + 1) k)) = _
        rw [det_congr (n := n + 1) (N := fun i k => M (sk 0 i) k) fun i k hi hk => ?_]
        show M (i + 1) (sk (n + 1) k) = M (sk 0 i) k
        unfold sk
        rw [if_pos hk, if_neg (by omega)]
      · show sg j * M 0 j * det (n + 1) (fun i k => M (i + 1) (sk j k)) = 0
        rw [det_zero_col (c := n) _ (by omega) fun i hi => ?_, Int.mul_zero]
        show M (i + 1) (sk j n) = 0
        unfold sk
        rw [if_neg (by omega)]
        exact h (i + 1) (by omega) (by omega)
    | succ r =>
      show sm (n + 1) _ + sg (n + 1) * M 0 (n + 1) * _ = _
      rw [h 0 (by omega) (by omega), Int.mul_zero, Int.zero_mul, Int.add_zero]
      show sm (n + 1) _ = sg (n + 1 + (r + 1)) * M (r + 1) (n + 1) * (sm (n + 1) fun j => sg j * M (sk (r + 1) 0) j * det n fun i k => M (sk (r + 1) (i + 1)) (sk j k))
      rw [← sm_mul]
      refine sm_congr fun j hj => ?_
      rw [ih (r := r) (fun i k => M (i + 1) (sk j k)) (by omega) (fun i hi hne => by
        show M (i + 1) (sk j n) = 0
        unfold sk
        rw [if_neg (by omega)]
        exact h (i + 1) (by omega) (by omega))]
      have e1 : sk j n = n + 1 := by unfold sk; rw [if_neg (by omega)]
      have e2 : sk (r + 1) 0 = 0 := by unfold sk; rw [if_pos (by omega)]
      have e3 : ∀ i, sk (r + 1) (i + 1) = sk r i + 1 := fun i => by unfold sk; split <;> split <;> omega
      have e4 : sg (n + 1 + (r + 1)) = sg (n + r) := by rw [show n + 1 + (r + 1) = n + r + 1 + 1 by omega, sg_succ, sg_succ]; omega
      rw [e1, e2, e4]
      rw [show (fun i k => M (sk (r + 1) (i + 1)) (sk j k)) = fun i k => M (sk r i + 1) (sk j k) by funext i k; rw [e3]]
      grind
end Mx
namespace Mx
/-- the row r is u -/
def rr (M : Nat → Nat → Int) (r : Nat) (u : Nat → Int) : Nat → Nat → Int := fun i k => if i = r then u k else M i k
theorem det_rneg : ∀ {n r : Nat} (M : Nat → Nat → Int), r < n → det n (rr M r fun k => - M r k) = - det n M := by
  intro n
  induction n with
  | zero => intro r M h; omega
  | succ n ih =>
    intro r M h
    unfold det
    rw [← sm_neg]
    refine sm_congr fun j hj => ?_
    cases r with
    | zero =>
      rw [show (fun i k => rr M 0 (fun k => - M 0 k) (i + 1) (sk j k)) = fun i k => M (i + 1) (sk j k) from rfl, show rr M 0 (fun k => - M 0 k) 0 j = - M 0 j from rfl]
      grind
    | succ r =>
      have e : (fun i k => rr M (r + 1) (fun k => - M (r + 1) k) (i + 1) (sk j k)) = rr (fun i k => M (i + 1) (sk j k)) r (fun k => - (fun i k => M (i + 1) (sk j k)) r k) := by
        funext i k
        unfold rr
        by_cases h : i = r
        · rw [if_pos (by omega), if_pos h]
        · rw [if_neg (by omega), if_neg h]
      rw [e, ih _ (by omega), show rr M (r + 1) (fun k => - M (r + 1) k) 0 j = M 0 j from rfl]
      grind
/-- two rows are exchanged -/
def tr (a b i : Nat) : Nat := if i = a then b else if i = b then a else i
def un (a b : Nat) : Nat := if b < a then b else b - 1
theorem sk_un {a b : Nat} (h : b ≠ a) : sk a (un a b) = b := by unfold sk un; repeat' (first | omega | split)
theorem un_sk (a k : Nat) : un a (sk a k) = k := by unfold sk un; repeat' (first | omega | split)
theorem sk_ne (a k : Nat) : sk a k ≠ a := by unfold sk; split <;> omega
theorem sk_sk {a b : Nat} (h : a ≠ b) (l : Nat) : sk a (sk (un a b) l) = sk b (sk (un b a) l) := by
  unfold sk un
  repeat' (first | omega | split)
theorem sg_un {a b : Nat} (h : a ≠ b) : sg b * sg (un b a) = - (sg a * sg (un a b)) := by
  by_cases g : a < b
  · rw [show un b a = a by unfold un; rw [if_pos g], show un a b = b - 1 by unfold un; rw [if_neg (by omega)]]
    obtain ⟨c, rfl⟩ : ∃ c, b = c + 1 := ⟨b - 1, by omega⟩
    rw [sg_succ, Nat.add_sub_cancel]
    grind
  · rw [show un a b = b by unfold un; rw [if_pos (by omega)], show un b a = a - 1 by unfold un; rw [if_neg (by omega)]]
    obtain ⟨c, rfl⟩ : ∃ c, a = c + 1 := ⟨a - 1, by omega⟩
    rw [sg_succ, Nat.add_sub_cancel]
    grind
theorem det_two (n : Nat) (M : Nat → Nat → Int) : det (n + 2) M = sm (n + 2) fun a => sm (n + 2) fun b => if b = a then 0 else sg a * sg (un a b) * (M 0 a * M 1 b * det n fun i l => M (i + 2) (sk a (sk (un a b) l))) := by
  show sm (n + 2) (fun j => sg j * M 0 j * det (n + 1) fun i k => M (i + 1) (sk j k)) = _
  refine sm_congr fun a ha => ?_
  rw [show det (n + 1) (fun i k => M (i + 1) (sk a k)) = sm (n + 1) fun k => sg k * M 1 (sk a k) * det n fun i l => M (i + 2) (sk a (sk k l)) from rfl, ← sm_mul]
  rw [← sm_sk _ (show a ≤ n + 1 by omega), if_pos rfl, Int.add_zero]
  refine sm_congr fun k hk => ?_
  rw [if_neg (sk_ne a k), un_sk]
  grind
theorem det_r01 (n : Nat) (M : Nat → Nat → Int) : det (n + 2) (fun i k => M (tr 0 1 i) k) = - det (n + 2) M := by
  rw [det_two, det_two, sm_comm, ← sm_neg]
  refine sm_congr fun a _ => ?_
  rw [← sm_neg]
  refine sm_congr fun b _ => ?_
  by_cases h : a = b
  · rw [if_pos h, if_pos h.symm]; rfl
  · rw [if_neg h, if_neg (fun z => h z.symm)]
    rw [show (fun i l => M (tr 0 1 (i + 2)) (sk b (sk (un b a) l))) = fun i l => M (i + 2) (sk a (sk (un a b) l)) from by
      funext i l
      rw [sk_sk h, show tr 0 1 (i + 2) = i + 2 from by unfold tr; rw [if_neg (by omega), if_neg (by omega)]]]
    rw [show M (tr 0 1 0) b = M 1 b from rfl, show M (tr 0 1 1) a = M 0 a from rfl, sg_un h]
    grind
theorem det_radj : ∀ {n r : Nat} (M : Nat → Nat → Int), r + 1 < n → det n (fun i k => M (tr r (r + 1) i) k) = - det n M := by
  intro n
  induction n with
  | zero => intro r M h; omega
  | succ n ih =>
    intro r M h
    cases r with
    | zero =>
      obtain ⟨m, rfl⟩ : ∃ m, n = m + 1 := ⟨n - 1, by omega⟩
      exact det_r01 m M
    | succ r =>
      unfold det
      rw [← sm_neg]
      refine sm_congr fun j hj => ?_
      have e : (fun i k => M (tr (r + 1) (r + 1 + 1) (i + 1)) (sk j k)) = fun i k => (fun i k => M (i + 1) (sk j k)) (tr r (r + 1) i) k := by
        funext i k
        show M _ _ = M (tr r (r + 1) i + 1) (sk j k)
        congr 1
        unfold tr
        repeat' (first | omega | split)
      show sg j * M (tr (r + 1) (r + 1 + 1) 0) j * det n (fun i k => M (tr (r + 1) (r + 1 + 1) (i + 1)) (sk j k)) = _
      rw [e, ih (r := r) (fun i k => M (i + 1) (sk j k)) (by omega), show tr (r + 1) (r + 1 + 1) 0 = 0 from by unfold tr; rw [if_neg (by omega), if_neg (by omega)]]
      grind
theorem det_rdist : ∀ (d : Nat) {n r : Nat} (M : Nat → Nat → Int), r + 1 + d < n → det n (fun i k => M (tr r (r + 1 + d) i) k) = - det n M := by
  intro d
  induction d with
  | zero => intro n r M h; exact det_radj M h
  | succ d ih =>
    intro n r M h
    have h1 := det_radj (n := n) (r := r + 1 + d) (fun i k => M (tr r (r + 1 + d) (tr (r + 1 + d) (r + 1 + d + 1) i)) k) (by omega)
    have h2 := ih (n := n) (r := r) (fun i k => M (tr (r + 1 + d) (r + 1 + d + 1) i) k) (by omega)
    have h3 := det_radj (n := n) (r := r + 1 + d) M (by omega)
    have e : (fun i k => M (tr r (r + 1 + (d + 1)) i) k) = fun i k => M (tr (r + 1 + d) (r + 1 + d + 1) (tr r (r + 1 + d) (tr (r + 1 + d) (r + 1 + d + 1) i))) k := by
      funext i k
      congr 1
      unfold tr
      repeat' (first | omega | split)
    rw [e]
    have h4 := det_radj (n := n) (r := r + 1 + d) (fun i k => M (tr (r + 1 + d) (r + 1 + d + 1) (tr r (r + 1 + d) i)) k) (by omega)
    rw [h4]
    have h5 := ih (n := n) (r := r) (fun i k => M (tr (r + 1 + d) (r + 1 + d + 1) i) k) (by omega)
    rw [h5, h3]
    omega
theorem det_rows {n a b : Nat} (M : Nat → Nat → Int) (ha : a < n) (hb : b < n) (h : a ≠ b) : det n (fun i k => M (tr a b i) k) = - det n M := by
  by_cases g : a < b
  · obtain ⟨d, rfl⟩ : ∃ d, b = a + 1 + d := ⟨b - (a + 1), by omega⟩
    exact det_rdist d M hb
  · obtain ⟨d, rfl⟩ : ∃ d, a = b + 1 + d := ⟨a - (b + 1), by omega⟩
    rw [← det_rdist d M ha]
    refine det_congr fun i k _ _ => ?_
    congr 1
    unfold tr
    repeat' (first | omega | split)
/-- two rows are exchanged, one of them turns its signs -/
def sx (M : Nat → Nat → Int) (a b : Nat) : Nat → Nat → Int := fun i k => if i = a then M b k else if i = b then - M a k else M i k
theorem det_sx {n a b : Nat} (M : Nat → Nat → Int) (ha : a < n) (hb : b < n) (h : a ≠ b) : det n (sx M a b) = det n M := by
  have e : sx M a b = rr (fun i k => M (tr a b i) k) b fun k => - (fun i k => M (tr a b i) k) b k := by
    funext i k
    unfold sx rr tr
    repeat' (first | omega | split)
    all_goals (try rfl)
    all_goals (subst_vars; try (first | rfl | omega))
    all_goals simp_all
  rw [e, det_rneg _ hb, det_rows M ha hb h]
  omega
end Mx
namespace Mx
structure Inv (n k : Nat) (c : Nat → Nat) (s : Int) (A R : Nat → Nat → Int) : Prop where
  s0 : s ≠ 0
  kn : k ≤ n
  dt : s = det k fun i l => A i (c l)
  up : ∀ r, r < k → ∀ j, s * A r j = sm k fun l => A r (c l) * R l j
  dn : ∀ r, k ≤ r → r < n → ∀ j, R r j = s * A r j - sm k fun l => A r (c l) * R l j
  kr : ∀ l m, l < k → m < k → R l (c m) = if l = m then s else 0
theorem Inv.zero {n k : Nat} {c : Nat → Nat} {s : Int} {A R : Nat → Nat → Int} (I : Inv n k c s A R) {r m : Nat} (h1 : k ≤ r) (h2 : r < n) (hm : m < k) : R r (c m) = 0 := by
  rw [I.dn r h1 h2, sm_one hm fun l hl hne => by rw [I.kr l m hl hm, if_neg hne, Int.mul_zero], I.kr m m hm hm, if_pos rfl, Int.mul_comm]
  omega
theorem Inv.start (n : Nat) (c : Nat → Nat) (A : Nat → Nat → Int) : Inv n 0 c 1 A A where
  s0 := by decide
  kn := Nat.zero_le _
  dt := rfl
  up := fun r h => by omega
  dn := fun r _ _ j => by show A r j = 1 * A r j - 0; omega
  kr := fun l m h => by omega
theorem Inv.congr {n k : Nat} {c : Nat → Nat} {s : Int} {A R S : Nat → Nat → Int} (I : Inv n k c s A R) (h : ∀ i, i < n → ∀ j, S i j = R i j) : Inv n k c s A S where
  s0 := I.s0
  kn := I.kn
  dt := I.dt
  up := fun r hr j => by rw [I.up r hr j]; exact sm_congr fun l hl => by rw [h l (Nat.lt_of_lt_of_le hl I.kn)]
  dn := fun r h1 h2 j => by rw [h r h2, I.dn r h1 h2]; congr 1; exact sm_congr fun l hl => by rw [h l (Nat.lt_of_lt_of_le hl I.kn)]
  kr := fun l m hl hm => by rw [h l (Nat.lt_of_lt_of_le hl I.kn)]; exact I.kr l m hl hm
theorem Inv.congrC {n k : Nat} {c d : Nat → Nat} {s : Int} {A R : Nat → Nat → Int} (I : Inv n k c s A R) (h : ∀ l, l < k → d l = c l) : Inv n k d s A R where
  s0 := I.s0
  kn := I.kn
  dt := by rw [I.dt]; exact det_congr fun i l _ hl => by rw [h l hl]
  up := fun r hr j => by rw [I.up r hr j]; exact sm_congr fun l hl => by rw [h l hl]
  dn := fun r h1 h2 j => by rw [I.dn r h1 h2]; congr 1; exact sm_congr fun l hl => by rw [h l hl]
  kr := fun l m hl hm => by rw [h m hm]; exact I.kr l m hl hm
theorem Inv.swap {n k a b : Nat} {c : Nat → Nat} {s : Int} {A R : Nat → Nat → Int} (I : Inv n k c s A R) (ha : k ≤ a) (hb : k ≤ b) (ha2 : a < n) (hb2 : b < n) : Inv n k c s (sx A a b) (sx R a b) := by
  have lo : ∀ (M : Nat → Nat → Int) (r j : Nat), r < k → sx M a b r j = M r j := fun M r j h => by unfold sx; rw [if_neg (by omega), if_neg (by omega)]
  refine ⟨I.s0, I.kn, ?_, fun r h j => ?_, fun r h1 h2 j => ?_, fun l m hl hm => ?_⟩
  · rw [I.dt]
    exact det_congr fun i l hi hl => (lo A i _ hi).symm
  · rw [lo A r _ h, I.up r h]
    exact sm_congr fun l hl => by rw [lo A r _ h, lo R l _ hl]
  · have e : sm k (fun l => sx A a b r (c l) * sx R a b l j) = sm k (fun l => sx A a b r (c l) * R l j) := sm_congr fun l hl => by rw [lo R l _ hl]
    rw [e]
    unfold sx
    by_cases e1 : r = a
    · simp only [if_pos e1]
      exact I.dn b hb hb2 j
    · by_cases e2 : r = b
      · simp only [if_neg e1, if_pos e2]
        rw [I.dn a ha ha2 j, show sm k (fun l => - A a (c l) * R l j) = - sm k (fun l => A a (c l) * R l j) from by
          rw [← sm_neg]
          exact sm_congr fun l _ => Int.neg_mul _ _]
        grind
      · simp only [if_neg e1, if_neg e2]
        exact I.dn r h1 h2 j
  · rw [lo R l _ hl]
    exact I.kr l m hl hm
/-- a column that is made of the columns ahead and a rest -/
theorem det_comb {m k p : Nat} (X : Nat → Nat → Int) (a : Nat → Int) (rest : Nat → Int) (hp : p < m) (hk : k ≤ p) : det m (cr X p fun r => sm k (fun l => a l * X r l) + rest r) = det m (cr X p rest) := by
  have z := det_lin X 1 1 (fun r => sm k fun l => a l * X r l) rest hp
  have e : (cr X p fun i => 1 * sm k (fun l => a l * X i l) + 1 * rest i) = cr X p fun r => sm k (fun l => a l * X r l) + rest r := by
    funext i j
    unfold cr
    try dsimp only
    split
    · rw [Int.one_mul, Int.one_mul]
    · rfl
  rw [e, det_sum X a (fun l r => X r l) hp, sm_zero fun l hl => by
    rw [det_cols (c := p) (d := l) hp (by omega) (by omega) fun i _ => by
      unfold cr
      try dsimp only
      rw [if_pos rfl, if_neg (by omega)], Int.mul_zero]] at z
  omega
/-- what is above, with a column ahead among those that make it -/
theorem det_comb_in {m k p : Nat} (X : Nat → Nat → Int) (a : Nat → Int) (rest : Nat → Int) (hk : k ≤ m) (hp : p < k) : det m (cr X p fun r => sm k (fun l => a l * X r l) + rest r) = a p * det m X + det m (cr X p rest) := by
  have z := det_lin X 1 1 (fun r => sm k fun l => a l * X r l) rest (show p < m by omega)
  have e : (cr X p fun i => 1 * sm k (fun l => a l * X i l) + 1 * rest i) = cr X p fun r => sm k (fun l => a l * X r l) + rest r := by
    funext i j
    unfold cr
    try dsimp only
    split
    · rw [Int.one_mul, Int.one_mul]
    · rfl
  rw [e, det_sum X a (fun l r => X r l) (show p < m by omega), sm_one hp fun l hl hne => by
    rw [det_cols (c := p) (d := l) (by omega) (by omega) (fun z => hne z.symm) fun i _ => by
      unfold cr
      try dsimp only
      rw [if_pos rfl, if_neg (fun z => hne z)], Int.mul_zero], cr_self] at z
  omega
theorem mul_left {a b c : Int} (h : a ≠ 0) (e : a * b = a * c) : b = c := Int.eq_of_mul_eq_mul_left h e
section
variable {n k : Nat} {c : Nat → Nat} {s : Int} {A R : Nat → Nat → Int}
theorem Inv.cramer (I : Inv n k c s A R) {i : Nat} (v : Nat) (hi : i < k) : det k (cr (fun r l => A r (c l)) i fun r => A r v) = R i v := by
  refine mul_left I.s0 ?_
  rw [← det_scale _ _ _ hi]
  have e : det k (cr (fun r l => A r (c l)) i fun r => s * A r v) = det k (cr (fun r l => A r (c l)) i fun r => sm k (fun l => R l v * (fun r l => A r (c l)) r l) + 0) := by
    refine det_congr fun r l hr _ => ?_
    unfold cr
    try dsimp only
    split
    · rw [I.up r hr v, Int.add_zero]
      exact sm_congr fun l _ => Int.mul_comm _ _
    · rfl
  rw [e, det_comb_in _ _ _ (Nat.le_refl _) hi, ← I.dt, det_zero_col (c := i) _ hi fun r _ => by unfold cr; (try dsimp only); rw [if_pos rfl], Int.add_zero, Int.mul_comm]
/-- the kept columns and one more, the rows ahead and one more -/
def bd (k : Nat) (c : Nat → Nat) (A : Nat → Nat → Int) (u v : Nat) : Nat → Nat → Int := fun r l => A (if r < k then r else u) (if l < k then c l else v)
theorem bd_lo {r l u v : Nat} (hl : l < k) : bd k c A u v r l = A (if r < k then r else u) (c l) := by unfold bd; rw [if_pos hl]
theorem Inv.border (I : Inv n k c s A R) {u : Nat} (v : Nat) (h1 : k ≤ u) (h2 : u < n) : det (k + 1) (bd k c A u v) = R u v := by
  refine mul_left I.s0 ?_
  rw [show bd k c A u v = cr (bd k c A u v) k fun r => bd k c A u v r k from (cr_self _ _).symm, ← det_scale _ _ _ (Nat.lt_succ_self k)]
  have e : det (k + 1) (cr (bd k c A u v) k fun r => s * bd k c A u v r k) = det (k + 1) (cr (bd k c A u v) k fun r => sm k (fun l => R l v * bd k c A u v r l) + if r = k then R u v else 0) := by
    refine det_congr fun r l hr _ => ?_
    unfold cr
    try dsimp only
    split
    · have ek : bd k c A u v r k = A (if r < k then r else u) v := by unfold bd; rw [if_neg (Nat.lt_irrefl k)]
      rw [ek, sm_congr (n := k) (f := fun l => R l v * bd k c A u v r l) (g := fun l => A (if r < k then r else u) (c l) * R l v) fun l hl => by rw [bd_lo hl, Int.mul_comm]]
      by_cases hrk : r < k
      · simp only [if_pos hrk]
        rw [if_neg (by omega), I.up r hrk v, Int.add_zero]
      · simp only [if_neg hrk]
        rw [if_pos (by omega), I.dn u h1 h2 v]
        omega
    · rfl
  rw [e, det_comb _ _ _ (Nat.lt_succ_self k) (Nat.le_refl k), det_last (r := k) _ (Nat.le_refl k) fun i hi hne => by unfold cr; (try dsimp only); rw [if_pos rfl, if_neg hne]]
  rw [show cr (bd k c A u v) k (fun r => if r = k then R u v else 0) k k = R u v from by unfold cr; (try dsimp only); rw [if_pos rfl, if_pos rfl], sg_even (by omega), Int.one_mul]
  rw [det_congr (n := k) (N := fun i l => A i (c l)) fun i l hi hl => by
    rw [show sk k i = i from by unfold sk; rw [if_pos hi]]
    unfold cr
    try dsimp only
    rw [if_neg (by omega), bd_lo hl, if_pos hi], ← I.dt, Int.mul_comm]
/-- the columns, one more kept -/
def ca (k : Nat) (c : Nat → Nat) (v : Nat) : Nat → Nat := fun l => if l < k then c l else v
theorem bd_pivot {v : Nat} (I : Inv n k c s A R) (hk : k < n) : det (k + 1) (fun r l => A r (ca k c v l)) = R k v := by
  rw [← I.border v (Nat.le_refl k) hk]
  refine det_congr fun r l hr _ => ?_
  unfold bd ca
  rw [show (if r < k then r else k) = r from by split <;> omega]
/-- with two more rows and columns -/
theorem Inv.below (I : Inv n k c s A R) {i v : Nat} (j : Nat) (hk : k < i) (hi : i < n) : s * det (k + 2) (fun r l => A (if r < k + 1 then r else i) (if l < k + 1 then ca k c v l else j)) = R k v * R i j - R i v * R k j := by
  generalize hX : (fun r l => A (if r < k + 1 then r else i) (if l < k + 1 then ca k c v l else j)) = X
  have xlo : ∀ r l, l < k → X r l = A (if r < k + 1 then r else i) (c l) := fun r l hl => by
    rw [← hX]
    show A _ (if l < k + 1 then ca k c v l else j) = _
    rw [if_pos (show l < k + 1 by omega), ca, if_pos hl]
  have xla : ∀ r, X r (k + 1) = A (if r < k + 1 then r else i) j := fun r => by
    rw [← hX]
    show A _ (if k + 1 < k + 1 then ca k c v (k + 1) else j) = _
    rw [if_neg (show ¬ k + 1 < k + 1 by omega)]
  have e0 : det (k + 2) X = det (k + 2) (cr X (k + 1) fun r => X r (k + 1)) := by rw [cr_self]
  rw [e0, ← det_scale _ _ _ (by omega)]
  have e : det (k + 2) (cr X (k + 1) fun r => s * X r (k + 1)) = det (k + 2) (cr X (k + 1) fun r => sm k (fun l => R l j * X r l) + (R k j * (if r = k then 1 else 0) + R i j * (if r = k + 1 then 1 else 0))) := by
    refine det_congr fun r l hr _ => ?_
    unfold cr
    try dsimp only
    split
    · rw [xla, sm_congr (n := k) (f := fun l => R l j * X r l) (g := fun l => A (if r < k + 1 then r else i) (c l) * R l j) fun l hl => by rw [xlo r l hl, Int.mul_comm]]
      by_cases h1 : r < k
      · simp only [if_pos (show r < k + 1 by omega)]
        rw [if_neg (by omega), if_neg (by omega), I.up r h1 j]
        omega
      · by_cases h2 : r = k
        · simp only [if_pos (show r < k + 1 by omega)]
          subst h2
          rw [if_pos rfl, if_neg (by omega), I.dn r (Nat.le_refl r) (by omega) j]
          omega
        · simp only [if_neg (show ¬ r < k + 1 by omega)]
          rw [if_neg h2, if_pos (by omega), I.dn i (by omega) hi j]
          omega
    · rfl
  rw [e, det_comb _ _ _ (by omega) (by omega), det_lin _ _ _ _ _ (by omega)]
  rw [det_last (n := k + 1) (r := k) _ (by omega) fun q hq hne => by unfold cr; (try dsimp only); rw [if_pos rfl, if_neg hne]]
  rw [det_last (n := k + 1) (r := k + 1) _ (by omega) fun q hq hne => by unfold cr; (try dsimp only); rw [if_pos rfl, if_neg hne]]
  rw [sg_odd (by omega), sg_even (by omega)]
  have c1 : cr X (k + 1) (fun r => if r = k then 1 else 0) k (k + 1) = 1 := by unfold cr; (try dsimp only); rw [if_pos rfl, if_pos rfl]
  have c2 : cr X (k + 1) (fun r => if r = k + 1 then 1 else 0) (k + 1) (k + 1) = 1 := by unfold cr; (try dsimp only); rw [if_pos rfl, if_pos rfl]
  rw [c1, c2]
  have d1 : det (k + 1) (fun q l => cr X (k + 1) (fun r => if r = k then 1 else 0) (sk k q) l) = R i v := by
    rw [← I.border v (show k ≤ i by omega) hi]
    refine det_congr fun q l hq hl => ?_
    unfold cr
    try dsimp only
    rw [if_neg (by omega), ← hX]
    show A (if sk k q < k + 1 then sk k q else i) (if l < k + 1 then ca k c v l else j) = A (if q < k then q else i) (if l < k then c l else v)
    rw [if_pos hl]
    unfold ca sk
    congr 1
    repeat' (first | omega | split)
  have d2 : det (k + 1) (fun q l => cr X (k + 1) (fun r => if r = k + 1 then 1 else 0) (sk (k + 1) q) l) = R k v := by
    rw [← bd_pivot I (by omega)]
    refine det_congr fun q l hq hl => ?_
    unfold cr
    try dsimp only
    rw [if_neg (by omega), ← hX]
    show A (if sk (k + 1) q < k + 1 then sk (k + 1) q else i) (if l < k + 1 then ca k c v l else j) = A q (ca k c v l)
    rw [if_pos hl, show sk (k + 1) q = q from by unfold sk; rw [if_pos hq], if_pos hq]
  rw [d1, d2]
  grind
theorem Inv.above (I : Inv n k c s A R) {i v : Nat} (j : Nat) (hk : k < n) (hi : i < k) : s * det (k + 1) (cr (fun r l => A r (ca k c v l)) i fun r => A r j) = R k v * R i j - R i v * R k j := by
  rw [← det_scale _ _ _ (by omega)]
  have lo : ∀ r l, l < k → (fun r l => A r (ca k c v l)) r l = A r (c l) := fun r l hl => by
    show A r (ca k c v l) = _
    rw [ca, if_pos hl]
  have e : det (k + 1) (cr (fun r l => A r (ca k c v l)) i fun r => s * A r j) = det (k + 1) (cr (fun r l => A r (ca k c v l)) i fun r => sm k (fun l => R l j * (fun r l => A r (ca k c v l)) r l) + R k j * (if r = k then 1 else 0)) := by
    refine det_congr fun r l hr _ => ?_
    unfold cr
    try dsimp only
    split
    · rw [sm_congr (n := k) (f := fun l => R l j * (fun r l => A r (ca k c v l)) r l) (g := fun l => A r (c l) * R l j) fun l hl => by rw [lo r l hl, Int.mul_comm]]
      by_cases h1 : r < k
      · rw [if_neg (by omega), I.up r h1 j]
        omega
      · obtain rfl : r = k := by omega
        rw [if_pos rfl, I.dn r (Nat.le_refl r) hk j]
        omega
    · rfl
  rw [e, det_comb_in _ _ _ (by omega) hi, bd_pivot I hk, det_scale _ _ _ (show i < k + 1 by omega)]
  have f : det (k + 1) (cr (fun r l => A r (ca k c v l)) i fun r => if r = k then 1 else 0) = - R i v := by
    have z := det_swap (n := k + 1) (c := i) (d := k) (fun r l => A r (ca k c v l)) (fun r => if r = k then 1 else 0) (fun r => A r v) (by omega) (by omega) (by omega)
    rw [show cr (cr (fun r l => A r (ca k c v l)) i fun r => if r = k then 1 else 0) k (fun r => A r v) = cr (fun r l => A r (ca k c v l)) i fun r => if r = k then 1 else 0 from by
      funext r l
      unfold cr
      try dsimp only
      by_cases h : l = k
      · rw [if_pos h, if_neg (by omega), ca, if_neg (by omega)]
      · rw [if_neg h]] at z
    rw [z, det_last (r := k) _ (Nat.le_refl k) fun q hq hne => by unfold cr; (try dsimp only); rw [if_pos rfl, if_neg hne]]
    rw [show cr (cr (fun r l => A r (ca k c v l)) i fun r => A r v) k (fun r => if r = k then 1 else 0) k k = 1 from by unfold cr; (try dsimp only); rw [if_pos rfl, if_pos rfl], sg_even (by omega)]
    rw [← I.cramer v hi]
    rw [det_congr (n := k) (M := fun q l => cr (cr (fun r l => A r (ca k c v l)) i fun r => A r v) k (fun r => if r = k then 1 else 0) (sk k q) l) (N := cr (fun r l => A r (c l)) i fun r => A r v) fun q l hq hl => by
      rw [show sk k q = q from by unfold sk; rw [if_pos hq]]
      unfold cr
      try dsimp only
      rw [if_neg (by omega)]
      split
      · rfl
      · rw [ca, if_pos hl]]
    omega
  rw [f]
  grind
/-- one column more is kept -/
theorem Inv.step (I : Inv n k c s A R) {v : Nat} (hk : k < n) (hp : R k v ≠ 0) : ∃ S : Nat → Nat → Int, (∀ j, S k j = R k j) ∧ (∀ i, i < n → i ≠ k → ∀ j, s * S i j = R k v * R i j - R i v * R k j) ∧ Inv n (k + 1) (ca k c v) (R k v) A S := by
  let S : Nat → Nat → Int := fun i j => if i = k then R k j else if i < k then det (k + 1) (cr (fun r l => A r (ca k c v l)) i fun r => A r j) else det (k + 2) (fun r l => A (if r < k + 1 then r else i) (if l < k + 1 then ca k c v l else j))
  have h1 : ∀ j, S k j = R k j := fun j => if_pos rfl
  have h2 : ∀ i, i < n → i ≠ k → ∀ j, s * S i j = R k v * R i j - R i v * R k j := fun i hi hne j => by
    show s * (if i = k then R k j else if i < k then _ else _) = _
    rw [if_neg hne]
    by_cases h : i < k
    · rw [if_pos h]
      exact I.above j hk h
    · rw [if_neg h]
      exact I.below j (by omega) hi
  have cl : ∀ l, l < k → ca k c v l = c l := fun l hl => by rw [ca, if_pos hl]
  have ck : ca k c v k = v := by rw [ca, if_neg (Nat.lt_irrefl k)]
  -- the sums, times s
  have hs : ∀ r j, s * sm k (fun l => A r (ca k c v l) * S l j) = R k v * sm k (fun l => A r (c l) * R l j) - R k j * sm k (fun l => A r (c l) * R l v) := fun r j => by
    rw [← sm_mul, ← sm_mul, ← sm_mul, Int.sub_eq_add_neg, ← sm_neg, ← sm_add]
    refine sm_congr fun l hl => ?_
    rw [cl l hl]
    have := h2 l (by omega) (by omega) j
    grind
  refine ⟨S, h1, h2, hp, hk, (bd_pivot I hk).symm, fun r hr j => ?_, fun r h3 h4 j => ?_, fun l m hl hm => ?_⟩
  · refine mul_left I.s0 ?_
    show s * (R k v * A r j) = s * (sm k (fun l => A r (ca k c v l) * S l j) + A r (ca k c v k) * S k j)
    rw [Int.mul_add, hs, ck, h1]
    by_cases h : r < k
    · rw [← I.up r h j, ← I.up r h v]
      grind
    · obtain rfl : r = k := by omega
      have a1 := I.dn r (Nat.le_refl r) hk j
      have a2 := I.dn r (Nat.le_refl r) hk v
      grind
  · refine mul_left I.s0 ?_
    show s * S r j = s * (R k v * A r j - (sm k (fun l => A r (ca k c v l) * S l j) + A r (ca k c v k) * S k j))
    rw [h2 r h4 (by omega), Int.mul_sub, Int.mul_add, hs, ck, h1]
    have a1 := I.dn r (by omega) h4 j
    have a2 := I.dn r (by omega) h4 v
    grind
  · by_cases e1 : l = k
    · subst e1
      rw [h1]
      by_cases e2 : m = l
      · subst e2
        rw [ck, if_pos rfl]
      · rw [cl m (by omega), I.zero (Nat.le_refl l) hk (by omega), if_neg (fun z => e2 z.symm)]
    · refine mul_left I.s0 ?_
      rw [h2 l (by omega) e1]
      by_cases e2 : m = k
      · subst e2
        rw [ck, if_neg e1]
        grind
      · rw [cl m (by omega), I.zero (Nat.le_refl k) hk (by omega), I.kr l m (by omega) (by omega)]
        split <;> grind
/-- a column that none of the rows left has: the determinant is nought -/
theorem Inv.none (I : Inv n k c s A R) {v : Nat} (hv : v < n) (hc : ∀ l, l < k → c l < n ∧ c l ≠ v) (h : ∀ r, k ≤ r → r < n → R r v = 0) : det n A = 0 := by
  refine mul_left I.s0 ?_
  rw [Int.mul_zero, show det n A = det n (cr A v fun r => A r v) by rw [cr_self], ← det_scale _ _ _ hv]
  have e : det n (cr A v fun r => s * A r v) = det n (cr A v fun r => sm k fun l => R l v * A r (c l)) := by
    refine det_congr fun r j hr _ => ?_
    unfold cr
    try dsimp only
    split
    · rw [sm_congr (n := k) (f := fun l => R l v * A r (c l)) (g := fun l => A r (c l) * R l v) fun l _ => Int.mul_comm _ _]
      by_cases g : r < k
      · exact I.up r g v
      · have := I.dn r (by omega) hr v
        rw [h r (by omega) hr] at this
        omega
    · rfl
  rw [e, det_sum _ (fun l => R l v) (fun l r => A r (c l)) hv]
  refine sm_zero fun l hl => ?_
  rw [det_cols (c := v) (d := c l) hv (hc l hl).1 (fun z => (hc l hl).2 z.symm) fun i _ => by
    unfold cr
    try dsimp only
    rw [if_pos rfl, if_neg (hc l hl).2], Int.mul_zero]
/-- all columns are kept -/
theorem Inv.all (I : Inv n n c s A R) (hc : ∀ l, l < n → c l = l) : s = det n A := by
  rw [I.dt]
  exact det_congr fun i l _ hl => by rw [hc l hl]
end
end Mx
namespace Mx
theorem natAbs_sm (n : Nat) (f : Nat → Int) (b : Nat) (h : ∀ j, j < n → (f j).natAbs ≤ b) : (sm n f).natAbs ≤ n * b := by
  induction n with
  | zero => show (0 : Int).natAbs ≤ _; simp
  | succ n ih =>
    show (sm n f + f n).natAbs ≤ _
    have h1 := ih fun j hj => h j (by omega)
    have h2 := h n (by omega)
    have h3 := Int.natAbs_add_le (sm n f) (f n)
    rw [Nat.add_mul]
    omega
theorem det_bound {B : Nat} : ∀ {n : Nat} {M : Nat → Nat → Int}, (∀ i k, i < n → k < n → (M i k).natAbs ≤ B) → (det n M).natAbs ≤ (n * B) ^ n := by
  intro n
  induction n with
  | zero => intro M _; exact Nat.le_refl 1
  | succ n ih =>
    intro M h
    refine Nat.le_trans (natAbs_sm (n + 1) _ (B * ((n + 1) * B) ^ n) fun j hj => ?_) ?_
    · rw [Int.natAbs_mul, Int.natAbs_mul]
      have e : (sg j).natAbs = 1 := by unfold sg; split <;> rfl
      rw [e, Nat.one_mul]
      refine Nat.mul_le_mul (h 0 j (by omega) hj) (Nat.le_trans (ih fun i k hi hk => h (i + 1) (sk j k) (by omega) (by unfold sk; split <;> omega)) ?_)
      exact Nat.pow_le_pow_left (Nat.mul_le_mul_right _ (by omega)) n
    · rw [Nat.pow_succ]
      exact Nat.le_of_eq (by rw [← Nat.mul_assoc, Nat.mul_comm])
theorem det_bits {b n : Nat} {M : Nat → Nat → Int} (hn : n ≤ 10) (h : ∀ i k, i < n → k < n → (M i k).natAbs < 2 ^ b) : (det n M).natAbs < 2 ^ ((b + 4) * n + 1) := by
  refine Nat.lt_of_le_of_lt (det_bound (B := 2 ^ b) fun i k hi hk => Nat.le_of_lt (h i k hi hk)) ?_
  rw [Nat.pow_succ, Nat.pow_mul]
  have h1 : (n * 2 ^ b) ^ n ≤ (2 ^ (b + 4)) ^ n := Nat.pow_le_pow_left (by rw [Nat.pow_add, Nat.mul_comm]; exact Nat.mul_le_mul_left _ (Nat.le_trans hn (by decide))) n
  have h2 : 0 < (2 ^ (b + 4)) ^ n := Nat.pow_pos (Nat.pow_pos (by decide))
  omega
def ent (rs : List (List Int)) (i j : Nat) : Int := (rs.getD i []).getD j 0
def elim (chief row : List Int) (p q s : Int) : List Int := (row.zip chief).map fun z => (p * z.1 - q * z.2).fdiv s
def clrRow (rs : List (List Int)) (at' c : Nat) (s : Int) (k : Nat) (row : List Int) : List Int :=
  if k = at' then row else elim (rs.getD at' []) row ((rs.getD at' []).getD c 0) (row.getD c 0) s
def clrOf (rs : List (List Int)) (at' c : Nat) (s : Int) : List (List Int) := rs.mapIdx (clrRow rs at' c s)
def swp (rs : List (List Int)) (a b : Nat) : List (List Int) := if a = b then rs else (rs.set a (rs.getD b [])).set b ((rs.getD a []).map fun x => -x)
theorem getD_lt {α : Type} {l : List α} {i : Nat} (d : α) (h : i < l.length) : l.getD i d = l[i] := by
  rw [List.getD_eq_getElem?_getD, List.getElem?_eq_getElem h]; rfl
theorem getD_ge {α : Type} {l : List α} {i : Nat} (d : α) (h : l.length ≤ i) : l.getD i d = d := by
  rw [List.getD_eq_getElem?_getD, List.getElem?_eq_none h]; rfl
theorem len_swp {rs : List (List Int)} {a b : Nat} : (swp rs a b).length = rs.length := by
  unfold swp
  split
  · rfl
  · rw [List.length_set, List.length_set]
theorem len_clr {rs : List (List Int)} {a c : Nat} {s : Int} : (clrOf rs a c s).length = rs.length := List.length_mapIdx
/-- n rows of w numbers -/
def Sq (n w : Nat) (rs : List (List Int)) : Prop := rs.length = n ∧ ∀ row ∈ rs, row.length = w
theorem Sq.at {n w : Nat} {rs : List (List Int)} (h : Sq n w rs) {i : Nat} (hi : i < n) : (rs.getD i []).length = w := by
  rw [getD_lt [] (by rw [h.1]; exact hi)]
  exact h.2 _ (List.getElem_mem _)
theorem Sq.swp {n w a b : Nat} {rs : List (List Int)} (h : Sq n w rs) (ha : a < n) (hb : b < n) : Sq n w (Mx.swp rs a b) := by
  refine ⟨by rw [len_swp, h.1], fun row hr => ?_⟩
  unfold Mx.swp at hr
  split at hr
  · exact h.2 row hr
  · rcases List.mem_or_eq_of_mem_set hr with hr | rfl
    · rcases List.mem_or_eq_of_mem_set hr with hr | rfl
      · exact h.2 row hr
      · exact h.at hb
    · rw [List.length_map]
      exact h.at ha
theorem Sq.clr {n w a c : Nat} {s : Int} {rs : List (List Int)} (h : Sq n w rs) (ha : a < n) : Sq n w (clrOf rs a c s) := by
  refine ⟨by rw [len_clr, h.1], fun row hr => ?_⟩
  obtain ⟨i, hi⟩ := List.mem_iff_getElem?.mp hr
  unfold clrOf at hi
  rw [List.getElem?_mapIdx] at hi
  cases e : rs[i]? with
  | none => rw [e] at hi; cases hi
  | some x =>
    rw [e] at hi
    have hx := h.2 x (List.mem_of_getElem? e)
    rw [← Option.some.inj hi]
    unfold clrRow
    split
    · exact hx
    · unfold elim
      rw [List.length_map, List.length_zip, h.at ha, hx, Nat.min_self]
theorem ent_out {n w : Nat} {rs : List (List Int)} (h : Sq n w rs) {i j : Nat} (hi : i < n) (hj : w ≤ j) : ent rs i j = 0 := getD_ge 0 (by rw [h.at hi]; exact hj)
theorem row_swp {n w a b : Nat} {rs : List (List Int)} (h : Sq n w rs) (ha : a < n) (hb : b < n) (hne : a ≠ b) (i : Nat) : (Mx.swp rs a b).getD i [] = if i = a then rs.getD b [] else if i = b then (rs.getD a []).map (fun x => -x) else rs.getD i [] := by
  have hl := h.1
  have g : ∀ l : List (List Int), l.getD i [] = (l[i]?).getD [] := fun l => List.getD_eq_getElem?_getD
  unfold Mx.swp
  rw [if_neg hne, g]
  by_cases e1 : i = a
  · subst e1
    rw [if_pos rfl, List.getElem?_set_ne (fun z => hne z.symm), List.getElem?_set_self (by omega)]
    rfl
  · rw [if_neg e1]
    by_cases e2 : i = b
    · subst e2
      rw [if_pos rfl, List.getElem?_set_self (by rw [List.length_set]; omega)]
      rfl
    · rw [if_neg e2, List.getElem?_set_ne (fun z => e2 z.symm), List.getElem?_set_ne (fun z => e1 z.symm), ← g]
theorem getD_neg (l : List Int) (j : Nat) : (l.map fun x => -x).getD j 0 = - l.getD j 0 := by
  rw [List.getD_eq_getElem?_getD, List.getD_eq_getElem?_getD, List.getElem?_map]
  cases l[j]? <;> rfl
theorem ent_swp {n w a b : Nat} {rs : List (List Int)} (h : Sq n w rs) (ha : a < n) (hb : b < n) (hne : a ≠ b) {i : Nat} (hi : i < n) (j : Nat) : ent (Mx.swp rs a b) i j = sx (ent rs) a b i j := by
  unfold ent sx
  rw [row_swp h ha hb hne]
  by_cases e1 : i = a
  · rw [if_pos e1, if_pos e1]
  · rw [if_neg e1, if_neg e1]
    by_cases e2 : i = b
    · rw [if_pos e2, if_pos e2, getD_neg]
    · rw [if_neg e2, if_neg e2]
theorem row_clr {rs : List (List Int)} {a c : Nat} {s : Int} {i : Nat} (hi : i < rs.length) : (clrOf rs a c s).getD i [] = clrRow rs a c s i (rs.getD i []) := by
  unfold clrOf
  rw [List.getD_eq_getElem?_getD, List.getElem?_mapIdx, List.getElem?_eq_getElem hi, getD_lt [] hi]
  rfl
theorem ent_chief {n w a c : Nat} {s : Int} {rs : List (List Int)} (h : Sq n w rs) (ha : a < n) (j : Nat) : ent (clrOf rs a c s) a j = ent rs a j := by
  unfold ent
  rw [row_clr (by rw [h.1]; exact ha)]
  unfold clrRow
  rw [if_pos rfl]
theorem ent_clr {n w a c : Nat} {s : Int} {rs : List (List Int)} (h : Sq n w rs) (ha : a < n) {i : Nat} (hi : i < n) (hne : i ≠ a) (j : Nat) (hs : s ≠ 0) : ent (clrOf rs a c s) i j = (ent rs a c * ent rs i j - ent rs i c * ent rs a j).fdiv s := by
  by_cases hj : j < w
  · unfold ent
    rw [row_clr (by rw [h.1]; exact hi)]
    unfold clrRow elim
    have l1 := h.at hi
    have l2 := h.at ha
    rw [if_neg hne, getD_lt (l := List.map _ _) 0 (by rw [List.length_map, List.length_zip, l1, l2]; omega), List.getElem_map, List.getElem_zip]
    dsimp only
    rw [getD_lt (l := rs.getD i []) (i := j) 0 (by omega), getD_lt (l := rs.getD a []) (i := j) 0 (by omega)]
  · rw [ent_out (i := i) (j := j) (h.clr ha) hi (by omega), ent_out (i := i) (j := j) h hi (by omega), ent_out (i := a) (j := j) h ha (by omega), Int.mul_zero, Int.mul_zero]
    exact (Int.zero_fdiv s).symm
/-- tables that come of one another by exchanges of rows -/
inductive Xr (n : Nat) : (Nat → Nat → Int) → (Nat → Nat → Int) → Prop where
  | refl (A) : Xr n A A
  | step {A B a b} : Xr n A B → a < n → b < n → a ≠ b → Xr n A (sx B a b)
theorem Xr.det {n : Nat} {A B : Nat → Nat → Int} (x : Xr n A B) : Mx.det n B = Mx.det n A := by
  induction x with
  | refl => rfl
  | step x ha hb hn ih => rw [det_sx _ ha hb hn, ih]
/-- what holds of the rows while columns are cleared: up to the column v -/
structure Cl (n w v : Nat) (A : Nat → Nat → Int) (rs : List (List Int)) (kept : List Nat) (s : Int) : Prop where
  sq : Sq n w rs
  inv : ∃ B, Xr n A B ∧ Inv n kept.length (fun l => kept.getD l 0) s B (ent rs)
  lt : ∀ c ∈ kept, c < v
  sorted : kept.Pairwise (· < ·)
  none : ∀ c, c < v → c ∉ kept → ∀ r, kept.length ≤ r → r < n → ent rs r c = 0
theorem Cl.start {n w : Nat} {rs : List (List Int)} (h : Sq n w rs) : Cl n w 0 (ent rs) rs [] 1 :=
  ⟨h, ⟨_, .refl _, Inv.start _ _ _⟩, (fun c h => by cases h), .nil, (fun c h => by omega)⟩
theorem Cl.skip {n w v : Nat} {A : Nat → Nat → Int} {rs : List (List Int)} {kept : List Nat} {s : Int} (C : Cl n w v A rs kept s) (h : ∀ r, kept.length ≤ r → r < n → ent rs r v = 0) : Cl n w (v + 1) A rs kept s :=
  ⟨C.sq, C.inv, fun c hc => Nat.lt_succ_of_lt (C.lt c hc), C.sorted, fun c hc hn r h1 h2 => by
    by_cases e : c = v
    · subst e; exact h r h1 h2
    · exact C.none c (by omega) hn r h1 h2⟩
theorem Cl.keep {n w v f : Nat} {A : Nat → Nat → Int} {rs : List (List Int)} {kept : List Nat} {s : Int} (C : Cl n w v A rs kept s) (h1 : kept.length ≤ f) (h2 : f < n) (hf : ent rs f v ≠ 0) :
    Cl n w (v + 1) A (clrOf (Mx.swp rs kept.length f) kept.length v s) (kept ++ [v]) (ent (clrOf (Mx.swp rs kept.length f) kept.length v s) kept.length v) := by
  obtain ⟨B, xB, I⟩ := C.inv
  have hk : kept.length < n := by omega
  -- the rows exchanged
  obtain ⟨B2, xB2, I2, hp, hz⟩ : ∃ B2, Xr n A B2 ∧ Inv n kept.length (fun l => kept.getD l 0) s B2 (ent (Mx.swp rs kept.length f)) ∧ ent (Mx.swp rs kept.length f) kept.length v ≠ 0 ∧ (∀ c, c < v → c ∉ kept → ∀ r, kept.length ≤ r → r < n → ent (Mx.swp rs kept.length f) r c = 0) := by
    by_cases e : kept.length = f
    · have e2 : Mx.swp rs kept.length f = rs := by unfold Mx.swp; rw [if_pos e]
      rw [e2]
      exact ⟨B, xB, I, by rw [e]; exact hf, C.none⟩
    · refine ⟨_, xB.step hk h2 e, (I.swap (Nat.le_refl _) h1 hk h2).congr fun i hi j => ent_swp C.sq hk h2 e hi j, ?_, fun c hc hn r hr hr2 => ?_⟩
      · rw [ent_swp C.sq hk h2 e hk v]
        unfold sx
        rw [if_pos rfl]
        exact hf
      · rw [ent_swp C.sq hk h2 e hr2 c]
        unfold sx
        split
        · exact C.none c hc hn f h1 h2
        · split
          · rw [C.none c hc hn _ (Nat.le_refl _) hk]; rfl
          · exact C.none c hc hn r hr hr2
  have sq2 : Sq n w (Mx.swp rs kept.length f) := C.sq.swp hk h2
  generalize Mx.swp rs kept.length f = rs2 at I2 hp hz sq2 ⊢
  obtain ⟨S, hS1, hS2, I3⟩ := I2.step hk hp
  have eS : ∀ i, i < n → ∀ j, ent (clrOf rs2 kept.length v s) i j = S i j := fun i hi j => by
    by_cases e : i = kept.length
    · subst e
      rw [ent_chief sq2 hk, hS1]
    · rw [ent_clr sq2 hk hi e j I.s0, ← hS2 i hi e j, Int.mul_fdiv_cancel_left _ I.s0]
  refine ⟨sq2.clr hk, ⟨B2, xB2, ?_⟩, fun c hc => ?_, ?_, fun c hc hn r hr hr2 => ?_⟩
  · rw [ent_chief sq2 hk, List.length_append]
    refine (I3.congr eS).congrC fun l hl => ?_
    unfold ca
    by_cases e : l < kept.length
    · rw [if_pos e, List.getD_eq_getElem?_getD, List.getElem?_append_left e, ← List.getD_eq_getElem?_getD]
    · have e' : l = kept.length := by omega
      rw [if_neg e, e', List.getD_eq_getElem?_getD, List.getElem?_append_right (Nat.le_refl _), Nat.sub_self]
      rfl
  · rcases List.mem_append.mp hc with h | h
    · exact Nat.lt_succ_of_lt (C.lt c h)
    · rw [List.mem_singleton.mp h]; exact Nat.lt_succ_self v
  · rw [List.pairwise_append]
    exact ⟨C.sorted, List.pairwise_singleton _ _, fun a ha b hb => by rw [List.mem_singleton.mp hb]; exact C.lt a ha⟩
  · rw [List.length_append] at hr
    have hne : c ≠ v := fun e => hn (List.mem_append_right _ (by rw [e]; exact List.mem_singleton.mpr rfl))
    have hn2 : c ∉ kept := fun z => hn (List.mem_append_left _ z)
    have hr' : kept.length < r := hr
    rw [eS r hr2]
    refine mul_left I.s0 ?_
    rw [hS2 r hr2 (by omega) c, hz c (by omega) hn2 r (by omega) hr2, hz c (by omega) hn2 _ (Nat.le_refl _) hk]
    simp
theorem Cl.bound {n w v b : Nat} {A : Nat → Nat → Int} {rs : List (List Int)} {kept : List Nat} {s : Int} (C : Cl n w v A rs kept s) (hn : n ≤ 10) (h : ∀ i j, i < n → (A i j).natAbs < 2 ^ b) : (∀ i j, i < n → (ent rs i j).natAbs < 2 ^ ((b + 4) * (n + 1) + 1)) ∧ s.natAbs < 2 ^ ((b + 4) * (n + 1) + 1) := by
  obtain ⟨B, xB, I⟩ := C.inv
  have hB : ∀ i j, i < n → (B i j).natAbs < 2 ^ b := by
    clear I
    induction xB with
    | refl => exact h
    | step x ha hb hne ih =>
      intro i j hi
      unfold sx
      split
      · exact ih _ _ hb
      · split
        · rw [Int.natAbs_neg]; exact ih _ _ ha
        · exact ih _ _ hi
  have up : ∀ (m : Nat) (x : Nat), m ≤ n + 1 → x < 2 ^ ((b + 4) * m + 1) → x < 2 ^ ((b + 4) * (n + 1) + 1) := fun m x hm hx => Nat.lt_of_lt_of_le hx (Nat.pow_le_pow_right (by decide) (Nat.add_le_add_right (Nat.mul_le_mul_left _ hm) 1))
  have hk := I.kn
  constructor
  · intro i j hi
    by_cases e : i < kept.length
    · rw [← I.cramer j e]
      refine up kept.length _ (by omega) (det_bits (by omega) fun r l hr hl => ?_)
      unfold cr
      split
      · exact hB _ _ (by omega)
      · exact hB _ _ (by omega)
    · rw [← I.border j (show kept.length ≤ i by omega) hi]
      by_cases hn0 : kept.length + 1 ≤ 10
      · refine up (kept.length + 1) _ (by omega) (det_bits hn0 fun r l hr hl => ?_)
        unfold bd
        exact hB _ _ (by split <;> omega)
      · omega
  · rw [I.dt]
    exact up kept.length _ (by omega) (det_bits (by omega) fun r l hr hl => hB _ _ (by omega))
theorem in_range {n : Nat} {l : List Nat} (hd : l.Nodup) (h : ∀ c ∈ l, c < n) : ((List.range n).filter fun x => decide (x ∈ l)).Perm l := by
  refine (List.perm_ext_iff_of_nodup (List.nodup_range.filter _) hd).mpr fun x => ?_
  rw [List.mem_filter, List.mem_range, decide_eq_true_iff]
  exact ⟨fun z => z.2, fun z => ⟨h x z, z⟩⟩
theorem missing {n : Nat} {l : List Nat} (hd : l.Nodup) (h : ∀ c ∈ l, c < n) (hl : l.length < n) : ∃ v, v < n ∧ v ∉ l := by
  refine Classical.byContradiction fun z => ?_
  have e := (in_range hd h).length_eq
  rw [List.filter_eq_self.mpr fun x hx => decide_eq_true (Classical.byContradiction fun y => z ⟨x, List.mem_range.mp hx, y⟩), List.length_range] at e
  omega
theorem is_range {n : Nat} {l : List Nat} (hs : l.Pairwise (· < ·)) (h : ∀ c ∈ l, c < n) (hl : l.length = n) : l = List.range n := by
  have hd : l.Nodup := List.nodup_iff_pairwise_ne.mpr (hs.imp fun h => Nat.ne_of_lt h)
  have p := in_range hd h
  have e : (List.range n).filter (fun x => decide (x ∈ l)) = List.range n := List.filter_sublist.eq_of_length (by rw [p.length_eq, hl, List.length_range])
  rw [e] at p
  exact (p.symm).eq_of_pairwise (le := (· < ·)) (fun a b _ _ h1 h2 => absurd h1 (Nat.lt_asymm h2)) hs List.pairwise_lt_range
/-- the end: the determinant -/
theorem Cl.det {n w : Nat} {A : Nat → Nat → Int} {rs : List (List Int)} {kept : List Nat} {s : Int} (C : Cl n w n A rs kept s) : (if kept.length < n then 0 else s) = Mx.det n A := by
  obtain ⟨B, xB, I⟩ := C.inv
  have hnd : kept.Nodup := List.nodup_iff_pairwise_ne.mpr (C.sorted.imp fun h => Nat.ne_of_lt h)
  by_cases e : kept.length < n
  · rw [if_pos e, ← xB.det]
    obtain ⟨v, hv, hvn⟩ := missing hnd C.lt e
    refine (I.none hv (fun l hl => ?_) fun r h1 h2 => C.none v hv hvn r h1 h2).symm
    rw [getD_lt 0 hl]
    exact ⟨C.lt _ (List.getElem_mem _), fun z => hvn (z ▸ List.getElem_mem _)⟩
  · have hk : kept.length = n := by have := I.kn; omega
    rw [if_neg e, ← xB.det]
    have hid : ∀ l, l < n → kept.getD l 0 = l := by
      intro l hl
      rw [is_range C.sorted C.lt hk, getD_lt 0 (by rw [List.length_range]; exact hl), List.getElem_range]
    rw [hk] at I
    exact I.all hid
end Mx
namespace L2
open PySem PySem.Spec PyProof.Rows
/-- a comprehension over zip of two lists of one length -/
theorem lc_zipL {K : PySem.W.Frag} {a b : Addr} {xs ys : List V} {g : TG} {tt : TT} {te : TE} {vs : List Nat} {σ : St} {H1 : Hp} {D : Addr} {Qd : Hp → Prop} (hl : xs.length = ys.length) (Pv : Nat → Hp → Prop) (h0 : Pv 0 (upd H1 D (.lst []))) (hq : ∀ i H, Pv i H → SqL K H a xs ∧ SqL K H b ys)
    (hs : ∀ (i : Nat) (x y : V) (T : Addr) (H : Hp), xs[i]? = some x → ys[i]? = some y → Pv i H → H T = none → g (.ref T) (wipe σ vs) (upd H T (.tup [x, y])) fun σ2 H2 => wipe σ2 vs = wipe σ vs ∧ tt σ2 H2 fun b H3 =>
      if b = true then te σ2 H3 fun y H4 => ∃ acc, H4 D = some (.lst acc) ∧ acc.length < sizeLine ∧ Pv (i + 1) (upd H4 D (.lst (acc ++ [y]))) else Pv (i + 1) H3) (hd : ∀ H, Pv xs.length H → Qd H) :
    ∃ W : Nat → Nat → Hp → Prop, (∃ m, W 0 m (upd H1 D (.lst []))) ∧ ∀ i m H, W i m H →
      ((Itz K a b).stop i H ∧ Qd H) ∨ ((Itz K a b).go i H ∧ ∃ Nx : Hp → Prop, (∀ H', Nx H' → ∃ m', m' < m ∧ W (i + 1) m' H') ∧ ∀ x H', (Itz K a b).yld i H x H' → g x (wipe σ vs) H' fun σ2 H2 => wipe σ2 vs = wipe σ vs ∧ tt σ2 H2 fun b H3 =>
        if b = true then te σ2 H3 fun y H4 => ∃ acc, H4 D = some (.lst acc) ∧ acc.length < sizeLine ∧ Nx (upd H4 D (.lst (acc ++ [y]))) else Nx H3) := by
  refine ⟨fun i m H => m = xs.length - i ∧ i ≤ xs.length ∧ Pv i H, ⟨xs.length, rfl, Nat.zero_le _, h0⟩, ?_⟩
  rintro i m H ⟨rfl, hi, p⟩
  obtain ⟨qx, qy⟩ := hq i H p
  by_cases hlt : i < xs.length
  · have hx : xs[i]? = some xs[i] := List.getElem?_eq_getElem hlt
    have hlt2 : i < ys.length := by omega
    have hy : ys[i]? = some ys[i] := List.getElem?_eq_getElem hlt2
    refine .inr ⟨⟨xs, ys, _, _, qx, qy, hx, hy⟩, Pv (i + 1), fun H' p' => ⟨xs.length - (i + 1), by omega, rfl, hlt, p'⟩, fun v H' z => ?_⟩
    obtain ⟨T, x', y', rfl, hT, rfl, f1, f2⟩ := z
    exact hs i x' y' T H (f1 xs qx) (f2 ys qy) p hT
  · have e : i = xs.length := by omega
    subst e
    exact .inl ⟨⟨xs, ys, qx, qy, Or.inl (Nat.le_refl _)⟩, hd H p⟩
/-- a comprehension over enumerate of a list -/
theorem lc_enum {K : PySem.W.Frag} {a : Addr} {xs : List V} {g : TG} {tt : TT} {te : TE} {vs : List Nat} {σ : St} {H1 : Hp} {D : Addr} {Qd : Hp → Prop} (Pv : Nat → Hp → Prop) (h0 : Pv 0 (upd H1 D (.lst []))) (hq : ∀ i H, Pv i H → SqL K H a xs)
    (hs : ∀ (i : Nat) (x : V) (T : Addr) (H : Hp), xs[i]? = some x → Pv i H → H T = none → g (.ref T) (wipe σ vs) (upd H T (.tup [.int (i : Nat), x])) fun σ2 H2 => wipe σ2 vs = wipe σ vs ∧ tt σ2 H2 fun b H3 =>
      if b = true then te σ2 H3 fun y H4 => ∃ acc, H4 D = some (.lst acc) ∧ acc.length < sizeLine ∧ Pv (i + 1) (upd H4 D (.lst (acc ++ [y]))) else Pv (i + 1) H3) (hd : ∀ H, Pv xs.length H → Qd H) :
    ∃ W : Nat → Nat → Hp → Prop, (∃ m, W 0 m (upd H1 D (.lst []))) ∧ ∀ i m H, W i m H →
      ((Ite K a).stop i H ∧ Qd H) ∨ ((Ite K a).go i H ∧ ∃ Nx : Hp → Prop, (∀ H', Nx H' → ∃ m', m' < m ∧ W (i + 1) m' H') ∧ ∀ x H', (Ite K a).yld i H x H' → g x (wipe σ vs) H' fun σ2 H2 => wipe σ2 vs = wipe σ vs ∧ tt σ2 H2 fun b H3 =>
        if b = true then te σ2 H3 fun y H4 => ∃ acc, H4 D = some (.lst acc) ∧ acc.length < sizeLine ∧ Nx (upd H4 D (.lst (acc ++ [y]))) else Nx H3) := by
  refine ⟨fun i m H => m = xs.length - i ∧ i ≤ xs.length ∧ Pv i H, ⟨xs.length, rfl, Nat.zero_le _, h0⟩, ?_⟩
  rintro i m H ⟨rfl, hi, p⟩
  have qx := hq i H p
  by_cases hlt : i < xs.length
  · have hx : xs[i]? = some xs[i] := List.getElem?_eq_getElem hlt
    refine .inr ⟨⟨xs, _, qx, hx⟩, Pv (i + 1), fun H' p' => ⟨xs.length - (i + 1), by omega, rfl, hlt, p'⟩, fun v H' z => ?_⟩
    obtain ⟨T, x', rfl, hT, rfl, f1⟩ := z
    exact hs i x' T H (f1 xs qx) p hT
  · have e : i = xs.length := by omega
    subst e
    exact .inl ⟨⟨xs, qx, Nat.le_refl _⟩, hd H p⟩
/-- ints of a list, each an int -/
theorem lc_intsE {K : PySem.W.Frag} {a : Addr} {ns : List Int} {g : TG} {te : TE} {vs : List Nat} {σ : St} {H1 : Hp} {Q : Addr → Hp → Prop} (f : Int → Int) (hq : SqL K H1 a (ns.map V.int)) (hz : ns.length < 2000)
    (hs : ∀ n ∈ ns, ∀ (H : Hp), Ext H1 H → ∀ (R : V → Hp → Prop), R (.int (f n)) H → g (.int n) (wipe σ vs) H fun σ2 H2 => wipe σ2 vs = wipe σ vs ∧ te σ2 H2 R)
    (hd : ∀ D H', H1 D = none → Ext H1 H' → H' D = some (.lst ((ns.map f).map V.int)) → Q D H') :
    (∃ ys, SqL K H1 a ys) ∧ ∀ D, H1 D = none → ∃ W : Nat → Nat → Hp → Prop, (∃ m, W 0 m (upd H1 D (.lst []))) ∧ ∀ i m H, W i m H →
      ((Itl K a).stop i H ∧ Q D H) ∨ ((Itl K a).go i H ∧ ∃ Nx : Hp → Prop, (∀ H', Nx H' → ∃ m', m' < m ∧ W (i + 1) m' H') ∧ ∀ x H', (Itl K a).yld i H x H' → g x (wipe σ vs) H' fun σ2 H2 => wipe σ2 vs = wipe σ vs ∧ tYes σ2 H2 fun b H3 =>
        if b = true then te σ2 H3 fun y H4 => ∃ acc, H4 D = some (.lst acc) ∧ acc.length < sizeLine ∧ Nx (upd H4 D (.lst (acc ++ [y]))) else Nx H3) := by
  refine ⟨⟨_, hq⟩, fun D hD => lc_list (xs := ns.map V.int) (fun i H' => Ext H1 H' ∧ H' D = some (.lst (((ns.take i).map f).map V.int))) ⟨Ext.upd hD, upd_same⟩ (fun i H' _ p => hq.ext p.1) ?_ ?_⟩
  · rintro i y H' hi ⟨e1, hD1⟩
    obtain ⟨n, hn, rfl⟩ : ∃ n, ns[i]? = some n ∧ y = V.int n := by
      rw [List.getElem?_map] at hi
      cases e : ns[i]? with
      | none => rw [e] at hi; cases hi
      | some n => rw [e] at hi; exact ⟨n, rfl, (Option.some.inj hi).symm⟩
    have hin : i < ns.length := (List.getElem?_eq_some_iff.mp hn).1
    refine hs n (List.mem_of_getElem? hn) H' e1 _ ⟨_, hD1, ?_, e1.mut hD, ?_⟩
    · rw [List.length_map, List.length_map, List.length_take]
      exact Nat.lt_of_lt_of_le (show min i ns.length < 2000 by omega) (by decide)
    · rw [upd_same, List.take_add_one, hn, List.map_append, List.map_append]
      rfl
  · rintro H' ⟨e1, hD1⟩
    rw [List.length_map, List.take_length] at hD1
    exact hd D H' hD e1 hD1
/-- ints of two lists side by side, each an int -/
theorem lc_zipI {K : PySem.W.Frag} {a b : Addr} {ns ms : List Int} {g : TG} {te : TE} {vs : List Nat} {σ : St} {H1 : Hp} {Q : Addr → Hp → Prop} (f : Int → Int → Int) (hl : ns.length = ms.length) (hq : SqL K H1 a (ns.map V.int)) (hq2 : SqL K H1 b (ms.map V.int)) (hz : ns.length < 2000)
    (hs : ∀ n m, n ∈ ns → m ∈ ms → ∀ (T : Addr) (H : Hp), Ext H1 H → H T = some (.tup [.int n, .int m]) → ∀ (R : V → Hp → Prop), R (.int (f n m)) H → g (.ref T) (wipe σ vs) H fun σ2 H2 => wipe σ2 vs = wipe σ vs ∧ te σ2 H2 R)
    (hd : ∀ D H', H1 D = none → Ext H1 H' → H' D = some (.lst (((ns.zip ms).map fun z => f z.1 z.2).map V.int)) → Q D H') :
    ∀ D, H1 D = none → ∃ W : Nat → Nat → Hp → Prop, (∃ m, W 0 m (upd H1 D (.lst []))) ∧ ∀ i m H, W i m H →
      ((Itz K a b).stop i H ∧ Q D H) ∨ ((Itz K a b).go i H ∧ ∃ Nx : Hp → Prop, (∀ H', Nx H' → ∃ m', m' < m ∧ W (i + 1) m' H') ∧ ∀ x H', (Itz K a b).yld i H x H' → g x (wipe σ vs) H' fun σ2 H2 => wipe σ2 vs = wipe σ vs ∧ tYes σ2 H2 fun b H3 =>
        if b = true then te σ2 H3 fun y H4 => ∃ acc, H4 D = some (.lst acc) ∧ acc.length < sizeLine ∧ Nx (upd H4 D (.lst (acc ++ [y]))) else Nx H3) := fun D hD => by
  refine lc_zipL (xs := ns.map V.int) (ys := ms.map V.int) (by rw [List.length_map, List.length_map, hl]) (fun i H' => Ext H1 H' ∧ H' D = some (.lst ((((ns.zip ms).take i).map fun z => f z.1 z.2).map V.int))) ⟨Ext.upd hD, upd_same⟩ (fun i H' p => ⟨hq.ext p.1, hq2.ext p.1⟩) ?_ ?_
  · rintro i x y T H' hx hy ⟨e1, hD1⟩ hT
    obtain ⟨n, hn, rfl⟩ : ∃ n, ns[i]? = some n ∧ x = V.int n := by
      rw [List.getElem?_map] at hx
      cases e : ns[i]? with
      | none => rw [e] at hx; cases hx
      | some n => rw [e] at hx; exact ⟨n, rfl, (Option.some.inj hx).symm⟩
    obtain ⟨m, hm, rfl⟩ : ∃ m, ms[i]? = some m ∧ y = V.int m := by
      rw [List.getElem?_map] at hy
      cases e : ms[i]? with
      | none => rw [e] at hy; cases hy
      | some n => rw [e] at hy; exact ⟨n, rfl, (Option.some.inj hy).symm⟩
    have hin : i < ns.length := (List.getElem?_eq_some_iff.mp hn).1
    have hz2 : (ns.zip ms)[i]? = some (n, m) := by rw [List.getElem?_zip_eq_some]; exact ⟨hn, hm⟩
    have e2 : Ext H1 (upd H' T (.tup [.int n, .int m])) := e1.trans (Ext.upd hT)
    have hD2 : (upd H' T (.tup [.int n, .int m])) D = some (.lst ((((ns.zip ms).take i).map fun z => f z.1 z.2).map V.int)) := Ext.upd hT _ _ hD1
    have key := hs n m (List.mem_of_getElem? hn) (List.mem_of_getElem? hm) T _ e2 upd_same
    refine key _ ⟨_, hD2, ?_, e2.mut hD, ?_⟩
    · rw [List.length_map, List.length_map, List.length_take, List.length_zip]
      exact Nat.lt_of_lt_of_le (show min i (min ns.length ms.length) < 2000 by omega) (by decide)
    · rw [upd_same, List.take_add_one, hz2, List.map_append, List.map_append]
      rfl
  · rintro H' ⟨e1, hD1⟩
    rw [List.length_map, show (ns.zip ms).take ns.length = ns.zip ms from List.take_of_length_le (by rw [List.length_zip]; omega)] at hD1
    exact hd D H' hD e1 hD1
def mix (H0 H H' : Hp) : Hp := fun a => match H a with | none => H' a | some _ => H0 a
theorem mix_new {H0 H H' : Hp} {a : Addr} (h : H a = none) : mix H0 H H' a = H' a := by unfold mix; rw [h]
theorem mix_old {H0 H H' : Hp} (e : Ext H0 H) : Ext H0 (mix H0 H H') := fun a o h => by
  unfold mix
  rw [e a o h]
  exact h
theorem mix_ext {H0 H H1 H2 : Hp} (e : Ext H1 H2) : Ext (mix H0 H H1) (mix H0 H H2) := fun a o h => by
  unfold mix at h ⊢
  cases q : H a with
  | none => rw [q] at h; exact e a o h
  | some x => rw [q] at h; exact h
theorem mix_del {H H' : Hp} {k : Addr} {o : HO} (hk : H k = some o) (e : Ext H H') : Ext (mix (del H k) H H') (del H' k) := fun a o' h => by
  by_cases ek : a = k
  · subst ek
    unfold mix at h
    rw [hk] at h
    dsimp only at h
    rw [del_same] at h
    cases h
  · rw [del_ne ek]
    unfold mix at h
    cases q : H a with
    | none => rw [q] at h; exact h
    | some x => rw [q] at h; dsimp only at h; rw [del_ne ek] at h; exact e a o' h
def rwI (row : List Int) : Dt := .lst (row.map Dt.int)
def rowsD (rs : List (List Int)) : Dt := .lst (rs.map rwI)
theorem rwI_of {K : PySem.W.Frag} {H : Hp} {v : V} {row : List Int} (h : Is K H (rwI row) v) : ∃ a, v = .ref a ∧ SqL K H a (row.map V.int) := by
  obtain ⟨t, ws, rfl, ht, hl⟩ := h
  rw [of_isL_ints hl] at ht
  exact ⟨t, rfl, ht⟩
theorem rwI_is {K : PySem.W.Frag} {H : Hp} {t : Addr} {row : List Int} (h : SqL K H t (row.map V.int)) : Is K H (rwI row) (.ref t) := ⟨t, _, rfl, h, isL_ints _⟩
theorem rows_of {K : PySem.W.Frag} {H : Hp} {v : V} {rs : List (List Int)} (h : Is K H (rowsD rs) v) : ∃ a xs, v = .ref a ∧ SqL K H a xs ∧ IsL K H (rs.map rwI) xs ∧ xs.length = rs.length := by
  obtain ⟨t, ws, rfl, ht, hl⟩ := h
  exact ⟨t, ws, rfl, ht, hl, by rw [← hl.length, List.length_map]⟩
theorem isL_at {α : Type} {K : PySem.W.Frag} {H : Hp} {f : α → Dt} {rs : List α} {xs : List V} {i : Nat} {r : α} (h : IsL K H (rs.map f) xs) (hi : rs[i]? = some r) : ∃ v, xs[i]? = some v ∧ Is K H (f r) v :=
  h.get' (by rw [List.getElem?_map, hi]; rfl)
theorem isL_at' {α : Type} {K : PySem.W.Frag} {H : Hp} {f : α → Dt} {rs : List α} {xs : List V} {i : Nat} {v : V} (h : IsL K H (rs.map f) xs) (hi : xs[i]? = some v) : ∃ r, rs[i]? = some r ∧ Is K H (f r) v := by
  obtain ⟨d, hd, iv⟩ := h.get hi
  rw [List.getElem?_map] at hd
  cases e : rs[i]? with
  | none => rw [e] at hd; cases hd
  | some r => rw [e] at hd; exact ⟨r, rfl, (Option.some.inj hd).symm ▸ iv⟩
theorem isL_sn {K : PySem.W.Frag} {H : Hp} {ds : List Dt} {vs : List V} {d : Dt} {v : V} (h : IsL K H ds vs) (i : Is K H d v) : IsL K H (ds ++ [d]) (vs ++ [v]) := h.append ⟨v, [], rfl, i, rfl⟩
theorem row_get {rs : List (List Int)} {i : Nat} (h : i < rs.length) : rs[i]? = some (rs.getD i []) := by
  rw [List.getD_eq_getElem?_getD, List.getElem?_eq_getElem h]; rfl
theorem int_get {row : List Int} {j : Nat} (h : j < row.length) : row[j]? = some (row.getD j 0) := by
  rw [List.getD_eq_getElem?_getD, List.getElem?_eq_getElem h]; rfl
/-- an item of a row of ints -/
theorem atI_int {row : List Int} {j : Nat} (h : j < row.length) : atI (row.map V.int) (j : Int) = some (.int (row.getD j 0)) :=
  atI_nat (by rw [List.getElem?_map, int_get h]; rfl)
theorem isL_set {K : PySem.W.Frag} {H : Hp} : ∀ {ds : List Dt} {vs : List V} {i : Nat} {d : Dt} {v : V}, IsL K H ds vs → Is K H d v → IsL K H (ds.set i d) (vs.set i v)
  | [], _, _, _, _, h, _ => by cases h; exact rfl
  | _ :: _, _, 0, _, _, ⟨_, r, e, _, h⟩, i => by subst e; exact ⟨_, r, rfl, i, h⟩
  | _ :: _, _, k + 1, _, _, ⟨w, r, e, iw, h⟩, i => by subst e; exact ⟨w, _, rfl, iw, isL_set h i⟩
end L2
namespace L2
open PySem PySem.Spec PyProof.Rows
abbrev veB : List Value := [.type "ValueError", .type "Exception", .type "BaseException", .type "object"]
section
variable {X : Cx} {C : Addr} {bmB : List Value} {B newId initId : String} {W : WX}
/-- X(), X an own exception class without own __init__ -/
theorem pmk_own0 {x : Str} {p pos : Pos} (F : ExcBaseFacts B newId initId bmB) (q : PySem.W.excIn X.K C bmB newId = true) (gC : X.mg x = some (.ref C)) (kC : PySem.W.keepIn X.K (.ref C) = true) (r : Raises X (.ref C)) (hg : Gl X x)
    (hdb : (x == ("__debug__" : Str)) = false := by decide) : PMk X (.Call (.Name x p) [] [] pos) (fun _ H Q => Q (.ref C) none H) := by
  intro pins s σ H Q I h
  refine wpAny_Call_Name_kw (ld_glob I hg gC ?_ hdb)
  refine PySem.W.callWith_K0 I.kIn kC ?_
  obtain ⟨bm, N, nm, qn, bs, hdct, sn, sub, ab, col, dd, k0, k1, k2, k3, k5, mN, hC, hN, hni, T⟩ := exc_obj I.kIn q
  refine wpAny_call_exc_subT F T hC hN hni (fun h' e hm => ?_) (Nat.zero_le _)
  exact mk_of I hm r h (I.hok.gone hm.new)
theorem ps_raise0 {x : Str} {p pos pos2 : Pos} (q : PySem.W.excIn X.K C veB "ValueError.__new__" = true) (gC : X.mg x = some (.ref C)) (O : OexC X.K C) (hc : X.calm = true) (tk : Takes X W) (hg : Gl X x)
    (hdb : (x == ("__debug__" : Str)) = false := by decide) : PS X (.Raise (some (.Call (.Name x p) [] [] pos)) none pos2) (fun _ σ H => W (.ref C) none σ H) :=
  ps_raise hc tk (pmk_own0 PySem.F.excBase_ValueError q gC O.kC (raises_own O.exC O.tyC) hg hdb)
end
end L2
namespace L2
open PySem PySem.Spec PyProof.Rows
end L2
namespace L2
open PySem PySem.Spec PyProof.Rows
end L2
namespace L2
open PySem PySem.Spec PyProof.Rows
end L2
namespace L2
open PySem PySem.Spec PyProof.Rows
end L2
namespace L2
open PySem PySem.Spec PyProof.Rows
end L2
namespace L2
open PySem PySem.Spec PyProof.Rows
end L2
namespace ZM
open PySem PySem.Spec PyProof.Rows
/-- an iterator at `it` over what stands at `l`: xs, at place k -/
structure ItK (it l : Addr) (S : Heap → Nat → Prop) (xs : Array Value) : Prop where
  item : ∀ {prog : Program} {w : World} {A : Around} {E : Value → Shared → Prop} {s : Shared} {k : Nat} {x : Value} {Q : Value → Shared → Prop}, S s.heap k → xs[k]? = some x →
    (∀ h', S h' (k + 1) → Heap.SameBut it s.heap h' → Q x { s with heap := h' }) → wpAny (model prog w) A (Builtin.SmallTypes.nextOf (.ref it)) Q E s
  stop : ∀ {prog : Program} {w : World} {A : Around} {E : Value → Shared → Prop} {s : Shared} {k : Nat} {Q : Value → Shared → Prop}, A.handled = none → S s.heap k → xs[k]? = none →
    (∀ h' e, Heap.ExtBut it s.heap h' → (∃ o, h'.get? e = some o ∧ o.cls = .type "StopIteration") → E (.ref e) { s with heap := h' }) → wpAny (model prog w) A (Builtin.SmallTypes.nextOf (.ref it)) Q E s
  ext : ∀ {h h' : Heap} {k : Nat} {c : Addr}, S h k → Heap.ExtBut c h h' → it ≠ c → l ≠ c → S h' k
  at_ : ∀ {h h' : Heap} {k : Nat}, S h k → (∀ c o, (c = it ∨ c = l) → h.get? c = some o → h'.get? c = some o) → S h' k
theorem itk_list {it l : Addr} {xs : Array Value} (hne : l ≠ it) : ItK it l (fun h k => h.IsListIter it l k ∧ h.IsList l xs) xs where
  item := fun hs hx q => wpAny_nextOf_list_item hs.1 hs.2 hx fun h' h1 h2 => q h' ⟨h1, hs.2.extBut h2.extBut hne⟩ h2
  stop := fun hh hs hx q => wpAny_nextOf_list_end hh hs.1 hs.2 hx q
  ext := fun hs e h1 h2 => ⟨hs.1.extBut e h1, hs.2.extBut e h2⟩
  at_ := fun hs e => ⟨hs.1.at fun o => e _ o (.inl rfl), by
    obtain ⟨o, ho, r⟩ := hs.2
    exact ⟨o, e _ o (.inr rfl) ho, r⟩⟩
theorem itk_tup {it l : Addr} {xs : Array Value} (hne : l ≠ it) : ItK it l (fun h k => h.IsTupleIter it l k ∧ h.IsTuple l xs) xs where
  item := fun hs hx q => RZ.nextOf_tuple_item hs.1 hs.2 hx fun h' h1 h2 => q h' ⟨h1, hs.2.extBut h2.extBut hne⟩ h2
  stop := fun hh hs hx q => RZ.nextOf_tuple_end hh hs.1 hs.2 hx q
  ext := fun hs e h1 h2 => ⟨hs.1.extBut e h1, hs.2.extBut e h2⟩
  at_ := fun hs e => ⟨hs.1.at fun o => e _ o (.inl rfl), by
    obtain ⟨o, ho, r⟩ := hs.2
    exact ⟨o, e _ o (.inr rfl) ho, r⟩⟩
section
variable {prog : Program} {w : World} {A : Around} {E : Value → Shared → Prop} {s : Shared}
theorem next_item {z TI TO i1 i2 l1 l2 : Addr} {S1 S2 : Heap → Nat → Prop} {k1 k2 : Nat} {xs ys : Array Value} {x y a b : Value} {Q : Value → Shared → Prop} (D : ZipApart z TI TO i1 i2 l1 l2)
    (K1 : ItK i1 l1 S1 xs) (K2 : ItK i2 l2 S2 ys) (hz : IsZip s.heap z TI TO .none) (hTI : IsPair s.heap TI (.ref i1) (.ref i2)) (hTO : IsPair s.heap TO a b)
    (h1 : S1 s.heap k1) (h2 : S2 s.heap k2) (hx : xs[k1]? = some x) (hy : ys[k2]? = some y)
    (hQ : ∀ h', IsZip h' z TI TO (rawInt s.heap.objs.size) → IsPair h' TO x y → S1 h' (k1 + 1) → S2 h' (k2 + 1) → IsPair h' s.heap.objs.size x y → h'.objs.size = s.heap.objs.size + 1 →
      (∀ c o, c ≠ z → c ≠ TO → c ≠ i1 → c ≠ i2 → s.heap.get? c = some o → h'.get? c = some o) → Q (.ref s.heap.objs.size) { s with heap := h' }) :
    wpAny (model prog w) A (Builtin.«zip.__next__» ⟨[.ref z], []⟩) (fun fin s' => ∃ v, fin = .done (.ret v) ∧ Q v s') E s := by
  show wpAny _ _ (field (.ref z) 2 >>= _) _ _ _
  refine wpAny_bind (wpAny_field hz rfl (x := .bool false) rfl ?_)
  show wpAny _ _ (field (.ref z) 3 >>= _) _ _ _
  refine wpAny_bind (wpAny_field hz rfl (x := .ref TI) rfl ?_)
  refine wpAny_bind (wpAny_seqItems hTI rfl ?_)
  show wpAny _ _ (Builtin.SmallTypes.ownedTupleIsFree (.ref z) >>= _) _ _ _
  refine wpAny_bind ?_
  unfold Builtin.SmallTypes.ownedTupleIsFree
  refine wpAny_bind (wpAny_field hz rfl (x := .none) rfl (wpAny_pure ?_))
  simp only [if_true]
  refine wpAny_bind (wpAny_rule ?_)
  refine wpAny_bind (wpAny_field hz rfl (x := .ref TO) rfl ?_)
  refine wpAny_bind (wpAny_setField_rec hz (by simp) fun g1 z1 s1 => ?_)
  replace z1 : IsZip g1 z TI TO .ellipsis := z1
  refine wpAny_bind ?_
  simp only [List.zipIdx_cons, List.zipIdx_nil, List.forIn_cons, List.forIn_nil]
  refine wpAny_bind (wpAny_bind (wpAny_onRaise ?_))
  show wpAny _ _ (Builtin.SmallTypes.nextOf (.ref i1) >>= _) _ _ _
  refine wpAny_bind (K1.item (K1.ext h1 s1.extBut D.i1z D.l1z) hx fun g2 h12 s2 => wpAny_pure ?_)
  have t2 : IsPair g2 TO a b := s2.extBut _ _ D.TOi1 (s1.extBut _ _ D.TOz hTO)
  refine wpAny_bind (wpAny_seqItems t2 rfl ?_)
  refine wpAny_bind (wpAny_updateSeq_pair t2 fun g3 t3 s3 => ?_)
  replace t3 : IsPair g3 TO x b := t3
  refine wpAny_bind (wpAny_letGo (wpAny_pure ?_))
  refine wpAny_bind (wpAny_bind (wpAny_onRaise ?_))
  show wpAny _ _ (Builtin.SmallTypes.nextOf (.ref i2) >>= _) _ _ _
  refine wpAny_bind (K2.item (K2.ext (K2.ext (K2.ext h2 s1.extBut D.i2z D.l2z) s2.extBut D.i12.symm D.l2i1) s3.extBut D.TOi2.symm D.l2TO) hy fun g4 h24 s4 => wpAny_pure ?_)
  have t4 : IsPair g4 TO x b := s4.extBut _ _ D.TOi2 t3
  refine wpAny_bind (wpAny_seqItems t4 rfl ?_)
  refine wpAny_bind (wpAny_updateSeq_pair t4 fun g5 t5 s5 => ?_)
  replace t5 : IsPair g5 TO x y := t5
  refine wpAny_bind (wpAny_letGo (wpAny_pure (wpAny_pure ?_)))
  refine wpAny_bind (wpAny_seqItems t5 rfl ?_)
  refine wpAny_bind (wpAny_newTuple ?_)
  have hsz : g5.objs.size = s.heap.objs.size := by rw [s5.1, s4.1, s3.1, s2.1, s1.1]
  have z5 : IsZip g5 z TI TO .ellipsis := s5.extBut _ _ D.TOz.symm (s4.extBut _ _ D.i2z.symm (s3.extBut _ _ D.TOz.symm (s2.extBut _ _ D.i1z.symm z1)))
  have keep : ∀ c o, c ≠ z → c ≠ TO → c ≠ i1 → c ≠ i2 → s.heap.get? c = some o → g5.get? c = some o := fun c o c1 c2 c3 c4 e =>
    s5.extBut _ _ c2 (s4.extBut _ _ c4 (s3.extBut _ _ c2 (s2.extBut _ _ c3 (s1.extBut _ _ c1 e))))
  have h15 : S1 g5 (k1 + 1) := K1.ext (K1.ext (K1.ext h12 s3.extBut D.TOi1.symm D.l1TO) s4.extBut D.i12 D.l1i2) s5.extBut D.TOi1.symm D.l1TO
  have h25 : S2 g5 (k2 + 1) := K2.ext h24 s5.extBut D.TOi2.symm D.l2TO
  have hzlt : z < g5.objs.size := Heap.lt_size z5
  show wpAny _ _ (Builtin.SmallTypes.ownedTupleHandOut (.ref z) (.ref g5.objs.size) >>= _) _ _ _
  refine wpAny_bind ?_
  unfold Builtin.SmallTypes.ownedTupleHandOut
  have z6 : IsZip (g5.push { cls := .type "tuple", data := .seq #[x, y] }) z TI TO .ellipsis := Heap.get?_push_of_some _ z5
  refine wpAny_bind (wpAny_setField_rec z6 (by simp) fun g7 z7 s7 => ?_)
  replace z7 : IsZip g7 z TI TO (rawInt g5.objs.size) := z7
  refine wpAny_setField_rec z7 (by simp) fun g8 z8 s8 => ?_
  replace z8 : IsZip g8 z TI TO (rawInt g5.objs.size) := z8
  have up : ∀ c o, c ≠ z → g5.get? c = some o → g8.get? c = some o := fun c o c1 e => s8.extBut _ _ c1 (s7.extBut _ _ c1 (Heap.get?_push_of_some _ e))
  have n8 : IsPair g8 g5.objs.size x y := s8.extBut _ _ (Nat.ne_of_gt hzlt) (s7.extBut _ _ (Nat.ne_of_gt hzlt) (Heap.get?_push_size _ rfl))
  have sz8 : g8.objs.size = g5.objs.size + 1 := by rw [s8.1, s7.1, Heap.size_push]
  rw [hsz] at z8 n8 sz8
  refine wpAny_pure ⟨_, rfl, ?_⟩
  show Q (.ref g5.objs.size) _
  rw [hsz]
  exact hQ g8 z8 (up _ _ D.TOz t5) (K1.at_ h15 fun c o hc e => up c o (hc.elim (fun q => by rw [q]; exact D.i1z) fun q => by rw [q]; exact D.l1z) e) (K2.at_ h25 fun c o hc e => up c o (hc.elim (fun q => by rw [q]; exact D.i2z) fun q => by rw [q]; exact D.l2z) e) n8 sz8 fun c o c1 c2 c3 c4 e => up c o c1 (keep c o c1 c2 c3 c4 e)
theorem next_stop {z TI TO i1 i2 l1 l2 : Addr} {S1 S2 : Heap → Nat → Prop} {k1 k2 : Nat} {xs ys : Array Value} {a b : Value} {Q : Fin → Shared → Prop} (hh : A.handled = none) (D : ZipApart z TI TO i1 i2 l1 l2)
    (K1 : ItK i1 l1 S1 xs) (K2 : ItK i2 l2 S2 ys) (hz : IsZip s.heap z TI TO .none) (hTI : IsPair s.heap TI (.ref i1) (.ref i2)) (hTO : IsPair s.heap TO a b)
    (h1 : S1 s.heap k1) (h2 : S2 s.heap k2) (hend : xs[k1]? = none ∨ ys[k2]? = none)
    (hE : ∀ h' e, (∀ c o, c ≠ z → c ≠ TO → c ≠ i1 → c ≠ i2 → s.heap.get? c = some o → h'.get? c = some o) → (∃ o, h'.get? e = some o ∧ o.cls = .type "StopIteration") → E (.ref e) { s with heap := h' }) :
    wpAny (model prog w) A (Builtin.«zip.__next__» ⟨[.ref z], []⟩) Q E s := by
  show wpAny _ _ (field (.ref z) 2 >>= _) _ _ _
  refine wpAny_bind (wpAny_field hz rfl (x := .bool false) rfl ?_)
  show wpAny _ _ (field (.ref z) 3 >>= _) _ _ _
  refine wpAny_bind (wpAny_field hz rfl (x := .ref TI) rfl ?_)
  refine wpAny_bind (wpAny_seqItems hTI rfl ?_)
  show wpAny _ _ (Builtin.SmallTypes.ownedTupleIsFree (.ref z) >>= _) _ _ _
  refine wpAny_bind ?_
  unfold Builtin.SmallTypes.ownedTupleIsFree
  refine wpAny_bind (wpAny_field hz rfl (x := .none) rfl (wpAny_pure ?_))
  simp only [if_true]
  refine wpAny_bind (wpAny_rule ?_)
  refine wpAny_bind (wpAny_field hz rfl (x := .ref TO) rfl ?_)
  refine wpAny_bind (wpAny_setField_rec hz (by simp) fun g1 z1 s1 => ?_)
  replace z1 : IsZip g1 z TI TO .ellipsis := z1
  refine wpAny_bind ?_
  simp only [List.zipIdx_cons, List.zipIdx_nil, List.forIn_cons, List.forIn_nil]
  refine wpAny_bind (wpAny_bind (wpAny_onRaise ?_))
  show wpAny _ _ (Builtin.SmallTypes.nextOf (.ref i1) >>= _) _ _ _
  have off : ∀ {h : Heap} {e : Addr} {oe o : Obj}, h.get? e = some oe → oe.cls = .type "StopIteration" → h.get? z = some o → o.cls = .type "zip" → e ≠ z := fun he hc ho hz' q => by
    subst q
    rw [he] at ho
    cases ho
    rw [hc] at hz'
    exact absurd hz' (by decide)
  cases hx : xs[k1]? with
  | none =>
    refine wpAny_bind (K1.stop hh (K1.ext h1 s1.extBut D.i1z D.l1z) hx fun g2 e s2 he => ?_)
    obtain ⟨oe, hoe, hce⟩ := he
    have z2 : IsZip g2 z TI TO .ellipsis := s2 _ _ D.i1z.symm z1
    refine wpAny_setField_rec z2 (by simp) fun g3 _ s3 => hE g3 e (fun c o c1 _ c3 _ x => s3.extBut _ _ c1 (s2 _ _ c3 (s1.extBut _ _ c1 x))) ⟨oe, s3.extBut _ _ (off hoe hce z2 rfl) hoe, hce⟩
  | some x =>
    have hy : ys[k2]? = none := by rcases hend with h | h; rw [hx] at h; cases h; exact h
    refine wpAny_bind (K1.item (K1.ext h1 s1.extBut D.i1z D.l1z) hx fun g2 h12 s2 => wpAny_pure ?_)
    have t2 : IsPair g2 TO a b := s2.extBut _ _ D.TOi1 (s1.extBut _ _ D.TOz hTO)
    refine wpAny_bind (wpAny_seqItems t2 rfl ?_)
    refine wpAny_bind (wpAny_updateSeq_pair t2 fun g3 t3 s3 => ?_)
    refine wpAny_bind (wpAny_letGo (wpAny_pure ?_))
    refine wpAny_bind (wpAny_bind (wpAny_onRaise ?_))
    show wpAny _ _ (Builtin.SmallTypes.nextOf (.ref i2) >>= _) _ _ _
    refine wpAny_bind (K2.stop hh (K2.ext (K2.ext (K2.ext h2 s1.extBut D.i2z D.l2z) s2.extBut D.i12.symm D.l2i1) s3.extBut D.TOi2.symm D.l2TO) hy fun g4 e s4 he => ?_)
    obtain ⟨oe, hoe, hce⟩ := he
    have z4 : IsZip g4 z TI TO .ellipsis := s4 _ _ D.i2z.symm (s3.extBut _ _ D.TOz.symm (s2.extBut _ _ D.i1z.symm z1))
    refine wpAny_setField_rec z4 (by simp) fun g5 _ s5 => hE g5 e (fun c o c1 c2 c3 c4 x => s5.extBut _ _ c1 (s4 _ _ c4 (s3.extBut _ _ c2 (s2.extBut _ _ c3 (s1.extBut _ _ c1 x))))) ⟨oe, s5.extBut _ _ (off hoe hce z4 rfl) hoe, hce⟩
theorem py_item {z TI TO i1 i2 l1 l2 : Addr} {S1 S2 : Heap → Nat → Prop} {k1 k2 : Nat} {xs ys : Array Value} {x y a b : Value} {Q : Option Value → Shared → Prop} (D : ZipApart z TI TO i1 i2 l1 l2)
    (K1 : ItK i1 l1 S1 xs) (K2 : ItK i2 l2 S2 ys) (hz : IsZip s.heap z TI TO .none) (hTI : IsPair s.heap TI (.ref i1) (.ref i2)) (hTO : IsPair s.heap TO a b)
    (h1 : S1 s.heap k1) (h2 : S2 s.heap k2) (hx : xs[k1]? = some x) (hy : ys[k2]? = some y)
    (hQ : ∀ h', IsZip h' z TI TO (rawInt s.heap.objs.size) → IsPair h' TO x y → S1 h' (k1 + 1) → S2 h' (k2 + 1) → IsPair h' s.heap.objs.size x y → h'.objs.size = s.heap.objs.size + 1 →
      (∀ c o, c ≠ z → c ≠ TO → c ≠ i1 → c ≠ i2 → s.heap.get? c = some o → h'.get? c = some o) → Q (some (.ref s.heap.objs.size)) { s with heap := h' }) :
    wpAny (model prog w) A (pyNext (.ref z)) Q E s := by
  have hT : s.TypeIs (.ref z) "zip" := ⟨_, hz, rfl⟩
  unfold pyNext
  exact wpAny_bind (wpAny_attempt (wpAny_callSpecial?_slot (name := Str.ofString "__next__") hT F.slot_zip_next
    (wpAny_call_entry F.slot_zip_next hT F.entry_zip_next
      (next_item D K1 K2 hz hTI hTO h1 h2 hx hy fun h' a1 a2 a3 a4 a5 a6 a7 => wpAny_pure (hQ h' a1 a2 a3 a4 a5 a6 a7)) (F.args_zip_next_1 _))))
theorem py_stop {z TI TO i1 i2 l1 l2 : Addr} {S1 S2 : Heap → Nat → Prop} {k1 k2 : Nat} {xs ys : Array Value} {a b : Value} {Q : Option Value → Shared → Prop} (hh : A.handled = none) (D : ZipApart z TI TO i1 i2 l1 l2)
    (K1 : ItK i1 l1 S1 xs) (K2 : ItK i2 l2 S2 ys) (hz : IsZip s.heap z TI TO .none) (hTI : IsPair s.heap TI (.ref i1) (.ref i2)) (hTO : IsPair s.heap TO a b)
    (h1 : S1 s.heap k1) (h2 : S2 s.heap k2) (hend : xs[k1]? = none ∨ ys[k2]? = none)
    (hQ : ∀ h', (∀ c o, c ≠ z → c ≠ TO → c ≠ i1 → c ≠ i2 → s.heap.get? c = some o → h'.get? c = some o) → Q none { s with heap := h' }) : wpAny (model prog w) A (pyNext (.ref z)) Q E s := by
  have hT : s.TypeIs (.ref z) "zip" := ⟨_, hz, rfl⟩
  unfold pyNext
  refine wpAny_bind (wpAny_attempt (wpAny_callSpecial?_slot (name := Str.ofString "__next__") hT F.slot_zip_next
    (wpAny_call_entry F.slot_zip_next hT F.entry_zip_next (next_stop hh D K1 K2 hz hTI hTO h1 h2 hend fun h' e hk he => ?_) (F.args_zip_next_1 _))))
  obtain ⟨o, ho, hc⟩ := he
  refine wpAny_bind (wpAny_isInstance (T := "StopIteration") (b := true) ⟨o, ho, hc⟩ isSubtype_stop ?_)
  exact wpAny_pure (hQ _ hk)
end
end ZM
namespace ZM
open PySem PySem.Spec PyProof.Rows L2 RZ
abbrev mH1 (h : Heap) (l1 : Addr) : Heap := h.push { cls := .type "tuple_iterator", data := .fields #[.ref l1, .int 0 0] }
abbrev mH2 (h : Heap) (l1 l2 : Addr) : Heap := (mH1 h l1).push { cls := .type "list_iterator", data := .fields #[.ref l2, .int 0 0] }
abbrev mH3 (h : Heap) (l1 l2 : Addr) : Heap := (mH2 h l1 l2).push { cls := .type "tuple", data := .seq #[.ref h.objs.size, .ref (mH1 h l1).objs.size] }
abbrev mH4 (h : Heap) (l1 l2 : Addr) : Heap := (mH3 h l1 l2).push { cls := .type "tuple", data := .seq #[.none, .none] }
abbrev mH5 (h : Heap) (l1 l2 : Addr) : Heap := (mH4 h l1 l2).push { cls := .type "zip", data := .fields #[.none, .bool false, .bool false, .ref (mH2 h l1 l2).objs.size, .ref (mH3 h l1 l2).objs.size] }
theorem meets_new (l1 l2 : Addr) (xs ys : Array Value) :
    Meets (Builtin.«zip.__new__» ⟨[.type "zip", .ref l1, .ref l2], []⟩) (fun _ R s => s.heap.IsTuple l1 xs ∧ s.heap.IsList l2 ys ∧
      R (.ok (.ret (.ref (mH4 s.heap l1 l2).objs.size))) { s with heap := mH5 s.heap l1 l2 }) :=
  .of_wp fun prog w A R s h => by
    obtain ⟨hp, g, d, tk, os⟩ := s; obtain ⟨hl1, hl2, h⟩ := h
    have hsub := sub_zip
    have hL1 : Heap.IsTuple (Shared.heap ⟨hp, g, d, tk, os⟩) l1 xs := hl1
    have hL2 : Heap.IsList (Shared.heap ⟨hp.push { cls := .type "tuple_iterator", data := .fields #[.ref l1, .int 0 0] }, g, d, tk, os⟩) l2 ys := Heap.IsList.push hl2 _
    wp_walk using wpAny_pyIter_tuple hL1, wpAny_pyIter_list hL2
    exact ⟨_, rfl, h⟩
end ZM
namespace L2
open PySem PySem.Spec PyProof.Rows ZM
end L2
namespace L2
open PySem PySem.Spec PyProof.Rows
/-- what isinstance asks of a class of its own, of its instances -/
structure InsT (K : PySem.W.Frag) (C : Addr) : Prop where
  cl : PySem.W.findIn K (.ref C) "__class__" = some (some (.builtin "object.__class__"))
  gn : PySem.W.specialIn K (.builtin "object.__class__") "__get__" = some (some (.builtin "getset_descriptor.__get__"))
  tk : PySem.W.takesIn K (.builtin "object.__class__") = some true
  ob : PySem.W.mroIn K C (.type "object") = some true
end L2
namespace L2
open PySem PySem.Spec PyProof.Rows
end L2
namespace L2
open PySem PySem.Spec PyProof.Rows LamX
section
variable {P : Program} {w : World} {K : PySem.W.Frag} {mg : Str → Option Value} {base : Heap}
theorem Fun.okXc {x qual : Str} {st : Stmt} {f : Addr} {fd : FuncData} {N ps : List Str} {k : Nat} {sp : Sp} (F : Fun K x qual st f fd) (S : FnScope N ps (defScope st)) (len : ∀ vs H Q E, sp vs H Q E → vs.length = ps.length)
    (hbody : ∀ (A : Around) (outer : List Env) (s : Shared) (H : Hp) (vs : List V) (Q : VK) (E : XK), Room k (A.deeper (envOfC qual (defScope st) s.heap.objs.size f fd.code)) → sp vs H Q E →
      ∃ t, PSs (cxOf (L2.CX P w) P w K mg base N qual (defScope st) f fd.code A outer s H E) (defBody st) t ∧ t { nx := fun _ H' => Q .non H', rt := Q } (start N vs) H) : FnOk P w K mg base (L2.CX P w) (k + 1) f fd ps sp := by
  obtain ⟨oc, od, kV, doc, pm, an, cdv, ct, osl, rfl, lk, hcd⟩ := F.ex
  exact fn_of lk hcd S len fun A outer s H vs Q E hr hsp => hbody A outer s H vs Q E hr hsp
end
/-- all but p and the tables stay -/
def DN (p : Addr) (H H' : Hp) : Prop := ∀ b o, b ≠ p → H b = some o → (∀ ps, o ≠ .tbl ps) → H' b = some o
theorem DN.rfl' {p : Addr} {H : Hp} : DN p H H := fun _ _ _ h _ => h
theorem DN.trans {p : Addr} {H H1 H2 : Hp} (a : DN p H H1) (b : DN p H1 H2) : DN p H H2 := fun c o n h z => b c o n (a c o n h z) z
theorem DN.ofN {p : Addr} {H H' : Hp} (e : ExtN H H') : DN p H H' := fun b o _ h z => e b o h z
theorem DN.of {p : Addr} {H H' : Hp} (e : Ext H H') : DN p H H' := fun b o _ h _ => e b o h
theorem DN.de {p : Addr} {H H' : Hp} (e : DE p H H') : DN p H H' := fun b o n h _ => e.to h n
theorem DN.lst {p q : Addr} {H H' : Hp} {l : List V} (e : DN p H H') (h : H q = some (.lst l)) (n : q ≠ p) : H' q = some (.lst l) := e q _ n h fun _ z => by cases z
theorem tabs_ne {T : List (Addr × Str)} {H : Hp} {p : Addr × Str} {q : Addr} {l : List V} (t : Tabs T H) (hp : p ∈ T) (h : H q = some (.lst l)) : p.1 ≠ q := fun z => by
  obtain ⟨ps, h1, _⟩ := t p hp
  rw [z, h] at h1
  cases h1
/-- the tables are kept by what keeps all but a list -/
theorem tabs_keep {T : List (Addr × Str)} {H H' : Hp} {q : Addr} {l : List V} (t : Tabs T H) (h : H q = some (.lst l)) (e : ∀ b o, b ≠ q → H b = some o → H' b = some o) : Tabs T H' := fun p hp => by
  have n := tabs_ne t hp h
  obtain ⟨ps, h1, h2, h3⟩ := t p hp
  refine ⟨ps, e _ _ n h1, h2, fun pos cv hc => ?_⟩
  obtain ⟨c, e1, e2⟩ := h3 pos cv hc
  exact ⟨c, e1, e c _ (fun z => by
    rw [z, h] at e2
    unfold CodeO at e2
    cases e2) e2⟩
theorem tabs_de {T : List (Addr × Str)} {H H' : Hp} {q : Addr} {l : List V} (t : Tabs T H) (h : H q = some (.lst l)) (e : DE q H H') : Tabs T H' := tabs_keep t h fun b o n z => e.to z n
theorem tabs_upd {T : List (Addr × Str)} {H : Hp} {q : Addr} {l : List V} {o : HO} (t : Tabs T H) (h : H q = some (.lst l)) : Tabs T (L2.upd H q o) := tabs_keep t h fun b o n z => by rw [upd_ne n]; exact z
theorem SqT.extN {K : PySem.W.Frag} {H H' : Hp} {a : Addr} {xs : List V} (e : ExtN H H') (s : SqT K H a xs) : SqT K H' a xs := by
  rcases s with (r | ⟨o, r⟩) | r
  · exact .inl (.inl (e _ _ r fun _ z => by cases z))
  · exact .inl (.inr ⟨o, e _ _ r fun _ z => by cases z⟩)
  · exact .inr r
theorem SqL.extN {K : PySem.W.Frag} {H H' : Hp} {a : Addr} {xs : List V} (e : ExtN H H') (s : SqL K H a xs) : SqL K H' a xs := by
  rcases s with (r | ⟨o, r⟩) | r
  · exact .inl (.inl (e _ _ r fun _ z => by cases z))
  · exact .inl (.inr ⟨o, e _ _ r fun _ z => by cases z⟩)
  · exact .inr r
mutual
theorem Is.extN {K : PySem.W.Frag} {H H' : Hp} (e : ExtN H H') : ∀ {d : Dt} {v : V}, Is K H d v → Is K H' d v
  | .non, _, h => h
  | .bl _, _, h => h
  | .int _, _, h => h
  | .str _, _, h => h
  | .lst _, _, ⟨a, xs, h1, h2, h3⟩ => ⟨a, xs, h1, h2.extN e, IsL.extN e h3⟩
  | .tup _, _, ⟨a, xs, h1, h2, h3⟩ => ⟨a, xs, h1, h2.extN e, IsL.extN e h3⟩
  | .dic _ _, _, ⟨a, kvs, h1, h2, h3, h4⟩ => ⟨a, kvs, h1, e _ _ h2 (fun _ z => by cases z), h3, IsL.extN e h4⟩
  | .ins _ _ _, _, ⟨a, dx, kvs, h1, h2, h3, h4⟩ => ⟨a, dx, kvs, h1, e _ _ h2 (fun _ z => by cases z), h3, IsL.extN e h4⟩
theorem IsL.extN {K : PySem.W.Frag} {H H' : Hp} (e : ExtN H H') : ∀ {ds : List Dt} {vs : List V}, IsL K H ds vs → IsL K H' ds vs
  | [], _, h => h
  | _ :: _, _, ⟨v, r, h1, h2, h3⟩ => ⟨v, r, h1, Is.extN e h2, IsL.extN e h3⟩
end
end L2
namespace L2
open PySem PySem.Spec PyProof.Rows LamX NdefX
end L2
namespace L2
open PySem PySem.Spec PyProof.Rows LamX NdefX
mutual
def noL : Dt → Bool
  | .lst _ => false
  | .tup ds => noLL ds
  | .dic _ ds => noLL ds
  | .ins _ _ ds => noLL ds
  | _ => true
def noLL : List Dt → Bool
  | [] => true
  | d :: ds => noL d && noLL ds
end
theorem SqT.keep {K : PySem.W.Frag} {H H' : Hp} {a G : Addr} {xs l : List V} (h : H G = some (.lst l)) (e : ∀ b o, b ≠ G → H b = some o → H' b = some o) (s : SqT K H a xs) : SqT K H' a xs := by
  rcases s with (r | ⟨o, r⟩) | r
  · exact .inl (.inl (e _ _ (fun z => by rw [z, h] at r; cases r) r))
  · exact .inl (.inr ⟨o, e _ _ (fun z => by rw [z, h] at r; cases r) r⟩)
  · exact .inr r
mutual
theorem Is.keep {K : PySem.W.Frag} {H H' : Hp} {G : Addr} {l : List V} (h : H G = some (.lst l)) (e : ∀ b o, b ≠ G → H b = some o → H' b = some o) : ∀ {d : Dt} {v : V}, noL d = true → Is K H d v → Is K H' d v
  | .non, _, _, i => i
  | .bl _, _, _, i => i
  | .int _, _, _, i => i
  | .str _, _, _, i => i
  | .lst _, _, n, _ => by cases n
  | .tup _, _, n, ⟨a, xs, h1, h2, h3⟩ => ⟨a, xs, h1, h2.keep h e, IsL.keep h e n h3⟩
  | .dic _ _, _, n, ⟨a, kvs, h1, h2, h3, h4⟩ => ⟨a, kvs, h1, e _ _ (fun z => by rw [z, h] at h2; cases h2) h2, h3, IsL.keep h e n h4⟩
  | .ins _ _ _, _, n, ⟨a, dx, kvs, h1, h2, h3, h4⟩ => ⟨a, dx, kvs, h1, e _ _ (fun z => by rw [z, h] at h2; cases h2) h2, h3, IsL.keep h e n h4⟩
theorem IsL.keep {K : PySem.W.Frag} {H H' : Hp} {G : Addr} {l : List V} (h : H G = some (.lst l)) (e : ∀ b o, b ≠ G → H b = some o → H' b = some o) : ∀ {ds : List Dt} {vs : List V}, noLL ds = true → IsL K H ds vs → IsL K H' ds vs
  | [], _, _, i => i
  | _ :: _, _, n, ⟨v, r, h1, h2, h3⟩ => by
    have n' := (Bool.and_eq_true _ _).mp n
    exact ⟨v, r, h1, Is.keep h e n'.1 h2, IsL.keep h e n'.2 h3⟩
end
theorem Is.updL {K : PySem.W.Frag} {H : Hp} {G : Addr} {l : List V} {o : HO} {d : Dt} {v : V} (i : Is K H d v) (n : noL d = true) (h : H G = some (.lst l)) : Is K (upd H G o) d v := Is.keep h (fun b o' nb z => by rw [upd_ne nb]; exact z) n i
theorem Is.delL {K : PySem.W.Frag} {H : Hp} {G : Addr} {l : List V} {d : Dt} {v : V} (i : Is K H d v) (n : noL d = true) (h : H G = some (.lst l)) : Is K (del H G) d v := Is.keep h (fun b o' nb z => by rw [del_ne nb]; exact z) n i
theorem noL_ints : ∀ ns : List Int, noLL (ns.map Dt.int) = true
  | [] => rfl
  | _ :: r => noL_ints r
end L2
namespace L2
open PySem PySem.Spec PyProof.Rows LamX NdefX
end L2
namespace K22
open PySem L2
def topS (i : Nat) : Stmt := PySem.Challenge.pw_hookspans_k22_stands_and_moves.main.body.getD i (.Pass ⟨0, 0, 0, 0⟩)
abbrev s_divisor : Stmt := topS 12
abbrev N_divisor : List Str := ["numbers", "common", "number"]
theorem sc_divisor : FnScope N_divisor ["numbers"] (defScope s_divisor) := ⟨rfl, rfl, rfl, by decide +kernel, rfl, by decide +kernel, by decide +kernel⟩
abbrev s_lowest : Stmt := topS 13
abbrev N_lowest : List Str := ["tops", "bottom", "common", "top"]
theorem sc_lowest : FnScope N_lowest ["tops", "bottom"] (defScope s_lowest) := ⟨rfl, rfl, rfl, by decide +kernel, rfl, by decide +kernel, by decide +kernel⟩
abbrev s_check_places : Stmt := topS 16
abbrev N_check_places : List Str := ["web", "places", "at", "bar"]
theorem sc_check_places : FnScope N_check_places ["web", "places"] (defScope s_check_places) := ⟨rfl, rfl, rfl, by decide +kernel, rfl, by decide +kernel, by decide +kernel⟩
abbrev s_bar_rows : Stmt := topS 18
abbrev N_bar_rows : List Str := ["web", "numbers", "parts", "rows", "bar", "number", "row"]
theorem sc_bar_rows : FnScope N_bar_rows ["web", "numbers", "parts"] (defScope s_bar_rows) := ⟨rfl, rfl, rfl, by decide +kernel, rfl, by decide +kernel, by decide +kernel⟩
abbrev s_determinant_at : Stmt := topS 19
abbrev N_determinant_at : List Str := ["web", "numbers", "parts", "table", "_", "kept", "shared"]
theorem sc_determinant_at : FnScope N_determinant_at ["web", "numbers", "parts"] (defScope s_determinant_at) := ⟨rfl, rfl, rfl, by decide +kernel, rfl, by decide +kernel, by decide +kernel⟩
abbrev s_heights_at : Stmt := topS 20
abbrev N_heights_at : List Str := ["web", "numbers", "parts", "table", "asked", "rows", "kept", "shared", "sign", "held", "tops", "rod", "height", "row", "number"]
theorem sc_heights_at : FnScope N_heights_at ["web", "numbers", "parts"] (defScope s_heights_at) := ⟨rfl, rfl, rfl, by decide +kernel, rfl, by decide +kernel, by decide +kernel⟩
abbrev s_move_at : Stmt := topS 21
abbrev N_move_at : List Str := ["web", "numbers", "parts", "table", "rows", "kept", "shared", "hanging", "free", "moved", "column", "row"]
theorem sc_move_at : FnScope N_move_at ["web", "numbers", "parts"] (defScope s_move_at) := ⟨rfl, rfl, rfl, by decide +kernel, rfl, by decide +kernel, by decide +kernel⟩
abbrev s_table : Stmt := topS 22
abbrev N_table : List Str := ["web", "numbers", "parts", "hanging", "row", "rod"]
theorem sc_table : FnScope N_table ["web", "numbers", "parts"] (defScope s_table) := ⟨rfl, rfl, rfl, by decide +kernel, rfl, by decide +kernel, by decide +kernel⟩
abbrev s_asked : Stmt := topS 23
abbrev N_asked : List Str := ["web", "numbers", "parts", "held", "row", "height", "rod"]
theorem sc_asked : FnScope N_asked ["web", "numbers", "parts"] (defScope s_asked) := ⟨rfl, rfl, rfl, by decide +kernel, rfl, by decide +kernel, by decide +kernel⟩
abbrev s_cleared : Stmt := topS 24
abbrev N_cleared : List Str := ["rows", "width", "kept", "shared", "column", "at", "found", "k"]
theorem sc_cleared : FnScope N_cleared ["rows", "width"] (defScope s_cleared) := ⟨rfl, rfl, rfl, by decide +kernel, rfl, by decide +kernel, by decide +kernel⟩
abbrev s_swapped : Stmt := topS 25
abbrev N_swapped : List Str := ["rows", "at", "other", "number"]
theorem sc_swapped : FnScope N_swapped ["rows", "at", "other"] (defScope s_swapped) := ⟨rfl, rfl, rfl, by decide +kernel, rfl, by decide +kernel, by decide +kernel⟩
abbrev s_cleared_of : Stmt := topS 26
abbrev N_cleared_of : List Str := ["rows", "at", "column", "shared", "chief", "k", "row", "against", "number"]
theorem sc_cleared_of : FnScope N_cleared_of ["rows", "at", "column", "shared"] (defScope s_cleared_of) := ⟨rfl, rfl, rfl, by decide +kernel, rfl, by decide +kernel, by decide +kernel⟩
abbrev s_determinant : Stmt := topS 29
abbrev N_determinant : List Str := ["web", "places"]
theorem sc_determinant : FnScope N_determinant ["web", "places"] (defScope s_determinant) := ⟨rfl, rfl, rfl, by decide +kernel, rfl, by decide +kernel, by decide +kernel⟩
abbrev s_stand : Stmt := topS 30
abbrev N_stand : List Str := ["web", "places", "found", "tops", "bottom"]
theorem sc_stand : FnScope N_stand ["web", "places"] (defScope s_stand) := ⟨rfl, rfl, rfl, by decide +kernel, rfl, by decide +kernel, by decide +kernel⟩
abbrev s_move : Stmt := topS 31
abbrev N_move : List Str := ["web", "places", "moved", "common", "number"]
theorem sc_move : FnScope N_move ["web", "places"] (defScope s_move) := ⟨rfl, rfl, rfl, by decide +kernel, rfl, by decide +kernel, by decide +kernel⟩
abbrev s_check_rods : Stmt := topS 40
abbrev N_check_rods : List Str := ["rods", "held", "rod"]
theorem sc_check_rods : FnScope N_check_rods ["rods", "held"] (defScope s_check_rods) := ⟨rfl, rfl, rfl, by decide +kernel, rfl, by decide +kernel, by decide +kernel⟩
abbrev s_check_bars : Stmt := topS 41
abbrev N_check_bars : List Str := ["rods", "held", "bars", "wanted", "number", "bar"]
theorem sc_check_bars : FnScope N_check_bars ["rods", "held", "bars"] (defScope s_check_bars) := ⟨rfl, rfl, rfl, by decide +kernel, rfl, by decide +kernel, by decide +kernel⟩
abbrev s_check_bar : Stmt := topS 42
abbrev N_check_bar : List Str := ["rods", "number", "bar", "rod"]
theorem sc_check_bar : FnScope N_check_bar ["rods", "number", "bar"] (defScope s_check_bar) := ⟨rfl, rfl, rfl, by decide +kernel, rfl, by decide +kernel, by decide +kernel⟩
abbrev s_l_state : Stmt := topS 45
abbrev N_l_state : List Str := ["_law_source"]
theorem sc_l_state : FnScope N_l_state ["_law_source"] (defScope s_l_state) := ⟨rfl, rfl, rfl, by decide +kernel, rfl, by decide +kernel, by decide +kernel⟩
abbrev s_l_digit : Stmt := topS 46
abbrev N_l_digit : List Str := ["_law_state_here", "_law_base", "_law_found", "_law_mixed"]
theorem sc_l_digit : FnScope N_l_digit ["_law_state_here", "_law_base"] (defScope s_l_digit) := ⟨rfl, rfl, rfl, by decide +kernel, rfl, by decide +kernel, by decide +kernel⟩
abbrev s_l_bar : Stmt := topS 47
abbrev N_l_bar : List Str := ["_law_s", "_law_rods", "_law_most", "_law_hook", "_law_c", "_law_others", "_law_first", "_law_second", "_law_length", "_law_least", "_law_rod"]
theorem sc_l_bar : FnScope N_l_bar ["_law_s", "_law_rods", "_law_most", "_law_hook"] (defScope s_l_bar) := ⟨rfl, rfl, rfl, by decide +kernel, rfl, by decide +kernel, by decide +kernel⟩
abbrev s_l_web : Stmt := topS 48
abbrev N_l_web : List Str := ["_law_s", "_law_count", "_law_most", "_law_rods", "_law_first", "_law_held", "_law_hooks", "_law_turn", "_law_k", "_law_rod", "_law_hook"]
theorem sc_l_web : FnScope N_l_web ["_law_s", "_law_count", "_law_most"] (defScope s_l_web) := ⟨rfl, rfl, rfl, by decide +kernel, rfl, by decide +kernel, by decide +kernel⟩
abbrev s_l_made : Stmt := topS 49
abbrev N_l_made : List Str := ["_law_web_here", "_law_rods", "_law_held", "_law_bars", "_law_one"]
theorem sc_l_made : FnScope N_l_made ["_law_web_here"] (defScope s_l_made) := ⟨rfl, rfl, rfl, by decide +kernel, rfl, by decide +kernel, by decide +kernel⟩
abbrev s_l_keeps : Stmt := topS 50
abbrev N_l_keeps : List Str := ["_law_web_here", "_law_numbers", "_law_share", "_law_tops", "_law_bar_here", "_law_number", "_law_whole", "_law_due"]
theorem sc_l_keeps : FnScope N_l_keeps ["_law_web_here", "_law_numbers", "_law_share", "_law_tops"] (defScope s_l_keeps) := ⟨rfl, rfl, rfl, by decide +kernel, rfl, by decide +kernel, by decide +kernel⟩
abbrev s_l_said : Stmt := topS 51
abbrev N_l_said : List Str := ["_law_ask", "_law_found", "e", "_law_kinds"]
theorem sc_l_said : FnScope N_l_said ["_law_ask"] (defScope s_l_said) := ⟨rfl, rfl, rfl, by decide +kernel, rfl, by decide +kernel, by decide +kernel⟩
abbrev s_l_common : Stmt := topS 52
abbrev N_l_common : List Str := ["_law_numbers", "_law_found", "_law_number", "_law_one", "_law_other"]
theorem sc_l_common : FnScope N_l_common ["_law_numbers"] (defScope s_l_common) := ⟨rfl, rfl, rfl, by decide +kernel, rfl, by decide +kernel, by decide +kernel⟩
abbrev s_l_anywhere : Stmt := topS 53
abbrev N_l_anywhere : List Str := ["_law_s", "_law_bars", "_law_share", "_law_bar_here"]
theorem sc_l_anywhere : FnScope N_l_anywhere ["_law_s", "_law_bars", "_law_share"] (defScope s_l_anywhere) := ⟨rfl, rfl, rfl, by decide +kernel, rfl, by decide +kernel, by decide +kernel⟩
abbrev s_l_stand_right : Stmt := topS 54
abbrev N_l_stand_right : List Str := ["_law_web_here", "_law_numbers", "_law_share", "_law_found", "_law_rod"]
theorem sc_l_stand_right : FnScope N_l_stand_right ["_law_web_here", "_law_numbers", "_law_share", "_law_found"] (defScope s_l_stand_right) := ⟨rfl, rfl, rfl, by decide +kernel, rfl, by decide +kernel, by decide +kernel⟩
abbrev s_l_move_right : Stmt := topS 55
abbrev N_l_move_right : List Str := ["_law_web_here", "_law_numbers", "_law_share", "_law_found", "_law_rod"]
theorem sc_l_move_right : FnScope N_l_move_right ["_law_web_here", "_law_numbers", "_law_share", "_law_found"] (defScope s_l_move_right) := ⟨rfl, rfl, rfl, by decide +kernel, rfl, by decide +kernel, by decide +kernel⟩
abbrev s_l_odd_right : Stmt := topS 56
abbrev N_l_odd_right : List Str := ["_law_s", "_law_web_here", "_law_own", "_law_bars", "_law_at", "_law_good", "_law_off", "_law_some", "_law_numbers", "_law_due", "_law_places", "_law_said_here", "_law_bar_here"]
theorem sc_l_odd_right : FnScope N_l_odd_right ["_law_s", "_law_web_here", "_law_own"] (defScope s_l_odd_right) := ⟨rfl, rfl, rfl, by decide +kernel, rfl, by decide +kernel, by decide +kernel⟩
abbrev s_law : Stmt := topS 57
abbrev N_law : List Str := ["_law_script", "_law_number", "_law_s", "_law_web_here", "_law_own", "_law_share", "_law_numbers", "_law_places", "_law_stood", "_law_moved"]
theorem sc_law : FnScope N_law ["_law_script"] (defScope s_law) := ⟨rfl, rfl, rfl, by decide +kernel, rfl, by decide +kernel, by decide +kernel⟩
abbrev s_Bar_init : Stmt := inClass (topS 38) 0
abbrev N_Bar_init : List Str := ["self", "a", "b", "c", "length", "least", "greatest"]
theorem sc_Bar_init : FnScope N_Bar_init ["self", "a", "b", "c", "length", "least", "greatest"] (defScope s_Bar_init) := ⟨rfl, rfl, rfl, by decide +kernel, rfl, by decide +kernel, by decide +kernel⟩
abbrev s_Bar_eq : Stmt := inClass (topS 38) 1
abbrev s_Web_init : Stmt := inClass (topS 39) 0
abbrev N_Web_init : List Str := ["self", "rods", "held", "bars", "rod"]
theorem sc_Web_init : FnScope N_Web_init ["self", "rods", "held", "bars"] (defScope s_Web_init) := ⟨rfl, rfl, rfl, by decide +kernel, rfl, by decide +kernel, by decide +kernel⟩
abbrev s_Web_held : Stmt := inClass (topS 39) 1
abbrev N_Web_held : List Str := ["self"]
theorem sc_Web_held : FnScope N_Web_held ["self"] (defScope s_Web_held) := ⟨rfl, rfl, rfl, by decide +kernel, rfl, by decide +kernel, by decide +kernel⟩
abbrev s_Web_hanging : Stmt := inClass (topS 39) 2
abbrev N_Web_hanging : List Str := ["self", "rod"]
theorem sc_Web_hanging : FnScope N_Web_hanging ["self"] (defScope s_Web_hanging) := ⟨rfl, rfl, rfl, by decide +kernel, rfl, by decide +kernel, by decide +kernel⟩
abbrev s_Web_eq : Stmt := inClass (topS 39) 3
abbrev s_Places_init : Stmt := inClass (topS 15) 0
abbrev N_Places_init : List Str := ["self", "numbers", "parts"]
theorem sc_Places_init : FnScope N_Places_init ["self", "numbers", "parts"] (defScope s_Places_init) := ⟨rfl, rfl, rfl, by decide +kernel, rfl, by decide +kernel, by decide +kernel⟩
abbrev s_Places_eq : Stmt := inClass (topS 15) 1
abbrev s_Stand_init : Stmt := inClass (topS 28) 0
abbrev N_Stand_init : List Str := ["self", "tops", "bottom"]
theorem sc_Stand_init : FnScope N_Stand_init ["self", "tops", "bottom"] (defScope s_Stand_init) := ⟨rfl, rfl, rfl, by decide +kernel, rfl, by decide +kernel, by decide +kernel⟩
abbrev s_Stand_eq : Stmt := inClass (topS 28) 1
abbrev N_Stand_eq : List Str := ["self", "other"]
theorem sc_Stand_eq : FnScope N_Stand_eq ["self", "other"] (defScope s_Stand_eq) := ⟨rfl, rfl, rfl, by decide +kernel, rfl, by decide +kernel, by decide +kernel⟩
abbrev s_BadCount_init : Stmt := inClass (topS 3) 0
abbrev N_BadCount_init : List Str := ["self", "what", "count"]
theorem sc_BadCount_init : FnScope N_BadCount_init ["self", "what", "count"] (defScope s_BadCount_init) := ⟨rfl, rfl, rfl, by decide +kernel, rfl, by decide +kernel, by decide +kernel⟩
abbrev s_NoRod_init : Stmt := inClass (topS 4) 0
abbrev N_NoRod_init : List Str := ["self", "rod"]
theorem sc_NoRod_init : FnScope N_NoRod_init ["self", "rod"] (defScope s_NoRod_init) := ⟨rfl, rfl, rfl, by decide +kernel, rfl, by decide +kernel, by decide +kernel⟩
abbrev s_SameRod_init : Stmt := inClass (topS 5) 0
abbrev N_SameRod_init : List Str := ["self", "rod"]
theorem sc_SameRod_init : FnScope N_SameRod_init ["self", "rod"] (defScope s_SameRod_init) := ⟨rfl, rfl, rfl, by decide +kernel, rfl, by decide +kernel, by decide +kernel⟩
abbrev s_BadSpan_init : Stmt := inClass (topS 6) 0
abbrev N_BadSpan_init : List Str := ["self", "bar"]
theorem sc_BadSpan_init : FnScope N_BadSpan_init ["self", "bar"] (defScope s_BadSpan_init) := ⟨rfl, rfl, rfl, by decide +kernel, rfl, by decide +kernel, by decide +kernel⟩
abbrev s_NotSquare_init : Stmt := inClass (topS 7) 0
abbrev N_NotSquare_init : List Str := ["self", "bars", "wanted"]
theorem sc_NotSquare_init : FnScope N_NotSquare_init ["self", "bars", "wanted"] (defScope s_NotSquare_init) := ⟨rfl, rfl, rfl, by decide +kernel, rfl, by decide +kernel, by decide +kernel⟩
abbrev s_BadPlace_init : Stmt := inClass (topS 8) 0
abbrev N_BadPlace_init : List Str := ["self", "bar"]
theorem sc_BadPlace_init : FnScope N_BadPlace_init ["self", "bar"] (defScope s_BadPlace_init) := ⟨rfl, rfl, rfl, by decide +kernel, rfl, by decide +kernel, by decide +kernel⟩
/-- what the top has written -/
structure Tx (K : PySem.W.Frag) (mg : Str → Option Value) where
  a_divisor : Addr
  fd_divisor : FuncData
  F_divisor : Fun K "divisor" "divisor" s_divisor a_divisor fd_divisor
  b_divisor : Binds K fd_divisor ["numbers"] []
  m_divisor : mg "divisor" = some (.ref a_divisor)
  a_lowest : Addr
  fd_lowest : FuncData
  F_lowest : Fun K "lowest" "lowest" s_lowest a_lowest fd_lowest
  b_lowest : Binds K fd_lowest ["tops", "bottom"] []
  m_lowest : mg "lowest" = some (.ref a_lowest)
  a_check_places : Addr
  fd_check_places : FuncData
  F_check_places : Fun K "check_places" "check_places" s_check_places a_check_places fd_check_places
  b_check_places : Binds K fd_check_places ["web", "places"] []
  m_check_places : mg "check_places" = some (.ref a_check_places)
  a_bar_rows : Addr
  fd_bar_rows : FuncData
  F_bar_rows : Fun K "bar_rows" "bar_rows" s_bar_rows a_bar_rows fd_bar_rows
  b_bar_rows : Binds K fd_bar_rows ["web", "numbers", "parts"] []
  m_bar_rows : mg "bar_rows" = some (.ref a_bar_rows)
  a_determinant_at : Addr
  fd_determinant_at : FuncData
  F_determinant_at : Fun K "determinant_at" "determinant_at" s_determinant_at a_determinant_at fd_determinant_at
  b_determinant_at : Binds K fd_determinant_at ["web", "numbers", "parts"] []
  m_determinant_at : mg "determinant_at" = some (.ref a_determinant_at)
  a_heights_at : Addr
  fd_heights_at : FuncData
  F_heights_at : Fun K "heights_at" "heights_at" s_heights_at a_heights_at fd_heights_at
  b_heights_at : Binds K fd_heights_at ["web", "numbers", "parts"] []
  m_heights_at : mg "heights_at" = some (.ref a_heights_at)
  a_move_at : Addr
  fd_move_at : FuncData
  F_move_at : Fun K "move_at" "move_at" s_move_at a_move_at fd_move_at
  b_move_at : Binds K fd_move_at ["web", "numbers", "parts"] []
  m_move_at : mg "move_at" = some (.ref a_move_at)
  a_table : Addr
  fd_table : FuncData
  F_table : Fun K "_table" "_table" s_table a_table fd_table
  b_table : Binds K fd_table ["web", "numbers", "parts"] []
  m_table : mg "_table" = some (.ref a_table)
  a_asked : Addr
  fd_asked : FuncData
  F_asked : Fun K "_asked" "_asked" s_asked a_asked fd_asked
  b_asked : Binds K fd_asked ["web", "numbers", "parts"] []
  m_asked : mg "_asked" = some (.ref a_asked)
  a_cleared : Addr
  fd_cleared : FuncData
  F_cleared : Fun K "_cleared" "_cleared" s_cleared a_cleared fd_cleared
  b_cleared : Binds K fd_cleared ["rows", "width"] []
  m_cleared : mg "_cleared" = some (.ref a_cleared)
  a_swapped : Addr
  fd_swapped : FuncData
  F_swapped : Fun K "_swapped" "_swapped" s_swapped a_swapped fd_swapped
  b_swapped : Binds K fd_swapped ["rows", "at", "other"] []
  m_swapped : mg "_swapped" = some (.ref a_swapped)
  a_cleared_of : Addr
  fd_cleared_of : FuncData
  F_cleared_of : Fun K "_cleared_of" "_cleared_of" s_cleared_of a_cleared_of fd_cleared_of
  b_cleared_of : Binds K fd_cleared_of ["rows", "at", "column", "shared"] []
  m_cleared_of : mg "_cleared_of" = some (.ref a_cleared_of)
  a_determinant : Addr
  fd_determinant : FuncData
  F_determinant : Fun K "determinant" "determinant" s_determinant a_determinant fd_determinant
  b_determinant : Binds K fd_determinant ["web", "places"] []
  m_determinant : mg "determinant" = some (.ref a_determinant)
  a_stand : Addr
  fd_stand : FuncData
  F_stand : Fun K "stand" "stand" s_stand a_stand fd_stand
  b_stand : Binds K fd_stand ["web", "places"] []
  m_stand : mg "stand" = some (.ref a_stand)
  a_move : Addr
  fd_move : FuncData
  F_move : Fun K "move" "move" s_move a_move fd_move
  b_move : Binds K fd_move ["web", "places"] []
  m_move : mg "move" = some (.ref a_move)
  a_check_rods : Addr
  fd_check_rods : FuncData
  F_check_rods : Fun K "_check_rods" "_check_rods" s_check_rods a_check_rods fd_check_rods
  b_check_rods : Binds K fd_check_rods ["rods", "held"] []
  m_check_rods : mg "_check_rods" = some (.ref a_check_rods)
  a_check_bars : Addr
  fd_check_bars : FuncData
  F_check_bars : Fun K "_check_bars" "_check_bars" s_check_bars a_check_bars fd_check_bars
  b_check_bars : Binds K fd_check_bars ["rods", "held", "bars"] []
  m_check_bars : mg "_check_bars" = some (.ref a_check_bars)
  a_check_bar : Addr
  fd_check_bar : FuncData
  F_check_bar : Fun K "_check_bar" "_check_bar" s_check_bar a_check_bar fd_check_bar
  b_check_bar : Binds K fd_check_bar ["rods", "number", "bar"] []
  m_check_bar : mg "_check_bar" = some (.ref a_check_bar)
  a_l_state : Addr
  fd_l_state : FuncData
  F_l_state : Fun K "_law_state" "_law_state" s_l_state a_l_state fd_l_state
  b_l_state : Binds K fd_l_state ["_law_source"] []
  m_l_state : mg "_law_state" = some (.ref a_l_state)
  a_l_digit : Addr
  fd_l_digit : FuncData
  F_l_digit : Fun K "_law_digit" "_law_digit" s_l_digit a_l_digit fd_l_digit
  b_l_digit : Binds K fd_l_digit ["_law_state_here", "_law_base"] []
  m_l_digit : mg "_law_digit" = some (.ref a_l_digit)
  a_l_bar : Addr
  fd_l_bar : FuncData
  F_l_bar : Fun K "_law_bar" "_law_bar" s_l_bar a_l_bar fd_l_bar
  b_l_bar : Binds K fd_l_bar ["_law_s", "_law_rods", "_law_most", "_law_hook"] []
  m_l_bar : mg "_law_bar" = some (.ref a_l_bar)
  a_l_web : Addr
  fd_l_web : FuncData
  F_l_web : Fun K "_law_web" "_law_web" s_l_web a_l_web fd_l_web
  b_l_web : Binds K fd_l_web ["_law_s", "_law_count", "_law_most"] []
  m_l_web : mg "_law_web" = some (.ref a_l_web)
  a_l_made : Addr
  fd_l_made : FuncData
  F_l_made : Fun K "_law_made" "_law_made" s_l_made a_l_made fd_l_made
  b_l_made : Binds K fd_l_made ["_law_web_here"] []
  m_l_made : mg "_law_made" = some (.ref a_l_made)
  a_l_keeps : Addr
  fd_l_keeps : FuncData
  F_l_keeps : Fun K "_law_keeps" "_law_keeps" s_l_keeps a_l_keeps fd_l_keeps
  b_l_keeps : Binds K fd_l_keeps ["_law_web_here", "_law_numbers", "_law_share", "_law_tops"] []
  m_l_keeps : mg "_law_keeps" = some (.ref a_l_keeps)
  a_l_said : Addr
  fd_l_said : FuncData
  F_l_said : Fun K "_law_said" "_law_said" s_l_said a_l_said fd_l_said
  b_l_said : Binds K fd_l_said ["_law_ask"] []
  m_l_said : mg "_law_said" = some (.ref a_l_said)
  a_l_common : Addr
  fd_l_common : FuncData
  F_l_common : Fun K "_law_common" "_law_common" s_l_common a_l_common fd_l_common
  b_l_common : Binds K fd_l_common ["_law_numbers"] []
  m_l_common : mg "_law_common" = some (.ref a_l_common)
  a_l_anywhere : Addr
  fd_l_anywhere : FuncData
  F_l_anywhere : Fun K "_law_anywhere" "_law_anywhere" s_l_anywhere a_l_anywhere fd_l_anywhere
  b_l_anywhere : Binds K fd_l_anywhere ["_law_s", "_law_bars", "_law_share"] []
  m_l_anywhere : mg "_law_anywhere" = some (.ref a_l_anywhere)
  a_l_stand_right : Addr
  fd_l_stand_right : FuncData
  F_l_stand_right : Fun K "_law_stand_right" "_law_stand_right" s_l_stand_right a_l_stand_right fd_l_stand_right
  b_l_stand_right : Binds K fd_l_stand_right ["_law_web_here", "_law_numbers", "_law_share", "_law_found"] []
  m_l_stand_right : mg "_law_stand_right" = some (.ref a_l_stand_right)
  a_l_move_right : Addr
  fd_l_move_right : FuncData
  F_l_move_right : Fun K "_law_move_right" "_law_move_right" s_l_move_right a_l_move_right fd_l_move_right
  b_l_move_right : Binds K fd_l_move_right ["_law_web_here", "_law_numbers", "_law_share", "_law_found"] []
  m_l_move_right : mg "_law_move_right" = some (.ref a_l_move_right)
  a_l_odd_right : Addr
  fd_l_odd_right : FuncData
  F_l_odd_right : Fun K "_law_odd_right" "_law_odd_right" s_l_odd_right a_l_odd_right fd_l_odd_right
  b_l_odd_right : Binds K fd_l_odd_right ["_law_s", "_law_web_here", "_law_own"] []
  m_l_odd_right : mg "_law_odd_right" = some (.ref a_l_odd_right)
  a_law : Addr
  fd_law : FuncData
  F_law : Fun K "law" "law" s_law a_law fd_law
  b_law : Binds K fd_law ["_law_script"] []
  m_law : mg "law" = some (.ref a_law)
  C_Bar : Addr
  m_Bar : mg "Bar" = some (.ref C_Bar)
  c_Bar : Cls K C_Bar
  mk_Bar : PySem.W.makesIn K C_Bar = true
  nf_Bar_a : NoAttr K C_Bar "a"
  nf_Bar_b : NoAttr K C_Bar "b"
  nf_Bar_c : NoAttr K C_Bar "c"
  nf_Bar_length : NoAttr K C_Bar "length"
  nf_Bar_least : NoAttr K C_Bar "least"
  nf_Bar_greatest : NoAttr K C_Bar "greatest"
  a_Bar_init : Addr
  fd_Bar_init : FuncData
  F_Bar_init : Fun K "__init__" "Bar.__init__" s_Bar_init a_Bar_init fd_Bar_init
  b_Bar_init : Binds K fd_Bar_init ["self", "a", "b", "c", "length", "least", "greatest"] []
  k_Bar : Mk K C_Bar a_Bar_init
  a_Bar_eq : Addr
  fd_Bar_eq : FuncData
  F_Bar_eq : Fun K "__eq__" "Bar.__eq__" s_Bar_eq a_Bar_eq fd_Bar_eq
  b_Bar_eq : Binds K fd_Bar_eq ["self", "other"] []
  M_Bar_eq : Meth K C_Bar "__eq__" a_Bar_eq
  ef_Bar : eqFacts K C_Bar = true
  ne_Bar : LxE.NeFacts K C_Bar
  C_Web : Addr
  m_Web : mg "Web" = some (.ref C_Web)
  c_Web : Cls K C_Web
  mk_Web : PySem.W.makesIn K C_Web = true
  nf_Web_rods : NoAttr K C_Web "rods"
  nf_Web_bars : NoAttr K C_Web "bars"
  nf_Web_held : NoAttr K C_Web "_held"
  a_Web_init : Addr
  fd_Web_init : FuncData
  F_Web_init : Fun K "__init__" "Web.__init__" s_Web_init a_Web_init fd_Web_init
  b_Web_init : Binds K fd_Web_init ["self", "rods", "held", "bars"] []
  k_Web : Mk K C_Web a_Web_init
  a_Web_held : Addr
  fd_Web_held : FuncData
  F_Web_held : Fun K "held" "Web.held" s_Web_held a_Web_held fd_Web_held
  b_Web_held : Binds K fd_Web_held ["self"] []
  M_Web_held : Meth K C_Web "held" a_Web_held
  a_Web_hanging : Addr
  fd_Web_hanging : FuncData
  F_Web_hanging : Fun K "hanging" "Web.hanging" s_Web_hanging a_Web_hanging fd_Web_hanging
  b_Web_hanging : Binds K fd_Web_hanging ["self"] []
  M_Web_hanging : Meth K C_Web "hanging" a_Web_hanging
  a_Web_eq : Addr
  fd_Web_eq : FuncData
  F_Web_eq : Fun K "__eq__" "Web.__eq__" s_Web_eq a_Web_eq fd_Web_eq
  b_Web_eq : Binds K fd_Web_eq ["self", "other"] []
  M_Web_eq : Meth K C_Web "__eq__" a_Web_eq
  ef_Web : eqFacts K C_Web = true
  ne_Web : LxE.NeFacts K C_Web
  C_Places : Addr
  m_Places : mg "Places" = some (.ref C_Places)
  c_Places : Cls K C_Places
  mk_Places : PySem.W.makesIn K C_Places = true
  nf_Places_numbers : NoAttr K C_Places "numbers"
  nf_Places_parts : NoAttr K C_Places "parts"
  a_Places_init : Addr
  fd_Places_init : FuncData
  F_Places_init : Fun K "__init__" "Places.__init__" s_Places_init a_Places_init fd_Places_init
  b_Places_init : Binds K fd_Places_init ["self", "numbers", "parts"] []
  k_Places : Mk K C_Places a_Places_init
  a_Places_eq : Addr
  fd_Places_eq : FuncData
  F_Places_eq : Fun K "__eq__" "Places.__eq__" s_Places_eq a_Places_eq fd_Places_eq
  b_Places_eq : Binds K fd_Places_eq ["self", "other"] []
  M_Places_eq : Meth K C_Places "__eq__" a_Places_eq
  ef_Places : eqFacts K C_Places = true
  ne_Places : LxE.NeFacts K C_Places
  C_Stand : Addr
  m_Stand : mg "Stand" = some (.ref C_Stand)
  c_Stand : Cls K C_Stand
  mk_Stand : PySem.W.makesIn K C_Stand = true
  nf_Stand_tops : NoAttr K C_Stand "tops"
  nf_Stand_bottom : NoAttr K C_Stand "bottom"
  a_Stand_init : Addr
  fd_Stand_init : FuncData
  F_Stand_init : Fun K "__init__" "Stand.__init__" s_Stand_init a_Stand_init fd_Stand_init
  b_Stand_init : Binds K fd_Stand_init ["self", "tops", "bottom"] []
  k_Stand : Mk K C_Stand a_Stand_init
  a_Stand_eq : Addr
  fd_Stand_eq : FuncData
  F_Stand_eq : Fun K "__eq__" "Stand.__eq__" s_Stand_eq a_Stand_eq fd_Stand_eq
  b_Stand_eq : Binds K fd_Stand_eq ["self", "other"] []
  M_Stand_eq : Meth K C_Stand "__eq__" a_Stand_eq
  ef_Stand : eqFacts K C_Stand = true
  ne_Stand : LxE.NeFacts K C_Stand
  nfst_Bar_Bar : PySem.W.notFirst K C_Bar (.ref C_Bar) = true
  nfst_Bar_Web : PySem.W.notFirst K C_Bar (.ref C_Web) = true
  dc_Bar_Web : C_Bar ≠ C_Web
  nfst_Bar_Places : PySem.W.notFirst K C_Bar (.ref C_Places) = true
  dc_Bar_Places : C_Bar ≠ C_Places
  nfst_Bar_Stand : PySem.W.notFirst K C_Bar (.ref C_Stand) = true
  dc_Bar_Stand : C_Bar ≠ C_Stand
  nfst_Web_Bar : PySem.W.notFirst K C_Web (.ref C_Bar) = true
  nfst_Web_Web : PySem.W.notFirst K C_Web (.ref C_Web) = true
  nfst_Web_Places : PySem.W.notFirst K C_Web (.ref C_Places) = true
  nfst_Web_Stand : PySem.W.notFirst K C_Web (.ref C_Stand) = true
  nfst_Places_Bar : PySem.W.notFirst K C_Places (.ref C_Bar) = true
  nfst_Places_Web : PySem.W.notFirst K C_Places (.ref C_Web) = true
  dc_Places_Web : C_Places ≠ C_Web
  nfst_Places_Places : PySem.W.notFirst K C_Places (.ref C_Places) = true
  nfst_Places_Stand : PySem.W.notFirst K C_Places (.ref C_Stand) = true
  dc_Places_Stand : C_Places ≠ C_Stand
  nfst_Stand_Bar : PySem.W.notFirst K C_Stand (.ref C_Bar) = true
  nfst_Stand_Web : PySem.W.notFirst K C_Stand (.ref C_Web) = true
  dc_Stand_Web : C_Stand ≠ C_Web
  nfst_Stand_Places : PySem.W.notFirst K C_Stand (.ref C_Places) = true
  nfst_Stand_Stand : PySem.W.notFirst K C_Stand (.ref C_Stand) = true
  C_HooksError : Addr
  m_HooksError : mg "HooksError" = some (.ref C_HooksError)
  C_BadCount : Addr
  O_BadCount : OexC K C_BadCount
  m_BadCount : mg "BadCount" = some (.ref C_BadCount)
  isC_BadCount : ExcC K C_BadCount
  xf_BadCount : XfC K C_BadCount
  exm_BadCount_HooksError : PySem.W.exmOne K (.ref C_BadCount) (.ref C_HooksError) = some true
  a_BadCount_init : Addr
  fd_BadCount_init : FuncData
  F_BadCount_init : Fun K "__init__" "BadCount.__init__" s_BadCount_init a_BadCount_init fd_BadCount_init
  b_BadCount_init : Binds K fd_BadCount_init ["self", "what", "count"] []
  nf_BadCount_what : PySem.W.findIn K (.ref C_BadCount) "what" = some none
  nf_BadCount_count : PySem.W.findIn K (.ref C_BadCount) "count" = some none
  X_BadCount : XCls K mg "BadCount" C_BadCount a_BadCount_init fd_BadCount_init ["self", "what", "count"]
  C_NoRod : Addr
  O_NoRod : OexC K C_NoRod
  m_NoRod : mg "NoRod" = some (.ref C_NoRod)
  isC_NoRod : ExcC K C_NoRod
  xf_NoRod : XfC K C_NoRod
  exm_NoRod_HooksError : PySem.W.exmOne K (.ref C_NoRod) (.ref C_HooksError) = some true
  a_NoRod_init : Addr
  fd_NoRod_init : FuncData
  F_NoRod_init : Fun K "__init__" "NoRod.__init__" s_NoRod_init a_NoRod_init fd_NoRod_init
  b_NoRod_init : Binds K fd_NoRod_init ["self", "rod"] []
  nf_NoRod_rod : PySem.W.findIn K (.ref C_NoRod) "rod" = some none
  X_NoRod : XCls K mg "NoRod" C_NoRod a_NoRod_init fd_NoRod_init ["self", "rod"]
  C_SameRod : Addr
  O_SameRod : OexC K C_SameRod
  m_SameRod : mg "SameRod" = some (.ref C_SameRod)
  isC_SameRod : ExcC K C_SameRod
  xf_SameRod : XfC K C_SameRod
  exm_SameRod_HooksError : PySem.W.exmOne K (.ref C_SameRod) (.ref C_HooksError) = some true
  a_SameRod_init : Addr
  fd_SameRod_init : FuncData
  F_SameRod_init : Fun K "__init__" "SameRod.__init__" s_SameRod_init a_SameRod_init fd_SameRod_init
  b_SameRod_init : Binds K fd_SameRod_init ["self", "rod"] []
  nf_SameRod_rod : PySem.W.findIn K (.ref C_SameRod) "rod" = some none
  X_SameRod : XCls K mg "SameRod" C_SameRod a_SameRod_init fd_SameRod_init ["self", "rod"]
  C_BadSpan : Addr
  O_BadSpan : OexC K C_BadSpan
  m_BadSpan : mg "BadSpan" = some (.ref C_BadSpan)
  isC_BadSpan : ExcC K C_BadSpan
  xf_BadSpan : XfC K C_BadSpan
  exm_BadSpan_HooksError : PySem.W.exmOne K (.ref C_BadSpan) (.ref C_HooksError) = some true
  a_BadSpan_init : Addr
  fd_BadSpan_init : FuncData
  F_BadSpan_init : Fun K "__init__" "BadSpan.__init__" s_BadSpan_init a_BadSpan_init fd_BadSpan_init
  b_BadSpan_init : Binds K fd_BadSpan_init ["self", "bar"] []
  nf_BadSpan_bar : PySem.W.findIn K (.ref C_BadSpan) "bar" = some none
  X_BadSpan : XCls K mg "BadSpan" C_BadSpan a_BadSpan_init fd_BadSpan_init ["self", "bar"]
  C_NotSquare : Addr
  O_NotSquare : OexC K C_NotSquare
  m_NotSquare : mg "NotSquare" = some (.ref C_NotSquare)
  isC_NotSquare : ExcC K C_NotSquare
  xf_NotSquare : XfC K C_NotSquare
  exm_NotSquare_HooksError : PySem.W.exmOne K (.ref C_NotSquare) (.ref C_HooksError) = some true
  a_NotSquare_init : Addr
  fd_NotSquare_init : FuncData
  F_NotSquare_init : Fun K "__init__" "NotSquare.__init__" s_NotSquare_init a_NotSquare_init fd_NotSquare_init
  b_NotSquare_init : Binds K fd_NotSquare_init ["self", "bars", "wanted"] []
  nf_NotSquare_bars : PySem.W.findIn K (.ref C_NotSquare) "bars" = some none
  nf_NotSquare_wanted : PySem.W.findIn K (.ref C_NotSquare) "wanted" = some none
  X_NotSquare : XCls K mg "NotSquare" C_NotSquare a_NotSquare_init fd_NotSquare_init ["self", "bars", "wanted"]
  C_Loose : Addr
  O_Loose : OexC K C_Loose
  m_Loose : mg "Loose" = some (.ref C_Loose)
  isC_Loose : ExcC K C_Loose
  xi_Loose : PySem.W.excIn K C_Loose [.type "ValueError", .type "Exception", .type "BaseException", .type "object"] "ValueError.__new__" = true
  exs_Loose : PySem.W.exmOne K (.ref C_Loose) (.ref C_Loose) = some true
  xf_Loose : XfC K C_Loose
  exm_Loose_HooksError : PySem.W.exmOne K (.ref C_Loose) (.ref C_HooksError) = some true
  C_BadPlace : Addr
  O_BadPlace : OexC K C_BadPlace
  m_BadPlace : mg "BadPlace" = some (.ref C_BadPlace)
  isC_BadPlace : ExcC K C_BadPlace
  xf_BadPlace : XfC K C_BadPlace
  exm_BadPlace_HooksError : PySem.W.exmOne K (.ref C_BadPlace) (.ref C_HooksError) = some true
  a_BadPlace_init : Addr
  fd_BadPlace_init : FuncData
  F_BadPlace_init : Fun K "__init__" "BadPlace.__init__" s_BadPlace_init a_BadPlace_init fd_BadPlace_init
  b_BadPlace_init : Binds K fd_BadPlace_init ["self", "bar"] []
  nf_BadPlace_bar : PySem.W.findIn K (.ref C_BadPlace) "bar" = some none
  X_BadPlace : XCls K mg "BadPlace" C_BadPlace a_BadPlace_init fd_BadPlace_init ["self", "bar"]
  C_NotLoose : Addr
  O_NotLoose : OexC K C_NotLoose
  m_NotLoose : mg "NotLoose" = some (.ref C_NotLoose)
  isC_NotLoose : ExcC K C_NotLoose
  xi_NotLoose : PySem.W.excIn K C_NotLoose [.type "ValueError", .type "Exception", .type "BaseException", .type "object"] "ValueError.__new__" = true
  exs_NotLoose : PySem.W.exmOne K (.ref C_NotLoose) (.ref C_NotLoose) = some true
  xf_NotLoose : XfC K C_NotLoose
  exm_NotLoose_HooksError : PySem.W.exmOne K (.ref C_NotLoose) (.ref C_HooksError) = some true
  kit_Loose_Loose : PySem.W.kitOne K (.ref C_Loose) (.ref C_Loose) = some true
  kit_Loose_NotLoose : PySem.W.kitOne K (.ref C_Loose) (.ref C_NotLoose) = some false
  kit_Loose_BadCount : PySem.W.kitOne K (.ref C_Loose) (.ref C_BadCount) = some false
  kit_Loose_BadPlace : PySem.W.kitOne K (.ref C_Loose) (.ref C_BadPlace) = some false
  kit_NotLoose_Loose : PySem.W.kitOne K (.ref C_NotLoose) (.ref C_Loose) = some false
  kit_NotLoose_NotLoose : PySem.W.kitOne K (.ref C_NotLoose) (.ref C_NotLoose) = some true
  kit_NotLoose_BadCount : PySem.W.kitOne K (.ref C_NotLoose) (.ref C_BadCount) = some false
  kit_NotLoose_BadPlace : PySem.W.kitOne K (.ref C_NotLoose) (.ref C_BadPlace) = some false
  kit_BadCount_Loose : PySem.W.kitOne K (.ref C_BadCount) (.ref C_Loose) = some false
  kit_BadCount_NotLoose : PySem.W.kitOne K (.ref C_BadCount) (.ref C_NotLoose) = some false
  kit_BadCount_BadCount : PySem.W.kitOne K (.ref C_BadCount) (.ref C_BadCount) = some true
  kit_BadCount_BadPlace : PySem.W.kitOne K (.ref C_BadCount) (.ref C_BadPlace) = some false
  kit_BadPlace_Loose : PySem.W.kitOne K (.ref C_BadPlace) (.ref C_Loose) = some false
  kit_BadPlace_NotLoose : PySem.W.kitOne K (.ref C_BadPlace) (.ref C_NotLoose) = some false
  kit_BadPlace_BadCount : PySem.W.kitOne K (.ref C_BadPlace) (.ref C_BadCount) = some false
  kit_BadPlace_BadPlace : PySem.W.kitOne K (.ref C_BadPlace) (.ref C_BadPlace) = some true
  ii_Stand : InsT K C_Stand
  z_abs : mg "abs" = none
  z_len : mg "len" = none
  z_range : mg "range" = none
  z_tuple : mg "tuple" = none
  z_list : mg "list" = none
  z_dict : mg "dict" = none
  z_sorted : mg "sorted" = none
  z_enumerate : mg "enumerate" = none
  z_zip : mg "zip" = none
  z_min : mg "min" = none
  z_max : mg "max" = none
  z_all : mg "all" = none
  z_any : mg "any" = none
  z_int : mg "int" = none
  z_isinstance : mg "isinstance" = none
  z_type : mg "type" = none
  z_set : mg "set" = none
  z_sum : mg "sum" = none
  m_gcd : mg "gcd" = some (.builtin "math.gcd")
  t_LEAST_RODS : Tok
  m_LEAST_RODS : mg "LEAST_RODS" = some (.int 3 t_LEAST_RODS)
  t_MOST_RODS : Tok
  m_MOST_RODS : mg "MOST_RODS" = some (.int 10 t_MOST_RODS)
  t_MOST_BARS : Tok
  m_MOST_BARS : mg "MOST_BARS" = some (.int 8 t_MOST_BARS)
  t_MOST_HEIGHT : Tok
  m_MOST_HEIGHT : mg "MOST_HEIGHT" = some (.int 1000000 t_MOST_HEIGHT)
  t_MOST_LENGTH : Tok
  m_MOST_LENGTH : mg "MOST_LENGTH" = some (.int 1000000 t_MOST_LENGTH)
end K22
namespace Hk
open PySem
def seeT (at0 : List Addr) (f0 : List He.Fa) (d0 : List He.DefD) (tf : List He.Defn) (b0 : PySem.W.Frag → Bool) (look : Addr → Option Obj) : He.AlX :=
  (He.obsT f0 d0 [] (He.frT look at0), b0 (He.frT look at0) && He.tabsB look tf (He.frT look at0))
theorem saysT {at0 : List Addr} {f0 : List He.Fa} {d0 : List He.DefD} {tf : List He.Defn} {b0 : PySem.W.Frag → Bool} {w : World} {hp : Heap} (q : seeT at0 f0 d0 tf b0 hp.get? = He.valX d0 [] w) :
    He.SaysX f0 d0 [] tf b0 w hp (He.frT hp.get? at0) := by
  have told := congrArg Prod.snd q
  obtain ⟨facts, tabs⟩ := He.ba (show (b0 (He.frT hp.get? at0) && He.tabsB hp.get? tf (He.frT hp.get? at0)) = true from told)
  have each : ∀ p ∈ tf, PySem.W.codeHdIn (He.frT hp.get? at0) (He.cT (He.frT hp.get? at0) p).1 (He.cT (He.frT hp.get? at0) p).2 = true ∧ ∃ o, hp.get? (He.cT (He.frT hp.get? at0) p).2 = some o ∧ He.emptyTab o = true := by
    intro p hp'
    obtain ⟨z1, z2⟩ := He.ba (List.all_eq_true.mp tabs p hp')
    cases e : hp.get? (He.cT (He.frT hp.get? at0) p).2 with
    | none => rw [e] at z2; cases z2
    | some o => rw [e] at z2; exact ⟨z1, o, rfl, z2⟩
  refine ⟨congrArg Prod.fst q, facts, fun p m => (each p m).1, fun p m => ?_, fun p m => ?_⟩
  · obtain ⟨_, o, e, z⟩ := each p m
    exact He.frT_none e z
  · obtain ⟨_, o, e, z⟩ := each p m
    rw [e, He.emptyTab_eq z]
def hookT (at0 : List Addr) (f0 : List He.Fa) (d0 : List He.DefD) (tf : List He.Defn) (b0 : PySem.W.Frag → Bool) : PySem.W.Hook where
  α := He.AlX
  obs := fun st => seeT at0 f0 d0 tf b0 st.heap.get?
  val := fun w => He.valX d0 [] w
  says := fun w hp => ∃ F : PySem.W.Frag, F.In hp ∧ He.SaysX f0 d0 [] tf b0 w hp F
  of := fun _ _ q => ⟨_, He.frT_in, saysT q⟩
  keeps := fun _ _ _ ⟨F, hF, z⟩ kk => ⟨F, PySem.W.Frag.In.keeps hF kk, ⟨z.t, z.more, z.hd, z.out, fun p m => kk _ _ (z.empty p m)⟩⟩
theorem seeT_eq {at0 : List Addr} {f0 : List He.Fa} {d0 : List He.DefD} {tf : List He.Defn} {b0 : PySem.W.Frag → Bool} {look : Addr → Option Obj} {st : Shared} (q : ∀ x, look x = st.heap.get? x) : seeT at0 f0 d0 tf b0 look = (hookT at0 f0 d0 tf b0).obs st := by
  rw [show look = st.heap.get? from funext q]
  rfl
/-- the facts of defs that make lambdas: their names, no table shared -/
def nameB (K : PySem.W.Frag) (x : Str) : Bool := decide (PySem.W.nsIn K mainGlobals x = some (some (.ref (He.ga K x))))
end Hk
namespace K22
open PySem L2
def xcB (K : PySem.W.Frag) (C : Addr) (bm : List Value) (k : String) : Bool := match K.lookup C with
  | some ⟨.type "type", _, .cls cd, sl⟩ => decide (cd.mro = .ref C :: bm) && (cd.hasDict && (!cd.hasDel && (match sl.toList with
    | [_, _, _, _, some (.builtin n), _] => decide (n = k)
    | _ => false)))
  | _ => false
theorem xcB_ok {K : PySem.W.Frag} {C : Addr} {bm : List Value} {k : String} (h : xcB K C bm k = true) : ∃ (nm q : Str) (N : Addr) (bs : List Value) (sn : List Str) (sub : List Value) (ab : Bool) (col : Option Bool) (dd : Option Addr) (u0 u1 u2 u3 u5 : Option Value),
    K.lookup C = some (excClassObj nm q C N bs bm true sn sub ab col dd u0 u1 u2 u3 u5 k) := by
  unfold xcB at h
  split at h
  · rename_i dd cd sl e
    obtain ⟨h1, h⟩ := He.ba h
    obtain ⟨h2, h⟩ := He.ba h
    obtain ⟨h3, h⟩ := He.ba h
    have h1 := of_decide_eq_true h1
    obtain ⟨nm, bs, mro, N, q, hdct, sn, sub, ab, col, hdel⟩ := cd
    dsimp only at h1 h2 h3
    subst h1 h2
    cases hdel with
    | true => cases h3
    | false =>
      split at h
      · rename_i u0 u1 u2 u3 n u5 es
        have hn := of_decide_eq_true h
        subst hn
        obtain rfl : sl = #[u0, u1, u2, u3, some (.builtin n), u5] := Array.ext' es
        exact ⟨nm, q, N, bs, sn, sub, ab, col, dd, u0, u1, u2, u3, u5, e⟩
      · cases h
  · cases h
def intB (K : PySem.W.Frag) (x : Str) (i : Int) : Bool := match PySem.W.nsIn K mainGlobals x with
  | some (some (.int j _)) => decide (j = i)
  | _ => false
theorem intB_ok {K : PySem.W.Frag} {x : Str} {i : Int} (h : intB K x i = true) : ∃ t, PySem.W.nsIn K mainGlobals x = some (some (.int i t)) := by
  unfold intB at h
  split at h
  · rename_i j t e
    have hj := of_decide_eq_true h
    subst hj
    exact ⟨t, e⟩
  · cases h
theorem ex_at {l : List Bool} (h : l.all id = true) (i : Nat) {b : Bool} (e : l[i]? = some b) : b = true := List.all_eq_true.mp h b (List.mem_of_getElem? e)
theorem def_none {K : PySem.W.Frag} {dV : Value} (h : L2.DflV K dV []) : dV = .none := by
  rcases h with h | h
  · exact h.2
  · exact absurd rfl h.1
def exL0 (K : PySem.W.Frag) : List Bool := [
  decide (PySem.W.specialIn K (.builtin "object.__class__") "__get__" = some (some (.builtin "getset_descriptor.__get__"))),
  decide (PySem.W.takesIn K (.builtin "object.__class__") = some true),
  decide (PySem.W.nsIn K mainGlobals "divisor" = some (some (.ref (He.ga K "divisor")))),
  decide (PySem.W.nsIn K mainGlobals "lowest" = some (some (.ref (He.ga K "lowest")))),
  decide (PySem.W.nsIn K mainGlobals "check_places" = some (some (.ref (He.ga K "check_places")))),
  decide (PySem.W.nsIn K mainGlobals "bar_rows" = some (some (.ref (He.ga K "bar_rows")))),
  decide (PySem.W.nsIn K mainGlobals "determinant_at" = some (some (.ref (He.ga K "determinant_at")))),
  decide (PySem.W.nsIn K mainGlobals "heights_at" = some (some (.ref (He.ga K "heights_at")))),
  decide (PySem.W.nsIn K mainGlobals "move_at" = some (some (.ref (He.ga K "move_at")))),
  decide (PySem.W.nsIn K mainGlobals "_table" = some (some (.ref (He.ga K "_table")))),
  decide (PySem.W.nsIn K mainGlobals "_asked" = some (some (.ref (He.ga K "_asked")))),
  decide (PySem.W.nsIn K mainGlobals "_cleared" = some (some (.ref (He.ga K "_cleared")))),
  decide (PySem.W.nsIn K mainGlobals "_swapped" = some (some (.ref (He.ga K "_swapped")))),
  decide (PySem.W.nsIn K mainGlobals "_cleared_of" = some (some (.ref (He.ga K "_cleared_of")))),
  decide (PySem.W.nsIn K mainGlobals "determinant" = some (some (.ref (He.ga K "determinant")))),
  decide (PySem.W.nsIn K mainGlobals "stand" = some (some (.ref (He.ga K "stand")))),
  decide (PySem.W.nsIn K mainGlobals "move" = some (some (.ref (He.ga K "move")))),
  decide (PySem.W.nsIn K mainGlobals "_check_rods" = some (some (.ref (He.ga K "_check_rods")))),
  decide (PySem.W.nsIn K mainGlobals "_check_bars" = some (some (.ref (He.ga K "_check_bars")))),
  decide (PySem.W.nsIn K mainGlobals "_check_bar" = some (some (.ref (He.ga K "_check_bar")))),
  decide (PySem.W.nsIn K mainGlobals "_law_state" = some (some (.ref (He.ga K "_law_state")))),
  decide (PySem.W.nsIn K mainGlobals "_law_digit" = some (some (.ref (He.ga K "_law_digit")))),
  decide (PySem.W.nsIn K mainGlobals "_law_bar" = some (some (.ref (He.ga K "_law_bar")))),
  decide (PySem.W.nsIn K mainGlobals "_law_web" = some (some (.ref (He.ga K "_law_web")))),
  decide (PySem.W.nsIn K mainGlobals "_law_made" = some (some (.ref (He.ga K "_law_made")))),
  decide (PySem.W.nsIn K mainGlobals "_law_keeps" = some (some (.ref (He.ga K "_law_keeps")))),
  decide (PySem.W.nsIn K mainGlobals "_law_said" = some (some (.ref (He.ga K "_law_said")))),
  decide (PySem.W.nsIn K mainGlobals "_law_common" = some (some (.ref (He.ga K "_law_common")))),
  decide (PySem.W.nsIn K mainGlobals "_law_anywhere" = some (some (.ref (He.ga K "_law_anywhere")))),
  decide (PySem.W.nsIn K mainGlobals "_law_stand_right" = some (some (.ref (He.ga K "_law_stand_right")))),
  decide (PySem.W.nsIn K mainGlobals "_law_move_right" = some (some (.ref (He.ga K "_law_move_right")))),
  decide (PySem.W.nsIn K mainGlobals "_law_odd_right" = some (some (.ref (He.ga K "_law_odd_right")))),
  decide (PySem.W.nsIn K mainGlobals "law" = some (some (.ref (He.ga K "law")))),
  decide (PySem.W.nsIn K mainGlobals "Bar" = some (some (.ref (He.ga K "Bar")))),
  PySem.W.plainGet K (He.ga K "Bar") Str.empty,
  PySem.W.hasDictIn K (He.ga K "Bar"),
  PySem.W.plainOver K (He.ga K "Bar"),
  decide (PySem.W.findIn K (.ref (He.ga K "Bar")) "__setattr__" = some (some (.builtin "object.__setattr__"))),
  PySem.W.makesIn K (He.ga K "Bar"),
  PySem.W.keepIn K (.ref (He.ga K "Bar"))]
def exL1 (K : PySem.W.Frag) : List Bool := [
  decide (PySem.W.findIn K (.ref (He.ga K "Bar")) "a" = some none),
  decide (PySem.W.findIn K (.ref (He.ga K "Bar")) "b" = some none),
  decide (PySem.W.findIn K (.ref (He.ga K "Bar")) "c" = some none),
  decide (PySem.W.findIn K (.ref (He.ga K "Bar")) "length" = some none),
  decide (PySem.W.findIn K (.ref (He.ga K "Bar")) "least" = some none),
  decide (PySem.W.findIn K (.ref (He.ga K "Bar")) "greatest" = some none),
  decide (PySem.W.findIn K (.ref (He.ga K "Bar")) "__init__" = some (some (.ref (He.ma K (He.ga K "Bar") "__init__")))),
  PySem.W.isFn K (.ref (He.ma K (He.ga K "Bar") "__init__")),
  decide (PySem.W.findIn K (.ref (He.ga K "Bar")) "__eq__" = some (some (.ref (He.ma K (He.ga K "Bar") "__eq__")))),
  PySem.W.isFn K (.ref (He.ma K (He.ga K "Bar") "__eq__")),
  PySem.W.notFirst K (He.ga K "Bar") (.type "NoneType"),
  decide (PySem.W.subIn K (.ref (He.ga K "Bar")) (.type "NoneType") = some false),
  PySem.W.notFirst K (He.ga K "Bar") (.type "bool"),
  decide (PySem.W.subIn K (.ref (He.ga K "Bar")) (.type "bool") = some false),
  PySem.W.notFirst K (He.ga K "Bar") (.type "int"),
  decide (PySem.W.subIn K (.ref (He.ga K "Bar")) (.type "int") = some false),
  PySem.W.notFirst K (He.ga K "Bar") (.type "str"),
  decide (PySem.W.subIn K (.ref (He.ga K "Bar")) (.type "str") = some false),
  PySem.W.notFirst K (He.ga K "Bar") (.type "list"),
  decide (PySem.W.subIn K (.ref (He.ga K "Bar")) (.type "list") = some false),
  PySem.W.notFirst K (He.ga K "Bar") (.type "tuple"),
  decide (PySem.W.subIn K (.ref (He.ga K "Bar")) (.type "tuple") = some false),
  PySem.W.notFirst K (He.ga K "Bar") (.type "dict"),
  decide (PySem.W.subIn K (.ref (He.ga K "Bar")) (.type "dict") = some false),
  decide (PySem.W.findIn K (.ref (He.ga K "Bar")) "__ne__" = some (some (.builtin "object.__ne__"))),
  decide (PySem.W.mroIn K (He.ga K "Bar") (.type "object") = some true),
  decide (PySem.W.nsIn K mainGlobals "Web" = some (some (.ref (He.ga K "Web")))),
  PySem.W.plainGet K (He.ga K "Web") Str.empty,
  PySem.W.hasDictIn K (He.ga K "Web"),
  PySem.W.plainOver K (He.ga K "Web"),
  decide (PySem.W.findIn K (.ref (He.ga K "Web")) "__setattr__" = some (some (.builtin "object.__setattr__"))),
  PySem.W.makesIn K (He.ga K "Web"),
  PySem.W.keepIn K (.ref (He.ga K "Web")),
  decide (PySem.W.findIn K (.ref (He.ga K "Web")) "rods" = some none),
  decide (PySem.W.findIn K (.ref (He.ga K "Web")) "bars" = some none),
  decide (PySem.W.findIn K (.ref (He.ga K "Web")) "_held" = some none),
  decide (PySem.W.findIn K (.ref (He.ga K "Web")) "__init__" = some (some (.ref (He.ma K (He.ga K "Web") "__init__")))),
  PySem.W.isFn K (.ref (He.ma K (He.ga K "Web") "__init__")),
  decide (PySem.W.findIn K (.ref (He.ga K "Web")) "held" = some (some (.ref (He.ma K (He.ga K "Web") "held")))),
  PySem.W.isFn K (.ref (He.ma K (He.ga K "Web") "held"))]
def exL2 (K : PySem.W.Frag) : List Bool := [
  decide (PySem.W.findIn K (.ref (He.ga K "Web")) "hanging" = some (some (.ref (He.ma K (He.ga K "Web") "hanging")))),
  PySem.W.isFn K (.ref (He.ma K (He.ga K "Web") "hanging")),
  decide (PySem.W.findIn K (.ref (He.ga K "Web")) "__eq__" = some (some (.ref (He.ma K (He.ga K "Web") "__eq__")))),
  PySem.W.isFn K (.ref (He.ma K (He.ga K "Web") "__eq__")),
  PySem.W.notFirst K (He.ga K "Web") (.type "NoneType"),
  decide (PySem.W.subIn K (.ref (He.ga K "Web")) (.type "NoneType") = some false),
  PySem.W.notFirst K (He.ga K "Web") (.type "bool"),
  decide (PySem.W.subIn K (.ref (He.ga K "Web")) (.type "bool") = some false),
  PySem.W.notFirst K (He.ga K "Web") (.type "int"),
  decide (PySem.W.subIn K (.ref (He.ga K "Web")) (.type "int") = some false),
  PySem.W.notFirst K (He.ga K "Web") (.type "str"),
  decide (PySem.W.subIn K (.ref (He.ga K "Web")) (.type "str") = some false),
  PySem.W.notFirst K (He.ga K "Web") (.type "list"),
  decide (PySem.W.subIn K (.ref (He.ga K "Web")) (.type "list") = some false),
  PySem.W.notFirst K (He.ga K "Web") (.type "tuple"),
  decide (PySem.W.subIn K (.ref (He.ga K "Web")) (.type "tuple") = some false),
  PySem.W.notFirst K (He.ga K "Web") (.type "dict"),
  decide (PySem.W.subIn K (.ref (He.ga K "Web")) (.type "dict") = some false),
  decide (PySem.W.findIn K (.ref (He.ga K "Web")) "__ne__" = some (some (.builtin "object.__ne__"))),
  decide (PySem.W.mroIn K (He.ga K "Web") (.type "object") = some true),
  decide (PySem.W.nsIn K mainGlobals "Places" = some (some (.ref (He.ga K "Places")))),
  PySem.W.plainGet K (He.ga K "Places") Str.empty,
  PySem.W.hasDictIn K (He.ga K "Places"),
  PySem.W.plainOver K (He.ga K "Places"),
  decide (PySem.W.findIn K (.ref (He.ga K "Places")) "__setattr__" = some (some (.builtin "object.__setattr__"))),
  PySem.W.makesIn K (He.ga K "Places"),
  PySem.W.keepIn K (.ref (He.ga K "Places")),
  decide (PySem.W.findIn K (.ref (He.ga K "Places")) "numbers" = some none),
  decide (PySem.W.findIn K (.ref (He.ga K "Places")) "parts" = some none),
  decide (PySem.W.findIn K (.ref (He.ga K "Places")) "__init__" = some (some (.ref (He.ma K (He.ga K "Places") "__init__")))),
  PySem.W.isFn K (.ref (He.ma K (He.ga K "Places") "__init__")),
  decide (PySem.W.findIn K (.ref (He.ga K "Places")) "__eq__" = some (some (.ref (He.ma K (He.ga K "Places") "__eq__")))),
  PySem.W.isFn K (.ref (He.ma K (He.ga K "Places") "__eq__")),
  PySem.W.notFirst K (He.ga K "Places") (.type "NoneType"),
  decide (PySem.W.subIn K (.ref (He.ga K "Places")) (.type "NoneType") = some false),
  PySem.W.notFirst K (He.ga K "Places") (.type "bool"),
  decide (PySem.W.subIn K (.ref (He.ga K "Places")) (.type "bool") = some false),
  PySem.W.notFirst K (He.ga K "Places") (.type "int"),
  decide (PySem.W.subIn K (.ref (He.ga K "Places")) (.type "int") = some false),
  PySem.W.notFirst K (He.ga K "Places") (.type "str")]
def exL3 (K : PySem.W.Frag) : List Bool := [
  decide (PySem.W.subIn K (.ref (He.ga K "Places")) (.type "str") = some false),
  PySem.W.notFirst K (He.ga K "Places") (.type "list"),
  decide (PySem.W.subIn K (.ref (He.ga K "Places")) (.type "list") = some false),
  PySem.W.notFirst K (He.ga K "Places") (.type "tuple"),
  decide (PySem.W.subIn K (.ref (He.ga K "Places")) (.type "tuple") = some false),
  PySem.W.notFirst K (He.ga K "Places") (.type "dict"),
  decide (PySem.W.subIn K (.ref (He.ga K "Places")) (.type "dict") = some false),
  decide (PySem.W.findIn K (.ref (He.ga K "Places")) "__ne__" = some (some (.builtin "object.__ne__"))),
  decide (PySem.W.mroIn K (He.ga K "Places") (.type "object") = some true),
  decide (PySem.W.nsIn K mainGlobals "Stand" = some (some (.ref (He.ga K "Stand")))),
  PySem.W.plainGet K (He.ga K "Stand") Str.empty,
  PySem.W.hasDictIn K (He.ga K "Stand"),
  PySem.W.plainOver K (He.ga K "Stand"),
  decide (PySem.W.findIn K (.ref (He.ga K "Stand")) "__setattr__" = some (some (.builtin "object.__setattr__"))),
  PySem.W.makesIn K (He.ga K "Stand"),
  PySem.W.keepIn K (.ref (He.ga K "Stand")),
  decide (PySem.W.findIn K (.ref (He.ga K "Stand")) "tops" = some none),
  decide (PySem.W.findIn K (.ref (He.ga K "Stand")) "bottom" = some none),
  decide (PySem.W.findIn K (.ref (He.ga K "Stand")) "__init__" = some (some (.ref (He.ma K (He.ga K "Stand") "__init__")))),
  PySem.W.isFn K (.ref (He.ma K (He.ga K "Stand") "__init__")),
  decide (PySem.W.findIn K (.ref (He.ga K "Stand")) "__eq__" = some (some (.ref (He.ma K (He.ga K "Stand") "__eq__")))),
  PySem.W.isFn K (.ref (He.ma K (He.ga K "Stand") "__eq__")),
  PySem.W.notFirst K (He.ga K "Stand") (.type "NoneType"),
  decide (PySem.W.subIn K (.ref (He.ga K "Stand")) (.type "NoneType") = some false),
  PySem.W.notFirst K (He.ga K "Stand") (.type "bool"),
  decide (PySem.W.subIn K (.ref (He.ga K "Stand")) (.type "bool") = some false),
  PySem.W.notFirst K (He.ga K "Stand") (.type "int"),
  decide (PySem.W.subIn K (.ref (He.ga K "Stand")) (.type "int") = some false),
  PySem.W.notFirst K (He.ga K "Stand") (.type "str"),
  decide (PySem.W.subIn K (.ref (He.ga K "Stand")) (.type "str") = some false),
  PySem.W.notFirst K (He.ga K "Stand") (.type "list"),
  decide (PySem.W.subIn K (.ref (He.ga K "Stand")) (.type "list") = some false),
  PySem.W.notFirst K (He.ga K "Stand") (.type "tuple"),
  decide (PySem.W.subIn K (.ref (He.ga K "Stand")) (.type "tuple") = some false),
  PySem.W.notFirst K (He.ga K "Stand") (.type "dict"),
  decide (PySem.W.subIn K (.ref (He.ga K "Stand")) (.type "dict") = some false),
  decide (PySem.W.findIn K (.ref (He.ga K "Stand")) "__ne__" = some (some (.builtin "object.__ne__"))),
  decide (PySem.W.mroIn K (He.ga K "Stand") (.type "object") = some true),
  PySem.W.notFirst K (He.ga K "Bar") (.ref (He.ga K "Bar")),
  PySem.W.notFirst K (He.ga K "Bar") (.ref (He.ga K "Web"))]
def exL4 (K : PySem.W.Frag) : List Bool := [
  decide ((He.ga K "Bar") ≠ (He.ga K "Web")),
  PySem.W.notFirst K (He.ga K "Bar") (.ref (He.ga K "Places")),
  decide ((He.ga K "Bar") ≠ (He.ga K "Places")),
  PySem.W.notFirst K (He.ga K "Bar") (.ref (He.ga K "Stand")),
  decide ((He.ga K "Bar") ≠ (He.ga K "Stand")),
  PySem.W.notFirst K (He.ga K "Web") (.ref (He.ga K "Bar")),
  PySem.W.notFirst K (He.ga K "Web") (.ref (He.ga K "Web")),
  PySem.W.notFirst K (He.ga K "Web") (.ref (He.ga K "Places")),
  PySem.W.notFirst K (He.ga K "Web") (.ref (He.ga K "Stand")),
  PySem.W.notFirst K (He.ga K "Places") (.ref (He.ga K "Bar")),
  PySem.W.notFirst K (He.ga K "Places") (.ref (He.ga K "Web")),
  decide ((He.ga K "Places") ≠ (He.ga K "Web")),
  PySem.W.notFirst K (He.ga K "Places") (.ref (He.ga K "Places")),
  PySem.W.notFirst K (He.ga K "Places") (.ref (He.ga K "Stand")),
  decide ((He.ga K "Places") ≠ (He.ga K "Stand")),
  PySem.W.notFirst K (He.ga K "Stand") (.ref (He.ga K "Bar")),
  PySem.W.notFirst K (He.ga K "Stand") (.ref (He.ga K "Web")),
  decide ((He.ga K "Stand") ≠ (He.ga K "Web")),
  PySem.W.notFirst K (He.ga K "Stand") (.ref (He.ga K "Places")),
  PySem.W.notFirst K (He.ga K "Stand") (.ref (He.ga K "Stand")),
  decide (PySem.W.nsIn K mainGlobals "HooksError" = some (some (.ref (He.ga K "HooksError")))),
  decide (PySem.W.subIn K (.ref (He.ga K "HooksError")) (.type "BaseException") = some true),
  decide (PySem.W.typeIn K (.ref (He.ga K "HooksError")) = some (.type "type")),
  PySem.W.hasDictIn K (He.ga K "HooksError"),
  decide (PySem.W.nsIn K mainGlobals "BadCount" = some (some (.ref (He.ga K "BadCount")))),
  xcB K (He.ga K "BadCount") [.ref (He.ga K "HooksError"), .type "ValueError", .type "Exception", .type "BaseException", .type "object"] "ValueError.__new__",
  decide (PySem.W.findIn K (.ref (He.ga K "BadCount")) "__setattr__" = some (some (.builtin "object.__setattr__"))),
  decide (PySem.W.findIn K (.ref (He.ga K "BadCount")) "__getattribute__" = some (some (.builtin "BaseException.__getattribute__"))),
  decide (PySem.W.findIn K (.ref (He.ga K "BadCount")) "__getattr__" = some none),
  PySem.W.keepIn K (.ref (He.ga K "BadCount")),
  decide (PySem.W.subIn K (.ref (He.ga K "BadCount")) (.type "BaseException") = some true),
  decide (PySem.W.typeIn K (.ref (He.ga K "BadCount")) = some (.type "type")),
  PySem.W.hasDictIn K (He.ga K "BadCount"),
  decide (PySem.W.findIn K (.ref (He.ga K "BadCount")) "__class__" = some (some (.builtin "object.__class__"))),
  decide (PySem.W.mroIn K (He.ga K "BadCount") (.type "object") = some true),
  decide (PySem.W.subIn K (.ref (He.ga K "BadCount")) (.ref (He.ga K "HooksError")) = some true),
  decide (PySem.W.findIn K (.ref (He.ga K "BadCount")) "__init__" = some (some (.ref (He.ma K (He.ga K "BadCount") "__init__")))),
  decide (PySem.W.typeIn K (.ref (He.ma K (He.ga K "BadCount") "__init__")) = some (.type "function")),
  decide (PySem.W.findIn K (.ref (He.ga K "BadCount")) "what" = some none),
  decide (PySem.W.findIn K (.ref (He.ga K "BadCount")) "count" = some none)]
def exL5 (K : PySem.W.Frag) : List Bool := [
  decide (PySem.W.nsIn K mainGlobals "NoRod" = some (some (.ref (He.ga K "NoRod")))),
  xcB K (He.ga K "NoRod") [.ref (He.ga K "HooksError"), .type "ValueError", .type "Exception", .type "BaseException", .type "object"] "ValueError.__new__",
  decide (PySem.W.findIn K (.ref (He.ga K "NoRod")) "__setattr__" = some (some (.builtin "object.__setattr__"))),
  decide (PySem.W.findIn K (.ref (He.ga K "NoRod")) "__getattribute__" = some (some (.builtin "BaseException.__getattribute__"))),
  decide (PySem.W.findIn K (.ref (He.ga K "NoRod")) "__getattr__" = some none),
  PySem.W.keepIn K (.ref (He.ga K "NoRod")),
  decide (PySem.W.subIn K (.ref (He.ga K "NoRod")) (.type "BaseException") = some true),
  decide (PySem.W.typeIn K (.ref (He.ga K "NoRod")) = some (.type "type")),
  PySem.W.hasDictIn K (He.ga K "NoRod"),
  decide (PySem.W.findIn K (.ref (He.ga K "NoRod")) "__class__" = some (some (.builtin "object.__class__"))),
  decide (PySem.W.mroIn K (He.ga K "NoRod") (.type "object") = some true),
  decide (PySem.W.subIn K (.ref (He.ga K "NoRod")) (.ref (He.ga K "HooksError")) = some true),
  decide (PySem.W.findIn K (.ref (He.ga K "NoRod")) "__init__" = some (some (.ref (He.ma K (He.ga K "NoRod") "__init__")))),
  decide (PySem.W.typeIn K (.ref (He.ma K (He.ga K "NoRod") "__init__")) = some (.type "function")),
  decide (PySem.W.findIn K (.ref (He.ga K "NoRod")) "rod" = some none),
  decide (PySem.W.nsIn K mainGlobals "SameRod" = some (some (.ref (He.ga K "SameRod")))),
  xcB K (He.ga K "SameRod") [.ref (He.ga K "HooksError"), .type "ValueError", .type "Exception", .type "BaseException", .type "object"] "ValueError.__new__",
  decide (PySem.W.findIn K (.ref (He.ga K "SameRod")) "__setattr__" = some (some (.builtin "object.__setattr__"))),
  decide (PySem.W.findIn K (.ref (He.ga K "SameRod")) "__getattribute__" = some (some (.builtin "BaseException.__getattribute__"))),
  decide (PySem.W.findIn K (.ref (He.ga K "SameRod")) "__getattr__" = some none),
  PySem.W.keepIn K (.ref (He.ga K "SameRod")),
  decide (PySem.W.subIn K (.ref (He.ga K "SameRod")) (.type "BaseException") = some true),
  decide (PySem.W.typeIn K (.ref (He.ga K "SameRod")) = some (.type "type")),
  PySem.W.hasDictIn K (He.ga K "SameRod"),
  decide (PySem.W.findIn K (.ref (He.ga K "SameRod")) "__class__" = some (some (.builtin "object.__class__"))),
  decide (PySem.W.mroIn K (He.ga K "SameRod") (.type "object") = some true),
  decide (PySem.W.subIn K (.ref (He.ga K "SameRod")) (.ref (He.ga K "HooksError")) = some true),
  decide (PySem.W.findIn K (.ref (He.ga K "SameRod")) "__init__" = some (some (.ref (He.ma K (He.ga K "SameRod") "__init__")))),
  decide (PySem.W.typeIn K (.ref (He.ma K (He.ga K "SameRod") "__init__")) = some (.type "function")),
  decide (PySem.W.findIn K (.ref (He.ga K "SameRod")) "rod" = some none),
  decide (PySem.W.nsIn K mainGlobals "BadSpan" = some (some (.ref (He.ga K "BadSpan")))),
  xcB K (He.ga K "BadSpan") [.ref (He.ga K "HooksError"), .type "ValueError", .type "Exception", .type "BaseException", .type "object"] "ValueError.__new__",
  decide (PySem.W.findIn K (.ref (He.ga K "BadSpan")) "__setattr__" = some (some (.builtin "object.__setattr__"))),
  decide (PySem.W.findIn K (.ref (He.ga K "BadSpan")) "__getattribute__" = some (some (.builtin "BaseException.__getattribute__"))),
  decide (PySem.W.findIn K (.ref (He.ga K "BadSpan")) "__getattr__" = some none),
  PySem.W.keepIn K (.ref (He.ga K "BadSpan")),
  decide (PySem.W.subIn K (.ref (He.ga K "BadSpan")) (.type "BaseException") = some true),
  decide (PySem.W.typeIn K (.ref (He.ga K "BadSpan")) = some (.type "type")),
  PySem.W.hasDictIn K (He.ga K "BadSpan"),
  decide (PySem.W.findIn K (.ref (He.ga K "BadSpan")) "__class__" = some (some (.builtin "object.__class__")))]
def exL6 (K : PySem.W.Frag) : List Bool := [
  decide (PySem.W.mroIn K (He.ga K "BadSpan") (.type "object") = some true),
  decide (PySem.W.subIn K (.ref (He.ga K "BadSpan")) (.ref (He.ga K "HooksError")) = some true),
  decide (PySem.W.findIn K (.ref (He.ga K "BadSpan")) "__init__" = some (some (.ref (He.ma K (He.ga K "BadSpan") "__init__")))),
  decide (PySem.W.typeIn K (.ref (He.ma K (He.ga K "BadSpan") "__init__")) = some (.type "function")),
  decide (PySem.W.findIn K (.ref (He.ga K "BadSpan")) "bar" = some none),
  decide (PySem.W.nsIn K mainGlobals "NotSquare" = some (some (.ref (He.ga K "NotSquare")))),
  xcB K (He.ga K "NotSquare") [.ref (He.ga K "HooksError"), .type "ValueError", .type "Exception", .type "BaseException", .type "object"] "ValueError.__new__",
  decide (PySem.W.findIn K (.ref (He.ga K "NotSquare")) "__setattr__" = some (some (.builtin "object.__setattr__"))),
  decide (PySem.W.findIn K (.ref (He.ga K "NotSquare")) "__getattribute__" = some (some (.builtin "BaseException.__getattribute__"))),
  decide (PySem.W.findIn K (.ref (He.ga K "NotSquare")) "__getattr__" = some none),
  PySem.W.keepIn K (.ref (He.ga K "NotSquare")),
  decide (PySem.W.subIn K (.ref (He.ga K "NotSquare")) (.type "BaseException") = some true),
  decide (PySem.W.typeIn K (.ref (He.ga K "NotSquare")) = some (.type "type")),
  PySem.W.hasDictIn K (He.ga K "NotSquare"),
  decide (PySem.W.findIn K (.ref (He.ga K "NotSquare")) "__class__" = some (some (.builtin "object.__class__"))),
  decide (PySem.W.mroIn K (He.ga K "NotSquare") (.type "object") = some true),
  decide (PySem.W.subIn K (.ref (He.ga K "NotSquare")) (.ref (He.ga K "HooksError")) = some true),
  decide (PySem.W.findIn K (.ref (He.ga K "NotSquare")) "__init__" = some (some (.ref (He.ma K (He.ga K "NotSquare") "__init__")))),
  decide (PySem.W.typeIn K (.ref (He.ma K (He.ga K "NotSquare") "__init__")) = some (.type "function")),
  decide (PySem.W.findIn K (.ref (He.ga K "NotSquare")) "bars" = some none),
  decide (PySem.W.findIn K (.ref (He.ga K "NotSquare")) "wanted" = some none),
  decide (PySem.W.nsIn K mainGlobals "Loose" = some (some (.ref (He.ga K "Loose")))),
  xcB K (He.ga K "Loose") [.ref (He.ga K "HooksError"), .type "ValueError", .type "Exception", .type "BaseException", .type "object"] "ValueError.__new__",
  decide (PySem.W.findIn K (.ref (He.ga K "Loose")) "__setattr__" = some (some (.builtin "object.__setattr__"))),
  decide (PySem.W.findIn K (.ref (He.ga K "Loose")) "__getattribute__" = some (some (.builtin "BaseException.__getattribute__"))),
  decide (PySem.W.findIn K (.ref (He.ga K "Loose")) "__getattr__" = some none),
  PySem.W.keepIn K (.ref (He.ga K "Loose")),
  decide (PySem.W.subIn K (.ref (He.ga K "Loose")) (.type "BaseException") = some true),
  decide (PySem.W.typeIn K (.ref (He.ga K "Loose")) = some (.type "type")),
  PySem.W.hasDictIn K (He.ga K "Loose"),
  decide (PySem.W.findIn K (.ref (He.ga K "Loose")) "__class__" = some (some (.builtin "object.__class__"))),
  decide (PySem.W.mroIn K (He.ga K "Loose") (.type "object") = some true),
  PySem.W.excIn K (He.ga K "Loose") [.type "ValueError", .type "Exception", .type "BaseException", .type "object"] "ValueError.__new__",
  decide (PySem.W.subIn K (.ref (He.ga K "Loose")) (.ref (He.ga K "Loose")) = some true),
  decide (PySem.W.subIn K (.ref (He.ga K "Loose")) (.ref (He.ga K "HooksError")) = some true),
  decide (PySem.W.nsIn K mainGlobals "BadPlace" = some (some (.ref (He.ga K "BadPlace")))),
  xcB K (He.ga K "BadPlace") [.ref (He.ga K "HooksError"), .type "ValueError", .type "Exception", .type "BaseException", .type "object"] "ValueError.__new__",
  decide (PySem.W.findIn K (.ref (He.ga K "BadPlace")) "__setattr__" = some (some (.builtin "object.__setattr__"))),
  decide (PySem.W.findIn K (.ref (He.ga K "BadPlace")) "__getattribute__" = some (some (.builtin "BaseException.__getattribute__"))),
  decide (PySem.W.findIn K (.ref (He.ga K "BadPlace")) "__getattr__" = some none)]
def exL7 (K : PySem.W.Frag) : List Bool := [
  PySem.W.keepIn K (.ref (He.ga K "BadPlace")),
  decide (PySem.W.subIn K (.ref (He.ga K "BadPlace")) (.type "BaseException") = some true),
  decide (PySem.W.typeIn K (.ref (He.ga K "BadPlace")) = some (.type "type")),
  PySem.W.hasDictIn K (He.ga K "BadPlace"),
  decide (PySem.W.findIn K (.ref (He.ga K "BadPlace")) "__class__" = some (some (.builtin "object.__class__"))),
  decide (PySem.W.mroIn K (He.ga K "BadPlace") (.type "object") = some true),
  decide (PySem.W.subIn K (.ref (He.ga K "BadPlace")) (.ref (He.ga K "HooksError")) = some true),
  decide (PySem.W.findIn K (.ref (He.ga K "BadPlace")) "__init__" = some (some (.ref (He.ma K (He.ga K "BadPlace") "__init__")))),
  decide (PySem.W.typeIn K (.ref (He.ma K (He.ga K "BadPlace") "__init__")) = some (.type "function")),
  decide (PySem.W.findIn K (.ref (He.ga K "BadPlace")) "bar" = some none),
  decide (PySem.W.nsIn K mainGlobals "NotLoose" = some (some (.ref (He.ga K "NotLoose")))),
  xcB K (He.ga K "NotLoose") [.ref (He.ga K "HooksError"), .type "ValueError", .type "Exception", .type "BaseException", .type "object"] "ValueError.__new__",
  decide (PySem.W.findIn K (.ref (He.ga K "NotLoose")) "__setattr__" = some (some (.builtin "object.__setattr__"))),
  decide (PySem.W.findIn K (.ref (He.ga K "NotLoose")) "__getattribute__" = some (some (.builtin "BaseException.__getattribute__"))),
  decide (PySem.W.findIn K (.ref (He.ga K "NotLoose")) "__getattr__" = some none),
  PySem.W.keepIn K (.ref (He.ga K "NotLoose")),
  decide (PySem.W.subIn K (.ref (He.ga K "NotLoose")) (.type "BaseException") = some true),
  decide (PySem.W.typeIn K (.ref (He.ga K "NotLoose")) = some (.type "type")),
  PySem.W.hasDictIn K (He.ga K "NotLoose"),
  decide (PySem.W.findIn K (.ref (He.ga K "NotLoose")) "__class__" = some (some (.builtin "object.__class__"))),
  decide (PySem.W.mroIn K (He.ga K "NotLoose") (.type "object") = some true),
  PySem.W.excIn K (He.ga K "NotLoose") [.type "ValueError", .type "Exception", .type "BaseException", .type "object"] "ValueError.__new__",
  decide (PySem.W.subIn K (.ref (He.ga K "NotLoose")) (.ref (He.ga K "NotLoose")) = some true),
  decide (PySem.W.subIn K (.ref (He.ga K "NotLoose")) (.ref (He.ga K "HooksError")) = some true),
  decide ((He.ga K "Loose") ≠ (He.ga K "NotLoose")),
  decide (PySem.W.subIn K (.ref (He.ga K "Loose")) (.ref (He.ga K "NotLoose")) = some false),
  decide ((He.ga K "Loose") ≠ (He.ga K "BadCount")),
  decide (PySem.W.subIn K (.ref (He.ga K "Loose")) (.ref (He.ga K "BadCount")) = some false),
  decide ((He.ga K "Loose") ≠ (He.ga K "BadPlace")),
  decide (PySem.W.subIn K (.ref (He.ga K "Loose")) (.ref (He.ga K "BadPlace")) = some false),
  decide ((He.ga K "NotLoose") ≠ (He.ga K "Loose")),
  decide (PySem.W.subIn K (.ref (He.ga K "NotLoose")) (.ref (He.ga K "Loose")) = some false),
  decide ((He.ga K "NotLoose") ≠ (He.ga K "BadCount")),
  decide (PySem.W.subIn K (.ref (He.ga K "NotLoose")) (.ref (He.ga K "BadCount")) = some false),
  decide ((He.ga K "NotLoose") ≠ (He.ga K "BadPlace")),
  decide (PySem.W.subIn K (.ref (He.ga K "NotLoose")) (.ref (He.ga K "BadPlace")) = some false),
  decide ((He.ga K "BadCount") ≠ (He.ga K "Loose")),
  decide (PySem.W.subIn K (.ref (He.ga K "BadCount")) (.ref (He.ga K "Loose")) = some false),
  decide ((He.ga K "BadCount") ≠ (He.ga K "NotLoose")),
  decide (PySem.W.subIn K (.ref (He.ga K "BadCount")) (.ref (He.ga K "NotLoose")) = some false)]
def exL8 (K : PySem.W.Frag) : List Bool := [
  decide ((He.ga K "BadCount") ≠ (He.ga K "BadPlace")),
  decide (PySem.W.subIn K (.ref (He.ga K "BadCount")) (.ref (He.ga K "BadPlace")) = some false),
  decide ((He.ga K "BadPlace") ≠ (He.ga K "Loose")),
  decide (PySem.W.subIn K (.ref (He.ga K "BadPlace")) (.ref (He.ga K "Loose")) = some false),
  decide ((He.ga K "BadPlace") ≠ (He.ga K "NotLoose")),
  decide (PySem.W.subIn K (.ref (He.ga K "BadPlace")) (.ref (He.ga K "NotLoose")) = some false),
  decide ((He.ga K "BadPlace") ≠ (He.ga K "BadCount")),
  decide (PySem.W.subIn K (.ref (He.ga K "BadPlace")) (.ref (He.ga K "BadCount")) = some false),
  decide (PySem.W.findIn K (.ref (He.ga K "Stand")) "__class__" = some (some (.builtin "object.__class__"))),
  decide (PySem.W.nsIn K mainGlobals "abs" = some none),
  decide (PySem.W.nsIn K mainGlobals "len" = some none),
  decide (PySem.W.nsIn K mainGlobals "range" = some none),
  decide (PySem.W.nsIn K mainGlobals "tuple" = some none),
  decide (PySem.W.nsIn K mainGlobals "list" = some none),
  decide (PySem.W.nsIn K mainGlobals "dict" = some none),
  decide (PySem.W.nsIn K mainGlobals "sorted" = some none),
  decide (PySem.W.nsIn K mainGlobals "enumerate" = some none),
  decide (PySem.W.nsIn K mainGlobals "zip" = some none),
  decide (PySem.W.nsIn K mainGlobals "min" = some none),
  decide (PySem.W.nsIn K mainGlobals "max" = some none),
  decide (PySem.W.nsIn K mainGlobals "all" = some none),
  decide (PySem.W.nsIn K mainGlobals "any" = some none),
  decide (PySem.W.nsIn K mainGlobals "int" = some none),
  decide (PySem.W.nsIn K mainGlobals "isinstance" = some none),
  decide (PySem.W.nsIn K mainGlobals "type" = some none),
  decide (PySem.W.nsIn K mainGlobals "set" = some none),
  decide (PySem.W.nsIn K mainGlobals "sum" = some none),
  decide (PySem.W.nsIn K mainGlobals "gcd" = some (some (.builtin "math.gcd"))),
  intB K "LEAST_RODS" 3,
  intB K "MOST_RODS" 10,
  intB K "MOST_BARS" 8,
  intB K "MOST_HEIGHT" 1000000,
  intB K "MOST_LENGTH" 1000000]
def exK (K : PySem.W.Frag) : Bool := [(exL0 K).all id, (exL1 K).all id, (exL2 K).all id, (exL3 K).all id, (exL4 K).all id, (exL5 K).all id, (exL6 K).all id, (exL7 K).all id, (exL8 K).all id].all id
def dH_divisor : He.DefD := ⟨("divisor", none), "divisor", "divisor", defArgs s_divisor, defBody s_divisor, defScope s_divisor, [], []⟩
def dH_lowest : He.DefD := ⟨("lowest", none), "lowest", "lowest", defArgs s_lowest, defBody s_lowest, defScope s_lowest, [], []⟩
def dH_check_places : He.DefD := ⟨("check_places", none), "check_places", "check_places", defArgs s_check_places, defBody s_check_places, defScope s_check_places, [], []⟩
def dH_bar_rows : He.DefD := ⟨("bar_rows", none), "bar_rows", "bar_rows", defArgs s_bar_rows, defBody s_bar_rows, defScope s_bar_rows, [], []⟩
def dH_determinant_at : He.DefD := ⟨("determinant_at", none), "determinant_at", "determinant_at", defArgs s_determinant_at, defBody s_determinant_at, defScope s_determinant_at, [], []⟩
def dH_heights_at : He.DefD := ⟨("heights_at", none), "heights_at", "heights_at", defArgs s_heights_at, defBody s_heights_at, defScope s_heights_at, [], []⟩
def dH_move_at : He.DefD := ⟨("move_at", none), "move_at", "move_at", defArgs s_move_at, defBody s_move_at, defScope s_move_at, [], []⟩
def dH_table : He.DefD := ⟨("_table", none), "_table", "_table", defArgs s_table, defBody s_table, defScope s_table, [], []⟩
def dH_asked : He.DefD := ⟨("_asked", none), "_asked", "_asked", defArgs s_asked, defBody s_asked, defScope s_asked, [], []⟩
def dH_cleared : He.DefD := ⟨("_cleared", none), "_cleared", "_cleared", defArgs s_cleared, defBody s_cleared, defScope s_cleared, [], []⟩
def dH_swapped : He.DefD := ⟨("_swapped", none), "_swapped", "_swapped", defArgs s_swapped, defBody s_swapped, defScope s_swapped, [], []⟩
def dH_cleared_of : He.DefD := ⟨("_cleared_of", none), "_cleared_of", "_cleared_of", defArgs s_cleared_of, defBody s_cleared_of, defScope s_cleared_of, [], []⟩
def dH_determinant : He.DefD := ⟨("determinant", none), "determinant", "determinant", defArgs s_determinant, defBody s_determinant, defScope s_determinant, [], []⟩
def dH_stand : He.DefD := ⟨("stand", none), "stand", "stand", defArgs s_stand, defBody s_stand, defScope s_stand, [], []⟩
def dH_move : He.DefD := ⟨("move", none), "move", "move", defArgs s_move, defBody s_move, defScope s_move, [], []⟩
def dH_check_rods : He.DefD := ⟨("_check_rods", none), "_check_rods", "_check_rods", defArgs s_check_rods, defBody s_check_rods, defScope s_check_rods, [], []⟩
def dH_check_bars : He.DefD := ⟨("_check_bars", none), "_check_bars", "_check_bars", defArgs s_check_bars, defBody s_check_bars, defScope s_check_bars, [], []⟩
def dH_check_bar : He.DefD := ⟨("_check_bar", none), "_check_bar", "_check_bar", defArgs s_check_bar, defBody s_check_bar, defScope s_check_bar, [], []⟩
def dH_l_state : He.DefD := ⟨("_law_state", none), "_law_state", "_law_state", defArgs s_l_state, defBody s_l_state, defScope s_l_state, [], []⟩
def dH_l_digit : He.DefD := ⟨("_law_digit", none), "_law_digit", "_law_digit", defArgs s_l_digit, defBody s_l_digit, defScope s_l_digit, [], []⟩
def dH_l_bar : He.DefD := ⟨("_law_bar", none), "_law_bar", "_law_bar", defArgs s_l_bar, defBody s_l_bar, defScope s_l_bar, [], []⟩
def dH_l_web : He.DefD := ⟨("_law_web", none), "_law_web", "_law_web", defArgs s_l_web, defBody s_l_web, defScope s_l_web, [], []⟩
def dH_l_made : He.DefD := ⟨("_law_made", none), "_law_made", "_law_made", defArgs s_l_made, defBody s_l_made, defScope s_l_made, [], []⟩
def dH_l_keeps : He.DefD := ⟨("_law_keeps", none), "_law_keeps", "_law_keeps", defArgs s_l_keeps, defBody s_l_keeps, defScope s_l_keeps, [], []⟩
def dH_l_said : He.DefD := ⟨("_law_said", none), "_law_said", "_law_said", defArgs s_l_said, defBody s_l_said, defScope s_l_said, [], []⟩
def dH_l_common : He.DefD := ⟨("_law_common", none), "_law_common", "_law_common", defArgs s_l_common, defBody s_l_common, defScope s_l_common, [], []⟩
def dH_l_anywhere : He.DefD := ⟨("_law_anywhere", none), "_law_anywhere", "_law_anywhere", defArgs s_l_anywhere, defBody s_l_anywhere, defScope s_l_anywhere, [], []⟩
def dH_l_stand_right : He.DefD := ⟨("_law_stand_right", none), "_law_stand_right", "_law_stand_right", defArgs s_l_stand_right, defBody s_l_stand_right, defScope s_l_stand_right, [], []⟩
def dH_l_move_right : He.DefD := ⟨("_law_move_right", none), "_law_move_right", "_law_move_right", defArgs s_l_move_right, defBody s_l_move_right, defScope s_l_move_right, [], []⟩
def dH_l_odd_right : He.DefD := ⟨("_law_odd_right", none), "_law_odd_right", "_law_odd_right", defArgs s_l_odd_right, defBody s_l_odd_right, defScope s_l_odd_right, [], []⟩
def dH_law : He.DefD := ⟨("law", none), "law", "law", defArgs s_law, defBody s_law, defScope s_law, [], []⟩
def dH_Bar_init : He.DefD := ⟨("Bar", some "__init__"), "__init__", "Bar.__init__", defArgs s_Bar_init, defBody s_Bar_init, defScope s_Bar_init, [], []⟩
def dH_Bar_eq : He.DefD := ⟨("Bar", some "__eq__"), "__eq__", "Bar.__eq__", defArgs s_Bar_eq, defBody s_Bar_eq, defScope s_Bar_eq, [], []⟩
def dH_Web_init : He.DefD := ⟨("Web", some "__init__"), "__init__", "Web.__init__", defArgs s_Web_init, defBody s_Web_init, defScope s_Web_init, [], []⟩
def dH_Web_held : He.DefD := ⟨("Web", some "held"), "held", "Web.held", defArgs s_Web_held, defBody s_Web_held, defScope s_Web_held, [], []⟩
def dH_Web_hanging : He.DefD := ⟨("Web", some "hanging"), "hanging", "Web.hanging", defArgs s_Web_hanging, defBody s_Web_hanging, defScope s_Web_hanging, [], []⟩
def dH_Web_eq : He.DefD := ⟨("Web", some "__eq__"), "__eq__", "Web.__eq__", defArgs s_Web_eq, defBody s_Web_eq, defScope s_Web_eq, [], []⟩
def dH_Places_init : He.DefD := ⟨("Places", some "__init__"), "__init__", "Places.__init__", defArgs s_Places_init, defBody s_Places_init, defScope s_Places_init, [], []⟩
def dH_Places_eq : He.DefD := ⟨("Places", some "__eq__"), "__eq__", "Places.__eq__", defArgs s_Places_eq, defBody s_Places_eq, defScope s_Places_eq, [], []⟩
def dH_Stand_init : He.DefD := ⟨("Stand", some "__init__"), "__init__", "Stand.__init__", defArgs s_Stand_init, defBody s_Stand_init, defScope s_Stand_init, [], []⟩
def dH_Stand_eq : He.DefD := ⟨("Stand", some "__eq__"), "__eq__", "Stand.__eq__", defArgs s_Stand_eq, defBody s_Stand_eq, defScope s_Stand_eq, [], []⟩
def dH_BadCount_init : He.DefD := ⟨("BadCount", some "__init__"), "__init__", "BadCount.__init__", defArgs s_BadCount_init, defBody s_BadCount_init, defScope s_BadCount_init, [], []⟩
def dH_NoRod_init : He.DefD := ⟨("NoRod", some "__init__"), "__init__", "NoRod.__init__", defArgs s_NoRod_init, defBody s_NoRod_init, defScope s_NoRod_init, [], []⟩
def dH_SameRod_init : He.DefD := ⟨("SameRod", some "__init__"), "__init__", "SameRod.__init__", defArgs s_SameRod_init, defBody s_SameRod_init, defScope s_SameRod_init, [], []⟩
def dH_BadSpan_init : He.DefD := ⟨("BadSpan", some "__init__"), "__init__", "BadSpan.__init__", defArgs s_BadSpan_init, defBody s_BadSpan_init, defScope s_BadSpan_init, [], []⟩
def dH_NotSquare_init : He.DefD := ⟨("NotSquare", some "__init__"), "__init__", "NotSquare.__init__", defArgs s_NotSquare_init, defBody s_NotSquare_init, defScope s_NotSquare_init, [], []⟩
def dH_BadPlace_init : He.DefD := ⟨("BadPlace", some "__init__"), "__init__", "BadPlace.__init__", defArgs s_BadPlace_init, defBody s_BadPlace_init, defScope s_BadPlace_init, [], []⟩
def dL0 : List He.DefD := [dH_divisor, dH_lowest, dH_check_places, dH_bar_rows, dH_determinant_at, dH_heights_at, dH_move_at, dH_table, dH_asked, dH_cleared, dH_swapped, dH_cleared_of, dH_determinant, dH_stand, dH_move, dH_check_rods, dH_check_bars, dH_check_bar, dH_l_state, dH_l_digit, dH_l_bar, dH_l_web, dH_l_made, dH_l_keeps, dH_l_said, dH_l_common, dH_l_anywhere, dH_l_stand_right, dH_l_move_right, dH_l_odd_right, dH_law, dH_Bar_init, dH_Bar_eq, dH_Web_init, dH_Web_held, dH_Web_hanging, dH_Web_eq, dH_Places_init, dH_Places_eq, dH_Stand_init]
def dL1 : List He.DefD := [dH_Stand_eq, dH_BadCount_init, dH_NoRod_init, dH_SameRod_init, dH_BadSpan_init, dH_NotSquare_init, dH_BadPlace_init]
def fnH : List He.DefD := dL0 ++ dL1
def faH : List He.Fa := []
def lo0 : List Str := ["HooksError", "BadCount", "NoRod", "SameRod", "BadSpan", "NotSquare", "BadPlace", "Loose", "NotLoose", "divisor", "lowest", "Places", "check_places", "bar_rows", "determinant_at", "heights_at", "move_at", "_table", "_asked", "_cleared", "_swapped", "_cleared_of", "Stand", "determinant", "stand", "move", "LEAST_RODS", "MOST_RODS", "MOST_BARS", "MOST_HEIGHT"]
def lo1 : List Str := ["MOST_LENGTH", "Bar", "Web", "_check_rods", "_check_bars", "_check_bar", "_law_cell_at", "_law_state", "_law_digit", "_law_bar", "_law_web", "_law_made", "_law_keeps", "_law_said", "_law_common", "_law_anywhere", "_law_stand_right", "_law_move_right", "_law_odd_right"]
def loH : List Str := lo0 ++ lo1
abbrev RH : PySem.W.OpenRow := PySem.W.OpenLaw.row PySem.Challenge.rw_hookspans_k22_stands_and_moves
abbrev qH : Program := PySem.W.view RH.prog [0, 57]
def ad0 : List Addr := [0, 3, 4, 6, 50, 51, 52, 53, 63, 64, 65, 66, 67, 68, 69, 70, 71, 72, 73, 74, 75, 76, 77, 78, 79, 89, 90, 91, 92, 93, 94, 95, 96, 97, 98, 99, 100, 101, 102, 103]
def ad1 : List Addr := [104, 105, 115, 116, 117, 118, 119, 120, 121, 122, 123, 124, 125, 126, 127, 128, 129, 130, 131, 141, 142, 143, 144, 145, 146, 147, 148, 149, 150, 151, 152, 153, 154, 155, 156, 157, 167, 168, 169, 170]
def ad2 : List Addr := [171, 172, 173, 174, 175, 176, 177, 178, 179, 180, 181, 182, 183, 193, 194, 195, 196, 197, 198, 199, 200, 201, 202, 203, 204, 205, 206, 207, 208, 209, 219, 220, 221, 222, 223, 224, 225, 226, 227, 228]
def ad3 : List Addr := [238, 239, 240, 241, 242, 243, 244, 245, 246, 247, 250, 251, 252, 253, 254, 255, 256, 257, 258, 259, 260, 261, 269, 270, 271, 272, 273, 274, 275, 276, 277, 278, 279, 280, 281, 282, 283, 284, 285, 286]
def ad4 : List Addr := [287, 290, 291, 292, 293, 294, 295, 296, 297, 298, 299, 300, 301, 302, 303, 304, 305, 306, 307, 308, 309, 310, 311, 312, 313, 314, 315, 316, 317, 318, 319, 320, 321, 322, 323, 324, 325, 326, 327, 328]
def ad5 : List Addr := [329, 330, 331, 332, 333, 334, 335, 336, 337, 338, 339, 340, 341, 342, 343, 344, 345, 353, 354, 355, 356, 357, 358, 359, 360, 361, 362, 363, 364, 365, 366, 367, 368, 369, 370, 371, 374, 375, 376, 377]
def ad6 : List Addr := [378, 379, 380, 381, 382, 383, 384, 385, 386, 387, 388, 389, 390, 391, 392, 400, 401, 402, 403, 404, 405, 406, 407, 408, 409, 410, 411, 412, 413, 414, 415, 416, 417, 418, 428, 429, 430, 431, 432, 433]
def ad7 : List Addr := [434, 435, 436, 437, 438, 439, 440, 441, 442, 443, 444, 445, 446, 447, 448, 449, 450, 451, 452, 453, 454, 455, 456, 459, 460, 461, 462, 463, 464, 465, 466, 467, 468, 469, 470, 471, 472, 473, 474, 475]
def ad8 : List Addr := [476, 477, 478, 479, 480, 481, 482, 483, 484, 485, 486, 487, 488, 489, 490, 491, 492, 493, 494, 495, 496, 497, 498, 499, 500, 501, 502, 503, 504, 505, 506, 507, 508, 509, 510, 511, 512, 513, 514, 515]
def ad9 : List Addr := [516, 517, 518, 519, 520, 521, 522, 523, 524, 525, 526, 527, 528, 529, 530, 531, 532, 533, 534, 535, 536, 537, 538, 539, 540, 541, 542, 543, 544, 545, 546, 547, 548, 549, 550, 551, 552, 553, 554, 555]
def ad10 : List Addr := [556, 557, 558, 559, 560, 561, 562, 563]
def adH : List Addr := ad0 ++ ad1 ++ ad2 ++ ad3 ++ ad4 ++ ad5 ++ ad6 ++ ad7 ++ ad8 ++ ad9 ++ ad10
def tfH : List He.Defn := [("law", none), ("_law_odd_right", none)]
def exT (K : PySem.W.Frag) : Bool := (((exK K && Hk.nameB K "law") && Hk.nameB K "_law_odd_right") && decide ((He.cT K ("law", none)).2 ≠ (He.cT K ("_law_odd_right", none)).2))
abbrev hkH : PySem.W.Hook := Hk.hookT adH faH fnH tfH exT
def obH (s : PySem.W.SharedT) : He.AlX := Hk.seeT adH faH fnH tfH exT (HandSHeadRun.getT s)
theorem obH_eq (s : PySem.W.SharedT) : obH s = hkH.obs s.abs := Hk.seeT_eq (HandSHeadRun.getT_eq s)
open PySem.W PySem.W.Fast HandSHeadRun in
theorem runA (w : World) : (wholeF (fun p => stepQ (denQ tabQ) p w) fenceQ 9000 RH.prog).map (fun x => (looksF RH.prog x.1.heap x.2.abs, seenQ qH loH (importedModules RH.prog.main.body) (fun s => xlAt qH [] s && recOk RH.toRowW.records s) x.2.abs)) = some (true, openGood qH loH) := by
  kernel_rfl
open PySem.W PySem.W.Fast HandSHeadRun in
theorem runB (w : World) : (wholeF (fun p => stepQ (denQ tabQ) p w) fenceQ 9000 RH.prog).map (fun x => obH x.2) = some (hkH.val w) := by
  kernel_rfl
theorem map_two {α β γ δ : Type} {m : Option α} {f1 : α → β} {f2 : α → γ} {g : α → δ} {b : β} {c : γ} {d : δ} (h1 : m.map (fun x => (f1 x, f2 x)) = some (b, c)) (h2 : m.map g = some d) : m.map (fun x => (f1 x, f2 x, g x)) = some (b, c, d) := by
  cases m with
  | none => cases h1
  | some x =>
    have e1 : (f1 x, f2 x) = (b, c) := Option.some.inj h1
    have e2 : g x = d := Option.some.inj h2
    show some (f1 x, f2 x, g x) = _
    rw [e2, show f1 x = b from congrArg Prod.fst e1, show f2 x = c from congrArg Prod.snd e1]
theorem runH (w : World) : HandSHeadRun.RunEqI RH qH hkH obH 9000 loH w := by
  unfold HandSHeadRun.RunEqI
  exact map_two (runA w) (runB w)
end K22
namespace Hk
open PySem
/-- a def's code object, as its table is told -/
theorem code_of {K : PySem.W.Frag} {hp : Heap} {mg : Str → Option Value} (KX : K.In hp) (G : hp.Ns mainGlobals mg) {x : Str} {st : Stmt} {a : Addr} {fd : FuncData} (nb : nameB K x = true) (hm : mg x = some (.ref a)) (F : L2.Fun K x x st a fd) : fd.code = .ref (He.cT K (x, none)).1 := by
  have ea : a = He.ga K x := by
    have z := hm.symm.trans (PySem.W.mg_of KX G (of_decide_eq_true nb))
    exact Value.ref.inj (Option.some.inj z)
  obtain ⟨oc, od, kV, doc, pm, an, cdv, ct, osl, ef, lk, hc⟩ := F.ex
  obtain ⟨c, rfl⟩ := He.codeIn_ref hc
  have e : fd.code = .ref c := by rw [ef]
  rw [e]
  congr 1
  exact (He.codeOf_eq (p := (x, none)) (show K.lookup (He.fAd K (x, none)) = some ⟨oc, od, .func fd, osl⟩ by rw [← lk, ea]; rfl) e).symm
end Hk
namespace K22
open PySem L2
section
variable {P : Program} {w : World} {K : PySem.W.Frag} {mg : Str → Option Value} {base : Heap}
def fo1 (f : Str) : List V → List (Str × V) := fun ws => match ws with | [x] => [(f, x)] | _ => []
def fo2 (f g : Str) : List V → List (Str × V) := fun ws => match ws with | [x, y] => [(g, y), (f, x)] | _ => []
theorem ok_BadCount_init (T : Tx K mg) : FnOk P w K mg base CX0 1 T.a_BadCount_init T.fd_BadCount_init ["self", "what", "count"] (spX T.C_BadCount 2 (fo2 "what" "count")) := by
  refine T.F_BadCount_init.ok sc_BadCount_init (fun vs H Q E h => ?_) (fun cdv A outer s H vs Q E hr h => ?_)
  · obtain ⟨H0, a, ws, rfl, hn, _⟩ := h
    rw [List.length_cons, hn] <;> rfl
  · obtain ⟨H0, a, ws, rfl, hn, ha, rfl, k⟩ := h
    match ws, hn with
    | [x, y], _ =>
      refine ⟨_, pss_cons (ps_ost (pv 0) (pv 1)) (pss_one (ps_ost (pv 0) (pv 2))), ?_⟩
      refine ⟨_, rfl, _, rfl, a, T.C_BadCount, rfl, T.O_BadCount, T.nf_BadCount_what, .inl ⟨upd_same, fun d hd hda => ?_⟩⟩
      rw [upd_ne hda] at hd
      rw [exo1 hda]
      refine ⟨_, rfl, _, rfl, a, T.C_BadCount, rfl, T.O_BadCount, T.nf_BadCount_count, .inr ⟨d, _, upd_same, by rw [upd_ne hda, upd_same], by show 1 ≤ 900; decide, ?_⟩⟩
      rw [exo2 hda]
      exact k d hd hda
theorem ok_NotSquare_init (T : Tx K mg) : FnOk P w K mg base CX0 1 T.a_NotSquare_init T.fd_NotSquare_init ["self", "bars", "wanted"] (spX T.C_NotSquare 2 (fo2 "bars" "wanted")) := by
  refine T.F_NotSquare_init.ok sc_NotSquare_init (fun vs H Q E h => ?_) (fun cdv A outer s H vs Q E hr h => ?_)
  · obtain ⟨H0, a, ws, rfl, hn, _⟩ := h
    rw [List.length_cons, hn] <;> rfl
  · obtain ⟨H0, a, ws, rfl, hn, ha, rfl, k⟩ := h
    match ws, hn with
    | [x, y], _ =>
      refine ⟨_, pss_cons (ps_ost (pv 0) (pv 1)) (pss_one (ps_ost (pv 0) (pv 2))), ?_⟩
      refine ⟨_, rfl, _, rfl, a, T.C_NotSquare, rfl, T.O_NotSquare, T.nf_NotSquare_bars, .inl ⟨upd_same, fun d hd hda => ?_⟩⟩
      rw [upd_ne hda] at hd
      rw [exo1 hda]
      refine ⟨_, rfl, _, rfl, a, T.C_NotSquare, rfl, T.O_NotSquare, T.nf_NotSquare_wanted, .inr ⟨d, _, upd_same, by rw [upd_ne hda, upd_same], by show 1 ≤ 900; decide, ?_⟩⟩
      rw [exo2 hda]
      exact k d hd hda
theorem ok_NoRod_init (T : Tx K mg) : FnOk P w K mg base CX0 1 T.a_NoRod_init T.fd_NoRod_init ["self", "rod"] (spX T.C_NoRod 1 (fo1 "rod")) := by
  refine T.F_NoRod_init.ok sc_NoRod_init (fun vs H Q E h => ?_) (fun cdv A outer s H vs Q E hr h => ?_)
  · obtain ⟨H0, a, ws, rfl, hn, _⟩ := h
    rw [List.length_cons, hn] <;> rfl
  · obtain ⟨H0, a, ws, rfl, hn, ha, rfl, k⟩ := h
    match ws, hn with
    | [x], _ =>
      refine ⟨_, pss_one (ps_ost (pv 0) (pv 1)), ?_⟩
      refine ⟨_, rfl, _, rfl, a, T.C_NoRod, rfl, T.O_NoRod, T.nf_NoRod_rod, .inl ⟨upd_same, fun d hd hda => ?_⟩⟩
      rw [upd_ne hda] at hd
      rw [exo1 hda]
      exact k d hd hda
theorem ok_SameRod_init (T : Tx K mg) : FnOk P w K mg base CX0 1 T.a_SameRod_init T.fd_SameRod_init ["self", "rod"] (spX T.C_SameRod 1 (fo1 "rod")) := by
  refine T.F_SameRod_init.ok sc_SameRod_init (fun vs H Q E h => ?_) (fun cdv A outer s H vs Q E hr h => ?_)
  · obtain ⟨H0, a, ws, rfl, hn, _⟩ := h
    rw [List.length_cons, hn] <;> rfl
  · obtain ⟨H0, a, ws, rfl, hn, ha, rfl, k⟩ := h
    match ws, hn with
    | [x], _ =>
      refine ⟨_, pss_one (ps_ost (pv 0) (pv 1)), ?_⟩
      refine ⟨_, rfl, _, rfl, a, T.C_SameRod, rfl, T.O_SameRod, T.nf_SameRod_rod, .inl ⟨upd_same, fun d hd hda => ?_⟩⟩
      rw [upd_ne hda] at hd
      rw [exo1 hda]
      exact k d hd hda
theorem ok_BadSpan_init (T : Tx K mg) : FnOk P w K mg base CX0 1 T.a_BadSpan_init T.fd_BadSpan_init ["self", "bar"] (spX T.C_BadSpan 1 (fo1 "bar")) := by
  refine T.F_BadSpan_init.ok sc_BadSpan_init (fun vs H Q E h => ?_) (fun cdv A outer s H vs Q E hr h => ?_)
  · obtain ⟨H0, a, ws, rfl, hn, _⟩ := h
    rw [List.length_cons, hn] <;> rfl
  · obtain ⟨H0, a, ws, rfl, hn, ha, rfl, k⟩ := h
    match ws, hn with
    | [x], _ =>
      refine ⟨_, pss_one (ps_ost (pv 0) (pv 1)), ?_⟩
      refine ⟨_, rfl, _, rfl, a, T.C_BadSpan, rfl, T.O_BadSpan, T.nf_BadSpan_bar, .inl ⟨upd_same, fun d hd hda => ?_⟩⟩
      rw [upd_ne hda] at hd
      rw [exo1 hda]
      exact k d hd hda
inductive Rf where
  | cnt (what : Str) (n : Int) | rod (n : Int) | same (n : Int) | span (n : Int) | sq (a b : Int)
def Rf.fs : Rf → List (Str × V)
  | .cnt x n => [("count", .int n), ("what", .str x)]
  | .rod n => [("rod", .int n)]
  | .same n => [("rod", .int n)]
  | .span n => [("bar", .int n)]
  | .sq a b => [("wanted", .int b), ("bars", .int a)]
def Rf.C (T : Tx K mg) : Rf → Addr
  | .cnt _ _ => T.C_BadCount
  | .rod _ => T.C_NoRod
  | .same _ => T.C_SameRod
  | .span _ => T.C_BadSpan
  | .sq _ _ => T.C_NotSquare
def Rf.E (T : Tx K mg) (r : Rf) (E : XK) (H : Hp) : Prop := ∀ d H', Ext H H' → H d = none → H' d = some (.xd r.fs) → E (.ref (r.C T)) (some d) H'
structure BarD where
  a : Int
  b : Int
  c : Int
  len : Int
  lo : Int
  hi : Int
  deriving DecidableEq
abbrev brF : List Str := ["a", "b", "c", "length", "least", "greatest"]
def brV (b : BarD) : List V := [.int b.a, .int b.b, .int b.c, .int b.len, .int b.lo, .int b.hi]
def brT (b : BarD) : List Dt := [.int b.a, .int b.b, .int b.c, .int b.len, .int b.lo, .int b.hi]
def brD (C : Addr) (b : BarD) : Dt := .ins C brF (brT b)
theorem br_fields {C : Addr} {H : Hp} {b : BarD} {v : V} (i : Is K H (brD C b) v) : ∃ a dx, v = .ref a ∧ H a = some (.ins C dx [("a", .int b.a), ("b", .int b.b), ("c", .int b.c), ("length", .int b.len), ("least", .int b.lo), ("greatest", .int b.hi)]) := by
  obtain ⟨a, dx, kvs, rfl, ha, ek, hl⟩ := i
  obtain ⟨v1, r1, e1, f1, v2, r2, e2, f2, v3, r3, e3, f3, v4, r4, e4, f4, v5, r5, e5, f5, v6, r6, e6, f6, e7⟩ := hl
  subst e7 e6 e5 e4 e3 e2
  cases (show v1 = _ from f1)
  cases (show v2 = _ from f2)
  cases (show v3 = _ from f3)
  cases (show v4 = _ from f4)
  cases (show v5 = _ from f5)
  cases (show v6 = _ from f6)
  refine ⟨a, dx, rfl, ?_⟩
  match kvs, ek, e1 with
  | [(x1, y1), (x2, y2), (x3, y3), (x4, y4), (x5, y5), (x6, y6)], ek, e1 =>
    simp only [List.map_cons, List.map_nil] at ek e1
    injection ek with g1 ek
    injection ek with g2 ek
    injection ek with g3 ek
    injection ek with g4 ek
    injection ek with g5 ek
    injection ek with g6 _
    injection e1 with h1 e1
    injection e1 with h2 e1
    injection e1 with h3 e1
    injection e1 with h4 e1
    injection e1 with h5 e1
    injection e1 with h6 _
    subst g1 g2 g3 g4 g5 g6 h1 h2 h3 h4 h5 h6
    exact ha
theorem br_is {C a dx : Addr} {H : Hp} {b : BarD} (h : H a = some (.ins C dx [("a", .int b.a), ("b", .int b.b), ("c", .int b.c), ("length", .int b.len), ("least", .int b.lo), ("greatest", .int b.hi)])) : Is K H (brD C b) (.ref a) :=
  ⟨a, dx, _, rfl, h, rfl, _, _, rfl, rfl, _, _, rfl, rfl, _, _, rfl, rfl, _, _, rfl, rfl, _, _, rfl, rfl, _, _, rfl, rfl, rfl⟩
def spBar (K : PySem.W.Frag) (C : Addr) : Sp := fun vs H Q _ => ∃ (H0 : Hp) (x dx : Addr) (b : BarD), vs = .ref x :: brV b ∧ H0 x = none ∧ H0 dx = none ∧ dx ≠ x ∧ H = upd (upd H0 dx (.own x)) x (.ins C dx []) ∧ ∀ H', Ext H0 H' → Is K H' (brD C b) (.ref x) → Q .non H'
theorem ok_Bar_init (T : Tx K mg) : FnOk P w K mg base (L2.CX P w) 2 T.a_Bar_init T.fd_Bar_init ["self", "a", "b", "c", "length", "least", "greatest"] (spBar K T.C_Bar) := by
  refine T.F_Bar_init.okX sc_Bar_init (fun vs H Q E h => ?_) (fun cdv A outer s H vs Q E hr h => ?_)
  · obtain ⟨H0, x, dx, b, rfl, _⟩ := h
    rfl
  · obtain ⟨H0, x, dx, b, rfl, hx, hdx, hne, rfl, k⟩ := h
    refine ⟨_, (pss_cons (ps_fld (pv 0) (pv 1) rfl)
      (pss_cons (ps_fld (pv 0) (pv 2) rfl)
      (pss_cons (ps_fld (pv 0) (pv 3) rfl)
      (pss_cons (ps_fld (pv 0) (pv 4) rfl)
      (pss_cons (ps_fld (pv 0) (pv 5) rfl)
      (pss_one (ps_fld (pv 0) (pv 6) rfl))))))), ?_⟩
    have eH : Ext H0 (upd (upd H0 dx (.own x)) x (.ins T.C_Bar dx [])) := (Ext.upd hdx).mut hx
    refine ⟨_, rfl, _, rfl, x, T.C_Bar, dx, _, rfl, upd_same, T.c_Bar, T.nf_Bar_a, (by show 0 < 1000; decide), ?_⟩
    refine ⟨_, rfl, _, rfl, x, T.C_Bar, dx, _, rfl, upd_same, T.c_Bar, T.nf_Bar_b, (by show 1 < 1000; decide), ?_⟩
    refine ⟨_, rfl, _, rfl, x, T.C_Bar, dx, _, rfl, upd_same, T.c_Bar, T.nf_Bar_c, (by show 2 < 1000; decide), ?_⟩
    refine ⟨_, rfl, _, rfl, x, T.C_Bar, dx, _, rfl, upd_same, T.c_Bar, T.nf_Bar_length, (by show 3 < 1000; decide), ?_⟩
    refine ⟨_, rfl, _, rfl, x, T.C_Bar, dx, _, rfl, upd_same, T.c_Bar, T.nf_Bar_least, (by show 4 < 1000; decide), ?_⟩
    refine ⟨_, rfl, _, rfl, x, T.C_Bar, dx, _, rfl, upd_same, T.c_Bar, T.nf_Bar_greatest, (by show 5 < 1000; decide), ?_⟩
    exact k _ ((((((eH.mut hx).mut hx).mut hx).mut hx).mut hx).mut hx) (br_is (dx := dx) upd_same)
end
end K22
namespace K22
open PySem L2
section
variable {P : Program} {w : World} {K : PySem.W.Frag} {mg : Str → Option Value} {base : Heap}
theorem find_at {α : Type} {p : α → Bool} : ∀ {xs : List α} {i : Nat} {r : α}, (∀ j x, j < i → xs[j]? = some x → p x = false) → xs[i]? = some r → p r = true → xs.find? p = some r
  | [], _, _, _, h, _ => by simp at h
  | x :: xs, 0, r, _, h, hp => by
    cases (show some x = some r from h)
    rw [List.find?_cons, hp]
  | x :: xs, i + 1, r, hb, h, hp => by
    rw [List.find?_cons, hb 0 x (Nat.succ_pos _) rfl]
    exact find_at (xs := xs) (i := i) (fun j y hj e => hb (j + 1) y (Nat.succ_lt_succ hj) e) h hp
theorem find_no {α : Type} {p : α → Bool} {xs : List α} (h : ∀ (j : Nat) (x : α), xs[j]? = some x → p x = false) : xs.find? p = none := by
  rw [List.find?_eq_none]
  intro x hx
  obtain ⟨j, hj⟩ := List.getElem?_of_mem hx
  rw [h j x hj]
  exact Bool.false_ne_true
def offRod (n r : Int) : Bool := !(decide (0 ≤ r) && decide (r < n))
def ckBar (n k : Int) (b : BarD) : Option Rf :=
  match [b.a, b.b, b.c].find? (offRod n) with
  | some r => some (.rod r)
  | none => if b.b = b.a then some (.same b.b) else if b.c = b.a ∨ b.c = b.b then some (.same b.c) else if ¬ (1 ≤ b.len ∧ b.len ≤ 1000000) then some (.cnt "length" b.len) else if ¬ (0 ≤ b.lo ∧ b.lo ≤ b.hi ∧ b.hi ≤ b.len) then some (.span k) else none
def spCkBar (K : PySem.W.Frag) (T : Tx K mg) : Sp := fun vs H Q E => ∃ (n k : Int) (v : V) (b : BarD), vs = [.int n, .int k, v] ∧ Is K H (brD T.C_Bar b) v ∧ (∀ r, ckBar n k b = some r → r.E T E H) ∧ (ckBar n k b = none → ∀ H', Ext H H' → Q .non H')
theorem ok_check_bar (T : Tx K mg) : FnOk P w K mg base (L2.CX P w) 4 T.a_check_bar T.fd_check_bar ["rods", "number", "bar"] (spCkBar K T) := by
  refine T.F_check_bar.okX sc_check_bar (fun vs H Q E h => ?_) (fun cdv A outer s H vs Q E hr h => ?_)
  · obtain ⟨n, k, v, b, rfl, _⟩ := h
    rfl
  · obtain ⟨n, k, v, b, rfl, hb, kE, kQ⟩ := h
    refine ⟨_, (pss_cons (ps_for (passes_of rfl) rfl (pi_tup (pe_tup (pa_cons (pe_fld (pv 2) rfl) (pa_cons (pe_fld (pv 2) rfl) (pa_cons (pe_fld (pv 2) rfl) pa_nil))))) (pg_name (i := 3) sc_check_bar.nd rfl (Or.inl rfl)) (pss_one (ps_if (pt_not (pt_chain op_le op_lt pe_int (pv 3) (pv 0))) (pss_one (ps_raiseX T.X_NoRod (ok_NoRod_init T) (hr.mono (by decide)) rfl (takes_of rfl rfl rfl rfl) rfl (pa_cons (pv 3) pa_nil))) pss_nil)))
      (pss_cons (ps_if (pt_cmpR op_eq (pe_fld (pv 2) rfl) (pe_fld (pv 2) rfl) (nomark _)) (pss_one (ps_raiseX T.X_SameRod (ok_SameRod_init T) (hr.mono (by decide)) rfl (takes_of rfl rfl rfl rfl) rfl (pa_cons (pe_fld (pv 2) rfl) pa_nil))) pss_nil)
      (pss_cons (ps_if (pt_cmpR op_in_seq (pe_fld (pv 2) rfl) (pe_tup (pa_cons (pe_fld (pv 2) rfl) (pa_cons (pe_fld (pv 2) rfl) pa_nil))) rfl) (pss_one (ps_raiseX T.X_SameRod (ok_SameRod_init T) (hr.mono (by decide)) rfl (takes_of rfl rfl rfl rfl) rfl (pa_cons (pe_fld (pv 2) rfl) pa_nil))) pss_nil)
      (pss_cons (ps_if (pt_not (pt_chain op_le op_le pe_int (pe_fld (pv 2) rfl) (pe_glob (v := .int 1000000) rfl T.m_MOST_LENGTH ⟨_, rfl⟩))) (pss_one (ps_raiseX T.X_BadCount (ok_BadCount_init T) (hr.mono (by decide)) rfl (takes_of rfl rfl rfl rfl) rfl (pa_cons pe_str (pa_cons (pe_fld (pv 2) rfl) pa_nil)))) pss_nil)
      (pss_one (ps_if (pt_not (pt_chain3 op_le op_le op_le pe_int (pe_fld (pv 2) rfl) (pe_fld (pv 2) rfl) (pe_fld (pv 2) rfl))) (pss_one (ps_raiseX T.X_BadSpan (ok_BadSpan_init T) (hr.mono (by decide)) rfl (takes_of rfl rfl rfl rfl) rfl (pa_cons (pv 1) pa_nil))) pss_nil)))))), ?_⟩
    obtain ⟨ba, bdx, rfl, hba⟩ := br_fields hb
    refine ⟨_, rfl, ba, T.C_Bar, bdx, _, _, rfl, hba, T.c_Bar, T.nf_Bar_a, rfl, ?_⟩
    refine ⟨_, rfl, ba, T.C_Bar, bdx, _, _, rfl, hba, T.c_Bar, T.nf_Bar_b, rfl, ?_⟩
    refine ⟨_, rfl, ba, T.C_Bar, bdx, _, _, rfl, hba, T.c_Bar, T.nf_Bar_c, rfl, by show 3 ≤ sizeLine; decide, fun t ht => ?_⟩
    refine ⟨t, rfl, ⟨_, SqT.of upd_same⟩, for_tup (K := K) (a := t) (xs := [b.a, b.b, b.c].map V.int) (fun i σ H' => Ext H H' ∧ H' t = some (.tup ([b.a, b.b, b.c].map V.int)) ∧ (∀ j x, j < i → [b.a, b.b, b.c][j]? = some x → offRod n x = false) ∧ ∃ v3 : Option V, σ = [some (.int n), some (.int k), some (.ref ba), v3])
      ⟨Ext.upd ht, upd_same, fun j x hj => absurd hj (Nat.not_lt_zero _), none, rfl⟩ (fun i σ H' _ p => SqT.of p.2.1) ?_ ?_⟩
    · rintro i y σ H1 hi ⟨e1, ht1, hno, v3, rfl⟩
      obtain ⟨r, hr', rfl⟩ : ∃ r, [b.a, b.b, b.c][i]? = some r ∧ y = V.int r := by
        rw [List.getElem?_map] at hi
        cases e : [b.a, b.b, b.c][i]? with
        | none => rw [e] at hi; cases hi
        | some n => rw [e] at hi; exact ⟨n, rfl, (Option.some.inj hi).symm⟩
      have bad : offRod n r = true → ckBar n k b = some (.rod r) := fun ho => by
        unfold ckBar
        rw [find_at hno hr' ho]
      have rz : offRod n r = true → ∀ d, H1 d = none → E (.ref T.C_NoRod) (some d) (upd H1 d (.xd (fo1 "rod" [V.int r]))) := fun ho d hd =>
        kE _ (bad ho) d _ (e1.trans (Ext.upd hd)) (e1.fresh hd) upd_same
      refine ⟨_, rfl, _, _, rfl, rfl, _, rfl, ite2 (fun c0 => ?_) (fun c0 => ?_)⟩
      · refine ⟨_, rfl, _, _, rfl, rfl, _, rfl, ite2 (fun c1 => ?_) (fun c1 => ?_)⟩
        · refine ⟨_, rfl, rz_ok (n := 1) rfl (by decide) (rz ?_)⟩
          unfold offRod
          rw [c0, Bool.true_and]
          exact c1
        · refine ⟨e1, ht1, fun j x hj hx => ?_, _, rfl⟩
          by_cases hji : j = i
          · subst hji
            rw [hr'] at hx
            cases hx
            unfold offRod
            rw [c0, Bool.true_and]
            exact Bool.eq_false_iff.mpr c1
          · exact hno j x (by omega) hx
      · refine ⟨_, rfl, ite2 (fun c1 => ?_) (fun c1 => absurd rfl c1)⟩
        refine ⟨_, rfl, rz_ok (n := 1) rfl (by decide) (rz ?_)⟩
        unfold offRod
        rw [Bool.eq_false_iff.mpr c0]
        rfl
    · rintro σ H1 ⟨e1, ht1, hno, v3, rfl⟩
      have hnone : [b.a, b.b, b.c].find? (offRod n) = none := find_no fun j x hx => hno j x (by
        have := (List.getElem?_eq_some_iff.mp hx).1
        exact this) hx
      have hba1 := e1 _ _ hba
      refine ⟨_, rfl, ba, T.C_Bar, bdx, _, _, rfl, hba1, T.c_Bar, T.nf_Bar_b, rfl, ?_⟩
      refine ⟨_, rfl, ba, T.C_Bar, bdx, _, _, rfl, hba1, T.c_Bar, T.nf_Bar_a, rfl, rfl, _, rfl, ite2 (fun c0 => ?_) (fun c0 => ?_)⟩
      · have hba2 : b.b = b.a := V.int.inj (of_decide_eq_true c0)
        refine ⟨_, rfl, ba, T.C_Bar, bdx, _, _, rfl, hba1, T.c_Bar, T.nf_Bar_b, rfl, rz_ok (n := 1) rfl (by decide) fun d hd => ?_⟩
        refine kE (.same b.b) ?_ d _ (e1.trans (Ext.upd hd)) (e1.fresh hd) upd_same
        unfold ckBar
        rw [hnone]
        exact if_pos hba2
      have n1 : ¬ b.b = b.a := fun z => c0 (decide_eq_true (congrArg V.int z))
      refine ⟨_, rfl, ba, T.C_Bar, bdx, _, _, rfl, hba1, T.c_Bar, T.nf_Bar_c, rfl, ?_⟩
      refine ⟨_, rfl, ba, T.C_Bar, bdx, _, _, rfl, hba1, T.c_Bar, T.nf_Bar_a, rfl, ?_⟩
      refine ⟨_, rfl, ba, T.C_Bar, bdx, _, _, rfl, hba1, T.c_Bar, T.nf_Bar_b, rfl, by show 2 ≤ sizeLine; decide, fun t2 ht2 => ?_⟩
      have e2 : Ext H (upd H1 t2 (.tup [.int b.a, .int b.b])) := e1.trans (Ext.upd ht2)
      have hba2 := Ext.upd (o := HO.tup [.int b.a, .int b.b]) ht2 _ _ hba1
      refine ⟨_, _, rfl, .inr (SqT.of upd_same), rfl, rfl, ?_⟩
      generalize upd H1 t2 (.tup [.int b.a, .int b.b]) = H2 at e2 hba2 ⊢
      have hin : inV (.int b.c) [.int b.a, .int b.b] = decide (b.c = b.a ∨ b.c = b.b) := by
        show (b.a == b.c || (b.b == b.c || false)) = _
        rw [Bool.or_false, Bool.eq_iff_iff, Bool.or_eq_true, decide_eq_true_iff, beq_iff_eq, beq_iff_eq]
        exact ⟨fun h => h.imp Eq.symm Eq.symm, fun h => h.imp Eq.symm Eq.symm⟩
      rw [if_neg Bool.false_ne_true, hin]
      refine ⟨_, rfl, ite2 (fun c1 => ?_) (fun c1 => ?_)⟩
      · refine ⟨_, rfl, ba, T.C_Bar, bdx, _, _, rfl, hba2, T.c_Bar, T.nf_Bar_c, rfl, rz_ok (n := 1) rfl (by decide) fun d hd => ?_⟩
        refine kE (.same b.c) ?_ d _ (e2.trans (Ext.upd hd)) (e2.fresh hd) upd_same
        unfold ckBar
        rw [hnone]
        show (if _ then _ else _) = _
        rw [if_neg n1, if_pos (of_decide_eq_true c1)]
      have n2 : ¬ (b.c = b.a ∨ b.c = b.b) := fun z => c1 (decide_eq_true z)
      have r4 : ¬ (1 ≤ b.len ∧ b.len ≤ 1000000) → ckBar n k b = some (.cnt "length" b.len) := fun z => by
        unfold ckBar
        rw [hnone]
        show (if _ then _ else _) = _
        rw [if_neg n1, if_neg n2, if_pos z]
      have rz4 : ¬ (1 ≤ b.len ∧ b.len ≤ 1000000) → ∀ d, H2 d = none → E (.ref T.C_BadCount) (some d) (upd H2 d (.xd (fo2 "what" "count" [V.str "length", V.int b.len]))) := fun z d hd =>
        kE _ (r4 z) d _ (e2.trans (Ext.upd hd)) (e2.fresh hd) upd_same
      refine ⟨_, rfl, ba, T.C_Bar, bdx, _, _, rfl, hba2, T.c_Bar, T.nf_Bar_length, rfl, _, _, rfl, rfl, _, rfl, ite2 (fun c2 => ?_) (fun c2 => ?_)⟩
      · refine ⟨_, _, rfl, rfl, _, rfl, ite2 (fun c3 => ?_) (fun c3 => ?_)⟩
        · refine ⟨_, rfl, ba, T.C_Bar, bdx, _, _, rfl, hba2, T.c_Bar, T.nf_Bar_length, rfl, rz_ok (n := 2) rfl (by decide) (rz4 fun z => ?_)⟩
          rw [decide_eq_true z.2] at c3
          cases c3
        have ok4 : 1 ≤ b.len ∧ b.len ≤ 1000000 := ⟨of_decide_eq_true c2, Classical.byContradiction fun z => c3 (by rw [decide_eq_false z]; rfl)⟩
        have r5 : ¬ (0 ≤ b.lo ∧ b.lo ≤ b.hi ∧ b.hi ≤ b.len) → ckBar n k b = some (.span k) := fun z => by
          unfold ckBar
          rw [hnone]
          show (if _ then _ else _) = _
          rw [if_neg n1, if_neg n2, if_neg (fun y => y ok4), if_pos z]
        have rz5 : ¬ (0 ≤ b.lo ∧ b.lo ≤ b.hi ∧ b.hi ≤ b.len) → ∀ d, H2 d = none → E (.ref T.C_BadSpan) (some d) (upd H2 d (.xd (fo1 "bar" [V.int k]))) := fun z d hd =>
          kE _ (r5 z) d _ (e2.trans (Ext.upd hd)) (e2.fresh hd) upd_same
        refine ⟨_, rfl, ba, T.C_Bar, bdx, _, _, rfl, hba2, T.c_Bar, T.nf_Bar_least, rfl, _, _, rfl, rfl, _, rfl, ite2 (fun c4 => ?_) (fun c4 => ?_)⟩
        · refine ⟨_, rfl, ba, T.C_Bar, bdx, _, _, rfl, hba2, T.c_Bar, T.nf_Bar_greatest, rfl, _, _, rfl, rfl, _, rfl, ite2 (fun c5 => ?_) (fun c5 => ?_)⟩
          · refine ⟨_, rfl, ba, T.C_Bar, bdx, _, _, rfl, hba2, T.c_Bar, T.nf_Bar_length, rfl, _, _, rfl, rfl, _, rfl, ite2 (fun c6 => ?_) (fun c6 => ?_)⟩
            · refine ⟨_, rfl, rz_ok (n := 1) rfl (by decide) (rz5 fun z => ?_)⟩
              rw [decide_eq_true z.2.2] at c6
              cases c6
            · have ok5 : 0 ≤ b.lo ∧ b.lo ≤ b.hi ∧ b.hi ≤ b.len := ⟨of_decide_eq_true c4, of_decide_eq_true c5, Classical.byContradiction fun z => c6 (by rw [decide_eq_false z]; rfl)⟩
              refine kQ ?_ _ e2
              unfold ckBar
              rw [hnone]
              show (if _ then _ else _) = _
              rw [if_neg n1, if_neg n2, if_neg (fun y => y ok4), if_neg (fun y => y ok5)]
          · exact iteT ⟨_, rfl, rz_ok (n := 1) rfl (by decide) (rz5 fun z => c5 (decide_eq_true z.2.1))⟩
        · exact iteT ⟨_, rfl, rz_ok (n := 1) rfl (by decide) (rz5 fun z => c4 (decide_eq_true z.1))⟩
      · refine ⟨_, rfl, iteT ?_⟩
        exact ⟨_, rfl, ba, T.C_Bar, bdx, _, _, rfl, hba2, T.c_Bar, T.nf_Bar_length, rfl, rz_ok (n := 2) rfl (by decide) (rz4 fun z => c2 (decide_eq_true z.1))⟩
end
end K22
namespace K22
open PySem L2
section
variable {P : Program} {w : World} {K : PySem.W.Frag} {mg : Str → Option Value} {base : Heap}
def ckFrom (n : Int) : Nat → List BarD → Option Rf
  | _, [] => none
  | k, b :: r => match ckBar n (k : Nat) b with
    | some x => some x
    | none => ckFrom n (k + 1) r
theorem ck_at {n : Int} : ∀ {bs : List BarD} {k i : Nat} {b : BarD} {r : Rf}, (∀ (j : Nat) (c : BarD), j < i → bs[j]? = some c → ckBar n ((k + j : Nat) : Int) c = none) → bs[i]? = some b → ckBar n ((k + i : Nat) : Int) b = some r → ckFrom n k bs = some r
  | [], _, _, _, _, _, h, _ => by simp at h
  | c :: bs, k, 0, b, r, _, h, hp => by
    cases (show some c = some b from h)
    unfold ckFrom
    rw [show ckBar n (k : Nat) c = some r from hp]
  | c :: bs, k, i + 1, b, r, hb, h, hp => by
    unfold ckFrom
    rw [show ckBar n (k : Nat) c = none from hb 0 c (Nat.succ_pos _) rfl]
    exact ck_at (bs := bs) (k := k + 1) (i := i) (fun j y hj e => by
      rw [Nat.succ_add]
      exact hb (j + 1) y (Nat.succ_lt_succ hj) e) h (by rw [Nat.succ_add]; exact hp)
theorem ck_no {n : Int} : ∀ {bs : List BarD} {k : Nat}, (∀ (j : Nat) (c : BarD), bs[j]? = some c → ckBar n ((k + j : Nat) : Int) c = none) → ckFrom n k bs = none
  | [], _, _ => rfl
  | c :: bs, k, h => by
    unfold ckFrom
    rw [show ckBar n (k : Nat) c = none from h 0 c rfl]
    exact ck_no (bs := bs) (k := k + 1) fun j y e => by
      rw [Nat.succ_add]
      exact h (j + 1) y e
def ckBars (n : Int) (m : Nat) (bs : List BarD) : Option Rf :=
  if ¬ (1 ≤ (bs.length : Int) ∧ (bs.length : Int) ≤ 8) then some (.cnt "bars" bs.length) else if ¬ (bs.length : Int) = n - m then some (.sq bs.length (n - m)) else ckFrom n 0 bs
def hK (hl : List (Int × Int)) : List (Key × V) := hl.map fun p => (Sum.inl p.1, V.int p.2)
theorem isL_len {K : PySem.W.Frag} {H : Hp} : ∀ {ds : List Dt} {vs : List V}, IsL K H ds vs → vs.length = ds.length
  | [], _, h => by cases h; rfl
  | d :: ds, _, ⟨v, r, e, _, h⟩ => by
    subst e
    rw [List.length_cons, List.length_cons, isL_len (ds := ds) h]
def spCkBars (K : PySem.W.Frag) (T : Tx K mg) : Sp := fun vs H Q E => ∃ (n : Int) (hd bl : Addr) (hl : List (Int × Int)) (bs : List BarD) (ws : List V), vs = [.int n, .ref hd, .ref bl] ∧ H hd = some (.dK (hK hl)) ∧ SqQ K H bl ws ∧ IsL K H (bs.map (brD T.C_Bar)) ws ∧
  (∀ r, ckBars n hl.length bs = some r → r.E T E H) ∧ (ckBars n hl.length bs = none → ∀ H', Ext H H' → Q .non H')
theorem ok_check_bars (T : Tx K mg) : FnOk P w K mg base (L2.CX P w) 6 T.a_check_bars T.fd_check_bars ["rods", "held", "bars"] (spCkBars K T) := by
  refine T.F_check_bars.okX sc_check_bars (fun vs H Q E h => ?_) (fun cdv A outer s H vs Q E hr h => ?_)
  · obtain ⟨n, hd, bl, hl, bs, ws, rfl, _⟩ := h
    rfl
  · obtain ⟨n, hd, bl, hl, bs, ws, rfl, hhd, hbl, hbs, kE, kQ⟩ := h
    refine ⟨_, (pss_cons (ps_if (pt_not (pt_chain op_le op_le pe_int (pe_callB call_len_seq (by rfl) T.z_len PySem.boot_len (pa_cons (pv 2) pa_nil)) (pe_glob (v := .int 8) rfl T.m_MOST_BARS ⟨_, rfl⟩))) (pss_one (ps_raiseX T.X_BadCount (ok_BadCount_init T) (hr.mono (by decide)) rfl (takes_of rfl rfl rfl rfl) rfl (pa_cons pe_str (pa_cons (pe_callB call_len_seq (by rfl) T.z_len PySem.boot_len (pa_cons (pv 2) pa_nil)) pa_nil)))) pss_nil)
      (pss_cons (ps_set (i := 3) sc_check_bars.nd rfl (Or.inl rfl) (pe_op op_sub (pv 0) (pe_callB call_lenD (by rfl) T.z_len PySem.boot_len (pa_cons (pv 1) pa_nil))))
      (pss_cons (ps_if (pt_cmpR op_ne (pe_callB call_len_seq (by rfl) T.z_len PySem.boot_len (pa_cons (pv 2) pa_nil)) (pv 3) (nomark _)) (pss_one (ps_raiseX T.X_NotSquare (ok_NotSquare_init T) (hr.mono (by decide)) rfl (takes_of rfl rfl rfl rfl) rfl (pa_cons (pe_callB call_len_seq (by rfl) T.z_len PySem.boot_len (pa_cons (pv 2) pa_nil)) (pa_cons (pv 3) pa_nil)))) pss_nil)
      (pss_one (ps_for (passes_of rfl) rfl (pi_enumQ (by rfl) T.z_enumerate (pa_cons (pv 2) pa_nil)) (pg_tup rfl (pgs_cons (pg_name (i := 4) sc_check_bars.nd rfl (Or.inl rfl)) (pgs_cons (pg_name (i := 5) sc_check_bars.nd rfl (Or.inl rfl)) pgs_nil))) (pss_one (ps_expr (pe_call (ok_check_bar T) (hr.mono (by decide)) rfl T.m_check_bar T.F_check_bar.kp T.b_check_bar .nil (passes_call (takes_of rfl rfl rfl rfl) (fun _ _ _ _ h => h)) (pa_cons (pv 0) (pa_cons (pv 4) (pa_cons (pv 5) pa_nil))))))))))), ?_⟩
    have hlen : ws.length = bs.length := by rw [isL_len hbs, List.length_map]
    have r1 : ¬ (1 ≤ (ws.length : Int) ∧ (ws.length : Int) ≤ 8) → ∀ d, H d = none → E (.ref T.C_BadCount) (some d) (upd H d (.xd (fo2 "what" "count" [V.str "bars", V.int (ws.length : Int)]))) := fun z d hd => by
      have z' : ckBars n hl.length bs = some (.cnt "bars" (ws.length : Int)) := by
        unfold ckBars
        rw [← hlen]
        exact if_pos z
      exact kE _ z' d _ (Ext.upd hd) hd upd_same
    refine ⟨_, rfl, bl, ws, rfl, hbl, _, _, rfl, rfl, _, rfl, ite2 (fun c0 => ?_) (fun c0 => ?_)⟩
    · refine ⟨_, _, rfl, rfl, _, rfl, ite2 (fun c1 => ?_) (fun c1 => ?_)⟩
      · refine ⟨_, rfl, bl, ws, rfl, hbl, rz_ok (n := 2) rfl (by decide) (r1 fun z => ?_)⟩
        rw [decide_eq_true z.2] at c1
        cases c1
      have ok1 : 1 ≤ (ws.length : Int) ∧ (ws.length : Int) ≤ 8 := ⟨of_decide_eq_true c0, Classical.byContradiction fun z => c1 (by rw [decide_eq_false z]; rfl)⟩
      refine ⟨_, rfl, _, rfl, hd, _, rfl, hhd, _, _, rfl, rfl, ?_⟩
      have hkl : ((hK hl).length : Int) = (hl.length : Int) := by unfold hK; rw [List.length_map]
      dsimp only
      rw [hkl]
      refine ⟨_, rfl, bl, ws, rfl, hbl, _, rfl, rfl, _, rfl, ite2 (fun c2 => ?_) (fun c2 => ?_)⟩
      · refine ⟨_, rfl, bl, ws, rfl, hbl, _, rfl, rz_ok (n := 2) rfl (by decide) fun d hd => ?_⟩
        have hne : ¬ (ws.length : Int) = n - hl.length := fun z => by
          rw [z] at c2
          simp at c2
        have z' : ckBars n hl.length bs = some (.sq (ws.length : Int) (n - hl.length)) := by
          unfold ckBars
          rw [← hlen, if_neg (fun y => y ok1), if_pos hne]
        exact kE _ z' d _ (Ext.upd hd) hd upd_same
      have heq : (ws.length : Int) = n - hl.length := Classical.byContradiction fun z => c2 (by
        rw [decide_eq_false (fun y => z (V.int.inj y))]
        rfl)
      have hck : ckBars n hl.length bs = ckFrom n 0 bs := by
        unfold ckBars
        rw [← hlen, if_neg (fun y => y ok1), if_neg (fun y => y heq)]
      rw [hck] at kQ
      simp only [hck] at kE
      refine ⟨_, rfl, bl, rfl, for_enumQ (H0 := H) hbl (fun i σ H' => Ext H H' ∧ (∀ (j : Nat) (c : BarD), j < i → bs[j]? = some c → ckBar n ((0 + j : Nat) : Int) c = none) ∧ ∃ v4 v5 : Option V, σ = [some (.int n), some (.ref hd), some (.ref bl), some (.int (n - hl.length)), v4, v5])
        ⟨Ext.rfl', fun j c hj => absurd hj (Nat.not_lt_zero _), none, none, rfl⟩ (fun i σ H' _ p => p.1) ?_ ?_⟩
      · rintro i y σ H1 t hi ⟨e1, hno, v4, v5, rfl⟩ ht
        obtain ⟨d, hd', iy⟩ := hbs.get hi
        obtain ⟨b, hb, rfl⟩ : ∃ b, bs[i]? = some b ∧ d = brD T.C_Bar b := by
          rw [List.getElem?_map] at hd'
          cases e : bs[i]? with
          | none => rw [e] at hd'; cases hd'
          | some b => rw [e] at hd'; exact ⟨b, rfl, (Option.some.inj hd').symm⟩
        have e2 : Ext H (upd H1 t (.tup [.int (i : Nat), y])) := e1.trans (Ext.upd ht)
        refine ⟨t, _, rfl, SqT.of upd_same, rfl, _, _, rfl, _, _, rfl, rfl, ?_⟩
        refine ⟨_, rfl, _, rfl, _, rfl, n, (i : Nat), y, b, rfl, iy.ext e2, fun r hr' => ?_, fun hnn H3 e3 => ?_⟩
        · intro d' H' e' hd0 hx
          exact kE r (ck_at hno hb (by rw [Nat.zero_add]; exact hr')) d' H' (e2.trans e') (e2.fresh hd0) hx
        · refine ⟨e2.trans e3, fun j c hj hc => ?_, _, _, rfl⟩
          by_cases hji : j = i
          · subst hji
            rw [hb] at hc
            cases hc
            rw [Nat.zero_add]
            exact hnn
          · exact hno j c (by omega) hc
      · rintro σ H1 ⟨e1, hno, v4, v5, rfl⟩
        refine kQ (ck_no fun j c hc => hno j c ?_ hc) _ e1
        have := (List.getElem?_eq_some_iff.mp hc).1
        omega
    · exact ⟨_, rfl, iteT ⟨_, rfl, bl, ws, rfl, hbl, rz_ok (n := 2) rfl (by decide) (r1 fun z => c0 (decide_eq_true z.1))⟩⟩
end
end K22
namespace K22
open PySem L2
section
variable {P : Program} {w : World} {K : PySem.W.Frag} {mg : Str → Option Value} {base : Heap}
def srtI (ks : List Int) : List Int := ks.mergeSort fun a b => decide (a ≤ b)
theorem srtI_perm (ks : List Int) : (srtI ks).Perm ks := List.mergeSort_perm ..
theorem srtI_sorted (ks : List Int) : (srtI ks).Pairwise (· ≤ ·) := by
  have h := List.pairwise_mergeSort (le := fun a b : Int => decide (a ≤ b)) (fun a b c h1 h2 => decide_eq_true (Int.le_trans (of_decide_eq_true h1) (of_decide_eq_true h2))) (fun a b => by
    rw [Bool.or_eq_true, decide_eq_true_iff, decide_eq_true_iff]
    exact Int.le_total a b) ks
  exact h.imp fun h => of_decide_eq_true h
theorem srt_eq {ys ks : List Int} (hp : ys.Perm ks) (hs : ys.Pairwise (· ≤ ·)) : ys = srtI ks :=
  List.Perm.eq_of_pairwise (le := (· ≤ ·)) (fun a b _ _ h1 h2 => Int.le_antisymm h1 h2) hs (srtI_sorted ks) (hp.trans (srtI_perm ks).symm)
def lookI (hl : List (Int × Int)) (r : Int) : Int := match hl.find? fun p => decide (p.1 = r) with
  | some p => p.2
  | none => 0
theorem val_hK : ∀ {hl : List (Int × Int)} {r : Int}, r ∈ hl.map (·.1) → valV (hK hl) (Sum.inl r) = some (V.int (lookI hl r))
  | [], _, h => by cases h
  | p :: hl, r, h => by
    by_cases e : p.1 = r
    · have h1 : valV (hK (p :: hl)) (Sum.inl r) = some (V.int p.2) := valV_pos (by show Sum.inl p.1 = Sum.inl r; rw [e])
      rw [h1]
      unfold lookI
      rw [List.find?_cons, decide_eq_true e]
    · have h2 : r ∈ hl.map (·.1) := by
        rcases List.mem_cons.mp h with h | h
        · exact absurd h.symm e
        · exact h
      have h3 := val_hK h2
      have h4 : valV (hK (p :: hl)) (Sum.inl r) = valV (hK hl) (Sum.inl r) := by
        unfold valV hK
        rw [List.map_cons, List.find?_cons, decide_eq_false (fun z => e (Sum.inl.inj z))]
      rw [h4, h3]
      unfold lookI
      rw [List.find?_cons, decide_eq_false e]
def farH (hl : List (Int × Int)) (r : Int) : Bool := !(decide (-1000000 ≤ lookI hl r) && decide (lookI hl r ≤ 1000000))
def ckRods (n : Int) (hl : List (Int × Int)) : Option Rf :=
  if ¬ (3 ≤ n ∧ n ≤ 10) then some (.cnt "rods" n) else
  match (srtI (hl.map (·.1))).find? (offRod n) with
  | some r => some (.rod r)
  | none => match (srtI (hl.map (·.1))).find? (farH hl) with
    | some r => some (.cnt "height" (lookI hl r))
    | none => if hl = [] then some (.cnt "held" 0) else none
def spCkRods (K : PySem.W.Frag) (T : Tx K mg) : Sp := fun vs H Q E => ∃ (n : Int) (hd : Addr) (hl : List (Int × Int)), vs = [.int n, .ref hd] ∧ H hd = some (.dK (hK hl)) ∧ hl.length < 64 ∧
  (∀ r, ckRods n hl = some r → r.E T E H) ∧ (ckRods n hl = none → ∀ H', Ext H H' → Q .non H')
theorem ok_check_rods (T : Tx K mg) : FnOk P w K mg base (L2.CX P w) 4 T.a_check_rods T.fd_check_rods ["rods", "held"] (spCkRods K T) := by
  refine T.F_check_rods.okX sc_check_rods (fun vs H Q E h => ?_) (fun cdv A outer s H vs Q E hr h => ?_)
  · obtain ⟨n, hd, hl, rfl, _⟩ := h
    rfl
  · obtain ⟨n, hd, hl, rfl, hhd, h64, kE, kQ⟩ := h
    refine ⟨_, (pss_cons (ps_if (pt_not (pt_chain op_le op_le (pe_glob (v := .int 3) rfl T.m_LEAST_RODS ⟨_, rfl⟩) (pv 0) (pe_glob (v := .int 10) rfl T.m_MOST_RODS ⟨_, rfl⟩))) (pss_one (ps_raiseX T.X_BadCount (ok_BadCount_init T) (hr.mono (by decide)) rfl (takes_of rfl rfl rfl rfl) rfl (pa_cons pe_str (pa_cons (pv 0) pa_nil)))) pss_nil)
      (pss_cons (ps_for (passes_of rfl) rfl (pi_list (pe_callB (call_sortedDI rfl) (by rfl) T.z_sorted (by decide +kernel) (pa_cons (pv 1) pa_nil))) (pg_name (i := 2) sc_check_rods.nd rfl (Or.inl rfl)) (pss_one (ps_if (pt_not (pt_chain op_le op_lt pe_int (pv 2) (pv 0))) (pss_one (ps_raiseX T.X_NoRod (ok_NoRod_init T) (hr.mono (by decide)) rfl (takes_of rfl rfl rfl rfl) rfl (pa_cons (pv 2) pa_nil))) pss_nil)))
      (pss_cons (ps_for (passes_of rfl) rfl (pi_list (pe_callB (call_sortedDI rfl) (by rfl) T.z_sorted (by decide +kernel) (pa_cons (pv 1) pa_nil))) (pg_name (i := 2) sc_check_rods.nd rfl (Or.inl rfl)) (pss_one (ps_if (pt_not (pt_chain op_le op_le (pe_un un_neg (pe_glob (v := .int 1000000) rfl T.m_MOST_HEIGHT ⟨_, rfl⟩)) (pe_dget (hu_of hr) (pv 1) (pv 2) (fun _ _ => rfl)) (pe_glob (v := .int 1000000) rfl T.m_MOST_HEIGHT ⟨_, rfl⟩))) (pss_one (ps_raiseX T.X_BadCount (ok_BadCount_init T) (hr.mono (by decide)) rfl (takes_of rfl rfl rfl rfl) rfl (pa_cons pe_str (pa_cons (pe_dget (hu_of hr) (pv 1) (pv 2) (fun _ _ => rfl)) pa_nil)))) pss_nil)))
      (pss_one (ps_if (pt_not (pt_truth (pv 1) (by intro _; rfl))) (pss_one (ps_raiseX T.X_BadCount (ok_BadCount_init T) (hr.mono (by decide)) rfl (takes_of rfl rfl rfl rfl) rfl (pa_cons pe_str (pa_cons pe_int pa_nil)))) pss_nil))))), ?_⟩
    have r0 : ¬ (3 ≤ n ∧ n ≤ 10) → ∀ d, H d = none → E (.ref T.C_BadCount) (some d) (upd H d (.xd (fo2 "what" "count" [V.str "rods", V.int n]))) := fun z d hd =>
      kE (.cnt "rods" n) (by unfold ckRods; exact if_pos z) d _ (Ext.upd hd) hd upd_same
    refine ⟨_, rfl, _, _, rfl, rfl, _, rfl, ite2 (fun c0 => ?_) (fun c0 => ?_)⟩
    · refine ⟨_, _, rfl, rfl, _, rfl, ite2 (fun c1 => ?_) (fun c1 => ?_)⟩
      · refine ⟨_, rfl, rz_ok (n := 2) rfl (by decide) (r0 fun z => ?_)⟩
        rw [decide_eq_true z.2] at c1
        cases c1
      have ok0 : 3 ≤ n ∧ n ≤ 10 := ⟨of_decide_eq_true c0, Classical.byContradiction fun z => c1 (by rw [decide_eq_false z]; rfl)⟩
      have hkk : (hK hl).map (·.1) = (hl.map (·.1)).map Sum.inl := by
        unfold hK
        rw [List.map_map, List.map_map]
        rfl
      refine ⟨_, rfl, hd, _, _, rfl, .inl hhd, hkk, by rw [List.length_map]; exact h64, fun ys p hp hs hpn => ?_⟩
      cases srt_eq hp hs
      have e1 : Ext H (upd H p (.lst ((srtI (hl.map (·.1))).map V.int))) := Ext.upd hpn
      have hp1 : (upd H p (.lst ((srtI (hl.map (·.1))).map V.int))) p = some (.lst ((srtI (hl.map (·.1))).map V.int)) := upd_same
      generalize upd H p (.lst ((srtI (hl.map (·.1))).map V.int)) = H1 at e1 hp1 ⊢
      refine ⟨p, rfl, ⟨_, SqL.of hp1⟩, for_list (K := K) (a := p) (xs := (srtI (hl.map (·.1))).map V.int) (fun i σ H' => Ext H1 H' ∧ (∀ (j : Nat) (x : Int), j < i → (srtI (hl.map (·.1)))[j]? = some x → offRod n x = false) ∧ ∃ v2 : Option V, σ = [some (.int n), some (.ref hd), v2])
        ⟨Ext.rfl', fun j x hj => absurd hj (Nat.not_lt_zero _), none, rfl⟩ (fun i σ H' _ p => (SqL.of hp1).ext p.1) ?_ ?_⟩
      · rintro i y σ H2 hi ⟨e2, hno, v2, rfl⟩
        obtain ⟨r, hr', rfl⟩ : ∃ r, (srtI (hl.map (·.1)))[i]? = some r ∧ y = V.int r := by
          rw [List.getElem?_map] at hi
          cases e : (srtI (hl.map (·.1)))[i]? with
          | none => rw [e] at hi; cases hi
          | some n => rw [e] at hi; exact ⟨n, rfl, (Option.some.inj hi).symm⟩
        have rz : offRod n r = true → ∀ d, H2 d = none → E (.ref T.C_NoRod) (some d) (upd H2 d (.xd (fo1 "rod" [V.int r]))) := fun ho d hd =>
          kE (.rod r) (by unfold ckRods; rw [if_neg (fun y => y ok0), find_at hno hr' ho]) d _ ((e1.trans e2).trans (Ext.upd hd)) ((e1.trans e2).fresh hd) upd_same
        refine ⟨_, rfl, _, _, rfl, rfl, _, rfl, ite2 (fun c2 => ?_) (fun c2 => ?_)⟩
        · refine ⟨_, rfl, _, _, rfl, rfl, _, rfl, ite2 (fun c3 => ?_) (fun c3 => ?_)⟩
          · refine ⟨_, rfl, rz_ok (n := 1) rfl (by decide) (rz ?_)⟩
            unfold offRod
            rw [c2, Bool.true_and]
            exact c3
          · refine ⟨e2, fun j x hj hx => ?_, _, rfl⟩
            by_cases hji : j = i
            · subst hji
              rw [hr'] at hx
              cases hx
              unfold offRod
              rw [c2, Bool.true_and]
              exact Bool.eq_false_iff.mpr c3
            · exact hno j x (by omega) hx
        · refine ⟨_, rfl, ite2 (fun c3 => ?_) (fun c3 => absurd rfl c3)⟩
          refine ⟨_, rfl, rz_ok (n := 1) rfl (by decide) (rz ?_)⟩
          unfold offRod
          rw [Bool.eq_false_iff.mpr c2]
          rfl
      · rintro σ H2 ⟨e2, hno, v2, rfl⟩
        have hnone : (srtI (hl.map (·.1))).find? (offRod n) = none := find_no fun j x hx => hno j x (by
          rw [List.length_map]
          exact (List.getElem?_eq_some_iff.mp hx).1) hx
        have e02 := e1.trans e2
        clear e2 e1 hp1 hno hp hs hpn
        refine ⟨_, rfl, hd, _, _, rfl, .inl (e02 _ _ hhd), hkk, by rw [List.length_map]; exact h64, fun ys p2 hp hs hpn => ?_⟩
        cases srt_eq hp hs
        have e23 : Ext H2 (upd H2 p2 (.lst ((srtI (hl.map (·.1))).map V.int))) := Ext.upd hpn
        have hp1 : (upd H2 p2 (.lst ((srtI (hl.map (·.1))).map V.int))) p2 = some (.lst ((srtI (hl.map (·.1))).map V.int)) := upd_same
        generalize upd H2 p2 (.lst ((srtI (hl.map (·.1))).map V.int)) = H3 at e23 hp1 ⊢
        have e03 := e02.trans e23
        refine ⟨p2, rfl, ⟨_, SqL.of hp1⟩, for_list (K := K) (a := p2) (xs := (srtI (hl.map (·.1))).map V.int) (fun i σ H' => Ext H3 H' ∧ (∀ (j : Nat) (x : Int), j < i → (srtI (hl.map (·.1)))[j]? = some x → farH hl x = false) ∧ ∃ v2 : Option V, σ = [some (.int n), some (.ref hd), v2])
          ⟨Ext.rfl', fun j x hj => absurd hj (Nat.not_lt_zero _), _, rfl⟩ (fun i σ H' _ p => (SqL.of hp1).ext p.1) ?_ ?_⟩
        · rintro i y σ H4 hi ⟨e4, hno, v2, rfl⟩
          obtain ⟨r, hr', rfl⟩ : ∃ r, (srtI (hl.map (·.1)))[i]? = some r ∧ y = V.int r := by
            rw [List.getElem?_map] at hi
            cases e : (srtI (hl.map (·.1)))[i]? with
            | none => rw [e] at hi; cases hi
            | some n => rw [e] at hi; exact ⟨n, rfl, (Option.some.inj hi).symm⟩
          have hmem : r ∈ hl.map (·.1) := (srtI_perm _).mem_iff.mp (List.mem_of_getElem? hr')
          have e04 := e03.trans e4
          have hv : DGet H4 hd (V.int r) (some (V.int (lookI hl r))) := by
            rw [← val_hK hmem]
            exact DGet.k (k := Sum.inl r) (e04 _ _ hhd)
          have rz : farH hl r = true → ∀ d, H4 d = none → E (.ref T.C_BadCount) (some d) (upd H4 d (.xd (fo2 "what" "count" [V.str "height", V.int (lookI hl r)]))) := fun ho d hd =>
            kE (.cnt "height" (lookI hl r)) (by
              unfold ckRods
              rw [if_neg (fun y => y ok0), hnone]
              dsimp only
              rw [find_at hno hr' ho]) d _ (e04.trans (Ext.upd hd)) (e04.fresh hd) upd_same
          refine ⟨_, rfl, _, rfl, _, rfl, hd, _, rfl, hv, _, _, rfl, rfl, _, rfl, ite2 (fun c2 => ?_) (fun c2 => ?_)⟩
          · refine ⟨_, _, rfl, rfl, _, rfl, ite2 (fun c3 => ?_) (fun c3 => ?_)⟩
            · refine ⟨_, rfl, _, rfl, hd, _, rfl, hv, rz_ok (n := 2) rfl (by decide) (rz ?_)⟩
              unfold farH
              rw [c2, Bool.true_and]
              exact c3
            · refine ⟨e4, fun j x hj hx => ?_, _, rfl⟩
              by_cases hji : j = i
              · subst hji
                rw [hr'] at hx
                cases hx
                unfold farH
                rw [c2, Bool.true_and]
                exact Bool.eq_false_iff.mpr c3
              · exact hno j x (by omega) hx
          · refine ⟨_, rfl, ite2 (fun c3 => ?_) (fun c3 => absurd rfl c3)⟩
            refine ⟨_, rfl, _, rfl, hd, _, rfl, hv, rz_ok (n := 2) rfl (by decide) (rz ?_)⟩
            unfold farH
            rw [Bool.eq_false_iff.mpr c2]
            rfl
        · rintro σ H4 ⟨e4, hno, v2, rfl⟩
          have hnone2 : (srtI (hl.map (·.1))).find? (farH hl) = none := find_no fun j x hx => hno j x (by
            rw [List.length_map]
            exact (List.getElem?_eq_some_iff.mp hx).1) hx
          have e04 := e03.trans e4
          have hck : ckRods n hl = if hl = [] then some (.cnt "held" 0) else none := by
            unfold ckRods
            rw [if_neg (fun y => y ok0), hnone]
            dsimp only
            rw [hnone2]
          refine ⟨_, rfl, _, .inr (.inr ⟨_, e04 _ _ hhd, rfl⟩), ?_⟩
          cases hl with
          | nil =>
            refine iteT (rz_ok (n := 2) rfl (by decide) fun d hd => ?_)
            exact kE (.cnt "held" 0) (by rw [hck]; rfl) d _ (e04.trans (Ext.upd hd)) (e04.fresh hd) upd_same
          | cons x l => exact iteF (kQ (by rw [hck]; exact if_neg (fun z => by cases z)) _ e04)
    · exact ⟨_, rfl, iteT ⟨_, rfl, rz_ok (n := 2) rfl (by decide) (r0 fun z => c0 (decide_eq_true z.1))⟩⟩
end
end K22
namespace K22
open PySem L2
section
variable {P : Program} {w : World} {K : PySem.W.Frag} {mg : Str → Option Value} {base : Heap}
def normH (hl : List (Int × Int)) : List (Int × Int) := (srtI (hl.map (·.1))).map fun r => (r, lookI hl r)
abbrev wbF : List Str := ["rods", "bars", "_held"]
def hdD (hl : List (Int × Int)) : Dt := .dic (hl.map fun p => Sum.inl p.1) (hl.map fun p => Dt.int p.2)
def wbT (CB : Addr) (n : Int) (bs : List BarD) (hl : List (Int × Int)) : List Dt := [.int n, .tup (bs.map (brD CB)), hdD hl]
def wbD (C CB : Addr) (n : Int) (bs : List BarD) (hl : List (Int × Int)) : Dt := .ins C wbF (wbT CB n bs hl)
theorem hd_is {H : Hp} {a : Addr} {hl : List (Int × Int)} (h : H a = some (.dK (hK hl))) : Is K H (hdD hl) (.ref a) := by
  refine ⟨a, hK hl, rfl, h, by unfold hK; rw [List.map_map]; rfl, ?_⟩
  unfold hK
  rw [List.map_map]
  have z := isL_ints (K := K) (H := H) (hl.map (·.2))
  rw [List.map_map, List.map_map] at z
  exact z
theorem hd_of : ∀ {hl : List (Int × Int)} {kvs : List (Key × V)}, kvs.map (·.1) = (hl.map fun p => (Sum.inl p.1 : Key)) → kvs.map (·.2) = hl.map (fun p => V.int p.2) → kvs = hK hl
  | [], [], _, _ => rfl
  | [], _ :: _, h, _ => by cases h
  | _ :: _, [], h, _ => by cases h
  | p :: hl, (k, v) :: kvs, h1, h2 => by
    rw [List.map_cons, List.map_cons] at h1 h2
    injection h1 with a1 a2
    injection h2 with b1 b2
    show _ = (Sum.inl p.1, V.int p.2) :: hK hl
    rw [← hd_of a2 b2]
    cases (show k = _ from a1)
    cases (show v = _ from b1)
    rfl
theorem wb_fields {C CB : Addr} {H : Hp} {n : Int} {bs : List BarD} {hl : List (Int × Int)} {v : V} (i : Is K H (wbD C CB n bs hl) v) :
    ∃ (a dx t d : Addr) (ws : List V), v = .ref a ∧ H a = some (.ins C dx [("rods", .int n), ("bars", .ref t), ("_held", .ref d)]) ∧ SqT K H t ws ∧ IsL K H (bs.map (brD CB)) ws ∧ H d = some (.dK (hK hl)) := by
  obtain ⟨a, dx, kvs, rfl, ha, ek, h⟩ := i
  obtain ⟨v1, r1, e1, f1, v2, r2, e2, ⟨t, ws, g1, g2, g3⟩, v3, r3, e3, ⟨d, qs, k1, k2, k3, k4⟩, e4⟩ := h
  subst e4 e3 e2
  cases (show v1 = _ from f1)
  subst g1 k1
  have hq : qs = hK hl := hd_of k3 (by
    have z : IsL K H ((hl.map (·.2)).map Dt.int) (qs.map (·.2)) := by rw [List.map_map]; exact k4
    rw [of_isL_ints z, List.map_map]
    rfl)
  subst hq
  match kvs, ek, e1 with
  | [(x1, y1), (x2, y2), (x3, y3)], ek, e1 =>
    simp only [List.map_cons, List.map_nil] at ek e1
    injection ek with g1 ek
    injection ek with g2' ek
    injection ek with g3' _
    injection e1 with h1 e1
    injection e1 with h2 e1
    injection e1 with h3 _
    subst g1 g2' g3' h1 h2 h3
    exact ⟨a, dx, t, d, ws, rfl, ha, g2, g3, k2⟩
theorem wb_is {C CB a dx t d : Addr} {H : Hp} {n : Int} {bs : List BarD} {hl : List (Int × Int)} {ws : List V} (h : H a = some (.ins C dx [("rods", .int n), ("bars", .ref t), ("_held", .ref d)])) (ht : SqT K H t ws) (hb : IsL K H (bs.map (brD CB)) ws) (hd : H d = some (.dK (hK hl))) :
    Is K H (wbD C CB n bs hl) (.ref a) := ⟨a, dx, _, rfl, h, rfl, _, _, rfl, rfl, _, _, rfl, ⟨t, ws, rfl, ht, hb⟩, _, _, rfl, hd_is hd, rfl⟩
def ckWeb (n : Int) (hl : List (Int × Int)) (bs : List BarD) : Option Rf :=
  match ckRods n hl with
  | some r => some r
  | none => ckBars n hl.length bs
def spWeb (K : PySem.W.Frag) (T : Tx K mg) : Sp := fun vs H Q E => ∃ (H0 : Hp) (x dx : Addr) (n : Int) (hd bl : Addr) (hl : List (Int × Int)) (bs : List BarD) (ws : List V), vs = [.ref x, .int n, .ref hd, .ref bl] ∧ H0 x = none ∧ H0 dx = none ∧ dx ≠ x ∧ H = upd (upd H0 dx (.own x)) x (.ins T.C_Web dx []) ∧
  H0 hd = some (.dK (hK hl)) ∧ (hl.map (·.1)).Nodup ∧ hl.length < 64 ∧ SqQ K H0 bl ws ∧ IsL K H0 (bs.map (brD T.C_Bar)) ws ∧
  (∀ r, ckWeb n hl bs = some r → r.E T E H0) ∧ (ckWeb n hl bs = none → ∀ H', Ext H0 H' → Is K H' (wbD T.C_Web T.C_Bar n bs (normH hl)) (.ref x) → (∀ a kvs, H0 a = some (.dK kvs) → Is K (del H' a) (wbD T.C_Web T.C_Bar n bs (normH hl)) (.ref x)) → Q .non H')
theorem put_new {kvs : List (Key × V)} {k : Key} {v : V} (h : k ∉ kvs.map (·.1)) : putK kvs k v = kvs ++ [(k, v)] := by
  unfold putK
  rw [if_neg]
  intro z
  obtain ⟨p, hp, e⟩ := List.any_eq_true.mp z
  exact h (List.mem_map.mpr ⟨p, hp, of_decide_eq_true e⟩)
theorem dc_list {a : Addr} {xs : List V} {g : TG} {tt : TT} {tk tv : TE} {vs : List Nat} {σ : St} {H1 : Hp} {D : Addr} {Qd : Hp → Prop} (Pv : Nat → Hp → Prop) (h0 : Pv 0 (upd H1 D (.dK []))) (hl : ∀ i H, i ≤ xs.length → Pv i H → SqL K H a xs)
    (hs : ∀ i x H, xs[i]? = some x → Pv i H → g x (wipe σ vs) H fun σ2 H2 => wipe σ2 vs = wipe σ vs ∧ tt σ2 H2 fun b H3 =>
      if b = true then tk σ2 H3 fun y H4 => tv σ2 H4 fun z H5 => ∃ kvs k, y = kV k ∧ H5 D = some (.dK kvs) ∧ kvs.length < sizeLine ∧ Pv (i + 1) (upd H5 D (.dK (putK kvs k z))) else Pv (i + 1) H3) (hd : ∀ H, Pv xs.length H → Qd H) :
    ∃ W : Nat → Nat → Hp → Prop, (∃ m, W 0 m (upd H1 D (.dK []))) ∧ ∀ i m H, W i m H →
      ((Itl K a).stop i H ∧ Qd H) ∨ ((Itl K a).go i H ∧ ∃ Nx : Hp → Prop, (∀ H', Nx H' → ∃ m', m' < m ∧ W (i + 1) m' H') ∧ ∀ x H', (Itl K a).yld i H x H' → g x (wipe σ vs) H' fun σ2 H2 => wipe σ2 vs = wipe σ vs ∧ tt σ2 H2 fun b H3 =>
        if b = true then tk σ2 H3 fun y H4 => tv σ2 H4 fun z H5 => ∃ kvs k, y = kV k ∧ H5 D = some (.dK kvs) ∧ kvs.length < sizeLine ∧ Nx (upd H5 D (.dK (putK kvs k z))) else Nx H3) := by
  refine ⟨fun i m H => m = xs.length - i ∧ i ≤ xs.length ∧ Pv i H, ⟨xs.length, by simp, Nat.zero_le _, h0⟩, ?_⟩
  rintro i m H ⟨rfl, hi, p⟩
  have q := hl i H hi p
  by_cases hlt : i < xs.length
  · refine .inr ⟨⟨xs, xs[i], q, by simp [hlt]⟩, Pv (i + 1), fun H' p' => ⟨xs.length - (i + 1), by omega, rfl, hlt, p'⟩, fun x H' y => ?_⟩
    obtain ⟨e, y⟩ := y
    subst e
    exact hs i x _ (y xs q) p
  · have e : i = xs.length := by omega
    subst e
    exact .inl ⟨⟨xs, q, Nat.le_refl _⟩, hd H p⟩
theorem Ext.dele {H0 H5 : Hp} {x : Addr} (e : Ext H0 H5) (h : H0 x = none) : Ext H0 (del H5 x) := fun a o ha => by
  have hne : a ≠ x := fun z => by rw [z, h] at ha; cases ha
  rw [del_ne hne]
  exact e a o ha
theorem SqT.de' {H : Hp} {w a : Addr} {xs : List V} (h : SqT K (del H w) a xs) : SqT K H a xs := h.ext del_ext
theorem sqT_del {H : Hp} {t a : Addr} {xs : List V} {kvs : List (Key × V)} (s : SqT K H t xs) (h : H a = some (.dK kvs)) : SqT K (del H a) t xs := by
  rcases s with (r | ⟨b, r⟩) | r
  · exact .inl (.inl (by rw [del_ne (fun e => by rw [e, h] at r; cases r)]; exact r))
  · exact .inl (.inr ⟨b, by rw [del_ne (fun e => by rw [e, h] at r; cases r)]; exact r⟩)
  · exact .inr r
theorem brL_del {C : Addr} {H : Hp} {a : Addr} {kvs : List (Key × V)} (h : H a = some (.dK kvs)) : ∀ {bs : List BarD} {vs : List V}, IsL K H (bs.map (brD C)) vs → IsL K (del H a) (bs.map (brD C)) vs
  | [], _, e => e
  | b :: bs, _, ⟨v, r, e, i, il⟩ => by
    obtain ⟨x, dx, rfl, hx⟩ := br_fields i
    exact ⟨_, r, e, br_is (dx := dx) (by rw [del_ne (fun e => by rw [e, h] at hx; cases hx)]; exact hx), brL_del h il⟩
theorem ok_Web_init (T : Tx K mg) : FnOk P w K mg base (L2.CX P w) 8 T.a_Web_init T.fd_Web_init ["self", "rods", "held", "bars"] (spWeb K T) := by
  refine T.F_Web_init.okX sc_Web_init (fun vs H Q E h => ?_) (fun cdv A outer s H vs Q E hr h => ?_)
  · obtain ⟨H0, x, dx, n, hd, bl, hl, bs, ws, rfl, _⟩ := h
    rfl
  · obtain ⟨H0, x, dx, n, hd, bl, hl, bs, ws, rfl, hx, hdx, hne, rfl, hhd, hnd, h64, hbl, hbs, kE, kQ⟩ := h
    refine ⟨_, (pss_cons (ps_expr (pe_call (ok_check_rods T) (hr.mono (by decide)) rfl T.m_check_rods T.F_check_rods.kp T.b_check_rods .nil (passes_call (takes_of rfl rfl rfl rfl) (fun _ _ _ _ h => h)) (pa_cons (pv 1) (pa_cons (pv 2) pa_nil))))
      (pss_cons (ps_expr (pe_call (ok_check_bars T) (hr.mono (by decide)) rfl T.m_check_bars T.F_check_bars.kp T.b_check_bars .nil (passes_call (takes_of rfl rfl rfl rfl) (fun _ _ _ _ h => h)) (pa_cons (pv 1) (pa_cons (pv 2) (pa_cons (pv 3) pa_nil)))))
      (pss_cons (ps_fld (pv 0) (pv 1) rfl)
      (pss_cons (ps_fld (pv 0) (pe_callTy call_tuple_of (by rfl) T.z_tuple (by decide +kernel) (pa_cons (pv 3) pa_nil)) rfl)
      (pss_one (ps_fld (pv 0) (pe_dc (own := [("rod", 4)]) (g := gName 4) (tt := tYes) rfl sc_Web_init.nd (pi_list (pe_callB (call_sortedDI rfl) (by rfl) T.z_sorted (by decide +kernel) (pa_cons (pv 2) pa_nil))) (blkOk_by (own := [("rod", 4)]) (N := N_Web_init) (sc := defScope s_Web_init) (by decide +kernel)) (fun _ _ _ _ _ => pg_name (i := 4) sc_Web_init.nd rfl (Or.inl rfl)) (fun _ _ _ _ _ => pts_nil) (fun _ _ _ _ _ => pv 4) (fun _ _ _ _ _ => pe_dget (hu_of hr) (pv 2) (pv 4) (fun _ _ => rfl))) rfl)))))), ?_⟩
    have eH : Ext H0 (upd (upd H0 dx (.own x)) x (.ins T.C_Web dx [])) := (Ext.upd hdx).mut hx
    have hxi : (upd (upd H0 dx (.own x)) x (.ins T.C_Web dx [])) x = some (.ins T.C_Web dx []) := upd_same
    generalize upd (upd H0 dx (.own x)) x (.ins T.C_Web dx []) = H1 at eH hxi ⊢
    refine ⟨_, rfl, _, rfl, n, hd, hl, rfl, eH _ _ hhd, h64, fun r hr' => ?_, fun hc1 H2 e2 => ?_⟩
    · exact fun d H' e' hd0 hx' => kE r (by unfold ckWeb; rw [hr']) d H' (eH.trans e') (eH.fresh hd0) hx'
    have e02 := eH.trans e2
    refine ⟨_, rfl, _, rfl, _, rfl, n, hd, bl, hl, bs, ws, rfl, e02 _ _ hhd, hbl.ext e02, hbs.ext e02, fun r hr' => ?_, fun hc2 H3 e3 => ?_⟩
    · exact fun d H' e' hd0 hx' => kE r (by unfold ckWeb; rw [hc1]; exact hr') d H' (e02.trans e') (e02.fresh hd0) hx'
    have e03 := e02.trans e3
    have hx3 := e3 _ _ (e2 _ _ hxi)
    have hck : ckWeb n hl bs = none := by unfold ckWeb; rw [hc1]; exact hc2
    refine ⟨_, rfl, _, rfl, x, T.C_Web, dx, _, rfl, hx3, T.c_Web, T.nf_Web_rods, (by show 0 < 1000; decide), ?_⟩
    have e04 : Ext H0 (upd H3 x (.ins T.C_Web dx (putF "rods" (.int n) []))) := e03.mut hx
    have hx4 : (upd H3 x (.ins T.C_Web dx (putF "rods" (.int n) []))) x = some (.ins T.C_Web dx [("rods", .int n)]) := upd_same
    generalize upd H3 x (.ins T.C_Web dx (putF "rods" (.int n) [])) = H4 at e04 hx4 ⊢
    rcases hbl with hb | hb
    refine ⟨_, rfl, bl, ws, rfl, .inl ⟨hb.ext e04, fun t htn => ?_⟩⟩
    have e45 : Ext H4 (upd H4 t (.tup ws)) := Ext.upd htn
    have ht : SqT K (del (upd H4 t (.tup ws)) x) t ws := SqT.of (by rw [del_ne (ne_of_none hx4 htn).symm, upd_same])
    have hbs5 := hbs
    generalize upd H4 t (.tup ws) = H5 at e45 ht ⊢
    rotate_left
    refine ⟨_, rfl, bl, ws, rfl, .inr ⟨hb.ext e04, ?_⟩⟩
    obtain ⟨H5, e5⟩ : ∃ H5, H5 = H4 := ⟨_, rfl⟩
    rw [← e5]
    have e45 : Ext H4 H5 := e5 ▸ Ext.rfl'
    have ht : SqT K (del H5 x) bl ws := by rw [e5]; exact hb.ext (Ext.dele e04 hx)
    clear e5 hb
    have hbs5 := hbs
    revert ht
    generalize bl = t
    intro ht
    all_goals
      have hx5 := e45 _ _ hx4
      have e05 := e04.trans e45
      refine ⟨_, rfl, x, T.C_Web, dx, _, rfl, hx5, T.c_Web, T.nf_Web_bars, (by show 1 < 1000; decide), ?_⟩
      have e06 : Ext H0 (upd H5 x (.ins T.C_Web dx (putF "bars" (.ref t) [("rods", .int n)]))) := e05.mut hx
      have hx6 : (upd H5 x (.ins T.C_Web dx (putF "bars" (.ref t) [("rods", .int n)]))) x = some (.ins T.C_Web dx [("rods", .int n), ("bars", .ref t)]) := upd_same
      have d56 : DE x H5 (upd H5 x (.ins T.C_Web dx (putF "bars" (.ref t) [("rods", .int n)]))) := DE.upd
      generalize upd H5 x (.ins T.C_Web dx (putF "bars" (.ref t) [("rods", .int n)])) = H6 at e06 hx6 d56 ⊢
      have hkk : (hK hl).map (·.1) = (hl.map (·.1)).map Sum.inl := by
        unfold hK
        rw [List.map_map, List.map_map]
        rfl
      refine ⟨_, rfl, hd, _, _, rfl, .inl (e06 _ _ hhd), hkk, by rw [List.length_map]; exact h64, fun ys p hp hs hpn => ?_⟩
      cases srt_eq hp hs
      have hp7 : (upd H6 p (.lst ((srtI (hl.map (·.1))).map V.int))) p = some (.lst ((srtI (hl.map (·.1))).map V.int)) := upd_same
      have e67 : Ext H6 (upd H6 p (.lst ((srtI (hl.map (·.1))).map V.int))) := Ext.upd hpn
      generalize upd H6 p (.lst ((srtI (hl.map (·.1))).map V.int)) = H7 at hp7 e67 ⊢
      have e07 := e06.trans e67
      have hx7 := e67 _ _ hx6
      have d57 := d56.trans (DE.of e67)
      refine ⟨p, rfl, ⟨_, SqL.of hp7⟩, fun D hD => dc_list (K := K) (a := p) (xs := (srtI (hl.map (·.1))).map V.int) (fun i H' => Ext H7 H' ∧ H' D = some (.dK (hK (((srtI (hl.map (·.1))).take i).map fun r => (r, lookI hl r)))))
        ⟨Ext.upd hD, upd_same⟩ (fun i H' _ p => (SqL.of hp7).ext p.1) ?_ ?_⟩
      · rintro i y H8 hi ⟨e78, hD8⟩
        obtain ⟨r, hr', rfl⟩ : ∃ r, (srtI (hl.map (·.1)))[i]? = some r ∧ y = V.int r := by
          rw [List.getElem?_map] at hi
          cases e : (srtI (hl.map (·.1)))[i]? with
          | none => rw [e] at hi; cases hi
          | some n => rw [e] at hi; exact ⟨n, rfl, (Option.some.inj hi).symm⟩
        have hmem : r ∈ hl.map (·.1) := (srtI_perm _).mem_iff.mp (List.mem_of_getElem? hr')
        have hv : DGet H8 hd (V.int r) (some (V.int (lookI hl r))) := by
          rw [← val_hK hmem]
          exact DGet.k (k := Sum.inl r) ((e07.trans e78) _ _ hhd)
        have hnew : (Sum.inl r : Key) ∉ (hK (((srtI (hl.map (·.1))).take i).map fun r => (r, lookI hl r))).map (·.1) := by
          intro z
          unfold hK at z
          rw [List.map_map, List.map_map] at z
          obtain ⟨r', h1, h2⟩ := List.mem_map.mp z
          have e : r' = r := Sum.inl.inj h2
          subst e
          have hnd2 : (srtI (hl.map (·.1))).Nodup := (srtI_perm _).nodup_iff.mpr hnd
          obtain ⟨j, hj⟩ := List.getElem?_of_mem h1
          have hji : j < i := by
            have := (List.getElem?_eq_some_iff.mp hj).1
            rw [List.length_take] at this
            omega
          rw [List.getElem?_take_of_lt hji] at hj
          have hlt := (List.getElem?_eq_some_iff.mp hr').1
          have := (List.getElem?_inj (i := j) (j := i) (by omega) hnd2).mp (hj.trans hr'.symm)
          omega
        refine ⟨rfl, tyes ?_⟩
        refine ⟨_, rfl, _, rfl, _, rfl, hd, _, rfl, hv, _, Sum.inl r, rfl, hD8, ?_, e78.mut hD, ?_⟩
        · unfold hK
          rw [List.length_map, List.length_map, List.length_take]
          exact Nat.lt_of_lt_of_le (show min i (srtI (hl.map (·.1))).length < 100 by
            rw [(srtI_perm (hl.map (·.1))).length_eq, List.length_map]
            omega) (by decide)
        · rw [upd_same, put_new hnew, List.take_add_one, hr']
          unfold hK
          simp
      · rintro H8 ⟨e78, hD8⟩
        rw [List.length_map, List.take_length] at hD8
        have hx8 := e78 _ _ hx7
        refine ⟨_, rfl, x, T.C_Web, dx, _, rfl, hx8, T.c_Web, T.nf_Web_held, (by show 2 < 1000; decide), ?_⟩
        have d59 : DE x H5 (upd H8 x (.ins T.C_Web dx [("rods", .int n), ("bars", .ref t), ("_held", .ref D)])) := (d57.trans (DE.of e78)).trans DE.upd
        have e09 : Ext H0 (upd H8 x (.ins T.C_Web dx [("rods", .int n), ("bars", .ref t), ("_held", .ref D)])) := (e07.trans e78).mut hx
        have hDx : D ≠ x := (ne_of_none hx7 hD).symm
        have hD9 : (upd H8 x (.ins T.C_Web dx [("rods", .int n), ("bars", .ref t), ("_held", .ref D)])) D = some (.dK (hK (normH hl))) := by
          rw [upd_ne hDx]
          exact hD8
        have ht9 := SqT.de' (K := K) (ht.ext d59)
        refine kQ hck _ e09 (wb_is upd_same ht9 (hbs.ext e09) hD9) fun a kvs ha => ?_
        have ha9 := e09 _ _ ha
        refine wb_is (dx := dx) (t := t) (d := D) ?_ (sqT_del ht9 ha9) (brL_del ha9 (hbs.ext e09)) ?_
        · rw [del_ne (ne_of_none ha hx).symm, upd_same]
          rfl
        · rw [del_ne (ne_of_none (e07 _ _ ha) hD).symm]
          exact hD9
end
end K22
namespace K22
open PySem L2
section
variable {P : Program} {w : World} {K : PySem.W.Frag} {mg : Str → Option Value} {base : Heap}
def spHeld (K : PySem.W.Frag) (C CB : Addr) : Sp := fun vs H Q _ => ∃ (v : V) (n : Int) (bs : List BarD) (hl : List (Int × Int)), vs = [v] ∧ Is K H (wbD C CB n bs hl) v ∧ ∀ p, H p = none → Q (.ref p) (upd H p (.dK (hK hl)))
theorem ok_Web_held (T : Tx K mg) : FnOk P w K mg base (L2.CX P w) 2 T.a_Web_held T.fd_Web_held ["self"] (spHeld K T.C_Web T.C_Bar) := by
  refine T.F_Web_held.okX sc_Web_held (fun vs H Q E h => ?_) (fun cdv A outer s H vs Q E hr h => ?_)
  · obtain ⟨v, n, bs, hl, rfl, _⟩ := h
    rfl
  · obtain ⟨v, n, bs, hl, rfl, hw, k⟩ := h
    refine ⟨_, (pss_one (ps_ret (pe_callTy call_dictD (by rfl) T.z_dict (by decide +kernel) (pa_cons (pe_fld (pv 0) rfl) pa_nil)))), ?_⟩
    obtain ⟨a, dx, t, d, ws, rfl, ha, ht, hb, hd⟩ := wb_fields hw
    exact ⟨_, rfl, a, T.C_Web, dx, _, _, rfl, ha, T.c_Web, T.nf_Web_held, rfl, d, _, rfl, .inl hd, k⟩
def offK (hl : List (Int × Int)) (r : Int) : Bool := !((hl.map (·.1)).contains r)
def hangL (n : Int) (hl : List (Int × Int)) : List Int := (rangeI n.toNat).filter (offK hl)
theorem val_none : ∀ {hl : List (Int × Int)} {r : Int}, r ∉ hl.map (·.1) → valV (hK hl) (Sum.inl r) = none
  | [], _, _ => rfl
  | p :: hl, r, h => by
    have h1 : p.1 ≠ r := fun e => h (by rw [List.map_cons, e]; exact List.mem_cons_self)
    have h2 := val_none (hl := hl) (r := r) fun z => h (List.mem_cons_of_mem _ z)
    unfold valV hK at h2 ⊢
    rw [List.map_cons, List.find?_cons, decide_eq_false (fun z => h1 (Sum.inl.inj z))]
    exact h2
theorem val_some {hl : List (Int × Int)} {r : Int} : (valV (hK hl) (Sum.inl r)).isSome = (hl.map (·.1)).contains r := by
  by_cases h : r ∈ hl.map (·.1)
  · rw [val_hK h, List.contains_iff_mem.mpr h]
    rfl
  · rw [val_none h, Bool.eq_false_iff.mpr fun z => h (List.contains_iff_mem.mp z)]
    rfl
def spHanging (K : PySem.W.Frag) (C CB : Addr) : Sp := fun vs H Q _ => ∃ (v : V) (n : Int) (bs : List BarD) (hl : List (Int × Int)), vs = [v] ∧ Is K H (wbD C CB n bs hl) v ∧ 0 ≤ n ∧ n ≤ 1000 ∧ ∀ p H', H p = none → Ext H H' → H' p = some (.lst ((hangL n hl).map V.int)) → Q (.ref p) H'
theorem ok_Web_hanging (T : Tx K mg) : FnOk P w K mg base (L2.CX P w) 2 T.a_Web_hanging T.fd_Web_hanging ["self"] (spHanging K T.C_Web T.C_Bar) := by
  refine T.F_Web_hanging.okX sc_Web_hanging (fun vs H Q E h => ?_) (fun cdv A outer s H vs Q E hr h => ?_)
  · obtain ⟨v, n, bs, hl, rfl, _⟩ := h
    rfl
  · obtain ⟨v, n, bs, hl, rfl, hw, n0, n1, k⟩ := h
    refine ⟨_, (pss_one (ps_ret (pe_lc (own := [("rod", 1)]) (g := gName 1) (by rfl) sc_Web_hanging.nd (pi_range1 rfl T.z_range (pa_cons (pe_fld (pv 0) rfl) pa_nil)) (blkOk_by (own := [("rod", 1)]) (N := N_Web_hanging) (sc := defScope s_Web_hanging) (by decide +kernel)) (fun _ _ _ _ _ => (pg_name (i := 1) sc_Web_hanging.nd rfl (Or.inl rfl))) (fun _ _ _ _ _ => (pts_one (pt_cmp (h1 := rfl) (pc_dnotin (ty := tVar 1) (td := tFld K (tVar 0) "_held") (hu_of hr) (pv 1) (pe_fld (pv 0) rfl))))) (fun _ _ _ _ _ => (pv 1))))), ?_⟩
    obtain ⟨a, dx, t, d, ws, rfl, ha, ht, hb, hd⟩ := wb_fields hw
    refine ⟨_, rfl, a, T.C_Web, dx, _, _, rfl, ha, T.c_Web, T.nf_Web_rods, rfl, n, rfl, by omega, by omega, lc_rangeF (offK hl) (fun i => i) (by omega) (fun i hi H' e R N hR => ?_) (fun D H' hD e hD' => ?_)⟩
    · refine ⟨rfl, _, rfl, _, rfl, a, T.C_Web, dx, _, _, rfl, e _ _ ha, T.c_Web, T.nf_Web_held, rfl, d, _, rfl, DGet.k (k := Sum.inl (0 + (i : Nat) : Int)) (e _ _ hd), _, rfl, ?_⟩
      rw [val_some, Int.zero_add]
      by_cases hp : offK hl (i : Nat) = true
      · rw [if_pos hp] at hR
        unfold offK at hp
        rw [if_pos hp]
        exact ⟨_, rfl, hR⟩
      · rw [if_neg hp] at hR
        unfold offK at hp
        rw [if_neg hp]
        exact hR
    · refine k D H' hD e ?_
      rw [List.map_id'] at hD'
      exact hD'
end
end K22
namespace L2
theorem cut_take (xs : List V) (k : Nat) : cutV xs none (some (k : Int)) = xs.take k := by
  unfold cutV
  rw [HT.sIx_nat, HT.sIx_none, List.drop_zero, Nat.sub_zero]
  by_cases h : k ≤ xs.length
  · rw [Nat.min_eq_left h]
  · rw [Nat.min_eq_right (by omega), List.take_of_length_le (Nat.le_refl _), List.take_of_length_le (by omega)]
theorem cut_drop (xs : List V) (k : Nat) : cutV xs (some (k : Int)) none = xs.drop k := by
  unfold cutV
  rw [HT.sIx_nat, HT.sIx_none]
  by_cases h : k ≤ xs.length
  · rw [Nat.min_eq_left h, List.take_of_length_le (by rw [List.length_drop]; omega)]
  · rw [Nat.min_eq_right (by omega), List.drop_eq_nil_of_le (Nat.le_refl _), List.drop_eq_nil_of_le (by omega), List.take_nil]
theorem mem_rangeI {n : Nat} {x : Int} : x ∈ rangeI n ↔ 0 ≤ x ∧ x < n := by
  unfold rangeI
  rw [List.mem_map]
  constructor
  · rintro ⟨i, hi, rfl⟩
    have := List.mem_range.mp hi
    omega
  · rintro ⟨h0, h1⟩
    exact ⟨x.toNat, List.mem_range.mpr (by omega), by omega⟩
theorem nodup_rangeI (n : Nat) : (rangeI n).Nodup := by
  unfold rangeI
  rw [List.nodup_iff_pairwise_ne, List.pairwise_map]
  exact (List.nodup_iff_pairwise_ne.mp List.nodup_range).imp fun h e => h (by omega)
theorem len_rangeI (n : Nat) : (rangeI n).length = n := by
  unfold rangeI
  rw [List.length_map, List.length_range]
end L2
namespace K22
open PySem L2
structure BarOk (n : Int) (b : BarD) : Prop where
  a0 : 0 ≤ b.a
  a1 : b.a < n
  b0 : 0 ≤ b.b
  b1 : b.b < n
  c0 : 0 ≤ b.c
  c1 : b.c < n
  ab : b.b ≠ b.a
  ac : b.c ≠ b.a
  bc : b.c ≠ b.b
  l0 : 1 ≤ b.len
  l1 : b.len ≤ 1000000
  o0 : 0 ≤ b.lo
  o1 : b.lo ≤ b.hi
  o2 : b.hi ≤ b.len
theorem BarOk.ck {n k : Int} {b : BarD} (h : BarOk n b) : ckBar n k b = none := by
  have hoff : ∀ r : Int, 0 ≤ r → r < n → offRod n r = false := fun r h0 h1 => by
    unfold offRod
    rw [decide_eq_true h0, decide_eq_true h1]
    rfl
  unfold ckBar
  have hf : [b.a, b.b, b.c].find? (offRod n) = none := by
    rw [List.find?_cons, hoff _ h.a0 h.a1, List.find?_cons, hoff _ h.b0 h.b1, List.find?_cons, hoff _ h.c0 h.c1]
    rfl
  rw [hf]
  dsimp only
  rw [if_neg h.ab, if_neg (fun z => z.elim h.ac h.bc), if_neg (fun z => z ⟨h.l0, h.l1⟩), if_neg (fun z => z ⟨h.o0, h.o1, h.o2⟩)]
structure WebOk (n : Int) (hl : List (Int × Int)) (bs : List BarD) : Prop where
  n3 : 3 ≤ n
  n10 : n ≤ 10
  keys : ∀ q ∈ hl, (0 ≤ q.1 ∧ q.1 < n) ∧ -1000000 ≤ q.2 ∧ q.2 ≤ 1000000
  nd : (hl.map (·.1)).Nodup
  ne : hl ≠ []
  b1 : 1 ≤ bs.length
  b8 : bs.length ≤ 8
  sum : (bs.length : Int) = n - hl.length
  bars : ∀ b ∈ bs, BarOk n b
theorem look_mem : ∀ {hl : List (Int × Int)} {r : Int}, r ∈ hl.map (·.1) → (r, lookI hl r) ∈ hl
  | [], _, h => by cases h
  | p :: hl, r, h => by
    unfold lookI
    by_cases e : p.1 = r
    · rw [List.find?_cons, decide_eq_true e]
      subst e
      exact List.mem_cons_self
    · rw [List.find?_cons, decide_eq_false e]
      refine List.mem_cons_of_mem _ ?_
      refine look_mem (hl := hl) ?_
      rcases List.mem_cons.mp h with h | h
      · exact absurd h.symm e
      · exact h
theorem WebOk.l64 {n : Int} {hl : List (Int × Int)} {bs : List BarD} (h : WebOk n hl bs) : hl.length < 64 := by
  have := h.sum
  have := h.n10
  omega
theorem WebOk.ck {n : Int} {hl : List (Int × Int)} {bs : List BarD} (h : WebOk n hl bs) : ckWeb n hl bs = none := by
  have h1 : (srtI (hl.map (·.1))).find? (offRod n) = none := by
    rw [List.find?_eq_none]
    intro r hr
    have hm := look_mem ((srtI_perm _).mem_iff.mp hr)
    have := (h.keys _ hm).1
    unfold offRod
    rw [decide_eq_true this.1, decide_eq_true this.2]
    decide
  have h2 : (srtI (hl.map (·.1))).find? (farH hl) = none := by
    rw [List.find?_eq_none]
    intro r hr
    have hm := look_mem ((srtI_perm _).mem_iff.mp hr)
    have := (h.keys _ hm).2
    unfold farH
    rw [decide_eq_true this.1, decide_eq_true this.2]
    decide
  have h3 : ckRods n hl = none := by
    unfold ckRods
    rw [if_neg (fun z => z ⟨h.n3, h.n10⟩), h1]
    dsimp only
    rw [h2]
    dsimp only
    rw [if_neg h.ne]
  unfold ckWeb
  rw [h3]
  dsimp only
  unfold ckBars
  have := h.b1
  have := h.b8
  rw [if_neg (fun z => z ⟨by omega, by omega⟩), if_neg (fun z => z h.sum)]
  exact ck_no fun j c hc => (h.bars c (List.mem_of_getElem? hc)).ck
section
variable {P : Program} {w : World} {K : PySem.W.Frag} {mg : Str → Option Value} {base : Heap}
def bfD (b : BarD) : Dt := .tup (brT b)
theorem bf_is {H : Hp} {t : Addr} {b : BarD} (h : H t = some (.tup (brV b))) : Is K H (bfD b) (.ref t) :=
  ⟨t, _, rfl, SqT.of h, _, _, rfl, rfl, _, _, rfl, rfl, _, _, rfl, rfl, _, _, rfl, rfl, _, _, rfl, rfl, _, _, rfl, rfl, rfl⟩
theorem bf_of {H : Hp} {v : V} {b : BarD} (h : Is K H (bfD b) v) : ∃ t, v = .ref t ∧ SqT K H t (brV b) := by
  obtain ⟨t, ws, rfl, ht, v1, r1, e1, f1, v2, r2, e2, f2, v3, r3, e3, f3, v4, r4, e4, f4, v5, r5, e5, f5, v6, r6, e6, f6, e7⟩ := h
  subst e7 e6 e5 e4 e3 e2 e1
  cases (show v1 = _ from f1)
  cases (show v2 = _ from f2)
  cases (show v3 = _ from f3)
  cases (show v4 = _ from f4)
  cases (show v5 = _ from f5)
  cases (show v6 = _ from f6)
  exact ⟨t, rfl, ht⟩
theorem hd_of_is {H : Hp} {v : V} {hl : List (Int × Int)} (h : Is K H (hdD hl) v) : ∃ d, v = .ref d ∧ H d = some (.dK (hK hl)) := by
  obtain ⟨d, qs, rfl, k2, k3, k4⟩ := h
  have hq : qs = hK hl := hd_of k3 (by
    have z : IsL K H ((hl.map (·.2)).map Dt.int) (qs.map (·.2)) := by rw [List.map_map]; exact k4
    rw [of_isL_ints z, List.map_map]
    rfl)
  subst hq
  exact ⟨d, rfl, k2⟩
theorem merge_new : ∀ (kvs acc : List (Key × V)), (acc.map (·.1) ++ kvs.map (·.1)).Nodup → mergeK acc kvs = acc ++ kvs
  | [], acc, _ => by rw [List.append_nil]; rfl
  | (k, v) :: kvs, acc, h => by
    show mergeK (putK acc k v) kvs = _
    have hk : k ∉ acc.map (·.1) := fun z => by
      have := List.nodup_append.mp h
      exact this.2.2 k z k List.mem_cons_self rfl
    rw [put_new hk, merge_new kvs (acc ++ [(k, v)]), List.append_assoc]
    · rfl
    · rw [List.map_append, List.append_assoc]
      exact h
end
end K22
namespace K22
open PySem L2
section
variable {P : Program} {w : World} {K : PySem.W.Frag} {mg : Str → Option Value} {base : Heap}
def StAt (H : Hp) (p : Addr) : Prop := ∃ a b c : Int, H p = some (.lst [.int a, .int b, .int c]) ∧ 0 ≤ a ∧ 7 ≤ b ∧ b < 2147483637 ∧ 0 ≤ c ∧ c < 2147483587
theorem StAt.well {H : Hp} {p : Addr} (h : StAt H p) : WellAt H p := let ⟨a, b, c, e, _⟩ := h; ⟨a, b, c, e⟩
theorem StAt.ext {H H' : Hp} {p : Addr} (h : StAt H p) (e : Ext H H') : StAt H' p := let ⟨a, b, c, h1, h2⟩ := h; ⟨a, b, c, e _ _ h1, h2⟩
theorem StAt.upd {H : Hp} {p D : Addr} {o : HO} (h : StAt H p) (hD : D ≠ p) : StAt (L2.upd H D o) p := let ⟨a, b, c, h1, h2⟩ := h; ⟨a, b, c, by rw [upd_ne hD.symm]; exact h1, h2⟩
theorem StAt.ne {H : Hp} {p q : Addr} (h : StAt H p) (hq : H q = none) : q ≠ p := h.well.ne hq
def spState : Sp := fun vs H Q _ => ∃ n : Int, vs = [.int n] ∧ ∀ p H', H p = none → Ext H H' → StAt H' p → Q (.ref p) H'
theorem ok_l_state (T : Tx K mg) : FnOk P w K mg base (L2.CX P w) 1 T.a_l_state T.fd_l_state ["_law_source"] spState := by
  refine T.F_l_state.okX sc_l_state (fun vs H Q E h => ?_) (fun cdv A outer s H vs Q E hr h => ?_)
  · obtain ⟨n, rfl, _⟩ := h
    rfl
  · obtain ⟨n, rfl, k⟩ := h
    refine ⟨_, (pss_cons (ps_set (i := 0) sc_l_state.nd rfl (Or.inl rfl) (pe_callB call_abs (by rfl) T.z_abs (by decide +kernel) (pa_cons (pv 0) pa_nil)))
      (pss_one (ps_ret (pe_lst (pa_cons (pe_op op_mul (pv 0) (pe_callTy call_int1 (by rfl) T.z_int (by decide +kernel) (pa_cons (pe_cmpR op_ge (pv 0) (pe_op op_pow pe_int pe_int) (nomark _)) pa_nil))) (pa_cons (pe_op op_add (pe_op op_modN (pv 0) pe_int) pe_int) (pa_cons (pe_op op_modN (pv 0) pe_int) pa_nil))))))), ?_⟩
    refine ⟨_, rfl, n, rfl, ?_⟩
    obtain ⟨m, hm, hm0⟩ : ∃ m : Int, (if n < 0 then -n else n) = m ∧ 0 ≤ m := ⟨_, rfl, by split <;> omega⟩
    rw [hm]
    refine ⟨_, rfl, _, rfl, _, _, rfl, rfl, cpow18, _, _, rfl, rfl, .inr ⟨_, rfl, ?_⟩⟩
    obtain ⟨u, hu, hu0, hu1⟩ : ∃ u : Int, (if (decide (m ≥ 10 ^ (18 : Int).toNat)) = true then (1 : Int) else 0) = u ∧ 0 ≤ u ∧ u ≤ 1 := ⟨_, rfl, by split <;> decide, by split <;> decide⟩
    have b1 := fmod_bounds (a := m) (m := 2147483629) (by decide)
    have b2 := fmod_bounds (a := m) (m := 2147483587) (by decide)
    refine ⟨_, _, rfl, rfl, .inr ⟨by split <;> decide, by split <;> decide⟩, ?_⟩
    refine ⟨_, rfl, _, _, rfl, rfl, (show (2147483629 : Int) ≠ 0 by decide), _, _, rfl, rfl, _, rfl, _, _, rfl, rfl, (show (2147483587 : Int) ≠ 0 by decide), by show 3 ≤ sizeLine; decide, fun p hp => ?_⟩
    refine k p _ hp (Ext.upd hp) ⟨_, _, _, upd_same, ?_, by omega, by omega, b2.1, b2.2⟩
    exact Int.mul_nonneg hm0 (by split <;> decide)
def spDigit : Sp := fun vs H Q _ => ∃ (p : Addr) (m : Int), vs = [.ref p, .int m] ∧ StAt H p ∧ 0 < m ∧ m < 1073741824 ∧ ∀ (r : Int) (H' : Hp), DE p H H' → StAt H' p → 0 ≤ r → r < m → Q (.int r) H'
theorem ok_l_digit (T : Tx K mg) : FnOk P w K mg base (L2.CX P w) 1 T.a_l_digit T.fd_l_digit ["_law_state_here", "_law_base"] spDigit := by
  refine T.F_l_digit.okX sc_l_digit (fun vs H Q E h => ?_) (fun cdv A outer s H vs Q E hr h => ?_)
  · obtain ⟨p, m, rfl, _⟩ := h
    rfl
  · obtain ⟨p, m, rfl, ⟨a, b, c, hw, a0, b0, b1, c0, c1⟩, hm, hm2, k⟩ := h
    refine ⟨_, (pss_cons (ps_if (pt_cmpR op_gt (pe_ix ix_list (pv 0) pe_int (fun _ _ => rfl)) pe_int (nomark _)) (pss_cons (ps_set (i := 2) sc_l_digit.nd rfl (Or.inl rfl) (pe_op op_modN (pe_ix ix_list (pv 0) pe_int (fun _ _ => rfl)) (pv 1)))
      (pss_cons (ps_asg (pe_op op_fdivN (pe_ix ix_list (pv 0) pe_int (fun _ _ => rfl)) (pv 1)) (pg_sub (pv 0) pe_int set_list))
      (pss_one (ps_ret (pv 2))))) pss_nil)
      (pss_cons (ps_set (i := 3) sc_l_digit.nd rfl (Or.inl rfl) (pe_op op_mul (pe_ix ix_list (pv 0) pe_int (fun _ _ => rfl)) (pe_op op_add (pe_op op_fdivN (pe_ix ix_list (pv 0) pe_int (fun _ _ => rfl)) pe_int) pe_int)))
      (pss_cons (ps_asg (pe_op op_add (pe_op op_modN (pe_op op_add (pv 3) (pe_ix ix_list (pv 0) pe_int (fun _ _ => rfl))) pe_int) pe_int) (pg_sub (pv 0) pe_int set_list))
      (pss_one (ps_ret (pe_op op_modN (pe_op op_fdivN (pe_ix ix_list (pv 0) pe_int (fun _ _ => rfl)) pe_int) (pv 1))))))), ?_⟩
    refine ⟨_, rfl, p, _, _, _, rfl, rfl, SqL.of hw, at3a, _, _, rfl, rfl, _, rfl, ?_⟩
    refine ite2 (fun _ => ?_) (fun _ => ?_)
    · refine ⟨_, rfl, p, _, _, _, rfl, rfl, SqL.of hw, at3a, _, rfl, _, _, rfl, rfl, (by omega), ?_⟩
      refine ⟨_, rfl, p, _, _, _, rfl, rfl, SqL.of hw, at3a, _, rfl, _, _, rfl, rfl, ⟨by omega, by omega⟩, ?_⟩
      refine ⟨_, rfl, p, _, _, 0, rfl, rfl, hw, rfl, ?_⟩
      refine ⟨_, rfl, ?_⟩
      have fb := fmod_bounds (a := a) hm
      refine k _ _ DE.upd ⟨_, _, _, upd_same, ?_, b0, b1, c0, c1⟩ fb.1 fb.2
      rw [Int.fdiv_eq_ediv_of_nonneg _ (by omega)]
      exact Int.ediv_nonneg a0 (by omega)
    · refine ⟨_, rfl, p, _, _, _, rfl, rfl, SqL.of hw, at3b, _, rfl, p, _, _, _, rfl, rfl, SqL.of hw, at3b, _, _, rfl, rfl, ⟨by decide, by decide⟩, _, _, rfl, rfl, _, _, rfl, rfl, .inl ⟨by omega, by omega⟩, ?_⟩
      refine ⟨_, rfl, _, rfl, p, _, _, _, rfl, rfl, SqL.of hw, at3c, _, _, rfl, rfl, _, _, rfl, rfl, (show (2147483629 : Int) ≠ 0 by decide), _, _, rfl, rfl, ?_⟩
      refine ⟨_, rfl, p, _, _, 1, rfl, rfl, hw, rfl, ?_⟩
      have n1 := fmod_bounds (a := b * (b.fdiv 1009 + 69621) + c) (m := 2147483629) (by decide)
      refine ⟨_, rfl, p, _, _, _, rfl, rfl, SqL.of upd_same, at3b, _, _, rfl, rfl, ⟨by decide, by decide⟩, _, rfl, _, _, rfl, rfl, (show m ≠ 0 by omega), ?_⟩
      exact k _ _ DE.upd ⟨_, _, _, upd_same, a0, by omega, by omega, c0, c1⟩ (fmod_bounds hm).1 (fmod_bounds hm).2
def hookV : Option Int → V
  | none => .non
  | some c => .int c
theorem filter_ne_len {l : List Int} {c : Int} (hn : l.Nodup) (hc : c ∈ l) : (l.filter fun x => decide (x ≠ c)).length + 1 = l.length := by
  induction l with
  | nil => cases hc
  | cons x r ih =>
    have hx := List.nodup_cons.mp hn
    rw [List.filter_cons]
    by_cases e : x = c
    · subst e
      rw [if_neg (by simp)]
      rw [List.filter_eq_self.mpr fun y hy => by
        refine decide_eq_true fun z => ?_
        rw [z] at hy
        exact hx.1 hy]
      rfl
    · rw [if_pos (decide_eq_true e), List.length_cons, List.length_cons, ih hx.2 ((List.mem_cons.mp hc).resolve_left fun z => e z.symm)]
theorem get_inj {l : List Int} {i j : Nat} {x : Int} (hn : l.Nodup) (h1 : l[i]? = some x) (h2 : l[j]? = some x) : i = j := by
  obtain ⟨a1, b1⟩ := List.getElem?_eq_some_iff.mp h1
  obtain ⟨a2, b2⟩ := List.getElem?_eq_some_iff.mp h2
  have hp := List.pairwise_iff_getElem.mp (List.nodup_iff_pairwise_ne.mp hn)
  rcases Nat.lt_trichotomy i j with h | h | h
  · exact absurd (b1.trans b2.symm) (hp i j a1 a2 h)
  · exact h
  · exact absurd (b2.trans b1.symm) (hp j i a2 a1 h)
def spLBar (K : PySem.W.Frag) : Sp := fun vs H Q _ => ∃ (p : Addr) (n : Nat) (m : Int) (hk : Option Int), vs = [.ref p, .int (n : Int), .int m, hookV hk] ∧ StAt H p ∧ 3 ≤ n ∧ n ≤ 10 ∧ 1 ≤ m ∧ m ≤ 1000000 ∧ (∀ c, hk = some c → 0 ≤ c ∧ c < (n : Int)) ∧
  ∀ (t : Addr) (b : BarD) (H' : Hp), t ≠ p → del H p t = none → DE p H H' → StAt H' p → H' t = some (.tup (brV b)) → BarOk (n : Int) b → b.len ≤ m → Q (.ref t) H'
theorem ok_l_bar (T : Tx K mg) : FnOk P w K mg base (L2.CX P w) 2 T.a_l_bar T.fd_l_bar ["_law_s", "_law_rods", "_law_most", "_law_hook"] (spLBar K) := by
  refine T.F_l_bar.okX sc_l_bar (fun vs H Q E h => ?_) (fun cdv A outer s H vs Q E hr h => ?_)
  · obtain ⟨p, n, m, hk, rfl, _⟩ := h
    rfl
  · obtain ⟨p, n, m, hk, rfl, hs, n3, n10, m1, m2, hhk, k⟩ := h
    refine ⟨_, (pss_cons (ps_set (i := 4) sc_l_bar.nd rfl (Or.inr rfl) (pe_ix ix_list (pe_lst (pa_cons (pv 3) (pa_cons (pe_call (ok_l_digit T) (hr.mono (by decide)) rfl T.m_l_digit T.F_l_digit.kp T.b_l_digit .nil passL (pa_cons (pv 0) (pa_cons (pv 1) pa_nil))) pa_nil))) (pe_callTy call_int1 (by rfl) T.z_int (by decide +kernel) (pa_cons (pe_cmpR op_isN (pv 3) pe_non (nomark _)) pa_nil)) (fun _ _ => rfl)))
      (pss_cons (ps_setLc (i := 5) (own := [("_law_rod", 10)]) (g := gName 10) (by rfl) sc_l_bar.nd rfl rfl (sw_true rfl rfl rfl (by decide +kernel)) (pi_range1 rfl T.z_range (pa_cons (pv 1) pa_nil)) (blkOk_by (own := [("_law_rod", 10)]) (N := N_l_bar) (sc := defScope s_l_bar) (by decide +kernel)) (fun _ _ _ _ _ => (pg_name (i := 10) sc_l_bar.nd rfl (Or.inl rfl))) (fun _ _ _ _ _ => (pts_one (pt_cmpR op_ne (pv 10) (pv 4) (nomark _)))) (fun _ _ _ _ _ => (pv 10)))
      (pss_cons (ps_set (i := 6) sc_l_bar.nd rfl (Or.inl rfl) (pe_call (ok_l_digit T) (hr.mono (by decide)) rfl T.m_l_digit T.F_l_digit.kp T.b_l_digit .nil passL (pa_cons (pv 0) (pa_cons (pe_op op_sub (pv 1) pe_int) pa_nil))))
      (pss_cons (ps_set (i := 7) sc_l_bar.nd rfl (Or.inl rfl) (pe_op op_modN (pe_op op_add (pe_op op_add (pv 6) pe_int) (pe_call (ok_l_digit T) (hr.mono (by decide)) rfl T.m_l_digit T.F_l_digit.kp T.b_l_digit .nil passL (pa_cons (pv 0) (pa_cons (pe_op op_sub (pv 1) pe_int) pa_nil)))) (pe_op op_sub (pv 1) pe_int)))
      (pss_cons (ps_set (i := 8) sc_l_bar.nd rfl (Or.inl rfl) (pe_op op_add pe_int (pe_call (ok_l_digit T) (hr.mono (by decide)) rfl T.m_l_digit T.F_l_digit.kp T.b_l_digit .nil passL (pa_cons (pv 0) (pa_cons (pv 2) pa_nil)))))
      (pss_cons (ps_set (i := 9) sc_l_bar.nd rfl (Or.inl rfl) (pe_call (ok_l_digit T) (hr.mono (by decide)) rfl T.m_l_digit T.F_l_digit.kp T.b_l_digit .nil passL (pa_cons (pv 0) (pa_cons (pe_op op_add (pv 8) pe_int) pa_nil))))
      (pss_one (ps_ret (pe_tup (pa_cons (pe_ix ix_list (pv 5) (pv 6) (fun _ _ => rfl)) (pa_cons (pe_ix ix_list (pv 5) (pv 7) (fun _ _ => rfl)) (pa_cons (pv 4) (pa_cons (pv 8) (pa_cons (pv 9) (pa_cons (pe_op op_add (pv 9) (pe_call (ok_l_digit T) (hr.mono (by decide)) rfl T.m_l_digit T.F_l_digit.kp T.b_l_digit .nil passL (pa_cons (pv 0) (pa_cons (pe_op op_add (pe_op op_sub (pv 8) (pv 9)) pe_int) pa_nil)))) pa_nil))))))))))))))), ?_⟩
    refine ⟨_, rfl, _, rfl, _, rfl, p, _, rfl, hs, by omega, by omega, fun r1 H1 e1 hs1 r10 r11 => ?_⟩
    refine ⟨by show 2 ≤ sizeLine; decide, fun L hL => ?_⟩
    have e2 : DE p H (upd H1 L (.lst [hookV hk, .int r1])) := e1.trans (DE.of (Ext.upd hL))
    have hs2 : StAt (upd H1 L (.lst [hookV hk, .int r1])) p := hs1.ext (Ext.upd hL)
    have hL2 : (upd H1 L (.lst [hookV hk, .int r1])) L = some (.lst [hookV hk, .int r1]) := upd_same
    generalize upd H1 L (.lst [hookV hk, .int r1]) = H2 at e2 hs2 hL2 ⊢
    refine ⟨_, rfl, rfl, .inr ⟨_, rfl, ?_⟩⟩
    obtain ⟨c, hc, c0, c1⟩ : ∃ c : Int, atI [hookV hk, .int r1] (if decide (hookV hk = .non) = true then 1 else 0) = some (.int c) ∧ 0 ≤ c ∧ c < (n : Int) := by
      cases hk with
      | none => exact ⟨r1, rfl, r10, r11⟩
      | some c => exact ⟨c, rfl, hhk c rfl⟩
    refine ⟨L, _, _, _, rfl, rfl, SqL.of hL2, hc, ?_⟩
    -- others
    refine ⟨_, rfl, n, rfl, by omega, by omega, lc_rangeF (fun x => decide (x ≠ c)) (fun i => i) (by omega) (fun i hi H' e R N hR => ?_) (fun O H3 hO e3 hO3 => ?_)⟩
    · refine ⟨rfl, _, rfl, _, rfl, rfl, _, rfl, ?_⟩
      rw [Int.zero_add]
      by_cases hp : decide ((i : Int) ≠ c) = true
      · have hR' : R (.int (i : Int)) H' := by rw [if_pos hp] at hR; exact hR
        have hb : (!decide (V.int (i : Int) = V.int c)) = true := by
          rw [Bool.not_eq_true', decide_eq_false_iff_not]
          exact fun z => of_decide_eq_true hp (V.int.inj z)
        simp only [hb, if_true]
        exact ⟨_, rfl, hR'⟩
      · have hR' : N H' := by rw [if_neg hp] at hR; exact hR
        have hb : (!decide (V.int (i : Int) = V.int c)) = false := by
          rw [Bool.not_eq_false', decide_eq_true_iff]
          exact congrArg V.int (Classical.byContradiction fun z => hp (decide_eq_true z))
        rw [hb]
        exact hR'
    rw [List.map_id', Int.toNat_natCast] at hO3
    generalize hO' : (rangeI n).filter (fun x => decide (x ≠ c)) = os at hO3 ⊢
    have hol : os.length = n - 1 := by
      have := filter_ne_len (nodup_rangeI n) (mem_rangeI.mpr ⟨c0, c1⟩)
      rw [hO', len_rangeI] at this
      omega
    have hon : os.Nodup := by rw [← hO']; exact (nodup_rangeI n).filter _
    have hom : ∀ x ∈ os, (0 ≤ x ∧ x < (n : Int)) ∧ x ≠ c := fun x hx => by
      rw [← hO'] at hx
      obtain ⟨h1, h2⟩ := List.mem_filter.mp hx
      exact ⟨mem_rangeI.mp h1, of_decide_eq_true h2⟩
    have hOp : O ≠ p := hs2.ne hO
    have e3' : DE p H H3 := e2.trans (DE.of e3)
    have hs3 : StAt H3 p := hs2.ext e3
    clear hO' e3 hO e2 hs2 hL2 hc e1 hs1 hL
    refine ⟨_, rfl, _, rfl, _, _, rfl, rfl, p, _, rfl, hs3, by omega, by omega, fun f H4 e4 hs4 f0 f1 => ?_⟩
    refine ⟨_, rfl, _, _, rfl, rfl, _, rfl, _, rfl, _, _, rfl, rfl, p, _, rfl, hs4, by omega, by omega, fun g H5 e5 hs5 g0 g1 => ?_⟩
    refine ⟨_, _, rfl, rfl, _, rfl, _, _, rfl, rfl, _, _, rfl, rfl, (show ((n : Int) - 1) ≠ 0 by omega), ?_⟩
    have hsec := fmod_bounds (a := f + 1 + g) (m := (n : Int) - 1) (by omega)
    have hne : (f + 1 + g).fmod ((n : Int) - 1) ≠ f := by
      rw [Int.fmod_eq_emod_of_nonneg _ (by omega)]
      intro z
      have hd := Int.emod_add_mul_ediv (f + 1 + g) ((n : Int) - 1)
      rw [z] at hd
      have : ((n : Int) - 1) * ((f + 1 + g) / ((n : Int) - 1)) = 1 + g := by omega
      have h1 : 0 < (f + 1 + g) / ((n : Int) - 1) := by
        refine Int.not_le.mp fun h => ?_
        have := Int.mul_nonpos_of_nonneg_of_nonpos (show 0 ≤ (n : Int) - 1 by omega) h
        omega
      have h2 := Int.mul_le_mul_of_nonneg_left (show 1 ≤ (f + 1 + g) / ((n : Int) - 1) by omega) (show 0 ≤ (n : Int) - 1 by omega)
      omega
    dsimp only
    generalize (f + 1 + g).fmod ((n : Int) - 1) = sd at hsec hne ⊢
    refine ⟨_, rfl, _, rfl, p, _, rfl, hs5, by omega, by omega, fun l H6 e6 hs6 l0 l1 => ?_⟩
    refine ⟨_, _, rfl, rfl, ?_⟩
    refine ⟨_, rfl, _, rfl, _, _, rfl, rfl, p, _, rfl, hs6, by omega, by omega, fun lo H7 e7 hs7 o0 o1 => ?_⟩
    obtain ⟨xa, hxa, hxi⟩ : ∃ xa, os[f.toNat]? = some xa ∧ atI (os.map V.int) f = some (.int xa) := by
      have hl : f.toNat < os.length := by omega
      refine ⟨os[f.toNat], List.getElem?_eq_getElem hl, ?_⟩
      have := atI_nat (xs := os.map V.int) (j := f.toNat) (v := .int os[f.toNat]) (by rw [List.getElem?_map, List.getElem?_eq_getElem hl]; rfl)
      rwa [show ((f.toNat : Nat) : Int) = f by omega] at this
    obtain ⟨xb, hxb, hxj⟩ : ∃ xb, os[sd.toNat]? = some xb ∧ atI (os.map V.int) sd = some (.int xb) := by
      have hl : sd.toNat < os.length := by omega
      refine ⟨os[sd.toNat], List.getElem?_eq_getElem hl, ?_⟩
      have := atI_nat (xs := os.map V.int) (j := sd.toNat) (v := .int os[sd.toNat]) (by rw [List.getElem?_map, List.getElem?_eq_getElem hl]; rfl)
      rwa [show ((sd.toNat : Nat) : Int) = sd by omega] at this
    have hO7 := e7.to (e6.to (e5.to (e4.to hO3 hOp) hOp) hOp) hOp
    refine ⟨_, rfl, _, rfl, O, _, _, _, rfl, rfl, SqL.of hO7, hxi, _, rfl, _, rfl, O, _, _, _, rfl, rfl, SqL.of hO7, hxj, _, rfl, _, rfl, _, rfl, _, rfl, _, rfl, _, rfl, _, rfl, _, _, rfl, rfl, _, _, rfl, rfl, p, _, rfl, hs7, by omega, by omega, fun d H8 e8 hs8 d0 d1 => ?_⟩
    refine ⟨_, _, rfl, rfl, by show 6 ≤ sizeLine; decide, fun t ht => ?_⟩
    have e08 := (((e3'.trans e4).trans e5).trans e6).trans (e7.trans e8)
    have ha := hom xa (List.mem_of_getElem? hxa)
    have hb := hom xb (List.mem_of_getElem? hxb)
    refine k t ⟨xa, xb, c, 1 + l, lo, lo + d⟩ _ (hs8.ne ht) (DE.fresh e08 hs8.well ht) (e08.trans (DE.of (Ext.upd ht))) (hs8.ext (Ext.upd ht)) upd_same ?_ (show 1 + l ≤ m by omega)
    refine ⟨ha.1.1, ha.1.2, hb.1.1, hb.1.2, c0, c1, fun z => ?_, fun z => ha.2 z.symm, fun z => hb.2 z.symm, ?_, ?_, o0, ?_, ?_⟩
    · have z' : xb = xa := z
      rw [z'] at hxb
      have := get_inj hon hxa hxb
      omega
    all_goals (dsimp only; omega)
end
end K22
namespace K22
open PySem L2
section
variable {P : Program} {w : World} {K : PySem.W.Frag} {mg : Str → Option Value} {base : Heap}
theorem isL_bf {H : Hp} {p : Addr} : ∀ {ts : List Addr} {bs : List BarD}, Paired (fun t b => t ≠ p ∧ H t = some (.tup (brV b))) ts bs → IsL K (del H p) (bs.map bfD) (ts.map V.ref)
  | _, _, .nil => rfl
  | _, _, .cons h r => ⟨_, _, rfl, bf_is (by rw [del_ne h.1]; exact h.2), isL_bf r⟩
theorem br_del {C D : Addr} {H : Hp} {b : BarD} {v : V} {l : List V} (i : Is K H (brD C b) v) (h : H D = some (.lst l)) : Is K (del H D) (brD C b) v := by
  obtain ⟨a, dx, rfl, ha⟩ := br_fields i
  exact br_is (dx := dx) (by rw [del_ne (fun e => by rw [e, h] at ha; cases ha)]; exact ha)
theorem isL_snoc {H : Hp} : ∀ {ds : List Dt} {vs : List V} {d : Dt} {v : V}, IsL K H ds vs → Is K H d v → IsL K H (ds ++ [d]) (vs ++ [v])
  | [], _, _, _, h, i => by
    cases h
    exact ⟨_, _, rfl, i, rfl⟩
  | _ :: _, _, _, _, ⟨v, r, e, a, h⟩, i => by
    subst e
    exact ⟨v, _, rfl, a, isL_snoc h i⟩
def brTE (K : PySem.W.Frag) (C : Addr) (j : Nat) : TE := tMake C (spBar K C) [] E0 (tCons (tOp (rIxT K) (tVar j) (tC (.int 0))) (tCons (tOp (rIxT K) (tVar j) (tC (.int 1))) (tCons (tOp (rIxT K) (tVar j) (tC (.int 2))) (tCons (tOp (rIxT K) (tVar j) (tC (.int 3))) (tCons (tOp (rIxT K) (tVar j) (tC (.int 4))) (tCons (tOp (rIxT K) (tVar j) (tC (.int 5))) tNil))))))
theorem lc_bars {C a : Addr} {bs : List BarD} {ws : List V} {j : Nat} {vs : List Nat} {σ : St} {H1 : Hp} {Q : Addr → Hp → Prop} (hq : SqL K H1 a ws) (hb : IsL K H1 (bs.map bfD) ws) (hz : bs.length < 1000)
    (hj : ∀ v : V, ((wipe σ vs).set j (some v))[j]? = some (some v)) (hwp : ∀ v : V, wipe ((wipe σ vs).set j (some v)) vs = wipe σ vs)
    (hd : ∀ D H' rs, H1 D = none → Ext H1 H' → H' D = some (.lst rs) → IsL K (del H' D) (bs.map (brD C)) rs → Q D H') :
    (∃ ys, SqL K H1 a ys) ∧ ∀ D, H1 D = none → ∃ W : Nat → Nat → Hp → Prop, (∃ m, W 0 m (upd H1 D (.lst []))) ∧ ∀ i m H, W i m H →
      ((Itl K a).stop i H ∧ Q D H) ∨ ((Itl K a).go i H ∧ ∃ Nx : Hp → Prop, (∀ H', Nx H' → ∃ m', m' < m ∧ W (i + 1) m' H') ∧ ∀ x H', (Itl K a).yld i H x H' → gName j x (wipe σ vs) H' fun σ2 H2 => wipe σ2 vs = wipe σ vs ∧ tYes σ2 H2 fun b H3 =>
        if b = true then brTE K C j σ2 H3 fun y H4 => ∃ acc, H4 D = some (.lst acc) ∧ acc.length < sizeLine ∧ Nx (upd H4 D (.lst (acc ++ [y]))) else Nx H3) := by
  refine ⟨⟨_, hq⟩, fun D hD => lc_list (xs := ws) (fun i H' => Ext H1 H' ∧ ∃ rs, H' D = some (.lst rs) ∧ IsL K (del H' D) ((bs.take i).map (brD C)) rs) ⟨Ext.upd hD, [], upd_same, rfl⟩ (fun i H' _ p => hq.ext p.1) ?_ ?_⟩
  · rintro i y H' hi ⟨e1, rs, hD1, hrs⟩
    obtain ⟨d, hd', iy⟩ := hb.get hi
    obtain ⟨b, hbi, rfl⟩ : ∃ b, bs[i]? = some b ∧ d = bfD b := by
      rw [List.getElem?_map] at hd'
      cases e : bs[i]? with
      | none => rw [e] at hd'; cases hd'
      | some b => rw [e] at hd'; exact ⟨b, rfl, (Option.some.inj hd').symm⟩
    obtain ⟨t, rfl, ht⟩ := bf_of (iy.ext e1)
    refine ⟨hwp _, tyes ?_⟩
    refine ⟨_, hj _, t, _, 0, _, rfl, rfl, ht, atI_nat (xs := brV b) (j := 0) rfl, _, hj _, t, _, 1, _, rfl, rfl, ht, atI_nat (xs := brV b) (j := 1) rfl, _, hj _, t, _, 2, _, rfl, rfl, ht, atI_nat (xs := brV b) (j := 2) rfl, _, hj _, t, _, 3, _, rfl, rfl, ht, atI_nat (xs := brV b) (j := 3) rfl,
      _, hj _, t, _, 4, _, rfl, rfl, ht, atI_nat (xs := brV b) (j := 4) rfl, _, hj _, t, _, 5, _, rfl, rfl, ht, atI_nat (xs := brV b) (j := 5) rfl, fun x dx hx hdx hne => ?_⟩
    refine ⟨H', x, dx, b, rfl, hx, hdx, hne, rfl, fun H2 e2 i2 => ⟨rfl, ?_⟩⟩
    have hD2 := e2 _ _ hD1
    refine ⟨rs, hD2, ?_, (e1.trans e2).mut hD, rs ++ [.ref x], upd_same, ?_⟩
    · have h1 := isL_len hrs
      rw [List.length_map, List.length_take] at h1
      exact Nat.lt_of_lt_of_le (show rs.length < 2000 by omega) (by decide)
    · have hE : Ext (del H' D) (del (upd H2 D (.lst (rs ++ [.ref x]))) D) := (DE.of e2).trans DE.upd
      rw [List.take_add_one, hbi, List.map_append]
      refine isL_snoc (hrs.ext hE) ?_
      have z := br_del i2 hD2
      exact z.ext (DE.upd (w := D))
  · rintro H' ⟨e1, rs, hD1, hrs⟩
    have hl : ws.length = bs.length := by rw [isL_len hb, List.length_map]
    rw [hl, List.take_length] at hrs
    exact hd D H' rs hD e1 hD1 hrs
/-- a web as the law holds it: rods, heights, bars -/
def whD (n : Int) (hl : List (Int × Int)) (bs : List BarD) : Dt := .tup [.int n, hdD hl, .lst (bs.map bfD)]
theorem wh_of {H : Hp} {v : V} {n : Int} {hl : List (Int × Int)} {bs : List BarD} (h : Is K H (whD n hl bs) v) :
    ∃ (t hd bl : Addr) (ws : List V), v = .ref t ∧ SqT K H t [.int n, .ref hd, .ref bl] ∧ H hd = some (.dK (hK hl)) ∧ SqL K H bl ws ∧ IsL K H (bs.map bfD) ws := by
  obtain ⟨t, ws, rfl, ht, v1, r1, e1, f1, v2, r2, e2, f2, v3, r3, e3, f3, e4⟩ := h
  subst e4 e3 e2 e1
  cases (show v1 = _ from f1)
  obtain ⟨d, rfl, hd⟩ := hd_of_is f2
  obtain ⟨bl, zs, rfl, g1, g2⟩ := f3
  exact ⟨t, d, bl, zs, rfl, ht, hd, g1, g2⟩
theorem wh_is {H : Hp} {t hd bl : Addr} {n : Int} {hl : List (Int × Int)} {bs : List BarD} {ws : List V} (h : SqT K H t [.int n, .ref hd, .ref bl]) (h1 : H hd = some (.dK (hK hl))) (h2 : SqL K H bl ws) (h3 : IsL K H (bs.map bfD) ws) : Is K H (whD n hl bs) (.ref t) :=
  ⟨t, _, rfl, h, _, _, rfl, rfl, _, _, rfl, hd_is h1, _, _, rfl, ⟨bl, ws, rfl, h2, h3⟩, rfl⟩
theorem emod_ne {n a b : Int} {f : Int} (hn : 0 < n) (a0 : 0 ≤ a) (a1 : a < n) (b0 : 0 ≤ b) (b1 : b < n) (e : (f + a) % n = (f + b) % n) : a = b := by
  have h : n ∣ (f + a) - (f + b) := Int.dvd_of_emod_eq_zero (by rw [Int.sub_emod, e, Int.sub_self, Int.zero_emod])
  have h2 : (f + a) - (f + b) = a - b := by omega
  rw [h2] at h
  obtain ⟨c, hc⟩ := h
  have : c = 0 := by
    rcases Int.lt_trichotomy c 0 with z | z | z
    · have := Int.mul_le_mul_of_nonneg_left (show c ≤ -1 by omega) (show 0 ≤ n by omega)
      omega
    · exact z
    · have := Int.mul_le_mul_of_nonneg_left (show 1 ≤ c by omega) (show 0 ≤ n by omega)
      omega
  subst this
  omega
theorem filter_split (p : Int → Bool) : ∀ l : List Int, (l.filter p).length + (l.filter fun x => !p x).length = l.length
  | [] => rfl
  | x :: r => by
    have := filter_split p r
    rw [List.filter_cons, List.filter_cons, List.length_cons]
    cases h : p x
    · simp only [Bool.not_false, if_true, List.length_cons, Bool.false_eq_true, if_false]
      omega
    · simp only [Bool.not_true, if_true, List.length_cons, Bool.false_eq_true, if_false]
      omega
def spLWeb (K : PySem.W.Frag) : Sp := fun vs H Q _ => ∃ (p : Addr) (c : Nat) (m : Int), vs = [.ref p, .int (c : Int), .int m] ∧ StAt H p ∧ 1 ≤ c ∧ c ≤ 8 ∧ 1 ≤ m ∧ m ≤ 1000000 ∧
  ∀ (v : V) (n : Nat) (hl : List (Int × Int)) (bs : List BarD) (H' : Hp), DE p H H' → StAt H' p → Is K (del H' p) (whD n hl bs) v → WebOk n hl bs → bs.length = c → (∀ b ∈ bs, b.len ≤ m) → (∀ q ∈ hl, -7 ≤ q.2 ∧ q.2 ≤ 7) → Q v H'
theorem ok_l_web (T : Tx K mg) : FnOk P w K mg base (L2.CX P w) 3 T.a_l_web T.fd_l_web ["_law_s", "_law_count", "_law_most"] (spLWeb K) := by
  refine T.F_l_web.okX sc_l_web (fun vs H Q E h => ?_) (fun cdv A outer s H vs Q E hr h => ?_)
  · obtain ⟨p, c, m, rfl, _⟩ := h
    rfl
  · obtain ⟨p, c, m, rfl, hs, c1, c8, m1, m2, k⟩ := h
    refine ⟨_, (pss_cons (ps_set (i := 3) sc_l_web.nd rfl (Or.inr rfl) (pe_callB (call_min2 rfl) (by rfl) T.z_min (by decide +kernel) (pa_cons pe_int (pa_cons (pe_op op_add (pe_op op_add (pe_op op_add (pv 1) pe_int) (pe_callTy call_int1 (by rfl) T.z_int (by decide +kernel) (pa_cons (pe_cmpR op_eq (pv 1) pe_int (nomark _)) pa_nil))) (pe_call (ok_l_digit T) (hr.mono (by decide)) rfl T.m_l_digit T.F_l_digit.kp T.b_l_digit .nil passL (pa_cons (pv 0) (pa_cons pe_int pa_nil)))) pa_nil))))
      (pss_cons (ps_set (i := 4) sc_l_web.nd rfl (Or.inr rfl) (pe_call (ok_l_digit T) (hr.mono (by decide)) rfl T.m_l_digit T.F_l_digit.kp T.b_l_digit .nil passL (pa_cons (pv 0) (pa_cons (pv 3) pa_nil))))
      (pss_cons (ps_set (i := 5) sc_l_web.nd rfl (Or.inr rfl) (pe_callTy (call_dictP rfl) (by rfl) T.z_dict (by decide +kernel) (pa_cons (pe_lc (own := [("_law_k", 8)]) (g := gName 8) (tt := tYes) (by rfl) sc_l_web.nd (pi_range1 rfl T.z_range (pa_cons (pe_op op_sub (pv 3) (pv 1)) pa_nil)) (blkOk_by (own := [("_law_k", 8)]) (N := N_l_web) (sc := defScope s_l_web) (by decide +kernel)) (fun _ _ _ _ _ => (pg_name (i := 8) sc_l_web.nd rfl (Or.inl rfl))) (fun _ _ _ _ _ => pts_nil) (fun _ _ _ _ _ => (pe_tup (pa_cons (pe_op op_modN (pe_op op_add (pv 4) (pv 8)) (pv 3)) (pa_cons (pe_op op_sub (pe_call (ok_l_digit T) (hr.mono (by decide)) rfl T.m_l_digit T.F_l_digit.kp T.b_l_digit .nil passL (pa_cons (pv 0) (pa_cons pe_int pa_nil))) pe_int) pa_nil))))) pa_nil)))
      (pss_cons (ps_setLc (i := 6) (own := [("_law_rod", 9)]) (g := gName 9) (by rfl) sc_l_web.nd rfl rfl (sw_true rfl rfl rfl (by decide +kernel)) (pi_range1 rfl T.z_range (pa_cons (pv 3) pa_nil)) (blkOk_by (own := [("_law_rod", 9)]) (N := N_l_web) (sc := defScope s_l_web) (by decide +kernel)) (fun _ _ _ _ _ => (pg_name (i := 9) sc_l_web.nd rfl (Or.inl rfl))) (fun _ _ _ _ _ => (pts_one (pt_cmp (h1 := rfl) (pc_dnotin (ty := tVar 9) (td := tVar 5) (hu_of hr) (pv 9) (pv 5))))) (fun _ _ _ _ _ => (pv 9)))
      (pss_cons (ps_set (i := 7) sc_l_web.nd rfl (Or.inl rfl) (pe_call (ok_l_digit T) (hr.mono (by decide)) rfl T.m_l_digit T.F_l_digit.kp T.b_l_digit .nil passL (pa_cons (pv 0) (pa_cons (pv 1) pa_nil))))
      (pss_cons (ps_set (i := 6) sc_l_web.nd rfl (Or.inl rfl) (pe_ix ix_list (pe_lst (pa_cons (pe_op op_catL (pe_slice sl_list (pv 6) (po_some (pv 7)) po_none) (pe_slice sl_list (pv 6) po_none (po_some (pv 7)))) (pa_cons (pe_op op_rep (pe_lst (pa_cons pe_non pa_nil)) (pv 1)) pa_nil))) (pe_call (ok_l_digit T) (hr.mono (by decide)) rfl T.m_l_digit T.F_l_digit.kp T.b_l_digit .nil passL (pa_cons (pv 0) (pa_cons pe_int pa_nil))) (fun _ _ => rfl)))
      (pss_one (ps_ret (pe_tup (pa_cons (pv 3) (pa_cons (pv 5) (pa_cons (pe_lc (own := [("_law_hook", 10)]) (g := gName 10) (tt := tYes) (by rfl) sc_l_web.nd (pi_list (pv 6)) (blkOk_by (own := [("_law_hook", 10)]) (N := N_l_web) (sc := defScope s_l_web) (by decide +kernel)) (fun _ _ _ _ _ => (pg_name (i := 10) sc_l_web.nd rfl (Or.inl rfl))) (fun _ _ _ _ _ => pts_nil) (fun _ _ _ _ _ => (pe_call (ok_l_bar T) (hr.mono (by decide)) rfl T.m_l_bar T.F_l_bar.kp T.b_l_bar .nil passL (pa_cons (pv 0) (pa_cons (pv 3) (pa_cons (pv 2) (pa_cons (pv 10) pa_nil))))))) pa_nil)))))))))))), ?_⟩
    refine ⟨_, rfl, _, _, rfl, rfl, _, rfl, rfl, .inr ⟨_, rfl, _, _, rfl, rfl, _, rfl, p, _, rfl, hs, by decide, by decide, fun r1 H1 e1 hs1 r10 r11 => ?_⟩⟩
    refine ⟨_, _, rfl, rfl, _, _, rfl, ?_⟩
    obtain ⟨u, hu, hu2⟩ : ∃ u : Int, (if decide (V.int (c : Int) = V.int 1) = true then (1 : Int) else 0) = u ∧ ((c = 1 ∧ u = 1) ∨ (c ≠ 1 ∧ u = 0)) := by
      refine ⟨_, rfl, ?_⟩
      by_cases h : c = 1
      · subst h
        exact .inl ⟨rfl, rfl⟩
      · refine .inr ⟨h, if_neg fun z => h ?_⟩
        have := V.int.inj (of_decide_eq_true z)
        omega
    dsimp only
    rw [hu]
    obtain ⟨n, hn, n3, n10, cn, nc⟩ : ∃ n : Nat, (if (c : Int) + 1 + u + r1 < 10 then (c : Int) + 1 + u + r1 else 10) = (n : Int) ∧ 3 ≤ n ∧ n ≤ 10 ∧ c + 1 ≤ n ∧ n ≤ c + 4 := by
      refine ⟨(if (c : Int) + 1 + u + r1 < 10 then (c : Int) + 1 + u + r1 else 10).toNat, ?_⟩
      split <;> omega
    rw [hn]
    clear hn hu hu2
    refine ⟨_, rfl, _, rfl, p, _, rfl, hs1, by omega, by omega, fun f H2 e2 hs2 f0 f1 => ?_⟩
    -- heights
    refine ⟨_, rfl, _, rfl, _, _, rfl, rfl, ((n - c : Nat) : Int), by rw [Int.natCast_sub (by omega)], by omega, by omega, fun D hD => ?_⟩
    have hDp : D ≠ p := hs2.ne hD
    have hD0 : del H2 p D = none := by rw [del_ne hDp]; exact hD
    refine lc_range (lo := 0) (n := n - c) (fun i H' => ∃ (ps : List Addr) (hl : List (Int × Int)), hl.length = i ∧ DE p H2 H' ∧ StAt H' p ∧ H' D = some (.lst (ps.map V.ref)) ∧ Paired (fun a kv => a ≠ p ∧ H' a = some (.tup [kV kv.1, kv.2])) ps (hK hl) ∧ hl.map (·.1) = (rangeI i).map (fun j => (f + j) % (n : Int)) ∧ ∀ q ∈ hl, -7 ≤ q.2 ∧ q.2 ≤ 7)
      ⟨[], [], rfl, DE.of (Ext.upd hD), hs2.ext (Ext.upd hD), upd_same, .nil, rfl, fun q h => by cases h⟩ ?_ ?_
    · rintro i H5 hi ⟨ps, hl, hli, e5, hs5, hD5, hps, hk5, hb⟩
      refine ⟨rfl, tyes ?_⟩
      refine ⟨_, rfl, _, rfl, _, _, rfl, rfl, _, rfl, _, _, rfl, rfl, (show (n : Int) ≠ 0 by omega), _, rfl, p, _, rfl, hs5, by decide, by decide, fun h H6 e6 hs6 b0 b1 => ?_⟩
      refine ⟨_, _, rfl, rfl, by show 2 ≤ sizeLine; decide, fun t ht => ?_⟩
      dsimp only
      rw [Int.fmod_eq_emod_of_nonneg _ (show 0 ≤ (n : Int) by omega), Int.zero_add]
      have htp : t ≠ p := hs6.ne ht
      have hD6 := e6.to hD5 hDp
      have htD : D ≠ t := ne_of_none hD6 ht
      refine ⟨ps.map V.ref, by rw [upd_ne htD]; exact hD6, ?_, ps ++ [t], hl ++ [((f + (i : Int)) % (n : Int), h - 7)], by rw [List.length_append, hli]; rfl, ?_, (hs6.ext (Ext.upd ht)).upd hDp, by rw [upd_same, List.map_append]; rfl, ?_, ?_, fun z hz => ?_⟩
      · rw [List.length_map]
        have h1 := hps.length
        unfold hK at h1
        rw [List.length_map] at h1
        exact Nat.lt_of_lt_of_le (show ps.length < 100 by omega) (by decide)
      · exact DE.mut ((e5.trans e6).trans (DE.of (Ext.upd ht))) hD0
      · unfold hK
        rw [List.map_append]
        have hps' : Paired (fun a (kv : Key × V) => a ≠ p ∧ (upd (upd H6 t (.tup [V.int ((f + (i : Int)) % (n : Int)), V.int (h - 7)])) D (.lst (ps.map V.ref ++ [V.ref t]))) a = some (.tup [kV kv.1, kv.2])) ps (hK hl) := PySem.Paired.mono (fun a kv q => by
          have h6 := e6.to q.2 q.1
          have hta : a ≠ t := ne_of_none h6 ht
          have hDa : a ≠ D := fun e => by rw [e, hD6] at h6; cases h6
          exact ⟨q.1, by rw [upd_ne hDa, upd_ne hta]; exact h6⟩) hps
        exact hps'.snoc ⟨htp, by rw [upd_ne htD.symm, upd_same]; rfl⟩
      · rw [List.map_append, hk5, rangeI_succ, List.map_append]
        rfl
      · rcases List.mem_append.mp hz with h' | h'
        · exact hb z h'
        · rw [List.mem_singleton.mp h']
          dsimp only
          omega
    · rintro H5 ⟨ps, hl, hli, e5, hs5, hD5, hps, hk5, hb⟩
      refine ⟨D, ps, hK hl, rfl, SqL.of hD5, PySem.Paired.mono (fun a kv q => SqT.of q.2) hps, fun hd hhd => ?_⟩
      have hnd3 : (hl.map (·.1)).Nodup := by
        rw [hk5, List.nodup_iff_pairwise_ne, List.pairwise_map]
        refine (List.nodup_iff_pairwise_ne.mp (nodup_rangeI (n - c))).imp_of_mem fun {a b} ha hb hne e => hne ?_
        have ma := mem_rangeI.mp ha
        have mb := mem_rangeI.mp hb
        exact emod_ne (n := (n : Int)) (by omega) ma.1 (by omega) mb.1 (by omega) e
      rw [merge_new _ [] (by
        rw [List.map_nil, List.nil_append]
        unfold hK
        rw [List.map_map]
        show (hl.map (Sum.inl ∘ Prod.fst)).Nodup
        rw [← List.map_map, List.nodup_iff_pairwise_ne, List.pairwise_map]
        exact (List.nodup_iff_pairwise_ne.mp hnd3).imp fun h e => h (Sum.inl.inj e)), List.nil_append]
      have hhp : hd ≠ p := hs5.ne hhd
      have h7d : (upd H5 hd (.dK (hK hl))) hd = some (.dK (hK hl)) := upd_same
      have e57 : Ext H5 (upd H5 hd (.dK (hK hl))) := Ext.upd hhd
      generalize upd H5 hd (.dK (hK hl)) = H7 at h7d e57 ⊢
      have hs7 := hs5.ext e57
      have e07 : DE p H H7 := ((e1.trans e2).trans e5).trans (DE.of e57)
      have hkey : ∀ q ∈ hl, (0 ≤ q.1 ∧ q.1 < (n : Int)) ∧ -1000000 ≤ q.2 ∧ q.2 ≤ 1000000 := fun q hq => by
        have h1 : q.1 ∈ hl.map (·.1) := List.mem_map.mpr ⟨q, hq, rfl⟩
        rw [hk5] at h1
        obtain ⟨j, _, hj⟩ := List.mem_map.mp h1
        have h2 := hb q hq
        have h3 := Int.emod_nonneg (f + j) (show (n : Int) ≠ 0 by omega)
        have h4 := Int.emod_lt_of_pos (f + j) (show 0 < (n : Int) by omega)
        rw [← hj]
        omega
      clear e57 hhd hps e5 hs5 hD5 hD hD0 hDp e2 e1 hs1 hs2 hk5
      -- hooks
      refine ⟨_, rfl, (n : Int), rfl, by omega, by omega, lc_rangeF (offK hl) (fun i => i) (by omega) (fun i hi H' e R N hR => ?_) (fun O H8 hO e8 hO8 => ?_)⟩
      · refine ⟨rfl, _, rfl, _, rfl, hd, _, rfl, DGet.k (k := Sum.inl (0 + (i : Nat) : Int)) (e _ _ h7d), _, rfl, ?_⟩
        rw [val_some, Int.zero_add]
        by_cases hp : offK hl (i : Nat) = true
        · rw [if_pos hp] at hR
          unfold offK at hp
          rw [if_pos hp]
          exact ⟨_, rfl, hR⟩
        · rw [if_neg hp] at hR
          unfold offK at hp
          rw [if_neg hp]
          exact hR
      rw [List.map_id', Int.toNat_natCast] at hO8
      have hom : ∀ x ∈ (rangeI n).filter (offK hl), 0 ≤ x ∧ x < (n : Int) := fun x hx => mem_rangeI.mp (List.mem_filter.mp hx).1
      have hol : ((rangeI n).filter (offK hl)).length = c := by
        have h1 : ((rangeI n).filter (offK hl)).length + ((rangeI n).filter fun x => (hl.map (·.1)).contains x).length = (rangeI n).length := by
          have := filter_split (fun x => (hl.map (·.1)).contains x) (rangeI n)
          unfold offK
          omega
        have h2 : ((rangeI n).filter fun x => (hl.map (·.1)).contains x).Perm (hl.map (·.1)) := by
          refine (List.perm_ext_iff_of_nodup ((nodup_rangeI n).filter _) hnd3).mpr fun x => ?_
          rw [List.mem_filter, List.contains_iff_mem]
          refine ⟨fun h => h.2, fun h => ⟨?_, h⟩⟩
          obtain ⟨q, hq, rfl⟩ := List.mem_map.mp h
          exact mem_rangeI.mpr (hkey q hq).1
        rw [h2.length_eq, List.length_map, hli, len_rangeI] at h1
        omega
      generalize (rangeI n).filter (offK hl) = os at hO8 hom hol ⊢
      have hOp : O ≠ p := hs7.ne hO
      have hs8 := hs7.ext e8
      have e08 := e07.trans (DE.of e8)
      have h8d := e8 _ _ h7d
      clear e8 hO h7d hs7 e07
      refine ⟨_, rfl, _, rfl, p, _, rfl, hs8, by omega, by omega, fun tu H9 e9 hs9 t0 t1 => ?_⟩
      have hO9 := e9.to hO8 hOp
      refine ⟨_, rfl, _, rfl, tu, rfl, O, _, rfl, SqL.of hO9, fun S1 hS1 => ?_⟩
      refine ⟨_, rfl, _, rfl, tu, rfl, O, _, rfl, SqL.of (Ext.upd hS1 _ _ hO9), fun S2 hS2 => ?_⟩
      obtain ⟨tn, rfl⟩ : ∃ tn : Nat, tu = (tn : Int) := ⟨tu.toNat, by omega⟩
      rw [cut_drop, ← List.map_drop] at hS2 ⊢
      rw [cut_take, ← List.map_take]
      refine ⟨S1, S2, _, _, rfl, rfl, SqL.of (Ext.upd hS2 _ _ upd_same), SqL.of upd_same, ?_, fun C1 hC1 => ?_⟩
      · rw [List.length_map, List.length_map, List.length_drop, List.length_take]
        exact Nat.le_trans (show os.length - tn + min tn os.length ≤ 100 by omega) (by decide)
      have hCp : C1 ≠ p := ((hs9.ext (Ext.upd hS1)).ext (Ext.upd hS2)).ne hC1
      rw [← List.map_append]
      have hC2 : (upd (upd (upd H9 S1 (.lst ((os.drop tn).map V.int))) S2 (.lst ((os.take tn).map V.int))) C1 (.lst ((os.drop tn ++ os.take tn).map V.int))) C1 = some (.lst ((os.drop tn ++ os.take tn).map V.int)) := upd_same
      have e10 : Ext H9 (upd (upd (upd H9 S1 (.lst ((os.drop tn).map V.int))) S2 (.lst ((os.take tn).map V.int))) C1 (.lst ((os.drop tn ++ os.take tn).map V.int))) := ((Ext.upd hS1).trans (Ext.upd hS2)).trans (Ext.upd hC1)
      generalize upd (upd (upd H9 S1 (.lst ((os.drop tn).map V.int))) S2 (.lst ((os.take tn).map V.int))) C1 (.lst ((os.drop tn ++ os.take tn).map V.int)) = H10 at hC2 e10 ⊢
      clear hC1 hS2 hS1
      refine ⟨by show 1 ≤ sizeLine; decide, fun N1 hN1 => ?_⟩
      refine ⟨_, rfl, N1, _, [V.non], rfl, rfl, upd_same, by omega, by omega, ?_, fun N2 hN2 => ?_⟩
      · show 1 * (c : Int).toNat ≤ sizeLine
        exact Nat.le_trans (show 1 * (c : Int).toNat ≤ 100 by omega) (by decide)
      rw [show (List.replicate (c : Int).toNat [V.non]).flatten = List.replicate c V.non from by
        rw [Int.toNat_natCast]
        generalize c = q
        induction q with
        | zero => rfl
        | succ q ih => rw [List.replicate_succ, List.replicate_succ, List.flatten_cons, ih]; rfl]
      have hNp : N2 ≠ p := ((hs9.ext e10).ext (Ext.upd hN1)).ne hN2
      refine ⟨by show 2 ≤ sizeLine; decide, fun L hL => ?_⟩
      have e11 : Ext H10 (upd (upd (upd H10 N1 (.lst [V.non])) N2 (.lst (List.replicate c V.non))) L (.lst [V.ref C1, V.ref N2])) := ((Ext.upd hN1).trans (Ext.upd hN2)).trans (Ext.upd hL)
      have hC3 := e11 _ _ hC2
      have hN3 : (upd (upd (upd H10 N1 (.lst [V.non])) N2 (.lst (List.replicate c V.non))) L (.lst [V.ref C1, V.ref N2])) N2 = some (.lst (List.replicate c V.non)) := Ext.upd hL _ _ upd_same
      have hL3 : (upd (upd (upd H10 N1 (.lst [V.non])) N2 (.lst (List.replicate c V.non))) L (.lst [V.ref C1, V.ref N2])) L = some (.lst [V.ref C1, V.ref N2]) := upd_same
      generalize upd (upd (upd H10 N1 (.lst [V.non])) N2 (.lst (List.replicate c V.non))) L (.lst [V.ref C1, V.ref N2]) = H11 at e11 hC3 hN3 hL3 ⊢
      have e0 := (e08.trans e9).trans (DE.of (e10.trans e11))
      have hs11 := hs9.ext (e10.trans e11)
      have h11d := (e10.trans e11) _ _ (e9.to h8d hhp)
      have hLp : L ≠ p := (((hs9.ext e10).ext (Ext.upd hN1)).ext (Ext.upd hN2)).ne hL
      clear hL hN2 hN1 hC2 e11 e10 hO9 hs9 e9 h8d hs8 e08 hO8
      refine ⟨_, rfl, p, _, rfl, hs11, by decide, by decide, fun z H12 e12 hs12 z0 z1 => ?_⟩
      have e012 := e0.trans e12
      have hd12 := e12.to h11d hhp
      obtain ⟨B, hks, hat, hB, hBp, hkl, hkr⟩ : ∃ (B : Addr) (hks : List (Option Int)), atI [V.ref C1, V.ref N2] z = some (.ref B) ∧ H12 B = some (.lst (hks.map hookV)) ∧ B ≠ p ∧ hks.length = c ∧ ∀ hk ∈ hks, ∀ x, hk = some x → 0 ≤ x ∧ x < (n : Int) := by
        rcases (show z = 0 ∨ z = 1 by omega) with rfl | rfl
        · refine ⟨C1, (os.drop tn ++ os.take tn).map some, rfl, ?_, hCp, ?_, fun hk hh x hx => ?_⟩
          · rw [List.map_map]
            exact e12.to hC3 hCp
          · rw [List.length_map, List.length_append, List.length_drop, List.length_take]
            omega
          · obtain ⟨y, hy, rfl⟩ := List.mem_map.mp hh
            cases hx
            rcases List.mem_append.mp hy with h | h
            · exact hom _ (List.mem_of_mem_drop h)
            · exact hom _ (List.mem_of_mem_take h)
        · refine ⟨N2, List.replicate c none, rfl, ?_, hNp, List.length_replicate, fun hk hh x hx => ?_⟩
          · rw [List.map_replicate]
            exact e12.to hN3 hNp
          · rw [(List.mem_replicate.mp hh).2] at hx
            cases hx
      refine ⟨L, _, _, _, rfl, rfl, SqL.of (e12.to hL3 hLp), hat, ?_⟩
      clear hat hL3 hN3 hC3 h11d e0 hs11 e12
      -- bars
      refine ⟨_, rfl, _, rfl, _, rfl, B, rfl, ⟨_, SqL.of hB⟩, fun D2 hD2 => ?_⟩
      have hDp2 : D2 ≠ p := hs12.ne hD2
      have hD20 : del H12 p D2 = none := by rw [del_ne hDp2]; exact hD2
      refine lc_list (xs := hks.map hookV) (fun i H' => ∃ (ts : List Addr) (bs : List BarD), bs.length = i ∧ DE p H12 H' ∧ StAt H' p ∧ H' D2 = some (.lst (ts.map V.ref)) ∧ Paired (fun t b => t ≠ p ∧ H' t = some (.tup (brV b))) ts bs ∧ ∀ b ∈ bs, BarOk (n : Int) b ∧ b.len ≤ m)
        ⟨[], [], rfl, DE.of (Ext.upd hD2), hs12.ext (Ext.upd hD2), upd_same, .nil, fun b hb => by cases hb⟩ (fun i H' _ q => ?_) ?_ ?_
      · obtain ⟨_, _, _, e, _⟩ := q
        exact SqL.of (e.to hB hBp)
      · rintro i y H13 hi ⟨ts, bs, hbl, e13, hs13, hD13, hts, hbo⟩
        obtain ⟨hk, hhk, rfl⟩ : ∃ hk, hks[i]? = some hk ∧ y = hookV hk := by
          rw [List.getElem?_map] at hi
          cases e : hks[i]? with
          | none => rw [e] at hi; cases hi
          | some q => rw [e] at hi; exact ⟨q, rfl, (Option.some.inj hi).symm⟩
        have hin : i < hks.length := (List.getElem?_eq_some_iff.mp hhk).1
        refine ⟨rfl, tyes ?_⟩
        refine ⟨_, rfl, _, rfl, _, rfl, _, rfl, p, n, m, hk, rfl, hs13, n3, n10, m1, m2, hkr hk (List.mem_of_getElem? hhk), fun t b H14 htp ht0 e14 hs14 ht hbok hbm => ?_⟩
        have hD14 := e14.to hD13 hDp2
        have htD : t ≠ D2 := fun e => by rw [e, hD14] at ht; cases ht
        refine ⟨_, hD14, ?_, ts ++ [t], bs ++ [b], by rw [List.length_append, hbl]; rfl, DE.mut (e13.trans e14) hD20, hs14.upd hDp2, by rw [upd_same, List.map_append]; rfl, ?_, fun c hc => ?_⟩
        · rw [List.length_map, hts.length, hbl]
          exact Nat.lt_of_lt_of_le (show i < 100 by omega) (by decide)
        · have hts' : Paired (fun t' b' => t' ≠ p ∧ (upd H14 D2 (.lst (ts.map V.ref ++ [V.ref t]))) t' = some (.tup (brV b'))) ts bs := PySem.Paired.mono (fun a b' q => by
            have h10 := e14.to q.2 q.1
            have hDa : a ≠ D2 := fun e => by rw [e, hD14] at h10; cases h10
            exact ⟨q.1, by rw [upd_ne hDa]; exact h10⟩) hts
          exact hts'.snoc ⟨htp, by rw [upd_ne htD]; exact ht⟩
        · rcases List.mem_append.mp hc with h | h
          · exact hbo c h
          · rw [List.mem_singleton.mp h]
            exact ⟨hbok, hbm⟩
      · rintro H13 ⟨ts, bs, hbl, e13, hs13, hD13, hts, hbo⟩
        rw [List.length_map, hkl] at hbl
        have hd13 := e13.to hd12 hhp
        refine ⟨by show 3 ≤ sizeLine; decide, fun t ht => ?_⟩
        have e14 : Ext H13 (upd H13 t (.tup [.int (n : Int), .ref hd, .ref D2])) := Ext.upd ht
        have htp : t ≠ p := hs13.ne ht
        have hts2 : Paired (fun t' b' => t' ≠ p ∧ (upd H13 t (.tup [.int (n : Int), .ref hd, .ref D2])) t' = some (.tup (brV b'))) ts bs := PySem.Paired.mono (fun a b q => ⟨q.1, e14 _ _ q.2⟩) hts
        refine k (.ref t) n hl bs _ ((e012.trans e13).trans (DE.of e14)) (hs13.ext e14) (wh_is (hd := hd) (bl := D2) (ws := ts.map V.ref) (SqT.of ?_) ?_ (SqL.of ?_) (isL_bf hts2)) ⟨by omega, by omega, hkey, hnd3, fun e => ?_, by omega, by omega, by omega, fun b hb => (hbo b hb).1⟩ hbl (fun b hb => (hbo b hb).2) hb
        · rw [del_ne htp, upd_same]
        · rw [del_ne hhp]
          exact e14 _ _ hd13
        · rw [del_ne hDp2]
          exact e14 _ _ hD13
        · rw [e] at hli
          simp at hli
          omega
end
end K22
namespace K22
open PySem L2
section
variable {P : Program} {w : World} {K : PySem.W.Frag} {mg : Str → Option Value} {base : Heap}
def spMade (K : PySem.W.Frag) (T : Tx K mg) : Sp := fun vs H Q _ => ∃ (v : V) (n : Int) (hl : List (Int × Int)) (bs : List BarD), vs = [v] ∧ Is K H (whD n hl bs) v ∧ WebOk n hl bs ∧ ∀ (u : V) (H' : Hp), Ext H H' → Is K H' (wbD T.C_Web T.C_Bar n bs (normH hl)) u → Q u H'
theorem ok_l_made (T : Tx K mg) : FnOk P w K mg base (L2.CX P w) 12 T.a_l_made T.fd_l_made ["_law_web_here"] (spMade K T) := by
  refine T.F_l_made.okX sc_l_made (fun vs H Q E h => ?_) (fun cdv A outer s H vs Q E hr h => ?_)
  · obtain ⟨v, n, hl, bs, rfl, _⟩ := h
    rfl
  · obtain ⟨v, n, hl, bs, rfl, hv, ok, k⟩ := h
    refine ⟨_, (pss_cons (ps_asg (pv 0) (pg_tup (by rfl) (pgs_cons (pg_name (i := 1) sc_l_made.nd rfl (Or.inl rfl)) (pgs_cons (pg_name (i := 2) sc_l_made.nd rfl (Or.inl rfl)) (pgs_cons (pg_name (i := 3) sc_l_made.nd rfl (Or.inl rfl)) pgs_nil)))))
      (pss_one (ps_ret (pe_make T.k_Web (ok_Web_init T) (hr.mono (by decide)) rfl T.m_Web T.b_Web_init .nil passL (pa_cons (pv 1) (pa_cons (pe_callTy call_dictD (by rfl) T.z_dict (by decide +kernel) (pa_cons (pv 2) pa_nil)) (pa_cons (pe_lc (own := [("_law_one", 4)]) (g := gName 4) (tt := tYes) (te := brTE K T.C_Bar 4) (by rfl) sc_l_made.nd (pi_list (pv 3)) (blkOk_by (own := [("_law_one", 4)]) (N := N_l_made) (sc := defScope s_l_made) (by decide +kernel)) (fun _ _ _ _ _ => (pg_name (i := 4) sc_l_made.nd rfl (Or.inl rfl))) (fun _ _ _ _ _ => pts_nil) (fun _ _ _ _ _ => (pe_make T.k_Bar (ok_Bar_init T) (hr.mono (by decide)) rfl T.m_Bar T.b_Bar_init .nil passL (pa_cons (pe_ix ix_tup (pv 4) pe_int (fun _ _ => rfl)) (pa_cons (pe_ix ix_tup (pv 4) pe_int (fun _ _ => rfl)) (pa_cons (pe_ix ix_tup (pv 4) pe_int (fun _ _ => rfl)) (pa_cons (pe_ix ix_tup (pv 4) pe_int (fun _ _ => rfl)) (pa_cons (pe_ix ix_tup (pv 4) pe_int (fun _ _ => rfl)) (pa_cons (pe_ix ix_tup (pv 4) pe_int (fun _ _ => rfl)) pa_nil))))))))) pa_nil))))))), ?_⟩
    obtain ⟨t, hd, bl, ws, rfl, ht, hhd, hbl, hbs⟩ := wh_of hv
    refine ⟨_, rfl, t, _, rfl, ht, rfl, _, _, rfl, _, _, rfl, _, _, rfl, rfl, ?_⟩
    refine ⟨_, rfl, _, rfl, hd, _, rfl, .inl hhd, fun q hq => ?_⟩
    have e1 : Ext H (upd H q (.dK (hK hl))) := Ext.upd hq
    refine ⟨_, rfl, bl, rfl, lc_bars (hbl.ext e1) (hbs.ext e1) (by have := ok.b8; omega) (fun v => rfl) (fun v => rfl) (fun D H1 rs hD e2 hD1 hrs => ?_)⟩
    refine fun x dx hx hdx hne => ?_
    exact ⟨_, x, dx, n, q, D, hl, bs, rs, rfl, hx, hdx, hne, rfl, e2 _ _ upd_same, ok.nd, ok.l64, .inl (SqL.of hD1), hrs.ext del_ext, (by intro r h; rw [ok.ck] at h; cases h), fun _ H3 e3 i3 _ => ⟨rfl, k _ H3 ((e1.trans e2).trans e3) i3⟩⟩
end
end K22
namespace K22
open PySem L2 RZ
section
variable {P : Program} {w : World} {K : PySem.W.Frag} {mg : Str → Option Value} {base : Heap}
def spSwapped (K : PySem.W.Frag) : Sp := fun vs H Q _ => ∃ (H0 : Hp) (v : V) (rs : List (List Int)) (n m a b : Nat), vs = [v, .int (a : Int), .int (b : Int)] ∧ Ext H0 H ∧ Is K H0 (rowsD rs) v ∧ Mx.Sq n m rs ∧ a < n ∧ b < n ∧ n ≤ 10 ∧ m ≤ 20 ∧ ∀ u H', Ext H H' → Is K (mix H0 H H') (rowsD (Mx.swp rs a b)) u → Q u H'
theorem ok_swapped (T : Tx K mg) : FnOk P w K mg base (L2.CX P w) 1 T.a_swapped T.fd_swapped ["rows", "at", "other"] (spSwapped K) := by
  refine T.F_swapped.okX sc_swapped (fun vs H Q E h => ?_) (fun cdv A outer s H vs Q E hr h => ?_)
  · obtain ⟨H0, v, rs, n, m, a, b, rfl, _⟩ := h
    rfl
  · obtain ⟨H0, v, rs, n, m, a, b, rfl, e0, hv, sq, ha, hb, hn, hm, k⟩ := h
    refine ⟨_, (pss_cons (ps_if (pt_cmpR op_eq (pv 1) (pv 2) (nomark _)) (pss_one (ps_ret (pv 0))) pss_nil)
      (pss_cons (ps_set (i := 0) sc_swapped.nd rfl (Or.inl rfl) (pe_callTy call_list_of (by rfl) T.z_list (by decide +kernel) (pa_cons (pv 0) pa_nil)))
      (pss_cons (ps_asg (pe_tup (pa_cons (pe_ix ix_list (pv 0) (pv 2) (fun _ _ => rfl)) (pa_cons (pe_lc (own := [("number", 3)]) (g := gName 3) (tt := tYes) (by rfl) sc_swapped.nd (pi_list (pe_ix ix_list (pv 0) (pv 1) (fun _ _ => rfl))) (blkOk_by (own := [("number", 3)]) (N := N_swapped) (sc := defScope s_swapped) (by decide +kernel)) (fun _ _ _ _ _ => (pg_name (i := 3) sc_swapped.nd rfl (Or.inl rfl))) (fun _ _ _ _ _ => pts_nil) (fun _ _ _ _ _ => (pe_un un_neg (pv 3)))) pa_nil))) (pg_tup (by rfl) (pgs_cons (pg_sub (pv 0) (pv 1) set_list) (pgs_cons (pg_sub (pv 0) (pv 2) set_list) pgs_nil))))
      (pss_one (ps_ret (pv 0)))))), ?_⟩
    obtain ⟨l, xs, rfl, hl, hxs, hxl⟩ := rows_of hv
    refine ⟨_, rfl, _, rfl, rfl, _, rfl, ite2 (fun c => ?_) (fun c => ?_)⟩
    · have hab : a = b := by
        have := V.int.inj (of_decide_eq_true c)
        omega
      refine ⟨_, rfl, k _ _ Ext.rfl' ?_⟩
      unfold Mx.swp
      rw [if_pos hab]
      exact hv.ext (mix_old e0)
    · have hab : a ≠ b := fun z => c (decide_eq_true (by rw [z]))
      have hsa := row_get (rs := rs) (i := a) (by rw [sq.1]; exact ha)
      have hsb := row_get (rs := rs) (i := b) (by rw [sq.1]; exact hb)
      have hla := sq.at ha
      obtain ⟨va, hva, ia⟩ := isL_at hxs hsa
      obtain ⟨vb, hvb, ib⟩ := isL_at hxs hsb
      obtain ⟨ra, rfl, hra⟩ := rwI_of ia
      refine ⟨_, rfl, l, _, rfl, .inl (hl.ext e0), fun q hq => ?_⟩
      have e1 : Ext H (upd H q (.lst xs)) := Ext.upd hq
      have hq1 : (upd H q (.lst xs)) q = some (.lst xs) := upd_same
      generalize upd H q (.lst xs) = H1 at e1 hq1 ⊢
      refine ⟨_, rfl, _, rfl, q, _, _, _, rfl, rfl, SqL.of hq1, atI_nat hvb, ?_⟩
      refine ⟨_, rfl, _, rfl, q, _, _, _, rfl, rfl, SqL.of hq1, atI_nat hva, ra, rfl, lc_ints (fun x => -x) (hra.ext (e0.trans e1)) (by omega) (fun n _ H' R hR => ⟨rfl, _, rfl, _, rfl, hR⟩) (fun D H2 hD e2 hD2 => ?_)⟩
      refine ⟨by show 2 ≤ sizeLine; decide, fun t ht => ?_⟩
      have e3 : Ext H1 (upd H2 t (.tup [vb, .ref D])) := e2.trans (Ext.upd ht)
      have hq3 : (upd H2 t (.tup [vb, .ref D])) q = some (.lst xs) := e3 _ _ hq1
      have hD3 : (upd H2 t (.tup [vb, .ref D])) D = some (.lst (((rs.getD a []).map fun x => -x).map V.int)) := Ext.upd ht _ _ hD2
      refine ⟨t, _, rfl, SqT.of upd_same, rfl, ?_⟩
      generalize upd H2 t (.tup [vb, .ref D]) = H3 at e3 hq3 hD3 ⊢
      have hxa : ixN xs.length (a : Int) = some a := by
        unfold ixN
        rw [if_pos (by omega), Int.toNat_natCast, if_pos (by rw [hxl, sq.1]; exact Int.ofNat_lt.mpr ha)]
      have hxb : ixN (xs.set a vb).length (b : Int) = some b := by
        unfold ixN
        rw [List.length_set, if_pos (by omega), Int.toNat_natCast, if_pos (by rw [hxl, sq.1]; exact Int.ofNat_lt.mpr hb)]
      refine ⟨_, _, rfl, ⟨_, rfl, _, rfl, q, xs, _, a, rfl, rfl, hq3, hxa, ?_⟩⟩
      refine ⟨_, _, rfl, ⟨_, rfl, _, rfl, q, xs.set a vb, _, b, rfl, rfl, upd_same, hxb, ?_⟩⟩
      refine ⟨rfl, _, rfl, k _ _ (((e1.trans e3).mut hq).mut hq) ?_⟩
      have hqD : q ≠ D := fun z => by rw [← z, hq1] at hD; cases hD
      have hqH : H q = none := hq
      have hDH : H D = none := e1.fresh hD
      have z : IsL K (mix H0 H (upd (upd H3 q (.lst (xs.set a vb))) q (.lst ((xs.set a vb).set b (.ref D))))) ((rs.map rwI).set a (rwI (rs.getD b [])) |>.set b (rwI ((rs.getD a []).map fun x => -x))) ((xs.set a vb).set b (.ref D)) :=
        isL_set (isL_set (hxs.ext (mix_old e0)) (ib.ext (mix_old e0))) (rwI_is (SqL.of (by rw [mix_new hDH, upd_ne hqD.symm, upd_ne hqD.symm]; exact hD3)))
      rw [← List.map_set, ← List.map_set] at z
      unfold Mx.swp
      rw [if_neg hab]
      exact ⟨q, _, rfl, SqL.of (by rw [mix_new hqH, upd_same]), z⟩
def tRowE (K : PySem.W.Frag) : TE := tOp (rI CDivZ fun i j => .int (i.fdiv j)) (tOp (rI0 fun i j => .int (i - j)) (tOp (rI CMulW fun i j => .int (i * j)) (tOp (rIxL K) (tVar 4) (tVar 2)) (tVar 8)) (tOp (rI CMulW fun i j => .int (i * j)) (tOp (rIxL K) (tVar 6) (tVar 2)) (tVar 7))) (tVar 3)
def gTwo (K : PySem.W.Frag) (i j : Nat) : TG := gTup K 2 (gCons (gName i) (gCons (gName j) gNil))
def tClrE (K : PySem.W.Frag) : TE := tIf (tTest (tOp rEq (tVar 5) (tVar 1))) (tVar 6) (tLc (iZipA K (tCons (tVar 6) (tCons (tVar 4) tNil))) (gTwo K 8 7) tYes (tRowE K) [8, 7])
abbrev scClr : Scope := { kind := ScopeKind.function, names := [(Str.ofString ".0", NameKind.local), (Str.ofString "k", NameKind.local), (Str.ofString "row", NameKind.cell), (Str.ofString "zip", NameKind.globalImplicit), (Str.ofString "at", NameKind.cell), (Str.ofString "chief", NameKind.cell), (Str.ofString "column", NameKind.cell), (Str.ofString "shared", NameKind.cell)], isGenerator := false, isCoroutine := false }
def spClearedOf (K : PySem.W.Frag) : Sp := fun vs H Q _ => ∃ (H0 : Hp) (v : V) (rs : List (List Int)) (n m a c : Nat) (sh : Int), vs = [v, .int (a : Int), .int (c : Int), .int sh] ∧ Ext H0 H ∧ Is K H0 (rowsD rs) v ∧ Mx.Sq n m rs ∧ a < n ∧ c < m ∧ n ≤ 10 ∧ m ≤ 20 ∧ sh ≠ 0 ∧ sh.natAbs < 2 ^ 8000 ∧ (∀ i j, i < n → (Mx.ent rs i j).natAbs < 2 ^ 8000) ∧
  ∀ u H', Ext H H' → Is K (mix H0 H H') (rowsD (Mx.clrOf rs a c sh)) u → Q u H'
theorem ok_cleared_of (T : Tx K mg) : FnOk P w K mg base (L2.CX P w) 1 T.a_cleared_of T.fd_cleared_of ["rows", "at", "column", "shared"] (spClearedOf K) := by
  refine T.F_cleared_of.okX sc_cleared_of (fun vs H Q E h => ?_) (fun cdv A outer s H vs Q E hr h => ?_)
  · obtain ⟨H0, v, rs, n, m, a, c, sh, rfl, _⟩ := h
    rfl
  · obtain ⟨H0, v, rs, n, m, a, c, sh, rfl, e0, hv, sq, ha, hc, hn, hm, hs0, hsb, hb, k⟩ := h
    refine ⟨_, (pss_cons (ps_set (i := 4) sc_cleared_of.nd rfl (Or.inr rfl) (pe_ix ix_list (pv 0) (pv 1) (fun _ _ => rfl)))
      (pss_one (ps_ret (pe_lc (own := [("k", 5), ("row", 6)]) (g := gTwo K 5 6) (tt := tYes) (te := tClrE K) (by rfl) sc_cleared_of.nd (pi_enum (by rfl) T.z_enumerate (pa_cons (pv 0) pa_nil)) (blkOk_by (own := [("k", 5), ("row", 6)]) (N := N_cleared_of) (sc := defScope s_cleared_of) (by decide +kernel)) (fun _ _ _ _ _ => (by exact pg_tup rfl (pgs_cons (pg_name (i := 5) sc_cleared_of.nd rfl (Or.inl rfl)) (pgs_cons (pg_name (i := 6) sc_cleared_of.nd rfl (Or.inr rfl)) pgs_nil)))) (fun _ _ _ _ _ => pts_nil)
        (fun _ _ _ _ _ => (by exact pe_ifExp (pt_cmpR op_eq (pv 5) (pv 1) (nomark _)) (pv 6) (pe_lc (own := [("number", 8), ("against", 7)]) (g := gTwo K 8 7) (tt := tYes) (te := tRowE K) (by rfl) sc_cleared_of.nd (pi_zipA (by rfl) T.z_zip (pa_cons (pv 6) (pa_cons (pv 4) pa_nil))) (blkOk_by (own := [("number", 8), ("against", 7)]) (N := N_cleared_of) (sc := scClr) (by decide +kernel)) (fun _ _ _ _ _ => (by exact pg_tup rfl (pgs_cons (pg_name (i := 8) sc_cleared_of.nd rfl (Or.inl rfl)) (pgs_cons (pg_name (i := 7) sc_cleared_of.nd rfl (Or.inl rfl)) pgs_nil)))) (fun _ _ _ _ _ => pts_nil) (fun _ _ _ _ _ => (by exact pe_op op_fdivZ (pe_op op_sub (pe_op op_mulW (pe_ix ix_list (pv 4) (pv 2) (fun _ _ => rfl)) (pv 8)) (pe_op op_mulW (pe_ix ix_list (pv 6) (pv 2) (fun _ _ => rfl)) (pv 7))) (pv 3)))))))))), ?_⟩
    obtain ⟨l, xs, rfl, hl, hxs, hxl⟩ := rows_of hv
    have hlH := hl.ext e0
    have hlen := sq.1
    have hsa := row_get (rs := rs) (i := a) (by rw [hlen]; exact ha)
    have hla := sq.at ha
    obtain ⟨va, hva, ia⟩ := isL_at hxs hsa
    obtain ⟨ra, rfl, hra⟩ := rwI_of ia
    have mul : ∀ x y : Int, x.natAbs < 2 ^ 8000 → y.natAbs < 2 ^ 8000 → CMulW x y := fun x y hx hy => wide_mul hx hy (by decide) (by decide) (by decide)
    have entb : ∀ i, i < n → ∀ x ∈ rs.getD i [], x.natAbs < 2 ^ 8000 := fun i hi x hx => by
      obtain ⟨j, hj, rfl⟩ := List.mem_iff_getElem.mp hx
      have z := hb i j hi
      unfold Mx.ent at z
      rw [Mx.getD_lt (l := rs.getD i []) 0 hj] at z
      exact z
    refine ⟨_, rfl, _, rfl, l, _, _, _, rfl, rfl, hlH, atI_nat hva, ?_⟩
    refine ⟨_, rfl, l, xs, rfl, hlH, fun D hD => ?_⟩
    refine lc_enum (xs := xs) (fun i H' => Ext H H' ∧ ∃ acc, H' D = some (.lst acc) ∧ IsL K (del (mix H0 H H') D) (((Mx.clrOf rs a c sh).take i).map rwI) acc) ⟨Ext.upd hD, [], upd_same, rfl⟩ (fun i H' p => hlH.ext p.1) ?_ ?_
    · rintro i y tp H1 hi ⟨e1, acc, hD1, hacc⟩ htp
      obtain ⟨row, hrow, iy⟩ := isL_at' hxs hi
      have hin : i < n := by rw [← hlen]; exact (List.getElem?_eq_some_iff.mp hrow).1
      have hrd : rs.getD i [] = row := by rw [List.getD_eq_getElem?_getD, hrow]; rfl
      obtain ⟨rr, rfl, hrr⟩ := rwI_of iy
      have hrl : row.length = m := sq.2 row (List.mem_of_getElem? hrow)
      have hci : (Mx.clrOf rs a c sh)[i]? = some (Mx.clrRow rs a c sh i row) := by
        unfold Mx.clrOf
        rw [List.getElem?_mapIdx, hrow]
        rfl
      refine ⟨tp, _, rfl, SqT.of upd_same, rfl, _, _, rfl, _, _, rfl, rfl, rfl, tyes ?_⟩
      have e2 : Ext H (upd H1 tp (.tup [.int (i : Nat), .ref rr])) := e1.trans (Ext.upd htp)
      have hD2 : (upd H1 tp (.tup [.int (i : Nat), .ref rr])) D = some (.lst acc) := Ext.upd htp _ _ hD1
      have hacc2 : IsL K (del (mix H0 H (upd H1 tp (.tup [.int (i : Nat), .ref rr]))) D) (((Mx.clrOf rs a c sh).take i).map rwI) acc := hacc.ext (DE.of (mix_ext (Ext.upd htp)))
      generalize upd H1 tp (.tup [.int (i : Nat), .ref rr]) = H2 at e2 hD2 hacc2 ⊢
      have hal : acc.length < sizeLine := by
        rw [← hacc2.length, List.length_map, List.length_take]
        exact Nat.lt_of_lt_of_le (show min i (Mx.clrOf rs a c sh).length < 100 by omega) (by decide)
      have mixD : ∀ (H3 : Hp) (o : HO), Ext (del (mix H0 H H3) D) (del (mix H0 H (upd H3 D o)) D) := fun H3 o x u hx => by
        by_cases e : x = D
        · rw [e, del_same] at hx; cases hx
        · rw [del_ne e] at hx ⊢
          unfold mix at hx ⊢
          cases q : H x with
          | none => rw [q] at hx; dsimp only at hx ⊢; rw [upd_ne e]; exact hx
          | some y => rw [q] at hx; exact hx
      -- the new item
      have fin : ∀ (H3 : Hp) (u : Addr), Ext H2 H3 → SqL K (del (mix H0 H H3) D) u ((Mx.clrRow rs a c sh i row).map V.int) → ∃ acc, H3 D = some (.lst acc) ∧ acc.length < sizeLine ∧ Ext H (upd H3 D (.lst (acc ++ [V.ref u]))) ∧ ∃ acc', (upd H3 D (.lst (acc ++ [V.ref u]))) D = some (.lst acc') ∧ IsL K (del (mix H0 H (upd H3 D (.lst (acc ++ [V.ref u])))) D) (((Mx.clrOf rs a c sh).take (i + 1)).map rwI) acc' := fun H3 u e3 hu => by
        refine ⟨acc, e3 _ _ hD2, hal, (e2.trans e3).mut hD, _, upd_same, ?_⟩
        rw [List.take_add_one, hci, List.map_append]
        refine isL_sn ?_ (rwI_is ?_)
        · exact (hacc2.ext (DE.of (mix_ext e3))).ext (mixD H3 _)
        · exact hu.ext (mixD H3 _)
      refine ⟨_, rfl, _, rfl, rfl, _, rfl, ite2 (fun ce => ?_) (fun ce => ?_)⟩
      · have hia : i = a := by
          have := V.int.inj (of_decide_eq_true ce)
          omega
        refine ⟨_, rfl, ?_⟩
        refine fin H2 rr Ext.rfl' ?_
        unfold Mx.clrRow
        rw [if_pos hia]
        refine hrr.ext fun x o hx => ?_
        rw [del_ne (ne_of_none (e0 x o hx) hD)]
        exact mix_old e0 x o hx
      · have hia : i ≠ a := fun z => ce (decide_eq_true (by rw [z]))
        have hrr2 := hrr.ext (e0.trans e2)
        have hra2 := hra.ext (e0.trans e2)
        refine ⟨_, rfl, _, rfl, rr, ra, _, _, rfl, .inl ⟨hrr2, hra2, ?_⟩⟩
        refine lc_zipI (ns := row) (ms := rs.getD a []) (fun x y => ((rs.getD a []).getD c 0 * x - row.getD c 0 * y).fdiv sh) (by rw [hrl, hla]) hrr2 hra2 (by omega) (fun x y hx hy t H3 e3 ht R hR => ?_) (fun u H3 hu e3 hu3 => ?_)
        · refine ⟨t, _, rfl, SqT.of ht, rfl, _, _, rfl, _, _, rfl, rfl, rfl, ?_⟩
          have bx := entb i hin x (by rw [hrd]; exact hx)
          have by' := entb a ha y hy
          have bp := hb a c ha
          have bq := hb i c hin
          unfold Mx.ent at bp bq
          rw [hrd] at bq
          refine ⟨_, rfl, _, rfl, ra, _, _, _, rfl, rfl, hra2.ext e3, atI_int (by rw [hla]; exact hc), _, rfl, _, _, rfl, rfl, mul _ _ bp bx, ?_⟩
          refine ⟨_, rfl, _, rfl, rr, _, _, _, rfl, rfl, hrr2.ext e3, atI_int (by rw [hrl]; exact hc), _, rfl, _, _, rfl, rfl, mul _ _ bq by', ?_⟩
          exact ⟨_, _, rfl, rfl, _, rfl, _, _, rfl, rfl, div_z hs0 hsb (by decide) (by decide), hR⟩
        · have huD : u ≠ D := fun z => by rw [z, hD2] at hu; cases hu
          refine fin H3 u e3 (SqL.of ?_)
          rw [del_ne huD, mix_new (e2.fresh hu), hu3]
          unfold Mx.clrRow Mx.elim
          rw [if_neg hia]
    · rintro H1 ⟨e1, acc, hD1, hacc⟩
      rw [List.take_of_length_le (by rw [Mx.len_clr, hxl]; exact Nat.le_refl _)] at hacc
      exact k _ _ e1 ⟨D, acc, rfl, SqL.of (by rw [mix_new hD]; exact hD1), hacc.ext del_ext⟩
end
end K22
namespace L2
open PySem PySem.Spec PyProof.Rows
/-- ints of a range that pass a test -/
theorem lc_rangeP {lo : Int} {n : Nat} {g : TG} {tt : TT} {te : TE} {vs : List Nat} {σ : St} {H1 : Hp} {Q : Addr → Hp → Prop} (p : Nat → Bool) (hz : n ≤ 1000)
    (hs : ∀ (i : Nat), i < n → ∀ (H : Hp), Ext H1 H → ∀ (R : V → Hp → Prop) (N : Hp → Prop), (if p i = true then R (.int (lo + i)) H else N H) → g (.int (lo + (i : Nat))) (wipe σ vs) H fun σ2 H2 => wipe σ2 vs = wipe σ vs ∧ tt σ2 H2 fun b H3 => if b = true then te σ2 H3 R else N H3)
    (hd : ∀ D H', H1 D = none → Ext H1 H' → H' D = some (.lst (((List.range n).filter p).map fun i : Nat => V.int (lo + i))) → Q D H') : ∀ D, H1 D = none →
    ∃ W : Nat → Nat → Hp → Prop, (∃ m, W 0 m (upd H1 D (.lst []))) ∧ ∀ i m H, W i m H →
      ((Itr lo n).stop i H ∧ Q D H) ∨ ((Itr lo n).go i H ∧ ∃ Nx : Hp → Prop, (∀ H', Nx H' → ∃ m', m' < m ∧ W (i + 1) m' H') ∧ ∀ x H', (Itr lo n).yld i H x H' → g x (wipe σ vs) H' fun σ2 H2 => wipe σ2 vs = wipe σ vs ∧ tt σ2 H2 fun b H3 =>
        if b = true then te σ2 H3 fun y H4 => ∃ acc, H4 D = some (.lst acc) ∧ acc.length < sizeLine ∧ Nx (upd H4 D (.lst (acc ++ [y]))) else Nx H3) := fun D hD => by
  refine lc_range (lo := lo) (n := n) (fun i H' => Ext H1 H' ∧ H' D = some (.lst (((List.range i).filter p).map fun i : Nat => V.int (lo + i)))) ⟨Ext.upd hD, upd_same⟩ ?_ ?_
  · rintro i H' hi ⟨e1, hD1⟩
    have et : (List.range (i + 1)).filter p = (List.range i).filter p ++ (if p i = true then [i] else []) := by
      rw [List.range_succ, List.filter_append]
      congr 1
      rw [List.filter_cons]
      rfl
    refine hs i hi H' e1 _ _ ?_
    by_cases hp : p i = true
    · rw [if_pos hp]
      refine ⟨_, hD1, ?_, e1.mut hD, ?_⟩
      · rw [List.length_map]
        exact Nat.lt_of_le_of_lt (List.length_filter_le _ _) (Nat.lt_of_lt_of_le (show (List.range i).length < 2000 by rw [List.length_range]; omega) (by decide))
      · rw [upd_same, et, if_pos hp, List.map_append]
        rfl
    · rw [if_neg hp]
      refine ⟨e1, ?_⟩
      rw [hD1, et, if_neg hp, List.append_nil]
  · rintro H' ⟨e1, hD1⟩
    exact hd D H' hD e1 hD1
end L2
namespace K22
open PySem L2 RZ
section
variable {P : Program} {w : World} {K : PySem.W.Frag} {mg : Str → Option Value} {base : Heap}
/-- what clearing comes to, column by column: the rows, the columns kept, the number shared -/
def clrSt (n : Nat) (rs : List (List Int)) : Nat → List (List Int) × List Nat × Int
  | 0 => (rs, [], 1)
  | i + 1 => match clrSt n rs i with
    | (r, k, s) => match (List.range (n - k.length)).filter (fun j => decide (Mx.ent r (k.length + j) i ≠ 0)) with
      | [] => (r, k, s)
      | j0 :: _ => (Mx.clrOf (Mx.swp r k.length (k.length + j0)) k.length i s, k ++ [i], Mx.ent (Mx.clrOf (Mx.swp r k.length (k.length + j0)) k.length i s) k.length i)
theorem clrSt_nil {n i : Nat} {rs r : List (List Int)} {k : List Nat} {s : Int} (h : clrSt n rs i = (r, k, s)) (hf : (List.range (n - k.length)).filter (fun j => decide (Mx.ent r (k.length + j) i ≠ 0)) = []) : clrSt n rs (i + 1) = (r, k, s) := by
  rw [clrSt, h]
  dsimp only
  rw [hf]
theorem clrSt_cons {n i j0 : Nat} {js : List Nat} {rs r : List (List Int)} {k : List Nat} {s : Int} (h : clrSt n rs i = (r, k, s)) (hf : (List.range (n - k.length)).filter (fun j => decide (Mx.ent r (k.length + j) i ≠ 0)) = j0 :: js) : clrSt n rs (i + 1) = (Mx.clrOf (Mx.swp r k.length (k.length + j0)) k.length i s, k ++ [i], Mx.ent (Mx.clrOf (Mx.swp r k.length (k.length + j0)) k.length i s) k.length i) := by
  rw [clrSt, h]
  dsimp only
  rw [hf]
def spCleared (K : PySem.W.Frag) : Sp := fun vs H Q _ => ∃ (v : V) (rs : List (List Int)) (n m : Nat), vs = [v, .int (n : Int)] ∧ Is K H (rowsD rs) v ∧ Mx.Sq n m rs ∧ n ≤ m ∧ n ≤ 9 ∧ m ≤ 20 ∧ (∀ i j, i < n → (Mx.ent rs i j).natAbs < 2 ^ 490) ∧
  ∀ (t kp : Addr) (u : V) (rs' : List (List Int)) (kept : List Nat) (s : Int) (H' : Hp), Ext H H' → H' t = some (.tup [u, .ref kp, .int s]) → Is K H' (rowsD rs') u → H' kp = some (.lst (kept.map fun c : Nat => V.int (c : Int))) → Mx.Cl n m n (Mx.ent rs) rs' kept s → clrSt n rs n = (rs', kept, s) → Q (.ref t) H'
theorem ok_cleared (T : Tx K mg) : FnOk P w K mg base (L2.CX P w) 2 T.a_cleared T.fd_cleared ["rows", "width"] (spCleared K) := by
  refine T.F_cleared.okX sc_cleared (fun vs H Q E h => ?_) (fun cdv A outer s H vs Q E hr h => ?_)
  · obtain ⟨v, rs, n, m, rfl, _⟩ := h
    rfl
  · obtain ⟨v, rs, n, m, rfl, hv, sq, hnm, hn, hm, hb, k⟩ := h
    refine ⟨_, (pss_cons (ps_set (i := 2) sc_cleared.nd rfl (Or.inl rfl) (pe_lst pa_nil))
      (pss_cons (ps_set (i := 3) sc_cleared.nd rfl (Or.inl rfl) pe_int)
      (pss_cons (ps_for (passes_of rfl) rfl (pi_range1 rfl T.z_range (pa_cons (pv 1) pa_nil)) (pg_name (i := 4) sc_cleared.nd rfl (Or.inr rfl)) (pss_cons (ps_set (i := 5) sc_cleared.nd rfl (Or.inl rfl) (pe_callB call_len_seq (by rfl) T.z_len PySem.boot_len (pa_cons (pv 2) pa_nil)))
      (pss_cons (ps_setLc (i := 6) (own := [("k", 7)]) (g := gName 7) (te := tVar 7) (by rfl) sc_cleared.nd rfl rfl (sw_true rfl rfl rfl (by decide +kernel)) (pi_range2 rfl T.z_range (pa_cons (pv 5) (pa_cons (pe_callB call_len_seq (by rfl) T.z_len PySem.boot_len (pa_cons (pv 0) pa_nil)) pa_nil))) (blkOk_by (own := [("k", 7)]) (N := N_cleared) (sc := defScope s_cleared) (by decide +kernel)) (fun _ _ _ _ _ => (pg_name (i := 7) sc_cleared.nd rfl (Or.inl rfl))) (fun _ _ _ _ _ => (pts_one (pt_cmpR op_ne (pe_ix (r := rIxL K) ix_list (pe_ix (r := rIxL K) ix_list (pv 0) (pv 7) (fun _ _ => rfl)) (pv 4) (fun _ _ => rfl)) pe_int (nomark _)))) (fun _ _ _ _ _ => (pv 7)))
      (pss_one (ps_if (pt_truth (pv 6) (by intro _; rfl)) (pss_cons (ps_set (i := 0) sc_cleared.nd rfl (Or.inr rfl) (pe_call (ok_swapped T) (hr.mono (by decide)) rfl T.m_swapped T.F_swapped.kp T.b_swapped .nil passL (pa_cons (pv 0) (pa_cons (pv 5) (pa_cons (pe_ix ix_list (pv 6) pe_int (fun _ _ => rfl)) pa_nil)))))
      (pss_cons (ps_set (i := 0) sc_cleared.nd rfl (Or.inr rfl) (pe_call (ok_cleared_of T) (hr.mono (by decide)) rfl T.m_cleared_of T.F_cleared_of.kp T.b_cleared_of .nil passL (pa_cons (pv 0) (pa_cons (pv 5) (pa_cons (pv 4) (pa_cons (pv 3) pa_nil))))))
      (pss_cons (ps_set (i := 3) sc_cleared.nd rfl (Or.inl rfl) (pe_ix ix_list (pe_ix ix_list (pv 0) (pv 5) (fun _ _ => rfl)) (pv 4) (fun _ _ => rfl)))
      (pss_one (ps_expr (pe_bm PySem.F.plainAttrs_list PySem.F.slot_list_append PySem.F.type_list_append mt_append (pv 2) (pa_cons (pv 4) pa_nil))))))) pss_nil)))))
      (pss_one (ps_ret (pe_tup (pa_cons (pv 0) (pa_cons (pv 2) (pa_cons (pv 3) pa_nil))))))))), ?_⟩
    refine ⟨by show 0 ≤ sizeLine; decide, fun kp hkp => ?_⟩
    have eK : Ext H (upd H kp (.lst [])) := Ext.upd hkp
    have hK0 : (upd H kp (.lst [])) kp = some (.lst []) := upd_same
    refine ⟨_, rfl, (n : Int), rfl, by omega, by omega, ?_⟩
    rw [Int.toNat_natCast]
    refine for_range (lo := 0) (n := n) (fun i σ H' => Ext H H' ∧ ∃ (u : V) (rs' : List (List Int)) (kept : List Nat) (s' : Int) (v4 v5 v6 v7 : Option V), σ = [some u, some (.int (n : Int)), some (.ref kp), some (.int s'), v4, v5, v6, v7] ∧ H' kp = some (.lst (kept.map fun c : Nat => V.int (c : Int))) ∧ Is K (del H' kp) (rowsD rs') u ∧ Mx.Cl n m i (Mx.ent rs) rs' kept s' ∧ clrSt n rs i = (rs', kept, s'))
      ⟨eK, v, rs, [], 1, none, none, none, none, rfl, hK0, hv.ext (fun x o hx => by rw [del_ne (ne_of_none hx hkp)]; exact eK x o hx), Mx.Cl.start sq, rfl⟩ ?_ ?_
    · rintro i σ H1 hi ⟨e1, u, rs', kept, s', v4, v5, v6, v7, rfl, hK1, hu, C, hst⟩
      have hkl : kept.length ≤ n := by
        obtain ⟨B, _, I⟩ := C.inv
        exact I.kn
      obtain ⟨bR, bS⟩ := C.bound (b := 490) (by omega) hb
      have pw : 2 ^ ((490 + 4) * (n + 1) + 1) ≤ 2 ^ 8000 := Nat.pow_le_pow_right (by decide) (by omega)
      have hs0 : s' ≠ 0 := by
        obtain ⟨B, _, I⟩ := C.inv
        exact I.s0
      obtain ⟨l, xs, rfl, hl, hxs, hxl⟩ := rows_of hu
      have hlen := C.sq.1
      have hl1 := hl.ext del_ext
      refine ⟨_, rfl, kp, _, rfl, .inl (SqL.of hK1), ?_⟩
      rw [List.length_map, Int.zero_add]
      refine ⟨_, rfl, _, rfl, l, _, rfl, .inl hl1, (kept.length : Int), (xs.length : Int), rfl, ⟨by omega, by omega, by omega, by omega⟩, ?_⟩
      rw [show ((xs.length : Int) - (kept.length : Int)).toNat = n - kept.length by omega]
      refine lc_rangeP (fun j => decide (Mx.ent rs' (kept.length + j) i ≠ 0)) (by omega) (fun j hj H' e R N hR => ?_) (fun D H2 hD e2 hD2 => ?_)
      · have hj' : kept.length + j < n := by omega
        obtain ⟨vr, hvr, ir⟩ := isL_at hxs (row_get (rs := rs') (i := kept.length + j) (by omega))
        obtain ⟨ra, rfl, hra⟩ := rwI_of ir
        have hrl := C.sq.at hj'
        have hij : atI ((rs'.getD (kept.length + j) []).map V.int) (i : Int) = some (.int (Mx.ent rs' (kept.length + j) i)) := atI_int (by rw [hrl]; omega)
        refine ⟨rfl, _, rfl, _, rfl, l, _, _, _, rfl, rfl, hl1.ext e, ?_, _, rfl, ra, _, _, _, rfl, rfl, (hra.ext del_ext).ext e, hij, rfl, _, rfl, ?_⟩
        · rw [← Int.natCast_add]
          exact atI_nat hvr
        · by_cases hp : Mx.ent rs' (kept.length + j) i = 0
          · have hb' : (!decide (V.int (Mx.ent rs' (kept.length + j) i) = V.int 0)) = false := by
              rw [Bool.not_eq_false', decide_eq_true_iff, hp]
            rw [if_neg (by rw [decide_eq_true_iff]; exact fun z => z hp)] at hR
            rw [hb']
            exact hR
          · have hb' : (!decide (V.int (Mx.ent rs' (kept.length + j) i) = V.int 0)) = true := by
              rw [Bool.not_eq_true', decide_eq_false_iff_not]
              exact fun z => hp (V.int.inj z)
            rw [if_pos (decide_eq_true hp)] at hR
            simp only [hb', if_true]
            exact ⟨_, rfl, hR⟩
      · have hK2 := e2 _ _ hK1
        have hu2 : Is K (del H2 kp) (rowsD rs') (.ref l) := hu.ext (DE.of e2)
        refine ⟨_, rfl, _, .inl ⟨_, SqL.of hD2, rfl⟩, ?_⟩
        cases hf : (List.range (n - kept.length)).filter (fun j => decide (Mx.ent rs' (kept.length + j) i ≠ 0)) with
        | nil =>
          rw [hf] at hD2
          refine iteF ?_
          refine ⟨e1.trans e2, _, rs', kept, s', _, _, _, _, rfl, hK2, hu2, C.skip fun r h1 h2 => ?_, clrSt_nil hst hf⟩
          refine Classical.byContradiction fun z => ?_
          have : (r - kept.length) ∈ (List.range (n - kept.length)).filter (fun j => decide (Mx.ent rs' (kept.length + j) i ≠ 0)) := by
            rw [List.mem_filter, List.mem_range, decide_eq_true_iff]
            exact ⟨by omega, by rw [show kept.length + (r - kept.length) = r by omega]; exact z⟩
          rw [hf] at this
          cases this
        | cons j0 js =>
          rw [hf] at hD2
          refine iteT ?_
          have hj0 : j0 ∈ (List.range (n - kept.length)).filter (fun j => decide (Mx.ent rs' (kept.length + j) i ≠ 0)) := by rw [hf]; exact List.mem_cons_self
          rw [List.mem_filter, List.mem_range, decide_eq_true_iff] at hj0
          obtain ⟨hj1, hj2⟩ := hj0
          have hkn : kept.length < n := by omega
          refine ⟨_, rfl, _, rfl, _, rfl, D, _, _, _, rfl, rfl, SqL.of hD2, atI_nat (j := 0) rfl, ?_⟩
          refine ⟨del H2 kp, _, rs', n, m, kept.length, kept.length + j0, (by rw [Int.natCast_add]; rfl), del_ext, hu2, C.sq, hkn, by omega, by omega, hm, fun u2 H3 e3 i3 => ?_⟩
          have hK3 := e3 _ _ hK2
          have i3' : Is K (del H3 kp) (rowsD (Mx.swp rs' kept.length (kept.length + j0))) u2 := i3.ext (mix_del hK2 e3)
          have sq3 := C.sq.swp hkn (show kept.length + j0 < n by omega)
          have b3 : ∀ p q, p < n → (Mx.ent (Mx.swp rs' kept.length (kept.length + j0)) p q).natAbs < 2 ^ 8000 := fun p q hp => by
            by_cases e : kept.length = kept.length + j0
            · have e2 : Mx.swp rs' kept.length (kept.length + j0) = rs' := by unfold Mx.swp; rw [if_pos e]
              rw [e2]
              exact Nat.lt_of_lt_of_le (bR p q hp) pw
            · rw [Mx.ent_swp C.sq hkn (by omega) e hp q]
              unfold Mx.sx
              split
              · exact Nat.lt_of_lt_of_le (bR _ q (by omega)) pw
              · split
                · rw [Int.natAbs_neg]
                  exact Nat.lt_of_lt_of_le (bR _ q hkn) pw
                · exact Nat.lt_of_lt_of_le (bR p q hp) pw
          refine ⟨_, rfl, _, rfl, _, rfl, _, rfl, del H3 kp, _, _, n, m, kept.length, i, s', rfl, del_ext, i3', sq3, hkn, by omega, by omega, hm, hs0, Nat.lt_of_lt_of_le bS pw, b3, fun u3 H4 e4 i4 => ?_⟩
          have hK4 := e4 _ _ hK3
          have i4' : Is K (del H4 kp) (rowsD (Mx.clrOf (Mx.swp rs' kept.length (kept.length + j0)) kept.length i s')) u3 := i4.ext (mix_del hK3 e4)
          have C4 := C.keep (f := kept.length + j0) (by omega) (by omega) hj2
          have hst4 := clrSt_cons hst hf
          generalize Mx.clrOf (Mx.swp rs' kept.length (kept.length + j0)) kept.length i s' = rs4 at i4' C4 hst4 ⊢
          obtain ⟨l4, xs4, rfl, hl4, hxs4, hxl4⟩ := rows_of i4'
          obtain ⟨v4', hv4, iv4⟩ := isL_at hxs4 (row_get (rs := rs4) (i := kept.length) (by rw [C4.sq.1]; exact hkn))
          obtain ⟨r4, rfl, hr4⟩ := rwI_of iv4
          have hrl4 := C4.sq.at hkn
          have hij4 : atI ((rs4.getD kept.length []).map V.int) (i : Int) = some (.int (Mx.ent rs4 kept.length i)) := atI_int (by rw [hrl4]; omega)
          refine ⟨_, rfl, _, rfl, l4, _, _, _, rfl, rfl, hl4.ext del_ext, atI_nat hv4, _, rfl, r4, _, _, _, rfl, rfl, hr4.ext del_ext, hij4, ?_⟩
          refine ⟨_, rfl, .inl ⟨rfl, _, SqL.of hK4⟩, _, rfl, kp, _, _, rfl, rfl, hK4, ?_, ?_⟩
          · rw [List.length_map]
            exact Nat.lt_of_lt_of_le (show kept.length < 100 by omega) (by decide)
          · refine ⟨(((e1.trans e2).trans e3).trans e4).mut hkp, _, rs4, kept ++ [i], _, _, _, _, _, rfl, ?_, i4'.ext DE.upd, C4, hst4⟩
            rw [upd_same, List.map_append]
            rfl
    · rintro σ H1 ⟨e1, u, rs', kept, s', v4, v5, v6, v7, rfl, hK1, hu, C, hst⟩
      refine ⟨_, rfl, _, rfl, _, rfl, by show 3 ≤ sizeLine; decide, fun t ht => ?_⟩
      exact k t kp u rs' kept s' _ (e1.trans (Ext.upd ht)) upd_same ((hu.ext del_ext).ext (Ext.upd ht)) (Ext.upd ht _ _ hK1) C hst
end
end K22
namespace K22
open PySem L2 RZ
section
variable {P : Program} {w : World} {K : PySem.W.Frag} {mg : Str → Option Value} {base : Heap}
/-- what a bar asks, of all rods -/
def barRow (n : Nat) (q : Int) (b : BarD) (x : Int) : List Int := (((List.replicate n 0).set b.a.toNat (x - q * b.len)).set b.b.toNat (-x)).set b.c.toNat (q * b.len)
def barRows (n : Nat) (q : Int) (bs : List BarD) (ns : List Int) : List (List Int) := (bs.zip ns).map fun z => barRow n q z.1 z.2
theorem len_barRow {n : Nat} {q : Int} {b : BarD} {x : Int} : (barRow n q b x).length = n := by
  unfold barRow
  rw [List.length_set, List.length_set, List.length_set, List.length_replicate]
theorem rep_zero (n : Nat) : (List.replicate n [V.int 0]).flatten = (List.replicate n (0 : Int)).map V.int := by
  induction n with
  | zero => rfl
  | succ n ih => rw [List.replicate_succ, List.replicate_succ, List.flatten_cons, ih]; rfl
theorem ixN_of {n : Nat} {i : Int} (h0 : 0 ≤ i) (h1 : i < (n : Int)) : ixN n i = some i.toNat := by
  unfold ixN
  rw [if_pos h0, if_pos (by omega)]
def spBarRows (K : PySem.W.Frag) (T : Tx K mg) : Sp := fun vs H Q _ => ∃ (v : V) (t : Addr) (n : Nat) (bs : List BarD) (hl : List (Int × Int)) (ns : List Int) (q : Int), vs = [v, .ref t, .int q] ∧ Is K H (wbD T.C_Web T.C_Bar (n : Int) bs hl) v ∧ SqT K H t (ns.map V.int) ∧ ns.length = bs.length ∧ n ≤ 10 ∧ bs.length ≤ 8 ∧ (∀ b ∈ bs, BarOk (n : Int) b) ∧
  ∀ u H', Ext H H' → Is K H' (rowsD (barRows n q bs ns)) u → Q u H'
theorem ok_bar_rows (T : Tx K mg) : FnOk P w K mg base (L2.CX P w) 1 T.a_bar_rows T.fd_bar_rows ["web", "numbers", "parts"] (spBarRows K T) := by
  refine T.F_bar_rows.okX sc_bar_rows (fun vs H Q E h => ?_) (fun cdv A outer s H vs Q E hr h => ?_)
  · obtain ⟨v, t, n, bs, hl, ns, q, rfl, _⟩ := h
    rfl
  · obtain ⟨v, tn, n, bs, hl, ns, q, rfl, hv, htn, hnl, hn, h8, hbo, k⟩ := h
    refine ⟨_, (pss_cons (ps_set (i := 3) sc_bar_rows.nd rfl (Or.inl rfl) (pe_lst pa_nil))
      (pss_cons (ps_for (passes_of rfl) rfl (pi_zipA (by rfl) T.z_zip (pa_cons (pe_fld (pv 0) rfl) (pa_cons (pv 1) pa_nil))) (pg_tup rfl (pgs_cons (pg_name (i := 4) sc_bar_rows.nd rfl (Or.inl rfl)) (pgs_cons (pg_name (i := 5) sc_bar_rows.nd rfl (Or.inl rfl)) pgs_nil))) (pss_cons (ps_set (i := 6) sc_bar_rows.nd rfl (Or.inl rfl) (pe_op op_rep (pe_lst (pa_cons pe_int pa_nil)) (pe_fld (pv 0) rfl)))
      (pss_cons (ps_asg (pe_op op_sub (pv 5) (pe_op op_mul (pv 2) (pe_fld (pv 4) rfl))) (pg_sub (pv 6) (pe_fld (pv 4) rfl) set_list))
      (pss_cons (ps_asg (pe_un un_neg (pv 5)) (pg_sub (pv 6) (pe_fld (pv 4) rfl) set_list))
      (pss_cons (ps_asg (pe_op op_mul (pv 2) (pe_fld (pv 4) rfl)) (pg_sub (pv 6) (pe_fld (pv 4) rfl) set_list))
      (pss_one (ps_expr (pe_bm PySem.F.plainAttrs_list PySem.F.slot_list_append PySem.F.type_list_append mt_append (pv 3) (pa_cons (pv 6) pa_nil)))))))))
      (pss_one (ps_ret (pv 3))))), ?_⟩
    obtain ⟨a, dx, t, d, ws, rfl, ha, ht, hb, _⟩ := wb_fields hv
    have hwl : ws.length = bs.length := by rw [isL_len hb, List.length_map]
    refine ⟨by show 0 ≤ sizeLine; decide, fun R hR => ?_⟩
    have eR : Ext H (upd H R (.lst [])) := Ext.upd hR
    have hR0 : (upd H R (.lst [])) R = some (.lst []) := upd_same
    generalize upd H R (.lst []) = HR at eR hR0 ⊢
    refine ⟨_, rfl, a, T.C_Web, dx, _, _, rfl, eR _ _ ha, T.c_Web, T.nf_Web_bars, rfl, _, rfl, t, tn, _, _, rfl, .inr ⟨ht.ext eR, htn.ext eR, ?_⟩⟩
    refine for_zipT (xs := ws) (ys := ns.map V.int) (by rw [List.length_map, hwl, hnl]) (fun i σ H' => Ext H H' ∧ ∃ (acc : List V) (v4 v5 v6 : Option V), σ = [some (.ref a), some (.ref tn), some (.int q), some (.ref R), v4, v5, v6] ∧ H' R = some (.lst acc) ∧ IsL K (del H' R) (((barRows n q bs ns).take i).map rwI) acc)
      ⟨eR, [], none, none, none, rfl, hR0, rfl⟩ (fun i σ H' p => ⟨ht.ext p.1, htn.ext p.1⟩) ?_ ?_
    · rintro i x y tp σ H1 hx hy ⟨e1, acc, v4, v5, v6, rfl, hR1, hacc⟩ htp
      obtain ⟨b, hbi, ib⟩ := isL_at' hb hx
      obtain ⟨z, hz, rfl⟩ : ∃ z, ns[i]? = some z ∧ y = V.int z := by
        rw [List.getElem?_map] at hy
        cases e : ns[i]? with
        | none => rw [e] at hy; cases hy
        | some n => rw [e] at hy; exact ⟨n, rfl, (Option.some.inj hy).symm⟩
      have hin : i < bs.length := (List.getElem?_eq_some_iff.mp hbi).1
      have ok := hbo b (List.mem_of_getElem? hbi)
      have e2 : Ext H (upd H1 tp (.tup [x, .int z])) := e1.trans (Ext.upd htp)
      have hR2 : (upd H1 tp (.tup [x, .int z])) R = some (.lst acc) := Ext.upd htp _ _ hR1
      have hacc2 : IsL K (del (upd H1 tp (.tup [x, .int z])) R) (((barRows n q bs ns).take i).map rwI) acc := hacc.ext (DE.of (Ext.upd htp))
      refine ⟨tp, _, rfl, SqT.of upd_same, rfl, _, _, rfl, _, _, rfl, rfl, ?_⟩
      generalize upd H1 tp (.tup [x, .int z]) = H2 at e2 hR2 hacc2 ⊢
      obtain ⟨ab, adx, rfl, hab0⟩ := br_fields ib
      have ha2 := e2 _ _ ha
      -- row = [0] * web.rods
      refine ⟨by show 1 ≤ sizeLine; decide, fun z1 hz1 => ?_⟩
      refine ⟨_, rfl, a, T.C_Web, dx, _, _, rfl, Ext.upd hz1 _ _ ha2, T.c_Web, T.nf_Web_rods, rfl, z1, (n : Int), _, rfl, rfl, upd_same, by omega, by omega, ?_, fun r hr1 => ?_⟩
      · show 1 * ((n : Int).toNat) ≤ sizeLine
        exact Nat.le_trans (show 1 * ((n : Int).toNat) ≤ 100 by omega) (by decide)
      rw [Int.toNat_natCast, rep_zero]
      have e3 : Ext H2 (upd (upd H2 z1 (.lst [.int 0])) r (.lst ((List.replicate n (0 : Int)).map V.int))) := (Ext.upd hz1).trans (Ext.upd hr1)
      have hr3 : (upd (upd H2 z1 (.lst [.int 0])) r (.lst ((List.replicate n (0 : Int)).map V.int))) r = some (.lst ((List.replicate n (0 : Int)).map V.int)) := upd_same
      have hrH2 : H2 r = none := (Ext.upd hz1).fresh hr1
      generalize upd (upd H2 z1 (.lst [.int 0])) r (.lst ((List.replicate n (0 : Int)).map V.int)) = H3 at e3 hr3 ⊢
      have fld : ∀ (H' : Hp), Ext H2 H' → H' ab = some (.ins T.C_Bar adx [("a", .int b.a), ("b", .int b.b), ("c", .int b.c), ("length", .int b.len), ("least", .int b.lo), ("greatest", .int b.hi)]) := fun H' e => e _ _ (e2 _ _ hab0)
      have h3 := fld H3 e3
      have l0 := ok.l0
      have l1 := ok.l1
      refine ⟨_, rfl, _, rfl, _, rfl, ab, T.C_Bar, adx, _, _, rfl, h3, T.c_Bar, T.nf_Bar_length, rfl, _, _, rfl, rfl, .inr ⟨by omega, by omega⟩, _, _, rfl, rfl, ?_⟩
      refine ⟨_, rfl, _, rfl, ab, T.C_Bar, adx, _, _, rfl, h3, T.c_Bar, T.nf_Bar_a, rfl, r, _, b.a, b.a.toNat, rfl, rfl, hr3, ?_, ?_⟩
      · rw [List.length_map, List.length_replicate]
        exact ixN_of ok.a0 ok.a1
      dsimp only
      rw [← List.map_set]
      have e4 : Ext H2 (upd H3 r (.lst (((List.replicate n (0 : Int)).set b.a.toNat (z - q * b.len)).map V.int))) := e3.mut hrH2
      have hr4 : (upd H3 r (.lst (((List.replicate n (0 : Int)).set b.a.toNat (z - q * b.len)).map V.int))) r = some (.lst (((List.replicate n (0 : Int)).set b.a.toNat (z - q * b.len)).map V.int)) := upd_same
      generalize upd H3 r (.lst (((List.replicate n (0 : Int)).set b.a.toNat (z - q * b.len)).map V.int)) = H4 at e4 hr4 ⊢
      have h4 := fld H4 e4
      refine ⟨_, rfl, _, rfl, _, rfl, _, rfl, ab, T.C_Bar, adx, _, _, rfl, h4, T.c_Bar, T.nf_Bar_b, rfl, r, _, b.b, b.b.toNat, rfl, rfl, hr4, ?_, ?_⟩
      · rw [List.length_map, List.length_set, List.length_replicate]
        exact ixN_of ok.b0 ok.b1
      dsimp only
      rw [← List.map_set]
      have e5 : Ext H2 (upd H4 r (.lst ((((List.replicate n (0 : Int)).set b.a.toNat (z - q * b.len)).set b.b.toNat (-z)).map V.int))) := e4.mut hrH2
      have hr5 : (upd H4 r (.lst ((((List.replicate n (0 : Int)).set b.a.toNat (z - q * b.len)).set b.b.toNat (-z)).map V.int))) r = some (.lst ((((List.replicate n (0 : Int)).set b.a.toNat (z - q * b.len)).set b.b.toNat (-z)).map V.int)) := upd_same
      generalize upd H4 r (.lst ((((List.replicate n (0 : Int)).set b.a.toNat (z - q * b.len)).set b.b.toNat (-z)).map V.int)) = H5 at e5 hr5 ⊢
      have h5 := fld H5 e5
      refine ⟨_, rfl, _, rfl, ab, T.C_Bar, adx, _, _, rfl, h5, T.c_Bar, T.nf_Bar_length, rfl, _, _, rfl, rfl, .inr ⟨by omega, by omega⟩, ?_⟩
      refine ⟨_, rfl, _, rfl, ab, T.C_Bar, adx, _, _, rfl, h5, T.c_Bar, T.nf_Bar_c, rfl, r, _, b.c, b.c.toNat, rfl, rfl, hr5, ?_, ?_⟩
      · rw [List.length_map, List.length_set, List.length_set, List.length_replicate]
        exact ixN_of ok.c0 ok.c1
      dsimp only
      rw [← List.map_set]
      have e6 : Ext H2 (upd H5 r (.lst ((barRow n q b z).map V.int))) := e5.mut hrH2
      have hr6 : (upd H5 r (.lst ((barRow n q b z).map V.int))) r = some (.lst ((barRow n q b z).map V.int)) := upd_same
      show tDrop _ _ _ (upd H5 r (.lst ((barRow n q b z).map V.int)))
      have hR6 := e6 _ _ hR2
      generalize upd H5 r (.lst ((barRow n q b z).map V.int)) = H6 at e6 hr6 hR6 ⊢
      have hrR : r ≠ R := fun e => by rw [e, hR2] at hrH2; cases hrH2
      have hzi : (barRows n q bs ns)[i]? = some (barRow n q b z) := by
        unfold barRows
        have hzz : (bs.zip ns)[i]? = some (b, z) := by rw [List.getElem?_zip_eq_some]; exact ⟨hbi, hz⟩
        rw [List.getElem?_map, hzz]
        rfl
      refine ⟨_, rfl, .inl ⟨rfl, _, SqL.of hR6⟩, _, rfl, R, _, _, rfl, rfl, hR6, ?_, ?_⟩
      · rw [← hacc2.length, List.length_map, List.length_take]
        exact Nat.lt_of_lt_of_le (show min i (barRows n q bs ns).length < 100 by omega) (by decide)
      · refine ⟨(e2.trans e6).mut hR, _, _, _, _, rfl, upd_same, ?_⟩
        rw [List.take_add_one, hzi, List.map_append]
        refine isL_sn ((hacc2.ext (DE.of e6)).ext DE.upd) (rwI_is (SqL.of ?_))
        rw [del_ne hrR, upd_ne hrR]
        exact hr6
    · rintro σ H1 ⟨e1, acc, v4, v5, v6, rfl, hR1, hacc⟩
      rw [List.take_of_length_le (by unfold barRows; rw [List.length_map, List.length_zip, hwl]; omega)] at hacc
      exact ⟨_, rfl, k _ _ e1 ⟨R, acc, rfl, SqL.of hR1, hacc.ext del_ext⟩⟩
def tabRow (hs : List Int) (row : List Int) : List Int := hs.map fun r => row.getD r.toNat 0
def tabRows (n : Nat) (hs : List Int) (q : Int) (bs : List BarD) (ns : List Int) : List (List Int) := (barRows n q bs ns).map (tabRow hs)
def tTabE (K : PySem.W.Frag) : TE := tLc (iList K (tVar 3)) (gName 5) tYes (tOp (rIxL K) (tVar 4) (tVar 5)) [5]
abbrev scTab : Scope := { kind := ScopeKind.function, names := [(Str.ofString ".0", NameKind.local), (Str.ofString "row", NameKind.cell), (Str.ofString "hanging", NameKind.cell)], isGenerator := false, isCoroutine := false }
theorem mem_hangL {n : Nat} {hl : List (Int × Int)} {r : Int} (h : r ∈ hangL (n : Int) hl) : 0 ≤ r ∧ r < (n : Int) := by
  unfold hangL at h
  rw [Int.toNat_natCast] at h
  exact mem_rangeI.mp (List.mem_filter.mp h).1
def spTable (K : PySem.W.Frag) (T : Tx K mg) : Sp := fun vs H Q _ => ∃ (v : V) (t : Addr) (n : Nat) (bs : List BarD) (hl : List (Int × Int)) (ns : List Int) (q : Int), vs = [v, .ref t, .int q] ∧ Is K H (wbD T.C_Web T.C_Bar (n : Int) bs hl) v ∧ SqT K H t (ns.map V.int) ∧ ns.length = bs.length ∧ n ≤ 10 ∧ bs.length ≤ 8 ∧ (∀ b ∈ bs, BarOk (n : Int) b) ∧
  ∀ u H', Ext H H' → Is K H' (rowsD (tabRows n (hangL (n : Int) hl) q bs ns)) u → Q u H'
theorem ok_table (T : Tx K mg) : FnOk P w K mg base (L2.CX P w) 4 T.a_table T.fd_table ["web", "numbers", "parts"] (spTable K T) := by
  refine T.F_table.okX sc_table (fun vs H Q E h => ?_) (fun cdv A outer s H vs Q E hr h => ?_)
  · obtain ⟨v, t, n, bs, hl, ns, q, rfl, _⟩ := h
    rfl
  · obtain ⟨v, tn, n, bs, hl, ns, q, rfl, hv, htn, hnl, hn, h8, hbo, k⟩ := h
    refine ⟨_, (pss_cons (ps_set (i := 3) sc_table.nd rfl (Or.inr rfl) (pe_meth0 (pv 0) T.c_Web T.M_Web_hanging (ok_Web_hanging T) (hr.mono (by decide)) T.b_Web_hanging .nil passL))
      (pss_one (ps_ret (pe_lc (own := [("row", 4)]) (g := gName 4) (tt := tYes) (te := tTabE K) (by rfl) sc_table.nd (pi_list (pe_call (ok_bar_rows T) (hr.mono (by decide)) rfl T.m_bar_rows T.F_bar_rows.kp T.b_bar_rows .nil passL (pa_cons (pv 0) (pa_cons (pv 1) (pa_cons (pv 2) pa_nil))))) (blkOk_by (own := [("row", 4)]) (N := N_table) (sc := defScope s_table) (by decide +kernel)) (fun _ _ _ _ _ => (pg_name (i := 4) sc_table.nd rfl (Or.inr rfl))) (fun _ _ _ _ _ => pts_nil) (fun _ _ _ _ _ => (by exact pe_lc (own := [("rod", 5)]) (g := gName 5) (tt := tYes) (te := tOp (rIxL K) (tVar 4) (tVar 5)) (by rfl) sc_table.nd (pi_list (pv 3)) (blkOk_by (own := [("rod", 5)]) (N := N_table) (sc := scTab) (by decide +kernel)) (fun _ _ _ _ _ => (pg_name (i := 5) sc_table.nd rfl (Or.inl rfl))) (fun _ _ _ _ _ => pts_nil) (fun _ _ _ _ _ => (by exact pe_ix ix_list (pv 4) (pv 5) (fun _ _ => rfl))))))))), ?_⟩
    obtain ⟨a, dx, t, d, ws, rfl, ha, ht, hb, hd⟩ := wb_fields hv
    refine ⟨_, rfl, a, dx, _, rfl, ha, rfl, .ref a, (n : Int), bs, hl, rfl, hv, by omega, by omega, fun hp H1 hhp e1 hh1 => ?_⟩
    refine ⟨_, rfl, _, rfl, _, rfl, .ref a, tn, n, bs, hl, ns, q, rfl, hv.ext e1, htn.ext e1, hnl, hn, h8, hbo, fun u H2 e2 i2 => ?_⟩
    obtain ⟨l, xs, rfl, hls, hxs, hxl⟩ := rows_of i2
    have hh2 := e2 _ _ hh1
    have hhl : (hangL (n : Int) hl).length ≤ 10 := by
      unfold hangL
      refine Nat.le_trans (List.length_filter_le _ _) ?_
      rw [len_rangeI, Int.toNat_natCast]
      exact hn
    refine ⟨l, rfl, ⟨_, hls⟩, fun D hD => lc_list (xs := xs) (fun i H' => Ext H2 H' ∧ ∃ acc, H' D = some (.lst acc) ∧ IsL K (del H' D) (((tabRows n (hangL (n : Int) hl) q bs ns).take i).map rwI) acc) ⟨Ext.upd hD, [], upd_same, rfl⟩ (fun i H' _ p => hls.ext p.1) ?_ ?_⟩
    · rintro i y H3 hi ⟨e3, acc, hD3, hacc⟩
      obtain ⟨row, hrow, iy⟩ := isL_at' hxs hi
      obtain ⟨ra, rfl, hra⟩ := rwI_of iy
      have hrl : row.length = n := by
        obtain ⟨z, _, hz⟩ := List.mem_map.mp (List.mem_of_getElem? hrow)
        rw [← hz]
        exact len_barRow
      have hin : i < (barRows n q bs ns).length := (List.getElem?_eq_some_iff.mp hrow).1
      have hi8 : (barRows n q bs ns).length ≤ 8 := by
        unfold barRows
        rw [List.length_map, List.length_zip]
        omega
      refine ⟨rfl, tyes ?_⟩
      refine ⟨_, rfl, hp, rfl, lc_intsE (fun r => row.getD r.toNat 0) (SqL.of (e3 _ _ hh2)) (by omega) (fun r hr' H' e R hR => ?_) (fun D2 H4 hD2 e4 hD4 => ?_)⟩
      · have hm := mem_hangL hr'
        refine ⟨rfl, _, rfl, _, rfl, ra, _, _, _, rfl, rfl, (hra.ext e3).ext e, ?_, hR⟩
        have z := atI_int (row := row) (j := r.toNat) (by rw [hrl]; omega)
        rwa [show ((r.toNat : Nat) : Int) = r by omega] at z
      · have hD5 := e4 _ _ hD3
        have hne : D2 ≠ D := fun e => by rw [e, hD3] at hD2; cases hD2
        refine ⟨acc, hD5, ?_, (e3.trans e4).mut hD, _, upd_same, ?_⟩
        · rw [← hacc.length, List.length_map, List.length_take]
          exact Nat.lt_of_lt_of_le (show min i (tabRows n (hangL (n : Int) hl) q bs ns).length < 100 by omega) (by decide)
        · have ht : (tabRows n (hangL (n : Int) hl) q bs ns)[i]? = some (tabRow (hangL (n : Int) hl) row) := by
            unfold tabRows
            rw [List.getElem?_map, hrow]
            rfl
          rw [List.take_add_one, ht, List.map_append]
          refine isL_sn ((hacc.ext (DE.of e4)).ext DE.upd) (rwI_is (SqL.of ?_))
          rw [del_ne hne, upd_ne hne]
          exact hD4
    · rintro H3 ⟨e3, acc, hD3, hacc⟩
      rw [List.take_of_length_le (by unfold tabRows; rw [List.length_map, hxl]; exact Nat.le_refl _)] at hacc
      exact k _ _ ((e1.trans e2).trans e3) ⟨D, acc, rfl, SqL.of hD3, hacc.ext del_ext⟩
end
end K22
namespace K22
open PySem L2 RZ
section
variable {P : Program} {w : World} {K : PySem.W.Frag} {mg : Str → Option Value} {base : Heap}
theorem len_barRows {n : Nat} {q : Int} {bs : List BarD} {ns : List Int} (h : ns.length = bs.length) : (barRows n q bs ns).length = bs.length := by
  unfold barRows
  rw [List.length_map, List.length_zip]
  omega
theorem sq_tab {n : Nat} {hs : List Int} {q : Int} {bs : List BarD} {ns : List Int} (h : ns.length = bs.length) (hl : hs.length = bs.length) : Mx.Sq bs.length bs.length (tabRows n hs q bs ns) := by
  refine ⟨by unfold tabRows; rw [List.length_map, len_barRows h], fun row hr => ?_⟩
  obtain ⟨r, _, rfl⟩ := List.mem_map.mp hr
  unfold tabRow
  rw [List.length_map, hl]
theorem mem_set4 {l : List Int} {i : Nat} {v x : Int} (h : x ∈ l.set i v) : x ∈ l ∨ x = v := List.mem_or_eq_of_mem_set h
theorem barRow_small {n : Nat} {q : Int} {b : BarD} {x : Int} (hx : x.natAbs < 2 ^ 440) (hq : q.natAbs < 2 ^ 440) (l0 : 1 ≤ b.len) (l1 : b.len ≤ 1000000) : ∀ y ∈ barRow n q b x, y.natAbs < 2 ^ 490 := by
  have hql : (q * b.len).natAbs < 2 ^ 489 := by
    rw [Int.natAbs_mul]
    have h1 : q.natAbs * b.len.natAbs ≤ 2 ^ 440 * 2 ^ 20 := Nat.mul_le_mul (Nat.le_of_lt hq) (Nat.le_trans (show b.len.natAbs ≤ 1000000 by omega) (by decide))
    exact Nat.lt_of_le_of_lt h1 (by decide +kernel)
  have hx2 : x.natAbs < 2 ^ 489 := Nat.lt_trans hx (by decide +kernel)
  have e : (2 : Nat) ^ 490 = 2 ^ 489 + 2 ^ 489 := by decide +kernel
  intro y hy
  unfold barRow at hy
  rw [e]
  generalize (2 : Nat) ^ 489 = B at hql hx2
  rcases mem_set4 hy with hy | rfl
  · rcases mem_set4 hy with hy | rfl
    · rcases mem_set4 hy with hy | rfl
      · rw [(List.mem_replicate.mp hy).2]
        omega
      · omega
    · omega
  · omega
theorem tab_small {n : Nat} {hs : List Int} {q : Int} {bs : List BarD} {ns : List Int} (hx : ∀ x ∈ ns, x.natAbs < 2 ^ 440) (hq : q.natAbs < 2 ^ 440) (hb : ∀ b ∈ bs, 1 ≤ b.len ∧ b.len ≤ 1000000) (i j : Nat) : (Mx.ent (tabRows n hs q bs ns) i j).natAbs < 2 ^ 490 := by
  have pos : (0 : Int).natAbs < 2 ^ 490 := by decide +kernel
  have gd : ∀ (l : List Int) (j : Nat), (∀ y ∈ l, y.natAbs < 2 ^ 490) → (l.getD j 0).natAbs < 2 ^ 490 := fun l j h => by
    by_cases hj : j < l.length
    · rw [Mx.getD_lt 0 hj]
      exact h _ (List.getElem_mem _)
    · rw [Mx.getD_ge 0 (by omega)]
      exact pos
  unfold Mx.ent
  refine gd _ _ fun y hy => ?_
  by_cases hi : i < (tabRows n hs q bs ns).length
  · rw [Mx.getD_lt [] hi] at hy
    have hm : (tabRows n hs q bs ns)[i] ∈ tabRows n hs q bs ns := List.getElem_mem _
    obtain ⟨r, hr, hre⟩ := List.mem_map.mp hm
    rw [← hre] at hy
    obtain ⟨rod, _, rfl⟩ := List.mem_map.mp hy
    refine gd _ _ fun z hz => ?_
    obtain ⟨p, hp, rfl⟩ := List.mem_map.mp hr
    obtain ⟨p1, p2⟩ := List.of_mem_zip (a := p.1) (b := p.2) hp
    have := hb p.1 p1
    exact barRow_small (hx _ p2) hq this.1 this.2 z hz
  · rw [Mx.getD_ge [] (by omega)] at hy
    cases hy
def detB (n : Nat) (hs : List Int) (q : Int) (bs : List BarD) (ns : List Int) : Int := Mx.det bs.length (Mx.ent (tabRows n hs q bs ns))
def spDetAt (K : PySem.W.Frag) (T : Tx K mg) : Sp := fun vs H Q _ => ∃ (v : V) (t : Addr) (n : Nat) (bs : List BarD) (hl : List (Int × Int)) (ns : List Int) (q : Int), vs = [v, .ref t, .int q] ∧ Is K H (wbD T.C_Web T.C_Bar (n : Int) bs hl) v ∧ SqT K H t (ns.map V.int) ∧ ns.length = bs.length ∧ n ≤ 10 ∧ bs.length ≤ 8 ∧ (∀ b ∈ bs, BarOk (n : Int) b) ∧ (hangL (n : Int) hl).length = bs.length ∧ (∀ x ∈ ns, x.natAbs < 2 ^ 440) ∧ q.natAbs < 2 ^ 440 ∧
  ∀ H', Ext H H' → Q (.int (detB n (hangL (n : Int) hl) q bs ns)) H'
theorem ok_determinant_at (T : Tx K mg) : FnOk P w K mg base (L2.CX P w) 5 T.a_determinant_at T.fd_determinant_at ["web", "numbers", "parts"] (spDetAt K T) := by
  refine T.F_determinant_at.okX sc_determinant_at (fun vs H Q E h => ?_) (fun cdv A outer s H vs Q E hr h => ?_)
  · obtain ⟨v, t, n, bs, hl, ns, q, rfl, _⟩ := h
    rfl
  · obtain ⟨v, tn, n, bs, hl, ns, q, rfl, hv, htn, hnl, hn, h8, hbo, hhl, hx, hq, k⟩ := h
    refine ⟨_, (pss_cons (ps_set (i := 3) sc_determinant_at.nd rfl (Or.inl rfl) (pe_call (ok_table T) (hr.mono (by decide)) rfl T.m_table T.F_table.kp T.b_table .nil passL (pa_cons (pv 0) (pa_cons (pv 1) (pa_cons (pv 2) pa_nil)))))
      (pss_cons (ps_asg (pe_call (ok_cleared T) (hr.mono (by decide)) rfl T.m_cleared T.F_cleared.kp T.b_cleared .nil passL (pa_cons (pv 3) (pa_cons (pe_callB call_len_seq (by rfl) T.z_len PySem.boot_len (pa_cons (pv 3) pa_nil)) pa_nil))) (pg_tup (by rfl) (pgs_cons (pg_name (i := 4) sc_determinant_at.nd rfl (Or.inl rfl)) (pgs_cons (pg_name (i := 5) sc_determinant_at.nd rfl (Or.inl rfl)) (pgs_cons (pg_name (i := 6) sc_determinant_at.nd rfl (Or.inl rfl)) pgs_nil)))))
      (pss_cons (ps_if (pt_cmpR op_lt (pe_callB call_len_seq (by rfl) T.z_len PySem.boot_len (pa_cons (pv 5) pa_nil)) (pe_callB call_len_seq (by rfl) T.z_len PySem.boot_len (pa_cons (pv 3) pa_nil)) (nomark _)) (pss_one (ps_ret pe_int)) pss_nil)
      (pss_one (ps_ret (pv 6)))))), ?_⟩
    refine ⟨_, rfl, _, rfl, _, rfl, v, tn, n, bs, hl, ns, q, rfl, hv, htn, hnl, hn, h8, hbo, fun u H1 e1 i1 => ?_⟩
    have sq := sq_tab (n := n) (q := q) hnl hhl
    obtain ⟨l, xs, rfl, hls, hxs, hxl⟩ := rows_of i1
    rw [sq.1] at hxl
    refine ⟨_, rfl, _, rfl, l, _, rfl, .inl hls, ?_⟩
    rw [hxl]
    refine ⟨.ref l, tabRows n (hangL (n : Int) hl) q bs ns, bs.length, bs.length, rfl, i1, sq, Nat.le_refl _, by omega, by omega, fun i j _ => tab_small hx hq (fun b hb => ⟨(hbo b hb).l0, (hbo b hb).l1⟩) i j, fun t kp u2 rs' kept sh H2 e2 ht2 _ hk2 C _ => ?_⟩
    refine ⟨t, _, rfl, SqT.of ht2, rfl, _, _, rfl, _, _, rfl, _, _, rfl, rfl, ?_⟩
    refine ⟨_, rfl, kp, _, rfl, .inl (SqL.of hk2), _, rfl, l, _, rfl, .inl (hls.ext e2), _, _, rfl, rfl, _, rfl, ?_⟩
    rw [List.length_map, hxl]
    have hdet := C.det
    refine ite2 (fun c => ?_) (fun c => ?_)
    · have c' : kept.length < bs.length := by
        have := of_decide_eq_true c
        omega
      rw [if_pos c'] at hdet
      have z := k H2 (e1.trans e2)
      unfold detB at z
      rw [← hdet] at z
      exact z
    · have c' : ¬ kept.length < bs.length := fun z => c (decide_eq_true (by omega))
      rw [if_neg c'] at hdet
      have z := k H2 (e1.trans e2)
      unfold detB at z
      rw [← hdet] at z
      exact ⟨_, rfl, z⟩
end
end K22
namespace K22
open PySem L2 RZ
section
variable {P : Program} {w : World} {K : PySem.W.Frag} {mg : Str → Option Value} {base : Heap}
/-- one of each -/
def Pk : List (List Int) → List Int → Prop
  | [], p => p = []
  | es :: css, p => ∃ e r, p = e :: r ∧ e ∈ es ∧ Pk css r
theorem Pk.len : ∀ {css : List (List Int)} {p : List Int}, Pk css p → p.length = css.length
  | [], _, h => by cases (show _ = [] from h); rfl
  | es :: css, _, ⟨e, r, h, _, hp⟩ => by subst h; rw [List.length_cons, List.length_cons, Pk.len hp]
end
end K22
namespace K22
open PySem L2 RZ
section
variable {P : Program} {w : World} {K : PySem.W.Frag} {mg : Str → Option Value} {base : Heap}
/-- what the held rods' heights give to a row -/
def askRow (hl : List (Int × Int)) (row : List Int) : Int := -(hl.map fun p => row.getD p.1.toNat 0 * p.2).sum
def askB (n : Nat) (q : Int) (hl : List (Int × Int)) (bs : List BarD) (ns : List Int) : List Int := (barRows n q bs ns).map (askRow hl)
abbrev scAsk : Scope := { kind := ScopeKind.function, names := [(Str.ofString ".0", NameKind.local), (Str.ofString "row", NameKind.cell), (Str.ofString "sum", NameKind.globalImplicit), (Str.ofString "held", NameKind.cell)], isGenerator := false, isCoroutine := false }
def gRH (K : PySem.W.Frag) : TG := gTup K 2 (gCons (gName 6) (gCons (gName 5) gNil))
def tAskIn (K : PySem.W.Frag) : TE := tLc (iItems (tVar 3)) (gRH K) tYes (tOp (rI CMulW fun i j => .int (i * j)) (tOp (rIxL K) (tVar 4) (tVar 6)) (tVar 5)) [6, 5]
def tAskE (K : PySem.W.Frag) : TE := tUn (rU fun i => .int (-i)) (tCB (rSum K) (tCons (tAskIn K) tNil))
def spAsked (K : PySem.W.Frag) (T : Tx K mg) : Sp := fun vs H Q _ => ∃ (v : V) (t : Addr) (n : Nat) (bs : List BarD) (hl : List (Int × Int)) (ns : List Int) (q : Int), vs = [v, .ref t, .int q] ∧ Is K H (wbD T.C_Web T.C_Bar (n : Int) bs hl) v ∧ SqT K H t (ns.map V.int) ∧ ns.length = bs.length ∧ n ≤ 10 ∧ bs.length ≤ 8 ∧ (∀ b ∈ bs, BarOk (n : Int) b) ∧
  (∀ p ∈ hl, (0 ≤ p.1 ∧ p.1 < (n : Int)) ∧ -1000000 ≤ p.2 ∧ p.2 ≤ 1000000) ∧ hl.length ≤ 10 ∧ (∀ x ∈ ns, x.natAbs < 2 ^ 440) ∧ q.natAbs < 2 ^ 440 ∧
  ∀ a H', H a = none → Ext H H' → H' a = some (.lst ((askB n q hl bs ns).map V.int)) → Q (.ref a) H'
theorem ok_asked (T : Tx K mg) : FnOk P w K mg base (L2.CX P w) 4 T.a_asked T.fd_asked ["web", "numbers", "parts"] (spAsked K T) := by
  refine T.F_asked.okX sc_asked (fun vs H Q E h => ?_) (fun cdv A outer s H vs Q E hr h => ?_)
  · obtain ⟨v, t, n, bs, hl, ns, q, rfl, _⟩ := h
    rfl
  · obtain ⟨v, tn, n, bs, hl, ns, q, rfl, hv, htn, hnl, hn, h8, hbo, hho, hhl, hsm, hqs, k⟩ := h
    refine ⟨_, (pss_cons (ps_set (i := 3) sc_asked.nd rfl (Or.inr rfl) (pe_meth0 (pv 0) T.c_Web T.M_Web_held (ok_Web_held T) (hr.mono (by decide)) T.b_Web_held .nil passL))
      (pss_one (ps_ret (pe_lock (pe_lc (own := [("row", 4)]) (g := gName 4) (tt := tYes) (te := tAskE K) (by rfl) sc_asked.nd (pi_list (pe_call (ok_bar_rows T) (hr.mono (by decide)) rfl T.m_bar_rows T.F_bar_rows.kp T.b_bar_rows .nil passL (pa_cons (pv 0) (pa_cons (pv 1) (pa_cons (pv 2) pa_nil))))) (blkOk_by (own := [("row", 4)]) (N := N_asked) (sc := defScope s_asked) (by decide +kernel)) (fun _ _ _ _ _ => (pg_name (i := 4) sc_asked.nd rfl (Or.inr rfl))) (fun _ _ _ _ _ => pts_nil)
        (fun _ _ _ _ _ => (by exact pe_un un_neg (pe_callB (cr_sum rfl) (by rfl) T.z_sum (by decide +kernel) (pa_cons (pe_lc (own := [("rod", 6), ("height", 5)]) (g := gRH K) (tt := tYes) (te := tOp (rI CMulW fun i j => .int (i * j)) (tOp (rIxL K) (tVar 4) (tVar 6)) (tVar 5)) (by rfl) sc_asked.nd (pi_items (pv 3)) (blkOk_by (own := [("rod", 6), ("height", 5)]) (N := N_asked) (sc := scAsk) (by decide +kernel)) (fun _ _ _ _ _ => (by exact pg_tup (by rfl) (pgs_cons (pg_name (i := 6) sc_asked.nd rfl (Or.inl rfl)) (pgs_cons (pg_name (i := 5) sc_asked.nd rfl (Or.inl rfl)) pgs_nil)))) (fun _ _ _ _ _ => pts_nil) (fun _ _ _ _ _ => (by exact pe_op op_mulW (pe_ix ix_list (pv 4) (pv 6) (fun _ _ => rfl)) (pv 5)))) pa_nil))))))))), ?_⟩
    obtain ⟨a, dx, t, d, ws, rfl, ha, ht, hb, hd⟩ := wb_fields hv
    refine ⟨_, rfl, a, dx, _, rfl, ha, rfl, .ref a, (n : Int), bs, hl, rfl, hv, fun hp hhp => ?_⟩
    refine ⟨hp, _, upd_same, trivial, fun od => ?_⟩
    have e1 : Ext H (upd (upd H hp (.dK (hK hl))) hp (.frz od (.dK (hK hl)))) := (Ext.upd hhp).mut hhp
    have hf1 : (upd (upd H hp (.dK (hK hl))) hp (.frz od (.dK (hK hl)))) hp = some (.frz od (.dK (hK hl))) := upd_same
    generalize upd (upd H hp (.dK (hK hl))) hp (.frz od (.dK (hK hl))) = H1 at e1 hf1 ⊢
    refine ⟨_, rfl, _, rfl, _, rfl, .ref a, tn, n, bs, hl, ns, q, rfl, hv.ext e1, htn.ext e1, hnl, hn, h8, hbo, fun u H2 e2 i2 => ?_⟩
    obtain ⟨l, xs, rfl, hls, hxs, hxl⟩ := rows_of i2
    have hf2 := e2 _ _ hf1
    have hi8 : (barRows n q bs ns).length ≤ 8 := by
      unfold barRows
      rw [List.length_map, List.length_zip]
      omega
    refine ⟨l, rfl, ⟨_, hls⟩, fun D hD => lc_list (xs := xs) (fun i H' => Ext H2 H' ∧ H' D = some (.lst ((((barRows n q bs ns).take i).map (askRow hl)).map V.int))) ⟨Ext.upd hD, upd_same⟩ (fun i H' _ p => hls.ext p.1) ?_ ?_⟩
    · rintro i y H3 hi ⟨e3, hD3⟩
      obtain ⟨row, hrow, iy⟩ := isL_at' hxs hi
      obtain ⟨ra, rfl, hra⟩ := rwI_of iy
      obtain ⟨⟨b, x⟩, hbx, hbr⟩ := List.mem_map.mp (List.mem_of_getElem? hrow)
      obtain ⟨hb1, hx1⟩ := List.of_mem_zip hbx
      have hrl : row.length = n := by
        rw [← hbr]
        exact len_barRow
      have hrs : ∀ y ∈ row, y.natAbs < 2 ^ 490 := by
        rw [← hbr]
        exact barRow_small (hsm x hx1) hqs (hbo b hb1).l0 (hbo b hb1).l1
      have hin : i < (barRows n q bs ns).length := (List.getElem?_eq_some_iff.mp hrow).1
      refine ⟨rfl, tyes ?_⟩
      refine ⟨_, rfl, hp, od, hK hl, rfl, e3 _ _ hf2, fun D2 hD2 => ?_⟩
      have hDD : D ≠ D2 := ne_of_none hD3 hD2
      have hkl : (hK hl).length = hl.length := by unfold hK; rw [List.length_map]
      refine lc_it walk_items (fun j H' => Ext H3 H' ∧ H' D2 = some (.lst (((hl.take j).map fun p => row.getD p.1.toNat 0 * p.2).map V.int))) ⟨Ext.upd hD2, upd_same⟩ (fun j H' _ p => p.1 _ _ (e3 _ _ hf2)) ?_ ?_
      · rintro j y H4 H5 hj ⟨e4, hD4⟩ ⟨tp, z1, z2, rfl, htp, rfl, hz1, hz2⟩
        rw [hkl] at hj
        obtain ⟨⟨r, h⟩, hr⟩ : ∃ p, hl[j]? = some p := ⟨_, List.getElem?_eq_getElem hj⟩
        unfold hK at hz1 hz2
        dsimp only at hz1 hz2
        rw [List.getElem?_map, hr] at hz1 hz2
        obtain rfl : V.int r = z1 := Option.some.inj hz1
        obtain rfl : V.int h = z2 := Option.some.inj hz2
        have hho' := hho _ (List.mem_of_getElem? hr)
        have hD5 := Ext.upd (o := HO.tup [V.int r, V.int h]) htp _ _ hD4
        have hra5 := ((hra.ext e3).ext e4).ext (Ext.upd (o := HO.tup [V.int r, V.int h]) htp)
        refine ⟨tp, _, rfl, SqT.of upd_same, rfl, _, _, rfl, _, _, rfl, rfl, ?_⟩
        refine ⟨rfl, tyes ?_⟩
        have z := atI_int (row := row) (j := r.toNat) (by have := hho'.1; rw [hrl]; omega)
        rw [show ((r.toNat : Nat) : Int) = r by have := hho'.1; omega] at z
        have hrb : (row.getD r.toNat 0).natAbs < 2 ^ 490 := by
          have := hho'.1
          rw [Mx.getD_lt 0 (by rw [hrl]; omega)]
          exact hrs _ (List.getElem_mem _)
        have hhb : h.natAbs < 2 ^ 20 := by
          have := hho'.2
          exact Nat.lt_of_le_of_lt (show h.natAbs ≤ 1000000 by omega) (by decide)
        refine ⟨_, rfl, _, rfl, ra, _, _, _, rfl, rfl, hra5, z, _, rfl, _, _, rfl, rfl, wide_mul (a := 490) (b := 20) hrb hhb (by decide) (by decide) (by decide), ?_⟩
        refine ⟨_, hD5, ?_, (e4.trans (Ext.upd htp)).mut hD2, ?_⟩
        · rw [List.length_map, List.length_map, List.length_take]
          exact Nat.lt_of_lt_of_le (show min j hl.length < 100 by omega) (by decide)
        · rw [upd_same, List.take_add_one, hr, List.map_append, List.map_append]
          rfl
      · rintro H4 ⟨e4, hD4⟩
        rw [hkl, List.take_length] at hD4
        have hD5 := e4 _ _ hD3
        refine ⟨D2, _, rfl, SqL.of hD4, _, rfl, _, hD5, ?_, (e3.trans e4).mut hD, ?_⟩
        · rw [List.length_map, List.length_map, List.length_take]
          exact Nat.lt_of_lt_of_le (show min i (barRows n q bs ns).length < 100 by omega) (by decide)
        · rw [upd_same, List.take_add_one, hrow, List.map_append, List.map_append]
          rfl
    · rintro H3 ⟨e3, hD3⟩
      rw [List.take_of_length_le (by rw [hxl]; exact Nat.le_refl _)] at hD3
      have hf3 := e3 _ _ hf2
      have hDp : D ≠ hp := fun e => by rw [e, hf2] at hD; cases hD
      refine ⟨hf3, k D _ (((e1.trans e2)).fresh hD) (((e1.trans e2).trans e3).mut hhp) ?_⟩
      rw [upd_ne hDp]
      exact hD3
end
end K22
namespace Mx
theorem Xr.detc {n i v : Nat} {A B : Nat → Nat → Int} (x : Xr n A B) : Mx.det n (cr B i fun r => B r v) = Mx.det n (cr A i fun r => A r v) := by
  induction x with
  | refl => rfl
  | @step B a b x ha hb hn ih =>
    rw [← ih, ← det_sx (cr B i fun r => B r v) ha hb hn]
    refine det_congr fun r k _ _ => ?_
    unfold cr sx
    by_cases hk : k = i
    · simp only [hk, if_true]
    · simp only [hk, if_false]
theorem Cl.solved {n w : Nat} {A : Nat → Nat → Int} {rs : List (List Int)} {kept : List Nat} {s : Int} (C : Cl n w n A rs kept s) (h : ¬ kept.length < n) {i v : Nat} (hi : i < n) : ent rs i v = Mx.det n (cr A i fun r => A r v) := by
  obtain ⟨B, xB, I⟩ := C.inv
  have hk : kept.length = n := by have := I.kn; omega
  have hid : ∀ l, l < n → kept.getD l 0 = l := by
    intro l hl
    rw [is_range C.sorted C.lt hk, getD_lt 0 (by rw [List.length_range]; exact hl), List.getElem_range]
  rw [hk] at I
  rw [← xB.detc, ← I.cramer v hi]
  refine det_congr fun r k _ hk2 => ?_
  show (if k = i then B r v else B r (kept.getD k 0)) = if k = i then B r v else B r k
  rw [hid k hk2]
end Mx
namespace K22
open PySem L2 RZ
theorem barRow_small2 {n : Nat} {q : Int} {b : BarD} {x : Int} (hx : x.natAbs < 2 ^ 440) (hq : q.natAbs < 2 ^ 440) (l0 : 1 ≤ b.len) (l1 : b.len ≤ 1000000) : ∀ y ∈ barRow n q b x, y.natAbs < 2 ^ 462 := by
  have hql : (q * b.len).natAbs < 2 ^ 461 := by
    rw [Int.natAbs_mul]
    have h1 : q.natAbs * b.len.natAbs ≤ 2 ^ 440 * 2 ^ 20 := Nat.mul_le_mul (Nat.le_of_lt hq) (Nat.le_trans (show b.len.natAbs ≤ 1000000 by omega) (by decide))
    exact Nat.lt_of_le_of_lt h1 (by decide +kernel)
  have hx2 : x.natAbs < 2 ^ 461 := Nat.lt_trans hx (by decide +kernel)
  have e : (2 : Nat) ^ 462 = 2 ^ 461 + 2 ^ 461 := by decide +kernel
  intro y hy
  unfold barRow at hy
  rw [e]
  generalize (2 : Nat) ^ 461 = B at hql hx2
  rcases mem_set4 hy with hy | rfl
  · rcases mem_set4 hy with hy | rfl
    · rcases mem_set4 hy with hy | rfl
      · rw [(List.mem_replicate.mp hy).2]
        omega
      · omega
    · omega
  · omega
theorem sum_small {B : Nat} : ∀ {l : List Int}, (∀ y ∈ l, y.natAbs ≤ B) → l.sum.natAbs ≤ l.length * B
  | [], _ => by rw [List.sum_nil]; exact Nat.zero_le _
  | y :: l, h => by
    have h1 := h y List.mem_cons_self
    have h2 := sum_small (l := l) fun z hz => h z (List.mem_cons_of_mem _ hz)
    rw [List.sum_cons, List.length_cons, Nat.add_mul, Nat.one_mul]
    omega
theorem askRow_small {hl : List (Int × Int)} {row : List Int} (hr : ∀ y ∈ row, y.natAbs < 2 ^ 462) (hh : ∀ p ∈ hl, -1000000 ≤ p.2 ∧ p.2 ≤ 1000000) (h10 : hl.length ≤ 10) : (askRow hl row).natAbs < 2 ^ 490 := by
  unfold askRow
  rw [Int.natAbs_neg]
  have h := sum_small (l := hl.map fun p => row.getD p.1.toNat 0 * p.2) (B := 2 ^ 462 * 2 ^ 20) fun y hy => by
    obtain ⟨p, hp, rfl⟩ := List.mem_map.mp hy
    rw [Int.natAbs_mul]
    have h1 := hh p hp
    refine Nat.mul_le_mul ?_ (Nat.le_trans (show p.2.natAbs ≤ 1000000 by omega) (by decide))
    by_cases hi : p.1.toNat < row.length
    · rw [Mx.getD_lt 0 hi]
      exact Nat.le_of_lt (hr _ (List.getElem_mem _))
    · rw [Mx.getD_ge 0 (by omega)]
      exact Nat.zero_le _
  rw [List.length_map] at h
  refine Nat.lt_of_le_of_lt h (Nat.lt_of_le_of_lt (Nat.mul_le_mul_right _ h10) (by decide +kernel))
/-- the table, and behind it what is asked of it -/
def augRows (n : Nat) (hs : List Int) (q : Int) (hl : List (Int × Int)) (bs : List BarD) (ns : List Int) : List (List Int) := (barRows n q bs ns).map fun row => tabRow hs row ++ [askRow hl row]
theorem aug_tab {n : Nat} {hs : List Int} {q : Int} {hl : List (Int × Int)} {bs : List BarD} {ns : List Int} {i j : Nat} (hj : j < hs.length) : Mx.ent (augRows n hs q hl bs ns) i j = Mx.ent (tabRows n hs q bs ns) i j := by
  unfold Mx.ent augRows tabRows
  simp only [List.getD_eq_getElem?_getD, List.getElem?_map]
  cases h : (barRows n q bs ns)[i]? with
  | none => rfl
  | some row =>
    show (tabRow hs row ++ [askRow hl row])[j]?.getD 0 = (tabRow hs row)[j]?.getD 0
    rw [List.getElem?_append_left (by unfold tabRow; rw [List.length_map]; exact hj)]
theorem aug_ask {n : Nat} {hs : List Int} {q : Int} {hl : List (Int × Int)} {bs : List BarD} {ns : List Int} {i : Nat} : Mx.ent (augRows n hs q hl bs ns) i hs.length = (askB n q hl bs ns).getD i 0 := by
  unfold Mx.ent augRows askB
  simp only [List.getD_eq_getElem?_getD, List.getElem?_map]
  cases h : (barRows n q bs ns)[i]? with
  | none => rfl
  | some row =>
    show (tabRow hs row ++ [askRow hl row])[hs.length]?.getD 0 = askRow hl row
    rw [List.getElem?_append_right (by unfold tabRow; rw [List.length_map]; exact Nat.le_refl _)]
    unfold tabRow
    rw [List.length_map, Nat.sub_self]
    rfl
/-- a hanging rod's height times the determinant -/
def cramB (n : Nat) (hs : List Int) (q : Int) (hl : List (Int × Int)) (bs : List BarD) (ns : List Int) (k : Nat) : Int := Mx.det bs.length (Mx.cr (Mx.ent (tabRows n hs q bs ns)) k fun r => (askB n q hl bs ns).getD r 0)
theorem cram_aug {n : Nat} {hs : List Int} {q : Int} {hl : List (Int × Int)} {bs : List BarD} {ns : List Int} (hl' : hs.length = bs.length) (k : Nat) : Mx.det bs.length (Mx.cr (Mx.ent (augRows n hs q hl bs ns)) k fun r => Mx.ent (augRows n hs q hl bs ns) r bs.length) = cramB n hs q hl bs ns k := by
  unfold cramB
  refine Mx.det_congr fun i j _ hj => ?_
  unfold Mx.cr
  by_cases h : j = k
  · rw [if_pos h, if_pos h, ← hl']
    exact aug_ask
  · rw [if_neg h, if_neg h]
    exact aug_tab (by omega)
theorem det_aug {n : Nat} {hs : List Int} {q : Int} {hl : List (Int × Int)} {bs : List BarD} {ns : List Int} (hl' : hs.length = bs.length) : Mx.det bs.length (Mx.ent (augRows n hs q hl bs ns)) = detB n hs q bs ns :=
  Mx.det_congr fun i j _ hj => aug_tab (by omega)
/-- a rod's height times the determinant -/
def topB (n : Nat) (hs : List Int) (q : Int) (hl : List (Int × Int)) (bs : List BarD) (ns : List Int) (r : Int) : Int := if r ∈ hl.map (·.1) then lookI hl r * detB n hs q bs ns else cramB n hs q hl bs ns (hs.idxOf r)
def sgnI (d : Int) : Int := if d < 0 then -1 else 1
end K22
namespace K22
open PySem L2 RZ
section
variable {P : Program} {w : World} {K : PySem.W.Frag} {mg : Str → Option Value} {base : Heap}
def topsB (n : Nat) (q : Int) (hl : List (Int × Int)) (bs : List BarD) (ns : List Int) : List Int := (rangeI n).map fun r => topB n (hangL (n : Int) hl) q hl bs ns r * sgnI (detB n (hangL (n : Int) hl) q bs ns)
theorem aug_row {n : Nat} {hs : List Int} {q : Int} {hl : List (Int × Int)} {bs : List BarD} {ns : List Int} (hsm : ∀ x ∈ ns, x.natAbs < 2 ^ 440) (hq : q.natAbs < 2 ^ 440) (hb : ∀ b ∈ bs, BarOk (n : Int) b) (hh : ∀ p ∈ hl, -1000000 ≤ p.2 ∧ p.2 ≤ 1000000) (h10 : hl.length ≤ 10) :
    ∀ row ∈ augRows n hs q hl bs ns, row.length = hs.length + 1 ∧ ∀ y ∈ row, y.natAbs < 2 ^ 490 := by
  intro row hr
  obtain ⟨br, hbr, rfl⟩ := List.mem_map.mp hr
  obtain ⟨⟨b, x⟩, hbx, rfl⟩ := List.mem_map.mp hbr
  obtain ⟨h1, h2⟩ := List.of_mem_zip hbx
  have hs' := barRow_small2 (n := n) (hsm x h2) hq (hb b h1).l0 (hb b h1).l1
  refine ⟨by unfold tabRow; rw [List.length_append, List.length_map]; rfl, fun y hy => ?_⟩
  rcases List.mem_append.mp hy with hy | hy
  · obtain ⟨r, _, rfl⟩ := List.mem_map.mp hy
    by_cases hi : r.toNat < (barRow n q b x).length
    · rw [Mx.getD_lt 0 hi]
      exact Nat.lt_trans (hs' _ (List.getElem_mem _)) (by decide +kernel)
    · rw [Mx.getD_ge 0 (Nat.not_lt.mp hi)]
      decide +kernel
  · rw [List.mem_singleton.mp hy]
    exact askRow_small hs' hh h10
theorem ent_small {B : Nat} (h0 : 0 < B) {rs : List (List Int)} (h : ∀ row ∈ rs, ∀ y ∈ row, y.natAbs < B) (i j : Nat) : (Mx.ent rs i j).natAbs < B := by
  unfold Mx.ent
  by_cases hi : i < rs.length
  · rw [Mx.getD_lt [] hi]
    by_cases hj : j < rs[i].length
    · rw [Mx.getD_lt 0 hj]
      exact h _ (List.getElem_mem _) _ (List.getElem_mem _)
    · rw [Mx.getD_ge 0 (by omega)]
      exact h0
  · rw [Mx.getD_ge [] (by omega), Mx.getD_ge 0 (Nat.zero_le _)]
    exact h0
theorem tIf_sgn {tt : TT} {t1 t2 : TE} {σ : L2.St} {H : Hp} {Q : VK} (sh : Int) (h : Q (.int (sgnI sh)) H) (ht : ∀ R : Bool → Hp → Prop, R (decide (sh < 0)) H → tt σ H R) (h1 : ∀ R : VK, R (.int (-1)) H → t1 σ H R) (h2 : ∀ R : VK, R (.int 1) H → t2 σ H R) : tIf tt t1 t2 σ H Q := by
  refine ht _ ?_
  unfold sgnI at h
  by_cases c : sh < 0
  · rw [decide_eq_true c]
    rw [if_pos c] at h
    exact iteT (h1 _ h)
  · rw [decide_eq_false c]
    rw [if_neg c] at h
    exact iteF (h2 _ h)
theorem seq_sgn {u : TS} {D : Ends} {σ : L2.St} {H : Hp} {sh : Int} (h7 : σ[7]? = some (some (.int sh))) (h : u D (σ.set 8 (some (.int (sgnI sh)))) H) :
    tSeq (tAsg (tIf (tTest (tOp (rI0 fun i j => V.bl (decide (i < j))) (tVar 7) (tC (V.int 0)))) (tUn (rU fun i => V.int (-i)) (tC (V.int 1))) (tC (V.int 1))) (gName 8)) u D σ H := by
  unfold tSeq tAsg
  refine tIf_sgn sh ?_ ?_ ?_ ?_
  · exact h
  · exact fun R hR => ⟨_, h7, _, _, rfl, rfl, _, rfl, hR⟩
  · exact fun R hR => ⟨_, rfl, hR⟩
  · exact fun R hR => hR
def fillB (n : Nat) (f : Int → Int) (S : List Int) : List Int := (rangeI n).map fun r => if r ∈ S then f r else 0
theorem len_fill {n : Nat} {f : Int → Int} {S : List Int} : (fillB n f S).length = n := by unfold fillB; rw [List.length_map, len_rangeI]
theorem fill_nil {n : Nat} {f : Int → Int} : fillB n f [] = List.replicate n 0 := by
  unfold fillB
  refine List.ext_getElem (by rw [List.length_map, len_rangeI, List.length_replicate]) fun i h1 h2 => ?_
  rw [List.getElem_map, List.getElem_replicate, if_neg List.not_mem_nil]
theorem fill_set {n : Nat} {f : Int → Int} {S : List Int} {r : Int} (h0 : 0 ≤ r) : (fillB n f S).set r.toNat (f r) = fillB n f (S ++ [r]) := by
  unfold fillB
  refine List.ext_getElem (by rw [List.length_set, List.length_map, List.length_map]) fun i h1 h2 => ?_
  rw [List.length_map, len_rangeI] at h2
  have hi : (rangeI n)[i]'(by rw [len_rangeI]; exact h2) = (i : Int) := by unfold rangeI; rw [List.getElem_map, List.getElem_range]
  rw [List.getElem_set, List.getElem_map, List.getElem_map, hi]
  by_cases e : r.toNat = i
  · rw [if_pos e, if_pos (by rw [show (i : Int) = r by omega]; exact List.mem_append_right _ (List.mem_singleton.mpr rfl)), show (i : Int) = r by omega]
  · rw [if_neg e]
    have hm : (i : Int) ∈ S ↔ (i : Int) ∈ S ++ [r] := by
      rw [List.mem_append, List.mem_singleton]
      exact ⟨Or.inl, fun z => z.elim id fun y => absurd (show r.toNat = i by omega) e⟩
    by_cases hs : (i : Int) ∈ S
    · rw [if_pos hs, if_pos (hm.mp hs)]
    · rw [if_neg hs, if_neg fun z => hs (hm.mpr z)]
theorem fill_all {n : Nat} {f : Int → Int} {S : List Int} (h : ∀ r : Int, 0 ≤ r → r < n → r ∈ S) : fillB n f S = (rangeI n).map f := by
  unfold fillB
  refine List.map_congr_left fun r hr => ?_
  have := mem_rangeI.mp hr
  rw [if_pos (h r this.1 this.2)]
theorem ixN_last {n : Nat} (h : 0 < n) : ixN n (-1) = some (n - 1) := by
  unfold ixN
  rw [if_neg (by decide), if_pos (by omega)]
  congr 1
  omega
theorem nodup_hangL {n : Int} {hl : List (Int × Int)} : (hangL n hl).Nodup := (nodup_rangeI _).sublist List.filter_sublist
theorem not_held {n : Int} {hl : List (Int × Int)} {r : Int} (h : r ∈ hangL n hl) : r ∉ hl.map (·.1) := fun z => by
  have := (List.mem_filter.mp h).2
  unfold offK at this
  rw [List.contains_iff_mem.mpr z] at this
  cases this
theorem held_or {n : Nat} {hl : List (Int × Int)} {r : Int} (h0 : 0 ≤ r) (h1 : r < (n : Int)) : r ∈ hl.map (·.1) ++ hangL (n : Int) hl := by
  rw [List.mem_append]
  by_cases z : r ∈ hl.map (·.1)
  · exact .inl z
  · refine .inr (List.mem_filter.mpr ⟨by rw [Int.toNat_natCast]; exact mem_rangeI.mpr ⟨h0, h1⟩, ?_⟩)
    unfold offK
    cases hc : (hl.map (·.1)).contains r with
    | false => rfl
    | true => exact absurd (List.contains_iff_mem.mp hc) z
theorem idx_at {l : List Int} {i : Nat} {r : Int} (hn : l.Nodup) (h : l[i]? = some r) : l.idxOf r = i := by
  obtain ⟨hi, rfl⟩ := List.getElem?_eq_some_iff.mp h
  exact List.Nodup.idxOf_getElem hn i hi
theorem look_of : ∀ {hl : List (Int × Int)} {r h : Int}, (hl.map (·.1)).Nodup → (r, h) ∈ hl → lookI hl r = h
  | [], _, _, _, m => by cases m
  | p :: hl, r, h, hn, m => by
    rw [List.map_cons, List.nodup_cons] at hn
    unfold lookI
    rcases List.mem_cons.mp m with e | m
    · rw [List.find?_cons, ← e, decide_eq_true rfl]
    · have : p.1 ≠ r := fun e => hn.1 (e ▸ List.mem_map.mpr ⟨_, m, rfl⟩)
      rw [List.find?_cons, decide_eq_false this]
      exact look_of hn.2 m
def spHeights (K : PySem.W.Frag) (T : Tx K mg) : Sp := fun vs H Q _ => ∃ (v : V) (t : Addr) (n : Nat) (bs : List BarD) (hl : List (Int × Int)) (ns : List Int) (q : Int), vs = [v, .ref t, .int q] ∧ Is K H (wbD T.C_Web T.C_Bar (n : Int) bs hl) v ∧ SqT K H t (ns.map V.int) ∧ ns.length = bs.length ∧ n ≤ 10 ∧ bs.length ≤ 8 ∧ (∀ b ∈ bs, BarOk (n : Int) b) ∧
  (∀ p ∈ hl, (0 ≤ p.1 ∧ p.1 < (n : Int)) ∧ -1000000 ≤ p.2 ∧ p.2 ≤ 1000000) ∧ (hl.map (·.1)).Nodup ∧ hl.length ≤ 10 ∧ (hangL (n : Int) hl).length = bs.length ∧ (∀ x ∈ ns, x.natAbs < 2 ^ 440) ∧ q.natAbs < 2 ^ 440 ∧
  (detB n (hangL (n : Int) hl) q bs ns = 0 → ∀ H', Ext H H' → Q .non H') ∧
  (detB n (hangL (n : Int) hl) q bs ns ≠ 0 → ∀ (p l : Addr) (H' : Hp), H p = none → H l = none → Ext H H' → H' p = some (.tup [.ref l, .int (detB n (hangL (n : Int) hl) q bs ns * sgnI (detB n (hangL (n : Int) hl) q bs ns))]) → H' l = some (.lst ((topsB n q hl bs ns).map V.int)) → Q (.ref p) H')
theorem ok_heights_at (T : Tx K mg) : FnOk P w K mg base (L2.CX P w) 6 T.a_heights_at T.fd_heights_at ["web", "numbers", "parts"] (spHeights K T) := by
  refine T.F_heights_at.okX sc_heights_at (fun vs H Q E h => ?_) (fun cdv A outer s H vs Q E hr h => ?_)
  · obtain ⟨v, t, n, bs, hl, ns, q, rfl, _⟩ := h
    rfl
  · obtain ⟨v, tn, n, bs, hl, ns, q, rfl, hv, htn, hnl, hn, h8, hbo, hho, hnd, hhl, hgl, hsm, hqs, k0, k⟩ := h
    refine ⟨_, (pss_cons (ps_set (i := 3) sc_heights_at.nd rfl (Or.inl rfl) (pe_call (ok_table T) (hr.mono (by decide)) rfl T.m_table T.F_table.kp T.b_table .nil passL (pa_cons (pv 0) (pa_cons (pv 1) (pa_cons (pv 2) pa_nil)))))
      (pss_cons (ps_set (i := 4) sc_heights_at.nd rfl (Or.inl rfl) (pe_call (ok_asked T) (hr.mono (by decide)) rfl T.m_asked T.F_asked.kp T.b_asked .nil passL (pa_cons (pv 0) (pa_cons (pv 1) (pa_cons (pv 2) pa_nil)))))
      (pss_cons (ps_setLc (i := 5) (own := [("row", 13), ("number", 14)]) (g := gTwo K 13 14) (tt := tYes) (te := tOp (rCatL K) (tVar 13) (tLst (tCons (tVar 14) tNil))) (by rfl) sc_heights_at.nd rfl rfl (sw_true rfl rfl rfl (by decide +kernel)) (pi_zipA (by rfl) T.z_zip (pa_cons (pv 3) (pa_cons (pv 4) pa_nil))) (blkOk_by (own := [("row", 13), ("number", 14)]) (N := N_heights_at) (sc := defScope s_heights_at) (by decide +kernel)) (fun _ _ _ _ _ => (by exact pg_tup rfl (pgs_cons (pg_name (i := 13) sc_heights_at.nd rfl (Or.inl rfl)) (pgs_cons (pg_name (i := 14) sc_heights_at.nd rfl (Or.inl rfl)) pgs_nil)))) (fun _ _ _ _ _ => pts_nil) (fun _ _ _ _ _ => (by exact pe_op op_catL (pv 13) (pe_lst (pa_cons (pv 14) pa_nil)))))
      (pss_cons (ps_asg (pe_call (ok_cleared T) (hr.mono (by decide)) rfl T.m_cleared T.F_cleared.kp T.b_cleared .nil passL (pa_cons (pv 5) (pa_cons (pe_callB call_len_seq (by rfl) T.z_len PySem.boot_len (pa_cons (pv 3) pa_nil)) pa_nil))) (pg_tup (by rfl) (pgs_cons (pg_name (i := 5) sc_heights_at.nd rfl (Or.inl rfl)) (pgs_cons (pg_name (i := 6) sc_heights_at.nd rfl (Or.inl rfl)) (pgs_cons (pg_name (i := 7) sc_heights_at.nd rfl (Or.inl rfl)) pgs_nil)))))
      (pss_cons (ps_if (pt_cmpR op_lt (pe_callB call_len_seq (by rfl) T.z_len PySem.boot_len (pa_cons (pv 6) pa_nil)) (pe_callB call_len_seq (by rfl) T.z_len PySem.boot_len (pa_cons (pv 3) pa_nil)) (nomark _)) (pss_one (ps_ret pe_non)) pss_nil)
      (pss_cons (ps_set (i := 8) sc_heights_at.nd rfl (Or.inl rfl) (pe_ifExp (pt_cmpR op_lt (pv 7) pe_int (nomark _)) (pe_un un_neg pe_int) pe_int))
      (pss_cons (ps_set (i := 9) sc_heights_at.nd rfl (Or.inl rfl) (pe_meth0 (pv 0) T.c_Web T.M_Web_held (ok_Web_held T) (hr.mono (by decide)) T.b_Web_held .nil passL))
      (pss_cons (ps_set (i := 10) sc_heights_at.nd rfl (Or.inl rfl) (pe_op op_rep (pe_lst (pa_cons pe_int pa_nil)) (pe_fld (pv 0) rfl)))
      (pss_cons (ps_lock (ps_for (passes_of rfl) rfl (pi_items (pv 9)) (pg_tup (by rfl) (pgs_cons (pg_name (i := 11) sc_heights_at.nd rfl (Or.inl rfl)) (pgs_cons (pg_name (i := 12) sc_heights_at.nd rfl (Or.inl rfl)) pgs_nil))) (pss_one (ps_asg (pe_op op_mulW (pe_op op_mulW (pv 12) (pv 7)) (pv 8)) (pg_sub (pv 10) (pv 11) set_list)))))
      (pss_cons (ps_for (passes_of rfl) rfl (pi_zipA (by rfl) T.z_zip (pa_cons (pe_meth0 (pv 0) T.c_Web T.M_Web_hanging (ok_Web_hanging T) (hr.mono (by decide)) T.b_Web_hanging .nil passL) (pa_cons (pv 5) pa_nil))) (pg_tup (by rfl) (pgs_cons (pg_name (i := 11) sc_heights_at.nd rfl (Or.inl rfl)) (pgs_cons (pg_name (i := 13) sc_heights_at.nd rfl (Or.inl rfl)) pgs_nil))) (pss_one (ps_asg (pe_op op_mulW (pe_ix ix_list (pv 13) (pe_un un_neg pe_int) (fun _ _ => rfl)) (pv 8)) (pg_sub (pv 10) (pv 11) set_list))))
      (pss_one (ps_ret (pe_tup (pa_cons (pv 10) (pa_cons (pe_op op_mulW (pv 7) (pv 8)) pa_nil))))))))))))))), ?_⟩
    obtain ⟨a, dx, t, d, ws, rfl, ha, ht, hb, hd⟩ := wb_fields hv
    rw [show L2.start N_heights_at [V.ref a, V.ref tn, V.int q] = [some (.ref a), some (.ref tn), some (.int q), none, none, none, none, none, none, none, none, none, none, none, none] from rfl]
    refine ⟨_, rfl, _, rfl, _, rfl, .ref a, tn, n, bs, hl, ns, q, rfl, hv, htn, hnl, hn, h8, hbo, fun u1 H1 e1 i1 => ?_⟩
    simp only [List.set_cons_succ, List.set_cons_zero]
    refine ⟨_, rfl, _, rfl, _, rfl, .ref a, tn, n, bs, hl, ns, q, rfl, hv.ext e1, htn.ext e1, hnl, hn, h8, hbo, hho, hhl, hsm, hqs, fun a2 H2 ha2 e2 hA2 => ?_⟩
    simp only [List.set_cons_succ, List.set_cons_zero]
    obtain ⟨l1, xs1, rfl, hl1, hxs1, hxl1⟩ := rows_of i1
    have hbl : (barRows n q bs ns).length = bs.length := len_barRows hnl
    have htl : (tabRows n (hangL (n : Int) hl) q bs ns).length = bs.length := by unfold tabRows; rw [List.length_map, hbl]
    have hal : (askB n q hl bs ns).length = bs.length := by unfold askB; rw [List.length_map, hbl]
    have hgl' : (augRows n (hangL (n : Int) hl) q hl bs ns).length = bs.length := by unfold augRows; rw [List.length_map, hbl]
    refine ⟨_, rfl, _, rfl, l1, a2, xs1, (askB n q hl bs ns).map V.int, rfl, .inl ⟨hl1.ext e2, SqL.of hA2, fun D hD => ?_⟩⟩
    refine lc_zipL (xs := xs1) (ys := (askB n q hl bs ns).map V.int) (by rw [List.length_map, hxl1, htl, hal]) (fun i H' => Ext H2 H' ∧ ∃ acc, H' D = some (.lst acc) ∧ IsL K (del H' D) (((augRows n (hangL (n : Int) hl) q hl bs ns).take i).map rwI) acc) ⟨Ext.upd hD, [], upd_same, rfl⟩ (fun i H' p => ⟨(hl1.ext e2).ext p.1, SqL.of (p.1 _ _ hA2)⟩) ?_ ?_
    · rintro i x y tp H3 hx hy ⟨e3, acc, hD3, hacc⟩ htp
      obtain ⟨trow, hrow, iy⟩ := isL_at' hxs1 hx
      obtain ⟨ra, rfl, hra⟩ := rwI_of iy
      have hin : i < (barRows n q bs ns).length := by
        have := (List.getElem?_eq_some_iff.mp hrow).1
        omega
      obtain ⟨row, hbr⟩ : ∃ row, (barRows n q bs ns)[i]? = some row := ⟨_, List.getElem?_eq_getElem hin⟩
      have e1' : trow = tabRow (hangL (n : Int) hl) row := by
        unfold tabRows at hrow
        rw [List.getElem?_map, hbr] at hrow
        exact (Option.some.inj hrow).symm
      have e2' : y = .int (askRow hl row) := by
        unfold askB at hy
        rw [List.getElem?_map, List.getElem?_map, hbr] at hy
        exact (Option.some.inj hy).symm
      subst e1' e2'
      have hwp : wipe (List.set [some (V.ref a), some (V.ref tn), some (V.int q), some (V.ref l1), none, none, none, none, none, none, none, none, none, none, none] 4 (some (V.ref a2))) (List.map (fun x => x.2) [(("row" : Str), 13), (("number" : Str), 14)]) = [some (.ref a), some (.ref tn), some (.int q), some (.ref l1), some (.ref a2), none, none, none, none, none, none, none, none, none, none] := rfl
      rw [hwp]
      refine ⟨tp, _, rfl, SqT.of upd_same, rfl, _, _, rfl, _, _, rfl, rfl, ?_⟩
      simp only [List.set_cons_succ, List.set_cons_zero]
      have e4 : Ext H3 (upd H3 tp (.tup [V.ref ra, V.int (askRow hl row)])) := Ext.upd htp
      have hD4 := e4 _ _ hD3
      have hra4 := ((hra.ext e2).ext e3).ext e4
      have hacc4 := hacc.ext (DE.of e4)
      generalize upd H3 tp (.tup [V.ref ra, V.int (askRow hl row)]) = H4 at e4 hD4 hra4 hacc4 ⊢
      have htr : (tabRow (hangL (n : Int) hl) row).length = bs.length := by unfold tabRow; rw [List.length_map, hgl]
      refine ⟨rfl, tyes ?_⟩
      refine ⟨_, rfl, _, rfl, by show 1 ≤ sizeLine; decide, fun A2 hA2' => ?_⟩
      refine ⟨ra, A2, _, _, rfl, rfl, hra4.ext (Ext.upd hA2'), SqL.of upd_same, ?_, fun A3 hA3 => ?_⟩
      · rw [List.length_map, htr]
        exact Nat.le_trans (show bs.length + 1 ≤ 100 by omega) (by decide)
      have e5 : Ext H4 (upd (upd H4 A2 (.lst [.int (askRow hl row)])) A3 (.lst ((tabRow (hangL (n : Int) hl) row).map V.int ++ [.int (askRow hl row)]))) := (Ext.upd hA2').trans (Ext.upd hA3)
      have hA35 : (upd (upd H4 A2 (.lst [.int (askRow hl row)])) A3 (.lst ((tabRow (hangL (n : Int) hl) row).map V.int ++ [.int (askRow hl row)]))) A3 = some (.lst ((tabRow (hangL (n : Int) hl) row ++ [askRow hl row]).map V.int)) := by
        rw [upd_same, List.map_append]
        rfl
      have hA3n : H4 A3 = none := (Ext.upd hA2').fresh hA3
      generalize upd (upd H4 A2 (.lst [.int (askRow hl row)])) A3 (.lst ((tabRow (hangL (n : Int) hl) row).map V.int ++ [.int (askRow hl row)])) = H5 at e5 hA35 ⊢
      have hD5 := e5 _ _ hD4
      have hAD : A3 ≠ D := fun e => by rw [e, hD4] at hA3n; cases hA3n
      have hir : (augRows n (hangL (n : Int) hl) q hl bs ns)[i]? = some (tabRow (hangL (n : Int) hl) row ++ [askRow hl row]) := by
        unfold augRows
        rw [List.getElem?_map, hbr]
        rfl
      refine ⟨acc, hD5, ?_, (((e3.trans e4).trans e5)).mut hD, _, upd_same, ?_⟩
      · rw [← hacc.length, List.length_map, List.length_take]
        exact Nat.lt_of_lt_of_le (show min i (augRows n (hangL (n : Int) hl) q hl bs ns).length < 100 by omega) (by decide)
      · rw [List.take_add_one, hir, List.map_append]
        refine isL_sn ((hacc4.ext (DE.of e5)).ext DE.upd) (rwI_is (SqL.of ?_))
        rw [del_ne hAD, upd_ne hAD]
        exact hA35
    · rintro H3 ⟨e3, acc, hD3, hacc⟩
      rw [hxl1, htl, ← hgl', List.take_length] at hacc
      have i5 : Is K H3 (rowsD (augRows n (hangL (n : Int) hl) q hl bs ns)) (.ref D) := ⟨D, acc, rfl, SqL.of hD3, hacc.ext del_ext⟩
      have e03 : Ext H H3 := (e1.trans e2).trans e3
      have hx1 : xs1.length = bs.length := by rw [hxl1, htl]
      have hrow := aug_row (n := n) (hs := hangL (n : Int) hl) hsm hqs hbo (fun p hp => (hho p hp).2) hhl
      refine ⟨_, rfl, _, rfl, l1, xs1, rfl, .inl ((hl1.ext e2).ext e3), ?_⟩
      rw [hx1]
      refine ⟨.ref D, augRows n (hangL (n : Int) hl) q hl bs ns, bs.length, bs.length + 1, rfl, i5, ⟨hgl', fun row hr => by rw [(hrow row hr).1, hgl]⟩, Nat.le_succ _, by omega, by omega, fun i j _ => ent_small (by decide +kernel) (fun row hr => (hrow row hr).2) i j, fun tt kp u rs' kept sh H4 e4 ht4 iu hkp C _ => ?_⟩
      refine ⟨tt, _, rfl, SqT.of ht4, rfl, _, _, rfl, _, _, rfl, _, _, rfl, rfl, ?_⟩
      rw [show List.set _ 7 _ = [some (V.ref a), some (V.ref tn), some (V.int q), some (V.ref l1), some (V.ref a2), some u, some (V.ref kp), some (V.int sh), none, none, none, none, none, none, none] from rfl]
      have hdet := C.det
      rw [det_aug hgl] at hdet
      have e04 : Ext H H4 := e03.trans e4
      refine ⟨_, rfl, kp, _, rfl, .inl (SqL.of hkp), _, rfl, l1, xs1, rfl, .inl (((hl1.ext e2).ext e3).ext e4), _, _, rfl, rfl, _, rfl, ite2 (fun c => ?_) (fun c => ?_)⟩
      · rw [if_pos (by
          have := of_decide_eq_true c
          rw [List.length_map, hx1] at this
          omega)] at hdet
        exact k0 hdet.symm H4 e04
      have hkl : ¬ kept.length < bs.length := fun z => c (decide_eq_true (by rw [List.length_map, hx1]; omega))
      rw [if_neg hkl] at hdet
      delta tNext
      dsimp only
      refine seq_sgn (sh := sh) rfl ?_
      simp only [List.set_cons_succ, List.set_cons_zero]
      have v4 := hv.ext e04
      refine ⟨_, rfl, a, dx, _, rfl, e04 _ _ ha, rfl, .ref a, (n : Int), bs, hl, rfl, v4, fun hp hhp => ?_⟩
      have e5 : Ext H4 (upd H4 hp (.dK (hK hl))) := Ext.upd hhp
      have hp5 : (upd H4 hp (.dK (hK hl))) hp = some (.dK (hK hl)) := upd_same
      generalize upd H4 hp (.dK (hK hl)) = H5 at e5 hp5 ⊢
      refine ⟨by show 1 ≤ sizeLine; decide, fun z1 hz1 => ?_⟩
      have e05 := e04.trans e5
      have hn3 : 0 ≤ (n : Int) := by omega
      refine ⟨_, rfl, a, T.C_Web, dx, _, _, rfl, Ext.upd hz1 _ _ (e05 _ _ ha), T.c_Web, T.nf_Web_rods, rfl, z1, (n : Int), _, rfl, rfl, upd_same, by omega, by omega, ?_, fun tl htl' => ?_⟩
      · show 1 * ((n : Int).toNat) ≤ sizeLine
        exact Nat.le_trans (show 1 * ((n : Int).toNat) ≤ 100 by omega) (by decide)
      rw [Int.toNat_natCast, rep_zero]
      simp only [List.set_cons_succ, List.set_cons_zero]
      have e46 : Ext H4 (upd (upd H5 z1 (.lst [.int 0])) tl (.lst ((List.replicate n (0 : Int)).map V.int))) := e5.trans ((Ext.upd hz1).trans (Ext.upd htl'))
      have htl6 : (upd (upd H5 z1 (.lst [.int 0])) tl (.lst ((List.replicate n (0 : Int)).map V.int))) tl = some (.lst ((List.replicate n (0 : Int)).map V.int)) := upd_same
      have hp6 : (upd (upd H5 z1 (.lst [.int 0])) tl (.lst ((List.replicate n (0 : Int)).map V.int))) hp = some (.dK (hK hl)) := ((Ext.upd hz1).trans (Ext.upd htl')) _ _ hp5
      have hp50 : (upd H5 z1 (.lst [.int 0])) hp = some (.dK (hK hl)) := Ext.upd hz1 _ _ hp5
      have htp : tl ≠ hp := fun e => by rw [e, hp50] at htl'; cases htl'
      have htl4 : H4 tl = none := (e5.trans (Ext.upd hz1)).fresh htl'
      generalize upd (upd H5 z1 (.lst [.int 0])) tl (.lst ((List.replicate n (0 : Int)).map V.int)) = H6 at e46 htl6 hp6 ⊢
      let f : Int → Int := fun r => topB n (hangL (n : Int) hl) q hl bs ns r * sgnI (detB n (hangL (n : Int) hl) q bs ns)
      have hkb : (hK hl).length = hl.length := by unfold hK; rw [List.length_map]
      have hab := fun i j => ent_small (B := 2 ^ 490) (by decide +kernel) (fun row hr => (hrow row hr).2) i j
      have bsh : sh.natAbs < 2 ^ 5000 := by
        rw [hdet, ← det_aug (hl := hl) hgl]
        exact Nat.lt_of_lt_of_le (Mx.det_bits (b := 490) (n := bs.length) (by omega) (fun p q _ _ => hab p q)) (Nat.pow_le_pow_right (by decide) (by omega))
      have bsg : (sgnI sh).natAbs < 2 ^ 1 := by unfold sgnI; split <;> decide
      refine ⟨hp, _, hp6, trivial, fun od => ?_⟩
      refine ⟨_, rfl, hp, od, hK hl, rfl, upd_same, ?_⟩
      refine for_it walk_items (fun j σ H' => Ext H4 H' ∧ H' hp = some (.frz od (.dK (hK hl))) ∧ H' tl = some (.lst ((fillB n f ((hl.take j).map (·.1))).map V.int)) ∧ ∃ v11 v12 : Option V, σ = [some (.ref a), some (.ref tn), some (.int q), some (.ref l1), some (.ref a2), some u, some (.ref kp), some (.int sh), some (.int (sgnI sh)), some (.ref hp), some (.ref tl), v11, v12, none, none])
        ⟨e46.mut hhp, upd_same, by rw [upd_ne htp, htl6, List.take_zero, List.map_nil, fill_nil], none, none, rfl⟩ (fun j σ H' _ p => p.2.1) ?_ ?_
      · rintro j y σ H7 H8 hj ⟨e7, hp7, htl7, v11, v12, rfl⟩ ⟨tp, y1, y2, rfl, htp', rfl, hz1', hz2'⟩
        rw [hkb] at hj
        obtain ⟨⟨r, h⟩, hr'⟩ : ∃ p, hl[j]? = some p := ⟨_, List.getElem?_eq_getElem hj⟩
        unfold hK at hz1' hz2'
        dsimp only at hz1' hz2'
        rw [List.getElem?_map, hr'] at hz1' hz2'
        obtain rfl : V.int r = y1 := Option.some.inj hz1'
        obtain rfl : V.int h = y2 := Option.some.inj hz2'
        have hm := List.mem_of_getElem? hr'
        have hho' := hho _ hm
        dsimp only at hho'
        have e8 : Ext H7 (upd H7 tp (.tup [V.int r, V.int h])) := Ext.upd htp'
        refine ⟨tp, _, rfl, SqT.of upd_same, rfl, _, _, rfl, _, _, rfl, rfl, ?_⟩
        simp only [List.set_cons_succ, List.set_cons_zero]
        have hhb : h.natAbs < 2 ^ 20 := Nat.lt_of_le_of_lt (show h.natAbs ≤ 1000000 by omega) (by decide)
        have bhs : (h * sh).natAbs < 2 ^ 5020 := by
          rw [Int.natAbs_mul]
          exact Nat.lt_of_lt_of_le (Nat.mul_lt_mul'' hhb bsh) (by rw [← Nat.pow_add]; exact Nat.le_refl _)
        refine ⟨_, rfl, _, rfl, _, _, rfl, rfl, wide_mul (a := 20) (b := 5000) hhb bsh (by decide) (by decide) (by decide), _, rfl, _, _, rfl, rfl, wide_mul (a := 5020) (b := 1) bhs bsg (by decide) (by decide) (by decide), ?_⟩
        have hf : h * sh * sgnI sh = f r := by
          show _ = topB n (hangL (n : Int) hl) q hl bs ns r * sgnI (detB n (hangL (n : Int) hl) q bs ns)
          unfold topB
          rw [if_pos (List.mem_map.mpr ⟨_, hm, rfl⟩), ← hdet, look_of hnd hm]
        refine ⟨_, rfl, _, rfl, tl, _, r, r.toNat, rfl, rfl, e8 _ _ htl7, ?_, ?_⟩
        · rw [List.length_map, len_fill]
          exact ixN_of hho'.1.1 hho'.1.2
        dsimp only
        rw [← List.map_set, hf, fill_set hho'.1.1]
        have hth : hp ≠ tl := fun e => htp e.symm
        refine ⟨(e7.trans e8).mut htl4, by rw [upd_ne hth]; exact e8 _ _ hp7, ?_, _, _, rfl⟩
        rw [upd_same, List.take_add_one, hr', List.map_append]
        rfl
      · rintro σ H7 ⟨e7, hp7, htl7, v11, v12, rfl⟩
        rw [hkb, List.take_length] at htl7
        refine ⟨hp7, ?_⟩
        have e8 : Ext H4 (upd H7 hp (.dK (hK hl))) := e7.mut hhp
        have htl8 : (upd H7 hp (.dK (hK hl))) tl = some (.lst ((fillB n f (hl.map (·.1))).map V.int)) := by rw [upd_ne htp]; exact htl7
        generalize upd H7 hp (.dK (hK hl)) = H8 at e8 htl8 ⊢
        obtain ⟨lu, xu, rfl, hlu, hxu, hxul⟩ := rows_of iu
        refine ⟨_, rfl, a, dx, _, rfl, (e04.trans e8) _ _ ha, rfl, .ref a, (n : Int), bs, hl, rfl, hv.ext (e04.trans e8), by omega, by omega, fun g H9 hg e9 hg9 => ?_⟩
        have htl9 := e9 _ _ htl8
        have hgt : g ≠ tl := fun e => by rw [e, htl8] at hg; cases hg
        have hrl' : rs'.length = bs.length := C.sq.1
        refine ⟨_, rfl, g, lu, (hangL (n : Int) hl).map V.int, xu, rfl, .inl ⟨SqL.of hg9, hlu.ext (e8.trans e9), ?_⟩⟩
        refine for_zipL (xs := (hangL (n : Int) hl).map V.int) (ys := xu) (by rw [List.length_map, hgl, hxul, hrl']) (fun j σ H' => Ext H4 H' ∧ H' g = some (.lst ((hangL (n : Int) hl).map V.int)) ∧ H' tl = some (.lst ((fillB n f (hl.map (·.1) ++ (hangL (n : Int) hl).take j)).map V.int)) ∧ ∃ v11 v12 v13 v14 : Option V, σ = [some (.ref a), some (.ref tn), some (.int q), some (.ref l1), some (.ref a2), some (.ref lu), some (.ref kp), some (.int sh), some (.int (sgnI sh)), some (.ref hp), some (.ref tl), v11, v12, v13, v14])
          ⟨e8.trans e9, hg9, by rw [htl9, List.take_zero, List.append_nil], v11, v12, none, none, rfl⟩ (fun j σ H' p => ⟨SqL.of p.2.1, hlu.ext p.1⟩) ?_ ?_
        · rintro j x y tp σ H10 hx hy ⟨e10, hg10, htl10, w11, w12, w13, w14, rfl⟩ htp'
          obtain ⟨r, hr', rfl⟩ : ∃ r, (hangL (n : Int) hl)[j]? = some r ∧ x = V.int r := by
            rw [List.getElem?_map] at hx
            cases e : (hangL (n : Int) hl)[j]? with
            | none => rw [e] at hx; cases hx
            | some n => rw [e] at hx; exact ⟨n, rfl, (Option.some.inj hx).symm⟩
          have hjn : j < bs.length := by rw [← hgl]; exact (List.getElem?_eq_some_iff.mp hr').1
          have hmr := List.mem_of_getElem? hr'
          have hr01 := mem_hangL hmr
          obtain ⟨row, hrow', iy⟩ := isL_at' hxu hy
          obtain ⟨ra, rfl, hra⟩ := rwI_of iy
          have hrl2 : row.length = bs.length + 1 := C.sq.2 row (List.mem_of_getElem? hrow')
          have hval : Mx.ent rs' j bs.length = row.getD bs.length 0 := by
            unfold Mx.ent
            rw [List.getD_eq_getElem?_getD (l := rs'), hrow']
            rfl
          have hcr : row.getD bs.length 0 = cramB n (hangL (n : Int) hl) q hl bs ns j := by
            rw [← hval, C.solved hkl hjn, cram_aug hgl]
          have hat : atI (row.map V.int) (-1) = some (.int (cramB n (hangL (n : Int) hl) q hl bs ns j)) := by
            unfold atI
            rw [List.length_map, hrl2, ixN_last (by omega)]
            show (row.map V.int)[bs.length + 1 - 1]? = _
            rw [Nat.add_sub_cancel, List.getElem?_map, List.getElem?_eq_getElem (by omega), ← hcr, Mx.getD_lt 0 (by omega)]
            rfl
          have bcr : (cramB n (hangL (n : Int) hl) q hl bs ns j).natAbs < 2 ^ 5000 := by
            rw [← cram_aug hgl]
            refine Nat.lt_of_lt_of_le (Mx.det_bits (b := 490) (n := bs.length) (by omega) (fun p q _ _ => ?_)) (Nat.pow_le_pow_right (by decide) (by omega))
            unfold Mx.cr
            split
            · exact hab _ _
            · exact hab _ _
          have e11 : Ext H10 (upd H10 tp (.tup [V.int r, V.ref ra])) := Ext.upd htp'
          refine ⟨tp, _, rfl, SqT.of upd_same, rfl, _, _, rfl, _, _, rfl, rfl, ?_⟩
          simp only [List.set_cons_succ, List.set_cons_zero]
          refine ⟨_, rfl, _, rfl, ra, _, _, _, rfl, rfl, (hra.ext e10).ext e11, hat, _, rfl, _, _, rfl, rfl, wide_mul (a := 5000) (b := 1) bcr bsg (by decide) (by decide) (by decide), ?_⟩
          have hf : cramB n (hangL (n : Int) hl) q hl bs ns j * sgnI sh = f r := by
            show _ = topB n (hangL (n : Int) hl) q hl bs ns r * sgnI (detB n (hangL (n : Int) hl) q bs ns)
            unfold topB
            rw [if_neg (not_held hmr), ← hdet, idx_at nodup_hangL hr']
          refine ⟨_, rfl, _, rfl, tl, _, r, r.toNat, rfl, rfl, e11 _ _ htl10, ?_, ?_⟩
          · rw [List.length_map, len_fill]
            exact ixN_of hr01.1 hr01.2
          dsimp only
          rw [← List.map_set, hf, fill_set hr01.1]
          refine ⟨(e10.trans e11).mut htl4, by rw [upd_ne hgt]; exact e11 _ _ hg10, ?_, _, _, _, _, rfl⟩
          rw [upd_same, List.take_add_one, hr', ← List.append_assoc]
          rfl
        · rintro σ H10 ⟨e10, hg10, htl10, w11, w12, w13, w14, rfl⟩
          rw [List.length_map, List.take_length, fill_all fun r h0 h1 => held_or h0 h1] at htl10
          refine ⟨_, rfl, _, rfl, _, rfl, _, _, rfl, rfl, wide_mul (a := 5000) (b := 1) bsh bsg (by decide) (by decide) (by decide), by show 2 ≤ sizeLine; decide, fun p hp' => ?_⟩
          have hlp : tl ≠ p := ne_of_none htl10 hp'
          have e0 := e04.trans e10
          refine k (by rw [← hdet]; exact (let ⟨_, _, I⟩ := C.inv; I.s0)) p tl _ (e0.fresh hp') (e04.fresh htl4) (e0.trans (Ext.upd hp')) (by rw [upd_same, ← hdet]) ?_
          rw [upd_ne hlp]
          exact htl10
end
end K22
namespace K22
open PySem L2
section
variable {P : Program} {w : World} {K : PySem.W.Frag} {mg : Str → Option Value} {base : Heap}
theorem normH_keys {hl : List (Int × Int)} : (normH hl).map (·.1) = srtI (hl.map (·.1)) := by
  unfold normH
  rw [List.map_map]
  exact List.map_id _
theorem off_norm {hl : List (Int × Int)} {r : Int} : offK (normH hl) r = offK hl r := by
  unfold offK
  rw [normH_keys]
  congr 1
  rw [Bool.eq_iff_iff, List.contains_iff_mem, List.contains_iff_mem]
  exact (srtI_perm _).mem_iff
theorem hang_norm {n : Int} {hl : List (Int × Int)} : hangL n (normH hl) = hangL n hl := by
  unfold hangL
  congr 1
  funext r
  exact off_norm
theorem WebOk.hang {n : Nat} {hl : List (Int × Int)} {bs : List BarD} (h : WebOk (n : Int) hl bs) : (hangL (n : Int) hl).length = bs.length := by
  unfold hangL
  rw [Int.toNat_natCast]
  have h1 : ((rangeI n).filter (offK hl)).length + ((rangeI n).filter fun x => (hl.map (·.1)).contains x).length = (rangeI n).length := by
    have := filter_split (fun x => (hl.map (·.1)).contains x) (rangeI n)
    unfold offK
    omega
  have h2 : ((rangeI n).filter fun x => (hl.map (·.1)).contains x).Perm (hl.map (·.1)) := by
    refine (List.perm_ext_iff_of_nodup ((nodup_rangeI n).filter _) h.nd).mpr fun x => ?_
    rw [List.mem_filter, List.contains_iff_mem]
    refine ⟨fun h => h.2, fun z => ⟨?_, z⟩⟩
    obtain ⟨q, hq, rfl⟩ := List.mem_map.mp z
    exact mem_rangeI.mpr (h.keys q hq).1
  have := h.sum
  rw [h2.length_eq, List.length_map, len_rangeI] at h1
  omega
end
end K22
namespace Mx
theorem det_rlin : ∀ {n r : Nat} (M : Nat → Nat → Int) (a b : Int) (u v : Nat → Int), r < n → det n (rr M r fun k => a * u k + b * v k) = a * det n (rr M r u) + b * det n (rr M r v) := by
  intro n
  induction n with
  | zero => intro r M a b u v h; omega
  | succ n ih =>
    intro r M a b u v h
    unfold det
    rw [← sm_mul, ← sm_mul, ← sm_add]
    refine sm_congr fun j hj => ?_
    cases r with
    | zero =>
      have e : ∀ w : Nat → Int, (fun i k => rr M 0 w (i + 1) (sk j k)) = fun i k => M (i + 1) (sk j k) := fun w => rfl
      have e2 : ∀ w : Nat → Int, rr M 0 w 0 j = w j := fun w => rfl
      rw [e, e, e, e2, e2, e2]
      grind
    | succ r =>
      have e : ∀ w : Nat → Int, (fun i k => rr M (r + 1) w (i + 1) (sk j k)) = rr (fun i k => M (i + 1) (sk j k)) r (fun k => w (sk j k)) := fun w => by
        funext i k
        unfold rr
        by_cases h : i = r
        · rw [if_pos (by omega), if_pos h]
        · rw [if_neg (by omega), if_neg h]
      have e2 : ∀ w : Nat → Int, rr M (r + 1) w 0 j = M 0 j := fun w => rfl
      rw [e, e, e, e2, e2, e2]
      rw [ih (fun i k => M (i + 1) (sk j k)) a b (fun k => u (sk j k)) (fun k => v (sk j k)) (by omega)]
      grind
structure RowLin (n : Nat) (F : (Nat → Nat → Int) → Int) : Prop where
  lin : ∀ (M : Nat → Nat → Int) (r : Nat) (a b : Int) (u v : Nat → Int), r < n → F (rr M r fun k => a * u k + b * v k) = a * F (rr M r u) + b * F (rr M r v)
theorem RowLin.det (n : Nat) : RowLin n (Mx.det n) := ⟨fun M _ a b u v h => det_rlin M a b u v h⟩
/-- rows that are linear in a place and the parts -/
def bx (A B : Nat → Nat → Int) (x : Nat → Int) (q : Nat → Int) : Nat → Nat → Int := fun i k => x i * A i k + q i * B i k
end Mx
namespace K22
open PySem L2 RZ
def augA (n : Nat) (hs : List Int) (hl : List (Int × Int)) (bs : List BarD) : Nat → Nat → Int := Mx.ent (augRows n hs 0 hl bs (List.replicate bs.length 1))
def augB (n : Nat) (hs : List Int) (hl : List (Int × Int)) (bs : List BarD) : Nat → Nat → Int := Mx.ent (augRows n hs 1 hl bs (List.replicate bs.length 0))
end K22
namespace K22
open PySem L2
theorem norm_perm {hl : List (Int × Int)} (hn : (hl.map (·.1)).Nodup) : (normH hl).Perm hl := by
  have e : (hl.map (·.1)).map (fun r => (r, lookI hl r)) = hl := by
    rw [List.map_map]
    refine (List.map_congr_left fun p hp => ?_).trans (List.map_id _)
    show (p.1, lookI hl p.1) = p
    rw [look_of hn (h := p.2) hp]
  have z := (srtI_perm (hl.map (·.1))).map fun r => (r, lookI hl r)
  rw [e] at z
  exact z
theorem norm_nd {hl : List (Int × Int)} (hn : (hl.map (·.1)).Nodup) : ((normH hl).map (·.1)).Nodup := ((norm_perm hn).map (·.1)).nodup_iff.mpr hn
end K22
namespace L2
def gcdL : Nat → List Int → Nat
  | g, [] => g
  | g, n :: r => gcdL (Nat.gcd g n.natAbs) r
theorem gcdL_append (g : Nat) (xs ys : List Int) : gcdL g (xs ++ ys) = gcdL (gcdL g xs) ys := by
  induction xs generalizing g with
  | nil => rfl
  | cons x r ih => exact ih _
theorem gcdL_gcd (g h : Nat) (xs : List Int) : gcdL (Nat.gcd g h) xs = Nat.gcd g (gcdL h xs) := by
  induction xs generalizing h with
  | nil => rfl
  | cons x r ih =>
    show gcdL (Nat.gcd (Nat.gcd g h) x.natAbs) r = Nat.gcd g (gcdL (Nat.gcd h x.natAbs) r)
    rw [Nat.gcd_assoc, ih]
theorem gcdL_dvd_start (g : Nat) (xs : List Int) : gcdL g xs ∣ g := by
  induction xs generalizing g with
  | nil => exact Nat.dvd_refl _
  | cons x r ih => exact Nat.dvd_trans (ih _) (Nat.gcd_dvd_left _ _)
theorem gcdL_dvd {g : Nat} {xs : List Int} {x : Int} (h : x ∈ xs) : gcdL g xs ∣ x.natAbs := by
  induction xs generalizing g with
  | nil => cases h
  | cons y r ih =>
    rcases List.mem_cons.mp h with e | h
    · subst e
      exact Nat.dvd_trans (gcdL_dvd_start _ r) (Nat.gcd_dvd_right _ _)
    · exact ih h
theorem gcdL_pos {g : Nat} (xs : List Int) (h : 0 < g) : 0 < gcdL g xs := Nat.pos_of_dvd_of_pos (gcdL_dvd_start g xs) h
theorem gcdL_le {g : Nat} (xs : List Int) (h : 0 < g) : gcdL g xs ≤ g := Nat.le_of_dvd h (gcdL_dvd_start g xs)
/-- what Places keeps -/
def normN (ns : List Int) (s : Int) : List Int := ns.map fun n => n / ((gcdL s.natAbs ns : Nat) : Int)
def normP (ns : List Int) (s : Int) : Int := s / ((gcdL s.natAbs ns : Nat) : Int)
theorem div_mul_back {g : Nat} {x : Int} (h : g ∣ x.natAbs) : x / (g : Int) * (g : Int) = x :=
  Int.ediv_mul_cancel (Int.ofNat_dvd_left.mpr h)
end L2
namespace L2
open PySem PySem.Spec PyProof.Rows
theorem ediv_abs_le {a : Int} {g : Nat} : (a / (g : Int)).natAbs ≤ a.natAbs := by
  rcases Nat.eq_zero_or_pos g with h | h
  · subst h; simp
  · exact Int.natAbs_ediv_le_natAbs a g
end L2
namespace K22
open PySem L2
section
variable {P : Program} {w : World} {K : PySem.W.Frag} {mg : Str → Option Value} {base : Heap}
def plD (C : Addr) (ns : List Int) (q : Int) : Dt := .ins C ["numbers", "parts"] [.tup (ns.map Dt.int), .int q]
def spDivisor (K : PySem.W.Frag) : Sp := fun vs H Q _ => ∃ (l : Addr) (ns : List Int), vs = [.ref l] ∧ SqQ K H l (ns.map V.int) ∧ Q (.int ((gcdL 0 ns : Nat) : Int)) H
theorem ok_divisor (T : Tx K mg) : FnOk P w K mg base (L2.CX P w) 1 T.a_divisor T.fd_divisor ["numbers"] (spDivisor K) := by
  refine T.F_divisor.okX sc_divisor (fun vs H Q E h => ?_) (fun cdv A outer s H vs Q E hr h => ?_)
  · obtain ⟨l, ns, rfl, _⟩ := h
    rfl
  · obtain ⟨l, ns, rfl, hl, k⟩ := h
    refine ⟨_, (pss_cons (ps_set (i := 1) sc_divisor.nd rfl (Or.inl rfl) pe_int)
      (pss_cons (ps_for (passes_of rfl) rfl (pi_seq (pv 0)) (pg_name (i := 2) sc_divisor.nd rfl (Or.inl rfl)) (pss_one (ps_set (i := 1) sc_divisor.nd rfl (Or.inl rfl) (pe_callBfun cr_gcd rfl T.m_gcd (pa_cons (pv 1) (pa_cons (pv 2) pa_nil))))))
      (pss_one (ps_ret (pv 1))))), ?_⟩
    refine ⟨_, rfl, l, rfl, for_seq (xs := ns.map V.int) (H0 := H) hl (fun i σ H' => H' = H ∧ ∃ v : Option V, σ = [some (.ref l), some (.int ((gcdL 0 (ns.take i) : Nat) : Int)), v]) ⟨rfl, none, rfl⟩ (fun i σ H' _ p => p.1 ▸ Ext.rfl') ?_ ?_⟩
    · rintro i y σ H' hi ⟨rfl, v, rfl⟩
      obtain ⟨n, hn, rfl⟩ : ∃ n, ns[i]? = some n ∧ y = V.int n := by
        rw [List.getElem?_map] at hi
        cases e : ns[i]? with
        | none => rw [e] at hi; cases hi
        | some n => rw [e] at hi; exact ⟨n, rfl, (Option.some.inj hi).symm⟩
      have step : gcdL 0 (ns.take (i + 1)) = Nat.gcd (gcdL 0 (ns.take i)) n.natAbs := by
        rw [List.take_add_one, hn, gcdL_append]
        rfl
      refine ⟨_, rfl, _, rfl, _, _, rfl, rfl, some (.int n), ?_⟩
      rw [step, Int.natAbs_natCast]
      rfl
    · rintro σ H' ⟨rfl, v, rfl⟩
      rw [List.length_map, List.take_length]
      exact ⟨_, rfl, k⟩
/-- tops over a bottom above nought, in lowest terms: a new tuple of a new tuple and a number -/
def spLowest (K : PySem.W.Frag) : Sp := fun vs H Q _ => ∃ (l : Addr) (ns : List Int) (s : Int), vs = [.ref l, .int s] ∧ SqQ K H l (ns.map V.int) ∧ ns.length ≤ 1000 ∧ 1 ≤ s ∧ s.natAbs < 2 ^ 8000 ∧
  ∀ t u H', Ext H H' → H t = none → H u = none → H' t = some (.tup ((normN ns s).map V.int)) → H' u = some (.tup [.ref t, .int (normP ns s)]) → Q (.ref u) H'
theorem ok_lowest (T : Tx K mg) : FnOk P w K mg base (L2.CX P w) 2 T.a_lowest T.fd_lowest ["tops", "bottom"] (spLowest K) := by
  refine T.F_lowest.okX sc_lowest (fun vs H Q E h => ?_) (fun cdv A outer s H vs Q E hr h => ?_)
  · obtain ⟨l, ns, s, rfl, _⟩ := h
    rfl
  · obtain ⟨l, ns, sh, rfl, hq, hlen, hs1, hbig, k⟩ := h
    refine ⟨_, (pss_cons (ps_set (i := 2) sc_lowest.nd rfl (Or.inr rfl) (pe_callBfun cr_gcd rfl T.m_gcd (pa_cons (pe_call (ok_divisor T) (hr.mono (by decide)) rfl T.m_divisor T.F_divisor.kp T.b_divisor .nil passL (pa_cons (pv 0) pa_nil)) (pa_cons (pv 1) pa_nil))))
      (pss_one (ps_ret (pe_tup (pa_cons (pe_callTy call_tuple_of (by rfl) T.z_tuple (by decide +kernel) (pa_cons (pe_lc (own := [("top", 3)]) (g := gName 3) (tt := tYes) (by rfl) sc_lowest.nd (pi_seq (pv 0)) (blkOk_by (own := [("top", 3)]) (N := N_lowest) (sc := defScope s_lowest) (by decide +kernel)) (fun _ _ _ _ _ => (pg_name (i := 3) sc_lowest.nd rfl (Or.inl rfl))) (fun _ _ _ _ _ => pts_nil) (fun _ _ _ _ _ => (pe_op op_fdivW (pv 3) (pv 2)))) pa_nil)) (pa_cons (pe_op op_fdivW (pv 1) (pv 2)) pa_nil)))))), ?_⟩
    have hg0 : 0 < gcdL sh.natAbs ns := gcdL_pos ns (by omega)
    have hgb : gcdL sh.natAbs ns < 2 ^ 8000 := Nat.lt_of_le_of_lt (gcdL_le ns (by omega)) hbig
    have eg : Nat.gcd ((gcdL 0 ns : Nat) : Int).natAbs sh.natAbs = gcdL sh.natAbs ns := by
      rw [Int.natAbs_natCast, Nat.gcd_comm, ← gcdL_gcd, Nat.gcd_zero_right]
    refine ⟨_, rfl, l, ns, rfl, hq, _, rfl, _, _, rfl, ?_⟩
    dsimp only
    rw [eg]
    refine ⟨_, rfl, l, rfl, lc_seq (xs := ns.map V.int) hq Ext.rfl' (fun D i H' => Ext H H' ∧ H' D = some (.lst (((ns.take i).map fun n => n / ((gcdL sh.natAbs ns : Nat) : Int)).map V.int)))
      (fun D hD => ⟨Ext.upd hD, upd_same⟩) (fun D i H' _ p => p.1) ?_ ?_⟩
    · rintro D i y H' hD hi ⟨e1, hD1⟩
      obtain ⟨n, hn, rfl⟩ : ∃ n, ns[i]? = some n ∧ y = V.int n := by
        rw [List.getElem?_map] at hi
        cases e : ns[i]? with
        | none => rw [e] at hi; cases hi
        | some n => rw [e] at hi; exact ⟨n, rfl, (Option.some.inj hi).symm⟩
      have hin : i < ns.length := (List.getElem?_eq_some_iff.mp hn).1
      refine ⟨rfl, tyes ?_⟩
      refine ⟨_, rfl, _, rfl, _, _, rfl, rfl, wide_div (b := 8000) (by omega) (by rw [Int.natAbs_natCast]; exact hgb) (by decide) (by decide), ?_⟩
      refine ⟨_, hD1, ?_, e1.mut hD, ?_⟩
      · rw [List.length_map, List.length_map, List.length_take]
        exact Nat.lt_of_lt_of_le (show min i ns.length < 2000 by omega) (by decide)
      · rw [upd_same, List.take_add_one, hn, List.map_append, List.map_append]
        rfl
    · rintro D H' hD ⟨e1, hD1⟩
      rw [List.length_map, List.take_length] at hD1
      refine ⟨D, _, rfl, .inl ⟨SqL.of hD1, fun t ht => ?_⟩⟩
      refine ⟨_, rfl, _, rfl, _, _, rfl, rfl, wide_div (b := 8000) (by omega) (by rw [Int.natAbs_natCast]; exact hgb) (by decide) (by decide), (by show 2 ≤ sizeLine; decide), fun u hu => ?_⟩
      have htu : t ≠ u := ne_of_none upd_same hu
      have hu' : H' u = none := by rw [upd_ne htu.symm] at hu; exact hu
      refine k t u _ ((e1.trans (Ext.upd ht)).trans (Ext.upd hu)) (e1.fresh ht) (e1.fresh hu') ?_ upd_same
      rw [upd_ne htu, upd_same]
      rfl
def spPlaces (K : PySem.W.Frag) (C B : Addr) : Sp := fun vs H Q E => ∃ (H0 : Hp) (x dx l : Addr) (ns : List Int) (s : Int), vs = [.ref x, .ref l, .int s] ∧ H0 x = none ∧ H0 dx = none ∧ dx ≠ x ∧ H = upd (upd H0 dx (.own x)) x (.ins C dx []) ∧
  SqQ K H0 l (ns.map V.int) ∧ ns.length ≤ 1000 ∧ s.natAbs < 2 ^ 8000 ∧ (s < 1 → ∀ d H', Ext H0 H' → H0 d = none → H' d = some (.xd [("count", .int s), ("what", .str "parts")]) → E (.ref B) (some d) H') ∧
  (1 ≤ s → ∀ H', Ext H0 H' → Is K H' (plD C (normN ns s) (normP ns s)) (.ref x) → Q .non H')
theorem ok_Places_init (T : Tx K mg) : FnOk P w K mg base (L2.CX P w) 4 T.a_Places_init T.fd_Places_init ["self", "numbers", "parts"] (spPlaces K T.C_Places T.C_BadCount) := by
  refine T.F_Places_init.okX sc_Places_init (fun vs H Q E h => ?_) (fun cdv A outer s H vs Q E hr h => ?_)
  · obtain ⟨H0, x, dx, l, ns, s, rfl, _⟩ := h
    rfl
  · obtain ⟨H0, x, dx, l, ns, sh, rfl, hx, hdx, hne, rfl, hq, hlen, hbig, kE, kQ⟩ := h
    refine ⟨_, (pss_cons (ps_if (pt_cmpR op_lt (pv 2) pe_int (nomark _)) (pss_one (ps_raiseX T.X_BadCount (ok_BadCount_init T) (hr.mono (by decide)) rfl (takes_of rfl rfl rfl rfl) rfl (pa_cons pe_str (pa_cons (pv 2) pa_nil)))) pss_nil)
      (pss_one (ps_asg (pe_call (ok_lowest T) (hr.mono (by decide)) rfl T.m_lowest T.F_lowest.kp T.b_lowest .nil passL (pa_cons (pv 1) (pa_cons (pv 2) pa_nil))) (pg_tup (by rfl) (pgs_cons (pg_fld (pv 0)) (pgs_cons (pg_fld (pv 0)) pgs_nil)))))), ?_⟩
    have eH : Ext H0 (upd (upd H0 dx (.own x)) x (.ins T.C_Places dx [])) := (Ext.upd hdx).mut hx
    refine ⟨_, rfl, _, _, rfl, rfl, _, rfl, ?_⟩
    refine ite2 (fun hc => ?_) (fun hc => ?_)
    · have hs1 := of_decide_eq_true hc
      refine ⟨_, rfl, rz_ok (n := 2) rfl (by decide) fun d hd => ?_⟩
      refine kE hs1 d _ (eH.trans (Ext.upd hd)) (eH.fresh hd) upd_same
    · have hs1 : 1 ≤ sh := by
        have : ¬ (sh < 1) := fun z => hc (decide_eq_true z)
        omega
      refine ⟨_, rfl, _, rfl, l, ns, sh, rfl, hq.ext eH, hlen, hs1, hbig, fun t u H' e1 ht hu ht1 hu1 => ?_⟩
      have hxt : x ≠ t := ne_of_none upd_same ht
      have hxu : x ≠ u := ne_of_none upd_same hu
      have hx' : H' x = some (.ins T.C_Places dx []) := e1 x _ upd_same
      refine ⟨u, _, rfl, SqT.of hu1, rfl, ?_⟩
      refine ⟨_, _, rfl, ⟨_, rfl, x, T.C_Places, dx, [], rfl, hx', T.c_Places, T.nf_Places_numbers, (by show 0 < 1000; decide), ?_⟩⟩
      refine ⟨_, _, rfl, ⟨_, rfl, x, T.C_Places, dx, _, rfl, upd_same, T.c_Places, T.nf_Places_parts, (by show 1 < 1000; decide), ?_⟩⟩
      refine ⟨rfl, ?_⟩
      refine kQ hs1 _ (((eH.trans e1).mut hx).mut hx) ⟨x, dx, [("numbers", .ref t), ("parts", .int (normP ns sh))], rfl, ?_, rfl, ?_⟩
      · rw [upd_same]
        rfl
      · refine ⟨_, _, rfl, ⟨t, _, rfl, SqT.of (xs := (normN ns sh).map V.int) ?_, isL_ints _⟩, _, _, rfl, rfl, rfl⟩
        rw [upd_ne hxt.symm, upd_ne hxt.symm]
        exact ht1
end
end K22
namespace K22
open PySem L2
section
variable {n : Nat} {q : Int} {hl : List (Int × Int)} {bs : List BarD} {ns : List Int}
abbrev bxI (n : Nat) (q : Int) (hl : List (Int × Int)) (bs : List BarD) (ns : List Int) : Nat → Nat → Int := Mx.bx (augA n (hangL (n : Int) hl) hl bs) (augB n (hangL (n : Int) hl) hl bs) (fun i => ns.getD i 0) fun _ => q
def bR (n : Nat) (hl : List (Int × Int)) (bs : List BarD) (t : Nat) (row : List Int) : Int := Mx.det bs.length (Mx.rr (bxI n 1 hl bs row) t (augB n (hangL (n : Int) hl) hl bs t))
end
end K22
namespace K22
open PySem L2
section
variable {P : Program} {w : World} {K : PySem.W.Frag} {mg : Str → Option Value} {base : Heap}
def plF : List Str := ["numbers", "parts"]
def plT (ns : List Int) (q : Int) : List Dt := [.tup (ns.map Dt.int), .int q]
theorem two_fields {a : Addr} {H : Hp} {kvs : List (Str × V)} {ns : List Int} {q : Int} (ek : kvs.map (·.1) = plF) (hl : IsL K H (plT ns q) (kvs.map (·.2))) :
    ∃ t : Addr, kvs = ([("numbers", V.ref t), ("parts", V.int q)] : List (Str × V)) ∧ SqT K H t (ns.map V.int) := by
  match kvs, ek, hl with
  | [(f, x), (g, y)], ek, ⟨v, r, e1, ⟨t, xs, e2, hs, hl⟩, v2, r2, e3, e4, e5⟩ =>
    simp only [plF, List.map_cons, List.map_nil] at ek e1
    injection ek with f1 ek
    injection ek with f2 _
    injection e1 with a1 a2
    subst a1 a2
    injection e3 with b1 b2
    subst b1 b2 e2
    rw [of_isL_ints hl] at hs
    rw [f1, f2, show y = V.int q from e4]
    exact ⟨t, rfl, hs⟩
theorem pl_fields {C : Addr} {H : Hp} {ns : List Int} {q : Int} {v : V} (i : Is K H (plD C ns q) v) : ∃ (a dx t : Addr), v = .ref a ∧ H a = some (.ins C dx [("numbers", .ref t), ("parts", .int q)]) ∧ SqT K H t (ns.map V.int) := by
  obtain ⟨a, dx, kvs, rfl, ha, ek, h⟩ := i
  obtain ⟨t, rfl, ht⟩ := two_fields (a := a) ek h
  exact ⟨a, dx, t, rfl, ha, ht⟩
theorem ints_dep {ns : List Int} : dep (.tup (ns.map Dt.int)) ≤ 8 := by
  show depL _ + 1 ≤ 8
  rw [depL_ints]
  decide
end
end K22
namespace K22
open PySem L2 RZ
theorem normP_pos {ns : List Int} {s : Int} (hs : 1 ≤ s) : 1 ≤ normP ns s := by
  have h := gcdL_pos (g := s.natAbs) ns (by omega)
  exact Int.ediv_pos_of_pos_of_dvd (by omega) (by omega) (Int.ofNat_dvd_left.mpr (gcdL_dvd_start _ ns))
theorem normP_le {ns : List Int} {s : Int} : (normP ns s).natAbs ≤ s.natAbs := ediv_abs_le
/-- what was taken out of all -/
def gOf (ns : List Int) (s : Int) : Int := ((gcdL s.natAbs ns : Nat) : Int)
theorem gOf_pos {ns : List Int} {s : Int} (hs : 1 ≤ s) : 1 ≤ gOf ns s := by
  have h := gcdL_pos (g := s.natAbs) ns (by omega)
  unfold gOf
  omega
theorem normP_back (ns : List Int) (s : Int) : normP ns s * gOf ns s = s := div_mul_back (gcdL_dvd_start _ ns)
theorem len_norm (ns : List Int) (s : Int) : (normN ns s).length = ns.length := by unfold normN; rw [List.length_map]
theorem norm_at {ns : List Int} {s : Int} {i : Nat} {y : Int} (h : (normN ns s)[i]? = some y) : ∃ x, ns[i]? = some x ∧ y * gOf ns s = x := by
  unfold normN at h
  rw [List.getElem?_map] at h
  cases e : ns[i]? with
  | none => rw [e] at h; cases h
  | some x =>
    rw [e] at h
    cases h
    exact ⟨x, rfl, div_mul_back (gcdL_dvd (List.mem_of_getElem? e))⟩
theorem norm_of {ns : List Int} {s : Int} {i : Nat} {x : Int} (h : ns[i]? = some x) : ∃ y, (normN ns s)[i]? = some y ∧ y * gOf ns s = x := by
  unfold normN
  rw [List.getElem?_map, h]
  exact ⟨_, rfl, div_mul_back (gcdL_dvd (List.mem_of_getElem? h))⟩
end K22
namespace K22
open PySem L2
section
variable {P : Program} {w : World} {K : PySem.W.Frag} {mg : Str → Option Value} {base : Heap}
theorem ok_BadPlace_init (T : Tx K mg) : FnOk P w K mg base CX0 1 T.a_BadPlace_init T.fd_BadPlace_init ["self", "bar"] (spX T.C_BadPlace 1 (fo1 "bar")) := by
  refine T.F_BadPlace_init.ok sc_BadPlace_init (fun vs H Q E h => ?_) (fun cdv A outer s H vs Q E hr h => ?_)
  · obtain ⟨H0, a, ws, rfl, hn, _⟩ := h
    rw [List.length_cons, hn] <;> rfl
  · obtain ⟨H0, a, ws, rfl, hn, ha, rfl, k⟩ := h
    match ws, hn with
    | [x], _ =>
      refine ⟨_, pss_one (ps_ost (pv 0) (pv 1)), ?_⟩
      refine ⟨_, rfl, _, rfl, a, T.C_BadPlace, rfl, T.O_BadPlace, T.nf_BadPlace_bar, .inl ⟨upd_same, fun d hd hda => ?_⟩⟩
      rw [upd_ne hda] at hd
      rw [exo1 hda]
      exact k d hd hda
inductive Pf where
  | cnt (n : Int) | place (k : Int)
def Pf.fs : Pf → List (Str × V)
  | .cnt n => [("count", .int n), ("what", .str "places")]
  | .place k => [("bar", .int k)]
def Pf.C (T : Tx K mg) : Pf → Addr
  | .cnt _ => T.C_BadCount
  | .place _ => T.C_BadPlace
def Pf.E (T : Tx K mg) (r : Pf) (E : XK) (H : Hp) : Prop := ∀ d H', Ext H H' → H d = none → H' d = some (.xd r.fs) → E (.ref (r.C T)) (some d) H'
def offPl (q : Int) (b : BarD) (x : Int) : Bool := !(decide (0 ≤ x) && decide (x ≤ b.len * q))
def ckPlF (q : Int) : Nat → List BarD → List Int → Option Pf
  | k, b :: bs, x :: xs => if offPl q b x = true then some (.place (k : Nat)) else ckPlF q (k + 1) bs xs
  | _, _, _ => none
def ckPl (q : Int) (bs : List BarD) (ns : List Int) : Option Pf := if ¬ (ns.length : Int) = bs.length then some (.cnt ns.length) else ckPlF q 0 bs ns
theorem pl_at {q : Int} : ∀ {bs : List BarD} {ns : List Int} {k i : Nat} {b : BarD} {x : Int}, (∀ (j : Nat) (c : BarD) (y : Int), j < i → bs[j]? = some c → ns[j]? = some y → offPl q c y = false) → bs[i]? = some b → ns[i]? = some x → offPl q b x = true → ckPlF q k bs ns = some (.place ((k + i : Nat) : Int))
  | [], _, _, _, _, _, _, h, _, _ => by simp at h
  | _ :: _, [], _, _, _, _, _, _, h, _ => by simp at h
  | c :: bs, y :: ns, k, 0, b, x, _, h1, h2, ho => by
    cases (show some c = some b from h1)
    cases (show some y = some x from h2)
    unfold ckPlF
    rw [if_pos ho]
    rfl
  | c :: bs, y :: ns, k, i + 1, b, x, hb, h1, h2, ho => by
    unfold ckPlF
    rw [if_neg (by rw [hb 0 c y (Nat.succ_pos _) rfl rfl]; exact Bool.false_ne_true), pl_at (bs := bs) (ns := ns) (k := k + 1) (i := i) (fun j d z hj e1 e2 => hb (j + 1) d z (Nat.succ_lt_succ hj) e1 e2) h1 h2 ho, Nat.succ_add]
    rfl
theorem pl_no {q : Int} : ∀ {bs : List BarD} {ns : List Int} {k : Nat}, (∀ (j : Nat) (c : BarD) (y : Int), bs[j]? = some c → ns[j]? = some y → offPl q c y = false) → ckPlF q k bs ns = none
  | [], _, _, _ => by unfold ckPlF; rfl
  | _ :: _, [], _, _ => by unfold ckPlF; rfl
  | c :: bs, y :: ns, k, h => by
    unfold ckPlF
    rw [if_neg (by rw [h 0 c y rfl rfl]; exact Bool.false_ne_true)]
    exact pl_no fun j d z e1 e2 => h (j + 1) d z e1 e2
def spCkPl (K : PySem.W.Frag) (T : Tx K mg) : Sp := fun vs H Q E => ∃ (v u : V) (n : Int) (bs : List BarD) (hl : List (Int × Int)) (ns : List Int) (q : Int), vs = [v, u] ∧ Is K H (wbD T.C_Web T.C_Bar n bs hl) v ∧ Is K H (plD T.C_Places ns q) u ∧ (∀ b ∈ bs, 0 ≤ b.len ∧ b.len ≤ 1000000) ∧
  (∀ r, ckPl q bs ns = some r → r.E T E H) ∧ (ckPl q bs ns = none → ∀ H', Ext H H' → Q .non H')
theorem ok_check_places (T : Tx K mg) : FnOk P w K mg base (L2.CX P w) 4 T.a_check_places T.fd_check_places ["web", "places"] (spCkPl K T) := by
  refine T.F_check_places.okX sc_check_places (fun vs H Q E h => ?_) (fun cdv A outer s H vs Q E hr h => ?_)
  · obtain ⟨v, u, n, bs, hl, ns, q, rfl, _⟩ := h
    rfl
  · obtain ⟨v, u, n, bs, hl, ns, q, rfl, hv, hu, hlen, kE, kQ⟩ := h
    refine ⟨_, (pss_cons (ps_if (pt_cmpR op_ne (pe_callB call_len_seq (by rfl) T.z_len PySem.boot_len (pa_cons (pe_fld (pv 1) rfl) pa_nil)) (pe_callB call_len_seq (by rfl) T.z_len PySem.boot_len (pa_cons (pe_fld (pv 0) rfl) pa_nil)) (nomark _)) (pss_one (ps_raiseX T.X_BadCount (ok_BadCount_init T) (hr.mono (by decide)) rfl (takes_of rfl rfl rfl rfl) rfl (pa_cons pe_str (pa_cons (pe_callB call_len_seq (by rfl) T.z_len PySem.boot_len (pa_cons (pe_fld (pv 1) rfl) pa_nil)) pa_nil)))) pss_nil)
      (pss_one (ps_for (passes_of rfl) rfl (pi_enumQ (by rfl) T.z_enumerate (pa_cons (pe_fld (pv 0) rfl) pa_nil)) (pg_tup rfl (pgs_cons (pg_name (i := 2) sc_check_places.nd rfl (Or.inl rfl)) (pgs_cons (pg_name (i := 3) sc_check_places.nd rfl (Or.inl rfl)) pgs_nil))) (pss_one (ps_if (pt_not (pt_chain op_le op_le pe_int (pe_ix ix_tup (pe_fld (pv 1) rfl) (pv 2) (fun _ _ => rfl)) (pe_op op_mul (pe_fld (pv 3) rfl) (pe_fld (pv 1) rfl)))) (pss_one (ps_raiseX T.X_BadPlace (ok_BadPlace_init T) (hr.mono (by decide)) rfl (takes_of rfl rfl rfl rfl) rfl (pa_cons (pv 2) pa_nil))) pss_nil))))), ?_⟩
    obtain ⟨a, dx, t, d, ws, rfl, ha, ht, hb, hd⟩ := wb_fields hv
    obtain ⟨b, dy, tn, rfl, hb2, htn⟩ := pl_fields hu
    have hwl : ws.length = bs.length := by rw [isL_len hb, List.length_map]
    refine ⟨_, rfl, b, T.C_Places, dy, _, _, rfl, hb2, T.c_Places, T.nf_Places_numbers, rfl, tn, _, rfl, .inr htn, _, rfl, a, T.C_Web, dx, _, _, rfl, ha, T.c_Web, T.nf_Web_bars, rfl, t, _, rfl, .inr ht, rfl, _, rfl, ite2 (fun c => ?_) (fun c => ?_)⟩
    · refine ⟨_, rfl, b, T.C_Places, dy, _, _, rfl, hb2, T.c_Places, T.nf_Places_numbers, rfl, tn, _, rfl, .inr htn, rz_ok (n := 2) rfl (by decide) fun d' hd' => ?_⟩
      have hne : ¬ (ns.length : Int) = bs.length := fun z => by
        rw [List.length_map, hwl, z] at c
        simp at c
      refine kE (.cnt ns.length) (by unfold ckPl; exact if_pos hne) d' _ (Ext.upd hd') hd' ?_
      rw [upd_same, List.length_map]
      rfl
    · have heq : ns.length = bs.length := Classical.byContradiction fun z => c (by
        rw [List.length_map, hwl, decide_eq_false (fun y => z (by have := V.int.inj y; omega))]
        rfl)
      have hck : ckPl q bs ns = ckPlF q 0 bs ns := by
        unfold ckPl
        exact if_neg (fun z => z (by rw [heq]))
      rw [hck] at kQ
      simp only [hck] at kE
      refine ⟨_, rfl, a, T.C_Web, dx, _, _, rfl, ha, T.c_Web, T.nf_Web_bars, rfl, t, rfl, for_enumQ (H0 := H) (.inr ht) (fun i σ H' => Ext H H' ∧ (∀ (j : Nat) (c : BarD) (y : Int), j < i → bs[j]? = some c → ns[j]? = some y → offPl q c y = false) ∧ ∃ v2 v3 : Option V, σ = [some (.ref a), some (.ref b), v2, v3])
        ⟨Ext.rfl', fun j c y hj => absurd hj (Nat.not_lt_zero _), none, none, rfl⟩ (fun i σ H' _ p => p.1) ?_ ?_⟩
      · rintro i y σ H1 tp hi ⟨e1, hno, v2, v3, rfl⟩ htp
        obtain ⟨d0, hd0, iy⟩ := hb.get hi
        obtain ⟨bb, hbb, rfl⟩ : ∃ bb, bs[i]? = some bb ∧ d0 = brD T.C_Bar bb := by
          rw [List.getElem?_map] at hd0
          cases e : bs[i]? with
          | none => rw [e] at hd0; cases hd0
          | some b => rw [e] at hd0; exact ⟨b, rfl, (Option.some.inj hd0).symm⟩
        have hin : i < ns.length := by
          rw [heq]
          exact (List.getElem?_eq_some_iff.mp hbb).1
        have hx : ns[i]? = some ns[i] := List.getElem?_eq_getElem hin
        generalize ns[i] = x at hx
        have e2 : Ext H (upd H1 tp (.tup [.int (i : Nat), y])) := e1.trans (Ext.upd htp)
        refine ⟨tp, _, rfl, SqT.of upd_same, rfl, _, _, rfl, _, _, rfl, rfl, ?_⟩
        generalize upd H1 tp (.tup [.int (i : Nat), y]) = H2 at e2 ⊢
        obtain ⟨ab, adx, rfl, hab⟩ := br_fields (iy.ext e2)
        have hb3 := e2 _ _ hb2
        have hl1 := hlen bb (List.mem_of_getElem? hbb)
        have rz : offPl q bb x = true → ∀ d', H2 d' = none → E (.ref T.C_BadPlace) (some d') (upd H2 d' (.xd (fo1 "bar" [V.int (i : Nat)]))) := fun ho d' hd' =>
          kE (.place ((0 + i : Nat) : Int)) (pl_at hno hbb hx ho) d' _ (e2.trans (Ext.upd hd')) (e2.fresh hd') (by rw [upd_same, Nat.zero_add]; rfl)
        refine ⟨_, rfl, b, T.C_Places, dy, _, _, rfl, hb3, T.c_Places, T.nf_Places_numbers, rfl, _, rfl, tn, _, (i : Nat), V.int x, rfl, rfl, htn.ext e2, atI_nat (by rw [List.getElem?_map, hx]; rfl), _, _, rfl, rfl, _, rfl, ite2 (fun c2 => ?_) (fun c2 => ?_)⟩
        · refine ⟨_, rfl, ab, T.C_Bar, adx, _, _, rfl, hab, T.c_Bar, T.nf_Bar_length, rfl, _, rfl, b, T.C_Places, dy, _, _, rfl, hb3, T.c_Places, T.nf_Places_parts, rfl, _, _, rfl, rfl, .inl ⟨by omega, by omega⟩, _, _, rfl, rfl, _, rfl, ite2 (fun c3 => ?_) (fun c3 => ?_)⟩
          · refine ⟨_, rfl, rz_ok (n := 1) rfl (by decide) (rz ?_)⟩
            unfold offPl
            rw [c2, Bool.true_and]
            exact c3
          · refine ⟨e2, fun j c y hj hc hy => ?_, _, _, rfl⟩
            by_cases hji : j = i
            · subst hji
              rw [hbb] at hc
              rw [hx] at hy
              cases hc
              cases hy
              unfold offPl
              rw [c2, Bool.true_and]
              exact Bool.eq_false_iff.mpr c3
            · exact hno j c y (by omega) hc hy
        · refine ⟨_, rfl, ite2 (fun c3 => ?_) (fun c3 => absurd rfl c3)⟩
          refine ⟨_, rfl, rz_ok (n := 1) rfl (by decide) (rz ?_)⟩
          unfold offPl
          rw [Bool.eq_false_iff.mpr c2]
          rfl
      · rintro σ H1 ⟨e1, hno, v2, v3, rfl⟩
        refine kQ (pl_no fun j c y h1 h2 => hno j c y ?_ h1 h2) _ e1
        have := (List.getElem?_eq_some_iff.mp h1).1
        omega
end
end K22
namespace L2
open PySem PySem.Spec PyProof.Rows
/-- ints of a range that pass a test which may make new things -/
theorem lc_rangePX {lo : Int} {n : Nat} {g : TG} {tt : TT} {te : TE} {vs : List Nat} {σ : St} {H1 : Hp} {Q : Addr → Hp → Prop} (p : Nat → Bool) (hz : n ≤ 1000)
    (hs : ∀ (i : Nat), i < n → ∀ (H : Hp), Ext H1 H → ∀ (R : V → Hp → Prop) (N : Hp → Prop), (∀ H', Ext H H' → if p i = true then R (.int (lo + i)) H' else N H') → g (.int (lo + (i : Nat))) (wipe σ vs) H fun σ2 H2 => wipe σ2 vs = wipe σ vs ∧ tt σ2 H2 fun b H3 => if b = true then te σ2 H3 R else N H3)
    (hd : ∀ D H', H1 D = none → Ext H1 H' → H' D = some (.lst (((List.range n).filter p).map fun i : Nat => V.int (lo + i))) → Q D H') : ∀ D, H1 D = none →
    ∃ W : Nat → Nat → Hp → Prop, (∃ m, W 0 m (upd H1 D (.lst []))) ∧ ∀ i m H, W i m H →
      ((Itr lo n).stop i H ∧ Q D H) ∨ ((Itr lo n).go i H ∧ ∃ Nx : Hp → Prop, (∀ H', Nx H' → ∃ m', m' < m ∧ W (i + 1) m' H') ∧ ∀ x H', (Itr lo n).yld i H x H' → g x (wipe σ vs) H' fun σ2 H2 => wipe σ2 vs = wipe σ vs ∧ tt σ2 H2 fun b H3 =>
        if b = true then te σ2 H3 fun y H4 => ∃ acc, H4 D = some (.lst acc) ∧ acc.length < sizeLine ∧ Nx (upd H4 D (.lst (acc ++ [y]))) else Nx H3) := fun D hD => by
  refine lc_range (lo := lo) (n := n) (fun i H' => Ext H1 H' ∧ H' D = some (.lst (((List.range i).filter p).map fun i : Nat => V.int (lo + i)))) ⟨Ext.upd hD, upd_same⟩ ?_ ?_
  · rintro i H' hi ⟨e1, hD1⟩
    have et : (List.range (i + 1)).filter p = (List.range i).filter p ++ (if p i = true then [i] else []) := by
      rw [List.range_succ, List.filter_append]
      congr 1
      rw [List.filter_cons]
      rfl
    refine hs i hi H' e1 _ _ fun H2 e2 => ?_
    by_cases hp : p i = true
    · rw [if_pos hp]
      refine ⟨_, e2 _ _ hD1, ?_, (e1.trans e2).mut hD, ?_⟩
      · rw [List.length_map]
        exact Nat.lt_of_le_of_lt (List.length_filter_le _ _) (Nat.lt_of_lt_of_le (show (List.range i).length < 2000 by rw [List.length_range]; omega) (by decide))
      · rw [upd_same, et, if_pos hp, List.map_append]
        rfl
    · rw [if_neg hp]
      refine ⟨e1.trans e2, ?_⟩
      rw [e2 _ _ hD1, et, if_neg hp, List.append_nil]
  · rintro H' ⟨e1, hD1⟩
    exact hd D H' hD e1 hD1
end L2
namespace K22
open PySem L2 RZ
/-- what clearing keeps -/
theorem clrSt_cl {n m : Nat} {rs : List (List Int)} (sq : Mx.Sq n m rs) : ∀ i, i ≤ n → ∃ r k s, clrSt n rs i = (r, k, s) ∧ Mx.Cl n m i (Mx.ent rs) r k s
  | 0, _ => ⟨rs, [], 1, rfl, Mx.Cl.start sq⟩
  | i + 1, hi => by
    obtain ⟨r, k, s, e, C⟩ := clrSt_cl sq i (by omega)
    cases hf : (List.range (n - k.length)).filter (fun j => decide (Mx.ent r (k.length + j) i ≠ 0)) with
    | nil =>
      refine ⟨r, k, s, clrSt_nil e hf, C.skip fun x h1 h2 => ?_⟩
      refine Classical.byContradiction fun z => ?_
      have : (x - k.length) ∈ (List.range (n - k.length)).filter (fun j => decide (Mx.ent r (k.length + j) i ≠ 0)) := by
        rw [List.mem_filter, List.mem_range, decide_eq_true_iff]
        exact ⟨by omega, by rw [show k.length + (x - k.length) = x by omega]; exact z⟩
      rw [hf] at this
      cases this
    | cons j0 js =>
      have hj0 : j0 ∈ (List.range (n - k.length)).filter (fun j => decide (Mx.ent r (k.length + j) i ≠ 0)) := by rw [hf]; exact List.mem_cons_self
      rw [List.mem_filter, List.mem_range, decide_eq_true_iff] at hj0
      exact ⟨_, _, _, clrSt_cons e hf, C.keep (f := k.length + j0) (by omega) (by omega) hj0.2⟩
/-- the columns in which no number is kept -/
def freeL (m : Nat) (kept : List Nat) : List Nat := (List.range m).filter fun c => !decide (c ∈ kept)
def mvL (n : Nat) (hs : List Int) (f : Nat) (s : Int) (zs : List (Nat × List Int)) : List Int := zs.foldl (fun acc z => acc.set (hs.getD z.1 0).toNat (-(z.2.getD f 0))) ((List.replicate n 0).set (hs.getD f 0).toNat s)
/-- how far each rod moves -/
def mvI (n : Nat) (hs : List Int) (rows : List (List Int)) : Option (List Int) := match clrSt rows.length rows rows.length with
  | (rs, kept, s) => match freeL rows.length kept with
    | [] => none
    | f :: _ => some (mvL n hs f s (kept.zip rs))
theorem len_mvL {n : Nat} {hs : List Int} {f : Nat} {s : Int} : ∀ zs : List (Nat × List Int), (mvL n hs f s zs).length = n := by
  have key : ∀ (zs : List (Nat × List Int)) (acc : List Int), (zs.foldl (fun acc z => acc.set (hs.getD z.1 0).toNat (-(z.2.getD f 0))) acc).length = acc.length := fun zs => by
    induction zs with
    | nil => intro acc; rfl
    | cons z zs ih => intro acc; rw [List.foldl_cons, ih, List.length_set]
  intro zs
  unfold mvL
  rw [key, List.length_set, List.length_replicate]
theorem mvL_snoc {n : Nat} {hs : List Int} {f : Nat} {s : Int} (zs : List (Nat × List Int)) (z : Nat × List Int) : mvL n hs f s (zs ++ [z]) = (mvL n hs f s zs).set (hs.getD z.1 0).toNat (-(z.2.getD f 0)) := by
  unfold mvL
  rw [List.foldl_append]
  rfl
theorem mvL_mem {n : Nat} {hs : List Int} {f : Nat} {s : Int} {zs : List (Nat × List Int)} {x : Int} (h : x ∈ mvL n hs f s zs) : x = 0 ∨ x = s ∨ ∃ z ∈ zs, x = -(z.2.getD f 0) := by
  have key : ∀ (zs : List (Nat × List Int)) (acc : List Int), x ∈ zs.foldl (fun acc z => acc.set (hs.getD z.1 0).toNat (-(z.2.getD f 0))) acc → x ∈ acc ∨ ∃ z ∈ zs, x = -(z.2.getD f 0) := fun zs => by
    induction zs with
    | nil => intro acc h; exact .inl h
    | cons z zs ih =>
      intro acc h
      rw [List.foldl_cons] at h
      rcases ih _ h with h | ⟨y, hy, e⟩
      · rcases List.mem_or_eq_of_mem_set h with h | h
        · exact .inl h
        · exact .inr ⟨z, List.mem_cons_self, h⟩
      · exact .inr ⟨y, List.mem_cons_of_mem _ hy, e⟩
  rcases key zs _ h with h | h
  · rcases List.mem_or_eq_of_mem_set h with h | h
    · exact .inl (List.mem_replicate.mp h).2
    · exact .inr (.inl h)
  · exact .inr (.inr h)
theorem free_mem {m c : Nat} {kept : List Nat} (h : c ∈ freeL m kept) : c < m ∧ c ∉ kept := by
  unfold freeL at h
  rw [List.mem_filter, List.mem_range] at h
  exact ⟨h.1, fun z => by have := h.2; rw [decide_eq_true z] at this; cases this⟩
theorem free_ne {m : Nat} {kept : List Nat} (hd : kept.Nodup) (h : ∀ c ∈ kept, c < m) (hl : kept.length < m) : freeL m kept ≠ [] := by
  obtain ⟨v, h1, h2⟩ := Mx.missing hd h hl
  intro z
  have : v ∈ freeL m kept := by
    unfold freeL
    rw [List.mem_filter, List.mem_range]
    exact ⟨h1, by rw [decide_eq_false h2]; rfl⟩
  rw [z] at this
  cases this
theorem any_kept (kept : List Nat) (i : Nat) : ((kept.map fun c : Nat => Dt.int (c : Int)).any fun e => deq e (Dt.int (i : Int))) = decide (i ∈ kept) := by
  induction kept with
  | nil => rfl
  | cons c kept ih =>
    rw [List.map_cons, List.any_cons, ih]
    show ((c : Int) == (i : Int) || decide (i ∈ kept)) = decide (i ∈ c :: kept)
    by_cases e : c = i
    · subst e
      simp
    · have e' : ¬ ((c : Int) = (i : Int)) := fun z => e (by omega)
      have e2 : ¬ i = c := fun z => e z.symm
      simp [e', e2]
section
variable {P : Program} {w : World} {K : PySem.W.Frag} {mg : Str → Option Value} {base : Heap}
def spMoveAt (K : PySem.W.Frag) (T : Tx K mg) : Sp := fun vs H Q _ => ∃ (v : V) (t : Addr) (n : Nat) (bs : List BarD) (hl : List (Int × Int)) (ns : List Int) (q : Int), vs = [v, .ref t, .int q] ∧ Is K H (wbD T.C_Web T.C_Bar (n : Int) bs hl) v ∧ SqT K H t (ns.map V.int) ∧ ns.length = bs.length ∧ n ≤ 10 ∧ bs.length ≤ 8 ∧ (∀ b ∈ bs, BarOk (n : Int) b) ∧ (hangL (n : Int) hl).length = bs.length ∧ (∀ x ∈ ns, x.natAbs < 2 ^ 440) ∧ q.natAbs < 2 ^ 440 ∧
  (mvI n (hangL (n : Int) hl) (tabRows n (hangL (n : Int) hl) q bs ns) = none → ∀ H', Ext H H' → Q .non H') ∧
  (∀ M, mvI n (hangL (n : Int) hl) (tabRows n (hangL (n : Int) hl) q bs ns) = some M → ∀ D H', Ext H H' → H D = none → H' D = some (.lst (M.map V.int)) → (∀ x ∈ M, x.natAbs < 2 ^ 5000) → Q (.ref D) H')
theorem ok_move_at (T : Tx K mg) : FnOk P w K mg base (L2.CX P w) 14 T.a_move_at T.fd_move_at ["web", "numbers", "parts"] (spMoveAt K T) := by
  refine T.F_move_at.okX sc_move_at (fun vs H Q E h => ?_) (fun cdv A outer s H vs Q E hr h => ?_)
  · obtain ⟨v, t, n, bs, hl, ns, q, rfl, _⟩ := h
    rfl
  · obtain ⟨v, tn, n, bs, hl, ns, q, rfl, hv, htn, hnl, hn, h8, hbo, hhl, hx, hq, k0, k⟩ := h
    rw [show L2.start N_move_at [v, .ref tn, .int q] = [some v, some (.ref tn), some (.int q), none, none, none, none, none, none, none, none, none] from rfl]
    refine ⟨_, (pss_cons (ps_set (i := 3) sc_move_at.nd rfl (Or.inl rfl) (pe_call (ok_table T) (hr.mono (by decide)) rfl T.m_table T.F_table.kp T.b_table .nil passL (pa_cons (pv 0) (pa_cons (pv 1) (pa_cons (pv 2) pa_nil)))))
      (pss_cons (ps_asg (pe_call (ok_cleared T) (hr.mono (by decide)) rfl T.m_cleared T.F_cleared.kp T.b_cleared .nil passL (pa_cons (pv 3) (pa_cons (pe_callB call_len_seq (by rfl) T.z_len PySem.boot_len (pa_cons (pv 3) pa_nil)) pa_nil))) (pg_tup (by rfl) (pgs_cons (pg_name (i := 4) sc_move_at.nd rfl (Or.inl rfl)) (pgs_cons (pg_name (i := 5) sc_move_at.nd rfl (Or.inr rfl)) (pgs_cons (pg_name (i := 6) sc_move_at.nd rfl (Or.inl rfl)) pgs_nil)))))
      (pss_cons (ps_set (i := 7) sc_move_at.nd rfl (Or.inl rfl) (pe_meth0 (pv 0) T.c_Web T.M_Web_hanging (ok_Web_hanging T) (hr.mono (by decide)) T.b_Web_hanging .nil passL))
      (pss_cons (ps_setLc (i := 8) (own := [("column", 10)]) (g := gName 10) (te := tVar 10) (by rfl) sc_move_at.nd rfl rfl (sw_true rfl rfl rfl (by decide +kernel)) (pi_range1 rfl T.z_range (pa_cons (pe_callB call_len_seq (by rfl) T.z_len PySem.boot_len (pa_cons (pv 7) pa_nil)) pa_nil)) (blkOk_by (own := [("column", 10)]) (N := N_move_at) (sc := defScope s_move_at) (by decide +kernel)) (fun _ _ _ _ _ => (pg_name (i := 10) sc_move_at.nd rfl (Or.inl rfl))) (fun _ _ _ _ _ => (pts_one (pt_cmpR (r := rNiO K fun _ _ _ => False) (op_niO pureTab hr (show 0 + 9 ≤ 13 by decide)) (pv 10) (pv 5) rfl))) (fun _ _ _ _ _ => (pv 10)))
      (pss_cons (ps_if (pt_not (pt_truth (pv 8) (by intro _; rfl))) (pss_one (ps_ret pe_non)) pss_nil)
      (pss_cons (ps_set (i := 9) sc_move_at.nd rfl (Or.inl rfl) (pe_op op_rep (pe_lst (pa_cons pe_int pa_nil)) (pe_fld (pv 0) rfl)))
      (pss_cons (ps_asg (pv 6) (pg_sub (pv 9) (pe_ix ix_list (pv 7) (pe_ix ix_list (pv 8) pe_int (fun _ _ => rfl)) (fun _ _ => rfl)) set_list))
      (pss_cons (ps_for (passes_of rfl) rfl (RZ.pi_zipA (by rfl) T.z_zip (pa_cons (pv 5) (pa_cons (pv 4) pa_nil))) (pg_tup (by rfl) (pgs_cons (pg_name (i := 10) sc_move_at.nd rfl (Or.inl rfl)) (pgs_cons (pg_name (i := 11) sc_move_at.nd rfl (Or.inl rfl)) pgs_nil))) (pss_one (ps_asg (pe_un un_neg (pe_ix ix_list (pv 11) (pe_ix ix_list (pv 8) pe_int (fun _ _ => rfl)) (fun _ _ => rfl))) (pg_sub (pv 9) (pe_ix ix_list (pv 7) (pv 10) (fun _ _ => rfl)) set_list))))
      (pss_one (ps_ret (pv 9))))))))))), ?_⟩
    refine ⟨_, rfl, _, rfl, _, rfl, v, tn, n, bs, hl, ns, q, rfl, hv, htn, hnl, hn, h8, hbo, fun u H1 e1 i1 => ?_⟩
    have sq := sq_tab (n := n) (q := q) hnl hhl
    obtain ⟨l, xs, rfl, hls, hxs, hxl⟩ := rows_of i1
    rw [sq.1] at hxl
    simp only [List.set_cons_succ, List.set_cons_zero]
    refine ⟨_, rfl, _, rfl, l, _, rfl, .inl hls, ?_⟩
    rw [hxl]
    refine ⟨.ref l, tabRows n (hangL (n : Int) hl) q bs ns, bs.length, bs.length, rfl, i1, sq, Nat.le_refl _, by omega, by omega, fun i j _ => tab_small hx hq (fun b hb => ⟨(hbo b hb).l0, (hbo b hb).l1⟩) i j, fun t kp u2 rs' kept sh H2 e2 ht2 iu2 hk2 C hst => ?_⟩
    refine ⟨t, _, rfl, SqT.of ht2, rfl, _, _, rfl, _, _, rfl, _, _, rfl, rfl, ?_⟩
    simp only [List.set_cons_succ, List.set_cons_zero]
    have hlt : (tabRows n (hangL (n : Int) hl) q bs ns).length = bs.length := sq.1
    have hmv : mvI n (hangL (n : Int) hl) (tabRows n (hangL (n : Int) hl) q bs ns) = match freeL bs.length kept with | [] => none | f :: _ => some (mvL n (hangL (n : Int) hl) f sh (kept.zip rs')) := by
      unfold mvI
      rw [hlt, hst]
    rw [hmv] at k0 k
    have hkn : kept.Nodup := C.sorted.imp fun h => Nat.ne_of_lt h
    have hkb := C.lt
    have hkl : kept.length ≤ bs.length := by
      obtain ⟨B, _, I⟩ := C.inv
      exact I.kn
    obtain ⟨bR, bS⟩ := C.bound (b := 490) (by omega) (fun i j _ => tab_small hx hq (fun b hb => ⟨(hbo b hb).l0, (hbo b hb).l1⟩) i j)
    have pw : 2 ^ ((490 + 4) * (bs.length + 1) + 1) ≤ 2 ^ 5000 := Nat.pow_le_pow_right (by decide) (by omega)
    -- hanging
    obtain ⟨a, dx, tb, dd, ws, rfl, ha, htb, hbw, hd⟩ := wb_fields hv
    have e02 := e1.trans e2
    refine ⟨_, rfl, a, dx, _, rfl, e02 _ _ ha, rfl, .ref a, (n : Int), bs, hl, rfl, hv.ext e02, by omega, by omega, fun g H3 hg e3 hg3 => ?_⟩
    simp only [List.set_cons_succ, List.set_cons_zero]
    have hgh : (hangL (n : Int) hl).length = bs.length := hhl
    -- free
    refine ⟨_, rfl, g, _, rfl, .inl (SqL.of hg3), ((hangL (n : Int) hl).length : Int), by rw [List.length_map], by omega, by omega, ?_⟩
    refine lc_rangePX (fun c => !decide (c ∈ kept)) (by omega) (fun i hi H' e R N hR => ?_) (fun D H4 hD e4 hD4 => ?_)
    · refine ⟨rfl, _, rfl, _, rfl, .int (i : Int), kept.map fun c : Nat => Dt.int (c : Int), ?_, .inl ⟨kp, _, rfl, SqL.of (e _ _ (e3 _ _ hk2)), ?_⟩, trivial, okL_pure ?_, ?_, fun H' e' => ⟨_, rfl, ?_⟩⟩
      · show V.int (0 + (i : Int)) = V.int (i : Int)
        rw [Int.zero_add]
      · have z := isL_ints (K := K) (H := H') (kept.map fun c : Nat => (c : Int))
        rw [List.map_map, List.map_map] at z
        exact z
      · have z : ∀ l : List Nat, pureL (l.map fun c : Nat => Dt.int (c : Int)) = true := fun l => by
          induction l with
          | nil => rfl
          | cons c l ih => exact ih
        exact z kept
      · have z : ∀ l : List Nat, depL (l.map fun c : Nat => Dt.int (c : Int)) = 0 := fun l => by
          induction l with
          | nil => rfl
          | cons c l ih => show max 0 (depL _) = 0; rw [ih]; rfl
        rw [z]
        exact Nat.zero_le 8
      · rw [any_kept]
        have z := hR H' e'
        by_cases c : i ∈ kept
        · rw [decide_eq_true c] at z ⊢
          exact z
        · rw [decide_eq_false c] at z ⊢
          exact ⟨_, rfl, z⟩
    have hfl : ((List.range (hangL (n : Int) hl).length).filter fun c => !decide (c ∈ kept)).map (fun i : Nat => V.int (0 + (i : Int))) = (freeL bs.length kept).map fun c : Nat => V.int (c : Int) := by
      rw [hgh]
      unfold freeL
      exact List.map_congr_left fun c _ => by rw [Int.zero_add]
    rw [Int.toNat_natCast, hfl] at hD4
    simp only [List.set_cons_succ, List.set_cons_zero]
    refine ⟨_, rfl, _, .inl ⟨_, SqL.of hD4, rfl⟩, ?_⟩
    have e04 := (e02.trans e3).trans e4
    cases hf : freeL bs.length kept with
    | nil =>
      rw [hf] at hD4 k0
      exact iteT (k0 rfl H4 e04)
    | cons f fs =>
      rw [hf] at hD4 k
      refine iteF ?_
      obtain ⟨fb, fk⟩ := free_mem (show f ∈ freeL bs.length kept by rw [hf]; exact List.mem_cons_self)
      have hg4 := e4 _ _ hg3
      have hk4 := e4 _ _ (e3 _ _ hk2)
      have iu4 := iu2.ext (e3.trans e4)
      clear hg3 hk2 iu2 e3 e4
      refine ⟨by show 1 ≤ sizeLine; decide, fun z1 hz1 => ?_⟩
      refine ⟨_, rfl, a, T.C_Web, dx, _, _, rfl, Ext.upd hz1 _ _ (e04 _ _ ha), T.c_Web, T.nf_Web_rods, rfl, z1, (n : Int), _, rfl, rfl, upd_same, by omega, by omega, ?_, fun tl htl' => ?_⟩
      · show 1 * ((n : Int).toNat) ≤ sizeLine
        exact Nat.le_trans (show 1 * ((n : Int).toNat) ≤ 100 by omega) (by decide)
      rw [Int.toNat_natCast, rep_zero]
      simp only [List.set_cons_succ, List.set_cons_zero]
      have e46 : Ext H4 (upd (upd H4 z1 (.lst [.int 0])) tl (.lst ((List.replicate n (0 : Int)).map V.int))) := (Ext.upd hz1).trans (Ext.upd htl')
      have htl6 : (upd (upd H4 z1 (.lst [.int 0])) tl (.lst ((List.replicate n (0 : Int)).map V.int))) tl = some (.lst ((List.replicate n (0 : Int)).map V.int)) := upd_same
      have htl4 : H4 tl = none := (Ext.upd hz1).fresh htl'
      have htl0 : H tl = none := e04.fresh htl4
      generalize upd (upd H4 z1 (.lst [.int 0])) tl (.lst ((List.replicate n (0 : Int)).map V.int)) = H6 at e46 htl6 ⊢
      have hs01 : ∀ c, c < bs.length → ∃ r, (hangL (n : Int) hl)[c]? = some r ∧ (hangL (n : Int) hl).getD c 0 = r ∧ 0 ≤ r ∧ r < (n : Int) := fun c hc => by
        have hc' : c < (hangL (n : Int) hl).length := by omega
        refine ⟨_, List.getElem?_eq_getElem hc', ?_, mem_hangL (List.getElem_mem _)⟩
        rw [List.getD_eq_getElem?_getD, List.getElem?_eq_getElem hc']
        rfl
      obtain ⟨r0, hr0, hr0d, r00, r01⟩ := hs01 f fb
      refine ⟨_, rfl, _, rfl, _, rfl, _, rfl, D, _, 0, _, rfl, rfl, SqL.of (e46 _ _ hD4), atI_nat (j := 0) rfl, g, _, (f : Int), _, rfl, rfl, SqL.of (e46 _ _ hg4), atI_nat (by rw [List.getElem?_map, hr0]; rfl), tl, _, r0, r0.toNat, rfl, rfl, htl6, by rw [List.length_map, List.length_replicate]; exact ixN_of r00 r01, ?_⟩
      rw [← List.map_set]
      have e07 : Ext H4 (upd H6 tl (.lst (((List.replicate n (0 : Int)).set r0.toNat sh).map V.int))) := e46.mut htl4
      have htl7 : (upd H6 tl (.lst (((List.replicate n (0 : Int)).set r0.toNat sh).map V.int))) tl = some (.lst ((mvL n (hangL (n : Int) hl) f sh ((kept.zip rs').take 0)).map V.int)) := by
        rw [upd_same, List.take_zero]
        unfold mvL
        rw [hr0d]
        rfl
      generalize upd H6 tl (.lst (((List.replicate n (0 : Int)).set r0.toNat sh).map V.int)) = H7 at e07 htl7 ⊢
      obtain ⟨lu, xu, rfl, hlu, hxu, hxul⟩ := rows_of iu4
      have hrl' : rs'.length = bs.length := C.sq.1
      refine ⟨_, rfl, _, rfl, kp, lu, _, xu, rfl, .inl ⟨SqL.of (e07 _ _ hk4), hlu.ext e07, ?_⟩⟩
      refine for_it (walk_zip (n := kept.length) (by rw [List.length_map, hxul, hrl']; omega)) (fun j σ H' => Ext H4 H' ∧ H' tl = some (.lst ((mvL n (hangL (n : Int) hl) f sh ((kept.zip rs').take j)).map V.int)) ∧ ∃ v10 v11 : Option V, σ = [some (.ref a), some (.ref tn), some (.int q), some (.ref l), some (.ref lu), some (.ref kp), some (.int sh), some (.ref g), some (.ref D), some (.ref tl), v10, v11])
        ⟨e07, htl7, _, _, rfl⟩ (fun j σ H' _ p => ⟨SqL.of (p.1 _ _ hk4), hlu.ext p.1⟩) ?_ ?_
      · rintro j z σ H8 H9 hj ⟨e8, htl8, v10, v11, rfl⟩ ⟨tp, y1, y2, rfl, htp', rfl, hz1', hz2'⟩
        dsimp only at hz1' hz2'
        obtain ⟨c, hc, rfl⟩ : ∃ c : Nat, kept[j]? = some c ∧ y1 = V.int (c : Int) := by
          rw [List.getElem?_map] at hz1'
          cases e : kept[j]? with
          | none => rw [e] at hz1'; cases hz1'
          | some c => rw [e] at hz1'; exact ⟨c, rfl, (Option.some.inj hz1').symm⟩
        have hcb := hkb c (List.mem_of_getElem? hc)
        obtain ⟨row, hrow, iy⟩ := isL_at' hxu hz2'
        obtain ⟨ra, rfl, hra⟩ := rwI_of iy
        have hrl2 : row.length = bs.length := C.sq.2 row (List.mem_of_getElem? hrow)
        obtain ⟨r, hr', hrd, r1, r2⟩ := hs01 c hcb
        have e89 : Ext H8 (upd H8 tp (.tup [V.int (c : Int), V.ref ra])) := Ext.upd htp'
        have e9 := e8.trans e89
        refine ⟨tp, _, rfl, SqT.of upd_same, rfl, _, _, rfl, _, _, rfl, rfl, ?_⟩
        simp only [List.set_cons_succ, List.set_cons_zero]
        refine ⟨_, rfl, _, rfl, D, _, 0, _, rfl, rfl, SqL.of (e9 _ _ hD4), atI_nat (j := 0) rfl, ra, _, (f : Int), _, rfl, rfl, hra.ext e9, atI_int (by rw [hrl2]; exact fb), _, rfl, ?_⟩
        refine ⟨_, rfl, _, rfl, _, rfl, g, _, (c : Int), _, rfl, rfl, SqL.of (e9 _ _ hg4), atI_nat (by rw [List.getElem?_map, hr']; rfl), tl, _, r, r.toNat, rfl, rfl, e89 _ _ htl8, by rw [List.length_map, len_mvL]; exact ixN_of r1 r2, ?_⟩
        rw [← List.map_set]
        refine ⟨e9.mut htl4, ?_, _, _, rfl⟩
        have hzz : (kept.zip rs')[j]? = some (c, row) := by rw [List.getElem?_zip_eq_some]; exact ⟨hc, hrow⟩
        rw [upd_same, List.take_add_one, hzz]
        show _ = some (HO.lst ((mvL n (hangL (n : Int) hl) f sh ((kept.zip rs').take j ++ [(c, row)])).map V.int))
        rw [mvL_snoc, hrd]
      · rintro σ H8 ⟨e8, htl8, v10, v11, rfl⟩
        rw [List.take_of_length_le (by rw [List.length_zip]; omega)] at htl8
        refine ⟨_, rfl, k _ rfl tl H8 (e04.trans e8) htl0 htl8 fun x hx => ?_⟩
        rcases mvL_mem hx with h | h | ⟨z, hz, h⟩
        · rw [h]
          exact Nat.pow_pos (by decide)
        · rw [h]
          exact Nat.lt_of_lt_of_le bS pw
        · obtain ⟨i, hi⟩ := List.getElem?_of_mem (List.of_mem_zip hz).2
          have hib : i < bs.length := by rw [← hrl']; exact (List.getElem?_eq_some_iff.mp hi).1
          have hent : Mx.ent rs' i f = z.2.getD f 0 := by
            unfold Mx.ent
            rw [List.getD_eq_getElem?_getD (l := rs'), hi]
            rfl
          rw [h, Int.natAbs_neg, ← hent]
          exact Nat.lt_of_lt_of_le (bR i f hib) pw
end
end K22
namespace K22
open PySem L2 RZ
theorem hs_ne {n : Nat} {hl : List (Int × Int)} {c f : Nat} (hc : c < (hangL (n : Int) hl).length) (hf : f < (hangL (n : Int) hl).length) (h : c ≠ f) : ((hangL (n : Int) hl).getD c 0).toNat ≠ ((hangL (n : Int) hl).getD f 0).toNat := fun z => by
  rw [Mx.getD_lt 0 hc, Mx.getD_lt 0 hf] at z
  have h1 := mem_hangL (List.getElem_mem hc)
  have h2 := mem_hangL (List.getElem_mem hf)
  have e : (hangL (n : Int) hl)[c] = (hangL (n : Int) hl)[f] := by omega
  have a1 := idx_at nodup_hangL (List.getElem?_eq_getElem hc)
  have a2 := idx_at nodup_hangL (List.getElem?_eq_getElem hf)
  rw [e] at a1
  exact h (a1.symm.trans a2)
theorem mvL_f {n : Nat} {hs : List Int} {f : Nat} {s : Int} {zs : List (Nat × List Int)} (h : ∀ z ∈ zs, (hs.getD z.1 0).toNat ≠ (hs.getD f 0).toNat) (hf : (hs.getD f 0).toNat < n) : (mvL n hs f s zs)[(hs.getD f 0).toNat]? = some s := by
  have key : ∀ (zs : List (Nat × List Int)) (acc : List Int), (∀ z ∈ zs, (hs.getD z.1 0).toNat ≠ (hs.getD f 0).toNat) → acc[(hs.getD f 0).toNat]? = some s → (zs.foldl (fun acc z => acc.set (hs.getD z.1 0).toNat (-(z.2.getD f 0))) acc)[(hs.getD f 0).toNat]? = some s := fun zs => by
    induction zs with
    | nil => intro acc _ e; exact e
    | cons z zs ih =>
      intro acc h e
      rw [List.foldl_cons]
      refine ih _ (fun y hy => h y (List.mem_cons_of_mem _ hy)) ?_
      rw [List.getElem?_set_ne (h z List.mem_cons_self)]
      exact e
  exact key zs _ h (List.getElem?_set_self (by rw [List.length_replicate]; exact hf))
theorem zip_fst {α β : Type} {xs : List α} {ys : List β} {z : α × β} (h : z ∈ xs.zip ys) : z.1 ∈ xs := (List.of_mem_zip (a := z.1) (b := z.2) h).1
/-- a move moves something -/
theorem mvI_some {n : Nat} {hl : List (Int × Int)} {rows : List (List Int)} {M : List Int} (hr : rows.length = (hangL (n : Int) hl).length) (h : mvI n (hangL (n : Int) hl) rows = some M) (hC : ∀ rs kept s, clrSt rows.length rows rows.length = (rs, kept, s) → s ≠ 0 ∧ ∀ c ∈ kept, c < rows.length) : M.length = n ∧ ∃ x ∈ M, x ≠ 0 := by
  unfold mvI at h
  obtain ⟨rs, kept, s, e⟩ : ∃ rs kept s, clrSt rows.length rows rows.length = (rs, kept, s) := ⟨_, _, _, rfl⟩
  obtain ⟨h1, h2⟩ := hC rs kept s e
  rw [e] at h
  dsimp only at h
  cases hf : freeL rows.length kept with
  | nil => rw [hf] at h; cases h
  | cons f fs =>
    rw [hf] at h
    cases h
    obtain ⟨fb, fk⟩ := free_mem (show f ∈ freeL rows.length kept by rw [hf]; exact List.mem_cons_self)
    refine ⟨len_mvL _, s, ?_, h1⟩
    have hfl : f < (hangL (n : Int) hl).length := by omega
    have hm := mem_hangL (List.getElem_mem hfl)
    refine List.mem_of_getElem? (mvL_f (fun z hz => ?_) ?_)
    · have hk := zip_fst hz
      exact hs_ne (by have := h2 _ hk; omega) hfl (fun e => fk (e ▸ hk))
    · rw [Mx.getD_lt 0 hfl]
      omega
theorem gcd_ne {ns : List Int} {x : Int} (hx : x ∈ ns) (h0 : x ≠ 0) : 0 < gcdL 0 ns ∧ gcdL 0 ns ≤ x.natAbs := by
  have d : gcdL 0 ns ∣ x.natAbs := by
    exact gcdL_dvd (g := 0) hx
  have hp : 0 < x.natAbs := by omega
  exact ⟨Nat.pos_of_dvd_of_pos d hp, Nat.le_of_dvd hp d⟩
/-- the move told, without a common divisor -/
def mvD (M : List Int) : List Int := M.map fun x => x / ((gcdL 0 M : Nat) : Int)
section
variable {P : Program} {w : World} {K : PySem.W.Frag} {mg : Str → Option Value} {base : Heap}
def spMove (K : PySem.W.Frag) (T : Tx K mg) : Sp := fun vs H Q E => ∃ (v u : V) (n : Nat) (bs : List BarD) (hl : List (Int × Int)) (ns : List Int) (q : Int), vs = [v, u] ∧ Is K H (wbD T.C_Web T.C_Bar (n : Int) bs hl) v ∧ Is K H (plD T.C_Places ns q) u ∧ n ≤ 10 ∧ bs.length ≤ 8 ∧ (∀ b ∈ bs, BarOk (n : Int) b) ∧ (hangL (n : Int) hl).length = bs.length ∧ (∀ x ∈ ns, x.natAbs < 2 ^ 440) ∧ q.natAbs < 2 ^ 440 ∧
  (∀ r, ckPl q bs ns = some r → r.E T E H) ∧
  (ckPl q bs ns = none → mvI n (hangL (n : Int) hl) (tabRows n (hangL (n : Int) hl) q bs ns) = none → ∀ H', Ext H H' → E (.ref T.C_NotLoose) none H') ∧
  (ckPl q bs ns = none → ∀ M, mvI n (hangL (n : Int) hl) (tabRows n (hangL (n : Int) hl) q bs ns) = some M → ∀ u H', Ext H H' → Is K H' (.tup ((mvD M).map Dt.int)) u → Q u H')
theorem ok_move (T : Tx K mg) : FnOk P w K mg base (L2.CX P w) 16 T.a_move T.fd_move ["web", "places"] (spMove K T) := by
  refine T.F_move.okX sc_move (fun vs H Q E h => ?_) (fun cdv A outer s H vs Q E hr h => ?_)
  · obtain ⟨v, u, n, bs, hl, ns, q, rfl, _⟩ := h
    rfl
  · obtain ⟨v, u, n, bs, hl, ns, q, rfl, hv, hu, hn, h8, hbo, hhl, hx, hq, kE, k0, k⟩ := h
    refine ⟨_, (pss_cons (ps_expr (pe_call (ok_check_places T) (hr.mono (by decide)) rfl T.m_check_places T.F_check_places.kp T.b_check_places .nil (passes_call (takes_of rfl rfl rfl rfl) (fun _ _ _ _ h => h)) (pa_cons (pv 0) (pa_cons (pv 1) pa_nil))))
      (pss_cons (ps_set (i := 2) sc_move.nd rfl (Or.inl rfl) (pe_call (ok_move_at T) (hr.mono (by decide)) rfl T.m_move_at T.F_move_at.kp T.b_move_at .nil passL (pa_cons (pv 0) (pa_cons (pe_fld (pv 1) rfl) (pa_cons (pe_fld (pv 1) rfl) pa_nil)))))
      (pss_cons (ps_if (pt_cmpR op_isN (pv 2) pe_non (nomark _)) (pss_one (ps_raise0 T.xi_NotLoose T.m_NotLoose T.O_NotLoose rfl (takes_of rfl rfl rfl rfl) rfl)) pss_nil)
      (pss_cons (ps_set (i := 3) sc_move.nd rfl (Or.inr rfl) (pe_call (ok_divisor T) (hr.mono (by decide)) rfl T.m_divisor T.F_divisor.kp T.b_divisor .nil passL (pa_cons (pv 2) pa_nil)))
      (pss_one (ps_ret (pe_callTy call_tuple_of (by rfl) T.z_tuple (by decide +kernel) (pa_cons (pe_lc (own := [("number", 4)]) (g := gName 4) (tt := tYes) (by rfl) sc_move.nd (pi_list (pv 2)) (blkOk_by (own := [("number", 4)]) (N := N_move) (sc := defScope s_move) (by decide +kernel)) (fun _ _ _ _ _ => (pg_name (i := 4) sc_move.nd rfl (Or.inl rfl))) (fun _ _ _ _ _ => pts_nil) (fun _ _ _ _ _ => (pe_op op_fdivW (pv 4) (pv 3)))) pa_nil)))))))), ?_⟩
    refine ⟨_, rfl, _, rfl, v, u, n, bs, hl, ns, q, rfl, hv, hu, fun b hb => ⟨by have := (hbo b hb).l0; omega, (hbo b hb).l1⟩, kE, fun hck H1 e1 => ?_⟩
    have hnl : ns.length = bs.length := Classical.byContradiction fun z => by
      unfold ckPl at hck
      rw [if_pos (fun y => z (by omega))] at hck
      cases hck
    have k0 := k0 hck
    have k := k hck
    obtain ⟨pa, pdx, tn, rfl, hpa, htn⟩ := pl_fields hu
    refine ⟨_, rfl, _, rfl, pa, T.C_Places, pdx, _, _, rfl, e1 _ _ hpa, T.c_Places, T.nf_Places_numbers, rfl, _, rfl, pa, T.C_Places, pdx, _, _, rfl, e1 _ _ hpa, T.c_Places, T.nf_Places_parts, rfl, v, tn, n, bs, hl, ns, q, rfl, hv.ext e1, htn.ext e1, hnl, hn, h8, hbo, hhl, hx, hq, fun hm H2 e2 => ?_, fun M hm D H2 e2 hD hD2 hb => ?_⟩
    · refine ⟨_, rfl, rfl, _, rfl, iteT ?_⟩
      exact k0 hm _ (e1.trans e2)
    · refine ⟨_, rfl, rfl, _, rfl, iteF ?_⟩
      obtain ⟨hl1, x0, hx0, hx00⟩ := mvI_some (n := n) (hl := hl) (M := M) (by rw [hhl]; exact (sq_tab (n := n) (q := q) hnl hhl).1) hm fun rs kept s e => by
        have sq := sq_tab (n := n) (hs := hangL (n : Int) hl) (q := q) hnl hhl
        rw [sq.1] at e ⊢
        obtain ⟨r, k, s', e', C⟩ := clrSt_cl sq bs.length (Nat.le_refl _)
        rw [e'] at e
        cases e
        exact ⟨(let ⟨_, _, I⟩ := C.inv; I.s0), C.lt⟩
      obtain ⟨g1, g2⟩ := gcd_ne hx0 hx00
      have gb : gcdL 0 M < 2 ^ 5000 := Nat.lt_of_le_of_lt g2 (hb x0 hx0)
      refine ⟨_, rfl, D, M, rfl, .inl (SqL.of hD2), ?_⟩
      simp only [List.set_cons_succ, List.set_cons_zero]
      refine ⟨_, rfl, D, rfl, lc_ints (fun x => x / ((gcdL 0 M : Nat) : Int)) (SqL.of hD2) (by rw [hl1]; omega) (fun x _ H' R hR => ⟨rfl, _, rfl, _, rfl, _, _, rfl, rfl, wide_div (b := 5000) (by omega) (by rw [Int.natAbs_natCast]; exact gb) (by decide) (by decide), hR⟩) (fun D2 H3 hD2' e3 hD3 => ?_)⟩
      refine ⟨D2, _, rfl, .inl ⟨SqL.of hD3, fun t ht => ?_⟩⟩
      refine k M hm _ _ (((e1.trans e2).trans e3).trans (Ext.upd ht)) ⟨t, _, rfl, SqT.of upd_same, ?_⟩
      exact isL_ints _
end
end K22
namespace K22
open PySem L2 RZ
def dotL (row M : List Int) : Int := ((row.zip M).map fun z => z.1 * z.2).sum
theorem dot_cons (a m : Int) (row M : List Int) : dotL (a :: row) (m :: M) = a * m + dotL row M := rfl
theorem dot_set : ∀ {row M : List Int} {i : Nat} {x : Int}, i < row.length → i < M.length → dotL row (M.set i x) = dotL row M + row.getD i 0 * (x - M.getD i 0)
  | [], _, _, _, h, _ => absurd h (Nat.not_lt_zero _)
  | _ :: _, [], _, _, _, h => absurd h (Nat.not_lt_zero _)
  | a :: row, m :: M, 0, x, _, _ => by
    show a * x + dotL row M = a * m + dotL row M + a * (x - m)
    rw [Int.mul_sub]
    omega
  | a :: row, m :: M, i + 1, x, h, hm => by
    show a * m + dotL row (M.set i x) = a * m + dotL row M + row.getD i 0 * (x - M.getD i 0)
    rw [dot_set (Nat.lt_of_succ_lt_succ h) (Nat.lt_of_succ_lt_succ hm)]
    omega
theorem dot_comm : ∀ (row M : List Int), dotL row M = dotL M row
  | [], M => by unfold dotL; rw [List.zip_nil_left, List.zip_nil_right]
  | _ :: _, [] => rfl
  | a :: row, m :: M => by
    rw [dot_cons, dot_cons, dot_comm row M, Int.mul_comm]
theorem dot_set' {row M : List Int} {i : Nat} {x : Int} (h : i < row.length) (hm : i < M.length) : dotL (row.set i x) M = dotL row M + (x - row.getD i 0) * M.getD i 0 := by
  rw [dot_comm, dot_set hm h, dot_comm M, Int.mul_comm]
theorem dot_zero : ∀ (row : List Int) (n : Nat), dotL row (List.replicate n 0) = 0
  | [], n => by unfold dotL; rw [List.zip_nil_left]; rfl
  | _ :: _, 0 => rfl
  | a :: row, n + 1 => by
    rw [List.replicate_succ, dot_cons, dot_zero row n, Int.mul_zero]
    rfl
theorem rep_getD (n i : Nat) : (List.replicate n (0 : Int)).getD i 0 = 0 := by
  rw [List.getD_eq_getElem?_getD, List.getElem?_replicate]
  split <;> rfl
theorem set_getD_ne {l : List Int} {i j : Nat} {x : Int} (h : i ≠ j) : (l.set i x).getD j 0 = l.getD j 0 := by
  rw [List.getD_eq_getElem?_getD, List.getElem?_set_ne h, ← List.getD_eq_getElem?_getD]
/-- what a bar asks of a move -/
theorem dot_bar {n : Nat} {q : Int} {b : BarD} {x : Int} {M : List Int} (ok : BarOk (n : Int) b) (hM : M.length = n) : dotL (barRow n q b x) M = (x - q * b.len) * M.getD b.a.toNat 0 + -x * M.getD b.b.toNat 0 + q * b.len * M.getD b.c.toNat 0 := by
  have a0 := ok.a0
  have b0 := ok.b0
  have c0 := ok.c0
  have a1 := ok.a1
  have b1 := ok.b1
  have c1 := ok.c1
  have ab := ok.ab
  have ac := ok.ac
  have bc := ok.bc
  unfold barRow
  rw [dot_set' (by rw [List.length_set, List.length_set, List.length_replicate]; omega) (by omega), dot_set' (by rw [List.length_set, List.length_replicate]; omega) (by omega), dot_set' (by rw [List.length_replicate]; omega) (by omega), dot_comm, dot_zero]
  rw [set_getD_ne (i := b.b.toNat) (j := b.c.toNat) (by omega), set_getD_ne (i := b.a.toNat) (j := b.c.toNat) (by omega), set_getD_ne (i := b.a.toNat) (j := b.b.toNat) (by omega), rep_getD, rep_getD, rep_getD]
  rw [Int.sub_zero, Int.sub_zero, Int.sub_zero]
  omega
theorem dot_mv {hs : List Int} {f : Nat} {row : List Int} : ∀ (zs : List (Nat × List Int)) (acc : List Int), row.length = acc.length → (∀ z ∈ zs, (hs.getD z.1 0).toNat < acc.length) → (zs.map fun z => (hs.getD z.1 0).toNat).Nodup → (∀ z ∈ zs, acc.getD (hs.getD z.1 0).toNat 0 = 0) →
    dotL row (zs.foldl (fun acc z => acc.set (hs.getD z.1 0).toNat (-(z.2.getD f 0))) acc) = dotL row acc - (zs.map fun z => row.getD (hs.getD z.1 0).toNat 0 * z.2.getD f 0).sum
  | [], acc, _, _, _, _ => by
    rw [List.foldl_nil, List.map_nil, List.sum_nil, Int.sub_zero]
  | z :: zs, acc, hl, hp, hn, h0 => by
    rw [List.map_cons, List.nodup_cons] at hn
    have hz := hp z List.mem_cons_self
    rw [List.foldl_cons, dot_mv zs _ (by rw [List.length_set]; exact hl) (fun y hy => by rw [List.length_set]; exact hp y (List.mem_cons_of_mem _ hy)) hn.2 (fun y hy => ?_), dot_set (by omega) hz, h0 z List.mem_cons_self, List.map_cons, List.sum_cons, Int.sub_zero, Int.mul_neg]
    · omega
    · rw [set_getD_ne (fun e => hn.1 (by rw [e]; exact List.mem_map.mpr ⟨y, hy, rfl⟩))]
      exact h0 y (List.mem_cons_of_mem _ hy)
theorem sum_zip {kept : List Nat} {rs : List (List Int)} (h : kept.length ≤ rs.length) (g : Nat → List Int → Int) : ∀ k, k ≤ kept.length → (((kept.zip rs).take k).map fun z => g z.1 z.2).sum = Mx.sm k fun l => g (kept.getD l 0) (rs.getD l [])
  | 0, _ => by rw [List.take_zero]; rfl
  | k + 1, hk => by
    have h1 : kept[k]? = some (kept.getD k 0) := by rw [Mx.getD_lt 0 (by omega)]; exact List.getElem?_eq_getElem _
    have h2 : rs[k]? = some (rs.getD k []) := by rw [Mx.getD_lt [] (by omega)]; exact List.getElem?_eq_getElem _
    have hz : (kept.zip rs)[k]? = some (kept.getD k 0, rs.getD k []) := by rw [List.getElem?_zip_eq_some]; exact ⟨h1, h2⟩
    rw [List.take_add_one, hz, List.map_append, List.sum_append, sum_zip h g k (by omega)]
    show Mx.sm k _ + (g (kept.getD k 0) (rs.getD k []) + 0) = Mx.sm k _ + g (kept.getD k 0) (rs.getD k [])
    rw [Int.add_zero]
/-- rows exchanged solve the same -/
theorem xr_sol {n k f : Nat} {c : Nat → Nat} {s : Int} {A B R : Nat → Nat → Int} (x : Mx.Xr n A B) (h : ∀ r, r < n → s * B r f = Mx.sm k fun l => B r (c l) * R l f) : ∀ r, r < n → s * A r f = Mx.sm k fun l => A r (c l) * R l f := by
  induction x with
  | refl => exact h
  | @step B' a b x ha hb hab ih =>
    refine ih fun r hr => ?_
    have sa : ∀ j, Mx.sx B' a b a j = B' b j := fun j => by unfold Mx.sx; rw [if_pos rfl]
    have sb : ∀ j, Mx.sx B' a b b j = -B' a j := fun j => by unfold Mx.sx; rw [if_neg (fun z => hab z.symm), if_pos rfl]
    have h1 := h a ha
    have h2 := h b hb
    simp only [sa] at h1
    simp only [sb] at h2
    by_cases e1 : r = b
    · rw [e1]
      exact h1
    · by_cases e2 : r = a
      · rw [e2]
        rw [Int.mul_neg, Mx.sm_congr (g := fun l => -(B' a (c l) * R l f)) (fun l _ => Int.neg_mul _ _), Mx.sm_neg] at h2
        omega
      · have h3 := h r hr
        have so : ∀ j, Mx.sx B' a b r j = B' r j := fun j => by unfold Mx.sx; rw [if_neg e2, if_neg e1]
        simp only [so] at h3
        exact h3
theorem mv_dot {n : Nat} {hl : List (Int × Int)} {bs : List BarD} {ns M : List Int} {q : Int} (hnl : ns.length = bs.length) (hhl : (hangL (n : Int) hl).length = bs.length) (h : mvI n (hangL (n : Int) hl) (tabRows n (hangL (n : Int) hl) q bs ns) = some M) : ∀ row ∈ barRows n q bs ns, dotL row M = 0 := by
  have sq := sq_tab (n := n) (hs := hangL (n : Int) hl) (q := q) hnl hhl
  obtain ⟨rs, kept, s, e, C⟩ := clrSt_cl sq bs.length (Nat.le_refl _)
  unfold mvI at h
  rw [sq.1, e] at h
  dsimp only at h
  cases hf : freeL bs.length kept with
  | nil => rw [hf] at h; cases h
  | cons f fs =>
    rw [hf] at h
    cases h
    obtain ⟨fb, fk⟩ := free_mem (show f ∈ freeL bs.length kept by rw [hf]; exact List.mem_cons_self)
    obtain ⟨B, xB, I⟩ := C.inv
    have solB : ∀ r, r < bs.length → s * B r f = Mx.sm kept.length fun l => B r (kept.getD l 0) * Mx.ent rs l f := fun r hr => by
      by_cases hk : r < kept.length
      · exact I.up r hk f
      · have h1 := I.dn r (by omega) hr f
        rw [C.none f fb fk r (by omega) hr] at h1
        omega
    have sol := xr_sol xB solB
    intro row hrow
    obtain ⟨r, hr, rfl⟩ := List.getElem_of_mem hrow
    have hrl : r < bs.length := by rw [len_barRows hnl] at hr; exact hr
    have hrow0 : ((barRows n q bs ns)[r]).length = n := by
      obtain ⟨z, _, e⟩ := List.mem_map.mp (List.getElem_mem hr)
      rw [← e]
      exact len_barRow
    have hcl : ∀ c, c < bs.length → ((hangL (n : Int) hl).getD c 0).toNat < n := fun c hc => by
      rw [Mx.getD_lt 0 (by omega)]
      have := mem_hangL (List.getElem_mem (show c < (hangL (n : Int) hl).length by omega))
      omega
    have hA : ∀ c, c < bs.length → Mx.ent (tabRows n (hangL (n : Int) hl) q bs ns) r c = ((barRows n q bs ns)[r]).getD ((hangL (n : Int) hl).getD c 0).toNat 0 := fun c hc => by
      unfold Mx.ent tabRows
      rw [Mx.getD_lt [] (by rw [List.length_map]; exact hr), List.getElem_map]
      unfold tabRow
      rw [Mx.getD_lt 0 (by rw [List.length_map]; omega), List.getElem_map, Mx.getD_lt 0 (show c < (hangL (n : Int) hl).length by omega)]
    have hkb : ∀ z ∈ kept.zip rs, z.1 ∈ kept := fun z hz => zip_fst hz
    have hkl : kept.length ≤ rs.length := by rw [C.sq.1]; exact I.kn
    unfold mvL
    rw [dot_mv _ _ (by rw [List.length_set, List.length_replicate]; exact hrow0) (fun z hz => by rw [List.length_set, List.length_replicate]; exact hcl _ (C.lt _ (hkb z hz))) ?_ (fun z hz => ?_), dot_set (by rw [hrow0]; exact hcl f fb) (by rw [List.length_replicate]; exact hcl f fb), dot_zero, rep_getD]
    · have e1 := sum_zip hkl (fun c z => ((barRows n q bs ns)[r]).getD ((hangL (n : Int) hl).getD c 0).toNat 0 * z.getD f 0) kept.length (Nat.le_refl _)
      rw [List.take_of_length_le (by rw [List.length_zip]; omega)] at e1
      rw [e1]
      have e2 := sol r hrl
      rw [hA f fb, Mx.sm_congr (g := fun l => ((barRows n q bs ns)[r]).getD ((hangL (n : Int) hl).getD (kept.getD l 0) 0).toNat 0 * (rs.getD l []).getD f 0) (fun l hl' => by
        rw [hA _ (C.lt _ (by rw [Mx.getD_lt 0 hl']; exact List.getElem_mem _))]
        rfl)] at e2
      rw [← e2, Int.sub_zero, Int.mul_comm]
      omega
    · have e3 : (kept.zip rs).map (fun z => ((hangL (n : Int) hl).getD z.1 0).toNat) = kept.map fun c => ((hangL (n : Int) hl).getD c 0).toNat := by
        have e4 : (kept.zip rs).map Prod.fst = kept := List.map_fst_zip hkl
        rw [show (fun z : Nat × List Int => ((hangL (n : Int) hl).getD z.1 0).toNat) = (fun c : Nat => ((hangL (n : Int) hl).getD c 0).toNat) ∘ Prod.fst from rfl, ← List.map_map, e4]
      rw [e3]
      refine List.pairwise_map.mpr (C.sorted.imp_of_mem fun {a b} ha hb hab => ?_)
      exact hs_ne (by have := C.lt a ha; omega) (by have := C.lt b hb; omega) (by omega)
    · have hz1 := hkb z hz
      rw [set_getD_ne (hs_ne (c := f) (f := z.1) (by omega) (by have := C.lt _ hz1; omega) (fun e => fk (by rw [e]; exact hz1))), rep_getD]
/-- held rods do not move -/
theorem mv_held {n : Nat} {hl : List (Int × Int)} {f : Nat} {s : Int} : ∀ (zs : List (Nat × List Int)) (acc : List Int) {r : Nat}, (∀ z ∈ zs, ((hangL (n : Int) hl).getD z.1 0).toNat ≠ r) → acc.getD r 0 = 0 → (zs.foldl (fun acc z => acc.set ((hangL (n : Int) hl).getD z.1 0).toNat (-(z.2.getD f 0))) acc).getD r 0 = 0
  | [], _, _, _, h => h
  | z :: zs, acc, r, hz, h => by
    rw [List.foldl_cons]
    refine mv_held (s := s) zs _ (fun y hy => hz y (List.mem_cons_of_mem _ hy)) ?_
    rw [set_getD_ne (hz z List.mem_cons_self)]
    exact h
theorem mvI_held {n : Nat} {hl : List (Int × Int)} {rows : List (List Int)} {M : List Int} (hr : rows.length = (hangL (n : Int) hl).length) (h : mvI n (hangL (n : Int) hl) rows = some M) (hC : ∀ rs kept s, clrSt rows.length rows rows.length = (rs, kept, s) → ∀ c ∈ kept, c < rows.length) {r : Int} (r0 : 0 ≤ r) (hin : r ∈ hl.map (·.1)) : M.getD r.toNat 0 = 0 := by
  unfold mvI at h
  obtain ⟨rs, kept, s, e⟩ : ∃ rs kept s, clrSt rows.length rows rows.length = (rs, kept, s) := ⟨_, _, _, rfl⟩
  have h2 := hC rs kept s e
  rw [e] at h
  dsimp only at h
  have ne : ∀ c, c < (hangL (n : Int) hl).length → ((hangL (n : Int) hl).getD c 0).toNat ≠ r.toNat := fun c hc z => by
    rw [Mx.getD_lt 0 hc] at z
    have hm := List.getElem_mem hc
    have h1 := mem_hangL hm
    have e : (hangL (n : Int) hl)[c] = r := by omega
    rw [e] at hm
    exact not_held hm hin
  cases hf : freeL rows.length kept with
  | nil => rw [hf] at h; cases h
  | cons f fs =>
    rw [hf] at h
    cases h
    obtain ⟨fb, fk⟩ := free_mem (show f ∈ freeL rows.length kept by rw [hf]; exact List.mem_cons_self)
    unfold mvL
    refine mv_held (s := s) _ _ (fun z hz => ne _ (by have := h2 _ (zip_fst hz); omega)) ?_
    rw [set_getD_ne (ne f (by omega)), rep_getD]
end K22
namespace K22
open PySem L2 RZ
section
variable {P : Program} {w : World} {K : PySem.W.Frag} {mg : Str → Option Value} {base : Heap}
/-- a table without a determinant: something moves -/
theorem mv_of_det {n : Nat} {hl : List (Int × Int)} {bs : List BarD} {ns : List Int} {q : Int} (hnl : ns.length = bs.length) (hhl : (hangL (n : Int) hl).length = bs.length) (h : detB n (hangL (n : Int) hl) q bs ns = 0) : ∃ M, mvI n (hangL (n : Int) hl) (tabRows n (hangL (n : Int) hl) q bs ns) = some M := by
  have sq := sq_tab (n := n) (hs := hangL (n : Int) hl) (q := q) hnl hhl
  obtain ⟨r, k, s, e, C⟩ := clrSt_cl sq bs.length (Nat.le_refl _)
  have hd := C.det
  have hz : Mx.det bs.length (Mx.ent (tabRows n (hangL (n : Int) hl) q bs ns)) = 0 := h
  rw [hz] at hd
  have hs0 : s ≠ 0 := (let ⟨_, _, I⟩ := C.inv; I.s0)
  have hk : k.length < bs.length := Classical.byContradiction fun z => by
    rw [if_neg z] at hd
    exact hs0 hd
  have hne := free_ne (C.sorted.imp fun h => Nat.ne_of_lt h) C.lt hk
  unfold mvI
  rw [sq.1, e]
  dsimp only
  cases hf : freeL bs.length k with
  | nil => exact absurd hf hne
  | cons f fs => exact ⟨_, rfl⟩
end
theorem mvI_small {n : Nat} {hl : List (Int × Int)} {bs : List BarD} {ns M : List Int} {q : Int} (hnl : ns.length = bs.length) (hhl : (hangL (n : Int) hl).length = bs.length) (h8 : bs.length ≤ 8) (hbo : ∀ b ∈ bs, BarOk (n : Int) b) (hx : ∀ x ∈ ns, x.natAbs < 2 ^ 440) (hq : q.natAbs < 2 ^ 440)
    (h : mvI n (hangL (n : Int) hl) (tabRows n (hangL (n : Int) hl) q bs ns) = some M) : ∀ x ∈ M, x.natAbs < 2 ^ 5000 := by
  have sq := sq_tab (n := n) (hs := hangL (n : Int) hl) (q := q) hnl hhl
  obtain ⟨rs, kept, s, e, C⟩ := clrSt_cl sq bs.length (Nat.le_refl _)
  unfold mvI at h
  rw [sq.1, e] at h
  dsimp only at h
  have hkl : kept.length ≤ bs.length := by
    obtain ⟨B, _, I⟩ := C.inv
    exact I.kn
  obtain ⟨bR, bS⟩ := C.bound (b := 490) (by omega) (fun i j _ => tab_small hx hq (fun b hb => ⟨(hbo b hb).l0, (hbo b hb).l1⟩) i j)
  have pw : 2 ^ ((490 + 4) * (bs.length + 1) + 1) ≤ 2 ^ 5000 := Nat.pow_le_pow_right (by decide) (by omega)
  cases hf : freeL bs.length kept with
  | nil => rw [hf] at h; cases h
  | cons f fs =>
    rw [hf] at h
    cases h
    intro x hx'
    rcases mvL_mem hx' with h | h | ⟨z, hz, h⟩
    · rw [h]
      exact Nat.pow_pos (by decide)
    · rw [h]
      exact Nat.lt_of_lt_of_le bS pw
    · obtain ⟨i, hi⟩ := List.getElem?_of_mem (List.of_mem_zip hz).2
      have hib : i < bs.length := by rw [← C.sq.1]; exact (List.getElem?_eq_some_iff.mp hi).1
      have hent : Mx.ent rs i f = z.2.getD f 0 := by
        unfold Mx.ent
        rw [List.getD_eq_getElem?_getD (l := rs), hi]
        rfl
      rw [h, Int.natAbs_neg, ← hent]
      exact Nat.lt_of_lt_of_le (bR i f hib) pw
theorem dvd_gcdL {k : Nat} : ∀ {ns : List Int} {g : Nat}, k ∣ g → (∀ x ∈ ns, k ∣ x.natAbs) → k ∣ gcdL g ns
  | [], _, h, _ => h
  | n :: ns, g, h, hn => by
    refine dvd_gcdL (ns := ns) (Nat.dvd_gcd h (hn n List.mem_cons_self)) fun x hx => hn x (List.mem_cons_of_mem _ hx)
theorem mv_back {M : List Int} {x : Int} (hx : x ∈ M) : x / ((gcdL 0 M : Nat) : Int) * ((gcdL 0 M : Nat) : Int) = x := by
  refine Int.ediv_mul_cancel ?_
  exact Int.ofNat_dvd_left.mpr (gcdL_dvd (g := 0) hx)
theorem mvD_gcd {M : List Int} {x : Int} (hx : x ∈ M) (h0 : x ≠ 0) : gcdL 0 (mvD M) = 1 := by
  have g0 := (gcd_ne hx h0).1
  have key : gcdL 0 (mvD M) * gcdL 0 M ∣ gcdL 0 M := by
    refine dvd_gcdL (Nat.dvd_zero _) fun y hy => ?_
    have e := mv_back hy
    have d : gcdL 0 (mvD M) ∣ (y / ((gcdL 0 M : Nat) : Int)).natAbs := gcdL_dvd (g := 0) (List.mem_map.mpr ⟨y, hy, rfl⟩)
    have e2 : y.natAbs = (y / ((gcdL 0 M : Nat) : Int)).natAbs * gcdL 0 M := by
      rw [← Int.natAbs_natCast (gcdL 0 M), ← Int.natAbs_mul, Int.natAbs_natCast, e]
    rw [e2]
    exact Nat.mul_dvd_mul_right d _
  have k2 := Nat.le_of_dvd g0 key
  have k3 : gcdL 0 (mvD M) ≠ 0 := fun z => by
    rw [z, Nat.zero_mul] at key
    exact absurd (Nat.eq_zero_of_zero_dvd key) (by omega)
  have k4 : ¬ 2 ≤ gcdL 0 (mvD M) := fun z => by
    have := Nat.mul_le_mul_right (gcdL 0 M) z
    omega
  omega
theorem mvD_len {M : List Int} : (mvD M).length = M.length := List.length_map _
theorem mvD_getD {M : List Int} {i : Nat} (h : M.getD i 0 = 0) : (mvD M).getD i 0 = 0 := by
  unfold mvD
  rw [List.getD_eq_getElem?_getD, List.getElem?_map]
  rw [List.getD_eq_getElem?_getD] at h
  cases e : M[i]? with
  | none => rfl
  | some x =>
    rw [e] at h
    rw [show x = 0 from h]
    exact Int.zero_ediv _
theorem mvD_small {M : List Int} {B : Nat} (h : ∀ x ∈ M, x.natAbs < B) : ∀ x ∈ mvD M, x.natAbs < B := fun x hx => by
  obtain ⟨y, hy, rfl⟩ := List.mem_map.mp hx
  exact Nat.lt_of_le_of_lt ediv_abs_le (h y hy)
theorem mvD_ne {M : List Int} {x : Int} (hx : x ∈ M) (h0 : x ≠ 0) : ∃ y ∈ mvD M, y ≠ 0 := by
  refine ⟨_, List.mem_map.mpr ⟨x, hx, rfl⟩, fun z => h0 ?_⟩
  have := mv_back hx
  rw [z, Int.zero_mul] at this
  exact this.symm
theorem dot_scale (g : Int) : ∀ (row M : List Int), dotL row (M.map fun x => x * g) = dotL row M * g
  | [], M => by unfold dotL; rw [List.zip_nil_left, List.zip_nil_left]; exact (Int.zero_mul g).symm
  | _ :: _, [] => (Int.zero_mul g).symm
  | a :: row, m :: M => by
    rw [List.map_cons, dot_cons, dot_cons, dot_scale g row M, Int.add_mul, Int.mul_assoc]
theorem mvD_dot {M row : List Int} {x : Int} (hx : x ∈ M) (h0 : x ≠ 0) (h : dotL row M = 0) : dotL row (mvD M) = 0 := by
  have e : (mvD M).map (fun x => x * ((gcdL 0 M : Nat) : Int)) = M := by
    unfold mvD
    rw [List.map_map]
    exact (List.map_congr_left fun y hy => mv_back hy).trans (List.map_id M)
  have z := dot_scale ((gcdL 0 M : Nat) : Int) row (mvD M)
  rw [e, h] at z
  have g0 := (gcd_ne hx h0).1
  rcases Int.mul_eq_zero.mp z.symm with y | y
  · exact y
  · omega
/-- the move that is told of a web that is not firm -/
structure MvOk (n : Nat) (hl : List (Int × Int)) (bs : List BarD) (q : Int) (ns : List Int) (M : List Int) : Prop where
  len : M.length = n
  gcd : gcdL 0 M = 1
  ne : ∃ x ∈ M, x ≠ 0
  held : ∀ r ∈ hl.map (·.1), 0 ≤ r → M.getD r.toNat 0 = 0
  dot : ∀ row ∈ barRows n q bs ns, dotL row M = 0
  small : ∀ x ∈ M, x.natAbs < 2 ^ 5000
end K22
namespace ZN
open PySem PySem.Spec PyProof.Rows L2 RZ ZM
/-- side by side: the list at a, the tuple at b -/
def ItzN (K : PySem.W.Frag) (a b : Addr) : It :=
  ⟨fun i H => ∃ (xs ys : List V) (x y : V), SqL K H a xs ∧ SqT K H b ys ∧ xs[i]? = some x ∧ ys[i]? = some y,
    fun i H v H' => ∃ T x y, v = .ref T ∧ H T = none ∧ H' = upd H T (.tup [x, y]) ∧ (∀ xs, SqL K H a xs → xs[i]? = some x) ∧ ∀ ys, SqT K H b ys → ys[i]? = some y,
    fun i H => ∃ xs ys : List V, SqL K H a xs ∧ SqT K H b ys ∧ (xs.length ≤ i ∨ ys.length ≤ i)⟩
theorem turn_zipN {P : Program} {w : World} {K : PySem.W.Frag} {elts : List Expr} {kk : Nat} {tpos : Pos} {a b z TI TO i1 i2 : Addr} (D : ZipApart z TI TO i1 i2 a b) :
    Turn P w K (.Tuple elts kk tpos) (ItzN K a b) [z, TI, TO, i1, i2] z (fun i h => IsZip h z TI TO .none ∧ IsPair h TI (.ref i1) (.ref i2) ∧ (∃ x y, IsPair h TO x y) ∧ h.IsListIter i1 a i ∧ h.IsTupleIter i2 b i) where
  mem := by simp
  obj := fun i h st c hc => by
    obtain ⟨hz, hTI, ⟨x, y, hTO⟩, ⟨o1, e1, _, d1⟩, ⟨o2, e2, _, d2⟩⟩ := st
    have e' : c = z ∨ c = TI ∨ c = TO ∨ c = i1 ∨ c = i2 := by simpa using hc
    rcases e' with q | q | q | q | q
    · rw [q]; exact ⟨_, hz, fun v q => nomatch q⟩
    · rw [q]; exact ⟨_, hTI, fun v q => nomatch q⟩
    · rw [q]; exact ⟨_, hTO, fun v q => nomatch q⟩
    · rw [q]; exact ⟨o1, e1, fun v q => by rw [d1] at q; cases q⟩
    · rw [q]; exact ⟨o2, e2, fun v q => by rw [d2] at q; cases q⟩
  keep := fun i h h' st k => by
    obtain ⟨hz, hTI, ⟨x, y, hTO⟩, h1, h2⟩ := st
    exact ⟨k z (by simp) _ hz, k TI (by simp) _ hTI, ⟨x, y, k TO (by simp) _ hTO⟩, h1.at fun o q => k i1 (by simp) o q, h2.at fun o q => k i2 (by simp) o q⟩
  item := by
    intro X hP hw hK hc i pins s σ H E I hf st hg
    subst hP hw hK
    obtain ⟨hz, hTI, ⟨x0, y0, hTO⟩, h1, h2⟩ := st
    obtain ⟨xs, ys, x, y, hqx, hqy, hx, hy⟩ := hg
    obtain ⟨its, rv, p, _⟩ := I.list hqx
    obtain ⟨its2, rv2, p2, _⟩ := I.tuple hqy
    obtain ⟨u, hu, ru⟩ := rv.get hx
    obtain ⟨u2, hu2, ru2⟩ := rv2.get hy
    have hzl : z < s.heap.objs.size := Heap.lt_size hz
    refine py_item D (itk_list D.l1i1) (itk_tup D.l2i2) hz hTI hTO ⟨h1, p.isList⟩ ⟨h2, p2⟩ (x := u) (y := u2) (by simpa using hu) (by simpa using hu2) fun h' z' TO' h1' h2' hT hsz hk => ?_
    refine ⟨_, rfl, wpAny_letOwnedTupleGo_zip (s := { s with heap := h' }) z' fun h'' z'' sb => ?_⟩
    have hT2 : h''.get? s.heap.objs.size = some { cls := .type "tuple", data := .seq #[u, u2] } := (sb.2 _ (Nat.ne_of_gt hzl)).trans hT
    have new : ObjOk X.prog X.w (upd H s.heap.objs.size (.tup [x, y])) h'' s.heap.objs.size (.tup [x, y]) :=
      ⟨by show 2 ≤ sizeLine; decide, [u, u2], .cons ru (.cons ru2 .nil), ⟨_, hT2, rfl, _, rfl⟩⟩
    have I1 : Inv X pins σ (upd H s.heap.objs.size (.tup [x, y])) { s with heap := h'' } :=
      I.turnedNew (t' := s.toks) (ch := [z, TI, TO, i1, i2]) (fun c o hb q => (sb.2 c (fun q' => hb (by simp [q']))).trans (hk c o (fun q' => hb (by simp [q'])) (fun q' => hb (by simp [q'])) (fun q' => hb (by simp [q'])) (fun q' => hb (by simp [q'])) q)) hf (Nat.le_refl _) new
    refine ⟨.ref s.heap.objs.size, _, I1, rfl, ⟨_, x, y, rfl, I.hok.fresh (Nat.le_refl _), rfl, fun l hl => by rw [I.list_inj hl hqx]; exact hx, fun l hl => by rw [I.tuple_inj hl hqy]; exact hy⟩, ⟨z'', ?_, ⟨u, u2, ?_⟩, ?_, ?_⟩, fun c hcm => ?_⟩
    · exact (sb.2 _ D.TIz).trans (hk _ _ D.TIz D.TITO D.TIi1 D.TIi2 hTI)
    · exact (sb.2 _ D.TOz).trans TO'
    · exact h1'.1.at fun o q => (sb.2 _ D.i1z).trans q
    · exact h2'.1.at fun o q => (sb.2 _ D.i2z).trans q
    · have hlt : c < s.heap.objs.size := by
        have e' : c = z ∨ c = TI ∨ c = TO ∨ c = i1 ∨ c = i2 := by simpa using hcm
        rcases e' with q | q | q | q | q
        · rw [q]; exact hzl
        · rw [q]; exact Heap.lt_size hTI
        · rw [q]; exact Heap.lt_size hTO
        · rw [q]; obtain ⟨_, e1, _⟩ := h1; exact Heap.lt_size e1
        · rw [q]; obtain ⟨_, e2, _⟩ := h2; exact Heap.lt_size e2
      rw [upd_ne (Nat.ne_of_lt hlt)]
      exact (hf c hcm).1
  done := by
    intro X hP hw hK hc i pins s σ H E I hf st hg
    subst hP hw hK
    obtain ⟨hz, hTI, ⟨x0, y0, hTO⟩, h1, h2⟩ := st
    obtain ⟨xs, ys, hqx, hqy, hend⟩ := hg
    obtain ⟨its, rv, p, _⟩ := I.list hqx
    obtain ⟨its2, rv2, p2, _⟩ := I.tuple hqy
    have l1 := rv.length
    have l2 := rv2.length
    have he : its.toArray[i]? = none ∨ its2.toArray[i]? = none := by
      rcases hend with q | q
      · exact .inl (by simp; omega)
      · exact .inr (by simp; omega)
    exact py_stop (I.ok.hd hc) D (itk_list D.l1i1) (itk_tup D.l2i2) hz hTI hTO ⟨h1, p.isList⟩ ⟨h2, p2⟩ he fun h' hk => ⟨rfl, I.turnedL (t' := s.toks) (ch := [z, TI, TO, i1, i2]) (fun c o hb q =>
      hk c o (fun q' => hb (by simp [q'])) (fun q' => hb (by simp [q'])) (fun q' => hb (by simp [q'])) (fun q' => hb (by simp [q'])) q) hf⟩
  self := fun A i s Q E st h => wpAny_pyIter_zip st.1 h
abbrev mH1 (h : Heap) (l1 : Addr) : Heap := h.push { cls := .type "list_iterator", data := .fields #[.ref l1, .int 0 0] }
abbrev mH2 (h : Heap) (l1 l2 : Addr) : Heap := (mH1 h l1).push { cls := .type "tuple_iterator", data := .fields #[.ref l2, .int 0 0] }
abbrev mH3 (h : Heap) (l1 l2 : Addr) : Heap := (mH2 h l1 l2).push { cls := .type "tuple", data := .seq #[.ref h.objs.size, .ref (mH1 h l1).objs.size] }
abbrev mH4 (h : Heap) (l1 l2 : Addr) : Heap := (mH3 h l1 l2).push { cls := .type "tuple", data := .seq #[.none, .none] }
abbrev mH5 (h : Heap) (l1 l2 : Addr) : Heap := (mH4 h l1 l2).push { cls := .type "zip", data := .fields #[.none, .bool false, .bool false, .ref (mH2 h l1 l2).objs.size, .ref (mH3 h l1 l2).objs.size] }
theorem meets_new (l1 l2 : Addr) (xs ys : Array Value) :
    Meets (Builtin.«zip.__new__» ⟨[.type "zip", .ref l1, .ref l2], []⟩) (fun _ R s => s.heap.IsList l1 xs ∧ s.heap.IsTuple l2 ys ∧
      R (.ok (.ret (.ref (mH4 s.heap l1 l2).objs.size))) { s with heap := mH5 s.heap l1 l2 }) :=
  .of_wp fun prog w A R s h => by
    obtain ⟨hp, g, d, tk, os⟩ := s; obtain ⟨hl1, hl2, h⟩ := h
    have hsub := sub_zip
    have hL1 : Heap.IsList (Shared.heap ⟨hp, g, d, tk, os⟩) l1 xs := hl1
    have hL2 : Heap.IsTuple (Shared.heap ⟨hp.push { cls := .type "list_iterator", data := .fields #[.ref l1, .int 0 0] }, g, d, tk, os⟩) l2 ys := Heap.IsTuple.push hl2 _
    wp_walk using wpAny_pyIter_list hL1, wpAny_pyIter_tuple hL2
    exact ⟨_, rfl, h⟩
theorem call_zipN {prog : Program} {w : World} {A : Around} {E : Value → Shared → Prop} {s : Shared} {l1 l2 : Addr} {xs ys : Array Value} {Q : Value → Shared → Prop} (hl1 : s.heap.IsList l1 xs) (hl2 : s.heap.IsTuple l2 ys)
    (h : ∀ h', IsZip h' (s.heap.objs.size + 4) (s.heap.objs.size + 2) (s.heap.objs.size + 3) .none → IsPair h' (s.heap.objs.size + 2) (.ref s.heap.objs.size) (.ref (s.heap.objs.size + 1)) →
      IsPair h' (s.heap.objs.size + 3) .none .none → h'.IsListIter s.heap.objs.size l1 0 → h'.IsTupleIter (s.heap.objs.size + 1) l2 0 → h'.objs.size = s.heap.objs.size + 5 →
      (∀ c o, s.heap.get? c = some o → h'.get? c = some o) → Q (.ref (s.heap.objs.size + 4)) { s with heap := h' }) :
    wpAny (model prog w) A (call (.type "zip") [.ref l1, .ref l2]) Q E s := by
  refine callType_new F.called_zip (by decide) (F.typeCall_zip_2 _ _) (F.newCall_zip_2 _ _) (fun obj => F.args_object_init_3 obj _ _) F.entry_zip_new
    (meets_new l1 l2 xs ys) ⟨hl1, hl2, ?_⟩
  have z1 : (mH1 s.heap l1).objs.size = s.heap.objs.size + 1 := Heap.size_push ..
  have z2 : (mH2 s.heap l1 l2).objs.size = s.heap.objs.size + 2 := by rw [Heap.size_push, z1]
  have z3 : (mH3 s.heap l1 l2).objs.size = s.heap.objs.size + 3 := by rw [Heap.size_push, z2]
  have z4 : (mH4 s.heap l1 l2).objs.size = s.heap.objs.size + 4 := by rw [Heap.size_push, z3]
  have z5 : (mH5 s.heap l1 l2).objs.size = s.heap.objs.size + 5 := by rw [Heap.size_push, z4]
  have up : ∀ {h : Heap} {c : Addr} {o o' : Obj}, h.get? c = some o → (h.push o').get? c = some o := fun e => Heap.get?_push_of_some _ e
  have g5 : (mH5 s.heap l1 l2).get? (mH4 s.heap l1 l2).objs.size = some _ := Heap.get?_push_size _ rfl
  have g4 : (mH5 s.heap l1 l2).get? (mH3 s.heap l1 l2).objs.size = some _ := up (Heap.get?_push_size _ rfl)
  have g3 : (mH5 s.heap l1 l2).get? (mH2 s.heap l1 l2).objs.size = some _ := up (up (Heap.get?_push_size _ rfl))
  have g2 : (mH5 s.heap l1 l2).get? (mH1 s.heap l1).objs.size = some _ := up (up (up (Heap.get?_push_size _ rfl)))
  have g1 : (mH5 s.heap l1 l2).get? s.heap.objs.size = some _ := up (up (up (up (Heap.get?_push_size _ rfl))))
  show _ ∧ _
  rw [z2, z3, z4] at g5
  rw [z1, z2] at g3
  rw [z3] at g4
  rw [z1] at g2
  rw [z4]
  exact ⟨⟨_, g5, rfl⟩, h _ g5 g3 g4 ⟨_, g1, rfl, rfl⟩ ⟨_, g2, rfl, rfl⟩ z5 fun c o x => up (up (up (up (up x))))⟩
/-- zip of two lists, or of a list and a tuple -/
def iZipN (K : PySem.W.Frag) (ta : TA) : TI := fun σ H R => ta σ H fun vs H1 => ∃ a b xs ys, vs = [.ref a, .ref b] ∧ ((SqL K H1 a xs ∧ SqL K H1 b ys ∧ R (Itz K a b) H1) ∨ (SqL K H1 a xs ∧ SqT K H1 b ys ∧ R (ItzN K a b) H1))
theorem pi_zipN {X : Cx} {e e2 : Expr} {ta : TA} {p pos tpos : Pos} {elts : List Expr} {kk : Nat} (hg : Gl X "zip") (hm : X.mg "zip" = none) (ha : PA X [e, e2] ta)
    (hs : starEach [e, e2] X.env = (false, eval e X.env) :: starEach [e2] X.env := by rfl) (hpl : (backTo pos (starEach [e2] X.env)).any (·.1) = false := by rfl) :
    PI X (.Tuple elts kk tpos) (.Call (.Name "zip" p) [e, e2] [] pos) (iZipN X.K ta) := by
  refine ⟨fun pins s σ H R I h => ?_⟩
  refine Call_ (ld_blt I hg hm PyProof.Rows.boot_zip (PyProof.Rows.callWith_type1 (thn (ha.run pos pins s σ H _ I h) fun us s1 ⟨vs, H1, I1, r1, q1⟩ => ?_) hs hpl))
  obtain ⟨a, b, xs, ys, ex, q1⟩ := q1
  subst ex
  cases r1 with
  | cons r rr =>
    cases rr with
    | cons r' rr =>
      cases rr
      cases r
      cases r'
      have fresh5 : ∀ c, c ∈ [s1.heap.objs.size + 4, s1.heap.objs.size + 2, s1.heap.objs.size + 3, s1.heap.objs.size, s1.heap.objs.size + 1] → FpOk X pins H1 c := fun c hcm => by
        have hle : s1.heap.objs.size ≤ c := by
          simp only [List.mem_cons, List.not_mem_nil, or_false] at hcm
          rcases hcm with rfl | rfl | rfl | rfl | rfl
          all_goals first | exact Nat.le_add_right _ _ | exact Nat.le_refl _
        exact I1.fpOk hle (I1.hok.fresh hle)
      rcases q1 with ⟨hqx, hqy, q⟩ | ⟨hqx, hqy, q⟩
      · obtain ⟨its, rv, p1, _⟩ := I1.list hqx
        obtain ⟨its2, rv2, p2, _⟩ := I1.list hqy
        refine call_zip_2 p1.isList p2.isList fun h' hz hTI hTO h1 h2 hsz hk => wpAny_pyIter_zip hz ?_
        have I2 : Inv X pins σ H1 { s1 with heap := h' } := I1.kept (t' := s1.toks) hk
        exact ⟨s1.heap.objs.size + 4, [s1.heap.objs.size + 4, s1.heap.objs.size + 2, s1.heap.objs.size + 3, s1.heap.objs.size, s1.heap.objs.size + 1], _, _, H1, rfl, I2, turn_zip (PySem.W.ktu_apart s1.heap.objs.size a b p1.lt p2.lt), ⟨hz, hTI, ⟨_, _, hTO⟩, h1, h2⟩, fresh5, q⟩
      · obtain ⟨its, rv, p1, _⟩ := I1.list hqx
        obtain ⟨its2, rv2, p2, _⟩ := I1.tuple hqy
        obtain ⟨o1, ho1, _⟩ := id p2
        refine call_zipN p1.isList (show s1.heap.IsTuple b its2.toArray from p2) fun h' hz hTI hTO h1 h2 hsz hk => wpAny_pyIter_zip hz ?_
        have I2 : Inv X pins σ H1 { s1 with heap := h' } := I1.kept (t' := s1.toks) hk
        exact ⟨s1.heap.objs.size + 4, [s1.heap.objs.size + 4, s1.heap.objs.size + 2, s1.heap.objs.size + 3, s1.heap.objs.size, s1.heap.objs.size + 1], _, _, H1, rfl, I2, turn_zipN (PySem.W.ktu_apart s1.heap.objs.size a b p1.lt (Heap.lt_size ho1)), ⟨hz, hTI, ⟨_, _, hTO⟩, h1, h2⟩, fresh5, q⟩
end ZN
namespace L2
open PySem PySem.Spec PyProof.Rows ZN
end L2
namespace L2
open PySem PySem.Spec PyProof.Rows
end L2
namespace L2
open PySem PySem.Spec PyProof.Rows PpSet
end L2
namespace L2
open PySem PySem.Spec PyProof.Rows
end L2
namespace K22
open PySem L2 RZ ZN
section
variable {P : Program} {w : World} {K : PySem.W.Frag} {mg : Str → Option Value} {base : Heap}
def spDetm (K : PySem.W.Frag) (T : Tx K mg) : Sp := fun vs H Q E => ∃ (v u : V) (n : Nat) (bs : List BarD) (hl : List (Int × Int)) (ns : List Int) (q : Int), vs = [v, u] ∧ Is K H (wbD T.C_Web T.C_Bar (n : Int) bs hl) v ∧ Is K H (plD T.C_Places ns q) u ∧ n ≤ 10 ∧ bs.length ≤ 8 ∧ (∀ b ∈ bs, BarOk (n : Int) b) ∧ (hangL (n : Int) hl).length = bs.length ∧ (∀ x ∈ ns, x.natAbs < 2 ^ 440) ∧ q.natAbs < 2 ^ 440 ∧
  (∀ r, ckPl q bs ns = some r → r.E T E H) ∧ (ckPl q bs ns = none → ∀ H', Ext H H' → Q (.int (detB n (hangL (n : Int) hl) q bs ns)) H')
theorem ok_determinant (T : Tx K mg) : FnOk P w K mg base (L2.CX P w) 8 T.a_determinant T.fd_determinant ["web", "places"] (spDetm K T) := by
  refine T.F_determinant.okX sc_determinant (fun vs H Q E h => ?_) (fun cdv A outer s H vs Q E hr h => ?_)
  · obtain ⟨v, u, n, bs, hl, ns, q, rfl, _⟩ := h
    rfl
  · obtain ⟨v, u, n, bs, hl, ns, q, rfl, hv, hu, hn, h8, hbo, hhl, hx, hq, kE, k⟩ := h
    refine ⟨_, (pss_cons (ps_expr (pe_call (ok_check_places T) (hr.mono (by decide)) rfl T.m_check_places T.F_check_places.kp T.b_check_places .nil (passes_call (takes_of rfl rfl rfl rfl) (fun _ _ _ _ h => h)) (pa_cons (pv 0) (pa_cons (pv 1) pa_nil))))
      (pss_one (ps_ret (pe_call (ok_determinant_at T) (hr.mono (by decide)) rfl T.m_determinant_at T.F_determinant_at.kp T.b_determinant_at .nil passL (pa_cons (pv 0) (pa_cons (pe_fld (pv 1) rfl) (pa_cons (pe_fld (pv 1) rfl) pa_nil))))))), ?_⟩
    obtain ⟨pa, pdx, tn, rfl, hpa, htn⟩ := pl_fields hu
    refine ⟨_, rfl, _, rfl, v, .ref pa, n, bs, hl, ns, q, rfl, hv, hu, fun b hb => ⟨by have := (hbo b hb).l0; omega, (hbo b hb).l1⟩, kE, fun hck H1 e1 => ?_⟩
    have hnl : ns.length = bs.length := Classical.byContradiction fun z => by
      unfold ckPl at hck
      rw [if_pos (fun y => z (by omega))] at hck
      cases hck
    refine ⟨_, rfl, _, rfl, pa, T.C_Places, pdx, _, _, rfl, e1 _ _ hpa, T.c_Places, T.nf_Places_numbers, rfl, _, rfl, pa, T.C_Places, pdx, _, _, rfl, e1 _ _ hpa, T.c_Places, T.nf_Places_parts, rfl, v, tn, n, bs, hl, ns, q, rfl, hv.ext e1, htn.ext e1, hnl, hn, h8, hbo, hhl, hx, hq, fun H2 e2 => k hck H2 (e1.trans e2)⟩
end
end K22
namespace K22
open PySem L2 RZ ZN
section
variable {P : Program} {w : World} {K : PySem.W.Frag} {mg : Str → Option Value} {base : Heap}
def spLKeeps (K : PySem.W.Frag) : Sp := fun vs H Q _ => ∃ (v : V) (tn tm : Addr) (n : Nat) (hl : List (Int × Int)) (bs : List BarD) (ns M : List Int) (q : Int), vs = [v, .ref tn, .int q, .ref tm] ∧ Is K H (whD (n : Int) hl bs) v ∧ SqL K H tn (ns.map V.int) ∧ SqT K H tm (M.map V.int) ∧ WebOk (n : Int) hl bs ∧ ns.length = bs.length ∧ M.length = n ∧ (∀ x ∈ ns, x.natAbs < 2 ^ 440) ∧ q.natAbs < 2 ^ 440 ∧ (∀ x ∈ M, x.natAbs < 2 ^ 5020) ∧ (∀ row ∈ barRows n q bs ns, dotL row M = 0) ∧
  ∀ H', Ext H H' → Q (.bl true) H'
theorem ok_l_keeps (T : Tx K mg) : FnOk P w K mg base (L2.CX P w) 2 T.a_l_keeps T.fd_l_keeps ["_law_web_here", "_law_numbers", "_law_share", "_law_tops"] (spLKeeps K) := by
  refine T.F_l_keeps.okX sc_l_keeps (fun vs H Q E h => ?_) (fun cdv A outer s H vs Q E hr h => ?_)
  · obtain ⟨v, tn, tm, n, hl, bs, ns, M, q, rfl, _⟩ := h
    rfl
  · obtain ⟨v, tn, tm, n, hl, bs, ns, M, q, rfl, hv, htn, htm, ok, hnl, hM, hx, hq, hm, hdot, k⟩ := h
    refine ⟨_, (pss_cons (ps_for (passes_of rfl) rfl (pi_zipN (by rfl) T.z_zip (pa_cons (pe_ix ix_tup (pv 0) pe_int (fun _ _ => rfl)) (pa_cons (pv 1) pa_nil))) (pg_tup (by rfl) (pgs_cons (pg_name (i := 4) sc_l_keeps.nd rfl (Or.inl rfl)) (pgs_cons (pg_name (i := 5) sc_l_keeps.nd rfl (Or.inl rfl)) pgs_nil))) (pss_cons (ps_set (i := 6) sc_l_keeps.nd rfl (Or.inl rfl) (pe_op op_mul (pe_ix ix_tup (pv 4) pe_int (fun _ _ => rfl)) (pv 2)))
      (pss_cons (ps_set (i := 7) sc_l_keeps.nd rfl (Or.inl rfl) (pe_op op_add (pe_op op_mulW (pe_op op_sub (pv 6) (pv 5)) (pe_ix ix_tup (pv 3) (pe_ix ix_tup (pv 4) pe_int (fun _ _ => rfl)) (fun _ _ => rfl))) (pe_op op_mulW (pv 5) (pe_ix ix_tup (pv 3) (pe_ix ix_tup (pv 4) pe_int (fun _ _ => rfl)) (fun _ _ => rfl)))))
      (pss_one (ps_if (pt_cmpR op_ne (pe_op op_mulW (pv 6) (pe_ix ix_tup (pv 3) (pe_ix ix_tup (pv 4) pe_int (fun _ _ => rfl)) (fun _ _ => rfl))) (pv 7) (nomark _)) pss_never pss_nil)))))
      (pss_one (ps_ret pe_bl))), ?_⟩
    obtain ⟨t, hd, bl, ws, rfl, ht, hhd, hbl, hbs⟩ := wh_of hv
    have hwl : ws.length = bs.length := by rw [isL_len hbs, List.length_map]
    refine ⟨_, rfl, t, _, 2, _, rfl, rfl, ht, rfl, _, rfl, bl, tn, ws, ns.map V.int, rfl, .inl ⟨hbl, htn, ?_⟩⟩
    refine for_it (walk_zip (n := bs.length) (by rw [List.length_map, hwl, hnl]; omega)) (fun i σ H' => Ext H H' ∧ ∃ v4 v5 v6 v7 : Option V, σ = [some (.ref t), some (.ref tn), some (.int q), some (.ref tm), v4, v5, v6, v7])
      ⟨Ext.rfl', _, _, _, _, rfl⟩ (fun i σ H' _ p => ⟨hbl.ext p.1, htn.ext p.1⟩) ?_ ?_
    · rintro i y σ H1 H2 hi ⟨e1, v4, v5, v6, v7, rfl⟩ ⟨tp, y1, y2, rfl, htp, rfl, hz1, hz2⟩
      dsimp only at hz1 hz2
      obtain ⟨b, hbi, ib⟩ := isL_at' hbs hz1
      obtain ⟨x, hxi, rfl⟩ : ∃ x, ns[i]? = some x ∧ y2 = V.int x := by
        rw [List.getElem?_map] at hz2
        cases e : ns[i]? with
        | none => rw [e] at hz2; cases hz2
        | some n => rw [e] at hz2; exact ⟨n, rfl, (Option.some.inj hz2).symm⟩
      obtain ⟨tb, rfl, htb0⟩ := bf_of ib
      have okb := ok.bars b (List.mem_of_getElem? hbi)
      have l0 := okb.l0
      have l1 := okb.l1
      have hxs := hx x (List.mem_of_getElem? hxi)
      have hzz : (bs.zip ns)[i]? = some (b, x) := by rw [List.getElem?_zip_eq_some]; exact ⟨hbi, hxi⟩
      have hd0 := hdot (barRow n q b x) (List.mem_map.mpr ⟨(b, x), List.mem_of_getElem? hzz, rfl⟩)
      rw [dot_bar okb hM] at hd0
      have e2 : Ext H (upd H1 tp (.tup [V.ref tb, V.int x])) := e1.trans (Ext.upd htp)
      refine ⟨tp, _, rfl, SqT.of upd_same, rfl, _, _, rfl, _, _, rfl, rfl, ?_⟩
      generalize upd H1 tp (.tup [V.ref tb, V.int x]) = H3 at e2 ⊢
      simp only [List.set_cons_succ, List.set_cons_zero]
      have htb := htb0.ext e2
      have htm3 := htm.ext e2
      have at0 : atI (brV b) 0 = some (.int b.a) := atI_nat (j := 0) rfl
      have at1 : atI (brV b) 1 = some (.int b.b) := atI_nat (j := 1) rfl
      have at2 : atI (brV b) 2 = some (.int b.c) := atI_nat (j := 2) rfl
      have at3 : atI (brV b) 3 = some (.int b.len) := atI_nat (j := 3) rfl
      have mAt : ∀ {r : Int}, 0 ≤ r → r < (n : Int) → atI (M.map V.int) r = some (.int (M.getD r.toNat 0)) := fun {r} h0 h1 => by
        have z := atI_int (row := M) (j := r.toNat) (by rw [hM]; omega)
        rw [show ((r.toNat : Nat) : Int) = r by omega] at z
        exact z
      have mS : ∀ {r : Int}, 0 ≤ r → r < (n : Int) → (M.getD r.toNat 0).natAbs < 2 ^ 5020 := fun {r} h0 h1 => by
        rw [Mx.getD_lt 0 (by rw [hM]; omega)]
        exact hm _ (List.getElem_mem _)
      have wS : (b.len * q).natAbs < 2 ^ 470 := by
        rw [Int.natAbs_mul]
        have hl : b.len.natAbs < 2 ^ 20 := by omega
        exact Nat.lt_of_lt_of_le (Nat.mul_lt_mul'' hl hq) (by rw [← Nat.pow_add]; exact Nat.pow_le_pow_right (by decide) (by decide))
      have dS : (b.len * q - x).natAbs < 2 ^ 480 := by
        have h1 : (b.len * q - x).natAbs ≤ (b.len * q).natAbs + x.natAbs := Int.natAbs_sub_le _ _
        have h2 : x.natAbs < 2 ^ 470 := Nat.lt_of_lt_of_le hxs (Nat.pow_le_pow_right (by decide) (by decide))
        have h3 : 2 ^ 470 + 2 ^ 470 ≤ 2 ^ 480 := by decide +kernel
        omega
      refine ⟨_, rfl, tb, _, 3, _, rfl, rfl, htb, at3, _, rfl, _, _, rfl, rfl, .inl ⟨by omega, by omega⟩, ?_⟩
      simp only [List.set_cons_succ, List.set_cons_zero]
      refine ⟨_, rfl, _, rfl, _, _, rfl, rfl, _, rfl, _, rfl, tb, _, 0, _, rfl, rfl, htb, at0, tm, _, b.a, _, rfl, rfl, htm3, mAt okb.a0 okb.a1, _, _, rfl, rfl, wide_mul (a := 480) (b := 5020) dS (mS okb.a0 okb.a1) (by decide) (by decide) (by decide), ?_⟩
      refine ⟨_, rfl, _, rfl, _, rfl, tb, _, 1, _, rfl, rfl, htb, at1, tm, _, b.b, _, rfl, rfl, htm3, mAt okb.b0 okb.b1, _, _, rfl, rfl, wide_mul (a := 440) (b := 5020) hxs (mS okb.b0 okb.b1) (by decide) (by decide) (by decide), _, _, rfl, rfl, ?_⟩
      simp only [List.set_cons_succ, List.set_cons_zero]
      refine ⟨_, rfl, _, rfl, _, rfl, tb, _, 2, _, rfl, rfl, htb, at2, tm, _, b.c, _, rfl, rfl, htm3, mAt okb.c0 okb.c1, _, _, rfl, rfl, wide_mul (a := 470) (b := 5020) wS (mS okb.c0 okb.c1) (by decide) (by decide) (by decide), _, rfl, rfl, _, rfl, ite2 (fun c => ?_) (fun _ => ⟨e2, _, _, _, _, rfl⟩)⟩
      exfalso
      have he : b.len * q * M.getD b.c.toNat 0 = (b.len * q - x) * M.getD b.a.toNat 0 + x * M.getD b.b.toNat 0 := by
        rw [Int.mul_comm q b.len, Int.neg_mul] at hd0
        have z : (x - b.len * q) * M.getD b.a.toNat 0 = -((b.len * q - x) * M.getD b.a.toNat 0) := by rw [← Int.neg_mul]; congr 1; omega
        omega
      have c2 : (!decide (V.int (b.len * q * M.getD b.c.toNat 0) = V.int ((b.len * q - x) * M.getD b.a.toNat 0 + x * M.getD b.b.toNat 0))) = true := c
      rw [he, decide_eq_true rfl] at c2
      cases c2
    · rintro σ H1 ⟨e1, v4, v5, v6, v7, rfl⟩
      exact k _ e1
end
end K22
namespace Mx
/-- A without its column j, v put in at p -/
def ins (A : Nat → Nat → Int) (v : Nat → Int) (j p : Nat) : Nat → Nat → Int := fun i l => if l = p then v i else A i (sk j (un p l))
theorem ins_self (A : Nat → Nat → Int) (v : Nat → Int) (j : Nat) : ins A v j j = cr A j v := by
  funext i l
  unfold ins cr
  by_cases e : l = j
  · rw [if_pos e, if_pos e]
  · rw [if_neg e, if_neg e, sk_un e]
theorem ins_step {n : Nat} (A : Nat → Nat → Int) (v : Nat → Int) (j p : Nat) (h : p + 1 < n) : det n (ins A v j (p + 1)) = - det n (ins A v j p) := by
  rw [← det_cs (ins A v j p) h]
  refine det_congr fun i l _ _ => ?_
  unfold cs ins
  by_cases e1 : l = p
  · rw [if_pos e1, if_neg (by omega), if_neg (by omega)]
    congr 2
    unfold un
    rw [if_pos (by omega), if_neg (by omega)]
    omega
  · rw [if_neg e1]
    by_cases e2 : l = p + 1
    · rw [if_pos e2, if_pos e2, if_pos rfl]
    · rw [if_neg e2, if_neg e2, if_neg e1]
      congr 2
      unfold un
      by_cases e3 : l < p
      · rw [if_pos e3, if_pos (by omega)]
      · rw [if_neg e3, if_neg (by omega)]
theorem ins_far {n : Nat} (A : Nat → Nat → Int) (v : Nat → Int) (j : Nat) : ∀ d, j + d < n → det n (ins A v j (j + d)) = sg d * det n (cr A j v)
  | 0, h => by
    rw [Nat.add_zero, ins_self]
    show _ = 1 * _
    rw [Int.one_mul]
  | d + 1, h => by
    rw [← Nat.add_assoc, ins_step A v j (j + d) (by omega), ins_far A v j d (by omega), sg_succ, Int.neg_mul]
theorem det_same {n a b : Nat} (M : Nat → Nat → Int) (ha : a < n) (hb : b < n) (h : a ≠ b) (he : ∀ k, M a k = M b k) : det n M = 0 := by
  have z := det_rows M ha hb h
  have e : det n (fun i k => M (tr a b i) k) = det n M := det_congr fun i k _ _ => by
    show M (tr a b i) k = M i k
    unfold tr
    by_cases e1 : i = a
    · rw [if_pos e1, e1]; exact (he k).symm
    · rw [if_neg e1]
      by_cases e2 : i = b
      · rw [if_pos e2, e2]; exact he k
      · rw [if_neg e2]
  rw [e] at z
  omega
/-- the columns' determinants solve the rows -/
theorem cramer {n : Nat} (A : Nat → Nat → Int) (v : Nat → Int) {i : Nat} (hi : i < n) : sm n (fun j => A i j * det n (cr A j v)) = v i * det n A := by
  obtain ⟨m, rfl⟩ : ∃ m, n = m + 1 := ⟨n - 1, by omega⟩
  let B : Nat → Nat → Int := fun r c => if c < m + 1 then A (if r = 0 then i else r - 1) c else v (if r = 0 then i else r - 1)
  have h0 : det (m + 2) B = 0 := det_same B (a := 0) (b := i + 1) (by omega) (by omega) (by omega) fun k => by
    show (if k < m + 1 then A (if (0 : Nat) = 0 then i else 0 - 1) k else v (if (0 : Nat) = 0 then i else 0 - 1)) = (if k < m + 1 then A (if i + 1 = 0 then i else i + 1 - 1) k else v (if i + 1 = 0 then i else i + 1 - 1))
    simp
  have hx : det (m + 2) B = sm (m + 1) (fun j => sg j * B 0 j * det (m + 1) fun r k => B (r + 1) (sk j k)) + sg (m + 1) * B 0 (m + 1) * det (m + 1) fun r k => B (r + 1) (sk (m + 1) k) := rfl
  have b0 : ∀ j, j < m + 1 → B 0 j = A i j := fun j hj => by
    show (if j < m + 1 then A (if (0 : Nat) = 0 then i else 0 - 1) j else _) = _
    rw [if_pos hj, if_pos rfl]
  have b1 : B 0 (m + 1) = v i := by
    show (if m + 1 < m + 1 then _ else v (if (0 : Nat) = 0 then i else 0 - 1)) = _
    rw [if_neg (by omega), if_pos rfl]
  have bs : ∀ r c, B (r + 1) c = if c < m + 1 then A r c else v r := fun r c => by
    show (if c < m + 1 then A (if r + 1 = 0 then i else r + 1 - 1) c else v (if r + 1 = 0 then i else r + 1 - 1)) = _
    simp
  have last : det (m + 1) (fun r k => B (r + 1) (sk (m + 1) k)) = det (m + 1) A := det_congr fun r k _ hk => by
    rw [bs]
    have : sk (m + 1) k = k := by unfold sk; rw [if_pos hk]
    rw [this, if_pos hk]
  have mid : ∀ j, j < m + 1 → det (m + 1) (fun r k => B (r + 1) (sk j k)) = sg (m - j) * det (m + 1) (cr A j v) := fun j hj => by
    rw [← ins_far (n := m + 1) A v j (m - j) (by omega), show j + (m - j) = m by omega]
    refine det_congr fun r k _ hk => ?_
    rw [bs]
    unfold ins
    by_cases e : k = m
    · rw [if_pos e, if_neg (by unfold sk; split <;> omega)]
    · rw [if_neg e, if_pos (by unfold sk; split <;> omega)]
      congr 2
      unfold un
      rw [if_pos (by omega)]
  have hsum : sm (m + 1) (fun j => sg j * B 0 j * det (m + 1) fun r k => B (r + 1) (sk j k)) = sg m * sm (m + 1) (fun j => A i j * det (m + 1) (cr A j v)) := by
    rw [← sm_mul]
    refine sm_congr fun j hj => ?_
    rw [b0 j hj, mid j hj]
    have e : sg m = sg j * sg (m - j) := by rw [← sg_add]; congr 1; omega
    rw [e]
    simp only [Int.mul_assoc, Int.mul_left_comm (A i j) (sg (m - j))]
  rw [hx, hsum, b1, last, sg_succ] at h0
  have e2 : sg m * (sm (m + 1) (fun j => A i j * det (m + 1) (cr A j v)) - v i * det (m + 1) A) = 0 := by
    rw [Int.mul_sub]
    rw [Int.neg_mul, Int.neg_mul, Int.mul_assoc] at h0
    omega
  have e3 : sg m ≠ 0 := by unfold sg; split <;> decide
  rcases Int.mul_eq_zero.mp e2 with z | z
  · exact absurd z e3
  · omega
end Mx
namespace K22
open PySem L2
section
variable {P : Program} {w : World} {K : PySem.W.Frag} {mg : Str → Option Value} {base : Heap}
theorem topB_small {n : Nat} {q : Int} {hl : List (Int × Int)} {bs : List BarD} {ns : List Int} (ok : WebOk (n : Int) hl bs) (hnl : ns.length = bs.length) (hsm : ∀ x ∈ ns, x.natAbs < 2 ^ 440) (hqs : q.natAbs < 2 ^ 440) (r : Int) : (topB n (hangL (n : Int) hl) q hl bs ns r).natAbs < 2 ^ 5020 := by
  have hrow := aug_row (n := n) (hs := hangL (n : Int) hl) hsm hqs ok.bars (fun p hp => (ok.keys p hp).2) (by have := ok.sum; have := ok.b1; have := ok.n10; omega)
  have hab := fun i j => ent_small (B := 2 ^ 490) (by decide +kernel) (fun row hr => (hrow row hr).2) i j
  have b8 := ok.b8
  have bd : (detB n (hangL (n : Int) hl) q bs ns).natAbs < 2 ^ 5000 := by
    rw [← det_aug (hl := hl) ok.hang]
    exact Nat.lt_of_lt_of_le (Mx.det_bits (b := 490) (n := bs.length) (by omega) (fun p q _ _ => hab p q)) (Nat.pow_le_pow_right (by decide) (by omega))
  unfold topB
  split
  · rename_i hm
    have := (ok.keys _ (look_mem hm)).2
    dsimp only at this
    rw [Int.natAbs_mul]
    exact Nat.lt_of_lt_of_le (Nat.mul_lt_mul'' (Nat.lt_of_le_of_lt (show (lookI hl r).natAbs ≤ 1000000 by omega) (show 1000000 < 2 ^ 20 by decide)) bd) (by rw [← Nat.pow_add]; exact Nat.le_refl _)
  · rw [← cram_aug ok.hang]
    refine Nat.lt_of_lt_of_le (Mx.det_bits (b := 490) (n := bs.length) (by omega) (fun p q _ _ => ?_)) (Nat.pow_le_pow_right (by decide) (by omega))
    unfold Mx.cr
    split
    · exact hab _ _
    · exact hab _ _
end
section
variable {P : Program} {w : World} {K : PySem.W.Frag} {mg : Str → Option Value} {base : Heap}
theorem sgn_abs (x d : Int) : (x * sgnI d).natAbs = x.natAbs := by
  unfold sgnI
  split
  · rw [Int.mul_neg, Int.mul_one, Int.natAbs_neg]
  · rw [Int.mul_one]
end
section
variable {P : Program} {w : World} {K : PySem.W.Frag} {mg : Str → Option Value} {base : Heap}
theorem det_small {n : Nat} {q : Int} {hl : List (Int × Int)} {bs : List BarD} {ns : List Int} (ok : WebOk (n : Int) hl bs) (hnl : ns.length = bs.length) (hsm : ∀ x ∈ ns, x.natAbs < 2 ^ 440) (hqs : q.natAbs < 2 ^ 440) : (detB n (hangL (n : Int) hl) q bs ns).natAbs < 2 ^ 5000 := by
  have hrow := aug_row (n := n) (hs := hangL (n : Int) hl) hsm hqs ok.bars (fun p hp => (ok.keys p hp).2) (by have := ok.sum; have := ok.b1; have := ok.n10; omega)
  have hab := fun i j => ent_small (B := 2 ^ 490) (by decide +kernel) (fun row hr => (hrow row hr).2) i j
  have b8 := ok.b8
  rw [← det_aug (hl := hl) ok.hang]
  exact Nat.lt_of_lt_of_le (Mx.det_bits (b := 490) (n := bs.length) (by omega) (fun p q _ _ => hab p q)) (Nat.pow_le_pow_right (by decide) (by omega))
end
section
variable {P : Program} {w : World} {K : PySem.W.Frag} {mg : Str → Option Value} {base : Heap}
theorem len_tops {n : Nat} {q : Int} {hl : List (Int × Int)} {bs : List BarD} {ns : List Int} : (topsB n q hl bs ns).length = n := by
  unfold topsB
  rw [List.length_map, len_rangeI]
end
section
variable {P : Program} {w : World} {K : PySem.W.Frag} {mg : Str → Option Value} {base : Heap}
theorem tops_small {n : Nat} {q : Int} {hl : List (Int × Int)} {bs : List BarD} {ns : List Int} (ok : WebOk (n : Int) hl bs) (hnl : ns.length = bs.length) (hsm : ∀ x ∈ ns, x.natAbs < 2 ^ 440) (hqs : q.natAbs < 2 ^ 440) {t : Int} (ht : t ∈ topsB n q hl bs ns) : t.natAbs < 2 ^ 5020 := by
  unfold topsB at ht
  obtain ⟨r, _, rfl⟩ := List.mem_map.mp ht
  rw [sgn_abs]
  exact topB_small ok hnl hsm hqs r
end
theorem sgn_pos {d : Int} (h : d ≠ 0) : 1 ≤ d * sgnI d := by
  unfold sgnI
  split
  · omega
  · omega
theorem idxA {l : List Int} (hn : l.Nodup) : ∀ {i : Nat} {a : Int}, l[i]? = some a → l.idxOf a = i := by
  induction l with
  | nil => intro i a h; cases h
  | cons x l ih =>
    intro i a h
    rw [List.nodup_cons] at hn
    cases i with
    | zero =>
      have : x = a := Option.some.inj h
      subst this
      rw [List.idxOf_cons, beq_self_eq_true]
      rfl
    | succ i =>
      have hm : a ∈ l := List.mem_of_getElem? (i := i) h
      have hne : (x == a) = false := beq_eq_false_iff_ne.mpr fun e => hn.1 (e ▸ hm)
      rw [List.idxOf_cons, hne]
      show l.idxOf a + 1 = i + 1
      rw [ih hn.2 (i := i) h]
theorem getD_set' (l : List Int) (i j : Nat) (v : Int) : (l.set i v).getD j 0 = if i = j ∧ j < l.length then v else l.getD j 0 := by
  rw [List.getD_eq_getElem?_getD, List.getD_eq_getElem?_getD, List.getElem?_set]
  by_cases e : i = j
  · subst e
    by_cases h : i < l.length
    · rw [if_pos rfl, if_pos h, if_pos ⟨rfl, h⟩]; rfl
    · rw [if_pos rfl, if_neg h, if_neg fun z => h z.2, List.getElem?_eq_none (by omega)]
  · rw [if_neg e, if_neg fun z => e z.1]
/-- what a bar asks of a rod -/
def coef (q : Int) (b : BarD) (x : Int) (r : Int) : Int := if r = b.c then q * b.len else if r = b.b then -x else if r = b.a then x - q * b.len else 0
theorem bar_val {n : Nat} {q x : Int} {b : BarD} (ok : BarOk (n : Int) b) {r : Int} (h0 : 0 ≤ r) (h1 : r < (n : Int)) : (barRow n q b x).getD r.toNat 0 = coef q b x r := by
  unfold barRow coef
  have a0 := ok.a0; have a1 := ok.a1; have b0 := ok.b0; have b1 := ok.b1; have c0 := ok.c0; have c1 := ok.c1
  rw [getD_set', List.length_set, List.length_set, List.length_replicate]
  by_cases e1 : r = b.c
  · rw [if_pos e1, if_pos ⟨by rw [e1], by omega⟩]
  · rw [if_neg e1, if_neg (fun z => e1 (by omega)), getD_set', List.length_set, List.length_replicate]
    by_cases e2 : r = b.b
    · rw [if_pos e2, if_pos ⟨by rw [e2], by omega⟩]
    · rw [if_neg e2, if_neg (fun z => e2 (by omega)), getD_set', List.length_replicate]
      by_cases e3 : r = b.a
      · rw [if_pos e3, if_pos ⟨by rw [e3], by omega⟩]
      · rw [if_neg e3, if_neg (fun z => e3 (by omega)), List.getD_eq_getElem?_getD]
        by_cases e4 : r.toNat < n
        · rw [List.getElem?_replicate, if_pos e4]; rfl
        · rw [List.getElem?_eq_none (by rw [List.length_replicate]; omega)]; rfl
theorem row_at {n : Nat} {q : Int} {bs : List BarD} {ns : List Int} (hnl : ns.length = bs.length) {i : Nat} {b : BarD} {x : Int} (hb : bs[i]? = some b) (hx : ns[i]? = some x) : (barRows n q bs ns)[i]? = some (barRow n q b x) := by
  unfold barRows
  have hz : (bs.zip ns)[i]? = some (b, x) := by rw [List.getElem?_zip_eq_some]; exact ⟨hb, hx⟩
  rw [List.getElem?_map, hz]
  rfl
theorem tab_ent {n : Nat} {hs : List Int} {q : Int} {bs : List BarD} {ns : List Int} (hnl : ns.length = bs.length) {i k : Nat} {b : BarD} {x r : Int} (hb : bs[i]? = some b) (hx : ns[i]? = some x) (hr : hs[k]? = some r) (ok : BarOk (n : Int) b) (h0 : 0 ≤ r) (h1 : r < (n : Int)) :
    Mx.ent (tabRows n hs q bs ns) i k = coef q b x r := by
  unfold Mx.ent tabRows
  rw [List.getD_eq_getElem?_getD (l := (barRows n q bs ns).map (tabRow hs)), List.getElem?_map, row_at hnl hb hx]
  show (tabRow hs (barRow n q b x)).getD k 0 = _
  unfold tabRow
  rw [List.getD_eq_getElem?_getD, List.getElem?_map, hr]
  exact bar_val ok h0 h1
theorem hang_nodup {n : Nat} {hl : List (Int × Int)} : (hangL (n : Int) hl).Nodup := by
  unfold hangL
  exact (nodup_rangeI _).sublist List.filter_sublist
theorem mem_hang {n : Nat} {hl : List (Int × Int)} {r : Int} (h0 : 0 ≤ r) (h1 : r < (n : Int)) (h : r ∉ hl.map (·.1)) : r ∈ hangL (n : Int) hl := by
  unfold hangL
  rw [List.mem_filter]
  refine ⟨mem_rangeI.mpr ⟨h0, by rw [Int.toNat_natCast]; exact h1⟩, ?_⟩
  unfold offK
  rw [Bool.not_eq_true', Bool.eq_false_iff]
  intro z
  exact h (List.contains_iff_mem.mp z)
theorem hang_off {n : Nat} {hl : List (Int × Int)} {r : Int} (h : r ∈ hangL (n : Int) hl) : r ∉ hl.map (·.1) := by
  unfold hangL at h
  have z := (List.mem_filter.mp h).2
  unfold offK at z
  rw [Bool.not_eq_true', Bool.eq_false_iff] at z
  exact fun y => z (List.contains_iff_mem.mpr y)
theorem hang_len {n : Nat} {hl : List (Int × Int)} {bs : List BarD} (ok : WebOk (n : Int) hl bs) : (hangL (n : Int) hl).length = bs.length := ok.hang
theorem sum_perm {l l' : List Int} (h : l.Perm l') : l.sum = l'.sum := by
  induction h with
  | nil => rfl
  | cons x _ ih => rw [List.sum_cons, List.sum_cons, ih]
  | swap x y l => rw [List.sum_cons, List.sum_cons, List.sum_cons, List.sum_cons]; omega
  | trans _ _ a b => exact a.trans b
theorem sum_out {l : List Int} (g : Int → Int) {a : Int} (h : a ∈ l) : (l.map g).sum = g a + ((l.erase a).map g).sum := by
  have := sum_perm ((List.perm_cons_erase h).map g)
  rw [this, List.map_cons, List.sum_cons]
theorem sum_nil {l : List Int} {g : Int → Int} (h : ∀ x ∈ l, g x = 0) : (l.map g).sum = 0 := by
  induction l with
  | nil => rfl
  | cons x l ih => rw [List.map_cons, List.sum_cons, h x List.mem_cons_self, ih fun y hy => h y (List.mem_cons_of_mem _ hy)]; rfl
theorem sum_three {l : List Int} (hn : l.Nodup) (g : Int → Int) {a b c : Int} (ha : a ∈ l) (hb : b ∈ l) (hc : c ∈ l) (hab : b ≠ a) (hca : c ≠ a) (hcb : c ≠ b) (h : ∀ r, r ≠ a → r ≠ b → r ≠ c → g r = 0) : (l.map g).sum = g a + g b + g c := by
  have hb1 : b ∈ l.erase a := (List.mem_erase_of_ne hab).mpr hb
  have hc1 : c ∈ (l.erase a).erase b := (List.mem_erase_of_ne hcb).mpr ((List.mem_erase_of_ne hca).mpr hc)
  have n1 := hn.erase a
  have n2 := n1.erase b
  rw [sum_out g ha, sum_out g hb1, sum_out g hc1, sum_nil fun x hx => ?_]
  · omega
  · obtain ⟨x1, hx1⟩ := (n2.mem_erase_iff).mp hx
    obtain ⟨x2, hx2⟩ := (n1.mem_erase_iff).mp hx1
    obtain ⟨x3, _⟩ := (hn.mem_erase_iff).mp hx2
    exact h x x3 x2 x1
theorem sm_take (g : Int → Int) (hs : List Int) : ∀ m, m ≤ hs.length → ((hs.take m).map g).sum = Mx.sm m fun k => g (hs.getD k 0)
  | 0, _ => rfl
  | m + 1, h => by
    have hx : hs[m]? = some (hs[m]'h) := List.getElem?_eq_getElem h
    rw [List.take_add_one, hx, List.map_append, List.sum_append, sm_take g hs m (by omega)]
    show _ = (Mx.sm m fun k => g (hs.getD k 0)) + g (hs.getD m 0)
    rw [List.getD_eq_getElem?_getD, hx]
    show _ + (g hs[m] + 0) = _ + g hs[m]
    omega
theorem sm_list (g : Int → Int) (hs : List Int) : (hs.map g).sum = Mx.sm hs.length fun k => g (hs.getD k 0) := by
  have := sm_take g hs hs.length (Nat.le_refl _)
  rwa [List.take_length] at this
theorem sum_mulr (c : Int) : ∀ l : List Int, (l.map fun x => x * c).sum = l.sum * c
  | [] => (Int.zero_mul c).symm
  | x :: l => by rw [List.map_cons, List.sum_cons, List.sum_cons, sum_mulr c l, Int.add_mul]
/-- the rods stand as each bar says -/
theorem bar_eq {n : Nat} {hl : List (Int × Int)} {bs : List BarD} {ns : List Int} {q : Int} (ok : WebOk (n : Int) hl bs) (hnl : ns.length = bs.length) {i : Nat} {b : BarD} {x : Int} (hb : bs[i]? = some b) (hx : ns[i]? = some x) :
    (x - q * b.len) * topB n (hangL (n : Int) hl) q hl bs ns b.a + (-x) * topB n (hangL (n : Int) hl) q hl bs ns b.b + q * b.len * topB n (hangL (n : Int) hl) q hl bs ns b.c = 0 := by
  have hang := hang_len ok
  have hi : i < bs.length := (List.getElem?_eq_some_iff.mp hb).1
  have okb := ok.bars b (List.mem_of_getElem? hb)
  obtain ⟨T, hT⟩ : ∃ T, T = topB n (hangL (n : Int) hl) q hl bs ns := ⟨_, rfl⟩
  obtain ⟨D, hD⟩ : ∃ D, D = detB n (hangL (n : Int) hl) q bs ns := ⟨_, rfl⟩
  rw [← hT]
  have hnd : (hl.map (·.1) ++ hangL (n : Int) hl).Nodup := List.nodup_append.mpr ⟨ok.nd, hang_nodup, fun a ha c hc e => hang_off hc (e ▸ ha)⟩
  have hall : ∀ r, 0 ≤ r → r < (n : Int) → r ∈ hl.map (·.1) ++ hangL (n : Int) hl := fun r h0 h1 => by
    by_cases e : r ∈ hl.map (·.1)
    · exact List.mem_append.mpr (.inl e)
    · exact List.mem_append.mpr (.inr (mem_hang h0 h1 e))
  have h3 := sum_three hnd (fun r => coef q b x r * T r) (hall _ okb.a0 okb.a1) (hall _ okb.b0 okb.b1) (hall _ okb.c0 okb.c1) okb.ab okb.ac okb.bc fun r e1 e2 e3 => by
    unfold coef
    rw [if_neg e3, if_neg e2, if_neg e1, Int.zero_mul]
  have ca : coef q b x b.a = x - q * b.len := by
    unfold coef
    rw [if_neg (fun z => okb.ac z.symm), if_neg (fun z => okb.ab z.symm), if_pos rfl]
  have cb : coef q b x b.b = -x := by
    unfold coef
    rw [if_neg (fun z => okb.bc z.symm), if_pos rfl]
  have cc : coef q b x b.c = q * b.len := by
    unfold coef
    rw [if_pos rfl]
  rw [ca, cb, cc] at h3
  rw [← h3, List.map_append, List.sum_append, List.map_map]
  -- the held rods
  have held : (hl.map ((fun r => coef q b x r * T r) ∘ fun p => p.1)).sum = -(askRow hl (barRow n q b x)) * D := by
    unfold askRow
    rw [Int.neg_neg, ← sum_mulr, List.map_map]
    congr 1
    refine List.map_congr_left fun p hp => ?_
    show coef q b x p.1 * T p.1 = (barRow n q b x).getD p.1.toNat 0 * p.2 * D
    obtain ⟨⟨k0, k1⟩, _⟩ := ok.keys p hp
    rw [bar_val okb k0 k1, hT]
    unfold topB
    rw [if_pos (List.mem_map.mpr ⟨p, hp, rfl⟩), look_of ok.nd hp, ← hD, Int.mul_assoc]
  have hanging : ((hangL (n : Int) hl).map fun r => coef q b x r * T r).sum = askRow hl (barRow n q b x) * D := by
    rw [sm_list, hang]
    have cr := Mx.cramer (n := bs.length) (Mx.ent (tabRows n (hangL (n : Int) hl) q bs ns)) (fun r => (askB n q hl bs ns).getD r 0) hi
    have ea : (askB n q hl bs ns).getD i 0 = askRow hl (barRow n q b x) := by
      unfold askB
      rw [List.getD_eq_getElem?_getD, List.getElem?_map, row_at hnl hb hx]
      rfl
    rw [ea] at cr
    rw [hD]
    refine Eq.trans (Mx.sm_congr fun k hk => ?_) cr
    have hkl : k < (hangL (n : Int) hl).length := by omega
    have hr : (hangL (n : Int) hl)[k]? = some ((hangL (n : Int) hl)[k]'hkl) := List.getElem?_eq_getElem hkl
    generalize (hangL (n : Int) hl)[k]'hkl = r at hr
    have hrm := List.mem_of_getElem? hr
    obtain ⟨r0, r1⟩ := mem_hangL hrm
    rw [tab_ent hnl hb hx hr okb r0 r1, List.getD_eq_getElem?_getD, hr]
    show coef q b x r * T r = coef q b x r * _
    rw [hT]
    unfold topB
    rw [if_neg (hang_off hrm), idxA hang_nodup hr]
    rfl
  rw [held, hanging, Int.neg_mul]
  omega
def tv (ts : List Int) (r : Int) : Int := ts.getD r.toNat 0
theorem tv_norm {ts : List Int} {s : Int} {r : Int} (h0 : 0 ≤ r) (h1 : r < (ts.length : Int)) : tv (normN ts s) r * gOf ts s = tv ts r := by
  have hk : r.toNat < ts.length := by omega
  obtain ⟨y, hy, e⟩ := norm_of (s := s) (List.getElem?_eq_getElem hk)
  unfold tv
  rw [List.getD_eq_getElem?_getD, hy, List.getD_eq_getElem?_getD, List.getElem?_eq_getElem hk]
  exact e
theorem tv_tops {n : Nat} {q : Int} {hl : List (Int × Int)} {bs : List BarD} {ns : List Int} {r : Int} (h0 : 0 ≤ r) (h1 : r < (n : Int)) : tv (topsB n q hl bs ns) r = topB n (hangL (n : Int) hl) q hl bs ns r * sgnI (detB n (hangL (n : Int) hl) q bs ns) := by
  have hk : r.toNat < n := by omega
  have hr : (rangeI n)[r.toNat]? = some r := by
    unfold rangeI
    rw [List.getElem?_map, List.getElem?_range hk]
    show some ((r.toNat : Nat) : Int) = some r
    rw [Int.toNat_of_nonneg h0]
  unfold tv topsB
  rw [List.getD_eq_getElem?_getD, List.getElem?_map, hr]
  rfl
end K22
namespace K22
open PySem L2 RZ
def stF : List Str := ["tops", "bottom"]
def stT (ts : List Int) (s : Int) : List Dt := [.tup (ts.map Dt.int), .int s]
def stD (C : Addr) (ts : List Int) (s : Int) : Dt := .ins C stF (stT ts s)
section
variable {P : Program} {w : World} {K : PySem.W.Frag} {mg : Str → Option Value} {base : Heap}
theorem st_fields {C : Addr} {H : Hp} {ts : List Int} {s : Int} {v : V} (i : Is K H (stD C ts s) v) : ∃ (a dx t : Addr), v = .ref a ∧ H a = some (.ins C dx [("tops", .ref t), ("bottom", .int s)]) ∧ SqT K H t (ts.map V.int) := by
  obtain ⟨a, dx, kvs, rfl, ha, ek, h⟩ := i
  obtain ⟨v1, r1, e1, ⟨t, xs, g1, g2, g3⟩, v2, r2, e2, f2, e3⟩ := h
  subst e2
  cases e3
  subst g1
  rw [of_isL_ints g3] at g2
  cases (show v2 = V.int s from f2)
  match kvs, ek, e1 with
  | [(x1, y1), (x2, y2)], ek, e1 =>
    simp only [stF, List.map_cons, List.map_nil] at ek e1
    injection ek with g1 ek
    injection ek with g2' _
    injection e1 with h1 e1
    injection e1 with h2 _
    subst g1 g2' h1 h2
    exact ⟨a, dx, t, rfl, ha, g2⟩
def spStandI (K : PySem.W.Frag) (C : Addr) : Sp := fun vs H Q E => ∃ (H0 : Hp) (x dx t : Addr) (ts : List Int) (s : Int), vs = [.ref x, .ref t, .int s] ∧ H0 x = none ∧ H0 dx = none ∧ dx ≠ x ∧ H = upd (upd H0 dx (.own x)) x (.ins C dx []) ∧
  SqQ K H0 t (ts.map V.int) ∧ ∀ H', Ext H0 H' → Is K H' (stD C ts s) (.ref x) → Q .non H'
theorem ok_Stand_init (T : Tx K mg) : FnOk P w K mg base (L2.CX P w) 4 T.a_Stand_init T.fd_Stand_init ["self", "tops", "bottom"] (spStandI K T.C_Stand) := by
  refine T.F_Stand_init.okX sc_Stand_init (fun vs H Q E h => ?_) (fun cdv A outer s H vs Q E hr h => ?_)
  · obtain ⟨H0, x, dx, t, ts, s, rfl, _⟩ := h
    rfl
  · obtain ⟨H0, x, dx, t, ts, sb, rfl, hx, hdx, hne, rfl, h1, k⟩ := h
    refine ⟨_, (pss_cons (ps_fld (pv 0) (pe_callTy call_tuple_of (by rfl) T.z_tuple (by decide +kernel) (pa_cons (pv 1) pa_nil)) rfl)
      (pss_one (ps_fld (pv 0) (pv 2) rfl))), ?_⟩
    have eH : Ext H0 (upd (upd H0 dx (.own x)) x (.ins T.C_Stand dx [])) := (Ext.upd hdx).mut hx
    refine ⟨_, rfl, t, ts.map V.int, rfl, ?_⟩
    rcases h1 with h1 | h1
    · refine .inl ⟨h1.ext eH, fun l hl => ?_⟩
      have e1 := eH.trans (Ext.upd (o := HO.tup (ts.map V.int)) hl)
      have hlx : l ≠ x := fun z => by rw [z, upd_same] at hl; cases hl
      refine ⟨_, rfl, x, T.C_Stand, dx, _, rfl, Ext.upd hl _ _ upd_same, T.c_Stand, T.nf_Stand_tops, (by show 0 < 1000; decide), ?_⟩
      refine ⟨_, rfl, _, rfl, x, T.C_Stand, dx, _, rfl, upd_same, T.c_Stand, T.nf_Stand_bottom, (by show 1 < 1000; decide), ?_⟩
      have eF := (e1.mut (o := HO.ins T.C_Stand dx [("tops", V.ref l)]) hx).mut (o := HO.ins T.C_Stand dx [("tops", V.ref l), ("bottom", V.int sb)]) hx
      exact k _ eF ⟨x, dx, [("tops", .ref l), ("bottom", .int sb)], rfl, upd_same, rfl, _, _, rfl, ⟨l, _, rfl, SqT.of (by rw [upd_ne hlx, upd_ne hlx]; exact upd_same), isL_ints _⟩, _, _, rfl, rfl, rfl⟩
    · refine .inr ⟨h1.ext eH, ?_⟩
      refine ⟨_, rfl, x, T.C_Stand, dx, _, rfl, upd_same, T.c_Stand, T.nf_Stand_tops, (by show 0 < 1000; decide), ?_⟩
      refine ⟨_, rfl, _, rfl, x, T.C_Stand, dx, _, rfl, upd_same, T.c_Stand, T.nf_Stand_bottom, (by show 1 < 1000; decide), ?_⟩
      have eF := ((eH.mut (o := HO.ins T.C_Stand dx [("tops", V.ref t)]) hx).mut (o := HO.ins T.C_Stand dx [("tops", V.ref t), ("bottom", V.int sb)]) hx)
      exact k _ eF ⟨x, dx, [("tops", .ref t), ("bottom", .int sb)], rfl, upd_same, rfl, _, _, rfl, ⟨t, _, rfl, h1.ext eF, isL_ints _⟩, _, _, rfl, rfl, rfl⟩
def stB (n : Nat) (q : Int) (hl : List (Int × Int)) (bs : List BarD) (ns : List Int) : Int := detB n (hangL (n : Int) hl) q bs ns * sgnI (detB n (hangL (n : Int) hl) q bs ns)
/-- a stand told, or a refusal -/
def spStand (K : PySem.W.Frag) (T : Tx K mg) : Sp := fun vs H Q E => ∃ (v u : V) (n : Nat) (bs : List BarD) (hl : List (Int × Int)) (ns : List Int) (q : Int), vs = [v, u] ∧ Is K H (wbD T.C_Web T.C_Bar (n : Int) bs hl) v ∧ Is K H (plD T.C_Places ns q) u ∧ WebOk (n : Int) hl bs ∧ (∀ x ∈ ns, x.natAbs < 2 ^ 440) ∧ q.natAbs < 2 ^ 440 ∧
  (∀ r, ckPl q bs ns = some r → r.E T E H) ∧ (ckPl q bs ns = none → detB n (hangL (n : Int) hl) q bs ns = 0 → ∀ H', Ext H H' → E (.ref T.C_Loose) none H') ∧
  (ckPl q bs ns = none → detB n (hangL (n : Int) hl) q bs ns ≠ 0 → ∀ y H', Ext H H' → Is K H' (stD T.C_Stand (normN (topsB n q hl bs ns) (stB n q hl bs ns)) (normP (topsB n q hl bs ns) (stB n q hl bs ns))) y → Q y H')
theorem ck_len {q : Int} {bs : List BarD} {ns : List Int} (hck : ckPl q bs ns = none) : ns.length = bs.length := Classical.byContradiction fun z => by
  unfold ckPl at hck
  rw [if_pos (fun y => z (by omega))] at hck
  cases hck
theorem ok_stand (T : Tx K mg) : FnOk P w K mg base (L2.CX P w) 10 T.a_stand T.fd_stand ["web", "places"] (spStand K T) := by
  refine T.F_stand.okX sc_stand (fun vs H Q E h => ?_) (fun cdv A outer s H vs Q E hr h => ?_)
  · obtain ⟨v, u, n, bs, hl, ns, q, rfl, _⟩ := h
    rfl
  · obtain ⟨v, u, n, bs, hl, ns, q, rfl, hv, hu, ok, hx, hq, kE, k0, k⟩ := h
    refine ⟨_, (pss_cons (ps_expr (pe_call (ok_check_places T) (hr.mono (by decide)) rfl T.m_check_places T.F_check_places.kp T.b_check_places .nil (passes_call (takes_of rfl rfl rfl rfl) (fun _ _ _ _ h => h)) (pa_cons (pv 0) (pa_cons (pv 1) pa_nil))))
      (pss_cons (ps_set (i := 2) sc_stand.nd rfl (Or.inl rfl) (pe_call (ok_heights_at T) (hr.mono (by decide)) rfl T.m_heights_at T.F_heights_at.kp T.b_heights_at .nil passL (pa_cons (pv 0) (pa_cons (pe_fld (pv 1) rfl) (pa_cons (pe_fld (pv 1) rfl) pa_nil)))))
      (pss_cons (ps_if (pt_cmpR op_isN (pv 2) pe_non (nomark _)) (pss_one (ps_raise0 T.xi_Loose T.m_Loose T.O_Loose rfl (takes_of rfl rfl rfl rfl) rfl)) pss_nil)
      (pss_cons (ps_asg (pe_call (ok_lowest T) (hr.mono (by decide)) rfl T.m_lowest T.F_lowest.kp T.b_lowest .nil passL (pa_cons (pe_ix ix_tup (pv 2) pe_int (fun _ _ => rfl)) (pa_cons (pe_ix ix_tup (pv 2) pe_int (fun _ _ => rfl)) pa_nil))) (pg_tup (by rfl) (pgs_cons (pg_name (i := 3) sc_stand.nd rfl (Or.inl rfl)) (pgs_cons (pg_name (i := 4) sc_stand.nd rfl (Or.inl rfl)) pgs_nil))))
      (pss_one (ps_ret (pe_make T.k_Stand (ok_Stand_init T) (hr.mono (by decide)) rfl T.m_Stand T.b_Stand_init .nil passL (pa_cons (pv 3) (pa_cons (pv 4) pa_nil))))))))), ?_⟩
    have n10 : n ≤ 10 := by have := ok.n10; omega
    have h10 : hl.length ≤ 10 := by
      have h1 := ok.sum
      have h2 := ok.b1
      have h3 := ok.n10
      omega
    refine ⟨_, rfl, _, rfl, v, u, n, bs, hl, ns, q, rfl, hv, hu, fun b hb => ⟨by have := (ok.bars b hb).l0; omega, (ok.bars b hb).l1⟩, kE, fun hck H1 e1 => ?_⟩
    have hnl := ck_len hck
    have k0 := k0 hck
    have k := k hck
    obtain ⟨pa, pdx, pt, rfl, hpa, hpt⟩ := pl_fields (hu.ext e1)
    refine ⟨_, rfl, _, rfl, pa, T.C_Places, pdx, _, _, rfl, hpa, T.c_Places, T.nf_Places_numbers, rfl, _, rfl, pa, T.C_Places, pdx, _, _, rfl, hpa, T.c_Places, T.nf_Places_parts, rfl, ?_⟩
    refine ⟨v, pt, n, bs, hl, ns, q, rfl, hv.ext e1, hpt, hnl, n10, ok.b8, ok.bars, fun p hp => ok.keys p hp, ok.nd, h10, ok.hang, hx, hq, fun hz H2 e2 => ?_, fun hdet p l H2 hp hl0 e2 hp2 hl2 => ?_⟩
    · refine ⟨_, rfl, rfl, _, rfl, iteT ?_⟩
      exact k0 hz H2 (e1.trans e2)
    have hs1 : 1 ≤ stB n q hl bs ns := sgn_pos hdet
    have hsb : (stB n q hl bs ns).natAbs < 2 ^ 8000 := by
      show (_ * sgnI _).natAbs < _
      rw [sgn_abs]
      exact Nat.lt_of_lt_of_le (det_small ok hnl hx hq) (Nat.pow_le_pow_right (by decide) (by decide))
    refine ⟨_, rfl, rfl, _, rfl, ite2 (fun c => absurd (of_decide_eq_true c) (fun z => by cases z)) (fun _ => ?_)⟩
    refine ⟨_, rfl, p, _, _, _, rfl, rfl, SqT.of hp2, rfl, _, rfl, p, _, _, _, rfl, rfl, SqT.of hp2, rfl, ?_⟩
    refine ⟨l, topsB n q hl bs ns, stB n q hl bs ns, rfl, .inl (SqL.of hl2), by rw [len_tops]; omega, hs1, hsb, fun t y H3 e3 ht hy ht1 hy1 => ?_⟩
    refine ⟨y, _, rfl, SqT.of hy1, rfl, _, _, rfl, _, _, rfl, rfl, ?_⟩
    refine ⟨_, rfl, _, rfl, fun x dx hx hdx hne => ?_⟩
    refine ⟨H3, x, dx, t, _, _, rfl, hx, hdx, hne, rfl, .inr (SqT.of ht1), fun H4 e4 i4 => ⟨rfl, ?_⟩⟩
    exact k hdet _ H4 (((e1.trans e2).trans e3).trans e4) i4
end
end K22
namespace K22
open PySem L2 RZ
section
variable {P : Program} {w : World} {K : PySem.W.Frag} {mg : Str → Option Value} {base : Heap}
def spCommon (K : PySem.W.Frag) : Sp := fun vs H Q _ => ∃ (l : Addr) (ns : List Int), vs = [.ref l] ∧ SqQ K H l (ns.map V.int) ∧ Q (.int ((gcdL 0 ns : Nat) : Int)) H
theorem ok_l_common (T : Tx K mg) : FnOk P w K mg base (L2.CX P w) 1 T.a_l_common T.fd_l_common ["_law_numbers"] (spCommon K) := by
  refine T.F_l_common.okX sc_l_common (fun vs H Q E h => ?_) (fun cdv A outer s H vs Q E hr h => ?_)
  · obtain ⟨l, ns, rfl, _⟩ := h
    rfl
  · obtain ⟨l, ns, rfl, hl, k⟩ := h
    refine ⟨_, (pss_cons (ps_set (i := 1) sc_l_common.nd rfl (Or.inl rfl) pe_int)
      (pss_cons (ps_for (passes_of rfl) rfl (pi_seq (pv 0)) (pg_name (i := 2) sc_l_common.nd rfl (Or.inl rfl)) (pss_cons (ps_par (i := 3) (j := 4) (by rfl) sc_l_common.nd rfl rfl (by decide) rfl rfl (pa_cons (pv 1) (pa_cons (pe_callB call_abs (by rfl) T.z_abs (by decide +kernel) (pa_cons (pv 2) pa_nil)) pa_nil)) (by rfl))
      (pss_cons (ps_while (passes_of rfl) (pt_cmpR op_gt (pv 4) pe_int (nomark _)) (pss_one (ps_par (i := 3) (j := 4) (by rfl) sc_l_common.nd rfl rfl (by decide) rfl rfl (pa_cons (pv 4) (pa_cons (pe_op op_modN (pv 3) (pv 4)) pa_nil)) (by rfl))))
      (pss_one (ps_set (i := 1) sc_l_common.nd rfl (Or.inl rfl) (pv 3))))))
      (pss_one (ps_ret (pv 1))))), ?_⟩
    refine ⟨_, rfl, l, rfl, for_seq (xs := ns.map V.int) (H0 := H) hl (fun i σ H' => H' = H ∧ ∃ v v3 v4 : Option V, σ = [some (.ref l), some (.int ((gcdL 0 (ns.take i) : Nat) : Int)), v, v3, v4]) ⟨rfl, none, none, none, rfl⟩ (fun i σ H' _ p => p.1 ▸ Ext.rfl') ?_ ?_⟩
    · rintro i y σ H' hi ⟨rfl, v, v3, v4, rfl⟩
      obtain ⟨n, hn, rfl⟩ : ∃ n, ns[i]? = some n ∧ y = V.int n := by
        rw [List.getElem?_map] at hi
        cases e : ns[i]? with
        | none => rw [e] at hi; cases hi
        | some n => rw [e] at hi; exact ⟨n, rfl, (Option.some.inj hi).symm⟩
      have hin : i < ns.length := (List.getElem?_eq_some_iff.mp hn).1
      have step : gcdL 0 (ns.take (i + 1)) = Nat.gcd (gcdL 0 (ns.take i)) n.natAbs := by
        rw [List.take_add_one, hn, gcdL_append]
        rfl
      refine ⟨_, rfl, _, rfl, n, rfl, ?_⟩
      have ea : (if n < 0 then -n else n) = ((n.natAbs : Nat) : Int) := by
        split <;> omega
      rw [ea]
      refine ⟨_, _, rfl, ?_⟩
      refine while_by (fun σ H2 => H2 = H' ∧ ∃ (c : Int) (a b : Nat), σ = [some (.ref l), some (.int c), some (.int n), some (.int (a : Int)), some (.int (b : Int))] ∧ Nat.gcd a b = gcdL 0 (ns.take (i + 1)))
        (fun σ _ => match σ with | [_, _, _, _, some (.int b)] => b.toNat | _ => 0) ⟨rfl, _, _, _, rfl, step.symm⟩ ?_ ?_
      · rintro σ H2 ⟨rfl, c0, a, b, rfl, hg⟩
        refine ⟨_, rfl, _, _, rfl, rfl, _, rfl, ?_⟩
        refine ite2 (fun hc => ?_) (fun hc => ?_)
        · have hb : 0 < b := by
            have := of_decide_eq_true hc
            omega
          refine ⟨_, rfl, _, rfl, _, rfl, _, _, rfl, rfl, (show (b : Int) ≠ 0 by omega), _, _, rfl, ?_⟩
          have em : Int.fmod (a : Int) (b : Int) = ((a % b : Nat) : Int) := by
            rw [Int.fmod_eq_emod_of_nonneg _ (by omega)]
            rfl
          refine ⟨⟨rfl, c0, b, a % b, by rw [← em]; rfl, ?_⟩, ?_⟩
          · rw [Nat.gcd_comm b, ← Nat.gcd_rec, Nat.gcd_comm]
            exact hg
          · show (Int.fmod (a : Int) (b : Int)).toNat < ((b : Nat) : Int).toNat
            rw [em]
            have := Nat.mod_lt a hb
            omega
        · have hb : b = 0 := by
            have : ¬ (0 < (b : Int)) := fun z => hc (decide_eq_true z)
            omega
          subst hb
          rw [Nat.gcd_zero_right] at hg
          subst hg
          exact ⟨_, rfl, rfl, _, _, _, rfl⟩
      · intro σ H Q Q' m h
        obtain ⟨v, hv, i, j, hi, hj, k, hk, q⟩ := h
        exact ⟨v, hv, i, j, hi, hj, k, hk, m _ _ q⟩
    · rintro σ H' ⟨rfl, v, v3, v4, rfl⟩
      rw [List.length_map, List.take_length]
      exact ⟨_, rfl, k⟩
def AnyB (q : Int) (bs : List BarD) (ns : List Int) : Prop := ns.length = bs.length ∧ ∀ (i : Nat) (b : BarD) (x : Int), bs[i]? = some b → ns[i]? = some x → 0 ≤ x ∧ x ≤ b.len * q
theorem anyB_snoc {q : Int} {bs : List BarD} {ns : List Int} {i : Nat} {b : BarD} {r : Int} (hnl : ns.length = i) (hn : ∀ (j : Nat) (c : BarD) (x : Int), bs[j]? = some c → ns[j]? = some x → 0 ≤ x ∧ x ≤ c.len * q) (hbi : bs[i]? = some b) (h : 0 ≤ r ∧ r ≤ b.len * q) :
    ∀ (j : Nat) (c : BarD) (x : Int), bs[j]? = some c → (ns ++ [r])[j]? = some x → 0 ≤ x ∧ x ≤ c.len * q := fun j c x hc hx => by
  by_cases hj : j < ns.length
  · rw [List.getElem?_append_left hj] at hx
    exact hn j c x hc hx
  · rw [List.getElem?_append_right (by omega)] at hx
    have hj2 : j - ns.length = 0 := by
      refine Classical.byContradiction fun z => ?_
      rw [List.getElem?_eq_none (by show 1 ≤ j - ns.length; omega)] at hx
      cases hx
    rw [hj2] at hx
    obtain rfl : r = x := Option.some.inj hx
    obtain rfl : j = i := by omega
    rw [hbi] at hc
    obtain rfl := Option.some.inj hc
    exact h
def spAny (K : PySem.W.Frag) : Sp := fun vs H Q _ => ∃ (p bl : Addr) (ws : List V) (bs : List BarD) (q : Int), vs = [.ref p, .ref bl, .int q] ∧ StAt H p ∧ SqL K (del H p) bl ws ∧ IsL K (del H p) (bs.map bfD) ws ∧ 1 ≤ q ∧ q ≤ 100 ∧ bs.length ≤ 8 ∧ (∀ b ∈ bs, 1 ≤ b.len ∧ b.len ≤ 1000000) ∧
  ∀ (a : Addr) (ns : List Int) (H' : Hp), a ≠ p → DE p H H' → StAt H' p → H' a = some (.lst (ns.map V.int)) → AnyB q bs ns → Q (.ref a) H'
def tAnyW (K : PySem.W.Frag) : TE := tOp (rI CMul fun i j => .int (i * j)) (tOp (rIxT K) (tVar 3) (tC (.int 3))) (tVar 2)
theorem ok_l_anywhere (T : Tx K mg) : FnOk P w K mg base (L2.CX P w) 2 T.a_l_anywhere T.fd_l_anywhere ["_law_s", "_law_bars", "_law_share"] (spAny K) := by
  refine T.F_l_anywhere.okX sc_l_anywhere (fun vs H Q E h => ?_) (fun cdv A outer s H vs Q E hr h => ?_)
  · obtain ⟨p, bl, ws, bs, q, rfl, _⟩ := h
    rfl
  · obtain ⟨p, bl, ws, bs, q, rfl, hs, hbl, hbs, q0, q1, h8, hb, k⟩ := h
    refine ⟨_, (pss_cons (ps_if (pt_cmpR op_eq (pe_call (ok_l_digit T) (hr.mono (by decide)) rfl T.m_l_digit T.F_l_digit.kp T.b_l_digit .nil passL (pa_cons (pv 0) (pa_cons pe_int pa_nil))) pe_int (nomark _)) (pss_one (ps_ret (pe_lc (own := [("_law_bar_here", 3)]) (g := gName 3) (tt := tYes) (te := tOp (rI CMul fun i j => .int (i * j)) (tAnyW K) (tCall spDigit [] E0 (tCons (tVar 0) (tCons (tC (.int 2)) tNil)))) (by rfl) sc_l_anywhere.nd (pi_list (pv 1)) (blkOk_by (own := [("_law_bar_here", 3)]) (N := N_l_anywhere) (sc := defScope s_l_anywhere) (by decide +kernel)) (fun _ _ _ _ _ => (pg_name (i := 3) sc_l_anywhere.nd rfl (Or.inl rfl))) (fun _ _ _ _ _ => pts_nil) (fun _ _ _ _ _ => (by exact pe_op op_mul (pe_op op_mul (pe_ix ix_tup (pv 3) pe_int (fun _ _ => rfl)) (pv 2)) (pe_call (ok_l_digit T) (hr.mono (by decide)) rfl T.m_l_digit T.F_l_digit.kp T.b_l_digit .nil passL (pa_cons (pv 0) (pa_cons pe_int pa_nil)))))))) pss_nil)
      (pss_one (ps_ret (pe_lc (own := [("_law_bar_here", 3)]) (g := gName 3) (tt := tYes) (te := tCall spDigit [] E0 (tCons (tVar 0) (tCons (tOp (rI0 fun i j => .int (i + j)) (tAnyW K) (tC (.int 1))) tNil))) (by rfl) sc_l_anywhere.nd (pi_list (pv 1)) (blkOk_by (own := [("_law_bar_here", 3)]) (N := N_l_anywhere) (sc := defScope s_l_anywhere) (by decide +kernel)) (fun _ _ _ _ _ => (pg_name (i := 3) sc_l_anywhere.nd rfl (Or.inl rfl))) (fun _ _ _ _ _ => pts_nil) (fun _ _ _ _ _ => (by exact pe_call (ok_l_digit T) (hr.mono (by decide)) rfl T.m_l_digit T.F_l_digit.kp T.b_l_digit .nil passL (pa_cons (pv 0) (pa_cons (pe_op op_add (pe_op op_mul (pe_ix ix_tup (pv 3) pe_int (fun _ _ => rfl)) (pv 2)) pe_int) pa_nil)))))))), ?_⟩
    have hwl : ws.length = bs.length := by rw [isL_len hbs, List.length_map]
    refine ⟨_, rfl, p, _, rfl, hs, by decide, by decide, fun r0 H0 e0 hs0 r00 r01 => ?_⟩
    have hbl0 := hbl.ext e0
    have hbs0 := hbs.ext e0
    refine ⟨rfl, _, rfl, ite2 (fun _ => ?_) (fun _ => ?_)⟩
    · refine ⟨_, rfl, bl, rfl, ⟨_, hbl0.ext del_ext⟩, fun D hD => ?_⟩
      have hDp : D ≠ p := hs0.ne hD
      have hD0 : del H0 p D = none := by rw [del_ne hDp]; exact hD
      refine lc_list (xs := ws) (fun i H' => DE p H0 H' ∧ StAt H' p ∧ ∃ ns : List Int, ns.length = i ∧ H' D = some (.lst (ns.map V.int)) ∧ ∀ (j : Nat) (b : BarD) (x : Int), bs[j]? = some b → ns[j]? = some x → 0 ≤ x ∧ x ≤ b.len * q) ⟨DE.of (Ext.upd hD), hs0.ext (Ext.upd hD), [], rfl, upd_same, fun j b x _ h => by cases h⟩ (fun i H' _ z => (hbl0.ext z.1).ext del_ext) ?_ ?_
      · rintro i y H1 hi ⟨e1, hs1, ns, hnl, hD1, hn⟩
        obtain ⟨b, hbi, ib⟩ := isL_at' hbs0 hi
        obtain ⟨t, rfl, ht0⟩ := bf_of (ib.ext e1)
        have hin : i < bs.length := (List.getElem?_eq_some_iff.mp hbi).1
        have hbb := hb b (List.mem_of_getElem? hbi)
        have w0 : 0 ≤ b.len * q := Int.mul_nonneg (by omega) (by omega)
        have w1 : b.len * q ≤ 1000000 * 100 := Int.mul_le_mul hbb.2 q1 (by omega) (by decide)
        refine ⟨rfl, tyes ?_⟩
        refine ⟨_, rfl, t, _, 3, _, rfl, rfl, ht0.ext del_ext, atI_nat (xs := brV b) (j := 3) rfl, _, rfl, _, _, rfl, rfl, .inr ⟨by omega, by omega⟩, _, rfl, p, _, rfl, hs1, by decide, by decide, fun r1 H2 e2 hs2 r10 r11 => ?_⟩
        refine ⟨_, _, rfl, rfl, .inr ⟨by omega, by omega⟩, ?_⟩
        have hx : 0 ≤ b.len * q * r1 ∧ b.len * q * r1 ≤ b.len * q := by
          rcases (show r1 = 0 ∨ r1 = 1 by omega) with rfl | rfl
          · rw [Int.mul_zero]; omega
          · rw [Int.mul_one]; omega
        have hD2 := e2.to hD1 hDp
        refine ⟨_, hD2, ?_, DE.mut (e1.trans e2) hD0, hs2.upd hDp, ns ++ [b.len * q * r1], by rw [List.length_append, hnl]; rfl, by rw [upd_same, List.map_append]; rfl, anyB_snoc hnl hn hbi hx⟩
        rw [List.length_map, hnl]
        exact Nat.lt_of_lt_of_le (show i < 100 by omega) (by decide)
      · rintro H1 ⟨e1, hs1, ns, hnl, hD1, hn⟩
        exact k D ns H1 hDp (e0.trans e1) hs1 hD1 ⟨by rw [hnl, hwl], hn⟩
    · refine ⟨_, rfl, bl, rfl, ⟨_, hbl0.ext del_ext⟩, fun D hD => ?_⟩
      have hDp : D ≠ p := hs0.ne hD
      have hD0 : del H0 p D = none := by rw [del_ne hDp]; exact hD
      refine lc_list (xs := ws) (fun i H' => DE p H0 H' ∧ StAt H' p ∧ ∃ ns : List Int, ns.length = i ∧ H' D = some (.lst (ns.map V.int)) ∧ ∀ (j : Nat) (b : BarD) (x : Int), bs[j]? = some b → ns[j]? = some x → 0 ≤ x ∧ x ≤ b.len * q) ⟨DE.of (Ext.upd hD), hs0.ext (Ext.upd hD), [], rfl, upd_same, fun j b x _ h => by cases h⟩ (fun i H' _ z => (hbl0.ext z.1).ext del_ext) ?_ ?_
      · rintro i y H1 hi ⟨e1, hs1, ns, hnl, hD1, hn⟩
        obtain ⟨b, hbi, ib⟩ := isL_at' hbs0 hi
        obtain ⟨t, rfl, ht0⟩ := bf_of (ib.ext e1)
        have hin : i < bs.length := (List.getElem?_eq_some_iff.mp hbi).1
        have hbb := hb b (List.mem_of_getElem? hbi)
        have w0 : 0 ≤ b.len * q := Int.mul_nonneg (by omega) (by omega)
        have w1 : b.len * q ≤ 1000000 * 100 := Int.mul_le_mul hbb.2 q1 (by omega) (by decide)
        refine ⟨rfl, tyes ?_⟩
        refine ⟨_, rfl, _, rfl, t, _, 3, _, rfl, rfl, ht0.ext del_ext, atI_nat (xs := brV b) (j := 3) rfl, _, rfl, _, _, rfl, rfl, .inr ⟨by omega, by omega⟩, _, _, rfl, rfl, p, _, rfl, hs1, by omega, by omega, fun r1 H2 e2 hs2 r10 r11 => ?_⟩
        have hD2 := e2.to hD1 hDp
        refine ⟨_, hD2, ?_, DE.mut (e1.trans e2) hD0, hs2.upd hDp, ns ++ [r1], by rw [List.length_append, hnl]; rfl, by rw [upd_same, List.map_append]; rfl, anyB_snoc hnl hn hbi ⟨r10, by omega⟩⟩
        rw [List.length_map, hnl]
        exact Nat.lt_of_lt_of_le (show i < 100 by omega) (by decide)
      · rintro H1 ⟨e1, hs1, ns, hnl, hD1, hn⟩
        exact k D ns H1 hDp (e0.trans e1) hs1 hD1 ⟨by rw [hnl, hwl], hn⟩
end
end K22
namespace L2
open PySem PySem.Spec PyProof.Rows
theorem countU {y : V} : ∀ {ys : List V} {us : List Value}, Vals ys us → ys.all flatV = true → us.countP (eqU y) = ys.countP (fun z => eqV z y)
  | _, _, .nil, _ => rfl
  | z :: ys, u :: us, .cons r t, f => by
    rw [List.all_cons, Bool.and_eq_true] at f
    rw [List.countP_cons, List.countP_cons, countU t f.2, eqU_of r f.1]
section
variable {X : Cx}
def rCntV (K : PySem.W.Frag) : V → List V → Hp → VK → Prop := fun x xs H Q => ∃ (p : Addr) (ys : List V) (y : V), x = .ref p ∧ xs = [y] ∧ SqL K H p ys ∧ flatV y = true ∧ ys.all flatV = true ∧ Q (.int (ys.countP (fun z => eqV z y) : Nat)) H
theorem mt_lcountV : MtR X "list.count" (rCntV X.K) := by
  intro pins s σ H x xs v us Q I rx rxs h
  obtain ⟨p, ys, y, rfl, rfl, hs, fy, fys, q⟩ := h
  cases rx
  cases rxs with
  | cons ry rt =>
    rename_i uy ut
    cases rt
    obtain ⟨its, rv, ⟨⟨cls, dd, data, sl⟩, n, ho, hc, hdn, hd⟩, hlen⟩ := I.list hs
    simp only at hc hd
    subst hc hd
    refine call_meets PySem.F.slot_list_count ⟨_, ho, rfl⟩ PySem.F.entry_list_count (PySem.F.args_list_count_2 _ _)
      (SeqAt.list_countAt p its.toArray n dd sl uy (eqU y)) ⟨ho, fun u' hu' => mem_eqAt ry fy rv fys u' (by simpa using hu'), ?_⟩
    refine ⟨.int ((ys.countP (fun z => eqV z y) : Nat) : Int), H, I.tok _, ⟨s.toks, ?_⟩, q⟩
    show Value.int ((its.toArray.toList.countP (eqU y) : Nat) : Int) s.toks = Value.int ((ys.countP (fun z => eqV z y) : Nat) : Int) s.toks
    rw [show its.toArray.toList = its from rfl, countU rv fys]
end
end L2
namespace K22
open PySem PySem.Spec PyProof.Rows L2 LamX
/-- what a refusal is told as -/
def RefS (K : PySem.W.Frag) (L N B M : Addr) (Q : VK) : XK := fun cls d H => (cls = .ref L ∧ d = none ∧ ∀ v H', Ext H H' → Is K H' (.tup [.str "loose", .non]) v → Q v H') ∨
  (cls = .ref N ∧ d = none ∧ ∀ v H', Ext H H' → Is K H' (.tup [.str "notloose", .non]) v → Q v H') ∨
  (cls = .ref B ∧ ∃ (a : Addr) (n : Int) (x : Str), d = some a ∧ H a = some (.xd [("count", .int n), ("what", .str x)]) ∧ ∀ v H', Ext H H' → Is K H' (.tup [.str "badcount", .tup [.str x, .int n]]) v → Q v H') ∨
  (cls = .ref M ∧ ∃ (a : Addr) (n : Int), d = some a ∧ H a = some (.xd [("bar", .int n)]) ∧ ∀ v H', Ext H H' → Is K H' (.tup [.str "badplace", .int n]) v → Q v H')
def TTsaid (K : PySem.W.Frag) (L N B M : Addr) : (XK → Hp → VK → Prop) → Hp → VK → Prop := fun tl H Q => tl (RefS K L N B M Q) H (fun u H1 => 2 ≤ sizeLine ∧ ∀ p, H1 p = none → ∃ v : V, (some (some (V.ref p)) : Option (Option V)) = some (some v) ∧ Q v (upd H1 p (.tup [.str "told", u])))
def isX (K : PySem.W.Frag) (a : Addr) (cls : Value) (d : Option Addr) (C : Addr) : TE := tCB (rIsEX K a cls d) (tCons (tVar 2) (tCons (tC (.ref C)) tNil))
def ts_said (K : PySem.W.Frag) (L N B M : Addr) : Addr → Value → Option Addr → TS := fun a cls d =>
  tSeq (tAsg (tLst (tCons (isX K a cls d L) (tCons (isX K a cls d N) (tCons (isX K a cls d B) (tCons (isX K a cls d M) tNil))))) (gName 3))
    (tIfS (tTest (tOp rNe (tBM K "list" (rCntV K) (tVar 3) (tCons (tC (.bl true)) tNil)) (tC (.int 1)))) tNever
    (tIfS (tB (tOp (rIxL K) (tVar 3) (tC (.int 2)))) (tAsg (tTup (tCons (tC (.str "badcount")) (tCons (tTup (tCons (tXf a cls d B "what" (tVar 2)) (tCons (tXf a cls d B "count" (tVar 2)) tNil))) tNil))) (gName 1))
    (tIfS (tB (tOp (rIxL K) (tVar 3) (tC (.int 3)))) (tAsg (tTup (tCons (tC (.str "badplace")) (tCons (tXf a cls d M "bar" (tVar 2)) tNil))) (gName 1))
      (tAsg (tTup (tCons (tOp (rIxL K) (tLst (tCons (tC (.str "loose")) (tCons (tC (.str "notloose")) tNil))) (tBM K "list" (rIndex K) (tVar 3) (tCons (tC (.bl true)) tNil))) (tCons (tC .non) tNil))) (gName 1)))))
theorem said_gives {X : Cx} {K : PySem.W.Frag} {mg : Str → Option Value} (eK : X.K = K) (eM : X.mg = mg) {q : Str} {g : Addr} {cdg : Value} (T : Tx K mg) : GivesTo X N_l_said "_law_said" (defScope s_l_said) g cdg (defBody s_l_said) "_law_ask" q (TTsaid K T.C_Loose T.C_NotLoose T.C_BadCount T.C_BadPlace) := by
  subst eK
  subst eM
  intro f c' s H Q tl act hc h
  refine ⟨_, (pss_cons (ps_set (i := 1) sc_l_said.nd rfl (Or.inl rfl) pe_non)
      (pss_cons (ps_try_as (i := 2) (tb := fun W D σ H => ∃ Ech : XK, (∀ cls d σ' H', σ'.length = 4 → Ech cls d H' → W cls d σ' H') ∧ (tAsg (tTup (tCons (tC (.str "told")) (tCons (fun σZ HZ Q => σZ[0]? = some (some (V.ref f)) ∧ HZ c' = some (CodeO c' q) ∧ tl Ech HZ Q) tNil))) (gName 1)) D σ H) (ts := ts_said X.K T.C_Loose T.C_NotLoose T.C_BadCount T.C_BadPlace) (Wout := fun _ _ _ _ => False) rfl rfl sc_l_said.nd rfl rfl ⟨rfl, by decide, Or.inl T.m_HooksError⟩ L2.takes0
          (fun W pn xe tk _ => ?_)
          (fun a oe cls d pn hz hf => by exact (pss_cons (ps_set (i := 3) sc_l_said.nd rfl (Or.inl rfl) (pe_lst (pa_cons (pe_callB (call_isEX hz hf) (by rfl) T.z_isinstance (by decide +kernel) (pa_cons (pv 2) (pa_cons (pe_glob (v := .ref T.C_Loose) rfl T.m_Loose rfl) pa_nil))) (pa_cons (pe_callB (call_isEX hz hf) (by rfl) T.z_isinstance (by decide +kernel) (pa_cons (pv 2) (pa_cons (pe_glob (v := .ref T.C_NotLoose) rfl T.m_NotLoose rfl) pa_nil))) (pa_cons (pe_callB (call_isEX hz hf) (by rfl) T.z_isinstance (by decide +kernel) (pa_cons (pv 2) (pa_cons (pe_glob (v := .ref T.C_BadCount) rfl T.m_BadCount rfl) pa_nil))) (pa_cons (pe_callB (call_isEX hz hf) (by rfl) T.z_isinstance (by decide +kernel) (pa_cons (pv 2) (pa_cons (pe_glob (v := .ref T.C_BadPlace) rfl T.m_BadPlace rfl) pa_nil))) pa_nil))))))
            (pss_one (ps_if (pt_cmpR op_ne (pe_bm PySem.F.plainAttrs_list PySem.F.slot_list_count PySem.F.type_list_count mt_lcountV (pv 3) (pa_cons pe_bl pa_nil)) pe_int (nomark _)) pss_never
            (pss_one (ps_if (pt_val (pe_ix ix_list (pv 3) pe_int (fun _ _ => rfl)))
              (pss_one (ps_set (i := 1) sc_l_said.nd rfl (Or.inl rfl) (pe_tup (pa_cons pe_str (pa_cons (pe_tup (pa_cons (pe_xf T.xf_BadCount T.nf_BadCount_what hz hf (pv 2)) (pa_cons (pe_xf T.xf_BadCount T.nf_BadCount_count hz hf (pv 2)) pa_nil))) pa_nil)))))
            (pss_one (ps_if (pt_val (pe_ix ix_list (pv 3) pe_int (fun _ _ => rfl)))
              (pss_one (ps_set (i := 1) sc_l_said.nd rfl (Or.inl rfl) (pe_tup (pa_cons pe_str (pa_cons (pe_xf T.xf_BadPlace T.nf_BadPlace_bar hz hf (pv 2)) pa_nil)))))
              (pss_one (ps_set (i := 1) sc_l_said.nd rfl (Or.inl rfl) (pe_tup (pa_cons (pe_ix ix_list (pe_lst (pa_cons pe_str (pa_cons pe_str pa_nil))) (pe_bm PySem.F.plainAttrs_list PySem.F.slot_list_index PySem.F.type_list_index mt_index (pv 3) (pa_cons pe_bl pa_nil)) (fun _ _ => rfl)) (pa_cons pe_non pa_nil))))))))))))))
      (pss_one (ps_ret (pv 1))))), ?_⟩
  · refine ⟨fun pins s' σ H' D I h' => ?_⟩
    obtain ⟨Ech, hW, h1⟩ := h'
    have tk2 : Takes ((cxOf C8.CX0 X.prog X.w X.K X.mg X.base N_l_said "_law_said" (defScope s_l_said) g cdg X.A X.stack s H C8.E0).tr pn xe) (fun cls d _ H' => Ech cls d H') := fun u s2 ⟨a, B, sI, pins2, σ2, H2, cls, d, e1, J, e2, e3, e4, e5, e6, e7, e8⟩ =>
      tk u s2 ⟨a, B, sI, pins2, σ2, H2, cls, d, e1, J, e2, e3, e4, e5, e6, e7, hW cls d σ2 H2 J.len e8⟩
    exact (pss_one (ps_set (i := 1) sc_l_said.nd rfl (Or.inl rfl) (pe_tup (pa_cons pe_str (pa_cons (act _ pn xe Ech _ _ tk2 (fun _ _ _ _ z => z)) pa_nil))))).run pins s' σ H' D I h1
  · refine ⟨RefS X.K T.C_Loose T.C_NotLoose T.C_BadCount T.C_BadPlace Q, fun cls d σ' H' hl hh => ?_, rfl, hc, h⟩
    match σ', hl with
    | [a0, a1, a2, a3], _ =>
      rcases hh with ⟨rfl, rfl, hq⟩ | ⟨rfl, rfl, hq⟩ | ⟨rfl, a, n, x, rfl, hd, hq⟩ | ⟨rfl, a, n, rfl, hd, hq⟩
      · refine ⟨true, T.exm_Loose_HooksError, fun _ ea hea => ?_, fun z => by cases z⟩
        refine ⟨_, rfl, _, _, true, T.C_Loose, rfl, fun u hu => hu, rfl, T.isC_Loose, T.kit_Loose_Loose, .inl rfl, ?_⟩
        refine ⟨_, rfl, _, _, false, T.C_Loose, rfl, fun u hu => hu, rfl, T.isC_Loose, T.kit_Loose_NotLoose, .inl rfl, ?_⟩
        refine ⟨_, rfl, _, _, false, T.C_Loose, rfl, fun u hu => hu, rfl, T.isC_Loose, T.kit_Loose_BadCount, .inl rfl, ?_⟩
        refine ⟨_, rfl, _, _, false, T.C_Loose, rfl, fun u hu => hu, rfl, T.isC_Loose, T.kit_Loose_BadPlace, .inl rfl, ?_⟩
        refine ⟨by show 4 ≤ sizeLine; decide, fun D hD => ?_⟩
        simp only [List.set_cons_succ, List.set_cons_zero]
        have eD : Ext H' (upd H' D (.lst [.bl true, .bl false, .bl false, .bl false])) := Ext.upd hD
        have hD1 : (upd H' D (.lst [.bl true, .bl false, .bl false, .bl false])) D = some (.lst [.bl true, .bl false, .bl false, .bl false]) := upd_same
        generalize upd H' D (.lst [.bl true, .bl false, .bl false, .bl false]) = H1 at eD hD1 ⊢
        refine ⟨_, rfl, .inl ⟨rfl, _, SqL.of hD1⟩, D, _, .bl true, rfl, rfl, SqL.of hD1, rfl, rfl, rfl, false, rfl, iteF ?_⟩
        refine ⟨_, rfl, D, _, 2, _, rfl, rfl, SqL.of hD1, rfl, false, rfl, iteF ?_⟩
        refine ⟨_, rfl, D, _, 3, _, rfl, rfl, SqL.of hD1, rfl, false, rfl, iteF ?_⟩
        refine ⟨by show 2 ≤ sizeLine; decide, fun D2 hD2 => ?_⟩
        have e2 := Ext.upd (o := HO.lst [.str "loose", .str "notloose"]) hD2
        refine ⟨_, rfl, .inl ⟨rfl, _, SqL.of (e2 _ _ hD1)⟩, D, _, .bl true, 0, .bl true, rfl, rfl, SqL.of (e2 _ _ hD1), rfl, rfl, rfl, rfl, fun m z' hm hz => ?_, D2, _, _, _, rfl, rfl, SqL.of upd_same, rfl, ?_⟩
        · exact absurd hm (Nat.not_lt_zero _)
        refine ⟨by show 2 ≤ sizeLine; decide, fun p hp => ?_⟩
        refine ⟨_, rfl, ?_⟩
        exact hq _ _ ((eD.trans e2).trans (Ext.upd hp)) ⟨p, _, rfl, SqT.of upd_same, _, _, rfl, rfl, _, _, rfl, rfl, rfl⟩
      · refine ⟨true, T.exm_NotLoose_HooksError, fun _ ea hea => ?_, fun z => by cases z⟩
        refine ⟨_, rfl, _, _, false, T.C_NotLoose, rfl, fun u hu => hu, rfl, T.isC_NotLoose, T.kit_NotLoose_Loose, .inl rfl, ?_⟩
        refine ⟨_, rfl, _, _, true, T.C_NotLoose, rfl, fun u hu => hu, rfl, T.isC_NotLoose, T.kit_NotLoose_NotLoose, .inl rfl, ?_⟩
        refine ⟨_, rfl, _, _, false, T.C_NotLoose, rfl, fun u hu => hu, rfl, T.isC_NotLoose, T.kit_NotLoose_BadCount, .inl rfl, ?_⟩
        refine ⟨_, rfl, _, _, false, T.C_NotLoose, rfl, fun u hu => hu, rfl, T.isC_NotLoose, T.kit_NotLoose_BadPlace, .inl rfl, ?_⟩
        refine ⟨by show 4 ≤ sizeLine; decide, fun D hD => ?_⟩
        simp only [List.set_cons_succ, List.set_cons_zero]
        have eD : Ext H' (upd H' D (.lst [.bl false, .bl true, .bl false, .bl false])) := Ext.upd hD
        have hD1 : (upd H' D (.lst [.bl false, .bl true, .bl false, .bl false])) D = some (.lst [.bl false, .bl true, .bl false, .bl false]) := upd_same
        generalize upd H' D (.lst [.bl false, .bl true, .bl false, .bl false]) = H1 at eD hD1 ⊢
        refine ⟨_, rfl, .inl ⟨rfl, _, SqL.of hD1⟩, D, _, .bl true, rfl, rfl, SqL.of hD1, rfl, rfl, rfl, false, rfl, iteF ?_⟩
        refine ⟨_, rfl, D, _, 2, _, rfl, rfl, SqL.of hD1, rfl, false, rfl, iteF ?_⟩
        refine ⟨_, rfl, D, _, 3, _, rfl, rfl, SqL.of hD1, rfl, false, rfl, iteF ?_⟩
        refine ⟨by show 2 ≤ sizeLine; decide, fun D2 hD2 => ?_⟩
        have e2 := Ext.upd (o := HO.lst [.str "loose", .str "notloose"]) hD2
        refine ⟨_, rfl, .inl ⟨rfl, _, SqL.of (e2 _ _ hD1)⟩, D, _, .bl true, 1, .bl true, rfl, rfl, SqL.of (e2 _ _ hD1), rfl, rfl, rfl, rfl, fun m z' hm hz => ?_, D2, _, _, _, rfl, rfl, SqL.of upd_same, rfl, ?_⟩
        · obtain rfl : m = 0 := by omega
          cases hz
          rfl
        refine ⟨by show 2 ≤ sizeLine; decide, fun p hp => ?_⟩
        refine ⟨_, rfl, ?_⟩
        exact hq _ _ ((eD.trans e2).trans (Ext.upd hp)) ⟨p, _, rfl, SqT.of upd_same, _, _, rfl, rfl, _, _, rfl, rfl, rfl⟩
      · refine ⟨true, T.exm_BadCount_HooksError, fun _ ea hea => ?_, fun z => by cases z⟩
        have l1 : ([("count", .int n), ("what", .str x)] : List (Str × V)).lookup ("what" : Str) = some (V.str x) := by
          rw [lookup_put, if_neg (by decide +kernel), lookup_put, if_pos rfl]
        have l2 : ([("count", .int n), ("what", .str x)] : List (Str × V)).lookup ("count" : Str) = some (V.int n) := by
          rw [lookup_put, if_pos rfl]
        refine ⟨_, rfl, _, _, false, T.C_BadCount, rfl, fun u hu => hu, rfl, T.isC_BadCount, T.kit_BadCount_Loose, .inr ⟨a, _, rfl, hd⟩, ?_⟩
        refine ⟨_, rfl, _, _, false, T.C_BadCount, rfl, fun u hu => hu, rfl, T.isC_BadCount, T.kit_BadCount_NotLoose, .inr ⟨a, _, rfl, hd⟩, ?_⟩
        refine ⟨_, rfl, _, _, true, T.C_BadCount, rfl, fun u hu => hu, rfl, T.isC_BadCount, T.kit_BadCount_BadCount, .inr ⟨a, _, rfl, hd⟩, ?_⟩
        refine ⟨_, rfl, _, _, false, T.C_BadCount, rfl, fun u hu => hu, rfl, T.isC_BadCount, T.kit_BadCount_BadPlace, .inr ⟨a, _, rfl, hd⟩, ?_⟩
        refine ⟨by show 4 ≤ sizeLine; decide, fun D hD => ?_⟩
        simp only [List.set_cons_succ, List.set_cons_zero]
        have eD : Ext H' (upd H' D (.lst [.bl false, .bl false, .bl true, .bl false])) := Ext.upd hD
        have hD1 : (upd H' D (.lst [.bl false, .bl false, .bl true, .bl false])) D = some (.lst [.bl false, .bl false, .bl true, .bl false]) := upd_same
        generalize upd H' D (.lst [.bl false, .bl false, .bl true, .bl false]) = H1 at eD hD1 ⊢
        refine ⟨_, rfl, .inl ⟨rfl, _, SqL.of hD1⟩, D, _, .bl true, rfl, rfl, SqL.of hD1, rfl, rfl, rfl, false, rfl, iteF ?_⟩
        refine ⟨_, rfl, D, _, 2, _, rfl, rfl, SqL.of hD1, rfl, true, rfl, iteT ?_⟩
        have hd1 := eD _ _ hd
        refine ⟨_, rfl, rfl, rfl, a, _, _, rfl, hd1, l1, ?_⟩
        refine ⟨_, rfl, rfl, rfl, a, _, _, rfl, hd1, l2, ?_⟩
        refine ⟨by show 2 ≤ sizeLine; decide, fun p hp => ?_⟩
        refine ⟨by show 2 ≤ sizeLine; decide, fun p2 hp2 => ?_⟩
        refine ⟨_, rfl, ?_⟩
        exact hq _ _ ((eD.trans (Ext.upd hp)).trans (Ext.upd hp2)) ⟨p2, _, rfl, SqT.of upd_same, _, _, rfl, rfl, _, _, rfl, ⟨p, _, rfl, SqT.of (Ext.upd hp2 _ _ upd_same), _, _, rfl, rfl, _, _, rfl, rfl, rfl⟩, rfl⟩
      · refine ⟨true, T.exm_BadPlace_HooksError, fun _ ea hea => ?_, fun z => by cases z⟩
        have l1 : ([("bar", .int n)] : List (Str × V)).lookup ("bar" : Str) = some (V.int n) := by
          rw [lookup_put, if_pos rfl]
        refine ⟨_, rfl, _, _, false, T.C_BadPlace, rfl, fun u hu => hu, rfl, T.isC_BadPlace, T.kit_BadPlace_Loose, .inr ⟨a, _, rfl, hd⟩, ?_⟩
        refine ⟨_, rfl, _, _, false, T.C_BadPlace, rfl, fun u hu => hu, rfl, T.isC_BadPlace, T.kit_BadPlace_NotLoose, .inr ⟨a, _, rfl, hd⟩, ?_⟩
        refine ⟨_, rfl, _, _, false, T.C_BadPlace, rfl, fun u hu => hu, rfl, T.isC_BadPlace, T.kit_BadPlace_BadCount, .inr ⟨a, _, rfl, hd⟩, ?_⟩
        refine ⟨_, rfl, _, _, true, T.C_BadPlace, rfl, fun u hu => hu, rfl, T.isC_BadPlace, T.kit_BadPlace_BadPlace, .inr ⟨a, _, rfl, hd⟩, ?_⟩
        refine ⟨by show 4 ≤ sizeLine; decide, fun D hD => ?_⟩
        simp only [List.set_cons_succ, List.set_cons_zero]
        have eD : Ext H' (upd H' D (.lst [.bl false, .bl false, .bl false, .bl true])) := Ext.upd hD
        have hD1 : (upd H' D (.lst [.bl false, .bl false, .bl false, .bl true])) D = some (.lst [.bl false, .bl false, .bl false, .bl true]) := upd_same
        generalize upd H' D (.lst [.bl false, .bl false, .bl false, .bl true]) = H1 at eD hD1 ⊢
        refine ⟨_, rfl, .inl ⟨rfl, _, SqL.of hD1⟩, D, _, .bl true, rfl, rfl, SqL.of hD1, rfl, rfl, rfl, false, rfl, iteF ?_⟩
        refine ⟨_, rfl, D, _, 2, _, rfl, rfl, SqL.of hD1, rfl, false, rfl, iteF ?_⟩
        refine ⟨_, rfl, D, _, 3, _, rfl, rfl, SqL.of hD1, rfl, true, rfl, iteT ?_⟩
        have hd1 := eD _ _ hd
        refine ⟨_, rfl, rfl, rfl, a, _, _, rfl, hd1, l1, ?_⟩
        refine ⟨by show 2 ≤ sizeLine; decide, fun p hp => ?_⟩
        refine ⟨_, rfl, ?_⟩
        exact hq _ _ (eD.trans (Ext.upd hp)) ⟨p, _, rfl, SqT.of upd_same, _, _, rfl, rfl, _, _, rfl, rfl, rfl⟩
end K22
namespace K22
open PySem L2 RZ
theorem st_dot {n : Nat} {hl : List (Int × Int)} {bs : List BarD} {ns : List Int} {q : Int} (ok : WebOk (n : Int) hl bs) (hnl : ns.length = bs.length) (hdet : detB n (hangL (n : Int) hl) q bs ns ≠ 0) : ∀ row ∈ barRows n q bs ns, dotL row (normN (topsB n q hl bs ns) (stB n q hl bs ns)) = 0 := by
  intro row hrow
  obtain ⟨⟨b, x⟩, hz, rfl⟩ := List.mem_map.mp hrow
  obtain ⟨i, hi⟩ := List.getElem?_of_mem hz
  rw [List.getElem?_zip_eq_some] at hi
  have okb := ok.bars b (List.mem_of_getElem? hi.1)
  have hs1 : 1 ≤ stB n q hl bs ns := sgn_pos hdet
  have tl : (topsB n q hl bs ns).length = n := len_tops
  have g1 := gOf_pos (ns := topsB n q hl bs ns) hs1
  have at' : ∀ {r : Int}, 0 ≤ r → r < (n : Int) → (normN (topsB n q hl bs ns) (stB n q hl bs ns)).getD r.toNat 0 * gOf (topsB n q hl bs ns) (stB n q hl bs ns) = topB n (hangL (n : Int) hl) q hl bs ns r * sgnI (detB n (hangL (n : Int) hl) q bs ns) := fun {r} r0 r1 => by
    have a := tv_norm (ts := topsB n q hl bs ns) (s := stB n q hl bs ns) r0 (by rw [tl]; exact r1)
    rw [tv_tops r0 r1] at a
    exact a
  dsimp only at hi
  have be := bar_eq (q := q) ok hnl hi.1 hi.2
  rw [dot_bar okb (by rw [len_norm, tl])]
  have aa := at' okb.a0 okb.a1
  have ab := at' okb.b0 okb.b1
  have ac := at' okb.c0 okb.c1
  generalize gOf (topsB n q hl bs ns) (stB n q hl bs ns) = g at *
  generalize (normN (topsB n q hl bs ns) (stB n q hl bs ns)).getD b.a.toNat 0 = Ma at *
  generalize (normN (topsB n q hl bs ns) (stB n q hl bs ns)).getD b.b.toNat 0 = Mb at *
  generalize (normN (topsB n q hl bs ns) (stB n q hl bs ns)).getD b.c.toNat 0 = Mc at *
  generalize topB n (hangL (n : Int) hl) q hl bs ns b.a = A at *
  generalize topB n (hangL (n : Int) hl) q hl bs ns b.b = B at *
  generalize topB n (hangL (n : Int) hl) q hl bs ns b.c = C at *
  generalize sgnI (detB n (hangL (n : Int) hl) q bs ns) = sg at *
  have e : ((x - q * b.len) * Ma + -x * Mb + q * b.len * Mc) * g = ((x - q * b.len) * A + -x * B + q * b.len * C) * sg := by
    have e1 : (x - q * b.len) * Ma * g = (x - q * b.len) * A * sg := by rw [Int.mul_assoc, aa, Int.mul_assoc]
    have e2 : -x * Mb * g = -x * B * sg := by rw [Int.mul_assoc, ab, Int.mul_assoc]
    have e3 : q * b.len * Mc * g = q * b.len * C * sg := by rw [Int.mul_assoc (q * b.len), ac, Int.mul_assoc (q * b.len)]
    rw [Int.add_mul, Int.add_mul, e1, e2, e3, ← Int.add_mul, ← Int.add_mul]
  rw [be, Int.zero_mul] at e
  rcases Int.mul_eq_zero.mp e with z | z
  · exact z
  · omega
theorem st_held {n : Nat} {hl : List (Int × Int)} {bs : List BarD} {ns : List Int} {q : Int} (ok : WebOk (n : Int) hl bs) (hdet : detB n (hangL (n : Int) hl) q bs ns ≠ 0) {r h : Int} (hr : (r, h) ∈ hl) : (normN (topsB n q hl bs ns) (stB n q hl bs ns)).getD r.toNat 0 = h * normP (topsB n q hl bs ns) (stB n q hl bs ns) := by
  obtain ⟨⟨k0, k1⟩, _⟩ := ok.keys _ hr
  have hs1 : 1 ≤ stB n q hl bs ns := sgn_pos hdet
  have tl : (topsB n q hl bs ns).length = n := len_tops
  have g1 := gOf_pos (ns := topsB n q hl bs ns) hs1
  have a := tv_norm (ts := topsB n q hl bs ns) (s := stB n q hl bs ns) k0 (by rw [tl]; exact k1)
  rw [tv_tops k0 k1] at a
  have bk := normP_back (topsB n q hl bs ns) (stB n q hl bs ns)
  have tb : topB n (hangL (n : Int) hl) q hl bs ns r * sgnI (detB n (hangL (n : Int) hl) q bs ns) = h * stB n q hl bs ns := by
    unfold topB stB
    rw [if_pos (List.mem_map.mpr ⟨_, hr, rfl⟩), look_of ok.nd hr, Int.mul_assoc]
  rw [tb] at a
  refine Int.eq_of_mul_eq_mul_right (show gOf (topsB n q hl bs ns) (stB n q hl bs ns) ≠ 0 by omega) ?_
  rw [Int.mul_assoc, bk]
  exact a
/-- the lowest terms have no common divisor -/
theorem norm_gcd {ns : List Int} {s : Int} (hs : 1 ≤ s) : gcdL 0 (normN ns s ++ [normP ns s]) = 1 := by
  have g1 := gOf_pos (ns := ns) hs
  have hg : gOf ns s = ((gcdL s.natAbs ns : Nat) : Int) := rfl
  have key : gcdL 0 (normN ns s ++ [normP ns s]) * gcdL s.natAbs ns ∣ gcdL s.natAbs ns := by
    have d : ∀ y ∈ normN ns s ++ [normP ns s], gcdL 0 (normN ns s ++ [normP ns s]) ∣ y.natAbs := fun y hy => gcdL_dvd (g := 0) hy
    refine dvd_gcdL ?_ fun x hx => ?_
    · have e := normP_back ns s
      have d1 := d (normP ns s) (List.mem_append_right _ (List.mem_singleton.mpr rfl))
      have e2 : s.natAbs = (normP ns s).natAbs * gcdL s.natAbs ns := by
        conv => lhs; rw [← e]
        rw [Int.natAbs_mul, hg, Int.natAbs_natCast]
      conv => rhs; rw [e2]
      exact Nat.mul_dvd_mul_right d1 _
    · obtain ⟨i, hi⟩ := List.getElem?_of_mem hx
      obtain ⟨y, hy, e⟩ := norm_of (s := s) hi
      have d1 := d y (List.mem_append_left _ (List.mem_of_getElem? hy))
      have e2 : x.natAbs = y.natAbs * gcdL s.natAbs ns := by
        rw [← e, Int.natAbs_mul, hg, Int.natAbs_natCast]
      rw [e2]
      exact Nat.mul_dvd_mul_right d1 _
  have g0 : 0 < gcdL s.natAbs ns := by omega
  have k2 := Nat.le_of_dvd g0 key
  have k3 : gcdL 0 (normN ns s ++ [normP ns s]) ≠ 0 := fun z => by
    rw [z, Nat.zero_mul] at key
    exact absurd (Nat.eq_zero_of_zero_dvd key) (by omega)
  have k4 : ¬ 2 ≤ gcdL 0 (normN ns s ++ [normP ns s]) := fun z => by
    have := Nat.mul_le_mul_right (gcdL s.natAbs ns) z
    omega
  omega
/-- what keeps the bars at lowest terms keeps them at any -/
theorem dot_unnorm {n : Nat} {bs : List BarD} {ms M : List Int} {q : Int} (hbo : ∀ b ∈ bs, BarOk (n : Int) b) (hM : M.length = n) (h : ∀ row ∈ barRows n (normP ms q) bs (normN ms q), dotL row M = 0) : ∀ row ∈ barRows n q bs ms, dotL row M = 0 := by
  intro row hrow
  obtain ⟨⟨b, x⟩, hz, rfl⟩ := List.mem_map.mp hrow
  obtain ⟨i, hi⟩ := List.getElem?_of_mem hz
  rw [List.getElem?_zip_eq_some] at hi
  obtain ⟨y, hy, e⟩ := norm_of (s := q) hi.2
  have hzz : (bs.zip (normN ms q))[i]? = some (b, y) := by rw [List.getElem?_zip_eq_some]; exact ⟨hi.1, hy⟩
  have h1 := h (barRow n (normP ms q) b y) (List.mem_map.mpr ⟨(b, y), List.mem_of_getElem? hzz, rfl⟩)
  have okb := hbo b (List.mem_of_getElem? hi.1)
  rw [dot_bar okb hM] at h1 ⊢
  have bk := normP_back ms q
  dsimp only at e ⊢
  generalize M.getD b.a.toNat 0 = A at *
  generalize M.getD b.b.toNat 0 = B at *
  generalize M.getD b.c.toNat 0 = C at *
  generalize gOf ms q = g at *
  generalize normP ms q = p at *
  have z : (x - q * b.len) * A + -x * B + q * b.len * C = ((y - p * b.len) * A + -y * B + p * b.len * C) * g := by
    rw [← e, ← bk]
    grind
  rw [z, h1, Int.zero_mul]
end K22
namespace K22
open PySem L2
section
variable {P : Program} {w : World} {K : PySem.W.Frag} {mg : Str → Option Value} {base : Heap}
theorem st_deq {C : Addr} {ns ms : List Int} {q r : Int} : deq (stD C ns q) (stD C ms r) = decide (ns = ms ∧ q = r) := by
  show (C == C && (deqL (ns.map Dt.int) (ms.map Dt.int) && (q == r && true))) = _
  rw [beq_self_eq_true, deqL_ints, Bool.true_and, Bool.and_true, Bool.eq_iff_iff]
  simp
theorem ok_Stand_eq (T : Tx K mg) (shp : Addr → List Str → List Dt → Prop) (hsh : ∀ fs ds, shp T.C_Stand fs ds → ∃ ns q, fs = stF ∧ ds = stT ns q) (hmk : ∀ D fs ds, shp D fs ds → PySem.W.makesIn K D = true) (n : Nat) : FnOk P w K mg base CX0 (n + 12) T.a_Stand_eq T.fd_Stand_eq ["self", "other"] (spEqO K shp T.C_Stand) := by
  refine T.F_Stand_eq.ok sc_Stand_eq (fun vs H Q E h => ?_) (fun cdv A outer s H vs Q E hr h => ?_)
  · obtain ⟨a, y, fs, ds, e, rfl, _⟩ := h
    rfl
  · obtain ⟨a, y, fs, ds, e, rfl, hd, he, hs, oe, k⟩ := h
    obtain ⟨ns, q, rfl, rfl⟩ := hsh _ _ hs
    refine ⟨_, (pss_one (ps_ret (pe_and (pe_cmpR op_is_ty (pe_callTy call_typeO (by rfl) T.z_type (by decide +kernel) (pa_cons (pv 0) pa_nil)) (pe_callTy call_typeO (by rfl) T.z_type (by decide +kernel) (pa_cons (pv 1) pa_nil)) (nomark _))
      (pe_one (pe_and (pe_cmpR (op_eqO pureTab hr (by omega)) (pe_fld (pv 0) rfl) (pe_fld (pv 1) rfl) (nomark _)) (pe_one (pe_cmpR op_eq (pe_fld (pv 0) rfl) (pe_fld (pv 1) rfl) (nomark _)))))))), ?_⟩
    refine ⟨_, rfl, _, _, rfl, hd, ?_⟩
    refine ⟨_, rfl, _, e, rfl, he, ?_⟩
    have no : LxE.kd e ≠ 6 → ∃ Tn, tyD e = .ty Tn := fun h6 => by
      cases e <;> first | exact ⟨_, rfl⟩ | exact absurd rfl h6
    by_cases h6 : LxE.kd e = 6
    · cases e <;> first | (exfalso; simp [LxE.kd] at h6; done) | skip
      rename_i D fs es
      by_cases hD : D = T.C_Stand
      · subst hD
        obtain ⟨ms, r, rfl, rfl⟩ := hsh _ _ (show shp _ _ _ from oe)
        refine ⟨_, rfl, .inr ⟨_, rfl, .inl rfl, ?_⟩⟩
        refine ⟨true, by simp, iteT ?_⟩
        obtain ⟨a', dx, t, ea, ha, ht⟩ := st_fields hd
        cases ea
        obtain ⟨b, dy, t', rfl, hb, ht'⟩ := st_fields he
        refine ⟨_, rfl, a, T.C_Stand, dx, _, _, rfl, ha, T.c_Stand, T.nf_Stand_tops, rfl, ?_⟩
        refine ⟨_, rfl, b, T.C_Stand, dy, _, _, rfl, hb, T.c_Stand, T.nf_Stand_tops, rfl, ?_⟩
        refine ⟨.tup (ns.map Dt.int), .tup (ms.map Dt.int), ⟨t, _, rfl, ht, isL_ints _⟩, ⟨t', _, rfl, ht', isL_ints _⟩, okL_pure (pureL_ints ns), okL_pure (pureL_ints ms), ints_dep, fun H' eH => ?_⟩
        have fin : ∀ c : Bool, decide (ns = ms ∧ q = r) = c → Q (.bl c) H' := fun c hc => by
          have z := k H' eH
          rw [show deq (.ins T.C_Stand stF (stT ns q)) (.ins T.C_Stand stF (stT ms r)) = decide (ns = ms ∧ q = r) from st_deq, hc] at z
          exact z
        refine ⟨_, rfl, ?_⟩
        rw [show deq (.tup (ns.map Dt.int)) (.tup (ms.map Dt.int)) = deqL (ns.map Dt.int) (ms.map Dt.int) from rfl, deqL_ints]
        by_cases hc : ns = ms
        · rw [decide_eq_true hc]
          refine iteT ?_
          refine ⟨_, rfl, a, T.C_Stand, dx, _, _, rfl, eH _ _ ha, T.c_Stand, T.nf_Stand_bottom, rfl, ?_⟩
          refine ⟨_, rfl, b, T.C_Stand, dy, _, _, rfl, eH _ _ hb, T.c_Stand, T.nf_Stand_bottom, rfl, ?_⟩
          refine ⟨rfl, fin _ ?_⟩
          exact decide_eq_decide.mpr ⟨fun z => by rw [z.2], fun z => ⟨hc, V.int.inj z⟩⟩
        · rw [decide_eq_false hc]
          refine iteF ?_
          exact fin false (decide_eq_false fun z => hc z.1)
      · refine ⟨_, rfl, .inr ⟨_, rfl, .inr ⟨T.mk_Stand, hmk _ _ _ oe⟩, ?_⟩⟩
        refine ⟨false, by rw [decide_eq_false (fun z => hD z.symm)], iteF ?_⟩
        have z := k H Ext.rfl'
        rw [show deq (.ins T.C_Stand stF (stT ns q)) (.ins D fs es) = (T.C_Stand == D && deqL (stT ns q) es) from rfl, beq_eq_false_iff_ne.mpr (fun z => hD z.symm), Bool.false_and] at z
        exact z
    · obtain ⟨Tn, hTn⟩ := no h6
      rw [hTn]
      refine ⟨_, rfl, .inl ⟨Tn, rfl, ?_⟩⟩
      refine ⟨false, rfl, iteF ?_⟩
      have z := k H Ext.rfl'
      rw [LxE.deq_kd (fun z => h6 z.symm)] at z
      exact z
def shS (C : Addr) : Addr → List Str → List Dt → Prop := fun D fs ds => D = C ∧ ∃ ns q, fs = stF ∧ ds = stT ns q
theorem tabS (T : Tx K mg) : EqTab P w K mg base 12 (shS T.C_Stand) := ⟨fun C fs ds h => by
  obtain ⟨rfl, _⟩ := h
  exact ⟨⟨T.a_Stand_eq, T.fd_Stand_eq, ok_Stand_eq T (shS T.C_Stand) (fun fs ds h => h.2) (fun D fs ds h => h.1 ▸ T.mk_Stand) 0, T.M_Stand_eq.at_, T.M_Stand_eq.fn, T.b_Stand_eq⟩, T.ef_Stand⟩, fun C fs ds C' fs' ds' h h' => by
  obtain ⟨rfl, _⟩ := h
  obtain ⟨rfl, _⟩ := h'
  exact T.nfst_Stand_Stand⟩
theorem st_okS {C : Addr} {ns : List Int} {q : Int} : okD (shS C) (stD C ns q) := ⟨rfl, ns, q, rfl, rfl⟩
theorem st_dep {C : Addr} {ns : List Int} {q : Int} : dep (stD C ns q) ≤ 2 := by
  show max (depL (ns.map Dt.int) + 1) (max 0 0) + 1 ≤ 2
  rw [depL_ints]
  decide
end
end K22
namespace K22
open PySem PySem.Spec PyProof.Rows L2 LamX NdefX RZ ZN
section
variable {P : Program} {w : World} {K : PySem.W.Frag} {mg : Str → Option Value} {base : Heap}
theorem tyX_tup {H : Hp} {t : Addr} {xs : List V} (s : SqT K H t xs) : TyX K H (.ref t) (.type "tuple") := by
  rcases s with (r | ⟨b, r⟩) | ⟨o, us, tk, r, rc, _⟩
  · exact TyX.base (TyOf.tup r)
  · exact TyX.fTuple r
  · exact TyX.kTuple r rc
end
section
variable {P : Program} {w : World} {K : PySem.W.Frag} {mg : Str → Option Value} {base : Heap}
def spLMove (K : PySem.W.Frag) : Sp := fun vs H Q _ => ∃ (v : V) (tn tm : Addr) (n : Nat) (hl : List (Int × Int)) (bs : List BarD) (ms M : List Int) (q : Int), vs = [v, .ref tn, .int q, .ref tm] ∧ Is K H (whD (n : Int) hl bs) v ∧ SqL K H tn (ms.map V.int) ∧ SqT K H tm (M.map V.int) ∧ WebOk (n : Int) hl bs ∧ ms.length = bs.length ∧ (∀ x ∈ ms, x.natAbs < 2 ^ 440) ∧ q.natAbs < 2 ^ 440 ∧ MvOk n hl bs q ms M ∧
  ∀ H', Ext H H' → Q (.bl true) H'
theorem ok_l_move_right (T : Tx K mg) : FnOk P w K mg base (L2.CX P w) 12 T.a_l_move_right T.fd_l_move_right ["_law_web_here", "_law_numbers", "_law_share", "_law_found"] (spLMove K) := by
  refine T.F_l_move_right.okX sc_l_move_right (fun vs H Q E h => ?_) (fun cdv A outer s H vs Q E hr h => ?_)
  · obtain ⟨v, tn, tm, n, hl, bs, ms, M, q, rfl, _⟩ := h
    rfl
  · obtain ⟨v, tn, tm, n, hl, bs, ns, M, q, rfl, hv, htn, htm, ok, hnl, hx, hq, mo, k⟩ := h
    refine ⟨_, (pss_cons (ps_if (PW.pt (pw_or (pt_not (pt_val (pe_callB call_isi (by rfl) T.z_isinstance (by decide +kernel) (pa_cons (pv 3) (pa_cons (pe_bltn (v := .ty "tuple") (u := .type "tuple") (by rfl) T.z_tuple (by decide +kernel) rfl) pa_nil))))) (pw_or (pt_cmpR op_ne (pe_callB call_len_seq (by rfl) T.z_len PySem.boot_len (pa_cons (pv 3) pa_nil)) (pe_ix ix_tup (pv 0) pe_int (fun _ _ => rfl)) (nomark _)) (pw_or1 (pt_cmpR op_ne (pe_call (ok_l_common T) (hr.mono (by decide)) rfl T.m_l_common T.F_l_common.kp T.b_l_common .nil passL (pa_cons (pv 3) pa_nil)) pe_int (nomark _)))))) pss_never pss_nil)
      (pss_one (ps_ret (pe_and (pe_cmpR (op_eqO pureTab hr (by decide)) (pe_lock (pe_lc (own := [("_law_rod", 4)]) (g := gName 4) (tt := tTest (tOp rNe (tOp (rIxT K) (tVar 3) (tVar 4)) (tC (.int 0)))) (te := tVar 4) (by rfl) sc_l_move_right.nd (pi_keys (pe_ix ix_tup (pv 0) pe_int (fun _ _ => rfl))) (blkOk_by (own := [("_law_rod", 4)]) (N := N_l_move_right) (sc := defScope s_l_move_right) (by decide +kernel)) (fun _ _ _ _ _ => (pg_name (i := 4) sc_l_move_right.nd rfl (Or.inl rfl))) (fun _ _ _ _ _ => (by exact pts_one (pt_cmpR op_ne (pe_ix ix_tup (pv 3) (pv 4) (fun _ _ => rfl)) pe_int (nomark _)))) (fun _ _ _ _ _ => (pv 4)))) (pe_lst pa_nil) (nomark _)) (pe_one (pe_call (ok_l_keeps T) (hr.mono (by decide)) rfl T.m_l_keeps T.F_l_keeps.kp T.b_l_keeps .nil passL (pa_cons (pv 0) (pa_cons (pv 1) (pa_cons (pv 2) (pa_cons (pv 3) pa_nil)))))))))), ?_⟩
    obtain ⟨t, hd, bl, ws, rfl, ht, hhd, hbl, hbs⟩ := wh_of hv
    refine ⟨_, rfl, .ref tm, .ty "tuple", .type "tuple", .type "tuple", true, rfl, ClsV.ty _, tyX_tup htm, kit_ty (by decide +kernel), _, rfl, iteF ?_⟩
    refine ⟨_, rfl, tm, _, rfl, .inr htm, _, rfl, t, _, 0, _, rfl, rfl, ht, rfl, ?_⟩
    rw [List.length_map, mo.len]
    refine ⟨rfl, _, rfl, ite2 (fun c => absurd c (by simp)) fun _ => ?_⟩
    refine ⟨_, rfl, tm, M, rfl, .inr htm, rfl, _, rfl, ?_⟩
    rw [mo.gcd]
    refine ite2 (fun c => absurd c (by simp)) fun _ => ?_
    refine ⟨hd, _, hhd, trivial, fun od => ?_⟩
    have hf1 : (upd H hd (.frz od (.dK (hK hl)))) hd = some (.frz od (.dK (hK hl))) := upd_same
    have htm2 : SqT K (upd H hd (.frz od (.dK (hK hl)))) tm (M.map V.int) := by
      rcases htm with (r | ⟨o, r⟩) | r
      · exact .inl (.inl (by rw [upd_ne (fun z => by rw [z, hhd] at r; cases r)]; exact r))
      · exact .inl (.inr ⟨o, by rw [upd_ne (fun z => by rw [z, hhd] at r; cases r)]; exact r⟩)
      · exact .inr r
    have ht2 : SqT K (upd H hd (.frz od (.dK (hK hl)))) t [.int (n : Int), .ref hd, .ref bl] := by
      rcases ht with (r | ⟨o, r⟩) | r
      · exact .inl (.inl (by rw [upd_ne (fun z => by rw [z, hhd] at r; cases r)]; exact r))
      · exact .inl (.inr ⟨o, by rw [upd_ne (fun z => by rw [z, hhd] at r; cases r)]; exact r⟩)
      · exact .inr r
    have back : ∀ H', Ext (upd H hd (.frz od (.dK (hK hl)))) H' → Ext H (upd H' hd (.dK (hK hl))) := fun H' e b o z => by
      by_cases hb : b = hd
      · rw [hb] at z ⊢
        rw [hhd] at z
        rw [upd_same]
        exact z
      · rw [upd_ne hb]
        exact e _ _ (by rw [upd_ne hb]; exact z)
    have hkl : (hK hl).length = hl.length := by unfold hK; rw [List.length_map]
    generalize upd H hd (.frz od (.dK (hK hl))) = H3 at hf1 htm2 ht2 back ⊢
    refine ⟨_, rfl, t, _, 1, _, rfl, rfl, ht2, rfl, hd, od, rfl, .inl ⟨_, hf1, fun D3 hD3 => ?_⟩⟩
    refine lc_it walk_keys (fun j H' => Ext H3 H' ∧ H' D3 = some (.lst [])) ⟨Ext.upd hD3, upd_same⟩ (fun j H' _ p => p.1 _ _ hf1) ?_ ?_
    · rintro j y H4 H5 hj ⟨e4, hD4⟩ ⟨rfl, z1, z2, hz, rfl⟩
      rw [hkl] at hj
      obtain ⟨⟨r, h⟩, hr⟩ : ∃ p, hl[j]? = some p := ⟨_, List.getElem?_eq_getElem hj⟩
      unfold hK at hz
      rw [List.getElem?_map, hr] at hz
      cases hz
      have hho' := (ok.keys _ (List.mem_of_getElem? hr)).1
      have z := atI_int (row := M) (j := r.toNat) (by rw [mo.len]; have := hho'.1; have := hho'.2; omega)
      rw [show ((r.toNat : Nat) : Int) = r by have := hho'.1; omega, mo.held r (List.mem_map.mpr ⟨_, List.mem_of_getElem? hr, rfl⟩) hho'.1] at z
      refine ⟨rfl, _, rfl, _, rfl, tm, _, _, _, rfl, rfl, htm2.ext e4, z, ?_⟩
      refine ⟨rfl, _, rfl, ?_⟩
      exact ⟨e4, hD4⟩
    · rintro H4 ⟨e4, hD4⟩
      refine ⟨e4 _ _ hf1, ?_⟩
      have eb := back H4 e4
      have hDh : D3 ≠ hd := fun z => by rw [z, hf1] at hD3; cases hD3
      have hD5 : (upd H4 hd (.dK (hK hl))) D3 = some (.lst []) := by rw [upd_ne hDh]; exact hD4
      generalize upd H4 hd (.dK (hK hl)) = H5 at eb hD5 ⊢
      refine ⟨by show 0 ≤ sizeLine; decide, fun D6 hD6 => ?_⟩
      refine ⟨.lst [], .lst [], ⟨D3, _, rfl, SqL.of (Ext.upd hD6 _ _ hD5), rfl⟩, ⟨D6, _, rfl, SqL.of upd_same, rfl⟩, trivial, trivial, (by show 1 ≤ 8; decide), fun H7 e7 => ?_⟩
      have e07 := eb.trans ((Ext.upd (o := .lst []) hD6).trans e7)
      refine ⟨true, rfl, iteT ?_⟩
      refine ⟨_, rfl, _, rfl, _, rfl, _, rfl, .ref t, tn, tm, n, hl, bs, ns, M, q, rfl, hv.ext e07, htn.ext e07, htm.ext e07, ok, hnl, mo.len, hx, hq, (fun x h => Nat.lt_of_lt_of_le (mo.small x h) (Nat.pow_le_pow_right (by decide) (by decide))), mo.dot, fun H8 e8 => k H8 (e07.trans e8)⟩
end
end K22
namespace K22
open PySem PySem.Spec PyProof.Rows L2 LamX NdefX RZ ZN
section
variable {P : Program} {w : World} {K : PySem.W.Frag} {mg : Str → Option Value} {base : Heap}
/-- a stand of the law's web -/
structure StF (n : Nat) (hl : List (Int × Int)) (bs : List BarD) (q : Int) (ms ts : List Int) (s : Int) : Prop where
  len : ts.length = n
  pos : 1 ≤ s
  gcd : gcdL 0 (ts ++ [s]) = 1
  held : ∀ r h, (r, h) ∈ hl → ts.getD r.toNat 0 = h * s
  dot : ∀ row ∈ barRows n q bs ms, dotL row ts = 0
  small : ∀ x ∈ ts, x.natAbs < 2 ^ 5020
theorem tyS (T : Tx K mg) {H : Hp} {y : Addr} {ts : List Int} {s : Int} (i : Is K H (stD T.C_Stand ts s) (.ref y)) : TyX K H (.ref y) (.ref T.C_Stand) := by
  obtain ⟨a, dx, t, e, ha, _⟩ := st_fields i
  cases e
  exact TyX.base (TyOf.ins ha T.c_Stand T.ii_Stand.cl T.ii_Stand.gn T.ii_Stand.tk T.ii_Stand.ob)
def tHel (K : PySem.W.Frag) : TT := tTest (tOp rNe (tOp (rIxT K) (tFld K (tVar 3) "tops") (tVar 4)) (tOp (rI CMul fun i j => .int (i * j)) (tDGet (tOp (rIxT K) (tVar 0) (tC (.int 1))) (tVar 4)) (tFld K (tVar 3) "bottom")))
def spLStand (K : PySem.W.Frag) (T : Tx K mg) : Sp := fun vs H Q _ => ∃ (v y : V) (tn : Addr) (n : Nat) (hl : List (Int × Int)) (bs : List BarD) (ms ts : List Int) (q s : Int), vs = [v, .ref tn, .int q, y] ∧ Is K H (whD (n : Int) hl bs) v ∧ SqL K H tn (ms.map V.int) ∧ Is K H (stD T.C_Stand ts s) y ∧ WebOk (n : Int) hl bs ∧ ms.length = bs.length ∧ (∀ x ∈ ms, x.natAbs < 2 ^ 440) ∧ q.natAbs < 2 ^ 440 ∧ StF n hl bs q ms ts s ∧
  ∀ H', Ext H H' → Q (.bl true) H'
theorem ok_l_stand_right (T : Tx K mg) : FnOk P w K mg base (L2.CX P w) 24 T.a_l_stand_right T.fd_l_stand_right ["_law_web_here", "_law_numbers", "_law_share", "_law_found"] (spLStand K T) := by
  refine T.F_l_stand_right.okX sc_l_stand_right (fun vs H Q E h => ?_) (fun cdv A outer s H vs Q E hr h => ?_)
  · obtain ⟨v, y, tn, n, hl, bs, ms, ts, q, s, rfl, _⟩ := h
    rfl
  · obtain ⟨v, y, tn, n, hl, bs, ms, ts, q, sb, rfl, hv, htn, hy, ok, hnl, hx, hq, so, k⟩ := h
    refine ⟨_, (pss_cons (ps_if (PW.pt (pw_or (pt_not (pt_val (pe_callB call_isi (by rfl) T.z_isinstance (by decide +kernel) (pa_cons (pv 3) (pa_cons (pe_glob (v := .ref T.C_Stand) rfl T.m_Stand rfl) pa_nil))))) (pw_or (pt_cmpR op_lt (pe_fld (pv 3) rfl) pe_int (nomark _)) (pw_or1 (pt_cmpR op_ne (pe_callB call_len_seq (by rfl) T.z_len PySem.boot_len (pa_cons (pe_fld (pv 3) rfl) pa_nil)) (pe_ix ix_tup (pv 0) pe_int (fun _ _ => rfl)) (nomark _)))))) pss_never pss_nil)
      (pss_cons (ps_if (PW.pt (pw_or (pt_not (pt_val (pe_callB call_isi (by rfl) T.z_isinstance (by decide +kernel) (pa_cons (pe_fld (pv 3) rfl) (pa_cons (pe_bltn (v := .ty "tuple") (u := .type "tuple") (by rfl) T.z_tuple (by decide +kernel) rfl) pa_nil))))) (pw_or1 (pt_cmpR op_ne (pe_call (ok_l_common T) (hr.mono (by decide)) rfl T.m_l_common T.F_l_common.kp T.b_l_common .nil passL (pa_cons (pe_op op_catL (pe_callTy call_list_of (by rfl) T.z_list (by decide +kernel) (pa_cons (pe_fld (pv 3) rfl) pa_nil)) (pe_lst (pa_cons (pe_fld (pv 3) rfl) pa_nil))) pa_nil)) pe_int (nomark _))))) pss_never pss_nil)
      (pss_cons (ps_if (pt_cmpR (op_neO pureTab pureNe hr (by decide)) (pe_lock (pe_lc (own := [("_law_rod", 4)]) (g := gName 4) (tt := tHel K) (te := tVar 4) (by rfl) sc_l_stand_right.nd (pi_keys (pe_ix ix_tup (pv 0) pe_int (fun _ _ => rfl))) (blkOk_by (own := [("_law_rod", 4)]) (N := N_l_stand_right) (sc := defScope s_l_stand_right) (by decide +kernel)) (fun _ _ _ _ _ => (pg_name (i := 4) sc_l_stand_right.nd rfl (Or.inl rfl))) (fun _ _ _ _ _ => (by exact pts_one (pt_cmpR op_ne (pe_ix ix_tup (pe_fld (pv 3) rfl) (pv 4) (fun _ _ => rfl)) (pe_op op_mul (pe_dget (hu_of hr) (pe_ix ix_tup (pv 0) pe_int (fun _ _ => rfl)) (pv 4) (fun _ _ => rfl)) (pe_fld (pv 3) rfl)) (nomark _)))) (fun _ _ _ _ _ => (pv 4)))) (pe_lst pa_nil) (nomark _)) pss_never pss_nil)
      (pss_one (ps_ret (pe_and (pe_call (ok_l_keeps T) (hr.mono (by decide)) rfl T.m_l_keeps T.F_l_keeps.kp T.b_l_keeps .nil passL (pa_cons (pv 0) (pa_cons (pv 1) (pa_cons (pv 2) (pa_cons (pe_fld (pv 3) rfl) pa_nil))))) (pe_one (pe_cmpR (op_eqO (tabS T) hr (by decide)) (pv 3) (pe_make T.k_Stand (ok_Stand_init T) (hr.mono (by decide)) rfl T.m_Stand T.b_Stand_init .nil passL (pa_cons (pe_callTy call_list_of (by rfl) T.z_list (by decide +kernel) (pa_cons (pe_fld (pv 3) rfl) pa_nil)) (pa_cons (pe_fld (pv 3) rfl) pa_nil))) (nomark _))))))))), ?_⟩
    obtain ⟨t, hd, bl, ws, rfl, ht, hhd, hbl, hbs⟩ := wh_of hv
    obtain ⟨ya, ydx, tm, rfl, hya, htm⟩ := st_fields hy
    have sp := so.pos
    have n10 : n ≤ 10 := by have := ok.n10; omega
    refine ⟨_, rfl, .ref ya, .ref T.C_Stand, .ref T.C_Stand, .ref T.C_Stand, true, rfl, ClsV.own _, tyS T hy, kit_self, _, rfl, iteF ?_⟩
    refine ⟨_, rfl, ya, T.C_Stand, ydx, _, _, rfl, hya, T.c_Stand, T.nf_Stand_bottom, rfl, _, _, rfl, rfl, _, rfl, ite2 (fun c => absurd (of_decide_eq_true c) (by omega)) fun _ => ?_⟩
    refine ⟨_, rfl, ya, T.C_Stand, ydx, _, _, rfl, hya, T.c_Stand, T.nf_Stand_tops, rfl, tm, _, rfl, .inr htm, _, rfl, t, _, 0, _, rfl, rfl, ht, rfl, ?_⟩
    rw [List.length_map, so.len]
    refine ⟨rfl, _, rfl, ite2 (fun c => absurd c (by simp)) fun _ => ?_⟩
    refine ⟨_, rfl, ya, T.C_Stand, ydx, _, _, rfl, hya, T.c_Stand, T.nf_Stand_tops, rfl, .ref tm, .ty "tuple", .type "tuple", .type "tuple", true, rfl, ClsV.ty _, tyX_tup htm, kit_ty (by decide +kernel), _, rfl, iteF ?_⟩
    refine ⟨_, rfl, ya, T.C_Stand, ydx, _, _, rfl, hya, T.c_Stand, T.nf_Stand_tops, rfl, tm, _, rfl, .inr htm, fun l1 hl1 => ?_⟩
    have f1 : Ext H (upd H l1 (.lst (ts.map V.int))) := Ext.upd hl1
    have g1 : (upd H l1 (.lst (ts.map V.int))) l1 = some (.lst (ts.map V.int)) := upd_same
    generalize upd H l1 (.lst (ts.map V.int)) = H1 at f1 g1 ⊢
    refine ⟨_, rfl, ya, T.C_Stand, ydx, _, _, rfl, f1 _ _ hya, T.c_Stand, T.nf_Stand_bottom, rfl, by show 1 ≤ sizeLine; decide, fun l2 hl2 => ?_⟩
    refine ⟨l1, l2, _, _, rfl, rfl, SqL.of (Ext.upd hl2 _ _ g1), SqL.of upd_same, ?_, fun l3 hl3 => ?_⟩
    · rw [List.length_map, so.len]
      exact Nat.le_trans (show n + 1 ≤ 100 by omega) (by decide)
    have f3 : Ext H (upd (upd H1 l2 (.lst [.int sb])) l3 (.lst (ts.map V.int ++ [.int sb]))) := (f1.trans (Ext.upd hl2)).trans (Ext.upd hl3)
    have g3 : (upd (upd H1 l2 (.lst [.int sb])) l3 (.lst (ts.map V.int ++ [.int sb]))) l3 = some (.lst ((ts ++ [sb]).map V.int)) := by rw [upd_same, List.map_append]; rfl
    generalize upd (upd H1 l2 (.lst [.int sb])) l3 (.lst (ts.map V.int ++ [.int sb])) = H2 at f3 g3 ⊢
    refine ⟨l3, ts ++ [sb], rfl, .inl (SqL.of g3), rfl, _, rfl, ?_⟩
    rw [so.gcd]
    refine ite2 (fun c => absurd c (by simp)) fun _ => ?_
    have hhd2 := f3 _ _ hhd
    have hya2 := f3 _ _ hya
    refine ⟨hd, _, hhd2, trivial, fun od => ?_⟩
    have hf1 : (upd H2 hd (.frz od (.dK (hK hl)))) hd = some (.frz od (.dK (hK hl))) := upd_same
    have ht2 : SqT K (upd H2 hd (.frz od (.dK (hK hl)))) t [.int (n : Int), .ref hd, .ref bl] := by
      rcases ht.ext f3 with (r | ⟨o, r⟩) | r
      · exact .inl (.inl (by rw [upd_ne (fun z => by rw [z, hhd2] at r; cases r)]; exact r))
      · exact .inl (.inr ⟨o, by rw [upd_ne (fun z => by rw [z, hhd2] at r; cases r)]; exact r⟩)
      · exact .inr r
    have htm2 : SqT K (upd H2 hd (.frz od (.dK (hK hl)))) tm (ts.map V.int) := by
      rcases htm.ext f3 with (r | ⟨o, r⟩) | r
      · exact .inl (.inl (by rw [upd_ne (fun z => by rw [z, hhd2] at r; cases r)]; exact r))
      · exact .inl (.inr ⟨o, by rw [upd_ne (fun z => by rw [z, hhd2] at r; cases r)]; exact r⟩)
      · exact .inr r
    have hya3 : (upd H2 hd (.frz od (.dK (hK hl)))) ya = some (.ins T.C_Stand ydx [("tops", .ref tm), ("bottom", .int sb)]) := by rw [upd_ne (fun z => by rw [z, hhd2] at hya2; cases hya2)]; exact hya2
    have back : ∀ H', Ext (upd H2 hd (.frz od (.dK (hK hl)))) H' → Ext H2 (upd H' hd (.dK (hK hl))) := fun H' e b o z => by
      by_cases hb : b = hd
      · rw [hb] at z ⊢
        rw [hhd2] at z
        rw [upd_same]
        exact z
      · rw [upd_ne hb]
        exact e _ _ (by rw [upd_ne hb]; exact z)
    have hkl : (hK hl).length = hl.length := by unfold hK; rw [List.length_map]
    generalize upd H2 hd (.frz od (.dK (hK hl))) = H3 at hf1 htm2 ht2 hya3 back ⊢
    refine ⟨_, rfl, t, _, 1, _, rfl, rfl, ht2, rfl, hd, od, rfl, .inl ⟨_, hf1, fun D3 hD3 => ?_⟩⟩
    refine lc_it walk_keys (fun j H' => Ext H3 H' ∧ H' D3 = some (.lst [])) ⟨Ext.upd hD3, upd_same⟩ (fun j H' _ p => p.1 _ _ hf1) ?_ ?_
    · rintro j y H4 H5 hj ⟨e4, hD4⟩ ⟨rfl, z1, z2, hz, rfl⟩
      rw [hkl] at hj
      obtain ⟨⟨r, h⟩, hr⟩ : ∃ p, hl[j]? = some p := ⟨_, List.getElem?_eq_getElem hj⟩
      unfold hK at hz
      rw [List.getElem?_map, hr] at hz
      cases hz
      have hmem := List.mem_of_getElem? hr
      have hho' := ok.keys _ hmem
      dsimp only at hho'
      have z := atI_int (row := ts) (j := r.toNat) (by rw [so.len]; omega)
      rw [show ((r.toNat : Nat) : Int) = r by omega, so.held r h hmem] at z
      have hg : valV (hK hl) (Sum.inl r) = some (V.int h) := LxE.valV_nodup (p := (Sum.inl r, V.int h)) (by
        unfold hK
        rw [List.map_map]
        exact List.pairwise_map.mpr ((List.pairwise_map.mp ok.nd).imp fun h z => h (Sum.inl.inj z))) (by
        unfold hK
        rw [List.getElem?_map, hr]
        rfl)
      refine ⟨rfl, _, rfl, ya, T.C_Stand, ydx, _, _, rfl, e4 _ _ hya3, T.c_Stand, T.nf_Stand_tops, rfl, _, rfl, tm, _, _, _, rfl, rfl, htm2.ext e4, z, ?_⟩
      refine ⟨_, rfl, t, _, 1, _, rfl, rfl, ht2.ext e4, rfl, _, rfl, hd, V.int h, rfl, .inl ⟨_, Sum.inl r, .inr ⟨od, e4 _ _ hf1⟩, rfl, hg.symm⟩, ?_⟩
      refine ⟨_, rfl, ya, T.C_Stand, ydx, _, _, rfl, e4 _ _ hya3, T.c_Stand, T.nf_Stand_bottom, rfl, _, _, rfl, rfl, .inl ⟨by omega, by omega⟩, rfl, false, by simp, ?_⟩
      exact ⟨e4, hD4⟩
    · rintro H4 ⟨e4, hD4⟩
      refine ⟨e4 _ _ hf1, ?_⟩
      have eb := back H4 e4
      have hDh : D3 ≠ hd := fun z => by rw [z, hf1] at hD3; cases hD3
      have hD5 : (upd H4 hd (.dK (hK hl))) D3 = some (.lst []) := by rw [upd_ne hDh]; exact hD4
      generalize upd H4 hd (.dK (hK hl)) = H5 at eb hD5 ⊢
      refine ⟨by show 0 ≤ sizeLine; decide, fun D6 hD6 => ?_⟩
      refine ⟨.lst [], .lst [], ⟨D3, _, rfl, SqL.of (Ext.upd hD6 _ _ hD5), rfl⟩, ⟨D6, _, rfl, SqL.of upd_same, rfl⟩, trivial, trivial, (by show 1 ≤ 8; decide), .inl rfl, fun H7 e7 => ?_⟩
      have e07 := (f3.trans eb).trans ((Ext.upd (o := .lst []) hD6).trans e7)
      refine ⟨false, rfl, iteF ?_⟩
      refine ⟨_, rfl, _, rfl, _, rfl, _, rfl, ya, T.C_Stand, ydx, _, _, rfl, e07 _ _ hya, T.c_Stand, T.nf_Stand_tops, rfl, .ref t, tn, tm, n, hl, bs, ms, ts, q, rfl, hv.ext e07, htn.ext e07, htm.ext e07, ok, hnl, so.len, hx, hq, so.small, so.dot, fun H8 e8 => ?_⟩
      have e08 := e07.trans e8
      refine ⟨true, rfl, iteT ?_⟩
      refine ⟨_, rfl, _, rfl, ya, T.C_Stand, ydx, _, _, rfl, e08 _ _ hya, T.c_Stand, T.nf_Stand_tops, rfl, tm, _, rfl, .inr (htm.ext e08), fun l4 hl4 => ?_⟩
      have e09 := e08.trans (Ext.upd (o := .lst (ts.map V.int)) hl4)
      refine ⟨_, rfl, ya, T.C_Stand, ydx, _, _, rfl, e09 _ _ hya, T.c_Stand, T.nf_Stand_bottom, rfl, fun x dx hx hdx hne => ?_⟩
      refine ⟨_, x, dx, l4, ts, sb, rfl, hx, hdx, hne, rfl, .inl (SqL.of upd_same), fun H9 e9 i9 => ⟨rfl, ?_⟩⟩
      refine ⟨stD T.C_Stand ts sb, stD T.C_Stand ts sb, hy.ext (e09.trans e9), i9, st_okS, st_okS, Nat.le_trans st_dep (by decide), fun H10 e10 => ?_⟩
      rw [st_deq, decide_eq_true ⟨rfl, rfl⟩]
      exact k H10 ((e09.trans e9).trans e10)
end
end K22
namespace K22
open PySem L2 RZ
theorem any_ck {q : Int} {bs : List BarD} {ms : List Int} (q1 : 1 ≤ q) (h : AnyB q bs ms) : ckPl (normP ms q) bs (normN ms q) = none := by
  have g1 := gOf_pos (ns := ms) q1
  have bk := normP_back ms q
  unfold ckPl
  rw [if_neg (fun z => z (by rw [len_norm, h.1]))]
  refine pl_no fun j c y hc hy => ?_
  obtain ⟨x, hx, e⟩ := norm_at hy
  obtain ⟨w0, w1⟩ := h.2 j c x hc hx
  generalize gOf ms q = g at *
  generalize normP ms q = p at *
  rw [← e] at w0 w1
  rw [← bk, ← Int.mul_assoc] at w1
  have y0 : 0 ≤ y := Int.not_lt.mp fun z => by
    have := Int.mul_neg_of_neg_of_pos z (show 0 < g by omega)
    omega
  have y1 : y ≤ c.len * p := Int.le_of_mul_le_mul_right w1 (by omega)
  unfold offPl
  rw [decide_eq_true y0, decide_eq_true y1]
  rfl
theorem any_small {q : Int} {bs : List BarD} {ms : List Int} (q1 : 1 ≤ q) (q2 : q ≤ 100) (hbl : ∀ b ∈ bs, 1 ≤ b.len ∧ b.len ≤ 1000000) (h : AnyB q bs ms) : (∀ x ∈ ms, x.natAbs < 2 ^ 440) ∧ (∀ x ∈ normN ms q, x.natAbs < 2 ^ 440) ∧ q.natAbs < 2 ^ 440 ∧ (normP ms q).natAbs < 2 ^ 440 := by
  have hs : ∀ x ∈ ms, x.natAbs < 2 ^ 440 := fun x hx => by
    obtain ⟨i, hi, e⟩ := List.getElem_of_mem hx
    have hib : i < bs.length := by rw [← h.1]; exact hi
    obtain ⟨w0, w1⟩ := h.2 i bs[i] x (List.getElem?_eq_getElem hib) (by rw [← e]; exact List.getElem?_eq_getElem hi)
    have hb := hbl _ (List.getElem_mem hib)
    have w2 : bs[i].len * q ≤ 1000000 * 100 := Int.mul_le_mul hb.2 q2 (by omega) (by decide)
    exact Nat.lt_of_le_of_lt (show x.natAbs ≤ 1000000 * 100 by omega) (by decide +kernel)
  have hq : q.natAbs < 2 ^ 440 := Nat.lt_of_le_of_lt (show q.natAbs ≤ 100 by omega) (by decide +kernel)
  refine ⟨hs, fun x hx => ?_, hq, Nat.lt_of_le_of_lt normP_le hq⟩
  unfold normN at hx
  obtain ⟨z, hz, rfl⟩ := List.mem_map.mp hx
  exact Nat.lt_of_le_of_lt ediv_abs_le (hs z hz)
theorem mv_ok {n : Nat} {hl : List (Int × Int)} {bs : List BarD} {ns : List Int} {q : Int} (hbo : ∀ b ∈ bs, BarOk (n : Int) b) (h8 : bs.length ≤ 8) (hnl : ns.length = bs.length) (hhl : (hangL (n : Int) hl).length = bs.length) (s1 : ∀ x ∈ ns, x.natAbs < 2 ^ 440) (s2 : q.natAbs < 2 ^ 440) (hdet : detB n (hangL (n : Int) hl) q bs ns = 0) :
    ∃ M, mvI n (hangL (n : Int) hl) (tabRows n (hangL (n : Int) hl) q bs ns) = some M ∧ MvOk n hl bs q ns (mvD M) := by
  obtain ⟨M, hM⟩ := mv_of_det hnl hhl hdet
  have sq := sq_tab (n := n) (hs := hangL (n : Int) hl) (q := q) hnl hhl
  have hC : ∀ rs kept s, clrSt (tabRows n (hangL (n : Int) hl) q bs ns).length (tabRows n (hangL (n : Int) hl) q bs ns) (tabRows n (hangL (n : Int) hl) q bs ns).length = (rs, kept, s) → s ≠ 0 ∧ ∀ c ∈ kept, c < (tabRows n (hangL (n : Int) hl) q bs ns).length := fun rs kept s e => by
    rw [sq.1] at e ⊢
    obtain ⟨r, k, s', e', C⟩ := clrSt_cl sq bs.length (Nat.le_refl _)
    rw [e'] at e
    cases e
    exact ⟨(let ⟨_, _, I⟩ := C.inv; I.s0), C.lt⟩
  have hr : (tabRows n (hangL (n : Int) hl) q bs ns).length = (hangL (n : Int) hl).length := by rw [sq.1, hhl]
  obtain ⟨k1, x, hx, h0⟩ := mvI_some hr hM hC
  exact ⟨M, hM, by rw [mvD_len]; exact k1, mvD_gcd hx h0, mvD_ne hx h0, fun r hr0 r0 => mvD_getD (mvI_held hr hM (fun a b c e => (hC a b c e).2) r0 hr0), fun row hrow => mvD_dot hx h0 (mv_dot hnl hhl hM row hrow), mvD_small (mvI_small hnl hhl h8 hbo s1 s2 hM)⟩
theorem mv_none {n : Nat} {hl : List (Int × Int)} {bs : List BarD} {ns : List Int} {q : Int} (hnl : ns.length = bs.length) (hhl : (hangL (n : Int) hl).length = bs.length) (hdet : detB n (hangL (n : Int) hl) q bs ns ≠ 0) : mvI n (hangL (n : Int) hl) (tabRows n (hangL (n : Int) hl) q bs ns) = none := by
  have sq := sq_tab (n := n) (hs := hangL (n : Int) hl) (q := q) hnl hhl
  obtain ⟨r, k, s, e, C⟩ := clrSt_cl sq bs.length (Nat.le_refl _)
  have hd := C.det
  have hk : ¬ k.length < bs.length := fun z => by
    rw [if_pos z] at hd
    exact hdet hd.symm
  unfold mvI
  rw [sq.1, e]
  dsimp only
  have hf : freeL bs.length k = [] := by
    refine List.eq_nil_iff_forall_not_mem.mpr fun c hc => ?_
    obtain ⟨c1, c2⟩ := free_mem hc
    have hkn : k.Nodup := C.sorted.imp fun h => Nat.ne_of_lt h
    have hsub : (c :: k).Nodup := List.nodup_cons.mpr ⟨c2, hkn⟩
    have hle := hsub.length_le_of_subset (l₂ := List.range bs.length) fun x hx => by
      rcases List.mem_cons.mp hx with rfl | hx
      · exact List.mem_range.mpr c1
      · exact List.mem_range.mpr (C.lt x hx)
    rw [List.length_cons, List.length_range] at hle
    omega
  rw [hf]
theorem mvOk_un {n : Nat} {hl : List (Int × Int)} {bs : List BarD} {ms M : List Int} {q : Int} (hbo : ∀ b ∈ bs, BarOk (n : Int) b) (mo : MvOk n (normH hl) bs (normP ms q) (normN ms q) M) : MvOk n hl bs q ms M :=
  ⟨mo.len, mo.gcd, mo.ne, fun r h => mo.held r (by rw [normH_keys]; exact (srtI_perm _).mem_iff.mpr h), dot_unnorm hbo mo.len mo.dot, mo.small⟩
theorem st_f {n : Nat} {hl : List (Int × Int)} {bs : List BarD} {ms : List Int} {q : Int} (ok : WebOk (n : Int) hl bs) (ok' : WebOk (n : Int) (normH hl) bs) (hnl : ms.length = bs.length) (s1 : ∀ x ∈ normN ms q, x.natAbs < 2 ^ 440) (s2 : (normP ms q).natAbs < 2 ^ 440) (hdet : detB n (hangL (n : Int) (normH hl)) (normP ms q) bs (normN ms q) ≠ 0) :
    StF n hl bs q ms (normN (topsB n (normP ms q) (normH hl) bs (normN ms q)) (stB n (normP ms q) (normH hl) bs (normN ms q))) (normP (topsB n (normP ms q) (normH hl) bs (normN ms q)) (stB n (normP ms q) (normH hl) bs (normN ms q))) := by
  have hs1 : 1 ≤ stB n (normP ms q) (normH hl) bs (normN ms q) := sgn_pos hdet
  have hnl' : (normN ms q).length = bs.length := by rw [len_norm]; exact hnl
  refine ⟨by rw [len_norm]; exact len_tops, normP_pos hs1, norm_gcd hs1, fun r h hr => st_held ok' hdet ((norm_perm ok.nd).mem_iff.mpr hr), dot_unnorm ok.bars (by rw [len_norm]; exact len_tops) (st_dot ok' hnl' hdet), fun x hx => ?_⟩
  unfold normN at hx
  obtain ⟨z, hz, rfl⟩ := List.mem_map.mp hx
  exact Nat.lt_of_le_of_lt ediv_abs_le (tops_small ok' hnl' s1 s2 hz)
theorem web_norm {n : Nat} {hl : List (Int × Int)} {bs : List BarD} (ok : WebOk (n : Int) hl bs) : WebOk (n : Int) (normH hl) bs :=
  ⟨ok.n3, ok.n10, fun p hp => ok.keys p ((norm_perm ok.nd).mem_iff.mp hp), norm_nd ok.nd, fun z => ok.ne (by
    have h := (norm_perm ok.nd).length_eq
    rw [z] at h
    exact List.eq_nil_of_length_eq_zero h.symm), ok.b1, ok.b8, by rw [(norm_perm ok.nd).length_eq]; exact ok.sum, ok.bars⟩
end K22
namespace K22
open PySem PySem.Spec PyProof.Rows L2 LamX NdefX RZ
section
variable {P : Program} {w : World} {K : PySem.W.Frag} {mg : Str → Option Value} {base : Heap}
def qO : Str := "_law_odd_right.<locals>.<lambda>"
def Pf.d : Pf → Dt
  | .cnt n => .tup [.str "badcount", .tup [.str "places", .int n]]
  | .place k => .tup [.str "badplace", .int k]
theorem pf_noL (r : Pf) : noL r.d = true := by cases r <;> rfl
theorem refS_of {T : Tx K mg} {Q : VK} {r : Pf} {d : Addr} {H' : Hp} (hd : H' d = some (.xd r.fs)) (k : ∀ v H'', Ext H' H'' → Is K H'' r.d v → Q v H'') : RefS K T.C_Loose T.C_NotLoose T.C_BadCount T.C_BadPlace Q (.ref (r.C T)) (some d) H' := by
  cases r with
  | cnt n => exact .inr (.inr (.inl ⟨rfl, d, n, "places", rfl, hd, k⟩))
  | place n => exact .inr (.inr (.inr ⟨rfl, d, n, rfl, hd, k⟩))
theorem norm_one (ns : List Int) : normN ns 1 = ns ∧ normP ns 1 = 1 := by
  have h : gcdL (1 : Int).natAbs ns = 1 := by
    have := gcdL_dvd_start 1 ns
    exact Nat.dvd_one.mp this
  refine ⟨?_, ?_⟩
  · unfold normN
    rw [h]
    exact (List.map_congr_left fun x _ => Int.ediv_one x).trans (List.map_id _)
  · unfold normP
    rw [h]
    rfl
/-- an item of the law's list: hooks, and how they are refused -/
def ItemOk (K : PySem.W.Frag) (D : Addr) (bs : List BarD) (H : Hp) (y : V) : Prop := ∃ (t na : Addr) (v : V) (ns : List Int) (r : Pf), y = .ref t ∧ H t = some (.tup [.ref na, v]) ∧ H na = some (.lst (ns.map V.int)) ∧ na ≠ D ∧ Is K H r.d v ∧ ckPl 1 bs ns = some r ∧ (∀ x ∈ ns, x.natAbs < 2 ^ 440) ∧ ns.length ≤ 1000
theorem ItemOk.ext {D : Addr} {bs : List BarD} {H H' : Hp} {y : V} (i : ItemOk K D bs H y) (e : Ext H H') : ItemOk K D bs H' y := by
  obtain ⟨t, na, v, ns, r, e0, h1, h2, h3, h4, h5⟩ := i
  exact ⟨t, na, v, ns, r, e0, e _ _ h1, e _ _ h2, h3, h4.ext e, h5⟩
theorem ItemOk.extN {D : Addr} {bs : List BarD} {H H' : Hp} {y : V} (i : ItemOk K D bs H y) (e : ExtN H H') : ItemOk K D bs H' y := by
  obtain ⟨t, na, v, ns, r, e0, h1, h2, h3, h4, h5⟩ := i
  exact ⟨t, na, v, ns, r, e0, e _ _ h1 (fun _ z => by cases z), e _ _ h2 (fun _ z => by cases z), h3, Is.extN e h4, h5⟩
theorem ItemOk.upd {D : Addr} {bs : List BarD} {H : Hp} {y : V} {l : List V} {o : HO} (i : ItemOk K D bs H y) (h : H D = some (.lst l)) : ItemOk K D bs (upd H D o) y := by
  obtain ⟨t, na, v, ns, r, e0, h1, h2, h3, h4, h5⟩ := i
  exact ⟨t, na, v, ns, r, e0, by rw [upd_ne (fun z => by rw [z, h] at h1; cases h1)]; exact h1, by rw [upd_ne h3]; exact h2, h3, h4.updL (pf_noL r) h, h5⟩
theorem StAt.extN {H H' : Hp} {p : Addr} (h : StAt H p) (e : LamX.ExtN H H') : StAt H' p := let ⟨a, b, c, h1, h2⟩ := h; ⟨a, b, c, e _ _ h1 (fun _ z => by cases z), h2⟩
theorem extN_mut' {H Hm H1 : Hp} {D : Addr} {o : HO} (em : ExtN H Hm) (hm : Hm D = none) (e : ExtN H H1) : ExtN H (L2.upd H1 D o) := fun b o' z n => by
  have h : b ≠ D := fun q => by
    have := em b o' z n
    rw [q, hm] at this
    cases this
  rw [upd_ne h]
  exact e b o' z n
theorem _root_.LamX.ExtN.trans' {H H1 H2 : Hp} (a : ExtN H H1) (b : ExtN H1 H2) : ExtN H H2 := fun c o h n => b c o (a c o h n) n
theorem ext_none {H H' : Hp} {a : Addr} (e : Ext H H') (h : H' a = none) : H a = none := by
  cases z : H a with
  | none => rfl
  | some o => rw [e _ _ z] at h; cases h
theorem mk_item {D t na : Addr} {bs : List BarD} {ns : List Int} {r : Pf} {v : V} {H : Hp} (hna : H na = some (.lst (ns.map V.int))) (hne : na ≠ D) (iv : Is K H r.d v) (ht : H t = none) (hck : ckPl 1 bs ns = some r) (hs : ∀ x ∈ ns, x.natAbs < 2 ^ 440) (hl : ns.length ≤ 1000) : ItemOk K D bs (L2.upd H t (.tup [.ref na, v])) (.ref t) :=
  ⟨t, na, v, ns, r, rfl, upd_same, Ext.upd ht _ _ hna, hne, iv.ext (Ext.upd ht), hck, hs, hl⟩
theorem due_cnt {a1 a2 : Addr} {n : Int} {H : Hp} (h1 : H a1 = none) (h2 : (L2.upd H a1 (.tup [.str "places", .int n])) a2 = none) : Is K (L2.upd (L2.upd H a1 (.tup [.str "places", .int n])) a2 (.tup [.str "badcount", .ref a1])) (Pf.cnt n).d (.ref a2) :=
  ⟨a2, _, rfl, SqT.of upd_same, _, _, rfl, rfl, _, _, rfl, ⟨a1, _, rfl, SqT.of (Ext.upd h2 _ _ upd_same), _, _, rfl, rfl, _, _, rfl, rfl, rfl⟩, rfl⟩
theorem due_pl {a2 : Addr} {n : Int} {H : Hp} : Is K (L2.upd H a2 (.tup [.str "badplace", .int n])) (Pf.place n).d (.ref a2) :=
  ⟨a2, _, rfl, SqT.of upd_same, _, _, rfl, rfl, _, _, rfl, rfl, rfl⟩
theorem ck_cnt {q : Int} {bs : List BarD} {ns : List Int} {m : Int} (h : (ns.length : Int) = m) (hn : m ≠ bs.length) : ckPl q bs ns = some (.cnt m) := by
  unfold ckPl
  rw [if_pos (by rw [h]; exact hn), h]
theorem ck_off {bs : List BarD} {n : Int} {m : Nat} {b : BarD} {off : Int} (hbo : ∀ b ∈ bs, BarOk n b) (hb : bs[m]? = some b) (ho : off = -1 ∨ off = b.len + 1) :
    ckPl 1 bs ((bs.map fun b => b.lo).take m ++ [off] ++ (bs.map fun b => b.lo).drop (m + 1)) = some (.place (m : Int)) := by
  have hm : m < bs.length := (List.getElem?_eq_some_iff.mp hb).1
  unfold ckPl
  rw [if_neg (fun z => z (by rw [List.length_append, List.length_append, List.length_take, List.length_drop, List.length_map, List.length_singleton]; omega))]
  have hl : ((bs.map fun b => b.lo).take m).length = m := by rw [List.length_take, List.length_map]; omega
  have := pl_at (q := 1) (bs := bs) (ns := (bs.map fun b => b.lo).take m ++ [off] ++ (bs.map fun b => b.lo).drop (m + 1)) (k := 0) (i := m) (b := b) (x := off) (fun j c y hj hc hy => ?_) hb (by
    rw [List.getElem?_append_left (by rw [List.length_append, hl]; exact Nat.lt_succ_self m), List.getElem?_append_right (by omega), hl, Nat.sub_self]
    rfl) (by
    have okb := hbo b (List.mem_of_getElem? hb)
    have := okb.l0
    unfold offPl
    rcases ho with rfl | rfl
    · rw [decide_eq_false (by omega)]
      rfl
    · rw [decide_eq_false (show ¬ b.len + 1 ≤ b.len * 1 by omega), Bool.and_false]
      rfl)
  · rw [Nat.zero_add] at this
    exact this
  · rw [List.getElem?_append_left (by rw [List.length_append, hl]; exact Nat.lt_succ_of_lt hj), List.getElem?_append_left (by omega), List.getElem?_take_of_lt hj, List.getElem?_map, hc] at hy
    cases hy
    have okb := hbo c (List.mem_of_getElem? hc)
    have := okb.o0
    have := okb.o1
    have := okb.o2
    unfold offPl
    rw [decide_eq_true okb.o0, decide_eq_true (show c.lo ≤ c.len * 1 by omega)]
    rfl
theorem ck_neg {bs : List BarD} (h1 : 1 ≤ bs.length) : ckPl 1 bs (List.replicate bs.length (-1)) = some (.place 0) := by
  unfold ckPl
  rw [if_neg (fun z => z (by rw [List.length_replicate]))]
  have := pl_at (q := 1) (bs := bs) (ns := List.replicate bs.length (-1)) (k := 0) (i := 0) (b := bs[0]) (x := -1) (fun j c y hj => absurd hj (Nat.not_lt_zero j)) (List.getElem?_eq_getElem h1) (by
    rw [List.getElem?_replicate, if_pos (show 0 < bs.length from h1)]) (by
    unfold offPl
    rw [decide_eq_false (by omega)]
    rfl)
  exact this
theorem lo_small {bs : List BarD} {n : Int} (hbo : ∀ b ∈ bs, BarOk n b) : ∀ x ∈ bs.map (fun b => b.lo), x.natAbs < 2 ^ 440 := fun x hx => by
  obtain ⟨b, hb, rfl⟩ := List.mem_map.mp hx
  have okb := hbo b hb
  have := okb.o0
  have := okb.o1
  have := okb.o2
  have := okb.l1
  exact Nat.lt_of_le_of_lt (show b.lo.natAbs ≤ 1000000 by omega) (by decide +kernel)
def spOdd (K : PySem.W.Frag) (T : Tx K mg) (TS : List (Addr × Str)) : Sp := fun vs H Q _ => ∃ (p : Addr) (v u : V) (n : Nat) (hl : List (Int × Int)) (bs : List BarD), vs = [.ref p, v, u] ∧ StAt H p ∧ Is K (del H p) (whD (n : Int) hl bs) v ∧ Is K (del H p) (wbD T.C_Web T.C_Bar (n : Int) bs (normH hl)) u ∧ WebOk (n : Int) hl bs ∧ Tabs TS H ∧
  ∀ H', DN p H H' → StAt H' p → Tabs TS H' → Q (.bl true) H'
theorem ok_l_odd_right (T : Tx K mg) {c0 P0 : Addr} {TS : List (Addr × Str)} (TB : TabB base mg c0 P0) (hcd : T.fd_l_odd_right.code = .ref c0) (hmT : (P0, qO) ∈ TS) (huT : ∀ p ∈ TS, p.1 = P0 → p.2 = qO) :
    FnOk P w K mg base (L2.CX P w) 50 T.a_l_odd_right T.fd_l_odd_right ["_law_s", "_law_web_here", "_law_own"] (spOdd K T TS) := by
  obtain ⟨ocR, odR, kVR, docR, pmR, anR, cdR, ctR, oslR, hfR, lkR, hcR⟩ := T.F_l_said.ex
  rw [hfR] at lkR
  have hbR := T.b_l_said
  rw [hfR] at hbR
  refine T.F_l_odd_right.okXc sc_l_odd_right (fun vs H Q E h => ?_) (fun A outer s H vs Q E hr h => ?_)
  · obtain ⟨p, v, u, n, hl, bs, rfl, _⟩ := h
    rfl
  · obtain ⟨p, v, u, n, hl, bs, rfl, hs, hv, hu, ok, hT, k⟩ := h
    refine ⟨_, (pss_cons (ps_set (i := 3) sc_l_odd_right.nd rfl (Or.inl rfl) (pe_ix ix_tup (pv 1) pe_int (fun _ _ => rfl)))
      (pss_cons (ps_set (i := 4) sc_l_odd_right.nd rfl (Or.inl rfl) (pe_call (ok_l_digit T) (hr.mono (by decide)) rfl T.m_l_digit T.F_l_digit.kp T.b_l_digit .nil passL (pa_cons (pv 0) (pa_cons (pe_callB call_len_seq (by rfl) T.z_len PySem.boot_len (pa_cons (pv 3) pa_nil)) pa_nil))))
      (pss_cons (ps_setLc (i := 5) (own := [("_law_bar_here", 12)]) (g := gName 12) (tt := tYes) (te := tOp (rIxT K) (tVar 12) (tC (.int 4))) (by rfl) sc_l_odd_right.nd rfl rfl (sw_true rfl rfl rfl (by decide +kernel)) (pi_list (pv 3)) (blkOk_by (own := [("_law_bar_here", 12)]) (N := N_l_odd_right) (sc := defScope s_l_odd_right) (by decide +kernel)) (fun _ _ _ _ _ => (pg_name (i := 12) sc_l_odd_right.nd rfl (Or.inl rfl))) (fun _ _ _ _ _ => pts_nil) (fun _ _ _ _ _ => (pe_ix ix_tup (pv 12) pe_int (fun _ _ => rfl))))
      (pss_cons (ps_set (i := 6) sc_l_odd_right.nd rfl (Or.inl rfl) (pe_ix ix_list (pe_lst (pa_cons (pe_un un_neg pe_int) (pa_cons (pe_op op_add (pe_ix ix_tup (pe_ix ix_list (pv 3) (pv 4) (fun _ _ => rfl)) pe_int (fun _ _ => rfl)) pe_int) pa_nil))) (pe_call (ok_l_digit T) (hr.mono (by decide)) rfl T.m_l_digit T.F_l_digit.kp T.b_l_digit .nil passL (pa_cons (pv 0) (pa_cons pe_int pa_nil))) (fun _ _ => rfl)))
      (pss_cons (ps_set (i := 7) sc_l_odd_right.nd rfl (Or.inl rfl) (pe_lst (pa_cons (pe_tup (pa_cons (pe_op op_catL (pv 5) (pe_lst (pa_cons pe_int pa_nil))) (pa_cons (pe_tup (pa_cons pe_str (pa_cons (pe_tup (pa_cons pe_str (pa_cons (pe_op op_add (pe_callB call_len_seq (by rfl) T.z_len PySem.boot_len (pa_cons (pv 3) pa_nil)) pe_int) pa_nil))) pa_nil))) pa_nil))) pa_nil)))
      (pss_cons (ps_expr (pe_bm PySem.F.plainAttrs_list PySem.F.slot_list_append PySem.F.type_list_append mt_append (pv 7) (pa_cons (pe_tup (pa_cons (pe_slice sl_list (pv 5) (po_some pe_int) po_none) (pa_cons (pe_tup (pa_cons pe_str (pa_cons (pe_tup (pa_cons pe_str (pa_cons (pe_op op_sub (pe_callB call_len_seq (by rfl) T.z_len PySem.boot_len (pa_cons (pv 3) pa_nil)) pe_int) pa_nil))) pa_nil))) pa_nil))) pa_nil)))
      (pss_cons (ps_set (i := 7) sc_l_odd_right.nd rfl (Or.inl rfl) (pe_op op_catL (pv 7) (pe_lst (pa_cons (pe_tup (pa_cons (pe_op op_catL (pe_op op_catL (pe_slice sl_list (pv 5) po_none (po_some (pv 4))) (pe_lst (pa_cons (pv 6) pa_nil))) (pe_slice sl_list (pv 5) (po_some (pe_op op_add (pv 4) pe_int)) po_none)) (pa_cons (pe_tup (pa_cons pe_str (pa_cons (pv 4) pa_nil))) pa_nil))) (pa_cons (pe_tup (pa_cons (pe_op op_rep (pe_lst (pa_cons (pe_un un_neg pe_int) pa_nil)) (pe_callB call_len_seq (by rfl) T.z_len PySem.boot_len (pa_cons (pv 3) pa_nil))) (pa_cons (pe_tup (pa_cons pe_str (pa_cons pe_int pa_nil))) pa_nil))) pa_nil)))))
      (pss_cons (ps_for (passes_of rfl) rfl (pi_list (pv 7)) (pg_tup (by rfl) (pgs_cons (pg_name (i := 8) sc_l_odd_right.nd rfl (Or.inl rfl)) (pgs_cons (pg_name (i := 9) sc_l_odd_right.nd rfl (Or.inl rfl)) pgs_nil))) (pss_cons (ps_set (i := 10) sc_l_odd_right.nd rfl (Or.inr rfl) (pe_make T.k_Places (ok_Places_init T) (hr.mono (by decide)) rfl T.m_Places T.b_Places_init .nil passL (pa_cons (pv 8) (pa_cons pe_int pa_nil))))
      (pss_cons (ps_set (i := 11) sc_l_odd_right.nd rfl (Or.inl rfl) (pe_lst (pa_cons (pe_lamcall (T := TS) (TT := TTsaid K T.C_Loose T.C_NotLoose T.C_BadCount T.C_BadPlace) (t := fun E => tCall (spStand K T) [] E (tCons (tVar 2) (tCons (tVar 10) tNil))) (k := 24) rfl T.m_l_said T.F_l_said.kp lkR hcR hbR sc_l_said rfl (Or.inl rfl) (said_gives (K := K) (mg := mg) rfl rfl T) TB hcd hmT huT (hr.mono (by decide)) (lamS_by (by rfl)) rfl (fun _ _ _ _ _ => rfl) (fun A outer s H E f c hr2 => pe_call (ok_stand T) (hr2.mono (by decide)) rfl T.m_stand T.F_stand.kp T.b_stand .nil (passes_call (takes_of rfl rfl rfl rfl) (fun _ _ _ _ h => h)) (pa_cons (pv 2) (pa_cons (pv 10) pa_nil)))) pa_nil)))
      (pss_cons (ps_expr (pe_bm PySem.F.plainAttrs_list PySem.F.slot_list_append PySem.F.type_list_append mt_append (pv 11) (pa_cons (pe_lamcall (T := TS) (TT := TTsaid K T.C_Loose T.C_NotLoose T.C_BadCount T.C_BadPlace) (t := fun E => tCall (spMove K T) [] E (tCons (tVar 2) (tCons (tVar 10) tNil))) (k := 24) rfl T.m_l_said T.F_l_said.kp lkR hcR hbR sc_l_said rfl (Or.inl rfl) (said_gives (K := K) (mg := mg) rfl rfl T) TB hcd hmT huT (hr.mono (by decide)) (lamS_by (by rfl)) rfl (fun _ _ _ _ _ => rfl) (fun A outer s H E f c hr2 => pe_call (ok_move T) (hr2.mono (by decide)) rfl T.m_move T.F_move.kp T.b_move .nil (passes_call (takes_of rfl rfl rfl rfl) (fun _ _ _ _ h => h)) (pa_cons (pv 2) (pa_cons (pv 10) pa_nil)))) pa_nil)))
      (pss_cons (ps_expr (pe_bm PySem.F.plainAttrs_list PySem.F.slot_list_append PySem.F.type_list_append mt_append (pv 11) (pa_cons (pe_lamcall (T := TS) (TT := TTsaid K T.C_Loose T.C_NotLoose T.C_BadCount T.C_BadPlace) (t := fun E => tCall (spDetm K T) [] E (tCons (tVar 2) (tCons (tVar 10) tNil))) (k := 24) rfl T.m_l_said T.F_l_said.kp lkR hcR hbR sc_l_said rfl (Or.inl rfl) (said_gives (K := K) (mg := mg) rfl rfl T) TB hcd hmT huT (hr.mono (by decide)) (lamS_by (by rfl)) rfl (fun _ _ _ _ _ => rfl) (fun A outer s H E f c hr2 => pe_call (ok_determinant T) (hr2.mono (by decide)) rfl T.m_determinant T.F_determinant.kp T.b_determinant .nil (passes_call (takes_of rfl rfl rfl rfl) (fun _ _ _ _ h => h)) (pa_cons (pv 2) (pa_cons (pv 10) pa_nil)))) pa_nil)))
      (pss_one (ps_if (pt_cmpR (op_neO pureTab pureNe hr (by decide)) (pv 11) (pe_op op_rep (pe_lst (pa_cons (pv 9) pa_nil)) pe_int) (nomark _)) pss_never pss_nil)))))))
      (pss_one (ps_ret pe_bl)))))))))), ?_⟩
    obtain ⟨t, hd, bl, ws, rfl, ht, hhd, hbl, hbs⟩ := wh_of hv
    have hwl : ws.length = bs.length := by rw [isL_len hbs, List.length_map]
    have b1 := ok.b1
    have b8 := ok.b8
    have n10 : n ≤ 10 := by have := ok.n10; omega
    rw [show L2.start N_l_odd_right [V.ref p, V.ref t, u] = [some (.ref p), some (.ref t), some u, none, none, none, none, none, none, none, none, none, none] from rfl]
    refine ⟨_, rfl, t, _, 2, _, rfl, rfl, ht.ext del_ext, atI_nat (j := 2) rfl, ?_⟩
    simp only [List.set_cons_succ, List.set_cons_zero]
    refine ⟨_, rfl, _, rfl, bl, _, rfl, .inl (hbl.ext del_ext), p, _, rfl, hs, by omega, by omega, fun r0 H1 e1 hs1 r00 r01 => ?_⟩
    obtain ⟨m, rfl, hm⟩ : ∃ m : Nat, r0 = (m : Int) ∧ m < bs.length := ⟨r0.toNat, by omega, by omega⟩
    have hbl1 := hbl.ext e1
    have hbs1 := hbs.ext e1
    have hu1 := hu.ext e1
    have hT1 : Tabs TS H1 := by
      obtain ⟨za, zb, zc, hz, _⟩ := id hs
      exact tabs_de hT hz e1
    refine ⟨_, rfl, bl, rfl, ⟨_, hbl1.ext del_ext⟩, fun G hG => lc_list (xs := ws) (fun i H' => Ext H1 H' ∧ H' G = some (.lst (((bs.take i).map fun b : BarD => b.lo).map V.int))) ⟨Ext.upd hG, upd_same⟩ (fun i H' _ z => (hbl1.ext del_ext).ext z.1) ?_ ?_⟩
    · rintro i y H2 hi ⟨e2, hG2⟩
      obtain ⟨b, hbi, ib⟩ := isL_at' hbs1 hi
      obtain ⟨tb, rfl, htb⟩ := bf_of ib
      have hin : i < bs.length := (List.getElem?_eq_some_iff.mp hbi).1
      refine ⟨rfl, tyes ?_⟩
      refine ⟨_, rfl, tb, _, 4, _, rfl, rfl, (htb.ext del_ext).ext e2, atI_nat (xs := brV b) (j := 4) rfl, _, hG2, ?_, e2.mut hG, ?_⟩
      · rw [List.length_map, List.length_map, List.length_take]
        exact Nat.lt_of_lt_of_le (show min i bs.length < 100 by omega) (by decide)
      · rw [upd_same, List.take_add_one, hbi, List.map_append, List.map_append]
        rfl
    rintro H2 ⟨e2, hG2⟩
    rw [hwl, List.take_length] at hG2
    simp only [List.set_cons_succ, List.set_cons_zero]
    have hGp : G ≠ p := hs1.ne hG
    have hs2 := hs1.ext e2
    have hT2 := hT1.ext e2
    obtain ⟨b, hb⟩ : ∃ b, bs[m]? = some b := ⟨_, List.getElem?_eq_getElem hm⟩
    obtain ⟨y, hy, iy⟩ := IsL.get' hbs1 (show (bs.map bfD)[m]? = some (bfD b) by rw [List.getElem?_map, hb]; rfl)
    obtain ⟨tb, rfl, htb⟩ := bf_of iy
    have okb := ok.bars b (List.mem_of_getElem? hb)
    refine ⟨_, rfl, _, rfl, _, rfl, bl, _, (m : Int), _, rfl, rfl, (hbl1.ext del_ext).ext e2, atI_nat hy, tb, _, 3, _, rfl, rfl, (htb.ext del_ext).ext e2, atI_nat (xs := brV b) (j := 3) rfl, _, _, rfl, rfl, by show 2 ≤ sizeLine; decide, fun z1 hz1 => ?_⟩
    have hz1p : z1 ≠ p := hs2.ne hz1
    have e3 : Ext H2 (upd H2 z1 (.lst [.int (-1), .int (b.len + 1)])) := Ext.upd hz1
    have g3 : (upd H2 z1 (.lst [.int (-1), .int (b.len + 1)])) z1 = some (.lst [.int (-1), .int (b.len + 1)]) := upd_same
    generalize upd H2 z1 (.lst [.int (-1), .int (b.len + 1)]) = H3 at e3 g3 ⊢
    refine ⟨_, rfl, p, _, rfl, hs2.ext e3, by decide, by decide, fun r2 H4 e4 hs4 r20 r21 => ?_⟩
    obtain ⟨off, hoff, hat⟩ : ∃ off : Int, (off = -1 ∨ off = b.len + 1) ∧ atI [V.int (-1), V.int (b.len + 1)] r2 = some (V.int off) := by
      rcases (show r2 = 0 ∨ r2 = 1 by omega) with rfl | rfl
      · exact ⟨_, .inl rfl, rfl⟩
      · exact ⟨_, .inr rfl, rfl⟩
    refine ⟨z1, _, r2, _, rfl, rfl, SqL.of (e4.to g3 hz1p), hat, ?_⟩
    have e14 : DE p H1 H4 := (DE.of (e2.trans e3)).trans e4
    have hbl4 : SqL K H4 bl ws := (hbl1.ext e14).ext del_ext
    have hG4 : H4 G = some (.lst ((bs.map fun b : BarD => b.lo).map V.int)) := e4.to (e3 _ _ hG2) hGp
    have hu4 : Is K H4 (wbD T.C_Web T.C_Bar (n : Int) bs (normH hl)) u := (hu1.ext e14).ext del_ext
    have hT4 : Tabs TS H4 := by
      obtain ⟨za, zb, zc, hz, _⟩ := id hs1
      exact tabs_de hT1 hz e14
    have eD4 : DN p H H4 := DN.de (e1.trans e14)
    simp only [List.set_cons_succ, List.set_cons_zero]
    clear g3 e3 e2 hat e14 hG2 hu1 hbl1 hbs1 hT1 hT2 hs2 iy htb hy hz1 hz1p e4 hv hu hs hT ht hhd hbl hbs e1 hs1 r20 r21
    -- some
    refine ⟨_, rfl, by show 1 ≤ sizeLine; decide, fun z2 hz2 => ?_⟩
    refine ⟨G, z2, _, _, rfl, rfl, SqL.of (Ext.upd hz2 _ _ hG4), SqL.of upd_same, ?_, fun c1 hc1 => ?_⟩
    · rw [List.length_map, List.length_map]
      exact Nat.le_trans (show bs.length + 1 ≤ 100 by omega) (by decide)
    rw [show (bs.map fun b : BarD => b.lo).map V.int ++ [V.int 0] = ((bs.map fun b : BarD => b.lo) ++ [0]).map V.int by rw [List.map_append]; rfl]
    have hc1G := hc1
    have g1 : (upd (upd H4 z2 (.lst [.int 0])) c1 (.lst (((bs.map fun b : BarD => b.lo) ++ [0]).map V.int))) c1 = some (.lst (((bs.map fun b : BarD => b.lo) ++ [0]).map V.int)) := upd_same
    have f1 : Ext H4 (upd (upd H4 z2 (.lst [.int 0])) c1 (.lst (((bs.map fun b : BarD => b.lo) ++ [0]).map V.int))) := (Ext.upd hz2).trans (Ext.upd hc1)
    generalize upd (upd H4 z2 (.lst [.int 0])) c1 (.lst (((bs.map fun b : BarD => b.lo) ++ [0]).map V.int)) = H5 at g1 f1 ⊢
    clear hc1 hz2 hc1G
    refine ⟨_, rfl, bl, _, rfl, .inl (hbl4.ext f1), _, _, rfl, rfl, by show 2 ≤ sizeLine; decide, fun a1 ha1 => ?_⟩
    refine ⟨by show 2 ≤ sizeLine; decide, fun a2 ha2 => ?_⟩
    refine ⟨by show 2 ≤ sizeLine; decide, fun a3 ha3 => ?_⟩
    refine ⟨by show 1 ≤ sizeLine; decide, fun S1 hS1 => ?_⟩
    rw [hwl]
    have los := lo_small ok.bars
    have i1 := due_cnt (K := K) (n := (bs.length : Int) + 1) ha1 (by rw [← hwl]; exact ha2)
    have e5 : Ext H5 (upd (upd H5 a1 (.tup [.str "places", .int ((bs.length : Int) + 1)])) a2 (.tup [.str "badcount", .ref a1])) := (Ext.upd ha1).trans (Ext.upd (by rw [← hwl]; exact ha2))
    rw [hwl] at ha3 hS1
    generalize upd (upd H5 a1 (.tup [.str "places", .int ((bs.length : Int) + 1)])) a2 (.tup [.str "badcount", .ref a1]) = H6 at i1 e5 ha3 hS1 ⊢
    have hcS : c1 ≠ S1 := fun z => by rw [← z, Ext.upd ha3 _ _ (e5 _ _ g1)] at hS1; cases hS1
    have it := (mk_item (K := K) (bs := bs) (e5 _ _ g1) hcS i1 ha3 (ck_cnt (by rw [List.length_append, List.length_map]; rfl) (by omega)) (fun x hx => by
      rcases List.mem_append.mp hx with h | h
      · exact los x h
      · rw [List.mem_singleton.mp h]; decide +kernel) (by rw [List.length_append, List.length_map]; show bs.length + 1 ≤ 1000; omega)).ext (Ext.upd (o := .lst [.ref a3]) hS1)
    have S1f : H4 S1 = none := ext_none ((f1.trans e5).trans (Ext.upd ha3)) hS1
    have f2 : Ext H4 (upd (upd H6 a3 (.tup [.ref c1, .ref a2])) S1 (.lst [.ref a3])) := (f1.trans e5).trans ((Ext.upd ha3).trans (Ext.upd hS1))
    have hS : (upd (upd H6 a3 (.tup [.ref c1, .ref a2])) S1 (.lst [.ref a3])) S1 = some (.lst [.ref a3]) := upd_same
    generalize upd (upd H6 a3 (.tup [.ref c1, .ref a2])) S1 (.lst [.ref a3]) = H7 at it f2 hS ⊢
    clear i1 e5 hcS g1 f1 ha1 ha2 ha3 hS1
    -- append
    simp only [List.set_cons_succ, List.set_cons_zero]
    refine ⟨_, rfl, .inl ⟨rfl, _, SqL.of hS⟩, _, rfl, 1, rfl, G, _, rfl, SqL.of (f2 _ _ hG4), fun c2 hc2 => ?_⟩
    have hcut : cutV ((bs.map fun b : BarD => b.lo).map V.int) (some 1) none = ((bs.map fun b : BarD => b.lo).drop 1).map V.int := by rw [show (1 : Int) = ((1 : Nat) : Int) from rfl, cut_drop, List.map_drop]
    rw [hcut]
    have hcS : c2 ≠ S1 := fun z => by rw [z, hS] at hc2; cases hc2
    have f3 := Ext.upd (o := .lst (((bs.map fun b : BarD => b.lo).drop 1).map V.int)) hc2
    have g2 : (upd H7 c2 (.lst (((bs.map fun b : BarD => b.lo).drop 1).map V.int))) c2 = some (.lst (((bs.map fun b : BarD => b.lo).drop 1).map V.int)) := upd_same
    generalize upd H7 c2 (.lst (((bs.map fun b : BarD => b.lo).drop 1).map V.int)) = H8 at f3 g2 ⊢
    clear hc2 hcut
    refine ⟨_, rfl, bl, _, rfl, .inl (hbl4.ext (f2.trans f3)), _, _, rfl, rfl, by show 2 ≤ sizeLine; decide, fun a4 ha1 => ?_⟩
    refine ⟨by show 2 ≤ sizeLine; decide, fun a5 ha2 => ?_⟩
    refine ⟨by show 2 ≤ sizeLine; decide, fun a6 ha3 => ?_⟩
    rw [hwl] at ha2 ha3 ⊢
    have i1 := due_cnt (K := K) ha1 ha2
    have e5 : Ext H8 (upd (upd H8 a4 (.tup [.str "places", .int ((bs.length : Int) - 1)])) a5 (.tup [.str "badcount", .ref a4])) := (Ext.upd ha1).trans (Ext.upd ha2)
    generalize upd (upd H8 a4 (.tup [.str "places", .int ((bs.length : Int) - 1)])) a5 (.tup [.str "badcount", .ref a4]) = H9 at i1 e5 ha3 ⊢
    have it2 := mk_item (K := K) (bs := bs) (e5 _ _ g2) hcS i1 ha3 (ck_cnt (by rw [List.length_drop, List.length_map]; omega) (by omega)) (fun x hx => los x (List.mem_of_mem_drop hx)) (by rw [List.length_drop, List.length_map]; omega)
    have f4 := (f3.trans e5).trans (Ext.upd (o := .tup [.ref c2, .ref a5]) ha3)
    generalize upd H9 a6 (.tup [.ref c2, .ref a5]) = H10 at it2 f4 ⊢
    have hS' := f4 _ _ hS
    have f5 := f2.trans f4
    refine ⟨S1, _, _, rfl, rfl, hS', by show 1 < sizeLine; decide, ?_⟩
    have it1 := (it.ext f4).upd (o := .lst ([.ref a3] ++ [.ref a6])) hS'
    have it2 := it2.upd (o := .lst ([.ref a3] ++ [.ref a6])) hS'
    have f6 := f5.mut (o := .lst ([.ref a3] ++ [.ref a6])) S1f
    have hS2 : (upd H10 S1 (.lst ([.ref a3] ++ [.ref a6]))) S1 = some (.lst [.ref a3, .ref a6]) := upd_same
    generalize upd H10 S1 (.lst ([.ref a3] ++ [.ref a6])) = H11 at it1 it2 f6 hS2 ⊢
    clear it f2 f3 f4 f5 g2 i1 e5 hS hS' hcS ha1 ha2 ha3
    have hcut1 : cutV ((bs.map fun b : BarD => b.lo).map V.int) none (some (m : Int)) = ((bs.map fun b : BarD => b.lo).take m).map V.int := by rw [cut_take, List.map_take]
    have hcut2 : cutV ((bs.map fun b : BarD => b.lo).map V.int) (some ((m : Int) + 1)) none = ((bs.map fun b : BarD => b.lo).drop (m + 1)).map V.int := by rw [show (m : Int) + 1 = ((m + 1 : Nat) : Int) by omega, cut_drop, List.map_drop]
    refine ⟨_, rfl, _, rfl, _, rfl, (m : Int), rfl, G, _, rfl, SqL.of (f6 _ _ hG4), fun s1 hs1 => ?_⟩
    rw [hcut1]
    have k1 := Ext.upd (o := .lst (((bs.map fun b : BarD => b.lo).take m).map V.int)) hs1
    have l1 : (upd H11 s1 (.lst (((bs.map fun b : BarD => b.lo).take m).map V.int))) s1 = some (.lst (((bs.map fun b : BarD => b.lo).take m).map V.int)) := upd_same
    generalize upd H11 s1 (.lst (((bs.map fun b : BarD => b.lo).take m).map V.int)) = H12 at k1 l1 ⊢
    refine ⟨_, rfl, by show 1 ≤ sizeLine; decide, fun s2 hs2 => ?_⟩
    have lt : ((bs.map fun b : BarD => b.lo).take m).length ≤ 8 := by rw [List.length_take, List.length_map]; omega
    have ld : ((bs.map fun b : BarD => b.lo).drop (m + 1)).length ≤ 8 := by rw [List.length_drop, List.length_map]; omega
    refine ⟨s1, s2, _, _, rfl, rfl, SqL.of (Ext.upd hs2 _ _ l1), SqL.of upd_same, ?_, fun s3 hs3 => ?_⟩
    · rw [List.length_map]
      exact Nat.le_trans (show ((bs.map fun b : BarD => b.lo).take m).length + 1 ≤ 100 by omega) (by decide)
    have k2 : Ext H12 (upd (upd H12 s2 (.lst [.int off])) s3 (.lst (((bs.map fun b : BarD => b.lo).take m).map V.int ++ [.int off]))) := (Ext.upd hs2).trans (Ext.upd hs3)
    have l2 : (upd (upd H12 s2 (.lst [.int off])) s3 (.lst (((bs.map fun b : BarD => b.lo).take m).map V.int ++ [.int off]))) s3 = some (.lst (((bs.map fun b : BarD => b.lo).take m).map V.int ++ [.int off])) := upd_same
    generalize upd (upd H12 s2 (.lst [.int off])) s3 (.lst (((bs.map fun b : BarD => b.lo).take m).map V.int ++ [.int off])) = H13 at k2 l2 ⊢
    refine ⟨_, rfl, _, rfl, _, _, rfl, rfl, (m : Int) + 1, rfl, G, _, rfl, SqL.of (k2 _ _ (k1 _ _ (f6 _ _ hG4))), fun s4 hs4 => ?_⟩
    rw [hcut2]
    refine ⟨s3, s4, _, _, rfl, rfl, SqL.of (Ext.upd hs4 _ _ l2), SqL.of upd_same, ?_, fun s5 hs5 => ?_⟩
    · rw [List.length_append, List.length_map, List.length_map]
      exact Nat.le_trans (show ((bs.map fun b : BarD => b.lo).take m).length + 1 + ((bs.map fun b : BarD => b.lo).drop (m + 1)).length ≤ 100 by omega) (by decide)
    have k3 : Ext H13 (upd (upd H13 s4 (.lst (((bs.map fun b : BarD => b.lo).drop (m + 1)).map V.int))) s5 (.lst (((bs.map fun b : BarD => b.lo).take m).map V.int ++ [.int off] ++ ((bs.map fun b : BarD => b.lo).drop (m + 1)).map V.int))) := (Ext.upd hs4).trans (Ext.upd hs5)
    have l3 : (upd (upd H13 s4 (.lst (((bs.map fun b : BarD => b.lo).drop (m + 1)).map V.int))) s5 (.lst (((bs.map fun b : BarD => b.lo).take m).map V.int ++ [.int off] ++ ((bs.map fun b : BarD => b.lo).drop (m + 1)).map V.int))) s5 = some (.lst (((bs.map fun b : BarD => b.lo).take m ++ [off] ++ (bs.map fun b : BarD => b.lo).drop (m + 1)).map V.int)) := by rw [upd_same, List.map_append, List.map_append]; rfl
    generalize upd (upd H13 s4 (.lst (((bs.map fun b : BarD => b.lo).drop (m + 1)).map V.int))) s5 (.lst (((bs.map fun b : BarD => b.lo).take m).map V.int ++ [.int off] ++ ((bs.map fun b : BarD => b.lo).drop (m + 1)).map V.int)) = H14 at k3 l3 ⊢
    have f7 : Ext H11 H14 := (k1.trans k2).trans k3
    have hsS : s5 ≠ S1 := fun z => by rw [z, f7 _ _ hS2] at l3; have := Option.some.inj l3; injection this with this; exact absurd (congrArg List.head? this) (by
      cases (List.map (fun b : BarD => b.lo) bs).take m <;> exact fun z => by cases z)
    refine ⟨_, rfl, by show 2 ≤ sizeLine; decide, fun d1 hd1 => ?_⟩
    refine ⟨by show 2 ≤ sizeLine; decide, fun d2 hd2 => ?_⟩
    have i3 := due_pl (K := K) (a2 := d1) (n := (m : Int)) (H := H14)
    have k4 := Ext.upd (o := .tup [.str "badplace", .int (m : Int)]) hd1
    generalize upd H14 d1 (.tup [.str "badplace", .int (m : Int)]) = H15 at i3 k4 hd2 ⊢
    have it3 := mk_item (K := K) (D := S1) (bs := bs) (k4 _ _ l3) hsS i3 hd2 (ck_off ok.bars hb hoff) (fun x hx => by
      rcases List.mem_append.mp hx with h | h
      · rcases List.mem_append.mp h with h | h
        · exact los x (List.mem_of_mem_take h)
        · rw [List.mem_singleton.mp h]
          have := okb.l0
          have := okb.l1
          exact Nat.lt_of_le_of_lt (show off.natAbs ≤ 1000001 by omega) (by decide +kernel)
      · exact los x (List.mem_of_mem_drop h)) (by rw [List.length_append, List.length_append]; show _ + 1 + _ ≤ 1000; omega)
    have f8 := (f7.trans k4).trans (Ext.upd (o := .tup [.ref s5, .ref d1]) hd2)
    generalize upd H15 d2 (.tup [.ref s5, .ref d1]) = H16 at it3 f8 ⊢
    clear i3 k4 l3 hsS f7 k3 k2 k1 l1 l2 hd1 hd2 hs4 hs5 hs3 hs2 hs1
    refine ⟨_, rfl, by show 1 ≤ sizeLine; decide, fun n1 hn1 => ?_⟩
    refine ⟨_, rfl, bl, _, rfl, .inl (hbl4.ext ((f6.trans f8).trans (Ext.upd hn1))), n1, _, _, rfl, rfl, upd_same, by omega, by rw [hwl]; omega, ?_, fun n2 hn2 => ?_⟩
    · rw [hwl]
      exact Nat.le_trans (show 1 * ((bs.length : Nat) : Int).toNat ≤ 100 by omega) (by decide)
    have hrep : (List.replicate ((ws.length : Nat) : Int).toNat [V.int (-1)]).flatten = (List.replicate bs.length (-1 : Int)).map V.int := by rw [hwl, Int.toNat_natCast, List.flatten_replicate_singleton, List.map_replicate]
    rw [hrep]
    have k1 : Ext H16 (upd (upd H16 n1 (.lst [.int (-1)])) n2 (.lst ((List.replicate bs.length (-1 : Int)).map V.int))) := (Ext.upd hn1).trans (Ext.upd hn2)
    have l1 : (upd (upd H16 n1 (.lst [.int (-1)])) n2 (.lst ((List.replicate bs.length (-1 : Int)).map V.int))) n2 = some (.lst ((List.replicate bs.length (-1 : Int)).map V.int)) := upd_same
    generalize upd (upd H16 n1 (.lst [.int (-1)])) n2 (.lst ((List.replicate bs.length (-1 : Int)).map V.int)) = H17 at k1 l1 ⊢
    refine ⟨by show 2 ≤ sizeLine; decide, fun d3 hd3 => ?_⟩
    refine ⟨by show 2 ≤ sizeLine; decide, fun d4 hd4 => ?_⟩
    have i4 := due_pl (K := K) (a2 := d3) (n := (0 : Int)) (H := H17)
    have k2 := Ext.upd (o := .tup [.str "badplace", .int (0 : Int)]) hd3
    generalize upd H17 d3 (.tup [.str "badplace", .int (0 : Int)]) = H18 at i4 k2 hd4 ⊢
    have hnS : n2 ≠ S1 := fun z => by
      have z1 := (f8.trans k1) _ _ hS2
      rw [← z, l1] at z1
      have := Option.some.inj z1
      injection this with this
      exact absurd (congrArg List.head? this) (by
        cases hbl : bs.length with
        | zero => omega
        | succ k => exact fun z => by cases z)
    have it4 := mk_item (K := K) (D := S1) (bs := bs) (k2 _ _ l1) hnS i4 hd4 (ck_neg b1) (fun x hx => by rw [(List.mem_replicate.mp hx).2]; decide +kernel) (by rw [List.length_replicate]; omega)
    have f9 := (f8.trans (k1.trans k2)).trans (Ext.upd (o := .tup [.ref n2, .ref d3]) hd4)
    have it3 := it3.ext ((k1.trans k2).trans (Ext.upd (o := .tup [.ref n2, .ref d3]) hd4))
    generalize upd H18 d4 (.tup [.ref n2, .ref d3]) = H19 at it3 it4 f9 ⊢

    clear k1 k2 l1 hnS i4 hd3 hd4 hrep
    refine ⟨by show 2 ≤ sizeLine; decide, fun S2 hS2' => ?_⟩
    have k1 := Ext.upd (o := .lst [.ref d2, .ref d4]) hS2'
    have l1 : (upd H19 S2 (.lst [.ref d2, .ref d4])) S2 = some (.lst [.ref d2, .ref d4]) := upd_same
    generalize upd H19 S2 (.lst [.ref d2, .ref d4]) = H20 at k1 l1 ⊢
    refine ⟨S1, S2, _, _, rfl, rfl, SqL.of (k1 _ _ (f9 _ _ hS2)), SqL.of l1, by show 4 ≤ sizeLine; decide, fun S3 hS3 => ?_⟩
    have f10 := f9.trans (k1.trans (Ext.upd (o := .lst ([.ref a3, .ref a6] ++ [.ref d2, .ref d4])) hS3))
    have it3 := it3.ext (k1.trans (Ext.upd (o := .lst ([.ref a3, .ref a6] ++ [.ref d2, .ref d4])) hS3))
    have it4 := it4.ext (k1.trans (Ext.upd (o := .lst ([.ref a3, .ref a6] ++ [.ref d2, .ref d4])) hS3))
    have g3 : (upd H20 S3 (.lst ([.ref a3, .ref a6] ++ [.ref d2, .ref d4]))) S3 = some (.lst [.ref a3, .ref a6, .ref d2, .ref d4]) := upd_same
    generalize upd H20 S3 (.lst ([.ref a3, .ref a6] ++ [.ref d2, .ref d4])) = H21 at it3 it4 f10 g3 ⊢
    have its : ∀ (i : Nat) (y : V), ([V.ref a3, .ref a6, .ref d2, .ref d4] : List V)[i]? = some y → ItemOk K S1 bs H21 y := fun i y h => by
      match i, h with
      | 0, h => cases h; exact it1.ext f10
      | 1, h => cases h; exact it2.ext f10
      | 2, h => cases h; exact it3
      | 3, h => cases h; exact it4
      | i + 4, h => cases h
    have f11 := f6.trans f10
    have hu5 := hu4.ext f11
    have hs5 := hs4.ext f11
    have hT5 := hT4.ext f11
    have eD5 : DN p H H21 := eD4.trans (DN.of f11)
    have ok' := web_norm ok
    clear k1 l1 it1 it2 it3 it4 f6 f8 f9 f10 f11 hS2 hS2' hS3 hu4 hs4 hT4 eD4 hG4 hbl4 S1f hcut1 hcut2 lt ld
    simp only [List.set_cons_succ, List.set_cons_zero]
    refine ⟨_, rfl, S3, rfl, ⟨_, SqL.of g3⟩, for_list (K := K) (a := S3) (xs := [.ref a3, .ref a6, .ref d2, .ref d4]) (fun i σ H' => ExtN H21 H' ∧ Tabs TS H' ∧ ∃ v8 v9 v10 v11 v12 : Option V, σ = [some (.ref p), some (.ref t), some u, some (.ref bl), some (.int (m : Int)), some (.ref G), some (.int off), some (.ref S3), v8, v9, v10, v11, v12])
      ⟨fun _ _ h _ => h, hT5, none, none, none, none, none, rfl⟩ (fun i σ H' _ z => SqL.extN z.1 (SqL.of g3)) ?_ ?_⟩
    rotate_left
    · rintro σ H' ⟨e, hT', v8, v9, v10, v11, v12, rfl⟩
      exact k H' (eD5.trans (DN.ofN e)) (hs5.extN e) hT'
    rintro i y σ H1 hi ⟨e1, hT1, v8, v9, v10, v11, v12, rfl⟩
    obtain ⟨ti, na, vd, ns, r, rfl, hti, hna, _, iv, hck, hsm, hln⟩ := (its i y hi).extN e1
    obtain ⟨nn1, nn2⟩ := norm_one ns
    refine ⟨ti, _, rfl, SqT.of hti, rfl, _, _, rfl, _, _, rfl, rfl, ?_⟩
    simp only [List.set_cons_succ, List.set_cons_zero]
    refine ⟨_, rfl, fun x dx hx hdx hne => ?_⟩
    refine ⟨H1, x, dx, na, ns, 1, rfl, hx, hdx, hne, rfl, .inl (SqL.of hna), hln, by decide, fun z => absurd z (by decide), fun _ H2 e2 i2 => ⟨rfl, ?_⟩⟩
    rw [nn1, nn2] at i2
    have hhl : (hangL (n : Int) (normH hl)).length = bs.length := by rw [hang_norm]; exact ok.hang
    have s1 : ((1 : Int)).natAbs < 2 ^ 440 := by decide +kernel
    have hT2 := hT1.ext e2
    have o2 := (Is.extN e1 hu5).ext e2
    have v2 := iv.ext e2
    have e02 : ExtN H21 H2 := fun b o h z => e2 _ _ (e1 b o h z)
    simp only [List.set_cons_succ, List.set_cons_zero]
    clear hti hna hx hdx hne
    refine ⟨hT2, fun H3 e3 hT3 => ?_⟩
    refine ⟨_, rfl, _, rfl, u, .ref x, n, bs, normH hl, ns, 1, rfl, Is.extN e3 o2, Is.extN e3 i2, ok', hsm, s1, fun r' hr' d H4 e4 hd0 hd1 => ?_, fun z => (by rw [hck] at z; cases z), fun z => (by rw [hck] at z; cases z)⟩
    rw [hck] at hr'
    cases hr'
    refine refS_of (T := T) (r := r) hd1 fun w1 H5 e5 j1 => ?_
    have e25 : ExtN H2 H5 := fun b o h z => e5 _ _ (e4 _ _ (e3 b o h z))
    have hT5' := (hT3.ext e4).ext e5
    refine ⟨by show 1 ≤ sizeLine; decide, fun D hD => ?_⟩
    have hD6 : (upd H5 D (.lst [w1])) D = some (.lst [w1]) := upd_same
    have hT6 := hT5'.ext (Ext.upd (o := .lst [w1]) hD)
    have e26 : ExtN H2 (upd H5 D (.lst [w1])) := extN_mut' e25 hD e25
    have j6 := j1.ext (Ext.upd (o := .lst [w1]) hD)
    generalize upd H5 D (.lst [w1]) = H6 at hD6 hT6 e26 j6 ⊢
    simp only [List.set_cons_succ, List.set_cons_zero]
    clear e3 hT3 hd0 hd1 e4 e5 j1 hT5'
    refine ⟨_, rfl, .inl ⟨rfl, _, SqL.of hD6⟩, ?_⟩
    refine ⟨hT6, fun H7 e7 hT7 => ?_⟩
    refine ⟨_, rfl, _, rfl, u, .ref x, n, bs, normH hl, ns, 1, rfl, Is.extN (e26.trans' e7) o2, Is.extN (e26.trans' e7) i2, n10, b8, ok.bars, hhl, hsm, s1, fun r' hr' d H8 e8 hd0 hd1 => ?_, fun z => (by rw [hck] at z; cases z), fun z => (by rw [hck] at z; cases z)⟩
    rw [hck] at hr'
    cases hr'
    refine refS_of (T := T) (r := r) hd1 fun w2 H9 e9 j2 => ?_
    have e69 : ExtN H6 H9 := fun b o h z => e9 _ _ (e8 _ _ (e7 b o h z))
    have hT9 := (hT7.ext e8).ext e9
    have hD9 := e69 _ _ hD6 (fun _ z => by cases z)
    have j9 := Is.extN e69 j6
    refine ⟨D, _, _, rfl, rfl, hD9, by show 1 < sizeLine; decide, ?_⟩
    have hD10 : (upd H9 D (.lst ([w1] ++ [w2]))) D = some (.lst [w1, w2]) := upd_same
    have hT10 := tabs_upd (o := .lst ([w1] ++ [w2])) hT9 hD9
    have e210 : ExtN H2 (upd H9 D (.lst ([w1] ++ [w2]))) := extN_mut' e25 hD (e26.trans' e69)
    have j10 := j9.updL (o := .lst ([w1] ++ [w2])) (pf_noL r) hD9
    have k10 := j2.updL (o := .lst ([w1] ++ [w2])) (pf_noL r) hD9
    generalize upd H9 D (.lst ([w1] ++ [w2])) = H10 at hD10 hT10 e210 j10 k10 ⊢
    clear hd0 hd1 e7 e8 e9 e69 hT7 hT9 hD9 j9 j2 j6 hD6 hT6 e26
    refine ⟨_, rfl, .inl ⟨rfl, _, SqL.of hD10⟩, ?_⟩
    refine ⟨hT10, fun H11 e11 hT11 => ?_⟩
    refine ⟨_, rfl, _, rfl, u, .ref x, n, bs, normH hl, ns, 1, rfl, Is.extN (e210.trans' e11) o2, Is.extN (e210.trans' e11) i2, n10, b8, ok.bars, hhl, hsm, s1, fun r' hr' d H12 e12 hd0 hd1 => ?_, fun z => (by rw [hck] at z; cases z)⟩
    rw [hck] at hr'
    cases hr'
    refine refS_of (T := T) (r := r) hd1 fun w3 H13 e13 j3 => ?_
    have e1013 : ExtN H10 H13 := fun b o h z => e13 _ _ (e12 _ _ (e11 b o h z))
    have hT13 := (hT11.ext e12).ext e13
    have hD13 := e1013 _ _ hD10 (fun _ z => by cases z)
    refine ⟨D, _, _, rfl, rfl, hD13, by show 2 < sizeLine; decide, ?_⟩
    have hD14 : (upd H13 D (.lst ([w1, w2] ++ [w3]))) D = some (.lst [w1, w2, w3]) := upd_same
    have hT14 := tabs_upd (o := .lst ([w1, w2] ++ [w3])) hT13 hD13
    have e214 : ExtN H2 (upd H13 D (.lst ([w1, w2] ++ [w3]))) := extN_mut' e25 hD (e210.trans' e1013)
    have j14 := (Is.extN e1013 j10).updL (o := .lst ([w1, w2] ++ [w3])) (pf_noL r) hD13
    have k14 := (Is.extN e1013 k10).updL (o := .lst ([w1, w2] ++ [w3])) (pf_noL r) hD13
    have l14 := j3.updL (o := .lst ([w1, w2] ++ [w3])) (pf_noL r) hD13
    generalize upd H13 D (.lst ([w1, w2] ++ [w3])) = H14 at hD14 hT14 e214 j14 k14 l14 ⊢
    clear hd0 hd1 e11 e12 e13 e1013 hT11 hT13 hD13 j10 k10 j3 e210 hD10 hT10
    -- said_here != [due] * 3
    refine ⟨_, rfl, _, rfl, by show 1 ≤ sizeLine; decide, fun m1 hm1 => ?_⟩
    refine ⟨m1, 3, _, rfl, rfl, upd_same, by decide, by decide, by show 1 * 3 ≤ sizeLine; decide, fun m2 hm2 => ?_⟩
    have e1 : Ext H14 (upd (upd H14 m1 (.lst [vd])) m2 (.lst [vd, vd, vd])) := (Ext.upd hm1).trans (Ext.upd hm2)
    have v14 := (Is.extN e214 v2).ext e1
    have hdq : deq (.lst [r.d, r.d, r.d]) (.lst [r.d, r.d, r.d]) = true := by cases r <;> simp [Pf.d, deq, deqL]
    refine ⟨.lst [r.d, r.d, r.d], .lst [r.d, r.d, r.d], ⟨D, _, rfl, SqL.of (e1 _ _ hD14), _, _, rfl, j14.ext e1, _, _, rfl, k14.ext e1, _, _, rfl, l14.ext e1, rfl⟩, ⟨m2, [vd, vd, vd], rfl, SqL.of upd_same, _, _, rfl, v14, _, _, rfl, v14, _, _, rfl, v14, rfl⟩, okD_pure (by cases r <;> rfl), okD_pure (by cases r <;> rfl), by cases r <;> simp [Pf.d, dep, depL], .inl rfl, fun H15 e15 => ?_⟩
    rw [hdq]
    refine ⟨false, rfl, iteF ?_⟩
    exact ⟨fun b o h z => e15 _ _ (e1 _ _ (e214 _ _ (e02 b o h z) z)), (hT14.ext e1).ext e15, _, _, _, _, _, rfl⟩
end
end K22
namespace K22
open PySem PySem.Spec PyProof.Rows L2 LamX NdefX RZ
/-- all but the well p and the tables stay -/
def KX (p : Addr) (H H' : Hp) : Prop := ExtN (del H p) (del H' p)
theorem KX.refl {p : Addr} {H : Hp} : KX p H H := fun _ _ h _ => h
theorem KX.trans {p : Addr} {H H1 H2 : Hp} (a : KX p H H1) (b : KX p H1 H2) : KX p H H2 := fun c o h n => b c o (a c o h n) n
theorem KX.de {p : Addr} {H H' : Hp} (e : DE p H H') : KX p H H' := fun b o h _ => e b o h
theorem KX.ext {p : Addr} {H H' : Hp} (e : Ext H H') : KX p H H' := KX.de (DE.of e)
theorem KX.n {p : Addr} {H H' : Hp} (e : ExtN H H') : KX p H H' := fun b o h z => by
  have h1 : b ≠ p := fun q => by rw [q, del_same] at h; cases h
  rw [del_ne h1] at h ⊢
  exact e _ _ h z
section
variable {P : Program} {w : World} {K : PySem.W.Frag} {mg : Str → Option Value} {base : Heap}
theorem cut_mem {xs : List V} {lo hi : Option Int} {i : Nat} {y : V} (h : (cutV xs lo hi)[i]? = some y) : y ∈ xs :=
  List.mem_of_mem_drop (List.mem_of_mem_take (List.mem_of_getElem? h))
end
section
variable {P : Program} {w : World} {K : PySem.W.Frag} {mg : Str → Option Value} {base : Heap}
theorem wbNoL {C CB : Addr} {n : Int} {bs : List BarD} {hl : List (Int × Int)} : noL (wbD C CB n bs hl) = true := by
  have h1 : ∀ l : List BarD, noLL (l.map (brD CB)) = true := fun l => by
    induction l with
    | nil => rfl
    | cons b l ih => exact ih
  have h2 : ∀ l : List (Int × Int), noLL (l.map fun p => Dt.int p.2) = true := fun l => by
    induction l with
    | nil => rfl
    | cons b l ih => exact ih
  show (true && (noLL (bs.map (brD CB)) && (noLL (hl.map fun p => Dt.int p.2) && true))) = true
  rw [h1, h2]
  rfl
end
theorem KX.dn {p : Addr} {H H' : Hp} (e : DN p H H') : KX p H H' := fun b o h z => by
  have h1 : b ≠ p := fun q => by rw [q, del_same] at h; cases h
  rw [del_ne h1] at h ⊢
  exact e _ _ h1 h z
section
variable {K : PySem.W.Frag} {mg : Str → Option Value}
/-- what is known of a web of the law and of hooks on it -/
structure StW (T : Tx K mg) (TS : List (Addr × Str)) (p q2 na : Addr) (t u pl : V) (n : Nat) (hl : List (Int × Int)) (bs : List BarD) (ms : List Int) (q : Int) (XS : List V) (H : Hp) : Prop where
  st : StAt H p
  w : Is K (del H p) (whD (n : Int) hl bs) t
  o : Is K (del H p) (wbD T.C_Web T.C_Bar (n : Int) bs (normH hl)) u
  pl : Is K (del H p) (plD T.C_Places (normN ms q) (normP ms q)) pl
  nm : SqL K (del H p) na (ms.map V.int)
  tb : Tabs TS H
  q : del H p q2 = some (.lst XS)
variable {T : Tx K mg} {TS : List (Addr × Str)} {p q2 na : Addr} {t u pl : V} {n : Nat} {hl : List (Int × Int)} {bs : List BarD} {ms : List Int} {q : Int} {XS : List V} {H H' : Hp}
theorem StW.kx (S : StW T TS p q2 na t u pl n hl bs ms q XS H) (e : KX p H H') (s : StAt H' p) (tb : Tabs TS H') : StW T TS p q2 na t u pl n hl bs ms q XS H' :=
  ⟨s, Is.extN e S.w, Is.extN e S.o, Is.extN e S.pl, SqL.extN e S.nm, tb, e _ _ S.q (fun _ z => by cases z)⟩
theorem StW.ext (S : StW T TS p q2 na t u pl n hl bs ms q XS H) (e : Ext H H') : StW T TS p q2 na t u pl n hl bs ms q XS H' := S.kx (KX.ext e) (S.st.ext e) (S.tb.ext e)
theorem StW.lam (S : StW T TS p q2 na t u pl n hl bs ms q XS H) (e : ExtN H H') (tb : Tabs TS H') : StW T TS p q2 na t u pl n hl bs ms q XS H' := S.kx (KX.n e) (S.st.extN e) tb
end
theorem tup_deq {ds es : List Int} : deq (.tup (ds.map Dt.int)) (.tup (es.map Dt.int)) = decide (ds = es) := by
  show deqL (ds.map Dt.int) (es.map Dt.int) = _
  rw [deqL_ints]
section
variable {P : Program} {w : World} {K : PySem.W.Frag} {mg : Str → Option Value} {base : Heap}
def qL : Str := "law.<locals>.<lambda>"
def spLaw (K : PySem.W.Frag) (P0 P1 : Addr) : Sp := fun vs H Q _ => ∃ (a : Addr) (ns : List Int), vs = [.ref a] ∧ SqL K H a (ns.map V.int) ∧ ns.length ≤ 63 ∧ H P0 = some (.tbl #[]) ∧ H P1 = some (.tbl #[]) ∧ ∀ H', Q (.bl true) H'
theorem ok_law (T : Tx K mg) {c0 P0 c1 P1 : Addr} (TB0 : TabB base mg c0 P0) (TB1 : TabB base mg c1 P1) (hcd0 : T.fd_law.code = .ref c0) (hcd1 : T.fd_l_odd_right.code = .ref c1) (hne : P0 ≠ P1) :
    FnOk P w K mg base (L2.CX P w) 60 T.a_law T.fd_law ["_law_script"] (spLaw K P0 P1) := by
  obtain ⟨ocR, odR, kVR, docR, pmR, anR, cdR, ctR, oslR, hfR, lkR, hcR⟩ := T.F_l_said.ex
  rw [hfR] at lkR
  have hbR := T.b_l_said
  rw [hfR] at hbR
  have hmT0 : (P0, qL) ∈ [(P0, qL), (P1, qO)] := List.mem_cons_self
  have hmT1 : (P1, qO) ∈ [(P0, qL), (P1, qO)] := List.mem_cons_of_mem _ List.mem_cons_self
  have huT0 : ∀ p ∈ [(P0, qL), (P1, qO)], p.1 = P0 → p.2 = qL := fun p hp e => by
    simp only [List.mem_cons, List.not_mem_nil, or_false] at hp
    rcases hp with rfl | rfl
    · rfl
    · exact absurd e.symm hne
  have huT1 : ∀ p ∈ [(P0, qL), (P1, qO)], p.1 = P1 → p.2 = qO := fun p hp e => by
    simp only [List.mem_cons, List.not_mem_nil, or_false] at hp
    rcases hp with rfl | rfl
    · exact absurd e hne
    · rfl
  refine T.F_law.okXc sc_law (fun vs H Q E h => ?_) (fun A outer s H vs Q E hr h => ?_)
  · obtain ⟨a, ns, rfl, _⟩ := h
    rfl
  · obtain ⟨a, ns, rfl, hs, hn, hP0, hP1, k⟩ := h
    refine ⟨_, (pss_cons (ps_for (passes_of rfl) rfl (pi_list (pe_slice sl_list (pe_op op_catL (pv 0) (pe_lst (pa_cons pe_int pa_nil))) po_none (po_some pe_int))) (pg_name (i := 1) sc_law.nd rfl (Or.inl rfl)) (pss_cons (ps_set (i := 2) sc_law.nd rfl (Or.inl rfl) (pe_call (ok_l_state T) (hr.mono (by decide)) rfl T.m_l_state T.F_l_state.kp T.b_l_state .nil passL (pa_cons (pv 1) pa_nil)))
      (pss_cons (ps_set (i := 3) sc_law.nd rfl (Or.inl rfl) (pe_call (ok_l_web T) (hr.mono (by decide)) rfl T.m_l_web T.F_l_web.kp T.b_l_web .nil passL (pa_cons (pv 2) (pa_cons (pe_op op_add pe_int (pe_call (ok_l_digit T) (hr.mono (by decide)) rfl T.m_l_digit T.F_l_digit.kp T.b_l_digit .nil passL (pa_cons (pv 2) (pa_cons pe_int pa_nil)))) (pa_cons pe_int pa_nil)))))
      (pss_cons (ps_set (i := 4) sc_law.nd rfl (Or.inr rfl) (pe_call (ok_l_made T) (hr.mono (by decide)) rfl T.m_l_made T.F_l_made.kp T.b_l_made .nil passL (pa_cons (pv 3) pa_nil)))
      (pss_cons (ps_set (i := 5) sc_law.nd rfl (Or.inl rfl) (pe_op op_add pe_int (pe_call (ok_l_digit T) (hr.mono (by decide)) rfl T.m_l_digit T.F_l_digit.kp T.b_l_digit .nil passL (pa_cons (pv 2) (pa_cons pe_int pa_nil)))))
      (pss_cons (ps_set (i := 6) sc_law.nd rfl (Or.inl rfl) (pe_call (ok_l_anywhere T) (hr.mono (by decide)) rfl T.m_l_anywhere T.F_l_anywhere.kp T.b_l_anywhere .nil passL (pa_cons (pv 2) (pa_cons (pe_ix ix_tup (pv 3) pe_int (fun _ _ => rfl)) (pa_cons (pv 5) pa_nil)))))
      (pss_cons (ps_set (i := 7) sc_law.nd rfl (Or.inr rfl) (pe_make T.k_Places (ok_Places_init T) (hr.mono (by decide)) rfl T.m_Places T.b_Places_init .nil passL (pa_cons (pv 6) (pa_cons (pv 5) pa_nil))))
      (pss_cons (ps_set (i := 8) sc_law.nd rfl (Or.inl rfl) (pe_lamcall (T := [(P0, qL), (P1, qO)]) (TT := TTsaid K T.C_Loose T.C_NotLoose T.C_BadCount T.C_BadPlace) (t := fun E => tCall (spStand K T) [] E (tCons (tVar 4) (tCons (tVar 7) tNil))) (k := 24) rfl T.m_l_said T.F_l_said.kp lkR hcR hbR sc_l_said rfl (Or.inl rfl) (said_gives (K := K) (mg := mg) rfl rfl T) TB0 hcd0 hmT0 huT0 (hr.mono (by decide)) (lamS_by (by rfl)) rfl (fun _ _ _ _ _ => rfl) (fun A outer s H E f c hr2 => pe_call (ok_stand T) (hr2.mono (by decide)) rfl T.m_stand T.F_stand.kp T.b_stand .nil (passes_call (takes_of rfl rfl rfl rfl) (fun _ _ _ _ h => h)) (pa_cons (pv 4) (pa_cons (pv 7) pa_nil)))))
      (pss_cons (ps_set (i := 9) sc_law.nd rfl (Or.inl rfl) (pe_lamcall (T := [(P0, qL), (P1, qO)]) (TT := TTsaid K T.C_Loose T.C_NotLoose T.C_BadCount T.C_BadPlace) (t := fun E => tCall (spMove K T) [] E (tCons (tVar 4) (tCons (tVar 7) tNil))) (k := 24) rfl T.m_l_said T.F_l_said.kp lkR hcR hbR sc_l_said rfl (Or.inl rfl) (said_gives (K := K) (mg := mg) rfl rfl T) TB0 hcd0 hmT0 huT0 (hr.mono (by decide)) (lamS_by (by rfl)) rfl (fun _ _ _ _ _ => rfl) (fun A outer s H E f c hr2 => pe_call (ok_move T) (hr2.mono (by decide)) rfl T.m_move T.F_move.kp T.b_move .nil (passes_call (takes_of rfl rfl rfl rfl) (fun _ _ _ _ h => h)) (pa_cons (pv 4) (pa_cons (pv 7) pa_nil)))))
      (pss_cons (ps_if (pt_cmpR op_ne (pe_call (ok_determinant T) (hr.mono (by decide)) rfl T.m_determinant T.F_determinant.kp T.b_determinant .nil passL (pa_cons (pv 4) (pa_cons (pv 7) pa_nil))) pe_int (nomark _)) (pss_one (ps_if (PW.pt (pw_or (pt_cmpR (op_neO pureTab pureNe hr (by decide)) (pv 9) (pe_tup (pa_cons pe_str (pa_cons pe_non pa_nil))) (nomark _)) (pw_or1 (pt_not (pt_val (pe_call (ok_l_stand_right T) (hr.mono (by decide)) rfl T.m_l_stand_right T.F_l_stand_right.kp T.b_l_stand_right .nil passL (pa_cons (pv 3) (pa_cons (pv 6) (pa_cons (pv 5) (pa_cons (pe_ix ix_tup (pv 8) pe_int (fun _ _ => rfl)) pa_nil)))))))))) pss_never pss_nil)) (pss_one (ps_if (PW.pt (pw_or (pt_cmpR (op_neO pureTab pureNe hr (by decide)) (pv 8) (pe_tup (pa_cons pe_str (pa_cons pe_non pa_nil))) (nomark _)) (pw_or1 (pt_not (pt_val (pe_call (ok_l_move_right T) (hr.mono (by decide)) rfl T.m_l_move_right T.F_l_move_right.kp T.b_l_move_right .nil passL (pa_cons (pv 3) (pa_cons (pv 6) (pa_cons (pv 5) (pa_cons (pe_ix ix_tup (pv 9) pe_int (fun _ _ => rfl)) pa_nil)))))))))) pss_never (pss_one (ps_if (pt_cmpR (op_neO pureTab pureNe hr (by decide)) (pe_call (ok_move T) (hr.mono (by decide)) rfl T.m_move T.F_move.kp T.b_move .nil passL (pa_cons (pv 4) (pa_cons (pv 7) pa_nil))) (pe_ix ix_tup (pv 9) pe_int (fun _ _ => rfl)) (nomark _)) pss_never pss_nil)))))
      (pss_one (ps_if (pt_not (pt_val (pe_call (ok_l_odd_right T TB1 hcd1 hmT1 huT1) (hr.mono (by decide)) rfl T.m_l_odd_right T.F_l_odd_right.kp T.b_l_odd_right .nil passL (pa_cons (pv 2) (pa_cons (pv 3) (pa_cons (pv 4) pa_nil)))))) pss_never pss_nil))))))))))))
      (pss_one (ps_ret pe_bl))), ?_⟩
    refine ⟨_, rfl, by show 1 ≤ sizeLine; decide, fun q0 h0 => ?_⟩
    refine ⟨_, _, _, _, rfl, rfl, hs.ext (Ext.upd h0), SqL.of upd_same, by rw [List.length_map]; exact Nat.le_trans (show ns.length + 1 ≤ 100 by omega) (by decide), fun q1 h1 => ?_⟩
    refine ⟨6, rfl, _, _, rfl, SqL.of upd_same, fun q2 h2 => ?_⟩
    have hTa : Tabs [(P0, qL), (P1, qO)] H := fun p hp => by
      simp only [List.mem_cons, List.not_mem_nil, or_false] at hp
      rcases hp with rfl | rfl
      · exact TabS.nil hP0
      · exact TabS.nil hP1
    have hx : ∀ (i : Nat) (y : V), (cutV (ns.map V.int ++ [.int 0]) none (some 6))[i]? = some y → ∃ x, y = V.int x := fun i y h => by
      rcases List.mem_append.mp (cut_mem h) with h | h
      · obtain ⟨n, _, rfl⟩ := List.mem_map.mp h
        exact ⟨n, rfl⟩
      · exact ⟨0, List.mem_singleton.mp h⟩
    have hT0 := ((hTa.ext (Ext.upd (o := .lst [.int 0]) h0)).ext (Ext.upd (o := .lst (ns.map V.int ++ [.int 0])) h1)).ext (Ext.upd (o := .lst (cutV (ns.map V.int ++ [.int 0]) none (some 6))) h2)
    generalize hXS : cutV (ns.map V.int ++ [.int 0]) none (some 6) = XS at hx hT0 ⊢
    have hq0 : (upd (upd (upd H q0 (.lst [.int 0])) q1 (.lst (ns.map V.int ++ [.int 0]))) q2 (.lst XS)) q2 = some (.lst XS) := upd_same
    generalize upd (upd (upd H q0 (.lst [.int 0])) q1 (.lst (ns.map V.int ++ [.int 0]))) q2 (.lst XS) = H0 at hq0 hT0 ⊢
    refine ⟨q2, rfl, ⟨_, SqL.of hq0⟩, for_list (K := K) (a := q2) (xs := XS) (fun i σ H' => H' q2 = some (.lst XS) ∧ Tabs [(P0, qL), (P1, qO)] H' ∧ ∃ v1 v2 v3 v4 v5 v6 v7 v8 v9 : Option V, σ = [some (.ref a), v1, v2, v3, v4, v5, v6, v7, v8, v9])
      ⟨hq0, hT0, none, none, none, none, none, none, none, none, none, rfl⟩ (fun i σ H' _ p => SqL.of p.1) ?_ ?_⟩
    rotate_left
    · rintro σ H' ⟨_, _, v1, v2, v3, v4, v5, v6, v7, v8, v9, rfl⟩
      exact k H'
    clear hq0 hT0
    rintro i y0 σ H1 hi ⟨hq1, hT1, v1, v2, v3, v4, v5, v6, v7, v8, v9, rfl⟩
    obtain ⟨c, rfl⟩ := hx i y0 hi
    clear hi
    refine ⟨_, rfl, c, rfl, fun p H2 hp e2 hs2 => ?_⟩
    have hqp : q2 ≠ p := fun z => by rw [← z, hq1] at hp; cases hp
    have hT2 := hT1.ext e2
    have hq2' := e2 _ _ hq1
    refine ⟨_, rfl, _, rfl, p, _, rfl, hs2, by decide, by decide, fun r1 H4 e4 hs4 r10 r11 => ?_⟩
    refine ⟨_, _, rfl, rfl, ?_⟩
    refine ⟨p, (1 + r1).toNat, 9, by rw [show (((1 + r1).toNat : Nat) : Int) = 1 + r1 by omega]; rfl, hs4, by omega, by omega, by decide, by decide, fun v n hl bs H5 e5 hs5 iw ok hbl hlen _ => ?_⟩
    have e35 : DE p H2 H5 := e4.trans e5
    have hq5 := e35.to hq2' hqp
    have hT5 : Tabs [(P0, qL), (P1, qO)] H5 := by
      obtain ⟨za, zb, zc, hz, _⟩ := id hs2
      exact tabs_de hT2 hz e35
    have h8 := ok.b8
    have n10 : n ≤ 10 := by have := ok.n10; omega
    clear e2 hs2 hT2 hq2' e4 hs4 e5 e35 hT1 hq1 hp
    refine ⟨_, rfl, v, (n : Int), hl, bs, rfl, iw.ext del_ext, ok, fun u H6 e6 iu => ?_⟩
    have iw6 := iw.ext (DE.of (w := p) e6)
    have hs6 := hs5.ext e6
    have hq6 := e6 _ _ hq5
    have hT6 := hT5.ext e6
    clear iw hs5 hq5 hT5 e6
    obtain ⟨t, hd, bl, ws, rfl, ht6, hhd6, hbl6, hbs6⟩ := wh_of iw6
    obtain ⟨sl, sh6⟩ : ∃ l, H6 p = some (.lst l) := by obtain ⟨za, zb, zc, hz, _⟩ := id hs6; exact ⟨_, hz⟩
    have io6 : Is K (del H6 p) (wbD T.C_Web T.C_Bar (n : Int) bs (normH hl)) u := Is.delL iu wbNoL sh6
    simp only [List.set_cons_succ, List.set_cons_zero]
    refine ⟨_, rfl, p, _, rfl, hs6, by decide, by decide, fun r2 H7 e7 hs7 r20 r21 => ?_⟩
    refine ⟨_, _, rfl, rfl, ?_⟩
    obtain ⟨q, hqe, q1, q2'⟩ : ∃ q : Int, 1 + r2 = q ∧ 1 ≤ q ∧ q ≤ 6 := ⟨_, rfl, by omega, by omega⟩
    dsimp only
    rw [hqe]
    simp only [List.set_cons_succ, List.set_cons_zero]
    refine ⟨_, rfl, _, rfl, t, _, 2, _, rfl, rfl, (ht6.ext e7).ext del_ext, atI_nat (j := 2) rfl, _, rfl, p, bl, ws, bs, q, rfl, hs7, hbl6.ext e7, hbs6.ext e7, q1, by omega, h8, fun b hb => ⟨(ok.bars b hb).l0, (ok.bars b hb).l1⟩, fun na ms H8 hnp e8 hs8 hna8 hany => ?_⟩
    obtain ⟨sm0, sm1, sm2, sm3⟩ := any_small q1 (show q ≤ 100 by omega) (fun b hb => ⟨(ok.bars b hb).l0, (ok.bars b hb).l1⟩) hany
    have hck := any_ck q1 hany
    refine ⟨_, rfl, _, rfl, fun x dx hx hdx hne => ?_⟩
    refine ⟨H8, x, dx, na, ms, q, rfl, hx, hdx, hne, rfl, .inl (SqL.of hna8), by have := hany.1; omega, Nat.lt_of_lt_of_le sm2 (Nat.pow_le_pow_right (by decide) (by decide)), fun z => by omega, fun _ H9 e9 i9 => ⟨rfl, ?_⟩⟩
    have e69 : DE p H6 H9 := (e7.trans e8).trans (DE.of e9)
    have hs9 := hs8.ext e9
    have plNoL : noL (plD T.C_Places (normN ms q) (normP ms q)) = true := by
      show (noLL ((normN ms q).map Dt.int) && (true && true)) = true
      rw [noL_ints]
      rfl
    obtain ⟨sl9, sh9⟩ : ∃ l, H9 p = some (.lst l) := by obtain ⟨za, zb, zc, hz, _⟩ := id hs9; exact ⟨_, hz⟩
    have S9 : StW T [(P0, qL), (P1, qO)] p q2 na (.ref t) u (.ref x) n hl bs ms q XS H9 := ⟨hs9, iw6.ext e69, io6.ext e69, Is.delL i9 plNoL sh9, SqL.of (by rw [del_ne hnp]; exact e9 _ _ hna8), tabs_de hT6 sh6 e69, by rw [del_ne hqp]; exact e69.to hq6 hqp⟩
    clear iw6 io6 i9 hs9 hs6 hT6 hq6 e69 e9 hx hdx hne e8 hs8 hna8 e7 hs7 ht6 hhd6 hbl6 hbs6 iu sh6 sh9
    simp only [List.set_cons_succ, List.set_cons_zero]
    have ok' := web_norm ok
    have hhl : (hangL (n : Int) (normH hl)).length = bs.length := by rw [hang_norm]; exact ok.hang
    have hnl := hany.1
    have hnl' : (normN ms q).length = bs.length := by rw [len_norm]; exact hnl
    -- stood
    refine ⟨S9.tb, fun H10 e10 hT10 => ?_⟩
    have S10 := S9.lam e10 hT10
    clear S9 e10 hT10
    refine ⟨_, rfl, _, rfl, u, .ref x, n, bs, normH hl, normN ms q, normP ms q, rfl, S10.o.ext del_ext, S10.pl.ext del_ext, ok', sm1, sm3, fun r hr => (by rw [hck] at hr; cases hr), fun _ hz H11 e11 => ?_, fun _ hdet y H11 e11 iy => ?_⟩
    · -- loose
      refine .inl ⟨rfl, rfl, fun sd H12 e12 isd => ?_⟩
      have S12 := (S10.ext e11).ext e12
      clear S10 e11 e12
      obtain ⟨M, hM, mo⟩ := mv_ok ok.bars h8 hnl' hhl sm1 sm3 hz
      have mo1 := mvOk_un ok.bars mo
      have dsl : dep (.tup [.str "loose", .non]) ≤ 8 := by decide
      simp only [List.set_cons_succ, List.set_cons_zero]
      refine ⟨S12.tb, fun H13 e13 hT13 => ?_⟩
      have S13 := S12.lam e13 hT13
      have isd := Is.extN e13 isd
      clear S12 e13 hT13
      refine ⟨_, rfl, _, rfl, u, .ref x, n, bs, normH hl, normN ms q, normP ms q, rfl, S13.o.ext del_ext, S13.pl.ext del_ext, n10, h8, ok.bars, hhl, sm1, sm3, fun r hr => (by rw [hck] at hr; cases hr), fun _ hn => (by rw [hM] at hn; cases hn), fun _ M' hM' w2 H14 e14 im => ?_⟩
      rw [hM] at hM'
      cases hM'
      obtain ⟨tm, xs, rfl, htm, ixs⟩ := im
      obtain rfl := of_isL_ints ixs
      clear ixs
      refine ⟨by show 2 ≤ sizeLine; decide, fun p2 hp2 => ⟨_, rfl, ?_⟩⟩
      have e15 := e14.trans (Ext.upd (o := .tup [.str "told", .ref tm]) hp2)
      have hp5 : (upd H14 p2 (.tup [.str "told", .ref tm])) p2 = some (.tup [.str "told", .ref tm]) := upd_same
      have htm5 := htm.ext (Ext.upd (o := .tup [.str "told", .ref tm]) hp2)
      generalize upd H14 p2 (.tup [.str "told", .ref tm]) = H15 at e15 hp5 htm5 ⊢
      have S15 := S13.ext e15
      have isd := isd.ext e15
      clear S13 e14 e15 hp2 htm
      simp only [List.set_cons_succ, List.set_cons_zero]
      refine ⟨_, rfl, _, rfl, u, .ref x, n, bs, normH hl, normN ms q, normP ms q, rfl, S15.o.ext del_ext, S15.pl.ext del_ext, n10, h8, ok.bars, hhl, sm1, sm3, fun r hr => (by rw [hck] at hr; cases hr), fun _ H16 e16 => ?_⟩
      rw [hz]
      refine ⟨rfl, _, rfl, ite2 (fun z => absurd z (by simp)) fun _ => ?_⟩
      have S16 := S15.ext e16
      have isd := isd.ext e16
      have hp6 := e16 _ _ hp5
      have htm6 := htm5.ext e16
      clear S15 e16 hp5 htm5
      refine ⟨_, rfl, by show 2 ≤ sizeLine; decide, fun z1 hz1 => ?_⟩
      refine ⟨.tup [.str "loose", .non], .tup [.str "loose", .non], isd.ext (Ext.upd hz1), ⟨z1, _, rfl, SqT.of upd_same, _, _, rfl, rfl, _, _, rfl, rfl, rfl⟩, okD_pure rfl, okD_pure rfl, dsl, .inl rfl, fun H17 e17 => ?_⟩
      have e67 := (Ext.upd hz1).trans e17
      rw [show deq (.tup [.str "loose", .non]) (.tup [.str "loose", .non]) = true by simp [deq, deqL]]
      refine ⟨false, rfl, iteF ?_⟩
      have S17 := S16.ext e67
      have hp7 := e67 _ _ hp6
      have htm7 := htm6.ext e67
      clear S16 e17 e67 hp6 htm6 hz1
      refine ⟨_, rfl, _, rfl, _, rfl, _, rfl, p2, _, 1, _, rfl, rfl, SqT.of hp7, rfl, ?_⟩
      refine ⟨.ref t, na, tm, n, hl, bs, ms, mvD M, q, rfl, S17.w.ext del_ext, S17.nm.ext del_ext, htm7, ok, hnl, sm0, sm2, mo1, fun H18 e18 => ?_⟩
      refine ⟨true, rfl, iteF ?_⟩
      have S18 := S17.ext e18
      have hp8 := e18 _ _ hp7
      have htm8 := htm7.ext e18
      clear S17 e18 hp7 htm7
      refine ⟨_, rfl, _, rfl, u, .ref x, n, bs, normH hl, normN ms q, normP ms q, rfl, S18.o.ext del_ext, S18.pl.ext del_ext, n10, h8, ok.bars, hhl, sm1, sm3, fun r hr => (by rw [hck] at hr; cases hr), fun _ hn => (by rw [hM] at hn; cases hn), fun _ M' hM' w3 H19 e19 im => ?_⟩
      rw [hM] at hM'
      cases hM'
      have S19 := S18.ext e19
      have hp9 := e19 _ _ hp8
      have htm9 := htm8.ext e19
      clear S18 e19 hp8 htm8
      refine ⟨_, rfl, p2, _, 1, _, rfl, rfl, SqT.of hp9, rfl, ?_⟩
      refine ⟨.tup ((mvD M).map Dt.int), .tup ((mvD M).map Dt.int), im, ⟨tm, _, rfl, htm9, isL_ints _⟩, okL_pure (pureL_ints _), okL_pure (pureL_ints _), ints_dep, .inl rfl, fun H20 e20 => ?_⟩
      rw [tup_deq, decide_eq_true rfl]
      refine ⟨false, rfl, iteF ?_⟩
      have S20 := S19.ext e20
      clear S19 e20 im hp9 htm9 isd
      refine ⟨_, rfl, _, rfl, _, rfl, p, .ref t, u, n, hl, bs, rfl, S20.st, S20.w, S20.o, ok, S20.tb, fun H21 e21 hs21 hT21 => ?_⟩
      refine ⟨true, rfl, iteF ?_⟩
      have S21 := S20.kx (KX.dn e21) hs21 hT21
      exact ⟨by have := S21.q; rw [del_ne hqp] at this; exact this, S21.tb, _, _, _, _, _, _, _, _, _, rfl⟩
    · -- a stand
      have so := st_f ok ok' hnl sm1 sm3 hdet
      have S11 := S10.ext e11
      clear S10 e11
      refine ⟨by show 2 ≤ sizeLine; decide, fun p1 hp1 => ⟨_, rfl, ?_⟩⟩
      have S12 := S11.ext (Ext.upd (o := .tup [.str "told", y]) hp1)
      have iy := iy.ext (Ext.upd (o := .tup [.str "told", y]) hp1)
      have hp2 : (upd H11 p1 (.tup [.str "told", y])) p1 = some (.tup [.str "told", y]) := upd_same
      generalize upd H11 p1 (.tup [.str "told", y]) = H12 at S12 iy hp2 ⊢
      clear S11 hp1
      have hnone := mv_none hnl' hhl hdet
      have dsl : dep (.tup [.str "notloose", .non]) ≤ 8 := by decide
      simp only [List.set_cons_succ, List.set_cons_zero]
      refine ⟨S12.tb, fun H13 e13 hT13 => ?_⟩
      have S13 := S12.lam e13 hT13
      have iy := Is.extN e13 iy
      have hp3 := e13 _ _ hp2 (fun _ z => by cases z)
      clear S12 e13 hT13 hp2
      refine ⟨_, rfl, _, rfl, u, .ref x, n, bs, normH hl, normN ms q, normP ms q, rfl, S13.o.ext del_ext, S13.pl.ext del_ext, n10, h8, ok.bars, hhl, sm1, sm3, fun r hr => (by rw [hck] at hr; cases hr), fun _ hn H14 e14 => ?_, fun _ M' hM' => (by rw [hnone] at hM'; cases hM')⟩
      refine .inr (.inl ⟨rfl, rfl, fun mv H15 e15 imv => ?_⟩)
      have e35 := e14.trans e15
      have S15 := S13.ext e35
      have iy := iy.ext e35
      have hp5 := e35 _ _ hp3
      clear S13 e35 e14 e15 hp3
      simp only [List.set_cons_succ, List.set_cons_zero]
      refine ⟨_, rfl, _, rfl, u, .ref x, n, bs, normH hl, normN ms q, normP ms q, rfl, S15.o.ext del_ext, S15.pl.ext del_ext, n10, h8, ok.bars, hhl, sm1, sm3, fun r hr => (by rw [hck] at hr; cases hr), fun _ H16 e16 => ?_⟩
      refine ⟨rfl, _, rfl, ite2 (fun _ => ?_) fun z => absurd (show (!decide (V.int _ = V.int 0)) = true by rw [decide_eq_false (fun w => hdet (V.int.inj w))]; rfl) z⟩
      have S16 := S15.ext e16
      have imv := imv.ext e16
      have iy := iy.ext e16
      have hp6 := e16 _ _ hp5
      clear S15 e16 hp5
      refine ⟨_, rfl, by show 2 ≤ sizeLine; decide, fun z1 hz1 => ?_⟩
      refine ⟨.tup [.str "notloose", .non], .tup [.str "notloose", .non], imv.ext (Ext.upd hz1), ⟨z1, _, rfl, SqT.of upd_same, _, _, rfl, rfl, _, _, rfl, rfl, rfl⟩, okD_pure rfl, okD_pure rfl, dsl, .inl rfl, fun H17 e17 => ?_⟩
      have e67 := (Ext.upd hz1).trans e17
      rw [show deq (.tup [.str "notloose", .non]) (.tup [.str "notloose", .non]) = true by simp [deq, deqL]]
      refine ⟨false, rfl, iteF ?_⟩
      have S17 := S16.ext e67
      have iy := iy.ext e67
      have hp7 := e67 _ _ hp6
      clear S16 e17 e67 hp6 hz1 imv
      refine ⟨_, rfl, _, rfl, _, rfl, _, rfl, p1, _, 1, _, rfl, rfl, SqT.of hp7, rfl, ?_⟩
      refine ⟨.ref t, y, na, n, hl, bs, ms, _, q, _, rfl, S17.w.ext del_ext, S17.nm.ext del_ext, iy, ok, hnl, sm0, sm2, so, fun H18 e18 => ?_⟩
      refine ⟨true, rfl, iteF ?_⟩
      have S18 := S17.ext e18
      clear S17 e18 hp7 iy
      refine ⟨_, rfl, _, rfl, _, rfl, p, .ref t, u, n, hl, bs, rfl, S18.st, S18.w, S18.o, ok, S18.tb, fun H21 e21 hs21 hT21 => ?_⟩
      refine ⟨true, rfl, iteF ?_⟩
      have S21 := S18.kx (KX.dn e21) hs21 hT21
      exact ⟨by have := S21.q; rw [del_ne hqp] at this; exact this, S21.tb, _, _, _, _, _, _, _, _, _, rfl⟩
end
end K22
namespace K22
open PySem L2
def mk_tx {K : PySem.W.Frag} {h : Heap} {mg : Str → Option Value} (X : K.In h) (G : h.Ns mainGlobals mg)
    {a_divisor : Addr} {od_divisor an_divisor : Option Addr} {sl_divisor : Array (Option Value)} {oc_divisor kV_divisor dc_divisor pm_divisor cd_divisor ct_divisor : Value} {a_lowest : Addr} {od_lowest an_lowest : Option Addr} {sl_lowest : Array (Option Value)} {oc_lowest kV_lowest dc_lowest pm_lowest cd_lowest ct_lowest : Value} {a_check_places : Addr} {od_check_places an_check_places : Option Addr} {sl_check_places : Array (Option Value)} {oc_check_places kV_check_places dc_check_places pm_check_places cd_check_places ct_check_places : Value} {a_bar_rows : Addr} {od_bar_rows an_bar_rows : Option Addr} {sl_bar_rows : Array (Option Value)} {oc_bar_rows kV_bar_rows dc_bar_rows pm_bar_rows cd_bar_rows ct_bar_rows : Value} {a_determinant_at : Addr} {od_determinant_at an_determinant_at : Option Addr} {sl_determinant_at : Array (Option Value)} {oc_determinant_at kV_determinant_at dc_determinant_at pm_determinant_at cd_determinant_at ct_determinant_at : Value} {a_heights_at : Addr} {od_heights_at an_heights_at : Option Addr} {sl_heights_at : Array (Option Value)} {oc_heights_at kV_heights_at dc_heights_at pm_heights_at cd_heights_at ct_heights_at : Value} {a_move_at : Addr} {od_move_at an_move_at : Option Addr} {sl_move_at : Array (Option Value)} {oc_move_at kV_move_at dc_move_at pm_move_at cd_move_at ct_move_at : Value} {a_table : Addr} {od_table an_table : Option Addr} {sl_table : Array (Option Value)} {oc_table kV_table dc_table pm_table cd_table ct_table : Value} {a_asked : Addr} {od_asked an_asked : Option Addr} {sl_asked : Array (Option Value)} {oc_asked kV_asked dc_asked pm_asked cd_asked ct_asked : Value} {a_cleared : Addr} {od_cleared an_cleared : Option Addr} {sl_cleared : Array (Option Value)} {oc_cleared kV_cleared dc_cleared pm_cleared cd_cleared ct_cleared : Value} {a_swapped : Addr} {od_swapped an_swapped : Option Addr} {sl_swapped : Array (Option Value)} {oc_swapped kV_swapped dc_swapped pm_swapped cd_swapped ct_swapped : Value} {a_cleared_of : Addr} {od_cleared_of an_cleared_of : Option Addr} {sl_cleared_of : Array (Option Value)} {oc_cleared_of kV_cleared_of dc_cleared_of pm_cleared_of cd_cleared_of ct_cleared_of : Value} {a_determinant : Addr} {od_determinant an_determinant : Option Addr} {sl_determinant : Array (Option Value)} {oc_determinant kV_determinant dc_determinant pm_determinant cd_determinant ct_determinant : Value} {a_stand : Addr} {od_stand an_stand : Option Addr} {sl_stand : Array (Option Value)} {oc_stand kV_stand dc_stand pm_stand cd_stand ct_stand : Value} {a_move : Addr} {od_move an_move : Option Addr} {sl_move : Array (Option Value)} {oc_move kV_move dc_move pm_move cd_move ct_move : Value} {a_check_rods : Addr} {od_check_rods an_check_rods : Option Addr} {sl_check_rods : Array (Option Value)} {oc_check_rods kV_check_rods dc_check_rods pm_check_rods cd_check_rods ct_check_rods : Value} {a_check_bars : Addr} {od_check_bars an_check_bars : Option Addr} {sl_check_bars : Array (Option Value)} {oc_check_bars kV_check_bars dc_check_bars pm_check_bars cd_check_bars ct_check_bars : Value} {a_check_bar : Addr} {od_check_bar an_check_bar : Option Addr} {sl_check_bar : Array (Option Value)} {oc_check_bar kV_check_bar dc_check_bar pm_check_bar cd_check_bar ct_check_bar : Value} {a_l_state : Addr} {od_l_state an_l_state : Option Addr} {sl_l_state : Array (Option Value)} {oc_l_state kV_l_state dc_l_state pm_l_state cd_l_state ct_l_state : Value} {a_l_digit : Addr} {od_l_digit an_l_digit : Option Addr} {sl_l_digit : Array (Option Value)} {oc_l_digit kV_l_digit dc_l_digit pm_l_digit cd_l_digit ct_l_digit : Value} {a_l_bar : Addr} {od_l_bar an_l_bar : Option Addr} {sl_l_bar : Array (Option Value)} {oc_l_bar kV_l_bar dc_l_bar pm_l_bar cd_l_bar ct_l_bar : Value} {a_l_web : Addr} {od_l_web an_l_web : Option Addr} {sl_l_web : Array (Option Value)} {oc_l_web kV_l_web dc_l_web pm_l_web cd_l_web ct_l_web : Value} {a_l_made : Addr} {od_l_made an_l_made : Option Addr} {sl_l_made : Array (Option Value)} {oc_l_made kV_l_made dc_l_made pm_l_made cd_l_made ct_l_made : Value} {a_l_keeps : Addr} {od_l_keeps an_l_keeps : Option Addr} {sl_l_keeps : Array (Option Value)} {oc_l_keeps kV_l_keeps dc_l_keeps pm_l_keeps cd_l_keeps ct_l_keeps : Value} {a_l_said : Addr} {od_l_said an_l_said : Option Addr} {sl_l_said : Array (Option Value)} {oc_l_said kV_l_said dc_l_said pm_l_said cd_l_said ct_l_said : Value} {a_l_common : Addr} {od_l_common an_l_common : Option Addr} {sl_l_common : Array (Option Value)} {oc_l_common kV_l_common dc_l_common pm_l_common cd_l_common ct_l_common : Value} {a_l_anywhere : Addr} {od_l_anywhere an_l_anywhere : Option Addr} {sl_l_anywhere : Array (Option Value)} {oc_l_anywhere kV_l_anywhere dc_l_anywhere pm_l_anywhere cd_l_anywhere ct_l_anywhere : Value} {a_l_stand_right : Addr} {od_l_stand_right an_l_stand_right : Option Addr} {sl_l_stand_right : Array (Option Value)} {oc_l_stand_right kV_l_stand_right dc_l_stand_right pm_l_stand_right cd_l_stand_right ct_l_stand_right : Value} {a_l_move_right : Addr} {od_l_move_right an_l_move_right : Option Addr} {sl_l_move_right : Array (Option Value)} {oc_l_move_right kV_l_move_right dc_l_move_right pm_l_move_right cd_l_move_right ct_l_move_right : Value} {a_l_odd_right : Addr} {od_l_odd_right an_l_odd_right : Option Addr} {sl_l_odd_right : Array (Option Value)} {oc_l_odd_right kV_l_odd_right dc_l_odd_right pm_l_odd_right cd_l_odd_right ct_l_odd_right : Value} {a_law : Addr} {od_law an_law : Option Addr} {sl_law : Array (Option Value)} {oc_law kV_law dc_law pm_law cd_law ct_law : Value} {C_Bar : Addr} {a_Bar_init : Addr} {od_Bar_init an_Bar_init : Option Addr} {sl_Bar_init : Array (Option Value)} {oc_Bar_init kV_Bar_init dc_Bar_init pm_Bar_init cd_Bar_init ct_Bar_init : Value} {a_Bar_eq : Addr} {od_Bar_eq an_Bar_eq : Option Addr} {sl_Bar_eq : Array (Option Value)} {oc_Bar_eq kV_Bar_eq dc_Bar_eq pm_Bar_eq cd_Bar_eq ct_Bar_eq : Value} {C_Web : Addr} {a_Web_init : Addr} {od_Web_init an_Web_init : Option Addr} {sl_Web_init : Array (Option Value)} {oc_Web_init kV_Web_init dc_Web_init pm_Web_init cd_Web_init ct_Web_init : Value} {a_Web_held : Addr} {od_Web_held an_Web_held : Option Addr} {sl_Web_held : Array (Option Value)} {oc_Web_held kV_Web_held dc_Web_held pm_Web_held cd_Web_held ct_Web_held : Value} {a_Web_hanging : Addr} {od_Web_hanging an_Web_hanging : Option Addr} {sl_Web_hanging : Array (Option Value)} {oc_Web_hanging kV_Web_hanging dc_Web_hanging pm_Web_hanging cd_Web_hanging ct_Web_hanging : Value} {a_Web_eq : Addr} {od_Web_eq an_Web_eq : Option Addr} {sl_Web_eq : Array (Option Value)} {oc_Web_eq kV_Web_eq dc_Web_eq pm_Web_eq cd_Web_eq ct_Web_eq : Value} {C_Places : Addr} {a_Places_init : Addr} {od_Places_init an_Places_init : Option Addr} {sl_Places_init : Array (Option Value)} {oc_Places_init kV_Places_init dc_Places_init pm_Places_init cd_Places_init ct_Places_init : Value} {a_Places_eq : Addr} {od_Places_eq an_Places_eq : Option Addr} {sl_Places_eq : Array (Option Value)} {oc_Places_eq kV_Places_eq dc_Places_eq pm_Places_eq cd_Places_eq ct_Places_eq : Value} {C_Stand : Addr} {a_Stand_init : Addr} {od_Stand_init an_Stand_init : Option Addr} {sl_Stand_init : Array (Option Value)} {oc_Stand_init kV_Stand_init dc_Stand_init pm_Stand_init cd_Stand_init ct_Stand_init : Value} {a_Stand_eq : Addr} {od_Stand_eq an_Stand_eq : Option Addr} {sl_Stand_eq : Array (Option Value)} {oc_Stand_eq kV_Stand_eq dc_Stand_eq pm_Stand_eq cd_Stand_eq ct_Stand_eq : Value} {C_HooksError : Addr} {C_BadCount : Addr} {nm_BadCount q_BadCount : Str} {N_BadCount : Addr} {bs_BadCount : List Value} {sn_BadCount : List Str} {sub_BadCount : List Value} {ab_BadCount : Bool} {col_BadCount : Option Bool} {dd_BadCount : Option Addr} {u0_BadCount u1_BadCount u2_BadCount u3_BadCount u5_BadCount : Option Value} {a_BadCount_init : Addr} {od_BadCount_init an_BadCount_init : Option Addr} {sl_BadCount_init : Array (Option Value)} {oc_BadCount_init kV_BadCount_init dc_BadCount_init pm_BadCount_init cd_BadCount_init ct_BadCount_init : Value} {C_NoRod : Addr} {nm_NoRod q_NoRod : Str} {N_NoRod : Addr} {bs_NoRod : List Value} {sn_NoRod : List Str} {sub_NoRod : List Value} {ab_NoRod : Bool} {col_NoRod : Option Bool} {dd_NoRod : Option Addr} {u0_NoRod u1_NoRod u2_NoRod u3_NoRod u5_NoRod : Option Value} {a_NoRod_init : Addr} {od_NoRod_init an_NoRod_init : Option Addr} {sl_NoRod_init : Array (Option Value)} {oc_NoRod_init kV_NoRod_init dc_NoRod_init pm_NoRod_init cd_NoRod_init ct_NoRod_init : Value} {C_SameRod : Addr} {nm_SameRod q_SameRod : Str} {N_SameRod : Addr} {bs_SameRod : List Value} {sn_SameRod : List Str} {sub_SameRod : List Value} {ab_SameRod : Bool} {col_SameRod : Option Bool} {dd_SameRod : Option Addr} {u0_SameRod u1_SameRod u2_SameRod u3_SameRod u5_SameRod : Option Value} {a_SameRod_init : Addr} {od_SameRod_init an_SameRod_init : Option Addr} {sl_SameRod_init : Array (Option Value)} {oc_SameRod_init kV_SameRod_init dc_SameRod_init pm_SameRod_init cd_SameRod_init ct_SameRod_init : Value} {C_BadSpan : Addr} {nm_BadSpan q_BadSpan : Str} {N_BadSpan : Addr} {bs_BadSpan : List Value} {sn_BadSpan : List Str} {sub_BadSpan : List Value} {ab_BadSpan : Bool} {col_BadSpan : Option Bool} {dd_BadSpan : Option Addr} {u0_BadSpan u1_BadSpan u2_BadSpan u3_BadSpan u5_BadSpan : Option Value} {a_BadSpan_init : Addr} {od_BadSpan_init an_BadSpan_init : Option Addr} {sl_BadSpan_init : Array (Option Value)} {oc_BadSpan_init kV_BadSpan_init dc_BadSpan_init pm_BadSpan_init cd_BadSpan_init ct_BadSpan_init : Value} {C_NotSquare : Addr} {nm_NotSquare q_NotSquare : Str} {N_NotSquare : Addr} {bs_NotSquare : List Value} {sn_NotSquare : List Str} {sub_NotSquare : List Value} {ab_NotSquare : Bool} {col_NotSquare : Option Bool} {dd_NotSquare : Option Addr} {u0_NotSquare u1_NotSquare u2_NotSquare u3_NotSquare u5_NotSquare : Option Value} {a_NotSquare_init : Addr} {od_NotSquare_init an_NotSquare_init : Option Addr} {sl_NotSquare_init : Array (Option Value)} {oc_NotSquare_init kV_NotSquare_init dc_NotSquare_init pm_NotSquare_init cd_NotSquare_init ct_NotSquare_init : Value} {C_Loose : Addr} {nm_Loose q_Loose : Str} {N_Loose : Addr} {bs_Loose : List Value} {sn_Loose : List Str} {sub_Loose : List Value} {ab_Loose : Bool} {col_Loose : Option Bool} {dd_Loose : Option Addr} {u0_Loose u1_Loose u2_Loose u3_Loose u5_Loose : Option Value} {C_BadPlace : Addr} {nm_BadPlace q_BadPlace : Str} {N_BadPlace : Addr} {bs_BadPlace : List Value} {sn_BadPlace : List Str} {sub_BadPlace : List Value} {ab_BadPlace : Bool} {col_BadPlace : Option Bool} {dd_BadPlace : Option Addr} {u0_BadPlace u1_BadPlace u2_BadPlace u3_BadPlace u5_BadPlace : Option Value} {a_BadPlace_init : Addr} {od_BadPlace_init an_BadPlace_init : Option Addr} {sl_BadPlace_init : Array (Option Value)} {oc_BadPlace_init kV_BadPlace_init dc_BadPlace_init pm_BadPlace_init cd_BadPlace_init ct_BadPlace_init : Value} {C_NotLoose : Addr} {nm_NotLoose q_NotLoose : Str} {N_NotLoose : Addr} {bs_NotLoose : List Value} {sn_NotLoose : List Str} {sub_NotLoose : List Value} {ab_NotLoose : Bool} {col_NotLoose : Option Bool} {dd_NotLoose : Option Addr} {u0_NotLoose u1_NotLoose u2_NotLoose u3_NotLoose u5_NotLoose : Option Value} {t_LEAST_RODS : Tok} {t_MOST_RODS : Tok} {t_MOST_BARS : Tok} {t_MOST_HEIGHT : Tok} {t_MOST_LENGTH : Tok}
    (g_clsget : PySem.W.specialIn K (.builtin "object.__class__") "__get__" = some (some (.builtin "getset_descriptor.__get__")))
    (g_clstk : PySem.W.takesIn K (.builtin "object.__class__") = some true)
    (n_divisor : PySem.W.nsIn K mainGlobals "divisor" = some (some (.ref a_divisor)))
    (l_divisor : K.lookup a_divisor = some ⟨oc_divisor, od_divisor, .func (PySem.W.fnOf "divisor" "divisor" (defArgs s_divisor) (defBody s_divisor) (defScope s_divisor) .none kV_divisor dc_divisor pm_divisor an_divisor cd_divisor ct_divisor), sl_divisor⟩)
    (c_divisor : PySem.W.codeIn K cd_divisor "divisor" = true)
    (p_divisor : PySem.W.keepIn K (.ref a_divisor) = true)
    (n_lowest : PySem.W.nsIn K mainGlobals "lowest" = some (some (.ref a_lowest)))
    (l_lowest : K.lookup a_lowest = some ⟨oc_lowest, od_lowest, .func (PySem.W.fnOf "lowest" "lowest" (defArgs s_lowest) (defBody s_lowest) (defScope s_lowest) .none kV_lowest dc_lowest pm_lowest an_lowest cd_lowest ct_lowest), sl_lowest⟩)
    (c_lowest : PySem.W.codeIn K cd_lowest "lowest" = true)
    (p_lowest : PySem.W.keepIn K (.ref a_lowest) = true)
    (n_check_places : PySem.W.nsIn K mainGlobals "check_places" = some (some (.ref a_check_places)))
    (l_check_places : K.lookup a_check_places = some ⟨oc_check_places, od_check_places, .func (PySem.W.fnOf "check_places" "check_places" (defArgs s_check_places) (defBody s_check_places) (defScope s_check_places) .none kV_check_places dc_check_places pm_check_places an_check_places cd_check_places ct_check_places), sl_check_places⟩)
    (c_check_places : PySem.W.codeIn K cd_check_places "check_places" = true)
    (p_check_places : PySem.W.keepIn K (.ref a_check_places) = true)
    (n_bar_rows : PySem.W.nsIn K mainGlobals "bar_rows" = some (some (.ref a_bar_rows)))
    (l_bar_rows : K.lookup a_bar_rows = some ⟨oc_bar_rows, od_bar_rows, .func (PySem.W.fnOf "bar_rows" "bar_rows" (defArgs s_bar_rows) (defBody s_bar_rows) (defScope s_bar_rows) .none kV_bar_rows dc_bar_rows pm_bar_rows an_bar_rows cd_bar_rows ct_bar_rows), sl_bar_rows⟩)
    (c_bar_rows : PySem.W.codeIn K cd_bar_rows "bar_rows" = true)
    (p_bar_rows : PySem.W.keepIn K (.ref a_bar_rows) = true)
    (n_determinant_at : PySem.W.nsIn K mainGlobals "determinant_at" = some (some (.ref a_determinant_at)))
    (l_determinant_at : K.lookup a_determinant_at = some ⟨oc_determinant_at, od_determinant_at, .func (PySem.W.fnOf "determinant_at" "determinant_at" (defArgs s_determinant_at) (defBody s_determinant_at) (defScope s_determinant_at) .none kV_determinant_at dc_determinant_at pm_determinant_at an_determinant_at cd_determinant_at ct_determinant_at), sl_determinant_at⟩)
    (c_determinant_at : PySem.W.codeIn K cd_determinant_at "determinant_at" = true)
    (p_determinant_at : PySem.W.keepIn K (.ref a_determinant_at) = true)
    (n_heights_at : PySem.W.nsIn K mainGlobals "heights_at" = some (some (.ref a_heights_at)))
    (l_heights_at : K.lookup a_heights_at = some ⟨oc_heights_at, od_heights_at, .func (PySem.W.fnOf "heights_at" "heights_at" (defArgs s_heights_at) (defBody s_heights_at) (defScope s_heights_at) .none kV_heights_at dc_heights_at pm_heights_at an_heights_at cd_heights_at ct_heights_at), sl_heights_at⟩)
    (c_heights_at : PySem.W.codeIn K cd_heights_at "heights_at" = true)
    (p_heights_at : PySem.W.keepIn K (.ref a_heights_at) = true)
    (n_move_at : PySem.W.nsIn K mainGlobals "move_at" = some (some (.ref a_move_at)))
    (l_move_at : K.lookup a_move_at = some ⟨oc_move_at, od_move_at, .func (PySem.W.fnOf "move_at" "move_at" (defArgs s_move_at) (defBody s_move_at) (defScope s_move_at) .none kV_move_at dc_move_at pm_move_at an_move_at cd_move_at ct_move_at), sl_move_at⟩)
    (c_move_at : PySem.W.codeIn K cd_move_at "move_at" = true)
    (p_move_at : PySem.W.keepIn K (.ref a_move_at) = true)
    (n_table : PySem.W.nsIn K mainGlobals "_table" = some (some (.ref a_table)))
    (l_table : K.lookup a_table = some ⟨oc_table, od_table, .func (PySem.W.fnOf "_table" "_table" (defArgs s_table) (defBody s_table) (defScope s_table) .none kV_table dc_table pm_table an_table cd_table ct_table), sl_table⟩)
    (c_table : PySem.W.codeIn K cd_table "_table" = true)
    (p_table : PySem.W.keepIn K (.ref a_table) = true)
    (n_asked : PySem.W.nsIn K mainGlobals "_asked" = some (some (.ref a_asked)))
    (l_asked : K.lookup a_asked = some ⟨oc_asked, od_asked, .func (PySem.W.fnOf "_asked" "_asked" (defArgs s_asked) (defBody s_asked) (defScope s_asked) .none kV_asked dc_asked pm_asked an_asked cd_asked ct_asked), sl_asked⟩)
    (c_asked : PySem.W.codeIn K cd_asked "_asked" = true)
    (p_asked : PySem.W.keepIn K (.ref a_asked) = true)
    (n_cleared : PySem.W.nsIn K mainGlobals "_cleared" = some (some (.ref a_cleared)))
    (l_cleared : K.lookup a_cleared = some ⟨oc_cleared, od_cleared, .func (PySem.W.fnOf "_cleared" "_cleared" (defArgs s_cleared) (defBody s_cleared) (defScope s_cleared) .none kV_cleared dc_cleared pm_cleared an_cleared cd_cleared ct_cleared), sl_cleared⟩)
    (c_cleared : PySem.W.codeIn K cd_cleared "_cleared" = true)
    (p_cleared : PySem.W.keepIn K (.ref a_cleared) = true)
    (n_swapped : PySem.W.nsIn K mainGlobals "_swapped" = some (some (.ref a_swapped)))
    (l_swapped : K.lookup a_swapped = some ⟨oc_swapped, od_swapped, .func (PySem.W.fnOf "_swapped" "_swapped" (defArgs s_swapped) (defBody s_swapped) (defScope s_swapped) .none kV_swapped dc_swapped pm_swapped an_swapped cd_swapped ct_swapped), sl_swapped⟩)
    (c_swapped : PySem.W.codeIn K cd_swapped "_swapped" = true)
    (p_swapped : PySem.W.keepIn K (.ref a_swapped) = true)
    (n_cleared_of : PySem.W.nsIn K mainGlobals "_cleared_of" = some (some (.ref a_cleared_of)))
    (l_cleared_of : K.lookup a_cleared_of = some ⟨oc_cleared_of, od_cleared_of, .func (PySem.W.fnOf "_cleared_of" "_cleared_of" (defArgs s_cleared_of) (defBody s_cleared_of) (defScope s_cleared_of) .none kV_cleared_of dc_cleared_of pm_cleared_of an_cleared_of cd_cleared_of ct_cleared_of), sl_cleared_of⟩)
    (c_cleared_of : PySem.W.codeIn K cd_cleared_of "_cleared_of" = true)
    (p_cleared_of : PySem.W.keepIn K (.ref a_cleared_of) = true)
    (n_determinant : PySem.W.nsIn K mainGlobals "determinant" = some (some (.ref a_determinant)))
    (l_determinant : K.lookup a_determinant = some ⟨oc_determinant, od_determinant, .func (PySem.W.fnOf "determinant" "determinant" (defArgs s_determinant) (defBody s_determinant) (defScope s_determinant) .none kV_determinant dc_determinant pm_determinant an_determinant cd_determinant ct_determinant), sl_determinant⟩)
    (c_determinant : PySem.W.codeIn K cd_determinant "determinant" = true)
    (p_determinant : PySem.W.keepIn K (.ref a_determinant) = true)
    (n_stand : PySem.W.nsIn K mainGlobals "stand" = some (some (.ref a_stand)))
    (l_stand : K.lookup a_stand = some ⟨oc_stand, od_stand, .func (PySem.W.fnOf "stand" "stand" (defArgs s_stand) (defBody s_stand) (defScope s_stand) .none kV_stand dc_stand pm_stand an_stand cd_stand ct_stand), sl_stand⟩)
    (c_stand : PySem.W.codeIn K cd_stand "stand" = true)
    (p_stand : PySem.W.keepIn K (.ref a_stand) = true)
    (n_move : PySem.W.nsIn K mainGlobals "move" = some (some (.ref a_move)))
    (l_move : K.lookup a_move = some ⟨oc_move, od_move, .func (PySem.W.fnOf "move" "move" (defArgs s_move) (defBody s_move) (defScope s_move) .none kV_move dc_move pm_move an_move cd_move ct_move), sl_move⟩)
    (c_move : PySem.W.codeIn K cd_move "move" = true)
    (p_move : PySem.W.keepIn K (.ref a_move) = true)
    (n_check_rods : PySem.W.nsIn K mainGlobals "_check_rods" = some (some (.ref a_check_rods)))
    (l_check_rods : K.lookup a_check_rods = some ⟨oc_check_rods, od_check_rods, .func (PySem.W.fnOf "_check_rods" "_check_rods" (defArgs s_check_rods) (defBody s_check_rods) (defScope s_check_rods) .none kV_check_rods dc_check_rods pm_check_rods an_check_rods cd_check_rods ct_check_rods), sl_check_rods⟩)
    (c_check_rods : PySem.W.codeIn K cd_check_rods "_check_rods" = true)
    (p_check_rods : PySem.W.keepIn K (.ref a_check_rods) = true)
    (n_check_bars : PySem.W.nsIn K mainGlobals "_check_bars" = some (some (.ref a_check_bars)))
    (l_check_bars : K.lookup a_check_bars = some ⟨oc_check_bars, od_check_bars, .func (PySem.W.fnOf "_check_bars" "_check_bars" (defArgs s_check_bars) (defBody s_check_bars) (defScope s_check_bars) .none kV_check_bars dc_check_bars pm_check_bars an_check_bars cd_check_bars ct_check_bars), sl_check_bars⟩)
    (c_check_bars : PySem.W.codeIn K cd_check_bars "_check_bars" = true)
    (p_check_bars : PySem.W.keepIn K (.ref a_check_bars) = true)
    (n_check_bar : PySem.W.nsIn K mainGlobals "_check_bar" = some (some (.ref a_check_bar)))
    (l_check_bar : K.lookup a_check_bar = some ⟨oc_check_bar, od_check_bar, .func (PySem.W.fnOf "_check_bar" "_check_bar" (defArgs s_check_bar) (defBody s_check_bar) (defScope s_check_bar) .none kV_check_bar dc_check_bar pm_check_bar an_check_bar cd_check_bar ct_check_bar), sl_check_bar⟩)
    (c_check_bar : PySem.W.codeIn K cd_check_bar "_check_bar" = true)
    (p_check_bar : PySem.W.keepIn K (.ref a_check_bar) = true)
    (n_l_state : PySem.W.nsIn K mainGlobals "_law_state" = some (some (.ref a_l_state)))
    (l_l_state : K.lookup a_l_state = some ⟨oc_l_state, od_l_state, .func (PySem.W.fnOf "_law_state" "_law_state" (defArgs s_l_state) (defBody s_l_state) (defScope s_l_state) .none kV_l_state dc_l_state pm_l_state an_l_state cd_l_state ct_l_state), sl_l_state⟩)
    (c_l_state : PySem.W.codeIn K cd_l_state "_law_state" = true)
    (p_l_state : PySem.W.keepIn K (.ref a_l_state) = true)
    (n_l_digit : PySem.W.nsIn K mainGlobals "_law_digit" = some (some (.ref a_l_digit)))
    (l_l_digit : K.lookup a_l_digit = some ⟨oc_l_digit, od_l_digit, .func (PySem.W.fnOf "_law_digit" "_law_digit" (defArgs s_l_digit) (defBody s_l_digit) (defScope s_l_digit) .none kV_l_digit dc_l_digit pm_l_digit an_l_digit cd_l_digit ct_l_digit), sl_l_digit⟩)
    (c_l_digit : PySem.W.codeIn K cd_l_digit "_law_digit" = true)
    (p_l_digit : PySem.W.keepIn K (.ref a_l_digit) = true)
    (n_l_bar : PySem.W.nsIn K mainGlobals "_law_bar" = some (some (.ref a_l_bar)))
    (l_l_bar : K.lookup a_l_bar = some ⟨oc_l_bar, od_l_bar, .func (PySem.W.fnOf "_law_bar" "_law_bar" (defArgs s_l_bar) (defBody s_l_bar) (defScope s_l_bar) .none kV_l_bar dc_l_bar pm_l_bar an_l_bar cd_l_bar ct_l_bar), sl_l_bar⟩)
    (c_l_bar : PySem.W.codeIn K cd_l_bar "_law_bar" = true)
    (p_l_bar : PySem.W.keepIn K (.ref a_l_bar) = true)
    (n_l_web : PySem.W.nsIn K mainGlobals "_law_web" = some (some (.ref a_l_web)))
    (l_l_web : K.lookup a_l_web = some ⟨oc_l_web, od_l_web, .func (PySem.W.fnOf "_law_web" "_law_web" (defArgs s_l_web) (defBody s_l_web) (defScope s_l_web) .none kV_l_web dc_l_web pm_l_web an_l_web cd_l_web ct_l_web), sl_l_web⟩)
    (c_l_web : PySem.W.codeIn K cd_l_web "_law_web" = true)
    (p_l_web : PySem.W.keepIn K (.ref a_l_web) = true)
    (n_l_made : PySem.W.nsIn K mainGlobals "_law_made" = some (some (.ref a_l_made)))
    (l_l_made : K.lookup a_l_made = some ⟨oc_l_made, od_l_made, .func (PySem.W.fnOf "_law_made" "_law_made" (defArgs s_l_made) (defBody s_l_made) (defScope s_l_made) .none kV_l_made dc_l_made pm_l_made an_l_made cd_l_made ct_l_made), sl_l_made⟩)
    (c_l_made : PySem.W.codeIn K cd_l_made "_law_made" = true)
    (p_l_made : PySem.W.keepIn K (.ref a_l_made) = true)
    (n_l_keeps : PySem.W.nsIn K mainGlobals "_law_keeps" = some (some (.ref a_l_keeps)))
    (l_l_keeps : K.lookup a_l_keeps = some ⟨oc_l_keeps, od_l_keeps, .func (PySem.W.fnOf "_law_keeps" "_law_keeps" (defArgs s_l_keeps) (defBody s_l_keeps) (defScope s_l_keeps) .none kV_l_keeps dc_l_keeps pm_l_keeps an_l_keeps cd_l_keeps ct_l_keeps), sl_l_keeps⟩)
    (c_l_keeps : PySem.W.codeIn K cd_l_keeps "_law_keeps" = true)
    (p_l_keeps : PySem.W.keepIn K (.ref a_l_keeps) = true)
    (n_l_said : PySem.W.nsIn K mainGlobals "_law_said" = some (some (.ref a_l_said)))
    (l_l_said : K.lookup a_l_said = some ⟨oc_l_said, od_l_said, .func (PySem.W.fnOf "_law_said" "_law_said" (defArgs s_l_said) (defBody s_l_said) (defScope s_l_said) .none kV_l_said dc_l_said pm_l_said an_l_said cd_l_said ct_l_said), sl_l_said⟩)
    (c_l_said : PySem.W.codeIn K cd_l_said "_law_said" = true)
    (p_l_said : PySem.W.keepIn K (.ref a_l_said) = true)
    (n_l_common : PySem.W.nsIn K mainGlobals "_law_common" = some (some (.ref a_l_common)))
    (l_l_common : K.lookup a_l_common = some ⟨oc_l_common, od_l_common, .func (PySem.W.fnOf "_law_common" "_law_common" (defArgs s_l_common) (defBody s_l_common) (defScope s_l_common) .none kV_l_common dc_l_common pm_l_common an_l_common cd_l_common ct_l_common), sl_l_common⟩)
    (c_l_common : PySem.W.codeIn K cd_l_common "_law_common" = true)
    (p_l_common : PySem.W.keepIn K (.ref a_l_common) = true)
    (n_l_anywhere : PySem.W.nsIn K mainGlobals "_law_anywhere" = some (some (.ref a_l_anywhere)))
    (l_l_anywhere : K.lookup a_l_anywhere = some ⟨oc_l_anywhere, od_l_anywhere, .func (PySem.W.fnOf "_law_anywhere" "_law_anywhere" (defArgs s_l_anywhere) (defBody s_l_anywhere) (defScope s_l_anywhere) .none kV_l_anywhere dc_l_anywhere pm_l_anywhere an_l_anywhere cd_l_anywhere ct_l_anywhere), sl_l_anywhere⟩)
    (c_l_anywhere : PySem.W.codeIn K cd_l_anywhere "_law_anywhere" = true)
    (p_l_anywhere : PySem.W.keepIn K (.ref a_l_anywhere) = true)
    (n_l_stand_right : PySem.W.nsIn K mainGlobals "_law_stand_right" = some (some (.ref a_l_stand_right)))
    (l_l_stand_right : K.lookup a_l_stand_right = some ⟨oc_l_stand_right, od_l_stand_right, .func (PySem.W.fnOf "_law_stand_right" "_law_stand_right" (defArgs s_l_stand_right) (defBody s_l_stand_right) (defScope s_l_stand_right) .none kV_l_stand_right dc_l_stand_right pm_l_stand_right an_l_stand_right cd_l_stand_right ct_l_stand_right), sl_l_stand_right⟩)
    (c_l_stand_right : PySem.W.codeIn K cd_l_stand_right "_law_stand_right" = true)
    (p_l_stand_right : PySem.W.keepIn K (.ref a_l_stand_right) = true)
    (n_l_move_right : PySem.W.nsIn K mainGlobals "_law_move_right" = some (some (.ref a_l_move_right)))
    (l_l_move_right : K.lookup a_l_move_right = some ⟨oc_l_move_right, od_l_move_right, .func (PySem.W.fnOf "_law_move_right" "_law_move_right" (defArgs s_l_move_right) (defBody s_l_move_right) (defScope s_l_move_right) .none kV_l_move_right dc_l_move_right pm_l_move_right an_l_move_right cd_l_move_right ct_l_move_right), sl_l_move_right⟩)
    (c_l_move_right : PySem.W.codeIn K cd_l_move_right "_law_move_right" = true)
    (p_l_move_right : PySem.W.keepIn K (.ref a_l_move_right) = true)
    (n_l_odd_right : PySem.W.nsIn K mainGlobals "_law_odd_right" = some (some (.ref a_l_odd_right)))
    (l_l_odd_right : K.lookup a_l_odd_right = some ⟨oc_l_odd_right, od_l_odd_right, .func (PySem.W.fnOf "_law_odd_right" "_law_odd_right" (defArgs s_l_odd_right) (defBody s_l_odd_right) (defScope s_l_odd_right) .none kV_l_odd_right dc_l_odd_right pm_l_odd_right an_l_odd_right cd_l_odd_right ct_l_odd_right), sl_l_odd_right⟩)
    (c_l_odd_right : PySem.W.codeIn K cd_l_odd_right "_law_odd_right" = true)
    (p_l_odd_right : PySem.W.keepIn K (.ref a_l_odd_right) = true)
    (n_law : PySem.W.nsIn K mainGlobals "law" = some (some (.ref a_law)))
    (l_law : K.lookup a_law = some ⟨oc_law, od_law, .func (PySem.W.fnOf "law" "law" (defArgs s_law) (defBody s_law) (defScope s_law) .none kV_law dc_law pm_law an_law cd_law ct_law), sl_law⟩)
    (c_law : PySem.W.codeIn K cd_law "law" = true)
    (p_law : PySem.W.keepIn K (.ref a_law) = true)
    (n_Bar : PySem.W.nsIn K mainGlobals "Bar" = some (some (.ref C_Bar)))
    (pg_Bar : PySem.W.plainGet K C_Bar Str.empty = true)
    (hd_Bar : PySem.W.hasDictIn K C_Bar = true)
    (po_Bar : PySem.W.plainOver K C_Bar = true)
    (sa_Bar : PySem.W.findIn K (.ref C_Bar) "__setattr__" = some (some (.builtin "object.__setattr__")))
    (mk_Bar : PySem.W.makesIn K C_Bar = true)
    (kc_Bar : PySem.W.keepIn K (.ref C_Bar) = true)
    (nf_Bar_a : PySem.W.findIn K (.ref C_Bar) "a" = some none)
    (nf_Bar_b : PySem.W.findIn K (.ref C_Bar) "b" = some none)
    (nf_Bar_c : PySem.W.findIn K (.ref C_Bar) "c" = some none)
    (nf_Bar_length : PySem.W.findIn K (.ref C_Bar) "length" = some none)
    (nf_Bar_least : PySem.W.findIn K (.ref C_Bar) "least" = some none)
    (nf_Bar_greatest : PySem.W.findIn K (.ref C_Bar) "greatest" = some none)
    (n_Bar_init : PySem.W.findIn K (.ref C_Bar) "__init__" = some (some (.ref a_Bar_init)))
    (i_Bar_init : PySem.W.isFn K (.ref a_Bar_init) = true)
    (l_Bar_init : K.lookup a_Bar_init = some ⟨oc_Bar_init, od_Bar_init, .func (PySem.W.fnOf "__init__" "Bar.__init__" (defArgs s_Bar_init) (defBody s_Bar_init) (defScope s_Bar_init) .none kV_Bar_init dc_Bar_init pm_Bar_init an_Bar_init cd_Bar_init ct_Bar_init), sl_Bar_init⟩)
    (c_Bar_init : PySem.W.codeIn K cd_Bar_init "Bar.__init__" = true)
    (p_Bar_init : PySem.W.keepIn K (.ref a_Bar_init) = true)
    (n_Bar_eq : PySem.W.findIn K (.ref C_Bar) "__eq__" = some (some (.ref a_Bar_eq)))
    (i_Bar_eq : PySem.W.isFn K (.ref a_Bar_eq) = true)
    (l_Bar_eq : K.lookup a_Bar_eq = some ⟨oc_Bar_eq, od_Bar_eq, .func (PySem.W.fnOf "__eq__" "Bar.__eq__" (defArgs s_Bar_eq) (defBody s_Bar_eq) (defScope s_Bar_eq) .none kV_Bar_eq dc_Bar_eq pm_Bar_eq an_Bar_eq cd_Bar_eq ct_Bar_eq), sl_Bar_eq⟩)
    (c_Bar_eq : PySem.W.codeIn K cd_Bar_eq "Bar.__eq__" = true)
    (p_Bar_eq : PySem.W.keepIn K (.ref a_Bar_eq) = true)
    (ea_NoneType_Bar : PySem.W.notFirst K C_Bar (.type "NoneType") = true)
    (eb_NoneType_Bar : PySem.W.subIn K (.ref C_Bar) (.type "NoneType") = some false)
    (ea_bool_Bar : PySem.W.notFirst K C_Bar (.type "bool") = true)
    (eb_bool_Bar : PySem.W.subIn K (.ref C_Bar) (.type "bool") = some false)
    (ea_int_Bar : PySem.W.notFirst K C_Bar (.type "int") = true)
    (eb_int_Bar : PySem.W.subIn K (.ref C_Bar) (.type "int") = some false)
    (ea_str_Bar : PySem.W.notFirst K C_Bar (.type "str") = true)
    (eb_str_Bar : PySem.W.subIn K (.ref C_Bar) (.type "str") = some false)
    (ea_list_Bar : PySem.W.notFirst K C_Bar (.type "list") = true)
    (eb_list_Bar : PySem.W.subIn K (.ref C_Bar) (.type "list") = some false)
    (ea_tuple_Bar : PySem.W.notFirst K C_Bar (.type "tuple") = true)
    (eb_tuple_Bar : PySem.W.subIn K (.ref C_Bar) (.type "tuple") = some false)
    (ea_dict_Bar : PySem.W.notFirst K C_Bar (.type "dict") = true)
    (eb_dict_Bar : PySem.W.subIn K (.ref C_Bar) (.type "dict") = some false)
    (na_Bar : PySem.W.findIn K (.ref C_Bar) "__ne__" = some (some (.builtin "object.__ne__")))
    (nb_Bar : PySem.W.mroIn K C_Bar (.type "object") = some true)
    (n_Web : PySem.W.nsIn K mainGlobals "Web" = some (some (.ref C_Web)))
    (pg_Web : PySem.W.plainGet K C_Web Str.empty = true)
    (hd_Web : PySem.W.hasDictIn K C_Web = true)
    (po_Web : PySem.W.plainOver K C_Web = true)
    (sa_Web : PySem.W.findIn K (.ref C_Web) "__setattr__" = some (some (.builtin "object.__setattr__")))
    (mk_Web : PySem.W.makesIn K C_Web = true)
    (kc_Web : PySem.W.keepIn K (.ref C_Web) = true)
    (nf_Web_rods : PySem.W.findIn K (.ref C_Web) "rods" = some none)
    (nf_Web_bars : PySem.W.findIn K (.ref C_Web) "bars" = some none)
    (nf_Web_held : PySem.W.findIn K (.ref C_Web) "_held" = some none)
    (n_Web_init : PySem.W.findIn K (.ref C_Web) "__init__" = some (some (.ref a_Web_init)))
    (i_Web_init : PySem.W.isFn K (.ref a_Web_init) = true)
    (l_Web_init : K.lookup a_Web_init = some ⟨oc_Web_init, od_Web_init, .func (PySem.W.fnOf "__init__" "Web.__init__" (defArgs s_Web_init) (defBody s_Web_init) (defScope s_Web_init) .none kV_Web_init dc_Web_init pm_Web_init an_Web_init cd_Web_init ct_Web_init), sl_Web_init⟩)
    (c_Web_init : PySem.W.codeIn K cd_Web_init "Web.__init__" = true)
    (p_Web_init : PySem.W.keepIn K (.ref a_Web_init) = true)
    (n_Web_held : PySem.W.findIn K (.ref C_Web) "held" = some (some (.ref a_Web_held)))
    (i_Web_held : PySem.W.isFn K (.ref a_Web_held) = true)
    (l_Web_held : K.lookup a_Web_held = some ⟨oc_Web_held, od_Web_held, .func (PySem.W.fnOf "held" "Web.held" (defArgs s_Web_held) (defBody s_Web_held) (defScope s_Web_held) .none kV_Web_held dc_Web_held pm_Web_held an_Web_held cd_Web_held ct_Web_held), sl_Web_held⟩)
    (c_Web_held : PySem.W.codeIn K cd_Web_held "Web.held" = true)
    (p_Web_held : PySem.W.keepIn K (.ref a_Web_held) = true)
    (n_Web_hanging : PySem.W.findIn K (.ref C_Web) "hanging" = some (some (.ref a_Web_hanging)))
    (i_Web_hanging : PySem.W.isFn K (.ref a_Web_hanging) = true)
    (l_Web_hanging : K.lookup a_Web_hanging = some ⟨oc_Web_hanging, od_Web_hanging, .func (PySem.W.fnOf "hanging" "Web.hanging" (defArgs s_Web_hanging) (defBody s_Web_hanging) (defScope s_Web_hanging) .none kV_Web_hanging dc_Web_hanging pm_Web_hanging an_Web_hanging cd_Web_hanging ct_Web_hanging), sl_Web_hanging⟩)
    (c_Web_hanging : PySem.W.codeIn K cd_Web_hanging "Web.hanging" = true)
    (p_Web_hanging : PySem.W.keepIn K (.ref a_Web_hanging) = true)
    (n_Web_eq : PySem.W.findIn K (.ref C_Web) "__eq__" = some (some (.ref a_Web_eq)))
    (i_Web_eq : PySem.W.isFn K (.ref a_Web_eq) = true)
    (l_Web_eq : K.lookup a_Web_eq = some ⟨oc_Web_eq, od_Web_eq, .func (PySem.W.fnOf "__eq__" "Web.__eq__" (defArgs s_Web_eq) (defBody s_Web_eq) (defScope s_Web_eq) .none kV_Web_eq dc_Web_eq pm_Web_eq an_Web_eq cd_Web_eq ct_Web_eq), sl_Web_eq⟩)
    (c_Web_eq : PySem.W.codeIn K cd_Web_eq "Web.__eq__" = true)
    (p_Web_eq : PySem.W.keepIn K (.ref a_Web_eq) = true)
    (ea_NoneType_Web : PySem.W.notFirst K C_Web (.type "NoneType") = true)
    (eb_NoneType_Web : PySem.W.subIn K (.ref C_Web) (.type "NoneType") = some false)
    (ea_bool_Web : PySem.W.notFirst K C_Web (.type "bool") = true)
    (eb_bool_Web : PySem.W.subIn K (.ref C_Web) (.type "bool") = some false)
    (ea_int_Web : PySem.W.notFirst K C_Web (.type "int") = true)
    (eb_int_Web : PySem.W.subIn K (.ref C_Web) (.type "int") = some false)
    (ea_str_Web : PySem.W.notFirst K C_Web (.type "str") = true)
    (eb_str_Web : PySem.W.subIn K (.ref C_Web) (.type "str") = some false)
    (ea_list_Web : PySem.W.notFirst K C_Web (.type "list") = true)
    (eb_list_Web : PySem.W.subIn K (.ref C_Web) (.type "list") = some false)
    (ea_tuple_Web : PySem.W.notFirst K C_Web (.type "tuple") = true)
    (eb_tuple_Web : PySem.W.subIn K (.ref C_Web) (.type "tuple") = some false)
    (ea_dict_Web : PySem.W.notFirst K C_Web (.type "dict") = true)
    (eb_dict_Web : PySem.W.subIn K (.ref C_Web) (.type "dict") = some false)
    (na_Web : PySem.W.findIn K (.ref C_Web) "__ne__" = some (some (.builtin "object.__ne__")))
    (nb_Web : PySem.W.mroIn K C_Web (.type "object") = some true)
    (n_Places : PySem.W.nsIn K mainGlobals "Places" = some (some (.ref C_Places)))
    (pg_Places : PySem.W.plainGet K C_Places Str.empty = true)
    (hd_Places : PySem.W.hasDictIn K C_Places = true)
    (po_Places : PySem.W.plainOver K C_Places = true)
    (sa_Places : PySem.W.findIn K (.ref C_Places) "__setattr__" = some (some (.builtin "object.__setattr__")))
    (mk_Places : PySem.W.makesIn K C_Places = true)
    (kc_Places : PySem.W.keepIn K (.ref C_Places) = true)
    (nf_Places_numbers : PySem.W.findIn K (.ref C_Places) "numbers" = some none)
    (nf_Places_parts : PySem.W.findIn K (.ref C_Places) "parts" = some none)
    (n_Places_init : PySem.W.findIn K (.ref C_Places) "__init__" = some (some (.ref a_Places_init)))
    (i_Places_init : PySem.W.isFn K (.ref a_Places_init) = true)
    (l_Places_init : K.lookup a_Places_init = some ⟨oc_Places_init, od_Places_init, .func (PySem.W.fnOf "__init__" "Places.__init__" (defArgs s_Places_init) (defBody s_Places_init) (defScope s_Places_init) .none kV_Places_init dc_Places_init pm_Places_init an_Places_init cd_Places_init ct_Places_init), sl_Places_init⟩)
    (c_Places_init : PySem.W.codeIn K cd_Places_init "Places.__init__" = true)
    (p_Places_init : PySem.W.keepIn K (.ref a_Places_init) = true)
    (n_Places_eq : PySem.W.findIn K (.ref C_Places) "__eq__" = some (some (.ref a_Places_eq)))
    (i_Places_eq : PySem.W.isFn K (.ref a_Places_eq) = true)
    (l_Places_eq : K.lookup a_Places_eq = some ⟨oc_Places_eq, od_Places_eq, .func (PySem.W.fnOf "__eq__" "Places.__eq__" (defArgs s_Places_eq) (defBody s_Places_eq) (defScope s_Places_eq) .none kV_Places_eq dc_Places_eq pm_Places_eq an_Places_eq cd_Places_eq ct_Places_eq), sl_Places_eq⟩)
    (c_Places_eq : PySem.W.codeIn K cd_Places_eq "Places.__eq__" = true)
    (p_Places_eq : PySem.W.keepIn K (.ref a_Places_eq) = true)
    (ea_NoneType_Places : PySem.W.notFirst K C_Places (.type "NoneType") = true)
    (eb_NoneType_Places : PySem.W.subIn K (.ref C_Places) (.type "NoneType") = some false)
    (ea_bool_Places : PySem.W.notFirst K C_Places (.type "bool") = true)
    (eb_bool_Places : PySem.W.subIn K (.ref C_Places) (.type "bool") = some false)
    (ea_int_Places : PySem.W.notFirst K C_Places (.type "int") = true)
    (eb_int_Places : PySem.W.subIn K (.ref C_Places) (.type "int") = some false)
    (ea_str_Places : PySem.W.notFirst K C_Places (.type "str") = true)
    (eb_str_Places : PySem.W.subIn K (.ref C_Places) (.type "str") = some false)
    (ea_list_Places : PySem.W.notFirst K C_Places (.type "list") = true)
    (eb_list_Places : PySem.W.subIn K (.ref C_Places) (.type "list") = some false)
    (ea_tuple_Places : PySem.W.notFirst K C_Places (.type "tuple") = true)
    (eb_tuple_Places : PySem.W.subIn K (.ref C_Places) (.type "tuple") = some false)
    (ea_dict_Places : PySem.W.notFirst K C_Places (.type "dict") = true)
    (eb_dict_Places : PySem.W.subIn K (.ref C_Places) (.type "dict") = some false)
    (na_Places : PySem.W.findIn K (.ref C_Places) "__ne__" = some (some (.builtin "object.__ne__")))
    (nb_Places : PySem.W.mroIn K C_Places (.type "object") = some true)
    (n_Stand : PySem.W.nsIn K mainGlobals "Stand" = some (some (.ref C_Stand)))
    (pg_Stand : PySem.W.plainGet K C_Stand Str.empty = true)
    (hd_Stand : PySem.W.hasDictIn K C_Stand = true)
    (po_Stand : PySem.W.plainOver K C_Stand = true)
    (sa_Stand : PySem.W.findIn K (.ref C_Stand) "__setattr__" = some (some (.builtin "object.__setattr__")))
    (mk_Stand : PySem.W.makesIn K C_Stand = true)
    (kc_Stand : PySem.W.keepIn K (.ref C_Stand) = true)
    (nf_Stand_tops : PySem.W.findIn K (.ref C_Stand) "tops" = some none)
    (nf_Stand_bottom : PySem.W.findIn K (.ref C_Stand) "bottom" = some none)
    (n_Stand_init : PySem.W.findIn K (.ref C_Stand) "__init__" = some (some (.ref a_Stand_init)))
    (i_Stand_init : PySem.W.isFn K (.ref a_Stand_init) = true)
    (l_Stand_init : K.lookup a_Stand_init = some ⟨oc_Stand_init, od_Stand_init, .func (PySem.W.fnOf "__init__" "Stand.__init__" (defArgs s_Stand_init) (defBody s_Stand_init) (defScope s_Stand_init) .none kV_Stand_init dc_Stand_init pm_Stand_init an_Stand_init cd_Stand_init ct_Stand_init), sl_Stand_init⟩)
    (c_Stand_init : PySem.W.codeIn K cd_Stand_init "Stand.__init__" = true)
    (p_Stand_init : PySem.W.keepIn K (.ref a_Stand_init) = true)
    (n_Stand_eq : PySem.W.findIn K (.ref C_Stand) "__eq__" = some (some (.ref a_Stand_eq)))
    (i_Stand_eq : PySem.W.isFn K (.ref a_Stand_eq) = true)
    (l_Stand_eq : K.lookup a_Stand_eq = some ⟨oc_Stand_eq, od_Stand_eq, .func (PySem.W.fnOf "__eq__" "Stand.__eq__" (defArgs s_Stand_eq) (defBody s_Stand_eq) (defScope s_Stand_eq) .none kV_Stand_eq dc_Stand_eq pm_Stand_eq an_Stand_eq cd_Stand_eq ct_Stand_eq), sl_Stand_eq⟩)
    (c_Stand_eq : PySem.W.codeIn K cd_Stand_eq "Stand.__eq__" = true)
    (p_Stand_eq : PySem.W.keepIn K (.ref a_Stand_eq) = true)
    (ea_NoneType_Stand : PySem.W.notFirst K C_Stand (.type "NoneType") = true)
    (eb_NoneType_Stand : PySem.W.subIn K (.ref C_Stand) (.type "NoneType") = some false)
    (ea_bool_Stand : PySem.W.notFirst K C_Stand (.type "bool") = true)
    (eb_bool_Stand : PySem.W.subIn K (.ref C_Stand) (.type "bool") = some false)
    (ea_int_Stand : PySem.W.notFirst K C_Stand (.type "int") = true)
    (eb_int_Stand : PySem.W.subIn K (.ref C_Stand) (.type "int") = some false)
    (ea_str_Stand : PySem.W.notFirst K C_Stand (.type "str") = true)
    (eb_str_Stand : PySem.W.subIn K (.ref C_Stand) (.type "str") = some false)
    (ea_list_Stand : PySem.W.notFirst K C_Stand (.type "list") = true)
    (eb_list_Stand : PySem.W.subIn K (.ref C_Stand) (.type "list") = some false)
    (ea_tuple_Stand : PySem.W.notFirst K C_Stand (.type "tuple") = true)
    (eb_tuple_Stand : PySem.W.subIn K (.ref C_Stand) (.type "tuple") = some false)
    (ea_dict_Stand : PySem.W.notFirst K C_Stand (.type "dict") = true)
    (eb_dict_Stand : PySem.W.subIn K (.ref C_Stand) (.type "dict") = some false)
    (na_Stand : PySem.W.findIn K (.ref C_Stand) "__ne__" = some (some (.builtin "object.__ne__")))
    (nb_Stand : PySem.W.mroIn K C_Stand (.type "object") = some true)
    (nfst_Bar_Bar : PySem.W.notFirst K C_Bar (.ref C_Bar) = true)
    (nfst_Bar_Web : PySem.W.notFirst K C_Bar (.ref C_Web) = true)
    (dc_Bar_Web : C_Bar ≠ C_Web)
    (nfst_Bar_Places : PySem.W.notFirst K C_Bar (.ref C_Places) = true)
    (dc_Bar_Places : C_Bar ≠ C_Places)
    (nfst_Bar_Stand : PySem.W.notFirst K C_Bar (.ref C_Stand) = true)
    (dc_Bar_Stand : C_Bar ≠ C_Stand)
    (nfst_Web_Bar : PySem.W.notFirst K C_Web (.ref C_Bar) = true)
    (nfst_Web_Web : PySem.W.notFirst K C_Web (.ref C_Web) = true)
    (nfst_Web_Places : PySem.W.notFirst K C_Web (.ref C_Places) = true)
    (nfst_Web_Stand : PySem.W.notFirst K C_Web (.ref C_Stand) = true)
    (nfst_Places_Bar : PySem.W.notFirst K C_Places (.ref C_Bar) = true)
    (nfst_Places_Web : PySem.W.notFirst K C_Places (.ref C_Web) = true)
    (dc_Places_Web : C_Places ≠ C_Web)
    (nfst_Places_Places : PySem.W.notFirst K C_Places (.ref C_Places) = true)
    (nfst_Places_Stand : PySem.W.notFirst K C_Places (.ref C_Stand) = true)
    (dc_Places_Stand : C_Places ≠ C_Stand)
    (nfst_Stand_Bar : PySem.W.notFirst K C_Stand (.ref C_Bar) = true)
    (nfst_Stand_Web : PySem.W.notFirst K C_Stand (.ref C_Web) = true)
    (dc_Stand_Web : C_Stand ≠ C_Web)
    (nfst_Stand_Places : PySem.W.notFirst K C_Stand (.ref C_Places) = true)
    (nfst_Stand_Stand : PySem.W.notFirst K C_Stand (.ref C_Stand) = true)
    (n_HooksError : PySem.W.nsIn K mainGlobals "HooksError" = some (some (.ref C_HooksError)))
    (be_HooksError : PySem.W.subIn K (.ref C_HooksError) (.type "BaseException") = some true)
    (ty_HooksError : PySem.W.typeIn K (.ref C_HooksError) = some (.type "type"))
    (hd_HooksError : PySem.W.hasDictIn K C_HooksError = true)
    (n_BadCount : PySem.W.nsIn K mainGlobals "BadCount" = some (some (.ref C_BadCount)))
    (x_BadCount : K.lookup C_BadCount = some (excClassObj nm_BadCount q_BadCount C_BadCount N_BadCount bs_BadCount [.ref C_HooksError, .type "ValueError", .type "Exception", .type "BaseException", .type "object"] true sn_BadCount sub_BadCount ab_BadCount col_BadCount dd_BadCount u0_BadCount u1_BadCount u2_BadCount u3_BadCount u5_BadCount "ValueError.__new__"))
    (sa_BadCount : PySem.W.findIn K (.ref C_BadCount) "__setattr__" = some (some (.builtin "object.__setattr__")))
    (ga_BadCount : PySem.W.findIn K (.ref C_BadCount) "__getattribute__" = some (some (.builtin "BaseException.__getattribute__")))
    (gg_BadCount : PySem.W.findIn K (.ref C_BadCount) "__getattr__" = some none)
    (kc_BadCount : PySem.W.keepIn K (.ref C_BadCount) = true)
    (be_BadCount : PySem.W.subIn K (.ref C_BadCount) (.type "BaseException") = some true)
    (ty_BadCount : PySem.W.typeIn K (.ref C_BadCount) = some (.type "type"))
    (hd_BadCount : PySem.W.hasDictIn K C_BadCount = true)
    (cl_BadCount : PySem.W.findIn K (.ref C_BadCount) "__class__" = some (some (.builtin "object.__class__")))
    (ob_BadCount : PySem.W.mroIn K C_BadCount (.type "object") = some true)
    (sb_BadCount_HooksError : PySem.W.subIn K (.ref C_BadCount) (.ref C_HooksError) = some true)
    (n_BadCount_init : PySem.W.findIn K (.ref C_BadCount) "__init__" = some (some (.ref a_BadCount_init)))
    (t_BadCount_init : PySem.W.typeIn K (.ref a_BadCount_init) = some (.type "function"))
    (l_BadCount_init : K.lookup a_BadCount_init = some ⟨oc_BadCount_init, od_BadCount_init, .func (PySem.W.fnOf "__init__" "BadCount.__init__" (defArgs s_BadCount_init) (defBody s_BadCount_init) (defScope s_BadCount_init) .none kV_BadCount_init dc_BadCount_init pm_BadCount_init an_BadCount_init cd_BadCount_init ct_BadCount_init), sl_BadCount_init⟩)
    (c_BadCount_init : PySem.W.codeIn K cd_BadCount_init "BadCount.__init__" = true)
    (p_BadCount_init : PySem.W.keepIn K (.ref a_BadCount_init) = true)
    (nf_BadCount_what : PySem.W.findIn K (.ref C_BadCount) "what" = some none)
    (nf_BadCount_count : PySem.W.findIn K (.ref C_BadCount) "count" = some none)
    (n_NoRod : PySem.W.nsIn K mainGlobals "NoRod" = some (some (.ref C_NoRod)))
    (x_NoRod : K.lookup C_NoRod = some (excClassObj nm_NoRod q_NoRod C_NoRod N_NoRod bs_NoRod [.ref C_HooksError, .type "ValueError", .type "Exception", .type "BaseException", .type "object"] true sn_NoRod sub_NoRod ab_NoRod col_NoRod dd_NoRod u0_NoRod u1_NoRod u2_NoRod u3_NoRod u5_NoRod "ValueError.__new__"))
    (sa_NoRod : PySem.W.findIn K (.ref C_NoRod) "__setattr__" = some (some (.builtin "object.__setattr__")))
    (ga_NoRod : PySem.W.findIn K (.ref C_NoRod) "__getattribute__" = some (some (.builtin "BaseException.__getattribute__")))
    (gg_NoRod : PySem.W.findIn K (.ref C_NoRod) "__getattr__" = some none)
    (kc_NoRod : PySem.W.keepIn K (.ref C_NoRod) = true)
    (be_NoRod : PySem.W.subIn K (.ref C_NoRod) (.type "BaseException") = some true)
    (ty_NoRod : PySem.W.typeIn K (.ref C_NoRod) = some (.type "type"))
    (hd_NoRod : PySem.W.hasDictIn K C_NoRod = true)
    (cl_NoRod : PySem.W.findIn K (.ref C_NoRod) "__class__" = some (some (.builtin "object.__class__")))
    (ob_NoRod : PySem.W.mroIn K C_NoRod (.type "object") = some true)
    (sb_NoRod_HooksError : PySem.W.subIn K (.ref C_NoRod) (.ref C_HooksError) = some true)
    (n_NoRod_init : PySem.W.findIn K (.ref C_NoRod) "__init__" = some (some (.ref a_NoRod_init)))
    (t_NoRod_init : PySem.W.typeIn K (.ref a_NoRod_init) = some (.type "function"))
    (l_NoRod_init : K.lookup a_NoRod_init = some ⟨oc_NoRod_init, od_NoRod_init, .func (PySem.W.fnOf "__init__" "NoRod.__init__" (defArgs s_NoRod_init) (defBody s_NoRod_init) (defScope s_NoRod_init) .none kV_NoRod_init dc_NoRod_init pm_NoRod_init an_NoRod_init cd_NoRod_init ct_NoRod_init), sl_NoRod_init⟩)
    (c_NoRod_init : PySem.W.codeIn K cd_NoRod_init "NoRod.__init__" = true)
    (p_NoRod_init : PySem.W.keepIn K (.ref a_NoRod_init) = true)
    (nf_NoRod_rod : PySem.W.findIn K (.ref C_NoRod) "rod" = some none)
    (n_SameRod : PySem.W.nsIn K mainGlobals "SameRod" = some (some (.ref C_SameRod)))
    (x_SameRod : K.lookup C_SameRod = some (excClassObj nm_SameRod q_SameRod C_SameRod N_SameRod bs_SameRod [.ref C_HooksError, .type "ValueError", .type "Exception", .type "BaseException", .type "object"] true sn_SameRod sub_SameRod ab_SameRod col_SameRod dd_SameRod u0_SameRod u1_SameRod u2_SameRod u3_SameRod u5_SameRod "ValueError.__new__"))
    (sa_SameRod : PySem.W.findIn K (.ref C_SameRod) "__setattr__" = some (some (.builtin "object.__setattr__")))
    (ga_SameRod : PySem.W.findIn K (.ref C_SameRod) "__getattribute__" = some (some (.builtin "BaseException.__getattribute__")))
    (gg_SameRod : PySem.W.findIn K (.ref C_SameRod) "__getattr__" = some none)
    (kc_SameRod : PySem.W.keepIn K (.ref C_SameRod) = true)
    (be_SameRod : PySem.W.subIn K (.ref C_SameRod) (.type "BaseException") = some true)
    (ty_SameRod : PySem.W.typeIn K (.ref C_SameRod) = some (.type "type"))
    (hd_SameRod : PySem.W.hasDictIn K C_SameRod = true)
    (cl_SameRod : PySem.W.findIn K (.ref C_SameRod) "__class__" = some (some (.builtin "object.__class__")))
    (ob_SameRod : PySem.W.mroIn K C_SameRod (.type "object") = some true)
    (sb_SameRod_HooksError : PySem.W.subIn K (.ref C_SameRod) (.ref C_HooksError) = some true)
    (n_SameRod_init : PySem.W.findIn K (.ref C_SameRod) "__init__" = some (some (.ref a_SameRod_init)))
    (t_SameRod_init : PySem.W.typeIn K (.ref a_SameRod_init) = some (.type "function"))
    (l_SameRod_init : K.lookup a_SameRod_init = some ⟨oc_SameRod_init, od_SameRod_init, .func (PySem.W.fnOf "__init__" "SameRod.__init__" (defArgs s_SameRod_init) (defBody s_SameRod_init) (defScope s_SameRod_init) .none kV_SameRod_init dc_SameRod_init pm_SameRod_init an_SameRod_init cd_SameRod_init ct_SameRod_init), sl_SameRod_init⟩)
    (c_SameRod_init : PySem.W.codeIn K cd_SameRod_init "SameRod.__init__" = true)
    (p_SameRod_init : PySem.W.keepIn K (.ref a_SameRod_init) = true)
    (nf_SameRod_rod : PySem.W.findIn K (.ref C_SameRod) "rod" = some none)
    (n_BadSpan : PySem.W.nsIn K mainGlobals "BadSpan" = some (some (.ref C_BadSpan)))
    (x_BadSpan : K.lookup C_BadSpan = some (excClassObj nm_BadSpan q_BadSpan C_BadSpan N_BadSpan bs_BadSpan [.ref C_HooksError, .type "ValueError", .type "Exception", .type "BaseException", .type "object"] true sn_BadSpan sub_BadSpan ab_BadSpan col_BadSpan dd_BadSpan u0_BadSpan u1_BadSpan u2_BadSpan u3_BadSpan u5_BadSpan "ValueError.__new__"))
    (sa_BadSpan : PySem.W.findIn K (.ref C_BadSpan) "__setattr__" = some (some (.builtin "object.__setattr__")))
    (ga_BadSpan : PySem.W.findIn K (.ref C_BadSpan) "__getattribute__" = some (some (.builtin "BaseException.__getattribute__")))
    (gg_BadSpan : PySem.W.findIn K (.ref C_BadSpan) "__getattr__" = some none)
    (kc_BadSpan : PySem.W.keepIn K (.ref C_BadSpan) = true)
    (be_BadSpan : PySem.W.subIn K (.ref C_BadSpan) (.type "BaseException") = some true)
    (ty_BadSpan : PySem.W.typeIn K (.ref C_BadSpan) = some (.type "type"))
    (hd_BadSpan : PySem.W.hasDictIn K C_BadSpan = true)
    (cl_BadSpan : PySem.W.findIn K (.ref C_BadSpan) "__class__" = some (some (.builtin "object.__class__")))
    (ob_BadSpan : PySem.W.mroIn K C_BadSpan (.type "object") = some true)
    (sb_BadSpan_HooksError : PySem.W.subIn K (.ref C_BadSpan) (.ref C_HooksError) = some true)
    (n_BadSpan_init : PySem.W.findIn K (.ref C_BadSpan) "__init__" = some (some (.ref a_BadSpan_init)))
    (t_BadSpan_init : PySem.W.typeIn K (.ref a_BadSpan_init) = some (.type "function"))
    (l_BadSpan_init : K.lookup a_BadSpan_init = some ⟨oc_BadSpan_init, od_BadSpan_init, .func (PySem.W.fnOf "__init__" "BadSpan.__init__" (defArgs s_BadSpan_init) (defBody s_BadSpan_init) (defScope s_BadSpan_init) .none kV_BadSpan_init dc_BadSpan_init pm_BadSpan_init an_BadSpan_init cd_BadSpan_init ct_BadSpan_init), sl_BadSpan_init⟩)
    (c_BadSpan_init : PySem.W.codeIn K cd_BadSpan_init "BadSpan.__init__" = true)
    (p_BadSpan_init : PySem.W.keepIn K (.ref a_BadSpan_init) = true)
    (nf_BadSpan_bar : PySem.W.findIn K (.ref C_BadSpan) "bar" = some none)
    (n_NotSquare : PySem.W.nsIn K mainGlobals "NotSquare" = some (some (.ref C_NotSquare)))
    (x_NotSquare : K.lookup C_NotSquare = some (excClassObj nm_NotSquare q_NotSquare C_NotSquare N_NotSquare bs_NotSquare [.ref C_HooksError, .type "ValueError", .type "Exception", .type "BaseException", .type "object"] true sn_NotSquare sub_NotSquare ab_NotSquare col_NotSquare dd_NotSquare u0_NotSquare u1_NotSquare u2_NotSquare u3_NotSquare u5_NotSquare "ValueError.__new__"))
    (sa_NotSquare : PySem.W.findIn K (.ref C_NotSquare) "__setattr__" = some (some (.builtin "object.__setattr__")))
    (ga_NotSquare : PySem.W.findIn K (.ref C_NotSquare) "__getattribute__" = some (some (.builtin "BaseException.__getattribute__")))
    (gg_NotSquare : PySem.W.findIn K (.ref C_NotSquare) "__getattr__" = some none)
    (kc_NotSquare : PySem.W.keepIn K (.ref C_NotSquare) = true)
    (be_NotSquare : PySem.W.subIn K (.ref C_NotSquare) (.type "BaseException") = some true)
    (ty_NotSquare : PySem.W.typeIn K (.ref C_NotSquare) = some (.type "type"))
    (hd_NotSquare : PySem.W.hasDictIn K C_NotSquare = true)
    (cl_NotSquare : PySem.W.findIn K (.ref C_NotSquare) "__class__" = some (some (.builtin "object.__class__")))
    (ob_NotSquare : PySem.W.mroIn K C_NotSquare (.type "object") = some true)
    (sb_NotSquare_HooksError : PySem.W.subIn K (.ref C_NotSquare) (.ref C_HooksError) = some true)
    (n_NotSquare_init : PySem.W.findIn K (.ref C_NotSquare) "__init__" = some (some (.ref a_NotSquare_init)))
    (t_NotSquare_init : PySem.W.typeIn K (.ref a_NotSquare_init) = some (.type "function"))
    (l_NotSquare_init : K.lookup a_NotSquare_init = some ⟨oc_NotSquare_init, od_NotSquare_init, .func (PySem.W.fnOf "__init__" "NotSquare.__init__" (defArgs s_NotSquare_init) (defBody s_NotSquare_init) (defScope s_NotSquare_init) .none kV_NotSquare_init dc_NotSquare_init pm_NotSquare_init an_NotSquare_init cd_NotSquare_init ct_NotSquare_init), sl_NotSquare_init⟩)
    (c_NotSquare_init : PySem.W.codeIn K cd_NotSquare_init "NotSquare.__init__" = true)
    (p_NotSquare_init : PySem.W.keepIn K (.ref a_NotSquare_init) = true)
    (nf_NotSquare_bars : PySem.W.findIn K (.ref C_NotSquare) "bars" = some none)
    (nf_NotSquare_wanted : PySem.W.findIn K (.ref C_NotSquare) "wanted" = some none)
    (n_Loose : PySem.W.nsIn K mainGlobals "Loose" = some (some (.ref C_Loose)))
    (x_Loose : K.lookup C_Loose = some (excClassObj nm_Loose q_Loose C_Loose N_Loose bs_Loose [.ref C_HooksError, .type "ValueError", .type "Exception", .type "BaseException", .type "object"] true sn_Loose sub_Loose ab_Loose col_Loose dd_Loose u0_Loose u1_Loose u2_Loose u3_Loose u5_Loose "ValueError.__new__"))
    (sa_Loose : PySem.W.findIn K (.ref C_Loose) "__setattr__" = some (some (.builtin "object.__setattr__")))
    (ga_Loose : PySem.W.findIn K (.ref C_Loose) "__getattribute__" = some (some (.builtin "BaseException.__getattribute__")))
    (gg_Loose : PySem.W.findIn K (.ref C_Loose) "__getattr__" = some none)
    (kc_Loose : PySem.W.keepIn K (.ref C_Loose) = true)
    (be_Loose : PySem.W.subIn K (.ref C_Loose) (.type "BaseException") = some true)
    (ty_Loose : PySem.W.typeIn K (.ref C_Loose) = some (.type "type"))
    (hd_Loose : PySem.W.hasDictIn K C_Loose = true)
    (cl_Loose : PySem.W.findIn K (.ref C_Loose) "__class__" = some (some (.builtin "object.__class__")))
    (ob_Loose : PySem.W.mroIn K C_Loose (.type "object") = some true)
    (xi_Loose : PySem.W.excIn K C_Loose [.type "ValueError", .type "Exception", .type "BaseException", .type "object"] "ValueError.__new__" = true)
    (ss_Loose : PySem.W.subIn K (.ref C_Loose) (.ref C_Loose) = some true)
    (sb_Loose_HooksError : PySem.W.subIn K (.ref C_Loose) (.ref C_HooksError) = some true)
    (n_BadPlace : PySem.W.nsIn K mainGlobals "BadPlace" = some (some (.ref C_BadPlace)))
    (x_BadPlace : K.lookup C_BadPlace = some (excClassObj nm_BadPlace q_BadPlace C_BadPlace N_BadPlace bs_BadPlace [.ref C_HooksError, .type "ValueError", .type "Exception", .type "BaseException", .type "object"] true sn_BadPlace sub_BadPlace ab_BadPlace col_BadPlace dd_BadPlace u0_BadPlace u1_BadPlace u2_BadPlace u3_BadPlace u5_BadPlace "ValueError.__new__"))
    (sa_BadPlace : PySem.W.findIn K (.ref C_BadPlace) "__setattr__" = some (some (.builtin "object.__setattr__")))
    (ga_BadPlace : PySem.W.findIn K (.ref C_BadPlace) "__getattribute__" = some (some (.builtin "BaseException.__getattribute__")))
    (gg_BadPlace : PySem.W.findIn K (.ref C_BadPlace) "__getattr__" = some none)
    (kc_BadPlace : PySem.W.keepIn K (.ref C_BadPlace) = true)
    (be_BadPlace : PySem.W.subIn K (.ref C_BadPlace) (.type "BaseException") = some true)
    (ty_BadPlace : PySem.W.typeIn K (.ref C_BadPlace) = some (.type "type"))
    (hd_BadPlace : PySem.W.hasDictIn K C_BadPlace = true)
    (cl_BadPlace : PySem.W.findIn K (.ref C_BadPlace) "__class__" = some (some (.builtin "object.__class__")))
    (ob_BadPlace : PySem.W.mroIn K C_BadPlace (.type "object") = some true)
    (sb_BadPlace_HooksError : PySem.W.subIn K (.ref C_BadPlace) (.ref C_HooksError) = some true)
    (n_BadPlace_init : PySem.W.findIn K (.ref C_BadPlace) "__init__" = some (some (.ref a_BadPlace_init)))
    (t_BadPlace_init : PySem.W.typeIn K (.ref a_BadPlace_init) = some (.type "function"))
    (l_BadPlace_init : K.lookup a_BadPlace_init = some ⟨oc_BadPlace_init, od_BadPlace_init, .func (PySem.W.fnOf "__init__" "BadPlace.__init__" (defArgs s_BadPlace_init) (defBody s_BadPlace_init) (defScope s_BadPlace_init) .none kV_BadPlace_init dc_BadPlace_init pm_BadPlace_init an_BadPlace_init cd_BadPlace_init ct_BadPlace_init), sl_BadPlace_init⟩)
    (c_BadPlace_init : PySem.W.codeIn K cd_BadPlace_init "BadPlace.__init__" = true)
    (p_BadPlace_init : PySem.W.keepIn K (.ref a_BadPlace_init) = true)
    (nf_BadPlace_bar : PySem.W.findIn K (.ref C_BadPlace) "bar" = some none)
    (n_NotLoose : PySem.W.nsIn K mainGlobals "NotLoose" = some (some (.ref C_NotLoose)))
    (x_NotLoose : K.lookup C_NotLoose = some (excClassObj nm_NotLoose q_NotLoose C_NotLoose N_NotLoose bs_NotLoose [.ref C_HooksError, .type "ValueError", .type "Exception", .type "BaseException", .type "object"] true sn_NotLoose sub_NotLoose ab_NotLoose col_NotLoose dd_NotLoose u0_NotLoose u1_NotLoose u2_NotLoose u3_NotLoose u5_NotLoose "ValueError.__new__"))
    (sa_NotLoose : PySem.W.findIn K (.ref C_NotLoose) "__setattr__" = some (some (.builtin "object.__setattr__")))
    (ga_NotLoose : PySem.W.findIn K (.ref C_NotLoose) "__getattribute__" = some (some (.builtin "BaseException.__getattribute__")))
    (gg_NotLoose : PySem.W.findIn K (.ref C_NotLoose) "__getattr__" = some none)
    (kc_NotLoose : PySem.W.keepIn K (.ref C_NotLoose) = true)
    (be_NotLoose : PySem.W.subIn K (.ref C_NotLoose) (.type "BaseException") = some true)
    (ty_NotLoose : PySem.W.typeIn K (.ref C_NotLoose) = some (.type "type"))
    (hd_NotLoose : PySem.W.hasDictIn K C_NotLoose = true)
    (cl_NotLoose : PySem.W.findIn K (.ref C_NotLoose) "__class__" = some (some (.builtin "object.__class__")))
    (ob_NotLoose : PySem.W.mroIn K C_NotLoose (.type "object") = some true)
    (xi_NotLoose : PySem.W.excIn K C_NotLoose [.type "ValueError", .type "Exception", .type "BaseException", .type "object"] "ValueError.__new__" = true)
    (ss_NotLoose : PySem.W.subIn K (.ref C_NotLoose) (.ref C_NotLoose) = some true)
    (sb_NotLoose_HooksError : PySem.W.subIn K (.ref C_NotLoose) (.ref C_HooksError) = some true)
    (dc_Loose_NotLoose : C_Loose ≠ C_NotLoose)
    (sb_Loose_NotLoose : PySem.W.subIn K (.ref C_Loose) (.ref C_NotLoose) = some false)
    (dc_Loose_BadCount : C_Loose ≠ C_BadCount)
    (sb_Loose_BadCount : PySem.W.subIn K (.ref C_Loose) (.ref C_BadCount) = some false)
    (dc_Loose_BadPlace : C_Loose ≠ C_BadPlace)
    (sb_Loose_BadPlace : PySem.W.subIn K (.ref C_Loose) (.ref C_BadPlace) = some false)
    (dc_NotLoose_Loose : C_NotLoose ≠ C_Loose)
    (sb_NotLoose_Loose : PySem.W.subIn K (.ref C_NotLoose) (.ref C_Loose) = some false)
    (dc_NotLoose_BadCount : C_NotLoose ≠ C_BadCount)
    (sb_NotLoose_BadCount : PySem.W.subIn K (.ref C_NotLoose) (.ref C_BadCount) = some false)
    (dc_NotLoose_BadPlace : C_NotLoose ≠ C_BadPlace)
    (sb_NotLoose_BadPlace : PySem.W.subIn K (.ref C_NotLoose) (.ref C_BadPlace) = some false)
    (dc_BadCount_Loose : C_BadCount ≠ C_Loose)
    (sb_BadCount_Loose : PySem.W.subIn K (.ref C_BadCount) (.ref C_Loose) = some false)
    (dc_BadCount_NotLoose : C_BadCount ≠ C_NotLoose)
    (sb_BadCount_NotLoose : PySem.W.subIn K (.ref C_BadCount) (.ref C_NotLoose) = some false)
    (dc_BadCount_BadPlace : C_BadCount ≠ C_BadPlace)
    (sb_BadCount_BadPlace : PySem.W.subIn K (.ref C_BadCount) (.ref C_BadPlace) = some false)
    (dc_BadPlace_Loose : C_BadPlace ≠ C_Loose)
    (sb_BadPlace_Loose : PySem.W.subIn K (.ref C_BadPlace) (.ref C_Loose) = some false)
    (dc_BadPlace_NotLoose : C_BadPlace ≠ C_NotLoose)
    (sb_BadPlace_NotLoose : PySem.W.subIn K (.ref C_BadPlace) (.ref C_NotLoose) = some false)
    (dc_BadPlace_BadCount : C_BadPlace ≠ C_BadCount)
    (sb_BadPlace_BadCount : PySem.W.subIn K (.ref C_BadPlace) (.ref C_BadCount) = some false)
    (ci_Stand : PySem.W.findIn K (.ref C_Stand) "__class__" = some (some (.builtin "object.__class__")))
    (z_abs : PySem.W.nsIn K mainGlobals "abs" = some none)
    (z_len : PySem.W.nsIn K mainGlobals "len" = some none)
    (z_range : PySem.W.nsIn K mainGlobals "range" = some none)
    (z_tuple : PySem.W.nsIn K mainGlobals "tuple" = some none)
    (z_list : PySem.W.nsIn K mainGlobals "list" = some none)
    (z_dict : PySem.W.nsIn K mainGlobals "dict" = some none)
    (z_sorted : PySem.W.nsIn K mainGlobals "sorted" = some none)
    (z_enumerate : PySem.W.nsIn K mainGlobals "enumerate" = some none)
    (z_zip : PySem.W.nsIn K mainGlobals "zip" = some none)
    (z_min : PySem.W.nsIn K mainGlobals "min" = some none)
    (z_max : PySem.W.nsIn K mainGlobals "max" = some none)
    (z_all : PySem.W.nsIn K mainGlobals "all" = some none)
    (z_any : PySem.W.nsIn K mainGlobals "any" = some none)
    (z_int : PySem.W.nsIn K mainGlobals "int" = some none)
    (z_isinstance : PySem.W.nsIn K mainGlobals "isinstance" = some none)
    (z_type : PySem.W.nsIn K mainGlobals "type" = some none)
    (z_set : PySem.W.nsIn K mainGlobals "set" = some none)
    (z_sum : PySem.W.nsIn K mainGlobals "sum" = some none)
    (v_gcd : PySem.W.nsIn K mainGlobals "gcd" = some (some (.builtin "math.gcd")))
    (v_LEAST_RODS : PySem.W.nsIn K mainGlobals "LEAST_RODS" = some (some (.int 3 t_LEAST_RODS)))
    (v_MOST_RODS : PySem.W.nsIn K mainGlobals "MOST_RODS" = some (some (.int 10 t_MOST_RODS)))
    (v_MOST_BARS : PySem.W.nsIn K mainGlobals "MOST_BARS" = some (some (.int 8 t_MOST_BARS)))
    (v_MOST_HEIGHT : PySem.W.nsIn K mainGlobals "MOST_HEIGHT" = some (some (.int 1000000 t_MOST_HEIGHT)))
    (v_MOST_LENGTH : PySem.W.nsIn K mainGlobals "MOST_LENGTH" = some (some (.int 1000000 t_MOST_LENGTH)))
    : Tx K mg := {
  a_divisor := a_divisor,
  fd_divisor := _,
  F_divisor := fun_mk (st := s_divisor) l_divisor c_divisor p_divisor,
  b_divisor := (fun_mk (st := s_divisor) l_divisor c_divisor p_divisor).binds (ps := ["numbers"]) fun _ _ _ _ _ _ us hl => match us, hl with | [_], _ => rfl,
  m_divisor := PySem.W.mg_of X G n_divisor,
  a_lowest := a_lowest,
  fd_lowest := _,
  F_lowest := fun_mk (st := s_lowest) l_lowest c_lowest p_lowest,
  b_lowest := (fun_mk (st := s_lowest) l_lowest c_lowest p_lowest).binds (ps := ["tops", "bottom"]) fun _ _ _ _ _ _ us hl => match us, hl with | [_, _], _ => rfl,
  m_lowest := PySem.W.mg_of X G n_lowest,
  a_check_places := a_check_places,
  fd_check_places := _,
  F_check_places := fun_mk (st := s_check_places) l_check_places c_check_places p_check_places,
  b_check_places := (fun_mk (st := s_check_places) l_check_places c_check_places p_check_places).binds (ps := ["web", "places"]) fun _ _ _ _ _ _ us hl => match us, hl with | [_, _], _ => rfl,
  m_check_places := PySem.W.mg_of X G n_check_places,
  a_bar_rows := a_bar_rows,
  fd_bar_rows := _,
  F_bar_rows := fun_mk (st := s_bar_rows) l_bar_rows c_bar_rows p_bar_rows,
  b_bar_rows := (fun_mk (st := s_bar_rows) l_bar_rows c_bar_rows p_bar_rows).binds (ps := ["web", "numbers", "parts"]) fun _ _ _ _ _ _ us hl => match us, hl with | [_, _, _], _ => rfl,
  m_bar_rows := PySem.W.mg_of X G n_bar_rows,
  a_determinant_at := a_determinant_at,
  fd_determinant_at := _,
  F_determinant_at := fun_mk (st := s_determinant_at) l_determinant_at c_determinant_at p_determinant_at,
  b_determinant_at := (fun_mk (st := s_determinant_at) l_determinant_at c_determinant_at p_determinant_at).binds (ps := ["web", "numbers", "parts"]) fun _ _ _ _ _ _ us hl => match us, hl with | [_, _, _], _ => rfl,
  m_determinant_at := PySem.W.mg_of X G n_determinant_at,
  a_heights_at := a_heights_at,
  fd_heights_at := _,
  F_heights_at := fun_mk (st := s_heights_at) l_heights_at c_heights_at p_heights_at,
  b_heights_at := (fun_mk (st := s_heights_at) l_heights_at c_heights_at p_heights_at).binds (ps := ["web", "numbers", "parts"]) fun _ _ _ _ _ _ us hl => match us, hl with | [_, _, _], _ => rfl,
  m_heights_at := PySem.W.mg_of X G n_heights_at,
  a_move_at := a_move_at,
  fd_move_at := _,
  F_move_at := fun_mk (st := s_move_at) l_move_at c_move_at p_move_at,
  b_move_at := (fun_mk (st := s_move_at) l_move_at c_move_at p_move_at).binds (ps := ["web", "numbers", "parts"]) fun _ _ _ _ _ _ us hl => match us, hl with | [_, _, _], _ => rfl,
  m_move_at := PySem.W.mg_of X G n_move_at,
  a_table := a_table,
  fd_table := _,
  F_table := fun_mk (st := s_table) l_table c_table p_table,
  b_table := (fun_mk (st := s_table) l_table c_table p_table).binds (ps := ["web", "numbers", "parts"]) fun _ _ _ _ _ _ us hl => match us, hl with | [_, _, _], _ => rfl,
  m_table := PySem.W.mg_of X G n_table,
  a_asked := a_asked,
  fd_asked := _,
  F_asked := fun_mk (st := s_asked) l_asked c_asked p_asked,
  b_asked := (fun_mk (st := s_asked) l_asked c_asked p_asked).binds (ps := ["web", "numbers", "parts"]) fun _ _ _ _ _ _ us hl => match us, hl with | [_, _, _], _ => rfl,
  m_asked := PySem.W.mg_of X G n_asked,
  a_cleared := a_cleared,
  fd_cleared := _,
  F_cleared := fun_mk (st := s_cleared) l_cleared c_cleared p_cleared,
  b_cleared := (fun_mk (st := s_cleared) l_cleared c_cleared p_cleared).binds (ps := ["rows", "width"]) fun _ _ _ _ _ _ us hl => match us, hl with | [_, _], _ => rfl,
  m_cleared := PySem.W.mg_of X G n_cleared,
  a_swapped := a_swapped,
  fd_swapped := _,
  F_swapped := fun_mk (st := s_swapped) l_swapped c_swapped p_swapped,
  b_swapped := (fun_mk (st := s_swapped) l_swapped c_swapped p_swapped).binds (ps := ["rows", "at", "other"]) fun _ _ _ _ _ _ us hl => match us, hl with | [_, _, _], _ => rfl,
  m_swapped := PySem.W.mg_of X G n_swapped,
  a_cleared_of := a_cleared_of,
  fd_cleared_of := _,
  F_cleared_of := fun_mk (st := s_cleared_of) l_cleared_of c_cleared_of p_cleared_of,
  b_cleared_of := (fun_mk (st := s_cleared_of) l_cleared_of c_cleared_of p_cleared_of).binds (ps := ["rows", "at", "column", "shared"]) fun _ _ _ _ _ _ us hl => match us, hl with | [_, _, _, _], _ => rfl,
  m_cleared_of := PySem.W.mg_of X G n_cleared_of,
  a_determinant := a_determinant,
  fd_determinant := _,
  F_determinant := fun_mk (st := s_determinant) l_determinant c_determinant p_determinant,
  b_determinant := (fun_mk (st := s_determinant) l_determinant c_determinant p_determinant).binds (ps := ["web", "places"]) fun _ _ _ _ _ _ us hl => match us, hl with | [_, _], _ => rfl,
  m_determinant := PySem.W.mg_of X G n_determinant,
  a_stand := a_stand,
  fd_stand := _,
  F_stand := fun_mk (st := s_stand) l_stand c_stand p_stand,
  b_stand := (fun_mk (st := s_stand) l_stand c_stand p_stand).binds (ps := ["web", "places"]) fun _ _ _ _ _ _ us hl => match us, hl with | [_, _], _ => rfl,
  m_stand := PySem.W.mg_of X G n_stand,
  a_move := a_move,
  fd_move := _,
  F_move := fun_mk (st := s_move) l_move c_move p_move,
  b_move := (fun_mk (st := s_move) l_move c_move p_move).binds (ps := ["web", "places"]) fun _ _ _ _ _ _ us hl => match us, hl with | [_, _], _ => rfl,
  m_move := PySem.W.mg_of X G n_move,
  a_check_rods := a_check_rods,
  fd_check_rods := _,
  F_check_rods := fun_mk (st := s_check_rods) l_check_rods c_check_rods p_check_rods,
  b_check_rods := (fun_mk (st := s_check_rods) l_check_rods c_check_rods p_check_rods).binds (ps := ["rods", "held"]) fun _ _ _ _ _ _ us hl => match us, hl with | [_, _], _ => rfl,
  m_check_rods := PySem.W.mg_of X G n_check_rods,
  a_check_bars := a_check_bars,
  fd_check_bars := _,
  F_check_bars := fun_mk (st := s_check_bars) l_check_bars c_check_bars p_check_bars,
  b_check_bars := (fun_mk (st := s_check_bars) l_check_bars c_check_bars p_check_bars).binds (ps := ["rods", "held", "bars"]) fun _ _ _ _ _ _ us hl => match us, hl with | [_, _, _], _ => rfl,
  m_check_bars := PySem.W.mg_of X G n_check_bars,
  a_check_bar := a_check_bar,
  fd_check_bar := _,
  F_check_bar := fun_mk (st := s_check_bar) l_check_bar c_check_bar p_check_bar,
  b_check_bar := (fun_mk (st := s_check_bar) l_check_bar c_check_bar p_check_bar).binds (ps := ["rods", "number", "bar"]) fun _ _ _ _ _ _ us hl => match us, hl with | [_, _, _], _ => rfl,
  m_check_bar := PySem.W.mg_of X G n_check_bar,
  a_l_state := a_l_state,
  fd_l_state := _,
  F_l_state := fun_mk (st := s_l_state) l_l_state c_l_state p_l_state,
  b_l_state := (fun_mk (st := s_l_state) l_l_state c_l_state p_l_state).binds (ps := ["_law_source"]) fun _ _ _ _ _ _ us hl => match us, hl with | [_], _ => rfl,
  m_l_state := PySem.W.mg_of X G n_l_state,
  a_l_digit := a_l_digit,
  fd_l_digit := _,
  F_l_digit := fun_mk (st := s_l_digit) l_l_digit c_l_digit p_l_digit,
  b_l_digit := (fun_mk (st := s_l_digit) l_l_digit c_l_digit p_l_digit).binds (ps := ["_law_state_here", "_law_base"]) fun _ _ _ _ _ _ us hl => match us, hl with | [_, _], _ => rfl,
  m_l_digit := PySem.W.mg_of X G n_l_digit,
  a_l_bar := a_l_bar,
  fd_l_bar := _,
  F_l_bar := fun_mk (st := s_l_bar) l_l_bar c_l_bar p_l_bar,
  b_l_bar := (fun_mk (st := s_l_bar) l_l_bar c_l_bar p_l_bar).binds (ps := ["_law_s", "_law_rods", "_law_most", "_law_hook"]) fun _ _ _ _ _ _ us hl => match us, hl with | [_, _, _, _], _ => rfl,
  m_l_bar := PySem.W.mg_of X G n_l_bar,
  a_l_web := a_l_web,
  fd_l_web := _,
  F_l_web := fun_mk (st := s_l_web) l_l_web c_l_web p_l_web,
  b_l_web := (fun_mk (st := s_l_web) l_l_web c_l_web p_l_web).binds (ps := ["_law_s", "_law_count", "_law_most"]) fun _ _ _ _ _ _ us hl => match us, hl with | [_, _, _], _ => rfl,
  m_l_web := PySem.W.mg_of X G n_l_web,
  a_l_made := a_l_made,
  fd_l_made := _,
  F_l_made := fun_mk (st := s_l_made) l_l_made c_l_made p_l_made,
  b_l_made := (fun_mk (st := s_l_made) l_l_made c_l_made p_l_made).binds (ps := ["_law_web_here"]) fun _ _ _ _ _ _ us hl => match us, hl with | [_], _ => rfl,
  m_l_made := PySem.W.mg_of X G n_l_made,
  a_l_keeps := a_l_keeps,
  fd_l_keeps := _,
  F_l_keeps := fun_mk (st := s_l_keeps) l_l_keeps c_l_keeps p_l_keeps,
  b_l_keeps := (fun_mk (st := s_l_keeps) l_l_keeps c_l_keeps p_l_keeps).binds (ps := ["_law_web_here", "_law_numbers", "_law_share", "_law_tops"]) fun _ _ _ _ _ _ us hl => match us, hl with | [_, _, _, _], _ => rfl,
  m_l_keeps := PySem.W.mg_of X G n_l_keeps,
  a_l_said := a_l_said,
  fd_l_said := _,
  F_l_said := fun_mk (st := s_l_said) l_l_said c_l_said p_l_said,
  b_l_said := (fun_mk (st := s_l_said) l_l_said c_l_said p_l_said).binds (ps := ["_law_ask"]) fun _ _ _ _ _ _ us hl => match us, hl with | [_], _ => rfl,
  m_l_said := PySem.W.mg_of X G n_l_said,
  a_l_common := a_l_common,
  fd_l_common := _,
  F_l_common := fun_mk (st := s_l_common) l_l_common c_l_common p_l_common,
  b_l_common := (fun_mk (st := s_l_common) l_l_common c_l_common p_l_common).binds (ps := ["_law_numbers"]) fun _ _ _ _ _ _ us hl => match us, hl with | [_], _ => rfl,
  m_l_common := PySem.W.mg_of X G n_l_common,
  a_l_anywhere := a_l_anywhere,
  fd_l_anywhere := _,
  F_l_anywhere := fun_mk (st := s_l_anywhere) l_l_anywhere c_l_anywhere p_l_anywhere,
  b_l_anywhere := (fun_mk (st := s_l_anywhere) l_l_anywhere c_l_anywhere p_l_anywhere).binds (ps := ["_law_s", "_law_bars", "_law_share"]) fun _ _ _ _ _ _ us hl => match us, hl with | [_, _, _], _ => rfl,
  m_l_anywhere := PySem.W.mg_of X G n_l_anywhere,
  a_l_stand_right := a_l_stand_right,
  fd_l_stand_right := _,
  F_l_stand_right := fun_mk (st := s_l_stand_right) l_l_stand_right c_l_stand_right p_l_stand_right,
  b_l_stand_right := (fun_mk (st := s_l_stand_right) l_l_stand_right c_l_stand_right p_l_stand_right).binds (ps := ["_law_web_here", "_law_numbers", "_law_share", "_law_found"]) fun _ _ _ _ _ _ us hl => match us, hl with | [_, _, _, _], _ => rfl,
  m_l_stand_right := PySem.W.mg_of X G n_l_stand_right,
  a_l_move_right := a_l_move_right,
  fd_l_move_right := _,
  F_l_move_right := fun_mk (st := s_l_move_right) l_l_move_right c_l_move_right p_l_move_right,
  b_l_move_right := (fun_mk (st := s_l_move_right) l_l_move_right c_l_move_right p_l_move_right).binds (ps := ["_law_web_here", "_law_numbers", "_law_share", "_law_found"]) fun _ _ _ _ _ _ us hl => match us, hl with | [_, _, _, _], _ => rfl,
  m_l_move_right := PySem.W.mg_of X G n_l_move_right,
  a_l_odd_right := a_l_odd_right,
  fd_l_odd_right := _,
  F_l_odd_right := fun_mk (st := s_l_odd_right) l_l_odd_right c_l_odd_right p_l_odd_right,
  b_l_odd_right := (fun_mk (st := s_l_odd_right) l_l_odd_right c_l_odd_right p_l_odd_right).binds (ps := ["_law_s", "_law_web_here", "_law_own"]) fun _ _ _ _ _ _ us hl => match us, hl with | [_, _, _], _ => rfl,
  m_l_odd_right := PySem.W.mg_of X G n_l_odd_right,
  a_law := a_law,
  fd_law := _,
  F_law := fun_mk (st := s_law) l_law c_law p_law,
  b_law := (fun_mk (st := s_law) l_law c_law p_law).binds (ps := ["_law_script"]) fun _ _ _ _ _ _ us hl => match us, hl with | [_], _ => rfl,
  m_law := PySem.W.mg_of X G n_law,
  C_Bar := C_Bar,
  m_Bar := PySem.W.mg_of X G n_Bar,
  c_Bar := ⟨pg_Bar, hd_Bar, po_Bar, sa_Bar⟩,
  mk_Bar := mk_Bar,
  nf_Bar_a := nf_Bar_a,
  nf_Bar_b := nf_Bar_b,
  nf_Bar_c := nf_Bar_c,
  nf_Bar_length := nf_Bar_length,
  nf_Bar_least := nf_Bar_least,
  nf_Bar_greatest := nf_Bar_greatest,
  a_Bar_init := a_Bar_init,
  fd_Bar_init := _,
  F_Bar_init := fun_mk (st := s_Bar_init) l_Bar_init c_Bar_init p_Bar_init,
  b_Bar_init := (fun_mk (st := s_Bar_init) l_Bar_init c_Bar_init p_Bar_init).binds (ps := ["self", "a", "b", "c", "length", "least", "greatest"]) fun _ _ _ _ _ _ us hl => match us, hl with | [_, _, _, _, _, _, _], _ => rfl,
  k_Bar := ⟨mk_Bar, n_Bar_init, i_Bar_init, kc_Bar⟩,
  a_Bar_eq := a_Bar_eq,
  fd_Bar_eq := _,
  F_Bar_eq := fun_mk (st := s_Bar_eq) l_Bar_eq c_Bar_eq p_Bar_eq,
  b_Bar_eq := (fun_mk (st := s_Bar_eq) l_Bar_eq c_Bar_eq p_Bar_eq).binds (ps := ["self", "other"]) fun _ _ _ _ _ _ us hl => match us, hl with | [_, _], _ => rfl,
  M_Bar_eq := ⟨n_Bar_eq, i_Bar_eq, p_Bar_eq⟩,
  ef_Bar := eqFacts_mk ea_NoneType_Bar eb_NoneType_Bar ea_bool_Bar eb_bool_Bar ea_int_Bar eb_int_Bar ea_str_Bar eb_str_Bar ea_list_Bar eb_list_Bar ea_tuple_Bar eb_tuple_Bar ea_dict_Bar eb_dict_Bar,
  ne_Bar := ⟨na_Bar, nb_Bar⟩,
  C_Web := C_Web,
  m_Web := PySem.W.mg_of X G n_Web,
  c_Web := ⟨pg_Web, hd_Web, po_Web, sa_Web⟩,
  mk_Web := mk_Web,
  nf_Web_rods := nf_Web_rods,
  nf_Web_bars := nf_Web_bars,
  nf_Web_held := nf_Web_held,
  a_Web_init := a_Web_init,
  fd_Web_init := _,
  F_Web_init := fun_mk (st := s_Web_init) l_Web_init c_Web_init p_Web_init,
  b_Web_init := (fun_mk (st := s_Web_init) l_Web_init c_Web_init p_Web_init).binds (ps := ["self", "rods", "held", "bars"]) fun _ _ _ _ _ _ us hl => match us, hl with | [_, _, _, _], _ => rfl,
  k_Web := ⟨mk_Web, n_Web_init, i_Web_init, kc_Web⟩,
  a_Web_held := a_Web_held,
  fd_Web_held := _,
  F_Web_held := fun_mk (st := s_Web_held) l_Web_held c_Web_held p_Web_held,
  b_Web_held := (fun_mk (st := s_Web_held) l_Web_held c_Web_held p_Web_held).binds (ps := ["self"]) fun _ _ _ _ _ _ us hl => match us, hl with | [_], _ => rfl,
  M_Web_held := ⟨n_Web_held, i_Web_held, p_Web_held⟩,
  a_Web_hanging := a_Web_hanging,
  fd_Web_hanging := _,
  F_Web_hanging := fun_mk (st := s_Web_hanging) l_Web_hanging c_Web_hanging p_Web_hanging,
  b_Web_hanging := (fun_mk (st := s_Web_hanging) l_Web_hanging c_Web_hanging p_Web_hanging).binds (ps := ["self"]) fun _ _ _ _ _ _ us hl => match us, hl with | [_], _ => rfl,
  M_Web_hanging := ⟨n_Web_hanging, i_Web_hanging, p_Web_hanging⟩,
  a_Web_eq := a_Web_eq,
  fd_Web_eq := _,
  F_Web_eq := fun_mk (st := s_Web_eq) l_Web_eq c_Web_eq p_Web_eq,
  b_Web_eq := (fun_mk (st := s_Web_eq) l_Web_eq c_Web_eq p_Web_eq).binds (ps := ["self", "other"]) fun _ _ _ _ _ _ us hl => match us, hl with | [_, _], _ => rfl,
  M_Web_eq := ⟨n_Web_eq, i_Web_eq, p_Web_eq⟩,
  ef_Web := eqFacts_mk ea_NoneType_Web eb_NoneType_Web ea_bool_Web eb_bool_Web ea_int_Web eb_int_Web ea_str_Web eb_str_Web ea_list_Web eb_list_Web ea_tuple_Web eb_tuple_Web ea_dict_Web eb_dict_Web,
  ne_Web := ⟨na_Web, nb_Web⟩,
  C_Places := C_Places,
  m_Places := PySem.W.mg_of X G n_Places,
  c_Places := ⟨pg_Places, hd_Places, po_Places, sa_Places⟩,
  mk_Places := mk_Places,
  nf_Places_numbers := nf_Places_numbers,
  nf_Places_parts := nf_Places_parts,
  a_Places_init := a_Places_init,
  fd_Places_init := _,
  F_Places_init := fun_mk (st := s_Places_init) l_Places_init c_Places_init p_Places_init,
  b_Places_init := (fun_mk (st := s_Places_init) l_Places_init c_Places_init p_Places_init).binds (ps := ["self", "numbers", "parts"]) fun _ _ _ _ _ _ us hl => match us, hl with | [_, _, _], _ => rfl,
  k_Places := ⟨mk_Places, n_Places_init, i_Places_init, kc_Places⟩,
  a_Places_eq := a_Places_eq,
  fd_Places_eq := _,
  F_Places_eq := fun_mk (st := s_Places_eq) l_Places_eq c_Places_eq p_Places_eq,
  b_Places_eq := (fun_mk (st := s_Places_eq) l_Places_eq c_Places_eq p_Places_eq).binds (ps := ["self", "other"]) fun _ _ _ _ _ _ us hl => match us, hl with | [_, _], _ => rfl,
  M_Places_eq := ⟨n_Places_eq, i_Places_eq, p_Places_eq⟩,
  ef_Places := eqFacts_mk ea_NoneType_Places eb_NoneType_Places ea_bool_Places eb_bool_Places ea_int_Places eb_int_Places ea_str_Places eb_str_Places ea_list_Places eb_list_Places ea_tuple_Places eb_tuple_Places ea_dict_Places eb_dict_Places,
  ne_Places := ⟨na_Places, nb_Places⟩,
  C_Stand := C_Stand,
  m_Stand := PySem.W.mg_of X G n_Stand,
  c_Stand := ⟨pg_Stand, hd_Stand, po_Stand, sa_Stand⟩,
  mk_Stand := mk_Stand,
  nf_Stand_tops := nf_Stand_tops,
  nf_Stand_bottom := nf_Stand_bottom,
  a_Stand_init := a_Stand_init,
  fd_Stand_init := _,
  F_Stand_init := fun_mk (st := s_Stand_init) l_Stand_init c_Stand_init p_Stand_init,
  b_Stand_init := (fun_mk (st := s_Stand_init) l_Stand_init c_Stand_init p_Stand_init).binds (ps := ["self", "tops", "bottom"]) fun _ _ _ _ _ _ us hl => match us, hl with | [_, _, _], _ => rfl,
  k_Stand := ⟨mk_Stand, n_Stand_init, i_Stand_init, kc_Stand⟩,
  a_Stand_eq := a_Stand_eq,
  fd_Stand_eq := _,
  F_Stand_eq := fun_mk (st := s_Stand_eq) l_Stand_eq c_Stand_eq p_Stand_eq,
  b_Stand_eq := (fun_mk (st := s_Stand_eq) l_Stand_eq c_Stand_eq p_Stand_eq).binds (ps := ["self", "other"]) fun _ _ _ _ _ _ us hl => match us, hl with | [_, _], _ => rfl,
  M_Stand_eq := ⟨n_Stand_eq, i_Stand_eq, p_Stand_eq⟩,
  ef_Stand := eqFacts_mk ea_NoneType_Stand eb_NoneType_Stand ea_bool_Stand eb_bool_Stand ea_int_Stand eb_int_Stand ea_str_Stand eb_str_Stand ea_list_Stand eb_list_Stand ea_tuple_Stand eb_tuple_Stand ea_dict_Stand eb_dict_Stand,
  ne_Stand := ⟨na_Stand, nb_Stand⟩,
  nfst_Bar_Bar := nfst_Bar_Bar,
  nfst_Bar_Web := nfst_Bar_Web,
  dc_Bar_Web := dc_Bar_Web,
  nfst_Bar_Places := nfst_Bar_Places,
  dc_Bar_Places := dc_Bar_Places,
  nfst_Bar_Stand := nfst_Bar_Stand,
  dc_Bar_Stand := dc_Bar_Stand,
  nfst_Web_Bar := nfst_Web_Bar,
  nfst_Web_Web := nfst_Web_Web,
  nfst_Web_Places := nfst_Web_Places,
  nfst_Web_Stand := nfst_Web_Stand,
  nfst_Places_Bar := nfst_Places_Bar,
  nfst_Places_Web := nfst_Places_Web,
  dc_Places_Web := dc_Places_Web,
  nfst_Places_Places := nfst_Places_Places,
  nfst_Places_Stand := nfst_Places_Stand,
  dc_Places_Stand := dc_Places_Stand,
  nfst_Stand_Bar := nfst_Stand_Bar,
  nfst_Stand_Web := nfst_Stand_Web,
  dc_Stand_Web := dc_Stand_Web,
  nfst_Stand_Places := nfst_Stand_Places,
  nfst_Stand_Stand := nfst_Stand_Stand,
  C_HooksError := C_HooksError,
  m_HooksError := PySem.W.mg_of X G n_HooksError,
  C_BadCount := C_BadCount,
  O_BadCount := ⟨⟨nm_BadCount, q_BadCount, N_BadCount, bs_BadCount, _, sn_BadCount, sub_BadCount, ab_BadCount, col_BadCount, dd_BadCount, u0_BadCount, u1_BadCount, u2_BadCount, u3_BadCount, u5_BadCount, x_BadCount, rfl⟩, sa_BadCount, be_BadCount, ty_BadCount, kc_BadCount⟩,
  m_BadCount := PySem.W.mg_of X G n_BadCount,
  isC_BadCount := ⟨ga_BadCount, gg_BadCount, be_BadCount, hd_BadCount, cl_BadCount, g_clsget, g_clstk, ob_BadCount⟩,
  xf_BadCount := ⟨ga_BadCount, gg_BadCount, be_BadCount, hd_BadCount⟩,
  exm_BadCount_HooksError := PySem.W.exm_ref be_HooksError hd_HooksError ty_HooksError sb_BadCount_HooksError,
  a_BadCount_init := a_BadCount_init,
  fd_BadCount_init := _,
  F_BadCount_init := fun_mk (st := s_BadCount_init) l_BadCount_init c_BadCount_init p_BadCount_init,
  b_BadCount_init := (fun_mk (st := s_BadCount_init) l_BadCount_init c_BadCount_init p_BadCount_init).binds (ps := ["self", "what", "count"]) fun _ _ _ _ _ _ us hl => match us, hl with | [_, _, _], _ => rfl,
  nf_BadCount_what := nf_BadCount_what,
  nf_BadCount_count := nf_BadCount_count,
  X_BadCount := ⟨⟨⟨nm_BadCount, q_BadCount, N_BadCount, bs_BadCount, _, sn_BadCount, sub_BadCount, ab_BadCount, col_BadCount, dd_BadCount, u0_BadCount, u1_BadCount, u2_BadCount, u3_BadCount, u5_BadCount, x_BadCount, rfl⟩, sa_BadCount, be_BadCount, ty_BadCount, kc_BadCount⟩, PySem.W.mg_of X G n_BadCount, n_BadCount_init, t_BadCount_init, (fun_mk (st := s_BadCount_init) l_BadCount_init c_BadCount_init p_BadCount_init).binds (ps := ["self", "what", "count"]) fun _ _ _ _ _ _ us hl => match us, hl with | [_, _, _], _ => rfl, ⟨ga_BadCount, gg_BadCount, be_BadCount, hd_BadCount, cl_BadCount, g_clsget, g_clstk, ob_BadCount⟩, ⟨ga_BadCount, gg_BadCount, be_BadCount, hd_BadCount⟩⟩,
  C_NoRod := C_NoRod,
  O_NoRod := ⟨⟨nm_NoRod, q_NoRod, N_NoRod, bs_NoRod, _, sn_NoRod, sub_NoRod, ab_NoRod, col_NoRod, dd_NoRod, u0_NoRod, u1_NoRod, u2_NoRod, u3_NoRod, u5_NoRod, x_NoRod, rfl⟩, sa_NoRod, be_NoRod, ty_NoRod, kc_NoRod⟩,
  m_NoRod := PySem.W.mg_of X G n_NoRod,
  isC_NoRod := ⟨ga_NoRod, gg_NoRod, be_NoRod, hd_NoRod, cl_NoRod, g_clsget, g_clstk, ob_NoRod⟩,
  xf_NoRod := ⟨ga_NoRod, gg_NoRod, be_NoRod, hd_NoRod⟩,
  exm_NoRod_HooksError := PySem.W.exm_ref be_HooksError hd_HooksError ty_HooksError sb_NoRod_HooksError,
  a_NoRod_init := a_NoRod_init,
  fd_NoRod_init := _,
  F_NoRod_init := fun_mk (st := s_NoRod_init) l_NoRod_init c_NoRod_init p_NoRod_init,
  b_NoRod_init := (fun_mk (st := s_NoRod_init) l_NoRod_init c_NoRod_init p_NoRod_init).binds (ps := ["self", "rod"]) fun _ _ _ _ _ _ us hl => match us, hl with | [_, _], _ => rfl,
  nf_NoRod_rod := nf_NoRod_rod,
  X_NoRod := ⟨⟨⟨nm_NoRod, q_NoRod, N_NoRod, bs_NoRod, _, sn_NoRod, sub_NoRod, ab_NoRod, col_NoRod, dd_NoRod, u0_NoRod, u1_NoRod, u2_NoRod, u3_NoRod, u5_NoRod, x_NoRod, rfl⟩, sa_NoRod, be_NoRod, ty_NoRod, kc_NoRod⟩, PySem.W.mg_of X G n_NoRod, n_NoRod_init, t_NoRod_init, (fun_mk (st := s_NoRod_init) l_NoRod_init c_NoRod_init p_NoRod_init).binds (ps := ["self", "rod"]) fun _ _ _ _ _ _ us hl => match us, hl with | [_, _], _ => rfl, ⟨ga_NoRod, gg_NoRod, be_NoRod, hd_NoRod, cl_NoRod, g_clsget, g_clstk, ob_NoRod⟩, ⟨ga_NoRod, gg_NoRod, be_NoRod, hd_NoRod⟩⟩,
  C_SameRod := C_SameRod,
  O_SameRod := ⟨⟨nm_SameRod, q_SameRod, N_SameRod, bs_SameRod, _, sn_SameRod, sub_SameRod, ab_SameRod, col_SameRod, dd_SameRod, u0_SameRod, u1_SameRod, u2_SameRod, u3_SameRod, u5_SameRod, x_SameRod, rfl⟩, sa_SameRod, be_SameRod, ty_SameRod, kc_SameRod⟩,
  m_SameRod := PySem.W.mg_of X G n_SameRod,
  isC_SameRod := ⟨ga_SameRod, gg_SameRod, be_SameRod, hd_SameRod, cl_SameRod, g_clsget, g_clstk, ob_SameRod⟩,
  xf_SameRod := ⟨ga_SameRod, gg_SameRod, be_SameRod, hd_SameRod⟩,
  exm_SameRod_HooksError := PySem.W.exm_ref be_HooksError hd_HooksError ty_HooksError sb_SameRod_HooksError,
  a_SameRod_init := a_SameRod_init,
  fd_SameRod_init := _,
  F_SameRod_init := fun_mk (st := s_SameRod_init) l_SameRod_init c_SameRod_init p_SameRod_init,
  b_SameRod_init := (fun_mk (st := s_SameRod_init) l_SameRod_init c_SameRod_init p_SameRod_init).binds (ps := ["self", "rod"]) fun _ _ _ _ _ _ us hl => match us, hl with | [_, _], _ => rfl,
  nf_SameRod_rod := nf_SameRod_rod,
  X_SameRod := ⟨⟨⟨nm_SameRod, q_SameRod, N_SameRod, bs_SameRod, _, sn_SameRod, sub_SameRod, ab_SameRod, col_SameRod, dd_SameRod, u0_SameRod, u1_SameRod, u2_SameRod, u3_SameRod, u5_SameRod, x_SameRod, rfl⟩, sa_SameRod, be_SameRod, ty_SameRod, kc_SameRod⟩, PySem.W.mg_of X G n_SameRod, n_SameRod_init, t_SameRod_init, (fun_mk (st := s_SameRod_init) l_SameRod_init c_SameRod_init p_SameRod_init).binds (ps := ["self", "rod"]) fun _ _ _ _ _ _ us hl => match us, hl with | [_, _], _ => rfl, ⟨ga_SameRod, gg_SameRod, be_SameRod, hd_SameRod, cl_SameRod, g_clsget, g_clstk, ob_SameRod⟩, ⟨ga_SameRod, gg_SameRod, be_SameRod, hd_SameRod⟩⟩,
  C_BadSpan := C_BadSpan,
  O_BadSpan := ⟨⟨nm_BadSpan, q_BadSpan, N_BadSpan, bs_BadSpan, _, sn_BadSpan, sub_BadSpan, ab_BadSpan, col_BadSpan, dd_BadSpan, u0_BadSpan, u1_BadSpan, u2_BadSpan, u3_BadSpan, u5_BadSpan, x_BadSpan, rfl⟩, sa_BadSpan, be_BadSpan, ty_BadSpan, kc_BadSpan⟩,
  m_BadSpan := PySem.W.mg_of X G n_BadSpan,
  isC_BadSpan := ⟨ga_BadSpan, gg_BadSpan, be_BadSpan, hd_BadSpan, cl_BadSpan, g_clsget, g_clstk, ob_BadSpan⟩,
  xf_BadSpan := ⟨ga_BadSpan, gg_BadSpan, be_BadSpan, hd_BadSpan⟩,
  exm_BadSpan_HooksError := PySem.W.exm_ref be_HooksError hd_HooksError ty_HooksError sb_BadSpan_HooksError,
  a_BadSpan_init := a_BadSpan_init,
  fd_BadSpan_init := _,
  F_BadSpan_init := fun_mk (st := s_BadSpan_init) l_BadSpan_init c_BadSpan_init p_BadSpan_init,
  b_BadSpan_init := (fun_mk (st := s_BadSpan_init) l_BadSpan_init c_BadSpan_init p_BadSpan_init).binds (ps := ["self", "bar"]) fun _ _ _ _ _ _ us hl => match us, hl with | [_, _], _ => rfl,
  nf_BadSpan_bar := nf_BadSpan_bar,
  X_BadSpan := ⟨⟨⟨nm_BadSpan, q_BadSpan, N_BadSpan, bs_BadSpan, _, sn_BadSpan, sub_BadSpan, ab_BadSpan, col_BadSpan, dd_BadSpan, u0_BadSpan, u1_BadSpan, u2_BadSpan, u3_BadSpan, u5_BadSpan, x_BadSpan, rfl⟩, sa_BadSpan, be_BadSpan, ty_BadSpan, kc_BadSpan⟩, PySem.W.mg_of X G n_BadSpan, n_BadSpan_init, t_BadSpan_init, (fun_mk (st := s_BadSpan_init) l_BadSpan_init c_BadSpan_init p_BadSpan_init).binds (ps := ["self", "bar"]) fun _ _ _ _ _ _ us hl => match us, hl with | [_, _], _ => rfl, ⟨ga_BadSpan, gg_BadSpan, be_BadSpan, hd_BadSpan, cl_BadSpan, g_clsget, g_clstk, ob_BadSpan⟩, ⟨ga_BadSpan, gg_BadSpan, be_BadSpan, hd_BadSpan⟩⟩,
  C_NotSquare := C_NotSquare,
  O_NotSquare := ⟨⟨nm_NotSquare, q_NotSquare, N_NotSquare, bs_NotSquare, _, sn_NotSquare, sub_NotSquare, ab_NotSquare, col_NotSquare, dd_NotSquare, u0_NotSquare, u1_NotSquare, u2_NotSquare, u3_NotSquare, u5_NotSquare, x_NotSquare, rfl⟩, sa_NotSquare, be_NotSquare, ty_NotSquare, kc_NotSquare⟩,
  m_NotSquare := PySem.W.mg_of X G n_NotSquare,
  isC_NotSquare := ⟨ga_NotSquare, gg_NotSquare, be_NotSquare, hd_NotSquare, cl_NotSquare, g_clsget, g_clstk, ob_NotSquare⟩,
  xf_NotSquare := ⟨ga_NotSquare, gg_NotSquare, be_NotSquare, hd_NotSquare⟩,
  exm_NotSquare_HooksError := PySem.W.exm_ref be_HooksError hd_HooksError ty_HooksError sb_NotSquare_HooksError,
  a_NotSquare_init := a_NotSquare_init,
  fd_NotSquare_init := _,
  F_NotSquare_init := fun_mk (st := s_NotSquare_init) l_NotSquare_init c_NotSquare_init p_NotSquare_init,
  b_NotSquare_init := (fun_mk (st := s_NotSquare_init) l_NotSquare_init c_NotSquare_init p_NotSquare_init).binds (ps := ["self", "bars", "wanted"]) fun _ _ _ _ _ _ us hl => match us, hl with | [_, _, _], _ => rfl,
  nf_NotSquare_bars := nf_NotSquare_bars,
  nf_NotSquare_wanted := nf_NotSquare_wanted,
  X_NotSquare := ⟨⟨⟨nm_NotSquare, q_NotSquare, N_NotSquare, bs_NotSquare, _, sn_NotSquare, sub_NotSquare, ab_NotSquare, col_NotSquare, dd_NotSquare, u0_NotSquare, u1_NotSquare, u2_NotSquare, u3_NotSquare, u5_NotSquare, x_NotSquare, rfl⟩, sa_NotSquare, be_NotSquare, ty_NotSquare, kc_NotSquare⟩, PySem.W.mg_of X G n_NotSquare, n_NotSquare_init, t_NotSquare_init, (fun_mk (st := s_NotSquare_init) l_NotSquare_init c_NotSquare_init p_NotSquare_init).binds (ps := ["self", "bars", "wanted"]) fun _ _ _ _ _ _ us hl => match us, hl with | [_, _, _], _ => rfl, ⟨ga_NotSquare, gg_NotSquare, be_NotSquare, hd_NotSquare, cl_NotSquare, g_clsget, g_clstk, ob_NotSquare⟩, ⟨ga_NotSquare, gg_NotSquare, be_NotSquare, hd_NotSquare⟩⟩,
  C_Loose := C_Loose,
  O_Loose := ⟨⟨nm_Loose, q_Loose, N_Loose, bs_Loose, _, sn_Loose, sub_Loose, ab_Loose, col_Loose, dd_Loose, u0_Loose, u1_Loose, u2_Loose, u3_Loose, u5_Loose, x_Loose, rfl⟩, sa_Loose, be_Loose, ty_Loose, kc_Loose⟩,
  m_Loose := PySem.W.mg_of X G n_Loose,
  isC_Loose := ⟨ga_Loose, gg_Loose, be_Loose, hd_Loose, cl_Loose, g_clsget, g_clstk, ob_Loose⟩,
  xi_Loose := xi_Loose,
  exs_Loose := PySem.W.exm_ref be_Loose hd_Loose ty_Loose ss_Loose,
  xf_Loose := ⟨ga_Loose, gg_Loose, be_Loose, hd_Loose⟩,
  exm_Loose_HooksError := PySem.W.exm_ref be_HooksError hd_HooksError ty_HooksError sb_Loose_HooksError,
  C_BadPlace := C_BadPlace,
  O_BadPlace := ⟨⟨nm_BadPlace, q_BadPlace, N_BadPlace, bs_BadPlace, _, sn_BadPlace, sub_BadPlace, ab_BadPlace, col_BadPlace, dd_BadPlace, u0_BadPlace, u1_BadPlace, u2_BadPlace, u3_BadPlace, u5_BadPlace, x_BadPlace, rfl⟩, sa_BadPlace, be_BadPlace, ty_BadPlace, kc_BadPlace⟩,
  m_BadPlace := PySem.W.mg_of X G n_BadPlace,
  isC_BadPlace := ⟨ga_BadPlace, gg_BadPlace, be_BadPlace, hd_BadPlace, cl_BadPlace, g_clsget, g_clstk, ob_BadPlace⟩,
  xf_BadPlace := ⟨ga_BadPlace, gg_BadPlace, be_BadPlace, hd_BadPlace⟩,
  exm_BadPlace_HooksError := PySem.W.exm_ref be_HooksError hd_HooksError ty_HooksError sb_BadPlace_HooksError,
  a_BadPlace_init := a_BadPlace_init,
  fd_BadPlace_init := _,
  F_BadPlace_init := fun_mk (st := s_BadPlace_init) l_BadPlace_init c_BadPlace_init p_BadPlace_init,
  b_BadPlace_init := (fun_mk (st := s_BadPlace_init) l_BadPlace_init c_BadPlace_init p_BadPlace_init).binds (ps := ["self", "bar"]) fun _ _ _ _ _ _ us hl => match us, hl with | [_, _], _ => rfl,
  nf_BadPlace_bar := nf_BadPlace_bar,
  X_BadPlace := ⟨⟨⟨nm_BadPlace, q_BadPlace, N_BadPlace, bs_BadPlace, _, sn_BadPlace, sub_BadPlace, ab_BadPlace, col_BadPlace, dd_BadPlace, u0_BadPlace, u1_BadPlace, u2_BadPlace, u3_BadPlace, u5_BadPlace, x_BadPlace, rfl⟩, sa_BadPlace, be_BadPlace, ty_BadPlace, kc_BadPlace⟩, PySem.W.mg_of X G n_BadPlace, n_BadPlace_init, t_BadPlace_init, (fun_mk (st := s_BadPlace_init) l_BadPlace_init c_BadPlace_init p_BadPlace_init).binds (ps := ["self", "bar"]) fun _ _ _ _ _ _ us hl => match us, hl with | [_, _], _ => rfl, ⟨ga_BadPlace, gg_BadPlace, be_BadPlace, hd_BadPlace, cl_BadPlace, g_clsget, g_clstk, ob_BadPlace⟩, ⟨ga_BadPlace, gg_BadPlace, be_BadPlace, hd_BadPlace⟩⟩,
  C_NotLoose := C_NotLoose,
  O_NotLoose := ⟨⟨nm_NotLoose, q_NotLoose, N_NotLoose, bs_NotLoose, _, sn_NotLoose, sub_NotLoose, ab_NotLoose, col_NotLoose, dd_NotLoose, u0_NotLoose, u1_NotLoose, u2_NotLoose, u3_NotLoose, u5_NotLoose, x_NotLoose, rfl⟩, sa_NotLoose, be_NotLoose, ty_NotLoose, kc_NotLoose⟩,
  m_NotLoose := PySem.W.mg_of X G n_NotLoose,
  isC_NotLoose := ⟨ga_NotLoose, gg_NotLoose, be_NotLoose, hd_NotLoose, cl_NotLoose, g_clsget, g_clstk, ob_NotLoose⟩,
  xi_NotLoose := xi_NotLoose,
  exs_NotLoose := PySem.W.exm_ref be_NotLoose hd_NotLoose ty_NotLoose ss_NotLoose,
  xf_NotLoose := ⟨ga_NotLoose, gg_NotLoose, be_NotLoose, hd_NotLoose⟩,
  exm_NotLoose_HooksError := PySem.W.exm_ref be_HooksError hd_HooksError ty_HooksError sb_NotLoose_HooksError,
  kit_Loose_Loose := kit_self,
  kit_Loose_NotLoose := kit_two dc_Loose_NotLoose hd_NotLoose ty_NotLoose sb_Loose_NotLoose,
  kit_Loose_BadCount := kit_two dc_Loose_BadCount hd_BadCount ty_BadCount sb_Loose_BadCount,
  kit_Loose_BadPlace := kit_two dc_Loose_BadPlace hd_BadPlace ty_BadPlace sb_Loose_BadPlace,
  kit_NotLoose_Loose := kit_two dc_NotLoose_Loose hd_Loose ty_Loose sb_NotLoose_Loose,
  kit_NotLoose_NotLoose := kit_self,
  kit_NotLoose_BadCount := kit_two dc_NotLoose_BadCount hd_BadCount ty_BadCount sb_NotLoose_BadCount,
  kit_NotLoose_BadPlace := kit_two dc_NotLoose_BadPlace hd_BadPlace ty_BadPlace sb_NotLoose_BadPlace,
  kit_BadCount_Loose := kit_two dc_BadCount_Loose hd_Loose ty_Loose sb_BadCount_Loose,
  kit_BadCount_NotLoose := kit_two dc_BadCount_NotLoose hd_NotLoose ty_NotLoose sb_BadCount_NotLoose,
  kit_BadCount_BadCount := kit_self,
  kit_BadCount_BadPlace := kit_two dc_BadCount_BadPlace hd_BadPlace ty_BadPlace sb_BadCount_BadPlace,
  kit_BadPlace_Loose := kit_two dc_BadPlace_Loose hd_Loose ty_Loose sb_BadPlace_Loose,
  kit_BadPlace_NotLoose := kit_two dc_BadPlace_NotLoose hd_NotLoose ty_NotLoose sb_BadPlace_NotLoose,
  kit_BadPlace_BadCount := kit_two dc_BadPlace_BadCount hd_BadCount ty_BadCount sb_BadPlace_BadCount,
  kit_BadPlace_BadPlace := kit_self,
  ii_Stand := ⟨ci_Stand, g_clsget, g_clstk, nb_Stand⟩,
  z_abs := PySem.W.mg_none_of X G z_abs,
  z_len := PySem.W.mg_none_of X G z_len,
  z_range := PySem.W.mg_none_of X G z_range,
  z_tuple := PySem.W.mg_none_of X G z_tuple,
  z_list := PySem.W.mg_none_of X G z_list,
  z_dict := PySem.W.mg_none_of X G z_dict,
  z_sorted := PySem.W.mg_none_of X G z_sorted,
  z_enumerate := PySem.W.mg_none_of X G z_enumerate,
  z_zip := PySem.W.mg_none_of X G z_zip,
  z_min := PySem.W.mg_none_of X G z_min,
  z_max := PySem.W.mg_none_of X G z_max,
  z_all := PySem.W.mg_none_of X G z_all,
  z_any := PySem.W.mg_none_of X G z_any,
  z_int := PySem.W.mg_none_of X G z_int,
  z_isinstance := PySem.W.mg_none_of X G z_isinstance,
  z_type := PySem.W.mg_none_of X G z_type,
  z_set := PySem.W.mg_none_of X G z_set,
  z_sum := PySem.W.mg_none_of X G z_sum,
  m_gcd := PySem.W.mg_of X G v_gcd,
  t_LEAST_RODS := t_LEAST_RODS,
  m_LEAST_RODS := PySem.W.mg_of X G v_LEAST_RODS,
  t_MOST_RODS := t_MOST_RODS,
  m_MOST_RODS := PySem.W.mg_of X G v_MOST_RODS,
  t_MOST_BARS := t_MOST_BARS,
  m_MOST_BARS := PySem.W.mg_of X G v_MOST_BARS,
  t_MOST_HEIGHT := t_MOST_HEIGHT,
  m_MOST_HEIGHT := PySem.W.mg_of X G v_MOST_HEIGHT,
  t_MOST_LENGTH := t_MOST_LENGTH,
  m_MOST_LENGTH := PySem.W.mg_of X G v_MOST_LENGTH }
theorem txH {w : World} {K : PySem.W.Frag} {h : Heap} {mg : Str → Option Value} (X : K.In h) (G : h.Ns mainGlobals mg) (c : He.SaysX faH fnH [] [] exK w h K) : Nonempty (Tx K mg) := by
  have hx := c.more
  have x0 : (exL0 K).all id = true := ex_at hx 0 rfl
  have x1 : (exL1 K).all id = true := ex_at hx 1 rfl
  have x2 : (exL2 K).all id = true := ex_at hx 2 rfl
  have x3 : (exL3 K).all id = true := ex_at hx 3 rfl
  have x4 : (exL4 K).all id = true := ex_at hx 4 rfl
  have x5 : (exL5 K).all id = true := ex_at hx 5 rfl
  have x6 : (exL6 K).all id = true := ex_at hx 6 rfl
  have x7 : (exL7 K).all id = true := ex_at hx 7 rfl
  have x8 : (exL8 K).all id = true := ex_at hx 8 rfl
  obtain ⟨nm_BadCount, q_BadCount, N_BadCount, bs_BadCount, sn_BadCount, sub_BadCount, ab_BadCount, col_BadCount, dd_BadCount, u0_BadCount, u1_BadCount, u2_BadCount, u3_BadCount, u5_BadCount, x_BadCount⟩ := xcB_ok (ex_at x4 25 rfl)
  obtain ⟨nm_NoRod, q_NoRod, N_NoRod, bs_NoRod, sn_NoRod, sub_NoRod, ab_NoRod, col_NoRod, dd_NoRod, u0_NoRod, u1_NoRod, u2_NoRod, u3_NoRod, u5_NoRod, x_NoRod⟩ := xcB_ok (ex_at x5 1 rfl)
  obtain ⟨nm_SameRod, q_SameRod, N_SameRod, bs_SameRod, sn_SameRod, sub_SameRod, ab_SameRod, col_SameRod, dd_SameRod, u0_SameRod, u1_SameRod, u2_SameRod, u3_SameRod, u5_SameRod, x_SameRod⟩ := xcB_ok (ex_at x5 16 rfl)
  obtain ⟨nm_BadSpan, q_BadSpan, N_BadSpan, bs_BadSpan, sn_BadSpan, sub_BadSpan, ab_BadSpan, col_BadSpan, dd_BadSpan, u0_BadSpan, u1_BadSpan, u2_BadSpan, u3_BadSpan, u5_BadSpan, x_BadSpan⟩ := xcB_ok (ex_at x5 31 rfl)
  obtain ⟨nm_NotSquare, q_NotSquare, N_NotSquare, bs_NotSquare, sn_NotSquare, sub_NotSquare, ab_NotSquare, col_NotSquare, dd_NotSquare, u0_NotSquare, u1_NotSquare, u2_NotSquare, u3_NotSquare, u5_NotSquare, x_NotSquare⟩ := xcB_ok (ex_at x6 6 rfl)
  obtain ⟨nm_Loose, q_Loose, N_Loose, bs_Loose, sn_Loose, sub_Loose, ab_Loose, col_Loose, dd_Loose, u0_Loose, u1_Loose, u2_Loose, u3_Loose, u5_Loose, x_Loose⟩ := xcB_ok (ex_at x6 22 rfl)
  obtain ⟨nm_BadPlace, q_BadPlace, N_BadPlace, bs_BadPlace, sn_BadPlace, sub_BadPlace, ab_BadPlace, col_BadPlace, dd_BadPlace, u0_BadPlace, u1_BadPlace, u2_BadPlace, u3_BadPlace, u5_BadPlace, x_BadPlace⟩ := xcB_ok (ex_at x6 36 rfl)
  obtain ⟨nm_NotLoose, q_NotLoose, N_NotLoose, bs_NotLoose, sn_NotLoose, sub_NotLoose, ab_NotLoose, col_NotLoose, dd_NotLoose, u0_NotLoose, u1_NotLoose, u2_NotLoose, u3_NotLoose, u5_NotLoose, x_NotLoose⟩ := xcB_ok (ex_at x7 11 rfl)
  obtain ⟨t_LEAST_RODS, v_LEAST_RODS⟩ := intB_ok (ex_at x8 28 rfl)
  obtain ⟨t_MOST_RODS, v_MOST_RODS⟩ := intB_ok (ex_at x8 29 rfl)
  obtain ⟨t_MOST_BARS, v_MOST_BARS⟩ := intB_ok (ex_at x8 30 rfl)
  obtain ⟨t_MOST_HEIGHT, v_MOST_HEIGHT⟩ := intB_ok (ex_at x8 31 rfl)
  obtain ⟨t_MOST_LENGTH, v_MOST_LENGTH⟩ := intB_ok (ex_at x8 32 rfl)
  obtain ⟨fd_divisor, ⟨oc_divisor, od_divisor, dV_divisor, kV_divisor, dc_divisor, pm_divisor, an_divisor, cd_divisor, ct_divisor, sl_divisor, e_divisor, l_divisor, c_divisor, g_divisor, _⟩, p_divisor⟩ := c.t.d.def_ 0 (d := dH_divisor) rfl
  cases def_none g_divisor
  subst e_divisor
  obtain ⟨fd_lowest, ⟨oc_lowest, od_lowest, dV_lowest, kV_lowest, dc_lowest, pm_lowest, an_lowest, cd_lowest, ct_lowest, sl_lowest, e_lowest, l_lowest, c_lowest, g_lowest, _⟩, p_lowest⟩ := c.t.d.def_ 1 (d := dH_lowest) rfl
  cases def_none g_lowest
  subst e_lowest
  obtain ⟨fd_check_places, ⟨oc_check_places, od_check_places, dV_check_places, kV_check_places, dc_check_places, pm_check_places, an_check_places, cd_check_places, ct_check_places, sl_check_places, e_check_places, l_check_places, c_check_places, g_check_places, _⟩, p_check_places⟩ := c.t.d.def_ 2 (d := dH_check_places) rfl
  cases def_none g_check_places
  subst e_check_places
  obtain ⟨fd_bar_rows, ⟨oc_bar_rows, od_bar_rows, dV_bar_rows, kV_bar_rows, dc_bar_rows, pm_bar_rows, an_bar_rows, cd_bar_rows, ct_bar_rows, sl_bar_rows, e_bar_rows, l_bar_rows, c_bar_rows, g_bar_rows, _⟩, p_bar_rows⟩ := c.t.d.def_ 3 (d := dH_bar_rows) rfl
  cases def_none g_bar_rows
  subst e_bar_rows
  obtain ⟨fd_determinant_at, ⟨oc_determinant_at, od_determinant_at, dV_determinant_at, kV_determinant_at, dc_determinant_at, pm_determinant_at, an_determinant_at, cd_determinant_at, ct_determinant_at, sl_determinant_at, e_determinant_at, l_determinant_at, c_determinant_at, g_determinant_at, _⟩, p_determinant_at⟩ := c.t.d.def_ 4 (d := dH_determinant_at) rfl
  cases def_none g_determinant_at
  subst e_determinant_at
  obtain ⟨fd_heights_at, ⟨oc_heights_at, od_heights_at, dV_heights_at, kV_heights_at, dc_heights_at, pm_heights_at, an_heights_at, cd_heights_at, ct_heights_at, sl_heights_at, e_heights_at, l_heights_at, c_heights_at, g_heights_at, _⟩, p_heights_at⟩ := c.t.d.def_ 5 (d := dH_heights_at) rfl
  cases def_none g_heights_at
  subst e_heights_at
  obtain ⟨fd_move_at, ⟨oc_move_at, od_move_at, dV_move_at, kV_move_at, dc_move_at, pm_move_at, an_move_at, cd_move_at, ct_move_at, sl_move_at, e_move_at, l_move_at, c_move_at, g_move_at, _⟩, p_move_at⟩ := c.t.d.def_ 6 (d := dH_move_at) rfl
  cases def_none g_move_at
  subst e_move_at
  obtain ⟨fd_table, ⟨oc_table, od_table, dV_table, kV_table, dc_table, pm_table, an_table, cd_table, ct_table, sl_table, e_table, l_table, c_table, g_table, _⟩, p_table⟩ := c.t.d.def_ 7 (d := dH_table) rfl
  cases def_none g_table
  subst e_table
  obtain ⟨fd_asked, ⟨oc_asked, od_asked, dV_asked, kV_asked, dc_asked, pm_asked, an_asked, cd_asked, ct_asked, sl_asked, e_asked, l_asked, c_asked, g_asked, _⟩, p_asked⟩ := c.t.d.def_ 8 (d := dH_asked) rfl
  cases def_none g_asked
  subst e_asked
  obtain ⟨fd_cleared, ⟨oc_cleared, od_cleared, dV_cleared, kV_cleared, dc_cleared, pm_cleared, an_cleared, cd_cleared, ct_cleared, sl_cleared, e_cleared, l_cleared, c_cleared, g_cleared, _⟩, p_cleared⟩ := c.t.d.def_ 9 (d := dH_cleared) rfl
  cases def_none g_cleared
  subst e_cleared
  obtain ⟨fd_swapped, ⟨oc_swapped, od_swapped, dV_swapped, kV_swapped, dc_swapped, pm_swapped, an_swapped, cd_swapped, ct_swapped, sl_swapped, e_swapped, l_swapped, c_swapped, g_swapped, _⟩, p_swapped⟩ := c.t.d.def_ 10 (d := dH_swapped) rfl
  cases def_none g_swapped
  subst e_swapped
  obtain ⟨fd_cleared_of, ⟨oc_cleared_of, od_cleared_of, dV_cleared_of, kV_cleared_of, dc_cleared_of, pm_cleared_of, an_cleared_of, cd_cleared_of, ct_cleared_of, sl_cleared_of, e_cleared_of, l_cleared_of, c_cleared_of, g_cleared_of, _⟩, p_cleared_of⟩ := c.t.d.def_ 11 (d := dH_cleared_of) rfl
  cases def_none g_cleared_of
  subst e_cleared_of
  obtain ⟨fd_determinant, ⟨oc_determinant, od_determinant, dV_determinant, kV_determinant, dc_determinant, pm_determinant, an_determinant, cd_determinant, ct_determinant, sl_determinant, e_determinant, l_determinant, c_determinant, g_determinant, _⟩, p_determinant⟩ := c.t.d.def_ 12 (d := dH_determinant) rfl
  cases def_none g_determinant
  subst e_determinant
  obtain ⟨fd_stand, ⟨oc_stand, od_stand, dV_stand, kV_stand, dc_stand, pm_stand, an_stand, cd_stand, ct_stand, sl_stand, e_stand, l_stand, c_stand, g_stand, _⟩, p_stand⟩ := c.t.d.def_ 13 (d := dH_stand) rfl
  cases def_none g_stand
  subst e_stand
  obtain ⟨fd_move, ⟨oc_move, od_move, dV_move, kV_move, dc_move, pm_move, an_move, cd_move, ct_move, sl_move, e_move, l_move, c_move, g_move, _⟩, p_move⟩ := c.t.d.def_ 14 (d := dH_move) rfl
  cases def_none g_move
  subst e_move
  obtain ⟨fd_check_rods, ⟨oc_check_rods, od_check_rods, dV_check_rods, kV_check_rods, dc_check_rods, pm_check_rods, an_check_rods, cd_check_rods, ct_check_rods, sl_check_rods, e_check_rods, l_check_rods, c_check_rods, g_check_rods, _⟩, p_check_rods⟩ := c.t.d.def_ 15 (d := dH_check_rods) rfl
  cases def_none g_check_rods
  subst e_check_rods
  obtain ⟨fd_check_bars, ⟨oc_check_bars, od_check_bars, dV_check_bars, kV_check_bars, dc_check_bars, pm_check_bars, an_check_bars, cd_check_bars, ct_check_bars, sl_check_bars, e_check_bars, l_check_bars, c_check_bars, g_check_bars, _⟩, p_check_bars⟩ := c.t.d.def_ 16 (d := dH_check_bars) rfl
  cases def_none g_check_bars
  subst e_check_bars
  obtain ⟨fd_check_bar, ⟨oc_check_bar, od_check_bar, dV_check_bar, kV_check_bar, dc_check_bar, pm_check_bar, an_check_bar, cd_check_bar, ct_check_bar, sl_check_bar, e_check_bar, l_check_bar, c_check_bar, g_check_bar, _⟩, p_check_bar⟩ := c.t.d.def_ 17 (d := dH_check_bar) rfl
  cases def_none g_check_bar
  subst e_check_bar
  obtain ⟨fd_l_state, ⟨oc_l_state, od_l_state, dV_l_state, kV_l_state, dc_l_state, pm_l_state, an_l_state, cd_l_state, ct_l_state, sl_l_state, e_l_state, l_l_state, c_l_state, g_l_state, _⟩, p_l_state⟩ := c.t.d.def_ 18 (d := dH_l_state) rfl
  cases def_none g_l_state
  subst e_l_state
  obtain ⟨fd_l_digit, ⟨oc_l_digit, od_l_digit, dV_l_digit, kV_l_digit, dc_l_digit, pm_l_digit, an_l_digit, cd_l_digit, ct_l_digit, sl_l_digit, e_l_digit, l_l_digit, c_l_digit, g_l_digit, _⟩, p_l_digit⟩ := c.t.d.def_ 19 (d := dH_l_digit) rfl
  cases def_none g_l_digit
  subst e_l_digit
  obtain ⟨fd_l_bar, ⟨oc_l_bar, od_l_bar, dV_l_bar, kV_l_bar, dc_l_bar, pm_l_bar, an_l_bar, cd_l_bar, ct_l_bar, sl_l_bar, e_l_bar, l_l_bar, c_l_bar, g_l_bar, _⟩, p_l_bar⟩ := c.t.d.def_ 20 (d := dH_l_bar) rfl
  cases def_none g_l_bar
  subst e_l_bar
  obtain ⟨fd_l_web, ⟨oc_l_web, od_l_web, dV_l_web, kV_l_web, dc_l_web, pm_l_web, an_l_web, cd_l_web, ct_l_web, sl_l_web, e_l_web, l_l_web, c_l_web, g_l_web, _⟩, p_l_web⟩ := c.t.d.def_ 21 (d := dH_l_web) rfl
  cases def_none g_l_web
  subst e_l_web
  obtain ⟨fd_l_made, ⟨oc_l_made, od_l_made, dV_l_made, kV_l_made, dc_l_made, pm_l_made, an_l_made, cd_l_made, ct_l_made, sl_l_made, e_l_made, l_l_made, c_l_made, g_l_made, _⟩, p_l_made⟩ := c.t.d.def_ 22 (d := dH_l_made) rfl
  cases def_none g_l_made
  subst e_l_made
  obtain ⟨fd_l_keeps, ⟨oc_l_keeps, od_l_keeps, dV_l_keeps, kV_l_keeps, dc_l_keeps, pm_l_keeps, an_l_keeps, cd_l_keeps, ct_l_keeps, sl_l_keeps, e_l_keeps, l_l_keeps, c_l_keeps, g_l_keeps, _⟩, p_l_keeps⟩ := c.t.d.def_ 23 (d := dH_l_keeps) rfl
  cases def_none g_l_keeps
  subst e_l_keeps
  obtain ⟨fd_l_said, ⟨oc_l_said, od_l_said, dV_l_said, kV_l_said, dc_l_said, pm_l_said, an_l_said, cd_l_said, ct_l_said, sl_l_said, e_l_said, l_l_said, c_l_said, g_l_said, _⟩, p_l_said⟩ := c.t.d.def_ 24 (d := dH_l_said) rfl
  cases def_none g_l_said
  subst e_l_said
  obtain ⟨fd_l_common, ⟨oc_l_common, od_l_common, dV_l_common, kV_l_common, dc_l_common, pm_l_common, an_l_common, cd_l_common, ct_l_common, sl_l_common, e_l_common, l_l_common, c_l_common, g_l_common, _⟩, p_l_common⟩ := c.t.d.def_ 25 (d := dH_l_common) rfl
  cases def_none g_l_common
  subst e_l_common
  obtain ⟨fd_l_anywhere, ⟨oc_l_anywhere, od_l_anywhere, dV_l_anywhere, kV_l_anywhere, dc_l_anywhere, pm_l_anywhere, an_l_anywhere, cd_l_anywhere, ct_l_anywhere, sl_l_anywhere, e_l_anywhere, l_l_anywhere, c_l_anywhere, g_l_anywhere, _⟩, p_l_anywhere⟩ := c.t.d.def_ 26 (d := dH_l_anywhere) rfl
  cases def_none g_l_anywhere
  subst e_l_anywhere
  obtain ⟨fd_l_stand_right, ⟨oc_l_stand_right, od_l_stand_right, dV_l_stand_right, kV_l_stand_right, dc_l_stand_right, pm_l_stand_right, an_l_stand_right, cd_l_stand_right, ct_l_stand_right, sl_l_stand_right, e_l_stand_right, l_l_stand_right, c_l_stand_right, g_l_stand_right, _⟩, p_l_stand_right⟩ := c.t.d.def_ 27 (d := dH_l_stand_right) rfl
  cases def_none g_l_stand_right
  subst e_l_stand_right
  obtain ⟨fd_l_move_right, ⟨oc_l_move_right, od_l_move_right, dV_l_move_right, kV_l_move_right, dc_l_move_right, pm_l_move_right, an_l_move_right, cd_l_move_right, ct_l_move_right, sl_l_move_right, e_l_move_right, l_l_move_right, c_l_move_right, g_l_move_right, _⟩, p_l_move_right⟩ := c.t.d.def_ 28 (d := dH_l_move_right) rfl
  cases def_none g_l_move_right
  subst e_l_move_right
  obtain ⟨fd_l_odd_right, ⟨oc_l_odd_right, od_l_odd_right, dV_l_odd_right, kV_l_odd_right, dc_l_odd_right, pm_l_odd_right, an_l_odd_right, cd_l_odd_right, ct_l_odd_right, sl_l_odd_right, e_l_odd_right, l_l_odd_right, c_l_odd_right, g_l_odd_right, _⟩, p_l_odd_right⟩ := c.t.d.def_ 29 (d := dH_l_odd_right) rfl
  cases def_none g_l_odd_right
  subst e_l_odd_right
  obtain ⟨fd_law, ⟨oc_law, od_law, dV_law, kV_law, dc_law, pm_law, an_law, cd_law, ct_law, sl_law, e_law, l_law, c_law, g_law, _⟩, p_law⟩ := c.t.d.def_ 30 (d := dH_law) rfl
  cases def_none g_law
  subst e_law
  obtain ⟨fd_Bar_init, ⟨oc_Bar_init, od_Bar_init, dV_Bar_init, kV_Bar_init, dc_Bar_init, pm_Bar_init, an_Bar_init, cd_Bar_init, ct_Bar_init, sl_Bar_init, e_Bar_init, l_Bar_init, c_Bar_init, g_Bar_init, _⟩, p_Bar_init⟩ := c.t.d.def_ 31 (d := dH_Bar_init) rfl
  cases def_none g_Bar_init
  subst e_Bar_init
  obtain ⟨fd_Bar_eq, ⟨oc_Bar_eq, od_Bar_eq, dV_Bar_eq, kV_Bar_eq, dc_Bar_eq, pm_Bar_eq, an_Bar_eq, cd_Bar_eq, ct_Bar_eq, sl_Bar_eq, e_Bar_eq, l_Bar_eq, c_Bar_eq, g_Bar_eq, _⟩, p_Bar_eq⟩ := c.t.d.def_ 32 (d := dH_Bar_eq) rfl
  cases def_none g_Bar_eq
  subst e_Bar_eq
  obtain ⟨fd_Web_init, ⟨oc_Web_init, od_Web_init, dV_Web_init, kV_Web_init, dc_Web_init, pm_Web_init, an_Web_init, cd_Web_init, ct_Web_init, sl_Web_init, e_Web_init, l_Web_init, c_Web_init, g_Web_init, _⟩, p_Web_init⟩ := c.t.d.def_ 33 (d := dH_Web_init) rfl
  cases def_none g_Web_init
  subst e_Web_init
  obtain ⟨fd_Web_held, ⟨oc_Web_held, od_Web_held, dV_Web_held, kV_Web_held, dc_Web_held, pm_Web_held, an_Web_held, cd_Web_held, ct_Web_held, sl_Web_held, e_Web_held, l_Web_held, c_Web_held, g_Web_held, _⟩, p_Web_held⟩ := c.t.d.def_ 34 (d := dH_Web_held) rfl
  cases def_none g_Web_held
  subst e_Web_held
  obtain ⟨fd_Web_hanging, ⟨oc_Web_hanging, od_Web_hanging, dV_Web_hanging, kV_Web_hanging, dc_Web_hanging, pm_Web_hanging, an_Web_hanging, cd_Web_hanging, ct_Web_hanging, sl_Web_hanging, e_Web_hanging, l_Web_hanging, c_Web_hanging, g_Web_hanging, _⟩, p_Web_hanging⟩ := c.t.d.def_ 35 (d := dH_Web_hanging) rfl
  cases def_none g_Web_hanging
  subst e_Web_hanging
  obtain ⟨fd_Web_eq, ⟨oc_Web_eq, od_Web_eq, dV_Web_eq, kV_Web_eq, dc_Web_eq, pm_Web_eq, an_Web_eq, cd_Web_eq, ct_Web_eq, sl_Web_eq, e_Web_eq, l_Web_eq, c_Web_eq, g_Web_eq, _⟩, p_Web_eq⟩ := c.t.d.def_ 36 (d := dH_Web_eq) rfl
  cases def_none g_Web_eq
  subst e_Web_eq
  obtain ⟨fd_Places_init, ⟨oc_Places_init, od_Places_init, dV_Places_init, kV_Places_init, dc_Places_init, pm_Places_init, an_Places_init, cd_Places_init, ct_Places_init, sl_Places_init, e_Places_init, l_Places_init, c_Places_init, g_Places_init, _⟩, p_Places_init⟩ := c.t.d.def_ 37 (d := dH_Places_init) rfl
  cases def_none g_Places_init
  subst e_Places_init
  obtain ⟨fd_Places_eq, ⟨oc_Places_eq, od_Places_eq, dV_Places_eq, kV_Places_eq, dc_Places_eq, pm_Places_eq, an_Places_eq, cd_Places_eq, ct_Places_eq, sl_Places_eq, e_Places_eq, l_Places_eq, c_Places_eq, g_Places_eq, _⟩, p_Places_eq⟩ := c.t.d.def_ 38 (d := dH_Places_eq) rfl
  cases def_none g_Places_eq
  subst e_Places_eq
  obtain ⟨fd_Stand_init, ⟨oc_Stand_init, od_Stand_init, dV_Stand_init, kV_Stand_init, dc_Stand_init, pm_Stand_init, an_Stand_init, cd_Stand_init, ct_Stand_init, sl_Stand_init, e_Stand_init, l_Stand_init, c_Stand_init, g_Stand_init, _⟩, p_Stand_init⟩ := c.t.d.def_ 39 (d := dH_Stand_init) rfl
  cases def_none g_Stand_init
  subst e_Stand_init
  obtain ⟨fd_Stand_eq, ⟨oc_Stand_eq, od_Stand_eq, dV_Stand_eq, kV_Stand_eq, dc_Stand_eq, pm_Stand_eq, an_Stand_eq, cd_Stand_eq, ct_Stand_eq, sl_Stand_eq, e_Stand_eq, l_Stand_eq, c_Stand_eq, g_Stand_eq, _⟩, p_Stand_eq⟩ := c.t.d.def_ 40 (d := dH_Stand_eq) rfl
  cases def_none g_Stand_eq
  subst e_Stand_eq
  obtain ⟨fd_BadCount_init, ⟨oc_BadCount_init, od_BadCount_init, dV_BadCount_init, kV_BadCount_init, dc_BadCount_init, pm_BadCount_init, an_BadCount_init, cd_BadCount_init, ct_BadCount_init, sl_BadCount_init, e_BadCount_init, l_BadCount_init, c_BadCount_init, g_BadCount_init, _⟩, p_BadCount_init⟩ := c.t.d.def_ 41 (d := dH_BadCount_init) rfl
  cases def_none g_BadCount_init
  subst e_BadCount_init
  obtain ⟨fd_NoRod_init, ⟨oc_NoRod_init, od_NoRod_init, dV_NoRod_init, kV_NoRod_init, dc_NoRod_init, pm_NoRod_init, an_NoRod_init, cd_NoRod_init, ct_NoRod_init, sl_NoRod_init, e_NoRod_init, l_NoRod_init, c_NoRod_init, g_NoRod_init, _⟩, p_NoRod_init⟩ := c.t.d.def_ 42 (d := dH_NoRod_init) rfl
  cases def_none g_NoRod_init
  subst e_NoRod_init
  obtain ⟨fd_SameRod_init, ⟨oc_SameRod_init, od_SameRod_init, dV_SameRod_init, kV_SameRod_init, dc_SameRod_init, pm_SameRod_init, an_SameRod_init, cd_SameRod_init, ct_SameRod_init, sl_SameRod_init, e_SameRod_init, l_SameRod_init, c_SameRod_init, g_SameRod_init, _⟩, p_SameRod_init⟩ := c.t.d.def_ 43 (d := dH_SameRod_init) rfl
  cases def_none g_SameRod_init
  subst e_SameRod_init
  obtain ⟨fd_BadSpan_init, ⟨oc_BadSpan_init, od_BadSpan_init, dV_BadSpan_init, kV_BadSpan_init, dc_BadSpan_init, pm_BadSpan_init, an_BadSpan_init, cd_BadSpan_init, ct_BadSpan_init, sl_BadSpan_init, e_BadSpan_init, l_BadSpan_init, c_BadSpan_init, g_BadSpan_init, _⟩, p_BadSpan_init⟩ := c.t.d.def_ 44 (d := dH_BadSpan_init) rfl
  cases def_none g_BadSpan_init
  subst e_BadSpan_init
  obtain ⟨fd_NotSquare_init, ⟨oc_NotSquare_init, od_NotSquare_init, dV_NotSquare_init, kV_NotSquare_init, dc_NotSquare_init, pm_NotSquare_init, an_NotSquare_init, cd_NotSquare_init, ct_NotSquare_init, sl_NotSquare_init, e_NotSquare_init, l_NotSquare_init, c_NotSquare_init, g_NotSquare_init, _⟩, p_NotSquare_init⟩ := c.t.d.def_ 45 (d := dH_NotSquare_init) rfl
  cases def_none g_NotSquare_init
  subst e_NotSquare_init
  obtain ⟨fd_BadPlace_init, ⟨oc_BadPlace_init, od_BadPlace_init, dV_BadPlace_init, kV_BadPlace_init, dc_BadPlace_init, pm_BadPlace_init, an_BadPlace_init, cd_BadPlace_init, ct_BadPlace_init, sl_BadPlace_init, e_BadPlace_init, l_BadPlace_init, c_BadPlace_init, g_BadPlace_init, _⟩, p_BadPlace_init⟩ := c.t.d.def_ 46 (d := dH_BadPlace_init) rfl
  cases def_none g_BadPlace_init
  subst e_BadPlace_init
  exact ⟨mk_tx X G (of_decide_eq_true (ex_at x0 0 rfl)) (of_decide_eq_true (ex_at x0 1 rfl)) (of_decide_eq_true (ex_at x0 2 rfl)) l_divisor c_divisor p_divisor (of_decide_eq_true (ex_at x0 3 rfl)) l_lowest c_lowest p_lowest (of_decide_eq_true (ex_at x0 4 rfl)) l_check_places c_check_places p_check_places (of_decide_eq_true (ex_at x0 5 rfl)) l_bar_rows c_bar_rows p_bar_rows (of_decide_eq_true (ex_at x0 6 rfl)) l_determinant_at c_determinant_at p_determinant_at (of_decide_eq_true (ex_at x0 7 rfl)) l_heights_at c_heights_at p_heights_at (of_decide_eq_true (ex_at x0 8 rfl)) l_move_at c_move_at p_move_at (of_decide_eq_true (ex_at x0 9 rfl)) l_table c_table p_table (of_decide_eq_true (ex_at x0 10 rfl)) l_asked c_asked p_asked (of_decide_eq_true (ex_at x0 11 rfl)) l_cleared c_cleared p_cleared (of_decide_eq_true (ex_at x0 12 rfl)) l_swapped c_swapped p_swapped (of_decide_eq_true (ex_at x0 13 rfl)) l_cleared_of c_cleared_of p_cleared_of (of_decide_eq_true (ex_at x0 14 rfl)) l_determinant c_determinant p_determinant (of_decide_eq_true (ex_at x0 15 rfl)) l_stand c_stand p_stand (of_decide_eq_true (ex_at x0 16 rfl)) l_move c_move p_move (of_decide_eq_true (ex_at x0 17 rfl)) l_check_rods c_check_rods p_check_rods (of_decide_eq_true (ex_at x0 18 rfl)) l_check_bars c_check_bars p_check_bars (of_decide_eq_true (ex_at x0 19 rfl)) l_check_bar c_check_bar p_check_bar (of_decide_eq_true (ex_at x0 20 rfl)) l_l_state c_l_state p_l_state (of_decide_eq_true (ex_at x0 21 rfl)) l_l_digit c_l_digit p_l_digit (of_decide_eq_true (ex_at x0 22 rfl)) l_l_bar c_l_bar p_l_bar (of_decide_eq_true (ex_at x0 23 rfl)) l_l_web c_l_web p_l_web (of_decide_eq_true (ex_at x0 24 rfl)) l_l_made c_l_made p_l_made (of_decide_eq_true (ex_at x0 25 rfl)) l_l_keeps c_l_keeps p_l_keeps (of_decide_eq_true (ex_at x0 26 rfl)) l_l_said c_l_said p_l_said (of_decide_eq_true (ex_at x0 27 rfl)) l_l_common c_l_common p_l_common (of_decide_eq_true (ex_at x0 28 rfl)) l_l_anywhere c_l_anywhere p_l_anywhere (of_decide_eq_true (ex_at x0 29 rfl)) l_l_stand_right c_l_stand_right p_l_stand_right (of_decide_eq_true (ex_at x0 30 rfl)) l_l_move_right c_l_move_right p_l_move_right (of_decide_eq_true (ex_at x0 31 rfl)) l_l_odd_right c_l_odd_right p_l_odd_right (of_decide_eq_true (ex_at x0 32 rfl)) l_law c_law p_law (of_decide_eq_true (ex_at x0 33 rfl)) (ex_at x0 34 rfl) (ex_at x0 35 rfl) (ex_at x0 36 rfl) (of_decide_eq_true (ex_at x0 37 rfl)) (ex_at x0 38 rfl) (ex_at x0 39 rfl) (of_decide_eq_true (ex_at x1 0 rfl)) (of_decide_eq_true (ex_at x1 1 rfl)) (of_decide_eq_true (ex_at x1 2 rfl)) (of_decide_eq_true (ex_at x1 3 rfl)) (of_decide_eq_true (ex_at x1 4 rfl)) (of_decide_eq_true (ex_at x1 5 rfl)) (of_decide_eq_true (ex_at x1 6 rfl)) (ex_at x1 7 rfl) l_Bar_init c_Bar_init p_Bar_init (of_decide_eq_true (ex_at x1 8 rfl)) (ex_at x1 9 rfl) l_Bar_eq c_Bar_eq p_Bar_eq (ex_at x1 10 rfl) (of_decide_eq_true (ex_at x1 11 rfl)) (ex_at x1 12 rfl) (of_decide_eq_true (ex_at x1 13 rfl)) (ex_at x1 14 rfl) (of_decide_eq_true (ex_at x1 15 rfl)) (ex_at x1 16 rfl) (of_decide_eq_true (ex_at x1 17 rfl)) (ex_at x1 18 rfl) (of_decide_eq_true (ex_at x1 19 rfl)) (ex_at x1 20 rfl) (of_decide_eq_true (ex_at x1 21 rfl)) (ex_at x1 22 rfl) (of_decide_eq_true (ex_at x1 23 rfl)) (of_decide_eq_true (ex_at x1 24 rfl)) (of_decide_eq_true (ex_at x1 25 rfl)) (of_decide_eq_true (ex_at x1 26 rfl)) (ex_at x1 27 rfl) (ex_at x1 28 rfl) (ex_at x1 29 rfl) (of_decide_eq_true (ex_at x1 30 rfl)) (ex_at x1 31 rfl) (ex_at x1 32 rfl) (of_decide_eq_true (ex_at x1 33 rfl)) (of_decide_eq_true (ex_at x1 34 rfl)) (of_decide_eq_true (ex_at x1 35 rfl)) (of_decide_eq_true (ex_at x1 36 rfl)) (ex_at x1 37 rfl) l_Web_init c_Web_init p_Web_init (of_decide_eq_true (ex_at x1 38 rfl)) (ex_at x1 39 rfl) l_Web_held c_Web_held p_Web_held (of_decide_eq_true (ex_at x2 0 rfl)) (ex_at x2 1 rfl) l_Web_hanging c_Web_hanging p_Web_hanging (of_decide_eq_true (ex_at x2 2 rfl)) (ex_at x2 3 rfl) l_Web_eq c_Web_eq p_Web_eq (ex_at x2 4 rfl) (of_decide_eq_true (ex_at x2 5 rfl)) (ex_at x2 6 rfl) (of_decide_eq_true (ex_at x2 7 rfl)) (ex_at x2 8 rfl) (of_decide_eq_true (ex_at x2 9 rfl)) (ex_at x2 10 rfl) (of_decide_eq_true (ex_at x2 11 rfl)) (ex_at x2 12 rfl) (of_decide_eq_true (ex_at x2 13 rfl)) (ex_at x2 14 rfl) (of_decide_eq_true (ex_at x2 15 rfl)) (ex_at x2 16 rfl) (of_decide_eq_true (ex_at x2 17 rfl)) (of_decide_eq_true (ex_at x2 18 rfl)) (of_decide_eq_true (ex_at x2 19 rfl)) (of_decide_eq_true (ex_at x2 20 rfl)) (ex_at x2 21 rfl) (ex_at x2 22 rfl) (ex_at x2 23 rfl) (of_decide_eq_true (ex_at x2 24 rfl)) (ex_at x2 25 rfl) (ex_at x2 26 rfl) (of_decide_eq_true (ex_at x2 27 rfl)) (of_decide_eq_true (ex_at x2 28 rfl)) (of_decide_eq_true (ex_at x2 29 rfl)) (ex_at x2 30 rfl) l_Places_init c_Places_init p_Places_init (of_decide_eq_true (ex_at x2 31 rfl)) (ex_at x2 32 rfl) l_Places_eq c_Places_eq p_Places_eq (ex_at x2 33 rfl) (of_decide_eq_true (ex_at x2 34 rfl)) (ex_at x2 35 rfl) (of_decide_eq_true (ex_at x2 36 rfl)) (ex_at x2 37 rfl) (of_decide_eq_true (ex_at x2 38 rfl)) (ex_at x2 39 rfl) (of_decide_eq_true (ex_at x3 0 rfl)) (ex_at x3 1 rfl) (of_decide_eq_true (ex_at x3 2 rfl)) (ex_at x3 3 rfl) (of_decide_eq_true (ex_at x3 4 rfl)) (ex_at x3 5 rfl) (of_decide_eq_true (ex_at x3 6 rfl)) (of_decide_eq_true (ex_at x3 7 rfl)) (of_decide_eq_true (ex_at x3 8 rfl)) (of_decide_eq_true (ex_at x3 9 rfl)) (ex_at x3 10 rfl) (ex_at x3 11 rfl) (ex_at x3 12 rfl) (of_decide_eq_true (ex_at x3 13 rfl)) (ex_at x3 14 rfl) (ex_at x3 15 rfl) (of_decide_eq_true (ex_at x3 16 rfl)) (of_decide_eq_true (ex_at x3 17 rfl)) (of_decide_eq_true (ex_at x3 18 rfl)) (ex_at x3 19 rfl) l_Stand_init c_Stand_init p_Stand_init (of_decide_eq_true (ex_at x3 20 rfl)) (ex_at x3 21 rfl) l_Stand_eq c_Stand_eq p_Stand_eq (ex_at x3 22 rfl) (of_decide_eq_true (ex_at x3 23 rfl)) (ex_at x3 24 rfl) (of_decide_eq_true (ex_at x3 25 rfl)) (ex_at x3 26 rfl) (of_decide_eq_true (ex_at x3 27 rfl)) (ex_at x3 28 rfl) (of_decide_eq_true (ex_at x3 29 rfl)) (ex_at x3 30 rfl) (of_decide_eq_true (ex_at x3 31 rfl)) (ex_at x3 32 rfl) (of_decide_eq_true (ex_at x3 33 rfl)) (ex_at x3 34 rfl) (of_decide_eq_true (ex_at x3 35 rfl)) (of_decide_eq_true (ex_at x3 36 rfl)) (of_decide_eq_true (ex_at x3 37 rfl)) (ex_at x3 38 rfl) (ex_at x3 39 rfl) (of_decide_eq_true (ex_at x4 0 rfl)) (ex_at x4 1 rfl) (of_decide_eq_true (ex_at x4 2 rfl)) (ex_at x4 3 rfl) (of_decide_eq_true (ex_at x4 4 rfl)) (ex_at x4 5 rfl) (ex_at x4 6 rfl) (ex_at x4 7 rfl) (ex_at x4 8 rfl) (ex_at x4 9 rfl) (ex_at x4 10 rfl) (of_decide_eq_true (ex_at x4 11 rfl)) (ex_at x4 12 rfl) (ex_at x4 13 rfl) (of_decide_eq_true (ex_at x4 14 rfl)) (ex_at x4 15 rfl) (ex_at x4 16 rfl) (of_decide_eq_true (ex_at x4 17 rfl)) (ex_at x4 18 rfl) (ex_at x4 19 rfl) (of_decide_eq_true (ex_at x4 20 rfl)) (of_decide_eq_true (ex_at x4 21 rfl)) (of_decide_eq_true (ex_at x4 22 rfl)) (ex_at x4 23 rfl) (of_decide_eq_true (ex_at x4 24 rfl)) x_BadCount (of_decide_eq_true (ex_at x4 26 rfl)) (of_decide_eq_true (ex_at x4 27 rfl)) (of_decide_eq_true (ex_at x4 28 rfl)) (ex_at x4 29 rfl) (of_decide_eq_true (ex_at x4 30 rfl)) (of_decide_eq_true (ex_at x4 31 rfl)) (ex_at x4 32 rfl) (of_decide_eq_true (ex_at x4 33 rfl)) (of_decide_eq_true (ex_at x4 34 rfl)) (of_decide_eq_true (ex_at x4 35 rfl)) (of_decide_eq_true (ex_at x4 36 rfl)) (of_decide_eq_true (ex_at x4 37 rfl)) l_BadCount_init c_BadCount_init p_BadCount_init (of_decide_eq_true (ex_at x4 38 rfl)) (of_decide_eq_true (ex_at x4 39 rfl)) (of_decide_eq_true (ex_at x5 0 rfl)) x_NoRod (of_decide_eq_true (ex_at x5 2 rfl)) (of_decide_eq_true (ex_at x5 3 rfl)) (of_decide_eq_true (ex_at x5 4 rfl)) (ex_at x5 5 rfl) (of_decide_eq_true (ex_at x5 6 rfl)) (of_decide_eq_true (ex_at x5 7 rfl)) (ex_at x5 8 rfl) (of_decide_eq_true (ex_at x5 9 rfl)) (of_decide_eq_true (ex_at x5 10 rfl)) (of_decide_eq_true (ex_at x5 11 rfl)) (of_decide_eq_true (ex_at x5 12 rfl)) (of_decide_eq_true (ex_at x5 13 rfl)) l_NoRod_init c_NoRod_init p_NoRod_init (of_decide_eq_true (ex_at x5 14 rfl)) (of_decide_eq_true (ex_at x5 15 rfl)) x_SameRod (of_decide_eq_true (ex_at x5 17 rfl)) (of_decide_eq_true (ex_at x5 18 rfl)) (of_decide_eq_true (ex_at x5 19 rfl)) (ex_at x5 20 rfl) (of_decide_eq_true (ex_at x5 21 rfl)) (of_decide_eq_true (ex_at x5 22 rfl)) (ex_at x5 23 rfl) (of_decide_eq_true (ex_at x5 24 rfl)) (of_decide_eq_true (ex_at x5 25 rfl)) (of_decide_eq_true (ex_at x5 26 rfl)) (of_decide_eq_true (ex_at x5 27 rfl)) (of_decide_eq_true (ex_at x5 28 rfl)) l_SameRod_init c_SameRod_init p_SameRod_init (of_decide_eq_true (ex_at x5 29 rfl)) (of_decide_eq_true (ex_at x5 30 rfl)) x_BadSpan (of_decide_eq_true (ex_at x5 32 rfl)) (of_decide_eq_true (ex_at x5 33 rfl)) (of_decide_eq_true (ex_at x5 34 rfl)) (ex_at x5 35 rfl) (of_decide_eq_true (ex_at x5 36 rfl)) (of_decide_eq_true (ex_at x5 37 rfl)) (ex_at x5 38 rfl) (of_decide_eq_true (ex_at x5 39 rfl)) (of_decide_eq_true (ex_at x6 0 rfl)) (of_decide_eq_true (ex_at x6 1 rfl)) (of_decide_eq_true (ex_at x6 2 rfl)) (of_decide_eq_true (ex_at x6 3 rfl)) l_BadSpan_init c_BadSpan_init p_BadSpan_init (of_decide_eq_true (ex_at x6 4 rfl)) (of_decide_eq_true (ex_at x6 5 rfl)) x_NotSquare (of_decide_eq_true (ex_at x6 7 rfl)) (of_decide_eq_true (ex_at x6 8 rfl)) (of_decide_eq_true (ex_at x6 9 rfl)) (ex_at x6 10 rfl) (of_decide_eq_true (ex_at x6 11 rfl)) (of_decide_eq_true (ex_at x6 12 rfl)) (ex_at x6 13 rfl) (of_decide_eq_true (ex_at x6 14 rfl)) (of_decide_eq_true (ex_at x6 15 rfl)) (of_decide_eq_true (ex_at x6 16 rfl)) (of_decide_eq_true (ex_at x6 17 rfl)) (of_decide_eq_true (ex_at x6 18 rfl)) l_NotSquare_init c_NotSquare_init p_NotSquare_init (of_decide_eq_true (ex_at x6 19 rfl)) (of_decide_eq_true (ex_at x6 20 rfl)) (of_decide_eq_true (ex_at x6 21 rfl)) x_Loose (of_decide_eq_true (ex_at x6 23 rfl)) (of_decide_eq_true (ex_at x6 24 rfl)) (of_decide_eq_true (ex_at x6 25 rfl)) (ex_at x6 26 rfl) (of_decide_eq_true (ex_at x6 27 rfl)) (of_decide_eq_true (ex_at x6 28 rfl)) (ex_at x6 29 rfl) (of_decide_eq_true (ex_at x6 30 rfl)) (of_decide_eq_true (ex_at x6 31 rfl)) (ex_at x6 32 rfl) (of_decide_eq_true (ex_at x6 33 rfl)) (of_decide_eq_true (ex_at x6 34 rfl)) (of_decide_eq_true (ex_at x6 35 rfl)) x_BadPlace (of_decide_eq_true (ex_at x6 37 rfl)) (of_decide_eq_true (ex_at x6 38 rfl)) (of_decide_eq_true (ex_at x6 39 rfl)) (ex_at x7 0 rfl) (of_decide_eq_true (ex_at x7 1 rfl)) (of_decide_eq_true (ex_at x7 2 rfl)) (ex_at x7 3 rfl) (of_decide_eq_true (ex_at x7 4 rfl)) (of_decide_eq_true (ex_at x7 5 rfl)) (of_decide_eq_true (ex_at x7 6 rfl)) (of_decide_eq_true (ex_at x7 7 rfl)) (of_decide_eq_true (ex_at x7 8 rfl)) l_BadPlace_init c_BadPlace_init p_BadPlace_init (of_decide_eq_true (ex_at x7 9 rfl)) (of_decide_eq_true (ex_at x7 10 rfl)) x_NotLoose (of_decide_eq_true (ex_at x7 12 rfl)) (of_decide_eq_true (ex_at x7 13 rfl)) (of_decide_eq_true (ex_at x7 14 rfl)) (ex_at x7 15 rfl) (of_decide_eq_true (ex_at x7 16 rfl)) (of_decide_eq_true (ex_at x7 17 rfl)) (ex_at x7 18 rfl) (of_decide_eq_true (ex_at x7 19 rfl)) (of_decide_eq_true (ex_at x7 20 rfl)) (ex_at x7 21 rfl) (of_decide_eq_true (ex_at x7 22 rfl)) (of_decide_eq_true (ex_at x7 23 rfl)) (of_decide_eq_true (ex_at x7 24 rfl)) (of_decide_eq_true (ex_at x7 25 rfl)) (of_decide_eq_true (ex_at x7 26 rfl)) (of_decide_eq_true (ex_at x7 27 rfl)) (of_decide_eq_true (ex_at x7 28 rfl)) (of_decide_eq_true (ex_at x7 29 rfl)) (of_decide_eq_true (ex_at x7 30 rfl)) (of_decide_eq_true (ex_at x7 31 rfl)) (of_decide_eq_true (ex_at x7 32 rfl)) (of_decide_eq_true (ex_at x7 33 rfl)) (of_decide_eq_true (ex_at x7 34 rfl)) (of_decide_eq_true (ex_at x7 35 rfl)) (of_decide_eq_true (ex_at x7 36 rfl)) (of_decide_eq_true (ex_at x7 37 rfl)) (of_decide_eq_true (ex_at x7 38 rfl)) (of_decide_eq_true (ex_at x7 39 rfl)) (of_decide_eq_true (ex_at x8 0 rfl)) (of_decide_eq_true (ex_at x8 1 rfl)) (of_decide_eq_true (ex_at x8 2 rfl)) (of_decide_eq_true (ex_at x8 3 rfl)) (of_decide_eq_true (ex_at x8 4 rfl)) (of_decide_eq_true (ex_at x8 5 rfl)) (of_decide_eq_true (ex_at x8 6 rfl)) (of_decide_eq_true (ex_at x8 7 rfl)) (of_decide_eq_true (ex_at x8 8 rfl)) (of_decide_eq_true (ex_at x8 9 rfl)) (of_decide_eq_true (ex_at x8 10 rfl)) (of_decide_eq_true (ex_at x8 11 rfl)) (of_decide_eq_true (ex_at x8 12 rfl)) (of_decide_eq_true (ex_at x8 13 rfl)) (of_decide_eq_true (ex_at x8 14 rfl)) (of_decide_eq_true (ex_at x8 15 rfl)) (of_decide_eq_true (ex_at x8 16 rfl)) (of_decide_eq_true (ex_at x8 17 rfl)) (of_decide_eq_true (ex_at x8 18 rfl)) (of_decide_eq_true (ex_at x8 19 rfl)) (of_decide_eq_true (ex_at x8 20 rfl)) (of_decide_eq_true (ex_at x8 21 rfl)) (of_decide_eq_true (ex_at x8 22 rfl)) (of_decide_eq_true (ex_at x8 23 rfl)) (of_decide_eq_true (ex_at x8 24 rfl)) (of_decide_eq_true (ex_at x8 25 rfl)) (of_decide_eq_true (ex_at x8 26 rfl)) (of_decide_eq_true (ex_at x8 27 rfl)) v_LEAST_RODS v_MOST_RODS v_MOST_BARS v_MOST_HEIGHT v_MOST_LENGTH⟩
theorem all_mk {P : Program} {w : World} {K : PySem.W.Frag} {h : Heap} {mg : Str → Option Value} {fa : Addr} (KX : K.In h) (G : h.Ns mainGlobals mg) (hfa : mg "law" = some (.ref fa)) (T : Tx K mg) (hb : exT K = true) :
    ∃ fd : FuncData, (∀ (s : Shared) (v : Value), BindsTo s fd ⟨[v], []⟩ [("_law_script", v)]) ∧ ∀ base : Heap, K.In base → base.Ns mainGlobals mg → (∀ p ∈ tfH.map (He.cT K), LamX.TabB base mg p.1 p.2) → FnOk P w K mg base (L2.CX P w) 60 fa fd ["_law_script"] (spLaw K (He.cT K ("law", none)).2 (He.cT K ("_law_odd_right", none)).2) := by
  have e := hfa.symm.trans T.m_law
  cases e
  obtain ⟨oc, od, kV, doc, pm, an, cdv, ct, osl, e, _, _⟩ := T.F_law.ex
  unfold exT at hb
  simp only [Bool.and_eq_true] at hb
  obtain ⟨⟨⟨_, nb0⟩, nb1⟩, hne⟩ := hb
  exact ⟨T.fd_law, fun s v => by rw [e]; exact .of_eq rfl, fun base _ _ TB => ok_law T (TB _ (List.mem_map_of_mem (show (("law", none) : He.Defn) ∈ tfH by decide))) (TB _ (List.mem_map_of_mem (show (("_law_odd_right", none) : He.Defn) ∈ tfH by decide))) (Hk.code_of KX G nb0 T.m_law T.F_law) (Hk.code_of KX G nb1 T.m_l_odd_right T.F_l_odd_right) (of_decide_eq_true hne)⟩
end K22
open PySem PySem.W PyProof.Rows in
set_option maxRecDepth 100000 in
set_option maxHeartbeats 0 in
theorem PySem.Challenge.cw_hookspans_k22_stands_and_moves_holds : PySem.Challenge.rw_hookspans_k22_stands_and_moves.Holds := by
  w_on; o_law
  refine HandSHeadRun.head_imp (r := OpenLaw.row PySem.Challenge.rw_hookspans_k22_stands_and_moves) (q := K22.qH) (H := K22.hkH) (ob := K22.obH) (M := 9000) (loose := K22.loH) (d := HandSHeadRun.topDef (OpenLaw.row PySem.Challenge.rw_hookspans_k22_stands_and_moves).prog 57) (kwd := []) K22.obH_eq K22.runH
    (by kernel_rfl) (by kernel_rfl) (by kernel_rfl) (by rfl) (by first | assumption | decide +kernel) (by decide +kernel) ⟨rfl, rfl, rfl, rfl, rfl, by decide +kernel⟩ ?hw ?hc
  case hw => w_witness2
  case hc =>
    refine LamX.walk_ofTsE (l := PySem.Challenge.rw_hookspans_k22_stands_and_moves) (n := 63) (k := 60) (x := "_law_script") (CX := fun w => L2.CX (PySem.Challenge.rw_hookspans_k22_stands_and_moves).prog w) rfl (by decide) (by kernel_rfl) ⟨rfl, by decide, by decide⟩ ?F (fun _ _ _ _ _ z => by
      obtain ⟨_, _, _, _, _, _, _, _, _, _, _, _, z⟩ := z
      exact z.elim)
    intro w mg fa h Y G hmg0
    obtain ⟨K, KX, c⟩ := Y
    have hmg : mg ("law" : PySem.Str) = some (.ref fa) := by
      have e : (HandSHeadRun.topDef (OpenLaw.row PySem.Challenge.rw_hookspans_k22_stands_and_moves).prog 57).name = ("law" : PySem.Str) := by kernel_rfl
      rw [← e]
      exact hmg0
    have hb := c.more
    have hk : K22.exK K = true := by
      unfold K22.exT at hb
      simp only [Bool.and_eq_true] at hb
      exact hb.1.1.1
    obtain ⟨T⟩ := K22.txH KX G (⟨c.t, hk, (fun p hp => by cases hp), (fun p hp => by cases hp), (fun p hp => by cases hp)⟩ : He.SaysX K22.faH K22.fnH [] [] K22.exK w h K)
    obtain ⟨fd, hb', hF⟩ := K22.all_mk (P := (PySem.Challenge.rw_hookspans_k22_stands_and_moves).prog) (w := w) KX G hmg T c.more
    refine ⟨K, KX, fd, K22.tfH.map (He.cT K), K22.spLaw K (He.cT K ("law", none)).2 (He.cT K ("_law_odd_right", none)).2, (fun p hp => ?_), (fun p hp => ?_), (fun p hp => ?_), hb', (fun H a ns hl _ hT hS => ⟨a, ns, rfl, hS, hl, hT _ (List.mem_map_of_mem (show (("law", none) : He.Defn) ∈ K22.tfH by decide)), hT _ (List.mem_map_of_mem (show (("_law_odd_right", none) : He.Defn) ∈ K22.tfH by decide)), fun _ => rfl⟩), fun base KB GB TB => hF base KB GB TB⟩
    · obtain ⟨q, hq, rfl⟩ := List.mem_map.mp hp
      exact c.empty q hq
    · obtain ⟨q, hq, rfl⟩ := List.mem_map.mp hp
      exact c.out q hq
    · obtain ⟨q, hq, rfl⟩ := List.mem_map.mp hp
      exact PySem.W.codeHd_of_K KX (c.hd q hq)
