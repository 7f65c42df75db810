import PyProof.Rows.All
import Wide.All
import OpenK.AllK
import Wide.FinOn
import HandS.ForMost
import HandS.ForExc
import HandS.ExcInit
import HandS.ExcIs
import HandS.ExcField
import HandS.Gcd
import HandS.Style
import HandS.OwnEq
import HandS.MakeKw
import HandS.SortInts
import HandS.IsInst
import HandS.DictEq
import HandS.DeepEq
import HandS.Zip
import HandS.Wide
import HandS.MakeKwOnly
import KE.GoesMore
import HandS.ExcOwn
import PyProof.ExcBaseAll.ValueError
import HandS.SetFor
import HandS.Strs
import HandS.Sort
import HandS.FStr
import HandS.Text
import HandS.Star
import HandS.SortKw
import KE.KUnpackStar
import KE.DataMinMax
import KE.KDictList
import HandS.DictTup
import HandS.SortRule
import KE.GoesEnum
import KE.GoesEnumKw
import HandS.Walk
import HandS.Nested
import HandS.HeadHook4
import HandS.HeadWalk
import HandS.Head2
import HandS.Head3
import HandS.DictComp
import HandS.Conv
import HandS.TupAny
import HandS.TupLe
import PySem.Challenge.RW_hookspans_k23_places_and_corners
set_option Elab.async false
set_option linter.all false
set_option maxRecDepth 100000
set_option maxHeartbeats 4000000
namespace PySem.W
open PySem PySem.Spec PySem.Calls PyProof.Rows
section
variable {prog : Program} {w : World} {A : Around} {E : Value → Shared → Prop} {s : Shared} {K : Frag} {x D : Addr} {ox : Obj} {od : Option Obj}
theorem lx_findObj {C : Addr} {name : Str} {a g : Value} (hc : (clsIn K C).isSome = true) (ha : findIn K (.ref C) name = some (some a)) (hg : specialIn K a "__get__" = some (some g)) (ht : takesIn K a = some true) : findObj K C od name = some (.bind g a) := by
  obtain ⟨cd, hc⟩ := Option.isSome_iff_exists.mp hc
  unfold findObj
  rw [hc, Option.bind_some, ha, Option.bind_some]
  simp [hg, ht]
theorem lx_kin_class {Q : Option Value → Shared → Prop} (hga : findIn K (.ref D) "__getattribute__" = some (some (.builtin "BaseException.__getattribute__"))) (hgt : findIn K (.ref D) "__getattr__" = some none) (hsub : subIn K (.ref D) (.type "BaseException") = some true)
    (hdct : hasDictIn K D = true) (ha : findIn K (.ref D) "__class__" = some (some (.builtin "object.__class__")))
    (hn : specialIn K (.builtin "object.__class__") "__get__" = some (some (.builtin "getset_descriptor.__get__"))) (htk : takesIn K (.builtin "object.__class__") = some true) (hm : mroIn K D (.type "object") = some true)
    (X : K.In s.heap) (I : InstAt s.heap x ox D od) (h : Q (some (.ref D)) { s with toks := s.toks + 1 }) : wpAny (model prog w) A (getAttr? (.ref x) "__class__") Q E s := by
  have hf : findObj K D od "__class__" = some (.bind (.builtin "getset_descriptor.__get__") (.builtin "object.__class__")) := lx_findObj (by obtain ⟨cd, hc, _⟩ := any_some hdct; rw [hc]; rfl) ha hn htk
  obtain ⟨hp, g, d, t, os⟩ := s
  have L0 := I.type (M := model prog w)
  have L1 := looks_findIn (M := model prog w) X hga
  have L2 := looks_findIn (M := model prog w) X hgt
  have L3 := looks_find (M := model prog w) X I hf
  have sub : Looks (model prog w) hp (isInstance (.ref x) (.type "BaseException")) true := L0.andThen (looks_subIn X hsub)
  have hx0 : (false && onTheHeap (Value.builtin "BaseException.__getattribute__")) = false := rfl
  have hx2 : (Value.builtin "BaseException.__getattribute__" == Value.builtin "object.__getattribute__") = false := by decide +kernel
  have hx1 : (onTheHeap (Value.ref D) && Value.builtin "BaseException.__getattribute__" == Value.builtin "object.__getattribute__") = false := by rw [hx2]; rfl
  unfold getAttr? getAttrBy? getAttrBy
  refine wpAny_bind (wpAny_mkText (wpAny_bind (wpAny_attempt (wpAny_holding (wpAny_bind (L0.at (wpAny_bind (L1.at ?_))))))))
  show wpAny _ _ (if (onTheHeap (Value.ref D) && Value.builtin "BaseException.__getattribute__" == Value.builtin "object.__getattribute__") = true then _ else _) _ _ _
  rw [hx1, if_neg Bool.false_ne_true]
  unfold getAttrByItsOwn hookBefore
  refine wpAny_bind ?_
  rw [if_pos (show onTheHeap (Value.ref D) = true from rfl)]
  refine L2.at ?_
  refine wpAny_bind (wpAny_attempt (wpAny_holding ?_))
  unfold callGetattribute
  rw [hx0, if_neg Bool.false_ne_true]
  unfold boundAndCalled
  rw [PySem.F.excAttr_ValueError.ga.bind (.ref x)]
  refine wpAny_bind (wpAny_pure ?_)
  show wpAny _ _ (call (.builtin "BaseException.__getattribute__") [.ref x, .str "__class__" t]) _ _ _
  refine wpAny_call (codeAny_call_builtin PySem.F.excAttr_ValueError.ga.plain PySem.F.entry_bexc_ga ?_)
  refine @check_slot (model prog w) _ _ ⟨hp, g, d, t + 1, os⟩ "BaseException.__getattribute__" "BaseException" "__getattribute__" (.ref x) [.str "__class__" t] [] _ (by decide +kernel) (by decide +kernel) sub (PySem.F.args_bexc_ga (.ref x) (.str "__class__" t)) ?_
  unfold Builtin.«object.__getattribute__»
  refine wpAny_bind (wpAny_of_eq (a := ((Value.ref x : Value), [Value.str "__class__" t])) (by first | rfl | (simp only [slotArgs]; rfl)) ?_)
  refine wpAny_bind (wpAny_pure (wpAny_bind (L0.at (wpAny_bind (L3.at ?_)))))
  show wpAny _ _ (holding [Value.builtin "object.__class__"] (call (.builtin "getset_descriptor.__get__") [.builtin "object.__class__", .ref x, .ref D]) >>= ret) _ _ _
  refine wpAny_bind (wpAny_holding (wpAny_call (class_get (s := ⟨hp, g, d, t + 1, os⟩) (ox := ox) (od := od) X I hm ?_)))
  refine wpAny_pure ?_
  show wpAny _ _ (handedOut (.ref D)) _ _ _
  rw [handedOut_of (v := .ref D) rfl]
  first
    | exact wpAny_pure (wpAny_pure h)
    | exact wpAny_pure h
    | exact wpAny_pure (wpAny_bind (wpAny_pure (wpAny_pure h)))
theorem lx_kitx (hga : findIn K (.ref D) "__getattribute__" = some (some (.builtin "BaseException.__getattribute__"))) (hgt : findIn K (.ref D) "__getattr__" = some none) (hsub : subIn K (.ref D) (.type "BaseException") = some true) (hdct : hasDictIn K D = true) (ha : findIn K (.ref D) "__class__" = some (some (.builtin "object.__class__")))
    (hn : specialIn K (.builtin "object.__class__") "__get__" = some (some (.builtin "getset_descriptor.__get__"))) (htk : takesIn K (.builtin "object.__class__") = some true) (hm : mroIn K D (.type "object") = some true) :
    KitX K (.ref x) (.ref D) (fun h => InstAt h x ox D od) where
  ty := fun _ _ _ I => I.type
  it := fun _ _ X _ => by
    obtain ⟨cdD, hcD, _⟩ := any_some hdct
    unfold clsIn at hcD
    split at hcD
    · rename_i c' d' cd' sl' ho
      intro A' Q' E' s' k q
      unfold isType loadHead
      exact wpAny_bind (wpAny_loadPart (k _ _ (X _ _ ho)) (wpAny_pure q))
    · cases hcD
  ne := fun h tp dd its n sl X htp => by
    obtain ⟨cdD, hcD, _⟩ := any_some hdct
    refine Bool.eq_false_iff.mpr fun q => ?_
    have e : D = tp := Value.ref.inj (beq_iff_eq.mp q)
    subst e
    unfold clsIn at hcD
    split at hcD
    · rename_i c' d' cd' sl' ho
      have z := (X _ _ ho).symm.trans htp
      cases z
    · cases hcD
  ca := fun X I k => lx_kin_class hga hgt hsub hdct ha hn htk hm X I k
end
end PySem.W
namespace L2
open PySem PySem.Spec PyProof.Rows
/-- isinstance(e, c), e the exception that the suite holds, of the class at D, with its own dict at d -/
def rIsED (K : PySem.W.Frag) (D d a : Addr) : List V → Hp → VK → Prop := fun xs H Q => ∃ (c : V) (cv : Value) (b : Bool) (fs : List (Str × V)), xs = [.ref a, c] ∧ (∀ u, RelV c u → u = cv) ∧ PySem.W.kitOne K (.ref D) cv = some b ∧ H d = some (.xd fs) ∧ Q (.bl b) H
theorem call_isED {X : Cx} {a D d : Addr} {oe : Obj} {pn : List (Addr × Obj)} (C : ExcC X.K D) (hz : Zc (.ref D) (some d) oe) (hf : ∃ vs, oe.data = .fields vs) : CallR (X.suite a ((a, oe) :: pn)) (.builtin "isinstance") (rIsED X.K D d a) := by
  intro pins s σ H xs us Q I r h
  obtain ⟨c, cv, b, fs, rfl, hcv, e, hd, q⟩ := h
  cases r with
  | cons rx rr =>
    cases rr with
    | cons rt rr =>
      cases rr
      cases rx
      have ec := hcv _ rt
      subst ec
      obtain ⟨hget, _⟩ := I.pin (a, oe) (List.mem_append.mpr (.inl List.mem_cons_self))
      obtain ⟨vs, hv⟩ := hf
      obtain ⟨mA, ⟨od, es, ep, eo, _⟩, _⟩ : ObjOk X.prog X.w H s.heap d (.xd fs) := I.hok d _ hd
      have J : PySem.W.InstAt s.heap a oe D (some od) := by
        obtain ⟨oc, od', oda, osl⟩ := oe
        obtain ⟨h1, h2⟩ := hz
        dsimp only at h1 h2 hv
        subst h1 h2 hv
        exact ⟨hget, rfl, rfl, eo⟩
      exact PySem.W.kia_one (PySem.W.lx_kitx C.hg C.hk C.hs C.hd C.ha C.hn C.ht C.hm) I.kIn J e (fun z => nomatch z) fun tk => ⟨.bl b, H, I.kept (t' := tk) fun _ _ z => z, rfl, q⟩
end L2
namespace LxE
open PySem PySem.SeqAt
open AutoSeq1 (wpAny_loadPart')
open MeetsSeq MeetsSeq2 MeetsSeq3 SeqRoads2
section
variable {prog : Program} {w : World} {A : Around} {R : Result → Shared → Prop}
abbrev FinOf (prog : Program) (w : World) (A : Around) (R : Result → Shared → Prop) : Fin → Shared → Prop := fun fin s' => match fin with
  | .done f => R (.ok f) s'
  | .again c' => c'.quiet = true ∧ codeAny (model prog w) A c' R s'
def ListJ (prog : Program) (w : World) (A : Around) (E : Value → Shared → Prop) (l b : Addr) (N : Nat) (e : Nat → Bool) (I : Shared → Prop) : Prop :=
  ∀ s, I s → ∃ (items items2 : Array Value), s.heap.IsList l items ∧ s.heap.IsList b items2 ∧ items.size = N ∧ items2.size = N ∧
    ∀ i (h1 : i < items.size) (h2 : i < items2.size), wpAny (model prog w) A.in1 (eqBool items[i] items2[i]) (fun r s' => r = e i ∧ I s') E s
theorem isList_obj {h : Heap} {l : Addr} {items : Array Value} (hl : h.IsList l items) : ∃ n dd sl, h.get? l = some { cls := .type "list", dict := dd, data := .seq items n, slots := sl } := by
  obtain ⟨⟨cls, dd, data, sl⟩, ho, hc, n, hd⟩ := hl
  simp only at hc hd
  subst hc hd
  exact ⟨n, dd, sl, ho⟩
theorem all_drop {N : Nat} {e : Nat → Bool} {i : Nat} (hp : ∀ j, j < i → e j = true) (hi : i < N) (hf : e i = false) : (List.range N).all e = false := by
  rw [List.all_eq_false]
  exact ⟨i, List.mem_range.mpr hi, by rw [hf]; exact Bool.false_ne_true⟩
theorem all_full {N : Nat} {e : Nat → Bool} (hp : ∀ j, j < N → e j = true) : (List.range N).all e = true := by
  rw [List.all_eq_true]
  intro x hx
  exact hp x (List.mem_range.mp hx)
theorem eq_loopB (l b : Addr) (N : Nat) (e : Nat → Bool) (I : Shared → Prop) (hl : ListJ prog w A (fun e s' => R (.error e) s') l b N e I)
    (fin : ∀ s, I s → R (.ok (.ret (.bool ((List.range N).all e)))) s) (k : Nat) :
    ∀ i : Nat, N - i = k → i ≤ N → (∀ j, j < i → e j = true) → ∀ s, I s →
      wpAny (model prog w) A.in1 (Builtin.«list.__eq__.loop» ⟨[.ref l, .ref b, rawInt i, rawInt 2], []⟩) (FinOf prog w A R) (fun e s' => R (.error e) s') s := by
  induction k with
  | zero =>
    intro i hk hi hp s h
    obtain ⟨items, items2, hl1', hb1', hs1, hs2, _⟩ := hl _ h
    obtain ⟨n, dd, sl, hl1⟩ := isList_obj hl1'
    obtain ⟨n2, dd2, sl2, hb1⟩ := isList_obj hb1'
    have hi' : i = N := by omega
    have hR : R (.ok (.ret (.bool true))) s := by
      have z := fin s h
      rw [all_full (fun j hj => hp j (by omega))] at z
      exact z
    obtain ⟨hp', g, d, tk, os⟩ := s
    wp_walk using wpAny_loadPart' hl1, wpAny_loadPart' hb1
    have hi1 : items[((i : Nat) : Int).toNat]? = none := by simp; omega
    have hi2 : items2[((i : Nat) : Int).toNat]? = none := by simp; omega
    rw [hi1, hi2]
    wp_walk using wpAny_loadPart' hl1, wpAny_loadPart' hb1
    show R (.ok (.ret (.bool (items.size == items2.size)))) _
    rw [hs1, hs2]
    simpa using hR
  | succ k ih =>
    intro i hk hi hp s h
    obtain ⟨items, items2, hl1', hb1', hs1, hs2, turn⟩ := hl _ h
    obtain ⟨n, dd, sl, hl1⟩ := isList_obj hl1'
    obtain ⟨n2, dd2, sl2, hb1⟩ := isList_obj hb1'
    have hlt : i < items.size := by omega
    have hlt2 : i < items2.size := by omega
    have ht := turn i hlt hlt2
    obtain ⟨hp', g, d, tk, os⟩ := s
    wp_walk using wpAny_loadPart' hl1, wpAny_loadPart' hb1
    have hi1 : items[((i : Nat) : Int).toNat]? = some items[i] := by simp [hlt]
    have hi2 : items2[((i : Nat) : Int).toNat]? = some items2[i] := by simp [hlt2]
    have hc : ((i : Int) + 1) = ((i + 1 : Nat) : Int) := by omega
    rw [hi1, hi2]
    refine wpAny_bind (wpAny_mono ht (fun r s2 h2 => ?_) fun _ _ x => x)
    obtain ⟨hr, h2⟩ := h2
    subst hr
    obtain ⟨items3, items4, hl3', hb3', hs3, hs4, _⟩ := hl _ h2
    obtain ⟨n3, dd3, sl3, hl3⟩ := isList_obj hl3'
    obtain ⟨n4, dd4, sl4, hb3⟩ := isList_obj hb3'
    have fin2 := fin s2 h2
    cases hei : e i with
    | true =>
      have hrec := ih (i + 1) (by omega) (by omega) (fun j hj => by
        rcases Nat.lt_succ_iff_lt_or_eq.mp hj with z | z
        · exact hp j z
        · rw [z]; exact hei) s2 h2
      obtain ⟨hp2, g2, d2, tk2, os2⟩ := s2
      wp_walk
      rw [hc]
      exact ⟨plainId_quiet plain_eq_loop _, codeAny_builtin entry_eq_loop (by
        rw [Around.under_plainId plain_eq_loop _]
        exact hrec)⟩
    | false =>
      rw [all_drop hp (by omega) hei] at fin2
      have hj1 : items3[((i : Nat) : Int).toNat]? = some (items3[i]'(by omega)) := by simp <;> omega
      have hj2 : items4[((i : Nat) : Int).toNat]? = some (items4[i]'(by omega)) := by simp <;> omega
      obtain ⟨hp2, g2, d2, tk2, os2⟩ := s2
      wp_walk using wpAny_loadPart' hl3, wpAny_loadPart' hb3
      rw [hj1, hj2]
      wp_walk
      simpa using fin2
theorem list_eqB (l b : Addr) (N : Nat) (e : Nat → Bool) (I : Shared → Prop) (hl : ListJ prog w A (fun e s' => R (.error e) s') l b N e I)
    (fin : ∀ s, I s → R (.ok (.ret (.bool ((List.range N).all e)))) s) {s : Shared} (h : I s) :
    wpAny (model prog w) A.in1 (Builtin.«list.__eq__» ⟨[.ref l, .ref b], []⟩) (FinOf prog w A R) (fun e s' => R (.error e) s') s := by
  obtain ⟨items, items2, hl1', hb1', hs1, hs2, _⟩ := hl _ h
  obtain ⟨n, dd, sl, hl1⟩ := isList_obj hl1'
  obtain ⟨n2, dd2, sl2, hb1⟩ := isList_obj hb1'
  have hrec := eq_loopB (A := A) (R := R) l b N e I hl fin _ 0 rfl (Nat.zero_le _) (fun j hj => absurd hj (Nat.not_lt_zero j)) s h
  obtain ⟨hp, g, d, tk, os⟩ := s
  have f3 := AutoSeq1.sub_list_list
  have hne : ¬ (items.size != items2.size) = true := by simp [hs1, hs2]
  wp_walk using wpAny_loadPart' hl1, wpAny_loadPart' hb1
  exact ⟨plainId_quiet plain_eq_loop _, codeAny_builtin entry_eq_loop (by
    rw [Around.under_plainId plain_eq_loop _]
    exact hrec)⟩
theorem tuple_eqB (l b : Addr) (items items2 : Array Value) (n n2 : Nat) (dd dd2 : Option Addr) (sl sl2 : Array (Option Value)) (e : Nat → Bool) (I : Shared → Prop)
    (turn : ∀ i (h1 : i < items.size) (h2 : i < items2.size) s, I s → wpAny (model prog w) A.in1 (eqBool items[i] items2[i]) (fun r s' => r = e i ∧ I s') (fun e s' => R (.error e) s') s)
    (fin : ∀ s, I s → R (.ok (.ret (.bool ((List.range (min items.size items2.size)).all e && items.size == items2.size)))) s) {s : Shared} (hl1 : s.heap.get? l = some { cls := .type "tuple", dict := dd, data := .seq items n, slots := sl }) (hb1 : s.heap.get? b = some { cls := .type "tuple", dict := dd2, data := .seq items2 n2, slots := sl2 }) (h : I s) :
    wpAny (model prog w) A.in1 (Builtin.«tuple.__eq__» ⟨[.ref l, .ref b], []⟩) (FinOf prog w A R) (fun e s' => R (.error e) s') s := by
  have f2 := AutoSeq1.sub_tuple_tuple
  have hZ : (items.toList.zip items2.toList).length = min items.size items2.size := by simp
  have h0 := h
  obtain ⟨hp, g, d, tk, os⟩ := s
  wp_walk using wpAny_loadPart' hl1, wpAny_loadPart' hb1, wpAny_forIn_list _ (fun rest b s' => b.1 = none ∧ ∃ i, rest = (items.toList.zip items2.toList).drop i ∧ (∀ j, j < i → e j = true) ∧ i ≤ min items.size items2.size ∧ I s') _
  case turn =>
    rintro ⟨y, x⟩ rest b s' ⟨hb', i, hz, hpre, hi, hI⟩
    have hlt : i < (items.toList.zip items2.toList).length := by
      rcases Nat.lt_or_ge i (items.toList.zip items2.toList).length with h' | h'
      · exact h'
      · rw [List.drop_of_length_le h'] at hz; cases hz
    have hm : i < min items.size items2.size := hZ ▸ hlt
    have h1 : i < items.size := Nat.lt_of_lt_of_le hm (Nat.min_le_left _ _)
    have h2 : i < items2.size := Nat.lt_of_lt_of_le hm (Nat.min_le_right _ _)
    rw [List.drop_eq_getElem_cons hlt] at hz
    injection hz with hyx hrest
    have hy : y = items[i] := by have := congrArg Prod.fst hyx; simpa using this
    have hx : x = items2[i] := by have := congrArg Prod.snd hyx; simpa using this
    subst hy hx
    refine wpAny_bind (wpAny_mono (turn i h1 h2 s' hI) (fun r s2 q2 => ?_) fun _ _ x => x)
    obtain ⟨hr, q2⟩ := q2
    subst hr
    cases hei : e i with
    | true =>
      wp_walk
      exact ⟨rfl, i + 1, hrest, fun j hj => by
        rcases Nat.lt_succ_iff_lt_or_eq.mp hj with z | z
        · exact hpre j z
        · rw [z]; exact hei, hm, q2⟩
    | false =>
      have hR := fin s2 q2
      rw [all_drop hpre hm hei] at hR
      wp_walk
      simpa using hR
  case fin =>
    rintro ⟨b1, b2⟩ s' ⟨hb', i, hz, hpre, hi, hI⟩
    simp only at hb'
    subst hb'
    have hge : min items.size items2.size ≤ i := by
      rcases Nat.lt_or_ge i (items.toList.zip items2.toList).length with h' | h'
      · rw [List.drop_eq_getElem_cons h'] at hz; cases hz
      · exact hZ ▸ h'
    have hR := fin s' hI
    rw [all_full (fun j hj => hpre j (by omega))] at hR
    wp_walk
    simpa [Builtin.Tuple.tupleCompareSizes] using hR
  case h =>
    exact ⟨rfl, 0, rfl, fun j hj => absurd hj (Nat.not_lt_zero j), Nat.zero_le _, h0⟩
end
section
variable {prog : Program} {w : World} {A : Around} {E : Value → Shared → Prop} {s : Shared}
theorem call_here {T : String} {name : Str} {id : String} {B : Builtin} {self : Value} {rest : List Value} {Q : Value → Shared → Prop} (slot : Slot T name id) (hT : s.TypeIs self T)
    (entry : entryFor table id = some B) (args : argsOk id ⟨self :: rest, []⟩)
    (h : wpAny (model prog w) A.in1 (B ⟨self :: rest, []⟩) (FinOf prog w A (wants Q E)) (fun e s' => wants Q E (.error e) s') s) :
    wpAny (model prog w) A (call (.builtin id) (self :: rest)) Q E s :=
  wpAny_call (codeAny_call_builtin slot.plain entry (slot.check _ _ _ _ _ _ _ _ hT args h))
theorem rc_listB {l b : Addr} {N : Nat} {e : Nat → Bool} {Q : Value → Shared → Prop} (hu : A.units < cLine) (I : Shared → Prop) (hl : ListJ prog w A E l b N e I)
    (fin : ∀ s, I s → Q (.bool ((List.range N).all e)) s) (h : I s) : wpAny (model prog w) A (richCompare .Eq (.ref l) (.ref b)) Q E s := by
  obtain ⟨items, items2, hl1', hb1', _, _, _⟩ := hl _ h
  obtain ⟨n, dd, sl, hl1⟩ := isList_obj hl1'
  obtain ⟨n2, dd2, sl2, hb1⟩ := isList_obj hb1'
  refine wpAny_richCompare_same_room (op := .Eq) ⟨_, hl1, rfl⟩ ⟨_, hb1, rfl⟩ F.slot_list_eq (call_here F.slot_list_eq ⟨_, hl1, rfl⟩ F.entry_list_eq (F.args_list_eq_2 _ _) ?_) hu
  exact list_eqB (R := wants (fun v s' => v ≠ .notImplemented ∧ Q v s') E) l b N e I hl (fun s' q => ⟨(fun x => nomatch x), fin s' q⟩) h
theorem rc_tupB {l b : Addr} {items items2 : Array Value} {e : Nat → Bool} {Q : Value → Shared → Prop} (hu : A.units < cLine) (I : Shared → Prop)
    (hl : s.heap.IsTuple l items) (hb : s.heap.IsTuple b items2)
    (turn : ∀ i (h1 : i < items.size) (h2 : i < items2.size) s, I s → wpAny (model prog w) A.in1 (eqBool items[i] items2[i]) (fun r s' => r = e i ∧ I s') E s)
    (fin : ∀ s, I s → Q (.bool ((List.range (min items.size items2.size)).all e && items.size == items2.size)) s) (h : I s) : wpAny (model prog w) A (richCompare .Eq (.ref l) (.ref b)) Q E s := by
  obtain ⟨⟨cls, dd, data, sl⟩, ho, hc, n, hd⟩ := id hl
  obtain ⟨⟨cls2, dd2, data2, sl2⟩, ho2, hc2, n2, hd2⟩ := id hb
  simp only at hc hd hc2 hd2
  subst hc hd hc2 hd2
  refine wpAny_richCompare_same_room (op := .Eq) ⟨_, ho, rfl⟩ ⟨_, ho2, rfl⟩ F.slot_tuple_eq (call_here F.slot_tuple_eq ⟨_, ho, rfl⟩ F.entry_tuple_eq (F.args_tuple_eq_2 _ _) ?_) hu
  exact tuple_eqB (R := wants (fun v s' => v ≠ .notImplemented ∧ Q v s') E) l b items items2 n n2 dd dd2 sl sl2 e I turn (fun s' q => ⟨(fun x => nomatch x), fin s' q⟩) ho ho2 h
/-- == of two values inside a builtin, by their rich comparison -/
theorem eqBool_B {u v : Value} {Q : Bool → Shared → Prop} (hne : (u == v) = false) (hf : ∀ a t b t', u = .float a t → v = .float b t' → False) (h : wpAny (model prog w) A (richCompare .Eq u v) (fun v s' => ∃ r, v = .bool r ∧ Q r s') E s) : wpAny (model prog w) A (eqBool u v) Q E s := by
  unfold eqBool
  refine wpAny_holding ?_
  rw [if_neg (by rw [hne]; exact Bool.false_ne_true)]
  have z : wpAny (model prog w) A (do let r ← richCompare .Eq u v; truthOfDropped r) Q E s := by
    refine wpAny_bind (wpAny_mono h (fun v s' hv => ?_) fun _ _ x => x)
    obtain ⟨r, rfl, q⟩ := hv
    exact wpAny_truthy_bool q
  cases u <;> cases v <;> first | exact z | exact (hf _ _ _ _ rfl rfl).elim
end
end LxE
namespace LxE
open PySem PySem.SeqAt
open AutoSeq1 (wpAny_loadPart')
open MeetsSeq MeetsSeq2 MeetsSeq3 SeqRoads2
section
variable {prog : Program} {w : World} {A : Around} {E : Value → Shared → Prop} {s : Shared}
/-- b is no instance of T -/
def NotInst (prog : Program) (w : World) (s : Shared) (b : Value) (T : String) : Prop := ∀ (A : Around) (E : Value → Shared → Prop) (Q : Bool → Shared → Prop), Q false s → wpAny (model prog w) A (isInstance b (.type T)) Q E s
theorem list_declinesI {l b : Addr} {items : Array Value} {n : Nat} {dd : Option Addr} {sl : Array (Option Value)} {R : Fin → Shared → Prop} (hl : s.heap.get? l = some { cls := .type "list", dict := dd, data := .seq items n, slots := sl }) (hI : NotInst prog w s (.ref b) "list")
    (h : R (.done (.ret .notImplemented)) s) : wpAny (model prog w) A (Builtin.«list.__eq__» ⟨[.ref l, .ref b], []⟩) R E s := by
  obtain ⟨hp, g, d, tk, os⟩ := s
  have hI' := hI
  unfold NotInst at hI'
  wp_walk using wpAny_loadPart' hl, hI'
  exact h
theorem tuple_declinesI {l b : Addr} {items : Array Value} {n : Nat} {dd : Option Addr} {sl : Array (Option Value)} {R : Fin → Shared → Prop} (hl : s.heap.get? l = some { cls := .type "tuple", dict := dd, data := .seq items n, slots := sl }) (hI : NotInst prog w s (.ref b) "tuple")
    (h : R (.done (.ret .notImplemented)) s) : wpAny (model prog w) A (Builtin.«tuple.__eq__» ⟨[.ref l, .ref b], []⟩) R E s := by
  obtain ⟨hp, g, d, tk, os⟩ := s
  have hI' := hI
  unfold NotInst at hI'
  wp_walk using wpAny_loadPart' hl, hI'
  exact h
theorem int_declinesI {i : Int} {u : Tok} {b C dx : Addr} {R : Fin → Shared → Prop} (hb : s.heap.get? b = some (PySem.W.instObj C dx)) (h : R (.done (.ret .notImplemented)) s) : wpAny (model prog w) A (Builtin.«int.__eq__» ⟨[.int i u, .ref b], []⟩) R E s := by
  obtain ⟨hp, g, d, tk, os⟩ := s
  wp_walk using wpAny_loadPart' hb, wpAny_load hb
  exact h
theorem bool_declinesI {i : Bool} {b C dx : Addr} {R : Fin → Shared → Prop} (hb : s.heap.get? b = some (PySem.W.instObj C dx)) (h : R (.done (.ret .notImplemented)) s) : wpAny (model prog w) A (Builtin.«int.__eq__» ⟨[.bool i, .ref b], []⟩) R E s := by
  obtain ⟨hp, g, d, tk, os⟩ := s
  wp_walk using wpAny_loadPart' hb, wpAny_load hb
  exact h
theorem str_declinesI {i : Str} {u : Tok} {b C dx : Addr} {R : Fin → Shared → Prop} (hb : s.heap.get? b = some (PySem.W.instObj C dx)) (h : R (.done (.ret .notImplemented)) s) : wpAny (model prog w) A (Builtin.«str.__eq__» ⟨[.str i u, .ref b], []⟩) R E s := by
  obtain ⟨hp, g, d, tk, os⟩ := s
  wp_walk using wpAny_loadPart' hb, wpAny_load hb
  exact h
end
section
open PySem.W
variable {prog : Program} {w : World} {A : Around} {E : Value → Shared → Prop} {s : Shared} {K : Frag} {y C f : Addr} {oy : Obj} {od : Option Obj} {a : Value}
theorem notInst_of {T : String} (X : K.In s.heap) (I : InstAt s.heap y oy C od) (hs : subIn K (.ref C) (.type T) = some false) : NotInst prog w s (.ref y) T := fun A E Q q => by
  have L : Looks (model prog w) s.heap (isInstance (.ref y) (.type T)) false := I.type.andThen (looks_subIn X hs)
  exact L.here q
theorem cmp_back {Ta ida : String} {Q : Value → Shared → Prop} (hu : A.units < cLine) (X : K.In s.heap) (I : InstAt s.heap y oy C od) (ha : s.TypeIs a Ta) (hsub : subIn K (.ref C) (.type Ta) = some false) (slot : Slot Ta "__eq__" ida)
    (hc1 : ∀ Q' : Value → Shared → Prop, Q' .notImplemented s → wpAny (model prog w) A (call (.builtin ida) [a, .ref y]) Q' E s)
    (hs : findIn K (.ref C) "__eq__" = some (some (.ref f))) (hf : isFn K (.ref f) = true)
    (h : wpAny (model prog w) A (call (.ref f) [.ref y, a]) (CmpBack Q) E s) : wpAny (model prog w) A (richCompare .Eq a (.ref y)) Q E s := by
  have one : wpAny (model prog w) A (tryCompare (.ref y) "__eq__" a) (fun r s' => ∃ v, r = some v ∧ Q v s') E s := by
    unfold tryCompare
    refine wpAny_bind (ifBound_K X I hs hf (wpAny_mono h (fun v s' hv => ?_) fun _ _ e => e))
    cases v <;> first | exact hv.elim | exact wpAny_pure ⟨_, rfl, hv⟩
  unfold richCompare
  simp only [ha.oneThing_none, cmpInfo]
  refine wpAny_holding (wpAny_bind (wpAny_cRoomFor hu ?_))
  refine wpAny_bind (wpAny_typeOf ha (wpAny_bind (I.type.here ?_)))
  have hne : (Value.type Ta != Value.ref C) = true := by first | rfl | simp
  simp only [hne, if_true]
  refine wpAny_bind ((looks_subIn X hsub).here ?_)
  simp only [Bool.false_eq_true, if_false, Bool.not_false, if_true]
  refine wpAny_bind (m := tryCompare a _ _) (wpAny_tryCompare_declines ha slot (hc1 _ ⟨rfl, ?_⟩))
  refine wpAny_bind (wpAny_mono one (fun r s' z => ?_) fun _ _ e => e)
  obtain ⟨v, rfl, hq⟩ := z
  exact wpAny_pure hq
end
end LxE
namespace L2
open PySem PySem.Spec PyProof.Rows
/-- data and own objects, told without the heap -/
inductive Dt where
  | non | bl (b : Bool) | int (i : Int) | str (s : Str)
  | lst (ds : List Dt) | tup (ds : List Dt) | dic (ks : List Key) (ds : List Dt) | ins (C : Addr) (fs : List Str) (ds : List Dt)
mutual
def Is (K : PySem.W.Frag) (H : Hp) : Dt → V → Prop
  | .non, v => v = .non
  | .bl b, v => v = .bl b
  | .int i, v => v = .int i
  | .str s, v => v = .str s
  | .lst ds, v => ∃ a xs, v = .ref a ∧ SqL K H a xs ∧ IsL K H ds xs
  | .tup ds, v => ∃ a xs, v = .ref a ∧ SqT K H a xs ∧ IsL K H ds xs
  | .dic ks ds, v => ∃ a kvs, v = .ref a ∧ H a = some (.dK kvs) ∧ kvs.map (·.1) = ks ∧ IsL K H ds (kvs.map (·.2))
  | .ins C fs ds, v => ∃ a dx kvs, v = .ref a ∧ H a = some (.ins C dx kvs) ∧ kvs.map (·.1) = fs ∧ IsL K H ds (kvs.map (·.2))
def IsL (K : PySem.W.Frag) (H : Hp) : List Dt → List V → Prop
  | [], vs => vs = []
  | d :: ds, vs => ∃ v r, vs = v :: r ∧ Is K H d v ∧ IsL K H ds r
end
mutual
theorem Is.ext {K : PySem.W.Frag} {H H' : Hp} (e : Ext H H') : ∀ {d : Dt} {v : V}, Is K H d v → Is K H' d v
  | .non, _, h => h
  | .bl _, _, h => h
  | .int _, _, h => h
  | .str _, _, h => h
  | .lst _, _, ⟨a, xs, h1, h2, h3⟩ => ⟨a, xs, h1, h2.ext e, IsL.ext e h3⟩
  | .tup _, _, ⟨a, xs, h1, h2, h3⟩ => ⟨a, xs, h1, h2.ext e, IsL.ext e h3⟩
  | .dic _ _, _, ⟨a, kvs, h1, h2, h3, h4⟩ => ⟨a, kvs, h1, e _ _ h2, h3, IsL.ext e h4⟩
  | .ins _ _ _, _, ⟨a, dx, kvs, h1, h2, h3, h4⟩ => ⟨a, dx, kvs, h1, e _ _ h2, h3, IsL.ext e h4⟩
theorem IsL.ext {K : PySem.W.Frag} {H H' : Hp} (e : Ext H H') : ∀ {ds : List Dt} {vs : List V}, IsL K H ds vs → IsL K H' ds vs
  | [], _, h => h
  | _ :: _, _, ⟨v, r, h1, h2, h3⟩ => ⟨v, r, h1, Is.ext e h2, IsL.ext e h3⟩
end
theorem IsL.length {K : PySem.W.Frag} {H : Hp} : ∀ {ds : List Dt} {vs : List V}, IsL K H ds vs → ds.length = vs.length
  | [], _, h => by rw [show _ = [] from h] <;> rfl
  | _ :: _, _, ⟨v, r, h1, h2, h3⟩ => by rw [h1, List.length_cons, List.length_cons, IsL.length h3]
theorem IsL.get {K : PySem.W.Frag} {H : Hp} : ∀ {ds : List Dt} {vs : List V} {i : Nat} {v : V}, IsL K H ds vs → vs[i]? = some v → ∃ d, ds[i]? = some d ∧ Is K H d v
  | [], _, i, v, h, e => by rw [show _ = [] from h] at e; simp at e
  | d :: _, _, 0, v, ⟨w, r, h1, h2, h3⟩, e => by
    rw [h1] at e
    cases e
    exact ⟨d, rfl, h2⟩
  | _ :: _, _, i + 1, v, ⟨w, r, h1, h2, h3⟩, e => by
    rw [h1] at e
    exact IsL.get (i := i) h3 e
theorem IsL.get' {K : PySem.W.Frag} {H : Hp} : ∀ {ds : List Dt} {vs : List V} {i : Nat} {d : Dt}, IsL K H ds vs → ds[i]? = some d → ∃ v, vs[i]? = some v ∧ Is K H d v
  | [], _, i, d, h, e => by simp at e
  | d :: _, _, 0, d', ⟨w, r, h1, h2, h3⟩, e => by
    rw [h1]
    cases e
    exact ⟨w, rfl, h2⟩
  | _ :: _, _, i + 1, v, ⟨w, r, h1, h2, h3⟩, e => by
    rw [h1]
    exact IsL.get' (i := i) h3 e
theorem IsL.nil {K : PySem.W.Frag} {H : Hp} : IsL K H [] [] := rfl
theorem IsL.cons {K : PySem.W.Frag} {H : Hp} {d : Dt} {v : V} {ds : List Dt} {vs : List V} (h : Is K H d v) (t : IsL K H ds vs) : IsL K H (d :: ds) (v :: vs) := ⟨v, vs, rfl, h, t⟩
theorem IsL.append {K : PySem.W.Frag} {H : Hp} : ∀ {ds es : List Dt} {vs ws : List V}, IsL K H ds vs → IsL K H es ws → IsL K H (ds ++ es) (vs ++ ws)
  | [], _, _, _, h, t => by rw [show _ = [] from h]; exact t
  | _ :: _, _, _, _, ⟨v, r, h1, h2, h3⟩, t => by rw [h1]; exact ⟨v, _, rfl, h2, IsL.append h3 t⟩
/-- ints -/
theorem isL_ints {K : PySem.W.Frag} {H : Hp} : ∀ ns : List Int, IsL K H (ns.map Dt.int) (ns.map V.int)
  | [] => rfl
  | n :: r => ⟨_, _, rfl, rfl, isL_ints r⟩
theorem of_isL_ints {K : PySem.W.Frag} {H : Hp} : ∀ {ns : List Int} {vs : List V}, IsL K H (ns.map Dt.int) vs → vs = ns.map V.int
  | [], _, h => h
  | n :: r, _, ⟨v, w, h1, h2, h3⟩ => by rw [h1, show v = V.int n from h2, of_isL_ints h3] <;> rfl
def look (ls : List Key) (es : List Dt) (k : Key) : Option Dt := ((ls.zip es).find? fun p => decide (p.1 = k)).map (·.2)
mutual
def deq : Dt → Dt → Bool
  | .non, .non => true
  | .bl a, .bl b => a == b
  | .bl a, .int b => (if a then 1 else 0) == b
  | .int a, .bl b => a == (if b then 1 else 0)
  | .int a, .int b => a == b
  | .str a, .str b => a == b
  | .lst a, .lst b => deqL a b
  | .tup a, .tup b => deqL a b
  | .dic ks ds, .dic ls es => ks.length == ls.length && deqD ks ds ls es
  | .ins C _ a, .ins C' _ b => C == C' && deqL a b
  | _, _ => false
def deqL : List Dt → List Dt → Bool
  | [], [] => true
  | a :: as, b :: bs => deq a b && deqL as bs
  | _, _ => false
def deqD : List Key → List Dt → List Key → List Dt → Bool
  | k :: ks, d :: ds, ls, es => (match look ls es k with | some e => deq d e | none => false) && deqD ks ds ls es
  | _, _, _, _ => true
end
mutual
def dep : Dt → Nat
  | .lst ds => depL ds + 1
  | .tup ds => depL ds + 1
  | .dic _ ds => depL ds + 1
  | .ins _ _ ds => depL ds + 1
  | _ => 0
def depL : List Dt → Nat
  | [] => 0
  | d :: ds => max (dep d) (depL ds)
end
theorem depL_get : ∀ {ds : List Dt} {i : Nat} {d : Dt}, ds[i]? = some d → dep d ≤ depL ds
  | [], _, _, e => by simp at e
  | a :: ds, 0, d, e => by cases e; exact Nat.le_max_left _ _
  | a :: ds, i + 1, d, e => Nat.le_trans (depL_get (i := i) e) (Nat.le_max_right _ _)
/-- the item's answer -/
def eAt (ds es : List Dt) (i : Nat) : Bool := match ds[i]?, es[i]? with | some d, some e => deq d e | _, _ => true
theorem range_all_succ (n : Nat) (f : Nat → Bool) : (List.range (n + 1)).all f = (f 0 && (List.range n).all fun i => f (i + 1)) := by
  rw [List.range_succ_eq_map, List.all_cons, List.all_map]
  rfl
theorem deqL_eq : ∀ ds es : List Dt, deqL ds es = ((List.range (min ds.length es.length)).all (eAt ds es) && ds.length == es.length)
  | [], [] => by simp [deqL]
  | [], _ :: _ => by simp [deqL]
  | _ :: _, [] => by simp [deqL]
  | a :: as, b :: bs => by
    have ih := deqL_eq as bs
    have h1 : min (a :: as).length (b :: bs).length = min as.length bs.length + 1 := by simp [Nat.succ_min_succ]
    rw [h1, range_all_succ]
    show (deq a b && deqL as bs) = _
    rw [ih]
    have h2 : (fun i => eAt (a :: as) (b :: bs) (i + 1)) = eAt as bs := rfl
    have h3 : eAt (a :: as) (b :: bs) 0 = deq a b := rfl
    rw [h2, h3, List.length_cons, List.length_cons, Bool.and_assoc]
    congr 2
    simp
mutual
def pureD : Dt → Bool
  | .lst ds => pureL ds
  | .tup ds => pureL ds
  | .dic _ ds => pureL ds
  | .ins _ _ _ => false
  | _ => true
def pureL : List Dt → Bool
  | [] => true
  | d :: ds => pureD d && pureL ds
end
theorem pureL_get : ∀ {ds : List Dt} {i : Nat} {d : Dt}, pureL ds = true → ds[i]? = some d → pureD d = true
  | [], _, _, _, e => by simp at e
  | a :: ds, 0, d, h, e => by cases e; exact (Bool.and_eq_true_iff.mp h).1
  | a :: ds, i + 1, d, h, e => pureL_get (i := i) (Bool.and_eq_true_iff.mp h).2 e
end L2
namespace LxE
open PySem PySem.SeqAt
open AutoSeq1 (wpAny_loadPart')
open MeetsSeq MeetsSeq2 MeetsSeq3 SeqRoads2
section
variable {prog : Program} {w : World} {A : Around} {E : Value → Shared → Prop} {s : Shared}
theorem notInst_ty {v : Value} {T U : String} (hT : s.TypeIs v T) (h : isSubtype (.type T) (.type U) = pure false) : NotInst prog w s v U := fun _ _ _ q => wpAny_isInstance hT h q
theorem dict_declines {a : Addr} {v : Value} {R : Fin → Shared → Prop} (ha : s.TypeIs (.ref a) "dict") (hI : NotInst prog w s v "dict") (h : R (.done (.ret .notImplemented)) s) : wpAny (model prog w) A (Builtin.«dict.__eq__» ⟨[.ref a, v], []⟩) R E s := by
  show wpAny _ _ (Builtin.Dict.dictSlotArgs "__eq__" ⟨[.ref a, v], []⟩ >>= _) _ _ s
  refine wpAny_bind ?_
  unfold Builtin.Dict.dictSlotArgs
  refine wpAny_bind (wpAny_notOrdered_dict ha ?_)
  show wpAny _ _ (pure (Value.ref a, v)) _ _ s
  refine wpAny_pure ?_
  refine wpAny_bind (hI _ _ _ ?_)
  simp only [Bool.not_false, if_true]
  wp_walk
  exact h
theorem int_declinesD {i : Int} {u : Tok} {b : Addr} {o : Obj} {es : Array DictEntry} {ep : Nat} {R : Fin → Shared → Prop} (hb : s.heap.get? b = some o) (hd : o.data = .dict es ep) (h : R (.done (.ret .notImplemented)) s) : wpAny (model prog w) A (Builtin.«int.__eq__» ⟨[.int i u, .ref b], []⟩) R E s := by
  obtain ⟨hp, g, d, tk, os⟩ := s
  obtain ⟨cl, dd, dt, sl⟩ := o
  simp only at hd
  subst hd
  wp_walk using wpAny_loadPart' hb, wpAny_load hb
  exact h
theorem bool_declinesD {i : Bool} {b : Addr} {o : Obj} {es : Array DictEntry} {ep : Nat} {R : Fin → Shared → Prop} (hb : s.heap.get? b = some o) (hd : o.data = .dict es ep) (h : R (.done (.ret .notImplemented)) s) : wpAny (model prog w) A (Builtin.«int.__eq__» ⟨[.bool i, .ref b], []⟩) R E s := by
  obtain ⟨hp, g, d, tk, os⟩ := s
  obtain ⟨cl, dd, dt, sl⟩ := o
  simp only at hd
  subst hd
  wp_walk using wpAny_loadPart' hb, wpAny_load hb
  exact h
theorem str_declinesD {i : Str} {u : Tok} {b : Addr} {o : Obj} {es : Array DictEntry} {ep : Nat} {R : Fin → Shared → Prop} (hb : s.heap.get? b = some o) (hd : o.data = .dict es ep) (h : R (.done (.ret .notImplemented)) s) : wpAny (model prog w) A (Builtin.«str.__eq__» ⟨[.str i u, .ref b], []⟩) R E s := by
  obtain ⟨hp, g, d, tk, os⟩ := s
  obtain ⟨cl, dd, dt, sl⟩ := o
  simp only at hd
  subst hd
  wp_walk using wpAny_loadPart' hb, wpAny_load hb
  exact h
/-- a built-in == that declines, as a call -/
theorem callFin {self : Value} {rest : List Value} {T : String} {name : Str} {id : String} {B : Builtin} (slot : Slot T name id) (hT : s.TypeIs self T) (entry : entryFor table id = some B) (args : argsOk id ⟨self :: rest, []⟩)
    (hB : ∀ (A : Around) (E : Value → Shared → Prop) (R : Fin → Shared → Prop), R (.done (.ret .notImplemented)) s → wpAny (model prog w) A (B ⟨self :: rest, []⟩) R E s) (Q' : Value → Shared → Prop) (q : Q' .notImplemented s) :
    wpAny (model prog w) A (call (.builtin id) (self :: rest)) Q' E s := call_here slot hT entry args (hB _ _ _ q)
end
end LxE
namespace LxE
open PySem PySem.SeqAt L2
open AutoSeq1 (wpAny_loadPart')
open MeetsSeq MeetsSeq2 MeetsSeq3 SeqRoads2
section
variable {prog : Program} {w : World} {A : Around} {E : Value → Shared → Prop} {s : Shared}
theorem isTup_obj {h : Heap} {l : Addr} {items : Array Value} (hl : h.IsTuple l items) : ∃ n dd sl, h.get? l = some { cls := .type "tuple", dict := dd, data := .seq items n, slots := sl } := by
  obtain ⟨⟨cls, dd, data, sl⟩, ho, hc, n, hd⟩ := hl
  simp only at hc hd
  subst hc hd
  exact ⟨n, dd, sl, ho⟩
theorem dict_obj {K : Type} [DecidableEq K] {knd : KeyKind prog w K} {h : Heap} {l : Addr} {kvs : List (K × Value)} (hl : h.DictOf knd l kvs) : ∃ (o : Obj) (es : Array DictEntry) (ep : Nat), h.get? l = some o ∧ o.data = .dict es ep := by
  obtain ⟨o, es, ep, ho, _, hd, _⟩ := hl
  exact ⟨o, es, ep, ho, hd⟩
theorem ti_list {l : Addr} {items : Array Value} (hl : s.heap.IsList l items) : s.TypeIs (.ref l) "list" := by
  obtain ⟨o, ho, hc, _⟩ := hl
  exact ⟨o, ho, hc⟩
theorem ti_tuple {l : Addr} {items : Array Value} (hl : s.heap.IsTuple l items) : s.TypeIs (.ref l) "tuple" := by
  obtain ⟨o, ho, hc, _⟩ := hl
  exact ⟨o, ho, hc⟩
theorem ne_data {h : Heap} {a b : Addr} {oa ob : Obj} (ha : h.get? a = some oa) (hb : h.get? b = some ob) (hd : oa.data ≠ ob.data) : a ≠ b := fun e => by
  subst e
  rw [ha] at hb
  cases hb
  exact hd rfl
theorem isSame_lst_dic {K : Type} [DecidableEq K] {knd : KeyKind prog w K} {a b : Addr} {items : Array Value} {kvs : List (K × Value)} {M : Model} {R : Bool → Shared → Prop} (h1 : s.heap.IsList a items) (h2 : s.heap.DictOf knd b kvs) (q : R false s) : wpAny M A (isSame (.ref a) (.ref b)) R E s := by
  obtain ⟨n, dd, sl, ho⟩ := isList_obj h1
  obtain ⟨o, es, ep, ho2, hd⟩ := dict_obj h2
  exact wpAny_isSame_ref_other (ne_data ho ho2 (by rw [hd]; exact fun z => nomatch z)) ho ho2 (by simp) q
theorem isSame_dic_lst {K : Type} [DecidableEq K] {knd : KeyKind prog w K} {a b : Addr} {items : Array Value} {kvs : List (K × Value)} {M : Model} {R : Bool → Shared → Prop} (h2 : s.heap.DictOf knd a kvs) (h1 : s.heap.IsList b items) (q : R false s) : wpAny M A (isSame (.ref a) (.ref b)) R E s := by
  obtain ⟨n, dd, sl, ho⟩ := isList_obj h1
  obtain ⟨o, es, ep, ho2, hd⟩ := dict_obj h2
  exact wpAny_isSame_ref_other' (ne_data ho2 ho (by rw [hd]; exact fun z => nomatch z)) ho2 ho (by simp) q
theorem isSame_tup_dic {K : Type} [DecidableEq K] {knd : KeyKind prog w K} {a b : Addr} {items : Array Value} {kvs : List (K × Value)} {M : Model} {R : Bool → Shared → Prop} (h1 : s.heap.IsTuple a items) (h2 : s.heap.DictOf knd b kvs) (q : R false s) : wpAny M A (isSame (.ref a) (.ref b)) R E s := by
  obtain ⟨n, dd, sl, ho⟩ := isTup_obj h1
  have ht := h2.typeIs
  obtain ⟨o, es, ep, ho2, hd⟩ := dict_obj h2
  obtain ⟨o', ho', hc⟩ := ht
  rw [ho2] at ho'
  cases ho'
  exact wpAny_isSame_ref_other' (ne_data ho ho2 (by rw [hd]; exact fun z => nomatch z)) ho ho2 (by rw [hc]; simp) q
theorem isSame_dic_tup {K : Type} [DecidableEq K] {knd : KeyKind prog w K} {a b : Addr} {items : Array Value} {kvs : List (K × Value)} {M : Model} {R : Bool → Shared → Prop} (h2 : s.heap.DictOf knd a kvs) (h1 : s.heap.IsTuple b items) (q : R false s) : wpAny M A (isSame (.ref a) (.ref b)) R E s := by
  obtain ⟨n, dd, sl, ho⟩ := isTup_obj h1
  have ht := h2.typeIs
  obtain ⟨o, es, ep, ho2, hd⟩ := dict_obj h2
  obtain ⟨o', ho', hc⟩ := ht
  rw [ho2] at ho'
  cases ho'
  exact wpAny_isSame_ref_other (ne_data ho2 ho (by rw [hd]; exact fun z => nomatch z)) ho2 ho (by rw [hc]; simp) q
end
def kd : Dt → Nat
  | .non => 0 | .bl _ => 1 | .int _ => 1 | .str _ => 2 | .lst _ => 3 | .tup _ => 4 | .dic _ _ => 5 | .ins _ _ _ => 6
def RcP (prog : Program) (w : World) (A : Around) (s : Shared) (u v : Value) (k : Bool) : Prop := ∀ (E Q : Value → Shared → Prop), Q (.bool k) s → wpAny (model prog w) A (richCompare .Eq u v) Q E s
theorem mis {X : Cx} {pins : List (Addr × Obj)} {σ : L2.St} {H : Hp} {s : Shared} {A : Around} (I : Inv X pins σ H s) (hu : A.units < cLine) {x y : V} {u v : Value} :
    ∀ (d e : Dt), Is X.K H d x → Is X.K H e y → RelV x u → RelV y v → kd d ≠ kd e → kd d ≠ 6 → kd e ≠ 6 → RcP X.prog X.w A s u v false
  | .non, .non, _, _, _, _, h, _, _ => absurd rfl h
  | .non, .bl b2, hd, he, rx, ry, _, _, _ => by
    cases (show x = V.non from hd)
    cases (show u = Value.none from rx)
    cases (show y = V.bl b2 from he)
    cases (show v = Value.bool b2 from ry)
    exact fun E Q q => RcAt.none_bool b2 X.prog X.w E Q q
  | .non, .int i2, hd, he, rx, ry, _, _, _ => by
    cases (show x = V.non from hd)
    cases (show u = Value.none from rx)
    cases (show y = V.int i2 from he)
    obtain ⟨t2, rfl⟩ := (show ∃ t, v = Value.int i2 t from ry)
    exact fun E Q q => RcAt.none_int i2 t2 X.prog X.w E Q q
  | .non, .str z2, hd, he, rx, ry, _, _, _ => by
    cases (show x = V.non from hd)
    cases (show u = Value.none from rx)
    cases (show y = V.str z2 from he)
    obtain ⟨t2, rfl⟩ := (show ∃ t, v = Value.str z2 t from ry)
    exact fun E Q q => RcAt.none_str z2 t2 X.prog X.w E Q q
  | .non, .lst ds2, hd, he, rx, ry, _, _, _ => by
    cases (show x = V.non from hd)
    cases (show u = Value.none from rx)
    obtain ⟨a2, xs2, ex2, hs2, _⟩ := he
    subst ex2
    cases (show v = Value.ref a2 from ry)
    obtain ⟨its2, _, p2, _⟩ := I.list hs2
    have o2 := p2.isList
    exact fun E Q q => RcAt.none_list o2 hu X.prog X.w E Q q
  | .non, .tup ds2, hd, he, rx, ry, _, _, _ => by
    cases (show x = V.non from hd)
    cases (show u = Value.none from rx)
    obtain ⟨a2, xs2, ex2, hs2, _⟩ := he
    subst ex2
    cases (show v = Value.ref a2 from ry)
    obtain ⟨its2, _, o2, _⟩ := I.tuple hs2
    exact fun E Q q => RcAt.none_tuple o2 hu X.prog X.w E Q q
  | .non, .dic ks2 ds2, hd, he, rx, ry, _, _, _ => by
    cases (show x = V.non from hd)
    cases (show u = Value.none from rx)
    obtain ⟨a2, xs2, ex2, hs2, _⟩ := he
    subst ex2
    cases (show v = Value.ref a2 from ry)
    obtain ⟨_, _, va2, _, o2⟩ := (show ObjOk X.prog X.w H s.heap a2 (.dK xs2) from I.hok a2 _ hs2)
    exact fun E Q q => rc_eq_decline_or (k := false) (show s.TypeIs Value.none "NoneType" from rfl) o2.typeIs (by decide) F.sub_dict_NoneType F.slot_NoneType_eq F.slot_dict_eq_refl
      (fun Q' q' => call_gives F.slot_NoneType_eq rfl F.entry_NoneType_eq (F.args_NoneType_eq_2 _ _) (NoneType___eq___none_ref_0 a2) q')
      (fun Q' q' => callFin F.slot_dict_eq_refl o2.typeIs F.entry_dict_eq (F.args_dict_eq_2 _ _) (fun _ _ _ z => dict_declines o2.typeIs (notInst_ty (show s.TypeIs Value.none "NoneType" from rfl) F.sub_NoneType_dict) z) Q' q')
      (fun _ q' => wpAny_of_eq (rfl : isSame Value.none (Value.ref a2) = pure false) q') (.inr hu) q
  | .bl b1, .non, hd, he, rx, ry, _, _, _ => by
    cases (show x = V.bl b1 from hd)
    cases (show u = Value.bool b1 from rx)
    cases (show y = V.non from he)
    cases (show v = Value.none from ry)
    exact fun E Q q => RcAt.bool_none b1 X.prog X.w E Q q
  | .bl b1, .bl b2, _, _, _, _, h, _, _ => absurd rfl h
  | .bl b1, .int i2, _, _, _, _, h, _, _ => absurd rfl h
  | .bl b1, .str z2, hd, he, rx, ry, _, _, _ => by
    cases (show x = V.bl b1 from hd)
    cases (show u = Value.bool b1 from rx)
    cases (show y = V.str z2 from he)
    obtain ⟨t2, rfl⟩ := (show ∃ t, v = Value.str z2 t from ry)
    exact fun E Q q => RcAt.bool_str b1 z2 t2 X.prog X.w E Q q
  | .bl b1, .lst ds2, hd, he, rx, ry, _, _, _ => by
    cases (show x = V.bl b1 from hd)
    cases (show u = Value.bool b1 from rx)
    obtain ⟨a2, xs2, ex2, hs2, _⟩ := he
    subst ex2
    cases (show v = Value.ref a2 from ry)
    obtain ⟨its2, _, p2, _⟩ := I.list hs2
    have o2 := p2.isList
    exact fun E Q q => RcAt.bool_list b1 o2 hu X.prog X.w E Q q
  | .bl b1, .tup ds2, hd, he, rx, ry, _, _, _ => by
    cases (show x = V.bl b1 from hd)
    cases (show u = Value.bool b1 from rx)
    obtain ⟨a2, xs2, ex2, hs2, _⟩ := he
    subst ex2
    cases (show v = Value.ref a2 from ry)
    obtain ⟨its2, _, o2, _⟩ := I.tuple hs2
    exact fun E Q q => RcAt.bool_tuple b1 o2 hu X.prog X.w E Q q
  | .bl b1, .dic ks2 ds2, hd, he, rx, ry, _, _, _ => by
    cases (show x = V.bl b1 from hd)
    cases (show u = Value.bool b1 from rx)
    obtain ⟨a2, xs2, ex2, hs2, _⟩ := he
    subst ex2
    cases (show v = Value.ref a2 from ry)
    obtain ⟨_, _, va2, _, o2⟩ := (show ObjOk X.prog X.w H s.heap a2 (.dK xs2) from I.hok a2 _ hs2)
    exact fun E Q q => rc_eq_decline_or (k := false) (show s.TypeIs (Value.bool b1) "bool" from rfl) o2.typeIs (by decide) F.sub_dict_bool F.slot_bool_eq F.slot_dict_eq_refl
      (fun Q' q' => callFin F.slot_bool_eq (show s.TypeIs (Value.bool b1) "bool" from rfl) F.entry_int_eq (F.args_int_eq_2 _ _) (fun _ _ _ z => (dict_obj o2).elim fun _ y => y.elim fun _ y => y.elim fun _ ho => bool_declinesD ho.1 ho.2 z) Q' q')
      (fun Q' q' => callFin F.slot_dict_eq_refl o2.typeIs F.entry_dict_eq (F.args_dict_eq_2 _ _) (fun _ _ _ z => dict_declines o2.typeIs (notInst_ty (show s.TypeIs (Value.bool b1) "bool" from rfl) F.sub_bool_dict) z) Q' q')
      (fun _ q' => wpAny_of_eq (rfl : isSame (Value.bool b1) (Value.ref a2) = pure false) q') (.inr hu) q
  | .int i1, .non, hd, he, rx, ry, _, _, _ => by
    cases (show x = V.int i1 from hd)
    obtain ⟨t1, rfl⟩ := (show ∃ t, u = Value.int i1 t from rx)
    cases (show y = V.non from he)
    cases (show v = Value.none from ry)
    exact fun E Q q => RcAt.int_none i1 t1 X.prog X.w E Q q
  | .int i1, .bl b2, _, _, _, _, h, _, _ => absurd rfl h
  | .int i1, .int i2, _, _, _, _, h, _, _ => absurd rfl h
  | .int i1, .str z2, hd, he, rx, ry, _, _, _ => by
    cases (show x = V.int i1 from hd)
    obtain ⟨t1, rfl⟩ := (show ∃ t, u = Value.int i1 t from rx)
    cases (show y = V.str z2 from he)
    obtain ⟨t2, rfl⟩ := (show ∃ t, v = Value.str z2 t from ry)
    exact fun E Q q => RcAt.int_str i1 t1 z2 t2 X.prog X.w E Q q
  | .int i1, .lst ds2, hd, he, rx, ry, _, _, _ => by
    cases (show x = V.int i1 from hd)
    obtain ⟨t1, rfl⟩ := (show ∃ t, u = Value.int i1 t from rx)
    obtain ⟨a2, xs2, ex2, hs2, _⟩ := he
    subst ex2
    cases (show v = Value.ref a2 from ry)
    obtain ⟨its2, _, p2, _⟩ := I.list hs2
    have o2 := p2.isList
    exact fun E Q q => RcAt.int_list i1 t1 o2 hu X.prog X.w E Q q
  | .int i1, .tup ds2, hd, he, rx, ry, _, _, _ => by
    cases (show x = V.int i1 from hd)
    obtain ⟨t1, rfl⟩ := (show ∃ t, u = Value.int i1 t from rx)
    obtain ⟨a2, xs2, ex2, hs2, _⟩ := he
    subst ex2
    cases (show v = Value.ref a2 from ry)
    obtain ⟨its2, _, o2, _⟩ := I.tuple hs2
    exact fun E Q q => RcAt.int_tuple i1 t1 o2 hu X.prog X.w E Q q
  | .int i1, .dic ks2 ds2, hd, he, rx, ry, _, _, _ => by
    cases (show x = V.int i1 from hd)
    obtain ⟨t1, rfl⟩ := (show ∃ t, u = Value.int i1 t from rx)
    obtain ⟨a2, xs2, ex2, hs2, _⟩ := he
    subst ex2
    cases (show v = Value.ref a2 from ry)
    obtain ⟨_, _, va2, _, o2⟩ := (show ObjOk X.prog X.w H s.heap a2 (.dK xs2) from I.hok a2 _ hs2)
    exact fun E Q q => rc_eq_decline_or (k := false) (show s.TypeIs (Value.int i1 t1) "int" from rfl) o2.typeIs (by decide) F.sub_dict_int F.slot_int_eq F.slot_dict_eq_refl
      (fun Q' q' => callFin F.slot_int_eq (show s.TypeIs (Value.int i1 t1) "int" from rfl) F.entry_int_eq (F.args_int_eq_2 _ _) (fun _ _ _ z => (dict_obj o2).elim fun _ y => y.elim fun _ y => y.elim fun _ ho => int_declinesD ho.1 ho.2 z) Q' q')
      (fun Q' q' => callFin F.slot_dict_eq_refl o2.typeIs F.entry_dict_eq (F.args_dict_eq_2 _ _) (fun _ _ _ z => dict_declines o2.typeIs (notInst_ty (show s.TypeIs (Value.int i1 t1) "int" from rfl) F.sub_int_dict) z) Q' q')
      (fun _ q' => wpAny_of_eq (rfl : isSame (Value.int i1 t1) (Value.ref a2) = pure false) q') (.inr hu) q
  | .str z1, .non, hd, he, rx, ry, _, _, _ => by
    cases (show x = V.str z1 from hd)
    obtain ⟨t1, rfl⟩ := (show ∃ t, u = Value.str z1 t from rx)
    cases (show y = V.non from he)
    cases (show v = Value.none from ry)
    exact fun E Q q => RcAt.str_none z1 t1 X.prog X.w E Q q
  | .str z1, .bl b2, hd, he, rx, ry, _, _, _ => by
    cases (show x = V.str z1 from hd)
    obtain ⟨t1, rfl⟩ := (show ∃ t, u = Value.str z1 t from rx)
    cases (show y = V.bl b2 from he)
    cases (show v = Value.bool b2 from ry)
    exact fun E Q q => RcAt.str_bool z1 t1 b2 X.prog X.w E Q q
  | .str z1, .int i2, hd, he, rx, ry, _, _, _ => by
    cases (show x = V.str z1 from hd)
    obtain ⟨t1, rfl⟩ := (show ∃ t, u = Value.str z1 t from rx)
    cases (show y = V.int i2 from he)
    obtain ⟨t2, rfl⟩ := (show ∃ t, v = Value.int i2 t from ry)
    exact fun E Q q => RcAt.str_int z1 t1 i2 t2 X.prog X.w E Q q
  | .str z1, .str z2, _, _, _, _, h, _, _ => absurd rfl h
  | .str z1, .lst ds2, hd, he, rx, ry, _, _, _ => by
    cases (show x = V.str z1 from hd)
    obtain ⟨t1, rfl⟩ := (show ∃ t, u = Value.str z1 t from rx)
    obtain ⟨a2, xs2, ex2, hs2, _⟩ := he
    subst ex2
    cases (show v = Value.ref a2 from ry)
    obtain ⟨its2, _, p2, _⟩ := I.list hs2
    have o2 := p2.isList
    exact fun E Q q => RcAt.str_list z1 t1 o2 hu X.prog X.w E Q q
  | .str z1, .tup ds2, hd, he, rx, ry, _, _, _ => by
    cases (show x = V.str z1 from hd)
    obtain ⟨t1, rfl⟩ := (show ∃ t, u = Value.str z1 t from rx)
    obtain ⟨a2, xs2, ex2, hs2, _⟩ := he
    subst ex2
    cases (show v = Value.ref a2 from ry)
    obtain ⟨its2, _, o2, _⟩ := I.tuple hs2
    exact fun E Q q => RcAt.str_tuple z1 t1 o2 hu X.prog X.w E Q q
  | .str z1, .dic ks2 ds2, hd, he, rx, ry, _, _, _ => by
    cases (show x = V.str z1 from hd)
    obtain ⟨t1, rfl⟩ := (show ∃ t, u = Value.str z1 t from rx)
    obtain ⟨a2, xs2, ex2, hs2, _⟩ := he
    subst ex2
    cases (show v = Value.ref a2 from ry)
    obtain ⟨_, _, va2, _, o2⟩ := (show ObjOk X.prog X.w H s.heap a2 (.dK xs2) from I.hok a2 _ hs2)
    exact fun E Q q => rc_eq_decline_or (k := false) (show s.TypeIs (Value.str z1 t1) "str" from rfl) o2.typeIs (by decide) F.sub_dict_str F.slot_str_eq F.slot_dict_eq_refl
      (fun Q' q' => callFin F.slot_str_eq (show s.TypeIs (Value.str z1 t1) "str" from rfl) F.entry_str_eq (F.args_str_eq_2 _ _) (fun _ _ _ z => (dict_obj o2).elim fun _ y => y.elim fun _ y => y.elim fun _ ho => str_declinesD ho.1 ho.2 z) Q' q')
      (fun Q' q' => callFin F.slot_dict_eq_refl o2.typeIs F.entry_dict_eq (F.args_dict_eq_2 _ _) (fun _ _ _ z => dict_declines o2.typeIs (notInst_ty (show s.TypeIs (Value.str z1 t1) "str" from rfl) F.sub_str_dict) z) Q' q')
      (fun _ q' => wpAny_of_eq (rfl : isSame (Value.str z1 t1) (Value.ref a2) = pure false) q') (.inr hu) q
  | .lst ds1, .non, hd, he, rx, ry, _, _, _ => by
    obtain ⟨a1, xs1, ex1, hs1, _⟩ := hd
    subst ex1
    cases (show u = Value.ref a1 from rx)
    obtain ⟨its1, _, p1, _⟩ := I.list hs1
    have o1 := p1.isList
    cases (show y = V.non from he)
    cases (show v = Value.none from ry)
    exact fun E Q q => RcAt.list_none o1 hu X.prog X.w E Q q
  | .lst ds1, .bl b2, hd, he, rx, ry, _, _, _ => by
    obtain ⟨a1, xs1, ex1, hs1, _⟩ := hd
    subst ex1
    cases (show u = Value.ref a1 from rx)
    obtain ⟨its1, _, p1, _⟩ := I.list hs1
    have o1 := p1.isList
    cases (show y = V.bl b2 from he)
    cases (show v = Value.bool b2 from ry)
    exact fun E Q q => RcAt.list_bool b2 o1 hu X.prog X.w E Q q
  | .lst ds1, .int i2, hd, he, rx, ry, _, _, _ => by
    obtain ⟨a1, xs1, ex1, hs1, _⟩ := hd
    subst ex1
    cases (show u = Value.ref a1 from rx)
    obtain ⟨its1, _, p1, _⟩ := I.list hs1
    have o1 := p1.isList
    cases (show y = V.int i2 from he)
    obtain ⟨t2, rfl⟩ := (show ∃ t, v = Value.int i2 t from ry)
    exact fun E Q q => RcAt.list_int i2 t2 o1 hu X.prog X.w E Q q
  | .lst ds1, .str z2, hd, he, rx, ry, _, _, _ => by
    obtain ⟨a1, xs1, ex1, hs1, _⟩ := hd
    subst ex1
    cases (show u = Value.ref a1 from rx)
    obtain ⟨its1, _, p1, _⟩ := I.list hs1
    have o1 := p1.isList
    cases (show y = V.str z2 from he)
    obtain ⟨t2, rfl⟩ := (show ∃ t, v = Value.str z2 t from ry)
    exact fun E Q q => RcAt.list_str z2 t2 o1 hu X.prog X.w E Q q
  | .lst ds1, .lst ds2, _, _, _, _, h, _, _ => absurd rfl h
  | .lst ds1, .tup ds2, hd, he, rx, ry, _, _, _ => by
    obtain ⟨a1, xs1, ex1, hs1, _⟩ := hd
    subst ex1
    cases (show u = Value.ref a1 from rx)
    obtain ⟨its1, _, p1, _⟩ := I.list hs1
    have o1 := p1.isList
    obtain ⟨a2, xs2, ex2, hs2, _⟩ := he
    subst ex2
    cases (show v = Value.ref a2 from ry)
    obtain ⟨its2, _, o2, _⟩ := I.tuple hs2
    exact fun E Q q => RcAt.list_tuple o1 o2 hu X.prog X.w E Q q
  | .lst ds1, .dic ks2 ds2, hd, he, rx, ry, _, _, _ => by
    obtain ⟨a1, xs1, ex1, hs1, _⟩ := hd
    subst ex1
    cases (show u = Value.ref a1 from rx)
    obtain ⟨its1, _, p1, _⟩ := I.list hs1
    have o1 := p1.isList
    obtain ⟨a2, xs2, ex2, hs2, _⟩ := he
    subst ex2
    cases (show v = Value.ref a2 from ry)
    obtain ⟨_, _, va2, _, o2⟩ := (show ObjOk X.prog X.w H s.heap a2 (.dK xs2) from I.hok a2 _ hs2)
    exact fun E Q q => rc_eq_decline_or (k := false) (ti_list o1) o2.typeIs (by decide) F.sub_dict_list F.slot_list_eq F.slot_dict_eq_refl
      (fun Q' q' => callFin F.slot_list_eq (ti_list o1) F.entry_list_eq (F.args_list_eq_2 _ _) (fun _ _ _ z => (isList_obj o1).elim fun _ y => y.elim fun _ y => y.elim fun _ ho => list_declinesI ho (notInst_ty o2.typeIs F.sub_dict_list) z) Q' q')
      (fun Q' q' => callFin F.slot_dict_eq_refl o2.typeIs F.entry_dict_eq (F.args_dict_eq_2 _ _) (fun _ _ _ z => dict_declines o2.typeIs (notInst_ty (ti_list o1) F.sub_list_dict) z) Q' q')
      (fun _ q' => isSame_lst_dic o1 o2 q') (.inr hu) q
  | .tup ds1, .non, hd, he, rx, ry, _, _, _ => by
    obtain ⟨a1, xs1, ex1, hs1, _⟩ := hd
    subst ex1
    cases (show u = Value.ref a1 from rx)
    obtain ⟨its1, _, o1, _⟩ := I.tuple hs1
    cases (show y = V.non from he)
    cases (show v = Value.none from ry)
    exact fun E Q q => RcAt.tuple_none o1 hu X.prog X.w E Q q
  | .tup ds1, .bl b2, hd, he, rx, ry, _, _, _ => by
    obtain ⟨a1, xs1, ex1, hs1, _⟩ := hd
    subst ex1
    cases (show u = Value.ref a1 from rx)
    obtain ⟨its1, _, o1, _⟩ := I.tuple hs1
    cases (show y = V.bl b2 from he)
    cases (show v = Value.bool b2 from ry)
    exact fun E Q q => RcAt.tuple_bool b2 o1 hu X.prog X.w E Q q
  | .tup ds1, .int i2, hd, he, rx, ry, _, _, _ => by
    obtain ⟨a1, xs1, ex1, hs1, _⟩ := hd
    subst ex1
    cases (show u = Value.ref a1 from rx)
    obtain ⟨its1, _, o1, _⟩ := I.tuple hs1
    cases (show y = V.int i2 from he)
    obtain ⟨t2, rfl⟩ := (show ∃ t, v = Value.int i2 t from ry)
    exact fun E Q q => RcAt.tuple_int i2 t2 o1 hu X.prog X.w E Q q
  | .tup ds1, .str z2, hd, he, rx, ry, _, _, _ => by
    obtain ⟨a1, xs1, ex1, hs1, _⟩ := hd
    subst ex1
    cases (show u = Value.ref a1 from rx)
    obtain ⟨its1, _, o1, _⟩ := I.tuple hs1
    cases (show y = V.str z2 from he)
    obtain ⟨t2, rfl⟩ := (show ∃ t, v = Value.str z2 t from ry)
    exact fun E Q q => RcAt.tuple_str z2 t2 o1 hu X.prog X.w E Q q
  | .tup ds1, .lst ds2, hd, he, rx, ry, _, _, _ => by
    obtain ⟨a1, xs1, ex1, hs1, _⟩ := hd
    subst ex1
    cases (show u = Value.ref a1 from rx)
    obtain ⟨its1, _, o1, _⟩ := I.tuple hs1
    obtain ⟨a2, xs2, ex2, hs2, _⟩ := he
    subst ex2
    cases (show v = Value.ref a2 from ry)
    obtain ⟨its2, _, p2, _⟩ := I.list hs2
    have o2 := p2.isList
    exact fun E Q q => RcAt.tuple_list o1 o2 hu X.prog X.w E Q q
  | .tup ds1, .tup ds2, _, _, _, _, h, _, _ => absurd rfl h
  | .tup ds1, .dic ks2 ds2, hd, he, rx, ry, _, _, _ => by
    obtain ⟨a1, xs1, ex1, hs1, _⟩ := hd
    subst ex1
    cases (show u = Value.ref a1 from rx)
    obtain ⟨its1, _, o1, _⟩ := I.tuple hs1
    obtain ⟨a2, xs2, ex2, hs2, _⟩ := he
    subst ex2
    cases (show v = Value.ref a2 from ry)
    obtain ⟨_, _, va2, _, o2⟩ := (show ObjOk X.prog X.w H s.heap a2 (.dK xs2) from I.hok a2 _ hs2)
    exact fun E Q q => rc_eq_decline_or (k := false) (ti_tuple o1) o2.typeIs (by decide) F.sub_dict_tuple F.slot_tuple_eq F.slot_dict_eq_refl
      (fun Q' q' => callFin F.slot_tuple_eq (ti_tuple o1) F.entry_tuple_eq (F.args_tuple_eq_2 _ _) (fun _ _ _ z => (isTup_obj o1).elim fun _ y => y.elim fun _ y => y.elim fun _ ho => tuple_declinesI ho (notInst_ty o2.typeIs F.sub_dict_tuple) z) Q' q')
      (fun Q' q' => callFin F.slot_dict_eq_refl o2.typeIs F.entry_dict_eq (F.args_dict_eq_2 _ _) (fun _ _ _ z => dict_declines o2.typeIs (notInst_ty (ti_tuple o1) F.sub_tuple_dict) z) Q' q')
      (fun _ q' => isSame_tup_dic o1 o2 q') (.inr hu) q
  | .dic ks1 ds1, .non, hd, he, rx, ry, _, _, _ => by
    obtain ⟨a1, xs1, ex1, hs1, _⟩ := hd
    subst ex1
    cases (show u = Value.ref a1 from rx)
    obtain ⟨_, _, va1, _, o1⟩ := (show ObjOk X.prog X.w H s.heap a1 (.dK xs1) from I.hok a1 _ hs1)
    cases (show y = V.non from he)
    cases (show v = Value.none from ry)
    exact fun E Q q => rc_eq_decline_or (k := false) o1.typeIs (show s.TypeIs Value.none "NoneType" from rfl) (by decide) F.sub_NoneType_dict F.slot_dict_eq F.slot_NoneType_eq_refl
      (fun Q' q' => callFin F.slot_dict_eq o1.typeIs F.entry_dict_eq (F.args_dict_eq_2 _ _) (fun _ _ _ z => dict_declines o1.typeIs (notInst_ty (show s.TypeIs Value.none "NoneType" from rfl) F.sub_NoneType_dict) z) Q' q')
      (fun Q' q' => call_gives F.slot_NoneType_eq_refl rfl F.entry_NoneType_eq (F.args_NoneType_eq_2 _ _) (NoneType___eq___none_ref_0 a1) q')
      (fun _ q' => wpAny_of_eq (rfl : isSame (Value.ref a1) Value.none = pure false) q') (.inr hu) q
  | .dic ks1 ds1, .bl b2, hd, he, rx, ry, _, _, _ => by
    obtain ⟨a1, xs1, ex1, hs1, _⟩ := hd
    subst ex1
    cases (show u = Value.ref a1 from rx)
    obtain ⟨_, _, va1, _, o1⟩ := (show ObjOk X.prog X.w H s.heap a1 (.dK xs1) from I.hok a1 _ hs1)
    cases (show y = V.bl b2 from he)
    cases (show v = Value.bool b2 from ry)
    exact fun E Q q => rc_eq_decline_or (k := false) o1.typeIs (show s.TypeIs (Value.bool b2) "bool" from rfl) (by decide) F.sub_bool_dict F.slot_dict_eq F.slot_bool_eq_refl
      (fun Q' q' => callFin F.slot_dict_eq o1.typeIs F.entry_dict_eq (F.args_dict_eq_2 _ _) (fun _ _ _ z => dict_declines o1.typeIs (notInst_ty (show s.TypeIs (Value.bool b2) "bool" from rfl) F.sub_bool_dict) z) Q' q')
      (fun Q' q' => callFin F.slot_bool_eq_refl (show s.TypeIs (Value.bool b2) "bool" from rfl) F.entry_int_eq (F.args_int_eq_2 _ _) (fun _ _ _ z => (dict_obj o1).elim fun _ y => y.elim fun _ y => y.elim fun _ ho => bool_declinesD ho.1 ho.2 z) Q' q')
      (fun _ q' => wpAny_of_eq (rfl : isSame (Value.ref a1) (Value.bool b2) = pure false) q') (.inr hu) q
  | .dic ks1 ds1, .int i2, hd, he, rx, ry, _, _, _ => by
    obtain ⟨a1, xs1, ex1, hs1, _⟩ := hd
    subst ex1
    cases (show u = Value.ref a1 from rx)
    obtain ⟨_, _, va1, _, o1⟩ := (show ObjOk X.prog X.w H s.heap a1 (.dK xs1) from I.hok a1 _ hs1)
    cases (show y = V.int i2 from he)
    obtain ⟨t2, rfl⟩ := (show ∃ t, v = Value.int i2 t from ry)
    exact fun E Q q => rc_eq_decline_or (k := false) o1.typeIs (show s.TypeIs (Value.int i2 t2) "int" from rfl) (by decide) F.sub_int_dict F.slot_dict_eq F.slot_int_eq_refl
      (fun Q' q' => callFin F.slot_dict_eq o1.typeIs F.entry_dict_eq (F.args_dict_eq_2 _ _) (fun _ _ _ z => dict_declines o1.typeIs (notInst_ty (show s.TypeIs (Value.int i2 t2) "int" from rfl) F.sub_int_dict) z) Q' q')
      (fun Q' q' => callFin F.slot_int_eq_refl (show s.TypeIs (Value.int i2 t2) "int" from rfl) F.entry_int_eq (F.args_int_eq_2 _ _) (fun _ _ _ z => (dict_obj o1).elim fun _ y => y.elim fun _ y => y.elim fun _ ho => int_declinesD ho.1 ho.2 z) Q' q')
      (fun _ q' => wpAny_of_eq (rfl : isSame (Value.ref a1) (Value.int i2 t2) = pure false) q') (.inr hu) q
  | .dic ks1 ds1, .str z2, hd, he, rx, ry, _, _, _ => by
    obtain ⟨a1, xs1, ex1, hs1, _⟩ := hd
    subst ex1
    cases (show u = Value.ref a1 from rx)
    obtain ⟨_, _, va1, _, o1⟩ := (show ObjOk X.prog X.w H s.heap a1 (.dK xs1) from I.hok a1 _ hs1)
    cases (show y = V.str z2 from he)
    obtain ⟨t2, rfl⟩ := (show ∃ t, v = Value.str z2 t from ry)
    exact fun E Q q => rc_eq_decline_or (k := false) o1.typeIs (show s.TypeIs (Value.str z2 t2) "str" from rfl) (by decide) F.sub_str_dict F.slot_dict_eq F.slot_str_eq_refl
      (fun Q' q' => callFin F.slot_dict_eq o1.typeIs F.entry_dict_eq (F.args_dict_eq_2 _ _) (fun _ _ _ z => dict_declines o1.typeIs (notInst_ty (show s.TypeIs (Value.str z2 t2) "str" from rfl) F.sub_str_dict) z) Q' q')
      (fun Q' q' => callFin F.slot_str_eq_refl (show s.TypeIs (Value.str z2 t2) "str" from rfl) F.entry_str_eq (F.args_str_eq_2 _ _) (fun _ _ _ z => (dict_obj o1).elim fun _ y => y.elim fun _ y => y.elim fun _ ho => str_declinesD ho.1 ho.2 z) Q' q')
      (fun _ q' => wpAny_of_eq (rfl : isSame (Value.ref a1) (Value.str z2 t2) = pure false) q') (.inr hu) q
  | .dic ks1 ds1, .lst ds2, hd, he, rx, ry, _, _, _ => by
    obtain ⟨a1, xs1, ex1, hs1, _⟩ := hd
    subst ex1
    cases (show u = Value.ref a1 from rx)
    obtain ⟨_, _, va1, _, o1⟩ := (show ObjOk X.prog X.w H s.heap a1 (.dK xs1) from I.hok a1 _ hs1)
    obtain ⟨a2, xs2, ex2, hs2, _⟩ := he
    subst ex2
    cases (show v = Value.ref a2 from ry)
    obtain ⟨its2, _, p2, _⟩ := I.list hs2
    have o2 := p2.isList
    exact fun E Q q => rc_eq_decline_or (k := false) o1.typeIs (ti_list o2) (by decide) F.sub_list_dict F.slot_dict_eq F.slot_list_eq_refl
      (fun Q' q' => callFin F.slot_dict_eq o1.typeIs F.entry_dict_eq (F.args_dict_eq_2 _ _) (fun _ _ _ z => dict_declines o1.typeIs (notInst_ty (ti_list o2) F.sub_list_dict) z) Q' q')
      (fun Q' q' => callFin F.slot_list_eq_refl (ti_list o2) F.entry_list_eq (F.args_list_eq_2 _ _) (fun _ _ _ z => (isList_obj o2).elim fun _ y => y.elim fun _ y => y.elim fun _ ho => list_declinesI ho (notInst_ty o1.typeIs F.sub_dict_list) z) Q' q')
      (fun _ q' => isSame_dic_lst o1 o2 q') (.inr hu) q
  | .dic ks1 ds1, .tup ds2, hd, he, rx, ry, _, _, _ => by
    obtain ⟨a1, xs1, ex1, hs1, _⟩ := hd
    subst ex1
    cases (show u = Value.ref a1 from rx)
    obtain ⟨_, _, va1, _, o1⟩ := (show ObjOk X.prog X.w H s.heap a1 (.dK xs1) from I.hok a1 _ hs1)
    obtain ⟨a2, xs2, ex2, hs2, _⟩ := he
    subst ex2
    cases (show v = Value.ref a2 from ry)
    obtain ⟨its2, _, o2, _⟩ := I.tuple hs2
    exact fun E Q q => rc_eq_decline_or (k := false) o1.typeIs (ti_tuple o2) (by decide) F.sub_tuple_dict F.slot_dict_eq F.slot_tuple_eq_refl
      (fun Q' q' => callFin F.slot_dict_eq o1.typeIs F.entry_dict_eq (F.args_dict_eq_2 _ _) (fun _ _ _ z => dict_declines o1.typeIs (notInst_ty (ti_tuple o2) F.sub_tuple_dict) z) Q' q')
      (fun Q' q' => callFin F.slot_tuple_eq_refl (ti_tuple o2) F.entry_tuple_eq (F.args_tuple_eq_2 _ _) (fun _ _ _ z => (isTup_obj o2).elim fun _ y => y.elim fun _ y => y.elim fun _ ho => tuple_declinesI ho (notInst_ty o1.typeIs F.sub_dict_tuple) z) Q' q')
      (fun _ q' => isSame_dic_tup o1 o2 q') (.inr hu) q
  | .dic ks1 ds1, .dic ks2 ds2, _, _, _, _, h, _, _ => absurd rfl h
  | .ins _ _ _, _, _, _, _, _, _, h, _ => absurd rfl h
  | _, .ins _ _ _, _, _, _, _, _, _, h => absurd rfl h
end LxE
namespace LxE
open PySem PySem.SeqAt L2
theorem dep_lst {ds : List Dt} {i : Nat} {d : Dt} {n : Nat} (h : depL ds + 1 ≤ n + 1) (e : ds[i]? = some d) : dep d ≤ n := by
  have := depL_get e
  omega
theorem eAt_some {ds es : List Dt} {i : Nat} {d e : Dt} (h1 : ds[i]? = some d) (h2 : es[i]? = some e) : eAt ds es i = deq d e := by
  unfold eAt
  rw [h1, h2]
theorem deqL_true : ∀ {ds es : List Dt}, ds.length = es.length → (∀ (i : Nat) (d e : Dt), ds[i]? = some d → es[i]? = some e → deq d e = true) → deqL ds es = true
  | [], [], _, _ => rfl
  | [], _ :: _, h, _ => by simp at h
  | _ :: _, [], h, _ => by simp at h
  | a :: as, b :: bs, h, k => by
    show (deq a b && deqL as bs) = true
    rw [k 0 a b rfl rfl, deqL_true (by simpa using h) fun i d e h1 h2 => k (i + 1) d e h1 h2] <;> rfl
theorem look_cons {l : Key} {ls : List Key} {e : Dt} {es : List Dt} {k : Key} : look (l :: ls) (e :: es) k = if l = k then some e else look ls es k := by
  unfold look
  rw [List.zip_cons_cons, List.find?_cons]
  by_cases h : l = k
  · simp [h]
  · simp [h]
theorem look_val {K : PySem.W.Frag} {H : Hp} : ∀ {kvs : List (Key × V)} {es : List Dt} {k : Key}, IsL K H es (kvs.map (·.2)) →
    (∀ v, valV kvs k = some v → ∃ e, look (kvs.map (·.1)) es k = some e ∧ Is K H e v) ∧ (valV kvs k = none → look (kvs.map (·.1)) es k = none)
  | [], es, k, h => by
    constructor
    · intro v hv
      exact absurd hv (by unfold valV; simp)
    · intro _
      unfold look
      rw [List.map_nil, List.zip_nil_left] <;> rfl
  | p :: kvs, [], k, h => by
    have h' : List.map (·.2) (p :: kvs) = [] := h
    simp at h'
  | p :: kvs, e :: es, k, h => by
    obtain ⟨v, r, h1, h2, h3⟩ := h
    rw [List.map_cons] at h1
    injection h1 with a1 a2
    subst a1 a2
    have ih := look_val (k := k) h3
    have lc : look (List.map (·.1) (p :: kvs)) (e :: es) k = if p.1 = k then some e else look (kvs.map (·.1)) es k := look_cons
    have vc : valV (p :: kvs) k = if p.1 = k then some p.2 else valV kvs k := by
      unfold valV
      rw [List.find?_cons]
      by_cases hk : p.1 = k
      · simp [hk]
      · simp [hk]
    rw [lc, vc]
    by_cases hk : p.1 = k
    · rw [if_pos hk, if_pos hk]
      exact ⟨fun w hw => ⟨e, rfl, by cases hw; exact h2⟩, fun z => by cases z⟩
    · rw [if_neg hk, if_neg hk]
      exact ih
theorem valV_nodup : ∀ {kvs : List (Key × V)} {i : Nat} {p : Key × V}, (kvs.map (·.1)).Nodup → kvs[i]? = some p → valV kvs p.1 = some p.2
  | [], _, _, _, h => by simp at h
  | q :: kvs, 0, p, _, h => by
    cases h
    unfold valV
    rw [List.find?_cons]
    simp
  | q :: kvs, i + 1, p, hn, h => by
    rw [List.map_cons, List.nodup_cons] at hn
    have h' : kvs[i]? = some p := h
    have hm : p.1 ∈ kvs.map (·.1) := List.mem_map.mpr ⟨p, List.mem_of_getElem? h', rfl⟩
    have hne : q.1 ≠ p.1 := fun z => hn.1 (z ▸ hm)
    have ih := valV_nodup hn.2 h'
    unfold valV at ih ⊢
    rw [List.find?_cons]
    simp only [hne, decide_false]
    exact ih
theorem deqD_true {ls : List Key} {es : List Dt} : ∀ {ks : List Key} {ds : List Dt}, (∀ (i : Nat) (k : Key) (d : Dt), ks[i]? = some k → ds[i]? = some d → ∃ e, look ls es k = some e ∧ deq d e = true) → deqD ks ds ls es = true
  | [], _, _ => by cases ‹List Dt› <;> rfl
  | _ :: _, [], _ => rfl
  | k :: ks, d :: ds, h => by
    obtain ⟨e, h1, h2⟩ := h 0 k d rfl rfl
    show ((match look ls es k with | some e => deq d e | none => false) && deqD ks ds ls es) = true
    rw [h1, deqD_true fun i k d a b => h (i + 1) k d a b]
    show (deq d e && true) = true
    rw [h2] <;> rfl
section
variable {X : Cx} {pins : List (Addr × Obj)} {σ : L2.St} {H : Hp} {s : Shared}
theorem deqL_same (I : Inv X pins σ H s) {n : Nat} (ih : ∀ (d e : Dt) (x : V), dep d ≤ n → Is X.K H d x → Is X.K H e x → deq d e = true) {ds es : List Dt} {xs : List V} (hn : depL ds ≤ n) (h1 : IsL X.K H ds xs) (h2 : IsL X.K H es xs) : deqL ds es = true :=
  deqL_true (h1.length.trans h2.length.symm) fun i d e e1 e2 => by
    obtain ⟨v, hv, a⟩ := h1.get' e1
    obtain ⟨v', hv', b⟩ := h2.get' e2
    rw [hv] at hv'
    cases hv'
    exact ih d e v (Nat.le_trans (depL_get e1) hn) a b
theorem is_same (I : Inv X pins σ H s) : ∀ (n : Nat) (d e : Dt) (x : V), dep d ≤ n → Is X.K H d x → Is X.K H e x → deq d e = true := by
  intro n
  induction n with
  | zero =>
    intro d e x hn hd he
    cases d <;> first
      | (exfalso; simp [dep] at hn; done)
      | skip
    all_goals (cases e <;> first
      | (cases (show x = _ from hd); cases (show _ = _ from he); simp [deq]; done)
      | (cases (show x = _ from hd); exact absurd (show _ = _ from he) (by simp))
      | (cases (show x = _ from hd); obtain ⟨_, _, _, z, _⟩ := he; cases z; done)
      | (cases (show x = _ from hd); obtain ⟨_, _, z, _⟩ := he; cases z; done))
  | succ n ih =>
    intro d e x hn hd he
    by_cases h0 : dep d ≤ n
    · exact ih d e x h0 hd he
    cases d with
    | non => exact absurd (Nat.zero_le _) h0
    | bl b => exact absurd (Nat.zero_le _) h0
    | int b => exact absurd (Nat.zero_le _) h0
    | str b => exact absurd (Nat.zero_le _) h0
    | lst ds =>
      obtain ⟨a, xs, rfl, hs, hl⟩ := hd
      cases e with
      | lst es =>
        obtain ⟨a', ys, ea, hs', hl'⟩ := he
        cases ea
        cases I.list_inj hs hs'
        exact deqL_same I ih (Nat.le_of_succ_le_succ hn) hl hl'
      | tup es =>
        obtain ⟨a', ys, ea, hs', hl'⟩ := he
        cases ea
        obtain ⟨_, _, p1, _⟩ := I.list hs
        obtain ⟨_, _, p2, _⟩ := I.tuple hs'
        exact absurd rfl (ne_of_list_tuple p1.isList p2)
      | dic ks es =>
        obtain ⟨a', ys, ea, hs', hl'⟩ := he
        cases ea
        obtain ⟨_, _, p1, _⟩ := I.list hs
        obtain ⟨_, _, va, _, o⟩ := (show ObjOk X.prog X.w H s.heap a (.dK ys) from I.hok a _ hs')
        obtain ⟨_, _, _, ho⟩ := isList_obj p1.isList
        obtain ⟨_, _, _, ho2, hd2⟩ := dict_obj o
        exact absurd rfl (ne_data ho ho2 (by rw [hd2]; exact fun z => nomatch z))
      | ins C fs es =>
        obtain ⟨a', dx, ys, ea, hs', hl'⟩ := he
        cases ea
        obtain ⟨_, _, p1, _⟩ := I.list hs
        obtain ⟨_, _, _, ho⟩ := isList_obj p1.isList
        obtain ⟨_, J, _⟩ := ins_get I.hok hs'
        exact absurd rfl (ne_data ho J.obj (fun z => nomatch z))
      | non => exact absurd (show V.ref a = V.non from he) (by simp)
      | bl b => exact absurd (show V.ref a = V.bl b from he) (by simp)
      | int b => exact absurd (show V.ref a = V.int b from he) (by simp)
      | str b => exact absurd (show V.ref a = V.str b from he) (by simp)
    | tup ds =>
      obtain ⟨a, xs, rfl, hs, hl⟩ := hd
      cases e with
      | tup es =>
        obtain ⟨a', ys, ea, hs', hl'⟩ := he
        cases ea
        cases I.tuple_inj hs hs'
        exact deqL_same I ih (Nat.le_of_succ_le_succ hn) hl hl'
      | lst es =>
        obtain ⟨a', ys, ea, hs', hl'⟩ := he
        cases ea
        obtain ⟨_, _, p1, _⟩ := I.list hs'
        obtain ⟨_, _, p2, _⟩ := I.tuple hs
        exact absurd rfl (ne_of_list_tuple p1.isList p2)
      | dic ks es =>
        obtain ⟨a', ys, ea, hs', hl'⟩ := he
        cases ea
        obtain ⟨_, _, p1, _⟩ := I.tuple hs
        obtain ⟨_, _, va, _, o⟩ := (show ObjOk X.prog X.w H s.heap a (.dK ys) from I.hok a _ hs')
        obtain ⟨_, _, _, ho⟩ := isTup_obj p1
        obtain ⟨_, _, _, ho2, hd2⟩ := dict_obj o
        exact absurd rfl (ne_data ho ho2 (by rw [hd2]; exact fun z => nomatch z))
      | ins C fs es =>
        obtain ⟨a', dx, ys, ea, hs', hl'⟩ := he
        cases ea
        obtain ⟨_, _, p1, _⟩ := I.tuple hs
        obtain ⟨_, _, _, ho⟩ := isTup_obj p1
        obtain ⟨_, J, _⟩ := ins_get I.hok hs'
        exact absurd rfl (ne_data ho J.obj (fun z => nomatch z))
      | non => exact absurd (show V.ref a = V.non from he) (by simp)
      | bl b => exact absurd (show V.ref a = V.bl b from he) (by simp)
      | int b => exact absurd (show V.ref a = V.int b from he) (by simp)
      | str b => exact absurd (show V.ref a = V.str b from he) (by simp)
    | dic ks ds =>
      obtain ⟨a, kvs, rfl, hs, ek, hl⟩ := hd
      obtain ⟨_, _, va, rk, o⟩ := (show ObjOk X.prog X.w H s.heap a (.dK kvs) from I.hok a _ hs)
      cases e with
      | dic ls es =>
        obtain ⟨a', lvs, ea, hs', ek', hl'⟩ := he
        cases ea
        rw [hs] at hs'
        cases hs'
        subst ek ek'
        have hnd : (kvs.map (·.1)).Nodup := by
          obtain ⟨_, _, _, _, _, _, _, _, nd⟩ := o
          rw [KV.keys rk]
          exact nd
        show ((kvs.map (·.1)).length == (kvs.map (·.1)).length && deqD (kvs.map (·.1)) ds (kvs.map (·.1)) es) = true
        rw [beq_self_eq_true, Bool.true_and]
        refine deqD_true fun i k d e1 e2 => ?_
        obtain ⟨p, hp, rfl⟩ : ∃ p, kvs[i]? = some p ∧ p.1 = k := by
          rw [List.getElem?_map] at e1
          cases hq : kvs[i]? with
          | none => rw [hq] at e1; cases e1
          | some p => rw [hq] at e1; exact ⟨p, rfl, Option.some.inj e1⟩
        obtain ⟨v, hv, hiv⟩ := hl.get' e2
        rw [List.getElem?_map, hp] at hv
        cases hv
        obtain ⟨e, he1, he2⟩ := (look_val (k := p.1) hl').1 p.2 (valV_nodup hnd hp)
        exact ⟨e, he1, ih d e p.2 (dep_lst hn e2) hiv he2⟩
      | lst es =>
        obtain ⟨a', ys, ea, hs', hl'⟩ := he
        cases ea
        obtain ⟨_, _, p1, _⟩ := I.list hs'
        obtain ⟨_, _, _, ho⟩ := isList_obj p1.isList
        obtain ⟨_, _, _, ho2, hd2⟩ := dict_obj o
        exact absurd rfl (ne_data ho ho2 (by rw [hd2]; exact fun z => nomatch z))
      | tup es =>
        obtain ⟨a', ys, ea, hs', hl'⟩ := he
        cases ea
        obtain ⟨_, _, p1, _⟩ := I.tuple hs'
        obtain ⟨_, _, _, ho⟩ := isTup_obj p1
        obtain ⟨_, _, _, ho2, hd2⟩ := dict_obj o
        exact absurd rfl (ne_data ho ho2 (by rw [hd2]; exact fun z => nomatch z))
      | ins C fs es =>
        obtain ⟨a', dx, ys, ea, hs', hl'⟩ := he
        cases ea
        rw [hs] at hs'
        cases hs'
      | non => exact absurd (show V.ref a = V.non from he) (by simp)
      | bl b => exact absurd (show V.ref a = V.bl b from he) (by simp)
      | int b => exact absurd (show V.ref a = V.int b from he) (by simp)
      | str b => exact absurd (show V.ref a = V.str b from he) (by simp)
    | ins C fs ds =>
      obtain ⟨a, dx, kvs, rfl, hs, ek, hl⟩ := hd
      obtain ⟨_, J, _⟩ := ins_get I.hok hs
      cases e with
      | ins C' fs' es =>
        obtain ⟨a', dx', lvs, ea, hs', ek', hl'⟩ := he
        cases ea
        rw [hs] at hs'
        cases hs'
        show (C == C && deqL ds es) = true
        rw [beq_self_eq_true, deqL_same I ih (Nat.le_of_succ_le_succ hn) hl hl'] <;> rfl
      | lst es =>
        obtain ⟨a', ys, ea, hs', hl'⟩ := he
        cases ea
        obtain ⟨_, _, p1, _⟩ := I.list hs'
        obtain ⟨_, _, _, ho⟩ := isList_obj p1.isList
        exact absurd rfl (ne_data ho J.obj (fun z => nomatch z))
      | tup es =>
        obtain ⟨a', ys, ea, hs', hl'⟩ := he
        cases ea
        obtain ⟨_, _, p1, _⟩ := I.tuple hs'
        obtain ⟨_, _, _, ho⟩ := isTup_obj p1
        exact absurd rfl (ne_data ho J.obj (fun z => nomatch z))
      | dic ls es =>
        obtain ⟨a', ys, ea, hs', hl'⟩ := he
        cases ea
        rw [hs] at hs'
        cases hs'
      | non => exact absurd (show V.ref a = V.non from he) (by simp)
      | bl b => exact absurd (show V.ref a = V.bl b from he) (by simp)
      | int b => exact absurd (show V.ref a = V.int b from he) (by simp)
      | str b => exact absurd (show V.ref a = V.str b from he) (by simp)
end
end LxE
namespace LxE
open PySem PySem.SeqAt L2
theorem shape_of {K : PySem.W.Frag} {H : Hp} {d : Dt} {x : V} (h : Is K H d x) : (kd d ≤ 2 ∧ flatV x = true) ∨ (2 < kd d ∧ ∃ a, x = V.ref a) := by
  cases d with
  | non => rw [show x = _ from h]; exact .inl ⟨by decide, rfl⟩
  | bl b => rw [show x = _ from h]; exact .inl ⟨by show 1 ≤ 2; decide, rfl⟩
  | int b => rw [show x = _ from h]; exact .inl ⟨by show 1 ≤ 2; decide, rfl⟩
  | str b => rw [show x = _ from h]; exact .inl ⟨by show 2 ≤ 2; decide, rfl⟩
  | lst ds => obtain ⟨a, _, e, _⟩ := h; exact .inr ⟨by show 2 < 3; decide, a, e⟩
  | tup ds => obtain ⟨a, _, e, _⟩ := h; exact .inr ⟨by show 2 < 4; decide, a, e⟩
  | dic ks ds => obtain ⟨a, _, e, _⟩ := h; exact .inr ⟨by show 2 < 5; decide, a, e⟩
  | ins C fs ds => obtain ⟨a, _, _, e, _⟩ := h; exact .inr ⟨by show 2 < 6; decide, a, e⟩
theorem deq_kd : ∀ {d e : Dt}, kd d ≠ kd e → deq d e = false := by
  intro d e h
  cases d <;> cases e <;> first | rfl | exact absurd rfl h
theorem eqV_flat {K : PySem.W.Frag} {H : Hp} {d e : Dt} {x y : V} (hd : Is K H d x) (he : Is K H e y) (h1 : kd d ≤ 2) (h2 : kd e ≤ 2) : eqV x y = deq d e := by
  cases d <;> first
    | (exfalso; simp [kd] at h1; done)
    | skip
  all_goals (cases e <;> first
    | (exfalso; simp [kd] at h2; done)
    | skip)
  all_goals (cases (show x = _ from hd); cases (show y = _ from he); first | rfl | simp [eqV, deq])
section
variable {X : Cx} {pins : List (Addr × Obj)} {σ : L2.St} {H : Hp} {s : Shared}
theorem rc_flat {A : Around} {d e : Dt} {x y : V} {u v : Value} (hd : Is X.K H d x) (he : Is X.K H e y) (rx : RelV x u) (ry : RelV y v) (h1 : kd d ≤ 2) (h2 : kd d = kd e) : RcP X.prog X.w A s u v (deq d e) := by
  have h3 : kd e ≤ 2 := h2 ▸ h1
  cases d <;> first
    | (exfalso; simp [kd] at h1; done)
    | skip
  all_goals (cases e <;> first
    | (exfalso; simp [kd] at h2; done)
    | skip)
  · cases (show x = _ from hd); cases (show y = _ from he); cases (show u = _ from rx); cases (show v = _ from ry)
    exact fun E Q q => RcAt.none_none X.prog X.w E Q q
  · cases (show x = _ from hd); cases (show y = _ from he); cases (show u = _ from rx); cases (show v = _ from ry)
    exact fun E Q q => RcAt.bool_bool _ _ X.prog X.w E Q q
  · cases (show x = _ from hd); cases (show y = _ from he); cases (show u = _ from rx); obtain ⟨t, rfl⟩ := (show ∃ t, v = Value.int _ t from ry)
    exact fun E Q q => RcAt.bool_int _ _ _ X.prog X.w E Q q
  · cases (show x = _ from hd); cases (show y = _ from he); obtain ⟨t, rfl⟩ := (show ∃ t, u = Value.int _ t from rx); cases (show v = _ from ry)
    exact fun E Q q => RcAt.int_bool _ _ _ X.prog X.w E Q q
  · cases (show x = _ from hd); cases (show y = _ from he); obtain ⟨t, rfl⟩ := (show ∃ t, u = Value.int _ t from rx); obtain ⟨t', rfl⟩ := (show ∃ t, v = Value.int _ t from ry)
    exact fun E Q q => RcAt.int_int _ _ _ _ X.prog X.w E Q q
  · cases (show x = _ from hd); cases (show y = _ from he); obtain ⟨t, rfl⟩ := (show ∃ t, u = Value.str _ t from rx); obtain ⟨t', rfl⟩ := (show ∃ t, v = Value.str _ t from ry)
    exact fun E Q q => RcAt.str_str _ _ _ _ X.prog X.w E Q q
theorem ref_beq {a b : Addr} (h : a ≠ b) : (Value.ref a == Value.ref b) = false := beq_eq_false_iff_ne.mpr (fun e => h (Value.ref.inj e))
theorem flat_ref {x : V} {u : Value} {a : Addr} (f : flatV x = true) (r : RelV x u) : (u == Value.ref a) = false ∧ (Value.ref a == u) = false := by
  cases x <;> first | (exact absurd f Bool.false_ne_true) | skip
  · cases (show u = _ from r); exact ⟨rfl, rfl⟩
  · cases (show u = _ from r); exact ⟨rfl, rfl⟩
  · obtain ⟨t, rfl⟩ := (show ∃ t, u = Value.int _ t from r); exact ⟨rfl, rfl⟩
  · obtain ⟨t, rfl⟩ := (show ∃ t, u = Value.str _ t from r); exact ⟨rfl, rfl⟩
theorem flat_nofl {x : V} {u : Value} (f : flatV x = true) (r : RelV x u) : ∀ a t, u ≠ .float a t := by
  cases x <;> first | (exact absurd f Bool.false_ne_true) | skip
  · cases (show u = _ from r); exact fun _ _ z => nomatch z
  · cases (show u = _ from r); exact fun _ _ z => nomatch z
  · obtain ⟨t, rfl⟩ := (show ∃ t, u = Value.int _ t from r); exact fun _ _ z => nomatch z
  · obtain ⟨t, rfl⟩ := (show ∃ t, u = Value.str _ t from r); exact fun _ _ z => nomatch z
/-- from a rich comparison to == inside a builtin, with a state -/
theorem eq_get {A : Around} {E : Value → Shared → Prop} (I : Inv X pins σ H s) {d e : Dt} {x y : V} {u v : Value} {Q : Bool → Shared → Prop} (hd : Is X.K H d x) (he : Is X.K H e y) (rx : RelV x u) (ry : RelV y v) (q : Q (deq d e) s)
    (h : wpAny (model X.prog X.w) A (richCompare .Eq u v) (fun r s' => ∃ b, r = .bool b ∧ Q b s') E s) : wpAny (model X.prog X.w) A (eqBool u v) Q E s := by
  rcases shape_of hd with ⟨k1, f1⟩ | ⟨k1, a, rfl⟩
  · rcases shape_of he with ⟨k2, f2⟩ | ⟨k2, b, rfl⟩
    · have z := eqAt_V (A := A) (s := s) rx ry f1 f2
      rw [eqV_flat hd he k1 k2] at z
      exact z X.prog X.w E Q q
    · cases (show v = _ from ry)
      exact eqBool_B (flat_ref f1 rx).1 (fun a t b t' e1 _ => flat_nofl f1 rx a t e1) h
  · cases (show u = _ from rx)
    rcases shape_of he with ⟨k2, f2⟩ | ⟨k2, b, rfl⟩
    · exact eqBool_B (flat_ref f2 ry).2 (fun a t b t' e1 _ => nomatch e1) h
    · cases (show v = _ from ry)
      by_cases hab : a = b
      · subst hab
        have z := is_same I (dep d) d e (.ref a) (Nat.le_refl _) hd he
        rw [z] at q
        exact SeqAt.EqAt.same (A := A) (s := s) (.ref a) X.prog X.w E Q q
      · exact eqBool_B (ref_beq hab) (fun a t b t' e1 _ => nomatch e1) h
theorem hits_of {P : Program} {w : World} {A : Around} {K : PySem.W.Frag} {lvs : List (Key × V)} {es : List Dt} {vb : List (Key × Value)} (rb : KV lvs vb) (hl : IsL K H es (lvs.map (·.2)))
    : ∀ {kvs : List (Key × V)} {ds : List Dt} {va : List (Key × Value)}, IsL K H ds (kvs.map (·.2)) → KV kvs va →
      (∀ (i : Nat) (d e : Dt) (x y : V) (u v : Value), ds[i]? = some d → e ∈ es → Is K H d x → Is K H e y → RelV x u → RelV y v → EqP P w A s u v (deq d e)) →
      PySem.W.KeqHitsP P w A s vb va (deqD (kvs.map (·.1)) ds (lvs.map (·.1)) es)
  | [], ds, va, h, ra, _ => by
    cases ra
    cases ds with
    | nil => exact .nil
    | cons d ds => obtain ⟨v, r, e, _⟩ := h; cases e
  | p :: kvs, [], va, h, ra, _ => by
    have h' : List.map (·.2) (p :: kvs) = [] := h
    simp at h'
  | p :: kvs, d :: ds, va, h, ra, ih => by
    cases ra with
    | @cons _ q _ qs hpq t =>
    obtain ⟨h1, h2⟩ := hpq
    obtain ⟨x, r, e1, e2, e3⟩ := h
    rw [List.map_cons] at e1
    injection e1 with a1 a2
    subst a1 a2
    obtain ⟨key, u⟩ := q
    have h1' : p.1 = key := h1
    have rest := hits_of (A := A) (P := P) (w := w) rb hl e3 t fun i d' e x y u v k1 => ih (i + 1) d' e x y u v k1
    show PySem.W.KeqHitsP P w A s vb ((key, u) :: qs) ((match look (lvs.map (·.1)) es p.1 with | some e => deq d e | none => false) && deqD (kvs.map (·.1)) ds (lvs.map (·.1)) es)
    have rv : RelO (valV lvs p.1) (valueAt vb p.1) := rb.val p.1
    have lk := look_val (k := p.1) hl
    cases hv : valV lvs p.1 with
    | none =>
      rw [hv] at rv
      rw [lk.2 hv]
      refine .miss ?_
      rw [← h1']
      cases hz : valueAt vb p.1 with
      | none => rfl
      | some z => rw [hz] at rv; exact rv.elim
    | some y =>
      rw [hv] at rv
      obtain ⟨z, hz, rz⟩ := rv.some_of
      obtain ⟨e, le, ie⟩ := lk.1 y hv
      rw [le]
      refine .hit (by rw [← h1']; exact hz) (ih 0 d e p.2 y u z rfl ?_ e2 ie h2 rz) rest
      unfold look at le
      cases hf : ((lvs.map (·.1)).zip es).find? fun p' => decide (p'.1 = p.1) with
      | none => rw [hf] at le; cases le
      | some w =>
        rw [hf] at le
        cases le
        exact (List.of_mem_zip (List.mem_of_find?_eq_some hf)).2
theorem mem_get {es : List Dt} {e : Dt} (h : e ∈ es) : ∃ i : Nat, es[i]? = some e := List.mem_iff_getElem?.mp h
theorem rc_pure (I : Inv X pins σ H s) : ∀ (n : Nat) (d e : Dt) (x y : V) (u v : Value) (A : Around), dep d ≤ n → pureD d = true → pureD e = true → Is X.K H d x → Is X.K H e y → RelV x u → RelV y v → A.units + n < cLine → RcP X.prog X.w A s u v (deq d e) := by
  intro n
  induction n with
  | zero =>
    intro d e x y u v A hn pd pe hd he rx ry hu
    by_cases hk : kd d = kd e
    · have h2 : kd d ≤ 2 := by cases d <;> first | (exfalso; simp [dep] at hn; done) | (simp [kd])
      exact rc_flat hd he rx ry h2 hk
    · rw [deq_kd hk]
      exact mis I (by omega) d e hd he rx ry hk (fun z => by cases d <;> first | (simp [kd] at z; done) | (exact absurd pd Bool.false_ne_true)) (fun z => by cases e <;> first | (simp [kd] at z; done) | (exact absurd pe Bool.false_ne_true))
  | succ n ih =>
    intro d e x y u v A hn pd pe hd he rx ry hu
    have ihE : ∀ (d e : Dt) (x y : V) (u v : Value), dep d ≤ n → pureD d = true → pureD e = true → Is X.K H d x → Is X.K H e y → RelV x u → RelV y v → EqP X.prog X.w A.in1 s u v (deq d e) := fun d e x y u v hn pd pe hd he rx ry E Q q =>
      eq_get I hd he rx ry q (ih d e x y u v A.in1 hn pd pe hd he rx ry (by show A.units + 1 + n < cLine; omega) E _ ⟨_, rfl, q⟩)
    by_cases hk : kd d = kd e
    · by_cases h2 : kd d ≤ 2
      · exact rc_flat hd he rx ry h2 hk
      · have items : ∀ {ds es : List Dt} {xs ys : List V} {its its2 : List Value}, depL ds ≤ n → pureL ds = true → pureL es = true → IsL X.K H ds xs → IsL X.K H es ys → Vals xs its → Vals ys its2 →
            ∀ i (h1 : i < its.toArray.size) (h2 : i < its2.toArray.size), EqP X.prog X.w A.in1 s its.toArray[i] its2.toArray[i] (eAt ds es i) := by
          intro ds es xs ys its its2 hdn p1 p2 l1 l2 r1 r2 i h1 h2
          have g1 : its[i]? = some its.toArray[i] := by
            have h1' : i < its.length := by simpa using h1
            rw [List.getElem?_eq_getElem h1'] <;> simp
          have g2 : its2[i]? = some its2.toArray[i] := by
            have h2' : i < its2.length := by simpa using h2
            rw [List.getElem?_eq_getElem h2'] <;> simp
          have k1 : i < xs.length := by rw [r1.length]; simpa using h1
          have k2 : i < ys.length := by rw [r2.length]; simpa using h2
          obtain ⟨u', hu', ru⟩ := r1.get (List.getElem?_eq_getElem k1)
          obtain ⟨v', hv', rv⟩ := r2.get (List.getElem?_eq_getElem k2)
          rw [g1] at hu'
          rw [g2] at hv'
          rw [Option.some.inj hu', Option.some.inj hv']
          obtain ⟨d', e1, i1⟩ := l1.get (List.getElem?_eq_getElem k1)
          obtain ⟨e', e2, i2⟩ := l2.get (List.getElem?_eq_getElem k2)
          rw [eAt_some e1 e2]
          exact ihE d' e' _ _ u' v' (Nat.le_trans (depL_get e1) hdn) (pureL_get p1 e1) (pureL_get p2 e2) i1 i2 ru rv
        cases d with
        | non => exact absurd (by decide) h2
        | bl b => exact absurd (by show 1 ≤ 2; decide) h2
        | int b => exact absurd (by show 1 ≤ 2; decide) h2
        | str b => exact absurd (by show 2 ≤ 2; decide) h2
        | ins C fs ds => exact absurd pd Bool.false_ne_true
        | lst ds =>
          cases e <;> first | (exfalso; simp [kd] at hk; done) | skip
          rename_i es
          obtain ⟨a, xs, rfl, hs, l1⟩ := hd
          obtain ⟨b, ys, rfl, hs', l2⟩ := he
          cases (show u = _ from rx)
          cases (show v = _ from ry)
          obtain ⟨its, r1, p1, _⟩ := I.list hs
          obtain ⟨its2, r2, p2, _⟩ := I.list hs'
          intro E Q q
          have it := items (Nat.le_of_succ_le_succ hn) pd pe l1 l2 r1 r2
          have e1 : its.toArray.size = ds.length := by rw [List.size_toArray, ← r1.length, ← l1.length]
          have e2 : its2.toArray.size = es.length := by rw [List.size_toArray, ← r2.length, ← l2.length]
          rw [show deq (.lst ds) (.lst es) = deqL ds es from rfl, deqL_eq] at q
          by_cases hsz : ds.length = es.length
          · refine rc_listB (N := ds.length) (e := eAt ds es) (by omega) (fun s' => s' = s) (fun s' z => ?_) (fun s' z => ?_) rfl
            · subst z
              exact ⟨its.toArray, its2.toArray, p1.isList, p2.isList, e1, e2.trans hsz.symm, fun i h1 h2 => it i h1 h2 E _ ⟨rfl, rfl⟩⟩
            · subst z
              rw [hsz, Nat.min_self, beq_self_eq_true, Bool.and_true, ← hsz] at q
              exact q
          · have hb : (ds.length == es.length) = false := beq_eq_false_iff_ne.mpr hsz
            rw [hb, Bool.and_false] at q
            refine RcAt.lists_lengths p1.isList p2.isList ?_ (by omega) X.prog X.w E Q q
            rw [e1, e2]
            simp [hsz]
        | tup ds =>
          cases e <;> first | (exfalso; simp [kd] at hk; done) | skip
          rename_i es
          obtain ⟨a, xs, rfl, hs, l1⟩ := hd
          obtain ⟨b, ys, rfl, hs', l2⟩ := he
          cases (show u = _ from rx)
          cases (show v = _ from ry)
          obtain ⟨its, r1, p1, _⟩ := I.tuple hs
          obtain ⟨its2, r2, p2, _⟩ := I.tuple hs'
          intro E Q q
          have it := items (Nat.le_of_succ_le_succ hn) pd pe l1 l2 r1 r2
          have e1 : its.toArray.size = ds.length := by rw [List.size_toArray, ← r1.length, ← l1.length]
          have e2 : its2.toArray.size = es.length := by rw [List.size_toArray, ← r2.length, ← l2.length]
          rw [show deq (.tup ds) (.tup es) = deqL ds es from rfl, deqL_eq] at q
          refine rc_tupB (e := eAt ds es) (by omega) (fun s' => s' = s) p1 p2 (fun i h1 h2 s' z => ?_) (fun s' z => ?_) rfl
          · subst z
            exact it i h1 h2 E _ ⟨rfl, rfl⟩
          · subst z
            rw [e1, e2]
            exact q
        | dic ks ds =>
          cases e <;> first | (exfalso; simp [kd] at hk; done) | skip
          rename_i ls es
          obtain ⟨a, kvs, rfl, hs, ek, l1⟩ := hd
          obtain ⟨b, lvs, rfl, hs', el, l2⟩ := he
          subst ek el
          cases (show u = _ from rx)
          cases (show v = _ from ry)
          obtain ⟨_, ya, va, ra, da⟩ := (show ObjOk X.prog X.w H s.heap a (.dK kvs) from I.hok a _ hs)
          obtain ⟨_, yb, vb, rb, db⟩ := (show ObjOk X.prog X.w H s.heap b (.dK lvs) from I.hok b _ hs')
          intro E Q q
          refine PySem.W.rcP_dicts (knd := mixKind X.prog X.w) (r := deqD (kvs.map (·.1)) ds (lvs.map (·.1)) es) ya yb da db (by omega) (fun _ => hits_of rb l2 l1 ra fun i d e x y u v k1 k2 i1 i2 r1 r2 => ?_) E Q ?_
          · obtain ⟨j, hj⟩ := mem_get k2
            exact ihE d e x y u v (Nat.le_trans (depL_get k1) (Nat.le_of_succ_le_succ hn)) (pureL_get pd k1) (pureL_get pe hj) i1 i2 r1 r2
          · have e1 : va.length = (kvs.map (·.1)).length := by rw [List.length_map, ← KV.length ra]
            have e2 : vb.length = (lvs.map (·.1)).length := by rw [List.length_map, ← KV.length rb]
            rw [e1, e2]
            exact q
    · rw [deq_kd hk]
      exact mis I (by omega) d e hd he rx ry hk (fun z => by cases d <;> first | (simp [kd] at z; done) | (exact absurd pd Bool.false_ne_true)) (fun z => by cases e <;> first | (simp [kd] at z; done) | (exact absurd pe Bool.false_ne_true))
end
end LxE
namespace L2
open PySem PySem.Spec PyProof.Rows
mutual
def okD (shp : Addr → List Str → List Dt → Prop) : Dt → Prop
  | .lst ds => okL shp ds
  | .tup ds => okL shp ds
  | .dic _ ds => pureL ds = true
  | .ins C fs ds => shp C fs ds
  | _ => True
def okL (shp : Addr → List Str → List Dt → Prop) : List Dt → Prop
  | [] => True
  | d :: ds => okD shp d ∧ okL shp ds
end
theorem okL_get {shp : Addr → List Str → List Dt → Prop} : ∀ {ds : List Dt} {i : Nat} {d : Dt}, okL shp ds → ds[i]? = some d → okD shp d
  | [], _, _, _, e => by simp at e
  | a :: ds, 0, d, h, e => by cases e; exact h.1
  | a :: ds, i + 1, d, h, e => okL_get (i := i) h.2 e
mutual
theorem okD_pure {shp : Addr → List Str → List Dt → Prop} : ∀ {d : Dt}, pureD d = true → okD shp d
  | .non, _ => trivial
  | .bl _, _ => trivial
  | .int _, _ => trivial
  | .str _, _ => trivial
  | .lst ds, h => okL_pure (ds := ds) h
  | .tup ds, h => okL_pure (ds := ds) h
  | .dic _ _, h => h
  | .ins _ _ _, h => absurd h Bool.false_ne_true
theorem okL_pure {shp : Addr → List Str → List Dt → Prop} : ∀ {ds : List Dt}, pureL ds = true → okL shp ds
  | [], _ => trivial
  | _ :: ds, h => ⟨okD_pure (Bool.and_eq_true_iff.mp h).1, okL_pure (ds := ds) (Bool.and_eq_true_iff.mp h).2⟩
end
/-- what an own == promises -/
def spEqO (K : PySem.W.Frag) (shp : Addr → List Str → List Dt → Prop) (C : Addr) : Sp := fun vs H Q _ => ∃ (a : Addr) (y : V) (fs : List Str) (ds : List Dt) (e : Dt), vs = [.ref a, y] ∧ Is K H (.ins C fs ds) (.ref a) ∧ Is K H e y ∧ shp C fs ds ∧ okD shp e ∧
  ∀ H', Ext H H' → Q (.bl (deq (.ins C fs ds) e)) H'
def tyNames : List String := ["NoneType", "bool", "int", "str", "list", "tuple", "dict"]
def eqFacts (K : PySem.W.Frag) (C : Addr) : Bool := tyNames.all fun T => PySem.W.notFirst K C (.type T) && PySem.W.subIn K (.ref C) (.type T) == some false
/-- the class at C has an own == -/
structure OwnEq (P : Program) (w : World) (K : PySem.W.Frag) (mg : Str → Option Value) (base : Heap) (k : Nat) (shp : Addr → List Str → List Dt → Prop) (C : Addr) : Prop where
  fn : ∃ (f : Addr) (fd : FuncData), FnOk P w K mg base (fun _ _ _ _ _ _ => False) k f fd ["self", "other"] (spEqO K shp C) ∧ PySem.W.findIn K (.ref C) "__eq__" = some (some (.ref f)) ∧ PySem.W.isFn K (.ref f) = true ∧ Binds K fd ["self", "other"] []
  facts : eqFacts K C = true
structure EqTab (P : Program) (w : World) (K : PySem.W.Frag) (mg : Str → Option Value) (base : Heap) (k : Nat) (shp : Addr → List Str → List Dt → Prop) : Prop where
  own : ∀ C fs ds, shp C fs ds → OwnEq P w K mg base k shp C
  two : ∀ C fs ds C' fs' ds', shp C fs ds → shp C' fs' ds' → PySem.W.notFirst K C (.ref C') = true
end L2
namespace LxE
open PySem PySem.SeqAt L2
theorem facts_of {K : PySem.W.Frag} {C : Addr} {T : String} (h : eqFacts K C = true) (hT : T ∈ tyNames) : PySem.W.notFirst K C (.type T) = true ∧ PySem.W.subIn K (.ref C) (.type T) = some false := by
  have z := Bool.and_eq_true_iff.mp (List.all_eq_true.mp h T hT)
  exact ⟨z.1, beq_iff_eq.mp z.2⟩
section
variable {X : Cx} {pins : List (Addr × Obj)} {σ : L2.St} {H : Hp} {s : Shared}
theorem looks_ty {M : Model} {v : Value} {T : String} (hT : s.TypeIs v T) : PySem.W.Looks M s.heap (typeOf v) (.type T) := by
  cases v with
  | ref a =>
    obtain ⟨o, ho, hc⟩ := hT
    intro A Q E s' k q
    exact wpAny_typeOf_ref (k _ _ ho) (by rw [hc]; exact q)
  | _ =>
    intro A Q E s' k q
    exact wpAny_of_eq hT q
/-- a built-in value's type -/
theorem ty_of (I : Inv X pins σ H s) {d : Dt} {x : V} {u : Value} (hd : Is X.K H d x) (rx : RelV x u) (h6 : kd d ≠ 6) : ∃ T, T ∈ tyNames ∧ s.TypeIs u T := by
  cases d with
  | non => cases (show x = _ from hd); cases (show u = _ from rx); exact ⟨"NoneType", by decide, rfl⟩
  | bl b => cases (show x = _ from hd); cases (show u = _ from rx); exact ⟨"bool", by decide, rfl⟩
  | int i => cases (show x = _ from hd); obtain ⟨t, rfl⟩ := (show ∃ t, u = Value.int _ t from rx); exact ⟨"int", by decide, rfl⟩
  | str i => cases (show x = _ from hd); obtain ⟨t, rfl⟩ := (show ∃ t, u = Value.str _ t from rx); exact ⟨"str", by decide, rfl⟩
  | lst ds =>
    obtain ⟨a, xs, rfl, hs, _⟩ := hd
    cases (show u = _ from rx)
    obtain ⟨_, _, p, _⟩ := I.list hs
    exact ⟨"list", by decide, ti_list p.isList⟩
  | tup ds =>
    obtain ⟨a, xs, rfl, hs, _⟩ := hd
    cases (show u = _ from rx)
    obtain ⟨_, _, p, _⟩ := I.tuple hs
    exact ⟨"tuple", by decide, ti_tuple p⟩
  | dic ks ds =>
    obtain ⟨a, xs, rfl, hs, _⟩ := hd
    cases (show u = _ from rx)
    obtain ⟨_, _, va, _, o⟩ := (show ObjOk X.prog X.w H s.heap a (.dK xs) from I.hok a _ hs)
    exact ⟨"dict", by decide, o.typeIs⟩
  | ins C fs ds => exact absurd rfl h6
/-- how a built-in == declines an own instance -/
theorem back_of (I : Inv X pins σ H s) {A : Around} {d : Dt} {x : V} {u : Value} (hd : Is X.K H d x) (rx : RelV x u) (h6 : kd d ≠ 6) {y C dy : Addr} {od : Option Obj} (J : PySem.W.InstAt s.heap y (PySem.W.instObj C dy) C od) (hf : eqFacts X.K C = true) :
    ∃ T id, T ∈ tyNames ∧ s.TypeIs u T ∧ Slot T "__eq__" id ∧ ∀ (E : Value → Shared → Prop) (Q' : Value → Shared → Prop), Q' .notImplemented s → wpAny (model X.prog X.w) A (call (.builtin id) [u, .ref y]) Q' E s := by
  have NI : ∀ T, T ∈ tyNames → NotInst X.prog X.w s (.ref y) T := fun T hT => notInst_of I.kIn J (facts_of hf hT).2
  cases d with
  | non =>
    cases (show x = _ from hd); cases (show u = _ from rx)
    exact ⟨"NoneType", _, by decide, rfl, F.slot_NoneType_eq, fun E Q' q' => call_gives F.slot_NoneType_eq rfl F.entry_NoneType_eq (F.args_NoneType_eq_2 _ _) (NoneType___eq___none_ref_0 y) q'⟩
  | bl b =>
    cases (show x = _ from hd); cases (show u = _ from rx)
    exact ⟨"bool", _, by decide, rfl, F.slot_bool_eq, fun E Q' q' => callFin F.slot_bool_eq (show s.TypeIs (Value.bool b) "bool" from rfl) F.entry_int_eq (F.args_int_eq_2 _ _) (fun _ _ _ z => bool_declinesI J.at_ z) Q' q'⟩
  | int i =>
    cases (show x = _ from hd); obtain ⟨t, rfl⟩ := (show ∃ t, u = Value.int _ t from rx)
    exact ⟨"int", _, by decide, rfl, F.slot_int_eq, fun E Q' q' => callFin F.slot_int_eq (show s.TypeIs (Value.int i t) "int" from rfl) F.entry_int_eq (F.args_int_eq_2 _ _) (fun _ _ _ z => int_declinesI J.at_ z) Q' q'⟩
  | str i =>
    cases (show x = _ from hd); obtain ⟨t, rfl⟩ := (show ∃ t, u = Value.str _ t from rx)
    exact ⟨"str", _, by decide, rfl, F.slot_str_eq, fun E Q' q' => callFin F.slot_str_eq (show s.TypeIs (Value.str i t) "str" from rfl) F.entry_str_eq (F.args_str_eq_2 _ _) (fun _ _ _ z => str_declinesI J.at_ z) Q' q'⟩
  | lst ds =>
    obtain ⟨a, xs, rfl, hs, _⟩ := hd
    cases (show u = _ from rx)
    obtain ⟨_, _, p, _⟩ := I.list hs
    obtain ⟨n, dd, sl, ho⟩ := isList_obj p.isList
    exact ⟨"list", _, by decide, ti_list p.isList, F.slot_list_eq, fun E Q' q' => callFin F.slot_list_eq (ti_list p.isList) F.entry_list_eq (F.args_list_eq_2 _ _) (fun _ _ _ z => list_declinesI ho (NI "list" (by decide)) z) Q' q'⟩
  | tup ds =>
    obtain ⟨a, xs, rfl, hs, _⟩ := hd
    cases (show u = _ from rx)
    obtain ⟨_, _, p, _⟩ := I.tuple hs
    obtain ⟨n, dd, sl, ho⟩ := isTup_obj p
    exact ⟨"tuple", _, by decide, ti_tuple p, F.slot_tuple_eq, fun E Q' q' => callFin F.slot_tuple_eq (ti_tuple p) F.entry_tuple_eq (F.args_tuple_eq_2 _ _) (fun _ _ _ z => tuple_declinesI ho (NI "tuple" (by decide)) z) Q' q'⟩
  | dic ks ds =>
    obtain ⟨a, xs, rfl, hs, _⟩ := hd
    cases (show u = _ from rx)
    obtain ⟨_, _, va, _, o⟩ := (show ObjOk X.prog X.w H s.heap a (.dK xs) from I.hok a _ hs)
    exact ⟨"dict", _, by decide, o.typeIs, F.slot_dict_eq, fun E Q' q' => callFin F.slot_dict_eq o.typeIs F.entry_dict_eq (F.args_dict_eq_2 _ _) (fun _ _ _ z => dict_declines o.typeIs (NI "dict" (by decide)) z) Q' q'⟩
  | ins C fs ds => exact absurd rfl h6
/-- the own == runs -/
theorem own_run {k : Nat} {f : Addr} {fd : FuncData} {sp : Sp} {A : Around} {a : Addr} {y : V} {v : Value} {Q' : VK} (F1 : FnOk X.prog X.w X.K X.mg X.base (fun _ _ _ _ _ _ => False) k f fd ["self", "other"] sp) (hb : Binds X.K fd ["self", "other"] []) (sb : Sub X k A) (I : Inv X pins σ H s)
    (ry : RelV y v) (hsp : sp [.ref a, y] H Q' (fun _ _ _ => False)) : wpAny (model X.prog X.w) A (call (.ref f) [.ref a, v]) (fun r s' => ∃ z H', Inv X pins σ H' s' ∧ RelV z r ∧ Q' z H') X.xe s := by
  have e0 : Env0 X.prog X.w X.K X.mg X.base A X.stack s H := by
    have e := I.env0
    exact ⟨by rw [sb.fr]; exact e.frames, e.mod, e.bs, e.bsz, e.funs, e.frf, e.hok, e.bare⟩
  have r2 : Vals [V.ref a, y] [Value.ref a, v] := .cons rfl (.cons ry .nil)
  refine wpAny_call (codeAny_mono (F1.run A X.stack s H ⟨[.ref a, v], []⟩ [.ref a, v] [.ref a, y] _ _ sb.room e0 (by
    have := hb s [.ref a, v] I.kIn rfl
    simpa using this) r2 hsp) fun r s' hq => ?_)
  cases r with
  | error e => exact False.elim hq
  | ok fl =>
    cases fl with
    | ret w =>
      obtain ⟨z, H', I', rz, ez⟩ := I.after hq
      exact ⟨z, H', I', rz, ez⟩
    | next => exact False.elim hq
    | brk => exact False.elim hq
    | cont => exact False.elim hq
theorem rc_own {k : Nat} {shp : Addr → List Str → List Dt → Prop} (T : EqTab X.prog X.w X.K X.mg X.base k shp) : ∀ (n : Nat) (d e : Dt) (x y : V) (u v : Value) (A : Around) (pins : List (Addr × Obj)) (s : Shared) (H : Hp), dep d ≤ n → okD shp d → okD shp e → Is X.K H d x → Is X.K H e y → RelV x u → RelV y v → Sub X (k + n) A → Inv X pins σ H s →
    wpAny (model X.prog X.w) A (richCompare .Eq u v) (fun r s' => r = .bool (deq d e) ∧ LoopI X pins σ H s') X.xe s := by
  intro n
  induction n with
  | zero =>
    intro d e x y u v A pins s H hn od oe hd he rx ry sb I
    have h6 : kd d ≠ 6 := fun z => by cases d <;> first | (simp [kd] at z; done) | (simp [dep] at hn; done)
    by_cases h6' : kd e = 6
    · cases e <;> first | (exfalso; simp [kd] at h6'; done) | skip
      rename_i C fs ds
      obtain ⟨⟨f, fd, F1, hfind, hfn, hb⟩, hfc⟩ := T.own C fs ds oe
      have he' := he
      obtain ⟨b, dx, kvs, rfl, hs, ek, hl⟩ := he
      cases (show v = _ from ry)
      obtain ⟨mA, J0, _⟩ := ins_get I.hok hs
      obtain ⟨odj, J, _⟩ := J0.look
      obtain ⟨Tn, id, hT, tT, slot, hc⟩ := back_of (A := A) I hd rx h6 J hfc
      refine cmp_back sb.room.units0 I.kIn J tT (facts_of hfc hT).2 slot (hc _) hfind hfn ?_
      refine wpAny_mono (own_run (Q' := fun z H' => z = .bl (deq (.ins C fs ds) d) ∧ Ext H H') F1 hb (sb.mono (by omega)) I rx ⟨b, x, fs, ds, d, rfl, he', hd, oe, od, fun H' e' => ⟨rfl, e'⟩⟩) (fun r s' hr => ?_) fun _ _ z => z
      obtain ⟨z, H', I', rz, ez, ex⟩ := hr
      subst ez
      cases (show r = _ from rz)
      refine ⟨?_, H', I', ex⟩
      rw [deq_kd (d := d) (e := .ins C fs ds) (fun z => h6 z), deq_kd (d := .ins C fs ds) (e := d) (fun z => h6 z.symm)]
    · by_cases hk : kd d = kd e
      · have h2 : kd d ≤ 2 := by cases d <;> first | (exfalso; simp [dep] at hn; done) | (simp [kd])
        exact rc_flat hd he rx ry h2 hk X.xe _ ⟨rfl, H, I, Ext.rfl'⟩
      · exact mis I sb.room.units0 d e hd he rx ry hk h6 h6' X.xe _ ⟨by rw [deq_kd hk], H, I, Ext.rfl'⟩
  | succ n ih =>
    intro d e x y u v A pins s H hn od oe hd he rx ry sb I
    by_cases h6 : kd d = 6
    · cases d <;> first | (exfalso; simp [kd] at h6; done) | skip
      rename_i C fs ds
      obtain ⟨⟨f, fd, F1, hfind, hfn, hb⟩, hfc⟩ := T.own C fs ds od
      have hd' := hd
      obtain ⟨a, dx, kvs, rfl, hs, ek, hl⟩ := hd
      cases (show u = _ from rx)
      obtain ⟨mA, J0, _⟩ := ins_get I.hok hs
      obtain ⟨odj, J, _⟩ := J0.look
      have tb : ∃ tb, PySem.W.Looks (model X.prog X.w) s.heap (typeOf v) tb ∧ PySem.W.notFirst X.K C tb = true := by
        by_cases h6' : kd e = 6
        · cases e <;> first | (exfalso; simp [kd] at h6'; done) | skip
          rename_i C' fs' es
          have t2 := T.two _ _ _ _ _ _ od oe
          obtain ⟨b, dy, lvs, rfl, hs', _, _⟩ := he
          cases (show v = _ from ry)
          obtain ⟨mB, J0', _⟩ := ins_get I.hok hs'
          obtain ⟨odj', J', _⟩ := J0'.look
          exact ⟨_, J'.type, t2⟩
        · obtain ⟨Tn, hT, tT⟩ := ty_of I he ry h6'
          exact ⟨_, looks_ty tT, (facts_of hfc hT).1⟩
      obtain ⟨tb, Lt, hnf⟩ := tb
      obtain ⟨m, hF⟩ := I.fr
      refine PySem.W.cmp_K (op := .Eq) (tb := tb) sb.room.units0 hF I.ok.mod.kin J Lt hnf hfind hfn ?_
      refine wpAny_mono (own_run (Q' := fun z H' => z = .bl (deq (.ins C fs ds) e) ∧ Ext H H') F1 hb (sb.mono (by omega)) I ry ⟨a, y, fs, ds, e, rfl, hd', he, od, oe, fun H' e' => ⟨rfl, e'⟩⟩) (fun r s' hr => ?_) fun _ _ z => z
      obtain ⟨z, H', I', rz, ez, ex⟩ := hr
      subst ez
      cases (show r = _ from rz)
      exact ⟨rfl, H', I', ex⟩
    · by_cases h6' : kd e = 6
      · cases e <;> first | (exfalso; simp [kd] at h6'; done) | skip
        rename_i C fs ds
        obtain ⟨⟨f, fd, F1, hfind, hfn, hb⟩, hfc⟩ := T.own C fs ds oe
        have he' := he
        obtain ⟨b, dx, kvs, rfl, hs, ek, hl⟩ := he
        cases (show v = _ from ry)
        obtain ⟨mA, J0, _⟩ := ins_get I.hok hs
        obtain ⟨odj, J, _⟩ := J0.look
        obtain ⟨Tn, id, hT, tT, slot, hc⟩ := back_of (A := A) I hd rx h6 J hfc
        refine cmp_back sb.room.units0 I.kIn J tT (facts_of hfc hT).2 slot (hc _) hfind hfn ?_
        refine wpAny_mono (own_run (Q' := fun z H' => z = .bl (deq (.ins C fs ds) d) ∧ Ext H H') F1 hb (sb.mono (by omega)) I rx ⟨b, x, fs, ds, d, rfl, he', hd, oe, od, fun H' e' => ⟨rfl, e'⟩⟩) (fun r s' hr => ?_) fun _ _ z => z
        obtain ⟨z, H', I', rz, ez, ex⟩ := hr
        subst ez
        cases (show r = _ from rz)
        refine ⟨?_, H', I', ex⟩
        rw [deq_kd (d := d) (e := .ins C fs ds) (fun z => h6 z), deq_kd (d := .ins C fs ds) (e := d) (fun z => h6 z.symm)]
      · by_cases hk : kd d = kd e
        · by_cases h2 : kd d ≤ 2
          · exact rc_flat hd he rx ry h2 hk X.xe _ ⟨rfl, H, I, Ext.rfl'⟩
          · have sb1 : Sub X (k + n) A.in1 := (show Sub X (k + n + 1) A from sb).in1
            have items : ∀ {ds es : List Dt} {xs ys : List V} {its its2 : List Value}, depL ds ≤ n → okL shp ds → okL shp es → IsL X.K H ds xs → IsL X.K H es ys → Vals xs its → Vals ys its2 →
                ∀ i (h1 : i < its.toArray.size) (h2 : i < its2.toArray.size) (s' : Shared), LoopI X pins σ H s' → wpAny (model X.prog X.w) A.in1 (eqBool its.toArray[i] its2.toArray[i]) (fun r s2 => r = eAt ds es i ∧ LoopI X pins σ H s2) X.xe s' := by
              intro ds es xs ys its its2 hdn p1 p2 l1 l2 r1 r2 i h1 h2 s' L
              obtain ⟨H1, I1, e1⟩ := L
              have g1 : its[i]? = some its.toArray[i] := by
                have h1' : i < its.length := by simpa using h1
                rw [List.getElem?_eq_getElem h1'] <;> simp
              have g2 : its2[i]? = some its2.toArray[i] := by
                have h2' : i < its2.length := by simpa using h2
                rw [List.getElem?_eq_getElem h2'] <;> simp
              have k1 : i < xs.length := by rw [r1.length]; simpa using h1
              have k2 : i < ys.length := by rw [r2.length]; simpa using h2
              obtain ⟨u', hu', ru⟩ := r1.get (List.getElem?_eq_getElem k1)
              obtain ⟨v', hv', rv⟩ := r2.get (List.getElem?_eq_getElem k2)
              rw [g1] at hu'
              rw [g2] at hv'
              rw [Option.some.inj hu', Option.some.inj hv']
              obtain ⟨d', d1, i1⟩ := l1.get (List.getElem?_eq_getElem k1)
              obtain ⟨e', d2, i2⟩ := l2.get (List.getElem?_eq_getElem k2)
              rw [eAt_some d1 d2]
              refine eq_get I1 (i1.ext e1) (i2.ext e1) ru rv ⟨rfl, H1, I1, e1⟩ (wpAny_mono (ih d' e' _ _ u' v' A.in1 pins s' H1 (Nat.le_trans (depL_get d1) hdn) (okL_get p1 d1) (okL_get p2 d2) (i1.ext e1) (i2.ext e1) ru rv sb1 I1) (fun r s2 q => ?_) fun _ _ z => z)
              obtain ⟨hr, H2, I2, e2⟩ := q
              exact ⟨_, hr, rfl, H2, I2, e1.trans e2⟩
            cases d with
            | non => exact absurd (by decide) h2
            | bl b => exact absurd (by show 1 ≤ 2; decide) h2
            | int b => exact absurd (by show 1 ≤ 2; decide) h2
            | str b => exact absurd (by show 2 ≤ 2; decide) h2
            | ins C fs ds => exact absurd rfl h6
            | lst ds =>
              cases e <;> first | (exfalso; simp [kd] at hk; done) | skip
              rename_i es
              obtain ⟨a, xs, rfl, hs, l1⟩ := hd
              obtain ⟨b, ys, rfl, hs', l2⟩ := he
              cases (show u = _ from rx)
              cases (show v = _ from ry)
              have eq0 : deq (.lst ds) (.lst es) = ((List.range (min ds.length es.length)).all (eAt ds es) && ds.length == es.length) := deqL_eq ds es
              by_cases hsz : ds.length = es.length
              · refine rc_listB (N := ds.length) (e := eAt ds es) sb.room.units0 (LoopI X pins σ H) (fun s' z => ?_) (fun s' z => ⟨?_, z⟩) ⟨H, I, Ext.rfl'⟩
                · obtain ⟨H1, I1, e1⟩ := id z
                  obtain ⟨its, r1, p1, _⟩ := I1.list (hs.ext e1)
                  obtain ⟨its2, r2, p2, _⟩ := I1.list (hs'.ext e1)
                  exact ⟨its.toArray, its2.toArray, p1.isList, p2.isList, by rw [List.size_toArray, ← r1.length, ← l1.length], by rw [List.size_toArray, ← r2.length, ← l2.length, hsz],
                    fun i h1 h2 => items (Nat.le_of_succ_le_succ hn) od oe l1 l2 r1 r2 i h1 h2 s' z⟩
                · rw [eq0, hsz, Nat.min_self, beq_self_eq_true, Bool.and_true, ← hsz]
              · have hb : (ds.length == es.length) = false := beq_eq_false_iff_ne.mpr hsz
                rw [hb, Bool.and_false] at eq0
                obtain ⟨its, r1, p1, _⟩ := I.list hs
                obtain ⟨its2, r2, p2, _⟩ := I.list hs'
                refine RcAt.lists_lengths p1.isList p2.isList ?_ sb.room.units0 X.prog X.w X.xe _ ⟨by rw [eq0], H, I, Ext.rfl'⟩
                rw [List.size_toArray, List.size_toArray, ← r1.length, ← r2.length, ← l1.length, ← l2.length]
                simp [hsz]
            | tup ds =>
              cases e <;> first | (exfalso; simp [kd] at hk; done) | skip
              rename_i es
              obtain ⟨a, xs, rfl, hs, l1⟩ := hd
              obtain ⟨b, ys, rfl, hs', l2⟩ := he
              cases (show u = _ from rx)
              cases (show v = _ from ry)
              have eq0 : deq (.tup ds) (.tup es) = ((List.range (min ds.length es.length)).all (eAt ds es) && ds.length == es.length) := deqL_eq ds es
              obtain ⟨its, r1, p1, _⟩ := I.tuple hs
              obtain ⟨its2, r2, p2, _⟩ := I.tuple hs'
              have e1 : its.toArray.size = ds.length := by rw [List.size_toArray, ← r1.length, ← l1.length]
              have e2 : its2.toArray.size = es.length := by rw [List.size_toArray, ← r2.length, ← l2.length]
              refine rc_tupB (e := eAt ds es) sb.room.units0 (LoopI X pins σ H) p1 p2 (fun i h1 h2 s' z => items (Nat.le_of_succ_le_succ hn) od oe l1 l2 r1 r2 i h1 h2 s' z) (fun s' z => ⟨?_, z⟩) ⟨H, I, Ext.rfl'⟩
              rw [eq0, e1, e2]
            | dic ks ds =>
              cases e <;> first | (exfalso; simp [kd] at hk; done) | skip
              rename_i ls es
              have hu := sb.room.un
              refine rc_pure I (dep (.dic ks ds)) (.dic ks ds) (.dic ls es) x y u v A (Nat.le_refl _) od oe hd he rx ry ?_ X.xe _ ⟨rfl, H, I, Ext.rfl'⟩
              omega
        · exact mis I sb.room.units0 d e hd he rx ry hk h6 h6' X.xe _ ⟨by rw [deq_kd hk], H, I, Ext.rfl'⟩
theorem eq_own {k : Nat} {shp : Addr → List Str → List Dt → Prop} (T : EqTab X.prog X.w X.K X.mg X.base k shp) {d e : Dt} {x y : V} {u v : Value} {A : Around} (hn : dep d ≤ n) (od : okD shp d) (oe : okD shp e) (hd : Is X.K H d x) (he : Is X.K H e y) (rx : RelV x u) (ry : RelV y v) (sb : Sub X (k + n) A) (I : Inv X pins σ H s) :
    wpAny (model X.prog X.w) A (eqBool u v) (fun r s' => r = deq d e ∧ LoopI X pins σ H s') X.xe s :=
  eq_get I hd he rx ry ⟨rfl, H, I, Ext.rfl'⟩ (wpAny_mono (rc_own T n d e x y u v A pins s H hn od oe hd he rx ry sb I) (fun r s2 q => ⟨_, q.1, rfl, q.2⟩) fun _ _ z => z)
end
end LxE
namespace LxE
open PySem PySem.SeqAt
open AutoSeq1 (wpAny_loadPart')
open MeetsSeq MeetsSeq2 MeetsSeq3 SeqRoads2
section
variable {prog : Program} {w : World} {A : Around} {R : Result → Shared → Prop}
theorem ne_loopB (l b : Addr) (N : Nat) (e : Nat → Bool) (I : Shared → Prop) (hl : ListJ prog w A (fun e s' => R (.error e) s') l b N e I)
    (fin : ∀ s, I s → R (.ok (.ret (.bool (!(List.range N).all e)))) s) (k : Nat) :
    ∀ i : Nat, N - i = k → i ≤ N → (∀ j, j < i → e j = true) → ∀ s, I s →
      wpAny (model prog w) A.in1 (Builtin.«list.__eq__.loop» ⟨[.ref l, .ref b, rawInt i, rawInt 3], []⟩) (FinOf prog w A R) (fun e s' => R (.error e) s') s := by
  induction k with
  | zero =>
    intro i hk hi hp s h
    obtain ⟨items, items2, hl1', hb1', hs1, hs2, _⟩ := hl _ h
    obtain ⟨n, dd, sl, hl1⟩ := isList_obj hl1'
    obtain ⟨n2, dd2, sl2, hb1⟩ := isList_obj hb1'
    have hi' : i = N := by omega
    have hR : R (.ok (.ret (.bool false))) s := by
      have z := fin s h
      rw [all_full (fun j hj => hp j (by omega))] at z
      exact z
    obtain ⟨hp', g, d, tk, os⟩ := s
    wp_walk using wpAny_loadPart' hl1, wpAny_loadPart' hb1
    have hi1 : items[((i : Nat) : Int).toNat]? = none := by simp; omega
    have hi2 : items2[((i : Nat) : Int).toNat]? = none := by simp; omega
    rw [hi1, hi2]
    wp_walk using wpAny_loadPart' hl1, wpAny_loadPart' hb1
    show R (.ok (.ret (.bool (items.size != items2.size)))) _
    rw [hs1, hs2]
    simpa using hR
  | succ k ih =>
    intro i hk hi hp s h
    obtain ⟨items, items2, hl1', hb1', hs1, hs2, turn⟩ := hl _ h
    obtain ⟨n, dd, sl, hl1⟩ := isList_obj hl1'
    obtain ⟨n2, dd2, sl2, hb1⟩ := isList_obj hb1'
    have hlt : i < items.size := by omega
    have hlt2 : i < items2.size := by omega
    have ht := turn i hlt hlt2
    obtain ⟨hp', g, d, tk, os⟩ := s
    wp_walk using wpAny_loadPart' hl1, wpAny_loadPart' hb1
    have hi1 : items[((i : Nat) : Int).toNat]? = some items[i] := by simp [hlt]
    have hi2 : items2[((i : Nat) : Int).toNat]? = some items2[i] := by simp [hlt2]
    have hc : ((i : Int) + 1) = ((i + 1 : Nat) : Int) := by omega
    rw [hi1, hi2]
    refine wpAny_bind (wpAny_mono ht (fun r s2 h2 => ?_) fun _ _ x => x)
    obtain ⟨hr, h2⟩ := h2
    subst hr
    obtain ⟨items3, items4, hl3', hb3', hs3, hs4, _⟩ := hl _ h2
    obtain ⟨n3, dd3, sl3, hl3⟩ := isList_obj hl3'
    obtain ⟨n4, dd4, sl4, hb3⟩ := isList_obj hb3'
    have fin2 := fin s2 h2
    cases hei : e i with
    | true =>
      have hrec := ih (i + 1) (by omega) (by omega) (fun j hj => by
        rcases Nat.lt_succ_iff_lt_or_eq.mp hj with z | z
        · exact hp j z
        · rw [z]; exact hei) s2 h2
      obtain ⟨hp2, g2, d2, tk2, os2⟩ := s2
      wp_walk
      rw [hc]
      exact ⟨plainId_quiet plain_eq_loop _, codeAny_builtin entry_eq_loop (by
        rw [Around.under_plainId plain_eq_loop _]
        exact hrec)⟩
    | false =>
      rw [all_drop hp (by omega) hei] at fin2
      have hj1 : items3[((i : Nat) : Int).toNat]? = some (items3[i]'(by omega)) := by simp <;> omega
      have hj2 : items4[((i : Nat) : Int).toNat]? = some (items4[i]'(by omega)) := by simp <;> omega
      obtain ⟨hp2, g2, d2, tk2, os2⟩ := s2
      wp_walk using wpAny_loadPart' hl3, wpAny_loadPart' hb3
      rw [hj1, hj2]
      wp_walk
      simpa using fin2
theorem list_neB (l b : Addr) (N : Nat) (e : Nat → Bool) (I : Shared → Prop) (hl : ListJ prog w A (fun e s' => R (.error e) s') l b N e I)
    (fin : ∀ s, I s → R (.ok (.ret (.bool (!(List.range N).all e)))) s) {s : Shared} (h : I s) :
    wpAny (model prog w) A.in1 (Builtin.«list.__ne__» ⟨[.ref l, .ref b], []⟩) (FinOf prog w A R) (fun e s' => R (.error e) s') s := by
  obtain ⟨items, items2, hl1', hb1', hs1, hs2, _⟩ := hl _ h
  obtain ⟨n, dd, sl, hl1⟩ := isList_obj hl1'
  obtain ⟨n2, dd2, sl2, hb1⟩ := isList_obj hb1'
  have hrec := ne_loopB (A := A) (R := R) l b N e I hl fin _ 0 rfl (Nat.zero_le _) (fun j hj => absurd hj (Nat.not_lt_zero j)) s h
  obtain ⟨hp, g, d, tk, os⟩ := s
  have f3 := AutoSeq1.sub_list_list
  have hne : ¬ (items.size != items2.size) = true := by simp [hs1, hs2]
  wp_walk using wpAny_loadPart' hl1, wpAny_loadPart' hb1
  exact ⟨plainId_quiet plain_eq_loop _, codeAny_builtin entry_eq_loop (by
    rw [Around.under_plainId plain_eq_loop _]
    exact hrec)⟩
theorem tuple_neB (l b : Addr) (items items2 : Array Value) (n n2 : Nat) (dd dd2 : Option Addr) (sl sl2 : Array (Option Value)) (e : Nat → Bool) (I : Shared → Prop)
    (turn : ∀ i (h1 : i < items.size) (h2 : i < items2.size) s, I s → wpAny (model prog w) A.in1 (eqBool items[i] items2[i]) (fun r s' => r = e i ∧ I s') (fun e s' => R (.error e) s') s)
    (fin : ∀ s, I s → R (.ok (.ret (.bool (!((List.range (min items.size items2.size)).all e && items.size == items2.size))))) s) {s : Shared} (hl1 : s.heap.get? l = some { cls := .type "tuple", dict := dd, data := .seq items n, slots := sl }) (hb1 : s.heap.get? b = some { cls := .type "tuple", dict := dd2, data := .seq items2 n2, slots := sl2 }) (h : I s) :
    wpAny (model prog w) A.in1 (Builtin.«tuple.__ne__» ⟨[.ref l, .ref b], []⟩) (FinOf prog w A R) (fun e s' => R (.error e) s') s := by
  have f2 := AutoSeq1.sub_tuple_tuple
  have hZ : (items.toList.zip items2.toList).length = min items.size items2.size := by simp
  have h0 := h
  obtain ⟨hp, g, d, tk, os⟩ := s
  wp_walk using wpAny_loadPart' hl1, wpAny_loadPart' hb1, wpAny_forIn_list _ (fun rest b s' => b.1 = none ∧ ∃ i, rest = (items.toList.zip items2.toList).drop i ∧ (∀ j, j < i → e j = true) ∧ i ≤ min items.size items2.size ∧ I s') _
  case turn =>
    rintro ⟨y, x⟩ rest b s' ⟨hb', i, hz, hpre, hi, hI⟩
    have hlt : i < (items.toList.zip items2.toList).length := by
      rcases Nat.lt_or_ge i (items.toList.zip items2.toList).length with h' | h'
      · exact h'
      · rw [List.drop_of_length_le h'] at hz; cases hz
    have hm : i < min items.size items2.size := hZ ▸ hlt
    have h1 : i < items.size := Nat.lt_of_lt_of_le hm (Nat.min_le_left _ _)
    have h2 : i < items2.size := Nat.lt_of_lt_of_le hm (Nat.min_le_right _ _)
    rw [List.drop_eq_getElem_cons hlt] at hz
    injection hz with hyx hrest
    have hy : y = items[i] := by have := congrArg Prod.fst hyx; simpa using this
    have hx : x = items2[i] := by have := congrArg Prod.snd hyx; simpa using this
    subst hy hx
    refine wpAny_bind (wpAny_mono (turn i h1 h2 s' hI) (fun r s2 q2 => ?_) fun _ _ x => x)
    obtain ⟨hr, q2⟩ := q2
    subst hr
    cases hei : e i with
    | true =>
      wp_walk
      exact ⟨rfl, i + 1, hrest, fun j hj => by
        rcases Nat.lt_succ_iff_lt_or_eq.mp hj with z | z
        · exact hpre j z
        · rw [z]; exact hei, hm, q2⟩
    | false =>
      have hR := fin s2 q2
      rw [all_drop hpre hm hei] at hR
      wp_walk
      simpa using hR
  case fin =>
    rintro ⟨b1, b2⟩ s' ⟨hb', i, hz, hpre, hi, hI⟩
    simp only at hb'
    subst hb'
    have hge : min items.size items2.size ≤ i := by
      rcases Nat.lt_or_ge i (items.toList.zip items2.toList).length with h' | h'
      · rw [List.drop_eq_getElem_cons h'] at hz; cases hz
      · exact hZ ▸ h'
    have hR := fin s' hI
    rw [all_full (fun j hj => hpre j (by omega))] at hR
    wp_walk
    simpa [Builtin.Tuple.tupleCompareSizes, bne] using hR
  case h =>
    exact ⟨rfl, 0, rfl, fun j hj => absurd hj (Nat.not_lt_zero j), Nat.zero_le _, h0⟩
end
section
variable {prog : Program} {w : World} {A : Around} {E : Value → Shared → Prop} {s : Shared}
theorem rc_listNB {l b : Addr} {N : Nat} {e : Nat → Bool} {Q : Value → Shared → Prop} (hu : A.units < cLine) (I : Shared → Prop) (hl : ListJ prog w A E l b N e I)
    (fin : ∀ s, I s → Q (.bool (!(List.range N).all e)) s) (h : I s) : wpAny (model prog w) A (richCompare .NotEq (.ref l) (.ref b)) Q E s := by
  obtain ⟨items, items2, hl1', hb1', _, _, _⟩ := hl _ h
  obtain ⟨n, dd, sl, hl1⟩ := isList_obj hl1'
  obtain ⟨n2, dd2, sl2, hb1⟩ := isList_obj hb1'
  refine wpAny_richCompare_same_room (op := .NotEq) ⟨_, hl1, rfl⟩ ⟨_, hb1, rfl⟩ F.slot_list_ne (call_here F.slot_list_ne ⟨_, hl1, rfl⟩ F.entry_list_ne (F.args_list_ne_2 _ _) ?_) hu
  exact list_neB (R := wants (fun v s' => v ≠ .notImplemented ∧ Q v s') E) l b N e I hl (fun s' q => ⟨(fun x => nomatch x), fin s' q⟩) h
theorem rc_tupNB {l b : Addr} {items items2 : Array Value} {e : Nat → Bool} {Q : Value → Shared → Prop} (hu : A.units < cLine) (I : Shared → Prop)
    (hl : s.heap.IsTuple l items) (hb : s.heap.IsTuple b items2)
    (turn : ∀ i (h1 : i < items.size) (h2 : i < items2.size) s, I s → wpAny (model prog w) A.in1 (eqBool items[i] items2[i]) (fun r s' => r = e i ∧ I s') E s)
    (fin : ∀ s, I s → Q (.bool (!((List.range (min items.size items2.size)).all e && items.size == items2.size))) s) (h : I s) : wpAny (model prog w) A (richCompare .NotEq (.ref l) (.ref b)) Q E s := by
  obtain ⟨⟨cls, dd, data, sl⟩, ho, hc, n, hd⟩ := id hl
  obtain ⟨⟨cls2, dd2, data2, sl2⟩, ho2, hc2, n2, hd2⟩ := id hb
  simp only at hc hd hc2 hd2
  subst hc hd hc2 hd2
  refine wpAny_richCompare_same_room (op := .NotEq) ⟨_, ho, rfl⟩ ⟨_, ho2, rfl⟩ F.slot_tuple_ne (call_here F.slot_tuple_ne ⟨_, ho, rfl⟩ F.entry_tuple_ne (F.args_tuple_ne_2 _ _) ?_) hu
  exact tuple_neB (R := wants (fun v s' => v ≠ .notImplemented ∧ Q v s') E) l b items items2 n n2 dd dd2 sl sl2 e I turn (fun s' q => ⟨(fun x => nomatch x), fin s' q⟩) ho ho2 h
end
section
open PySem.W
variable {prog : Program} {w : World} {A : Around} {E : Value → Shared → Prop} {s : Shared} {K : Frag} {x C f : Addr} {ox : Obj} {od : Option Obj} {b tb : Value}
/-- x != b, x of an own class with an own == and no own != -/
theorem cmpne_K {Q : Value → Shared → Prop} (hu : A.units + 1 < cLine) (X : K.In s.heap) (I : InstAt s.heap x ox C od) (hb : Looks (model prog w) s.heap (typeOf b) tb) (hn : notFirst K C tb = true) (hm : mroIn K C (.type "object") = some true)
    (hne : findIn K (.ref C) "__ne__" = some (some (.builtin "object.__ne__"))) (hs : findIn K (.ref C) "__eq__" = some (some (.ref f))) (hf : isFn K (.ref f) = true)
    (h : wpAny (model prog w) A.in1 (call (.ref f) [.ref x, b]) (fun v s' => ∃ r, v = .bool r ∧ Q (.bool (!r)) s') E s) : wpAny (model prog w) A (richCompare .NotEq (.ref x) b) Q E s := by
  have one : wpAny (model prog w) A (tryCompare (.ref x) "__ne__" b) (fun r s' => ∃ v, r = some (.bool v) ∧ Q (.bool v) s') E s := by
    unfold tryCompare
    refine wpAny_bind ?_
    simp only [callSpecialIfBound?, bindSpecialIfBound?]
    refine wpAny_holding (wpAny_bind (wpAny_bind (wpAny_bind (I.type.here ((looks_findIn X hne).here ?_)))))
    refine wpAny_bind (wpAny_askSetting (wpAny_ite ?_))
    have fin : wpAny (model prog w) A (call (.builtin "object.__ne__") ([.ref x] ++ [b]) >>= fun v => pure (some v)) (fun a s₁ => wpAny (model prog w) A (match a with
        | some Value.notImplemented => pure none
        | none => pure none
        | some v => pure (some v)) (fun r s' => ∃ v, r = some (Value.bool v) ∧ Q (.bool v) s') E s₁) E s := by
      refine wpAny_bind (wpAny_call (codeAny_call_builtin PySem.F.cmp_object.ne.plain PySem.F.cmpEntry_ne ?_))
      refine check_slot PySem.F.cmpKind_ne PySem.F.cmpSplit_ne (I.type.andThen (looks_mroIn X hm)) (PySem.F.cmpArgs_ne _ _) ?_
      unfold Builtin.«object.__ne__»
      refine wpAny_bind (wpAny_of_eq (a := ((Value.ref x : Value), [b])) (by first | rfl | (simp only [slotArgs]; rfl)) ?_)
      refine wpAny_bind (wpAny_cRoomFor (by exact hu) ?_)
      refine wpAny_bind (ifBound_K X I hs hf (wpAny_mono h (fun v s' hv => ?_) fun _ _ e => e))
      obtain ⟨r, rfl, q⟩ := hv
      refine wpAny_bind (wpAny_truthy_bool ?_)
      exact wpAny_pure (wpAny_pure (wpAny_pure ⟨_, rfl, q⟩))
    split
    · exact wpAny_bind (wpAny_of_eq (PySem.F.cmp_object.ne.bind _) (wpAny_pure (by exact fin)))
    · exact wpAny_tryCatch (wpAny_bind (wpAny_of_eq (PySem.F.cmp_object.ne.bind _) (wpAny_pure (by exact fin))))
  unfold richCompare
  simp only [oneThing_ref, cmpInfo]
  refine wpAny_holding (wpAny_bind (wpAny_cRoomFor (by omega) ?_))
  refine wpAny_bind (I.type.here (wpAny_bind (hb.here ?_)))
  split
  · rename_i q
    have e : subIn K tb (.ref C) = some false := by
      rcases Bool.or_eq_true_iff.mp hn with e | e
      · rw [beq_iff_eq.mp e] at q; simp at q
      · exact beq_iff_eq.mp e
    refine wpAny_bind ((looks_subIn X e).here ?_)
    simp only [Bool.false_eq_true, if_false]
    refine wpAny_bind (wpAny_mono one (fun r s' z => ?_) fun _ _ e => e)
    obtain ⟨v, rfl, hq⟩ := z
    exact wpAny_pure hq
  · refine wpAny_bind (wpAny_pure ?_)
    simp only [Bool.false_eq_true, if_false]
    refine wpAny_bind (wpAny_mono one (fun r s' z => ?_) fun _ _ e => e)
    obtain ⟨v, rfl, hq⟩ := z
    exact wpAny_pure hq
end
end LxE
namespace PySem.W
open Lean Elab Tactic Meta PySem PySem.Calls PyProof.Rows PyProof.V PySem.Spec
theorem lx_ne_dicts {prog : Program} {w : World} {K : Type} [DecidableEq K] {knd : KeyKind prog w K} {A : Around} {s : Shared} {a b : Addr} {ka kb : List (K × Value)} {r : Bool} (ha : (a == sysModules) = false) (hb : (b == sysModules) = false)
    (da : s.heap.DictOf knd a ka) (db : s.heap.DictOf knd b kb) (hu : A.units < cLine) (hits : ka.length = kb.length → KeqHitsP prog w A.in1 s kb ka r) (E Q : Value → Shared → Prop) (h : Q (.bool (!(ka.length == kb.length && r))) s) : wpAny (model prog w) A (richCompare .NotEq (.ref a) (.ref b)) Q E s := by
  refine wpAny_richCompare_same_room (op := .NotEq) da.typeIs db.typeIs PySem.F.slot_dict_ne (wpAny_call_entry PySem.F.slot_dict_ne da.typeIs PySem.F.entry_dict_ne ?_ (PySem.F.args_dict_ne_2 _ _)) hu
  show wpAny _ _ (Builtin.Dict.dictSlotArgs "__ne__" ⟨[.ref a, .ref b], []⟩ >>= _) _ _ s
  refine wpAny_bind ?_
  unfold Builtin.Dict.dictSlotArgs
  refine wpAny_bind (wpAny_notOrdered_dict da.typeIs ?_)
  show wpAny _ _ (pure (Value.ref a, Value.ref b)) _ _ s
  refine wpAny_pure ?_
  refine wpAny_bind (wpAny_isInstance (T := "dict") db.typeIs PySem.F.sub_dict_dict ?_)
  simp only [Bool.not_true, Bool.false_eq_true, if_false]
  refine wpAny_bind (wpAny_pure (wpAny_bind (wpAny_pure ?_)))
  refine wpAny_bind (samePairsP ha hb da db hits ?_)
  refine wpAny_pure ⟨_, rfl, ?_, ?_⟩
  · exact fun x => nomatch x
  · simpa using h
end PySem.W
namespace LxE
open PySem PySem.SeqAt L2
section
variable {X : Cx} {pins : List (Addr × Obj)} {σ : L2.St} {H : Hp} {s : Shared}
theorem items_own {k n : Nat} {shp : Addr → List Str → List Dt → Prop} (T : EqTab X.prog X.w X.K X.mg X.base k shp) {A : Around} (sb : Sub X (k + n) A) {ds es : List Dt} {xs ys : List V} {its its2 : List Value} (hdn : depL ds ≤ n) (p1 : okL shp ds) (p2 : okL shp es)
    (l1 : IsL X.K H ds xs) (l2 : IsL X.K H es ys) (r1 : Vals xs its) (r2 : Vals ys its2) (i : Nat) (h1 : i < its.toArray.size) (h2 : i < its2.toArray.size) (s' : Shared) (L : LoopI X pins σ H s') :
    wpAny (model X.prog X.w) A (eqBool its.toArray[i] its2.toArray[i]) (fun r s2 => r = eAt ds es i ∧ LoopI X pins σ H s2) X.xe s' := by
  obtain ⟨H1, I1, e1⟩ := L
  have g1 : its[i]? = some its.toArray[i] := by
    have h1' : i < its.length := by simpa using h1
    rw [List.getElem?_eq_getElem h1'] <;> simp
  have g2 : its2[i]? = some its2.toArray[i] := by
    have h2' : i < its2.length := by simpa using h2
    rw [List.getElem?_eq_getElem h2'] <;> simp
  have k1 : i < xs.length := by rw [r1.length]; simpa using h1
  have k2 : i < ys.length := by rw [r2.length]; simpa using h2
  obtain ⟨u', hu', ru⟩ := r1.get (List.getElem?_eq_getElem k1)
  obtain ⟨v', hv', rv⟩ := r2.get (List.getElem?_eq_getElem k2)
  rw [g1] at hu'
  rw [g2] at hv'
  rw [Option.some.inj hu', Option.some.inj hv']
  obtain ⟨d', d1, i1⟩ := l1.get (List.getElem?_eq_getElem k1)
  obtain ⟨e', d2, i2⟩ := l2.get (List.getElem?_eq_getElem k2)
  rw [eAt_some d1 d2]
  refine wpAny_mono (eq_own T (Nat.le_trans (depL_get d1) hdn) (okL_get p1 d1) (okL_get p2 d2) (i1.ext e1) (i2.ext e1) ru rv sb I1) (fun r s2 q => ?_) fun _ _ z => z
  obtain ⟨hr, H2, I2, e2⟩ := q
  exact ⟨hr, H2, I2, e1.trans e2⟩
/-- what a class must have besides, for != -/
def NeFacts (K : PySem.W.Frag) (C : Addr) : Prop := PySem.W.findIn K (.ref C) "__ne__" = some (some (.builtin "object.__ne__")) ∧ PySem.W.mroIn K C (.type "object") = some true
theorem rcn_own {k : Nat} {shp : Addr → List Str → List Dt → Prop} (T : EqTab X.prog X.w X.K X.mg X.base k shp) (N : ∀ C fs ds, shp C fs ds → NeFacts X.K C) (n : Nat) (d e : Dt) (x y : V) (u v : Value) (A : Around) (hn : dep d ≤ n) (od : okD shp d) (oe : okD shp e) (hd : Is X.K H d x) (he : Is X.K H e y)
    (rx : RelV x u) (ry : RelV y v) (sb : Sub X (k + n + 1) A) (I : Inv X pins σ H s) (hk : kd d = kd e ∨ kd d = 6) :
    wpAny (model X.prog X.w) A (richCompare .NotEq u v) (fun r s' => r = .bool (!deq d e) ∧ LoopI X pins σ H s') X.xe s := by
  have sb1 : Sub X (k + n) A.in1 := sb.in1
  by_cases h6 : kd d = 6
  · cases d <;> first | (exfalso; simp [kd] at h6; done) | skip
    rename_i C fs ds
    obtain ⟨⟨f, fd, F1, hfind, hfn, hb⟩, hfc⟩ := T.own C fs ds od
    obtain ⟨hne, hm⟩ := N C fs ds od
    have hd' := hd
    obtain ⟨a, dx, kvs, rfl, hs, ek, hl⟩ := hd
    cases (show u = _ from rx)
    obtain ⟨mA, J0, _⟩ := ins_get I.hok hs
    obtain ⟨odj, J, _⟩ := J0.look
    have tb : ∃ tb, PySem.W.Looks (model X.prog X.w) s.heap (typeOf v) tb ∧ PySem.W.notFirst X.K C tb = true := by
      by_cases h6' : kd e = 6
      · cases e <;> first | (exfalso; simp [kd] at h6'; done) | skip
        rename_i C' fs' es
        have t2 := T.two _ _ _ _ _ _ od oe
        obtain ⟨b, dy, lvs, rfl, hs', _, _⟩ := he
        cases (show v = _ from ry)
        obtain ⟨mB, J0', _⟩ := ins_get I.hok hs'
        obtain ⟨odj', J', _⟩ := J0'.look
        exact ⟨_, J'.type, t2⟩
      · obtain ⟨Tn, hT, tT⟩ := ty_of I he ry h6'
        exact ⟨_, looks_ty tT, (facts_of hfc hT).1⟩
    obtain ⟨tb, Lt, hnf⟩ := tb
    have hun := sb.room.un
    refine cmpne_K (tb := tb) (by omega) I.kIn J Lt hnf hm hne hfind hfn ?_
    refine wpAny_mono (own_run (Q' := fun z H' => z = .bl (deq (.ins C fs ds) e) ∧ Ext H H') F1 hb (sb1.mono (by omega)) I ry ⟨a, y, fs, ds, e, rfl, hd', he, od, oe, fun H' e' => ⟨rfl, e'⟩⟩) (fun r s' hr => ?_) fun _ _ z => z
    obtain ⟨z, H', I', rz, ez, ex⟩ := hr
    subst ez
    cases (show r = _ from rz)
    exact ⟨_, rfl, rfl, H', I', ex⟩
  · have hk' : kd d = kd e := hk.resolve_right h6
    by_cases h2 : kd d ≤ 2
    · have h3 : kd e ≤ 2 := hk' ▸ h2
      have L : LoopI X pins σ H s := ⟨H, I, Ext.rfl'⟩
      cases d <;> first | (exfalso; simp [kd] at h2; done) | skip
      all_goals (cases e <;> first | (exfalso; simp [kd] at hk'; done) | skip)
      · cases (show x = _ from hd); cases (show y = _ from he); cases (show u = _ from rx); cases (show v = _ from ry)
        exact RcNeAt.none_none X.prog X.w X.xe _ ⟨rfl, L⟩
      · cases (show x = _ from hd); cases (show y = _ from he); cases (show u = _ from rx); cases (show v = _ from ry)
        exact RcNeAt.bool_bool _ _ X.prog X.w X.xe _ ⟨rfl, L⟩
      · cases (show x = _ from hd); cases (show y = _ from he); cases (show u = _ from rx); obtain ⟨t, rfl⟩ := (show ∃ t, v = Value.int _ t from ry)
        exact RcNeAt.bool_int _ _ _ X.prog X.w X.xe _ ⟨rfl, L⟩
      · cases (show x = _ from hd); cases (show y = _ from he); obtain ⟨t, rfl⟩ := (show ∃ t, u = Value.int _ t from rx); cases (show v = _ from ry)
        exact RcNeAt.int_bool _ _ _ X.prog X.w X.xe _ ⟨rfl, L⟩
      · cases (show x = _ from hd); cases (show y = _ from he); obtain ⟨t, rfl⟩ := (show ∃ t, u = Value.int _ t from rx); obtain ⟨t', rfl⟩ := (show ∃ t, v = Value.int _ t from ry)
        exact RcNeAt.int_int _ _ _ _ X.prog X.w X.xe _ ⟨rfl, L⟩
      · cases (show x = _ from hd); cases (show y = _ from he); obtain ⟨t, rfl⟩ := (show ∃ t, u = Value.str _ t from rx); obtain ⟨t', rfl⟩ := (show ∃ t, v = Value.str _ t from ry)
        exact RcNeAt.str_str _ _ _ _ X.prog X.w X.xe _ ⟨rfl, L⟩
    · cases d with
      | non => exact absurd (by decide) h2
      | bl b => exact absurd (by show 1 ≤ 2; decide) h2
      | int b => exact absurd (by show 1 ≤ 2; decide) h2
      | str b => exact absurd (by show 2 ≤ 2; decide) h2
      | ins C fs ds => exact absurd rfl h6
      | lst ds =>
        cases e <;> first | (exfalso; simp [kd] at hk'; done) | skip
        rename_i es
        obtain ⟨a, xs, rfl, hs, l1⟩ := hd
        obtain ⟨b, ys, rfl, hs', l2⟩ := he
        cases (show u = _ from rx)
        cases (show v = _ from ry)
        have eq0 : deq (.lst ds) (.lst es) = ((List.range (min ds.length es.length)).all (eAt ds es) && ds.length == es.length) := deqL_eq ds es
        have hdn : depL ds ≤ n := Nat.le_trans (Nat.le_succ _) hn
        by_cases hsz : ds.length = es.length
        · refine rc_listNB (N := ds.length) (e := eAt ds es) sb.room.units0 (LoopI X pins σ H) (fun s' z => ?_) (fun s' z => ⟨?_, z⟩) ⟨H, I, Ext.rfl'⟩
          · obtain ⟨H1, I1, e1⟩ := id z
            obtain ⟨its, r1, p1, _⟩ := I1.list (hs.ext e1)
            obtain ⟨its2, r2, p2, _⟩ := I1.list (hs'.ext e1)
            exact ⟨its.toArray, its2.toArray, p1.isList, p2.isList, by rw [List.size_toArray, ← r1.length, ← l1.length], by rw [List.size_toArray, ← r2.length, ← l2.length, hsz],
              fun i h1 h2 => items_own T sb1 hdn od oe l1 l2 r1 r2 i h1 h2 s' z⟩
          · rw [eq0, hsz, Nat.min_self, beq_self_eq_true, Bool.and_true, ← hsz]
        · have hb : (ds.length == es.length) = false := beq_eq_false_iff_ne.mpr hsz
          rw [hb, Bool.and_false] at eq0
          obtain ⟨its, r1, p1, _⟩ := I.list hs
          obtain ⟨its2, r2, p2, _⟩ := I.list hs'
          refine RcNeAt.lists_lengths p1.isList p2.isList ?_ sb.room.units0 X.prog X.w X.xe _ ⟨by rw [eq0] <;> rfl, H, I, Ext.rfl'⟩
          rw [List.size_toArray, List.size_toArray, ← r1.length, ← r2.length, ← l1.length, ← l2.length]
          simp [hsz]
      | tup ds =>
        cases e <;> first | (exfalso; simp [kd] at hk'; done) | skip
        rename_i es
        obtain ⟨a, xs, rfl, hs, l1⟩ := hd
        obtain ⟨b, ys, rfl, hs', l2⟩ := he
        cases (show u = _ from rx)
        cases (show v = _ from ry)
        have eq0 : deq (.tup ds) (.tup es) = ((List.range (min ds.length es.length)).all (eAt ds es) && ds.length == es.length) := deqL_eq ds es
        have hdn : depL ds ≤ n := Nat.le_trans (Nat.le_succ _) hn
        obtain ⟨its, r1, p1, _⟩ := I.tuple hs
        obtain ⟨its2, r2, p2, _⟩ := I.tuple hs'
        have e1 : its.toArray.size = ds.length := by rw [List.size_toArray, ← r1.length, ← l1.length]
        have e2 : its2.toArray.size = es.length := by rw [List.size_toArray, ← r2.length, ← l2.length]
        refine rc_tupNB (e := eAt ds es) sb.room.units0 (LoopI X pins σ H) p1 p2 (fun i h1 h2 s' z => items_own T sb1 hdn od oe l1 l2 r1 r2 i h1 h2 s' z) (fun s' z => ⟨?_, z⟩) ⟨H, I, Ext.rfl'⟩
        rw [eq0, e1, e2]
      | dic ks ds =>
        cases e <;> first | (exfalso; simp [kd] at hk'; done) | skip
        rename_i ls es
        obtain ⟨a, kvs, rfl, hs, ek, l1⟩ := hd
        obtain ⟨b, lvs, rfl, hs', el, l2⟩ := he
        subst ek el
        cases (show u = _ from rx)
        cases (show v = _ from ry)
        obtain ⟨_, ya, va, ra, da⟩ := (show ObjOk X.prog X.w H s.heap a (.dK kvs) from I.hok a _ hs)
        obtain ⟨_, yb, vb, rb, db⟩ := (show ObjOk X.prog X.w H s.heap b (.dK lvs) from I.hok b _ hs')
        have hun := sb.room.un
        have hdn : depL ds ≤ n := Nat.le_trans (Nat.le_succ _) hn
        refine PySem.W.lx_ne_dicts (knd := mixKind X.prog X.w) (r := deqD (kvs.map (·.1)) ds (lvs.map (·.1)) es) ya yb da db (by omega) (fun _ => hits_of rb l2 l1 ra fun i d e x y u v k1 k2 i1 i2 r1 r2 => ?_) X.xe _ ⟨?_, H, I, Ext.rfl'⟩
        · obtain ⟨j, hj⟩ := mem_get k2
          intro E Q q
          exact eq_get I i1 i2 r1 r2 q (rc_pure I n d e x y u v A.in1 (Nat.le_trans (depL_get k1) hdn) (pureL_get od k1) (pureL_get oe hj) i1 i2 r1 r2 (by show A.units + 1 + n < cLine; omega) E _ ⟨_, rfl, q⟩)
        · have e1 : va.length = (kvs.map (·.1)).length := by rw [List.length_map, ← KV.length ra]
          have e2 : vb.length = (lvs.map (·.1)).length := by rw [List.length_map, ← KV.length rb]
          rw [e1, e2] <;> rfl
end
end LxE
namespace L2
open PySem PySem.Spec PyProof.Rows
def rEqO (K : PySem.W.Frag) (shp : Addr → List Str → List Dt → Prop) : R2 := fun x y H Q => ∃ d e, Is K H d x ∧ Is K H e y ∧ okD shp d ∧ okD shp e ∧ dep d ≤ 8 ∧ ∀ H', Ext H H' → Q (.bl (deq d e)) H'
def rNeO (K : PySem.W.Frag) (shp : Addr → List Str → List Dt → Prop) : R2 := fun x y H Q => ∃ d e, Is K H d x ∧ Is K H e y ∧ okD shp d ∧ okD shp e ∧ dep d ≤ 8 ∧ (LxE.kd d = LxE.kd e ∨ LxE.kd d = 6) ∧ ∀ H', Ext H H' → Q (.bl (!deq d e)) H'
section
variable {X : Cx} {k m : Nat} {shp : Addr → List Str → List Dt → Prop}
theorem op_eqO (T : EqTab X.prog X.w X.K X.mg X.base k shp) (hr : Room m X.A) (hm : k + 9 ≤ m) : OpR X (compareOp .Eq) (rEqO X.K shp) := by
  intro pins s σ H x y v u Q I rx ry hq
  obtain ⟨d, e, hd, he, od, oe, hn, q⟩ := hq
  show wpAny (model X.prog X.w) X.A (richCompare .Eq v u) (EP X pins σ Q) X.xe s
  refine wpAny_mono (LxE.rc_own T 8 d e x y v u X.A pins s H hn od oe hd he rx ry ⟨hr.mono (by omega), rfl⟩ I) (fun r s' z => ?_) fun _ _ x => x
  obtain ⟨hr', H', I', e'⟩ := z
  subst hr'
  exact ⟨.bl _, H', I', rfl, q H' e'⟩
theorem op_neO (T : EqTab X.prog X.w X.K X.mg X.base k shp) (N : ∀ C fs ds, shp C fs ds → LxE.NeFacts X.K C) (hr : Room m X.A) (hm : k + 9 ≤ m) : OpR X (compareOp .NotEq) (rNeO X.K shp) := by
  intro pins s σ H x y v u Q I rx ry hq
  obtain ⟨d, e, hd, he, od, oe, hn, hk, q⟩ := hq
  show wpAny (model X.prog X.w) X.A (richCompare .NotEq v u) (EP X pins σ Q) X.xe s
  refine wpAny_mono (LxE.rcn_own T N 8 d e x y v u X.A hn od oe hd he rx ry ⟨hr.mono (by omega), rfl⟩ I hk) (fun r s' z => ?_) fun _ _ x => x
  obtain ⟨hr', H', I', e'⟩ := z
  subst hr'
  exact ⟨.bl _, H', I', rfl, q H' e'⟩
end
end L2
namespace L2
open PySem PySem.Spec PyProof.Rows
def tyD : Dt → V
  | .non => .ty "NoneType" | .bl _ => .ty "bool" | .int _ => .ty "int" | .str _ => .ty "str" | .lst _ => .ty "list" | .tup _ => .ty "tuple" | .dic _ _ => .ty "dict" | .ins C _ _ => .ref C
def rTypeO (K : PySem.W.Frag) : List V → Hp → VK → Prop := fun xs H Q => ∃ x d, xs = [x] ∧ Is K H d x ∧ Q (tyD d) H
section
variable {X : Cx}
theorem call_typeO : CallR X (.type "type") (rTypeO X.K) := by
  intro pins s σ H xs us Q I r h
  obtain ⟨x, d, rfl, hd, q⟩ := h
  obtain ⟨u, rfl, rx⟩ := vals1 r
  by_cases h6 : LxE.kd d = 6
  · cases d <;> first | (exfalso; simp [LxE.kd] at h6; done) | skip
    rename_i C fs ds
    obtain ⟨a, dx, kvs, rfl, hs, _, _⟩ := hd
    cases (show u = _ from rx)
    obtain ⟨mA, O, _⟩ := ins_get I.hok hs
    obtain ⟨od, J, _⟩ := O.look
    exact PySem.W.kto_own J ⟨.ref C, H, I, rfl, q⟩
  · have fin : ∀ T, s.TypeIs u T → (Value.type T == Value.type "builtin_function_or_method") = false → tyD d = .ty T → wpAny (model X.prog X.w) X.A (call (.type "type") [u]) (EP X pins σ Q) X.xe s := fun T h1 h2 h3 => by
      rw [h3] at q
      exact call_type_of h1 h2 ⟨.ty T, H, I, rfl, q⟩
    cases d with
    | non => cases (show x = _ from hd); cases (show u = _ from rx); exact fin "NoneType" rfl (by decide +kernel) rfl
    | bl b => cases (show x = _ from hd); cases (show u = _ from rx); exact fin "bool" rfl (by decide +kernel) rfl
    | int i => cases (show x = _ from hd); obtain ⟨t, rfl⟩ := (show ∃ t, u = Value.int _ t from rx); exact fin "int" rfl (by decide +kernel) rfl
    | str i => cases (show x = _ from hd); obtain ⟨t, rfl⟩ := (show ∃ t, u = Value.str _ t from rx); exact fin "str" rfl (by decide +kernel) rfl
    | lst ds =>
      obtain ⟨a, xs, rfl, hs, _⟩ := hd
      cases (show u = _ from rx)
      obtain ⟨_, _, p, _⟩ := I.list hs
      exact fin "list" (LxE.ti_list p.isList) (by decide +kernel) rfl
    | tup ds =>
      obtain ⟨a, xs, rfl, hs, _⟩ := hd
      cases (show u = _ from rx)
      obtain ⟨_, _, p, _⟩ := I.tuple hs
      exact fin "tuple" (LxE.ti_tuple p) (by decide +kernel) rfl
    | dic ks ds =>
      obtain ⟨a, xs, rfl, hs, _⟩ := hd
      cases (show u = _ from rx)
      obtain ⟨_, _, va, _, o⟩ := (show ObjOk X.prog X.w H s.heap a (.dK xs) from I.hok a _ hs)
      exact fin "dict" o.typeIs (by decide +kernel) rfl
    | ins C fs ds => exact absurd rfl h6
/-- C is T: a class of the text, and any type -/
def rIsT (K : PySem.W.Frag) : R2 := fun x y H Q => ∃ C, x = V.ref C ∧ ((∃ T, y = V.ty T ∧ Q (.bl false) H) ∨ (∃ C', y = V.ref C' ∧ (C = C' ∨ (PySem.W.makesIn K C = true ∧ PySem.W.makesIn K C' = true)) ∧ Q (.bl (decide (C = C'))) H))
theorem op_is_ty : OpR X (compareOp .Is) (rIsT X.K) := by
  intro pins s σ H x y v u Q I rx ry h
  obtain ⟨C, rfl, ⟨T, rfl, q⟩ | ⟨C', rfl, hab, q⟩⟩ := h
  · cases (show v = _ from rx)
    cases (show u = _ from ry)
    show wpAny _ _ (do return Value.bool (← isSame (.ref C) (.type T))) _ _ _
    refine wpAny_bind (wpAny_of_eq (rfl : isSame (.ref C) (.type T) = pure false) ?_)
    exact wpAny_pure ⟨.bl false, H, I, rfl, q⟩
  · exact op_is_cls pins s σ H _ _ v u Q I rx ry ⟨C, C', rfl, rfl, hab, q⟩
end
def spX (C : Addr) (n : Nat) (fo : List V → List (Str × V)) : Sp := fun vs H Q _ => ∃ (H0 : Hp) (a : Addr) (ws : List V), vs = .ref a :: ws ∧ ws.length = n ∧ H0 a = none ∧ H = upd H0 a (exo a C none) ∧
  ∀ d, H0 d = none → d ≠ a → Q .non (upd (upd H0 d (exd d (fo ws))) a (exo a C (some d)))
theorem exo1 {H0 : Hp} {a d : Addr} {o o' e : HO} (hne : d ≠ a) : upd (upd (upd H0 a o) d e) a o' = upd (upd H0 d e) a o' := by
  funext b
  by_cases h1 : b = a
  · rw [h1, upd_same, upd_same]
  · rw [upd_ne h1, upd_ne h1]
    by_cases h2 : b = d
    · rw [h2, upd_same, upd_same]
    · rw [upd_ne h2, upd_ne h2, upd_ne h1]
theorem exo2 {H0 : Hp} {a d : Addr} {o' e e' : HO} (hne : d ≠ a) : upd (upd (upd H0 d e) a o') d e' = upd (upd H0 d e') a o' := by
  funext b
  by_cases h1 : b = d
  · rw [h1, upd_same, upd_ne hne, upd_same]
  · rw [upd_ne h1]
    by_cases h2 : b = a
    · rw [h2, upd_same, upd_same]
    · rw [upd_ne h2, upd_ne h2, upd_ne h1, upd_ne h1]
theorem exo3 {H0 : Hp} {a d : Addr} {o' e e' : HO} (ha : H0 a = none) (hne : d ≠ a) : upd (del (upd (upd H0 d e) a o') a) d e' = upd H0 d e' := by
  funext b
  by_cases h1 : b = d
  · rw [h1, upd_same, upd_same]
  · rw [upd_ne h1, upd_ne h1]
    by_cases h2 : b = a
    · rw [h2, del_same, ha]
    · rw [del_ne h2, upd_ne h2, upd_ne h1]
/-- what of the text an own exception class with an __init__ must have -/
structure XCls (K : PySem.W.Frag) (mg : Str → Option Value) (x : Str) (C fI : Addr) (fd : FuncData) (ps : List Str) : Prop where
  T : OexC K C
  m : mg x = some (.ref C)
  i : PySem.W.findIn K (.ref C) "__init__" = some (some (.ref fI))
  t : PySem.W.typeIn K (.ref fI) = some (.type "function")
  b : Binds K fd ps []
  isC : ExcC K C
  xf : XfC K C
/-- the reading of raise C(e, ..) behind its arguments -/
theorem rz_ok {C : Addr} {n : Nat} {fo : List V → List (Str × V)} {ws : List V} {H1 : Hp} {Q : XK} (hn : ws.length = n) (h10 : n ≤ 10) (k : ∀ d, H1 d = none → Q (.ref C) (some d) (upd H1 d (.xd (fo ws)))) :
    ws.length ≤ 1000 ∧ ∀ a, H1 a = none → spX C n fo (.ref a :: (ws ++ [])) (upd H1 a (exo a C none))
      (fun v H2 => v = .non ∧ ∃ (d : Addr) (fs : List (Str × V)), H2 a = some (exo a C (some d)) ∧ H2 d = some (exd d fs) ∧ H1 d = none ∧ Q (.ref C) (some d) (upd (del H2 a) d (.xd fs))) (fun _ _ _ => False) := by
  refine ⟨by omega, fun a ha => ⟨H1, a, ws, by rw [List.append_nil], hn, ha, rfl, fun d hd hne => ⟨rfl, d, fo ws, upd_same, ?_, hd, ?_⟩⟩⟩
  · rw [upd_ne hne, upd_same]
  · rw [exo3 ha hne]
    exact k d hd
section
variable {X : Cx} {x : Str} {C fI : Addr} {fd : FuncData} {ps : List Str} {k n : Nat} {fo : List V → List (Str × V)} {e : Expr} {es : List Expr} {ta : TA} {p pos pos2 : Pos} {W : WX}
/-- raise C(e, ..) -/
theorem ps_raiseX (T : XCls X.K X.mg x C fI fd ps) (F1 : FnOk X.prog X.w X.K X.mg X.base CX0 k fI fd ps (spX C n fo)) (hr : Room (k + 1) X.A) (hc : X.calm = true) (tk : Takes X W) (hg : Gl X x) (ha : PA X (e :: es) ta)
    (hdb : (x == ("__debug__" : Str)) = false := by decide) (he : starEach (e :: es) X.env = (false, eval e X.env) :: starEach es X.env := by rfl) (hpl : (backTo pos (starEach es X.env)).any (·.1) = false := by rfl) :
    PS X (.Raise (some (.Call (.Name x p) (e :: es) [] pos)) none pos2) (fun _ σ H => tMkO C (spX C n fo) [] ta σ H fun cls d H' => W cls d σ H') :=
  ps_raise hc tk (pmk_oex (k := k) (dvs := []) (ds := []) T.T T.i T.t F1 hr T.b .nil (fun _ _ _ _ _ _ _ h => h.elim) hg T.m ha hdb he hpl)
end
end L2
namespace L2
open PySem
theorem eqFacts_mk {K : PySem.W.Frag} {C : Addr} (a1 : PySem.W.notFirst K C (.type "NoneType") = true) (b1 : PySem.W.subIn K (.ref C) (.type "NoneType") = some false) (a2 : PySem.W.notFirst K C (.type "bool") = true) (b2 : PySem.W.subIn K (.ref C) (.type "bool") = some false)
    (a3 : PySem.W.notFirst K C (.type "int") = true) (b3 : PySem.W.subIn K (.ref C) (.type "int") = some false) (a4 : PySem.W.notFirst K C (.type "str") = true) (b4 : PySem.W.subIn K (.ref C) (.type "str") = some false)
    (a5 : PySem.W.notFirst K C (.type "list") = true) (b5 : PySem.W.subIn K (.ref C) (.type "list") = some false) (a6 : PySem.W.notFirst K C (.type "tuple") = true) (b6 : PySem.W.subIn K (.ref C) (.type "tuple") = some false)
    (a7 : PySem.W.notFirst K C (.type "dict") = true) (b7 : PySem.W.subIn K (.ref C) (.type "dict") = some false) : eqFacts K C = true := by
  unfold eqFacts tyNames
  simp only [List.all_cons, List.all_nil, a1, a2, a3, a4, a5, a6, a7, b1, b2, b3, b4, b5, b6, b7]
  rfl
end L2
namespace L2
open PySem
theorem kit_self {K : PySem.W.Frag} {C : Addr} : PySem.W.kitOne K (.ref C) (.ref C) = some true := by
  unfold PySem.W.kitOne
  rw [if_pos (by simp)]
theorem kit_two {K : PySem.W.Frag} {C E : Addr} {b : Bool} (hne : C ≠ E) (hd : PySem.W.hasDictIn K E = true) (ht : PySem.W.typeIn K (.ref E) = some (.type "type")) (h4 : PySem.W.subIn K (.ref C) (.ref E) = some b) : PySem.W.kitOne K (.ref C) (.ref E) = some b := by
  obtain ⟨cd, hc, _⟩ := PySem.W.any_some hd
  have e1 : (Value.ref C == Value.ref E) = false := beq_eq_false_iff_ne.mpr (fun e => hne (Value.ref.inj e))
  have e2 : ((PySem.W.clsIn K E).isSome && PySem.W.typeIn K (.ref E) == some (.type "type")) = true := by rw [hc, ht] <;> rfl
  unfold PySem.W.kitOne
  rw [if_neg (by rw [e1]; exact Bool.false_ne_true)]
  show (if ((PySem.W.clsIn K E).isSome && PySem.W.typeIn K (.ref E) == some (.type "type")) = true then PySem.W.subIn K (.ref C) (.ref E) else none) = some b
  rw [if_pos e2]
  exact h4
end L2
namespace L2
open PySem PySem.Spec PyProof.Rows
def WellAt (H : Hp) (w : Addr) : Prop := ∃ a b c : Int, H w = some (.lst [.int a, .int b, .int c])
/-- all but w is as it was -/
abbrev DE (w : Addr) (H H' : Hp) : Prop := Ext (del H w) (del H' w)
theorem del_ext {H : Hp} {w : Addr} : Ext (del H w) H := fun a o e => by
  by_cases h : a = w
  · rw [h, del_same] at e
    cases e
  · rw [del_ne h] at e
    exact e
theorem DE.of {w : Addr} {H H' : Hp} (e : Ext H H') : DE w H H' := fun a o h => by
  by_cases h1 : a = w
  · rw [h1, del_same] at h
    cases h
  · rw [del_ne h1] at h ⊢
    exact e a o h
theorem DE.rfl' {w : Addr} {H : Hp} : DE w H H := Ext.rfl'
theorem DE.upd {w : Addr} {H : Hp} {o : HO} : DE w H (upd H w o) := fun a o' h => by
  by_cases h1 : a = w
  · rw [h1, del_same] at h
    cases h
  · rw [del_ne h1] at h ⊢
    rw [upd_ne h1]
    exact h
theorem DE.to {w : Addr} {H H' : Hp} (e : DE w H H') {b : Addr} {o : HO} (h : H b = some o) (hb : b ≠ w) : H' b = some o := by
  have z := e b o (by rw [del_ne hb]; exact h)
  rw [del_ne hb] at z
  exact z
theorem WellAt.ext {H H' : Hp} {w : Addr} (h : WellAt H w) (e : Ext H H') : WellAt H' w := by
  obtain ⟨a, b, c, h⟩ := h
  exact ⟨a, b, c, e _ _ h⟩
theorem WellAt.at (a b c : Int) {H : Hp} {w : Addr} : WellAt (upd H w (.lst [.int a, .int b, .int c])) w := ⟨a, b, c, upd_same⟩
theorem WellAt.ne {H : Hp} {w p : Addr} (h : WellAt H w) (hp : H p = none) : p ≠ w := fun e => by
  obtain ⟨a, b, c, h⟩ := h
  rw [e, h] at hp
  cases hp
theorem DE.fresh {w : Addr} {H H' : Hp} (e : DE w H H') {p : Addr} (hw : WellAt H' w) (hp : H' p = none) : del H w p = none := by
  cases h : del H w p with
  | none => rfl
  | some o =>
    have z := e p o h
    rw [del_ne (hw.ne hp), hp] at z
    cases z
theorem DE.mut {w D : Addr} {H H' : Hp} {o : HO} (e : DE w H H') (h : del H w D = none) : DE w H (L2.upd H' D o) := fun a o' ha => by
  by_cases h1 : a = D
  · rw [h1, h] at ha
    cases ha
  · have z := e a o' ha
    by_cases h2 : a = w
    · rw [h2, del_same] at z
      cases z
    · rw [del_ne h2] at z ⊢
      rw [upd_ne h1]
      exact z
theorem Ext.mut {D : Addr} {H H' : Hp} {o : HO} (e : Ext H H') (h : H D = none) : Ext H (L2.upd H' D o) := fun a o' ha => by
  by_cases h1 : a = D
  · rw [h1, h] at ha
    cases ha
  · rw [upd_ne h1]
    exact e a o' ha
theorem Ext.fresh {H H' : Hp} (e : Ext H H') {p : Addr} (h : H' p = none) : H p = none := by
  cases q : H p with
  | none => rfl
  | some o =>
    rw [e p o q] at h
    cases h
theorem WellAt.upd {H : Hp} {w D : Addr} {o : HO} (h : WellAt H w) (hD : D ≠ w) : WellAt (L2.upd H D o) w := by
  obtain ⟨a, b, c, h⟩ := h
  exact ⟨a, b, c, by rw [upd_ne hD.symm]; exact h⟩
theorem SqL.de {K : PySem.W.Frag} {H : Hp} {w a : Addr} {xs : List V} (h : SqL K (del H w) a xs) : SqL K H a xs := h.ext del_ext
/-- a list of ints as drawn data -/
theorem is_lst {K : PySem.W.Frag} {H : Hp} {a : Addr} {xs : List V} {ds : List Dt} (h : H a = some (.lst xs)) (l : IsL K H ds xs) : Is K H (.lst ds) (.ref a) := ⟨a, xs, rfl, SqL.of h, l⟩
theorem at3a {x y z : V} : atI [x, y, z] 0 = some x := atI_nat (xs := [x, y, z]) (j := 0) rfl
theorem at3b {x y z : V} : atI [x, y, z] 1 = some y := atI_nat (xs := [x, y, z]) (j := 1) rfl
theorem at3c {x y z : V} : atI [x, y, z] 2 = some z := atI_nat (xs := [x, y, z]) (j := 2) rfl
theorem cpow18 : CPow 10 18 := ⟨by decide, by decide, by decide⟩
theorem fmod_bounds {a m : Int} (h : 0 < m) : 0 ≤ a.fmod m ∧ a.fmod m < m := by
  rw [Int.fmod_eq_emod_of_nonneg a (Int.le_of_lt h)]
  exact ⟨Int.emod_nonneg _ (by omega), Int.emod_lt_of_pos _ h⟩
end L2
namespace L2
theorem tyes {σ : St} {H : Hp} {A B : Hp → Prop} (h : A H) : tYes σ H (fun b H3 => if b = true then A H3 else B H3) := by
  show (if true = true then A H else B H)
  rw [if_pos rfl]
  exact h
end L2
namespace L2
open PySem PySem.Spec PyProof.Rows
def SqQ (K : PySem.W.Frag) (H : Hp) (a : Addr) (xs : List V) : Prop := SqL K H a xs ∨ SqT K H a xs
theorem SqQ.ext {K : PySem.W.Frag} {H H' : Hp} {a : Addr} {xs : List V} (h : SqQ K H a xs) (e : Ext H H') : SqQ K H' a xs := h.elim (fun h => .inl (h.ext e)) fun h => .inr (h.ext e)
def iSeq (K : PySem.W.Frag) (tl : TE) : TI := fun σ H R => tl σ H fun x H1 => ∃ a, x = .ref a ∧ (((∃ xs, SqL K H1 a xs) ∧ R (Itl K a) H1) ∨ ((∃ xs, SqT K H1 a xs) ∧ R (Itt K a) H1))
theorem pi_seq {X : Cx} {tg : Expr} {l : Expr} {tl : TE} (hl : PE X l tl) : PI X tg l (iSeq X.K tl) := by
  refine ⟨fun pins s σ H R I h => ?_⟩
  refine thn (hl.run pins s σ H _ I h) fun v s1 ⟨x, H1, I1, r1, q1⟩ => ?_
  obtain ⟨a, e, ⟨⟨xs, hq⟩, q⟩ | ⟨⟨xs, hq⟩, q⟩⟩ := q1
  · subst e
    cases r1
    obtain ⟨its, rv, p, hz⟩ := I1.list hq
    refine wpAny_pyIter_list p.isList ?_
    refine ⟨s1.heap.objs.size, [s1.heap.objs.size], _, _, H1, rfl, I1.kept (t' := s1.toks) fun b o e => Heap.get?_push_of_some _ e, turn_list a _, ⟨_, Heap.get?_push_size _ rfl, rfl, rfl⟩, fun b hb => ?_, q⟩
    have e : b = s1.heap.objs.size := by simpa using hb
    subst e
    exact I1.fpOk (Nat.le_refl _) (I1.hok.fresh (Nat.le_refl _))
  · subst e
    cases r1
    obtain ⟨its, rv, p, hz⟩ := I1.tuple hq
    refine wpAny_pyIter_tuple (show s1.heap.IsTuple a its.toArray from p) ?_
    refine ⟨s1.heap.objs.size, [s1.heap.objs.size], _, _, H1, rfl, I1.kept (t' := s1.toks) fun b o e => Heap.get?_push_of_some _ e, turn_tuple a _, ⟨_, Heap.get?_push_size _ rfl, rfl, rfl⟩, fun b hb => ?_, q⟩
    have e : b = s1.heap.objs.size := by simpa using hb
    subst e
    exact I1.fpOk (Nat.le_refl _) (I1.hok.fresh (Nat.le_refl _))
/-- the reading of for x in a, behind a: what stood at H0 stands -/
theorem for_seq {K : PySem.W.Frag} {a : Addr} {xs : List V} {g : TG} {tb : TS} {D : Ends} {σ : St} {H0 H : Hp} (hq : SqQ K H0 a xs) (Pv : Nat → St → Hp → Prop) (h0 : Pv 0 σ H) (he : ∀ i σ H, i ≤ xs.length → Pv i σ H → Ext H0 H)
    (hs : ∀ i x σ H, xs[i]? = some x → Pv i σ H → g x σ H fun σ2 H2 => tb { D with nx := Pv (i + 1), ct := Pv (i + 1), bk := D.nx } σ2 H2) (hd : ∀ σ H, Pv xs.length σ H → D.nx σ H) :
    ((∃ ys, SqL K H a ys) ∧ ∃ W : Nat → Nat → St → Hp → Prop, (∃ m, W 0 m σ H) ∧ ∀ i m σ H, W i m σ H →
      ((Itl K a).stop i H ∧ D.nx σ H) ∨ ((Itl K a).go i H ∧ ∃ N : St → Hp → Prop, (∀ σ' H', N σ' H' → ∃ m', m' < m ∧ W (i + 1) m' σ' H') ∧ ∀ x H', (Itl K a).yld i H x H' → g x σ H' fun σ2 H2 => tb { D with nx := N, ct := N, bk := D.nx } σ2 H2)) ∨
    ((∃ ys, SqT K H a ys) ∧ ∃ W : Nat → Nat → St → Hp → Prop, (∃ m, W 0 m σ H) ∧ ∀ i m σ H, W i m σ H →
      ((Itt K a).stop i H ∧ D.nx σ H) ∨ ((Itt K a).go i H ∧ ∃ N : St → Hp → Prop, (∀ σ' H', N σ' H' → ∃ m', m' < m ∧ W (i + 1) m' σ' H') ∧ ∀ x H', (Itt K a).yld i H x H' → g x σ H' fun σ2 H2 => tb { D with nx := N, ct := N, bk := D.nx } σ2 H2)) := by
  have e0 := he 0 σ H (Nat.zero_le _) h0
  rcases hq with hq | hq
  · exact .inl ⟨⟨xs, hq.ext e0⟩, for_list Pv h0 (fun i σ H hi p => hq.ext (he i σ H hi p)) hs hd⟩
  · exact .inr ⟨⟨xs, hq.ext e0⟩, for_tup Pv h0 (fun i σ H hi p => hq.ext (he i σ H hi p)) hs hd⟩
theorem lc_seq {K : PySem.W.Frag} {a : Addr} {xs : List V} {g : TG} {tt : TT} {te : TE} {vs : List Nat} {σ : St} {H0 H1 : Hp} {Q : Addr → Hp → Prop} (hq : SqQ K H0 a xs) (e1 : Ext H0 H1)
    (Pv : Addr → Nat → Hp → Prop) (h0 : ∀ D, H1 D = none → Pv D 0 (upd H1 D (.lst []))) (he : ∀ D i H, i ≤ xs.length → Pv D i H → Ext H0 H)
    (hs : ∀ D i x H, H1 D = none → xs[i]? = some x → Pv D i H → g x (wipe σ vs) H fun σ2 H2 => wipe σ2 vs = wipe σ vs ∧ tt σ2 H2 fun b H3 =>
      if b = true then te σ2 H3 fun y H4 => ∃ acc, H4 D = some (.lst acc) ∧ acc.length < sizeLine ∧ Pv D (i + 1) (upd H4 D (.lst (acc ++ [y]))) else Pv D (i + 1) H3) (hd : ∀ D H, H1 D = none → Pv D xs.length H → Q D H) :
    ((∃ ys, SqL K H1 a ys) ∧ ∀ D, H1 D = none → ∃ W : Nat → Nat → Hp → Prop, (∃ m, W 0 m (upd H1 D (.lst []))) ∧ ∀ i m H, W i m H →
      ((Itl K a).stop i H ∧ Q D H) ∨ ((Itl K a).go i H ∧ ∃ Nx : Hp → Prop, (∀ H', Nx H' → ∃ m', m' < m ∧ W (i + 1) m' H') ∧ ∀ x H', (Itl K a).yld i H x H' → g x (wipe σ vs) H' fun σ2 H2 => wipe σ2 vs = wipe σ vs ∧ tt σ2 H2 fun b H3 =>
        if b = true then te σ2 H3 fun y H4 => ∃ acc, H4 D = some (.lst acc) ∧ acc.length < sizeLine ∧ Nx (upd H4 D (.lst (acc ++ [y]))) else Nx H3)) ∨
    ((∃ ys, SqT K H1 a ys) ∧ ∀ D, H1 D = none → ∃ W : Nat → Nat → Hp → Prop, (∃ m, W 0 m (upd H1 D (.lst []))) ∧ ∀ i m H, W i m H →
      ((Itt K a).stop i H ∧ Q D H) ∨ ((Itt K a).go i H ∧ ∃ Nx : Hp → Prop, (∀ H', Nx H' → ∃ m', m' < m ∧ W (i + 1) m' H') ∧ ∀ x H', (Itt K a).yld i H x H' → g x (wipe σ vs) H' fun σ2 H2 => wipe σ2 vs = wipe σ vs ∧ tt σ2 H2 fun b H3 =>
        if b = true then te σ2 H3 fun y H4 => ∃ acc, H4 D = some (.lst acc) ∧ acc.length < sizeLine ∧ Nx (upd H4 D (.lst (acc ++ [y]))) else Nx H3)) := by
  rcases hq with hq | hq
  · exact .inl ⟨⟨xs, hq.ext e1⟩, fun D hD => lc_list (xs := xs) (Pv D) (h0 D hD) (fun i H hi p => hq.ext (he D i H hi p)) (fun i x H => hs D i x H hD) (fun H => hd D H hD)⟩
  · exact .inr ⟨⟨xs, hq.ext e1⟩, fun D hD => lc_tup (xs := xs) (Pv D) (h0 D hD) (fun i H hi p => hq.ext (he D i H hi p)) (fun i x H => hs D i x H hD) (fun H => hd D H hD)⟩
end L2
namespace L2
open PySem
/-- no own objects -/
theorem pureTab {P : Program} {w : World} {K : PySem.W.Frag} {mg : Str → Option Value} {base : Heap} : EqTab P w K mg base 0 (fun _ _ _ => False) := ⟨fun _ _ _ h => h.elim, fun _ _ _ _ _ _ h => h.elim⟩
theorem pureNe {K : PySem.W.Frag} : ∀ (C : Addr) (fs : List Str) (ds : List Dt), (fun (_ : Addr) (_ : List Str) (_ : List Dt) => False) C fs ds → LxE.NeFacts K C := fun _ _ _ h => h.elim
theorem pureL_ints : ∀ ns : List Int, pureL (ns.map Dt.int) = true
  | [] => rfl
  | _ :: r => by
    show (true && pureL (r.map Dt.int)) = true
    rw [pureL_ints r] <;> rfl
theorem depL_ints : ∀ ns : List Int, depL (ns.map Dt.int) = 0
  | [] => rfl
  | _ :: r => by
    show max 0 (depL (r.map Dt.int)) = 0
    rw [depL_ints r] <;> rfl
theorem deqL_ints : ∀ ns ms : List Int, deqL (ns.map Dt.int) (ms.map Dt.int) = decide (ns = ms)
  | [], [] => rfl
  | [], _ :: _ => rfl
  | _ :: _, [] => rfl
  | a :: r, b :: q => by
    show (a == b && deqL (r.map Dt.int) (q.map Dt.int)) = decide (a :: r = b :: q)
    rw [deqL_ints r q, Bool.eq_iff_iff]
    simp
end L2
namespace L2
open PySem PySem.Spec PyProof.Rows
/-- isinstance(e, c), e the exception that the suite holds -/
def rIsEX (K : PySem.W.Frag) (a : Addr) (cls : Value) (d : Option Addr) : List V → Hp → VK → Prop := fun xs H Q => ∃ (c : V) (cv : Value) (b : Bool) (D : Addr), xs = [.ref a, c] ∧ (∀ u, RelV c u → u = cv) ∧ cls = .ref D ∧ ExcC K D ∧ PySem.W.kitOne K (.ref D) cv = some b ∧
  (d = none ∨ ∃ dd fs, d = some dd ∧ H dd = some (.xd fs)) ∧ Q (.bl b) H
theorem call_isEX {X : Cx} {a : Addr} {cls : Value} {d : Option Addr} {oe : Obj} {pn : List (Addr × Obj)} (hz : Zc cls d oe) (hf : ∃ vs, oe.data = .fields vs) : CallR (X.suite a ((a, oe) :: pn)) (.builtin "isinstance") (rIsEX X.K a cls d) := by
  intro pins s σ H xs us Q I r h
  obtain ⟨c, cv, b, D, rfl, hcv, rfl, C, e, hd, q⟩ := h
  rcases hd with rfl | ⟨dd, fs, rfl, hd⟩
  · exact call_isE C hz hf pins s σ H _ us Q I r ⟨c, cv, b, rfl, hcv, e, q⟩
  · exact call_isED C hz hf pins s σ H _ us Q I r ⟨c, cv, b, fs, rfl, hcv, e, hd, q⟩
end L2
namespace LxC
open PySem PySem.Spec PyProof.Rows PyProof.V PySem.Calls L2 PySem.AutoSeq1
open Sem (wp)
theorem list_add_any (l : Addr) (items : Array Value) (n : Nat) (dd : Option Addr) (sl : Array (Option Value)) (b : Addr) (items2 : Array Value) (n2 : Nat) (dd2 : Option Addr) (sl2 : Array (Option Value)) (hc0 : items.size + items2.size ≤ sizeLine) :
    Meets (Builtin.«list.__add__» ⟨[.ref l, .ref b], []⟩) (fun _ R s => s.heap.get? l = some { cls := .type "list", dict := dd, data := .seq items n, slots := sl } ∧ s.heap.get? b = some { cls := .type "list", dict := dd2, data := .seq items2 n2, slots := sl2 } ∧ R (.ok (.ret (Value.ref s.heap.objs.size))) { s with heap := s.heap.push { cls := Value.type "list", data := Data.seq (items ++ items2) }, toks := s.toks }) :=
  .of_wp fun prog w A R s h => by obtain ⟨hp, g, d, tk, os⟩ := s; obtain ⟨hl, hb, h⟩ := h; have f1 := AutoSeq1.idx_int; have f2 := AutoSeq1.sub_tuple_tuple; have f3 := AutoSeq1.sub_list_list; have f4 := AutoSeq1.sub_tuple_list; have f5 := AutoSeq1.sub_list_tuple; wp_walk using wpAny_loadPart' hl, wpAny_loadPart' hb; exact ⟨_, rfl, h⟩
end LxC
namespace L2
open PySem PySem.Spec PyProof.Rows
/-- list + list, looked at -/
def rCatL (K : PySem.W.Frag) : R2 := fun x y H Q => ∃ l b xs zs, x = .ref l ∧ y = .ref b ∧ SqL K H l xs ∧ SqL K H b zs ∧ xs.length + zs.length ≤ sizeLine ∧ ∀ p, H p = none → Q (.ref p) (upd H p (.lst (xs ++ zs)))
theorem op_catL {X : Cx} : OpR X (binaryOp .Add) (rCatL X.K) := by
  intro pins s σ H x y v u Q I rx ry h
  obtain ⟨l, b, xs, zs, rfl, rfl, hH, hB, hz, q⟩ := h
  cases rx
  cases ry
  obtain ⟨its, r, p, z⟩ := I.list hH
  obtain ⟨its2, r2, p2, z2⟩ := I.list hB
  obtain ⟨n, dd, sl, e⟩ := LxE.isList_obj p.isList
  obtain ⟨n2, dd2, sl2, e2⟩ := LxE.isList_obj p2.isList
  have hl := r.length
  have hl2 := r2.length
  refine concat_meets ⟨_, e, rfl⟩ ⟨_, e2, rfl⟩ noFill_list_add seq_list_add PySem.F.slot_list_add PySem.F.entry_list_add (PySem.F.args_list_add_2 _ _) (LxC.list_add_any l its.toArray n dd sl b its2.toArray n2 dd2 sl2 (by rw [List.size_toArray, List.size_toArray]; omega)) ⟨e, e2, ?_⟩
  have ea : its.toArray ++ its2.toArray = (its ++ its2).toArray := by simp
  rw [ea]
  exact ⟨.ref _, _, I.lnew (t' := s.toks) (r.append r2) (by rw [List.length_append]; omega), rfl, q _ I.fresh⟩
end L2
namespace L2
open PySem PySem.Spec PyProof.Rows
theorem DE.base {p : Addr} {H H1 H2 : Hp} (e : Ext H H1) (h : H p = none) (d : DE p H1 H2) : Ext H H2 := fun a o ha => by
  have hne : a ≠ p := fun z => by rw [z, h] at ha; cases ha
  exact d.to (e a o ha) hne
/-- a comprehension over a list of ints: each item its own int -/
theorem lc_ints {K : PySem.W.Frag} {a : Addr} {ns : List Int} {g : TG} {te : TE} {vs : List Nat} {σ : St} {H1 : Hp} {Q : Addr → Hp → Prop} (f : Int → Int) (hq : SqL K H1 a (ns.map V.int)) (hz : ns.length < 2000)
    (hs : ∀ n ∈ ns, ∀ (H : Hp) (R : V → Hp → Prop), R (.int (f n)) H → g (.int n) (wipe σ vs) H fun σ2 H2 => wipe σ2 vs = wipe σ vs ∧ te σ2 H2 R)
    (hd : ∀ D H', H1 D = none → Ext H1 H' → H' D = some (.lst ((ns.map f).map V.int)) → Q D H') :
    (∃ ys, SqL K H1 a ys) ∧ ∀ D, H1 D = none → ∃ W : Nat → Nat → Hp → Prop, (∃ m, W 0 m (upd H1 D (.lst []))) ∧ ∀ i m H, W i m H →
      ((Itl K a).stop i H ∧ Q D H) ∨ ((Itl K a).go i H ∧ ∃ Nx : Hp → Prop, (∀ H', Nx H' → ∃ m', m' < m ∧ W (i + 1) m' H') ∧ ∀ x H', (Itl K a).yld i H x H' → g x (wipe σ vs) H' fun σ2 H2 => wipe σ2 vs = wipe σ vs ∧ tYes σ2 H2 fun b H3 =>
        if b = true then te σ2 H3 fun y H4 => ∃ acc, H4 D = some (.lst acc) ∧ acc.length < sizeLine ∧ Nx (upd H4 D (.lst (acc ++ [y]))) else Nx H3) := by
  refine ⟨⟨_, hq⟩, fun D hD => lc_list (xs := ns.map V.int) (fun i H' => Ext H1 H' ∧ H' D = some (.lst (((ns.take i).map f).map V.int))) ⟨Ext.upd hD, upd_same⟩ (fun i H' _ p => hq.ext p.1) ?_ ?_⟩
  · rintro i y H' hi ⟨e1, hD1⟩
    obtain ⟨n, hn, rfl⟩ : ∃ n, ns[i]? = some n ∧ y = V.int n := by
      rw [List.getElem?_map] at hi
      cases e : ns[i]? with
      | none => rw [e] at hi; cases hi
      | some n => rw [e] at hi; exact ⟨n, rfl, (Option.some.inj hi).symm⟩
    have hin : i < ns.length := (List.getElem?_eq_some_iff.mp hn).1
    refine hs n (List.mem_of_getElem? hn) H' _ ⟨_, hD1, ?_, e1.mut hD, ?_⟩
    · rw [List.length_map, List.length_map, List.length_take]
      exact Nat.lt_of_lt_of_le (show min i ns.length < 2000 by omega) (by decide)
    · rw [upd_same, List.take_add_one, hn, List.map_append, List.map_append]
      rfl
  · rintro H' ⟨e1, hD1⟩
    rw [List.length_map, List.take_length] at hD1
    exact hd D H' hD e1 hD1
theorem SqT.mut {K : PySem.W.Frag} {H : Hp} {t h : Addr} {xs l : List V} {o : HO} (s : SqT K H t xs) (hh : H h = some (.lst l)) : SqT K (upd H h o) t xs := by
  rcases s with (r | ⟨o', r⟩) | r
  · have hne : t ≠ h := fun e => by rw [e, hh] at r; cases r
    exact .inl (.inl (by rw [upd_ne hne]; exact r))
  · have hne : t ≠ h := fun e => by rw [e, hh] at r; cases r
    exact .inl (.inr ⟨o', by rw [upd_ne hne]; exact r⟩)
  · exact .inr r
end L2
namespace L2
open PySem PySem.Spec PyProof.Rows
/-- a comprehension over a list of ints, with if -/
theorem lc_filter {K : PySem.W.Frag} {a : Addr} {ns : List Int} {g : TG} {tt : TT} {te : TE} {vs : List Nat} {σ : St} {H1 : Hp} {Q : Addr → Hp → Prop} (p : Int → Bool) (hq : SqL K H1 a (ns.map V.int)) (hz : ns.length < 2000)
    (hs : ∀ n ∈ ns, ∀ (H : Hp) (R : V → Hp → Prop) (N : Hp → Prop), (if p n = true then R (.int n) H else N H) → g (.int n) (wipe σ vs) H fun σ2 H2 => wipe σ2 vs = wipe σ vs ∧ tt σ2 H2 fun b H3 => if b = true then te σ2 H3 R else N H3)
    (hd : ∀ D H', H1 D = none → Ext H1 H' → H' D = some (.lst ((ns.filter p).map V.int)) → Q D H') :
    (∃ ys, SqL K H1 a ys) ∧ ∀ D, H1 D = none → ∃ W : Nat → Nat → Hp → Prop, (∃ m, W 0 m (upd H1 D (.lst []))) ∧ ∀ i m H, W i m H →
      ((Itl K a).stop i H ∧ Q D H) ∨ ((Itl K a).go i H ∧ ∃ Nx : Hp → Prop, (∀ H', Nx H' → ∃ m', m' < m ∧ W (i + 1) m' H') ∧ ∀ x H', (Itl K a).yld i H x H' → g x (wipe σ vs) H' fun σ2 H2 => wipe σ2 vs = wipe σ vs ∧ tt σ2 H2 fun b H3 =>
        if b = true then te σ2 H3 fun y H4 => ∃ acc, H4 D = some (.lst acc) ∧ acc.length < sizeLine ∧ Nx (upd H4 D (.lst (acc ++ [y]))) else Nx H3) := by
  refine ⟨⟨_, hq⟩, fun D hD => lc_list (xs := ns.map V.int) (fun i H' => Ext H1 H' ∧ H' D = some (.lst (((ns.take i).filter p).map V.int))) ⟨Ext.upd hD, upd_same⟩ (fun i H' _ p => hq.ext p.1) ?_ ?_⟩
  · rintro i y H' hi ⟨e1, hD1⟩
    obtain ⟨n, hn, rfl⟩ : ∃ n, ns[i]? = some n ∧ y = V.int n := by
      rw [List.getElem?_map] at hi
      cases e : ns[i]? with
      | none => rw [e] at hi; cases hi
      | some n => rw [e] at hi; exact ⟨n, rfl, (Option.some.inj hi).symm⟩
    have hin : i < ns.length := (List.getElem?_eq_some_iff.mp hn).1
    have et : (ns.take (i + 1)).filter p = (ns.take i).filter p ++ (if p n = true then [n] else []) := by
      rw [List.take_add_one, hn, List.filter_append]
      congr 1
      show List.filter p [n] = _
      rw [List.filter_cons]
      rfl
    refine hs n (List.mem_of_getElem? hn) H' _ _ ?_
    by_cases hp : p n = true
    · rw [if_pos hp] at et ⊢
      refine ⟨_, hD1, ?_, e1.mut hD, ?_⟩
      · rw [List.length_map]
        have := List.length_filter_le p (ns.take i)
        rw [List.length_take] at this
        exact Nat.lt_of_lt_of_le (show ((ns.take i).filter p).length < 2000 by omega) (by decide)
      · rw [upd_same, et, List.map_append]
        rfl
    · rw [if_neg hp] at et ⊢
      refine ⟨e1, ?_⟩
      rw [et, List.append_nil]
      exact hD1
  · rintro H' ⟨e1, hD1⟩
    rw [List.length_map, List.take_length] at hD1
    exact hd D H' hD e1 hD1
end L2
namespace LxN
open PySem PySem.Spec PyProof.Rows
open Sem (wp)
theorem meets_enumT (l : Addr) (items : Array Value) (n : Nat) (dct : Option Addr) (sl : Array (Option Value)) :
    Meets (Builtin.«enumerate.__new__» ⟨[.type "enumerate", .ref l], []⟩) (fun _ R s => s.heap.get? l = some { cls := .type "tuple", dict := dct, data := .seq items n, slots := sl } ∧
      R (.ok (.ret (.ref (s.heap.push { cls := .type "tuple_iterator", data := .fields #[.ref l, .int 0 0] }).objs.size)))
        { s with heap := (s.heap.push { cls := .type "tuple_iterator", data := .fields #[.ref l, .int 0 0] }).push { cls := .type "enumerate", data := .fields #[.none, .bool false, .ref s.heap.objs.size, rawInt 0, .none, .none] } }) :=
  .of_wp fun prog w A R s h => by
    obtain ⟨hp, g, d, tk, os⟩ := s; obtain ⟨hl, h⟩ := h
    have hsub := PySem.sub_enumerate
    have hL : Heap.IsTuple (Shared.heap ⟨hp, g, d, tk, os⟩) l items := ⟨_, hl, rfl, n, rfl⟩
    wp_walk using AutoSeq1.wpAny_loadPart' hl
    refine wpAny_stack_any fun st => wpAny_pure ?_
    split
    · rename_i c _ _ _ _ _
      cases (c == Value.type "enumerate")
      · wp_walk using AutoSeq1.wpAny_loadPart' hl, wpAny_pyIter_tuple hL
        exact ⟨_, rfl, h⟩
      · wp_walk using AutoSeq1.wpAny_loadPart' hl, wpAny_pyIter_tuple hL
        exact ⟨_, rfl, h⟩
    · wp_walk using AutoSeq1.wpAny_loadPart' hl, wpAny_pyIter_tuple hL
      exact ⟨_, rfl, h⟩
section
variable {prog : Program} {w : World} {A : Around} {E : Value → Shared → Prop} {s : Shared}
theorem call_enumT {l : Addr} {items : Array Value} {Q : Value → Shared → Prop} (hL : s.heap.IsTuple l items)
    (h : ∀ h', IsEnum h' (s.heap.objs.size + 1) s.heap.objs.size 0 .none → h'.IsTupleIter s.heap.objs.size l 0 → h'.objs.size = s.heap.objs.size + 2 →
      (∀ b o, s.heap.get? b = some o → h'.get? b = some o) → Q (.ref (s.heap.objs.size + 1)) { s with heap := h' }) :
    wpAny (model prog w) A (call (.type "enumerate") [.ref l]) Q E s := by
  obtain ⟨⟨c, dct, dt, sl⟩, hl, hc, n, hd⟩ := hL
  cases (show c = .type "tuple" from hc)
  cases (show dt = .seq items n from hd)
  refine callType_new F.called_enumerate (by decide) (F.typeCall_enumerate_1 _) (F.newCall_enumerate_1 _) (fun obj => F.args_object_init_2 obj _) F.entry_enumerate_new (meets_enumT l items n dct sl) ⟨hl, ?_⟩
  have hz : (s.heap.push { cls := .type "tuple_iterator", data := .fields #[.ref l, .int 0 0] }).objs.size = s.heap.objs.size + 1 := Heap.size_push ..
  show _ ∧ _
  rw [hz]
  have he : IsEnum ((s.heap.push { cls := .type "tuple_iterator", data := .fields #[.ref l, .int 0 0] }).push
      { cls := .type "enumerate", data := .fields #[.none, .bool false, .ref s.heap.objs.size, rawInt 0, .none, .none] }) (s.heap.objs.size + 1) s.heap.objs.size 0 .none := by
    have z := Heap.get?_push_size (s.heap.push { cls := .type "tuple_iterator", data := .fields #[.ref l, .int 0 0] })
      (o := { cls := .type "enumerate", data := .fields #[.none, .bool false, .ref s.heap.objs.size, rawInt 0, .none, .none] }) rfl
    rw [hz] at z
    exact z
  refine ⟨⟨_, he, rfl⟩, h _ he ⟨_, Heap.get?_push_of_some _ (Heap.get?_push_size _ rfl), rfl, rfl⟩ (by rw [Heap.size_push, hz]) fun b o x => Heap.get?_push_of_some _ (Heap.get?_push_of_some _ x)⟩
end
end LxN
namespace L2
open PySem PySem.Spec PyProof.Rows
/-- the tuple at a as it stands at each turn, its items in new pairs -/
def IteT (K : PySem.W.Frag) (a : Addr) : It :=
  ⟨fun i H => ∃ (xs : List V) (x : V), SqT K H a xs ∧ xs[i]? = some x, fun i H v H' => ∃ T x, v = .ref T ∧ H T = none ∧ H' = upd H T (.tup [.int (i : Nat), x]) ∧ ∀ xs, SqT K H a xs → xs[i]? = some x, fun i H => ∃ xs : List V, SqT K H a xs ∧ xs.length = i⟩
theorem turn_enumT {P : Program} {w : World} {K : PySem.W.Frag} {elts : List Expr} {kk : Nat} {tpos : Pos} (a e it : Addr) :
    Turn P w K (.Tuple elts kk tpos) (IteT K a) [e, it] e (fun i h => (∃ old, IsEnum h e it ((i : Nat) : Int) old) ∧ h.IsTupleIter it a i ∧ e ≠ it ∧ e ≠ a ∧ a ≠ it) where
  mem := by simp
  obj := fun i h st b hb => by
    obtain ⟨⟨old, he⟩, ⟨o, ho, hc, hd⟩, _⟩ := st
    have e' : b = e ∨ b = it := by simpa using hb
    rcases e' with z | z
    · rw [z]; exact ⟨_, he, fun v q => nomatch q⟩
    · rw [z]; exact ⟨o, ho, fun v q => by rw [hd] at q; cases q⟩
  keep := fun i h h' st k => let ⟨⟨old, he⟩, hi, hne⟩ := st; ⟨⟨old, k e (by simp) _ he⟩, hi.at fun o q => k it (by simp) o q, hne⟩
  item := by
    intro X hP hw hK hc i pins s σ H E I hf st hg
    subst hP hw hK
    obtain ⟨⟨old, he⟩, hit, hne, hea, hai⟩ := st
    obtain ⟨xs, x, hq, hx⟩ := hg
    obtain ⟨its, rv, p, hz⟩ := I.tuple hq
    obtain ⟨u, hu, ru⟩ := rv.get hx
    have hel : e < s.heap.objs.size := Heap.lt_size he
    have hil : it < s.heap.objs.size := by obtain ⟨_, q, _⟩ := hit; exact Heap.lt_size q
    have hlt : i < its.toArray.size := by
      rw [List.size_toArray]
      exact (List.getElem?_eq_some_iff.mp hu).1
    refine wpAny_pyNext_enum_itemD (Draws.tuple (A := X.A.in1) (show X.A.in1.handled = none from I.ok.hd hc) it a hai its.toArray) he ⟨hit, p⟩ hlt hne (by simp [hne, hea]) fun y h' tk hy ho st' hT hsz hk => ?_
    have hyu : y = u := by
      have z : its[i]? = some y := by simpa using hy
      rw [hu] at z
      exact (Option.some.inj z).symm
    subst hyu
    refine ⟨_, rfl, wpAny_letOwnedTupleGo_enum (s := { s with heap := h', toks := tk + 1 }) ho fun h'' he' sb => ?_⟩
    have hT2 : h''.get? s.heap.objs.size = some { cls := .type "tuple", data := .seq #[.int i tk, y] } := (sb.2 _ (Nat.ne_of_gt hel)).trans hT
    have new : ObjOk X.prog X.w (upd H s.heap.objs.size (.tup [.int (i : Nat), x])) h'' s.heap.objs.size (.tup [.int (i : Nat), x]) :=
      ⟨by show 2 ≤ sizeLine; decide, [.int i tk, y], .cons ⟨_, rfl⟩ (.cons ru .nil), ⟨_, hT2, rfl, _, rfl⟩⟩
    have I1 : Inv X pins σ (upd H s.heap.objs.size (.tup [.int (i : Nat), x])) { s with heap := h'', toks := tk + 1 } :=
      I.turnedNew (ch := [e, it]) (fun b ob hb q => (sb.2 b (fun z => hb (by simp [z]))).trans (hk b ob (fun z => hb (by simp [z])) (fun z => hb (by simp [z])) q)) hf (Nat.le_refl _) new
    refine ⟨.ref s.heap.objs.size, _, I1, rfl, ⟨_, x, rfl, I.hok.fresh (Nat.le_refl _), rfl, fun ys hy => by rw [I.tuple_inj hy hq]; exact hx⟩, ⟨⟨y, ?_⟩, st'.1.at fun o q => (sb.2 it (Ne.symm hne)).trans q, hne, hea, hai⟩, fun b hb => ?_⟩
    · have e1 : ((i + 1 : Nat) : Int) = (i : Int) + 1 := by omega
      rw [e1]
      exact he'
    · have hb' : b < s.heap.objs.size := by
        have e' : b = e ∨ b = it := by simpa using hb
        rcases e' with z | z
        · rw [z]; exact hel
        · rw [z]; exact hil
      rw [upd_ne (Nat.ne_of_lt hb')]
      exact (hf b hb).1
  done := by
    intro X hP hw hK hc i pins s σ H E I hf st hg
    subst hP hw hK
    obtain ⟨⟨old, he⟩, hit, hne, hea, hai⟩ := st
    obtain ⟨xs, hq, hx⟩ := hg
    obtain ⟨its, rv, p, hz⟩ := I.tuple hq
    obtain ⟨f0, f1, f2, f3, f4, f5⟩ := hf it (by simp)
    have hl := rv.length
    have hi : its.toArray.size = i := by rw [List.size_toArray, ← hl, hx]
    refine wpAny_pyNext_enum_endD (Draws.tuple (A := X.A.in1) (show X.A.in1.handled = none from I.ok.hd hc) it a hai its.toArray) he ⟨by rw [hi]; exact hit, p⟩ fun h' eb => ⟨rfl, I.turned (t' := s.toks) (fun b o hb q => eb b o hb q) f0 f1 f3 f4 f5⟩
  self := fun A i s Q E st h => let ⟨⟨_, he⟩, _⟩ := st; wpAny_pyIter_enum he h
def iEnumQ (K : PySem.W.Frag) (ta : TA) : TI := fun σ H R => ta σ H fun vs H1 => ∃ a, vs = [.ref a] ∧ (((∃ xs, SqL K H1 a xs) ∧ R (Ite K a) H1) ∨ ((∃ xs, SqT K H1 a xs) ∧ R (IteT K a) H1))
theorem pi_enumQ {X : Cx} {e : Expr} {ta : TA} {p pos tpos : Pos} {elts : List Expr} {kk : Nat} (hg : Gl X "enumerate") (hm : X.mg "enumerate" = none) (ha : PA X [e] ta) (hs : starEach [e] X.env = [(false, eval e X.env)] := by rfl) :
    PI X (.Tuple elts kk tpos) (.Call (.Name "enumerate" p) [e] [] pos) (iEnumQ X.K ta) := by
  refine ⟨fun pins s σ H R I h => ?_⟩
  refine Call_ (ld_blt I hg hm boot_enumerate (PyProof.Rows.callWith_type1 (thn (ha.run pos pins s σ H _ I h) fun us s1 ⟨vs, H1, I1, r1, q1⟩ => ?_) hs rfl))
  obtain ⟨a, ex, q⟩ := q1
  subst ex
  cases r1 with
  | cons r rr =>
    cases rr
    cases r
    have hle : ∀ b ∈ [s1.heap.objs.size + 1, s1.heap.objs.size], s1.heap.objs.size ≤ b := fun b hb => by
      have e' : b = s1.heap.objs.size + 1 ∨ b = s1.heap.objs.size := by simpa using hb
      rcases e' with z | z
      · rw [z]; exact Nat.le_add_right _ _
      · rw [z]; exact Nat.le_refl _
    rcases q with ⟨⟨xs, hq⟩, q⟩ | ⟨⟨xs, hq⟩, q⟩
    · obtain ⟨its, rv, p', hz⟩ := I1.list hq
      refine call_enumerate_list p'.isList fun h' he hit hsz hk => wpAny_pyIter_enum he ?_
      have I2 : Inv X pins σ H1 { s1 with heap := h' } := I1.kept (t' := s1.toks) hk
      exact ⟨s1.heap.objs.size + 1, [s1.heap.objs.size + 1, s1.heap.objs.size], _, _, H1, rfl, I2, turn_enum a (s1.heap.objs.size + 1) s1.heap.objs.size, ⟨⟨.none, he⟩, hit, Nat.succ_ne_self _⟩, fun b hb => I1.fpOk (hle b hb) (I1.hok.fresh (hle b hb)), q⟩
    · obtain ⟨its, rv, p', hz⟩ := I1.tuple hq
      have hal : a < s1.heap.objs.size := by obtain ⟨_, z, _⟩ := id p'; exact Heap.lt_size z
      refine LxN.call_enumT (show s1.heap.IsTuple a its.toArray from p') fun h' he hit hsz hk => wpAny_pyIter_enum he ?_
      have I2 : Inv X pins σ H1 { s1 with heap := h' } := I1.kept (t' := s1.toks) hk
      exact ⟨s1.heap.objs.size + 1, [s1.heap.objs.size + 1, s1.heap.objs.size], _, _, H1, rfl, I2, turn_enumT a (s1.heap.objs.size + 1) s1.heap.objs.size, ⟨⟨.none, he⟩, hit, Nat.succ_ne_self _, Nat.ne_of_gt (Nat.lt_succ_of_lt hal), Nat.ne_of_lt hal⟩, fun b hb => I1.fpOk (hle b hb) (I1.hok.fresh (hle b hb)), q⟩
theorem for_enumQ {K : PySem.W.Frag} {a : Addr} {xs : List V} {g : TG} {tb : TS} {D : Ends} {σ : St} {H0 H : Hp} (hq : SqQ K H0 a xs) (Pv : Nat → St → Hp → Prop) (h0 : Pv 0 σ H) (he : ∀ i σ H, i ≤ xs.length → Pv i σ H → Ext H0 H)
    (hs : ∀ i x σ H T, xs[i]? = some x → Pv i σ H → H T = none → g (.ref T) σ (upd H T (.tup [.int (i : Nat), x])) fun σ2 H2 => tb { D with nx := Pv (i + 1), ct := Pv (i + 1), bk := D.nx } σ2 H2) (hd : ∀ σ H, Pv xs.length σ H → D.nx σ H) :
    ((∃ ys, SqL K H a ys) ∧ ∃ W : Nat → Nat → St → Hp → Prop, (∃ m, W 0 m σ H) ∧ ∀ i m σ H, W i m σ H →
      ((Ite K a).stop i H ∧ D.nx σ H) ∨ ((Ite K a).go i H ∧ ∃ N : St → Hp → Prop, (∀ σ' H', N σ' H' → ∃ m', m' < m ∧ W (i + 1) m' σ' H') ∧ ∀ x H', (Ite K a).yld i H x H' → g x σ H' fun σ2 H2 => tb { D with nx := N, ct := N, bk := D.nx } σ2 H2)) ∨
    ((∃ ys, SqT K H a ys) ∧ ∃ W : Nat → Nat → St → Hp → Prop, (∃ m, W 0 m σ H) ∧ ∀ i m σ H, W i m σ H →
      ((IteT K a).stop i H ∧ D.nx σ H) ∨ ((IteT K a).go i H ∧ ∃ N : St → Hp → Prop, (∀ σ' H', N σ' H' → ∃ m', m' < m ∧ W (i + 1) m' σ' H') ∧ ∀ x H', (IteT K a).yld i H x H' → g x σ H' fun σ2 H2 => tb { D with nx := N, ct := N, bk := D.nx } σ2 H2)) := by
  have e0 := he 0 σ H (Nat.zero_le _) h0
  rcases hq with hq | hq
  · refine .inl ⟨⟨xs, hq.ext e0⟩, fun i m σ H => m = xs.length - i ∧ i ≤ xs.length ∧ Pv i σ H, ⟨xs.length, by simp, Nat.zero_le _, h0⟩, ?_⟩
    rintro i m σ H ⟨rfl, hi, p⟩
    have q := hq.ext (he i σ H hi p)
    by_cases hlt : i < xs.length
    · refine .inr ⟨⟨xs, xs[i], q, by simp [hlt]⟩, Pv (i + 1), fun σ' H' p' => ⟨xs.length - (i + 1), by omega, rfl, hlt, p'⟩, fun x H' y => ?_⟩
      obtain ⟨T, z, rfl, hT, rfl, hz⟩ := y
      exact hs i z σ H T (hz xs q) p hT
    · have e : i = xs.length := by omega
      subst e
      exact .inl ⟨⟨xs, q, Nat.le_refl _⟩, hd σ H p⟩
  · refine .inr ⟨⟨xs, hq.ext e0⟩, fun i m σ H => m = xs.length - i ∧ i ≤ xs.length ∧ Pv i σ H, ⟨xs.length, by simp, Nat.zero_le _, h0⟩, ?_⟩
    rintro i m σ H ⟨rfl, hi, p⟩
    have q := hq.ext (he i σ H hi p)
    by_cases hlt : i < xs.length
    · refine .inr ⟨⟨xs, xs[i], q, by simp [hlt]⟩, Pv (i + 1), fun σ' H' p' => ⟨xs.length - (i + 1), by omega, rfl, hlt, p'⟩, fun x H' y => ?_⟩
      obtain ⟨T, z, rfl, hT, rfl, hz⟩ := y
      exact hs i z σ H T (hz xs q) p hT
    · have e : i = xs.length := by omega
      subst e
      exact .inl ⟨⟨xs, q, rfl⟩, hd σ H p⟩
end L2
namespace L2
open PySem PySem.Spec PyProof.Rows
/-- a op b op c op d, tested -/
def tChain3 (r r' r'' : R2) (ta tb tc td : TE) : TT := fun σ H Q => ta σ H fun x H1 => tb σ H1 fun y H2 => r x y H2 fun z H3 => ∃ k, z = .bl k ∧
  (if k = true then tc σ H3 fun y2 H4 => r' y y2 H4 fun z2 H5 => ∃ k2, z2 = .bl k2 ∧ (if k2 = true then td σ H5 fun y3 H6 => r'' y2 y3 H6 fun z3 H7 => ∃ k3, z3 = .bl k3 ∧ Q k3 H7 else Q false H5) else Q false H3)
theorem pt_chain3 {X : Cx} {a b c d : Expr} {ta tb tc td : TE} {pos : Pos} {op op' op'' : CmpOp} {r r' r'' : R2} (ho : OpR X (compareOp op) r) (ho' : OpR X (compareOp op') r') (ho'' : OpR X (compareOp op'') r'') (ha : PE X a ta) (hb : PE X b tb) (hc : PE X c tc) (hd : PE X d td)
    (hm : lastMarks [op, op', op''] [b, c, d] = false := by with_unfolding_all rfl) : PT X (.Compare a [op, op', op''] [b, c, d] pos) (tChain3 r r' r'' ta tb tc td) := by
  refine ⟨fun pins s σ H Q I h => ?_⟩
  refine isTrue_chain (thn (ha.run pins s σ H _ I h) fun v s1 ⟨x, H1, I1, r1, q1⟩ => test_link (thn (hb.run pins s1 σ H1 _ I1 q1) fun u s2 ⟨y, H2, I2, r2, q2⟩ =>
    thn (ho pins s2 σ H2 x y v u _ I2 r1 r2 q2) fun d1 s3 ⟨z, H3, I3, r3, k, e, q3⟩ => ?_)) hm
  subst e
  cases r3
  refine wpAny_truthy_bool ?_
  cases k with
  | false => exact ite_ff ⟨H3, I3, q3⟩
  | true =>
    refine ite_tt (test_link (thn (hc.run pins s3 σ H3 _ I3 q3) fun w' s4 ⟨y2, H4, I4, r4, q4⟩ => thn (ho' pins s4 σ H4 y y2 u w' _ I4 r2 r4 q4) fun d2 s5 ⟨z2, H5, I5, r5, k2, e2, q5⟩ => ?_))
    subst e2
    cases r5
    refine wpAny_truthy_bool ?_
    cases k2 with
    | false => exact ite_ff ⟨H5, I5, q5⟩
    | true =>
      refine ite_tt (test_last (thn (hd.run pins s5 σ H5 _ I5 q5) fun w3 s6 ⟨y3, H6, I6, r6, q6⟩ => thn (ho'' pins s6 σ H6 y2 y3 w' w3 _ I6 r4 r6 q6) fun d3 s7 ⟨z3, H7, I7, r7, k3, e3, q7⟩ => ?_))
      subst e3
      cases r7
      exact wpAny_truthy_bool ⟨H7, I7, q7⟩
end L2
namespace L2
open PySem PySem.Spec PyProof.Rows
def rangeI (n : Nat) : List Int := (List.range n).map fun i : Nat => (i : Int)
theorem rangeI_succ (n : Nat) : rangeI (n + 1) = rangeI n ++ [(n : Int)] := by
  unfold rangeI
  rw [List.range_succ, List.map_append]
  rfl
/-- a comprehension over range(n), with if -/
theorem lc_rangeF {n : Nat} {g : TG} {tt : TT} {te : TE} {vs : List Nat} {σ : St} {H1 : Hp} {Q : Addr → Hp → Prop} (p : Int → Bool) (f : Int → Int) (hz : n ≤ 1000)
    (hs : ∀ (i : Nat), i < n → ∀ (H : Hp), Ext H1 H → ∀ (R : V → Hp → Prop) (N : Hp → Prop), (if p i = true then R (.int (f i)) H else N H) → g (.int (0 + (i : Nat))) (wipe σ vs) H fun σ2 H2 => wipe σ2 vs = wipe σ vs ∧ tt σ2 H2 fun b H3 => if b = true then te σ2 H3 R else N H3)
    (hd : ∀ D H', H1 D = none → Ext H1 H' → H' D = some (.lst ((((rangeI n).filter p).map f).map V.int)) → Q D H') : ∀ D, H1 D = none → 
    ∃ W : Nat → Nat → Hp → Prop, (∃ m, W 0 m (upd H1 D (.lst []))) ∧ ∀ i m H, W i m H →
      ((Itr 0 n).stop i H ∧ Q D H) ∨ ((Itr 0 n).go i H ∧ ∃ Nx : Hp → Prop, (∀ H', Nx H' → ∃ m', m' < m ∧ W (i + 1) m' H') ∧ ∀ x H', (Itr 0 n).yld i H x H' → g x (wipe σ vs) H' fun σ2 H2 => wipe σ2 vs = wipe σ vs ∧ tt σ2 H2 fun b H3 =>
        if b = true then te σ2 H3 fun y H4 => ∃ acc, H4 D = some (.lst acc) ∧ acc.length < sizeLine ∧ Nx (upd H4 D (.lst (acc ++ [y]))) else Nx H3) := fun D hD => by
  refine lc_range (lo := 0) (n := n) (fun i H' => Ext H1 H' ∧ H' D = some (.lst ((((rangeI i).filter p).map f).map V.int))) ⟨Ext.upd hD, upd_same⟩ ?_ ?_
  · rintro i H' hi ⟨e1, hD1⟩
    have et : (rangeI (i + 1)).filter p = (rangeI i).filter p ++ (if p i = true then [(i : Int)] else []) := by
      rw [rangeI_succ, List.filter_append]
      congr 1
      rw [List.filter_cons]
      rfl
    refine hs i hi H' e1 _ _ ?_
    by_cases hp : p i = true
    · rw [if_pos hp] at et ⊢
      refine ⟨_, hD1, ?_, e1.mut hD, ?_⟩
      · rw [List.length_map, List.length_map]
        have h1 := List.length_filter_le p (rangeI i)
        have h2 : (rangeI i).length = i := by unfold rangeI; rw [List.length_map, List.length_range]
        exact Nat.lt_of_lt_of_le (show ((rangeI i).filter p).length < 2000 by omega) (by decide)
      · rw [upd_same, et, List.map_append, List.map_append]
        rfl
    · rw [if_neg hp] at et ⊢
      refine ⟨e1, ?_⟩
      rw [et, List.append_nil]
      exact hD1
  · rintro H' ⟨e1, hD1⟩
    exact hd D H' hD e1 hD1
end L2
namespace L2
open PySem PySem.Spec PyProof.Rows RZ
/-- a comprehension over zip of two tuples of one length -/
theorem lc_zipT {K : PySem.W.Frag} {a b : Addr} {xs ys : List V} {g : TG} {tt : TT} {te : TE} {vs : List Nat} {σ : St} {H1 : Hp} {D : Addr} {Qd : Hp → Prop} (hl : xs.length = ys.length) (Pv : Nat → Hp → Prop) (h0 : Pv 0 (upd H1 D (.lst []))) (hq : ∀ i H, Pv i H → SqT K H a xs ∧ SqT K H b ys)
    (hs : ∀ (i : Nat) (x y : V) (T : Addr) (H : Hp), xs[i]? = some x → ys[i]? = some y → Pv i H → H T = none → g (.ref T) (wipe σ vs) (upd H T (.tup [x, y])) fun σ2 H2 => wipe σ2 vs = wipe σ vs ∧ tt σ2 H2 fun b H3 =>
      if b = true then te σ2 H3 fun y H4 => ∃ acc, H4 D = some (.lst acc) ∧ acc.length < sizeLine ∧ Pv (i + 1) (upd H4 D (.lst (acc ++ [y]))) else Pv (i + 1) H3) (hd : ∀ H, Pv xs.length H → Qd H) :
    ∃ W : Nat → Nat → Hp → Prop, (∃ m, W 0 m (upd H1 D (.lst []))) ∧ ∀ i m H, W i m H →
      ((ItzT K a b).stop i H ∧ Qd H) ∨ ((ItzT K a b).go i H ∧ ∃ Nx : Hp → Prop, (∀ H', Nx H' → ∃ m', m' < m ∧ W (i + 1) m' H') ∧ ∀ x H', (ItzT K a b).yld i H x H' → g x (wipe σ vs) H' fun σ2 H2 => wipe σ2 vs = wipe σ vs ∧ tt σ2 H2 fun b H3 =>
        if b = true then te σ2 H3 fun y H4 => ∃ acc, H4 D = some (.lst acc) ∧ acc.length < sizeLine ∧ Nx (upd H4 D (.lst (acc ++ [y]))) else Nx H3) := by
  refine ⟨fun i m H => m = xs.length - i ∧ i ≤ xs.length ∧ Pv i H, ⟨xs.length, rfl, Nat.zero_le _, h0⟩, ?_⟩
  rintro i m H ⟨rfl, hi, p⟩
  obtain ⟨qx, qy⟩ := hq i H p
  by_cases hlt : i < xs.length
  · have hx : xs[i]? = some xs[i] := List.getElem?_eq_getElem hlt
    have hlt2 : i < ys.length := by omega
    have hy : ys[i]? = some ys[i] := List.getElem?_eq_getElem hlt2
    refine .inr ⟨⟨xs, ys, _, _, qx, qy, hx, hy⟩, Pv (i + 1), fun H' p' => ⟨xs.length - (i + 1), by omega, rfl, hlt, p'⟩, fun v H' z => ?_⟩
    obtain ⟨T, x', y', rfl, hT, rfl, f1, f2⟩ := z
    exact hs i x' y' T H (f1 xs qx) (f2 ys qy) p hT
  · have e : i = xs.length := by omega
    subst e
    exact .inl ⟨⟨xs, ys, qx, qy, Or.inl (Nat.le_refl _)⟩, hd H p⟩
end L2
namespace L2
open PySem PySem.Spec PyProof.Rows
/-- any loop of a comprehension over a list -/
theorem it_list {K : PySem.W.Frag} {a : Addr} {xs : List V} {H0 : Hp} {Qd : Hp → Prop} {B : V → Hp → (Hp → Prop) → Prop} (Pv : Nat → Hp → Prop) (h0 : Pv 0 H0) (hl : ∀ i H, i ≤ xs.length → Pv i H → SqL K H a xs)
    (hs : ∀ (i : Nat) (x : V) (H : Hp), xs[i]? = some x → Pv i H → B x H (Pv (i + 1))) (hd : ∀ H, Pv xs.length H → Qd H) :
    ∃ W : Nat → Nat → Hp → Prop, (∃ m, W 0 m H0) ∧ ∀ i m H, W i m H → ((Itl K a).stop i H ∧ Qd H) ∨ ((Itl K a).go i H ∧ ∃ Nx : Hp → Prop, (∀ H', Nx H' → ∃ m', m' < m ∧ W (i + 1) m' H') ∧ ∀ x H', (Itl K a).yld i H x H' → B x H' Nx) := by
  refine ⟨fun i m H => m = xs.length - i ∧ i ≤ xs.length ∧ Pv i H, ⟨xs.length, by simp, Nat.zero_le _, h0⟩, ?_⟩
  rintro i m H ⟨rfl, hi, p⟩
  have q := hl i H hi p
  by_cases hlt : i < xs.length
  · refine .inr ⟨⟨xs, xs[i], q, by simp [hlt]⟩, Pv (i + 1), fun H' p' => ⟨xs.length - (i + 1), by omega, rfl, hlt, p'⟩, fun x H' y => ?_⟩
    obtain ⟨e, y⟩ := y
    subst e
    exact hs i x _ (y xs q) p
  · have e : i = xs.length := by omega
    subst e
    exact .inl ⟨⟨xs, q, Nat.le_refl _⟩, hd H p⟩
end L2
namespace L2
open PySem PySem.Spec PyProof.Rows
/-- o.f as a target among several -/
def gFld (K : PySem.W.Frag) (to : TE) (f : Str) : TG := fun v σ H Q => to σ H fun x H1 => ∃ a C dx fs, x = .ref a ∧ H1 a = some (.ins C dx fs) ∧ Cls K C ∧ NoAttr K C f ∧ fs.length < 1000 ∧ Q σ (upd H1 a (.ins C dx (putF f v fs)))
theorem pg_fld {X : Cx} {o : Expr} {f : Str} {pos : Pos} {to : TE} (ho : PE X o to) : PG X (.Attribute o f pos) (gFld X.K to f) := by
  refine ⟨fun pins s σ H v u Q I r h => ?_⟩
  rw [assign_Attribute]
  refine wpAny_bind (wpAny_holding (thn (ho.run pins s σ H _ I h) fun ov s1 ⟨x, H1, I1, rx, a, C, dx, fs, ex, ea, c, n, l, q⟩ => ?_))
  subst ex
  obtain rfl : ov = Value.ref a := rx
  refine wpAny_bind (wpAny_standAt (wpAny_bind (wpAny_holding (setattr_ok I1 ea c n l r fun s3 I3 => ?_))))
  exact wpAny_release ⟨σ, _, I3, q⟩
end L2
namespace Mx
def sk (j k : Nat) : Nat := if k < j then k else k + 1
def sg (j : Nat) : Int := if j % 2 = 0 then 1 else -1
def sm : Nat → (Nat → Int) → Int
  | 0, _ => 0
  | n + 1, f => sm n f + f n
def det : Nat → (Nat → Nat → Int) → Int
  | 0, _ => 1
  | n + 1, M => sm (n + 1) fun j => sg j * M 0 j * det n fun i k => M (i + 1) (sk j k)
theorem sg_succ (j : Nat) : sg (j + 1) = - sg j := by
  unfold sg
  split <;> split <;> first | rfl | omega
theorem sm_congr {n : Nat} {f g : Nat → Int} (h : ∀ j, j < n → f j = g j) : sm n f = sm n g := by
  induction n with
  | zero => rfl
  | succ n ih =>
    show sm n f + f n = sm n g + g n
    rw [ih fun j hj => h j (Nat.lt_succ_of_lt hj), h n (Nat.lt_succ_self n)]
theorem sm_add (n : Nat) (f g : Nat → Int) : sm n (fun j => f j + g j) = sm n f + sm n g := by
  induction n with
  | zero => rfl
  | succ n ih =>
    show sm n _ + (f n + g n) = (sm n f + f n) + (sm n g + g n)
    rw [ih]; omega
theorem sm_mul (n : Nat) (a : Int) (f : Nat → Int) : sm n (fun j => a * f j) = a * sm n f := by
  induction n with
  | zero => exact (Int.mul_zero a).symm
  | succ n ih =>
    show sm n _ + a * f n = a * (sm n f + f n)
    rw [ih, Int.mul_add]
theorem sm_neg (n : Nat) (f : Nat → Int) : sm n (fun j => - f j) = - sm n f := by
  induction n with
  | zero => rfl
  | succ n ih =>
    show sm n _ + - f n = - (sm n f + f n)
    rw [ih]; omega
theorem sm_zero {n : Nat} {f : Nat → Int} (h : ∀ j, j < n → f j = 0) : sm n f = 0 := by
  induction n with
  | zero => rfl
  | succ n ih =>
    show sm n f + f n = 0
    rw [ih fun j hj => h j (Nat.lt_succ_of_lt hj), h n (Nat.lt_succ_self n)]; rfl
theorem sm_two {n c : Nat} (f : Nat → Int) (h : c + 1 < n) : sm n f = f c + f (c + 1) + sm n (fun j => if j = c ∨ j = c + 1 then 0 else f j) := by
  induction n with
  | zero => omega
  | succ n ih =>
    show sm n f + f n = f c + f (c + 1) + (sm n (fun j => if j = c ∨ j = c + 1 then 0 else f j) + if n = c ∨ n = c + 1 then 0 else f n)
    by_cases e : n = c + 1
    · subst e
      rw [if_pos (.inr rfl)]
      show (sm c f + f c) + f (c + 1) = f c + f (c + 1) + ((sm c (fun j => if j = c ∨ j = c + 1 then 0 else f j) + if c = c ∨ c = c + 1 then 0 else f c) + 0)
      rw [if_pos (.inl rfl), sm_congr (n := c) (f := fun j => if j = c ∨ j = c + 1 then 0 else f j) (g := f) fun j hj => if_neg (by omega)]
      omega
    · rw [ih (by omega), if_neg (by omega)]; omega
theorem det_congr {n : Nat} {M N : Nat → Nat → Int} (h : ∀ i k, i < n → k < n → M i k = N i k) : det n M = det n N := by
  induction n generalizing M N with
  | zero => rfl
  | succ n ih =>
    unfold det
    refine sm_congr fun j hj => ?_
    rw [h 0 j (by omega) hj, ih fun i k hi hk => h (i + 1) (sk j k) (by omega) (by unfold sk; split <;> omega)]
/-- the column c is v -/
def cr (M : Nat → Nat → Int) (c : Nat) (v : Nat → Int) : Nat → Nat → Int := fun i k => if k = c then v i else M i k
theorem cr_self (M : Nat → Nat → Int) (c : Nat) : cr M c (fun i => M i c) = M := by
  funext i k
  unfold cr
  split
  · rename_i h; rw [h]
  · rfl
theorem minor_cr_same (M : Nat → Nat → Int) (c : Nat) (v : Nat → Int) : (fun i k => cr M c v (i + 1) (sk c k)) = fun i k => M (i + 1) (sk c k) := by
  funext i k
  unfold cr
  rw [if_neg (by unfold sk; split <;> omega)]
theorem minor_cr_ne {j c : Nat} (M : Nat → Nat → Int) (v : Nat → Int) (h : j ≠ c) : (fun i k => cr M c v (i + 1) (sk j k)) = cr (fun i k => M (i + 1) (sk j k)) (if c < j then c else c - 1) (fun i => v (i + 1)) := by
  funext i k
  unfold cr
  by_cases e : sk j k = c
  · rw [if_pos e, if_pos (by unfold sk at e; split at e <;> split <;> omega)]
  · rw [if_neg e, if_neg (by unfold sk at e; split at e <;> split <;> omega)]
theorem det_lin {n c : Nat} (M : Nat → Nat → Int) (a b : Int) (u v : Nat → Int) (hc : c < n) : det n (cr M c fun i => a * u i + b * v i) = a * det n (cr M c u) + b * det n (cr M c v) := by
  induction n generalizing M c u v with
  | zero => omega
  | succ n ih =>
    unfold det
    rw [← sm_mul, ← sm_mul, ← sm_add]
    refine sm_congr fun j hj => ?_
    by_cases e : j = c
    · subst e
      rw [minor_cr_same, minor_cr_same, minor_cr_same]
      have h1 : ∀ w : Nat → Int, cr M j w 0 j = w 0 := fun w => if_pos rfl
      rw [h1, h1, h1]
      grind
    · rw [minor_cr_ne _ _ e, minor_cr_ne _ _ e, minor_cr_ne _ _ e]
      have h1 : ∀ w : Nat → Int, cr M c w 0 j = M 0 j := fun w => if_neg e
      rw [h1, h1, h1, ih _ _ _ (by split <;> omega)]
      grind
theorem det_scale {n c : Nat} (M : Nat → Nat → Int) (a : Int) (u : Nat → Int) (hc : c < n) : det n (cr M c fun i => a * u i) = a * det n (cr M c u) := by
  have z := det_lin M a 0 u u hc
  rw [Int.zero_mul, Int.add_zero] at z
  rw [← z]
  refine det_congr fun i k _ _ => ?_
  unfold cr
  split
  · show a * u i = a * u i + 0 * u i
    rw [Int.zero_mul, Int.add_zero]
  · rfl
theorem det_zero_col {n c : Nat} (M : Nat → Nat → Int) (hc : c < n) (h : ∀ i, i < n → M i c = 0) : det n M = 0 := by
  have z := det_scale M 0 (fun i => M i c) hc
  rw [Int.zero_mul] at z
  rw [← z]
  refine det_congr fun i k hi _ => ?_
  unfold cr
  split
  · rename_i e
    show M i k = 0 * M i c
    rw [e, h i hi, Int.mul_zero]
  · rfl
theorem det_sum {n c m : Nat} (M : Nat → Nat → Int) (a : Nat → Int) (u : Nat → Nat → Int) (hc : c < n) : det n (cr M c fun i => sm m fun l => a l * u l i) = sm m fun l => a l * det n (cr M c (u l)) := by
  induction m with
  | zero => exact det_zero_col _ hc fun i _ => by unfold cr; rw [if_pos rfl]; rfl
  | succ m ih =>
    show _ = sm m (fun l => a l * det n (cr M c (u l))) + a m * det n (cr M c (u m))
    rw [← ih]
    have z := det_lin M 1 (a m) (fun i => sm m fun l => a l * u l i) (u m) hc
    rw [Int.one_mul] at z
    rw [← z]
    refine det_congr fun i k _ _ => ?_
    unfold cr
    split
    · show sm m (fun l => a l * u l i) + a m * u m i = 1 * sm m (fun l => a l * u l i) + a m * u m i
      rw [Int.one_mul]
    · rfl
/-- two columns that stand side by side are exchanged -/
def cs (M : Nat → Nat → Int) (c : Nat) : Nat → Nat → Int := fun i k => M i (if k = c then c + 1 else if k = c + 1 then c else k)
theorem det_cs {n c : Nat} (M : Nat → Nat → Int) (hc : c + 1 < n) : det n (cs M c) = - det n M := by
  induction n generalizing M c with
  | zero => omega
  | succ n ih =>
    unfold det
    rw [sm_two _ hc, sm_two (fun j => sg j * M 0 j * det n fun i k => M (i + 1) (sk j k)) hc]
    have e1 : (fun i k => cs M c (i + 1) (sk c k)) = fun i k => M (i + 1) (sk (c + 1) k) := by
      funext i k
      unfold cs sk
      congr 1
      repeat' (first | omega | split)
    have e2 : (fun i k => cs M c (i + 1) (sk (c + 1) k)) = fun i k => M (i + 1) (sk c k) := by
      funext i k
      unfold cs sk
      congr 1
      repeat' (first | omega | split)
    have e3 : sm (n + 1) (fun j => if j = c ∨ j = c + 1 then 0 else sg j * cs M c 0 j * det n fun i k => cs M c (i + 1) (sk j k)) = - sm (n + 1) (fun j => if j = c ∨ j = c + 1 then 0 else sg j * M 0 j * det n fun i k => M (i + 1) (sk j k)) := by
      rw [← sm_neg]
      refine sm_congr fun j hj => ?_
      by_cases e : j = c ∨ j = c + 1
      · rw [if_pos e, if_pos e]; rfl
      · rw [if_neg e, if_neg e]
        have e4 : (fun i k => cs M c (i + 1) (sk j k)) = cs (fun i k => M (i + 1) (sk j k)) (if c < j then c else c - 1) := by
          funext i k
          unfold cs sk
          congr 1
          repeat' (first | omega | split)
        rw [e4, ih _ (by split <;> omega)]
        have e5 : cs M c 0 j = M 0 j := by
          unfold cs
          rw [if_neg (fun z => e (.inl z)), if_neg (fun z => e (.inr z))]
        rw [e5]
        grind
    rw [e3, e1, e2]
    have a1 : cs M c 0 c = M 0 (c + 1) := by unfold cs; rw [if_pos rfl]
    have a2 : cs M c 0 (c + 1) = M 0 c := by unfold cs; rw [if_neg (by omega), if_pos rfl]
    rw [a1, a2, sg_succ]
    grind
theorem det_eq_cols {n : Nat} : ∀ (d c : Nat) (M : Nat → Nat → Int), c + 1 + d < n → (∀ i, i < n → M i c = M i (c + 1 + d)) → det n M = 0 := by
  intro d
  induction d with
  | zero =>
    intro c M hc h
    have z := det_cs M (c := c) hc
    rw [show det n (cs M c) = det n M from det_congr fun i k hi _ => by
      unfold cs
      split
      · rename_i e; rw [e]; exact (h i hi).symm
      · split
        · rename_i e; rw [e]; exact h i hi
        · rfl] at z
    omega
  | succ d ih =>
    intro c M hc h
    have z := det_cs M (c := c + 1 + d) hc
    rw [ih c (cs M (c + 1 + d)) (by omega) (fun i hi => by
      unfold cs
      rw [if_neg (by omega), if_neg (by omega), if_pos rfl]
      exact h i hi)] at z
    omega
theorem det_cols {n c d : Nat} {M : Nat → Nat → Int} (hc : c < n) (hd : d < n) (hn : c ≠ d) (h : ∀ i, i < n → M i c = M i d) : det n M = 0 := by
  by_cases e : c < d
  · exact det_eq_cols (d - (c + 1)) c M (by omega) (fun i hi => by rw [h i hi]; congr 1; omega)
  · exact det_eq_cols (c - (d + 1)) d M (by omega) (fun i hi => by rw [← h i hi]; congr 1; omega)
end Mx
namespace Mx
/-- two rows are exchanged -/
def tr (a b i : Nat) : Nat := if i = a then b else if i = b then a else i
def un (a b : Nat) : Nat := if b < a then b else b - 1
end Mx
namespace Mx
structure Inv (n k : Nat) (c : Nat → Nat) (s : Int) (A R : Nat → Nat → Int) : Prop where
  s0 : s ≠ 0
  kn : k ≤ n
  dt : s = det k fun i l => A i (c l)
  up : ∀ r, r < k → ∀ j, s * A r j = sm k fun l => A r (c l) * R l j
  dn : ∀ r, k ≤ r → r < n → ∀ j, R r j = s * A r j - sm k fun l => A r (c l) * R l j
  kr : ∀ l m, l < k → m < k → R l (c m) = if l = m then s else 0
theorem mul_left {a b c : Int} (h : a ≠ 0) (e : a * b = a * c) : b = c := Int.eq_of_mul_eq_mul_left h e
section
variable {n k : Nat} {c : Nat → Nat} {s : Int} {A R : Nat → Nat → Int}
/-- a column that none of the rows left has: the determinant is nought -/
theorem Inv.none (I : Inv n k c s A R) {v : Nat} (hv : v < n) (hc : ∀ l, l < k → c l < n ∧ c l ≠ v) (h : ∀ r, k ≤ r → r < n → R r v = 0) : det n A = 0 := by
  refine mul_left I.s0 ?_
  rw [Int.mul_zero, show det n A = det n (cr A v fun r => A r v) by rw [cr_self], ← det_scale _ _ _ hv]
  have e : det n (cr A v fun r => s * A r v) = det n (cr A v fun r => sm k fun l => R l v * A r (c l)) := by
    refine det_congr fun r j hr _ => ?_
    unfold cr
    try dsimp only
    split
    · rw [sm_congr (n := k) (f := fun l => R l v * A r (c l)) (g := fun l => A r (c l) * R l v) fun l _ => Int.mul_comm _ _]
      by_cases g : r < k
      · exact I.up r g v
      · have := I.dn r (by omega) hr v
        rw [h r (by omega) hr] at this
        omega
    · rfl
  rw [e, det_sum _ (fun l => R l v) (fun l r => A r (c l)) hv]
  refine sm_zero fun l hl => ?_
  rw [det_cols (c := v) (d := c l) hv (hc l hl).1 (fun z => (hc l hl).2 z.symm) fun i _ => by
    unfold cr
    try dsimp only
    rw [if_pos rfl, if_neg (hc l hl).2], Int.mul_zero]
/-- all columns are kept -/
theorem Inv.all (I : Inv n n c s A R) (hc : ∀ l, l < n → c l = l) : s = det n A := by
  rw [I.dt]
  exact det_congr fun i l _ hl => by rw [hc l hl]
end
end Mx
namespace Mx
def elim (chief row : List Int) (p q s : Int) : List Int := (row.zip chief).map fun z => (p * z.1 - q * z.2).fdiv s
theorem getD_lt {α : Type} {l : List α} {i : Nat} (d : α) (h : i < l.length) : l.getD i d = l[i] := by
  rw [List.getD_eq_getElem?_getD, List.getElem?_eq_getElem h]; rfl
/-- n rows of w numbers -/
def Sq (n w : Nat) (rs : List (List Int)) : Prop := rs.length = n ∧ ∀ row ∈ rs, row.length = w
theorem Sq.at {n w : Nat} {rs : List (List Int)} (h : Sq n w rs) {i : Nat} (hi : i < n) : (rs.getD i []).length = w := by
  rw [getD_lt [] (by rw [h.1]; exact hi)]
  exact h.2 _ (List.getElem_mem _)
end Mx
namespace L2
open PySem PySem.Spec PyProof.Rows
def rwI (row : List Int) : Dt := .lst (row.map Dt.int)
theorem rwI_of {K : PySem.W.Frag} {H : Hp} {v : V} {row : List Int} (h : Is K H (rwI row) v) : ∃ a, v = .ref a ∧ SqL K H a (row.map V.int) := by
  obtain ⟨t, ws, rfl, ht, hl⟩ := h
  rw [of_isL_ints hl] at ht
  exact ⟨t, rfl, ht⟩
theorem rwI_is {K : PySem.W.Frag} {H : Hp} {t : Addr} {row : List Int} (h : SqL K H t (row.map V.int)) : Is K H (rwI row) (.ref t) := ⟨t, _, rfl, h, isL_ints _⟩
theorem isL_at {α : Type} {K : PySem.W.Frag} {H : Hp} {f : α → Dt} {rs : List α} {xs : List V} {i : Nat} {r : α} (h : IsL K H (rs.map f) xs) (hi : rs[i]? = some r) : ∃ v, xs[i]? = some v ∧ Is K H (f r) v :=
  h.get' (by rw [List.getElem?_map, hi]; rfl)
theorem isL_at' {α : Type} {K : PySem.W.Frag} {H : Hp} {f : α → Dt} {rs : List α} {xs : List V} {i : Nat} {v : V} (h : IsL K H (rs.map f) xs) (hi : xs[i]? = some v) : ∃ r, rs[i]? = some r ∧ Is K H (f r) v := by
  obtain ⟨d, hd, iv⟩ := h.get hi
  rw [List.getElem?_map] at hd
  cases e : rs[i]? with
  | none => rw [e] at hd; cases hd
  | some r => rw [e] at hd; exact ⟨r, rfl, (Option.some.inj hd).symm ▸ iv⟩
end L2
namespace L2
open PySem PySem.Spec PyProof.Rows
end L2
namespace L2
open PySem PySem.Spec PyProof.Rows
end L2
namespace L2
open PySem PySem.Spec PyProof.Rows
end L2
namespace L2
open PySem PySem.Spec PyProof.Rows
end L2
namespace L2
open PySem PySem.Spec PyProof.Rows
end L2
namespace L2
open PySem PySem.Spec PyProof.Rows
end L2
namespace L2
open PySem PySem.Spec PyProof.Rows
end L2
namespace ZM
open PySem PySem.Spec PyProof.Rows
end ZM
namespace ZM
open PySem PySem.Spec PyProof.Rows L2 RZ
end ZM
namespace L2
open PySem PySem.Spec PyProof.Rows ZM
end L2
namespace L2
open PySem PySem.Spec PyProof.Rows
end L2
namespace L2
open PySem PySem.Spec PyProof.Rows
end L2
namespace K23
open PySem L2
def topS (i : Nat) : Stmt := PySem.Challenge.pw_hookspans_k23_places_and_corners.main.body.getD i (.Pass ⟨0, 0, 0, 0⟩)
abbrev s_check_rods : Stmt := topS 28
abbrev N_check_rods : List Str := ["rods", "held", "rod"]
theorem sc_check_rods : FnScope N_check_rods ["rods", "held"] (defScope s_check_rods) := ⟨rfl, rfl, rfl, by decide +kernel, rfl, by decide +kernel, by decide +kernel⟩
abbrev s_check_bars : Stmt := topS 29
abbrev N_check_bars : List Str := ["rods", "held", "bars", "wanted", "number", "bar"]
theorem sc_check_bars : FnScope N_check_bars ["rods", "held", "bars"] (defScope s_check_bars) := ⟨rfl, rfl, rfl, by decide +kernel, rfl, by decide +kernel, by decide +kernel⟩
abbrev s_check_bar : Stmt := topS 30
abbrev N_check_bar : List Str := ["rods", "number", "bar", "rod"]
theorem sc_check_bar : FnScope N_check_bar ["rods", "number", "bar"] (defScope s_check_bar) := ⟨rfl, rfl, rfl, by decide +kernel, rfl, by decide +kernel, by decide +kernel⟩
abbrev s_divisor : Stmt := topS 10
abbrev N_divisor : List Str := ["numbers", "common", "number"]
theorem sc_divisor : FnScope N_divisor ["numbers"] (defScope s_divisor) := ⟨rfl, rfl, rfl, by decide +kernel, rfl, by decide +kernel, by decide +kernel⟩
abbrev s_lowest : Stmt := topS 11
abbrev N_lowest : List Str := ["tops", "bottom", "common", "top"]
theorem sc_lowest : FnScope N_lowest ["tops", "bottom"] (defScope s_lowest) := ⟨rfl, rfl, rfl, by decide +kernel, rfl, by decide +kernel, by decide +kernel⟩
abbrev s_check_places : Stmt := topS 14
abbrev N_check_places : List Str := ["web", "places", "at", "bar"]
theorem sc_check_places : FnScope N_check_places ["web", "places"] (defScope s_check_places) := ⟨rfl, rfl, rfl, by decide +kernel, rfl, by decide +kernel, by decide +kernel⟩
abbrev s_is_within : Stmt := topS 15
abbrev N_is_within : List Str := ["web", "places", "bar", "number"]
theorem sc_is_within : FnScope N_is_within ["web", "places"] (defScope s_is_within) := ⟨rfl, rfl, rfl, by decide +kernel, rfl, by decide +kernel, by decide +kernel⟩
abbrev s_corners : Stmt := topS 16
abbrev N_corners : List Str := ["web", "row"]
theorem sc_corners : FnScope N_corners ["web"] (defScope s_corners) := ⟨rfl, rfl, rfl, by decide +kernel, rfl, by decide +kernel, by decide +kernel⟩
abbrev s_corner_rows : Stmt := topS 17
abbrev N_corner_rows : List Str := ["web", "bar"]
theorem sc_corner_rows : FnScope N_corner_rows ["web"] (defScope s_corner_rows) := ⟨rfl, rfl, rfl, by decide +kernel, rfl, by decide +kernel, by decide +kernel⟩
abbrev s_ends : Stmt := topS 18
abbrev N_ends : List Str := ["bar"]
theorem sc_ends : FnScope N_ends ["bar"] (defScope s_ends) := ⟨rfl, rfl, rfl, by decide +kernel, rfl, by decide +kernel, by decide +kernel⟩
abbrev s_spread : Stmt := topS 19
abbrev N_spread : List Str := ["choices", "rows", "choice", "number", "row"]
theorem sc_spread : FnScope N_spread ["choices"] (defScope s_spread) := ⟨rfl, rfl, rfl, by decide +kernel, rfl, by decide +kernel, by decide +kernel⟩
abbrev s_l_cell_at : Stmt := topS 32
abbrev s_l_state : Stmt := topS 33
abbrev N_l_state : List Str := ["_law_source"]
theorem sc_l_state : FnScope N_l_state ["_law_source"] (defScope s_l_state) := ⟨rfl, rfl, rfl, by decide +kernel, rfl, by decide +kernel, by decide +kernel⟩
abbrev s_l_digit : Stmt := topS 34
abbrev N_l_digit : List Str := ["_law_state_here", "_law_base", "_law_found", "_law_mixed"]
theorem sc_l_digit : FnScope N_l_digit ["_law_state_here", "_law_base"] (defScope s_l_digit) := ⟨rfl, rfl, rfl, by decide +kernel, rfl, by decide +kernel, by decide +kernel⟩
abbrev s_l_bar : Stmt := topS 35
abbrev N_l_bar : List Str := ["_law_s", "_law_rods", "_law_most", "_law_hook", "_law_c", "_law_others", "_law_first", "_law_second", "_law_length", "_law_least", "_law_rod"]
theorem sc_l_bar : FnScope N_l_bar ["_law_s", "_law_rods", "_law_most", "_law_hook"] (defScope s_l_bar) := ⟨rfl, rfl, rfl, by decide +kernel, rfl, by decide +kernel, by decide +kernel⟩
abbrev s_l_web : Stmt := topS 36
abbrev N_l_web : List Str := ["_law_s", "_law_count", "_law_most", "_law_rods", "_law_first", "_law_held", "_law_hooks", "_law_turn", "_law_k", "_law_rod", "_law_hook"]
theorem sc_l_web : FnScope N_l_web ["_law_s", "_law_count", "_law_most"] (defScope s_l_web) := ⟨rfl, rfl, rfl, by decide +kernel, rfl, by decide +kernel, by decide +kernel⟩
abbrev s_l_made : Stmt := topS 37
abbrev N_l_made : List Str := ["_law_web_here", "_law_rods", "_law_held", "_law_bars", "_law_one"]
theorem sc_l_made : FnScope N_l_made ["_law_web_here"] (defScope s_l_made) := ⟨rfl, rfl, rfl, by decide +kernel, rfl, by decide +kernel, by decide +kernel⟩
abbrev s_l_within : Stmt := topS 38
abbrev N_l_within : List Str := ["_law_s", "_law_bars", "_law_share", "_law_found", "_law_bar_here", "_law_wide", "_law_some"]
theorem sc_l_within : FnScope N_l_within ["_law_s", "_law_bars", "_law_share"] (defScope s_l_within) := ⟨rfl, rfl, rfl, by decide +kernel, rfl, by decide +kernel, by decide +kernel⟩
abbrev s_l_corners : Stmt := topS 39
abbrev N_l_corners : List Str := ["_law_bars", "_law_found", "_law_bar_here", "_law_longer", "_law_row", "_law_end"]
theorem sc_l_corners : FnScope N_l_corners ["_law_bars"] (defScope s_l_corners) := ⟨rfl, rfl, rfl, by decide +kernel, rfl, by decide +kernel, by decide +kernel⟩
abbrev s_l_refusal : Stmt := topS 40
abbrev N_l_refusal : List Str := ["_law_ask", "_law_found", "e"]
theorem sc_l_refusal : FnScope N_l_refusal ["_law_ask"] (defScope s_l_refusal) := ⟨rfl, rfl, rfl, by decide +kernel, rfl, by decide +kernel, by decide +kernel⟩
abbrev s_l_places_right : Stmt := topS 41
abbrev N_l_places_right : List Str := ["_law_s", "_law_numbers", "_law_share", "_law_times", "_law_handed", "_law_found", "_law_common", "_law_k", "_law_due", "_law_other", "_law_low", "_law_one"]
theorem sc_l_places_right : FnScope N_l_places_right ["_law_s"] (defScope s_l_places_right) := ⟨rfl, rfl, rfl, by decide +kernel, rfl, by decide +kernel, by decide +kernel⟩
abbrev s_law : Stmt := topS 42
abbrev N_law : List Str := ["_law_script", "_law_number", "_law_s", "_law_web_here", "_law_own", "_law_told", "_law_share", "_law_numbers", "_law_at", "_law_bar_here", "_law_due", "_law_one", "_law_row"]
theorem sc_law : FnScope N_law ["_law_script"] (defScope s_law) := ⟨rfl, rfl, rfl, by decide +kernel, rfl, by decide +kernel, by decide +kernel⟩
abbrev s_Places_init : Stmt := inClass (topS 13) 0
abbrev N_Places_init : List Str := ["self", "numbers", "parts"]
theorem sc_Places_init : FnScope N_Places_init ["self", "numbers", "parts"] (defScope s_Places_init) := ⟨rfl, rfl, rfl, by decide +kernel, rfl, by decide +kernel, by decide +kernel⟩
abbrev s_Places_eq : Stmt := inClass (topS 13) 1
abbrev N_Places_eq : List Str := ["self", "other"]
theorem sc_Places_eq : FnScope N_Places_eq ["self", "other"] (defScope s_Places_eq) := ⟨rfl, rfl, rfl, by decide +kernel, rfl, by decide +kernel, by decide +kernel⟩
abbrev s_Bar_init : Stmt := inClass (topS 26) 0
abbrev N_Bar_init : List Str := ["self", "a", "b", "c", "length", "least", "greatest"]
theorem sc_Bar_init : FnScope N_Bar_init ["self", "a", "b", "c", "length", "least", "greatest"] (defScope s_Bar_init) := ⟨rfl, rfl, rfl, by decide +kernel, rfl, by decide +kernel, by decide +kernel⟩
abbrev s_Bar_eq : Stmt := inClass (topS 26) 1
abbrev s_Web_init : Stmt := inClass (topS 27) 0
abbrev N_Web_init : List Str := ["self", "rods", "held", "bars", "rod"]
theorem sc_Web_init : FnScope N_Web_init ["self", "rods", "held", "bars"] (defScope s_Web_init) := ⟨rfl, rfl, rfl, by decide +kernel, rfl, by decide +kernel, by decide +kernel⟩
abbrev s_Web_held : Stmt := inClass (topS 27) 1
abbrev s_Web_hanging : Stmt := inClass (topS 27) 2
abbrev s_Web_eq : Stmt := inClass (topS 27) 3
abbrev s_BadCount_init : Stmt := inClass (topS 3) 0
abbrev N_BadCount_init : List Str := ["self", "what", "count"]
theorem sc_BadCount_init : FnScope N_BadCount_init ["self", "what", "count"] (defScope s_BadCount_init) := ⟨rfl, rfl, rfl, by decide +kernel, rfl, by decide +kernel, by decide +kernel⟩
abbrev s_NoRod_init : Stmt := inClass (topS 4) 0
abbrev N_NoRod_init : List Str := ["self", "rod"]
theorem sc_NoRod_init : FnScope N_NoRod_init ["self", "rod"] (defScope s_NoRod_init) := ⟨rfl, rfl, rfl, by decide +kernel, rfl, by decide +kernel, by decide +kernel⟩
abbrev s_SameRod_init : Stmt := inClass (topS 5) 0
abbrev N_SameRod_init : List Str := ["self", "rod"]
theorem sc_SameRod_init : FnScope N_SameRod_init ["self", "rod"] (defScope s_SameRod_init) := ⟨rfl, rfl, rfl, by decide +kernel, rfl, by decide +kernel, by decide +kernel⟩
abbrev s_BadSpan_init : Stmt := inClass (topS 6) 0
abbrev N_BadSpan_init : List Str := ["self", "bar"]
theorem sc_BadSpan_init : FnScope N_BadSpan_init ["self", "bar"] (defScope s_BadSpan_init) := ⟨rfl, rfl, rfl, by decide +kernel, rfl, by decide +kernel, by decide +kernel⟩
abbrev s_NotSquare_init : Stmt := inClass (topS 7) 0
abbrev N_NotSquare_init : List Str := ["self", "bars", "wanted"]
theorem sc_NotSquare_init : FnScope N_NotSquare_init ["self", "bars", "wanted"] (defScope s_NotSquare_init) := ⟨rfl, rfl, rfl, by decide +kernel, rfl, by decide +kernel, by decide +kernel⟩
abbrev s_BadPlace_init : Stmt := inClass (topS 8) 0
abbrev N_BadPlace_init : List Str := ["self", "bar"]
theorem sc_BadPlace_init : FnScope N_BadPlace_init ["self", "bar"] (defScope s_BadPlace_init) := ⟨rfl, rfl, rfl, by decide +kernel, rfl, by decide +kernel, by decide +kernel⟩
/-- what the top has written -/
structure Tx (K : PySem.W.Frag) (mg : Str → Option Value) where
  a_check_rods : Addr
  fd_check_rods : FuncData
  F_check_rods : Fun K "_check_rods" "_check_rods" s_check_rods a_check_rods fd_check_rods
  b_check_rods : Binds K fd_check_rods ["rods", "held"] []
  m_check_rods : mg "_check_rods" = some (.ref a_check_rods)
  a_check_bars : Addr
  fd_check_bars : FuncData
  F_check_bars : Fun K "_check_bars" "_check_bars" s_check_bars a_check_bars fd_check_bars
  b_check_bars : Binds K fd_check_bars ["rods", "held", "bars"] []
  m_check_bars : mg "_check_bars" = some (.ref a_check_bars)
  a_check_bar : Addr
  fd_check_bar : FuncData
  F_check_bar : Fun K "_check_bar" "_check_bar" s_check_bar a_check_bar fd_check_bar
  b_check_bar : Binds K fd_check_bar ["rods", "number", "bar"] []
  m_check_bar : mg "_check_bar" = some (.ref a_check_bar)
  a_divisor : Addr
  fd_divisor : FuncData
  F_divisor : Fun K "divisor" "divisor" s_divisor a_divisor fd_divisor
  b_divisor : Binds K fd_divisor ["numbers"] []
  m_divisor : mg "divisor" = some (.ref a_divisor)
  a_lowest : Addr
  fd_lowest : FuncData
  F_lowest : Fun K "lowest" "lowest" s_lowest a_lowest fd_lowest
  b_lowest : Binds K fd_lowest ["tops", "bottom"] []
  m_lowest : mg "lowest" = some (.ref a_lowest)
  a_check_places : Addr
  fd_check_places : FuncData
  F_check_places : Fun K "check_places" "check_places" s_check_places a_check_places fd_check_places
  b_check_places : Binds K fd_check_places ["web", "places"] []
  m_check_places : mg "check_places" = some (.ref a_check_places)
  a_is_within : Addr
  fd_is_within : FuncData
  F_is_within : Fun K "is_within" "is_within" s_is_within a_is_within fd_is_within
  b_is_within : Binds K fd_is_within ["web", "places"] []
  m_is_within : mg "is_within" = some (.ref a_is_within)
  a_corners : Addr
  fd_corners : FuncData
  F_corners : Fun K "corners" "corners" s_corners a_corners fd_corners
  b_corners : Binds K fd_corners ["web"] []
  m_corners : mg "corners" = some (.ref a_corners)
  a_corner_rows : Addr
  fd_corner_rows : FuncData
  F_corner_rows : Fun K "corner_rows" "corner_rows" s_corner_rows a_corner_rows fd_corner_rows
  b_corner_rows : Binds K fd_corner_rows ["web"] []
  m_corner_rows : mg "corner_rows" = some (.ref a_corner_rows)
  a_ends : Addr
  fd_ends : FuncData
  F_ends : Fun K "ends" "ends" s_ends a_ends fd_ends
  b_ends : Binds K fd_ends ["bar"] []
  m_ends : mg "ends" = some (.ref a_ends)
  a_spread : Addr
  fd_spread : FuncData
  F_spread : Fun K "spread" "spread" s_spread a_spread fd_spread
  b_spread : Binds K fd_spread ["choices"] []
  m_spread : mg "spread" = some (.ref a_spread)
  a_l_cell_at : Addr
  fd_l_cell_at : FuncData
  F_l_cell_at : Fun K "_law_cell_at" "_law_cell_at" s_l_cell_at a_l_cell_at fd_l_cell_at
  b_l_cell_at : Binds K fd_l_cell_at ["_law_script", "_law_k"] []
  m_l_cell_at : mg "_law_cell_at" = some (.ref a_l_cell_at)
  a_l_state : Addr
  fd_l_state : FuncData
  F_l_state : Fun K "_law_state" "_law_state" s_l_state a_l_state fd_l_state
  b_l_state : Binds K fd_l_state ["_law_source"] []
  m_l_state : mg "_law_state" = some (.ref a_l_state)
  a_l_digit : Addr
  fd_l_digit : FuncData
  F_l_digit : Fun K "_law_digit" "_law_digit" s_l_digit a_l_digit fd_l_digit
  b_l_digit : Binds K fd_l_digit ["_law_state_here", "_law_base"] []
  m_l_digit : mg "_law_digit" = some (.ref a_l_digit)
  a_l_bar : Addr
  fd_l_bar : FuncData
  F_l_bar : Fun K "_law_bar" "_law_bar" s_l_bar a_l_bar fd_l_bar
  b_l_bar : Binds K fd_l_bar ["_law_s", "_law_rods", "_law_most", "_law_hook"] []
  m_l_bar : mg "_law_bar" = some (.ref a_l_bar)
  a_l_web : Addr
  fd_l_web : FuncData
  F_l_web : Fun K "_law_web" "_law_web" s_l_web a_l_web fd_l_web
  b_l_web : Binds K fd_l_web ["_law_s", "_law_count", "_law_most"] []
  m_l_web : mg "_law_web" = some (.ref a_l_web)
  a_l_made : Addr
  fd_l_made : FuncData
  F_l_made : Fun K "_law_made" "_law_made" s_l_made a_l_made fd_l_made
  b_l_made : Binds K fd_l_made ["_law_web_here"] []
  m_l_made : mg "_law_made" = some (.ref a_l_made)
  a_l_within : Addr
  fd_l_within : FuncData
  F_l_within : Fun K "_law_within" "_law_within" s_l_within a_l_within fd_l_within
  b_l_within : Binds K fd_l_within ["_law_s", "_law_bars", "_law_share"] []
  m_l_within : mg "_law_within" = some (.ref a_l_within)
  a_l_corners : Addr
  fd_l_corners : FuncData
  F_l_corners : Fun K "_law_corners" "_law_corners" s_l_corners a_l_corners fd_l_corners
  b_l_corners : Binds K fd_l_corners ["_law_bars"] []
  m_l_corners : mg "_law_corners" = some (.ref a_l_corners)
  a_l_refusal : Addr
  fd_l_refusal : FuncData
  F_l_refusal : Fun K "_law_refusal" "_law_refusal" s_l_refusal a_l_refusal fd_l_refusal
  b_l_refusal : Binds K fd_l_refusal ["_law_ask"] []
  m_l_refusal : mg "_law_refusal" = some (.ref a_l_refusal)
  a_l_places_right : Addr
  fd_l_places_right : FuncData
  F_l_places_right : Fun K "_law_places_right" "_law_places_right" s_l_places_right a_l_places_right fd_l_places_right
  b_l_places_right : Binds K fd_l_places_right ["_law_s"] []
  m_l_places_right : mg "_law_places_right" = some (.ref a_l_places_right)
  a_law : Addr
  fd_law : FuncData
  F_law : Fun K "law" "law" s_law a_law fd_law
  b_law : Binds K fd_law ["_law_script"] []
  m_law : mg "law" = some (.ref a_law)
  C_Places : Addr
  m_Places : mg "Places" = some (.ref C_Places)
  c_Places : Cls K C_Places
  mk_Places : PySem.W.makesIn K C_Places = true
  nf_Places_numbers : NoAttr K C_Places "numbers"
  nf_Places_parts : NoAttr K C_Places "parts"
  a_Places_init : Addr
  fd_Places_init : FuncData
  F_Places_init : Fun K "__init__" "Places.__init__" s_Places_init a_Places_init fd_Places_init
  b_Places_init : Binds K fd_Places_init ["self", "numbers", "parts"] []
  k_Places : Mk K C_Places a_Places_init
  a_Places_eq : Addr
  fd_Places_eq : FuncData
  F_Places_eq : Fun K "__eq__" "Places.__eq__" s_Places_eq a_Places_eq fd_Places_eq
  b_Places_eq : Binds K fd_Places_eq ["self", "other"] []
  M_Places_eq : Meth K C_Places "__eq__" a_Places_eq
  ef_Places : eqFacts K C_Places = true
  ne_Places : LxE.NeFacts K C_Places
  C_Bar : Addr
  m_Bar : mg "Bar" = some (.ref C_Bar)
  c_Bar : Cls K C_Bar
  mk_Bar : PySem.W.makesIn K C_Bar = true
  nf_Bar_a : NoAttr K C_Bar "a"
  nf_Bar_b : NoAttr K C_Bar "b"
  nf_Bar_c : NoAttr K C_Bar "c"
  nf_Bar_length : NoAttr K C_Bar "length"
  nf_Bar_least : NoAttr K C_Bar "least"
  nf_Bar_greatest : NoAttr K C_Bar "greatest"
  a_Bar_init : Addr
  fd_Bar_init : FuncData
  F_Bar_init : Fun K "__init__" "Bar.__init__" s_Bar_init a_Bar_init fd_Bar_init
  b_Bar_init : Binds K fd_Bar_init ["self", "a", "b", "c", "length", "least", "greatest"] []
  k_Bar : Mk K C_Bar a_Bar_init
  a_Bar_eq : Addr
  fd_Bar_eq : FuncData
  F_Bar_eq : Fun K "__eq__" "Bar.__eq__" s_Bar_eq a_Bar_eq fd_Bar_eq
  b_Bar_eq : Binds K fd_Bar_eq ["self", "other"] []
  M_Bar_eq : Meth K C_Bar "__eq__" a_Bar_eq
  ef_Bar : eqFacts K C_Bar = true
  ne_Bar : LxE.NeFacts K C_Bar
  C_Web : Addr
  m_Web : mg "Web" = some (.ref C_Web)
  c_Web : Cls K C_Web
  mk_Web : PySem.W.makesIn K C_Web = true
  nf_Web_rods : NoAttr K C_Web "rods"
  nf_Web_bars : NoAttr K C_Web "bars"
  nf_Web_held : NoAttr K C_Web "_held"
  a_Web_init : Addr
  fd_Web_init : FuncData
  F_Web_init : Fun K "__init__" "Web.__init__" s_Web_init a_Web_init fd_Web_init
  b_Web_init : Binds K fd_Web_init ["self", "rods", "held", "bars"] []
  k_Web : Mk K C_Web a_Web_init
  a_Web_held : Addr
  fd_Web_held : FuncData
  F_Web_held : Fun K "held" "Web.held" s_Web_held a_Web_held fd_Web_held
  b_Web_held : Binds K fd_Web_held ["self"] []
  M_Web_held : Meth K C_Web "held" a_Web_held
  a_Web_hanging : Addr
  fd_Web_hanging : FuncData
  F_Web_hanging : Fun K "hanging" "Web.hanging" s_Web_hanging a_Web_hanging fd_Web_hanging
  b_Web_hanging : Binds K fd_Web_hanging ["self"] []
  M_Web_hanging : Meth K C_Web "hanging" a_Web_hanging
  a_Web_eq : Addr
  fd_Web_eq : FuncData
  F_Web_eq : Fun K "__eq__" "Web.__eq__" s_Web_eq a_Web_eq fd_Web_eq
  b_Web_eq : Binds K fd_Web_eq ["self", "other"] []
  M_Web_eq : Meth K C_Web "__eq__" a_Web_eq
  ef_Web : eqFacts K C_Web = true
  ne_Web : LxE.NeFacts K C_Web
  nfst_Places_Places : PySem.W.notFirst K C_Places (.ref C_Places) = true
  nfst_Places_Bar : PySem.W.notFirst K C_Places (.ref C_Bar) = true
  nfst_Places_Web : PySem.W.notFirst K C_Places (.ref C_Web) = true
  dc_Places_Web : C_Places ≠ C_Web
  nfst_Bar_Places : PySem.W.notFirst K C_Bar (.ref C_Places) = true
  dc_Bar_Places : C_Bar ≠ C_Places
  nfst_Bar_Bar : PySem.W.notFirst K C_Bar (.ref C_Bar) = true
  nfst_Bar_Web : PySem.W.notFirst K C_Bar (.ref C_Web) = true
  dc_Bar_Web : C_Bar ≠ C_Web
  nfst_Web_Places : PySem.W.notFirst K C_Web (.ref C_Places) = true
  nfst_Web_Bar : PySem.W.notFirst K C_Web (.ref C_Bar) = true
  nfst_Web_Web : PySem.W.notFirst K C_Web (.ref C_Web) = true
  C_HooksError : Addr
  m_HooksError : mg "HooksError" = some (.ref C_HooksError)
  C_BadCount : Addr
  O_BadCount : OexC K C_BadCount
  m_BadCount : mg "BadCount" = some (.ref C_BadCount)
  isC_BadCount : ExcC K C_BadCount
  xf_BadCount : XfC K C_BadCount
  exm_BadCount_HooksError : PySem.W.exmOne K (.ref C_BadCount) (.ref C_HooksError) = some true
  a_BadCount_init : Addr
  fd_BadCount_init : FuncData
  F_BadCount_init : Fun K "__init__" "BadCount.__init__" s_BadCount_init a_BadCount_init fd_BadCount_init
  b_BadCount_init : Binds K fd_BadCount_init ["self", "what", "count"] []
  nf_BadCount_what : PySem.W.findIn K (.ref C_BadCount) "what" = some none
  nf_BadCount_count : PySem.W.findIn K (.ref C_BadCount) "count" = some none
  X_BadCount : XCls K mg "BadCount" C_BadCount a_BadCount_init fd_BadCount_init ["self", "what", "count"]
  C_NoRod : Addr
  O_NoRod : OexC K C_NoRod
  m_NoRod : mg "NoRod" = some (.ref C_NoRod)
  isC_NoRod : ExcC K C_NoRod
  xf_NoRod : XfC K C_NoRod
  exm_NoRod_HooksError : PySem.W.exmOne K (.ref C_NoRod) (.ref C_HooksError) = some true
  a_NoRod_init : Addr
  fd_NoRod_init : FuncData
  F_NoRod_init : Fun K "__init__" "NoRod.__init__" s_NoRod_init a_NoRod_init fd_NoRod_init
  b_NoRod_init : Binds K fd_NoRod_init ["self", "rod"] []
  nf_NoRod_rod : PySem.W.findIn K (.ref C_NoRod) "rod" = some none
  X_NoRod : XCls K mg "NoRod" C_NoRod a_NoRod_init fd_NoRod_init ["self", "rod"]
  C_SameRod : Addr
  O_SameRod : OexC K C_SameRod
  m_SameRod : mg "SameRod" = some (.ref C_SameRod)
  isC_SameRod : ExcC K C_SameRod
  xf_SameRod : XfC K C_SameRod
  exm_SameRod_HooksError : PySem.W.exmOne K (.ref C_SameRod) (.ref C_HooksError) = some true
  a_SameRod_init : Addr
  fd_SameRod_init : FuncData
  F_SameRod_init : Fun K "__init__" "SameRod.__init__" s_SameRod_init a_SameRod_init fd_SameRod_init
  b_SameRod_init : Binds K fd_SameRod_init ["self", "rod"] []
  nf_SameRod_rod : PySem.W.findIn K (.ref C_SameRod) "rod" = some none
  X_SameRod : XCls K mg "SameRod" C_SameRod a_SameRod_init fd_SameRod_init ["self", "rod"]
  C_BadSpan : Addr
  O_BadSpan : OexC K C_BadSpan
  m_BadSpan : mg "BadSpan" = some (.ref C_BadSpan)
  isC_BadSpan : ExcC K C_BadSpan
  xf_BadSpan : XfC K C_BadSpan
  exm_BadSpan_HooksError : PySem.W.exmOne K (.ref C_BadSpan) (.ref C_HooksError) = some true
  a_BadSpan_init : Addr
  fd_BadSpan_init : FuncData
  F_BadSpan_init : Fun K "__init__" "BadSpan.__init__" s_BadSpan_init a_BadSpan_init fd_BadSpan_init
  b_BadSpan_init : Binds K fd_BadSpan_init ["self", "bar"] []
  nf_BadSpan_bar : PySem.W.findIn K (.ref C_BadSpan) "bar" = some none
  X_BadSpan : XCls K mg "BadSpan" C_BadSpan a_BadSpan_init fd_BadSpan_init ["self", "bar"]
  C_NotSquare : Addr
  O_NotSquare : OexC K C_NotSquare
  m_NotSquare : mg "NotSquare" = some (.ref C_NotSquare)
  isC_NotSquare : ExcC K C_NotSquare
  xf_NotSquare : XfC K C_NotSquare
  exm_NotSquare_HooksError : PySem.W.exmOne K (.ref C_NotSquare) (.ref C_HooksError) = some true
  a_NotSquare_init : Addr
  fd_NotSquare_init : FuncData
  F_NotSquare_init : Fun K "__init__" "NotSquare.__init__" s_NotSquare_init a_NotSquare_init fd_NotSquare_init
  b_NotSquare_init : Binds K fd_NotSquare_init ["self", "bars", "wanted"] []
  nf_NotSquare_bars : PySem.W.findIn K (.ref C_NotSquare) "bars" = some none
  nf_NotSquare_wanted : PySem.W.findIn K (.ref C_NotSquare) "wanted" = some none
  X_NotSquare : XCls K mg "NotSquare" C_NotSquare a_NotSquare_init fd_NotSquare_init ["self", "bars", "wanted"]
  C_BadPlace : Addr
  O_BadPlace : OexC K C_BadPlace
  m_BadPlace : mg "BadPlace" = some (.ref C_BadPlace)
  isC_BadPlace : ExcC K C_BadPlace
  xf_BadPlace : XfC K C_BadPlace
  exm_BadPlace_HooksError : PySem.W.exmOne K (.ref C_BadPlace) (.ref C_HooksError) = some true
  a_BadPlace_init : Addr
  fd_BadPlace_init : FuncData
  F_BadPlace_init : Fun K "__init__" "BadPlace.__init__" s_BadPlace_init a_BadPlace_init fd_BadPlace_init
  b_BadPlace_init : Binds K fd_BadPlace_init ["self", "bar"] []
  nf_BadPlace_bar : PySem.W.findIn K (.ref C_BadPlace) "bar" = some none
  X_BadPlace : XCls K mg "BadPlace" C_BadPlace a_BadPlace_init fd_BadPlace_init ["self", "bar"]
  kit_BadCount_BadCount : PySem.W.kitOne K (.ref C_BadCount) (.ref C_BadCount) = some true
  kit_BadPlace_BadCount : PySem.W.kitOne K (.ref C_BadPlace) (.ref C_BadCount) = some false
  kit_BadPlace_BadPlace : PySem.W.kitOne K (.ref C_BadPlace) (.ref C_BadPlace) = some true
  z_abs : mg "abs" = none
  z_len : mg "len" = none
  z_range : mg "range" = none
  z_tuple : mg "tuple" = none
  z_list : mg "list" = none
  z_dict : mg "dict" = none
  z_sorted : mg "sorted" = none
  z_enumerate : mg "enumerate" = none
  z_zip : mg "zip" = none
  z_min : mg "min" = none
  z_all : mg "all" = none
  z_int : mg "int" = none
  z_isinstance : mg "isinstance" = none
  z_type : mg "type" = none
  m_gcd : mg "gcd" = some (.builtin "math.gcd")
  t_LEAST_RODS : Tok
  m_LEAST_RODS : mg "LEAST_RODS" = some (.int 3 t_LEAST_RODS)
  t_MOST_RODS : Tok
  m_MOST_RODS : mg "MOST_RODS" = some (.int 10 t_MOST_RODS)
  t_MOST_BARS : Tok
  m_MOST_BARS : mg "MOST_BARS" = some (.int 8 t_MOST_BARS)
  t_MOST_HEIGHT : Tok
  m_MOST_HEIGHT : mg "MOST_HEIGHT" = some (.int 1000000 t_MOST_HEIGHT)
  t_MOST_LENGTH : Tok
  m_MOST_LENGTH : mg "MOST_LENGTH" = some (.int 1000000 t_MOST_LENGTH)
end K23
namespace Hk
open PySem
def seeT (at0 : List Addr) (f0 : List He.Fa) (d0 : List He.DefD) (tf : List He.Defn) (b0 : PySem.W.Frag → Bool) (look : Addr → Option Obj) : He.AlX :=
  (He.obsT f0 d0 [] (He.frT look at0), b0 (He.frT look at0) && He.tabsB look tf (He.frT look at0))
theorem saysT {at0 : List Addr} {f0 : List He.Fa} {d0 : List He.DefD} {tf : List He.Defn} {b0 : PySem.W.Frag → Bool} {w : World} {hp : Heap} (q : seeT at0 f0 d0 tf b0 hp.get? = He.valX d0 [] w) :
    He.SaysX f0 d0 [] tf b0 w hp (He.frT hp.get? at0) := by
  have told := congrArg Prod.snd q
  obtain ⟨facts, tabs⟩ := He.ba (show (b0 (He.frT hp.get? at0) && He.tabsB hp.get? tf (He.frT hp.get? at0)) = true from told)
  have each : ∀ p ∈ tf, PySem.W.codeHdIn (He.frT hp.get? at0) (He.cT (He.frT hp.get? at0) p).1 (He.cT (He.frT hp.get? at0) p).2 = true ∧ ∃ o, hp.get? (He.cT (He.frT hp.get? at0) p).2 = some o ∧ He.emptyTab o = true := by
    intro p hp'
    obtain ⟨z1, z2⟩ := He.ba (List.all_eq_true.mp tabs p hp')
    cases e : hp.get? (He.cT (He.frT hp.get? at0) p).2 with
    | none => rw [e] at z2; cases z2
    | some o => rw [e] at z2; exact ⟨z1, o, rfl, z2⟩
  refine ⟨congrArg Prod.fst q, facts, fun p m => (each p m).1, fun p m => ?_, fun p m => ?_⟩
  · obtain ⟨_, o, e, z⟩ := each p m
    exact He.frT_none e z
  · obtain ⟨_, o, e, z⟩ := each p m
    rw [e, He.emptyTab_eq z]
def hookT (at0 : List Addr) (f0 : List He.Fa) (d0 : List He.DefD) (tf : List He.Defn) (b0 : PySem.W.Frag → Bool) : PySem.W.Hook where
  α := He.AlX
  obs := fun st => seeT at0 f0 d0 tf b0 st.heap.get?
  val := fun w => He.valX d0 [] w
  says := fun w hp => ∃ F : PySem.W.Frag, F.In hp ∧ He.SaysX f0 d0 [] tf b0 w hp F
  of := fun _ _ q => ⟨_, He.frT_in, saysT q⟩
  keeps := fun _ _ _ ⟨F, hF, z⟩ kk => ⟨F, PySem.W.Frag.In.keeps hF kk, ⟨z.t, z.more, z.hd, z.out, fun p m => kk _ _ (z.empty p m)⟩⟩
theorem seeT_eq {at0 : List Addr} {f0 : List He.Fa} {d0 : List He.DefD} {tf : List He.Defn} {b0 : PySem.W.Frag → Bool} {look : Addr → Option Obj} {st : Shared} (q : ∀ x, look x = st.heap.get? x) : seeT at0 f0 d0 tf b0 look = (hookT at0 f0 d0 tf b0).obs st := by
  rw [show look = st.heap.get? from funext q]
  rfl
/-- the facts of defs that make lambdas: their names, no table shared -/
def nameB (K : PySem.W.Frag) (x : Str) : Bool := decide (PySem.W.nsIn K mainGlobals x = some (some (.ref (He.ga K x))))
end Hk
namespace K23
open PySem L2
def xcB (K : PySem.W.Frag) (C : Addr) (bm : List Value) (k : String) : Bool := match K.lookup C with
  | some ⟨.type "type", _, .cls cd, sl⟩ => decide (cd.mro = .ref C :: bm) && (cd.hasDict && (!cd.hasDel && (match sl.toList with
    | [_, _, _, _, some (.builtin n), _] => decide (n = k)
    | _ => false)))
  | _ => false
theorem xcB_ok {K : PySem.W.Frag} {C : Addr} {bm : List Value} {k : String} (h : xcB K C bm k = true) : ∃ (nm q : Str) (N : Addr) (bs : List Value) (sn : List Str) (sub : List Value) (ab : Bool) (col : Option Bool) (dd : Option Addr) (u0 u1 u2 u3 u5 : Option Value),
    K.lookup C = some (excClassObj nm q C N bs bm true sn sub ab col dd u0 u1 u2 u3 u5 k) := by
  unfold xcB at h
  split at h
  · rename_i dd cd sl e
    obtain ⟨h1, h⟩ := He.ba h
    obtain ⟨h2, h⟩ := He.ba h
    obtain ⟨h3, h⟩ := He.ba h
    have h1 := of_decide_eq_true h1
    obtain ⟨nm, bs, mro, N, q, hdct, sn, sub, ab, col, hdel⟩ := cd
    dsimp only at h1 h2 h3
    subst h1 h2
    cases hdel with
    | true => cases h3
    | false =>
      split at h
      · rename_i u0 u1 u2 u3 n u5 es
        have hn := of_decide_eq_true h
        subst hn
        obtain rfl : sl = #[u0, u1, u2, u3, some (.builtin n), u5] := Array.ext' es
        exact ⟨nm, q, N, bs, sn, sub, ab, col, dd, u0, u1, u2, u3, u5, e⟩
      · cases h
  · cases h
def intB (K : PySem.W.Frag) (x : Str) (i : Int) : Bool := match PySem.W.nsIn K mainGlobals x with
  | some (some (.int j _)) => decide (j = i)
  | _ => false
theorem intB_ok {K : PySem.W.Frag} {x : Str} {i : Int} (h : intB K x i = true) : ∃ t, PySem.W.nsIn K mainGlobals x = some (some (.int i t)) := by
  unfold intB at h
  split at h
  · rename_i j t e
    have hj := of_decide_eq_true h
    subst hj
    exact ⟨t, e⟩
  · cases h
theorem ex_at {l : List Bool} (h : l.all id = true) (i : Nat) {b : Bool} (e : l[i]? = some b) : b = true := List.all_eq_true.mp h b (List.mem_of_getElem? e)
theorem def_none {K : PySem.W.Frag} {dV : Value} (h : L2.DflV K dV []) : dV = .none := by
  rcases h with h | h
  · exact h.2
  · exact absurd rfl h.1
def exL0 (K : PySem.W.Frag) : List Bool := [
  decide (PySem.W.specialIn K (.builtin "object.__class__") "__get__" = some (some (.builtin "getset_descriptor.__get__"))),
  decide (PySem.W.takesIn K (.builtin "object.__class__") = some true),
  decide (PySem.W.nsIn K mainGlobals "_check_rods" = some (some (.ref (He.ga K "_check_rods")))),
  decide (PySem.W.nsIn K mainGlobals "_check_bars" = some (some (.ref (He.ga K "_check_bars")))),
  decide (PySem.W.nsIn K mainGlobals "_check_bar" = some (some (.ref (He.ga K "_check_bar")))),
  decide (PySem.W.nsIn K mainGlobals "divisor" = some (some (.ref (He.ga K "divisor")))),
  decide (PySem.W.nsIn K mainGlobals "lowest" = some (some (.ref (He.ga K "lowest")))),
  decide (PySem.W.nsIn K mainGlobals "check_places" = some (some (.ref (He.ga K "check_places")))),
  decide (PySem.W.nsIn K mainGlobals "is_within" = some (some (.ref (He.ga K "is_within")))),
  decide (PySem.W.nsIn K mainGlobals "corners" = some (some (.ref (He.ga K "corners")))),
  decide (PySem.W.nsIn K mainGlobals "corner_rows" = some (some (.ref (He.ga K "corner_rows")))),
  decide (PySem.W.nsIn K mainGlobals "ends" = some (some (.ref (He.ga K "ends")))),
  decide (PySem.W.nsIn K mainGlobals "spread" = some (some (.ref (He.ga K "spread")))),
  decide (PySem.W.nsIn K mainGlobals "_law_cell_at" = some (some (.ref (He.ga K "_law_cell_at")))),
  decide (PySem.W.nsIn K mainGlobals "_law_state" = some (some (.ref (He.ga K "_law_state")))),
  decide (PySem.W.nsIn K mainGlobals "_law_digit" = some (some (.ref (He.ga K "_law_digit")))),
  decide (PySem.W.nsIn K mainGlobals "_law_bar" = some (some (.ref (He.ga K "_law_bar")))),
  decide (PySem.W.nsIn K mainGlobals "_law_web" = some (some (.ref (He.ga K "_law_web")))),
  decide (PySem.W.nsIn K mainGlobals "_law_made" = some (some (.ref (He.ga K "_law_made")))),
  decide (PySem.W.nsIn K mainGlobals "_law_within" = some (some (.ref (He.ga K "_law_within")))),
  decide (PySem.W.nsIn K mainGlobals "_law_corners" = some (some (.ref (He.ga K "_law_corners")))),
  decide (PySem.W.nsIn K mainGlobals "_law_refusal" = some (some (.ref (He.ga K "_law_refusal")))),
  decide (PySem.W.nsIn K mainGlobals "_law_places_right" = some (some (.ref (He.ga K "_law_places_right")))),
  decide (PySem.W.nsIn K mainGlobals "law" = some (some (.ref (He.ga K "law")))),
  decide (PySem.W.nsIn K mainGlobals "Places" = some (some (.ref (He.ga K "Places")))),
  PySem.W.plainGet K (He.ga K "Places") Str.empty,
  PySem.W.hasDictIn K (He.ga K "Places"),
  PySem.W.plainOver K (He.ga K "Places"),
  decide (PySem.W.findIn K (.ref (He.ga K "Places")) "__setattr__" = some (some (.builtin "object.__setattr__"))),
  PySem.W.makesIn K (He.ga K "Places"),
  PySem.W.keepIn K (.ref (He.ga K "Places")),
  decide (PySem.W.findIn K (.ref (He.ga K "Places")) "numbers" = some none),
  decide (PySem.W.findIn K (.ref (He.ga K "Places")) "parts" = some none),
  decide (PySem.W.findIn K (.ref (He.ga K "Places")) "__init__" = some (some (.ref (He.ma K (He.ga K "Places") "__init__")))),
  PySem.W.isFn K (.ref (He.ma K (He.ga K "Places") "__init__")),
  decide (PySem.W.findIn K (.ref (He.ga K "Places")) "__eq__" = some (some (.ref (He.ma K (He.ga K "Places") "__eq__")))),
  PySem.W.isFn K (.ref (He.ma K (He.ga K "Places") "__eq__")),
  PySem.W.notFirst K (He.ga K "Places") (.type "NoneType"),
  decide (PySem.W.subIn K (.ref (He.ga K "Places")) (.type "NoneType") = some false),
  PySem.W.notFirst K (He.ga K "Places") (.type "bool")]
def exL1 (K : PySem.W.Frag) : List Bool := [
  decide (PySem.W.subIn K (.ref (He.ga K "Places")) (.type "bool") = some false),
  PySem.W.notFirst K (He.ga K "Places") (.type "int"),
  decide (PySem.W.subIn K (.ref (He.ga K "Places")) (.type "int") = some false),
  PySem.W.notFirst K (He.ga K "Places") (.type "str"),
  decide (PySem.W.subIn K (.ref (He.ga K "Places")) (.type "str") = some false),
  PySem.W.notFirst K (He.ga K "Places") (.type "list"),
  decide (PySem.W.subIn K (.ref (He.ga K "Places")) (.type "list") = some false),
  PySem.W.notFirst K (He.ga K "Places") (.type "tuple"),
  decide (PySem.W.subIn K (.ref (He.ga K "Places")) (.type "tuple") = some false),
  PySem.W.notFirst K (He.ga K "Places") (.type "dict"),
  decide (PySem.W.subIn K (.ref (He.ga K "Places")) (.type "dict") = some false),
  decide (PySem.W.findIn K (.ref (He.ga K "Places")) "__ne__" = some (some (.builtin "object.__ne__"))),
  decide (PySem.W.mroIn K (He.ga K "Places") (.type "object") = some true),
  decide (PySem.W.nsIn K mainGlobals "Bar" = some (some (.ref (He.ga K "Bar")))),
  PySem.W.plainGet K (He.ga K "Bar") Str.empty,
  PySem.W.hasDictIn K (He.ga K "Bar"),
  PySem.W.plainOver K (He.ga K "Bar"),
  decide (PySem.W.findIn K (.ref (He.ga K "Bar")) "__setattr__" = some (some (.builtin "object.__setattr__"))),
  PySem.W.makesIn K (He.ga K "Bar"),
  PySem.W.keepIn K (.ref (He.ga K "Bar")),
  decide (PySem.W.findIn K (.ref (He.ga K "Bar")) "a" = some none),
  decide (PySem.W.findIn K (.ref (He.ga K "Bar")) "b" = some none),
  decide (PySem.W.findIn K (.ref (He.ga K "Bar")) "c" = some none),
  decide (PySem.W.findIn K (.ref (He.ga K "Bar")) "length" = some none),
  decide (PySem.W.findIn K (.ref (He.ga K "Bar")) "least" = some none),
  decide (PySem.W.findIn K (.ref (He.ga K "Bar")) "greatest" = some none),
  decide (PySem.W.findIn K (.ref (He.ga K "Bar")) "__init__" = some (some (.ref (He.ma K (He.ga K "Bar") "__init__")))),
  PySem.W.isFn K (.ref (He.ma K (He.ga K "Bar") "__init__")),
  decide (PySem.W.findIn K (.ref (He.ga K "Bar")) "__eq__" = some (some (.ref (He.ma K (He.ga K "Bar") "__eq__")))),
  PySem.W.isFn K (.ref (He.ma K (He.ga K "Bar") "__eq__")),
  PySem.W.notFirst K (He.ga K "Bar") (.type "NoneType"),
  decide (PySem.W.subIn K (.ref (He.ga K "Bar")) (.type "NoneType") = some false),
  PySem.W.notFirst K (He.ga K "Bar") (.type "bool"),
  decide (PySem.W.subIn K (.ref (He.ga K "Bar")) (.type "bool") = some false),
  PySem.W.notFirst K (He.ga K "Bar") (.type "int"),
  decide (PySem.W.subIn K (.ref (He.ga K "Bar")) (.type "int") = some false),
  PySem.W.notFirst K (He.ga K "Bar") (.type "str"),
  decide (PySem.W.subIn K (.ref (He.ga K "Bar")) (.type "str") = some false),
  PySem.W.notFirst K (He.ga K "Bar") (.type "list"),
  decide (PySem.W.subIn K (.ref (He.ga K "Bar")) (.type "list") = some false)]
def exL2 (K : PySem.W.Frag) : List Bool := [
  PySem.W.notFirst K (He.ga K "Bar") (.type "tuple"),
  decide (PySem.W.subIn K (.ref (He.ga K "Bar")) (.type "tuple") = some false),
  PySem.W.notFirst K (He.ga K "Bar") (.type "dict"),
  decide (PySem.W.subIn K (.ref (He.ga K "Bar")) (.type "dict") = some false),
  decide (PySem.W.findIn K (.ref (He.ga K "Bar")) "__ne__" = some (some (.builtin "object.__ne__"))),
  decide (PySem.W.mroIn K (He.ga K "Bar") (.type "object") = some true),
  decide (PySem.W.nsIn K mainGlobals "Web" = some (some (.ref (He.ga K "Web")))),
  PySem.W.plainGet K (He.ga K "Web") Str.empty,
  PySem.W.hasDictIn K (He.ga K "Web"),
  PySem.W.plainOver K (He.ga K "Web"),
  decide (PySem.W.findIn K (.ref (He.ga K "Web")) "__setattr__" = some (some (.builtin "object.__setattr__"))),
  PySem.W.makesIn K (He.ga K "Web"),
  PySem.W.keepIn K (.ref (He.ga K "Web")),
  decide (PySem.W.findIn K (.ref (He.ga K "Web")) "rods" = some none),
  decide (PySem.W.findIn K (.ref (He.ga K "Web")) "bars" = some none),
  decide (PySem.W.findIn K (.ref (He.ga K "Web")) "_held" = some none),
  decide (PySem.W.findIn K (.ref (He.ga K "Web")) "__init__" = some (some (.ref (He.ma K (He.ga K "Web") "__init__")))),
  PySem.W.isFn K (.ref (He.ma K (He.ga K "Web") "__init__")),
  decide (PySem.W.findIn K (.ref (He.ga K "Web")) "held" = some (some (.ref (He.ma K (He.ga K "Web") "held")))),
  PySem.W.isFn K (.ref (He.ma K (He.ga K "Web") "held")),
  decide (PySem.W.findIn K (.ref (He.ga K "Web")) "hanging" = some (some (.ref (He.ma K (He.ga K "Web") "hanging")))),
  PySem.W.isFn K (.ref (He.ma K (He.ga K "Web") "hanging")),
  decide (PySem.W.findIn K (.ref (He.ga K "Web")) "__eq__" = some (some (.ref (He.ma K (He.ga K "Web") "__eq__")))),
  PySem.W.isFn K (.ref (He.ma K (He.ga K "Web") "__eq__")),
  PySem.W.notFirst K (He.ga K "Web") (.type "NoneType"),
  decide (PySem.W.subIn K (.ref (He.ga K "Web")) (.type "NoneType") = some false),
  PySem.W.notFirst K (He.ga K "Web") (.type "bool"),
  decide (PySem.W.subIn K (.ref (He.ga K "Web")) (.type "bool") = some false),
  PySem.W.notFirst K (He.ga K "Web") (.type "int"),
  decide (PySem.W.subIn K (.ref (He.ga K "Web")) (.type "int") = some false),
  PySem.W.notFirst K (He.ga K "Web") (.type "str"),
  decide (PySem.W.subIn K (.ref (He.ga K "Web")) (.type "str") = some false),
  PySem.W.notFirst K (He.ga K "Web") (.type "list"),
  decide (PySem.W.subIn K (.ref (He.ga K "Web")) (.type "list") = some false),
  PySem.W.notFirst K (He.ga K "Web") (.type "tuple"),
  decide (PySem.W.subIn K (.ref (He.ga K "Web")) (.type "tuple") = some false),
  PySem.W.notFirst K (He.ga K "Web") (.type "dict"),
  decide (PySem.W.subIn K (.ref (He.ga K "Web")) (.type "dict") = some false),
  decide (PySem.W.findIn K (.ref (He.ga K "Web")) "__ne__" = some (some (.builtin "object.__ne__"))),
  decide (PySem.W.mroIn K (He.ga K "Web") (.type "object") = some true)]
def exL3 (K : PySem.W.Frag) : List Bool := [
  PySem.W.notFirst K (He.ga K "Places") (.ref (He.ga K "Places")),
  PySem.W.notFirst K (He.ga K "Places") (.ref (He.ga K "Bar")),
  PySem.W.notFirst K (He.ga K "Places") (.ref (He.ga K "Web")),
  decide ((He.ga K "Places") ≠ (He.ga K "Web")),
  PySem.W.notFirst K (He.ga K "Bar") (.ref (He.ga K "Places")),
  decide ((He.ga K "Bar") ≠ (He.ga K "Places")),
  PySem.W.notFirst K (He.ga K "Bar") (.ref (He.ga K "Bar")),
  PySem.W.notFirst K (He.ga K "Bar") (.ref (He.ga K "Web")),
  decide ((He.ga K "Bar") ≠ (He.ga K "Web")),
  PySem.W.notFirst K (He.ga K "Web") (.ref (He.ga K "Places")),
  PySem.W.notFirst K (He.ga K "Web") (.ref (He.ga K "Bar")),
  PySem.W.notFirst K (He.ga K "Web") (.ref (He.ga K "Web")),
  decide (PySem.W.nsIn K mainGlobals "HooksError" = some (some (.ref (He.ga K "HooksError")))),
  decide (PySem.W.subIn K (.ref (He.ga K "HooksError")) (.type "BaseException") = some true),
  decide (PySem.W.typeIn K (.ref (He.ga K "HooksError")) = some (.type "type")),
  PySem.W.hasDictIn K (He.ga K "HooksError"),
  decide (PySem.W.nsIn K mainGlobals "BadCount" = some (some (.ref (He.ga K "BadCount")))),
  xcB K (He.ga K "BadCount") [.ref (He.ga K "HooksError"), .type "ValueError", .type "Exception", .type "BaseException", .type "object"] "ValueError.__new__",
  decide (PySem.W.findIn K (.ref (He.ga K "BadCount")) "__setattr__" = some (some (.builtin "object.__setattr__"))),
  decide (PySem.W.findIn K (.ref (He.ga K "BadCount")) "__getattribute__" = some (some (.builtin "BaseException.__getattribute__"))),
  decide (PySem.W.findIn K (.ref (He.ga K "BadCount")) "__getattr__" = some none),
  PySem.W.keepIn K (.ref (He.ga K "BadCount")),
  decide (PySem.W.subIn K (.ref (He.ga K "BadCount")) (.type "BaseException") = some true),
  decide (PySem.W.typeIn K (.ref (He.ga K "BadCount")) = some (.type "type")),
  PySem.W.hasDictIn K (He.ga K "BadCount"),
  decide (PySem.W.findIn K (.ref (He.ga K "BadCount")) "__class__" = some (some (.builtin "object.__class__"))),
  decide (PySem.W.mroIn K (He.ga K "BadCount") (.type "object") = some true),
  decide (PySem.W.subIn K (.ref (He.ga K "BadCount")) (.ref (He.ga K "HooksError")) = some true),
  decide (PySem.W.findIn K (.ref (He.ga K "BadCount")) "__init__" = some (some (.ref (He.ma K (He.ga K "BadCount") "__init__")))),
  decide (PySem.W.typeIn K (.ref (He.ma K (He.ga K "BadCount") "__init__")) = some (.type "function")),
  decide (PySem.W.findIn K (.ref (He.ga K "BadCount")) "what" = some none),
  decide (PySem.W.findIn K (.ref (He.ga K "BadCount")) "count" = some none),
  decide (PySem.W.nsIn K mainGlobals "NoRod" = some (some (.ref (He.ga K "NoRod")))),
  xcB K (He.ga K "NoRod") [.ref (He.ga K "HooksError"), .type "ValueError", .type "Exception", .type "BaseException", .type "object"] "ValueError.__new__",
  decide (PySem.W.findIn K (.ref (He.ga K "NoRod")) "__setattr__" = some (some (.builtin "object.__setattr__"))),
  decide (PySem.W.findIn K (.ref (He.ga K "NoRod")) "__getattribute__" = some (some (.builtin "BaseException.__getattribute__"))),
  decide (PySem.W.findIn K (.ref (He.ga K "NoRod")) "__getattr__" = some none),
  PySem.W.keepIn K (.ref (He.ga K "NoRod")),
  decide (PySem.W.subIn K (.ref (He.ga K "NoRod")) (.type "BaseException") = some true),
  decide (PySem.W.typeIn K (.ref (He.ga K "NoRod")) = some (.type "type"))]
def exL4 (K : PySem.W.Frag) : List Bool := [
  PySem.W.hasDictIn K (He.ga K "NoRod"),
  decide (PySem.W.findIn K (.ref (He.ga K "NoRod")) "__class__" = some (some (.builtin "object.__class__"))),
  decide (PySem.W.mroIn K (He.ga K "NoRod") (.type "object") = some true),
  decide (PySem.W.subIn K (.ref (He.ga K "NoRod")) (.ref (He.ga K "HooksError")) = some true),
  decide (PySem.W.findIn K (.ref (He.ga K "NoRod")) "__init__" = some (some (.ref (He.ma K (He.ga K "NoRod") "__init__")))),
  decide (PySem.W.typeIn K (.ref (He.ma K (He.ga K "NoRod") "__init__")) = some (.type "function")),
  decide (PySem.W.findIn K (.ref (He.ga K "NoRod")) "rod" = some none),
  decide (PySem.W.nsIn K mainGlobals "SameRod" = some (some (.ref (He.ga K "SameRod")))),
  xcB K (He.ga K "SameRod") [.ref (He.ga K "HooksError"), .type "ValueError", .type "Exception", .type "BaseException", .type "object"] "ValueError.__new__",
  decide (PySem.W.findIn K (.ref (He.ga K "SameRod")) "__setattr__" = some (some (.builtin "object.__setattr__"))),
  decide (PySem.W.findIn K (.ref (He.ga K "SameRod")) "__getattribute__" = some (some (.builtin "BaseException.__getattribute__"))),
  decide (PySem.W.findIn K (.ref (He.ga K "SameRod")) "__getattr__" = some none),
  PySem.W.keepIn K (.ref (He.ga K "SameRod")),
  decide (PySem.W.subIn K (.ref (He.ga K "SameRod")) (.type "BaseException") = some true),
  decide (PySem.W.typeIn K (.ref (He.ga K "SameRod")) = some (.type "type")),
  PySem.W.hasDictIn K (He.ga K "SameRod"),
  decide (PySem.W.findIn K (.ref (He.ga K "SameRod")) "__class__" = some (some (.builtin "object.__class__"))),
  decide (PySem.W.mroIn K (He.ga K "SameRod") (.type "object") = some true),
  decide (PySem.W.subIn K (.ref (He.ga K "SameRod")) (.ref (He.ga K "HooksError")) = some true),
  decide (PySem.W.findIn K (.ref (He.ga K "SameRod")) "__init__" = some (some (.ref (He.ma K (He.ga K "SameRod") "__init__")))),
  decide (PySem.W.typeIn K (.ref (He.ma K (He.ga K "SameRod") "__init__")) = some (.type "function")),
  decide (PySem.W.findIn K (.ref (He.ga K "SameRod")) "rod" = some none),
  decide (PySem.W.nsIn K mainGlobals "BadSpan" = some (some (.ref (He.ga K "BadSpan")))),
  xcB K (He.ga K "BadSpan") [.ref (He.ga K "HooksError"), .type "ValueError", .type "Exception", .type "BaseException", .type "object"] "ValueError.__new__",
  decide (PySem.W.findIn K (.ref (He.ga K "BadSpan")) "__setattr__" = some (some (.builtin "object.__setattr__"))),
  decide (PySem.W.findIn K (.ref (He.ga K "BadSpan")) "__getattribute__" = some (some (.builtin "BaseException.__getattribute__"))),
  decide (PySem.W.findIn K (.ref (He.ga K "BadSpan")) "__getattr__" = some none),
  PySem.W.keepIn K (.ref (He.ga K "BadSpan")),
  decide (PySem.W.subIn K (.ref (He.ga K "BadSpan")) (.type "BaseException") = some true),
  decide (PySem.W.typeIn K (.ref (He.ga K "BadSpan")) = some (.type "type")),
  PySem.W.hasDictIn K (He.ga K "BadSpan"),
  decide (PySem.W.findIn K (.ref (He.ga K "BadSpan")) "__class__" = some (some (.builtin "object.__class__"))),
  decide (PySem.W.mroIn K (He.ga K "BadSpan") (.type "object") = some true),
  decide (PySem.W.subIn K (.ref (He.ga K "BadSpan")) (.ref (He.ga K "HooksError")) = some true),
  decide (PySem.W.findIn K (.ref (He.ga K "BadSpan")) "__init__" = some (some (.ref (He.ma K (He.ga K "BadSpan") "__init__")))),
  decide (PySem.W.typeIn K (.ref (He.ma K (He.ga K "BadSpan") "__init__")) = some (.type "function")),
  decide (PySem.W.findIn K (.ref (He.ga K "BadSpan")) "bar" = some none),
  decide (PySem.W.nsIn K mainGlobals "NotSquare" = some (some (.ref (He.ga K "NotSquare")))),
  xcB K (He.ga K "NotSquare") [.ref (He.ga K "HooksError"), .type "ValueError", .type "Exception", .type "BaseException", .type "object"] "ValueError.__new__",
  decide (PySem.W.findIn K (.ref (He.ga K "NotSquare")) "__setattr__" = some (some (.builtin "object.__setattr__")))]
def exL5 (K : PySem.W.Frag) : List Bool := [
  decide (PySem.W.findIn K (.ref (He.ga K "NotSquare")) "__getattribute__" = some (some (.builtin "BaseException.__getattribute__"))),
  decide (PySem.W.findIn K (.ref (He.ga K "NotSquare")) "__getattr__" = some none),
  PySem.W.keepIn K (.ref (He.ga K "NotSquare")),
  decide (PySem.W.subIn K (.ref (He.ga K "NotSquare")) (.type "BaseException") = some true),
  decide (PySem.W.typeIn K (.ref (He.ga K "NotSquare")) = some (.type "type")),
  PySem.W.hasDictIn K (He.ga K "NotSquare"),
  decide (PySem.W.findIn K (.ref (He.ga K "NotSquare")) "__class__" = some (some (.builtin "object.__class__"))),
  decide (PySem.W.mroIn K (He.ga K "NotSquare") (.type "object") = some true),
  decide (PySem.W.subIn K (.ref (He.ga K "NotSquare")) (.ref (He.ga K "HooksError")) = some true),
  decide (PySem.W.findIn K (.ref (He.ga K "NotSquare")) "__init__" = some (some (.ref (He.ma K (He.ga K "NotSquare") "__init__")))),
  decide (PySem.W.typeIn K (.ref (He.ma K (He.ga K "NotSquare") "__init__")) = some (.type "function")),
  decide (PySem.W.findIn K (.ref (He.ga K "NotSquare")) "bars" = some none),
  decide (PySem.W.findIn K (.ref (He.ga K "NotSquare")) "wanted" = some none),
  decide (PySem.W.nsIn K mainGlobals "BadPlace" = some (some (.ref (He.ga K "BadPlace")))),
  xcB K (He.ga K "BadPlace") [.ref (He.ga K "HooksError"), .type "ValueError", .type "Exception", .type "BaseException", .type "object"] "ValueError.__new__",
  decide (PySem.W.findIn K (.ref (He.ga K "BadPlace")) "__setattr__" = some (some (.builtin "object.__setattr__"))),
  decide (PySem.W.findIn K (.ref (He.ga K "BadPlace")) "__getattribute__" = some (some (.builtin "BaseException.__getattribute__"))),
  decide (PySem.W.findIn K (.ref (He.ga K "BadPlace")) "__getattr__" = some none),
  PySem.W.keepIn K (.ref (He.ga K "BadPlace")),
  decide (PySem.W.subIn K (.ref (He.ga K "BadPlace")) (.type "BaseException") = some true),
  decide (PySem.W.typeIn K (.ref (He.ga K "BadPlace")) = some (.type "type")),
  PySem.W.hasDictIn K (He.ga K "BadPlace"),
  decide (PySem.W.findIn K (.ref (He.ga K "BadPlace")) "__class__" = some (some (.builtin "object.__class__"))),
  decide (PySem.W.mroIn K (He.ga K "BadPlace") (.type "object") = some true),
  decide (PySem.W.subIn K (.ref (He.ga K "BadPlace")) (.ref (He.ga K "HooksError")) = some true),
  decide (PySem.W.findIn K (.ref (He.ga K "BadPlace")) "__init__" = some (some (.ref (He.ma K (He.ga K "BadPlace") "__init__")))),
  decide (PySem.W.typeIn K (.ref (He.ma K (He.ga K "BadPlace") "__init__")) = some (.type "function")),
  decide (PySem.W.findIn K (.ref (He.ga K "BadPlace")) "bar" = some none),
  decide ((He.ga K "BadPlace") ≠ (He.ga K "BadCount")),
  decide (PySem.W.subIn K (.ref (He.ga K "BadPlace")) (.ref (He.ga K "BadCount")) = some false),
  decide (PySem.W.nsIn K mainGlobals "abs" = some none),
  decide (PySem.W.nsIn K mainGlobals "len" = some none),
  decide (PySem.W.nsIn K mainGlobals "range" = some none),
  decide (PySem.W.nsIn K mainGlobals "tuple" = some none),
  decide (PySem.W.nsIn K mainGlobals "list" = some none),
  decide (PySem.W.nsIn K mainGlobals "dict" = some none),
  decide (PySem.W.nsIn K mainGlobals "sorted" = some none),
  decide (PySem.W.nsIn K mainGlobals "enumerate" = some none),
  decide (PySem.W.nsIn K mainGlobals "zip" = some none),
  decide (PySem.W.nsIn K mainGlobals "min" = some none)]
def exL6 (K : PySem.W.Frag) : List Bool := [
  decide (PySem.W.nsIn K mainGlobals "all" = some none),
  decide (PySem.W.nsIn K mainGlobals "int" = some none),
  decide (PySem.W.nsIn K mainGlobals "isinstance" = some none),
  decide (PySem.W.nsIn K mainGlobals "type" = some none),
  decide (PySem.W.nsIn K mainGlobals "gcd" = some (some (.builtin "math.gcd"))),
  intB K "LEAST_RODS" 3,
  intB K "MOST_RODS" 10,
  intB K "MOST_BARS" 8,
  intB K "MOST_HEIGHT" 1000000,
  intB K "MOST_LENGTH" 1000000]
def exK (K : PySem.W.Frag) : Bool := [(exL0 K).all id, (exL1 K).all id, (exL2 K).all id, (exL3 K).all id, (exL4 K).all id, (exL5 K).all id, (exL6 K).all id].all id
def dH_check_rods : He.DefD := ⟨("_check_rods", none), "_check_rods", "_check_rods", defArgs s_check_rods, defBody s_check_rods, defScope s_check_rods, [], []⟩
def dH_check_bars : He.DefD := ⟨("_check_bars", none), "_check_bars", "_check_bars", defArgs s_check_bars, defBody s_check_bars, defScope s_check_bars, [], []⟩
def dH_check_bar : He.DefD := ⟨("_check_bar", none), "_check_bar", "_check_bar", defArgs s_check_bar, defBody s_check_bar, defScope s_check_bar, [], []⟩
def dH_divisor : He.DefD := ⟨("divisor", none), "divisor", "divisor", defArgs s_divisor, defBody s_divisor, defScope s_divisor, [], []⟩
def dH_lowest : He.DefD := ⟨("lowest", none), "lowest", "lowest", defArgs s_lowest, defBody s_lowest, defScope s_lowest, [], []⟩
def dH_check_places : He.DefD := ⟨("check_places", none), "check_places", "check_places", defArgs s_check_places, defBody s_check_places, defScope s_check_places, [], []⟩
def dH_is_within : He.DefD := ⟨("is_within", none), "is_within", "is_within", defArgs s_is_within, defBody s_is_within, defScope s_is_within, [], []⟩
def dH_corners : He.DefD := ⟨("corners", none), "corners", "corners", defArgs s_corners, defBody s_corners, defScope s_corners, [], []⟩
def dH_corner_rows : He.DefD := ⟨("corner_rows", none), "corner_rows", "corner_rows", defArgs s_corner_rows, defBody s_corner_rows, defScope s_corner_rows, [], []⟩
def dH_ends : He.DefD := ⟨("ends", none), "ends", "ends", defArgs s_ends, defBody s_ends, defScope s_ends, [], []⟩
def dH_spread : He.DefD := ⟨("spread", none), "spread", "spread", defArgs s_spread, defBody s_spread, defScope s_spread, [], []⟩
def dH_l_cell_at : He.DefD := ⟨("_law_cell_at", none), "_law_cell_at", "_law_cell_at", defArgs s_l_cell_at, defBody s_l_cell_at, defScope s_l_cell_at, [], []⟩
def dH_l_state : He.DefD := ⟨("_law_state", none), "_law_state", "_law_state", defArgs s_l_state, defBody s_l_state, defScope s_l_state, [], []⟩
def dH_l_digit : He.DefD := ⟨("_law_digit", none), "_law_digit", "_law_digit", defArgs s_l_digit, defBody s_l_digit, defScope s_l_digit, [], []⟩
def dH_l_bar : He.DefD := ⟨("_law_bar", none), "_law_bar", "_law_bar", defArgs s_l_bar, defBody s_l_bar, defScope s_l_bar, [], []⟩
def dH_l_web : He.DefD := ⟨("_law_web", none), "_law_web", "_law_web", defArgs s_l_web, defBody s_l_web, defScope s_l_web, [], []⟩
def dH_l_made : He.DefD := ⟨("_law_made", none), "_law_made", "_law_made", defArgs s_l_made, defBody s_l_made, defScope s_l_made, [], []⟩
def dH_l_within : He.DefD := ⟨("_law_within", none), "_law_within", "_law_within", defArgs s_l_within, defBody s_l_within, defScope s_l_within, [], []⟩
def dH_l_corners : He.DefD := ⟨("_law_corners", none), "_law_corners", "_law_corners", defArgs s_l_corners, defBody s_l_corners, defScope s_l_corners, [], []⟩
def dH_l_refusal : He.DefD := ⟨("_law_refusal", none), "_law_refusal", "_law_refusal", defArgs s_l_refusal, defBody s_l_refusal, defScope s_l_refusal, [], []⟩
def dH_l_places_right : He.DefD := ⟨("_law_places_right", none), "_law_places_right", "_law_places_right", defArgs s_l_places_right, defBody s_l_places_right, defScope s_l_places_right, [], []⟩
def dH_law : He.DefD := ⟨("law", none), "law", "law", defArgs s_law, defBody s_law, defScope s_law, [], []⟩
def dH_Places_init : He.DefD := ⟨("Places", some "__init__"), "__init__", "Places.__init__", defArgs s_Places_init, defBody s_Places_init, defScope s_Places_init, [], []⟩
def dH_Places_eq : He.DefD := ⟨("Places", some "__eq__"), "__eq__", "Places.__eq__", defArgs s_Places_eq, defBody s_Places_eq, defScope s_Places_eq, [], []⟩
def dH_Bar_init : He.DefD := ⟨("Bar", some "__init__"), "__init__", "Bar.__init__", defArgs s_Bar_init, defBody s_Bar_init, defScope s_Bar_init, [], []⟩
def dH_Bar_eq : He.DefD := ⟨("Bar", some "__eq__"), "__eq__", "Bar.__eq__", defArgs s_Bar_eq, defBody s_Bar_eq, defScope s_Bar_eq, [], []⟩
def dH_Web_init : He.DefD := ⟨("Web", some "__init__"), "__init__", "Web.__init__", defArgs s_Web_init, defBody s_Web_init, defScope s_Web_init, [], []⟩
def dH_Web_held : He.DefD := ⟨("Web", some "held"), "held", "Web.held", defArgs s_Web_held, defBody s_Web_held, defScope s_Web_held, [], []⟩
def dH_Web_hanging : He.DefD := ⟨("Web", some "hanging"), "hanging", "Web.hanging", defArgs s_Web_hanging, defBody s_Web_hanging, defScope s_Web_hanging, [], []⟩
def dH_Web_eq : He.DefD := ⟨("Web", some "__eq__"), "__eq__", "Web.__eq__", defArgs s_Web_eq, defBody s_Web_eq, defScope s_Web_eq, [], []⟩
def dH_BadCount_init : He.DefD := ⟨("BadCount", some "__init__"), "__init__", "BadCount.__init__", defArgs s_BadCount_init, defBody s_BadCount_init, defScope s_BadCount_init, [], []⟩
def dH_NoRod_init : He.DefD := ⟨("NoRod", some "__init__"), "__init__", "NoRod.__init__", defArgs s_NoRod_init, defBody s_NoRod_init, defScope s_NoRod_init, [], []⟩
def dH_SameRod_init : He.DefD := ⟨("SameRod", some "__init__"), "__init__", "SameRod.__init__", defArgs s_SameRod_init, defBody s_SameRod_init, defScope s_SameRod_init, [], []⟩
def dH_BadSpan_init : He.DefD := ⟨("BadSpan", some "__init__"), "__init__", "BadSpan.__init__", defArgs s_BadSpan_init, defBody s_BadSpan_init, defScope s_BadSpan_init, [], []⟩
def dH_NotSquare_init : He.DefD := ⟨("NotSquare", some "__init__"), "__init__", "NotSquare.__init__", defArgs s_NotSquare_init, defBody s_NotSquare_init, defScope s_NotSquare_init, [], []⟩
def dH_BadPlace_init : He.DefD := ⟨("BadPlace", some "__init__"), "__init__", "BadPlace.__init__", defArgs s_BadPlace_init, defBody s_BadPlace_init, defScope s_BadPlace_init, [], []⟩
def dL0 : List He.DefD := [dH_check_rods, dH_check_bars, dH_check_bar, dH_divisor, dH_lowest, dH_check_places, dH_is_within, dH_corners, dH_corner_rows, dH_ends, dH_spread, dH_l_cell_at, dH_l_state, dH_l_digit, dH_l_bar, dH_l_web, dH_l_made, dH_l_within, dH_l_corners, dH_l_refusal, dH_l_places_right, dH_law, dH_Places_init, dH_Places_eq, dH_Bar_init, dH_Bar_eq, dH_Web_init, dH_Web_held, dH_Web_hanging, dH_Web_eq, dH_BadCount_init, dH_NoRod_init, dH_SameRod_init, dH_BadSpan_init, dH_NotSquare_init, dH_BadPlace_init]
def fnH : List He.DefD := dL0
def faH : List He.Fa := []
def lo0 : List Str := ["HooksError", "BadCount", "NoRod", "SameRod", "BadSpan", "NotSquare", "BadPlace", "divisor", "lowest", "Places", "check_places", "is_within", "corners", "corner_rows", "ends", "spread", "LEAST_RODS", "MOST_RODS", "MOST_BARS", "MOST_HEIGHT", "MOST_LENGTH", "Bar", "Web", "_check_rods", "_check_bars", "_check_bar", "_law_cell_at", "_law_state", "_law_digit", "_law_bar"]
def lo1 : List Str := ["_law_web", "_law_made", "_law_within", "_law_corners", "_law_refusal", "_law_places_right"]
def loH : List Str := lo0 ++ lo1
abbrev RH : PySem.W.OpenRow := PySem.W.OpenLaw.row PySem.Challenge.rw_hookspans_k23_places_and_corners
abbrev qH : Program := PySem.W.view RH.prog [0, 42]
def ad0 : List Addr := [0, 3, 4, 6, 50, 51, 52, 53, 63, 64, 65, 66, 67, 68, 69, 70, 71, 72, 73, 74, 75, 76, 77, 78, 79, 89, 90, 91, 92, 93, 94, 95, 96, 97, 98, 99, 100, 101, 102, 103]
def ad1 : List Addr := [104, 105, 115, 116, 117, 118, 119, 120, 121, 122, 123, 124, 125, 126, 127, 128, 129, 130, 131, 141, 142, 143, 144, 145, 146, 147, 148, 149, 150, 151, 152, 153, 154, 155, 156, 157, 167, 168, 169, 170]
def ad2 : List Addr := [171, 172, 173, 174, 175, 176, 177, 178, 179, 180, 181, 182, 183, 193, 194, 195, 196, 197, 198, 199, 200, 201, 202, 203, 204, 205, 206, 207, 208, 209, 212, 213, 214, 215, 216, 217, 218, 219, 220, 221]
def ad3 : List Addr := [222, 223, 231, 232, 233, 234, 235, 236, 237, 238, 239, 240, 241, 242, 243, 244, 245, 246, 247, 248, 249, 252, 253, 254, 255, 256, 257, 258, 259, 260, 261, 262, 263, 264, 265, 266, 267, 268, 269, 270]
def ad4 : List Addr := [271, 272, 273, 274, 275, 276, 277, 278, 279, 280, 281, 282, 283, 284, 285, 293, 294, 295, 296, 297, 298, 299, 300, 301, 302, 303, 304, 305, 306, 307, 308, 309, 310, 311, 321, 322, 323, 324, 325, 326]
def ad5 : List Addr := [327, 328, 329, 330, 331, 332, 333, 334, 335, 336, 337, 338, 339, 340, 341, 342, 343, 344, 345, 346, 347, 348, 349, 352, 353, 354, 355, 356, 357, 358, 359, 360, 361, 362, 363, 364, 365, 366, 367, 368]
def ad6 : List Addr := [369, 370, 371, 372, 373, 374, 375, 376, 377, 378, 379, 380, 381, 382, 383, 384, 385, 386, 387, 388, 389, 390, 391, 392, 393, 394, 395, 396, 397, 398, 399, 400, 401, 402, 403, 404, 405, 406, 407, 408]
def ad7 : List Addr := [409, 410, 411, 412, 413, 414, 415, 416, 417, 418, 419, 420, 421, 422, 423, 424, 425, 426, 427, 428, 429, 430, 431, 432, 433, 434, 435, 436, 437]
def adH : List Addr := ad0 ++ ad1 ++ ad2 ++ ad3 ++ ad4 ++ ad5 ++ ad6 ++ ad7
def tfH : List He.Defn := [("_law_places_right", none), ("law", none)]
def exT (K : PySem.W.Frag) : Bool := (((exK K && Hk.nameB K "_law_places_right") && Hk.nameB K "law") && decide ((He.cT K ("_law_places_right", none)).2 ≠ (He.cT K ("law", none)).2))
abbrev hkH : PySem.W.Hook := Hk.hookT adH faH fnH tfH exT
def obH (s : PySem.W.SharedT) : He.AlX := Hk.seeT adH faH fnH tfH exT (HandSHeadRun.getT s)
theorem obH_eq (s : PySem.W.SharedT) : obH s = hkH.obs s.abs := Hk.seeT_eq (HandSHeadRun.getT_eq s)
open PySem.W PySem.W.Fast HandSHeadRun in
theorem runA (w : World) : (wholeF (fun p => stepQ (denQ tabQ) p w) fenceQ 9000 RH.prog).map (fun x => (looksF RH.prog x.1.heap x.2.abs, seenQ qH loH (importedModules RH.prog.main.body) (fun s => xlAt qH [] s && recOk RH.toRowW.records s) x.2.abs)) = some (true, openGood qH loH) := by
  kernel_rfl
open PySem.W PySem.W.Fast HandSHeadRun in
theorem runB (w : World) : (wholeF (fun p => stepQ (denQ tabQ) p w) fenceQ 9000 RH.prog).map (fun x => obH x.2) = some (hkH.val w) := by
  kernel_rfl
theorem map_two {α β γ δ : Type} {m : Option α} {f1 : α → β} {f2 : α → γ} {g : α → δ} {b : β} {c : γ} {d : δ} (h1 : m.map (fun x => (f1 x, f2 x)) = some (b, c)) (h2 : m.map g = some d) : m.map (fun x => (f1 x, f2 x, g x)) = some (b, c, d) := by
  cases m with
  | none => cases h1
  | some x =>
    have e1 : (f1 x, f2 x) = (b, c) := Option.some.inj h1
    have e2 : g x = d := Option.some.inj h2
    show some (f1 x, f2 x, g x) = _
    rw [e2, show f1 x = b from congrArg Prod.fst e1, show f2 x = c from congrArg Prod.snd e1]
theorem runH (w : World) : HandSHeadRun.RunEqI RH qH hkH obH 9000 loH w := by
  unfold HandSHeadRun.RunEqI
  exact map_two (runA w) (runB w)
end K23
namespace L2
open PySem PySem.Spec PyProof.Rows LamX
section
variable {P : Program} {w : World} {K : PySem.W.Frag} {mg : Str → Option Value} {base : Heap}
theorem Fun.okXc {x qual : Str} {st : Stmt} {f : Addr} {fd : FuncData} {N ps : List Str} {k : Nat} {sp : Sp} (F : Fun K x qual st f fd) (S : FnScope N ps (defScope st)) (len : ∀ vs H Q E, sp vs H Q E → vs.length = ps.length)
    (hbody : ∀ (A : Around) (outer : List Env) (s : Shared) (H : Hp) (vs : List V) (Q : VK) (E : XK), Room k (A.deeper (envOfC qual (defScope st) s.heap.objs.size f fd.code)) → sp vs H Q E →
      ∃ t, PSs (cxOf (L2.CX P w) P w K mg base N qual (defScope st) f fd.code A outer s H E) (defBody st) t ∧ t { nx := fun _ H' => Q .non H', rt := Q } (start N vs) H) : FnOk P w K mg base (L2.CX P w) (k + 1) f fd ps sp := by
  obtain ⟨oc, od, kV, doc, pm, an, cdv, ct, osl, rfl, lk, hcd⟩ := F.ex
  exact fn_of lk hcd S len fun A outer s H vs Q E hr hsp => hbody A outer s H vs Q E hr hsp
end
/-- all but p and the tables stay -/
def DN (p : Addr) (H H' : Hp) : Prop := ∀ b o, b ≠ p → H b = some o → (∀ ps, o ≠ .tbl ps) → H' b = some o
theorem DN.rfl' {p : Addr} {H : Hp} : DN p H H := fun _ _ _ h _ => h
theorem DN.trans {p : Addr} {H H1 H2 : Hp} (a : DN p H H1) (b : DN p H1 H2) : DN p H H2 := fun c o n h z => b c o n (a c o n h z) z
theorem DN.ofN {p : Addr} {H H' : Hp} (e : ExtN H H') : DN p H H' := fun b o _ h z => e b o h z
theorem DN.of {p : Addr} {H H' : Hp} (e : Ext H H') : DN p H H' := fun b o _ h _ => e b o h
theorem DN.de {p : Addr} {H H' : Hp} (e : DE p H H') : DN p H H' := fun b o n h _ => e.to h n
theorem DN.lst {p q : Addr} {H H' : Hp} {l : List V} (e : DN p H H') (h : H q = some (.lst l)) (n : q ≠ p) : H' q = some (.lst l) := e q _ n h fun _ z => by cases z
theorem tabs_ne {T : List (Addr × Str)} {H : Hp} {p : Addr × Str} {q : Addr} {l : List V} (t : Tabs T H) (hp : p ∈ T) (h : H q = some (.lst l)) : p.1 ≠ q := fun z => by
  obtain ⟨ps, h1, _⟩ := t p hp
  rw [z, h] at h1
  cases h1
/-- the tables are kept by what keeps all but a list -/
theorem tabs_keep {T : List (Addr × Str)} {H H' : Hp} {q : Addr} {l : List V} (t : Tabs T H) (h : H q = some (.lst l)) (e : ∀ b o, b ≠ q → H b = some o → H' b = some o) : Tabs T H' := fun p hp => by
  have n := tabs_ne t hp h
  obtain ⟨ps, h1, h2, h3⟩ := t p hp
  refine ⟨ps, e _ _ n h1, h2, fun pos cv hc => ?_⟩
  obtain ⟨c, e1, e2⟩ := h3 pos cv hc
  exact ⟨c, e1, e c _ (fun z => by
    rw [z, h] at e2
    unfold CodeO at e2
    cases e2) e2⟩
theorem tabs_de {T : List (Addr × Str)} {H H' : Hp} {q : Addr} {l : List V} (t : Tabs T H) (h : H q = some (.lst l)) (e : DE q H H') : Tabs T H' := tabs_keep t h fun b o n z => e.to z n
theorem tabs_upd {T : List (Addr × Str)} {H : Hp} {q : Addr} {l : List V} {o : HO} (t : Tabs T H) (h : H q = some (.lst l)) : Tabs T (L2.upd H q o) := tabs_keep t h fun b o n z => by rw [upd_ne n]; exact z
theorem SqT.extN {K : PySem.W.Frag} {H H' : Hp} {a : Addr} {xs : List V} (e : ExtN H H') (s : SqT K H a xs) : SqT K H' a xs := by
  rcases s with (r | ⟨o, r⟩) | r
  · exact .inl (.inl (e _ _ r fun _ z => by cases z))
  · exact .inl (.inr ⟨o, e _ _ r fun _ z => by cases z⟩)
  · exact .inr r
theorem SqL.extN {K : PySem.W.Frag} {H H' : Hp} {a : Addr} {xs : List V} (e : ExtN H H') (s : SqL K H a xs) : SqL K H' a xs := by
  rcases s with (r | ⟨o, r⟩) | r
  · exact .inl (.inl (e _ _ r fun _ z => by cases z))
  · exact .inl (.inr ⟨o, e _ _ r fun _ z => by cases z⟩)
  · exact .inr r
mutual
theorem Is.extN {K : PySem.W.Frag} {H H' : Hp} (e : ExtN H H') : ∀ {d : Dt} {v : V}, Is K H d v → Is K H' d v
  | .non, _, h => h
  | .bl _, _, h => h
  | .int _, _, h => h
  | .str _, _, h => h
  | .lst _, _, ⟨a, xs, h1, h2, h3⟩ => ⟨a, xs, h1, h2.extN e, IsL.extN e h3⟩
  | .tup _, _, ⟨a, xs, h1, h2, h3⟩ => ⟨a, xs, h1, h2.extN e, IsL.extN e h3⟩
  | .dic _ _, _, ⟨a, kvs, h1, h2, h3, h4⟩ => ⟨a, kvs, h1, e _ _ h2 (fun _ z => by cases z), h3, IsL.extN e h4⟩
  | .ins _ _ _, _, ⟨a, dx, kvs, h1, h2, h3, h4⟩ => ⟨a, dx, kvs, h1, e _ _ h2 (fun _ z => by cases z), h3, IsL.extN e h4⟩
theorem IsL.extN {K : PySem.W.Frag} {H H' : Hp} (e : ExtN H H') : ∀ {ds : List Dt} {vs : List V}, IsL K H ds vs → IsL K H' ds vs
  | [], _, h => h
  | _ :: _, _, ⟨v, r, h1, h2, h3⟩ => ⟨v, r, h1, Is.extN e h2, IsL.extN e h3⟩
end
end L2
namespace Hk
open PySem
/-- a def's code object, as its table is told -/
theorem code_of {K : PySem.W.Frag} {hp : Heap} {mg : Str → Option Value} (KX : K.In hp) (G : hp.Ns mainGlobals mg) {x : Str} {st : Stmt} {a : Addr} {fd : FuncData} (nb : nameB K x = true) (hm : mg x = some (.ref a)) (F : L2.Fun K x x st a fd) : fd.code = .ref (He.cT K (x, none)).1 := by
  have ea : a = He.ga K x := by
    have z := hm.symm.trans (PySem.W.mg_of KX G (of_decide_eq_true nb))
    exact Value.ref.inj (Option.some.inj z)
  obtain ⟨oc, od, kV, doc, pm, an, cdv, ct, osl, ef, lk, hc⟩ := F.ex
  obtain ⟨c, rfl⟩ := He.codeIn_ref hc
  have e : fd.code = .ref c := by rw [ef]
  rw [e]
  congr 1
  exact (He.codeOf_eq (p := (x, none)) (show K.lookup (He.fAd K (x, none)) = some ⟨oc, od, .func fd, osl⟩ by rw [← lk, ea]; rfl) e).symm
end Hk
namespace K23
open PySem L2
section
variable {P : Program} {w : World} {K : PySem.W.Frag} {mg : Str → Option Value} {base : Heap}
def fo1 (f : Str) : List V → List (Str × V) := fun ws => match ws with | [x] => [(f, x)] | _ => []
def fo2 (f g : Str) : List V → List (Str × V) := fun ws => match ws with | [x, y] => [(g, y), (f, x)] | _ => []
theorem ok_BadCount_init (T : Tx K mg) : FnOk P w K mg base CX0 1 T.a_BadCount_init T.fd_BadCount_init ["self", "what", "count"] (spX T.C_BadCount 2 (fo2 "what" "count")) := by
  refine T.F_BadCount_init.ok sc_BadCount_init (fun vs H Q E h => ?_) (fun cdv A outer s H vs Q E hr h => ?_)
  · obtain ⟨H0, a, ws, rfl, hn, _⟩ := h
    rw [List.length_cons, hn] <;> rfl
  · obtain ⟨H0, a, ws, rfl, hn, ha, rfl, k⟩ := h
    match ws, hn with
    | [x, y], _ =>
      refine ⟨_, pss_cons (ps_ost (pv 0) (pv 1)) (pss_one (ps_ost (pv 0) (pv 2))), ?_⟩
      refine ⟨_, rfl, _, rfl, a, T.C_BadCount, rfl, T.O_BadCount, T.nf_BadCount_what, .inl ⟨upd_same, fun d hd hda => ?_⟩⟩
      rw [upd_ne hda] at hd
      rw [exo1 hda]
      refine ⟨_, rfl, _, rfl, a, T.C_BadCount, rfl, T.O_BadCount, T.nf_BadCount_count, .inr ⟨d, _, upd_same, by rw [upd_ne hda, upd_same], by show 1 ≤ 900; decide, ?_⟩⟩
      rw [exo2 hda]
      exact k d hd hda
theorem ok_NotSquare_init (T : Tx K mg) : FnOk P w K mg base CX0 1 T.a_NotSquare_init T.fd_NotSquare_init ["self", "bars", "wanted"] (spX T.C_NotSquare 2 (fo2 "bars" "wanted")) := by
  refine T.F_NotSquare_init.ok sc_NotSquare_init (fun vs H Q E h => ?_) (fun cdv A outer s H vs Q E hr h => ?_)
  · obtain ⟨H0, a, ws, rfl, hn, _⟩ := h
    rw [List.length_cons, hn] <;> rfl
  · obtain ⟨H0, a, ws, rfl, hn, ha, rfl, k⟩ := h
    match ws, hn with
    | [x, y], _ =>
      refine ⟨_, pss_cons (ps_ost (pv 0) (pv 1)) (pss_one (ps_ost (pv 0) (pv 2))), ?_⟩
      refine ⟨_, rfl, _, rfl, a, T.C_NotSquare, rfl, T.O_NotSquare, T.nf_NotSquare_bars, .inl ⟨upd_same, fun d hd hda => ?_⟩⟩
      rw [upd_ne hda] at hd
      rw [exo1 hda]
      refine ⟨_, rfl, _, rfl, a, T.C_NotSquare, rfl, T.O_NotSquare, T.nf_NotSquare_wanted, .inr ⟨d, _, upd_same, by rw [upd_ne hda, upd_same], by show 1 ≤ 900; decide, ?_⟩⟩
      rw [exo2 hda]
      exact k d hd hda
theorem ok_NoRod_init (T : Tx K mg) : FnOk P w K mg base CX0 1 T.a_NoRod_init T.fd_NoRod_init ["self", "rod"] (spX T.C_NoRod 1 (fo1 "rod")) := by
  refine T.F_NoRod_init.ok sc_NoRod_init (fun vs H Q E h => ?_) (fun cdv A outer s H vs Q E hr h => ?_)
  · obtain ⟨H0, a, ws, rfl, hn, _⟩ := h
    rw [List.length_cons, hn] <;> rfl
  · obtain ⟨H0, a, ws, rfl, hn, ha, rfl, k⟩ := h
    match ws, hn with
    | [x], _ =>
      refine ⟨_, pss_one (ps_ost (pv 0) (pv 1)), ?_⟩
      refine ⟨_, rfl, _, rfl, a, T.C_NoRod, rfl, T.O_NoRod, T.nf_NoRod_rod, .inl ⟨upd_same, fun d hd hda => ?_⟩⟩
      rw [upd_ne hda] at hd
      rw [exo1 hda]
      exact k d hd hda
theorem ok_SameRod_init (T : Tx K mg) : FnOk P w K mg base CX0 1 T.a_SameRod_init T.fd_SameRod_init ["self", "rod"] (spX T.C_SameRod 1 (fo1 "rod")) := by
  refine T.F_SameRod_init.ok sc_SameRod_init (fun vs H Q E h => ?_) (fun cdv A outer s H vs Q E hr h => ?_)
  · obtain ⟨H0, a, ws, rfl, hn, _⟩ := h
    rw [List.length_cons, hn] <;> rfl
  · obtain ⟨H0, a, ws, rfl, hn, ha, rfl, k⟩ := h
    match ws, hn with
    | [x], _ =>
      refine ⟨_, pss_one (ps_ost (pv 0) (pv 1)), ?_⟩
      refine ⟨_, rfl, _, rfl, a, T.C_SameRod, rfl, T.O_SameRod, T.nf_SameRod_rod, .inl ⟨upd_same, fun d hd hda => ?_⟩⟩
      rw [upd_ne hda] at hd
      rw [exo1 hda]
      exact k d hd hda
theorem ok_BadSpan_init (T : Tx K mg) : FnOk P w K mg base CX0 1 T.a_BadSpan_init T.fd_BadSpan_init ["self", "bar"] (spX T.C_BadSpan 1 (fo1 "bar")) := by
  refine T.F_BadSpan_init.ok sc_BadSpan_init (fun vs H Q E h => ?_) (fun cdv A outer s H vs Q E hr h => ?_)
  · obtain ⟨H0, a, ws, rfl, hn, _⟩ := h
    rw [List.length_cons, hn] <;> rfl
  · obtain ⟨H0, a, ws, rfl, hn, ha, rfl, k⟩ := h
    match ws, hn with
    | [x], _ =>
      refine ⟨_, pss_one (ps_ost (pv 0) (pv 1)), ?_⟩
      refine ⟨_, rfl, _, rfl, a, T.C_BadSpan, rfl, T.O_BadSpan, T.nf_BadSpan_bar, .inl ⟨upd_same, fun d hd hda => ?_⟩⟩
      rw [upd_ne hda] at hd
      rw [exo1 hda]
      exact k d hd hda
inductive Rf where
  | cnt (what : Str) (n : Int) | rod (n : Int) | same (n : Int) | span (n : Int) | sq (a b : Int)
def Rf.fs : Rf → List (Str × V)
  | .cnt x n => [("count", .int n), ("what", .str x)]
  | .rod n => [("rod", .int n)]
  | .same n => [("rod", .int n)]
  | .span n => [("bar", .int n)]
  | .sq a b => [("wanted", .int b), ("bars", .int a)]
def Rf.C (T : Tx K mg) : Rf → Addr
  | .cnt _ _ => T.C_BadCount
  | .rod _ => T.C_NoRod
  | .same _ => T.C_SameRod
  | .span _ => T.C_BadSpan
  | .sq _ _ => T.C_NotSquare
def Rf.E (T : Tx K mg) (r : Rf) (E : XK) (H : Hp) : Prop := ∀ d H', Ext H H' → H d = none → H' d = some (.xd r.fs) → E (.ref (r.C T)) (some d) H'
structure BarD where
  a : Int
  b : Int
  c : Int
  len : Int
  lo : Int
  hi : Int
  deriving DecidableEq
abbrev brF : List Str := ["a", "b", "c", "length", "least", "greatest"]
def brV (b : BarD) : List V := [.int b.a, .int b.b, .int b.c, .int b.len, .int b.lo, .int b.hi]
def brT (b : BarD) : List Dt := [.int b.a, .int b.b, .int b.c, .int b.len, .int b.lo, .int b.hi]
def brD (C : Addr) (b : BarD) : Dt := .ins C brF (brT b)
theorem br_fields {C : Addr} {H : Hp} {b : BarD} {v : V} (i : Is K H (brD C b) v) : ∃ a dx, v = .ref a ∧ H a = some (.ins C dx [("a", .int b.a), ("b", .int b.b), ("c", .int b.c), ("length", .int b.len), ("least", .int b.lo), ("greatest", .int b.hi)]) := by
  obtain ⟨a, dx, kvs, rfl, ha, ek, hl⟩ := i
  obtain ⟨v1, r1, e1, f1, v2, r2, e2, f2, v3, r3, e3, f3, v4, r4, e4, f4, v5, r5, e5, f5, v6, r6, e6, f6, e7⟩ := hl
  subst e7 e6 e5 e4 e3 e2
  cases (show v1 = _ from f1)
  cases (show v2 = _ from f2)
  cases (show v3 = _ from f3)
  cases (show v4 = _ from f4)
  cases (show v5 = _ from f5)
  cases (show v6 = _ from f6)
  refine ⟨a, dx, rfl, ?_⟩
  match kvs, ek, e1 with
  | [(x1, y1), (x2, y2), (x3, y3), (x4, y4), (x5, y5), (x6, y6)], ek, e1 =>
    simp only [List.map_cons, List.map_nil] at ek e1
    injection ek with g1 ek
    injection ek with g2 ek
    injection ek with g3 ek
    injection ek with g4 ek
    injection ek with g5 ek
    injection ek with g6 _
    injection e1 with h1 e1
    injection e1 with h2 e1
    injection e1 with h3 e1
    injection e1 with h4 e1
    injection e1 with h5 e1
    injection e1 with h6 _
    subst g1 g2 g3 g4 g5 g6 h1 h2 h3 h4 h5 h6
    exact ha
theorem br_is {C a dx : Addr} {H : Hp} {b : BarD} (h : H a = some (.ins C dx [("a", .int b.a), ("b", .int b.b), ("c", .int b.c), ("length", .int b.len), ("least", .int b.lo), ("greatest", .int b.hi)])) : Is K H (brD C b) (.ref a) :=
  ⟨a, dx, _, rfl, h, rfl, _, _, rfl, rfl, _, _, rfl, rfl, _, _, rfl, rfl, _, _, rfl, rfl, _, _, rfl, rfl, _, _, rfl, rfl, rfl⟩
def spBar (K : PySem.W.Frag) (C : Addr) : Sp := fun vs H Q _ => ∃ (H0 : Hp) (x dx : Addr) (b : BarD), vs = .ref x :: brV b ∧ H0 x = none ∧ H0 dx = none ∧ dx ≠ x ∧ H = upd (upd H0 dx (.own x)) x (.ins C dx []) ∧ ∀ H', Ext H0 H' → Is K H' (brD C b) (.ref x) → Q .non H'
theorem ok_Bar_init (T : Tx K mg) : FnOk P w K mg base (L2.CX P w) 2 T.a_Bar_init T.fd_Bar_init ["self", "a", "b", "c", "length", "least", "greatest"] (spBar K T.C_Bar) := by
  refine T.F_Bar_init.okX sc_Bar_init (fun vs H Q E h => ?_) (fun cdv A outer s H vs Q E hr h => ?_)
  · obtain ⟨H0, x, dx, b, rfl, _⟩ := h
    rfl
  · obtain ⟨H0, x, dx, b, rfl, hx, hdx, hne, rfl, k⟩ := h
    refine ⟨_, (pss_cons (ps_fld (pv 0) (pv 1) rfl)
      (pss_cons (ps_fld (pv 0) (pv 2) rfl)
      (pss_cons (ps_fld (pv 0) (pv 3) rfl)
      (pss_cons (ps_fld (pv 0) (pv 4) rfl)
      (pss_cons (ps_fld (pv 0) (pv 5) rfl)
      (pss_one (ps_fld (pv 0) (pv 6) rfl))))))), ?_⟩
    have eH : Ext H0 (upd (upd H0 dx (.own x)) x (.ins T.C_Bar dx [])) := (Ext.upd hdx).mut hx
    refine ⟨_, rfl, _, rfl, x, T.C_Bar, dx, _, rfl, upd_same, T.c_Bar, T.nf_Bar_a, (by show 0 < 1000; decide), ?_⟩
    refine ⟨_, rfl, _, rfl, x, T.C_Bar, dx, _, rfl, upd_same, T.c_Bar, T.nf_Bar_b, (by show 1 < 1000; decide), ?_⟩
    refine ⟨_, rfl, _, rfl, x, T.C_Bar, dx, _, rfl, upd_same, T.c_Bar, T.nf_Bar_c, (by show 2 < 1000; decide), ?_⟩
    refine ⟨_, rfl, _, rfl, x, T.C_Bar, dx, _, rfl, upd_same, T.c_Bar, T.nf_Bar_length, (by show 3 < 1000; decide), ?_⟩
    refine ⟨_, rfl, _, rfl, x, T.C_Bar, dx, _, rfl, upd_same, T.c_Bar, T.nf_Bar_least, (by show 4 < 1000; decide), ?_⟩
    refine ⟨_, rfl, _, rfl, x, T.C_Bar, dx, _, rfl, upd_same, T.c_Bar, T.nf_Bar_greatest, (by show 5 < 1000; decide), ?_⟩
    exact k _ ((((((eH.mut hx).mut hx).mut hx).mut hx).mut hx).mut hx) (br_is (dx := dx) upd_same)
end
end K23
namespace K23
open PySem L2
section
variable {P : Program} {w : World} {K : PySem.W.Frag} {mg : Str → Option Value} {base : Heap}
theorem find_at {α : Type} {p : α → Bool} : ∀ {xs : List α} {i : Nat} {r : α}, (∀ j x, j < i → xs[j]? = some x → p x = false) → xs[i]? = some r → p r = true → xs.find? p = some r
  | [], _, _, _, h, _ => by simp at h
  | x :: xs, 0, r, _, h, hp => by
    cases (show some x = some r from h)
    rw [List.find?_cons, hp]
  | x :: xs, i + 1, r, hb, h, hp => by
    rw [List.find?_cons, hb 0 x (Nat.succ_pos _) rfl]
    exact find_at (xs := xs) (i := i) (fun j y hj e => hb (j + 1) y (Nat.succ_lt_succ hj) e) h hp
theorem find_no {α : Type} {p : α → Bool} {xs : List α} (h : ∀ (j : Nat) (x : α), xs[j]? = some x → p x = false) : xs.find? p = none := by
  rw [List.find?_eq_none]
  intro x hx
  obtain ⟨j, hj⟩ := List.getElem?_of_mem hx
  rw [h j x hj]
  exact Bool.false_ne_true
def offRod (n r : Int) : Bool := !(decide (0 ≤ r) && decide (r < n))
def ckBar (n k : Int) (b : BarD) : Option Rf :=
  match [b.a, b.b, b.c].find? (offRod n) with
  | some r => some (.rod r)
  | none => if b.b = b.a then some (.same b.b) else if b.c = b.a ∨ b.c = b.b then some (.same b.c) else if ¬ (1 ≤ b.len ∧ b.len ≤ 1000000) then some (.cnt "length" b.len) else if ¬ (0 ≤ b.lo ∧ b.lo ≤ b.hi ∧ b.hi ≤ b.len) then some (.span k) else none
def spCkBar (K : PySem.W.Frag) (T : Tx K mg) : Sp := fun vs H Q E => ∃ (n k : Int) (v : V) (b : BarD), vs = [.int n, .int k, v] ∧ Is K H (brD T.C_Bar b) v ∧ (∀ r, ckBar n k b = some r → r.E T E H) ∧ (ckBar n k b = none → ∀ H', Ext H H' → Q .non H')
theorem ok_check_bar (T : Tx K mg) : FnOk P w K mg base (L2.CX P w) 4 T.a_check_bar T.fd_check_bar ["rods", "number", "bar"] (spCkBar K T) := by
  refine T.F_check_bar.okX sc_check_bar (fun vs H Q E h => ?_) (fun cdv A outer s H vs Q E hr h => ?_)
  · obtain ⟨n, k, v, b, rfl, _⟩ := h
    rfl
  · obtain ⟨n, k, v, b, rfl, hb, kE, kQ⟩ := h
    refine ⟨_, (pss_cons (ps_for (passes_of rfl) rfl (pi_tup (pe_tup (pa_cons (pe_fld (pv 2) rfl) (pa_cons (pe_fld (pv 2) rfl) (pa_cons (pe_fld (pv 2) rfl) pa_nil))))) (pg_name (i := 3) sc_check_bar.nd rfl (Or.inl rfl)) (pss_one (ps_if (pt_not (pt_chain op_le op_lt pe_int (pv 3) (pv 0))) (pss_one (ps_raiseX T.X_NoRod (ok_NoRod_init T) (hr.mono (by decide)) rfl (takes_of rfl rfl rfl rfl) rfl (pa_cons (pv 3) pa_nil))) pss_nil)))
      (pss_cons (ps_if (pt_cmpR op_eq (pe_fld (pv 2) rfl) (pe_fld (pv 2) rfl) (nomark _)) (pss_one (ps_raiseX T.X_SameRod (ok_SameRod_init T) (hr.mono (by decide)) rfl (takes_of rfl rfl rfl rfl) rfl (pa_cons (pe_fld (pv 2) rfl) pa_nil))) pss_nil)
      (pss_cons (ps_if (pt_cmpR op_in_seq (pe_fld (pv 2) rfl) (pe_tup (pa_cons (pe_fld (pv 2) rfl) (pa_cons (pe_fld (pv 2) rfl) pa_nil))) rfl) (pss_one (ps_raiseX T.X_SameRod (ok_SameRod_init T) (hr.mono (by decide)) rfl (takes_of rfl rfl rfl rfl) rfl (pa_cons (pe_fld (pv 2) rfl) pa_nil))) pss_nil)
      (pss_cons (ps_if (pt_not (pt_chain op_le op_le pe_int (pe_fld (pv 2) rfl) (pe_glob (v := .int 1000000) rfl T.m_MOST_LENGTH ⟨_, rfl⟩))) (pss_one (ps_raiseX T.X_BadCount (ok_BadCount_init T) (hr.mono (by decide)) rfl (takes_of rfl rfl rfl rfl) rfl (pa_cons pe_str (pa_cons (pe_fld (pv 2) rfl) pa_nil)))) pss_nil)
      (pss_one (ps_if (pt_not (pt_chain3 op_le op_le op_le pe_int (pe_fld (pv 2) rfl) (pe_fld (pv 2) rfl) (pe_fld (pv 2) rfl))) (pss_one (ps_raiseX T.X_BadSpan (ok_BadSpan_init T) (hr.mono (by decide)) rfl (takes_of rfl rfl rfl rfl) rfl (pa_cons (pv 1) pa_nil))) pss_nil)))))), ?_⟩
    obtain ⟨ba, bdx, rfl, hba⟩ := br_fields hb
    refine ⟨_, rfl, ba, T.C_Bar, bdx, _, _, rfl, hba, T.c_Bar, T.nf_Bar_a, rfl, ?_⟩
    refine ⟨_, rfl, ba, T.C_Bar, bdx, _, _, rfl, hba, T.c_Bar, T.nf_Bar_b, rfl, ?_⟩
    refine ⟨_, rfl, ba, T.C_Bar, bdx, _, _, rfl, hba, T.c_Bar, T.nf_Bar_c, rfl, by show 3 ≤ sizeLine; decide, fun t ht => ?_⟩
    refine ⟨t, rfl, ⟨_, SqT.of upd_same⟩, for_tup (K := K) (a := t) (xs := [b.a, b.b, b.c].map V.int) (fun i σ H' => Ext H H' ∧ H' t = some (.tup ([b.a, b.b, b.c].map V.int)) ∧ (∀ j x, j < i → [b.a, b.b, b.c][j]? = some x → offRod n x = false) ∧ ∃ v3 : Option V, σ = [some (.int n), some (.int k), some (.ref ba), v3])
      ⟨Ext.upd ht, upd_same, fun j x hj => absurd hj (Nat.not_lt_zero _), none, rfl⟩ (fun i σ H' _ p => SqT.of p.2.1) ?_ ?_⟩
    · rintro i y σ H1 hi ⟨e1, ht1, hno, v3, rfl⟩
      obtain ⟨r, hr', rfl⟩ : ∃ r, [b.a, b.b, b.c][i]? = some r ∧ y = V.int r := by
        rw [List.getElem?_map] at hi
        cases e : [b.a, b.b, b.c][i]? with
        | none => rw [e] at hi; cases hi
        | some n => rw [e] at hi; exact ⟨n, rfl, (Option.some.inj hi).symm⟩
      have bad : offRod n r = true → ckBar n k b = some (.rod r) := fun ho => by
        unfold ckBar
        rw [find_at hno hr' ho]
      have rz : offRod n r = true → ∀ d, H1 d = none → E (.ref T.C_NoRod) (some d) (upd H1 d (.xd (fo1 "rod" [V.int r]))) := fun ho d hd =>
        kE _ (bad ho) d _ (e1.trans (Ext.upd hd)) (e1.fresh hd) upd_same
      refine ⟨_, rfl, _, _, rfl, rfl, _, rfl, ite2 (fun c0 => ?_) (fun c0 => ?_)⟩
      · refine ⟨_, rfl, _, _, rfl, rfl, _, rfl, ite2 (fun c1 => ?_) (fun c1 => ?_)⟩
        · refine ⟨_, rfl, rz_ok (n := 1) rfl (by decide) (rz ?_)⟩
          unfold offRod
          rw [c0, Bool.true_and]
          exact c1
        · refine ⟨e1, ht1, fun j x hj hx => ?_, _, rfl⟩
          by_cases hji : j = i
          · subst hji
            rw [hr'] at hx
            cases hx
            unfold offRod
            rw [c0, Bool.true_and]
            exact Bool.eq_false_iff.mpr c1
          · exact hno j x (by omega) hx
      · refine ⟨_, rfl, ite2 (fun c1 => ?_) (fun c1 => absurd rfl c1)⟩
        refine ⟨_, rfl, rz_ok (n := 1) rfl (by decide) (rz ?_)⟩
        unfold offRod
        rw [Bool.eq_false_iff.mpr c0]
        rfl
    · rintro σ H1 ⟨e1, ht1, hno, v3, rfl⟩
      have hnone : [b.a, b.b, b.c].find? (offRod n) = none := find_no fun j x hx => hno j x (by
        have := (List.getElem?_eq_some_iff.mp hx).1
        exact this) hx
      have hba1 := e1 _ _ hba
      refine ⟨_, rfl, ba, T.C_Bar, bdx, _, _, rfl, hba1, T.c_Bar, T.nf_Bar_b, rfl, ?_⟩
      refine ⟨_, rfl, ba, T.C_Bar, bdx, _, _, rfl, hba1, T.c_Bar, T.nf_Bar_a, rfl, rfl, _, rfl, ite2 (fun c0 => ?_) (fun c0 => ?_)⟩
      · have hba2 : b.b = b.a := V.int.inj (of_decide_eq_true c0)
        refine ⟨_, rfl, ba, T.C_Bar, bdx, _, _, rfl, hba1, T.c_Bar, T.nf_Bar_b, rfl, rz_ok (n := 1) rfl (by decide) fun d hd => ?_⟩
        refine kE (.same b.b) ?_ d _ (e1.trans (Ext.upd hd)) (e1.fresh hd) upd_same
        unfold ckBar
        rw [hnone]
        exact if_pos hba2
      have n1 : ¬ b.b = b.a := fun z => c0 (decide_eq_true (congrArg V.int z))
      refine ⟨_, rfl, ba, T.C_Bar, bdx, _, _, rfl, hba1, T.c_Bar, T.nf_Bar_c, rfl, ?_⟩
      refine ⟨_, rfl, ba, T.C_Bar, bdx, _, _, rfl, hba1, T.c_Bar, T.nf_Bar_a, rfl, ?_⟩
      refine ⟨_, rfl, ba, T.C_Bar, bdx, _, _, rfl, hba1, T.c_Bar, T.nf_Bar_b, rfl, by show 2 ≤ sizeLine; decide, fun t2 ht2 => ?_⟩
      have e2 : Ext H (upd H1 t2 (.tup [.int b.a, .int b.b])) := e1.trans (Ext.upd ht2)
      have hba2 := Ext.upd (o := HO.tup [.int b.a, .int b.b]) ht2 _ _ hba1
      refine ⟨_, _, rfl, .inr (SqT.of upd_same), rfl, rfl, ?_⟩
      generalize upd H1 t2 (.tup [.int b.a, .int b.b]) = H2 at e2 hba2 ⊢
      have hin : inV (.int b.c) [.int b.a, .int b.b] = decide (b.c = b.a ∨ b.c = b.b) := by
        show (b.a == b.c || (b.b == b.c || false)) = _
        rw [Bool.or_false, Bool.eq_iff_iff, Bool.or_eq_true, decide_eq_true_iff, beq_iff_eq, beq_iff_eq]
        exact ⟨fun h => h.imp Eq.symm Eq.symm, fun h => h.imp Eq.symm Eq.symm⟩
      rw [if_neg Bool.false_ne_true, hin]
      refine ⟨_, rfl, ite2 (fun c1 => ?_) (fun c1 => ?_)⟩
      · refine ⟨_, rfl, ba, T.C_Bar, bdx, _, _, rfl, hba2, T.c_Bar, T.nf_Bar_c, rfl, rz_ok (n := 1) rfl (by decide) fun d hd => ?_⟩
        refine kE (.same b.c) ?_ d _ (e2.trans (Ext.upd hd)) (e2.fresh hd) upd_same
        unfold ckBar
        rw [hnone]
        show (if _ then _ else _) = _
        rw [if_neg n1, if_pos (of_decide_eq_true c1)]
      have n2 : ¬ (b.c = b.a ∨ b.c = b.b) := fun z => c1 (decide_eq_true z)
      have r4 : ¬ (1 ≤ b.len ∧ b.len ≤ 1000000) → ckBar n k b = some (.cnt "length" b.len) := fun z => by
        unfold ckBar
        rw [hnone]
        show (if _ then _ else _) = _
        rw [if_neg n1, if_neg n2, if_pos z]
      have rz4 : ¬ (1 ≤ b.len ∧ b.len ≤ 1000000) → ∀ d, H2 d = none → E (.ref T.C_BadCount) (some d) (upd H2 d (.xd (fo2 "what" "count" [V.str "length", V.int b.len]))) := fun z d hd =>
        kE _ (r4 z) d _ (e2.trans (Ext.upd hd)) (e2.fresh hd) upd_same
      refine ⟨_, rfl, ba, T.C_Bar, bdx, _, _, rfl, hba2, T.c_Bar, T.nf_Bar_length, rfl, _, _, rfl, rfl, _, rfl, ite2 (fun c2 => ?_) (fun c2 => ?_)⟩
      · refine ⟨_, _, rfl, rfl, _, rfl, ite2 (fun c3 => ?_) (fun c3 => ?_)⟩
        · refine ⟨_, rfl, ba, T.C_Bar, bdx, _, _, rfl, hba2, T.c_Bar, T.nf_Bar_length, rfl, rz_ok (n := 2) rfl (by decide) (rz4 fun z => ?_)⟩
          rw [decide_eq_true z.2] at c3
          cases c3
        have ok4 : 1 ≤ b.len ∧ b.len ≤ 1000000 := ⟨of_decide_eq_true c2, Classical.byContradiction fun z => c3 (by rw [decide_eq_false z]; rfl)⟩
        have r5 : ¬ (0 ≤ b.lo ∧ b.lo ≤ b.hi ∧ b.hi ≤ b.len) → ckBar n k b = some (.span k) := fun z => by
          unfold ckBar
          rw [hnone]
          show (if _ then _ else _) = _
          rw [if_neg n1, if_neg n2, if_neg (fun y => y ok4), if_pos z]
        have rz5 : ¬ (0 ≤ b.lo ∧ b.lo ≤ b.hi ∧ b.hi ≤ b.len) → ∀ d, H2 d = none → E (.ref T.C_BadSpan) (some d) (upd H2 d (.xd (fo1 "bar" [V.int k]))) := fun z d hd =>
          kE _ (r5 z) d _ (e2.trans (Ext.upd hd)) (e2.fresh hd) upd_same
        refine ⟨_, rfl, ba, T.C_Bar, bdx, _, _, rfl, hba2, T.c_Bar, T.nf_Bar_least, rfl, _, _, rfl, rfl, _, rfl, ite2 (fun c4 => ?_) (fun c4 => ?_)⟩
        · refine ⟨_, rfl, ba, T.C_Bar, bdx, _, _, rfl, hba2, T.c_Bar, T.nf_Bar_greatest, rfl, _, _, rfl, rfl, _, rfl, ite2 (fun c5 => ?_) (fun c5 => ?_)⟩
          · refine ⟨_, rfl, ba, T.C_Bar, bdx, _, _, rfl, hba2, T.c_Bar, T.nf_Bar_length, rfl, _, _, rfl, rfl, _, rfl, ite2 (fun c6 => ?_) (fun c6 => ?_)⟩
            · refine ⟨_, rfl, rz_ok (n := 1) rfl (by decide) (rz5 fun z => ?_)⟩
              rw [decide_eq_true z.2.2] at c6
              cases c6
            · have ok5 : 0 ≤ b.lo ∧ b.lo ≤ b.hi ∧ b.hi ≤ b.len := ⟨of_decide_eq_true c4, of_decide_eq_true c5, Classical.byContradiction fun z => c6 (by rw [decide_eq_false z]; rfl)⟩
              refine kQ ?_ _ e2
              unfold ckBar
              rw [hnone]
              show (if _ then _ else _) = _
              rw [if_neg n1, if_neg n2, if_neg (fun y => y ok4), if_neg (fun y => y ok5)]
          · exact iteT ⟨_, rfl, rz_ok (n := 1) rfl (by decide) (rz5 fun z => c5 (decide_eq_true z.2.1))⟩
        · exact iteT ⟨_, rfl, rz_ok (n := 1) rfl (by decide) (rz5 fun z => c4 (decide_eq_true z.1))⟩
      · refine ⟨_, rfl, iteT ?_⟩
        exact ⟨_, rfl, ba, T.C_Bar, bdx, _, _, rfl, hba2, T.c_Bar, T.nf_Bar_length, rfl, rz_ok (n := 2) rfl (by decide) (rz4 fun z => c2 (decide_eq_true z.1))⟩
end
end K23
namespace K23
open PySem L2
section
variable {P : Program} {w : World} {K : PySem.W.Frag} {mg : Str → Option Value} {base : Heap}
def ckFrom (n : Int) : Nat → List BarD → Option Rf
  | _, [] => none
  | k, b :: r => match ckBar n (k : Nat) b with
    | some x => some x
    | none => ckFrom n (k + 1) r
theorem ck_at {n : Int} : ∀ {bs : List BarD} {k i : Nat} {b : BarD} {r : Rf}, (∀ (j : Nat) (c : BarD), j < i → bs[j]? = some c → ckBar n ((k + j : Nat) : Int) c = none) → bs[i]? = some b → ckBar n ((k + i : Nat) : Int) b = some r → ckFrom n k bs = some r
  | [], _, _, _, _, _, h, _ => by simp at h
  | c :: bs, k, 0, b, r, _, h, hp => by
    cases (show some c = some b from h)
    unfold ckFrom
    rw [show ckBar n (k : Nat) c = some r from hp]
  | c :: bs, k, i + 1, b, r, hb, h, hp => by
    unfold ckFrom
    rw [show ckBar n (k : Nat) c = none from hb 0 c (Nat.succ_pos _) rfl]
    exact ck_at (bs := bs) (k := k + 1) (i := i) (fun j y hj e => by
      rw [Nat.succ_add]
      exact hb (j + 1) y (Nat.succ_lt_succ hj) e) h (by rw [Nat.succ_add]; exact hp)
theorem ck_no {n : Int} : ∀ {bs : List BarD} {k : Nat}, (∀ (j : Nat) (c : BarD), bs[j]? = some c → ckBar n ((k + j : Nat) : Int) c = none) → ckFrom n k bs = none
  | [], _, _ => rfl
  | c :: bs, k, h => by
    unfold ckFrom
    rw [show ckBar n (k : Nat) c = none from h 0 c rfl]
    exact ck_no (bs := bs) (k := k + 1) fun j y e => by
      rw [Nat.succ_add]
      exact h (j + 1) y e
def ckBars (n : Int) (m : Nat) (bs : List BarD) : Option Rf :=
  if ¬ (1 ≤ (bs.length : Int) ∧ (bs.length : Int) ≤ 8) then some (.cnt "bars" bs.length) else if ¬ (bs.length : Int) = n - m then some (.sq bs.length (n - m)) else ckFrom n 0 bs
def hK (hl : List (Int × Int)) : List (Key × V) := hl.map fun p => (Sum.inl p.1, V.int p.2)
theorem isL_len {K : PySem.W.Frag} {H : Hp} : ∀ {ds : List Dt} {vs : List V}, IsL K H ds vs → vs.length = ds.length
  | [], _, h => by cases h; rfl
  | d :: ds, _, ⟨v, r, e, _, h⟩ => by
    subst e
    rw [List.length_cons, List.length_cons, isL_len (ds := ds) h]
def spCkBars (K : PySem.W.Frag) (T : Tx K mg) : Sp := fun vs H Q E => ∃ (n : Int) (hd bl : Addr) (hl : List (Int × Int)) (bs : List BarD) (ws : List V), vs = [.int n, .ref hd, .ref bl] ∧ H hd = some (.dK (hK hl)) ∧ SqQ K H bl ws ∧ IsL K H (bs.map (brD T.C_Bar)) ws ∧
  (∀ r, ckBars n hl.length bs = some r → r.E T E H) ∧ (ckBars n hl.length bs = none → ∀ H', Ext H H' → Q .non H')
theorem ok_check_bars (T : Tx K mg) : FnOk P w K mg base (L2.CX P w) 6 T.a_check_bars T.fd_check_bars ["rods", "held", "bars"] (spCkBars K T) := by
  refine T.F_check_bars.okX sc_check_bars (fun vs H Q E h => ?_) (fun cdv A outer s H vs Q E hr h => ?_)
  · obtain ⟨n, hd, bl, hl, bs, ws, rfl, _⟩ := h
    rfl
  · obtain ⟨n, hd, bl, hl, bs, ws, rfl, hhd, hbl, hbs, kE, kQ⟩ := h
    refine ⟨_, (pss_cons (ps_if (pt_not (pt_chain op_le op_le pe_int (pe_callB call_len_seq (by rfl) T.z_len PySem.boot_len (pa_cons (pv 2) pa_nil)) (pe_glob (v := .int 8) rfl T.m_MOST_BARS ⟨_, rfl⟩))) (pss_one (ps_raiseX T.X_BadCount (ok_BadCount_init T) (hr.mono (by decide)) rfl (takes_of rfl rfl rfl rfl) rfl (pa_cons pe_str (pa_cons (pe_callB call_len_seq (by rfl) T.z_len PySem.boot_len (pa_cons (pv 2) pa_nil)) pa_nil)))) pss_nil)
      (pss_cons (ps_set (i := 3) sc_check_bars.nd rfl (Or.inl rfl) (pe_op op_sub (pv 0) (pe_callB call_lenD (by rfl) T.z_len PySem.boot_len (pa_cons (pv 1) pa_nil))))
      (pss_cons (ps_if (pt_cmpR op_ne (pe_callB call_len_seq (by rfl) T.z_len PySem.boot_len (pa_cons (pv 2) pa_nil)) (pv 3) (nomark _)) (pss_one (ps_raiseX T.X_NotSquare (ok_NotSquare_init T) (hr.mono (by decide)) rfl (takes_of rfl rfl rfl rfl) rfl (pa_cons (pe_callB call_len_seq (by rfl) T.z_len PySem.boot_len (pa_cons (pv 2) pa_nil)) (pa_cons (pv 3) pa_nil)))) pss_nil)
      (pss_one (ps_for (passes_of rfl) rfl (pi_enumQ (by rfl) T.z_enumerate (pa_cons (pv 2) pa_nil)) (pg_tup rfl (pgs_cons (pg_name (i := 4) sc_check_bars.nd rfl (Or.inl rfl)) (pgs_cons (pg_name (i := 5) sc_check_bars.nd rfl (Or.inl rfl)) pgs_nil))) (pss_one (ps_expr (pe_call (ok_check_bar T) (hr.mono (by decide)) rfl T.m_check_bar T.F_check_bar.kp T.b_check_bar .nil (passes_call (takes_of rfl rfl rfl rfl) (fun _ _ _ _ h => h)) (pa_cons (pv 0) (pa_cons (pv 4) (pa_cons (pv 5) pa_nil))))))))))), ?_⟩
    have hlen : ws.length = bs.length := by rw [isL_len hbs, List.length_map]
    have r1 : ¬ (1 ≤ (ws.length : Int) ∧ (ws.length : Int) ≤ 8) → ∀ d, H d = none → E (.ref T.C_BadCount) (some d) (upd H d (.xd (fo2 "what" "count" [V.str "bars", V.int (ws.length : Int)]))) := fun z d hd => by
      have z' : ckBars n hl.length bs = some (.cnt "bars" (ws.length : Int)) := by
        unfold ckBars
        rw [← hlen]
        exact if_pos z
      exact kE _ z' d _ (Ext.upd hd) hd upd_same
    refine ⟨_, rfl, bl, ws, rfl, hbl, _, _, rfl, rfl, _, rfl, ite2 (fun c0 => ?_) (fun c0 => ?_)⟩
    · refine ⟨_, _, rfl, rfl, _, rfl, ite2 (fun c1 => ?_) (fun c1 => ?_)⟩
      · refine ⟨_, rfl, bl, ws, rfl, hbl, rz_ok (n := 2) rfl (by decide) (r1 fun z => ?_)⟩
        rw [decide_eq_true z.2] at c1
        cases c1
      have ok1 : 1 ≤ (ws.length : Int) ∧ (ws.length : Int) ≤ 8 := ⟨of_decide_eq_true c0, Classical.byContradiction fun z => c1 (by rw [decide_eq_false z]; rfl)⟩
      refine ⟨_, rfl, _, rfl, hd, _, rfl, hhd, _, _, rfl, rfl, ?_⟩
      have hkl : ((hK hl).length : Int) = (hl.length : Int) := by unfold hK; rw [List.length_map]
      dsimp only
      rw [hkl]
      refine ⟨_, rfl, bl, ws, rfl, hbl, _, rfl, rfl, _, rfl, ite2 (fun c2 => ?_) (fun c2 => ?_)⟩
      · refine ⟨_, rfl, bl, ws, rfl, hbl, _, rfl, rz_ok (n := 2) rfl (by decide) fun d hd => ?_⟩
        have hne : ¬ (ws.length : Int) = n - hl.length := fun z => by
          rw [z] at c2
          simp at c2
        have z' : ckBars n hl.length bs = some (.sq (ws.length : Int) (n - hl.length)) := by
          unfold ckBars
          rw [← hlen, if_neg (fun y => y ok1), if_pos hne]
        exact kE _ z' d _ (Ext.upd hd) hd upd_same
      have heq : (ws.length : Int) = n - hl.length := Classical.byContradiction fun z => c2 (by
        rw [decide_eq_false (fun y => z (V.int.inj y))]
        rfl)
      have hck : ckBars n hl.length bs = ckFrom n 0 bs := by
        unfold ckBars
        rw [← hlen, if_neg (fun y => y ok1), if_neg (fun y => y heq)]
      rw [hck] at kQ
      simp only [hck] at kE
      refine ⟨_, rfl, bl, rfl, for_enumQ (H0 := H) hbl (fun i σ H' => Ext H H' ∧ (∀ (j : Nat) (c : BarD), j < i → bs[j]? = some c → ckBar n ((0 + j : Nat) : Int) c = none) ∧ ∃ v4 v5 : Option V, σ = [some (.int n), some (.ref hd), some (.ref bl), some (.int (n - hl.length)), v4, v5])
        ⟨Ext.rfl', fun j c hj => absurd hj (Nat.not_lt_zero _), none, none, rfl⟩ (fun i σ H' _ p => p.1) ?_ ?_⟩
      · rintro i y σ H1 t hi ⟨e1, hno, v4, v5, rfl⟩ ht
        obtain ⟨d, hd', iy⟩ := hbs.get hi
        obtain ⟨b, hb, rfl⟩ : ∃ b, bs[i]? = some b ∧ d = brD T.C_Bar b := by
          rw [List.getElem?_map] at hd'
          cases e : bs[i]? with
          | none => rw [e] at hd'; cases hd'
          | some b => rw [e] at hd'; exact ⟨b, rfl, (Option.some.inj hd').symm⟩
        have e2 : Ext H (upd H1 t (.tup [.int (i : Nat), y])) := e1.trans (Ext.upd ht)
        refine ⟨t, _, rfl, SqT.of upd_same, rfl, _, _, rfl, _, _, rfl, rfl, ?_⟩
        refine ⟨_, rfl, _, rfl, _, rfl, n, (i : Nat), y, b, rfl, iy.ext e2, fun r hr' => ?_, fun hnn H3 e3 => ?_⟩
        · intro d' H' e' hd0 hx
          exact kE r (ck_at hno hb (by rw [Nat.zero_add]; exact hr')) d' H' (e2.trans e') (e2.fresh hd0) hx
        · refine ⟨e2.trans e3, fun j c hj hc => ?_, _, _, rfl⟩
          by_cases hji : j = i
          · subst hji
            rw [hb] at hc
            cases hc
            rw [Nat.zero_add]
            exact hnn
          · exact hno j c (by omega) hc
      · rintro σ H1 ⟨e1, hno, v4, v5, rfl⟩
        refine kQ (ck_no fun j c hc => hno j c ?_ hc) _ e1
        have := (List.getElem?_eq_some_iff.mp hc).1
        omega
    · exact ⟨_, rfl, iteT ⟨_, rfl, bl, ws, rfl, hbl, rz_ok (n := 2) rfl (by decide) (r1 fun z => c0 (decide_eq_true z.1))⟩⟩
end
end K23
namespace K23
open PySem L2
section
variable {P : Program} {w : World} {K : PySem.W.Frag} {mg : Str → Option Value} {base : Heap}
def srtI (ks : List Int) : List Int := ks.mergeSort fun a b => decide (a ≤ b)
theorem srtI_perm (ks : List Int) : (srtI ks).Perm ks := List.mergeSort_perm ..
theorem srtI_sorted (ks : List Int) : (srtI ks).Pairwise (· ≤ ·) := by
  have h := List.pairwise_mergeSort (le := fun a b : Int => decide (a ≤ b)) (fun a b c h1 h2 => decide_eq_true (Int.le_trans (of_decide_eq_true h1) (of_decide_eq_true h2))) (fun a b => by
    rw [Bool.or_eq_true, decide_eq_true_iff, decide_eq_true_iff]
    exact Int.le_total a b) ks
  exact h.imp fun h => of_decide_eq_true h
theorem srt_eq {ys ks : List Int} (hp : ys.Perm ks) (hs : ys.Pairwise (· ≤ ·)) : ys = srtI ks :=
  List.Perm.eq_of_pairwise (le := (· ≤ ·)) (fun a b _ _ h1 h2 => Int.le_antisymm h1 h2) hs (srtI_sorted ks) (hp.trans (srtI_perm ks).symm)
def lookI (hl : List (Int × Int)) (r : Int) : Int := match hl.find? fun p => decide (p.1 = r) with
  | some p => p.2
  | none => 0
theorem val_hK : ∀ {hl : List (Int × Int)} {r : Int}, r ∈ hl.map (·.1) → valV (hK hl) (Sum.inl r) = some (V.int (lookI hl r))
  | [], _, h => by cases h
  | p :: hl, r, h => by
    by_cases e : p.1 = r
    · have h1 : valV (hK (p :: hl)) (Sum.inl r) = some (V.int p.2) := valV_pos (by show Sum.inl p.1 = Sum.inl r; rw [e])
      rw [h1]
      unfold lookI
      rw [List.find?_cons, decide_eq_true e]
    · have h2 : r ∈ hl.map (·.1) := by
        rcases List.mem_cons.mp h with h | h
        · exact absurd h.symm e
        · exact h
      have h3 := val_hK h2
      have h4 : valV (hK (p :: hl)) (Sum.inl r) = valV (hK hl) (Sum.inl r) := by
        unfold valV hK
        rw [List.map_cons, List.find?_cons, decide_eq_false (fun z => e (Sum.inl.inj z))]
      rw [h4, h3]
      unfold lookI
      rw [List.find?_cons, decide_eq_false e]
def farH (hl : List (Int × Int)) (r : Int) : Bool := !(decide (-1000000 ≤ lookI hl r) && decide (lookI hl r ≤ 1000000))
def ckRods (n : Int) (hl : List (Int × Int)) : Option Rf :=
  if ¬ (3 ≤ n ∧ n ≤ 10) then some (.cnt "rods" n) else
  match (srtI (hl.map (·.1))).find? (offRod n) with
  | some r => some (.rod r)
  | none => match (srtI (hl.map (·.1))).find? (farH hl) with
    | some r => some (.cnt "height" (lookI hl r))
    | none => if hl = [] then some (.cnt "held" 0) else none
def spCkRods (K : PySem.W.Frag) (T : Tx K mg) : Sp := fun vs H Q E => ∃ (n : Int) (hd : Addr) (hl : List (Int × Int)), vs = [.int n, .ref hd] ∧ H hd = some (.dK (hK hl)) ∧ hl.length < 64 ∧
  (∀ r, ckRods n hl = some r → r.E T E H) ∧ (ckRods n hl = none → ∀ H', Ext H H' → Q .non H')
theorem ok_check_rods (T : Tx K mg) : FnOk P w K mg base (L2.CX P w) 4 T.a_check_rods T.fd_check_rods ["rods", "held"] (spCkRods K T) := by
  refine T.F_check_rods.okX sc_check_rods (fun vs H Q E h => ?_) (fun cdv A outer s H vs Q E hr h => ?_)
  · obtain ⟨n, hd, hl, rfl, _⟩ := h
    rfl
  · obtain ⟨n, hd, hl, rfl, hhd, h64, kE, kQ⟩ := h
    refine ⟨_, (pss_cons (ps_if (pt_not (pt_chain op_le op_le (pe_glob (v := .int 3) rfl T.m_LEAST_RODS ⟨_, rfl⟩) (pv 0) (pe_glob (v := .int 10) rfl T.m_MOST_RODS ⟨_, rfl⟩))) (pss_one (ps_raiseX T.X_BadCount (ok_BadCount_init T) (hr.mono (by decide)) rfl (takes_of rfl rfl rfl rfl) rfl (pa_cons pe_str (pa_cons (pv 0) pa_nil)))) pss_nil)
      (pss_cons (ps_for (passes_of rfl) rfl (pi_list (pe_callB (call_sortedDI rfl) (by rfl) T.z_sorted (by decide +kernel) (pa_cons (pv 1) pa_nil))) (pg_name (i := 2) sc_check_rods.nd rfl (Or.inl rfl)) (pss_one (ps_if (pt_not (pt_chain op_le op_lt pe_int (pv 2) (pv 0))) (pss_one (ps_raiseX T.X_NoRod (ok_NoRod_init T) (hr.mono (by decide)) rfl (takes_of rfl rfl rfl rfl) rfl (pa_cons (pv 2) pa_nil))) pss_nil)))
      (pss_cons (ps_for (passes_of rfl) rfl (pi_list (pe_callB (call_sortedDI rfl) (by rfl) T.z_sorted (by decide +kernel) (pa_cons (pv 1) pa_nil))) (pg_name (i := 2) sc_check_rods.nd rfl (Or.inl rfl)) (pss_one (ps_if (pt_not (pt_chain op_le op_le (pe_un un_neg (pe_glob (v := .int 1000000) rfl T.m_MOST_HEIGHT ⟨_, rfl⟩)) (pe_dget (hu_of hr) (pv 1) (pv 2) (fun _ _ => rfl)) (pe_glob (v := .int 1000000) rfl T.m_MOST_HEIGHT ⟨_, rfl⟩))) (pss_one (ps_raiseX T.X_BadCount (ok_BadCount_init T) (hr.mono (by decide)) rfl (takes_of rfl rfl rfl rfl) rfl (pa_cons pe_str (pa_cons (pe_dget (hu_of hr) (pv 1) (pv 2) (fun _ _ => rfl)) pa_nil)))) pss_nil)))
      (pss_one (ps_if (pt_not (pt_truth (pv 1) (by intro _; rfl))) (pss_one (ps_raiseX T.X_BadCount (ok_BadCount_init T) (hr.mono (by decide)) rfl (takes_of rfl rfl rfl rfl) rfl (pa_cons pe_str (pa_cons pe_int pa_nil)))) pss_nil))))), ?_⟩
    have r0 : ¬ (3 ≤ n ∧ n ≤ 10) → ∀ d, H d = none → E (.ref T.C_BadCount) (some d) (upd H d (.xd (fo2 "what" "count" [V.str "rods", V.int n]))) := fun z d hd =>
      kE (.cnt "rods" n) (by unfold ckRods; exact if_pos z) d _ (Ext.upd hd) hd upd_same
    refine ⟨_, rfl, _, _, rfl, rfl, _, rfl, ite2 (fun c0 => ?_) (fun c0 => ?_)⟩
    · refine ⟨_, _, rfl, rfl, _, rfl, ite2 (fun c1 => ?_) (fun c1 => ?_)⟩
      · refine ⟨_, rfl, rz_ok (n := 2) rfl (by decide) (r0 fun z => ?_)⟩
        rw [decide_eq_true z.2] at c1
        cases c1
      have ok0 : 3 ≤ n ∧ n ≤ 10 := ⟨of_decide_eq_true c0, Classical.byContradiction fun z => c1 (by rw [decide_eq_false z]; rfl)⟩
      have hkk : (hK hl).map (·.1) = (hl.map (·.1)).map Sum.inl := by
        unfold hK
        rw [List.map_map, List.map_map]
        rfl
      refine ⟨_, rfl, hd, _, _, rfl, .inl hhd, hkk, by rw [List.length_map]; exact h64, fun ys p hp hs hpn => ?_⟩
      cases srt_eq hp hs
      have e1 : Ext H (upd H p (.lst ((srtI (hl.map (·.1))).map V.int))) := Ext.upd hpn
      have hp1 : (upd H p (.lst ((srtI (hl.map (·.1))).map V.int))) p = some (.lst ((srtI (hl.map (·.1))).map V.int)) := upd_same
      generalize upd H p (.lst ((srtI (hl.map (·.1))).map V.int)) = H1 at e1 hp1 ⊢
      refine ⟨p, rfl, ⟨_, SqL.of hp1⟩, for_list (K := K) (a := p) (xs := (srtI (hl.map (·.1))).map V.int) (fun i σ H' => Ext H1 H' ∧ (∀ (j : Nat) (x : Int), j < i → (srtI (hl.map (·.1)))[j]? = some x → offRod n x = false) ∧ ∃ v2 : Option V, σ = [some (.int n), some (.ref hd), v2])
        ⟨Ext.rfl', fun j x hj => absurd hj (Nat.not_lt_zero _), none, rfl⟩ (fun i σ H' _ p => (SqL.of hp1).ext p.1) ?_ ?_⟩
      · rintro i y σ H2 hi ⟨e2, hno, v2, rfl⟩
        obtain ⟨r, hr', rfl⟩ : ∃ r, (srtI (hl.map (·.1)))[i]? = some r ∧ y = V.int r := by
          rw [List.getElem?_map] at hi
          cases e : (srtI (hl.map (·.1)))[i]? with
          | none => rw [e] at hi; cases hi
          | some n => rw [e] at hi; exact ⟨n, rfl, (Option.some.inj hi).symm⟩
        have rz : offRod n r = true → ∀ d, H2 d = none → E (.ref T.C_NoRod) (some d) (upd H2 d (.xd (fo1 "rod" [V.int r]))) := fun ho d hd =>
          kE (.rod r) (by unfold ckRods; rw [if_neg (fun y => y ok0), find_at hno hr' ho]) d _ ((e1.trans e2).trans (Ext.upd hd)) ((e1.trans e2).fresh hd) upd_same
        refine ⟨_, rfl, _, _, rfl, rfl, _, rfl, ite2 (fun c2 => ?_) (fun c2 => ?_)⟩
        · refine ⟨_, rfl, _, _, rfl, rfl, _, rfl, ite2 (fun c3 => ?_) (fun c3 => ?_)⟩
          · refine ⟨_, rfl, rz_ok (n := 1) rfl (by decide) (rz ?_)⟩
            unfold offRod
            rw [c2, Bool.true_and]
            exact c3
          · refine ⟨e2, fun j x hj hx => ?_, _, rfl⟩
            by_cases hji : j = i
            · subst hji
              rw [hr'] at hx
              cases hx
              unfold offRod
              rw [c2, Bool.true_and]
              exact Bool.eq_false_iff.mpr c3
            · exact hno j x (by omega) hx
        · refine ⟨_, rfl, ite2 (fun c3 => ?_) (fun c3 => absurd rfl c3)⟩
          refine ⟨_, rfl, rz_ok (n := 1) rfl (by decide) (rz ?_)⟩
          unfold offRod
          rw [Bool.eq_false_iff.mpr c2]
          rfl
      · rintro σ H2 ⟨e2, hno, v2, rfl⟩
        have hnone : (srtI (hl.map (·.1))).find? (offRod n) = none := find_no fun j x hx => hno j x (by
          rw [List.length_map]
          exact (List.getElem?_eq_some_iff.mp hx).1) hx
        have e02 := e1.trans e2
        clear e2 e1 hp1 hno hp hs hpn
        refine ⟨_, rfl, hd, _, _, rfl, .inl (e02 _ _ hhd), hkk, by rw [List.length_map]; exact h64, fun ys p2 hp hs hpn => ?_⟩
        cases srt_eq hp hs
        have e23 : Ext H2 (upd H2 p2 (.lst ((srtI (hl.map (·.1))).map V.int))) := Ext.upd hpn
        have hp1 : (upd H2 p2 (.lst ((srtI (hl.map (·.1))).map V.int))) p2 = some (.lst ((srtI (hl.map (·.1))).map V.int)) := upd_same
        generalize upd H2 p2 (.lst ((srtI (hl.map (·.1))).map V.int)) = H3 at e23 hp1 ⊢
        have e03 := e02.trans e23
        refine ⟨p2, rfl, ⟨_, SqL.of hp1⟩, for_list (K := K) (a := p2) (xs := (srtI (hl.map (·.1))).map V.int) (fun i σ H' => Ext H3 H' ∧ (∀ (j : Nat) (x : Int), j < i → (srtI (hl.map (·.1)))[j]? = some x → farH hl x = false) ∧ ∃ v2 : Option V, σ = [some (.int n), some (.ref hd), v2])
          ⟨Ext.rfl', fun j x hj => absurd hj (Nat.not_lt_zero _), _, rfl⟩ (fun i σ H' _ p => (SqL.of hp1).ext p.1) ?_ ?_⟩
        · rintro i y σ H4 hi ⟨e4, hno, v2, rfl⟩
          obtain ⟨r, hr', rfl⟩ : ∃ r, (srtI (hl.map (·.1)))[i]? = some r ∧ y = V.int r := by
            rw [List.getElem?_map] at hi
            cases e : (srtI (hl.map (·.1)))[i]? with
            | none => rw [e] at hi; cases hi
            | some n => rw [e] at hi; exact ⟨n, rfl, (Option.some.inj hi).symm⟩
          have hmem : r ∈ hl.map (·.1) := (srtI_perm _).mem_iff.mp (List.mem_of_getElem? hr')
          have e04 := e03.trans e4
          have hv : DGet H4 hd (V.int r) (some (V.int (lookI hl r))) := by
            rw [← val_hK hmem]
            exact DGet.k (k := Sum.inl r) (e04 _ _ hhd)
          have rz : farH hl r = true → ∀ d, H4 d = none → E (.ref T.C_BadCount) (some d) (upd H4 d (.xd (fo2 "what" "count" [V.str "height", V.int (lookI hl r)]))) := fun ho d hd =>
            kE (.cnt "height" (lookI hl r)) (by
              unfold ckRods
              rw [if_neg (fun y => y ok0), hnone]
              dsimp only
              rw [find_at hno hr' ho]) d _ (e04.trans (Ext.upd hd)) (e04.fresh hd) upd_same
          refine ⟨_, rfl, _, rfl, _, rfl, hd, _, rfl, hv, _, _, rfl, rfl, _, rfl, ite2 (fun c2 => ?_) (fun c2 => ?_)⟩
          · refine ⟨_, _, rfl, rfl, _, rfl, ite2 (fun c3 => ?_) (fun c3 => ?_)⟩
            · refine ⟨_, rfl, _, rfl, hd, _, rfl, hv, rz_ok (n := 2) rfl (by decide) (rz ?_)⟩
              unfold farH
              rw [c2, Bool.true_and]
              exact c3
            · refine ⟨e4, fun j x hj hx => ?_, _, rfl⟩
              by_cases hji : j = i
              · subst hji
                rw [hr'] at hx
                cases hx
                unfold farH
                rw [c2, Bool.true_and]
                exact Bool.eq_false_iff.mpr c3
              · exact hno j x (by omega) hx
          · refine ⟨_, rfl, ite2 (fun c3 => ?_) (fun c3 => absurd rfl c3)⟩
            refine ⟨_, rfl, _, rfl, hd, _, rfl, hv, rz_ok (n := 2) rfl (by decide) (rz ?_)⟩
            unfold farH
            rw [Bool.eq_false_iff.mpr c2]
            rfl
        · rintro σ H4 ⟨e4, hno, v2, rfl⟩
          have hnone2 : (srtI (hl.map (·.1))).find? (farH hl) = none := find_no fun j x hx => hno j x (by
            rw [List.length_map]
            exact (List.getElem?_eq_some_iff.mp hx).1) hx
          have e04 := e03.trans e4
          have hck : ckRods n hl = if hl = [] then some (.cnt "held" 0) else none := by
            unfold ckRods
            rw [if_neg (fun y => y ok0), hnone]
            dsimp only
            rw [hnone2]
          refine ⟨_, rfl, _, .inr (.inr ⟨_, e04 _ _ hhd, rfl⟩), ?_⟩
          cases hl with
          | nil =>
            refine iteT (rz_ok (n := 2) rfl (by decide) fun d hd => ?_)
            exact kE (.cnt "held" 0) (by rw [hck]; rfl) d _ (e04.trans (Ext.upd hd)) (e04.fresh hd) upd_same
          | cons x l => exact iteF (kQ (by rw [hck]; exact if_neg (fun z => by cases z)) _ e04)
    · exact ⟨_, rfl, iteT ⟨_, rfl, rz_ok (n := 2) rfl (by decide) (r0 fun z => c0 (decide_eq_true z.1))⟩⟩
end
end K23
namespace K23
open PySem L2
section
variable {P : Program} {w : World} {K : PySem.W.Frag} {mg : Str → Option Value} {base : Heap}
def normH (hl : List (Int × Int)) : List (Int × Int) := (srtI (hl.map (·.1))).map fun r => (r, lookI hl r)
abbrev wbF : List Str := ["rods", "bars", "_held"]
def hdD (hl : List (Int × Int)) : Dt := .dic (hl.map fun p => Sum.inl p.1) (hl.map fun p => Dt.int p.2)
def wbT (CB : Addr) (n : Int) (bs : List BarD) (hl : List (Int × Int)) : List Dt := [.int n, .tup (bs.map (brD CB)), hdD hl]
def wbD (C CB : Addr) (n : Int) (bs : List BarD) (hl : List (Int × Int)) : Dt := .ins C wbF (wbT CB n bs hl)
theorem hd_is {H : Hp} {a : Addr} {hl : List (Int × Int)} (h : H a = some (.dK (hK hl))) : Is K H (hdD hl) (.ref a) := by
  refine ⟨a, hK hl, rfl, h, by unfold hK; rw [List.map_map]; rfl, ?_⟩
  unfold hK
  rw [List.map_map]
  have z := isL_ints (K := K) (H := H) (hl.map (·.2))
  rw [List.map_map, List.map_map] at z
  exact z
theorem hd_of : ∀ {hl : List (Int × Int)} {kvs : List (Key × V)}, kvs.map (·.1) = (hl.map fun p => (Sum.inl p.1 : Key)) → kvs.map (·.2) = hl.map (fun p => V.int p.2) → kvs = hK hl
  | [], [], _, _ => rfl
  | [], _ :: _, h, _ => by cases h
  | _ :: _, [], h, _ => by cases h
  | p :: hl, (k, v) :: kvs, h1, h2 => by
    rw [List.map_cons, List.map_cons] at h1 h2
    injection h1 with a1 a2
    injection h2 with b1 b2
    show _ = (Sum.inl p.1, V.int p.2) :: hK hl
    rw [← hd_of a2 b2]
    cases (show k = _ from a1)
    cases (show v = _ from b1)
    rfl
theorem wb_fields {C CB : Addr} {H : Hp} {n : Int} {bs : List BarD} {hl : List (Int × Int)} {v : V} (i : Is K H (wbD C CB n bs hl) v) :
    ∃ (a dx t d : Addr) (ws : List V), v = .ref a ∧ H a = some (.ins C dx [("rods", .int n), ("bars", .ref t), ("_held", .ref d)]) ∧ SqT K H t ws ∧ IsL K H (bs.map (brD CB)) ws ∧ H d = some (.dK (hK hl)) := by
  obtain ⟨a, dx, kvs, rfl, ha, ek, h⟩ := i
  obtain ⟨v1, r1, e1, f1, v2, r2, e2, ⟨t, ws, g1, g2, g3⟩, v3, r3, e3, ⟨d, qs, k1, k2, k3, k4⟩, e4⟩ := h
  subst e4 e3 e2
  cases (show v1 = _ from f1)
  subst g1 k1
  have hq : qs = hK hl := hd_of k3 (by
    have z : IsL K H ((hl.map (·.2)).map Dt.int) (qs.map (·.2)) := by rw [List.map_map]; exact k4
    rw [of_isL_ints z, List.map_map]
    rfl)
  subst hq
  match kvs, ek, e1 with
  | [(x1, y1), (x2, y2), (x3, y3)], ek, e1 =>
    simp only [List.map_cons, List.map_nil] at ek e1
    injection ek with g1 ek
    injection ek with g2' ek
    injection ek with g3' _
    injection e1 with h1 e1
    injection e1 with h2 e1
    injection e1 with h3 _
    subst g1 g2' g3' h1 h2 h3
    exact ⟨a, dx, t, d, ws, rfl, ha, g2, g3, k2⟩
theorem wb_is {C CB a dx t d : Addr} {H : Hp} {n : Int} {bs : List BarD} {hl : List (Int × Int)} {ws : List V} (h : H a = some (.ins C dx [("rods", .int n), ("bars", .ref t), ("_held", .ref d)])) (ht : SqT K H t ws) (hb : IsL K H (bs.map (brD CB)) ws) (hd : H d = some (.dK (hK hl))) :
    Is K H (wbD C CB n bs hl) (.ref a) := ⟨a, dx, _, rfl, h, rfl, _, _, rfl, rfl, _, _, rfl, ⟨t, ws, rfl, ht, hb⟩, _, _, rfl, hd_is hd, rfl⟩
def ckWeb (n : Int) (hl : List (Int × Int)) (bs : List BarD) : Option Rf :=
  match ckRods n hl with
  | some r => some r
  | none => ckBars n hl.length bs
def spWeb (K : PySem.W.Frag) (T : Tx K mg) : Sp := fun vs H Q E => ∃ (H0 : Hp) (x dx : Addr) (n : Int) (hd bl : Addr) (hl : List (Int × Int)) (bs : List BarD) (ws : List V), vs = [.ref x, .int n, .ref hd, .ref bl] ∧ H0 x = none ∧ H0 dx = none ∧ dx ≠ x ∧ H = upd (upd H0 dx (.own x)) x (.ins T.C_Web dx []) ∧
  H0 hd = some (.dK (hK hl)) ∧ (hl.map (·.1)).Nodup ∧ hl.length < 64 ∧ SqQ K H0 bl ws ∧ IsL K H0 (bs.map (brD T.C_Bar)) ws ∧
  (∀ r, ckWeb n hl bs = some r → r.E T E H0) ∧ (ckWeb n hl bs = none → ∀ H', Ext H0 H' → Is K H' (wbD T.C_Web T.C_Bar n bs (normH hl)) (.ref x) → (∀ a kvs, H0 a = some (.dK kvs) → Is K (del H' a) (wbD T.C_Web T.C_Bar n bs (normH hl)) (.ref x)) → Q .non H')
theorem put_new {kvs : List (Key × V)} {k : Key} {v : V} (h : k ∉ kvs.map (·.1)) : putK kvs k v = kvs ++ [(k, v)] := by
  unfold putK
  rw [if_neg]
  intro z
  obtain ⟨p, hp, e⟩ := List.any_eq_true.mp z
  exact h (List.mem_map.mpr ⟨p, hp, of_decide_eq_true e⟩)
theorem dc_list {a : Addr} {xs : List V} {g : TG} {tt : TT} {tk tv : TE} {vs : List Nat} {σ : St} {H1 : Hp} {D : Addr} {Qd : Hp → Prop} (Pv : Nat → Hp → Prop) (h0 : Pv 0 (upd H1 D (.dK []))) (hl : ∀ i H, i ≤ xs.length → Pv i H → SqL K H a xs)
    (hs : ∀ i x H, xs[i]? = some x → Pv i H → g x (wipe σ vs) H fun σ2 H2 => wipe σ2 vs = wipe σ vs ∧ tt σ2 H2 fun b H3 =>
      if b = true then tk σ2 H3 fun y H4 => tv σ2 H4 fun z H5 => ∃ kvs k, y = kV k ∧ H5 D = some (.dK kvs) ∧ kvs.length < sizeLine ∧ Pv (i + 1) (upd H5 D (.dK (putK kvs k z))) else Pv (i + 1) H3) (hd : ∀ H, Pv xs.length H → Qd H) :
    ∃ W : Nat → Nat → Hp → Prop, (∃ m, W 0 m (upd H1 D (.dK []))) ∧ ∀ i m H, W i m H →
      ((Itl K a).stop i H ∧ Qd H) ∨ ((Itl K a).go i H ∧ ∃ Nx : Hp → Prop, (∀ H', Nx H' → ∃ m', m' < m ∧ W (i + 1) m' H') ∧ ∀ x H', (Itl K a).yld i H x H' → g x (wipe σ vs) H' fun σ2 H2 => wipe σ2 vs = wipe σ vs ∧ tt σ2 H2 fun b H3 =>
        if b = true then tk σ2 H3 fun y H4 => tv σ2 H4 fun z H5 => ∃ kvs k, y = kV k ∧ H5 D = some (.dK kvs) ∧ kvs.length < sizeLine ∧ Nx (upd H5 D (.dK (putK kvs k z))) else Nx H3) := by
  refine ⟨fun i m H => m = xs.length - i ∧ i ≤ xs.length ∧ Pv i H, ⟨xs.length, by simp, Nat.zero_le _, h0⟩, ?_⟩
  rintro i m H ⟨rfl, hi, p⟩
  have q := hl i H hi p
  by_cases hlt : i < xs.length
  · refine .inr ⟨⟨xs, xs[i], q, by simp [hlt]⟩, Pv (i + 1), fun H' p' => ⟨xs.length - (i + 1), by omega, rfl, hlt, p'⟩, fun x H' y => ?_⟩
    obtain ⟨e, y⟩ := y
    subst e
    exact hs i x _ (y xs q) p
  · have e : i = xs.length := by omega
    subst e
    exact .inl ⟨⟨xs, q, Nat.le_refl _⟩, hd H p⟩
theorem Ext.dele {H0 H5 : Hp} {x : Addr} (e : Ext H0 H5) (h : H0 x = none) : Ext H0 (del H5 x) := fun a o ha => by
  have hne : a ≠ x := fun z => by rw [z, h] at ha; cases ha
  rw [del_ne hne]
  exact e a o ha
theorem SqT.de' {H : Hp} {w a : Addr} {xs : List V} (h : SqT K (del H w) a xs) : SqT K H a xs := h.ext del_ext
theorem sqT_del {H : Hp} {t a : Addr} {xs : List V} {kvs : List (Key × V)} (s : SqT K H t xs) (h : H a = some (.dK kvs)) : SqT K (del H a) t xs := by
  rcases s with (r | ⟨b, r⟩) | r
  · exact .inl (.inl (by rw [del_ne (fun e => by rw [e, h] at r; cases r)]; exact r))
  · exact .inl (.inr ⟨b, by rw [del_ne (fun e => by rw [e, h] at r; cases r)]; exact r⟩)
  · exact .inr r
theorem brL_del {C : Addr} {H : Hp} {a : Addr} {kvs : List (Key × V)} (h : H a = some (.dK kvs)) : ∀ {bs : List BarD} {vs : List V}, IsL K H (bs.map (brD C)) vs → IsL K (del H a) (bs.map (brD C)) vs
  | [], _, e => e
  | b :: bs, _, ⟨v, r, e, i, il⟩ => by
    obtain ⟨x, dx, rfl, hx⟩ := br_fields i
    exact ⟨_, r, e, br_is (dx := dx) (by rw [del_ne (fun e => by rw [e, h] at hx; cases hx)]; exact hx), brL_del h il⟩
theorem ok_Web_init (T : Tx K mg) : FnOk P w K mg base (L2.CX P w) 8 T.a_Web_init T.fd_Web_init ["self", "rods", "held", "bars"] (spWeb K T) := by
  refine T.F_Web_init.okX sc_Web_init (fun vs H Q E h => ?_) (fun cdv A outer s H vs Q E hr h => ?_)
  · obtain ⟨H0, x, dx, n, hd, bl, hl, bs, ws, rfl, _⟩ := h
    rfl
  · obtain ⟨H0, x, dx, n, hd, bl, hl, bs, ws, rfl, hx, hdx, hne, rfl, hhd, hnd, h64, hbl, hbs, kE, kQ⟩ := h
    refine ⟨_, (pss_cons (ps_expr (pe_call (ok_check_rods T) (hr.mono (by decide)) rfl T.m_check_rods T.F_check_rods.kp T.b_check_rods .nil (passes_call (takes_of rfl rfl rfl rfl) (fun _ _ _ _ h => h)) (pa_cons (pv 1) (pa_cons (pv 2) pa_nil))))
      (pss_cons (ps_expr (pe_call (ok_check_bars T) (hr.mono (by decide)) rfl T.m_check_bars T.F_check_bars.kp T.b_check_bars .nil (passes_call (takes_of rfl rfl rfl rfl) (fun _ _ _ _ h => h)) (pa_cons (pv 1) (pa_cons (pv 2) (pa_cons (pv 3) pa_nil)))))
      (pss_cons (ps_fld (pv 0) (pv 1) rfl)
      (pss_cons (ps_fld (pv 0) (pe_callTy call_tuple_of (by rfl) T.z_tuple (by decide +kernel) (pa_cons (pv 3) pa_nil)) rfl)
      (pss_one (ps_fld (pv 0) (pe_dc (own := [("rod", 4)]) (g := gName 4) (tt := tYes) rfl sc_Web_init.nd (pi_list (pe_callB (call_sortedDI rfl) (by rfl) T.z_sorted (by decide +kernel) (pa_cons (pv 2) pa_nil))) (blkOk_by (own := [("rod", 4)]) (N := N_Web_init) (sc := defScope s_Web_init) (by decide +kernel)) (fun _ _ _ _ _ => pg_name (i := 4) sc_Web_init.nd rfl (Or.inl rfl)) (fun _ _ _ _ _ => pts_nil) (fun _ _ _ _ _ => pv 4) (fun _ _ _ _ _ => pe_dget (hu_of hr) (pv 2) (pv 4) (fun _ _ => rfl))) rfl)))))), ?_⟩
    have eH : Ext H0 (upd (upd H0 dx (.own x)) x (.ins T.C_Web dx [])) := (Ext.upd hdx).mut hx
    have hxi : (upd (upd H0 dx (.own x)) x (.ins T.C_Web dx [])) x = some (.ins T.C_Web dx []) := upd_same
    generalize upd (upd H0 dx (.own x)) x (.ins T.C_Web dx []) = H1 at eH hxi ⊢
    refine ⟨_, rfl, _, rfl, n, hd, hl, rfl, eH _ _ hhd, h64, fun r hr' => ?_, fun hc1 H2 e2 => ?_⟩
    · exact fun d H' e' hd0 hx' => kE r (by unfold ckWeb; rw [hr']) d H' (eH.trans e') (eH.fresh hd0) hx'
    have e02 := eH.trans e2
    refine ⟨_, rfl, _, rfl, _, rfl, n, hd, bl, hl, bs, ws, rfl, e02 _ _ hhd, hbl.ext e02, hbs.ext e02, fun r hr' => ?_, fun hc2 H3 e3 => ?_⟩
    · exact fun d H' e' hd0 hx' => kE r (by unfold ckWeb; rw [hc1]; exact hr') d H' (e02.trans e') (e02.fresh hd0) hx'
    have e03 := e02.trans e3
    have hx3 := e3 _ _ (e2 _ _ hxi)
    have hck : ckWeb n hl bs = none := by unfold ckWeb; rw [hc1]; exact hc2
    refine ⟨_, rfl, _, rfl, x, T.C_Web, dx, _, rfl, hx3, T.c_Web, T.nf_Web_rods, (by show 0 < 1000; decide), ?_⟩
    have e04 : Ext H0 (upd H3 x (.ins T.C_Web dx (putF "rods" (.int n) []))) := e03.mut hx
    have hx4 : (upd H3 x (.ins T.C_Web dx (putF "rods" (.int n) []))) x = some (.ins T.C_Web dx [("rods", .int n)]) := upd_same
    generalize upd H3 x (.ins T.C_Web dx (putF "rods" (.int n) [])) = H4 at e04 hx4 ⊢
    rcases hbl with hb | hb
    refine ⟨_, rfl, bl, ws, rfl, .inl ⟨hb.ext e04, fun t htn => ?_⟩⟩
    have e45 : Ext H4 (upd H4 t (.tup ws)) := Ext.upd htn
    have ht : SqT K (del (upd H4 t (.tup ws)) x) t ws := SqT.of (by rw [del_ne (ne_of_none hx4 htn).symm, upd_same])
    have hbs5 := hbs
    generalize upd H4 t (.tup ws) = H5 at e45 ht ⊢
    rotate_left
    refine ⟨_, rfl, bl, ws, rfl, .inr ⟨hb.ext e04, ?_⟩⟩
    obtain ⟨H5, e5⟩ : ∃ H5, H5 = H4 := ⟨_, rfl⟩
    rw [← e5]
    have e45 : Ext H4 H5 := e5 ▸ Ext.rfl'
    have ht : SqT K (del H5 x) bl ws := by rw [e5]; exact hb.ext (Ext.dele e04 hx)
    clear e5 hb
    have hbs5 := hbs
    revert ht
    generalize bl = t
    intro ht
    all_goals
      have hx5 := e45 _ _ hx4
      have e05 := e04.trans e45
      refine ⟨_, rfl, x, T.C_Web, dx, _, rfl, hx5, T.c_Web, T.nf_Web_bars, (by show 1 < 1000; decide), ?_⟩
      have e06 : Ext H0 (upd H5 x (.ins T.C_Web dx (putF "bars" (.ref t) [("rods", .int n)]))) := e05.mut hx
      have hx6 : (upd H5 x (.ins T.C_Web dx (putF "bars" (.ref t) [("rods", .int n)]))) x = some (.ins T.C_Web dx [("rods", .int n), ("bars", .ref t)]) := upd_same
      have d56 : DE x H5 (upd H5 x (.ins T.C_Web dx (putF "bars" (.ref t) [("rods", .int n)]))) := DE.upd
      generalize upd H5 x (.ins T.C_Web dx (putF "bars" (.ref t) [("rods", .int n)])) = H6 at e06 hx6 d56 ⊢
      have hkk : (hK hl).map (·.1) = (hl.map (·.1)).map Sum.inl := by
        unfold hK
        rw [List.map_map, List.map_map]
        rfl
      refine ⟨_, rfl, hd, _, _, rfl, .inl (e06 _ _ hhd), hkk, by rw [List.length_map]; exact h64, fun ys p hp hs hpn => ?_⟩
      cases srt_eq hp hs
      have hp7 : (upd H6 p (.lst ((srtI (hl.map (·.1))).map V.int))) p = some (.lst ((srtI (hl.map (·.1))).map V.int)) := upd_same
      have e67 : Ext H6 (upd H6 p (.lst ((srtI (hl.map (·.1))).map V.int))) := Ext.upd hpn
      generalize upd H6 p (.lst ((srtI (hl.map (·.1))).map V.int)) = H7 at hp7 e67 ⊢
      have e07 := e06.trans e67
      have hx7 := e67 _ _ hx6
      have d57 := d56.trans (DE.of e67)
      refine ⟨p, rfl, ⟨_, SqL.of hp7⟩, fun D hD => dc_list (K := K) (a := p) (xs := (srtI (hl.map (·.1))).map V.int) (fun i H' => Ext H7 H' ∧ H' D = some (.dK (hK (((srtI (hl.map (·.1))).take i).map fun r => (r, lookI hl r)))))
        ⟨Ext.upd hD, upd_same⟩ (fun i H' _ p => (SqL.of hp7).ext p.1) ?_ ?_⟩
      · rintro i y H8 hi ⟨e78, hD8⟩
        obtain ⟨r, hr', rfl⟩ : ∃ r, (srtI (hl.map (·.1)))[i]? = some r ∧ y = V.int r := by
          rw [List.getElem?_map] at hi
          cases e : (srtI (hl.map (·.1)))[i]? with
          | none => rw [e] at hi; cases hi
          | some n => rw [e] at hi; exact ⟨n, rfl, (Option.some.inj hi).symm⟩
        have hmem : r ∈ hl.map (·.1) := (srtI_perm _).mem_iff.mp (List.mem_of_getElem? hr')
        have hv : DGet H8 hd (V.int r) (some (V.int (lookI hl r))) := by
          rw [← val_hK hmem]
          exact DGet.k (k := Sum.inl r) ((e07.trans e78) _ _ hhd)
        have hnew : (Sum.inl r : Key) ∉ (hK (((srtI (hl.map (·.1))).take i).map fun r => (r, lookI hl r))).map (·.1) := by
          intro z
          unfold hK at z
          rw [List.map_map, List.map_map] at z
          obtain ⟨r', h1, h2⟩ := List.mem_map.mp z
          have e : r' = r := Sum.inl.inj h2
          subst e
          have hnd2 : (srtI (hl.map (·.1))).Nodup := (srtI_perm _).nodup_iff.mpr hnd
          obtain ⟨j, hj⟩ := List.getElem?_of_mem h1
          have hji : j < i := by
            have := (List.getElem?_eq_some_iff.mp hj).1
            rw [List.length_take] at this
            omega
          rw [List.getElem?_take_of_lt hji] at hj
          have hlt := (List.getElem?_eq_some_iff.mp hr').1
          have := (List.getElem?_inj (i := j) (j := i) (by omega) hnd2).mp (hj.trans hr'.symm)
          omega
        refine ⟨rfl, tyes ?_⟩
        refine ⟨_, rfl, _, rfl, _, rfl, hd, _, rfl, hv, _, Sum.inl r, rfl, hD8, ?_, e78.mut hD, ?_⟩
        · unfold hK
          rw [List.length_map, List.length_map, List.length_take]
          exact Nat.lt_of_lt_of_le (show min i (srtI (hl.map (·.1))).length < 100 by
            rw [(srtI_perm (hl.map (·.1))).length_eq, List.length_map]
            omega) (by decide)
        · rw [upd_same, put_new hnew, List.take_add_one, hr']
          unfold hK
          simp
      · rintro H8 ⟨e78, hD8⟩
        rw [List.length_map, List.take_length] at hD8
        have hx8 := e78 _ _ hx7
        refine ⟨_, rfl, x, T.C_Web, dx, _, rfl, hx8, T.c_Web, T.nf_Web_held, (by show 2 < 1000; decide), ?_⟩
        have d59 : DE x H5 (upd H8 x (.ins T.C_Web dx [("rods", .int n), ("bars", .ref t), ("_held", .ref D)])) := (d57.trans (DE.of e78)).trans DE.upd
        have e09 : Ext H0 (upd H8 x (.ins T.C_Web dx [("rods", .int n), ("bars", .ref t), ("_held", .ref D)])) := (e07.trans e78).mut hx
        have hDx : D ≠ x := (ne_of_none hx7 hD).symm
        have hD9 : (upd H8 x (.ins T.C_Web dx [("rods", .int n), ("bars", .ref t), ("_held", .ref D)])) D = some (.dK (hK (normH hl))) := by
          rw [upd_ne hDx]
          exact hD8
        have ht9 := SqT.de' (K := K) (ht.ext d59)
        refine kQ hck _ e09 (wb_is upd_same ht9 (hbs.ext e09) hD9) fun a kvs ha => ?_
        have ha9 := e09 _ _ ha
        refine wb_is (dx := dx) (t := t) (d := D) ?_ (sqT_del ht9 ha9) (brL_del ha9 (hbs.ext e09)) ?_
        · rw [del_ne (ne_of_none ha hx).symm, upd_same]
          rfl
        · rw [del_ne (ne_of_none (e07 _ _ ha) hD).symm]
          exact hD9
end
end K23
namespace K23
open PySem L2
section
variable {P : Program} {w : World} {K : PySem.W.Frag} {mg : Str → Option Value} {base : Heap}
def offK (hl : List (Int × Int)) (r : Int) : Bool := !((hl.map (·.1)).contains r)
theorem val_none : ∀ {hl : List (Int × Int)} {r : Int}, r ∉ hl.map (·.1) → valV (hK hl) (Sum.inl r) = none
  | [], _, _ => rfl
  | p :: hl, r, h => by
    have h1 : p.1 ≠ r := fun e => h (by rw [List.map_cons, e]; exact List.mem_cons_self)
    have h2 := val_none (hl := hl) (r := r) fun z => h (List.mem_cons_of_mem _ z)
    unfold valV hK at h2 ⊢
    rw [List.map_cons, List.find?_cons, decide_eq_false (fun z => h1 (Sum.inl.inj z))]
    exact h2
theorem val_some {hl : List (Int × Int)} {r : Int} : (valV (hK hl) (Sum.inl r)).isSome = (hl.map (·.1)).contains r := by
  by_cases h : r ∈ hl.map (·.1)
  · rw [val_hK h, List.contains_iff_mem.mpr h]
    rfl
  · rw [val_none h, Bool.eq_false_iff.mpr fun z => h (List.contains_iff_mem.mp z)]
    rfl
end
end K23
namespace L2
def gcdL : Nat → List Int → Nat
  | g, [] => g
  | g, n :: r => gcdL (Nat.gcd g n.natAbs) r
theorem gcdL_append (g : Nat) (xs ys : List Int) : gcdL g (xs ++ ys) = gcdL (gcdL g xs) ys := by
  induction xs generalizing g with
  | nil => rfl
  | cons x r ih => exact ih _
theorem gcdL_gcd (g h : Nat) (xs : List Int) : gcdL (Nat.gcd g h) xs = Nat.gcd g (gcdL h xs) := by
  induction xs generalizing h with
  | nil => rfl
  | cons x r ih =>
    show gcdL (Nat.gcd (Nat.gcd g h) x.natAbs) r = Nat.gcd g (gcdL (Nat.gcd h x.natAbs) r)
    rw [Nat.gcd_assoc, ih]
theorem gcdL_dvd_start (g : Nat) (xs : List Int) : gcdL g xs ∣ g := by
  induction xs generalizing g with
  | nil => exact Nat.dvd_refl _
  | cons x r ih => exact Nat.dvd_trans (ih _) (Nat.gcd_dvd_left _ _)
theorem gcdL_dvd {g : Nat} {xs : List Int} {x : Int} (h : x ∈ xs) : gcdL g xs ∣ x.natAbs := by
  induction xs generalizing g with
  | nil => cases h
  | cons y r ih =>
    rcases List.mem_cons.mp h with e | h
    · subst e
      exact Nat.dvd_trans (gcdL_dvd_start _ r) (Nat.gcd_dvd_right _ _)
    · exact ih h
theorem gcdL_pos {g : Nat} (xs : List Int) (h : 0 < g) : 0 < gcdL g xs := Nat.pos_of_dvd_of_pos (gcdL_dvd_start g xs) h
theorem gcdL_mul (g k : Nat) (xs : List Int) : gcdL (g * k) (xs.map fun n => n * (k : Int)) = gcdL g xs * k := by
  induction xs generalizing g with
  | nil => rfl
  | cons x r ih =>
    show gcdL (Nat.gcd (g * k) (x * (k : Int)).natAbs) (r.map fun n => n * (k : Int)) = gcdL (Nat.gcd g x.natAbs) r * k
    rw [Int.natAbs_mul, Int.natAbs_natCast, Nat.gcd_mul_right, ih]
theorem gcdL_le {g : Nat} (xs : List Int) (h : 0 < g) : gcdL g xs ≤ g := Nat.le_of_dvd h (gcdL_dvd_start g xs)
/-- what Places keeps -/
def normN (ns : List Int) (s : Int) : List Int := ns.map fun n => n / ((gcdL s.natAbs ns : Nat) : Int)
def normP (ns : List Int) (s : Int) : Int := s / ((gcdL s.natAbs ns : Nat) : Int)
theorem norm_mul {ns : List Int} {s : Int} {k : Nat} (hk : 0 < k) (hs : 0 < s) : normN (ns.map fun n => n * (k : Int)) (s * (k : Int)) = normN ns s ∧ normP (ns.map fun n => n * (k : Int)) (s * (k : Int)) = normP ns s := by
  have e : gcdL (s * (k : Int)).natAbs (ns.map fun n => n * (k : Int)) = gcdL s.natAbs ns * k := by
    rw [Int.natAbs_mul, Int.natAbs_natCast, gcdL_mul]
  have hk' : (k : Int) ≠ 0 := by omega
  unfold normN normP
  rw [e]
  constructor
  · rw [List.map_map]
    refine List.map_congr_left fun n _ => ?_
    show n * (k : Int) / ((gcdL s.natAbs ns * k : Nat) : Int) = _
    rw [Int.natCast_mul, Int.mul_ediv_mul_of_pos_left _ _ (by omega)]
  · rw [Int.natCast_mul, Int.mul_ediv_mul_of_pos_left _ _ (by omega)]
end L2
namespace K23
open PySem L2
section
variable {P : Program} {w : World} {K : PySem.W.Frag} {mg : Str → Option Value} {base : Heap}
def plD (C : Addr) (ns : List Int) (q : Int) : Dt := .ins C ["numbers", "parts"] [.tup (ns.map Dt.int), .int q]
def spDivisor (K : PySem.W.Frag) : Sp := fun vs H Q _ => ∃ (l : Addr) (ns : List Int), vs = [.ref l] ∧ SqQ K H l (ns.map V.int) ∧ Q (.int ((gcdL 0 ns : Nat) : Int)) H
theorem ok_divisor (T : Tx K mg) : FnOk P w K mg base (L2.CX P w) 1 T.a_divisor T.fd_divisor ["numbers"] (spDivisor K) := by
  refine T.F_divisor.okX sc_divisor (fun vs H Q E h => ?_) (fun cdv A outer s H vs Q E hr h => ?_)
  · obtain ⟨l, ns, rfl, _⟩ := h
    rfl
  · obtain ⟨l, ns, rfl, hl, k⟩ := h
    refine ⟨_, (pss_cons (ps_set (i := 1) sc_divisor.nd rfl (Or.inl rfl) pe_int)
      (pss_cons (ps_for (passes_of rfl) rfl (pi_seq (pv 0)) (pg_name (i := 2) sc_divisor.nd rfl (Or.inl rfl)) (pss_one (ps_set (i := 1) sc_divisor.nd rfl (Or.inl rfl) (pe_callBfun cr_gcd rfl T.m_gcd (pa_cons (pv 1) (pa_cons (pv 2) pa_nil))))))
      (pss_one (ps_ret (pv 1))))), ?_⟩
    refine ⟨_, rfl, l, rfl, for_seq (xs := ns.map V.int) (H0 := H) hl (fun i σ H' => H' = H ∧ ∃ v : Option V, σ = [some (.ref l), some (.int ((gcdL 0 (ns.take i) : Nat) : Int)), v]) ⟨rfl, none, rfl⟩ (fun i σ H' _ p => p.1 ▸ Ext.rfl') ?_ ?_⟩
    · rintro i y σ H' hi ⟨rfl, v, rfl⟩
      obtain ⟨n, hn, rfl⟩ : ∃ n, ns[i]? = some n ∧ y = V.int n := by
        rw [List.getElem?_map] at hi
        cases e : ns[i]? with
        | none => rw [e] at hi; cases hi
        | some n => rw [e] at hi; exact ⟨n, rfl, (Option.some.inj hi).symm⟩
      have step : gcdL 0 (ns.take (i + 1)) = Nat.gcd (gcdL 0 (ns.take i)) n.natAbs := by
        rw [List.take_add_one, hn, gcdL_append]
        rfl
      refine ⟨_, rfl, _, rfl, _, _, rfl, rfl, some (.int n), ?_⟩
      rw [step, Int.natAbs_natCast]
      rfl
    · rintro σ H' ⟨rfl, v, rfl⟩
      rw [List.length_map, List.take_length]
      exact ⟨_, rfl, k⟩
/-- tops over a bottom above nought, in lowest terms: a new tuple of a new tuple and a number -/
def spLowest (K : PySem.W.Frag) : Sp := fun vs H Q _ => ∃ (l : Addr) (ns : List Int) (s : Int), vs = [.ref l, .int s] ∧ SqQ K H l (ns.map V.int) ∧ ns.length ≤ 1000 ∧ 1 ≤ s ∧ s.natAbs < 2 ^ 8000 ∧
  ∀ t u H', Ext H H' → H t = none → H u = none → H' t = some (.tup ((normN ns s).map V.int)) → H' u = some (.tup [.ref t, .int (normP ns s)]) → Q (.ref u) H'
theorem ok_lowest (T : Tx K mg) : FnOk P w K mg base (L2.CX P w) 2 T.a_lowest T.fd_lowest ["tops", "bottom"] (spLowest K) := by
  refine T.F_lowest.okX sc_lowest (fun vs H Q E h => ?_) (fun cdv A outer s H vs Q E hr h => ?_)
  · obtain ⟨l, ns, s, rfl, _⟩ := h
    rfl
  · obtain ⟨l, ns, sh, rfl, hq, hlen, hs1, hbig, k⟩ := h
    refine ⟨_, (pss_cons (ps_set (i := 2) sc_lowest.nd rfl (Or.inr rfl) (pe_callBfun cr_gcd rfl T.m_gcd (pa_cons (pe_call (ok_divisor T) (hr.mono (by decide)) rfl T.m_divisor T.F_divisor.kp T.b_divisor .nil passL (pa_cons (pv 0) pa_nil)) (pa_cons (pv 1) pa_nil))))
      (pss_one (ps_ret (pe_tup (pa_cons (pe_callTy call_tuple_of (by rfl) T.z_tuple (by decide +kernel) (pa_cons (pe_lc (own := [("top", 3)]) (g := gName 3) (tt := tYes) (by rfl) sc_lowest.nd (pi_seq (pv 0)) (blkOk_by (own := [("top", 3)]) (N := N_lowest) (sc := defScope s_lowest) (by decide +kernel)) (fun _ _ _ _ _ => (pg_name (i := 3) sc_lowest.nd rfl (Or.inl rfl))) (fun _ _ _ _ _ => pts_nil) (fun _ _ _ _ _ => (pe_op op_fdivW (pv 3) (pv 2)))) pa_nil)) (pa_cons (pe_op op_fdivW (pv 1) (pv 2)) pa_nil)))))), ?_⟩
    have hg0 : 0 < gcdL sh.natAbs ns := gcdL_pos ns (by omega)
    have hgb : gcdL sh.natAbs ns < 2 ^ 8000 := Nat.lt_of_le_of_lt (gcdL_le ns (by omega)) hbig
    have eg : Nat.gcd ((gcdL 0 ns : Nat) : Int).natAbs sh.natAbs = gcdL sh.natAbs ns := by
      rw [Int.natAbs_natCast, Nat.gcd_comm, ← gcdL_gcd, Nat.gcd_zero_right]
    refine ⟨_, rfl, l, ns, rfl, hq, _, rfl, _, _, rfl, ?_⟩
    dsimp only
    rw [eg]
    refine ⟨_, rfl, l, rfl, lc_seq (xs := ns.map V.int) hq Ext.rfl' (fun D i H' => Ext H H' ∧ H' D = some (.lst (((ns.take i).map fun n => n / ((gcdL sh.natAbs ns : Nat) : Int)).map V.int)))
      (fun D hD => ⟨Ext.upd hD, upd_same⟩) (fun D i H' _ p => p.1) ?_ ?_⟩
    · rintro D i y H' hD hi ⟨e1, hD1⟩
      obtain ⟨n, hn, rfl⟩ : ∃ n, ns[i]? = some n ∧ y = V.int n := by
        rw [List.getElem?_map] at hi
        cases e : ns[i]? with
        | none => rw [e] at hi; cases hi
        | some n => rw [e] at hi; exact ⟨n, rfl, (Option.some.inj hi).symm⟩
      have hin : i < ns.length := (List.getElem?_eq_some_iff.mp hn).1
      refine ⟨rfl, tyes ?_⟩
      refine ⟨_, rfl, _, rfl, _, _, rfl, rfl, wide_div (b := 8000) (by omega) (by rw [Int.natAbs_natCast]; exact hgb) (by decide) (by decide), ?_⟩
      refine ⟨_, hD1, ?_, e1.mut hD, ?_⟩
      · rw [List.length_map, List.length_map, List.length_take]
        exact Nat.lt_of_lt_of_le (show min i ns.length < 2000 by omega) (by decide)
      · rw [upd_same, List.take_add_one, hn, List.map_append, List.map_append]
        rfl
    · rintro D H' hD ⟨e1, hD1⟩
      rw [List.length_map, List.take_length] at hD1
      refine ⟨D, _, rfl, .inl ⟨SqL.of hD1, fun t ht => ?_⟩⟩
      refine ⟨_, rfl, _, rfl, _, _, rfl, rfl, wide_div (b := 8000) (by omega) (by rw [Int.natAbs_natCast]; exact hgb) (by decide) (by decide), (by show 2 ≤ sizeLine; decide), fun u hu => ?_⟩
      have htu : t ≠ u := ne_of_none upd_same hu
      have hu' : H' u = none := by rw [upd_ne htu.symm] at hu; exact hu
      refine k t u _ ((e1.trans (Ext.upd ht)).trans (Ext.upd hu)) (e1.fresh ht) (e1.fresh hu') ?_ upd_same
      rw [upd_ne htu, upd_same]
      rfl
def spPlaces (K : PySem.W.Frag) (C B : Addr) : Sp := fun vs H Q E => ∃ (H0 : Hp) (x dx l : Addr) (ns : List Int) (s : Int), vs = [.ref x, .ref l, .int s] ∧ H0 x = none ∧ H0 dx = none ∧ dx ≠ x ∧ H = upd (upd H0 dx (.own x)) x (.ins C dx []) ∧
  SqQ K H0 l (ns.map V.int) ∧ ns.length ≤ 1000 ∧ s.natAbs < 2 ^ 8000 ∧ (s < 1 → ∀ d H', Ext H0 H' → H0 d = none → H' d = some (.xd [("count", .int s), ("what", .str "parts")]) → E (.ref B) (some d) H') ∧
  (1 ≤ s → ∀ H', Ext H0 H' → Is K H' (plD C (normN ns s) (normP ns s)) (.ref x) → Q .non H')
theorem ok_Places_init (T : Tx K mg) : FnOk P w K mg base (L2.CX P w) 4 T.a_Places_init T.fd_Places_init ["self", "numbers", "parts"] (spPlaces K T.C_Places T.C_BadCount) := by
  refine T.F_Places_init.okX sc_Places_init (fun vs H Q E h => ?_) (fun cdv A outer s H vs Q E hr h => ?_)
  · obtain ⟨H0, x, dx, l, ns, s, rfl, _⟩ := h
    rfl
  · obtain ⟨H0, x, dx, l, ns, sh, rfl, hx, hdx, hne, rfl, hq, hlen, hbig, kE, kQ⟩ := h
    refine ⟨_, (pss_cons (ps_if (pt_cmpR op_lt (pv 2) pe_int (nomark _)) (pss_one (ps_raiseX T.X_BadCount (ok_BadCount_init T) (hr.mono (by decide)) rfl (takes_of rfl rfl rfl rfl) rfl (pa_cons pe_str (pa_cons (pv 2) pa_nil)))) pss_nil)
      (pss_one (ps_asg (pe_call (ok_lowest T) (hr.mono (by decide)) rfl T.m_lowest T.F_lowest.kp T.b_lowest .nil passL (pa_cons (pv 1) (pa_cons (pv 2) pa_nil))) (pg_tup (by rfl) (pgs_cons (pg_fld (pv 0)) (pgs_cons (pg_fld (pv 0)) pgs_nil)))))), ?_⟩
    have eH : Ext H0 (upd (upd H0 dx (.own x)) x (.ins T.C_Places dx [])) := (Ext.upd hdx).mut hx
    refine ⟨_, rfl, _, _, rfl, rfl, _, rfl, ?_⟩
    refine ite2 (fun hc => ?_) (fun hc => ?_)
    · have hs1 := of_decide_eq_true hc
      refine ⟨_, rfl, rz_ok (n := 2) rfl (by decide) fun d hd => ?_⟩
      refine kE hs1 d _ (eH.trans (Ext.upd hd)) (eH.fresh hd) upd_same
    · have hs1 : 1 ≤ sh := by
        have : ¬ (sh < 1) := fun z => hc (decide_eq_true z)
        omega
      refine ⟨_, rfl, _, rfl, l, ns, sh, rfl, hq.ext eH, hlen, hs1, hbig, fun t u H' e1 ht hu ht1 hu1 => ?_⟩
      have hxt : x ≠ t := ne_of_none upd_same ht
      have hxu : x ≠ u := ne_of_none upd_same hu
      have hx' : H' x = some (.ins T.C_Places dx []) := e1 x _ upd_same
      refine ⟨u, _, rfl, SqT.of hu1, rfl, ?_⟩
      refine ⟨_, _, rfl, ⟨_, rfl, x, T.C_Places, dx, [], rfl, hx', T.c_Places, T.nf_Places_numbers, (by show 0 < 1000; decide), ?_⟩⟩
      refine ⟨_, _, rfl, ⟨_, rfl, x, T.C_Places, dx, _, rfl, upd_same, T.c_Places, T.nf_Places_parts, (by show 1 < 1000; decide), ?_⟩⟩
      refine ⟨rfl, ?_⟩
      refine kQ hs1 _ (((eH.trans e1).mut hx).mut hx) ⟨x, dx, [("numbers", .ref t), ("parts", .int (normP ns sh))], rfl, ?_, rfl, ?_⟩
      · rw [upd_same]
        rfl
      · refine ⟨_, _, rfl, ⟨t, _, rfl, SqT.of (xs := (normN ns sh).map V.int) ?_, isL_ints _⟩, _, _, rfl, rfl, rfl⟩
        rw [upd_ne hxt.symm, upd_ne hxt.symm]
        exact ht1
abbrev plF : List Str := ["numbers", "parts"]
def shp (C : Addr) : Addr → List Str → List Dt → Prop := fun D fs ds => D = C ∧ ∃ (ns : List Int) (q : Int), fs = plF ∧ ds = [.tup (ns.map Dt.int), .int q]
theorem shp_pl (C : Addr) (ns : List Int) (q : Int) : okD (shp C) (plD C ns q) := ⟨rfl, ns, q, rfl, rfl⟩
theorem two_fields {C dx a : Addr} {H : Hp} {kvs : List (Str × V)} {ns : List Int} {q : Int} (ek : kvs.map (·.1) = (["numbers", "parts"] : List Str)) (hl : IsL K H [.tup (ns.map Dt.int), .int q] (kvs.map (·.2))) :
    ∃ t : Addr, kvs = ([("numbers", V.ref t), ("parts", V.int q)] : List (Str × V)) ∧ SqT K H t (ns.map V.int) := by
  match kvs, ek, hl with
  | [(f, x), (g, y)], ek, ⟨v, r, e1, ⟨t, xs, e2, hs, hl⟩, v2, r2, e3, e4, e5⟩ =>
    simp only [List.map_cons, List.map_nil] at ek e1
    injection ek with f1 ek
    injection ek with f2 _
    injection e1 with a1 a2
    subst a1 a2
    injection e3 with b1 b2
    subst b1 b2 e2
    rw [of_isL_ints hl] at hs
    rw [f1, f2, show y = V.int q from e4]
    exact ⟨t, rfl, hs⟩
theorem ok_Places_eq (T : Tx K mg) : FnOk P w K mg base CX0 12 T.a_Places_eq T.fd_Places_eq ["self", "other"] (spEqO K (shp T.C_Places) T.C_Places) := by
  refine T.F_Places_eq.ok sc_Places_eq (fun vs H Q E h => ?_) (fun cdv A outer s H vs Q E hr h => ?_)
  · obtain ⟨a, y, fs, ds, e, rfl, _⟩ := h
    rfl
  · obtain ⟨a, y, fs, ds, e, rfl, hd, he, ⟨_, ns, q, rfl, rfl⟩, oe, k⟩ := h
    refine ⟨_, (pss_one (ps_ret (pe_and (pe_cmpR op_is_ty (pe_callTy call_typeO (by rfl) T.z_type (by decide +kernel) (pa_cons (pv 0) pa_nil)) (pe_callTy call_typeO (by rfl) T.z_type (by decide +kernel) (pa_cons (pv 1) pa_nil)) (nomark _))
      (pe_one (pe_and (pe_cmpR (op_eqO pureTab hr (by decide)) (pe_fld (pv 0) rfl) (pe_fld (pv 1) rfl) (nomark _)) (pe_one (pe_cmpR op_eq (pe_fld (pv 0) rfl) (pe_fld (pv 1) rfl) (nomark _)))))))), ?_⟩
    refine ⟨_, rfl, _, _, rfl, hd, ?_⟩
    refine ⟨_, rfl, _, e, rfl, he, ?_⟩
    have no : LxE.kd e ≠ 6 → ∃ Tn, tyD e = .ty Tn := fun h6 => by
      cases e <;> first | exact ⟨_, rfl⟩ | exact absurd rfl h6
    by_cases h6 : LxE.kd e = 6
    · cases e <;> first | (exfalso; simp [LxE.kd] at h6; done) | skip
      obtain ⟨rfl, ms, r, rfl, rfl⟩ := (show shp T.C_Places _ _ _ from oe)
      refine ⟨_, rfl, .inr ⟨_, rfl, .inl rfl, ?_⟩⟩
      refine ⟨true, by simp, iteT ?_⟩
      obtain ⟨a', dx, kvs, e1, ha, ek, hl⟩ := hd
      cases e1
      obtain ⟨t, rfl, ht⟩ := two_fields (C := T.C_Places) (dx := dx) (a := a) ek hl
      obtain ⟨b, dy, lvs, rfl, hb, el, hl'⟩ := he
      obtain ⟨t', rfl, ht'⟩ := two_fields (C := T.C_Places) (dx := dy) (a := b) el hl'
      refine ⟨_, rfl, a, T.C_Places, dx, _, _, rfl, ha, T.c_Places, T.nf_Places_numbers, rfl, ?_⟩
      refine ⟨_, rfl, b, T.C_Places, dy, _, _, rfl, hb, T.c_Places, T.nf_Places_numbers, rfl, ?_⟩
      refine ⟨.tup (ns.map Dt.int), .tup (ms.map Dt.int), ⟨t, _, rfl, ht, isL_ints _⟩, ⟨t', _, rfl, ht', isL_ints _⟩, okL_pure (pureL_ints ns), okL_pure (pureL_ints ms), by show depL _ + 1 ≤ 8; rw [depL_ints]; decide, fun H' eH => ?_⟩
      have fin : ∀ c : Bool, deqL [.tup (ns.map Dt.int), .int q] [.tup (ms.map Dt.int), .int r] = c → Q (.bl c) H' := fun c hc => by
        have z := k H' eH
        rw [show deq (.ins T.C_Places plF [.tup (ns.map Dt.int), .int q]) (.ins T.C_Places plF [.tup (ms.map Dt.int), .int r]) = (T.C_Places == T.C_Places && deqL [.tup (ns.map Dt.int), .int q] [.tup (ms.map Dt.int), .int r]) from rfl, beq_self_eq_true, Bool.true_and, hc] at z
        exact z
      refine ⟨_, rfl, ?_⟩
      rw [show deq (.tup (ns.map Dt.int)) (.tup (ms.map Dt.int)) = deqL (ns.map Dt.int) (ms.map Dt.int) from rfl]
      cases hc : deqL (ns.map Dt.int) (ms.map Dt.int) with
      | false =>
        refine iteF ?_
        refine fin false ?_
        show (deqL (ns.map Dt.int) (ms.map Dt.int) && _) = false
        rw [hc, Bool.false_and]
      | true =>
        refine iteT ?_
        refine ⟨_, rfl, a, T.C_Places, dx, _, _, rfl, eH _ _ ha, T.c_Places, T.nf_Places_parts, rfl, ?_⟩
        refine ⟨_, rfl, b, T.C_Places, dy, _, _, rfl, eH _ _ hb, T.c_Places, T.nf_Places_parts, rfl, ?_⟩
        refine ⟨rfl, fin _ ?_⟩
        show (deqL (ns.map Dt.int) (ms.map Dt.int) && (q == r && true)) = _
        rw [hc, Bool.true_and, Bool.and_true, Bool.eq_iff_iff]
        simp
    · obtain ⟨Tn, hTn⟩ := no h6
      rw [hTn]
      refine ⟨_, rfl, .inl ⟨Tn, rfl, ?_⟩⟩
      refine ⟨false, rfl, iteF ?_⟩
      have z := k H Ext.rfl'
      rw [LxE.deq_kd (fun z => h6 z.symm)] at z
      exact z
theorem tab (T : Tx K mg) : EqTab P w K mg base 12 (shp T.C_Places) := ⟨fun C fs ds h => by
  obtain ⟨rfl, _⟩ := h
  exact ⟨⟨T.a_Places_eq, T.fd_Places_eq, ok_Places_eq T, T.M_Places_eq.at_, T.M_Places_eq.fn, T.b_Places_eq⟩, T.ef_Places⟩, fun C fs ds C' fs' ds' h h' => by
  obtain ⟨rfl, _⟩ := h
  obtain ⟨rfl, _⟩ := h'
  exact T.nfst_Places_Places⟩
theorem tabNe (T : Tx K mg) : ∀ C fs ds, shp T.C_Places C fs ds → LxE.NeFacts K C := fun C fs ds h => by
  obtain ⟨rfl, _⟩ := h
  exact T.ne_Places
end
end K23
namespace K23
open PySem L2
section
variable {P : Program} {w : World} {K : PySem.W.Frag} {mg : Str → Option Value} {base : Heap}
theorem ok_BadPlace_init (T : Tx K mg) : FnOk P w K mg base CX0 1 T.a_BadPlace_init T.fd_BadPlace_init ["self", "bar"] (spX T.C_BadPlace 1 (fo1 "bar")) := by
  refine T.F_BadPlace_init.ok sc_BadPlace_init (fun vs H Q E h => ?_) (fun cdv A outer s H vs Q E hr h => ?_)
  · obtain ⟨H0, a, ws, rfl, hn, _⟩ := h
    rw [List.length_cons, hn] <;> rfl
  · obtain ⟨H0, a, ws, rfl, hn, ha, rfl, k⟩ := h
    match ws, hn with
    | [x], _ =>
      refine ⟨_, pss_one (ps_ost (pv 0) (pv 1)), ?_⟩
      refine ⟨_, rfl, _, rfl, a, T.C_BadPlace, rfl, T.O_BadPlace, T.nf_BadPlace_bar, .inl ⟨upd_same, fun d hd hda => ?_⟩⟩
      rw [upd_ne hda] at hd
      rw [exo1 hda]
      exact k d hd hda
def endsI (b : BarD) : List Int := if b.lo = b.hi then [b.lo] else [b.lo, b.hi]
def spEnds (K : PySem.W.Frag) (C : Addr) : Sp := fun vs H Q _ => ∃ (v : V) (b : BarD), vs = [v] ∧ Is K H (brD C b) v ∧ ∀ p, H p = none → Q (.ref p) (upd H p (.lst ((endsI b).map V.int)))
theorem ok_ends (T : Tx K mg) : FnOk P w K mg base (L2.CX P w) 2 T.a_ends T.fd_ends ["bar"] (spEnds K T.C_Bar) := by
  refine T.F_ends.okX sc_ends (fun vs H Q E h => ?_) (fun cdv A outer s H vs Q E hr h => ?_)
  · obtain ⟨v, b, rfl, _⟩ := h
    rfl
  · obtain ⟨v, b, rfl, hb, k⟩ := h
    refine ⟨_, (pss_cons (ps_if (pt_cmpR op_eq (pe_fld (pv 0) rfl) (pe_fld (pv 0) rfl) (nomark _)) (pss_one (ps_ret (pe_lst (pa_cons (pe_fld (pv 0) rfl) pa_nil)))) pss_nil)
      (pss_one (ps_ret (pe_lst (pa_cons (pe_fld (pv 0) rfl) (pa_cons (pe_fld (pv 0) rfl) pa_nil)))))), ?_⟩
    obtain ⟨a, dx, rfl, ha⟩ := br_fields hb
    refine ⟨_, rfl, a, T.C_Bar, dx, _, _, rfl, ha, T.c_Bar, T.nf_Bar_least, rfl, _, rfl, a, T.C_Bar, dx, _, _, rfl, ha, T.c_Bar, T.nf_Bar_greatest, rfl, rfl, _, rfl, ite2 (fun c => ?_) (fun c => ?_)⟩
    · refine ⟨_, rfl, a, T.C_Bar, dx, _, _, rfl, ha, T.c_Bar, T.nf_Bar_least, rfl, by show 1 ≤ sizeLine; decide, fun p hp => ?_⟩
      have z := k p hp
      unfold endsI at z
      rw [if_pos (V.int.inj (of_decide_eq_true c))] at z
      exact z
    · refine ⟨_, rfl, a, T.C_Bar, dx, _, _, rfl, ha, T.c_Bar, T.nf_Bar_least, rfl, _, rfl, a, T.C_Bar, dx, _, _, rfl, ha, T.c_Bar, T.nf_Bar_greatest, rfl, by show 2 ≤ sizeLine; decide, fun p hp => ?_⟩
      have z := k p hp
      unfold endsI at z
      rw [if_neg (fun e => c (decide_eq_true (congrArg V.int e)))] at z
      exact z
inductive Pf where
  | cnt (n : Int) | place (k : Int)
def Pf.fs : Pf → List (Str × V)
  | .cnt n => [("count", .int n), ("what", .str "places")]
  | .place k => [("bar", .int k)]
def Pf.C (T : Tx K mg) : Pf → Addr
  | .cnt _ => T.C_BadCount
  | .place _ => T.C_BadPlace
def Pf.E (T : Tx K mg) (r : Pf) (E : XK) (H : Hp) : Prop := ∀ d H', Ext H H' → H d = none → H' d = some (.xd r.fs) → E (.ref (r.C T)) (some d) H'
def offPl (q : Int) (b : BarD) (x : Int) : Bool := !(decide (0 ≤ x) && decide (x ≤ b.len * q))
def ckPlF (q : Int) : Nat → List BarD → List Int → Option Pf
  | k, b :: bs, x :: xs => if offPl q b x = true then some (.place (k : Nat)) else ckPlF q (k + 1) bs xs
  | _, _, _ => none
def ckPl (q : Int) (bs : List BarD) (ns : List Int) : Option Pf := if ¬ (ns.length : Int) = bs.length then some (.cnt ns.length) else ckPlF q 0 bs ns
theorem pl_at {q : Int} : ∀ {bs : List BarD} {ns : List Int} {k i : Nat} {b : BarD} {x : Int}, (∀ (j : Nat) (c : BarD) (y : Int), j < i → bs[j]? = some c → ns[j]? = some y → offPl q c y = false) → bs[i]? = some b → ns[i]? = some x → offPl q b x = true → ckPlF q k bs ns = some (.place ((k + i : Nat) : Int))
  | [], _, _, _, _, _, _, h, _, _ => by simp at h
  | _ :: _, [], _, _, _, _, _, _, h, _ => by simp at h
  | c :: bs, y :: ns, k, 0, b, x, _, h1, h2, ho => by
    cases (show some c = some b from h1)
    cases (show some y = some x from h2)
    unfold ckPlF
    rw [if_pos ho]
    rfl
  | c :: bs, y :: ns, k, i + 1, b, x, hb, h1, h2, ho => by
    unfold ckPlF
    rw [if_neg (by rw [hb 0 c y (Nat.succ_pos _) rfl rfl]; exact Bool.false_ne_true), pl_at (bs := bs) (ns := ns) (k := k + 1) (i := i) (fun j d z hj e1 e2 => hb (j + 1) d z (Nat.succ_lt_succ hj) e1 e2) h1 h2 ho, Nat.succ_add]
    rfl
theorem pl_no {q : Int} : ∀ {bs : List BarD} {ns : List Int} {k : Nat}, (∀ (j : Nat) (c : BarD) (y : Int), bs[j]? = some c → ns[j]? = some y → offPl q c y = false) → ckPlF q k bs ns = none
  | [], _, _, _ => by unfold ckPlF; rfl
  | _ :: _, [], _, _ => by unfold ckPlF; rfl
  | c :: bs, y :: ns, k, h => by
    unfold ckPlF
    rw [if_neg (by rw [h 0 c y rfl rfl]; exact Bool.false_ne_true)]
    exact pl_no fun j d z e1 e2 => h (j + 1) d z e1 e2
theorem plD_fields {C : Addr} {H : Hp} {ns : List Int} {q : Int} {v : V} (i : Is K H (plD C ns q) v) : ∃ a dx t, v = .ref a ∧ H a = some (.ins C dx [("numbers", .ref t), ("parts", .int q)]) ∧ SqT K H t (ns.map V.int) := by
  obtain ⟨a, dx, kvs, rfl, ha, ek, hl⟩ := i
  obtain ⟨t, rfl, ht⟩ := two_fields (C := C) (dx := dx) (a := a) ek hl
  exact ⟨a, dx, t, rfl, ha, ht⟩
def spCkPl (K : PySem.W.Frag) (T : Tx K mg) : Sp := fun vs H Q E => ∃ (v u : V) (n : Int) (bs : List BarD) (hl : List (Int × Int)) (ns : List Int) (q : Int), vs = [v, u] ∧ Is K H (wbD T.C_Web T.C_Bar n bs hl) v ∧ Is K H (plD T.C_Places ns q) u ∧ (∀ b ∈ bs, 0 ≤ b.len ∧ b.len ≤ 1000000) ∧
  (∀ r, ckPl q bs ns = some r → r.E T E H) ∧ (ckPl q bs ns = none → ∀ H', Ext H H' → Q .non H')
theorem ok_check_places (T : Tx K mg) : FnOk P w K mg base (L2.CX P w) 4 T.a_check_places T.fd_check_places ["web", "places"] (spCkPl K T) := by
  refine T.F_check_places.okX sc_check_places (fun vs H Q E h => ?_) (fun cdv A outer s H vs Q E hr h => ?_)
  · obtain ⟨v, u, n, bs, hl, ns, q, rfl, _⟩ := h
    rfl
  · obtain ⟨v, u, n, bs, hl, ns, q, rfl, hv, hu, hlen, kE, kQ⟩ := h
    refine ⟨_, (pss_cons (ps_if (pt_cmpR op_ne (pe_callB call_len_seq (by rfl) T.z_len PySem.boot_len (pa_cons (pe_fld (pv 1) rfl) pa_nil)) (pe_callB call_len_seq (by rfl) T.z_len PySem.boot_len (pa_cons (pe_fld (pv 0) rfl) pa_nil)) (nomark _)) (pss_one (ps_raiseX T.X_BadCount (ok_BadCount_init T) (hr.mono (by decide)) rfl (takes_of rfl rfl rfl rfl) rfl (pa_cons pe_str (pa_cons (pe_callB call_len_seq (by rfl) T.z_len PySem.boot_len (pa_cons (pe_fld (pv 1) rfl) pa_nil)) pa_nil)))) pss_nil)
      (pss_one (ps_for (passes_of rfl) rfl (pi_enumQ (by rfl) T.z_enumerate (pa_cons (pe_fld (pv 0) rfl) pa_nil)) (pg_tup rfl (pgs_cons (pg_name (i := 2) sc_check_places.nd rfl (Or.inl rfl)) (pgs_cons (pg_name (i := 3) sc_check_places.nd rfl (Or.inl rfl)) pgs_nil))) (pss_one (ps_if (pt_not (pt_chain op_le op_le pe_int (pe_ix ix_tup (pe_fld (pv 1) rfl) (pv 2) (fun _ _ => rfl)) (pe_op op_mul (pe_fld (pv 3) rfl) (pe_fld (pv 1) rfl)))) (pss_one (ps_raiseX T.X_BadPlace (ok_BadPlace_init T) (hr.mono (by decide)) rfl (takes_of rfl rfl rfl rfl) rfl (pa_cons (pv 2) pa_nil))) pss_nil))))), ?_⟩
    obtain ⟨a, dx, t, d, ws, rfl, ha, ht, hb, hd⟩ := wb_fields hv
    obtain ⟨b, dy, tn, rfl, hb2, htn⟩ := plD_fields hu
    have hwl : ws.length = bs.length := by rw [isL_len hb, List.length_map]
    refine ⟨_, rfl, b, T.C_Places, dy, _, _, rfl, hb2, T.c_Places, T.nf_Places_numbers, rfl, tn, _, rfl, .inr htn, _, rfl, a, T.C_Web, dx, _, _, rfl, ha, T.c_Web, T.nf_Web_bars, rfl, t, _, rfl, .inr ht, rfl, _, rfl, ite2 (fun c => ?_) (fun c => ?_)⟩
    · refine ⟨_, rfl, b, T.C_Places, dy, _, _, rfl, hb2, T.c_Places, T.nf_Places_numbers, rfl, tn, _, rfl, .inr htn, rz_ok (n := 2) rfl (by decide) fun d' hd' => ?_⟩
      have hne : ¬ (ns.length : Int) = bs.length := fun z => by
        rw [List.length_map, hwl, z] at c
        simp at c
      refine kE (.cnt ns.length) (by unfold ckPl; exact if_pos hne) d' _ (Ext.upd hd') hd' ?_
      rw [upd_same, List.length_map]
      rfl
    · have heq : ns.length = bs.length := Classical.byContradiction fun z => c (by
        rw [List.length_map, hwl, decide_eq_false (fun y => z (by have := V.int.inj y; omega))]
        rfl)
      have hck : ckPl q bs ns = ckPlF q 0 bs ns := by
        unfold ckPl
        exact if_neg (fun z => z (by rw [heq]))
      rw [hck] at kQ
      simp only [hck] at kE
      refine ⟨_, rfl, a, T.C_Web, dx, _, _, rfl, ha, T.c_Web, T.nf_Web_bars, rfl, t, rfl, for_enumQ (H0 := H) (.inr ht) (fun i σ H' => Ext H H' ∧ (∀ (j : Nat) (c : BarD) (y : Int), j < i → bs[j]? = some c → ns[j]? = some y → offPl q c y = false) ∧ ∃ v2 v3 : Option V, σ = [some (.ref a), some (.ref b), v2, v3])
        ⟨Ext.rfl', fun j c y hj => absurd hj (Nat.not_lt_zero _), none, none, rfl⟩ (fun i σ H' _ p => p.1) ?_ ?_⟩
      · rintro i y σ H1 tp hi ⟨e1, hno, v2, v3, rfl⟩ htp
        obtain ⟨d0, hd0, iy⟩ := hb.get hi
        obtain ⟨bb, hbb, rfl⟩ : ∃ bb, bs[i]? = some bb ∧ d0 = brD T.C_Bar bb := by
          rw [List.getElem?_map] at hd0
          cases e : bs[i]? with
          | none => rw [e] at hd0; cases hd0
          | some b => rw [e] at hd0; exact ⟨b, rfl, (Option.some.inj hd0).symm⟩
        have hin : i < ns.length := by
          rw [heq]
          exact (List.getElem?_eq_some_iff.mp hbb).1
        have hx : ns[i]? = some ns[i] := List.getElem?_eq_getElem hin
        generalize ns[i] = x at hx
        have e2 : Ext H (upd H1 tp (.tup [.int (i : Nat), y])) := e1.trans (Ext.upd htp)
        refine ⟨tp, _, rfl, SqT.of upd_same, rfl, _, _, rfl, _, _, rfl, rfl, ?_⟩
        generalize upd H1 tp (.tup [.int (i : Nat), y]) = H2 at e2 ⊢
        obtain ⟨ab, adx, rfl, hab⟩ := br_fields (iy.ext e2)
        have hb3 := e2 _ _ hb2
        have hl1 := hlen bb (List.mem_of_getElem? hbb)
        have rz : offPl q bb x = true → ∀ d', H2 d' = none → E (.ref T.C_BadPlace) (some d') (upd H2 d' (.xd (fo1 "bar" [V.int (i : Nat)]))) := fun ho d' hd' =>
          kE (.place ((0 + i : Nat) : Int)) (pl_at hno hbb hx ho) d' _ (e2.trans (Ext.upd hd')) (e2.fresh hd') (by rw [upd_same, Nat.zero_add]; rfl)
        refine ⟨_, rfl, b, T.C_Places, dy, _, _, rfl, hb3, T.c_Places, T.nf_Places_numbers, rfl, _, rfl, tn, _, (i : Nat), V.int x, rfl, rfl, htn.ext e2, atI_nat (by rw [List.getElem?_map, hx]; rfl), _, _, rfl, rfl, _, rfl, ite2 (fun c2 => ?_) (fun c2 => ?_)⟩
        · refine ⟨_, rfl, ab, T.C_Bar, adx, _, _, rfl, hab, T.c_Bar, T.nf_Bar_length, rfl, _, rfl, b, T.C_Places, dy, _, _, rfl, hb3, T.c_Places, T.nf_Places_parts, rfl, _, _, rfl, rfl, .inl ⟨by omega, by omega⟩, _, _, rfl, rfl, _, rfl, ite2 (fun c3 => ?_) (fun c3 => ?_)⟩
          · refine ⟨_, rfl, rz_ok (n := 1) rfl (by decide) (rz ?_)⟩
            unfold offPl
            rw [c2, Bool.true_and]
            exact c3
          · refine ⟨e2, fun j c y hj hc hy => ?_, _, _, rfl⟩
            by_cases hji : j = i
            · subst hji
              rw [hbb] at hc
              rw [hx] at hy
              cases hc
              cases hy
              unfold offPl
              rw [c2, Bool.true_and]
              exact Bool.eq_false_iff.mpr c3
            · exact hno j c y (by omega) hc hy
        · refine ⟨_, rfl, ite2 (fun c3 => ?_) (fun c3 => absurd rfl c3)⟩
          refine ⟨_, rfl, rz_ok (n := 1) rfl (by decide) (rz ?_)⟩
          unfold offPl
          rw [Bool.eq_false_iff.mpr c2]
          rfl
      · rintro σ H1 ⟨e1, hno, v2, v3, rfl⟩
        refine kQ (pl_no fun j c y h1 h2 => hno j c y ?_ h1 h2) _ e1
        have := (List.getElem?_eq_some_iff.mp h1).1
        omega
end
end K23
namespace K23
open PySem L2
section
variable {P : Program} {w : World} {K : PySem.W.Frag} {mg : Str → Option Value} {base : Heap}
def inSp (q : Int) (z : BarD × Int) : Bool := if decide (z.1.lo * q ≤ z.2) = true then decide (z.2 ≤ z.1.hi * q) else false
def withinB (q : Int) (bs : List BarD) (ns : List Int) : Bool := ((bs.zip ns).map (inSp q)).all id
def spWithin (K : PySem.W.Frag) (T : Tx K mg) : Sp := fun vs H Q E => ∃ (v u : V) (n : Int) (bs : List BarD) (hl : List (Int × Int)) (ns : List Int) (q : Int), vs = [v, u] ∧ Is K H (wbD T.C_Web T.C_Bar n bs hl) v ∧ Is K H (plD T.C_Places ns q) u ∧ (∀ b ∈ bs, 0 ≤ b.len ∧ b.len ≤ 1000000 ∧ 0 ≤ b.lo ∧ b.lo ≤ b.hi ∧ b.hi ≤ b.len) ∧ bs.length ≤ 1000 ∧
  (∀ r, ckPl q bs ns = some r → r.E T E H) ∧ (ckPl q bs ns = none → ∀ H', Ext H H' → Q (.bl (withinB q bs ns)) H')
theorem ok_is_within (T : Tx K mg) : FnOk P w K mg base (L2.CX P w) 6 T.a_is_within T.fd_is_within ["web", "places"] (spWithin K T) := by
  refine T.F_is_within.okX sc_is_within (fun vs H Q E h => ?_) (fun cdv A outer s H vs Q E hr h => ?_)
  · obtain ⟨v, u, n, bs, hl, ns, q, rfl, _⟩ := h
    rfl
  · obtain ⟨v, u, n, bs, hl, ns, q, rfl, hv, hu, hlen, hbl, kE, kQ⟩ := h
    refine ⟨_, (pss_cons (ps_expr (pe_call (ok_check_places T) (hr.mono (by decide)) rfl T.m_check_places T.F_check_places.kp T.b_check_places .nil (passes_call (takes_of rfl rfl rfl rfl) (fun _ _ _ _ h => h)) (pa_cons (pv 0) (pa_cons (pv 1) pa_nil))))
      (pss_one (ps_ret (pe_callB (cr_all rfl) (by rfl) T.z_all (by decide +kernel) (pa_cons (pe_lc (own := [("bar", 2), ("number", 3)]) (g := gTup K 2 (gCons (gName 2) (gCons (gName 3) gNil))) (tt := tYes) (te := tChain (rI0 fun i j => .bl (decide (i ≤ j))) (rI0 fun i j => .bl (decide (i ≤ j))) (tOp (rI CMul fun i j => .int (i * j)) (tFld K (tVar 2) "least") (tFld K (tVar 1) "parts")) (tVar 3) (tOp (rI CMul fun i j => .int (i * j)) (tFld K (tVar 2) "greatest") (tFld K (tVar 1) "parts"))) (by rfl) sc_is_within.nd (RZ.pi_zipA (by rfl) T.z_zip (pa_cons (pe_fld (pv 0) rfl) (pa_cons (pe_fld (pv 1) rfl) pa_nil))) (blkOk_by (own := [("bar", 2), ("number", 3)]) (N := N_is_within) (sc := defScope s_is_within) (by decide +kernel)) (fun _ _ _ _ _ => (by exact pg_tup rfl (pgs_cons (pg_name (i := 2) sc_is_within.nd rfl (Or.inl rfl)) (pgs_cons (pg_name (i := 3) sc_is_within.nd rfl (Or.inl rfl)) pgs_nil)))) (fun _ _ _ _ _ => pts_nil) (fun _ _ _ _ _ => (by exact pe_chain op_le op_le (pe_op op_mul (pe_fld (pv 2) rfl) (pe_fld (pv 1) rfl)) (pv 3) (pe_op op_mul (pe_fld (pv 2) rfl) (pe_fld (pv 1) rfl))))) pa_nil))))), ?_⟩
    refine ⟨_, rfl, _, rfl, v, u, n, bs, hl, ns, q, rfl, hv, hu, fun b hb => ⟨(hlen b hb).1, (hlen b hb).2.1⟩, kE, fun hck H1 e1 => ?_⟩
    have hnl : ns.length = bs.length := Classical.byContradiction fun z => by
      unfold ckPl at hck
      rw [if_pos (fun y => z (by omega))] at hck
      cases hck
    obtain ⟨a, dx, t, d, ws, rfl, ha0, ht0, hb0, _⟩ := wb_fields hv
    obtain ⟨b, dy, tn, rfl, hb20, htn0⟩ := plD_fields hu
    have ha := e1 _ _ ha0
    have hb2 := e1 _ _ hb20
    have ht := ht0.ext e1
    have htn := htn0.ext e1
    have hb := hb0.ext e1
    have hwl : ws.length = bs.length := by rw [isL_len hb, List.length_map]
    refine ⟨_, rfl, a, T.C_Web, dx, _, _, rfl, ha, T.c_Web, T.nf_Web_bars, rfl, _, rfl, b, T.C_Places, dy, _, _, rfl, hb2, T.c_Places, T.nf_Places_numbers, rfl, t, tn, _, _, rfl, .inr ⟨ht, htn, fun D hD => ?_⟩⟩
    refine lc_zipT (xs := ws) (ys := ns.map V.int) (by rw [List.length_map, hwl, hnl]) (fun i H' => Ext H1 H' ∧ H' D = some (.lst ((((bs.zip ns).take i).map (inSp q)).map V.bl))) ⟨Ext.upd hD, by rw [upd_same, List.take_zero] <;> rfl⟩ (fun i H' p => ⟨ht.ext p.1, htn.ext p.1⟩) ?_ ?_
    · rintro i x y tp H2 hx hy ⟨e2, hD2⟩ htp
      obtain ⟨d0, hd0, ix⟩ := hb.get hx
      obtain ⟨bb, hbb, rfl⟩ : ∃ bb, bs[i]? = some bb ∧ d0 = brD T.C_Bar bb := by
        rw [List.getElem?_map] at hd0
        cases e : bs[i]? with
        | none => rw [e] at hd0; cases hd0
        | some b => rw [e] at hd0; exact ⟨b, rfl, (Option.some.inj hd0).symm⟩
      obtain ⟨m, hm, rfl⟩ : ∃ m, ns[i]? = some m ∧ y = V.int m := by
        rw [List.getElem?_map] at hy
        cases e : ns[i]? with
        | none => rw [e] at hy; cases hy
        | some n => rw [e] at hy; exact ⟨n, rfl, (Option.some.inj hy).symm⟩
      have hz : (bs.zip ns)[i]? = some (bb, m) := by rw [List.getElem?_zip_eq_some]; exact ⟨hbb, hm⟩
      have e3 : Ext H1 (upd H2 tp (.tup [x, V.int m])) := e2.trans (Ext.upd htp)
      have hD3 : (upd H2 tp (.tup [x, V.int m])) D = some (.lst ((((bs.zip ns).take i).map (inSp q)).map V.bl)) := Ext.upd htp _ _ hD2
      refine ⟨tp, _, rfl, SqT.of upd_same, rfl, _, _, rfl, _, _, rfl, rfl, rfl, tyes ?_⟩
      generalize upd H2 tp (.tup [x, V.int m]) = H3 at e3 hD3 ⊢
      obtain ⟨ab, adx, rfl, hab⟩ := br_fields (ix.ext e3)
      have hb3 := e3 _ _ hb2
      have hl1 := hlen bb (List.mem_of_getElem? hbb)
      have fin : ∀ c, inSp q (bb, m) = c → ∃ acc, H3 D = some (.lst acc) ∧ acc.length < sizeLine ∧ Ext H1 (upd H3 D (.lst (acc ++ [V.bl c]))) ∧ (upd H3 D (.lst (acc ++ [V.bl c]))) D = some (.lst ((((bs.zip ns).take (i + 1)).map (inSp q)).map V.bl)) := fun c hc => by
        refine ⟨_, hD3, ?_, e3.mut hD, ?_⟩
        · rw [List.length_map, List.length_map, List.length_take, List.length_zip]
          exact Nat.lt_of_lt_of_le (show min i (min bs.length ns.length) < 2000 by omega) (by decide)
        · rw [upd_same, List.take_add_one, hz, List.map_append, List.map_append, ← hc]
          rfl
      refine ⟨_, rfl, ab, T.C_Bar, adx, _, _, rfl, hab, T.c_Bar, T.nf_Bar_least, rfl, _, rfl, b, T.C_Places, dy, _, _, rfl, hb3, T.c_Places, T.nf_Places_parts, rfl, _, _, rfl, rfl, .inl ⟨by omega, by omega⟩, _, rfl, _, _, rfl, rfl, _, rfl, ite2 (fun c => ?_) (fun c => ?_)⟩
      · refine ⟨_, rfl, ab, T.C_Bar, adx, _, _, rfl, hab, T.c_Bar, T.nf_Bar_greatest, rfl, _, rfl, b, T.C_Places, dy, _, _, rfl, hb3, T.c_Places, T.nf_Places_parts, rfl, _, _, rfl, rfl, .inl ⟨by omega, by omega⟩, _, _, rfl, rfl, ?_⟩
        exact fin _ (by unfold inSp; exact if_pos c)
      · exact fin false (by unfold inSp; exact if_neg c)
    · rintro H2 ⟨e2, hD2⟩
      rw [hwl, show (bs.zip ns).take bs.length = bs.zip ns from List.take_of_length_le (by rw [List.length_zip]; omega)] at hD2
      exact ⟨D, _, rfl, SqL.of hD2, kQ hck H2 (e1.trans e2)⟩
end
end K23
namespace L2
theorem cut_take (xs : List V) (k : Nat) : cutV xs none (some (k : Int)) = xs.take k := by
  unfold cutV
  rw [HT.sIx_nat, HT.sIx_none, List.drop_zero, Nat.sub_zero]
  by_cases h : k ≤ xs.length
  · rw [Nat.min_eq_left h]
  · rw [Nat.min_eq_right (by omega), List.take_of_length_le (Nat.le_refl _), List.take_of_length_le (by omega)]
theorem cut_drop (xs : List V) (k : Nat) : cutV xs (some (k : Int)) none = xs.drop k := by
  unfold cutV
  rw [HT.sIx_nat, HT.sIx_none]
  by_cases h : k ≤ xs.length
  · rw [Nat.min_eq_left h, List.take_of_length_le (by rw [List.length_drop]; omega)]
  · rw [Nat.min_eq_right (by omega), List.drop_eq_nil_of_le (Nat.le_refl _), List.drop_eq_nil_of_le (by omega), List.take_nil]
theorem mem_rangeI {n : Nat} {x : Int} : x ∈ rangeI n ↔ 0 ≤ x ∧ x < n := by
  unfold rangeI
  rw [List.mem_map]
  constructor
  · rintro ⟨i, hi, rfl⟩
    have := List.mem_range.mp hi
    omega
  · rintro ⟨h0, h1⟩
    exact ⟨x.toNat, List.mem_range.mpr (by omega), by omega⟩
theorem nodup_rangeI (n : Nat) : (rangeI n).Nodup := by
  unfold rangeI
  rw [List.nodup_iff_pairwise_ne, List.pairwise_map]
  exact (List.nodup_iff_pairwise_ne.mp List.nodup_range).imp fun h e => h (by omega)
theorem len_rangeI (n : Nat) : (rangeI n).length = n := by
  unfold rangeI
  rw [List.length_map, List.length_range]
end L2
namespace K23
open PySem L2
structure BarOk (n : Int) (b : BarD) : Prop where
  a0 : 0 ≤ b.a
  a1 : b.a < n
  b0 : 0 ≤ b.b
  b1 : b.b < n
  c0 : 0 ≤ b.c
  c1 : b.c < n
  ab : b.b ≠ b.a
  ac : b.c ≠ b.a
  bc : b.c ≠ b.b
  l0 : 1 ≤ b.len
  l1 : b.len ≤ 1000000
  o0 : 0 ≤ b.lo
  o1 : b.lo ≤ b.hi
  o2 : b.hi ≤ b.len
theorem BarOk.ck {n k : Int} {b : BarD} (h : BarOk n b) : ckBar n k b = none := by
  have hoff : ∀ r : Int, 0 ≤ r → r < n → offRod n r = false := fun r h0 h1 => by
    unfold offRod
    rw [decide_eq_true h0, decide_eq_true h1]
    rfl
  unfold ckBar
  have hf : [b.a, b.b, b.c].find? (offRod n) = none := by
    rw [List.find?_cons, hoff _ h.a0 h.a1, List.find?_cons, hoff _ h.b0 h.b1, List.find?_cons, hoff _ h.c0 h.c1]
    rfl
  rw [hf]
  dsimp only
  rw [if_neg h.ab, if_neg (fun z => z.elim h.ac h.bc), if_neg (fun z => z ⟨h.l0, h.l1⟩), if_neg (fun z => z ⟨h.o0, h.o1, h.o2⟩)]
structure WebOk (n : Int) (hl : List (Int × Int)) (bs : List BarD) : Prop where
  n3 : 3 ≤ n
  n10 : n ≤ 10
  keys : ∀ q ∈ hl, (0 ≤ q.1 ∧ q.1 < n) ∧ -1000000 ≤ q.2 ∧ q.2 ≤ 1000000
  nd : (hl.map (·.1)).Nodup
  ne : hl ≠ []
  b1 : 1 ≤ bs.length
  b8 : bs.length ≤ 8
  sum : (bs.length : Int) = n - hl.length
  bars : ∀ b ∈ bs, BarOk n b
theorem look_mem : ∀ {hl : List (Int × Int)} {r : Int}, r ∈ hl.map (·.1) → (r, lookI hl r) ∈ hl
  | [], _, h => by cases h
  | p :: hl, r, h => by
    unfold lookI
    by_cases e : p.1 = r
    · rw [List.find?_cons, decide_eq_true e]
      subst e
      exact List.mem_cons_self
    · rw [List.find?_cons, decide_eq_false e]
      refine List.mem_cons_of_mem _ ?_
      refine look_mem (hl := hl) ?_
      rcases List.mem_cons.mp h with h | h
      · exact absurd h.symm e
      · exact h
theorem WebOk.l64 {n : Int} {hl : List (Int × Int)} {bs : List BarD} (h : WebOk n hl bs) : hl.length < 64 := by
  have := h.sum
  have := h.n10
  omega
theorem WebOk.ck {n : Int} {hl : List (Int × Int)} {bs : List BarD} (h : WebOk n hl bs) : ckWeb n hl bs = none := by
  have h1 : (srtI (hl.map (·.1))).find? (offRod n) = none := by
    rw [List.find?_eq_none]
    intro r hr
    have hm := look_mem ((srtI_perm _).mem_iff.mp hr)
    have := (h.keys _ hm).1
    unfold offRod
    rw [decide_eq_true this.1, decide_eq_true this.2]
    decide
  have h2 : (srtI (hl.map (·.1))).find? (farH hl) = none := by
    rw [List.find?_eq_none]
    intro r hr
    have hm := look_mem ((srtI_perm _).mem_iff.mp hr)
    have := (h.keys _ hm).2
    unfold farH
    rw [decide_eq_true this.1, decide_eq_true this.2]
    decide
  have h3 : ckRods n hl = none := by
    unfold ckRods
    rw [if_neg (fun z => z ⟨h.n3, h.n10⟩), h1]
    dsimp only
    rw [h2]
    dsimp only
    rw [if_neg h.ne]
  unfold ckWeb
  rw [h3]
  dsimp only
  unfold ckBars
  have := h.b1
  have := h.b8
  rw [if_neg (fun z => z ⟨by omega, by omega⟩), if_neg (fun z => z h.sum)]
  exact ck_no fun j c hc => (h.bars c (List.mem_of_getElem? hc)).ck
section
variable {P : Program} {w : World} {K : PySem.W.Frag} {mg : Str → Option Value} {base : Heap}
def bfD (b : BarD) : Dt := .tup (brT b)
theorem bf_is {H : Hp} {t : Addr} {b : BarD} (h : H t = some (.tup (brV b))) : Is K H (bfD b) (.ref t) :=
  ⟨t, _, rfl, SqT.of h, _, _, rfl, rfl, _, _, rfl, rfl, _, _, rfl, rfl, _, _, rfl, rfl, _, _, rfl, rfl, _, _, rfl, rfl, rfl⟩
theorem bf_of {H : Hp} {v : V} {b : BarD} (h : Is K H (bfD b) v) : ∃ t, v = .ref t ∧ SqT K H t (brV b) := by
  obtain ⟨t, ws, rfl, ht, v1, r1, e1, f1, v2, r2, e2, f2, v3, r3, e3, f3, v4, r4, e4, f4, v5, r5, e5, f5, v6, r6, e6, f6, e7⟩ := h
  subst e7 e6 e5 e4 e3 e2 e1
  cases (show v1 = _ from f1)
  cases (show v2 = _ from f2)
  cases (show v3 = _ from f3)
  cases (show v4 = _ from f4)
  cases (show v5 = _ from f5)
  cases (show v6 = _ from f6)
  exact ⟨t, rfl, ht⟩
theorem hd_of_is {H : Hp} {v : V} {hl : List (Int × Int)} (h : Is K H (hdD hl) v) : ∃ d, v = .ref d ∧ H d = some (.dK (hK hl)) := by
  obtain ⟨d, qs, rfl, k2, k3, k4⟩ := h
  have hq : qs = hK hl := hd_of k3 (by
    have z : IsL K H ((hl.map (·.2)).map Dt.int) (qs.map (·.2)) := by rw [List.map_map]; exact k4
    rw [of_isL_ints z, List.map_map]
    rfl)
  subst hq
  exact ⟨d, rfl, k2⟩
theorem merge_new : ∀ (kvs acc : List (Key × V)), (acc.map (·.1) ++ kvs.map (·.1)).Nodup → mergeK acc kvs = acc ++ kvs
  | [], acc, _ => by rw [List.append_nil]; rfl
  | (k, v) :: kvs, acc, h => by
    show mergeK (putK acc k v) kvs = _
    have hk : k ∉ acc.map (·.1) := fun z => by
      have := List.nodup_append.mp h
      exact this.2.2 k z k List.mem_cons_self rfl
    rw [put_new hk, merge_new kvs (acc ++ [(k, v)]), List.append_assoc]
    · rfl
    · rw [List.map_append, List.append_assoc]
      exact h
end
end K23
namespace K23
open PySem L2
section
variable {P : Program} {w : World} {K : PySem.W.Frag} {mg : Str → Option Value} {base : Heap}
def StAt (H : Hp) (p : Addr) : Prop := ∃ a b c : Int, H p = some (.lst [.int a, .int b, .int c]) ∧ 0 ≤ a ∧ 7 ≤ b ∧ b < 2147483637 ∧ 0 ≤ c ∧ c < 2147483587
theorem StAt.well {H : Hp} {p : Addr} (h : StAt H p) : WellAt H p := let ⟨a, b, c, e, _⟩ := h; ⟨a, b, c, e⟩
theorem StAt.ext {H H' : Hp} {p : Addr} (h : StAt H p) (e : Ext H H') : StAt H' p := let ⟨a, b, c, h1, h2⟩ := h; ⟨a, b, c, e _ _ h1, h2⟩
theorem StAt.upd {H : Hp} {p D : Addr} {o : HO} (h : StAt H p) (hD : D ≠ p) : StAt (L2.upd H D o) p := let ⟨a, b, c, h1, h2⟩ := h; ⟨a, b, c, by rw [upd_ne hD.symm]; exact h1, h2⟩
theorem StAt.ne {H : Hp} {p q : Addr} (h : StAt H p) (hq : H q = none) : q ≠ p := h.well.ne hq
def spState : Sp := fun vs H Q _ => ∃ n : Int, vs = [.int n] ∧ ∀ p H', H p = none → Ext H H' → StAt H' p → Q (.ref p) H'
theorem ok_l_state (T : Tx K mg) : FnOk P w K mg base (L2.CX P w) 1 T.a_l_state T.fd_l_state ["_law_source"] spState := by
  refine T.F_l_state.okX sc_l_state (fun vs H Q E h => ?_) (fun cdv A outer s H vs Q E hr h => ?_)
  · obtain ⟨n, rfl, _⟩ := h
    rfl
  · obtain ⟨n, rfl, k⟩ := h
    refine ⟨_, (pss_cons (ps_set (i := 0) sc_l_state.nd rfl (Or.inl rfl) (pe_callB call_abs (by rfl) T.z_abs (by decide +kernel) (pa_cons (pv 0) pa_nil)))
      (pss_one (ps_ret (pe_lst (pa_cons (pe_op op_mul (pv 0) (pe_callTy call_int1 (by rfl) T.z_int (by decide +kernel) (pa_cons (pe_cmpR op_ge (pv 0) (pe_op op_pow pe_int pe_int) (nomark _)) pa_nil))) (pa_cons (pe_op op_add (pe_op op_modN (pv 0) pe_int) pe_int) (pa_cons (pe_op op_modN (pv 0) pe_int) pa_nil))))))), ?_⟩
    refine ⟨_, rfl, n, rfl, ?_⟩
    obtain ⟨m, hm, hm0⟩ : ∃ m : Int, (if n < 0 then -n else n) = m ∧ 0 ≤ m := ⟨_, rfl, by split <;> omega⟩
    rw [hm]
    refine ⟨_, rfl, _, rfl, _, _, rfl, rfl, cpow18, _, _, rfl, rfl, .inr ⟨_, rfl, ?_⟩⟩
    obtain ⟨u, hu, hu0, hu1⟩ : ∃ u : Int, (if (decide (m ≥ 10 ^ (18 : Int).toNat)) = true then (1 : Int) else 0) = u ∧ 0 ≤ u ∧ u ≤ 1 := ⟨_, rfl, by split <;> decide, by split <;> decide⟩
    have b1 := fmod_bounds (a := m) (m := 2147483629) (by decide)
    have b2 := fmod_bounds (a := m) (m := 2147483587) (by decide)
    refine ⟨_, _, rfl, rfl, .inr ⟨by split <;> decide, by split <;> decide⟩, ?_⟩
    refine ⟨_, rfl, _, _, rfl, rfl, (show (2147483629 : Int) ≠ 0 by decide), _, _, rfl, rfl, _, rfl, _, _, rfl, rfl, (show (2147483587 : Int) ≠ 0 by decide), by show 3 ≤ sizeLine; decide, fun p hp => ?_⟩
    refine k p _ hp (Ext.upd hp) ⟨_, _, _, upd_same, ?_, by omega, by omega, b2.1, b2.2⟩
    exact Int.mul_nonneg hm0 (by split <;> decide)
def spDigit : Sp := fun vs H Q _ => ∃ (p : Addr) (m : Int), vs = [.ref p, .int m] ∧ StAt H p ∧ 0 < m ∧ m < 1073741824 ∧ ∀ (r : Int) (H' : Hp), DE p H H' → StAt H' p → 0 ≤ r → r < m → Q (.int r) H'
theorem ok_l_digit (T : Tx K mg) : FnOk P w K mg base (L2.CX P w) 1 T.a_l_digit T.fd_l_digit ["_law_state_here", "_law_base"] spDigit := by
  refine T.F_l_digit.okX sc_l_digit (fun vs H Q E h => ?_) (fun cdv A outer s H vs Q E hr h => ?_)
  · obtain ⟨p, m, rfl, _⟩ := h
    rfl
  · obtain ⟨p, m, rfl, ⟨a, b, c, hw, a0, b0, b1, c0, c1⟩, hm, hm2, k⟩ := h
    refine ⟨_, (pss_cons (ps_if (pt_cmpR op_gt (pe_ix ix_list (pv 0) pe_int (fun _ _ => rfl)) pe_int (nomark _)) (pss_cons (ps_set (i := 2) sc_l_digit.nd rfl (Or.inl rfl) (pe_op op_modN (pe_ix ix_list (pv 0) pe_int (fun _ _ => rfl)) (pv 1)))
      (pss_cons (ps_asg (pe_op op_fdivN (pe_ix ix_list (pv 0) pe_int (fun _ _ => rfl)) (pv 1)) (pg_sub (pv 0) pe_int set_list))
      (pss_one (ps_ret (pv 2))))) pss_nil)
      (pss_cons (ps_set (i := 3) sc_l_digit.nd rfl (Or.inl rfl) (pe_op op_mul (pe_ix ix_list (pv 0) pe_int (fun _ _ => rfl)) (pe_op op_add (pe_op op_fdivN (pe_ix ix_list (pv 0) pe_int (fun _ _ => rfl)) pe_int) pe_int)))
      (pss_cons (ps_asg (pe_op op_add (pe_op op_modN (pe_op op_add (pv 3) (pe_ix ix_list (pv 0) pe_int (fun _ _ => rfl))) pe_int) pe_int) (pg_sub (pv 0) pe_int set_list))
      (pss_one (ps_ret (pe_op op_modN (pe_op op_fdivN (pe_ix ix_list (pv 0) pe_int (fun _ _ => rfl)) pe_int) (pv 1))))))), ?_⟩
    refine ⟨_, rfl, p, _, _, _, rfl, rfl, SqL.of hw, at3a, _, _, rfl, rfl, _, rfl, ?_⟩
    refine ite2 (fun _ => ?_) (fun _ => ?_)
    · refine ⟨_, rfl, p, _, _, _, rfl, rfl, SqL.of hw, at3a, _, rfl, _, _, rfl, rfl, (by omega), ?_⟩
      refine ⟨_, rfl, p, _, _, _, rfl, rfl, SqL.of hw, at3a, _, rfl, _, _, rfl, rfl, ⟨by omega, by omega⟩, ?_⟩
      refine ⟨_, rfl, p, _, _, 0, rfl, rfl, hw, rfl, ?_⟩
      refine ⟨_, rfl, ?_⟩
      have fb := fmod_bounds (a := a) hm
      refine k _ _ DE.upd ⟨_, _, _, upd_same, ?_, b0, b1, c0, c1⟩ fb.1 fb.2
      rw [Int.fdiv_eq_ediv_of_nonneg _ (by omega)]
      exact Int.ediv_nonneg a0 (by omega)
    · refine ⟨_, rfl, p, _, _, _, rfl, rfl, SqL.of hw, at3b, _, rfl, p, _, _, _, rfl, rfl, SqL.of hw, at3b, _, _, rfl, rfl, ⟨by decide, by decide⟩, _, _, rfl, rfl, _, _, rfl, rfl, .inl ⟨by omega, by omega⟩, ?_⟩
      refine ⟨_, rfl, _, rfl, p, _, _, _, rfl, rfl, SqL.of hw, at3c, _, _, rfl, rfl, _, _, rfl, rfl, (show (2147483629 : Int) ≠ 0 by decide), _, _, rfl, rfl, ?_⟩
      refine ⟨_, rfl, p, _, _, 1, rfl, rfl, hw, rfl, ?_⟩
      have n1 := fmod_bounds (a := b * (b.fdiv 1009 + 69621) + c) (m := 2147483629) (by decide)
      refine ⟨_, rfl, p, _, _, _, rfl, rfl, SqL.of upd_same, at3b, _, _, rfl, rfl, ⟨by decide, by decide⟩, _, rfl, _, _, rfl, rfl, (show m ≠ 0 by omega), ?_⟩
      exact k _ _ DE.upd ⟨_, _, _, upd_same, a0, by omega, by omega, c0, c1⟩ (fmod_bounds hm).1 (fmod_bounds hm).2
def hookV : Option Int → V
  | none => .non
  | some c => .int c
theorem filter_ne_len {l : List Int} {c : Int} (hn : l.Nodup) (hc : c ∈ l) : (l.filter fun x => decide (x ≠ c)).length + 1 = l.length := by
  induction l with
  | nil => cases hc
  | cons x r ih =>
    have hx := List.nodup_cons.mp hn
    rw [List.filter_cons]
    by_cases e : x = c
    · subst e
      rw [if_neg (by simp)]
      rw [List.filter_eq_self.mpr fun y hy => by
        refine decide_eq_true fun z => ?_
        rw [z] at hy
        exact hx.1 hy]
      rfl
    · rw [if_pos (decide_eq_true e), List.length_cons, List.length_cons, ih hx.2 ((List.mem_cons.mp hc).resolve_left fun z => e z.symm)]
theorem get_inj {l : List Int} {i j : Nat} {x : Int} (hn : l.Nodup) (h1 : l[i]? = some x) (h2 : l[j]? = some x) : i = j := by
  obtain ⟨a1, b1⟩ := List.getElem?_eq_some_iff.mp h1
  obtain ⟨a2, b2⟩ := List.getElem?_eq_some_iff.mp h2
  have hp := List.pairwise_iff_getElem.mp (List.nodup_iff_pairwise_ne.mp hn)
  rcases Nat.lt_trichotomy i j with h | h | h
  · exact absurd (b1.trans b2.symm) (hp i j a1 a2 h)
  · exact h
  · exact absurd (b2.trans b1.symm) (hp j i a2 a1 h)
def spLBar (K : PySem.W.Frag) : Sp := fun vs H Q _ => ∃ (p : Addr) (n : Nat) (m : Int) (hk : Option Int), vs = [.ref p, .int (n : Int), .int m, hookV hk] ∧ StAt H p ∧ 3 ≤ n ∧ n ≤ 10 ∧ 1 ≤ m ∧ m ≤ 1000000 ∧ (∀ c, hk = some c → 0 ≤ c ∧ c < (n : Int)) ∧
  ∀ (t : Addr) (b : BarD) (H' : Hp), t ≠ p → del H p t = none → DE p H H' → StAt H' p → H' t = some (.tup (brV b)) → BarOk (n : Int) b → b.len ≤ m → Q (.ref t) H'
theorem ok_l_bar (T : Tx K mg) : FnOk P w K mg base (L2.CX P w) 2 T.a_l_bar T.fd_l_bar ["_law_s", "_law_rods", "_law_most", "_law_hook"] (spLBar K) := by
  refine T.F_l_bar.okX sc_l_bar (fun vs H Q E h => ?_) (fun cdv A outer s H vs Q E hr h => ?_)
  · obtain ⟨p, n, m, hk, rfl, _⟩ := h
    rfl
  · obtain ⟨p, n, m, hk, rfl, hs, n3, n10, m1, m2, hhk, k⟩ := h
    refine ⟨_, (pss_cons (ps_set (i := 4) sc_l_bar.nd rfl (Or.inr rfl) (pe_ix ix_list (pe_lst (pa_cons (pv 3) (pa_cons (pe_call (ok_l_digit T) (hr.mono (by decide)) rfl T.m_l_digit T.F_l_digit.kp T.b_l_digit .nil passL (pa_cons (pv 0) (pa_cons (pv 1) pa_nil))) pa_nil))) (pe_callTy call_int1 (by rfl) T.z_int (by decide +kernel) (pa_cons (pe_cmpR op_isN (pv 3) pe_non (nomark _)) pa_nil)) (fun _ _ => rfl)))
      (pss_cons (ps_setLc (i := 5) (own := [("_law_rod", 10)]) (g := gName 10) (by rfl) sc_l_bar.nd rfl rfl (sw_true rfl rfl rfl (by decide +kernel)) (pi_range1 rfl T.z_range (pa_cons (pv 1) pa_nil)) (blkOk_by (own := [("_law_rod", 10)]) (N := N_l_bar) (sc := defScope s_l_bar) (by decide +kernel)) (fun _ _ _ _ _ => (pg_name (i := 10) sc_l_bar.nd rfl (Or.inl rfl))) (fun _ _ _ _ _ => (pts_one (pt_cmpR op_ne (pv 10) (pv 4) (nomark _)))) (fun _ _ _ _ _ => (pv 10)))
      (pss_cons (ps_set (i := 6) sc_l_bar.nd rfl (Or.inl rfl) (pe_call (ok_l_digit T) (hr.mono (by decide)) rfl T.m_l_digit T.F_l_digit.kp T.b_l_digit .nil passL (pa_cons (pv 0) (pa_cons (pe_op op_sub (pv 1) pe_int) pa_nil))))
      (pss_cons (ps_set (i := 7) sc_l_bar.nd rfl (Or.inl rfl) (pe_op op_modN (pe_op op_add (pe_op op_add (pv 6) pe_int) (pe_call (ok_l_digit T) (hr.mono (by decide)) rfl T.m_l_digit T.F_l_digit.kp T.b_l_digit .nil passL (pa_cons (pv 0) (pa_cons (pe_op op_sub (pv 1) pe_int) pa_nil)))) (pe_op op_sub (pv 1) pe_int)))
      (pss_cons (ps_set (i := 8) sc_l_bar.nd rfl (Or.inl rfl) (pe_op op_add pe_int (pe_call (ok_l_digit T) (hr.mono (by decide)) rfl T.m_l_digit T.F_l_digit.kp T.b_l_digit .nil passL (pa_cons (pv 0) (pa_cons (pv 2) pa_nil)))))
      (pss_cons (ps_set (i := 9) sc_l_bar.nd rfl (Or.inl rfl) (pe_call (ok_l_digit T) (hr.mono (by decide)) rfl T.m_l_digit T.F_l_digit.kp T.b_l_digit .nil passL (pa_cons (pv 0) (pa_cons (pe_op op_add (pv 8) pe_int) pa_nil))))
      (pss_one (ps_ret (pe_tup (pa_cons (pe_ix ix_list (pv 5) (pv 6) (fun _ _ => rfl)) (pa_cons (pe_ix ix_list (pv 5) (pv 7) (fun _ _ => rfl)) (pa_cons (pv 4) (pa_cons (pv 8) (pa_cons (pv 9) (pa_cons (pe_op op_add (pv 9) (pe_call (ok_l_digit T) (hr.mono (by decide)) rfl T.m_l_digit T.F_l_digit.kp T.b_l_digit .nil passL (pa_cons (pv 0) (pa_cons (pe_op op_add (pe_op op_sub (pv 8) (pv 9)) pe_int) pa_nil)))) pa_nil))))))))))))))), ?_⟩
    refine ⟨_, rfl, _, rfl, _, rfl, p, _, rfl, hs, by omega, by omega, fun r1 H1 e1 hs1 r10 r11 => ?_⟩
    refine ⟨by show 2 ≤ sizeLine; decide, fun L hL => ?_⟩
    have e2 : DE p H (upd H1 L (.lst [hookV hk, .int r1])) := e1.trans (DE.of (Ext.upd hL))
    have hs2 : StAt (upd H1 L (.lst [hookV hk, .int r1])) p := hs1.ext (Ext.upd hL)
    have hL2 : (upd H1 L (.lst [hookV hk, .int r1])) L = some (.lst [hookV hk, .int r1]) := upd_same
    generalize upd H1 L (.lst [hookV hk, .int r1]) = H2 at e2 hs2 hL2 ⊢
    refine ⟨_, rfl, rfl, .inr ⟨_, rfl, ?_⟩⟩
    obtain ⟨c, hc, c0, c1⟩ : ∃ c : Int, atI [hookV hk, .int r1] (if decide (hookV hk = .non) = true then 1 else 0) = some (.int c) ∧ 0 ≤ c ∧ c < (n : Int) := by
      cases hk with
      | none => exact ⟨r1, rfl, r10, r11⟩
      | some c => exact ⟨c, rfl, hhk c rfl⟩
    refine ⟨L, _, _, _, rfl, rfl, SqL.of hL2, hc, ?_⟩
    -- others
    refine ⟨_, rfl, n, rfl, by omega, by omega, lc_rangeF (fun x => decide (x ≠ c)) (fun i => i) (by omega) (fun i hi H' e R N hR => ?_) (fun O H3 hO e3 hO3 => ?_)⟩
    · refine ⟨rfl, _, rfl, _, rfl, rfl, _, rfl, ?_⟩
      rw [Int.zero_add]
      by_cases hp : decide ((i : Int) ≠ c) = true
      · have hR' : R (.int (i : Int)) H' := by rw [if_pos hp] at hR; exact hR
        have hb : (!decide (V.int (i : Int) = V.int c)) = true := by
          rw [Bool.not_eq_true', decide_eq_false_iff_not]
          exact fun z => of_decide_eq_true hp (V.int.inj z)
        simp only [hb, if_true]
        exact ⟨_, rfl, hR'⟩
      · have hR' : N H' := by rw [if_neg hp] at hR; exact hR
        have hb : (!decide (V.int (i : Int) = V.int c)) = false := by
          rw [Bool.not_eq_false', decide_eq_true_iff]
          exact congrArg V.int (Classical.byContradiction fun z => hp (decide_eq_true z))
        rw [hb]
        exact hR'
    rw [List.map_id', Int.toNat_natCast] at hO3
    generalize hO' : (rangeI n).filter (fun x => decide (x ≠ c)) = os at hO3 ⊢
    have hol : os.length = n - 1 := by
      have := filter_ne_len (nodup_rangeI n) (mem_rangeI.mpr ⟨c0, c1⟩)
      rw [hO', len_rangeI] at this
      omega
    have hon : os.Nodup := by rw [← hO']; exact (nodup_rangeI n).filter _
    have hom : ∀ x ∈ os, (0 ≤ x ∧ x < (n : Int)) ∧ x ≠ c := fun x hx => by
      rw [← hO'] at hx
      obtain ⟨h1, h2⟩ := List.mem_filter.mp hx
      exact ⟨mem_rangeI.mp h1, of_decide_eq_true h2⟩
    have hOp : O ≠ p := hs2.ne hO
    have e3' : DE p H H3 := e2.trans (DE.of e3)
    have hs3 : StAt H3 p := hs2.ext e3
    clear hO' e3 hO e2 hs2 hL2 hc e1 hs1 hL
    refine ⟨_, rfl, _, rfl, _, _, rfl, rfl, p, _, rfl, hs3, by omega, by omega, fun f H4 e4 hs4 f0 f1 => ?_⟩
    refine ⟨_, rfl, _, _, rfl, rfl, _, rfl, _, rfl, _, _, rfl, rfl, p, _, rfl, hs4, by omega, by omega, fun g H5 e5 hs5 g0 g1 => ?_⟩
    refine ⟨_, _, rfl, rfl, _, rfl, _, _, rfl, rfl, _, _, rfl, rfl, (show ((n : Int) - 1) ≠ 0 by omega), ?_⟩
    have hsec := fmod_bounds (a := f + 1 + g) (m := (n : Int) - 1) (by omega)
    have hne : (f + 1 + g).fmod ((n : Int) - 1) ≠ f := by
      rw [Int.fmod_eq_emod_of_nonneg _ (by omega)]
      intro z
      have hd := Int.emod_add_mul_ediv (f + 1 + g) ((n : Int) - 1)
      rw [z] at hd
      have : ((n : Int) - 1) * ((f + 1 + g) / ((n : Int) - 1)) = 1 + g := by omega
      have h1 : 0 < (f + 1 + g) / ((n : Int) - 1) := by
        refine Int.not_le.mp fun h => ?_
        have := Int.mul_nonpos_of_nonneg_of_nonpos (show 0 ≤ (n : Int) - 1 by omega) h
        omega
      have h2 := Int.mul_le_mul_of_nonneg_left (show 1 ≤ (f + 1 + g) / ((n : Int) - 1) by omega) (show 0 ≤ (n : Int) - 1 by omega)
      omega
    dsimp only
    generalize (f + 1 + g).fmod ((n : Int) - 1) = sd at hsec hne ⊢
    refine ⟨_, rfl, _, rfl, p, _, rfl, hs5, by omega, by omega, fun l H6 e6 hs6 l0 l1 => ?_⟩
    refine ⟨_, _, rfl, rfl, ?_⟩
    refine ⟨_, rfl, _, rfl, _, _, rfl, rfl, p, _, rfl, hs6, by omega, by omega, fun lo H7 e7 hs7 o0 o1 => ?_⟩
    obtain ⟨xa, hxa, hxi⟩ : ∃ xa, os[f.toNat]? = some xa ∧ atI (os.map V.int) f = some (.int xa) := by
      have hl : f.toNat < os.length := by omega
      refine ⟨os[f.toNat], List.getElem?_eq_getElem hl, ?_⟩
      have := atI_nat (xs := os.map V.int) (j := f.toNat) (v := .int os[f.toNat]) (by rw [List.getElem?_map, List.getElem?_eq_getElem hl]; rfl)
      rwa [show ((f.toNat : Nat) : Int) = f by omega] at this
    obtain ⟨xb, hxb, hxj⟩ : ∃ xb, os[sd.toNat]? = some xb ∧ atI (os.map V.int) sd = some (.int xb) := by
      have hl : sd.toNat < os.length := by omega
      refine ⟨os[sd.toNat], List.getElem?_eq_getElem hl, ?_⟩
      have := atI_nat (xs := os.map V.int) (j := sd.toNat) (v := .int os[sd.toNat]) (by rw [List.getElem?_map, List.getElem?_eq_getElem hl]; rfl)
      rwa [show ((sd.toNat : Nat) : Int) = sd by omega] at this
    have hO7 := e7.to (e6.to (e5.to (e4.to hO3 hOp) hOp) hOp) hOp
    refine ⟨_, rfl, _, rfl, O, _, _, _, rfl, rfl, SqL.of hO7, hxi, _, rfl, _, rfl, O, _, _, _, rfl, rfl, SqL.of hO7, hxj, _, rfl, _, rfl, _, rfl, _, rfl, _, rfl, _, rfl, _, rfl, _, _, rfl, rfl, _, _, rfl, rfl, p, _, rfl, hs7, by omega, by omega, fun d H8 e8 hs8 d0 d1 => ?_⟩
    refine ⟨_, _, rfl, rfl, by show 6 ≤ sizeLine; decide, fun t ht => ?_⟩
    have e08 := (((e3'.trans e4).trans e5).trans e6).trans (e7.trans e8)
    have ha := hom xa (List.mem_of_getElem? hxa)
    have hb := hom xb (List.mem_of_getElem? hxb)
    refine k t ⟨xa, xb, c, 1 + l, lo, lo + d⟩ _ (hs8.ne ht) (DE.fresh e08 hs8.well ht) (e08.trans (DE.of (Ext.upd ht))) (hs8.ext (Ext.upd ht)) upd_same ?_ (show 1 + l ≤ m by omega)
    refine ⟨ha.1.1, ha.1.2, hb.1.1, hb.1.2, c0, c1, fun z => ?_, fun z => ha.2 z.symm, fun z => hb.2 z.symm, ?_, ?_, o0, ?_, ?_⟩
    · have z' : xb = xa := z
      rw [z'] at hxb
      have := get_inj hon hxa hxb
      omega
    all_goals (dsimp only; omega)
end
end K23
namespace K23
open PySem L2
section
variable {P : Program} {w : World} {K : PySem.W.Frag} {mg : Str → Option Value} {base : Heap}
theorem isL_bf {H : Hp} {p : Addr} : ∀ {ts : List Addr} {bs : List BarD}, Paired (fun t b => t ≠ p ∧ H t = some (.tup (brV b))) ts bs → IsL K (del H p) (bs.map bfD) (ts.map V.ref)
  | _, _, .nil => rfl
  | _, _, .cons h r => ⟨_, _, rfl, bf_is (by rw [del_ne h.1]; exact h.2), isL_bf r⟩
theorem br_del {C D : Addr} {H : Hp} {b : BarD} {v : V} {l : List V} (i : Is K H (brD C b) v) (h : H D = some (.lst l)) : Is K (del H D) (brD C b) v := by
  obtain ⟨a, dx, rfl, ha⟩ := br_fields i
  exact br_is (dx := dx) (by rw [del_ne (fun e => by rw [e, h] at ha; cases ha)]; exact ha)
theorem isL_snoc {H : Hp} : ∀ {ds : List Dt} {vs : List V} {d : Dt} {v : V}, IsL K H ds vs → Is K H d v → IsL K H (ds ++ [d]) (vs ++ [v])
  | [], _, _, _, h, i => by
    cases h
    exact ⟨_, _, rfl, i, rfl⟩
  | _ :: _, _, _, _, ⟨v, r, e, a, h⟩, i => by
    subst e
    exact ⟨v, _, rfl, a, isL_snoc h i⟩
def brTE (K : PySem.W.Frag) (C : Addr) (j : Nat) : TE := tMake C (spBar K C) [] E0 (tCons (tOp (rIxT K) (tVar j) (tC (.int 0))) (tCons (tOp (rIxT K) (tVar j) (tC (.int 1))) (tCons (tOp (rIxT K) (tVar j) (tC (.int 2))) (tCons (tOp (rIxT K) (tVar j) (tC (.int 3))) (tCons (tOp (rIxT K) (tVar j) (tC (.int 4))) (tCons (tOp (rIxT K) (tVar j) (tC (.int 5))) tNil))))))
theorem lc_bars {C a : Addr} {bs : List BarD} {ws : List V} {j : Nat} {vs : List Nat} {σ : St} {H1 : Hp} {Q : Addr → Hp → Prop} (hq : SqL K H1 a ws) (hb : IsL K H1 (bs.map bfD) ws) (hz : bs.length < 1000)
    (hj : ∀ v : V, ((wipe σ vs).set j (some v))[j]? = some (some v)) (hwp : ∀ v : V, wipe ((wipe σ vs).set j (some v)) vs = wipe σ vs)
    (hd : ∀ D H' rs, H1 D = none → Ext H1 H' → H' D = some (.lst rs) → IsL K (del H' D) (bs.map (brD C)) rs → Q D H') :
    (∃ ys, SqL K H1 a ys) ∧ ∀ D, H1 D = none → ∃ W : Nat → Nat → Hp → Prop, (∃ m, W 0 m (upd H1 D (.lst []))) ∧ ∀ i m H, W i m H →
      ((Itl K a).stop i H ∧ Q D H) ∨ ((Itl K a).go i H ∧ ∃ Nx : Hp → Prop, (∀ H', Nx H' → ∃ m', m' < m ∧ W (i + 1) m' H') ∧ ∀ x H', (Itl K a).yld i H x H' → gName j x (wipe σ vs) H' fun σ2 H2 => wipe σ2 vs = wipe σ vs ∧ tYes σ2 H2 fun b H3 =>
        if b = true then brTE K C j σ2 H3 fun y H4 => ∃ acc, H4 D = some (.lst acc) ∧ acc.length < sizeLine ∧ Nx (upd H4 D (.lst (acc ++ [y]))) else Nx H3) := by
  refine ⟨⟨_, hq⟩, fun D hD => lc_list (xs := ws) (fun i H' => Ext H1 H' ∧ ∃ rs, H' D = some (.lst rs) ∧ IsL K (del H' D) ((bs.take i).map (brD C)) rs) ⟨Ext.upd hD, [], upd_same, rfl⟩ (fun i H' _ p => hq.ext p.1) ?_ ?_⟩
  · rintro i y H' hi ⟨e1, rs, hD1, hrs⟩
    obtain ⟨d, hd', iy⟩ := hb.get hi
    obtain ⟨b, hbi, rfl⟩ : ∃ b, bs[i]? = some b ∧ d = bfD b := by
      rw [List.getElem?_map] at hd'
      cases e : bs[i]? with
      | none => rw [e] at hd'; cases hd'
      | some b => rw [e] at hd'; exact ⟨b, rfl, (Option.some.inj hd').symm⟩
    obtain ⟨t, rfl, ht⟩ := bf_of (iy.ext e1)
    refine ⟨hwp _, tyes ?_⟩
    refine ⟨_, hj _, t, _, 0, _, rfl, rfl, ht, atI_nat (xs := brV b) (j := 0) rfl, _, hj _, t, _, 1, _, rfl, rfl, ht, atI_nat (xs := brV b) (j := 1) rfl, _, hj _, t, _, 2, _, rfl, rfl, ht, atI_nat (xs := brV b) (j := 2) rfl, _, hj _, t, _, 3, _, rfl, rfl, ht, atI_nat (xs := brV b) (j := 3) rfl,
      _, hj _, t, _, 4, _, rfl, rfl, ht, atI_nat (xs := brV b) (j := 4) rfl, _, hj _, t, _, 5, _, rfl, rfl, ht, atI_nat (xs := brV b) (j := 5) rfl, fun x dx hx hdx hne => ?_⟩
    refine ⟨H', x, dx, b, rfl, hx, hdx, hne, rfl, fun H2 e2 i2 => ⟨rfl, ?_⟩⟩
    have hD2 := e2 _ _ hD1
    refine ⟨rs, hD2, ?_, (e1.trans e2).mut hD, rs ++ [.ref x], upd_same, ?_⟩
    · have h1 := isL_len hrs
      rw [List.length_map, List.length_take] at h1
      exact Nat.lt_of_lt_of_le (show rs.length < 2000 by omega) (by decide)
    · have hE : Ext (del H' D) (del (upd H2 D (.lst (rs ++ [.ref x]))) D) := (DE.of e2).trans DE.upd
      rw [List.take_add_one, hbi, List.map_append]
      refine isL_snoc (hrs.ext hE) ?_
      have z := br_del i2 hD2
      exact z.ext (DE.upd (w := D))
  · rintro H' ⟨e1, rs, hD1, hrs⟩
    have hl : ws.length = bs.length := by rw [isL_len hb, List.length_map]
    rw [hl, List.take_length] at hrs
    exact hd D H' rs hD e1 hD1 hrs
/-- a web as the law holds it: rods, heights, bars -/
def whD (n : Int) (hl : List (Int × Int)) (bs : List BarD) : Dt := .tup [.int n, hdD hl, .lst (bs.map bfD)]
theorem wh_of {H : Hp} {v : V} {n : Int} {hl : List (Int × Int)} {bs : List BarD} (h : Is K H (whD n hl bs) v) :
    ∃ (t hd bl : Addr) (ws : List V), v = .ref t ∧ SqT K H t [.int n, .ref hd, .ref bl] ∧ H hd = some (.dK (hK hl)) ∧ SqL K H bl ws ∧ IsL K H (bs.map bfD) ws := by
  obtain ⟨t, ws, rfl, ht, v1, r1, e1, f1, v2, r2, e2, f2, v3, r3, e3, f3, e4⟩ := h
  subst e4 e3 e2 e1
  cases (show v1 = _ from f1)
  obtain ⟨d, rfl, hd⟩ := hd_of_is f2
  obtain ⟨bl, zs, rfl, g1, g2⟩ := f3
  exact ⟨t, d, bl, zs, rfl, ht, hd, g1, g2⟩
theorem wh_is {H : Hp} {t hd bl : Addr} {n : Int} {hl : List (Int × Int)} {bs : List BarD} {ws : List V} (h : SqT K H t [.int n, .ref hd, .ref bl]) (h1 : H hd = some (.dK (hK hl))) (h2 : SqL K H bl ws) (h3 : IsL K H (bs.map bfD) ws) : Is K H (whD n hl bs) (.ref t) :=
  ⟨t, _, rfl, h, _, _, rfl, rfl, _, _, rfl, hd_is h1, _, _, rfl, ⟨bl, ws, rfl, h2, h3⟩, rfl⟩
theorem emod_ne {n a b : Int} {f : Int} (hn : 0 < n) (a0 : 0 ≤ a) (a1 : a < n) (b0 : 0 ≤ b) (b1 : b < n) (e : (f + a) % n = (f + b) % n) : a = b := by
  have h : n ∣ (f + a) - (f + b) := Int.dvd_of_emod_eq_zero (by rw [Int.sub_emod, e, Int.sub_self, Int.zero_emod])
  have h2 : (f + a) - (f + b) = a - b := by omega
  rw [h2] at h
  obtain ⟨c, hc⟩ := h
  have : c = 0 := by
    rcases Int.lt_trichotomy c 0 with z | z | z
    · have := Int.mul_le_mul_of_nonneg_left (show c ≤ -1 by omega) (show 0 ≤ n by omega)
      omega
    · exact z
    · have := Int.mul_le_mul_of_nonneg_left (show 1 ≤ c by omega) (show 0 ≤ n by omega)
      omega
  subst this
  omega
theorem filter_split (p : Int → Bool) : ∀ l : List Int, (l.filter p).length + (l.filter fun x => !p x).length = l.length
  | [] => rfl
  | x :: r => by
    have := filter_split p r
    rw [List.filter_cons, List.filter_cons, List.length_cons]
    cases h : p x
    · simp only [Bool.not_false, if_true, List.length_cons, Bool.false_eq_true, if_false]
      omega
    · simp only [Bool.not_true, if_true, List.length_cons, Bool.false_eq_true, if_false]
      omega
def spLWeb (K : PySem.W.Frag) : Sp := fun vs H Q _ => ∃ (p : Addr) (c : Nat) (m : Int), vs = [.ref p, .int (c : Int), .int m] ∧ StAt H p ∧ 1 ≤ c ∧ c ≤ 8 ∧ 1 ≤ m ∧ m ≤ 1000000 ∧
  ∀ (v : V) (n : Nat) (hl : List (Int × Int)) (bs : List BarD) (H' : Hp), DE p H H' → StAt H' p → Is K (del H' p) (whD n hl bs) v → WebOk n hl bs → bs.length = c → (∀ b ∈ bs, b.len ≤ m) → (∀ q ∈ hl, -7 ≤ q.2 ∧ q.2 ≤ 7) → Q v H'
theorem ok_l_web (T : Tx K mg) : FnOk P w K mg base (L2.CX P w) 3 T.a_l_web T.fd_l_web ["_law_s", "_law_count", "_law_most"] (spLWeb K) := by
  refine T.F_l_web.okX sc_l_web (fun vs H Q E h => ?_) (fun cdv A outer s H vs Q E hr h => ?_)
  · obtain ⟨p, c, m, rfl, _⟩ := h
    rfl
  · obtain ⟨p, c, m, rfl, hs, c1, c8, m1, m2, k⟩ := h
    refine ⟨_, (pss_cons (ps_set (i := 3) sc_l_web.nd rfl (Or.inr rfl) (pe_callB (call_min2 rfl) (by rfl) T.z_min (by decide +kernel) (pa_cons pe_int (pa_cons (pe_op op_add (pe_op op_add (pe_op op_add (pv 1) pe_int) (pe_callTy call_int1 (by rfl) T.z_int (by decide +kernel) (pa_cons (pe_cmpR op_eq (pv 1) pe_int (nomark _)) pa_nil))) (pe_call (ok_l_digit T) (hr.mono (by decide)) rfl T.m_l_digit T.F_l_digit.kp T.b_l_digit .nil passL (pa_cons (pv 0) (pa_cons pe_int pa_nil)))) pa_nil))))
      (pss_cons (ps_set (i := 4) sc_l_web.nd rfl (Or.inr rfl) (pe_call (ok_l_digit T) (hr.mono (by decide)) rfl T.m_l_digit T.F_l_digit.kp T.b_l_digit .nil passL (pa_cons (pv 0) (pa_cons (pv 3) pa_nil))))
      (pss_cons (ps_set (i := 5) sc_l_web.nd rfl (Or.inr rfl) (pe_callTy (call_dictP rfl) (by rfl) T.z_dict (by decide +kernel) (pa_cons (pe_lc (own := [("_law_k", 8)]) (g := gName 8) (tt := tYes) (by rfl) sc_l_web.nd (pi_range1 rfl T.z_range (pa_cons (pe_op op_sub (pv 3) (pv 1)) pa_nil)) (blkOk_by (own := [("_law_k", 8)]) (N := N_l_web) (sc := defScope s_l_web) (by decide +kernel)) (fun _ _ _ _ _ => (pg_name (i := 8) sc_l_web.nd rfl (Or.inl rfl))) (fun _ _ _ _ _ => pts_nil) (fun _ _ _ _ _ => (pe_tup (pa_cons (pe_op op_modN (pe_op op_add (pv 4) (pv 8)) (pv 3)) (pa_cons (pe_op op_sub (pe_call (ok_l_digit T) (hr.mono (by decide)) rfl T.m_l_digit T.F_l_digit.kp T.b_l_digit .nil passL (pa_cons (pv 0) (pa_cons pe_int pa_nil))) pe_int) pa_nil))))) pa_nil)))
      (pss_cons (ps_setLc (i := 6) (own := [("_law_rod", 9)]) (g := gName 9) (by rfl) sc_l_web.nd rfl rfl (sw_true rfl rfl rfl (by decide +kernel)) (pi_range1 rfl T.z_range (pa_cons (pv 3) pa_nil)) (blkOk_by (own := [("_law_rod", 9)]) (N := N_l_web) (sc := defScope s_l_web) (by decide +kernel)) (fun _ _ _ _ _ => (pg_name (i := 9) sc_l_web.nd rfl (Or.inl rfl))) (fun _ _ _ _ _ => (pts_one (pt_cmp (h1 := rfl) (pc_dnotin (ty := tVar 9) (td := tVar 5) (hu_of hr) (pv 9) (pv 5))))) (fun _ _ _ _ _ => (pv 9)))
      (pss_cons (ps_set (i := 7) sc_l_web.nd rfl (Or.inl rfl) (pe_call (ok_l_digit T) (hr.mono (by decide)) rfl T.m_l_digit T.F_l_digit.kp T.b_l_digit .nil passL (pa_cons (pv 0) (pa_cons (pv 1) pa_nil))))
      (pss_cons (ps_set (i := 6) sc_l_web.nd rfl (Or.inl rfl) (pe_ix ix_list (pe_lst (pa_cons (pe_op op_catL (pe_slice sl_list (pv 6) (po_some (pv 7)) po_none) (pe_slice sl_list (pv 6) po_none (po_some (pv 7)))) (pa_cons (pe_op op_rep (pe_lst (pa_cons pe_non pa_nil)) (pv 1)) pa_nil))) (pe_call (ok_l_digit T) (hr.mono (by decide)) rfl T.m_l_digit T.F_l_digit.kp T.b_l_digit .nil passL (pa_cons (pv 0) (pa_cons pe_int pa_nil))) (fun _ _ => rfl)))
      (pss_one (ps_ret (pe_tup (pa_cons (pv 3) (pa_cons (pv 5) (pa_cons (pe_lc (own := [("_law_hook", 10)]) (g := gName 10) (tt := tYes) (by rfl) sc_l_web.nd (pi_list (pv 6)) (blkOk_by (own := [("_law_hook", 10)]) (N := N_l_web) (sc := defScope s_l_web) (by decide +kernel)) (fun _ _ _ _ _ => (pg_name (i := 10) sc_l_web.nd rfl (Or.inl rfl))) (fun _ _ _ _ _ => pts_nil) (fun _ _ _ _ _ => (pe_call (ok_l_bar T) (hr.mono (by decide)) rfl T.m_l_bar T.F_l_bar.kp T.b_l_bar .nil passL (pa_cons (pv 0) (pa_cons (pv 3) (pa_cons (pv 2) (pa_cons (pv 10) pa_nil))))))) pa_nil)))))))))))), ?_⟩
    refine ⟨_, rfl, _, _, rfl, rfl, _, rfl, rfl, .inr ⟨_, rfl, _, _, rfl, rfl, _, rfl, p, _, rfl, hs, by decide, by decide, fun r1 H1 e1 hs1 r10 r11 => ?_⟩⟩
    refine ⟨_, _, rfl, rfl, _, _, rfl, ?_⟩
    obtain ⟨u, hu, hu2⟩ : ∃ u : Int, (if decide (V.int (c : Int) = V.int 1) = true then (1 : Int) else 0) = u ∧ ((c = 1 ∧ u = 1) ∨ (c ≠ 1 ∧ u = 0)) := by
      refine ⟨_, rfl, ?_⟩
      by_cases h : c = 1
      · subst h
        exact .inl ⟨rfl, rfl⟩
      · refine .inr ⟨h, if_neg fun z => h ?_⟩
        have := V.int.inj (of_decide_eq_true z)
        omega
    dsimp only
    rw [hu]
    obtain ⟨n, hn, n3, n10, cn, nc⟩ : ∃ n : Nat, (if (c : Int) + 1 + u + r1 < 10 then (c : Int) + 1 + u + r1 else 10) = (n : Int) ∧ 3 ≤ n ∧ n ≤ 10 ∧ c + 1 ≤ n ∧ n ≤ c + 4 := by
      refine ⟨(if (c : Int) + 1 + u + r1 < 10 then (c : Int) + 1 + u + r1 else 10).toNat, ?_⟩
      split <;> omega
    rw [hn]
    clear hn hu hu2
    refine ⟨_, rfl, _, rfl, p, _, rfl, hs1, by omega, by omega, fun f H2 e2 hs2 f0 f1 => ?_⟩
    -- heights
    refine ⟨_, rfl, _, rfl, _, _, rfl, rfl, ((n - c : Nat) : Int), by rw [Int.natCast_sub (by omega)], by omega, by omega, fun D hD => ?_⟩
    have hDp : D ≠ p := hs2.ne hD
    have hD0 : del H2 p D = none := by rw [del_ne hDp]; exact hD
    refine lc_range (lo := 0) (n := n - c) (fun i H' => ∃ (ps : List Addr) (hl : List (Int × Int)), hl.length = i ∧ DE p H2 H' ∧ StAt H' p ∧ H' D = some (.lst (ps.map V.ref)) ∧ Paired (fun a kv => a ≠ p ∧ H' a = some (.tup [kV kv.1, kv.2])) ps (hK hl) ∧ hl.map (·.1) = (rangeI i).map (fun j => (f + j) % (n : Int)) ∧ ∀ q ∈ hl, -7 ≤ q.2 ∧ q.2 ≤ 7)
      ⟨[], [], rfl, DE.of (Ext.upd hD), hs2.ext (Ext.upd hD), upd_same, .nil, rfl, fun q h => by cases h⟩ ?_ ?_
    · rintro i H5 hi ⟨ps, hl, hli, e5, hs5, hD5, hps, hk5, hb⟩
      refine ⟨rfl, tyes ?_⟩
      refine ⟨_, rfl, _, rfl, _, _, rfl, rfl, _, rfl, _, _, rfl, rfl, (show (n : Int) ≠ 0 by omega), _, rfl, p, _, rfl, hs5, by decide, by decide, fun h H6 e6 hs6 b0 b1 => ?_⟩
      refine ⟨_, _, rfl, rfl, by show 2 ≤ sizeLine; decide, fun t ht => ?_⟩
      dsimp only
      rw [Int.fmod_eq_emod_of_nonneg _ (show 0 ≤ (n : Int) by omega), Int.zero_add]
      have htp : t ≠ p := hs6.ne ht
      have hD6 := e6.to hD5 hDp
      have htD : D ≠ t := ne_of_none hD6 ht
      refine ⟨ps.map V.ref, by rw [upd_ne htD]; exact hD6, ?_, ps ++ [t], hl ++ [((f + (i : Int)) % (n : Int), h - 7)], by rw [List.length_append, hli]; rfl, ?_, (hs6.ext (Ext.upd ht)).upd hDp, by rw [upd_same, List.map_append]; rfl, ?_, ?_, fun z hz => ?_⟩
      · rw [List.length_map]
        have h1 := hps.length
        unfold hK at h1
        rw [List.length_map] at h1
        exact Nat.lt_of_lt_of_le (show ps.length < 100 by omega) (by decide)
      · exact DE.mut ((e5.trans e6).trans (DE.of (Ext.upd ht))) hD0
      · unfold hK
        rw [List.map_append]
        have hps' : Paired (fun a (kv : Key × V) => a ≠ p ∧ (upd (upd H6 t (.tup [V.int ((f + (i : Int)) % (n : Int)), V.int (h - 7)])) D (.lst (ps.map V.ref ++ [V.ref t]))) a = some (.tup [kV kv.1, kv.2])) ps (hK hl) := PySem.Paired.mono (fun a kv q => by
          have h6 := e6.to q.2 q.1
          have hta : a ≠ t := ne_of_none h6 ht
          have hDa : a ≠ D := fun e => by rw [e, hD6] at h6; cases h6
          exact ⟨q.1, by rw [upd_ne hDa, upd_ne hta]; exact h6⟩) hps
        exact hps'.snoc ⟨htp, by rw [upd_ne htD.symm, upd_same]; rfl⟩
      · rw [List.map_append, hk5, rangeI_succ, List.map_append]
        rfl
      · rcases List.mem_append.mp hz with h' | h'
        · exact hb z h'
        · rw [List.mem_singleton.mp h']
          dsimp only
          omega
    · rintro H5 ⟨ps, hl, hli, e5, hs5, hD5, hps, hk5, hb⟩
      refine ⟨D, ps, hK hl, rfl, SqL.of hD5, PySem.Paired.mono (fun a kv q => SqT.of q.2) hps, fun hd hhd => ?_⟩
      have hnd3 : (hl.map (·.1)).Nodup := by
        rw [hk5, List.nodup_iff_pairwise_ne, List.pairwise_map]
        refine (List.nodup_iff_pairwise_ne.mp (nodup_rangeI (n - c))).imp_of_mem fun {a b} ha hb hne e => hne ?_
        have ma := mem_rangeI.mp ha
        have mb := mem_rangeI.mp hb
        exact emod_ne (n := (n : Int)) (by omega) ma.1 (by omega) mb.1 (by omega) e
      rw [merge_new _ [] (by
        rw [List.map_nil, List.nil_append]
        unfold hK
        rw [List.map_map]
        show (hl.map (Sum.inl ∘ Prod.fst)).Nodup
        rw [← List.map_map, List.nodup_iff_pairwise_ne, List.pairwise_map]
        exact (List.nodup_iff_pairwise_ne.mp hnd3).imp fun h e => h (Sum.inl.inj e)), List.nil_append]
      have hhp : hd ≠ p := hs5.ne hhd
      have h7d : (upd H5 hd (.dK (hK hl))) hd = some (.dK (hK hl)) := upd_same
      have e57 : Ext H5 (upd H5 hd (.dK (hK hl))) := Ext.upd hhd
      generalize upd H5 hd (.dK (hK hl)) = H7 at h7d e57 ⊢
      have hs7 := hs5.ext e57
      have e07 : DE p H H7 := ((e1.trans e2).trans e5).trans (DE.of e57)
      have hkey : ∀ q ∈ hl, (0 ≤ q.1 ∧ q.1 < (n : Int)) ∧ -1000000 ≤ q.2 ∧ q.2 ≤ 1000000 := fun q hq => by
        have h1 : q.1 ∈ hl.map (·.1) := List.mem_map.mpr ⟨q, hq, rfl⟩
        rw [hk5] at h1
        obtain ⟨j, _, hj⟩ := List.mem_map.mp h1
        have h2 := hb q hq
        have h3 := Int.emod_nonneg (f + j) (show (n : Int) ≠ 0 by omega)
        have h4 := Int.emod_lt_of_pos (f + j) (show 0 < (n : Int) by omega)
        rw [← hj]
        omega
      clear e57 hhd hps e5 hs5 hD5 hD hD0 hDp e2 e1 hs1 hs2 hk5
      -- hooks
      refine ⟨_, rfl, (n : Int), rfl, by omega, by omega, lc_rangeF (offK hl) (fun i => i) (by omega) (fun i hi H' e R N hR => ?_) (fun O H8 hO e8 hO8 => ?_)⟩
      · refine ⟨rfl, _, rfl, _, rfl, hd, _, rfl, DGet.k (k := Sum.inl (0 + (i : Nat) : Int)) (e _ _ h7d), _, rfl, ?_⟩
        rw [val_some, Int.zero_add]
        by_cases hp : offK hl (i : Nat) = true
        · rw [if_pos hp] at hR
          unfold offK at hp
          rw [if_pos hp]
          exact ⟨_, rfl, hR⟩
        · rw [if_neg hp] at hR
          unfold offK at hp
          rw [if_neg hp]
          exact hR
      rw [List.map_id', Int.toNat_natCast] at hO8
      have hom : ∀ x ∈ (rangeI n).filter (offK hl), 0 ≤ x ∧ x < (n : Int) := fun x hx => mem_rangeI.mp (List.mem_filter.mp hx).1
      have hol : ((rangeI n).filter (offK hl)).length = c := by
        have h1 : ((rangeI n).filter (offK hl)).length + ((rangeI n).filter fun x => (hl.map (·.1)).contains x).length = (rangeI n).length := by
          have := filter_split (fun x => (hl.map (·.1)).contains x) (rangeI n)
          unfold offK
          omega
        have h2 : ((rangeI n).filter fun x => (hl.map (·.1)).contains x).Perm (hl.map (·.1)) := by
          refine (List.perm_ext_iff_of_nodup ((nodup_rangeI n).filter _) hnd3).mpr fun x => ?_
          rw [List.mem_filter, List.contains_iff_mem]
          refine ⟨fun h => h.2, fun h => ⟨?_, h⟩⟩
          obtain ⟨q, hq, rfl⟩ := List.mem_map.mp h
          exact mem_rangeI.mpr (hkey q hq).1
        rw [h2.length_eq, List.length_map, hli, len_rangeI] at h1
        omega
      generalize (rangeI n).filter (offK hl) = os at hO8 hom hol ⊢
      have hOp : O ≠ p := hs7.ne hO
      have hs8 := hs7.ext e8
      have e08 := e07.trans (DE.of e8)
      have h8d := e8 _ _ h7d
      clear e8 hO h7d hs7 e07
      refine ⟨_, rfl, _, rfl, p, _, rfl, hs8, by omega, by omega, fun tu H9 e9 hs9 t0 t1 => ?_⟩
      have hO9 := e9.to hO8 hOp
      refine ⟨_, rfl, _, rfl, tu, rfl, O, _, rfl, SqL.of hO9, fun S1 hS1 => ?_⟩
      refine ⟨_, rfl, _, rfl, tu, rfl, O, _, rfl, SqL.of (Ext.upd hS1 _ _ hO9), fun S2 hS2 => ?_⟩
      obtain ⟨tn, rfl⟩ : ∃ tn : Nat, tu = (tn : Int) := ⟨tu.toNat, by omega⟩
      rw [cut_drop, ← List.map_drop] at hS2 ⊢
      rw [cut_take, ← List.map_take]
      refine ⟨S1, S2, _, _, rfl, rfl, SqL.of (Ext.upd hS2 _ _ upd_same), SqL.of upd_same, ?_, fun C1 hC1 => ?_⟩
      · rw [List.length_map, List.length_map, List.length_drop, List.length_take]
        exact Nat.le_trans (show os.length - tn + min tn os.length ≤ 100 by omega) (by decide)
      have hCp : C1 ≠ p := ((hs9.ext (Ext.upd hS1)).ext (Ext.upd hS2)).ne hC1
      rw [← List.map_append]
      have hC2 : (upd (upd (upd H9 S1 (.lst ((os.drop tn).map V.int))) S2 (.lst ((os.take tn).map V.int))) C1 (.lst ((os.drop tn ++ os.take tn).map V.int))) C1 = some (.lst ((os.drop tn ++ os.take tn).map V.int)) := upd_same
      have e10 : Ext H9 (upd (upd (upd H9 S1 (.lst ((os.drop tn).map V.int))) S2 (.lst ((os.take tn).map V.int))) C1 (.lst ((os.drop tn ++ os.take tn).map V.int))) := ((Ext.upd hS1).trans (Ext.upd hS2)).trans (Ext.upd hC1)
      generalize upd (upd (upd H9 S1 (.lst ((os.drop tn).map V.int))) S2 (.lst ((os.take tn).map V.int))) C1 (.lst ((os.drop tn ++ os.take tn).map V.int)) = H10 at hC2 e10 ⊢
      clear hC1 hS2 hS1
      refine ⟨by show 1 ≤ sizeLine; decide, fun N1 hN1 => ?_⟩
      refine ⟨_, rfl, N1, _, [V.non], rfl, rfl, upd_same, by omega, by omega, ?_, fun N2 hN2 => ?_⟩
      · show 1 * (c : Int).toNat ≤ sizeLine
        exact Nat.le_trans (show 1 * (c : Int).toNat ≤ 100 by omega) (by decide)
      rw [show (List.replicate (c : Int).toNat [V.non]).flatten = List.replicate c V.non from by
        rw [Int.toNat_natCast]
        generalize c = q
        induction q with
        | zero => rfl
        | succ q ih => rw [List.replicate_succ, List.replicate_succ, List.flatten_cons, ih]; rfl]
      have hNp : N2 ≠ p := ((hs9.ext e10).ext (Ext.upd hN1)).ne hN2
      refine ⟨by show 2 ≤ sizeLine; decide, fun L hL => ?_⟩
      have e11 : Ext H10 (upd (upd (upd H10 N1 (.lst [V.non])) N2 (.lst (List.replicate c V.non))) L (.lst [V.ref C1, V.ref N2])) := ((Ext.upd hN1).trans (Ext.upd hN2)).trans (Ext.upd hL)
      have hC3 := e11 _ _ hC2
      have hN3 : (upd (upd (upd H10 N1 (.lst [V.non])) N2 (.lst (List.replicate c V.non))) L (.lst [V.ref C1, V.ref N2])) N2 = some (.lst (List.replicate c V.non)) := Ext.upd hL _ _ upd_same
      have hL3 : (upd (upd (upd H10 N1 (.lst [V.non])) N2 (.lst (List.replicate c V.non))) L (.lst [V.ref C1, V.ref N2])) L = some (.lst [V.ref C1, V.ref N2]) := upd_same
      generalize upd (upd (upd H10 N1 (.lst [V.non])) N2 (.lst (List.replicate c V.non))) L (.lst [V.ref C1, V.ref N2]) = H11 at e11 hC3 hN3 hL3 ⊢
      have e0 := (e08.trans e9).trans (DE.of (e10.trans e11))
      have hs11 := hs9.ext (e10.trans e11)
      have h11d := (e10.trans e11) _ _ (e9.to h8d hhp)
      have hLp : L ≠ p := (((hs9.ext e10).ext (Ext.upd hN1)).ext (Ext.upd hN2)).ne hL
      clear hL hN2 hN1 hC2 e11 e10 hO9 hs9 e9 h8d hs8 e08 hO8
      refine ⟨_, rfl, p, _, rfl, hs11, by decide, by decide, fun z H12 e12 hs12 z0 z1 => ?_⟩
      have e012 := e0.trans e12
      have hd12 := e12.to h11d hhp
      obtain ⟨B, hks, hat, hB, hBp, hkl, hkr⟩ : ∃ (B : Addr) (hks : List (Option Int)), atI [V.ref C1, V.ref N2] z = some (.ref B) ∧ H12 B = some (.lst (hks.map hookV)) ∧ B ≠ p ∧ hks.length = c ∧ ∀ hk ∈ hks, ∀ x, hk = some x → 0 ≤ x ∧ x < (n : Int) := by
        rcases (show z = 0 ∨ z = 1 by omega) with rfl | rfl
        · refine ⟨C1, (os.drop tn ++ os.take tn).map some, rfl, ?_, hCp, ?_, fun hk hh x hx => ?_⟩
          · rw [List.map_map]
            exact e12.to hC3 hCp
          · rw [List.length_map, List.length_append, List.length_drop, List.length_take]
            omega
          · obtain ⟨y, hy, rfl⟩ := List.mem_map.mp hh
            cases hx
            rcases List.mem_append.mp hy with h | h
            · exact hom _ (List.mem_of_mem_drop h)
            · exact hom _ (List.mem_of_mem_take h)
        · refine ⟨N2, List.replicate c none, rfl, ?_, hNp, List.length_replicate, fun hk hh x hx => ?_⟩
          · rw [List.map_replicate]
            exact e12.to hN3 hNp
          · rw [(List.mem_replicate.mp hh).2] at hx
            cases hx
      refine ⟨L, _, _, _, rfl, rfl, SqL.of (e12.to hL3 hLp), hat, ?_⟩
      clear hat hL3 hN3 hC3 h11d e0 hs11 e12
      -- bars
      refine ⟨_, rfl, _, rfl, _, rfl, B, rfl, ⟨_, SqL.of hB⟩, fun D2 hD2 => ?_⟩
      have hDp2 : D2 ≠ p := hs12.ne hD2
      have hD20 : del H12 p D2 = none := by rw [del_ne hDp2]; exact hD2
      refine lc_list (xs := hks.map hookV) (fun i H' => ∃ (ts : List Addr) (bs : List BarD), bs.length = i ∧ DE p H12 H' ∧ StAt H' p ∧ H' D2 = some (.lst (ts.map V.ref)) ∧ Paired (fun t b => t ≠ p ∧ H' t = some (.tup (brV b))) ts bs ∧ ∀ b ∈ bs, BarOk (n : Int) b ∧ b.len ≤ m)
        ⟨[], [], rfl, DE.of (Ext.upd hD2), hs12.ext (Ext.upd hD2), upd_same, .nil, fun b hb => by cases hb⟩ (fun i H' _ q => ?_) ?_ ?_
      · obtain ⟨_, _, _, e, _⟩ := q
        exact SqL.of (e.to hB hBp)
      · rintro i y H13 hi ⟨ts, bs, hbl, e13, hs13, hD13, hts, hbo⟩
        obtain ⟨hk, hhk, rfl⟩ : ∃ hk, hks[i]? = some hk ∧ y = hookV hk := by
          rw [List.getElem?_map] at hi
          cases e : hks[i]? with
          | none => rw [e] at hi; cases hi
          | some q => rw [e] at hi; exact ⟨q, rfl, (Option.some.inj hi).symm⟩
        have hin : i < hks.length := (List.getElem?_eq_some_iff.mp hhk).1
        refine ⟨rfl, tyes ?_⟩
        refine ⟨_, rfl, _, rfl, _, rfl, _, rfl, p, n, m, hk, rfl, hs13, n3, n10, m1, m2, hkr hk (List.mem_of_getElem? hhk), fun t b H14 htp ht0 e14 hs14 ht hbok hbm => ?_⟩
        have hD14 := e14.to hD13 hDp2
        have htD : t ≠ D2 := fun e => by rw [e, hD14] at ht; cases ht
        refine ⟨_, hD14, ?_, ts ++ [t], bs ++ [b], by rw [List.length_append, hbl]; rfl, DE.mut (e13.trans e14) hD20, hs14.upd hDp2, by rw [upd_same, List.map_append]; rfl, ?_, fun c hc => ?_⟩
        · rw [List.length_map, hts.length, hbl]
          exact Nat.lt_of_lt_of_le (show i < 100 by omega) (by decide)
        · have hts' : Paired (fun t' b' => t' ≠ p ∧ (upd H14 D2 (.lst (ts.map V.ref ++ [V.ref t]))) t' = some (.tup (brV b'))) ts bs := PySem.Paired.mono (fun a b' q => by
            have h10 := e14.to q.2 q.1
            have hDa : a ≠ D2 := fun e => by rw [e, hD14] at h10; cases h10
            exact ⟨q.1, by rw [upd_ne hDa]; exact h10⟩) hts
          exact hts'.snoc ⟨htp, by rw [upd_ne htD]; exact ht⟩
        · rcases List.mem_append.mp hc with h | h
          · exact hbo c h
          · rw [List.mem_singleton.mp h]
            exact ⟨hbok, hbm⟩
      · rintro H13 ⟨ts, bs, hbl, e13, hs13, hD13, hts, hbo⟩
        rw [List.length_map, hkl] at hbl
        have hd13 := e13.to hd12 hhp
        refine ⟨by show 3 ≤ sizeLine; decide, fun t ht => ?_⟩
        have e14 : Ext H13 (upd H13 t (.tup [.int (n : Int), .ref hd, .ref D2])) := Ext.upd ht
        have htp : t ≠ p := hs13.ne ht
        have hts2 : Paired (fun t' b' => t' ≠ p ∧ (upd H13 t (.tup [.int (n : Int), .ref hd, .ref D2])) t' = some (.tup (brV b'))) ts bs := PySem.Paired.mono (fun a b q => ⟨q.1, e14 _ _ q.2⟩) hts
        refine k (.ref t) n hl bs _ ((e012.trans e13).trans (DE.of e14)) (hs13.ext e14) (wh_is (hd := hd) (bl := D2) (ws := ts.map V.ref) (SqT.of ?_) ?_ (SqL.of ?_) (isL_bf hts2)) ⟨by omega, by omega, hkey, hnd3, fun e => ?_, by omega, by omega, by omega, fun b hb => (hbo b hb).1⟩ hbl (fun b hb => (hbo b hb).2) hb
        · rw [del_ne htp, upd_same]
        · rw [del_ne hhp]
          exact e14 _ _ hd13
        · rw [del_ne hDp2]
          exact e14 _ _ hD13
        · rw [e] at hli
          simp at hli
          omega
end
end K23
namespace K23
open PySem L2
section
variable {P : Program} {w : World} {K : PySem.W.Frag} {mg : Str → Option Value} {base : Heap}
theorem isLbr_del {C D : Addr} {H : Hp} {l : List V} (h : H D = some (.lst l)) : ∀ {bs : List BarD} {ws : List V}, IsL K H (bs.map (brD C)) ws → IsL K (del H D) (bs.map (brD C)) ws
  | [], _, e => e
  | _ :: _, _, ⟨v, r, e, i, il⟩ => ⟨v, r, e, br_del i h, isLbr_del h il⟩
theorem SqT.delL {H : Hp} {t D : Addr} {xs l : List V} (s : SqT K H t xs) (h : H D = some (.lst l)) : SqT K (del H D) t xs := by
  rcases s with (r | ⟨o', r⟩) | r
  · exact .inl (.inl (by rw [del_ne (fun e => by rw [e, h] at r; cases r)]; exact r))
  · exact .inl (.inr ⟨o', by rw [del_ne (fun e => by rw [e, h] at r; cases r)]; exact r⟩)
  · exact .inr r
theorem wb_del {C CB D : Addr} {H : Hp} {n : Int} {bs : List BarD} {hl : List (Int × Int)} {v : V} {l : List V} (i : Is K H (wbD C CB n bs hl) v) (h : H D = some (.lst l)) : Is K (del H D) (wbD C CB n bs hl) v := by
  obtain ⟨a, dx, t, d, ws, rfl, ha, ht, hb, hd⟩ := wb_fields i
  refine ⟨a, dx, _, rfl, by rw [del_ne (fun e => by rw [e, h] at ha; cases ha)]; exact ha, rfl, _, _, rfl, rfl, _, _, rfl, ⟨t, ws, rfl, SqT.delL ht h, isLbr_del h hb⟩, _, _, rfl, hd_is (by rw [del_ne (fun e => by rw [e, h] at hd; cases hd)]; exact hd), rfl⟩
def spMade (K : PySem.W.Frag) (T : Tx K mg) : Sp := fun vs H Q _ => ∃ (v : V) (n : Int) (hl : List (Int × Int)) (bs : List BarD), vs = [v] ∧ Is K H (whD n hl bs) v ∧ WebOk n hl bs ∧ ∀ (u : V) (H' : Hp), Ext H H' → Is K H' (wbD T.C_Web T.C_Bar n bs (normH hl)) u → Q u H'
theorem ok_l_made (T : Tx K mg) : FnOk P w K mg base (L2.CX P w) 12 T.a_l_made T.fd_l_made ["_law_web_here"] (spMade K T) := by
  refine T.F_l_made.okX sc_l_made (fun vs H Q E h => ?_) (fun cdv A outer s H vs Q E hr h => ?_)
  · obtain ⟨v, n, hl, bs, rfl, _⟩ := h
    rfl
  · obtain ⟨v, n, hl, bs, rfl, hv, ok, k⟩ := h
    refine ⟨_, (pss_cons (ps_asg (pv 0) (pg_tup (by rfl) (pgs_cons (pg_name (i := 1) sc_l_made.nd rfl (Or.inl rfl)) (pgs_cons (pg_name (i := 2) sc_l_made.nd rfl (Or.inl rfl)) (pgs_cons (pg_name (i := 3) sc_l_made.nd rfl (Or.inl rfl)) pgs_nil)))))
      (pss_one (ps_ret (pe_make T.k_Web (ok_Web_init T) (hr.mono (by decide)) rfl T.m_Web T.b_Web_init .nil passL (pa_cons (pv 1) (pa_cons (pe_callTy call_dictD (by rfl) T.z_dict (by decide +kernel) (pa_cons (pv 2) pa_nil)) (pa_cons (pe_lc (own := [("_law_one", 4)]) (g := gName 4) (tt := tYes) (te := brTE K T.C_Bar 4) (by rfl) sc_l_made.nd (pi_list (pv 3)) (blkOk_by (own := [("_law_one", 4)]) (N := N_l_made) (sc := defScope s_l_made) (by decide +kernel)) (fun _ _ _ _ _ => (pg_name (i := 4) sc_l_made.nd rfl (Or.inl rfl))) (fun _ _ _ _ _ => pts_nil) (fun _ _ _ _ _ => (pe_make T.k_Bar (ok_Bar_init T) (hr.mono (by decide)) rfl T.m_Bar T.b_Bar_init .nil passL (pa_cons (pe_ix ix_tup (pv 4) pe_int (fun _ _ => rfl)) (pa_cons (pe_ix ix_tup (pv 4) pe_int (fun _ _ => rfl)) (pa_cons (pe_ix ix_tup (pv 4) pe_int (fun _ _ => rfl)) (pa_cons (pe_ix ix_tup (pv 4) pe_int (fun _ _ => rfl)) (pa_cons (pe_ix ix_tup (pv 4) pe_int (fun _ _ => rfl)) (pa_cons (pe_ix ix_tup (pv 4) pe_int (fun _ _ => rfl)) pa_nil))))))))) pa_nil))))))), ?_⟩
    obtain ⟨t, hd, bl, ws, rfl, ht, hhd, hbl, hbs⟩ := wh_of hv
    refine ⟨_, rfl, t, _, rfl, ht, rfl, _, _, rfl, _, _, rfl, _, _, rfl, rfl, ?_⟩
    refine ⟨_, rfl, _, rfl, hd, _, rfl, .inl hhd, fun q hq => ?_⟩
    have e1 : Ext H (upd H q (.dK (hK hl))) := Ext.upd hq
    refine ⟨_, rfl, bl, rfl, lc_bars (hbl.ext e1) (hbs.ext e1) (by have := ok.b8; omega) (fun v => rfl) (fun v => rfl) (fun D H1 rs hD e2 hD1 hrs => ?_)⟩
    refine fun x dx hx hdx hne => ?_
    exact ⟨_, x, dx, n, q, D, hl, bs, rs, rfl, hx, hdx, hne, rfl, e2 _ _ upd_same, ok.nd, ok.l64, .inl (SqL.of hD1), hrs.ext del_ext, (by intro r h; rw [ok.ck] at h; cases h), fun _ H3 e3 i3 _ => ⟨rfl, k _ H3 ((e1.trans e2).trans e3) i3⟩⟩
end
end K23
namespace K23
open PySem L2
section
variable {P : Program} {w : World} {K : PySem.W.Frag} {mg : Str → Option Value} {base : Heap}
def rwD (row : List Int) : Dt := .tup (row.map Dt.int)
theorem sum_le {α : Type} {f : α → Nat} : ∀ (l : List α), (∀ x ∈ l, f x ≤ 2) → (l.map f).sum ≤ 2 * l.length
  | [], _ => Nat.le_refl _
  | x :: l, h => by
    rw [List.map_cons, List.sum_cons, List.length_cons]
    have h1 := h x List.mem_cons_self
    have h2 := sum_le l fun y hy => h y (List.mem_cons_of_mem _ hy)
    omega
theorem rw_of {H : Hp} {v : V} {row : List Int} (h : Is K H (rwD row) v) : ∃ t, v = .ref t ∧ SqT K H t (row.map V.int) := by
  obtain ⟨t, ws, rfl, ht, hl⟩ := h
  rw [of_isL_ints hl] at ht
  exact ⟨t, rfl, ht⟩
theorem rw_is {H : Hp} {t : Addr} {row : List Int} (h : SqT K H t (row.map V.int)) : Is K H (rwD row) (.ref t) := ⟨t, _, rfl, h, isL_ints _⟩
theorem rwL_mut {H : Hp} {h : Addr} {l : List V} {o : HO} (hh : H h = some (.lst l)) : ∀ {rows : List (List Int)} {vs : List V}, IsL K H (rows.map rwD) vs → IsL K (upd H h o) (rows.map rwD) vs
  | [], _, e => e
  | _ :: _, _, ⟨v, r, e, i, il⟩ => by
    obtain ⟨t, rfl, ht⟩ := rw_of i
    exact ⟨_, r, e, rw_is (ht.mut hh), rwL_mut hh il⟩
def nextR (rows : List (List Int)) (es : List Int) : List (List Int) := rows.flatMap fun row => es.map fun e => row ++ [e]
def spreadI (css : List (List Int)) : List (List Int) := css.foldl nextR [[]]
def spSpread (K : PySem.W.Frag) : Sp := fun vs H Q _ => ∃ (c : Addr) (ws : List V) (css : List (List Int)), vs = [.ref c] ∧ SqL K H c ws ∧ IsL K H (css.map rwI) ws ∧ css.length ≤ 8 ∧ (∀ es ∈ css, es.length ≤ 2) ∧
  ∀ p rs H', H p = none → Ext H H' → H' p = some (.lst rs) → IsL K H' ((spreadI css).map rwD) rs → (spreadI css).length ≤ 256 → Q (.ref p) H'
theorem ok_spread (T : Tx K mg) : FnOk P w K mg base (L2.CX P w) 2 T.a_spread T.fd_spread ["choices"] (spSpread K) := by
  refine T.F_spread.okX sc_spread (fun vs H Q E h => ?_) (fun cdv A outer s H vs Q E hr h => ?_)
  · obtain ⟨c, ws, css, rfl, _⟩ := h
    rfl
  · obtain ⟨c, ws, css, rfl, hc0, hcs, hcl, hce, k⟩ := h
    refine ⟨_, (pss_cons (ps_set (i := 1) sc_spread.nd rfl (Or.inl rfl) (pe_lst (pa_cons (pe_tup pa_nil) pa_nil)))
      (pss_cons (ps_for (passes_of rfl) rfl (pi_list (pv 0)) (pg_name (i := 2) sc_spread.nd rfl (Or.inr rfl)) 
      (pss_one (ps_setLc2 (i := 1) (own := [("number", 3), ("row", 4)]) (vs1 := [3]) (g := gName 4) (tt := tYes) (g1 := gName 3) (tt1 := tYes) (wi1 := iList K (tVar 2)) (te := tOp (rCatA K) (tVar 4) (tTup (tCons (tVar 3) tNil))) rfl sc_spread.nd rfl rfl (by first | exact sw_true rfl rfl rfl (by decide +kernel) | rfl) (pi_list (pv 1)) (blkOk_by (own := [("number", 3), ("row", 4)]) (N := N_spread) (sc := defScope s_spread) (by decide +kernel)) (by decide)
        (fun _ _ _ _ _ => (pg_name (i := 4) sc_spread.nd rfl (Or.inl rfl))) (fun _ _ _ _ _ => pts_nil) (fun _ _ _ _ _ => (by exact pi_list (pv 2))) (fun _ _ _ _ _ => (pg_name (i := 3) sc_spread.nd rfl (Or.inl rfl))) (fun _ _ _ _ _ => pts_nil) (fun _ _ _ _ _ => (by exact pe_op op_catA (pv 4) (pe_tup (pa_cons (pv 3) pa_nil)))))))
      (pss_one (ps_ret (pv 1))))), ?_⟩
    have hwl : ws.length = css.length := by rw [isL_len hcs, List.length_map]
    refine ⟨by show 0 ≤ sizeLine; decide, fun t0 ht00 => ⟨by show 1 ≤ sizeLine; decide, fun R0 hR0 => ?_⟩⟩
    have e1 : Ext H (upd (upd H t0 (.tup [])) R0 (.lst [V.ref t0])) := (Ext.upd ht00).trans (Ext.upd hR0)
    have hR1 : (upd (upd H t0 (.tup [])) R0 (.lst [V.ref t0])) R0 = some (.lst [V.ref t0]) := upd_same
    have ht1 : (upd (upd H t0 (.tup [])) R0 (.lst [V.ref t0])) t0 = some (.tup []) := Ext.upd hR0 _ _ upd_same
    have hR0n : H R0 = none := (Ext.upd ht00).fresh hR0
    generalize upd (upd H t0 (.tup [])) R0 (.lst [V.ref t0]) = H1 at e1 hR1 ht1 ⊢
    refine ⟨_, rfl, c, rfl, ⟨_, hc0.ext e1⟩, for_list (K := K) (a := c) (xs := ws) (fun i σ H' => Ext H1 H' ∧ ∃ (R : Addr) (rs : List V) (rows : List (List Int)) (v2 v3 v4 : Option V), σ = [some (.ref c), some (.ref R), v2, v3, v4] ∧ H R = none ∧ H' R = some (.lst rs) ∧ rows = (css.take i).foldl nextR [[]] ∧ IsL K H' (rows.map rwD) rs ∧ rows.length ≤ 2 ^ i ∧ ∀ row ∈ rows, row.length = i)
      ⟨Ext.rfl', R0, _, [[]], none, none, none, rfl, hR0n, hR1, rfl, ⟨_, _, rfl, rw_is (row := []) (SqT.of ht1), rfl⟩, Nat.le_refl _, fun row h => by rw [List.mem_singleton.mp h]; rfl⟩ (fun i σ H' _ p => (hc0.ext e1).ext p.1) ?_ ?_⟩
    · rintro i y σ H2 hi ⟨e2, R, rs, rows, v2, v3, v4, rfl, hRn, hR2, hrows, hil, hcnt, hrl⟩
      have hi8 : i < 8 := by have := (List.getElem?_eq_some_iff.mp hi).1; omega
      obtain ⟨es, hbb, iy⟩ := isL_at' hcs hi
      have hpow : (2 : Nat) ^ i ≤ 128 := Nat.le_trans (Nat.pow_le_pow_right (by decide) (show i ≤ 7 by omega)) (by decide)
      have hel : es.length ≤ 2 := hce es (List.mem_of_getElem? hbb)
      have hrsl : rs.length = rows.length := by rw [isL_len hil, List.length_map]
      obtain ⟨En, rfl, hE0⟩ := rwI_of iy
      have hE2 := hE0.ext (e1.trans e2)
      refine ⟨_, rfl, R, rfl, ⟨_, SqL.of hR2⟩, fun D hD => ?_⟩
      have hDn : H D = none := (e1.trans e2).fresh hD
      refine it_list (xs := rs) (fun i' H' => Ext H2 H' ∧ ∃ acc, H' D = some (.lst acc) ∧ IsL K H' (((rows.take i').flatMap fun row => es.map fun e => row ++ [e]).map rwD) acc) ⟨Ext.upd hD, [], upd_same, rfl⟩ (fun i' H' _ p => (SqL.of hR2).ext p.1) ?_ ?_
      · rintro i' y' H4 hi' ⟨e4, acc, hD4, hacc⟩
        obtain ⟨d1, hd1, iy'⟩ := hil.get hi'
        obtain ⟨row, hrow, rfl⟩ : ∃ row, rows[i']? = some row ∧ d1 = rwD row := by
          rw [List.getElem?_map] at hd1
          cases e : rows[i']? with
          | none => rw [e] at hd1; cases hd1
          | some b => rw [e] at hd1; exact ⟨b, rfl, (Option.some.inj hd1).symm⟩
        have hi2 : i' < rows.length := (List.getElem?_eq_some_iff.mp hrow).1
        obtain ⟨tr, rfl, htr⟩ := rw_of iy'
        refine ⟨rfl, tyes ?_⟩
        refine ⟨_, rfl, En, rfl, ⟨_, hE2.ext e4⟩, it_list (xs := es.map V.int) (fun j H' => Ext H2 H' ∧ ∃ acc, H' D = some (.lst acc) ∧ IsL K H' (((rows.take i').flatMap (fun row => es.map fun e => row ++ [e]) ++ (es.take j).map fun e => row ++ [e]).map rwD) acc) ⟨e4, acc, hD4, by rw [List.take_zero, List.map_nil, List.append_nil]; exact hacc⟩ (fun j H' _ p => hE2.ext p.1) ?_ ?_⟩
        · rintro j z H5 hj ⟨e5, acc5, hD5, hacc5⟩
          obtain ⟨e, he, rfl⟩ : ∃ e, es[j]? = some e ∧ z = V.int e := by
            rw [List.getElem?_map] at hj
            cases h : es[j]? with
            | none => rw [h] at hj; cases hj
            | some n => rw [h] at hj; exact ⟨n, rfl, (Option.some.inj hj).symm⟩
          have hlen5 : acc5.length < 2000 := by
            rw [isL_len hacc5, List.length_map, List.length_append, List.length_map, List.length_take]
            have h1 : ((rows.take i').flatMap fun row => es.map fun e => row ++ [e]).length ≤ 2 * rows.length := by
              rw [List.length_flatMap]
              refine Nat.le_trans (sum_le _ fun x hx => by rw [List.length_map]; exact hel) ?_
              rw [List.length_take]
              omega
            omega
          refine ⟨rfl, tyes ?_⟩
          have fin : ∀ (x : Addr) (H6 : Hp), Ext H5 H6 → SqT K H6 x ((row ++ [e]).map V.int) → ∃ acc, H6 D = some (.lst acc) ∧ acc.length < sizeLine ∧ Ext H2 (upd H6 D (.lst (acc ++ [V.ref x]))) ∧ ∃ acc', (upd H6 D (.lst (acc ++ [V.ref x]))) D = some (.lst acc') ∧ IsL K (upd H6 D (.lst (acc ++ [V.ref x]))) (((rows.take i').flatMap (fun row => es.map fun e => row ++ [e]) ++ (es.take (j + 1)).map fun e => row ++ [e]).map rwD) acc' := fun x H6 e6 hx => by
            have hD6 := e6 _ _ hD5
            refine ⟨acc5, hD6, Nat.lt_of_lt_of_le hlen5 (by decide), (e5.trans e6).mut hD, _, upd_same, ?_⟩
            have hm : (rows.take i').flatMap (fun row => es.map fun e => row ++ [e]) ++ (es.take (j + 1)).map (fun e => row ++ [e]) = ((rows.take i').flatMap (fun row => es.map fun e => row ++ [e]) ++ (es.take j).map fun e => row ++ [e]) ++ [row ++ [e]] := by
              rw [List.take_add_one, he, List.map_append, List.append_assoc]
              rfl
            rw [hm]
            refine rwL_mut (l := acc5) hD6 ?_
            rw [List.map_append]
            exact isL_snoc (hacc5.ext e6) (rw_is hx)
          refine ⟨_, rfl, _, rfl, by show 1 ≤ sizeLine; decide, fun q hq => ?_⟩
          have hrl2 := hrl row (List.mem_of_getElem? hrow)
          refine ⟨tr, q, row.map V.int, [V.int e], rfl, rfl, (htr.ext e5).ext (Ext.upd hq), SqT.of upd_same, by rw [List.length_map, hrl2]; exact Nat.le_trans (show i + 1 ≤ 100 by omega) (by decide), (fun z => ?_), (fun _ z => by cases z), fun _ _ p hp => ?_⟩
          · refine fin q _ (Ext.upd hq) (SqT.of ?_)
            rw [upd_same, List.map_append, z]
            rfl
          · refine fin p _ ((Ext.upd hq).trans (Ext.upd hp)) (SqT.of ?_)
            rw [upd_same, List.map_append]
            rfl
        · rintro H5 ⟨e5, acc5, hD5, hacc5⟩
          refine ⟨e5, acc5, hD5, ?_⟩
          rw [List.length_map, List.take_length] at hacc5
          rw [List.take_add_one, hrow, List.flatMap_append]
          show IsL K H5 ((_ ++ List.flatMap _ [row]).map rwD) acc5
          rw [List.flatMap_cons, List.flatMap_nil, List.append_nil]
          exact hacc5
      · rintro H4 ⟨e4, acc, hD4, hacc⟩
        rw [hrsl, List.take_length] at hacc
        refine ⟨e2.trans e4, D, acc, nextR rows es, _, _, _, rfl, hDn, hD4, ?_, hacc, ?_, fun row hr => ?_⟩
        · rw [List.take_add_one, hbb, List.foldl_append, ← hrows]
          rfl
        · unfold nextR
          rw [List.length_flatMap, Nat.pow_succ]
          refine Nat.le_trans (sum_le _ fun x hx => by rw [List.length_map]; exact hel) ?_
          omega
        · unfold nextR at hr
          obtain ⟨r0, h1, h2⟩ := List.mem_flatMap.mp hr
          obtain ⟨e, _, rfl⟩ := List.mem_map.mp h2
          rw [List.length_append, hrl r0 h1]
          rfl
    · rintro σ H2 ⟨e2, R, rs, rows, v2, v3, v4, rfl, hRn, hR2, hrows, hil, hcnt, hrl⟩
      rw [hwl, List.take_length] at hrows
      rw [hwl] at hcnt
      have hpow : (2 : Nat) ^ css.length ≤ 256 := Nat.le_trans (Nat.pow_le_pow_right (by decide) hcl) (by decide)
      rw [hrows] at hil hcnt
      exact ⟨_, rfl, k R rs _ hRn (e1.trans e2) hR2 hil (Nat.le_trans hcnt hpow)⟩
end
end K23
namespace K23
open PySem L2
section
variable {P : Program} {w : World} {K : PySem.W.Frag} {mg : Str → Option Value} {base : Heap}
theorem len_endsI (b : BarD) : (endsI b).length ≤ 2 := by
  unfold endsI
  split
  · exact Nat.le_succ 1
  · exact Nat.le_refl 2
/-- the rows of hooks at ends of their spans -/
def cornersB (bs : List BarD) : List (List Int) := spreadI (bs.map endsI)
def spCornerRows (K : PySem.W.Frag) (T : Tx K mg) : Sp := fun vs H Q _ => ∃ (v : V) (n : Int) (bs : List BarD) (hl : List (Int × Int)), vs = [v] ∧ Is K H (wbD T.C_Web T.C_Bar n bs hl) v ∧ bs.length ≤ 8 ∧
  ∀ p rs H', H p = none → Ext H H' → H' p = some (.lst rs) → IsL K H' ((cornersB bs).map rwD) rs → (cornersB bs).length ≤ 256 → Q (.ref p) H'
theorem ok_corner_rows (T : Tx K mg) : FnOk P w K mg base (L2.CX P w) 4 T.a_corner_rows T.fd_corner_rows ["web"] (spCornerRows K T) := by
  refine T.F_corner_rows.okX sc_corner_rows (fun vs H Q E h => ?_) (fun cdv A outer s H vs Q E hr h => ?_)
  · obtain ⟨v, n, bs, hl, rfl, _⟩ := h
    rfl
  · obtain ⟨v, n, bs, hl, rfl, hv, hbl, k⟩ := h
    refine ⟨_, (pss_one (ps_ret (pe_call (ok_spread T) (hr.mono (by decide)) rfl T.m_spread T.F_spread.kp T.b_spread .nil passL (pa_cons (pe_lc (own := [("bar", 1)]) (g := gName 1) (tt := tYes) (te := tCall (spEnds K T.C_Bar) [] E0 (tCons (tVar 1) tNil)) (by rfl) sc_corner_rows.nd (pi_tup (pe_fld (pv 0) rfl)) (blkOk_by (own := [("bar", 1)]) (N := N_corner_rows) (sc := defScope s_corner_rows) (by decide +kernel)) (fun _ _ _ _ _ => (pg_name (i := 1) sc_corner_rows.nd rfl (Or.inl rfl))) (fun _ _ _ _ _ => pts_nil) (fun _ _ _ _ _ => (by exact pe_call (ok_ends T) (hr.mono (by decide)) rfl T.m_ends T.F_ends.kp T.b_ends .nil passL (pa_cons (pv 1) pa_nil)))) pa_nil)))), ?_⟩
    obtain ⟨a, dx, t, d, ws, rfl, ha0, ht0, hb0, _⟩ := wb_fields hv
    have hwl : ws.length = bs.length := by rw [isL_len hb0, List.length_map]
    refine ⟨_, rfl, a, T.C_Web, dx, _, _, rfl, ha0, T.c_Web, T.nf_Web_bars, rfl, t, rfl, ⟨_, ht0⟩, fun D hD => ?_⟩
    refine lc_tup (xs := ws) (fun i H' => Ext H H' ∧ ∃ acc, H' D = some (.lst acc) ∧ IsL K (del H' D) (((bs.map endsI).take i).map rwI) acc) ⟨Ext.upd hD, [], upd_same, rfl⟩ (fun i H' _ p => ht0.ext p.1) ?_ ?_
    · rintro i y H1 hi ⟨e1, acc, hD1, hacc⟩
      obtain ⟨b, hbi, ib⟩ : ∃ b, bs[i]? = some b ∧ Is K H (brD T.C_Bar b) y := by
        obtain ⟨d0, hd0, iy⟩ := hb0.get hi
        rw [List.getElem?_map] at hd0
        cases e : bs[i]? with
        | none => rw [e] at hd0; cases hd0
        | some b => rw [e] at hd0; exact ⟨b, rfl, (Option.some.inj hd0).symm ▸ iy⟩
      refine ⟨rfl, tyes ?_⟩
      refine ⟨_, rfl, y, b, rfl, ib.ext e1, fun r hr1 => ?_⟩
      have hD2 := Ext.upd (o := HO.lst ((endsI b).map V.int)) hr1 _ _ hD1
      have hrD : r ≠ D := fun e => by rw [e, hD1] at hr1; cases hr1
      refine ⟨acc, hD2, ?_, (e1.trans (Ext.upd hr1)).mut hD, _, upd_same, ?_⟩
      · rw [← hacc.length, List.length_map, List.length_take]
        have := (List.getElem?_eq_some_iff.mp hi).1
        exact Nat.lt_of_lt_of_le (show min i (bs.map endsI).length < 100 by omega) (by decide)
      · rw [List.take_add_one, List.getElem?_map, hbi, List.map_append]
        refine isL_snoc ((hacc.ext (DE.of (Ext.upd hr1))).ext DE.upd) (rwI_is (SqL.of ?_))
        rw [del_ne hrD, upd_ne hrD, upd_same]
    · rintro H1 ⟨e1, acc, hD1, hacc⟩
      rw [List.take_of_length_le (by rw [List.length_map, hwl]; exact Nat.le_refl _)] at hacc
      exact ⟨D, acc, bs.map endsI, rfl, SqL.of hD1, hacc.ext del_ext, by rw [List.length_map]; exact hbl, fun es he => by
        obtain ⟨b, _, rfl⟩ := List.mem_map.mp he
        exact len_endsI b, fun p rs H' hp e2 hp2 hrs hl2 => k p rs H' (e1.fresh hp) (e1.trans e2) hp2 hrs hl2⟩
end
end K23
namespace K23
open PySem L2
section
variable {P : Program} {w : World} {K : PySem.W.Frag} {mg : Str → Option Value} {base : Heap}
theorem gcdL_one : ∀ ns : List Int, gcdL 1 ns = 1
  | [] => rfl
  | n :: r => by
    show gcdL (Nat.gcd 1 n.natAbs) r = 1
    rw [Nat.gcd_one_left]
    exact gcdL_one r
theorem norm_one (ns : List Int) : normN ns 1 = ns ∧ normP ns 1 = 1 := by
  unfold normN normP
  rw [show (1 : Int).natAbs = 1 from rfl, gcdL_one]
  exact ⟨by rw [show (fun n : Int => n / ((1 : Nat) : Int)) = id from funext fun n => Int.ediv_one n, List.map_id], rfl⟩
theorem pl_del {C D : Addr} {H : Hp} {ns : List Int} {q : Int} {v : V} {l : List V} (i : Is K H (plD C ns q) v) (h : H D = some (.lst l)) : Is K (del H D) (plD C ns q) v := by
  obtain ⟨a, dx, t, rfl, ha, ht⟩ := plD_fields i
  refine ⟨a, dx, _, rfl, by rw [del_ne (fun e => by rw [e, h] at ha; cases ha)]; exact ha, rfl, _, _, rfl, ⟨t, _, rfl, ?_, isL_ints _⟩, _, _, rfl, rfl, rfl⟩
  rcases ht with (r | ⟨b, r⟩) | r
  · exact .inl (.inl (by rw [del_ne (fun e => by rw [e, h] at r; cases r)]; exact r))
  · exact .inl (.inr ⟨b, by rw [del_ne (fun e => by rw [e, h] at r; cases r)]; exact r⟩)
  · exact .inr r
theorem len_spread : ∀ (css acc : List (List Int)) (m : Nat), (∀ r ∈ acc, r.length = m) → ∀ r ∈ css.foldl nextR acc, r.length = m + css.length
  | [], acc, m, h, r, hr => h r hr
  | es :: css, acc, m, h, r, hr => by
    rw [len_spread css (nextR acc es) (m + 1) (fun x hx => by
      obtain ⟨r0, h1, h2⟩ := List.mem_flatMap.mp hx
      obtain ⟨e, _, rfl⟩ := List.mem_map.mp h2
      rw [List.length_append, h r0 h1]
      rfl) r hr, List.length_cons]
    omega
theorem len_corner {bs : List BarD} {row : List Int} (h : row ∈ cornersB bs) : row.length = bs.length := by
  rw [len_spread (bs.map endsI) [[]] 0 (fun r hr => by rw [List.mem_singleton.mp hr]; rfl) row h, List.length_map, Nat.zero_add]
def spCorners (K : PySem.W.Frag) (T : Tx K mg) : Sp := fun vs H Q _ => ∃ (v : V) (n : Int) (bs : List BarD) (hl : List (Int × Int)), vs = [v] ∧ Is K H (wbD T.C_Web T.C_Bar n bs hl) v ∧ bs.length ≤ 8 ∧
  ∀ p rs H', H p = none → Ext H H' → H' p = some (.lst rs) → IsL K (del H' p) ((cornersB bs).map fun row => plD T.C_Places row 1) rs → (cornersB bs).length ≤ 256 → Q (.ref p) H'
theorem ok_corners (T : Tx K mg) : FnOk P w K mg base (L2.CX P w) 8 T.a_corners T.fd_corners ["web"] (spCorners K T) := by
  refine T.F_corners.okX sc_corners (fun vs H Q E h => ?_) (fun cdv A outer s H vs Q E hr h => ?_)
  · obtain ⟨v, n, bs, hl, rfl, _⟩ := h
    rfl
  · obtain ⟨v, n, bs, hl, rfl, hv, hbl, k⟩ := h
    refine ⟨_, (pss_one (ps_ret (pe_lc (own := [("row", 1)]) (g := gName 1) (tt := tYes) (te := tMake T.C_Places (spPlaces K T.C_Places T.C_BadCount) [] E0 (tCons (tVar 1) (tCons (tC (.int 1)) tNil))) (by rfl) sc_corners.nd (pi_list (pe_call (ok_corner_rows T) (hr.mono (by decide)) rfl T.m_corner_rows T.F_corner_rows.kp T.b_corner_rows .nil passL (pa_cons (pv 0) pa_nil))) (blkOk_by (own := [("row", 1)]) (N := N_corners) (sc := defScope s_corners) (by decide +kernel)) (fun _ _ _ _ _ => (pg_name (i := 1) sc_corners.nd rfl (Or.inl rfl))) (fun _ _ _ _ _ => pts_nil) (fun _ _ _ _ _ => (pe_make T.k_Places (ok_Places_init T) (hr.mono (by decide)) rfl T.m_Places T.b_Places_init .nil passL (pa_cons (pv 1) (pa_cons pe_int pa_nil))))))), ?_⟩
    refine ⟨_, rfl, v, n, bs, hl, rfl, hv, hbl, fun R rs H2 hR e2 hR2 hil hcnt => ?_⟩
    have hrsl : rs.length = (cornersB bs).length := by rw [isL_len hil, List.length_map]
    refine ⟨R, rfl, ⟨_, SqL.of hR2⟩, fun D hD => lc_list (xs := rs) (fun i H' => Ext H2 H' ∧ ∃ acc, H' D = some (.lst acc) ∧ IsL K (del H' D) (((cornersB bs).take i).map fun row => plD T.C_Places row 1) acc) ⟨Ext.upd hD, [], upd_same, rfl⟩ (fun i H' _ p => (SqL.of hR2).ext p.1) ?_ ?_⟩
    · rintro i y H3 hi ⟨e3, acc, hD3, hacc⟩
      obtain ⟨row, hrow, iy⟩ := isL_at' hil hi
      have hi2 : i < (cornersB bs).length := (List.getElem?_eq_some_iff.mp hrow).1
      obtain ⟨tr, rfl, htr⟩ := rw_of (iy.ext e3)
      have hrl2 : row.length = bs.length := len_corner (List.mem_of_getElem? hrow)
      refine ⟨rfl, tyes ?_⟩
      refine ⟨_, rfl, fun x dx2 hx hdx hne => ?_⟩
      refine ⟨H3, x, dx2, tr, row, 1, rfl, hx, hdx, hne, rfl, .inr htr, by omega, Nat.one_lt_two_pow (by decide), fun z => absurd z (by decide), fun _ H4 e4 i4 => ⟨rfl, ?_⟩⟩
      rw [(norm_one row).1, (norm_one row).2] at i4
      have hD4 := e4 _ _ hD3
      refine ⟨acc, hD4, ?_, (e3.trans e4).mut hD, _, upd_same, ?_⟩
      · rw [isL_len hacc, List.length_map, List.length_take]
        exact Nat.lt_of_lt_of_le (show min i (cornersB bs).length < 2000 by omega) (by decide)
      · have hE : Ext (del H3 D) (del (upd H4 D (.lst (acc ++ [.ref x]))) D) := (DE.of e4).trans DE.upd
        rw [List.take_add_one, hrow, List.map_append]
        exact isL_snoc (hacc.ext hE) ((pl_del i4 hD4).ext (DE.upd (w := D)))
    · rintro H3 ⟨e3, acc, hD3, hacc⟩
      rw [hrsl, List.take_length] at hacc
      exact k D acc H3 (e2.fresh hD) (e2.trans e3) hD3 hacc hcnt
end
end K23
namespace K23
open PySem L2
section
variable {P : Program} {w : World} {K : PySem.W.Frag} {mg : Str → Option Value} {base : Heap}
def InB (q : Int) (bs : List BarD) (ns : List Int) : Prop := ns.length = bs.length ∧ ∀ (i : Nat) (b : BarD) (x : Int), bs[i]? = some b → ns[i]? = some x → b.lo * q ≤ x ∧ x ≤ b.hi * q
theorem inB_snoc {q : Int} {bs : List BarD} {ns : List Int} {i : Nat} {b : BarD} {r : Int} (hnl : ns.length = i) (hn : ∀ (j : Nat) (c : BarD) (x : Int), bs[j]? = some c → ns[j]? = some x → c.lo * q ≤ x ∧ x ≤ c.hi * q) (hbi : bs[i]? = some b) (h : b.lo * q ≤ r ∧ r ≤ b.hi * q) :
    ∀ (j : Nat) (c : BarD) (x : Int), bs[j]? = some c → (ns ++ [r])[j]? = some x → c.lo * q ≤ x ∧ x ≤ c.hi * q := fun j c x hc hx => by
  by_cases hj : j < ns.length
  · rw [List.getElem?_append_left hj] at hx
    exact hn j c x hc hx
  · rw [List.getElem?_append_right (by omega)] at hx
    have hj2 : j - ns.length = 0 := by
      refine Classical.byContradiction fun z => ?_
      rw [List.getElem?_eq_none (by show 1 ≤ j - ns.length; omega)] at hx
      cases hx
    rw [hj2] at hx
    obtain rfl : r = x := Option.some.inj hx
    obtain rfl : j = i := by omega
    rw [hbi] at hc
    obtain rfl := Option.some.inj hc
    exact h
def spLWithin (K : PySem.W.Frag) : Sp := fun vs H Q _ => ∃ (p bl : Addr) (ws : List V) (bs : List BarD) (q : Int), vs = [.ref p, .ref bl, .int q] ∧ StAt H p ∧ SqL K (del H p) bl ws ∧ IsL K (del H p) (bs.map bfD) ws ∧ 1 ≤ q ∧ q ≤ 100 ∧ bs.length ≤ 8 ∧ (∀ b ∈ bs, 0 ≤ b.lo ∧ b.lo ≤ b.hi ∧ b.hi ≤ 1000000) ∧
  ∀ (a : Addr) (ns : List Int) (H' : Hp), H a = none → a ≠ p → DE p H H' → StAt H' p → H' a = some (.lst (ns.map V.int)) → InB q bs ns → Q (.ref a) H'
theorem ok_l_within (T : Tx K mg) : FnOk P w K mg base (L2.CX P w) 2 T.a_l_within T.fd_l_within ["_law_s", "_law_bars", "_law_share"] (spLWithin K) := by
  refine T.F_l_within.okX sc_l_within (fun vs H Q E h => ?_) (fun cdv A outer s H vs Q E hr h => ?_)
  · obtain ⟨p, bl, ws, bs, q, rfl, _⟩ := h
    rfl
  · obtain ⟨p, bl, ws, bs, q, rfl, hs, hbl, hbs, q0, q1, h8, hb, k⟩ := h
    refine ⟨_, (pss_cons (ps_set (i := 3) sc_l_within.nd rfl (Or.inl rfl) (pe_lst pa_nil))
      (pss_cons (ps_for (passes_of rfl) rfl (pi_list (pv 1)) (pg_name (i := 4) sc_l_within.nd rfl (Or.inl rfl)) (pss_cons (ps_set (i := 5) sc_l_within.nd rfl (Or.inl rfl) (pe_op op_mul (pe_op op_sub (pe_ix ix_tup (pv 4) pe_int (fun _ _ => rfl)) (pe_ix ix_tup (pv 4) pe_int (fun _ _ => rfl))) (pv 2)))
      (pss_cons (ps_set (i := 6) sc_l_within.nd rfl (Or.inl rfl) (pe_lst (pa_cons pe_int (pa_cons (pv 5) (pa_cons (pe_call (ok_l_digit T) (hr.mono (by decide)) rfl T.m_l_digit T.F_l_digit.kp T.b_l_digit .nil passL (pa_cons (pv 0) (pa_cons (pe_op op_add (pv 5) pe_int) pa_nil))) (pa_cons (pe_call (ok_l_digit T) (hr.mono (by decide)) rfl T.m_l_digit T.F_l_digit.kp T.b_l_digit .nil passL (pa_cons (pv 0) (pa_cons (pe_op op_add (pv 5) pe_int) pa_nil))) pa_nil))))))
      (pss_one (ps_expr (pe_bm PySem.F.plainAttrs_list PySem.F.slot_list_append PySem.F.type_list_append mt_append (pv 3) (pa_cons (pe_op op_add (pe_op op_mul (pe_ix ix_tup (pv 4) pe_int (fun _ _ => rfl)) (pv 2)) (pe_ix ix_list (pv 6) (pe_call (ok_l_digit T) (hr.mono (by decide)) rfl T.m_l_digit T.F_l_digit.kp T.b_l_digit .nil passL (pa_cons (pv 0) (pa_cons pe_int pa_nil))) (fun _ _ => rfl))) pa_nil)))))))
      (pss_one (ps_ret (pv 3))))), ?_⟩
    have hwl : ws.length = bs.length := by rw [isL_len hbs, List.length_map]
    refine ⟨by show 0 ≤ sizeLine; decide, fun F hF => ?_⟩
    have hFp : F ≠ p := hs.ne hF
    have hF0 : del H p F = none := by rw [del_ne hFp]; exact hF
    refine ⟨_, rfl, bl, rfl, ⟨_, (hbl.ext (DE.of (Ext.upd hF))).de⟩, for_list (K := K) (a := bl) (xs := ws) (fun i σ H' => DE p H H' ∧ StAt H' p ∧ ∃ (ns : List Int) (v4 v5 v6 : Option V), σ = [some (.ref p), some (.ref bl), some (.int q), some (.ref F), v4, v5, v6] ∧ H' F = some (.lst (ns.map V.int)) ∧ ns.length = i ∧ ∀ (j : Nat) (b : BarD) (x : Int), bs[j]? = some b → ns[j]? = some x → b.lo * q ≤ x ∧ x ≤ b.hi * q)
      ⟨DE.of (Ext.upd hF), hs.ext (Ext.upd hF), [], none, none, none, rfl, upd_same, rfl, fun j b x _ h => by cases h⟩ (fun i σ H' _ p => (hbl.ext p.1).de) ?_ ?_⟩
    · rintro i y σ H1 hi ⟨e1, hs1, ns, v4, v5, v6, rfl, hF1, hnl, hn⟩
      obtain ⟨b, hbi, ib⟩ := isL_at' hbs hi
      obtain ⟨t, rfl, ht0⟩ := bf_of (ib.ext e1)
      have hin : i < bs.length := (List.getElem?_eq_some_iff.mp hbi).1
      have hbb := hb b (List.mem_of_getElem? hbi)
      have lo0 : 0 ≤ b.lo * q := Int.mul_nonneg (by omega) (by omega)
      have hi1 : b.hi * q ≤ 1000000 * 100 := Int.mul_le_mul hbb.2.2 q1 (by omega) (by decide)
      have wide : (b.hi - b.lo) * q = b.hi * q - b.lo * q := Int.sub_mul _ _ _
      have wid0 : b.lo * q ≤ b.hi * q := Int.mul_le_mul_of_nonneg_right hbb.2.1 (by omega)
      have ht := ht0.ext del_ext
      refine ⟨_, rfl, t, _, 5, _, rfl, rfl, ht, atI_nat (xs := brV b) (j := 5) rfl, _, rfl, t, _, 4, _, rfl, rfl, ht, atI_nat (xs := brV b) (j := 4) rfl, _, _, rfl, rfl, _, rfl, _, _, rfl, rfl, .inr ⟨by omega, by omega⟩, ?_⟩
      refine ⟨_, rfl, _, rfl, _, rfl, _, _, rfl, rfl, p, _, rfl, hs1, by omega, by omega, fun r1 H2 e2 hs2 r10 r11 => ?_⟩
      refine ⟨_, rfl, _, rfl, _, _, rfl, rfl, p, _, rfl, hs2, by omega, by omega, fun r2 H3 e3 hs3 r20 r21 => ?_⟩
      refine ⟨by show 4 ≤ sizeLine; decide, fun S hS => ?_⟩
      have hSp : S ≠ p := hs3.ne hS
      have e13 := (e1.trans e2).trans e3
      have hF3 := e3.to (e2.to hF1 hFp) hFp
      have hSF : S ≠ F := fun e => by rw [e, hF3] at hS; cases hS
      have ht4 : SqT K (del (upd H3 S (.lst [.int 0, .int ((b.hi - b.lo) * q), .int r1, .int r2])) p) t (brV b) := ht0.ext ((e2.trans e3).trans (DE.of (Ext.upd hS)))
      have hF4 : (upd H3 S (.lst [.int 0, .int ((b.hi - b.lo) * q), .int r1, .int r2])) F = some (.lst (ns.map V.int)) := Ext.upd hS _ _ hF3
      have hS4 : (upd H3 S (.lst [.int 0, .int ((b.hi - b.lo) * q), .int r1, .int r2])) S = some (.lst [.int 0, .int ((b.hi - b.lo) * q), .int r1, .int r2]) := upd_same
      have hs4 := hs3.ext (Ext.upd (o := HO.lst [.int 0, .int ((b.hi - b.lo) * q), .int r1, .int r2]) hS)
      have e14 : DE p H (upd H3 S (.lst [.int 0, .int ((b.hi - b.lo) * q), .int r1, .int r2])) := e13.trans (DE.of (Ext.upd hS))
      generalize upd H3 S (.lst [.int 0, .int ((b.hi - b.lo) * q), .int r1, .int r2]) = H4 at ht4 hF4 hS4 hs4 e14 ⊢
      have ht5 := ht4.ext del_ext
      refine ⟨_, rfl, .inl ⟨rfl, _, SqL.of hF4⟩, ?_⟩
      refine ⟨_, rfl, t, _, 4, _, rfl, rfl, ht5, atI_nat (xs := brV b) (j := 4) rfl, _, rfl, _, _, rfl, rfl, .inr ⟨by omega, by omega⟩, _, rfl, _, rfl, p, _, rfl, hs4, by decide, by decide, fun r H5 e5 hs5 r0 r4 => ?_⟩
      have hS5 := e5.to hS4 hSp
      have hF5 := e5.to hF4 hFp
      obtain ⟨x, hx, x0, x1⟩ : ∃ x : Int, atI [V.int 0, V.int ((b.hi - b.lo) * q), V.int r1, V.int r2] r = some (.int x) ∧ 0 ≤ x ∧ x ≤ (b.hi - b.lo) * q := by
        rcases (show r = 0 ∨ r = 1 ∨ r = 2 ∨ r = 3 by omega) with rfl | rfl | rfl | rfl
        · exact ⟨_, rfl, by omega, by omega⟩
        · exact ⟨_, rfl, by omega, by omega⟩
        · exact ⟨_, rfl, by omega, by omega⟩
        · exact ⟨_, rfl, by omega, by omega⟩
      refine ⟨S, _, _, _, rfl, rfl, SqL.of hS5, hx, _, _, rfl, rfl, ?_⟩
      refine ⟨F, _, _, rfl, rfl, hF5, ?_, ?_⟩
      · rw [List.length_map, hnl]
        exact Nat.lt_of_lt_of_le (show i < 100 by omega) (by decide)
      · refine ⟨DE.mut (e14.trans e5) hF0, hs5.upd hFp, ns ++ [b.lo * q + x], _, _, _, rfl, by rw [upd_same, List.map_append]; rfl, by rw [List.length_append, hnl]; rfl, inB_snoc hnl hn hbi ⟨by omega, by omega⟩⟩
    · rintro σ H1 ⟨e1, hs1, ns, v4, v5, v6, rfl, hF1, hnl, hn⟩
      exact ⟨_, rfl, k F ns H1 hF hFp e1 hs1 hF1 ⟨by rw [hnl, hwl], hn⟩⟩
theorem ends_slice (b : BarD) (h : b.lo ≤ b.hi) : cutV [V.int b.lo, V.int b.hi] none (some (1 + (if decide (b.lo < b.hi) = true then 1 else 0))) = (endsI b).map V.int := by
  unfold endsI
  by_cases c : b.lo = b.hi
  · rw [if_pos c, if_neg (by rw [decide_eq_true_eq]; omega)]
    rfl
  · rw [if_neg c, if_pos (by rw [decide_eq_true_eq]; omega)]
    rfl
def spLCorners (K : PySem.W.Frag) : Sp := fun vs H Q _ => ∃ (bl : Addr) (ws : List V) (bs : List BarD), vs = [.ref bl] ∧ SqL K H bl ws ∧ IsL K H (bs.map bfD) ws ∧ bs.length ≤ 8 ∧ (∀ b ∈ bs, b.lo ≤ b.hi) ∧
  ∀ (R : Addr) (rs : List V) (H' : Hp), H R = none → Ext H H' → H' R = some (.lst rs) → IsL K H' ((cornersB bs).map rwI) rs → (cornersB bs).length ≤ 256 → Q (.ref R) H'
theorem ok_l_corners (T : Tx K mg) : FnOk P w K mg base (L2.CX P w) 2 T.a_l_corners T.fd_l_corners ["_law_bars"] (spLCorners K) := by
  refine T.F_l_corners.okX sc_l_corners (fun vs H Q E h => ?_) (fun cdv A outer s H vs Q E hr h => ?_)
  · obtain ⟨bl, ws, bs, rfl, _⟩ := h
    rfl
  · obtain ⟨bl, ws, bs, rfl, hbl, hbs, h8, hb, k⟩ := h
    refine ⟨_, (pss_cons (ps_set (i := 1) sc_l_corners.nd rfl (Or.inl rfl) (pe_lst (pa_cons (pe_lst pa_nil) pa_nil)))
      (pss_cons (ps_for (passes_of rfl) rfl (pi_list (pv 0)) (pg_name (i := 2) sc_l_corners.nd rfl (Or.inl rfl)) (pss_cons (ps_set (i := 3) sc_l_corners.nd rfl (Or.inl rfl) (pe_lst pa_nil))
      (pss_cons (ps_for (passes_of rfl) rfl (pi_list (pv 1)) (pg_name (i := 4) sc_l_corners.nd rfl (Or.inr rfl)) (pss_one (ps_set (i := 3) sc_l_corners.nd rfl (Or.inl rfl) (pe_op op_catL (pv 3) (pe_lc (own := [("_law_end", 5)]) (g := gName 5) (tt := tYes) (te := tOp (rCatL K) (tVar 4) (tLst (tCons (tVar 5) tNil))) (by rfl) sc_l_corners.nd (pi_list (pe_slice sl_list (pe_lst (pa_cons (pe_ix ix_tup (pv 2) pe_int (fun _ _ => rfl)) (pa_cons (pe_ix ix_tup (pv 2) pe_int (fun _ _ => rfl)) pa_nil))) po_none (po_some (pe_op op_add pe_int (pe_callTy call_int1 (by rfl) T.z_int (by decide +kernel) (pa_cons (pe_cmpR op_lt (pe_ix ix_tup (pv 2) pe_int (fun _ _ => rfl)) (pe_ix ix_tup (pv 2) pe_int (fun _ _ => rfl)) (nomark _)) pa_nil)))))) (blkOk_by (own := [("_law_end", 5)]) (N := N_l_corners) (sc := defScope s_l_corners) (by decide +kernel)) (fun _ _ _ _ _ => (pg_name (i := 5) sc_l_corners.nd rfl (Or.inl rfl))) (fun _ _ _ _ _ => pts_nil) (fun _ _ _ _ _ => (pe_op op_catL (pv 4) (pe_lst (pa_cons (pv 5) pa_nil)))))))))
      (pss_one (ps_set (i := 1) sc_l_corners.nd rfl (Or.inl rfl) (pv 3))))))
      (pss_one (ps_ret (pv 1))))), ?_⟩
    have hwl : ws.length = bs.length := by rw [isL_len hbs, List.length_map]
    refine ⟨by show 0 ≤ sizeLine; decide, fun A0 hA0 => ⟨by show 1 ≤ sizeLine; decide, fun R0 hR0 => ?_⟩⟩
    have e1 : Ext H (upd (upd H A0 (.lst [])) R0 (.lst [V.ref A0])) := (Ext.upd hA0).trans (Ext.upd hR0)
    have hR1 : (upd (upd H A0 (.lst [])) R0 (.lst [V.ref A0])) R0 = some (.lst [V.ref A0]) := upd_same
    have hA1 : (upd (upd H A0 (.lst [])) R0 (.lst [V.ref A0])) A0 = some (.lst []) := Ext.upd hR0 _ _ upd_same
    have hR0n : H R0 = none := (Ext.upd hA0).fresh hR0
    generalize upd (upd H A0 (.lst [])) R0 (.lst [V.ref A0]) = H1 at e1 hR1 hA1 ⊢
    refine ⟨_, rfl, bl, rfl, ⟨_, hbl.ext e1⟩, for_list (K := K) (a := bl) (xs := ws) (fun i σ H' => Ext H1 H' ∧ ∃ (R : Addr) (rs : List V) (rows : List (List Int)) (v2 v3 v4 v5 : Option V), σ = [some (.ref bl), some (.ref R), v2, v3, v4, v5] ∧ H R = none ∧ H' R = some (.lst rs) ∧ rows = ((bs.map endsI).take i).foldl nextR [[]] ∧ IsL K H' (rows.map rwI) rs ∧ rows.length ≤ 2 ^ i)
      ⟨Ext.rfl', R0, _, [[]], none, none, none, none, rfl, hR0n, hR1, rfl, ⟨_, _, rfl, rwI_is (row := []) (SqL.of hA1), rfl⟩, Nat.le_refl _⟩ (fun i σ H' _ p => (hbl.ext e1).ext p.1) ?_ ?_⟩
    · rintro i y σ H2 hi ⟨e2, R, rs, rows, v2, v3, v4, v5, rfl, hRn, hR2, hrows, hil, hcnt⟩
      have hi8 : i < 8 := by have := (List.getElem?_eq_some_iff.mp hi).1; omega
      obtain ⟨b, hbi, ib⟩ := isL_at' hbs hi
      obtain ⟨t, rfl, ht0⟩ := bf_of (ib.ext (e1.trans e2))
      have hlh := hb b (List.mem_of_getElem? hbi)
      have hpow : (2 : Nat) ^ i ≤ 128 := Nat.le_trans (Nat.pow_le_pow_right (by decide) (show i ≤ 7 by omega)) (by decide)
      have hel := len_endsI b
      have hrsl : rs.length = rows.length := by rw [isL_len hil, List.length_map]
      have hrl : ∀ row ∈ rows, row.length ≤ 8 := fun row h => by
        rw [hrows] at h
        rw [len_spread _ [[]] 0 (fun r hr => by rw [List.mem_singleton.mp hr]; rfl) row h, List.length_take, List.length_map]
        omega
      refine ⟨by show 0 ≤ sizeLine; decide, fun L0 hL0 => ?_⟩
      have hL0n : H L0 = none := (e1.trans e2).fresh hL0
      refine ⟨_, rfl, R, rfl, ⟨_, SqL.of (Ext.upd hL0 _ _ hR2)⟩, for_list (K := K) (a := R) (xs := rs) (fun j σ H' => Ext H2 H' ∧ ∃ (L : Addr) (acc : List V) (v4 v5 : Option V), σ = [some (.ref bl), some (.ref R), some (.ref t), some (.ref L), v4, v5] ∧ H L = none ∧ H' L = some (.lst acc) ∧ IsL K H' (((rows.take j).flatMap fun row => (endsI b).map fun e => row ++ [e]).map rwI) acc)
        ⟨Ext.upd hL0, L0, [], v4, v5, rfl, hL0n, upd_same, rfl⟩ (fun j σ H' _ p => (SqL.of hR2).ext p.1) ?_ ?_⟩
      · rintro j y σ H4 hj ⟨e4, L, acc, w4, w5, rfl, hLn, hL4, hacc⟩
        obtain ⟨row, hrow, ir⟩ := isL_at' hil hj
        obtain ⟨tr, rfl, htr0⟩ := rwI_of (ir.ext e4)
        have hrl8 := hrl row (List.mem_of_getElem? hrow)
        have hj2 : j < rows.length := (List.getElem?_eq_some_iff.mp hrow).1
        have ht4 := ht0.ext e4
        have hal : acc.length ≤ 256 := by
          rw [isL_len hacc, List.length_map, List.length_flatMap]
          refine Nat.le_trans (sum_le _ fun x hx => by rw [List.length_map]; exact hel) ?_
          rw [List.length_take]
          omega
        refine ⟨_, rfl, _, rfl, t, _, 4, _, rfl, rfl, ht4, atI_nat (xs := brV b) (j := 4) rfl, _, rfl, t, _, 5, _, rfl, rfl, ht4, atI_nat (xs := brV b) (j := 5) rfl, by show 2 ≤ sizeLine; decide, fun q1 h1 => ?_⟩
        have ht5 := ht4.ext (Ext.upd (o := HO.lst [V.int b.lo, V.int b.hi]) h1)
        refine ⟨_, rfl, t, _, 4, _, rfl, rfl, ht5, atI_nat (xs := brV b) (j := 4) rfl, _, rfl, t, _, 5, _, rfl, rfl, ht5, atI_nat (xs := brV b) (j := 5) rfl, _, _, rfl, rfl, .inr ⟨_, rfl, _, _, rfl, rfl, _, rfl, _, _, rfl, SqL.of upd_same, fun q2 h2 => ?_⟩⟩
        have e5 : Ext H4 (upd (upd H4 q1 (.lst [V.int b.lo, V.int b.hi])) q2 (.lst (cutV [V.int b.lo, V.int b.hi] none (some (1 + (if decide (b.lo < b.hi) = true then 1 else 0)))))) := (Ext.upd h1).trans (Ext.upd h2)
        have hq2 : (upd (upd H4 q1 (.lst [V.int b.lo, V.int b.hi])) q2 (.lst (cutV [V.int b.lo, V.int b.hi] none (some (1 + (if decide (b.lo < b.hi) = true then 1 else 0)))))) q2 = some (.lst ((endsI b).map V.int)) := by rw [upd_same, ends_slice b hlh]
        generalize upd (upd H4 q1 (.lst [V.int b.lo, V.int b.hi])) q2 (.lst (cutV [V.int b.lo, V.int b.hi] none (some (1 + (if decide (b.lo < b.hi) = true then 1 else 0))))) = H5 at e5 hq2 ⊢
        refine ⟨q2, rfl, ⟨_, SqL.of hq2⟩, fun D hD => lc_list (xs := (endsI b).map V.int) (fun m H' => Ext H5 H' ∧ ∃ acc', H' D = some (.lst acc') ∧ IsL K (del H' D) ((((endsI b).take m).map fun e => row ++ [e]).map rwI) acc') ⟨Ext.upd hD, [], upd_same, rfl⟩ (fun m H' _ p => (SqL.of hq2).ext p.1) ?_ ?_⟩
        · rintro m z H6 hm ⟨e6, acc', hD6, hacc'⟩
          obtain ⟨e, he, rfl⟩ : ∃ e, (endsI b)[m]? = some e ∧ z = V.int e := by
            rw [List.getElem?_map] at hm
            cases h : (endsI b)[m]? with
            | none => rw [h] at hm; cases hm
            | some n => rw [h] at hm; exact ⟨n, rfl, (Option.some.inj hm).symm⟩
          refine ⟨rfl, tyes ?_⟩
          refine ⟨_, rfl, _, rfl, by show 1 ≤ sizeLine; decide, fun q hq => ⟨tr, q, _, _, rfl, rfl, ((htr0.ext e5).ext e6).ext (Ext.upd hq), SqL.of upd_same, ?_, fun p hp => ?_⟩⟩
          · rw [List.length_map]
            exact Nat.le_trans (show row.length + 1 ≤ 100 by omega) (by decide)
          · have hD7 : (upd (upd H6 q (.lst [V.int e])) p (.lst (row.map V.int ++ [V.int e]))) D = some (.lst acc') := Ext.upd hp _ _ (Ext.upd hq _ _ hD6)
            have e7 : Ext H6 (upd (upd H6 q (.lst [V.int e])) p (.lst (row.map V.int ++ [V.int e]))) := (Ext.upd hq).trans (Ext.upd hp)
            have hp7 : (upd (upd H6 q (.lst [V.int e])) p (.lst (row.map V.int ++ [V.int e]))) p = some (.lst ((row ++ [e]).map V.int)) := by rw [upd_same, List.map_append]; rfl
            have hpD : p ≠ D := fun z => by
              have := (Ext.upd (o := HO.lst [V.int e]) hq).fresh hp
              rw [z, hD6] at this
              cases this
            generalize upd (upd H6 q (.lst [V.int e])) p (.lst (row.map V.int ++ [V.int e])) = H7 at hD7 e7 hp7 ⊢
            refine ⟨acc', hD7, ?_, (e6.trans e7).mut hD, _, upd_same, ?_⟩
            · rw [isL_len hacc', List.length_map, List.length_map, List.length_take]
              exact Nat.lt_of_lt_of_le (show min m (endsI b).length < 100 by omega) (by decide)
            · rw [List.take_add_one, he, List.map_append, List.map_append]
              refine isL_snoc ((hacc'.ext (DE.of e7)).ext DE.upd) (rwI_is (SqL.of ?_))
              rw [del_ne hpD, upd_ne hpD]
              exact hp7
        · rintro H6 ⟨e6, acc', hD6, hacc'⟩
          rw [List.length_map, List.take_length] at hacc'
          have hal' : acc'.length ≤ 2 := by rw [isL_len hacc', List.length_map, List.length_map]; exact hel
          have e46 := e5.trans e6
          refine ⟨L, D, _, _, rfl, rfl, SqL.of (e46 _ _ hL4), SqL.of hD6, Nat.le_trans (show acc.length + acc'.length ≤ 1000 by omega) (by decide), fun p hp => ?_⟩
          refine ⟨(e4.trans e46).trans (Ext.upd hp), p, _, _, _, rfl, (((e1.trans e2).trans e4).trans e46).fresh hp, upd_same, ?_⟩
          rw [List.take_add_one, hrow, List.flatMap_append, List.map_append]
          refine ((hacc.ext e46).ext (Ext.upd hp)).append ?_
          show IsL K _ ((List.flatMap _ [row]).map rwI) acc'
          rw [List.flatMap_cons, List.flatMap_nil, List.append_nil]
          exact (hacc'.ext del_ext).ext (Ext.upd hp)
      · rintro σ H4 ⟨e4, L, acc, w4, w5, rfl, hLn, hL4, hacc⟩
        rw [hrsl, List.take_length] at hacc
        refine ⟨_, rfl, e2.trans e4, L, acc, nextR rows (endsI b), _, _, _, _, rfl, hLn, hL4, ?_, hacc, ?_⟩
        · rw [List.take_add_one, List.getElem?_map, hbi, List.foldl_append, ← hrows]
          rfl
        · unfold nextR
          rw [List.length_flatMap, Nat.pow_succ]
          refine Nat.le_trans (sum_le _ fun x hx => by rw [List.length_map]; exact hel) ?_
          omega
    · rintro σ H2 ⟨e2, R, rs, rows, v2, v3, v4, v5, rfl, hRn, hR2, hrows, hil, hcnt⟩
      rw [hwl, List.take_of_length_le (by rw [List.length_map]; exact Nat.le_refl _)] at hrows
      rw [hwl] at hcnt
      have hpow : (2 : Nat) ^ bs.length ≤ 256 := Nat.le_trans (Nat.pow_le_pow_right (by decide) h8) (by decide)
      rw [hrows] at hil hcnt
      exact ⟨_, rfl, k R rs _ hRn (e1.trans e2) hR2 hil (Nat.le_trans hcnt hpow)⟩
end
end K23
namespace K23
open PySem PySem.Spec PyProof.Rows L2 LamX
/-- what a refusal is told as -/
def RefOk (K : PySem.W.Frag) (B M : Addr) (Q : VK) : XK := fun cls d H => (cls = .ref B ∧ ∃ (a : Addr) (n : Int) (x : Str), d = some a ∧ H a = some (.xd [("count", .int n), ("what", .str x)]) ∧ ∀ v H', Ext H H' → Is K H' (.tup [.str "badcount", .str x, .int n]) v → Q v H') ∨
  (cls = .ref M ∧ ∃ (a : Addr) (n : Int), d = some a ∧ H a = some (.xd [("bar", .int n)]) ∧ ∀ v H', Ext H H' → Is K H' (.tup [.str "badplace", .int n]) v → Q v H')
def TTref (K : PySem.W.Frag) (B M : Addr) : (XK → Hp → VK → Prop) → Hp → VK → Prop := fun tl H Q => tl (RefOk K B M Q) H (fun _ H' => ∃ v : V, (some (some V.non) : Option (Option V)) = some (some v) ∧ Q v H')
def ts_ref (K : PySem.W.Frag) (B M : Addr) : Addr → Value → Option Addr → TS := fun a cls d =>
  tIfS (tB (tCB (rIsEX K a cls d) (tCons (tVar 2) (tCons (tC (.ref B)) tNil)))) (tAsg (tTup (tCons (tC (.str "badcount")) (tCons (tXf a cls d B "what" (tVar 2)) (tCons (tXf a cls d B "count" (tVar 2)) tNil)))) (gName 1))
    (tIfS (tB (tCB (rIsEX K a cls d) (tCons (tVar 2) (tCons (tC (.ref M)) tNil)))) (tAsg (tTup (tCons (tC (.str "badplace")) (tCons (tXf a cls d M "bar" (tVar 2)) tNil))) (gName 1)) (tAsg (tC (.str "other")) (gName 1)))
theorem refusal_gives {X : Cx} {K : PySem.W.Frag} {mg : Str → Option Value} (eK : X.K = K) (eM : X.mg = mg) {q : Str} {g : Addr} {cdg : Value} (T : Tx K mg) : GivesTo X N_l_refusal "_law_refusal" (defScope s_l_refusal) g cdg (defBody s_l_refusal) "_law_ask" q (TTref K T.C_BadCount T.C_BadPlace) := by
  subst eK
  subst eM
  intro f c' s H Q tl act hc h
  refine ⟨_, (pss_cons (ps_set (i := 1) sc_l_refusal.nd rfl (Or.inl rfl) pe_non)
      (pss_cons (ps_try_as (i := 2) (tb := fun W D σ H => ∃ Ech : XK, (∀ cls d σ' H', σ'.length = 3 → Ech cls d H' → W cls d σ' H') ∧ σ[0]? = some (some (.ref f)) ∧ H c' = some (CodeO c' q) ∧ tl Ech H fun _ H' => D.nx σ H') (ts := ts_ref X.K T.C_BadCount T.C_BadPlace) (Wout := fun _ _ _ _ => False) rfl rfl sc_l_refusal.nd rfl rfl ⟨rfl, by decide, Or.inl T.m_HooksError⟩ L2.takes0
          (fun W pn xe tk _ => ?_)
          (fun a oe cls d pn hz hf => pss_one (ps_if (pt_val (pe_callB (call_isEX hz hf) (by rfl) T.z_isinstance (by decide +kernel) (pa_cons (pv 2) (pa_cons (pe_glob rfl T.m_BadCount rfl) pa_nil))))
            (pss_one (ps_set (i := 1) sc_l_refusal.nd rfl (Or.inl rfl) (pe_tup (pa_cons pe_str (pa_cons (pe_xf T.xf_BadCount T.nf_BadCount_what hz hf (pv 2)) (pa_cons (pe_xf T.xf_BadCount T.nf_BadCount_count hz hf (pv 2)) pa_nil))))))
            (pss_one (ps_if (pt_val (pe_callB (call_isEX hz hf) (by rfl) T.z_isinstance (by decide +kernel) (pa_cons (pv 2) (pa_cons (pe_glob rfl T.m_BadPlace rfl) pa_nil))))
              (pss_one (ps_set (i := 1) sc_l_refusal.nd rfl (Or.inl rfl) (pe_tup (pa_cons pe_str (pa_cons (pe_xf T.xf_BadPlace T.nf_BadPlace_bar hz hf (pv 2)) pa_nil)))))
              (pss_one (ps_set (i := 1) sc_l_refusal.nd rfl (Or.inl rfl) pe_str)))))))
      (pss_one (ps_ret (pv 1))))), ?_⟩
  · refine ⟨fun pins s' σ H' D I h' => ?_⟩
    obtain ⟨Ech, hW, h1, h2, h3⟩ := h'
    have tk2 : Takes ((cxOf C8.CX0 X.prog X.w X.K X.mg X.base N_l_refusal "_law_refusal" (defScope s_l_refusal) g cdg X.A X.stack s H C8.E0).tr pn xe) (fun cls d _ H' => Ech cls d H') := fun u s2 ⟨a, B, sI, pins2, σ2, H2, cls, d, e1, J, e2, e3, e4, e5, e6, e7, e8⟩ =>
      tk u s2 ⟨a, B, sI, pins2, σ2, H2, cls, d, e1, J, e2, e3, e4, e5, e6, e7, hW cls d σ2 H2 J.len e8⟩
    exact (pss_one (ps_expr (act _ pn xe Ech _ _ tk2 (fun _ _ _ _ z => z)))).run pins s' σ H' D I ⟨h1, h2, h3⟩
  · refine ⟨RefOk X.K T.C_BadCount T.C_BadPlace Q, fun cls d σ' H' hl hh => ?_, rfl, hc, h⟩
    match σ', hl with
    | [a0, a1, a2], _ =>
    rcases hh with ⟨rfl, a, n, x, rfl, hd, hq⟩ | ⟨rfl, a, n, rfl, hd, hq⟩
    · refine ⟨true, T.exm_BadCount_HooksError, fun _ ea hea => ?_, fun z => by cases z⟩
      have l1 : ([("count", .int n), ("what", .str x)] : List (Str × V)).lookup ("what" : Str) = some (V.str x) := by
        rw [lookup_put, if_neg (by decide +kernel), lookup_put, if_pos rfl]
      have l2 : ([("count", .int n), ("what", .str x)] : List (Str × V)).lookup ("count" : Str) = some (V.int n) := by
        rw [lookup_put, if_pos rfl]
      refine ⟨_, rfl, _, _, true, T.C_BadCount, rfl, fun u hu => hu, rfl, T.isC_BadCount, T.kit_BadCount_BadCount, .inr ⟨a, _, rfl, hd⟩, true, rfl, iteT ?_⟩
      refine ⟨_, rfl, rfl, rfl, a, _, _, rfl, hd, l1, ?_⟩
      refine ⟨_, rfl, rfl, rfl, a, _, _, rfl, hd, l2, ?_⟩
      refine ⟨by show 3 ≤ sizeLine; decide, fun p hp => ?_⟩
      refine ⟨_, rfl, ?_⟩
      exact hq _ _ (Ext.upd hp) ⟨p, _, rfl, SqT.of upd_same, _, _, rfl, rfl, _, _, rfl, rfl, _, _, rfl, rfl, rfl⟩
    · refine ⟨true, T.exm_BadPlace_HooksError, fun _ ea hea => ?_, fun z => by cases z⟩
      have l1 : ([("bar", .int n)] : List (Str × V)).lookup ("bar" : Str) = some (V.int n) := by
        rw [lookup_put, if_pos rfl]
      refine ⟨_, rfl, _, _, false, T.C_BadPlace, rfl, fun u hu => hu, rfl, T.isC_BadPlace, T.kit_BadPlace_BadCount, .inr ⟨a, _, rfl, hd⟩, false, rfl, iteF ?_⟩
      refine ⟨_, rfl, _, _, true, T.C_BadPlace, rfl, fun u hu => hu, rfl, T.isC_BadPlace, T.kit_BadPlace_BadPlace, .inr ⟨a, _, rfl, hd⟩, true, rfl, iteT ?_⟩
      refine ⟨_, rfl, rfl, rfl, a, _, _, rfl, hd, l1, ?_⟩
      refine ⟨by show 2 ≤ sizeLine; decide, fun p hp => ?_⟩
      refine ⟨_, rfl, ?_⟩
      exact hq _ _ (Ext.upd hp) ⟨p, _, rfl, SqT.of upd_same, _, _, rfl, rfl, _, _, rfl, rfl, rfl⟩
end K23
namespace K23
open PySem L2
section
variable {P : Program} {w : World} {K : PySem.W.Frag} {mg : Str → Option Value} {base : Heap}
theorem pl_mut {C : Addr} {ns : List Int} {q : Int} {H : Hp} {v : V} {h : Addr} {xs : List V} {o : HO} (i : Is K H (plD C ns q) v) (hh : H h = some (.lst xs)) : Is K (upd H h o) (plD C ns q) v := by
  obtain ⟨a, dx, kvs, rfl, ha, ek, hl⟩ := i
  obtain ⟨t, rfl, ht⟩ := two_fields (C := C) (dx := dx) (a := a) ek hl
  have hne : a ≠ h := fun e => by rw [e, hh] at ha; cases ha
  exact ⟨a, dx, _, rfl, by rw [upd_ne hne]; exact ha, rfl, _, _, rfl, ⟨t, _, rfl, ht.mut hh, isL_ints _⟩, _, _, rfl, rfl, rfl⟩
theorem pl_deq {C : Addr} {ns ms : List Int} {q r : Int} : deq (plD C ns q) (plD C ms r) = decide (ns = ms ∧ q = r) := by
  show (C == C && (deqL (ns.map Dt.int) (ms.map Dt.int) && (q == r && true))) = _
  rw [deqL_ints, beq_self_eq_true, Bool.true_and, Bool.and_true, Bool.eq_iff_iff]
  simp
theorem due_is {H : Hp} {t u : Addr} {ns : List Int} {q : Int} (ht : H t = some (.tup (ns.map V.int))) (hu : H u = some (.tup [.ref t, .int q])) : Is K H (.tup [.tup (ns.map Dt.int), .int q]) (.ref u) :=
  ⟨u, _, rfl, SqT.of hu, _, _, rfl, ⟨t, _, rfl, SqT.of ht, isL_ints _⟩, _, _, rfl, rfl, rfl⟩
theorem due_ok {shp : Addr → List Str → List Dt → Prop} {ns : List Int} {q : Int} : okD shp (.tup [.tup (ns.map Dt.int), .int q]) := ⟨okL_pure (pureL_ints ns), trivial, trivial⟩
theorem due_dep {ns : List Int} {q : Int} : dep (.tup [.tup (ns.map Dt.int), .int q]) ≤ 8 := by
  show max (depL (ns.map Dt.int) + 1) (max 0 0) + 1 ≤ 8
  rw [depL_ints]
  decide
theorem due_deq {ns : List Int} {q : Int} : deq (.tup [.tup (ns.map Dt.int), .int q]) (.tup [.tup (ns.map Dt.int), .int q]) = true := by
  show (deqL (ns.map Dt.int) (ns.map Dt.int) && (q == q && true)) = true
  rw [deqL_ints, beq_self_eq_true]
  simp
theorem pl_dep {C : Addr} {ns : List Int} {q : Int} : dep (plD C ns q) ≤ 8 := by
  show max (depL (ns.map Dt.int) + 1) (max 0 0) + 1 ≤ 8
  rw [depL_ints]
  decide
theorem shareBig {s : Int} (h0 : 1 ≤ s) (h : s ≤ 10 ^ 18) : s.natAbs < 2 ^ 8000 :=
  Nat.lt_of_lt_of_le (show s.natAbs < 2 ^ 60 from Nat.lt_of_le_of_lt (show s.natAbs ≤ 10 ^ 18 by omega) (by decide)) (Nat.pow_le_pow_right (by decide) (by decide))
theorem cut_mem {xs : List V} {lo hi : Option Int} {i : Nat} {y : V} (h : (cutV xs lo hi)[i]? = some y) : y ∈ xs :=
  List.mem_of_mem_drop (List.mem_of_mem_take (List.mem_of_getElem? h))
theorem dvd_gcdL {d : Nat} : ∀ {g : Nat} {xs : List Int}, d ∣ g → (∀ x ∈ xs, d ∣ x.natAbs) → d ∣ gcdL g xs
  | _, [], h, _ => h
  | _, y :: r, h, hx => dvd_gcdL (xs := r) (Nat.dvd_gcd h (hx y List.mem_cons_self)) fun x hm => hx x (List.mem_cons_of_mem _ hm)
theorem StAt.extN {H H' : Hp} {p : Addr} (h : StAt H p) (e : LamX.ExtN H H') : StAt H' p := let ⟨a, b, c, h1, h2⟩ := h; ⟨a, b, c, e _ _ h1 (fun _ z => by cases z), h2⟩
theorem tyX_tup {H : Hp} {t : Addr} {xs : List V} (s : SqT K H t xs) : TyX K H (.ref t) (.type "tuple") := by
  rcases s with (r | ⟨b, r⟩) | ⟨o, us, tk, r, rc, _⟩
  · exact TyX.base (TyOf.tup r)
  · exact TyX.fTuple r
  · exact TyX.kTuple r rc
theorem cut_ints (ms : List Int) (lo hi : Option Int) : ∃ ms' : List Int, cutV (ms.map V.int) lo hi = ms'.map V.int ∧ ms'.length ≤ ms.length ∧ ∀ x ∈ ms', x ∈ ms := by
  refine ⟨(ms.drop (HT.sIx ms.length 0 lo)).take (HT.sIx ms.length ms.length hi - HT.sIx ms.length 0 lo), ?_, ?_, fun x hx => List.mem_of_mem_drop (List.mem_of_mem_take hx)⟩
  · unfold cutV
    rw [List.length_map, ← List.map_drop, ← List.map_take]
  · rw [List.length_take, List.length_drop]
    omega
theorem due_deq2 {ns ms : List Int} {q r : Int} : deq (.tup [.tup (ns.map Dt.int), .int q]) (.tup [.tup (ms.map Dt.int), .int r]) = decide (ns = ms ∧ q = r) := by
  show (deqL (ns.map Dt.int) (ms.map Dt.int) && (q == r && true)) = _
  rw [deqL_ints, Bool.and_true, Bool.eq_iff_iff]
  simp
end
end K23
namespace K23
open PySem PySem.Spec PyProof.Rows L2 LamX
section
variable {P : Program} {w : World} {K : PySem.W.Frag} {mg : Str → Option Value} {base : Heap}
def qR : Str := "_law_places_right.<locals>.<lambda>"
def spPR (TS : List (Addr × Str)) : Sp := fun vs H Q _ => ∃ p, vs = [.ref p] ∧ StAt H p ∧ Tabs TS H ∧ ∀ H', DN p H H' → StAt H' p → Tabs TS H' → Q (.bl true) H'
theorem ok_l_places_right (T : Tx K mg) {c0 P0 : Addr} {TS : List (Addr × Str)} (TB : TabB base mg c0 P0) (hcd : T.fd_l_places_right.code = .ref c0) (hmT : (P0, qR) ∈ TS) (huT : ∀ p ∈ TS, p.1 = P0 → p.2 = qR) :
    FnOk P w K mg base (L2.CX P w) 40 T.a_l_places_right T.fd_l_places_right ["_law_s"] (spPR TS) := by
  obtain ⟨ocR, odR, kVR, docR, pmR, anR, cdR, ctR, oslR, hfR, lkR, hcR⟩ := T.F_l_refusal.ex
  rw [hfR] at lkR
  have hbR := T.b_l_refusal
  rw [hfR] at hbR
  refine T.F_l_places_right.okXc sc_l_places_right (fun vs H Q E h => ?_) (fun A outer s H vs Q E hr h => ?_)
  · obtain ⟨p, rfl, _⟩ := h
    rfl
  · obtain ⟨p, rfl, hs, hT, k⟩ := h
    refine ⟨_, (pss_cons (ps_set (i := 1) sc_l_places_right.nd rfl (Or.inr rfl) (pe_lc (own := [("_law_k", 7)]) (g := gName 7) (tt := tYes) (by rfl) sc_l_places_right.nd (pi_range1 rfl T.z_range (pa_cons (pe_call (ok_l_digit T) (hr.mono (by decide)) rfl T.m_l_digit T.F_l_digit.kp T.b_l_digit .nil passL (pa_cons (pv 0) (pa_cons pe_int pa_nil))) pa_nil)) (blkOk_by (own := [("_law_k", 7)]) (N := N_l_places_right) (sc := defScope s_l_places_right) (by decide +kernel)) (fun _ _ _ _ _ => (pg_name (i := 7) sc_l_places_right.nd rfl (Or.inl rfl))) (fun _ _ _ _ _ => pts_nil) (fun _ _ _ _ _ => (pe_op op_sub (pe_call (ok_l_digit T) (hr.mono (by decide)) rfl T.m_l_digit T.F_l_digit.kp T.b_l_digit .nil passL (pa_cons (pv 0) (pa_cons pe_int pa_nil))) pe_int))))
      (pss_cons (ps_asg (pe_tup (pa_cons (pe_op op_add pe_int (pe_call (ok_l_digit T) (hr.mono (by decide)) rfl T.m_l_digit T.F_l_digit.kp T.b_l_digit .nil passL (pa_cons (pv 0) (pa_cons pe_int pa_nil)))) (pa_cons (pe_op op_add pe_int (pe_call (ok_l_digit T) (hr.mono (by decide)) rfl T.m_l_digit T.F_l_digit.kp T.b_l_digit .nil passL (pa_cons (pv 0) (pa_cons pe_int pa_nil)))) pa_nil))) (pg_tup rfl (pgs_cons (pg_name (i := 2) sc_l_places_right.nd rfl (Or.inl rfl)) (pgs_cons (pg_name (i := 3) sc_l_places_right.nd rfl (Or.inr rfl)) pgs_nil))))
      (pss_cons (ps_setLc (i := 4) (own := [("_law_one", 11)]) (g := gName 11) (tt := tYes) (te := tOp (rI CMul fun i j => .int (i * j)) (tVar 11) (tVar 3)) (by rfl) sc_l_places_right.nd rfl rfl (sw_true rfl rfl rfl (by decide +kernel)) (pi_list (pv 1)) (blkOk_by (own := [("_law_one", 11)]) (N := N_l_places_right) (sc := defScope s_l_places_right) (by decide +kernel)) (fun _ _ _ _ _ => (pg_name (i := 11) sc_l_places_right.nd rfl (Or.inl rfl))) (fun _ _ _ _ _ => pts_nil) (fun _ _ _ _ _ => (pe_op op_mul (pv 11) (pv 3))))
      (pss_cons (ps_set (i := 5) sc_l_places_right.nd rfl (Or.inl rfl) (pe_make T.k_Places (ok_Places_init T) (hr.mono (by decide)) rfl T.m_Places T.b_Places_init .nil passL (pa_cons (pv 4) (pa_cons (pe_op op_mul (pv 2) (pv 3)) pa_nil))))
      (pss_cons (ps_expr (pe_bm PySem.F.plainAttrs_list PySem.F.slot_list_append PySem.F.type_list_append mt_append (pv 4) (pa_cons pe_int pa_nil)))
      (pss_cons (ps_set (i := 6) sc_l_places_right.nd rfl (Or.inr rfl) pe_int)
      (pss_cons (ps_for (passes_of rfl) rfl (pi_range2 rfl T.z_range (pa_cons pe_int (pa_cons pe_int pa_nil))) (pg_name (i := 7) sc_l_places_right.nd rfl (Or.inr rfl)) (pss_one (ps_if (pt_cmpR (op_eqO pureTab hr (by decide)) (pe_lc (own := [("_law_one", 11)]) (g := gName 11) (te := tVar 11) (by rfl) sc_l_places_right.nd (pi_list (pe_op op_catL (pv 1) (pe_lst (pa_cons (pv 2) pa_nil)))) (blkOk_by (own := [("_law_one", 11)]) (N := N_l_places_right) (sc := defScope s_l_places_right) (by decide +kernel)) (fun _ _ _ _ _ => (pg_name (i := 11) sc_l_places_right.nd rfl (Or.inl rfl))) (fun _ _ _ _ _ => (pts_one (pt_cmpR op_ne (pe_op op_modN (pv 11) (pv 7)) pe_int (nomark _)))) (fun _ _ _ _ _ => (pv 11))) (pe_lst pa_nil) (nomark _)) (pss_one (ps_set (i := 6) sc_l_places_right.nd rfl (Or.inr rfl) (pv 7))) pss_nil)))
      (pss_cons (ps_set (i := 8) sc_l_places_right.nd rfl (Or.inl rfl) (pe_tup (pa_cons (pe_callTy call_tuple_of (by rfl) T.z_tuple (by decide +kernel) (pa_cons (pe_lc (own := [("_law_one", 11)]) (g := gName 11) (tt := tYes) (by rfl) sc_l_places_right.nd (pi_list (pv 1)) (blkOk_by (own := [("_law_one", 11)]) (N := N_l_places_right) (sc := defScope s_l_places_right) (by decide +kernel)) (fun _ _ _ _ _ => (pg_name (i := 11) sc_l_places_right.nd rfl (Or.inl rfl))) (fun _ _ _ _ _ => pts_nil) (fun _ _ _ _ _ => (pe_op op_fdivW (pv 11) (pv 6)))) pa_nil)) (pa_cons (pe_op op_fdivW (pv 2) (pv 6)) pa_nil))))
      (pss_cons (ps_if (PW.pt (pw_or (pt_cmpR (op_neO pureTab pureNe hr (by decide)) (pe_tup (pa_cons (pe_fld (pv 5) rfl) (pa_cons (pe_fld (pv 5) rfl) pa_nil))) (pv 8) (nomark _)) (pw_or1 (pt_not (pt_val (pe_callB call_isi (by rfl) T.z_isinstance (by decide +kernel) (pa_cons (pe_fld (pv 5) rfl) (pa_cons (pe_bltn (v := .ty "tuple") (u := .type "tuple") (by rfl) T.z_tuple (by decide +kernel) rfl) pa_nil)))))))) (pss_one (ps_ret pe_bl)) pss_nil)
      (pss_cons (ps_set (i := 9) sc_l_places_right.nd rfl (Or.inl rfl) (pe_make T.k_Places (ok_Places_init T) (hr.mono (by decide)) rfl T.m_Places T.b_Places_init .nil passL (pa_cons (pe_op op_catL (pe_slice sl_list (pv 1) po_none (po_some (pe_un un_neg pe_int))) (pe_lst (pa_cons (pv 2) pa_nil))) (pa_cons (pv 2) pa_nil))))
      (pss_cons (ps_if (PW.pt (pw_or (pt_cmpR op_ne (pe_cmpR (op_eqO (tab T) hr (by decide)) (pv 5) (pv 9) (nomark _)) (pe_cmpR (op_eqO pureTab hr (by decide)) (pv 8) (pe_tup (pa_cons (pe_fld (pv 9) rfl) (pa_cons (pe_fld (pv 9) rfl) pa_nil))) (nomark _)) (nomark _)) (pw_or1 (pt_cmpR (op_neO (tab T) (tabNe T) hr (by decide)) (pv 5) (pe_make T.k_Places (ok_Places_init T) (hr.mono (by decide)) rfl T.m_Places T.b_Places_init .nil passL (pa_cons (pe_callTy call_tuple_of (by rfl) T.z_tuple (by decide +kernel) (pa_cons (pv 1) pa_nil)) (pa_cons (pv 2) pa_nil))) (nomark _))))) (pss_one (ps_ret pe_bl)) pss_nil)
      (pss_cons (ps_set (i := 10) sc_l_places_right.nd rfl (Or.inr rfl) (pe_op op_sub pe_int (pe_call (ok_l_digit T) (hr.mono (by decide)) rfl T.m_l_digit T.F_l_digit.kp T.b_l_digit .nil passL (pa_cons (pv 0) (pa_cons pe_int pa_nil)))))
      (pss_one (ps_ret (pe_cmpR (op_eqO pureTab hr (by decide)) (pe_lamcall (T := TS) (TT := TTref K T.C_BadCount T.C_BadPlace) (t := fun E => tMake T.C_Places (spPlaces K T.C_Places T.C_BadCount) [] E (tCons (tVar 1) (tCons (tVar 10) tNil))) (k := 20) rfl T.m_l_refusal T.F_l_refusal.kp lkR hcR hbR sc_l_refusal rfl (Or.inl rfl) (refusal_gives (K := K) (mg := mg) rfl rfl T) TB hcd hmT huT (hr.mono (by decide)) (lamS_by (by rfl)) rfl (fun _ _ _ _ _ => rfl) (fun A outer s H E f c hr2 => pe_make T.k_Places (ok_Places_init T) (hr2.mono (by decide)) rfl T.m_Places T.b_Places_init .nil (passes_call (takes_of rfl rfl rfl rfl) (fun _ _ _ _ h => h)) (pa_cons (pv 1) (pa_cons (pv 10) pa_nil)))) (pe_tup (pa_cons pe_str (pa_cons pe_str (pa_cons (pv 10) pa_nil)))) (nomark _)))))))))))))))), ?_⟩
    -- numbers
    refine ⟨_, rfl, p, _, rfl, hs, by decide, by decide, fun m H1 e1 hs1 m0 m1 => ?_⟩
    refine ⟨m, rfl, by omega, by omega, fun D hD => ?_⟩
    have hDp : D ≠ p := hs1.ne hD
    have hD0 : del H p D = none := DE.fresh e1 hs1.well hD
    refine lc_range (lo := 0) (n := m.toNat) (fun i H4 => ∃ ns : List Int, ns.length = i ∧ (∀ n ∈ ns, n.natAbs ≤ 40) ∧ H4 D = some (.lst (ns.map V.int)) ∧ DE p H H4 ∧ StAt H4 p)
      ⟨[], rfl, (fun n hn => by cases hn), upd_same, e1.trans (DE.of (Ext.upd hD)), hs1.ext (Ext.upd hD)⟩ ?_ ?_
    · rintro i H4 hi ⟨ns, hlen, hb, hD4, e4, hs4⟩
      refine ⟨rfl, tyes ?_⟩
      refine ⟨_, rfl, p, _, rfl, hs4, by decide, by decide, fun r H5 e5 hs5 r0 r1 => ?_⟩
      refine ⟨_, _, rfl, rfl, ?_⟩
      refine ⟨ns.map V.int, e5.to hD4 hDp, ?_, ns ++ [r - 9], by rw [List.length_append, hlen] <;> rfl, fun z hz => ?_, by rw [upd_same, List.map_append]; rfl, DE.mut (e4.trans e5) hD0, hs5.upd hDp⟩
      · rw [List.length_map, hlen]
        exact Nat.lt_of_lt_of_le (show i < 7 by omega) (by decide)
      · rcases List.mem_append.mp hz with h | h
        · exact hb z h
        · rw [List.mem_singleton.mp h]
          omega
    rintro H2 ⟨ms, hlen, hb, hna2, e2, hs2⟩
    have hlen4 : ms.length ≤ 4 := by omega
    have hT2 : Tabs TS H2 := by
      obtain ⟨za, zb, zc, hz, _⟩ := id hs
      exact tabs_de hT hz e2
    clear hlen hD0 hD e1 hs1
    -- share, times
    refine ⟨_, rfl, p, _, rfl, hs2, by decide, by decide, fun r1 H3 e3 hs3 r10 r11 => ?_⟩
    refine ⟨_, _, rfl, rfl, ?_⟩
    refine ⟨_, rfl, p, _, rfl, hs3, by decide, by decide, fun r2 H4 e4 hs4 r20 r21 => ?_⟩
    refine ⟨_, _, rfl, rfl, by show 2 ≤ sizeLine; decide, fun t ht => ?_⟩
    obtain ⟨sh, hsh, s1, s2⟩ : ∃ sh : Int, 1 + r1 = sh ∧ 1 ≤ sh ∧ sh ≤ 9 := ⟨_, rfl, by omega, by omega⟩
    obtain ⟨m, hm, t1, t2⟩ : ∃ m : Nat, 1 + r2 = (m : Int) ∧ 0 < m ∧ m ≤ 12 := ⟨(1 + r2).toNat, by omega, by omega, by omega⟩
    dsimp only
    rw [hsh, hm]
    have e24 : DE p H2 (upd H4 t (.tup [.int sh, .int (m : Int)])) := (e3.trans e4).trans (DE.of (Ext.upd ht))
    have hs5 := hs4.ext (Ext.upd (o := HO.tup [.int sh, .int (m : Int)]) ht)
    refine ⟨t, _, rfl, SqT.of upd_same, rfl, _, _, rfl, _, _, rfl, rfl, ?_⟩
    generalize upd H4 t (.tup [.int sh, .int (m : Int)]) = H5 at e24 hs5 ⊢
    have hna5 : H5 D = some (.lst (ms.map V.int)) := e24.to hna2 hDp
    have e05 := e2.trans e24
    have hT5 : Tabs TS H5 := by
      obtain ⟨za, zb, zc, hz, _⟩ := id hs
      exact tabs_de hT hz e05
    clear e3 e4 hs3 hs4 ht e24 hna2 hs2 hT2 e2 hsh hm
    -- handed
    refine ⟨_, rfl, D, rfl, lc_ints (fun n => n * (m : Int)) (SqL.of hna5) (by omega) (fun n hn H' R hR => ⟨rfl, _, rfl, _, rfl, _, _, rfl, rfl, .inr ⟨by have := hb n hn; omega, by omega⟩, hR⟩) (fun h H6 hh e6 hh6 => ?_)⟩
    have hhp : h ≠ p := hs5.ne hh
    have hDh : D ≠ h := ne_of_none hna5 hh
    have h0h : del H p h = none := DE.fresh e05 hs5.well hh
    have hs6 := hs5.ext e6
    have hna6 := e6 _ _ hna5
    -- found
    have pos2 : 1 ≤ sh * (m : Int) := Int.mul_pos (by omega) (by omega)
    have big2 : sh * (m : Int) ≤ 9 * 12 := Int.mul_le_mul s2 (by omega) (by omega) (by decide)
    refine ⟨_, rfl, _, rfl, _, rfl, _, _, rfl, rfl, .inr ⟨by omega, by omega⟩, fun x dx hx hdx hne => ?_⟩
    refine ⟨H6, x, dx, h, _, _, rfl, hx, hdx, hne, rfl, .inl (SqL.of hh6), by rw [List.length_map]; omega, shareBig pos2 (by omega), fun z => by omega, fun _ H7 e67 i7 => ⟨rfl, ?_⟩⟩
    rw [(norm_mul t1 (by omega)).1, (norm_mul t1 (by omega)).2] at i7
    have hh7 := e67 _ _ hh6
    -- handed.append(3)
    refine ⟨_, rfl, .inl ⟨rfl, _, SqL.of hh7⟩, h, _, _, rfl, rfl, hh7, by rw [List.length_map, List.length_map]; exact Nat.lt_of_le_of_lt hlen4 (by decide), ?_⟩
    have i9 := pl_mut (o := .lst ((ms.map fun n => n * (m : Int)).map V.int ++ [.int 3])) i7 hh7
    have e09 : DE p H (upd H7 h (.lst ((ms.map fun n => n * (m : Int)).map V.int ++ [.int 3]))) := DE.mut ((e05.trans (DE.of e6)).trans (DE.of e67)) h0h
    have hs9 := (hs6.ext e67).upd (D := h) (o := .lst ((ms.map fun n => n * (m : Int)).map V.int ++ [.int 3])) hhp
    have hna9 : (upd H7 h (.lst ((ms.map fun n => n * (m : Int)).map V.int ++ [.int 3]))) D = some (.lst (ms.map V.int)) := by
      rw [upd_ne hDh]
      exact e67 _ _ hna6
    generalize upd H7 h (.lst ((ms.map fun n => n * (m : Int)).map V.int ++ [.int 3])) = H9 at i9 e09 hs9 hna9 ⊢
    have hT9 : Tabs TS H9 := by
      obtain ⟨za, zb, zc, hz, _⟩ := id hs
      exact tabs_de hT hz e09
    clear i7 hh7 e67 hs6 hna6 hx hdx hne pos2 big2 e6 hh6 hh hs5 hna5 e05 hT5 h0h hhp
    -- common
    have hq2 : (sh.natAbs : Int) = sh := by omega
    let good : Nat → Prop := fun d => d ∣ sh.natAbs ∧ ∀ x ∈ ms, d ∣ x.natAbs
    refine ⟨2, 10, rfl, ⟨by decide, by decide, by decide, by decide⟩, ?_⟩
    rw [show ((10 : Int) - 2).toNat = 8 by decide]
    refine for_range (lo := 2) (n := 8) (fun i σ H' => Ext H9 H' ∧ ∃ (c : Nat) (v7 v11 : Option V), σ = [some (.ref p), some (.ref D), some (.int sh), some (.int (m : Int)), some (.ref h), some (.ref x), some (.int (c : Int)), v7, none, none, none, v11] ∧ 1 ≤ c ∧ c ≤ 9 ∧ good c ∧ ∀ d, 1 ≤ d → d ≤ i + 1 → good d → d ≤ c)
      ⟨Ext.rfl', 1, _, _, rfl, Nat.le_refl _, by omega, ⟨Nat.one_dvd _, fun x _ => Nat.one_dvd _⟩, fun d h1 h2 _ => h2⟩ ?_ ?_
    · rintro i σ H1 hi ⟨e1, c, v7, v11, rfl, c1, c2, cg, cm⟩
      refine ⟨_, rfl, _, rfl, by show 1 ≤ sizeLine; decide, fun A2 hA2 => ?_⟩
      refine ⟨D, A2, _, _, rfl, rfl, SqL.of (Ext.upd hA2 _ _ (e1 _ _ hna9)), SqL.of upd_same, ?_, fun A3 hA3 => ?_⟩
      · rw [List.length_map]
        exact Nat.le_trans (show ms.length + 1 ≤ 200 by omega) (by decide)
      rw [show ms.map V.int ++ [V.int sh] = (ms ++ [sh]).map V.int by rw [List.map_append]; rfl]
      have e2 : Ext H1 (upd (upd H1 A2 (.lst [.int sh])) A3 (.lst ((ms ++ [sh]).map V.int))) := (Ext.upd hA2).trans (Ext.upd hA3)
      have hA4 : (upd (upd H1 A2 (.lst [.int sh])) A3 (.lst ((ms ++ [sh]).map V.int))) A3 = some (.lst ((ms ++ [sh]).map V.int)) := upd_same
      generalize upd (upd H1 A2 (.lst [.int sh])) A3 (.lst ((ms ++ [sh]).map V.int)) = H2 at e2 hA4 ⊢
      refine ⟨A3, rfl, lc_filter (fun n => !decide (V.int (n.fmod (2 + (i : Int))) = V.int 0)) (SqL.of hA4) (by rw [List.length_append]; show ms.length + 1 < 2000; omega) (fun n _ H' R N hR => ⟨rfl, _, rfl, _, rfl, _, _, rfl, rfl, (show (2 + (i : Int)) ≠ 0 by omega), rfl, _, rfl, ?_⟩) (fun D' H3 hD e3 hD3 => ?_)⟩
      · by_cases hp : (!decide (V.int (n.fmod (2 + (i : Int))) = V.int 0)) = true
        · rw [if_pos hp] at hR ⊢
          exact ⟨_, rfl, hR⟩
        · rw [if_neg hp] at hR ⊢
          exact hR
      · refine ⟨by show 0 ≤ sizeLine; decide, fun z hz => ?_⟩
        refine ⟨.lst (((ms ++ [sh]).filter fun n => !decide (V.int (n.fmod (2 + (i : Int))) = V.int 0)).map Dt.int), .lst [], is_lst (Ext.upd hz _ _ hD3) (isL_ints _), is_lst upd_same rfl, okL_pure (pureL_ints _), trivial, by show depL _ + 1 ≤ 8; rw [depL_ints]; decide, fun H4 e4 => ?_⟩
        have e04 : Ext H9 H4 := e1.trans (e2.trans (e3.trans ((Ext.upd hz).trans e4)))
        have hg : good (2 + i) ↔ ((ms ++ [sh]).filter fun n => !decide (V.int (n.fmod (2 + (i : Int))) = V.int 0)) = [] := by
          rw [List.filter_eq_nil_iff]
          have key : ∀ n : Int, (¬ (!decide (V.int (n.fmod (2 + (i : Int))) = V.int 0)) = true) ↔ (2 + i) ∣ n.natAbs := fun n => by
            rw [Bool.not_eq_true', decide_eq_false_iff_not, Classical.not_not]
            rw [show V.int (n.fmod (2 + (i : Int))) = V.int 0 ↔ n.fmod (2 + (i : Int)) = 0 from ⟨V.int.inj, fun h => by rw [h]⟩, Int.fmod_eq_emod_of_nonneg _ (by omega), ← Int.dvd_iff_emod_eq_zero, show (2 + (i : Int)) = ((2 + i : Nat) : Int) by omega, Int.ofNat_dvd_left]
          constructor
          · rintro ⟨h1, h2⟩ n hn
            rw [key]
            rcases List.mem_append.mp hn with h | h
            · exact h2 n h
            · rw [List.mem_singleton.mp h]; exact h1
          · intro h
            exact ⟨(key sh).mp (h sh (List.mem_append_right _ (List.mem_singleton.mpr rfl))), fun x hx => (key x).mp (h x (List.mem_append_left _ hx))⟩
        have hdeq : deq (.lst (((ms ++ [sh]).filter fun n => !decide (V.int (n.fmod (2 + (i : Int))) = V.int 0)).map Dt.int)) (.lst []) = decide (((ms ++ [sh]).filter fun n => !decide (V.int (n.fmod (2 + (i : Int))) = V.int 0)) = []) := by
          rw [show deq (.lst (((ms ++ [sh]).filter fun n => !decide (V.int (n.fmod (2 + (i : Int))) = V.int 0)).map Dt.int)) (.lst []) = deqL (((ms ++ [sh]).filter fun n => !decide (V.int (n.fmod (2 + (i : Int))) = V.int 0)).map Dt.int) (([] : List Int).map Dt.int) from rfl, deqL_ints]
        rw [hdeq]
        refine ⟨_, rfl, ite2 (fun cc => ?_) (fun cc => ?_)⟩
        · have g2 : good (2 + i) := hg.mpr (of_decide_eq_true cc)
          refine ⟨_, rfl, e04, 2 + i, some (.int (2 + (i : Int))), v11, ?_, by omega, by omega, g2, fun d d1 d2 dg => by omega⟩
          rw [show ((2 + i : Nat) : Int) = 2 + (i : Int) by omega]
          rfl
        · refine ⟨e04, c, some (.int (2 + (i : Int))), v11, rfl, c1, c2, cg, fun d d1 d2 dg => ?_⟩
          by_cases hd : d ≤ i + 1
          · exact cm d d1 hd dg
          · obtain rfl : d = 2 + i := by omega
            exact absurd (decide_eq_true (hg.mp dg)) cc
    rintro σ H10 ⟨e910, c, v7, v11, rfl, c1, c2, cg, cm⟩
    have hc : c = gcdL sh.natAbs ms := by
      have g1 : gcdL sh.natAbs ms ≤ c := cm _ (gcdL_pos ms (by omega)) (by have := gcdL_le ms (show 0 < sh.natAbs by omega); omega) ⟨gcdL_dvd_start _ _, fun x hx => gcdL_dvd hx⟩
      have g2 : c ∣ gcdL sh.natAbs ms := dvd_gcdL cg.1 cg.2
      exact Nat.le_antisymm (Nat.le_of_dvd (gcdL_pos ms (by omega)) g2) g1
    subst hc
    have hgb' : (((gcdL sh.natAbs ms : Nat) : Int)).natAbs < 2 ^ 8000 := Nat.lt_of_le_of_lt (show (((gcdL sh.natAbs ms : Nat) : Int)).natAbs ≤ 100 by omega) (Nat.lt_of_lt_of_le (show 100 < 2 ^ 7 by decide) (Nat.pow_le_pow_right (by decide) (by decide)))
    clear cm cg
    -- due
    refine ⟨_, rfl, D, rfl, lc_ints (fun n => n / ((gcdL sh.natAbs ms : Nat) : Int)) (SqL.of (e910 _ _ hna9)) (by omega) (fun n _ H' R hR => ⟨rfl, _, rfl, _, rfl, _, _, rfl, rfl, wide_div (b := 8000) (by omega) hgb' (by decide) (by decide), hR⟩) (fun D2 H11 hD2 e11 hD11 => ?_)⟩
    rw [show (ms.map fun n => n / ((gcdL sh.natAbs ms : Nat) : Int)) = normN ms sh from rfl] at hD11
    refine ⟨D2, _, rfl, .inl ⟨SqL.of hD11, fun t ht => ?_⟩⟩
    refine ⟨_, rfl, _, rfl, _, _, rfl, rfl, wide_div (b := 8000) (by omega) hgb' (by decide) (by decide), by show 2 ≤ sizeLine; decide, fun u hu => ?_⟩
    dsimp only
    rw [show sh / ((gcdL sh.natAbs ms : Nat) : Int) = normP ms sh from rfl]
    have e9d : Ext H9 (upd (upd H11 t (.tup ((normN ms sh).map V.int))) u (.tup [.ref t, .int (normP ms sh)])) := (e910.trans e11).trans ((Ext.upd ht).trans (Ext.upd hu))
    have i13 := i9.ext e9d
    have h13 : Is K (upd (upd H11 t (.tup ((normN ms sh).map V.int))) u (.tup [.ref t, .int (normP ms sh)])) (.tup [.tup ((normN ms sh).map Dt.int), .int (normP ms sh)]) (.ref u) := due_is (Ext.upd hu _ _ upd_same) upd_same
    generalize upd (upd H11 t (.tup ((normN ms sh).map V.int))) u (.tup [.ref t, .int (normP ms sh)]) = H13 at i13 h13 e9d ⊢
    clear hu ht hD11 e11 e910 hD2
    -- (found.numbers, found.parts) != due
    have i13' := i13
    obtain ⟨x', fdx, kvs, ex, hfa, ek, hfl⟩ := i13'
    cases ex
    obtain ⟨ft, rfl, hft⟩ := two_fields (C := T.C_Places) (dx := fdx) (a := x) ek hfl
    refine ⟨_, rfl, x, T.C_Places, fdx, _, _, rfl, hfa, T.c_Places, T.nf_Places_numbers, rfl, ?_⟩
    refine ⟨_, rfl, x, T.C_Places, fdx, _, _, rfl, hfa, T.c_Places, T.nf_Places_parts, rfl, by show 2 ≤ sizeLine; decide, fun z hz => ?_⟩
    refine ⟨_, rfl, .tup [.tup ((normN ms sh).map Dt.int), .int (normP ms sh)], .tup [.tup ((normN ms sh).map Dt.int), .int (normP ms sh)], ⟨z, _, rfl, SqT.of upd_same, _, _, rfl, ⟨ft, _, rfl, hft.ext (Ext.upd hz), isL_ints _⟩, _, _, rfl, rfl, rfl⟩,
      h13.ext (Ext.upd hz), due_ok, due_ok, due_dep, .inl rfl, fun H14 e14' => ?_⟩
    have e14 : Ext H13 H14 := (Ext.upd hz).trans e14'
    refine ⟨false, by rw [due_deq]; rfl, iteF ?_⟩
    have hf14 := e14 _ _ hfa
    refine ⟨_, rfl, x, T.C_Places, fdx, _, _, rfl, hf14, T.c_Places, T.nf_Places_numbers, rfl, .ref ft, .ty "tuple", .type "tuple", .type "tuple", true, rfl, ClsV.ty _, tyX_tup (hft.ext e14), kit_ty (by decide +kernel), _, rfl, ?_⟩
    refine iteF ?_
    have e914 := e9d.trans e14
    have i14 := i13.ext e14
    have h14 := h13.ext e14
    have hna14 := e914 _ _ hna9
    clear hf14 hfl ek hfa hft hz e14' e14 h13 i13 e9d
    -- other
    have e014 : DE p H H14 := e09.trans (DE.of e914)
    have hs14 := hs9.ext e914
    obtain ⟨ks, hks, hkl, hkb⟩ := cut_ints ms none (some (-1))
    refine ⟨_, rfl, _, rfl, _, rfl, D, _, rfl, SqL.of hna14, fun q1 h1 => ?_⟩
    refine ⟨_, rfl, by show 1 ≤ sizeLine; decide, fun q2 h2 => ?_⟩
    refine ⟨q1, q2, _, _, rfl, rfl, SqL.of (Ext.upd h2 _ _ upd_same), SqL.of upd_same, ?_, fun q3 h3 => ?_⟩
    · rw [hks, List.length_map]
      exact Nat.le_trans (show ks.length + 1 ≤ 100 by omega) (by decide)
    have e15 : Ext H14 (upd (upd (upd H14 q1 (.lst (cutV (ms.map V.int) none (some (-1))))) q2 (.lst [.int sh])) q3 (.lst (cutV (ms.map V.int) none (some (-1)) ++ [.int sh]))) := ((Ext.upd h1).trans (Ext.upd h2)).trans (Ext.upd h3)
    have hq3 : (upd (upd (upd H14 q1 (.lst (cutV (ms.map V.int) none (some (-1))))) q2 (.lst [.int sh])) q3 (.lst (cutV (ms.map V.int) none (some (-1)) ++ [.int sh]))) q3 = some (.lst ((ks ++ [sh]).map V.int)) := by rw [upd_same, hks, List.map_append]; rfl
    generalize upd (upd (upd H14 q1 (.lst (cutV (ms.map V.int) none (some (-1))))) q2 (.lst [.int sh])) q3 (.lst (cutV (ms.map V.int) none (some (-1)) ++ [.int sh])) = H15 at e15 hq3 ⊢
    clear h1 h2 h3 hks
    refine ⟨_, rfl, fun y dy hy hdy hney => ?_⟩
    refine ⟨H15, y, dy, q3, ks ++ [sh], sh, rfl, hy, hdy, hney, rfl, .inl (SqL.of hq3), by rw [List.length_append]; show ks.length + 1 ≤ 1000; omega, shareBig s1 (by omega), fun z => by omega, fun _ H16 e16 j16 => ⟨rfl, ?_⟩⟩
    -- (found == other) != (due == ..)
    refine ⟨_, rfl, _, rfl, _, _, i14.ext (e15.trans e16), j16, shp_pl _ _ _, shp_pl _ _ _, pl_dep, fun H17 e17 => ?_⟩
    have j17 := j16.ext e17
    have e1417 := (e15.trans e16).trans e17
    have j17' := j17
    obtain ⟨y', fdy, kvy, ey, hfy, eky, hfly⟩ := j17'
    cases ey
    obtain ⟨fy, rfl, hfty⟩ := two_fields (C := T.C_Places) (dx := fdy) (a := y) eky hfly
    refine ⟨_, rfl, _, rfl, y, T.C_Places, fdy, _, _, rfl, hfy, T.c_Places, T.nf_Places_numbers, rfl, ?_⟩
    refine ⟨_, rfl, y, T.C_Places, fdy, _, _, rfl, hfy, T.c_Places, T.nf_Places_parts, rfl, by show 2 ≤ sizeLine; decide, fun z hz => ?_⟩
    refine ⟨.tup [.tup ((normN ms sh).map Dt.int), .int (normP ms sh)], .tup [.tup ((normN (ks ++ [sh]) sh).map Dt.int), .int (normP (ks ++ [sh]) sh)], (h14.ext e1417).ext (Ext.upd hz), ⟨z, _, rfl, SqT.of upd_same, _, _, rfl, ⟨fy, _, rfl, hfty.ext (Ext.upd hz), isL_ints _⟩, _, _, rfl, rfl, rfl⟩, due_ok, due_ok, due_dep, fun H18 e18' => ?_⟩
    have e1418 := e1417.trans ((Ext.upd hz).trans e18')
    refine ⟨rfl, false, ?_, iteF ?_⟩
    · rw [pl_deq, due_deq2]
      simp
    have i18 := i14.ext e1418
    have hna18 := e1418 _ _ hna14
    have hs18 := hs14.ext e1418
    have e018 := e014.trans (DE.of e1418)
    clear e1418 e18' hz hfty hfly eky hfy j17 e1417 e17 j16 e16 hy hdy hney hq3 e15 i14 h14 hna14 hs14 e014
    -- found != Places(tuple(numbers), share)
    refine ⟨_, rfl, _, rfl, D, _, rfl, .inl ⟨SqL.of hna18, fun t2 ht2 => ?_⟩⟩
    refine ⟨_, rfl, fun x2 dx2 hx2 hdx2 hne2 => ?_⟩
    refine ⟨_, x2, dx2, t2, ms, sh, rfl, hx2, hdx2, hne2, rfl, .inr (SqT.of upd_same), by omega, shareBig s1 (by omega), fun z => by omega, fun _ H19 e19 i19 => ⟨rfl, ?_⟩⟩
    refine ⟨_, _, i18.ext ((Ext.upd ht2).trans e19), i19, shp_pl _ _ _, shp_pl _ _ _, pl_dep, .inl rfl, fun H20 e20 => ?_⟩
    refine ⟨false, by rw [pl_deq]; simp, iteF ?_⟩
    have e1820 : Ext H18 H20 := ((Ext.upd ht2).trans e19).trans e20
    have hna20 := e1820 _ _ hna18
    have hs20 := hs18.ext e1820
    have e020 := e018.trans (DE.of e1820)
    clear e1820 e20 i19 e19 hx2 hdx2 hne2 ht2 hna18 hs18 e018 i18
    -- low
    refine ⟨_, rfl, p, _, rfl, hs20, by decide, by decide, fun r3 H21 e21 hs21 r30 r31 => ?_⟩
    refine ⟨_, _, rfl, rfl, ?_⟩
    have hna21 := e21.to hna20 hDp
    have e021 := e020.trans e21
    have hT21 : Tabs TS H21 := by
      obtain ⟨za, zb, zc, hz, _⟩ := id hs
      exact tabs_de hT hz e021
    -- the refusal
    refine ⟨hT21, fun H22 e22 hT22 => ?_⟩
    have hna22 := e22 _ _ hna21 (fun _ z => by cases z)
    have hs22 := hs21.extN e22
    have e022 : DN p H H22 := (DN.de e021).trans (DN.ofN e22)
    refine ⟨_, rfl, _, rfl, fun x3 dx3 hx3 hdx3 hne3 => ?_⟩
    refine ⟨H22, x3, dx3, D, ms, 0 - r3, rfl, hx3, hdx3, hne3, rfl, .inl (SqL.of hna22), by omega, Nat.lt_of_lt_of_le (show (0 - r3).natAbs < 2 ^ 60 from Nat.lt_of_le_of_lt (show (0 - r3).natAbs ≤ 10 by omega) (by decide)) (Nat.pow_le_pow_right (by decide) (by decide)), fun _ d H23 e23 hd hd1 => Or.inl ⟨rfl, d, 0 - r3, "parts", rfl, hd1, fun v H24 e24 iv => ?_⟩, fun z => by omega⟩
    refine ⟨_, rfl, by show 3 ≤ sizeLine; decide, fun z hz => ?_⟩
    refine ⟨_, _, iv.ext (Ext.upd hz), (show Is K _ (.tup [.str "badcount", .str "parts", .int (0 - r3)]) (.ref z) from ⟨z, _, rfl, SqT.of upd_same, _, _, rfl, rfl, _, _, rfl, rfl, _, _, rfl, rfl, rfl⟩), ⟨trivial, trivial, trivial, trivial⟩, ⟨trivial, trivial, trivial, trivial⟩, by show 1 ≤ 8; decide, fun H25 e25 => ?_⟩
    have e2225 := (e23.trans e24).trans ((Ext.upd hz).trans e25)
    rw [show deq (.tup [.str "badcount", .str "parts", .int (0 - r3)]) (.tup [.str "badcount", .str "parts", .int (0 - r3)]) = true by
      show (("badcount" : Str) == ("badcount" : Str) && (("parts" : Str) == ("parts" : Str) && ((0 - r3) == (0 - r3) && true))) = true
      simp]
    exact k H25 (e022.trans (DN.of e2225)) (hs22.ext e2225) (hT22.ext e2225)
end
end K23
namespace K23
open PySem L2
theorem norm_back {q : Int} {ns : List Int} (hq : 0 < q) : (∀ x ∈ ns, x = x / ((gcdL q.natAbs ns : Nat) : Int) * ((gcdL q.natAbs ns : Nat) : Int)) ∧ q = normP ns q * ((gcdL q.natAbs ns : Nat) : Int) ∧ 0 < gcdL q.natAbs ns :=
  ⟨fun x hx => (Int.ediv_mul_cancel (Int.ofNat_dvd_left.mpr (gcdL_dvd hx))).symm, (Int.ediv_mul_cancel (Int.ofNat_dvd_left.mpr (gcdL_dvd_start _ _))).symm, gcdL_pos ns (by omega)⟩
theorem le_norm {g a q p x y : Int} (hg : 0 < g) (hq : q = p * g) (hx : x = y * g) : a * p ≤ y ↔ a * q ≤ x := by
  rw [hq, hx, ← Int.mul_assoc]
  exact (Int.mul_le_mul_right hg).symm
theorem norm_le {g a q p x y : Int} (hg : 0 < g) (hq : q = p * g) (hx : x = y * g) : y ≤ a * p ↔ x ≤ a * q := by
  rw [hq, hx, ← Int.mul_assoc]
  exact (Int.mul_le_mul_right hg).symm
theorem zero_le_norm {g x y : Int} (hg : 0 < g) (hx : x = y * g) : 0 ≤ y ↔ 0 ≤ x := by
  rw [hx]
  constructor
  · intro h
    exact Int.mul_nonneg h (by omega)
  · intro h
    exact Classical.byContradiction fun z => by
      have := Int.mul_neg_of_neg_of_pos (show y < 0 by omega) hg
      omega
theorem ckPlF_norm {q : Int} {ns : List Int} (hq : 0 < q) : ∀ (bs : List BarD) (ms : List Int) (k : Nat), (∀ x ∈ ms, x ∈ ns) → ckPlF (normP ns q) k bs (ms.map fun n => n / ((gcdL q.natAbs ns : Nat) : Int)) = ckPlF q k bs ms
  | [], _, _, _ => by unfold ckPlF; rfl
  | _ :: _, [], _, _ => by unfold ckPlF; rfl
  | b :: bs, x :: ms, k, h => by
    obtain ⟨h1, h2, h3⟩ := norm_back (ns := ns) hq
    have hx := h1 x (h x List.mem_cons_self)
    have e : offPl (normP ns q) b (x / ((gcdL q.natAbs ns : Nat) : Int)) = offPl q b x := by
      unfold offPl
      rw [decide_eq_decide.mpr (zero_le_norm (g := ((gcdL q.natAbs ns : Nat) : Int)) (by omega) hx), decide_eq_decide.mpr (norm_le (a := b.len) (g := ((gcdL q.natAbs ns : Nat) : Int)) (by omega) h2 hx)]
    rw [List.map_cons]
    unfold ckPlF
    rw [e, ckPlF_norm hq bs ms (k + 1) fun y hy => h y (List.mem_cons_of_mem _ hy)]
theorem ckPl_norm {q : Int} {ns : List Int} {bs : List BarD} (hq : 0 < q) (hl : ns.length = bs.length) : ckPl (normP ns q) bs (normN ns q) = ckPlF q 0 bs ns := by
  unfold ckPl
  rw [if_neg (by unfold normN; rw [List.length_map]; omega)]
  exact ckPlF_norm hq bs ns 0 fun _ h => h
theorem within_norm {q : Int} {ns : List Int} {bs : List BarD} (hq : 0 < q) : withinB (normP ns q) bs (normN ns q) = ((bs.zip ns).map (inSp q)).all id := by
  unfold withinB normN
  congr 1
  rw [List.zip_map_right, List.map_map]
  refine List.map_congr_left fun z hz => ?_
  obtain ⟨h1, h2, h3⟩ := norm_back (ns := ns) hq
  have hx := h1 z.2 (List.of_mem_zip hz).2
  show inSp (normP ns q) (z.1, z.2 / ((gcdL q.natAbs ns : Nat) : Int)) = inSp q z
  unfold inSp
  rw [decide_eq_decide.mpr (le_norm (a := z.1.lo) (g := ((gcdL q.natAbs ns : Nat) : Int)) (by omega) h2 hx), decide_eq_decide.mpr (norm_le (a := z.1.hi) (g := ((gcdL q.natAbs ns : Nat) : Int)) (by omega) h2 hx)]
theorem offPl_in {q : Int} {b : BarD} {x : Int} (h0 : 0 ≤ x) (h1 : x ≤ b.len * q) : offPl q b x = false := by
  unfold offPl
  rw [decide_eq_true h0, decide_eq_true h1]
  rfl
/-- hooks within their spans, one of them moved -/
theorem InB.off {q : Int} {bs : List BarD} {ns : List Int} {n : Int} (h : InB q bs ns) (hq : 0 ≤ q) (hb : ∀ b ∈ bs, BarOk n b) {j : Nat} {c : BarD} {y : Int} (h1 : bs[j]? = some c) (h2 : ns[j]? = some y) : offPl q c y = false := by
  have z := h.2 j c y h1 h2
  have ok := hb c (List.mem_of_getElem? h1)
  have a1 : 0 ≤ c.lo * q := Int.mul_nonneg ok.o0 hq
  have a2 : c.hi * q ≤ c.len * q := Int.mul_le_mul_of_nonneg_right ok.o2 hq
  exact offPl_in (by omega) (by omega)
theorem ck_in {q : Int} {bs : List BarD} {ns : List Int} {n : Int} (h : InB q bs ns) (hq : 0 ≤ q) (hb : ∀ b ∈ bs, BarOk n b) : ckPlF q 0 bs ns = none := pl_no fun _ _ _ h1 h2 => h.off hq hb h1 h2
theorem all_in {q : Int} {bs : List BarD} {ns : List Int} (h : InB q bs ns) : ((bs.zip ns).map (inSp q)).all id = true := by
  rw [List.all_map, List.all_eq_true]
  intro z hz
  obtain ⟨i, hi⟩ := List.getElem?_of_mem hz
  rw [List.getElem?_zip_eq_some] at hi
  have := h.2 i z.1 z.2 hi.1 hi.2
  show inSp q z = true
  unfold inSp
  rw [if_pos (decide_eq_true this.1)]
  exact decide_eq_true this.2
theorem get_set {ns : List Int} {i j : Nat} {x y : Int} (h : (ns.set i x)[j]? = some y) : (j = i ∧ y = x ∧ i < ns.length) ∨ (j ≠ i ∧ ns[j]? = some y) := by
  rw [List.getElem?_set] at h
  by_cases e : i = j
  · rw [if_pos e] at h
    by_cases hl : i < ns.length
    · rw [if_pos hl] at h
      exact .inl ⟨e.symm, (Option.some.inj h).symm, hl⟩
    · rw [if_neg hl] at h
      cases h
  · rw [if_neg e] at h
    exact .inr ⟨fun z => e z.symm, h⟩
theorem ck_set {q : Int} {bs : List BarD} {ns : List Int} {n : Int} {i : Nat} {b : BarD} {x : Int} (h : InB q bs ns) (hq : 0 ≤ q) (hb : ∀ b ∈ bs, BarOk n b) (hbi : bs[i]? = some b) (h0 : 0 ≤ x) (h1 : x ≤ b.len * q) : ckPlF q 0 bs (ns.set i x) = none :=
  pl_no fun j c y e1 e2 => by
    rcases get_set e2 with ⟨rfl, rfl, _⟩ | ⟨_, z⟩
    · rw [hbi] at e1
      cases e1
      exact offPl_in h0 h1
    · exact h.off hq hb e1 z
theorem ck_bad {q : Int} {bs : List BarD} {ns : List Int} {n : Int} {i : Nat} {b : BarD} {x : Int} (h : InB q bs ns) (hq : 0 ≤ q) (hb : ∀ b ∈ bs, BarOk n b) (hbi : bs[i]? = some b) (h1 : b.len * q < x) : ckPlF q 0 bs (ns.set i x) = some (.place (i : Nat)) := by
  have hi : i < ns.length := by rw [h.1]; exact (List.getElem?_eq_some_iff.mp hbi).1
  have z := pl_at (q := q) (k := 0) (fun j c y hj e1 e2 => by
    rcases get_set e2 with ⟨rfl, _, _⟩ | ⟨_, z⟩
    · omega
    · exact h.off hq hb e1 z) hbi (show (ns.set i x)[i]? = some x by rw [List.getElem?_set, if_pos rfl, if_pos hi]) (by
      unfold offPl
      rw [decide_eq_false (show ¬ x ≤ b.len * q by omega), Bool.and_false]
      rfl)
  rw [z, Nat.zero_add]
theorem in_set {q : Int} {bs : List BarD} {ns : List Int} {i : Nat} {b : BarD} {x : Int} (h : InB q bs ns) (hbi : bs[i]? = some b) : ((bs.zip (ns.set i x)).map (inSp q)).all id = inSp q (b, x) := by
  have hi : i < ns.length := by rw [h.1]; exact (List.getElem?_eq_some_iff.mp hbi).1
  rw [Bool.eq_iff_iff, List.all_map, List.all_eq_true]
  constructor
  · intro z
    refine z (b, x) (List.mem_of_getElem? (i := i) ?_)
    rw [List.getElem?_zip_eq_some]
    exact ⟨hbi, by rw [List.getElem?_set, if_pos rfl, if_pos hi]⟩
  · intro z y hy
    obtain ⟨j, hj⟩ := List.getElem?_of_mem hy
    rw [List.getElem?_zip_eq_some] at hj
    rcases get_set hj.2 with ⟨e, e2, _⟩ | ⟨_, e⟩
    · rw [e, hbi] at hj
      have hyb : y = (b, x) := Prod.ext (Option.some.inj hj.1).symm e2
      rw [hyb]
      exact z
    · have := h.2 j y.1 y.2 hj.1 e
      show inSp q y = true
      unfold inSp
      rw [if_pos (decide_eq_true this.1)]
      exact decide_eq_true this.2
theorem endsI_head (b : BarD) : ∃ r, endsI b = b.lo :: r := by
  unfold endsI
  split
  · exact ⟨[], rfl⟩
  · exact ⟨[b.hi], rfl⟩
theorem spread_head : ∀ (css : List (List Int)) (acc : List (List Int)) (row : List Int) (hs : List Int), acc[0]? = some row → (css.map (·.head?)) = hs.map some → (css.foldl nextR acc)[0]? = some (row ++ hs)
  | [], acc, row, hs, h, e => by
    cases hs with
    | nil => rw [List.append_nil]; exact h
    | cons _ _ => cases e
  | es :: css, acc, row, hs, h, e => by
    cases hs with
    | nil => cases e
    | cons x hs =>
      rw [List.map_cons, List.map_cons] at e
      have e1 := (List.cons.inj e).1
      have e2 := (List.cons.inj e).2
      cases acc with
      | nil => cases h
      | cons r0 acc =>
        cases es with
        | nil => cases e1
        | cons y es =>
          have hy : y = x := Option.some.inj e1
          have hr : r0 = row := Option.some.inj h
          subst hy
          subst hr
          have z := spread_head css (nextR (r0 :: acc) (y :: es)) (r0 ++ [y]) hs rfl e2
          rw [List.append_assoc] at z
          exact z
theorem corner_head (bs : List BarD) : (cornersB bs)[0]? = some (bs.map (·.lo)) := by
  have z := spread_head (bs.map endsI) [[]] [] (bs.map (·.lo)) rfl (by
    rw [List.map_map, List.map_map]
    refine List.map_congr_left fun b _ => ?_
    obtain ⟨r, e⟩ := endsI_head b
    show (endsI b).head? = some b.lo
    rw [e]
    rfl)
  exact z
def pairD (row : List Int) : Dt := .tup [.tup (row.map Dt.int), .int 1]
theorem pairs_pure : ∀ rs : List (List Int), pureL (rs.map pairD) = true
  | [] => rfl
  | r :: rs => by
    show (pureL [.tup (r.map Dt.int), .int 1] && pureL (rs.map pairD)) = true
    rw [pairs_pure rs, Bool.and_true]
    show (pureL (r.map Dt.int) && true) = true
    rw [pureL_ints]
    rfl
theorem pairs_dep : ∀ rs : List (List Int), depL (rs.map pairD) ≤ 2
  | [] => Nat.zero_le _
  | r :: rs => by
    show max (max (depL (r.map Dt.int) + 1) (max 0 0) + 1) (depL (rs.map pairD)) ≤ 2
    rw [depL_ints]
    have := pairs_dep rs
    omega
theorem pairs_deq : ∀ rs : List (List Int), deqL (rs.map pairD) (rs.map pairD) = true
  | [] => rfl
  | r :: rs => by
    show ((deqL (r.map Dt.int) (r.map Dt.int) && ((1 : Int) == 1 && true)) && deqL (rs.map pairD) (rs.map pairD)) = true
    rw [pairs_deq rs, deqL_ints]
    simp
end K23
namespace K23
open PySem PySem.Spec PyProof.Rows L2 LamX
section
variable {P : Program} {w : World} {K : PySem.W.Frag} {mg : Str → Option Value} {base : Heap}
def qL : Str := "law.<locals>.<lambda>"
abbrev rTupOf (K : PySem.W.Frag) : List V → Hp → VK → Prop := fun xs H Q => ∃ p ys, xs = [V.ref p] ∧ ((SqL K H p ys ∧ ∀ (l : Addr), H l = none → Q (V.ref l) (upd H l (HO.tup ys))) ∨ SqT K H p ys ∧ Q (V.ref p) H)
def spLaw (K : PySem.W.Frag) (P0 P1 : Addr) : Sp := fun vs H Q _ => ∃ (a : Addr) (ns : List Int), vs = [.ref a] ∧ SqL K H a (ns.map V.int) ∧ ns.length ≤ 63 ∧ H P0 = some (.tbl #[]) ∧ H P1 = some (.tbl #[]) ∧ ∀ H', Q (.bl true) H'
theorem chain_fin {c : Bool} {A : Prop} {G : V → Hp → Prop} {H : Hp} {d : Bool} (hA : G (.bl d) H → A) (h : G (.bl (if c = true then d else false)) H) : if c = true then A else G (.bl false) H := by
  cases c
  · exact h
  · exact hA h
theorem ixN_of {n : Nat} {i : Int} (h0 : 0 ≤ i) (h1 : i < (n : Int)) : ixN n i = some i.toNat := by
  unfold ixN
  rw [if_pos h0, if_pos (by omega)]
theorem ok_law (T : Tx K mg) {c0 P0 c1 P1 : Addr} (TB0 : TabB base mg c0 P0) (TB1 : TabB base mg c1 P1) (hcd0 : T.fd_l_places_right.code = .ref c0) (hcd1 : T.fd_law.code = .ref c1) (hne : P0 ≠ P1) :
    FnOk P w K mg base (L2.CX P w) 60 T.a_law T.fd_law ["_law_script"] (spLaw K P0 P1) := by
  obtain ⟨ocR, odR, kVR, docR, pmR, anR, cdR, ctR, oslR, hfR, lkR, hcR⟩ := T.F_l_refusal.ex
  rw [hfR] at lkR
  have hbR := T.b_l_refusal
  rw [hfR] at hbR
  have hmT0 : (P0, qR) ∈ [(P0, qR), (P1, qL)] := List.mem_cons_self
  have hmT1 : (P1, qL) ∈ [(P0, qR), (P1, qL)] := List.mem_cons_of_mem _ List.mem_cons_self
  have huT0 : ∀ p ∈ [(P0, qR), (P1, qL)], p.1 = P0 → p.2 = qR := fun p hp e => by
    simp only [List.mem_cons, List.not_mem_nil, or_false] at hp
    rcases hp with rfl | rfl
    · rfl
    · exact absurd e.symm hne
  have huT1 : ∀ p ∈ [(P0, qR), (P1, qL)], p.1 = P1 → p.2 = qL := fun p hp e => by
    simp only [List.mem_cons, List.not_mem_nil, or_false] at hp
    rcases hp with rfl | rfl
    · exact absurd e hne
    · rfl
  refine T.F_law.okXc sc_law (fun vs H Q E h => ?_) (fun A outer s H vs Q E hr h => ?_)
  · obtain ⟨a, ns, rfl, _⟩ := h
    rfl
  · obtain ⟨a, ns, rfl, hs, hn, hP0, hP1, k⟩ := h
    refine ⟨_, (pss_cons (ps_for (passes_of rfl) rfl (pi_list (pe_slice sl_list (pe_op op_catL (pv 0) (pe_lst (pa_cons pe_int pa_nil))) po_none (po_some pe_int))) (pg_name (i := 1) sc_law.nd rfl (Or.inl rfl)) (pss_cons (ps_set (i := 2) sc_law.nd rfl (Or.inl rfl) (pe_call (ok_l_state T) (hr.mono (by decide)) rfl T.m_l_state T.F_l_state.kp T.b_l_state .nil passL (pa_cons (pv 1) pa_nil)))
      (pss_cons (ps_if (pt_not (pt_val (pe_call (ok_l_places_right T TB0 hcd0 hmT0 huT0) (hr.mono (by decide)) rfl T.m_l_places_right T.F_l_places_right.kp T.b_l_places_right .nil passL (pa_cons (pv 2) pa_nil)))) (pss_one (ps_ret pe_bl)) pss_nil)
      (pss_cons (ps_set (i := 3) sc_law.nd rfl (Or.inl rfl) (pe_call (ok_l_web T) (hr.mono (by decide)) rfl T.m_l_web T.F_l_web.kp T.b_l_web .nil passL (pa_cons (pv 2) (pa_cons (pe_op op_add pe_int (pe_call (ok_l_digit T) (hr.mono (by decide)) rfl T.m_l_digit T.F_l_digit.kp T.b_l_digit .nil passL (pa_cons (pv 2) (pa_cons pe_int pa_nil)))) (pa_cons pe_int pa_nil)))))
      (pss_cons (ps_set (i := 4) sc_law.nd rfl (Or.inr rfl) (pe_call (ok_l_made T) (hr.mono (by decide)) rfl T.m_l_made T.F_l_made.kp T.b_l_made .nil passL (pa_cons (pv 3) pa_nil)))
      (pss_cons (ps_set (i := 5) sc_law.nd rfl (Or.inl rfl) (pe_call (ok_corners T) (hr.mono (by decide)) rfl T.m_corners T.F_corners.kp T.b_corners .nil passL (pa_cons (pv 4) pa_nil)))
      (pss_cons (ps_if (pt_cmpR (op_neO pureTab pureNe hr (by decide)) (pe_lc (own := [("_law_one", 11)]) (g := gName 11) (tt := tYes) (te := tTup (tCons (tFld K (tVar 11) "numbers") (tCons (tFld K (tVar 11) "parts") tNil))) (by rfl) sc_law.nd (pi_list (pv 5)) (blkOk_by (own := [("_law_one", 11)]) (N := N_law) (sc := defScope s_law) (by decide +kernel)) (fun _ _ _ _ _ => (pg_name (i := 11) sc_law.nd rfl (Or.inl rfl))) (fun _ _ _ _ _ => pts_nil) (fun _ _ _ _ _ => (pe_tup (pa_cons (pe_fld (pv 11) rfl) (pa_cons (pe_fld (pv 11) rfl) pa_nil))))) (pe_lc (own := [("_law_row", 12)]) (g := gName 12) (tt := tYes) (te := tTup (tCons (tCB (rTupOf K) (tCons (tVar 12) tNil)) (tCons (tC (.int 1)) tNil))) (by rfl) sc_law.nd (pi_list (pe_call (ok_l_corners T) (hr.mono (by decide)) rfl T.m_l_corners T.F_l_corners.kp T.b_l_corners .nil passL (pa_cons (pe_ix ix_tup (pv 3) pe_int (fun _ _ => rfl)) pa_nil))) (blkOk_by (own := [("_law_row", 12)]) (N := N_law) (sc := defScope s_law) (by decide +kernel)) (fun _ _ _ _ _ => (pg_name (i := 12) sc_law.nd rfl (Or.inl rfl))) (fun _ _ _ _ _ => pts_nil) (fun _ _ _ _ _ => (pe_tup (pa_cons (pe_callTy call_tuple_of (by rfl) T.z_tuple (by decide +kernel) (pa_cons (pv 12) pa_nil)) (pa_cons pe_int pa_nil))))) (nomark _)) (pss_one (ps_ret pe_bl)) pss_nil)
      (pss_cons (ps_expr (pe_bm0 PySem.F.plainAttrs_list PySem.F.slot_list_reverse PySem.F.type_list_reverse mt_reverse (pv 5)))
      (pss_cons (ps_expr (pe_bm PySem.F.plainAttrs_list PySem.F.slot_list_append PySem.F.type_list_append mt_append (pv 5) (pa_cons pe_non pa_nil)))
      (pss_cons (ps_if (PW.pt (pw_or (pt_cmpR op_ne (pe_callB call_len_seq (by rfl) T.z_len PySem.boot_len (pa_cons (pe_call (ok_corners T) (hr.mono (by decide)) rfl T.m_corners T.F_corners.kp T.b_corners .nil passL (pa_cons (pv 4) pa_nil)) pa_nil)) (pe_op op_sub (pe_callB call_len_seq (by rfl) T.z_len PySem.boot_len (pa_cons (pv 5) pa_nil)) pe_int) (nomark _)) (pw_or1 (pt_cmpR (op_neO pureTab pureNe hr (by decide)) (pe_fld (pe_ix ix_list (pe_call (ok_corners T) (hr.mono (by decide)) rfl T.m_corners T.F_corners.kp T.b_corners .nil passL (pa_cons (pv 4) pa_nil)) pe_int (fun _ _ => rfl)) rfl) (pe_callTy call_tuple_of (by rfl) T.z_tuple (by decide +kernel) (pa_cons (pe_lc (own := [("_law_bar_here", 9)]) (g := gName 9) (tt := tYes) (te := tOp (rIxT K) (tVar 9) (tC (.int 4))) (by rfl) sc_law.nd (pi_list (pe_ix ix_tup (pv 3) pe_int (fun _ _ => rfl))) (blkOk_by (own := [("_law_bar_here", 9)]) (N := N_law) (sc := defScope s_law) (by decide +kernel)) (fun _ _ _ _ _ => (pg_name (i := 9) sc_law.nd rfl (Or.inl rfl))) (fun _ _ _ _ _ => pts_nil) (fun _ _ _ _ _ => (pe_ix ix_tup (pv 9) pe_int (fun _ _ => rfl)))) pa_nil)) (nomark _))))) (pss_one (ps_ret pe_bl)) pss_nil)
      (pss_cons (ps_set (i := 6) sc_law.nd rfl (Or.inr rfl) (pe_op op_add pe_int (pe_call (ok_l_digit T) (hr.mono (by decide)) rfl T.m_l_digit T.F_l_digit.kp T.b_l_digit .nil passL (pa_cons (pv 2) (pa_cons pe_int pa_nil)))))
      (pss_cons (ps_set (i := 7) sc_law.nd rfl (Or.inr rfl) (pe_call (ok_l_within T) (hr.mono (by decide)) rfl T.m_l_within T.F_l_within.kp T.b_l_within .nil passL (pa_cons (pv 2) (pa_cons (pe_ix ix_tup (pv 3) pe_int (fun _ _ => rfl)) (pa_cons (pv 6) pa_nil)))))
      (pss_cons (ps_if (pt_cmpR op_isnot_bl (pe_call (ok_is_within T) (hr.mono (by decide)) rfl T.m_is_within T.F_is_within.kp T.b_is_within .nil passL (pa_cons (pv 4) (pa_cons (pe_make T.k_Places (ok_Places_init T) (hr.mono (by decide)) rfl T.m_Places T.b_Places_init .nil passL (pa_cons (pv 7) (pa_cons (pv 6) pa_nil))) pa_nil))) pe_bl (nomark _)) (pss_one (ps_ret pe_bl)) pss_nil)
      (pss_cons (ps_set (i := 8) sc_law.nd rfl (Or.inl rfl) (pe_call (ok_l_digit T) (hr.mono (by decide)) rfl T.m_l_digit T.F_l_digit.kp T.b_l_digit .nil passL (pa_cons (pv 2) (pa_cons (pe_callB call_len_seq (by rfl) T.z_len PySem.boot_len (pa_cons (pv 7) pa_nil)) pa_nil))))
      (pss_cons (ps_set (i := 9) sc_law.nd rfl (Or.inl rfl) (pe_ix ix_list (pe_ix ix_tup (pv 3) pe_int (fun _ _ => rfl)) (pv 8) (fun _ _ => rfl)))
      (pss_cons (ps_asg (pe_call (ok_l_digit T) (hr.mono (by decide)) rfl T.m_l_digit T.F_l_digit.kp T.b_l_digit .nil passL (pa_cons (pv 2) (pa_cons (pe_op op_add (pe_op op_mul (pe_ix ix_tup (pv 9) pe_int (fun _ _ => rfl)) (pv 6)) pe_int) pa_nil))) (pg_sub (pv 7) (pv 8) set_list))
      (pss_cons (ps_set (i := 10) sc_law.nd rfl (Or.inl rfl) (pe_chain op_le op_le (pe_op op_mul (pe_ix ix_tup (pv 9) pe_int (fun _ _ => rfl)) (pv 6)) (pe_ix ix_list (pv 7) (pv 8) (fun _ _ => rfl)) (pe_op op_mul (pe_ix ix_tup (pv 9) pe_int (fun _ _ => rfl)) (pv 6))))
      (pss_cons (ps_if (pt_cmpR op_ne (pe_call (ok_is_within T) (hr.mono (by decide)) rfl T.m_is_within T.F_is_within.kp T.b_is_within .nil passL (pa_cons (pv 4) (pa_cons (pe_make T.k_Places (ok_Places_init T) (hr.mono (by decide)) rfl T.m_Places T.b_Places_init .nil passL (pa_cons (pv 7) (pa_cons (pv 6) pa_nil))) pa_nil))) (pv 10) (nomark _)) (pss_one (ps_ret pe_bl)) pss_nil)
      (pss_cons (ps_asg (pe_op op_add (pe_op op_mul (pe_ix ix_tup (pv 9) pe_int (fun _ _ => rfl)) (pv 6)) pe_int) (pg_sub (pv 7) (pv 8) set_list))
      (pss_one (ps_if (pt_cmpR (op_neO pureTab pureNe hr (by decide)) (pe_lamcall (T := [(P0, qR), (P1, qL)]) (TT := TTref K T.C_BadCount T.C_BadPlace) (t := fun E => tCall (spWithin K T) [] E (tCons (tVar 4) (tCons (tMake T.C_Places (spPlaces K T.C_Places T.C_BadCount) [] E0 (tCons (tVar 7) (tCons (tVar 6) tNil))) tNil))) (k := 20) rfl T.m_l_refusal T.F_l_refusal.kp lkR hcR hbR sc_l_refusal rfl (Or.inl rfl) (refusal_gives (K := K) (mg := mg) rfl rfl T) TB1 hcd1 hmT1 huT1 (hr.mono (by decide)) (lamS_by (by rfl)) rfl (fun _ _ _ _ _ => rfl) (fun A outer s H E f c hr2 => pe_call (ok_is_within T) (hr2.mono (by decide)) rfl T.m_is_within T.F_is_within.kp T.b_is_within .nil (passes_call (takes_of rfl rfl rfl rfl) (fun _ _ _ _ h => h)) (pa_cons (pv 4) (pa_cons (pe_make T.k_Places (ok_Places_init T) (hr2.mono (by decide)) rfl T.m_Places T.b_Places_init .nil passL (pa_cons (pv 7) (pa_cons (pv 6) pa_nil))) pa_nil)))) (pe_tup (pa_cons pe_str (pa_cons (pv 8) pa_nil))) (nomark _)) (pss_one (ps_ret pe_bl)) pss_nil)))))))))))))))))))))
      (pss_one (ps_ret pe_bl))), ?_⟩
    refine ⟨_, rfl, by show 1 ≤ sizeLine; decide, fun q0 h0 => ?_⟩
    refine ⟨_, _, _, _, rfl, rfl, hs.ext (Ext.upd h0), SqL.of upd_same, by rw [List.length_map]; exact Nat.le_trans (show ns.length + 1 ≤ 100 by omega) (by decide), fun q1 h1 => ?_⟩
    refine ⟨6, rfl, _, _, rfl, SqL.of upd_same, fun q2 h2 => ?_⟩
    have hq2 : (upd (upd (upd H q0 (.lst [.int 0])) q1 (.lst (ns.map V.int ++ [.int 0]))) q2 (.lst (cutV (ns.map V.int ++ [.int 0]) none (some 6)))) q2 = some (.lst (cutV (ns.map V.int ++ [.int 0]) none (some 6))) := upd_same
    have hT0 : Tabs [(P0, qR), (P1, qL)] (upd (upd (upd H q0 (.lst [.int 0])) q1 (.lst (ns.map V.int ++ [.int 0]))) q2 (.lst (cutV (ns.map V.int ++ [.int 0]) none (some 6)))) := by
      refine Tabs.ext (H := H) (fun p hp => ?_) (((Ext.upd h0).trans (Ext.upd h1)).trans (Ext.upd h2))
      simp only [List.mem_cons, List.not_mem_nil, or_false] at hp
      rcases hp with rfl | rfl
      · exact TabS.nil hP0
      · exact TabS.nil hP1
    generalize upd (upd (upd H q0 (.lst [.int 0])) q1 (.lst (ns.map V.int ++ [.int 0]))) q2 (.lst (cutV (ns.map V.int ++ [.int 0]) none (some 6))) = H0 at hq2 hT0 ⊢
    refine ⟨q2, rfl, ⟨_, SqL.of hq2⟩, for_list (K := K) (a := q2) (xs := cutV (ns.map V.int ++ [.int 0]) none (some 6)) (fun i σ H' => H' q2 = some (.lst (cutV (ns.map V.int ++ [.int 0]) none (some 6))) ∧ Tabs [(P0, qR), (P1, qL)] H' ∧ ∃ v1 v2 v3 v4 v5 v6 v7 v8 v9 v10 v11 v12 : Option V, σ = [some (.ref a), v1, v2, v3, v4, v5, v6, v7, v8, v9, v10, v11, v12])
      ⟨hq2, hT0, none, none, none, none, none, none, none, none, none, none, none, none, rfl⟩ (fun i σ H' _ p => SqL.of p.1) ?_ ?_⟩
    · rintro i y σ H1 hi ⟨hq1, hT1, v1, v2, v3, v4, v5, v6, v7, v8, v9, v10, v11, v12, rfl⟩
      obtain ⟨c, rfl⟩ : ∃ c : Int, y = V.int c := by
        rcases List.mem_append.mp (cut_mem hi) with h | h
        · obtain ⟨n, _, rfl⟩ := List.mem_map.mp h
          exact ⟨n, rfl⟩
        · exact ⟨0, List.mem_singleton.mp h⟩
      clear hi
      refine ⟨_, rfl, c, rfl, fun p H2 hp e2 hs2 => ?_⟩
      have hqp : q2 ≠ p := fun z => by rw [← z, hq1] at hp; cases hp
      have hT2 : Tabs _ H2 := hT1.ext e2
      have hq2' := e2 _ _ hq1
      -- places_right
      refine ⟨_, rfl, p, rfl, hs2, hT2, fun H3 e3 hs3 hT3 => ⟨_, rfl, iteF ?_⟩⟩
      have hq3 := e3.lst hq2' hqp
      -- the web
      refine ⟨_, rfl, _, rfl, p, _, rfl, hs3, by decide, by decide, fun r1 H4 e4 hs4 r10 r11 => ?_⟩
      refine ⟨_, _, rfl, rfl, ?_⟩
      refine ⟨p, (1 + r1).toNat, 9, by rw [show (((1 + r1).toNat : Nat) : Int) = 1 + r1 by omega]; rfl, hs4, by omega, by omega, by decide, by decide, fun v n hl bs H5 e5 hs5 iw ok hbl hlen _ => ?_⟩
      have e35 : DE p H3 H5 := e4.trans e5
      have hq5 := e35.to hq3 hqp
      have hT5 : Tabs [(P0, qR), (P1, qL)] H5 := by
        obtain ⟨za, zb, zc, hz, _⟩ := id hs3
        exact tabs_de hT3 hz e35
      have h8 := ok.b8
      have hbl6 : bs.length ≤ 6 := by omega
      clear e2 hs2 hT2 hq2' e3 hs3 hT3 hq3 e4 hs4 e5 e35 hT1 hq1 hp
      refine ⟨_, rfl, v, (n : Int), hl, bs, rfl, iw.ext del_ext, ok, fun u H6 e6 iu => ?_⟩
      have iw6 := iw.ext (DE.of (w := p) e6)
      have hs6 := hs5.ext e6
      have hq6 := e6 _ _ hq5
      have hT6 : Tabs [(P0, qR), (P1, qL)] H6 := hT5.ext e6
      clear iw hs5 hq5 hT5 e6
      -- told
      refine ⟨_, rfl, u, (n : Int), bs, normH hl, rfl, iu, h8, fun R rs H7 hR e7 hR7 hil hcnt => ?_⟩
      have hRp : R ≠ p := hs6.ne hR
      -- told, and what the law lists
      have hrsl : rs.length = (cornersB bs).length := by rw [isL_len hil, List.length_map]
      refine ⟨_, rfl, R, rfl, ⟨_, SqL.of hR7⟩, fun D hD => lc_list (xs := rs) (fun i H' => Ext H7 H' ∧ ∃ acc, H' D = some (.lst acc) ∧ IsL K (del H' D) (((cornersB bs).take i).map pairD) acc) ⟨Ext.upd hD, [], upd_same, rfl⟩ (fun i H' _ p => (SqL.of hR7).ext p.1) ?_ ?_⟩
      · rintro i y H8 hi ⟨e8, acc, hD8, hacc⟩
        obtain ⟨row, hrow, iy⟩ := isL_at' hil hi
        have hi2 : i < (cornersB bs).length := (List.getElem?_eq_some_iff.mp hrow).1
        obtain ⟨xa, xd, tn, rfl, hxa, htn⟩ := plD_fields ((iy.ext del_ext).ext e8)
        refine ⟨rfl, tyes ?_⟩
        refine ⟨_, rfl, xa, T.C_Places, xd, _, _, rfl, hxa, T.c_Places, T.nf_Places_numbers, rfl, _, rfl, xa, T.C_Places, xd, _, _, rfl, hxa, T.c_Places, T.nf_Places_parts, rfl, by show 2 ≤ sizeLine; decide, fun z hz => ?_⟩
        have hD9 := Ext.upd (o := HO.tup [V.ref tn, V.int 1]) hz _ _ hD8
        have hzD : z ≠ D := fun e => by rw [e, hD8] at hz; cases hz
        refine ⟨acc, hD9, ?_, (e8.trans (Ext.upd hz)).mut hD, _, upd_same, ?_⟩
        · rw [isL_len hacc, List.length_map, List.length_take]
          exact Nat.lt_of_lt_of_le (show min i (cornersB bs).length < 2000 by omega) (by decide)
        · rw [List.take_add_one, hrow, List.map_append]
          refine isL_snoc ((hacc.ext (DE.of (Ext.upd hz))).ext DE.upd) ?_
          refine Is.ext DE.upd (⟨z, _, rfl, SqT.delL (SqT.of upd_same) hD9, _, _, rfl, ⟨tn, _, rfl, SqT.delL (htn.ext (Ext.upd hz)) hD9, isL_ints _⟩, _, _, rfl, rfl, rfl⟩ : Is K (del (upd H8 z (.tup [V.ref tn, V.int 1])) D) (pairD row) (.ref z))
      rintro H8 ⟨e8, acc1, hD8, hacc1⟩
      rw [hrsl, List.take_length] at hacc1
      obtain ⟨t, hd, bl, ws, rfl, ht6, hhd6, hbl6', hbs6⟩ := wh_of iw6
      have e68 : Ext H6 H8 := e7.trans e8
      refine ⟨_, rfl, t, _, 2, _, rfl, rfl, (ht6.ext del_ext).ext e68, atI_nat (j := 2) rfl, bl, ws, bs, rfl, (hbl6'.ext del_ext).ext e68, (hbs6.ext del_ext).ext e68, h8, fun b hb => (ok.bars b hb).o1, fun R2 rs2 H9 hR2 e9 hR29 hil2 _ => ?_⟩
      have hrsl2 : rs2.length = (cornersB bs).length := by rw [isL_len hil2, List.length_map]
      refine ⟨R2, rfl, ⟨_, SqL.of hR29⟩, fun D2 hD2 => lc_list (xs := rs2) (fun i H' => Ext H9 H' ∧ ∃ acc, H' D2 = some (.lst acc) ∧ IsL K (del H' D2) (((cornersB bs).take i).map pairD) acc) ⟨Ext.upd hD2, [], upd_same, rfl⟩ (fun i H' _ p => (SqL.of hR29).ext p.1) ?_ ?_⟩
      · rintro i y H10 hi ⟨e10, acc, hD10, hacc⟩
        obtain ⟨row, hrow, iy⟩ := isL_at' hil2 hi
        have hi2 : i < (cornersB bs).length := (List.getElem?_eq_some_iff.mp hrow).1
        obtain ⟨ra, rfl, hra⟩ := rwI_of (iy.ext e10)
        refine ⟨rfl, tyes ?_⟩
        refine ⟨_, rfl, ra, _, rfl, .inl ⟨hra, fun t1 ht1 => ?_⟩⟩
        refine ⟨by show 2 ≤ sizeLine; decide, fun z hz => ?_⟩
        have hD11 := Ext.upd (o := HO.tup [V.ref t1, V.int 1]) hz _ _ (Ext.upd (o := HO.tup (row.map V.int)) ht1 _ _ hD10)
        have e1011 : Ext H10 (upd (upd H10 t1 (.tup (row.map V.int))) z (.tup [V.ref t1, V.int 1])) := (Ext.upd ht1).trans (Ext.upd hz)
        have hz11 : (upd (upd H10 t1 (.tup (row.map V.int))) z (.tup [V.ref t1, V.int 1])) z = some (.tup [V.ref t1, V.int 1]) := upd_same
        have ht11 : (upd (upd H10 t1 (.tup (row.map V.int))) z (.tup [V.ref t1, V.int 1])) t1 = some (.tup (row.map V.int)) := Ext.upd hz _ _ upd_same
        generalize upd (upd H10 t1 (.tup (row.map V.int))) z (.tup [V.ref t1, V.int 1]) = H11 at hD11 e1011 hz11 ht11 ⊢
        refine ⟨acc, hD11, ?_, (e10.trans e1011).mut hD2, _, upd_same, ?_⟩
        · rw [isL_len hacc, List.length_map, List.length_take]
          exact Nat.lt_of_lt_of_le (show min i (cornersB bs).length < 2000 by omega) (by decide)
        · rw [List.take_add_one, hrow, List.map_append]
          refine isL_snoc ((hacc.ext (DE.of e1011)).ext DE.upd) ?_
          refine Is.ext DE.upd (⟨z, _, rfl, SqT.delL (SqT.of hz11) hD11, _, _, rfl, ⟨t1, _, rfl, SqT.delL (SqT.of ht11) hD11, isL_ints _⟩, _, _, rfl, rfl, rfl⟩ : Is K (del H11 D2) (pairD row) (.ref z))
      rintro H10 ⟨e10, acc2, hD10, hacc2⟩
      rw [hrsl2, List.take_length] at hacc2
      have e810 : Ext H8 H10 := e9.trans e10
      refine ⟨.lst ((cornersB bs).map pairD), .lst ((cornersB bs).map pairD), is_lst (e810 _ _ hD8) ((hacc1.ext del_ext).ext e810), is_lst hD10 (hacc2.ext del_ext), okL_pure (pairs_pure _), okL_pure (pairs_pure _), by show depL _ + 1 ≤ 8; have := pairs_dep (cornersB bs); omega, .inl rfl, fun H11 e11 => ?_⟩
      refine ⟨false, ?_, iteF ?_⟩
      · show V.bl (!(deqL ((cornersB bs).map pairD) ((cornersB bs).map pairD))) = V.bl false
        rw [pairs_deq]
        rfl
      have e611 : Ext H6 H11 := (e68.trans e810).trans e11
      have hR11 : H11 R = some (.lst rs) := ((e8.trans e810).trans e11) _ _ hR7
      clear hacc2 hD10 e10 hil2 hR29 e9 e810 e11 hacc1 hD8 e8 e68 hil hR7 e7 hD hD2 hrsl2 hR2
      -- told.reverse(), told.append(None)
      refine ⟨_, rfl, .inl ⟨rfl, _, SqL.of hR11⟩, R, _, rfl, rfl, hR11, ?_⟩
      refine ⟨_, rfl, .inl ⟨rfl, _, SqL.of upd_same⟩, R, _, _, rfl, rfl, upd_same, by rw [List.length_reverse, hrsl]; exact Nat.lt_of_le_of_lt hcnt (by decide), ?_⟩
      have e613 : Ext H6 (upd (upd H11 R (.lst rs.reverse)) R (.lst (rs.reverse ++ [.non]))) := (e611.mut hR).mut hR
      have hR13 : (upd (upd H11 R (.lst rs.reverse)) R (.lst (rs.reverse ++ [.non]))) R = some (.lst (rs.reverse ++ [.non])) := upd_same
      generalize upd (upd H11 R (.lst rs.reverse)) R (.lst (rs.reverse ++ [.non])) = H13 at e613 hR13 ⊢
      clear hR11 e611 hR
      -- corners told anew
      refine ⟨_, rfl, u, (n : Int), bs, normH hl, rfl, iu.ext e613, h8, fun R3 rs3 H14 hR3 e14 hR314 hil3 hcnt3 => ?_⟩
      have hrsl3 : rs3.length = (cornersB bs).length := by rw [isL_len hil3, List.length_map]
      refine ⟨R3, _, rfl, .inl (SqL.of hR314), _, rfl, R, _, rfl, .inl (SqL.of (e14 _ _ hR13)), _, _, rfl, rfl, rfl, ?_⟩
      refine ⟨false, ?_, iteF ?_⟩
      · rw [hrsl3, List.length_append, List.length_reverse, hrsl]
        simp
      refine ⟨_, rfl, u, (n : Int), bs, normH hl, rfl, (iu.ext e613).ext e14, h8, fun R4 rs4 H15 hR4 e15 hR415 hil4 hcnt4 => ?_⟩
      obtain ⟨y4, hy4, iy4⟩ := isL_at hil4 (corner_head bs)
      obtain ⟨xa, xd, tn, rfl, hxa, htn⟩ := plD_fields (iy4.ext del_ext)
      refine ⟨R4, _, 0, _, rfl, rfl, SqL.of hR415, atI_nat (j := 0) hy4, xa, T.C_Places, xd, _, _, rfl, hxa, T.c_Places, T.nf_Places_numbers, rfl, ?_⟩
      have e615 : Ext H6 H15 := (e613.trans e14).trans e15
      have hwl : ws.length = bs.length := by rw [isL_len hbs6, List.length_map]
      refine ⟨_, rfl, t, _, 2, _, rfl, rfl, (ht6.ext del_ext).ext e615, atI_nat (j := 2) rfl, bl, rfl, ⟨_, (hbl6'.ext del_ext).ext e615⟩, fun D hD => lc_list (xs := ws) (fun i H' => Ext H15 H' ∧ H' D = some (.lst (((bs.map (·.lo)).take i).map V.int))) ⟨Ext.upd hD, upd_same⟩ (fun i H' _ p => ((hbl6'.ext del_ext).ext e615).ext p.1) ?_ ?_⟩
      · rintro i y H16 hi ⟨e16, hD16⟩
        obtain ⟨b, hbi, ib⟩ := isL_at' hbs6 hi
        obtain ⟨bt, rfl, hbt⟩ := bf_of (((ib.ext del_ext).ext e615).ext e16)
        have hin : i < bs.length := (List.getElem?_eq_some_iff.mp hbi).1
        refine ⟨rfl, tyes ?_⟩
        refine ⟨_, rfl, bt, _, 4, _, rfl, rfl, hbt, atI_nat (xs := brV b) (j := 4) rfl, _, hD16, ?_, e16.mut hD, ?_⟩
        · rw [List.length_map, List.length_take]
          exact Nat.lt_of_lt_of_le (show min i (bs.map (·.lo)).length < 100 by omega) (by decide)
        · rw [upd_same, List.take_add_one, List.getElem?_map, hbi, List.map_append]
          rfl
      rintro H16 ⟨e16, hD16⟩
      rw [List.take_of_length_le (by rw [List.length_map, hwl]; exact Nat.le_refl _)] at hD16
      refine ⟨D, _, rfl, .inl ⟨SqL.of hD16, fun t3 ht3 => ?_⟩⟩
      refine ⟨.tup ((bs.map (·.lo)).map Dt.int), .tup ((bs.map (·.lo)).map Dt.int), ⟨tn, _, rfl, (htn.ext e16).ext (Ext.upd ht3), isL_ints _⟩, ⟨t3, _, rfl, SqT.of upd_same, isL_ints _⟩, okL_pure (pureL_ints _), okL_pure (pureL_ints _), by show depL _ + 1 ≤ 8; rw [depL_ints]; decide, .inl rfl, fun H17 e17 => ?_⟩
      refine ⟨false, ?_, iteF ?_⟩
      · show V.bl (!(deqL ((bs.map (·.lo)).map Dt.int) ((bs.map (·.lo)).map Dt.int))) = V.bl false
        rw [deqL_ints]
        simp
      have e617 : Ext H6 H17 := (e615.trans e16).trans ((Ext.upd ht3).trans e17)
      have iu17 := iu.ext e617
      have iw17 := iw6.ext (DE.of (w := p) e617)
      have hs17 := hs6.ext e617
      have hq17 := e617 _ _ hq6
      have hT17 : Tabs [(P0, qR), (P1, qL)] H17 := hT6.ext e617
      clear e617 e17 ht3 hD16 e16 hD e615 htn hxa iy4 hy4 hil4 hR415 e15 hR4 hil3 hR314 e14 hR3 hR13 e613 hbs6 hbl6' hhd6 ht6 iu iw6 hs6 hq6 hT6 hcnt3 hcnt4 hcnt hrsl hrsl3
      simp only [List.set_cons_succ, List.set_cons_zero]
      -- share
      refine ⟨_, rfl, p, _, rfl, hs17, by decide, by decide, fun r2 H18 e18 hs18 r20 r21 => ?_⟩
      refine ⟨_, _, rfl, rfl, ?_⟩
      obtain ⟨q, hq, q1', q2'⟩ : ∃ q : Int, 1 + r2 = q ∧ 1 ≤ q ∧ q ≤ 5 := ⟨_, rfl, by omega, by omega⟩
      dsimp only
      rw [hq]
      have iw18 := iw17.ext e18
      obtain ⟨t', hd, bl, ws, et, ht, hhd, hbl', hbs⟩ := wh_of iw18
      cases et
      refine ⟨_, rfl, _, rfl, t, _, 2, _, rfl, rfl, ht.ext del_ext, atI_nat (j := 2) rfl, _, rfl, p, bl, ws, bs, q, rfl, hs18, hbl', hbs, q1', by omega, h8, fun b hb => ⟨(ok.bars b hb).o0, (ok.bars b hb).o1, by have := (ok.bars b hb).o2; have := (ok.bars b hb).l1; omega⟩, fun N ms H19 hN hNp e19 hs19 hN19 hin => ?_⟩
      have e1719 : DE p H17 H19 := Ext.trans e18 e19
      have hNq : q2 ≠ N := fun z => by
        have z2 := e18.to hq17 hqp
        rw [z, hN] at z2
        cases z2
      have hN17 : del H17 p N = none := DE.fresh e18 hs18.well hN
      obtain ⟨za, zb, zc, hz17, _⟩ := id hs17
      have iu19 : Is K H19 (wbD T.C_Web T.C_Bar (n : Int) bs (normH hl)) u := ((wb_del iu17 hz17).ext e1719).ext del_ext
      have bok : ∀ b ∈ bs, 0 ≤ b.len ∧ b.len ≤ 1000000 ∧ 0 ≤ b.lo ∧ b.lo ≤ b.hi ∧ b.hi ≤ b.len := fun b hb => by
        have z := ok.bars b hb
        exact ⟨by have := z.l0; omega, z.l1, z.o0, z.o1, z.o2⟩
      have hml : ms.length = bs.length := hin.1
      have qp : 0 < q := by omega
      have hb1 := ok.b1
      clear hbs hbl' hhd ht hd bl ws iw18 hq r20 r21 hN hs18 e18
      -- is_within(..) is not True
      refine ⟨_, rfl, _, rfl, _, rfl, fun x dx hx hdx hne => ?_⟩
      refine ⟨H19, x, dx, N, ms, q, rfl, hx, hdx, hne, rfl, .inl (SqL.of hN19), by omega, shareBig q1' (by omega), fun z => by omega, fun _ H20 e20 i20 => ⟨rfl, ?_⟩⟩
      refine ⟨u, .ref x, (n : Int), bs, normH hl, normN ms q, normP ms q, rfl, iu19.ext e20, i20, bok, by omega, fun r hr' => ?_, fun _ H21 e21 => ?_⟩
      · rw [ckPl_norm qp hml, ck_in hin (by omega) ok.bars] at hr'
        cases hr'
      rw [within_norm qp, all_in hin]
      refine ⟨_, _, rfl, rfl, _, rfl, iteF ?_⟩
      have e1921 := e20.trans e21
      have hN21 := e1921 _ _ hN19
      have hs21 := hs19.ext e1921
      have e1721 : DE p H17 H21 := Ext.trans e1719 (DE.of e1921)
      clear e1921 e21 i20 e20 hx hdx hne iu19 hN19 hs19 e1719 e19
      -- at, bar
      refine ⟨_, rfl, _, rfl, N, _, rfl, .inl (SqL.of hN21), p, _, rfl, hs21, by rw [List.length_map]; omega, by rw [List.length_map]; omega, fun r4 H22 e22 hs22 r40 r41 => ?_⟩
      rw [List.length_map] at r41
      obtain ⟨j, rfl⟩ : ∃ j : Nat, r4 = (j : Int) := ⟨r4.toNat, by omega⟩
      have hj : j < ms.length := by omega
      obtain ⟨b, hbj⟩ : ∃ b, bs[j]? = some b := ⟨_, List.getElem?_eq_getElem (show j < bs.length by omega)⟩
      have okb := ok.bars b (List.mem_of_getElem? hbj)
      have hlb := hlen b (List.mem_of_getElem? hbj)
      have l0 := okb.l0
      have o0 := okb.o0
      have o1 := okb.o1
      have o2 := okb.o2
      have lo0 : 0 ≤ b.lo * q := Int.mul_nonneg (by omega) (by omega)
      have le0 : 0 ≤ b.len * q := Int.mul_nonneg (by omega) (by omega)
      have le1 : b.len * q ≤ 9 * 5 := Int.mul_le_mul hlb q2' (by omega) (by decide)
      have hN22 := e22.to hN21 hNp
      have e1722 : DE p H17 H22 := Ext.trans e1721 e22
      have iw22 := iw17.ext e1722
      obtain ⟨t', hd, bl, ws, et, ht, hhd, hbl', hbs⟩ := wh_of iw22
      cases et
      obtain ⟨y5, hy5, iy5⟩ := isL_at hbs hbj
      obtain ⟨bt, rfl, hbt22⟩ := bf_of iy5
      refine ⟨_, rfl, t, _, 2, _, rfl, rfl, ht.ext del_ext, atI_nat (j := 2) rfl, _, rfl, bl, _, _, _, rfl, rfl, hbl'.ext del_ext, atI_nat hy5, ?_⟩
      clear e1721 hN21 hs21
      -- numbers[at] = digit(..)
      refine ⟨_, rfl, _, rfl, bt, _, 3, _, rfl, rfl, hbt22.ext del_ext, atI_nat (xs := brV b) (j := 3) rfl, _, rfl, _, _, rfl, rfl, .inr ⟨by omega, by omega⟩, _, _, rfl, rfl, p, _, rfl, hs22, by omega, by omega, fun r5 H23 e23 hs23 r50 r51 => ?_⟩
      have hN23 := e23.to hN22 hNp
      refine ⟨_, rfl, _, rfl, N, _, _, j, rfl, rfl, hN23, by rw [List.length_map]; exact ixN_of (by omega) (by omega), ?_⟩
      rw [← List.map_set]
      have e1724 : DE p H17 (upd H23 N (.lst ((ms.set j r5).map V.int))) := DE.mut (Ext.trans e1722 e23) hN17
      have hN24 : (upd H23 N (.lst ((ms.set j r5).map V.int))) N = some (.lst ((ms.set j r5).map V.int)) := upd_same
      have hs24 := hs23.upd (D := N) (o := .lst ((ms.set j r5).map V.int)) hNp
      have hbt24 : SqT K (upd H23 N (.lst ((ms.set j r5).map V.int))) bt (brV b) := SqT.mut ((hbt22.ext e23).ext del_ext) hN23
      generalize upd H23 N (.lst ((ms.set j r5).map V.int)) = H24 at e1724 hN24 hs24 hbt24 ⊢
      have iu24 : Is K H24 (wbD T.C_Web T.C_Bar (n : Int) bs (normH hl)) u := ((wb_del iu17 hz17).ext e1724).ext del_ext
      have hT24 : Tabs [(P0, qR), (P1, qL)] H24 := tabs_de hT17 hz17 e1724
      have hq24 := e1724.to hq17 hqp
      have hjs : (ms.set j r5)[j]? = some r5 := by rw [List.getElem?_set, if_pos rfl, if_pos hj]
      have hsl : (ms.set j r5).length = bs.length := by rw [List.length_set]; exact hml
      clear e1724 hN23 hbt22 hs23 e23 hy5 iy5 hbs hbl' hhd ht iw22 e1722 hN22 hs22 e22 hq17 hT17 iu17 iw17 hs17 hN17
      -- due
      refine ⟨_, rfl, bt, _, 4, _, rfl, rfl, hbt24, atI_nat (xs := brV b) (j := 4) rfl, _, rfl, _, _, rfl, rfl, .inr ⟨by omega, by omega⟩, _, rfl, _, rfl, N, _, _, _, rfl, rfl, SqL.of hN24, atI_nat (by rw [List.getElem?_map, hjs]; rfl), _, _, rfl, rfl, _, rfl, ?_⟩
      refine chain_fin (G := fun v H1 => gName 10 v _ H1 _) (d := decide (r5 ≤ b.hi * q)) (fun z => ⟨_, rfl, bt, _, 5, _, rfl, rfl, hbt24, atI_nat (xs := brV b) (j := 5) rfl, _, rfl, _, _, rfl, rfl, .inr ⟨by omega, by omega⟩, _, _, rfl, rfl, z⟩) ?_
      rw [show (if decide (b.lo * q ≤ r5) = true then decide (r5 ≤ b.hi * q) else false) = inSp q (b, r5) from rfl]
      -- is_within(..) != due
      refine ⟨_, rfl, _, rfl, _, rfl, fun x dx hx hdx hne => ?_⟩
      refine ⟨H24, x, dx, N, ms.set j r5, q, rfl, hx, hdx, hne, rfl, .inl (SqL.of hN24), by omega, shareBig q1' (by omega), fun z => by omega, fun _ H25 e25 i25 => ⟨rfl, ?_⟩⟩
      refine ⟨u, .ref x, (n : Int), bs, normH hl, normN (ms.set j r5) q, normP (ms.set j r5) q, rfl, iu24.ext e25, i25, bok, by omega, fun r hr' => ?_, fun _ H26 e26 => ?_⟩
      · rw [ckPl_norm qp hsl, ck_set hin (by omega) ok.bars hbj r50 (by omega)] at hr'
        cases hr'
      rw [within_norm qp, in_set hin hbj]
      refine ⟨_, rfl, rfl, ?_⟩
      refine ⟨false, by simp, iteF ?_⟩
      have e2426 := e25.trans e26
      have hN26 := e2426 _ _ hN24
      have hbt26 := hbt24.ext e2426
      have iu26 := iu24.ext e2426
      have hq26 := e2426 _ _ hq24
      have hT26 : Tabs [(P0, qR), (P1, qL)] H26 := hT24.ext e2426
      clear e2426 e26 i25 e25 hx hdx hne hN24 hbt24 iu24 hq24 hT24
      -- numbers[at] = length * share + 1
      refine ⟨_, rfl, bt, _, 3, _, rfl, rfl, hbt26, atI_nat (xs := brV b) (j := 3) rfl, _, rfl, _, _, rfl, rfl, .inr ⟨by omega, by omega⟩, _, _, rfl, rfl, _, rfl, _, rfl, N, _, _, j, rfl, rfl, hN26, by rw [List.length_map, hsl]; exact ixN_of (by omega) (by omega), ?_⟩
      rw [← List.map_set, List.set_set]
      have hN27 : (upd H26 N (.lst ((ms.set j (b.len * q + 1)).map V.int))) N = some (.lst ((ms.set j (b.len * q + 1)).map V.int)) := upd_same
      have iu27 : Is K (upd H26 N (.lst ((ms.set j (b.len * q + 1)).map V.int))) (wbD T.C_Web T.C_Bar (n : Int) bs (normH hl)) u := ((wb_del iu26 hN26).ext DE.upd).ext del_ext
      have hq27 : (upd H26 N (.lst ((ms.set j (b.len * q + 1)).map V.int))) q2 = some (.lst (cutV (ns.map V.int ++ [.int 0]) none (some 6))) := by rw [upd_ne hNq]; exact hq26
      have hT27 : Tabs [(P0, qR), (P1, qL)] (upd H26 N (.lst ((ms.set j (b.len * q + 1)).map V.int))) := tabs_upd hT26 hN26
      generalize upd H26 N (.lst ((ms.set j (b.len * q + 1)).map V.int)) = H27 at hN27 iu27 hq27 hT27 ⊢
      have hsl2 : (ms.set j (b.len * q + 1)).length = bs.length := by rw [List.length_set]; exact hml
      -- the refusal
      refine ⟨hT27, fun H28 e28 hT28 => ?_⟩
      have hN28 := e28 _ _ hN27 (fun _ z => by cases z)
      have hq28 := e28 _ _ hq27 (fun _ z => by cases z)
      have iu28 := Is.extN e28 iu27
      refine ⟨_, rfl, _, rfl, _, rfl, fun x dx hx hdx hne => ?_⟩
      refine ⟨H28, x, dx, N, ms.set j (b.len * q + 1), q, rfl, hx, hdx, hne, rfl, .inl (SqL.of hN28), by omega, shareBig q1' (by omega), fun z => by omega, fun _ H29 e29 i29 => ⟨rfl, ?_⟩⟩
      refine ⟨u, .ref x, (n : Int), bs, normH hl, normN (ms.set j (b.len * q + 1)) q, normP (ms.set j (b.len * q + 1)) q, rfl, iu28.ext e29, i29, bok, by omega, fun r hr' d H30 e30 hd hd1 => ?_, fun z => ?_⟩
      · rw [ckPl_norm qp hsl2, ck_bad hin (by omega) ok.bars hbj (by omega)] at hr'
        cases hr'
        refine Or.inr ⟨rfl, d, (j : Int), rfl, hd1, fun v H31 e31 iv => ?_⟩
        refine ⟨_, rfl, by show 2 ≤ sizeLine; decide, fun z hz => ?_⟩
        refine ⟨_, _, iv.ext (Ext.upd hz), (show Is K _ (.tup [.str "badplace", .int (j : Int)]) (.ref z) from ⟨z, _, rfl, SqT.of upd_same, _, _, rfl, rfl, _, _, rfl, rfl, rfl⟩), ⟨trivial, trivial, trivial⟩, ⟨trivial, trivial, trivial⟩, by show 1 ≤ 8; decide, .inl rfl, fun H32 e32 => ?_⟩
        have e2832 := ((e29.trans e30).trans e31).trans ((Ext.upd hz).trans e32)
        refine ⟨false, ?_, iteF ?_⟩
        · show V.bl (!(("badplace" : Str) == ("badplace" : Str) && (((j : Int) == (j : Int)) && true))) = V.bl false
          simp
        · exact ⟨e2832 _ _ hq28, hT28.ext e2832, _, _, _, _, _, _, _, _, _, _, _, _, rfl⟩
      · rw [ckPl_norm qp hsl2, ck_bad hin (by omega) ok.bars hbj (by omega)] at z
        cases z
    · rintro σ H' ⟨_, _, v1, v2, v3, v4, v5, v6, v7, v8, v9, v10, v11, v12, rfl⟩
      exact k H'
end
end K23
namespace K23
open PySem L2
def mk_tx {K : PySem.W.Frag} {h : Heap} {mg : Str → Option Value} (X : K.In h) (G : h.Ns mainGlobals mg)
    {a_check_rods : Addr} {od_check_rods an_check_rods : Option Addr} {sl_check_rods : Array (Option Value)} {oc_check_rods kV_check_rods dc_check_rods pm_check_rods cd_check_rods ct_check_rods : Value} {a_check_bars : Addr} {od_check_bars an_check_bars : Option Addr} {sl_check_bars : Array (Option Value)} {oc_check_bars kV_check_bars dc_check_bars pm_check_bars cd_check_bars ct_check_bars : Value} {a_check_bar : Addr} {od_check_bar an_check_bar : Option Addr} {sl_check_bar : Array (Option Value)} {oc_check_bar kV_check_bar dc_check_bar pm_check_bar cd_check_bar ct_check_bar : Value} {a_divisor : Addr} {od_divisor an_divisor : Option Addr} {sl_divisor : Array (Option Value)} {oc_divisor kV_divisor dc_divisor pm_divisor cd_divisor ct_divisor : Value} {a_lowest : Addr} {od_lowest an_lowest : Option Addr} {sl_lowest : Array (Option Value)} {oc_lowest kV_lowest dc_lowest pm_lowest cd_lowest ct_lowest : Value} {a_check_places : Addr} {od_check_places an_check_places : Option Addr} {sl_check_places : Array (Option Value)} {oc_check_places kV_check_places dc_check_places pm_check_places cd_check_places ct_check_places : Value} {a_is_within : Addr} {od_is_within an_is_within : Option Addr} {sl_is_within : Array (Option Value)} {oc_is_within kV_is_within dc_is_within pm_is_within cd_is_within ct_is_within : Value} {a_corners : Addr} {od_corners an_corners : Option Addr} {sl_corners : Array (Option Value)} {oc_corners kV_corners dc_corners pm_corners cd_corners ct_corners : Value} {a_corner_rows : Addr} {od_corner_rows an_corner_rows : Option Addr} {sl_corner_rows : Array (Option Value)} {oc_corner_rows kV_corner_rows dc_corner_rows pm_corner_rows cd_corner_rows ct_corner_rows : Value} {a_ends : Addr} {od_ends an_ends : Option Addr} {sl_ends : Array (Option Value)} {oc_ends kV_ends dc_ends pm_ends cd_ends ct_ends : Value} {a_spread : Addr} {od_spread an_spread : Option Addr} {sl_spread : Array (Option Value)} {oc_spread kV_spread dc_spread pm_spread cd_spread ct_spread : Value} {a_l_cell_at : Addr} {od_l_cell_at an_l_cell_at : Option Addr} {sl_l_cell_at : Array (Option Value)} {oc_l_cell_at kV_l_cell_at dc_l_cell_at pm_l_cell_at cd_l_cell_at ct_l_cell_at : Value} {a_l_state : Addr} {od_l_state an_l_state : Option Addr} {sl_l_state : Array (Option Value)} {oc_l_state kV_l_state dc_l_state pm_l_state cd_l_state ct_l_state : Value} {a_l_digit : Addr} {od_l_digit an_l_digit : Option Addr} {sl_l_digit : Array (Option Value)} {oc_l_digit kV_l_digit dc_l_digit pm_l_digit cd_l_digit ct_l_digit : Value} {a_l_bar : Addr} {od_l_bar an_l_bar : Option Addr} {sl_l_bar : Array (Option Value)} {oc_l_bar kV_l_bar dc_l_bar pm_l_bar cd_l_bar ct_l_bar : Value} {a_l_web : Addr} {od_l_web an_l_web : Option Addr} {sl_l_web : Array (Option Value)} {oc_l_web kV_l_web dc_l_web pm_l_web cd_l_web ct_l_web : Value} {a_l_made : Addr} {od_l_made an_l_made : Option Addr} {sl_l_made : Array (Option Value)} {oc_l_made kV_l_made dc_l_made pm_l_made cd_l_made ct_l_made : Value} {a_l_within : Addr} {od_l_within an_l_within : Option Addr} {sl_l_within : Array (Option Value)} {oc_l_within kV_l_within dc_l_within pm_l_within cd_l_within ct_l_within : Value} {a_l_corners : Addr} {od_l_corners an_l_corners : Option Addr} {sl_l_corners : Array (Option Value)} {oc_l_corners kV_l_corners dc_l_corners pm_l_corners cd_l_corners ct_l_corners : Value} {a_l_refusal : Addr} {od_l_refusal an_l_refusal : Option Addr} {sl_l_refusal : Array (Option Value)} {oc_l_refusal kV_l_refusal dc_l_refusal pm_l_refusal cd_l_refusal ct_l_refusal : Value} {a_l_places_right : Addr} {od_l_places_right an_l_places_right : Option Addr} {sl_l_places_right : Array (Option Value)} {oc_l_places_right kV_l_places_right dc_l_places_right pm_l_places_right cd_l_places_right ct_l_places_right : Value} {a_law : Addr} {od_law an_law : Option Addr} {sl_law : Array (Option Value)} {oc_law kV_law dc_law pm_law cd_law ct_law : Value} {C_Places : Addr} {a_Places_init : Addr} {od_Places_init an_Places_init : Option Addr} {sl_Places_init : Array (Option Value)} {oc_Places_init kV_Places_init dc_Places_init pm_Places_init cd_Places_init ct_Places_init : Value} {a_Places_eq : Addr} {od_Places_eq an_Places_eq : Option Addr} {sl_Places_eq : Array (Option Value)} {oc_Places_eq kV_Places_eq dc_Places_eq pm_Places_eq cd_Places_eq ct_Places_eq : Value} {C_Bar : Addr} {a_Bar_init : Addr} {od_Bar_init an_Bar_init : Option Addr} {sl_Bar_init : Array (Option Value)} {oc_Bar_init kV_Bar_init dc_Bar_init pm_Bar_init cd_Bar_init ct_Bar_init : Value} {a_Bar_eq : Addr} {od_Bar_eq an_Bar_eq : Option Addr} {sl_Bar_eq : Array (Option Value)} {oc_Bar_eq kV_Bar_eq dc_Bar_eq pm_Bar_eq cd_Bar_eq ct_Bar_eq : Value} {C_Web : Addr} {a_Web_init : Addr} {od_Web_init an_Web_init : Option Addr} {sl_Web_init : Array (Option Value)} {oc_Web_init kV_Web_init dc_Web_init pm_Web_init cd_Web_init ct_Web_init : Value} {a_Web_held : Addr} {od_Web_held an_Web_held : Option Addr} {sl_Web_held : Array (Option Value)} {oc_Web_held kV_Web_held dc_Web_held pm_Web_held cd_Web_held ct_Web_held : Value} {a_Web_hanging : Addr} {od_Web_hanging an_Web_hanging : Option Addr} {sl_Web_hanging : Array (Option Value)} {oc_Web_hanging kV_Web_hanging dc_Web_hanging pm_Web_hanging cd_Web_hanging ct_Web_hanging : Value} {a_Web_eq : Addr} {od_Web_eq an_Web_eq : Option Addr} {sl_Web_eq : Array (Option Value)} {oc_Web_eq kV_Web_eq dc_Web_eq pm_Web_eq cd_Web_eq ct_Web_eq : Value} {C_HooksError : Addr} {C_BadCount : Addr} {nm_BadCount q_BadCount : Str} {N_BadCount : Addr} {bs_BadCount : List Value} {sn_BadCount : List Str} {sub_BadCount : List Value} {ab_BadCount : Bool} {col_BadCount : Option Bool} {dd_BadCount : Option Addr} {u0_BadCount u1_BadCount u2_BadCount u3_BadCount u5_BadCount : Option Value} {a_BadCount_init : Addr} {od_BadCount_init an_BadCount_init : Option Addr} {sl_BadCount_init : Array (Option Value)} {oc_BadCount_init kV_BadCount_init dc_BadCount_init pm_BadCount_init cd_BadCount_init ct_BadCount_init : Value} {C_NoRod : Addr} {nm_NoRod q_NoRod : Str} {N_NoRod : Addr} {bs_NoRod : List Value} {sn_NoRod : List Str} {sub_NoRod : List Value} {ab_NoRod : Bool} {col_NoRod : Option Bool} {dd_NoRod : Option Addr} {u0_NoRod u1_NoRod u2_NoRod u3_NoRod u5_NoRod : Option Value} {a_NoRod_init : Addr} {od_NoRod_init an_NoRod_init : Option Addr} {sl_NoRod_init : Array (Option Value)} {oc_NoRod_init kV_NoRod_init dc_NoRod_init pm_NoRod_init cd_NoRod_init ct_NoRod_init : Value} {C_SameRod : Addr} {nm_SameRod q_SameRod : Str} {N_SameRod : Addr} {bs_SameRod : List Value} {sn_SameRod : List Str} {sub_SameRod : List Value} {ab_SameRod : Bool} {col_SameRod : Option Bool} {dd_SameRod : Option Addr} {u0_SameRod u1_SameRod u2_SameRod u3_SameRod u5_SameRod : Option Value} {a_SameRod_init : Addr} {od_SameRod_init an_SameRod_init : Option Addr} {sl_SameRod_init : Array (Option Value)} {oc_SameRod_init kV_SameRod_init dc_SameRod_init pm_SameRod_init cd_SameRod_init ct_SameRod_init : Value} {C_BadSpan : Addr} {nm_BadSpan q_BadSpan : Str} {N_BadSpan : Addr} {bs_BadSpan : List Value} {sn_BadSpan : List Str} {sub_BadSpan : List Value} {ab_BadSpan : Bool} {col_BadSpan : Option Bool} {dd_BadSpan : Option Addr} {u0_BadSpan u1_BadSpan u2_BadSpan u3_BadSpan u5_BadSpan : Option Value} {a_BadSpan_init : Addr} {od_BadSpan_init an_BadSpan_init : Option Addr} {sl_BadSpan_init : Array (Option Value)} {oc_BadSpan_init kV_BadSpan_init dc_BadSpan_init pm_BadSpan_init cd_BadSpan_init ct_BadSpan_init : Value} {C_NotSquare : Addr} {nm_NotSquare q_NotSquare : Str} {N_NotSquare : Addr} {bs_NotSquare : List Value} {sn_NotSquare : List Str} {sub_NotSquare : List Value} {ab_NotSquare : Bool} {col_NotSquare : Option Bool} {dd_NotSquare : Option Addr} {u0_NotSquare u1_NotSquare u2_NotSquare u3_NotSquare u5_NotSquare : Option Value} {a_NotSquare_init : Addr} {od_NotSquare_init an_NotSquare_init : Option Addr} {sl_NotSquare_init : Array (Option Value)} {oc_NotSquare_init kV_NotSquare_init dc_NotSquare_init pm_NotSquare_init cd_NotSquare_init ct_NotSquare_init : Value} {C_BadPlace : Addr} {nm_BadPlace q_BadPlace : Str} {N_BadPlace : Addr} {bs_BadPlace : List Value} {sn_BadPlace : List Str} {sub_BadPlace : List Value} {ab_BadPlace : Bool} {col_BadPlace : Option Bool} {dd_BadPlace : Option Addr} {u0_BadPlace u1_BadPlace u2_BadPlace u3_BadPlace u5_BadPlace : Option Value} {a_BadPlace_init : Addr} {od_BadPlace_init an_BadPlace_init : Option Addr} {sl_BadPlace_init : Array (Option Value)} {oc_BadPlace_init kV_BadPlace_init dc_BadPlace_init pm_BadPlace_init cd_BadPlace_init ct_BadPlace_init : Value} {t_LEAST_RODS : Tok} {t_MOST_RODS : Tok} {t_MOST_BARS : Tok} {t_MOST_HEIGHT : Tok} {t_MOST_LENGTH : Tok}
    (g_clsget : PySem.W.specialIn K (.builtin "object.__class__") "__get__" = some (some (.builtin "getset_descriptor.__get__")))
    (g_clstk : PySem.W.takesIn K (.builtin "object.__class__") = some true)
    (n_check_rods : PySem.W.nsIn K mainGlobals "_check_rods" = some (some (.ref a_check_rods)))
    (l_check_rods : K.lookup a_check_rods = some ⟨oc_check_rods, od_check_rods, .func (PySem.W.fnOf "_check_rods" "_check_rods" (defArgs s_check_rods) (defBody s_check_rods) (defScope s_check_rods) .none kV_check_rods dc_check_rods pm_check_rods an_check_rods cd_check_rods ct_check_rods), sl_check_rods⟩)
    (c_check_rods : PySem.W.codeIn K cd_check_rods "_check_rods" = true)
    (p_check_rods : PySem.W.keepIn K (.ref a_check_rods) = true)
    (n_check_bars : PySem.W.nsIn K mainGlobals "_check_bars" = some (some (.ref a_check_bars)))
    (l_check_bars : K.lookup a_check_bars = some ⟨oc_check_bars, od_check_bars, .func (PySem.W.fnOf "_check_bars" "_check_bars" (defArgs s_check_bars) (defBody s_check_bars) (defScope s_check_bars) .none kV_check_bars dc_check_bars pm_check_bars an_check_bars cd_check_bars ct_check_bars), sl_check_bars⟩)
    (c_check_bars : PySem.W.codeIn K cd_check_bars "_check_bars" = true)
    (p_check_bars : PySem.W.keepIn K (.ref a_check_bars) = true)
    (n_check_bar : PySem.W.nsIn K mainGlobals "_check_bar" = some (some (.ref a_check_bar)))
    (l_check_bar : K.lookup a_check_bar = some ⟨oc_check_bar, od_check_bar, .func (PySem.W.fnOf "_check_bar" "_check_bar" (defArgs s_check_bar) (defBody s_check_bar) (defScope s_check_bar) .none kV_check_bar dc_check_bar pm_check_bar an_check_bar cd_check_bar ct_check_bar), sl_check_bar⟩)
    (c_check_bar : PySem.W.codeIn K cd_check_bar "_check_bar" = true)
    (p_check_bar : PySem.W.keepIn K (.ref a_check_bar) = true)
    (n_divisor : PySem.W.nsIn K mainGlobals "divisor" = some (some (.ref a_divisor)))
    (l_divisor : K.lookup a_divisor = some ⟨oc_divisor, od_divisor, .func (PySem.W.fnOf "divisor" "divisor" (defArgs s_divisor) (defBody s_divisor) (defScope s_divisor) .none kV_divisor dc_divisor pm_divisor an_divisor cd_divisor ct_divisor), sl_divisor⟩)
    (c_divisor : PySem.W.codeIn K cd_divisor "divisor" = true)
    (p_divisor : PySem.W.keepIn K (.ref a_divisor) = true)
    (n_lowest : PySem.W.nsIn K mainGlobals "lowest" = some (some (.ref a_lowest)))
    (l_lowest : K.lookup a_lowest = some ⟨oc_lowest, od_lowest, .func (PySem.W.fnOf "lowest" "lowest" (defArgs s_lowest) (defBody s_lowest) (defScope s_lowest) .none kV_lowest dc_lowest pm_lowest an_lowest cd_lowest ct_lowest), sl_lowest⟩)
    (c_lowest : PySem.W.codeIn K cd_lowest "lowest" = true)
    (p_lowest : PySem.W.keepIn K (.ref a_lowest) = true)
    (n_check_places : PySem.W.nsIn K mainGlobals "check_places" = some (some (.ref a_check_places)))
    (l_check_places : K.lookup a_check_places = some ⟨oc_check_places, od_check_places, .func (PySem.W.fnOf "check_places" "check_places" (defArgs s_check_places) (defBody s_check_places) (defScope s_check_places) .none kV_check_places dc_check_places pm_check_places an_check_places cd_check_places ct_check_places), sl_check_places⟩)
    (c_check_places : PySem.W.codeIn K cd_check_places "check_places" = true)
    (p_check_places : PySem.W.keepIn K (.ref a_check_places) = true)
    (n_is_within : PySem.W.nsIn K mainGlobals "is_within" = some (some (.ref a_is_within)))
    (l_is_within : K.lookup a_is_within = some ⟨oc_is_within, od_is_within, .func (PySem.W.fnOf "is_within" "is_within" (defArgs s_is_within) (defBody s_is_within) (defScope s_is_within) .none kV_is_within dc_is_within pm_is_within an_is_within cd_is_within ct_is_within), sl_is_within⟩)
    (c_is_within : PySem.W.codeIn K cd_is_within "is_within" = true)
    (p_is_within : PySem.W.keepIn K (.ref a_is_within) = true)
    (n_corners : PySem.W.nsIn K mainGlobals "corners" = some (some (.ref a_corners)))
    (l_corners : K.lookup a_corners = some ⟨oc_corners, od_corners, .func (PySem.W.fnOf "corners" "corners" (defArgs s_corners) (defBody s_corners) (defScope s_corners) .none kV_corners dc_corners pm_corners an_corners cd_corners ct_corners), sl_corners⟩)
    (c_corners : PySem.W.codeIn K cd_corners "corners" = true)
    (p_corners : PySem.W.keepIn K (.ref a_corners) = true)
    (n_corner_rows : PySem.W.nsIn K mainGlobals "corner_rows" = some (some (.ref a_corner_rows)))
    (l_corner_rows : K.lookup a_corner_rows = some ⟨oc_corner_rows, od_corner_rows, .func (PySem.W.fnOf "corner_rows" "corner_rows" (defArgs s_corner_rows) (defBody s_corner_rows) (defScope s_corner_rows) .none kV_corner_rows dc_corner_rows pm_corner_rows an_corner_rows cd_corner_rows ct_corner_rows), sl_corner_rows⟩)
    (c_corner_rows : PySem.W.codeIn K cd_corner_rows "corner_rows" = true)
    (p_corner_rows : PySem.W.keepIn K (.ref a_corner_rows) = true)
    (n_ends : PySem.W.nsIn K mainGlobals "ends" = some (some (.ref a_ends)))
    (l_ends : K.lookup a_ends = some ⟨oc_ends, od_ends, .func (PySem.W.fnOf "ends" "ends" (defArgs s_ends) (defBody s_ends) (defScope s_ends) .none kV_ends dc_ends pm_ends an_ends cd_ends ct_ends), sl_ends⟩)
    (c_ends : PySem.W.codeIn K cd_ends "ends" = true)
    (p_ends : PySem.W.keepIn K (.ref a_ends) = true)
    (n_spread : PySem.W.nsIn K mainGlobals "spread" = some (some (.ref a_spread)))
    (l_spread : K.lookup a_spread = some ⟨oc_spread, od_spread, .func (PySem.W.fnOf "spread" "spread" (defArgs s_spread) (defBody s_spread) (defScope s_spread) .none kV_spread dc_spread pm_spread an_spread cd_spread ct_spread), sl_spread⟩)
    (c_spread : PySem.W.codeIn K cd_spread "spread" = true)
    (p_spread : PySem.W.keepIn K (.ref a_spread) = true)
    (n_l_cell_at : PySem.W.nsIn K mainGlobals "_law_cell_at" = some (some (.ref a_l_cell_at)))
    (l_l_cell_at : K.lookup a_l_cell_at = some ⟨oc_l_cell_at, od_l_cell_at, .func (PySem.W.fnOf "_law_cell_at" "_law_cell_at" (defArgs s_l_cell_at) (defBody s_l_cell_at) (defScope s_l_cell_at) .none kV_l_cell_at dc_l_cell_at pm_l_cell_at an_l_cell_at cd_l_cell_at ct_l_cell_at), sl_l_cell_at⟩)
    (c_l_cell_at : PySem.W.codeIn K cd_l_cell_at "_law_cell_at" = true)
    (p_l_cell_at : PySem.W.keepIn K (.ref a_l_cell_at) = true)
    (n_l_state : PySem.W.nsIn K mainGlobals "_law_state" = some (some (.ref a_l_state)))
    (l_l_state : K.lookup a_l_state = some ⟨oc_l_state, od_l_state, .func (PySem.W.fnOf "_law_state" "_law_state" (defArgs s_l_state) (defBody s_l_state) (defScope s_l_state) .none kV_l_state dc_l_state pm_l_state an_l_state cd_l_state ct_l_state), sl_l_state⟩)
    (c_l_state : PySem.W.codeIn K cd_l_state "_law_state" = true)
    (p_l_state : PySem.W.keepIn K (.ref a_l_state) = true)
    (n_l_digit : PySem.W.nsIn K mainGlobals "_law_digit" = some (some (.ref a_l_digit)))
    (l_l_digit : K.lookup a_l_digit = some ⟨oc_l_digit, od_l_digit, .func (PySem.W.fnOf "_law_digit" "_law_digit" (defArgs s_l_digit) (defBody s_l_digit) (defScope s_l_digit) .none kV_l_digit dc_l_digit pm_l_digit an_l_digit cd_l_digit ct_l_digit), sl_l_digit⟩)
    (c_l_digit : PySem.W.codeIn K cd_l_digit "_law_digit" = true)
    (p_l_digit : PySem.W.keepIn K (.ref a_l_digit) = true)
    (n_l_bar : PySem.W.nsIn K mainGlobals "_law_bar" = some (some (.ref a_l_bar)))
    (l_l_bar : K.lookup a_l_bar = some ⟨oc_l_bar, od_l_bar, .func (PySem.W.fnOf "_law_bar" "_law_bar" (defArgs s_l_bar) (defBody s_l_bar) (defScope s_l_bar) .none kV_l_bar dc_l_bar pm_l_bar an_l_bar cd_l_bar ct_l_bar), sl_l_bar⟩)
    (c_l_bar : PySem.W.codeIn K cd_l_bar "_law_bar" = true)
    (p_l_bar : PySem.W.keepIn K (.ref a_l_bar) = true)
    (n_l_web : PySem.W.nsIn K mainGlobals "_law_web" = some (some (.ref a_l_web)))
    (l_l_web : K.lookup a_l_web = some ⟨oc_l_web, od_l_web, .func (PySem.W.fnOf "_law_web" "_law_web" (defArgs s_l_web) (defBody s_l_web) (defScope s_l_web) .none kV_l_web dc_l_web pm_l_web an_l_web cd_l_web ct_l_web), sl_l_web⟩)
    (c_l_web : PySem.W.codeIn K cd_l_web "_law_web" = true)
    (p_l_web : PySem.W.keepIn K (.ref a_l_web) = true)
    (n_l_made : PySem.W.nsIn K mainGlobals "_law_made" = some (some (.ref a_l_made)))
    (l_l_made : K.lookup a_l_made = some ⟨oc_l_made, od_l_made, .func (PySem.W.fnOf "_law_made" "_law_made" (defArgs s_l_made) (defBody s_l_made) (defScope s_l_made) .none kV_l_made dc_l_made pm_l_made an_l_made cd_l_made ct_l_made), sl_l_made⟩)
    (c_l_made : PySem.W.codeIn K cd_l_made "_law_made" = true)
    (p_l_made : PySem.W.keepIn K (.ref a_l_made) = true)
    (n_l_within : PySem.W.nsIn K mainGlobals "_law_within" = some (some (.ref a_l_within)))
    (l_l_within : K.lookup a_l_within = some ⟨oc_l_within, od_l_within, .func (PySem.W.fnOf "_law_within" "_law_within" (defArgs s_l_within) (defBody s_l_within) (defScope s_l_within) .none kV_l_within dc_l_within pm_l_within an_l_within cd_l_within ct_l_within), sl_l_within⟩)
    (c_l_within : PySem.W.codeIn K cd_l_within "_law_within" = true)
    (p_l_within : PySem.W.keepIn K (.ref a_l_within) = true)
    (n_l_corners : PySem.W.nsIn K mainGlobals "_law_corners" = some (some (.ref a_l_corners)))
    (l_l_corners : K.lookup a_l_corners = some ⟨oc_l_corners, od_l_corners, .func (PySem.W.fnOf "_law_corners" "_law_corners" (defArgs s_l_corners) (defBody s_l_corners) (defScope s_l_corners) .none kV_l_corners dc_l_corners pm_l_corners an_l_corners cd_l_corners ct_l_corners), sl_l_corners⟩)
    (c_l_corners : PySem.W.codeIn K cd_l_corners "_law_corners" = true)
    (p_l_corners : PySem.W.keepIn K (.ref a_l_corners) = true)
    (n_l_refusal : PySem.W.nsIn K mainGlobals "_law_refusal" = some (some (.ref a_l_refusal)))
    (l_l_refusal : K.lookup a_l_refusal = some ⟨oc_l_refusal, od_l_refusal, .func (PySem.W.fnOf "_law_refusal" "_law_refusal" (defArgs s_l_refusal) (defBody s_l_refusal) (defScope s_l_refusal) .none kV_l_refusal dc_l_refusal pm_l_refusal an_l_refusal cd_l_refusal ct_l_refusal), sl_l_refusal⟩)
    (c_l_refusal : PySem.W.codeIn K cd_l_refusal "_law_refusal" = true)
    (p_l_refusal : PySem.W.keepIn K (.ref a_l_refusal) = true)
    (n_l_places_right : PySem.W.nsIn K mainGlobals "_law_places_right" = some (some (.ref a_l_places_right)))
    (l_l_places_right : K.lookup a_l_places_right = some ⟨oc_l_places_right, od_l_places_right, .func (PySem.W.fnOf "_law_places_right" "_law_places_right" (defArgs s_l_places_right) (defBody s_l_places_right) (defScope s_l_places_right) .none kV_l_places_right dc_l_places_right pm_l_places_right an_l_places_right cd_l_places_right ct_l_places_right), sl_l_places_right⟩)
    (c_l_places_right : PySem.W.codeIn K cd_l_places_right "_law_places_right" = true)
    (p_l_places_right : PySem.W.keepIn K (.ref a_l_places_right) = true)
    (n_law : PySem.W.nsIn K mainGlobals "law" = some (some (.ref a_law)))
    (l_law : K.lookup a_law = some ⟨oc_law, od_law, .func (PySem.W.fnOf "law" "law" (defArgs s_law) (defBody s_law) (defScope s_law) .none kV_law dc_law pm_law an_law cd_law ct_law), sl_law⟩)
    (c_law : PySem.W.codeIn K cd_law "law" = true)
    (p_law : PySem.W.keepIn K (.ref a_law) = true)
    (n_Places : PySem.W.nsIn K mainGlobals "Places" = some (some (.ref C_Places)))
    (pg_Places : PySem.W.plainGet K C_Places Str.empty = true)
    (hd_Places : PySem.W.hasDictIn K C_Places = true)
    (po_Places : PySem.W.plainOver K C_Places = true)
    (sa_Places : PySem.W.findIn K (.ref C_Places) "__setattr__" = some (some (.builtin "object.__setattr__")))
    (mk_Places : PySem.W.makesIn K C_Places = true)
    (kc_Places : PySem.W.keepIn K (.ref C_Places) = true)
    (nf_Places_numbers : PySem.W.findIn K (.ref C_Places) "numbers" = some none)
    (nf_Places_parts : PySem.W.findIn K (.ref C_Places) "parts" = some none)
    (n_Places_init : PySem.W.findIn K (.ref C_Places) "__init__" = some (some (.ref a_Places_init)))
    (i_Places_init : PySem.W.isFn K (.ref a_Places_init) = true)
    (l_Places_init : K.lookup a_Places_init = some ⟨oc_Places_init, od_Places_init, .func (PySem.W.fnOf "__init__" "Places.__init__" (defArgs s_Places_init) (defBody s_Places_init) (defScope s_Places_init) .none kV_Places_init dc_Places_init pm_Places_init an_Places_init cd_Places_init ct_Places_init), sl_Places_init⟩)
    (c_Places_init : PySem.W.codeIn K cd_Places_init "Places.__init__" = true)
    (p_Places_init : PySem.W.keepIn K (.ref a_Places_init) = true)
    (n_Places_eq : PySem.W.findIn K (.ref C_Places) "__eq__" = some (some (.ref a_Places_eq)))
    (i_Places_eq : PySem.W.isFn K (.ref a_Places_eq) = true)
    (l_Places_eq : K.lookup a_Places_eq = some ⟨oc_Places_eq, od_Places_eq, .func (PySem.W.fnOf "__eq__" "Places.__eq__" (defArgs s_Places_eq) (defBody s_Places_eq) (defScope s_Places_eq) .none kV_Places_eq dc_Places_eq pm_Places_eq an_Places_eq cd_Places_eq ct_Places_eq), sl_Places_eq⟩)
    (c_Places_eq : PySem.W.codeIn K cd_Places_eq "Places.__eq__" = true)
    (p_Places_eq : PySem.W.keepIn K (.ref a_Places_eq) = true)
    (ea_NoneType_Places : PySem.W.notFirst K C_Places (.type "NoneType") = true)
    (eb_NoneType_Places : PySem.W.subIn K (.ref C_Places) (.type "NoneType") = some false)
    (ea_bool_Places : PySem.W.notFirst K C_Places (.type "bool") = true)
    (eb_bool_Places : PySem.W.subIn K (.ref C_Places) (.type "bool") = some false)
    (ea_int_Places : PySem.W.notFirst K C_Places (.type "int") = true)
    (eb_int_Places : PySem.W.subIn K (.ref C_Places) (.type "int") = some false)
    (ea_str_Places : PySem.W.notFirst K C_Places (.type "str") = true)
    (eb_str_Places : PySem.W.subIn K (.ref C_Places) (.type "str") = some false)
    (ea_list_Places : PySem.W.notFirst K C_Places (.type "list") = true)
    (eb_list_Places : PySem.W.subIn K (.ref C_Places) (.type "list") = some false)
    (ea_tuple_Places : PySem.W.notFirst K C_Places (.type "tuple") = true)
    (eb_tuple_Places : PySem.W.subIn K (.ref C_Places) (.type "tuple") = some false)
    (ea_dict_Places : PySem.W.notFirst K C_Places (.type "dict") = true)
    (eb_dict_Places : PySem.W.subIn K (.ref C_Places) (.type "dict") = some false)
    (na_Places : PySem.W.findIn K (.ref C_Places) "__ne__" = some (some (.builtin "object.__ne__")))
    (nb_Places : PySem.W.mroIn K C_Places (.type "object") = some true)
    (n_Bar : PySem.W.nsIn K mainGlobals "Bar" = some (some (.ref C_Bar)))
    (pg_Bar : PySem.W.plainGet K C_Bar Str.empty = true)
    (hd_Bar : PySem.W.hasDictIn K C_Bar = true)
    (po_Bar : PySem.W.plainOver K C_Bar = true)
    (sa_Bar : PySem.W.findIn K (.ref C_Bar) "__setattr__" = some (some (.builtin "object.__setattr__")))
    (mk_Bar : PySem.W.makesIn K C_Bar = true)
    (kc_Bar : PySem.W.keepIn K (.ref C_Bar) = true)
    (nf_Bar_a : PySem.W.findIn K (.ref C_Bar) "a" = some none)
    (nf_Bar_b : PySem.W.findIn K (.ref C_Bar) "b" = some none)
    (nf_Bar_c : PySem.W.findIn K (.ref C_Bar) "c" = some none)
    (nf_Bar_length : PySem.W.findIn K (.ref C_Bar) "length" = some none)
    (nf_Bar_least : PySem.W.findIn K (.ref C_Bar) "least" = some none)
    (nf_Bar_greatest : PySem.W.findIn K (.ref C_Bar) "greatest" = some none)
    (n_Bar_init : PySem.W.findIn K (.ref C_Bar) "__init__" = some (some (.ref a_Bar_init)))
    (i_Bar_init : PySem.W.isFn K (.ref a_Bar_init) = true)
    (l_Bar_init : K.lookup a_Bar_init = some ⟨oc_Bar_init, od_Bar_init, .func (PySem.W.fnOf "__init__" "Bar.__init__" (defArgs s_Bar_init) (defBody s_Bar_init) (defScope s_Bar_init) .none kV_Bar_init dc_Bar_init pm_Bar_init an_Bar_init cd_Bar_init ct_Bar_init), sl_Bar_init⟩)
    (c_Bar_init : PySem.W.codeIn K cd_Bar_init "Bar.__init__" = true)
    (p_Bar_init : PySem.W.keepIn K (.ref a_Bar_init) = true)
    (n_Bar_eq : PySem.W.findIn K (.ref C_Bar) "__eq__" = some (some (.ref a_Bar_eq)))
    (i_Bar_eq : PySem.W.isFn K (.ref a_Bar_eq) = true)
    (l_Bar_eq : K.lookup a_Bar_eq = some ⟨oc_Bar_eq, od_Bar_eq, .func (PySem.W.fnOf "__eq__" "Bar.__eq__" (defArgs s_Bar_eq) (defBody s_Bar_eq) (defScope s_Bar_eq) .none kV_Bar_eq dc_Bar_eq pm_Bar_eq an_Bar_eq cd_Bar_eq ct_Bar_eq), sl_Bar_eq⟩)
    (c_Bar_eq : PySem.W.codeIn K cd_Bar_eq "Bar.__eq__" = true)
    (p_Bar_eq : PySem.W.keepIn K (.ref a_Bar_eq) = true)
    (ea_NoneType_Bar : PySem.W.notFirst K C_Bar (.type "NoneType") = true)
    (eb_NoneType_Bar : PySem.W.subIn K (.ref C_Bar) (.type "NoneType") = some false)
    (ea_bool_Bar : PySem.W.notFirst K C_Bar (.type "bool") = true)
    (eb_bool_Bar : PySem.W.subIn K (.ref C_Bar) (.type "bool") = some false)
    (ea_int_Bar : PySem.W.notFirst K C_Bar (.type "int") = true)
    (eb_int_Bar : PySem.W.subIn K (.ref C_Bar) (.type "int") = some false)
    (ea_str_Bar : PySem.W.notFirst K C_Bar (.type "str") = true)
    (eb_str_Bar : PySem.W.subIn K (.ref C_Bar) (.type "str") = some false)
    (ea_list_Bar : PySem.W.notFirst K C_Bar (.type "list") = true)
    (eb_list_Bar : PySem.W.subIn K (.ref C_Bar) (.type "list") = some false)
    (ea_tuple_Bar : PySem.W.notFirst K C_Bar (.type "tuple") = true)
    (eb_tuple_Bar : PySem.W.subIn K (.ref C_Bar) (.type "tuple") = some false)
    (ea_dict_Bar : PySem.W.notFirst K C_Bar (.type "dict") = true)
    (eb_dict_Bar : PySem.W.subIn K (.ref C_Bar) (.type "dict") = some false)
    (na_Bar : PySem.W.findIn K (.ref C_Bar) "__ne__" = some (some (.builtin "object.__ne__")))
    (nb_Bar : PySem.W.mroIn K C_Bar (.type "object") = some true)
    (n_Web : PySem.W.nsIn K mainGlobals "Web" = some (some (.ref C_Web)))
    (pg_Web : PySem.W.plainGet K C_Web Str.empty = true)
    (hd_Web : PySem.W.hasDictIn K C_Web = true)
    (po_Web : PySem.W.plainOver K C_Web = true)
    (sa_Web : PySem.W.findIn K (.ref C_Web) "__setattr__" = some (some (.builtin "object.__setattr__")))
    (mk_Web : PySem.W.makesIn K C_Web = true)
    (kc_Web : PySem.W.keepIn K (.ref C_Web) = true)
    (nf_Web_rods : PySem.W.findIn K (.ref C_Web) "rods" = some none)
    (nf_Web_bars : PySem.W.findIn K (.ref C_Web) "bars" = some none)
    (nf_Web_held : PySem.W.findIn K (.ref C_Web) "_held" = some none)
    (n_Web_init : PySem.W.findIn K (.ref C_Web) "__init__" = some (some (.ref a_Web_init)))
    (i_Web_init : PySem.W.isFn K (.ref a_Web_init) = true)
    (l_Web_init : K.lookup a_Web_init = some ⟨oc_Web_init, od_Web_init, .func (PySem.W.fnOf "__init__" "Web.__init__" (defArgs s_Web_init) (defBody s_Web_init) (defScope s_Web_init) .none kV_Web_init dc_Web_init pm_Web_init an_Web_init cd_Web_init ct_Web_init), sl_Web_init⟩)
    (c_Web_init : PySem.W.codeIn K cd_Web_init "Web.__init__" = true)
    (p_Web_init : PySem.W.keepIn K (.ref a_Web_init) = true)
    (n_Web_held : PySem.W.findIn K (.ref C_Web) "held" = some (some (.ref a_Web_held)))
    (i_Web_held : PySem.W.isFn K (.ref a_Web_held) = true)
    (l_Web_held : K.lookup a_Web_held = some ⟨oc_Web_held, od_Web_held, .func (PySem.W.fnOf "held" "Web.held" (defArgs s_Web_held) (defBody s_Web_held) (defScope s_Web_held) .none kV_Web_held dc_Web_held pm_Web_held an_Web_held cd_Web_held ct_Web_held), sl_Web_held⟩)
    (c_Web_held : PySem.W.codeIn K cd_Web_held "Web.held" = true)
    (p_Web_held : PySem.W.keepIn K (.ref a_Web_held) = true)
    (n_Web_hanging : PySem.W.findIn K (.ref C_Web) "hanging" = some (some (.ref a_Web_hanging)))
    (i_Web_hanging : PySem.W.isFn K (.ref a_Web_hanging) = true)
    (l_Web_hanging : K.lookup a_Web_hanging = some ⟨oc_Web_hanging, od_Web_hanging, .func (PySem.W.fnOf "hanging" "Web.hanging" (defArgs s_Web_hanging) (defBody s_Web_hanging) (defScope s_Web_hanging) .none kV_Web_hanging dc_Web_hanging pm_Web_hanging an_Web_hanging cd_Web_hanging ct_Web_hanging), sl_Web_hanging⟩)
    (c_Web_hanging : PySem.W.codeIn K cd_Web_hanging "Web.hanging" = true)
    (p_Web_hanging : PySem.W.keepIn K (.ref a_Web_hanging) = true)
    (n_Web_eq : PySem.W.findIn K (.ref C_Web) "__eq__" = some (some (.ref a_Web_eq)))
    (i_Web_eq : PySem.W.isFn K (.ref a_Web_eq) = true)
    (l_Web_eq : K.lookup a_Web_eq = some ⟨oc_Web_eq, od_Web_eq, .func (PySem.W.fnOf "__eq__" "Web.__eq__" (defArgs s_Web_eq) (defBody s_Web_eq) (defScope s_Web_eq) .none kV_Web_eq dc_Web_eq pm_Web_eq an_Web_eq cd_Web_eq ct_Web_eq), sl_Web_eq⟩)
    (c_Web_eq : PySem.W.codeIn K cd_Web_eq "Web.__eq__" = true)
    (p_Web_eq : PySem.W.keepIn K (.ref a_Web_eq) = true)
    (ea_NoneType_Web : PySem.W.notFirst K C_Web (.type "NoneType") = true)
    (eb_NoneType_Web : PySem.W.subIn K (.ref C_Web) (.type "NoneType") = some false)
    (ea_bool_Web : PySem.W.notFirst K C_Web (.type "bool") = true)
    (eb_bool_Web : PySem.W.subIn K (.ref C_Web) (.type "bool") = some false)
    (ea_int_Web : PySem.W.notFirst K C_Web (.type "int") = true)
    (eb_int_Web : PySem.W.subIn K (.ref C_Web) (.type "int") = some false)
    (ea_str_Web : PySem.W.notFirst K C_Web (.type "str") = true)
    (eb_str_Web : PySem.W.subIn K (.ref C_Web) (.type "str") = some false)
    (ea_list_Web : PySem.W.notFirst K C_Web (.type "list") = true)
    (eb_list_Web : PySem.W.subIn K (.ref C_Web) (.type "list") = some false)
    (ea_tuple_Web : PySem.W.notFirst K C_Web (.type "tuple") = true)
    (eb_tuple_Web : PySem.W.subIn K (.ref C_Web) (.type "tuple") = some false)
    (ea_dict_Web : PySem.W.notFirst K C_Web (.type "dict") = true)
    (eb_dict_Web : PySem.W.subIn K (.ref C_Web) (.type "dict") = some false)
    (na_Web : PySem.W.findIn K (.ref C_Web) "__ne__" = some (some (.builtin "object.__ne__")))
    (nb_Web : PySem.W.mroIn K C_Web (.type "object") = some true)
    (nfst_Places_Places : PySem.W.notFirst K C_Places (.ref C_Places) = true)
    (nfst_Places_Bar : PySem.W.notFirst K C_Places (.ref C_Bar) = true)
    (nfst_Places_Web : PySem.W.notFirst K C_Places (.ref C_Web) = true)
    (dc_Places_Web : C_Places ≠ C_Web)
    (nfst_Bar_Places : PySem.W.notFirst K C_Bar (.ref C_Places) = true)
    (dc_Bar_Places : C_Bar ≠ C_Places)
    (nfst_Bar_Bar : PySem.W.notFirst K C_Bar (.ref C_Bar) = true)
    (nfst_Bar_Web : PySem.W.notFirst K C_Bar (.ref C_Web) = true)
    (dc_Bar_Web : C_Bar ≠ C_Web)
    (nfst_Web_Places : PySem.W.notFirst K C_Web (.ref C_Places) = true)
    (nfst_Web_Bar : PySem.W.notFirst K C_Web (.ref C_Bar) = true)
    (nfst_Web_Web : PySem.W.notFirst K C_Web (.ref C_Web) = true)
    (n_HooksError : PySem.W.nsIn K mainGlobals "HooksError" = some (some (.ref C_HooksError)))
    (be_HooksError : PySem.W.subIn K (.ref C_HooksError) (.type "BaseException") = some true)
    (ty_HooksError : PySem.W.typeIn K (.ref C_HooksError) = some (.type "type"))
    (hd_HooksError : PySem.W.hasDictIn K C_HooksError = true)
    (n_BadCount : PySem.W.nsIn K mainGlobals "BadCount" = some (some (.ref C_BadCount)))
    (x_BadCount : K.lookup C_BadCount = some (excClassObj nm_BadCount q_BadCount C_BadCount N_BadCount bs_BadCount [.ref C_HooksError, .type "ValueError", .type "Exception", .type "BaseException", .type "object"] true sn_BadCount sub_BadCount ab_BadCount col_BadCount dd_BadCount u0_BadCount u1_BadCount u2_BadCount u3_BadCount u5_BadCount "ValueError.__new__"))
    (sa_BadCount : PySem.W.findIn K (.ref C_BadCount) "__setattr__" = some (some (.builtin "object.__setattr__")))
    (ga_BadCount : PySem.W.findIn K (.ref C_BadCount) "__getattribute__" = some (some (.builtin "BaseException.__getattribute__")))
    (gg_BadCount : PySem.W.findIn K (.ref C_BadCount) "__getattr__" = some none)
    (kc_BadCount : PySem.W.keepIn K (.ref C_BadCount) = true)
    (be_BadCount : PySem.W.subIn K (.ref C_BadCount) (.type "BaseException") = some true)
    (ty_BadCount : PySem.W.typeIn K (.ref C_BadCount) = some (.type "type"))
    (hd_BadCount : PySem.W.hasDictIn K C_BadCount = true)
    (cl_BadCount : PySem.W.findIn K (.ref C_BadCount) "__class__" = some (some (.builtin "object.__class__")))
    (ob_BadCount : PySem.W.mroIn K C_BadCount (.type "object") = some true)
    (sb_BadCount_HooksError : PySem.W.subIn K (.ref C_BadCount) (.ref C_HooksError) = some true)
    (n_BadCount_init : PySem.W.findIn K (.ref C_BadCount) "__init__" = some (some (.ref a_BadCount_init)))
    (t_BadCount_init : PySem.W.typeIn K (.ref a_BadCount_init) = some (.type "function"))
    (l_BadCount_init : K.lookup a_BadCount_init = some ⟨oc_BadCount_init, od_BadCount_init, .func (PySem.W.fnOf "__init__" "BadCount.__init__" (defArgs s_BadCount_init) (defBody s_BadCount_init) (defScope s_BadCount_init) .none kV_BadCount_init dc_BadCount_init pm_BadCount_init an_BadCount_init cd_BadCount_init ct_BadCount_init), sl_BadCount_init⟩)
    (c_BadCount_init : PySem.W.codeIn K cd_BadCount_init "BadCount.__init__" = true)
    (p_BadCount_init : PySem.W.keepIn K (.ref a_BadCount_init) = true)
    (nf_BadCount_what : PySem.W.findIn K (.ref C_BadCount) "what" = some none)
    (nf_BadCount_count : PySem.W.findIn K (.ref C_BadCount) "count" = some none)
    (n_NoRod : PySem.W.nsIn K mainGlobals "NoRod" = some (some (.ref C_NoRod)))
    (x_NoRod : K.lookup C_NoRod = some (excClassObj nm_NoRod q_NoRod C_NoRod N_NoRod bs_NoRod [.ref C_HooksError, .type "ValueError", .type "Exception", .type "BaseException", .type "object"] true sn_NoRod sub_NoRod ab_NoRod col_NoRod dd_NoRod u0_NoRod u1_NoRod u2_NoRod u3_NoRod u5_NoRod "ValueError.__new__"))
    (sa_NoRod : PySem.W.findIn K (.ref C_NoRod) "__setattr__" = some (some (.builtin "object.__setattr__")))
    (ga_NoRod : PySem.W.findIn K (.ref C_NoRod) "__getattribute__" = some (some (.builtin "BaseException.__getattribute__")))
    (gg_NoRod : PySem.W.findIn K (.ref C_NoRod) "__getattr__" = some none)
    (kc_NoRod : PySem.W.keepIn K (.ref C_NoRod) = true)
    (be_NoRod : PySem.W.subIn K (.ref C_NoRod) (.type "BaseException") = some true)
    (ty_NoRod : PySem.W.typeIn K (.ref C_NoRod) = some (.type "type"))
    (hd_NoRod : PySem.W.hasDictIn K C_NoRod = true)
    (cl_NoRod : PySem.W.findIn K (.ref C_NoRod) "__class__" = some (some (.builtin "object.__class__")))
    (ob_NoRod : PySem.W.mroIn K C_NoRod (.type "object") = some true)
    (sb_NoRod_HooksError : PySem.W.subIn K (.ref C_NoRod) (.ref C_HooksError) = some true)
    (n_NoRod_init : PySem.W.findIn K (.ref C_NoRod) "__init__" = some (some (.ref a_NoRod_init)))
    (t_NoRod_init : PySem.W.typeIn K (.ref a_NoRod_init) = some (.type "function"))
    (l_NoRod_init : K.lookup a_NoRod_init = some ⟨oc_NoRod_init, od_NoRod_init, .func (PySem.W.fnOf "__init__" "NoRod.__init__" (defArgs s_NoRod_init) (defBody s_NoRod_init) (defScope s_NoRod_init) .none kV_NoRod_init dc_NoRod_init pm_NoRod_init an_NoRod_init cd_NoRod_init ct_NoRod_init), sl_NoRod_init⟩)
    (c_NoRod_init : PySem.W.codeIn K cd_NoRod_init "NoRod.__init__" = true)
    (p_NoRod_init : PySem.W.keepIn K (.ref a_NoRod_init) = true)
    (nf_NoRod_rod : PySem.W.findIn K (.ref C_NoRod) "rod" = some none)
    (n_SameRod : PySem.W.nsIn K mainGlobals "SameRod" = some (some (.ref C_SameRod)))
    (x_SameRod : K.lookup C_SameRod = some (excClassObj nm_SameRod q_SameRod C_SameRod N_SameRod bs_SameRod [.ref C_HooksError, .type "ValueError", .type "Exception", .type "BaseException", .type "object"] true sn_SameRod sub_SameRod ab_SameRod col_SameRod dd_SameRod u0_SameRod u1_SameRod u2_SameRod u3_SameRod u5_SameRod "ValueError.__new__"))
    (sa_SameRod : PySem.W.findIn K (.ref C_SameRod) "__setattr__" = some (some (.builtin "object.__setattr__")))
    (ga_SameRod : PySem.W.findIn K (.ref C_SameRod) "__getattribute__" = some (some (.builtin "BaseException.__getattribute__")))
    (gg_SameRod : PySem.W.findIn K (.ref C_SameRod) "__getattr__" = some none)
    (kc_SameRod : PySem.W.keepIn K (.ref C_SameRod) = true)
    (be_SameRod : PySem.W.subIn K (.ref C_SameRod) (.type "BaseException") = some true)
    (ty_SameRod : PySem.W.typeIn K (.ref C_SameRod) = some (.type "type"))
    (hd_SameRod : PySem.W.hasDictIn K C_SameRod = true)
    (cl_SameRod : PySem.W.findIn K (.ref C_SameRod) "__class__" = some (some (.builtin "object.__class__")))
    (ob_SameRod : PySem.W.mroIn K C_SameRod (.type "object") = some true)
    (sb_SameRod_HooksError : PySem.W.subIn K (.ref C_SameRod) (.ref C_HooksError) = some true)
    (n_SameRod_init : PySem.W.findIn K (.ref C_SameRod) "__init__" = some (some (.ref a_SameRod_init)))
    (t_SameRod_init : PySem.W.typeIn K (.ref a_SameRod_init) = some (.type "function"))
    (l_SameRod_init : K.lookup a_SameRod_init = some ⟨oc_SameRod_init, od_SameRod_init, .func (PySem.W.fnOf "__init__" "SameRod.__init__" (defArgs s_SameRod_init) (defBody s_SameRod_init) (defScope s_SameRod_init) .none kV_SameRod_init dc_SameRod_init pm_SameRod_init an_SameRod_init cd_SameRod_init ct_SameRod_init), sl_SameRod_init⟩)
    (c_SameRod_init : PySem.W.codeIn K cd_SameRod_init "SameRod.__init__" = true)
    (p_SameRod_init : PySem.W.keepIn K (.ref a_SameRod_init) = true)
    (nf_SameRod_rod : PySem.W.findIn K (.ref C_SameRod) "rod" = some none)
    (n_BadSpan : PySem.W.nsIn K mainGlobals "BadSpan" = some (some (.ref C_BadSpan)))
    (x_BadSpan : K.lookup C_BadSpan = some (excClassObj nm_BadSpan q_BadSpan C_BadSpan N_BadSpan bs_BadSpan [.ref C_HooksError, .type "ValueError", .type "Exception", .type "BaseException", .type "object"] true sn_BadSpan sub_BadSpan ab_BadSpan col_BadSpan dd_BadSpan u0_BadSpan u1_BadSpan u2_BadSpan u3_BadSpan u5_BadSpan "ValueError.__new__"))
    (sa_BadSpan : PySem.W.findIn K (.ref C_BadSpan) "__setattr__" = some (some (.builtin "object.__setattr__")))
    (ga_BadSpan : PySem.W.findIn K (.ref C_BadSpan) "__getattribute__" = some (some (.builtin "BaseException.__getattribute__")))
    (gg_BadSpan : PySem.W.findIn K (.ref C_BadSpan) "__getattr__" = some none)
    (kc_BadSpan : PySem.W.keepIn K (.ref C_BadSpan) = true)
    (be_BadSpan : PySem.W.subIn K (.ref C_BadSpan) (.type "BaseException") = some true)
    (ty_BadSpan : PySem.W.typeIn K (.ref C_BadSpan) = some (.type "type"))
    (hd_BadSpan : PySem.W.hasDictIn K C_BadSpan = true)
    (cl_BadSpan : PySem.W.findIn K (.ref C_BadSpan) "__class__" = some (some (.builtin "object.__class__")))
    (ob_BadSpan : PySem.W.mroIn K C_BadSpan (.type "object") = some true)
    (sb_BadSpan_HooksError : PySem.W.subIn K (.ref C_BadSpan) (.ref C_HooksError) = some true)
    (n_BadSpan_init : PySem.W.findIn K (.ref C_BadSpan) "__init__" = some (some (.ref a_BadSpan_init)))
    (t_BadSpan_init : PySem.W.typeIn K (.ref a_BadSpan_init) = some (.type "function"))
    (l_BadSpan_init : K.lookup a_BadSpan_init = some ⟨oc_BadSpan_init, od_BadSpan_init, .func (PySem.W.fnOf "__init__" "BadSpan.__init__" (defArgs s_BadSpan_init) (defBody s_BadSpan_init) (defScope s_BadSpan_init) .none kV_BadSpan_init dc_BadSpan_init pm_BadSpan_init an_BadSpan_init cd_BadSpan_init ct_BadSpan_init), sl_BadSpan_init⟩)
    (c_BadSpan_init : PySem.W.codeIn K cd_BadSpan_init "BadSpan.__init__" = true)
    (p_BadSpan_init : PySem.W.keepIn K (.ref a_BadSpan_init) = true)
    (nf_BadSpan_bar : PySem.W.findIn K (.ref C_BadSpan) "bar" = some none)
    (n_NotSquare : PySem.W.nsIn K mainGlobals "NotSquare" = some (some (.ref C_NotSquare)))
    (x_NotSquare : K.lookup C_NotSquare = some (excClassObj nm_NotSquare q_NotSquare C_NotSquare N_NotSquare bs_NotSquare [.ref C_HooksError, .type "ValueError", .type "Exception", .type "BaseException", .type "object"] true sn_NotSquare sub_NotSquare ab_NotSquare col_NotSquare dd_NotSquare u0_NotSquare u1_NotSquare u2_NotSquare u3_NotSquare u5_NotSquare "ValueError.__new__"))
    (sa_NotSquare : PySem.W.findIn K (.ref C_NotSquare) "__setattr__" = some (some (.builtin "object.__setattr__")))
    (ga_NotSquare : PySem.W.findIn K (.ref C_NotSquare) "__getattribute__" = some (some (.builtin "BaseException.__getattribute__")))
    (gg_NotSquare : PySem.W.findIn K (.ref C_NotSquare) "__getattr__" = some none)
    (kc_NotSquare : PySem.W.keepIn K (.ref C_NotSquare) = true)
    (be_NotSquare : PySem.W.subIn K (.ref C_NotSquare) (.type "BaseException") = some true)
    (ty_NotSquare : PySem.W.typeIn K (.ref C_NotSquare) = some (.type "type"))
    (hd_NotSquare : PySem.W.hasDictIn K C_NotSquare = true)
    (cl_NotSquare : PySem.W.findIn K (.ref C_NotSquare) "__class__" = some (some (.builtin "object.__class__")))
    (ob_NotSquare : PySem.W.mroIn K C_NotSquare (.type "object") = some true)
    (sb_NotSquare_HooksError : PySem.W.subIn K (.ref C_NotSquare) (.ref C_HooksError) = some true)
    (n_NotSquare_init : PySem.W.findIn K (.ref C_NotSquare) "__init__" = some (some (.ref a_NotSquare_init)))
    (t_NotSquare_init : PySem.W.typeIn K (.ref a_NotSquare_init) = some (.type "function"))
    (l_NotSquare_init : K.lookup a_NotSquare_init = some ⟨oc_NotSquare_init, od_NotSquare_init, .func (PySem.W.fnOf "__init__" "NotSquare.__init__" (defArgs s_NotSquare_init) (defBody s_NotSquare_init) (defScope s_NotSquare_init) .none kV_NotSquare_init dc_NotSquare_init pm_NotSquare_init an_NotSquare_init cd_NotSquare_init ct_NotSquare_init), sl_NotSquare_init⟩)
    (c_NotSquare_init : PySem.W.codeIn K cd_NotSquare_init "NotSquare.__init__" = true)
    (p_NotSquare_init : PySem.W.keepIn K (.ref a_NotSquare_init) = true)
    (nf_NotSquare_bars : PySem.W.findIn K (.ref C_NotSquare) "bars" = some none)
    (nf_NotSquare_wanted : PySem.W.findIn K (.ref C_NotSquare) "wanted" = some none)
    (n_BadPlace : PySem.W.nsIn K mainGlobals "BadPlace" = some (some (.ref C_BadPlace)))
    (x_BadPlace : K.lookup C_BadPlace = some (excClassObj nm_BadPlace q_BadPlace C_BadPlace N_BadPlace bs_BadPlace [.ref C_HooksError, .type "ValueError", .type "Exception", .type "BaseException", .type "object"] true sn_BadPlace sub_BadPlace ab_BadPlace col_BadPlace dd_BadPlace u0_BadPlace u1_BadPlace u2_BadPlace u3_BadPlace u5_BadPlace "ValueError.__new__"))
    (sa_BadPlace : PySem.W.findIn K (.ref C_BadPlace) "__setattr__" = some (some (.builtin "object.__setattr__")))
    (ga_BadPlace : PySem.W.findIn K (.ref C_BadPlace) "__getattribute__" = some (some (.builtin "BaseException.__getattribute__")))
    (gg_BadPlace : PySem.W.findIn K (.ref C_BadPlace) "__getattr__" = some none)
    (kc_BadPlace : PySem.W.keepIn K (.ref C_BadPlace) = true)
    (be_BadPlace : PySem.W.subIn K (.ref C_BadPlace) (.type "BaseException") = some true)
    (ty_BadPlace : PySem.W.typeIn K (.ref C_BadPlace) = some (.type "type"))
    (hd_BadPlace : PySem.W.hasDictIn K C_BadPlace = true)
    (cl_BadPlace : PySem.W.findIn K (.ref C_BadPlace) "__class__" = some (some (.builtin "object.__class__")))
    (ob_BadPlace : PySem.W.mroIn K C_BadPlace (.type "object") = some true)
    (sb_BadPlace_HooksError : PySem.W.subIn K (.ref C_BadPlace) (.ref C_HooksError) = some true)
    (n_BadPlace_init : PySem.W.findIn K (.ref C_BadPlace) "__init__" = some (some (.ref a_BadPlace_init)))
    (t_BadPlace_init : PySem.W.typeIn K (.ref a_BadPlace_init) = some (.type "function"))
    (l_BadPlace_init : K.lookup a_BadPlace_init = some ⟨oc_BadPlace_init, od_BadPlace_init, .func (PySem.W.fnOf "__init__" "BadPlace.__init__" (defArgs s_BadPlace_init) (defBody s_BadPlace_init) (defScope s_BadPlace_init) .none kV_BadPlace_init dc_BadPlace_init pm_BadPlace_init an_BadPlace_init cd_BadPlace_init ct_BadPlace_init), sl_BadPlace_init⟩)
    (c_BadPlace_init : PySem.W.codeIn K cd_BadPlace_init "BadPlace.__init__" = true)
    (p_BadPlace_init : PySem.W.keepIn K (.ref a_BadPlace_init) = true)
    (nf_BadPlace_bar : PySem.W.findIn K (.ref C_BadPlace) "bar" = some none)
    (dc_BadPlace_BadCount : C_BadPlace ≠ C_BadCount)
    (sb_BadPlace_BadCount : PySem.W.subIn K (.ref C_BadPlace) (.ref C_BadCount) = some false)
    (z_abs : PySem.W.nsIn K mainGlobals "abs" = some none)
    (z_len : PySem.W.nsIn K mainGlobals "len" = some none)
    (z_range : PySem.W.nsIn K mainGlobals "range" = some none)
    (z_tuple : PySem.W.nsIn K mainGlobals "tuple" = some none)
    (z_list : PySem.W.nsIn K mainGlobals "list" = some none)
    (z_dict : PySem.W.nsIn K mainGlobals "dict" = some none)
    (z_sorted : PySem.W.nsIn K mainGlobals "sorted" = some none)
    (z_enumerate : PySem.W.nsIn K mainGlobals "enumerate" = some none)
    (z_zip : PySem.W.nsIn K mainGlobals "zip" = some none)
    (z_min : PySem.W.nsIn K mainGlobals "min" = some none)
    (z_all : PySem.W.nsIn K mainGlobals "all" = some none)
    (z_int : PySem.W.nsIn K mainGlobals "int" = some none)
    (z_isinstance : PySem.W.nsIn K mainGlobals "isinstance" = some none)
    (z_type : PySem.W.nsIn K mainGlobals "type" = some none)
    (v_gcd : PySem.W.nsIn K mainGlobals "gcd" = some (some (.builtin "math.gcd")))
    (v_LEAST_RODS : PySem.W.nsIn K mainGlobals "LEAST_RODS" = some (some (.int 3 t_LEAST_RODS)))
    (v_MOST_RODS : PySem.W.nsIn K mainGlobals "MOST_RODS" = some (some (.int 10 t_MOST_RODS)))
    (v_MOST_BARS : PySem.W.nsIn K mainGlobals "MOST_BARS" = some (some (.int 8 t_MOST_BARS)))
    (v_MOST_HEIGHT : PySem.W.nsIn K mainGlobals "MOST_HEIGHT" = some (some (.int 1000000 t_MOST_HEIGHT)))
    (v_MOST_LENGTH : PySem.W.nsIn K mainGlobals "MOST_LENGTH" = some (some (.int 1000000 t_MOST_LENGTH)))
    : Tx K mg := {
  a_check_rods := a_check_rods,
  fd_check_rods := _,
  F_check_rods := fun_mk (st := s_check_rods) l_check_rods c_check_rods p_check_rods,
  b_check_rods := (fun_mk (st := s_check_rods) l_check_rods c_check_rods p_check_rods).binds (ps := ["rods", "held"]) fun _ _ _ _ _ _ us hl => match us, hl with | [_, _], _ => rfl,
  m_check_rods := PySem.W.mg_of X G n_check_rods,
  a_check_bars := a_check_bars,
  fd_check_bars := _,
  F_check_bars := fun_mk (st := s_check_bars) l_check_bars c_check_bars p_check_bars,
  b_check_bars := (fun_mk (st := s_check_bars) l_check_bars c_check_bars p_check_bars).binds (ps := ["rods", "held", "bars"]) fun _ _ _ _ _ _ us hl => match us, hl with | [_, _, _], _ => rfl,
  m_check_bars := PySem.W.mg_of X G n_check_bars,
  a_check_bar := a_check_bar,
  fd_check_bar := _,
  F_check_bar := fun_mk (st := s_check_bar) l_check_bar c_check_bar p_check_bar,
  b_check_bar := (fun_mk (st := s_check_bar) l_check_bar c_check_bar p_check_bar).binds (ps := ["rods", "number", "bar"]) fun _ _ _ _ _ _ us hl => match us, hl with | [_, _, _], _ => rfl,
  m_check_bar := PySem.W.mg_of X G n_check_bar,
  a_divisor := a_divisor,
  fd_divisor := _,
  F_divisor := fun_mk (st := s_divisor) l_divisor c_divisor p_divisor,
  b_divisor := (fun_mk (st := s_divisor) l_divisor c_divisor p_divisor).binds (ps := ["numbers"]) fun _ _ _ _ _ _ us hl => match us, hl with | [_], _ => rfl,
  m_divisor := PySem.W.mg_of X G n_divisor,
  a_lowest := a_lowest,
  fd_lowest := _,
  F_lowest := fun_mk (st := s_lowest) l_lowest c_lowest p_lowest,
  b_lowest := (fun_mk (st := s_lowest) l_lowest c_lowest p_lowest).binds (ps := ["tops", "bottom"]) fun _ _ _ _ _ _ us hl => match us, hl with | [_, _], _ => rfl,
  m_lowest := PySem.W.mg_of X G n_lowest,
  a_check_places := a_check_places,
  fd_check_places := _,
  F_check_places := fun_mk (st := s_check_places) l_check_places c_check_places p_check_places,
  b_check_places := (fun_mk (st := s_check_places) l_check_places c_check_places p_check_places).binds (ps := ["web", "places"]) fun _ _ _ _ _ _ us hl => match us, hl with | [_, _], _ => rfl,
  m_check_places := PySem.W.mg_of X G n_check_places,
  a_is_within := a_is_within,
  fd_is_within := _,
  F_is_within := fun_mk (st := s_is_within) l_is_within c_is_within p_is_within,
  b_is_within := (fun_mk (st := s_is_within) l_is_within c_is_within p_is_within).binds (ps := ["web", "places"]) fun _ _ _ _ _ _ us hl => match us, hl with | [_, _], _ => rfl,
  m_is_within := PySem.W.mg_of X G n_is_within,
  a_corners := a_corners,
  fd_corners := _,
  F_corners := fun_mk (st := s_corners) l_corners c_corners p_corners,
  b_corners := (fun_mk (st := s_corners) l_corners c_corners p_corners).binds (ps := ["web"]) fun _ _ _ _ _ _ us hl => match us, hl with | [_], _ => rfl,
  m_corners := PySem.W.mg_of X G n_corners,
  a_corner_rows := a_corner_rows,
  fd_corner_rows := _,
  F_corner_rows := fun_mk (st := s_corner_rows) l_corner_rows c_corner_rows p_corner_rows,
  b_corner_rows := (fun_mk (st := s_corner_rows) l_corner_rows c_corner_rows p_corner_rows).binds (ps := ["web"]) fun _ _ _ _ _ _ us hl => match us, hl with | [_], _ => rfl,
  m_corner_rows := PySem.W.mg_of X G n_corner_rows,
  a_ends := a_ends,
  fd_ends := _,
  F_ends := fun_mk (st := s_ends) l_ends c_ends p_ends,
  b_ends := (fun_mk (st := s_ends) l_ends c_ends p_ends).binds (ps := ["bar"]) fun _ _ _ _ _ _ us hl => match us, hl with | [_], _ => rfl,
  m_ends := PySem.W.mg_of X G n_ends,
  a_spread := a_spread,
  fd_spread := _,
  F_spread := fun_mk (st := s_spread) l_spread c_spread p_spread,
  b_spread := (fun_mk (st := s_spread) l_spread c_spread p_spread).binds (ps := ["choices"]) fun _ _ _ _ _ _ us hl => match us, hl with | [_], _ => rfl,
  m_spread := PySem.W.mg_of X G n_spread,
  a_l_cell_at := a_l_cell_at,
  fd_l_cell_at := _,
  F_l_cell_at := fun_mk (st := s_l_cell_at) l_l_cell_at c_l_cell_at p_l_cell_at,
  b_l_cell_at := (fun_mk (st := s_l_cell_at) l_l_cell_at c_l_cell_at p_l_cell_at).binds (ps := ["_law_script", "_law_k"]) fun _ _ _ _ _ _ us hl => match us, hl with | [_, _], _ => rfl,
  m_l_cell_at := PySem.W.mg_of X G n_l_cell_at,
  a_l_state := a_l_state,
  fd_l_state := _,
  F_l_state := fun_mk (st := s_l_state) l_l_state c_l_state p_l_state,
  b_l_state := (fun_mk (st := s_l_state) l_l_state c_l_state p_l_state).binds (ps := ["_law_source"]) fun _ _ _ _ _ _ us hl => match us, hl with | [_], _ => rfl,
  m_l_state := PySem.W.mg_of X G n_l_state,
  a_l_digit := a_l_digit,
  fd_l_digit := _,
  F_l_digit := fun_mk (st := s_l_digit) l_l_digit c_l_digit p_l_digit,
  b_l_digit := (fun_mk (st := s_l_digit) l_l_digit c_l_digit p_l_digit).binds (ps := ["_law_state_here", "_law_base"]) fun _ _ _ _ _ _ us hl => match us, hl with | [_, _], _ => rfl,
  m_l_digit := PySem.W.mg_of X G n_l_digit,
  a_l_bar := a_l_bar,
  fd_l_bar := _,
  F_l_bar := fun_mk (st := s_l_bar) l_l_bar c_l_bar p_l_bar,
  b_l_bar := (fun_mk (st := s_l_bar) l_l_bar c_l_bar p_l_bar).binds (ps := ["_law_s", "_law_rods", "_law_most", "_law_hook"]) fun _ _ _ _ _ _ us hl => match us, hl with | [_, _, _, _], _ => rfl,
  m_l_bar := PySem.W.mg_of X G n_l_bar,
  a_l_web := a_l_web,
  fd_l_web := _,
  F_l_web := fun_mk (st := s_l_web) l_l_web c_l_web p_l_web,
  b_l_web := (fun_mk (st := s_l_web) l_l_web c_l_web p_l_web).binds (ps := ["_law_s", "_law_count", "_law_most"]) fun _ _ _ _ _ _ us hl => match us, hl with | [_, _, _], _ => rfl,
  m_l_web := PySem.W.mg_of X G n_l_web,
  a_l_made := a_l_made,
  fd_l_made := _,
  F_l_made := fun_mk (st := s_l_made) l_l_made c_l_made p_l_made,
  b_l_made := (fun_mk (st := s_l_made) l_l_made c_l_made p_l_made).binds (ps := ["_law_web_here"]) fun _ _ _ _ _ _ us hl => match us, hl with | [_], _ => rfl,
  m_l_made := PySem.W.mg_of X G n_l_made,
  a_l_within := a_l_within,
  fd_l_within := _,
  F_l_within := fun_mk (st := s_l_within) l_l_within c_l_within p_l_within,
  b_l_within := (fun_mk (st := s_l_within) l_l_within c_l_within p_l_within).binds (ps := ["_law_s", "_law_bars", "_law_share"]) fun _ _ _ _ _ _ us hl => match us, hl with | [_, _, _], _ => rfl,
  m_l_within := PySem.W.mg_of X G n_l_within,
  a_l_corners := a_l_corners,
  fd_l_corners := _,
  F_l_corners := fun_mk (st := s_l_corners) l_l_corners c_l_corners p_l_corners,
  b_l_corners := (fun_mk (st := s_l_corners) l_l_corners c_l_corners p_l_corners).binds (ps := ["_law_bars"]) fun _ _ _ _ _ _ us hl => match us, hl with | [_], _ => rfl,
  m_l_corners := PySem.W.mg_of X G n_l_corners,
  a_l_refusal := a_l_refusal,
  fd_l_refusal := _,
  F_l_refusal := fun_mk (st := s_l_refusal) l_l_refusal c_l_refusal p_l_refusal,
  b_l_refusal := (fun_mk (st := s_l_refusal) l_l_refusal c_l_refusal p_l_refusal).binds (ps := ["_law_ask"]) fun _ _ _ _ _ _ us hl => match us, hl with | [_], _ => rfl,
  m_l_refusal := PySem.W.mg_of X G n_l_refusal,
  a_l_places_right := a_l_places_right,
  fd_l_places_right := _,
  F_l_places_right := fun_mk (st := s_l_places_right) l_l_places_right c_l_places_right p_l_places_right,
  b_l_places_right := (fun_mk (st := s_l_places_right) l_l_places_right c_l_places_right p_l_places_right).binds (ps := ["_law_s"]) fun _ _ _ _ _ _ us hl => match us, hl with | [_], _ => rfl,
  m_l_places_right := PySem.W.mg_of X G n_l_places_right,
  a_law := a_law,
  fd_law := _,
  F_law := fun_mk (st := s_law) l_law c_law p_law,
  b_law := (fun_mk (st := s_law) l_law c_law p_law).binds (ps := ["_law_script"]) fun _ _ _ _ _ _ us hl => match us, hl with | [_], _ => rfl,
  m_law := PySem.W.mg_of X G n_law,
  C_Places := C_Places,
  m_Places := PySem.W.mg_of X G n_Places,
  c_Places := ⟨pg_Places, hd_Places, po_Places, sa_Places⟩,
  mk_Places := mk_Places,
  nf_Places_numbers := nf_Places_numbers,
  nf_Places_parts := nf_Places_parts,
  a_Places_init := a_Places_init,
  fd_Places_init := _,
  F_Places_init := fun_mk (st := s_Places_init) l_Places_init c_Places_init p_Places_init,
  b_Places_init := (fun_mk (st := s_Places_init) l_Places_init c_Places_init p_Places_init).binds (ps := ["self", "numbers", "parts"]) fun _ _ _ _ _ _ us hl => match us, hl with | [_, _, _], _ => rfl,
  k_Places := ⟨mk_Places, n_Places_init, i_Places_init, kc_Places⟩,
  a_Places_eq := a_Places_eq,
  fd_Places_eq := _,
  F_Places_eq := fun_mk (st := s_Places_eq) l_Places_eq c_Places_eq p_Places_eq,
  b_Places_eq := (fun_mk (st := s_Places_eq) l_Places_eq c_Places_eq p_Places_eq).binds (ps := ["self", "other"]) fun _ _ _ _ _ _ us hl => match us, hl with | [_, _], _ => rfl,
  M_Places_eq := ⟨n_Places_eq, i_Places_eq, p_Places_eq⟩,
  ef_Places := eqFacts_mk ea_NoneType_Places eb_NoneType_Places ea_bool_Places eb_bool_Places ea_int_Places eb_int_Places ea_str_Places eb_str_Places ea_list_Places eb_list_Places ea_tuple_Places eb_tuple_Places ea_dict_Places eb_dict_Places,
  ne_Places := ⟨na_Places, nb_Places⟩,
  C_Bar := C_Bar,
  m_Bar := PySem.W.mg_of X G n_Bar,
  c_Bar := ⟨pg_Bar, hd_Bar, po_Bar, sa_Bar⟩,
  mk_Bar := mk_Bar,
  nf_Bar_a := nf_Bar_a,
  nf_Bar_b := nf_Bar_b,
  nf_Bar_c := nf_Bar_c,
  nf_Bar_length := nf_Bar_length,
  nf_Bar_least := nf_Bar_least,
  nf_Bar_greatest := nf_Bar_greatest,
  a_Bar_init := a_Bar_init,
  fd_Bar_init := _,
  F_Bar_init := fun_mk (st := s_Bar_init) l_Bar_init c_Bar_init p_Bar_init,
  b_Bar_init := (fun_mk (st := s_Bar_init) l_Bar_init c_Bar_init p_Bar_init).binds (ps := ["self", "a", "b", "c", "length", "least", "greatest"]) fun _ _ _ _ _ _ us hl => match us, hl with | [_, _, _, _, _, _, _], _ => rfl,
  k_Bar := ⟨mk_Bar, n_Bar_init, i_Bar_init, kc_Bar⟩,
  a_Bar_eq := a_Bar_eq,
  fd_Bar_eq := _,
  F_Bar_eq := fun_mk (st := s_Bar_eq) l_Bar_eq c_Bar_eq p_Bar_eq,
  b_Bar_eq := (fun_mk (st := s_Bar_eq) l_Bar_eq c_Bar_eq p_Bar_eq).binds (ps := ["self", "other"]) fun _ _ _ _ _ _ us hl => match us, hl with | [_, _], _ => rfl,
  M_Bar_eq := ⟨n_Bar_eq, i_Bar_eq, p_Bar_eq⟩,
  ef_Bar := eqFacts_mk ea_NoneType_Bar eb_NoneType_Bar ea_bool_Bar eb_bool_Bar ea_int_Bar eb_int_Bar ea_str_Bar eb_str_Bar ea_list_Bar eb_list_Bar ea_tuple_Bar eb_tuple_Bar ea_dict_Bar eb_dict_Bar,
  ne_Bar := ⟨na_Bar, nb_Bar⟩,
  C_Web := C_Web,
  m_Web := PySem.W.mg_of X G n_Web,
  c_Web := ⟨pg_Web, hd_Web, po_Web, sa_Web⟩,
  mk_Web := mk_Web,
  nf_Web_rods := nf_Web_rods,
  nf_Web_bars := nf_Web_bars,
  nf_Web_held := nf_Web_held,
  a_Web_init := a_Web_init,
  fd_Web_init := _,
  F_Web_init := fun_mk (st := s_Web_init) l_Web_init c_Web_init p_Web_init,
  b_Web_init := (fun_mk (st := s_Web_init) l_Web_init c_Web_init p_Web_init).binds (ps := ["self", "rods", "held", "bars"]) fun _ _ _ _ _ _ us hl => match us, hl with | [_, _, _, _], _ => rfl,
  k_Web := ⟨mk_Web, n_Web_init, i_Web_init, kc_Web⟩,
  a_Web_held := a_Web_held,
  fd_Web_held := _,
  F_Web_held := fun_mk (st := s_Web_held) l_Web_held c_Web_held p_Web_held,
  b_Web_held := (fun_mk (st := s_Web_held) l_Web_held c_Web_held p_Web_held).binds (ps := ["self"]) fun _ _ _ _ _ _ us hl => match us, hl with | [_], _ => rfl,
  M_Web_held := ⟨n_Web_held, i_Web_held, p_Web_held⟩,
  a_Web_hanging := a_Web_hanging,
  fd_Web_hanging := _,
  F_Web_hanging := fun_mk (st := s_Web_hanging) l_Web_hanging c_Web_hanging p_Web_hanging,
  b_Web_hanging := (fun_mk (st := s_Web_hanging) l_Web_hanging c_Web_hanging p_Web_hanging).binds (ps := ["self"]) fun _ _ _ _ _ _ us hl => match us, hl with | [_], _ => rfl,
  M_Web_hanging := ⟨n_Web_hanging, i_Web_hanging, p_Web_hanging⟩,
  a_Web_eq := a_Web_eq,
  fd_Web_eq := _,
  F_Web_eq := fun_mk (st := s_Web_eq) l_Web_eq c_Web_eq p_Web_eq,
  b_Web_eq := (fun_mk (st := s_Web_eq) l_Web_eq c_Web_eq p_Web_eq).binds (ps := ["self", "other"]) fun _ _ _ _ _ _ us hl => match us, hl with | [_, _], _ => rfl,
  M_Web_eq := ⟨n_Web_eq, i_Web_eq, p_Web_eq⟩,
  ef_Web := eqFacts_mk ea_NoneType_Web eb_NoneType_Web ea_bool_Web eb_bool_Web ea_int_Web eb_int_Web ea_str_Web eb_str_Web ea_list_Web eb_list_Web ea_tuple_Web eb_tuple_Web ea_dict_Web eb_dict_Web,
  ne_Web := ⟨na_Web, nb_Web⟩,
  nfst_Places_Places := nfst_Places_Places,
  nfst_Places_Bar := nfst_Places_Bar,
  nfst_Places_Web := nfst_Places_Web,
  dc_Places_Web := dc_Places_Web,
  nfst_Bar_Places := nfst_Bar_Places,
  dc_Bar_Places := dc_Bar_Places,
  nfst_Bar_Bar := nfst_Bar_Bar,
  nfst_Bar_Web := nfst_Bar_Web,
  dc_Bar_Web := dc_Bar_Web,
  nfst_Web_Places := nfst_Web_Places,
  nfst_Web_Bar := nfst_Web_Bar,
  nfst_Web_Web := nfst_Web_Web,
  C_HooksError := C_HooksError,
  m_HooksError := PySem.W.mg_of X G n_HooksError,
  C_BadCount := C_BadCount,
  O_BadCount := ⟨⟨nm_BadCount, q_BadCount, N_BadCount, bs_BadCount, _, sn_BadCount, sub_BadCount, ab_BadCount, col_BadCount, dd_BadCount, u0_BadCount, u1_BadCount, u2_BadCount, u3_BadCount, u5_BadCount, x_BadCount, rfl⟩, sa_BadCount, be_BadCount, ty_BadCount, kc_BadCount⟩,
  m_BadCount := PySem.W.mg_of X G n_BadCount,
  isC_BadCount := ⟨ga_BadCount, gg_BadCount, be_BadCount, hd_BadCount, cl_BadCount, g_clsget, g_clstk, ob_BadCount⟩,
  xf_BadCount := ⟨ga_BadCount, gg_BadCount, be_BadCount, hd_BadCount⟩,
  exm_BadCount_HooksError := PySem.W.exm_ref be_HooksError hd_HooksError ty_HooksError sb_BadCount_HooksError,
  a_BadCount_init := a_BadCount_init,
  fd_BadCount_init := _,
  F_BadCount_init := fun_mk (st := s_BadCount_init) l_BadCount_init c_BadCount_init p_BadCount_init,
  b_BadCount_init := (fun_mk (st := s_BadCount_init) l_BadCount_init c_BadCount_init p_BadCount_init).binds (ps := ["self", "what", "count"]) fun _ _ _ _ _ _ us hl => match us, hl with | [_, _, _], _ => rfl,
  nf_BadCount_what := nf_BadCount_what,
  nf_BadCount_count := nf_BadCount_count,
  X_BadCount := ⟨⟨⟨nm_BadCount, q_BadCount, N_BadCount, bs_BadCount, _, sn_BadCount, sub_BadCount, ab_BadCount, col_BadCount, dd_BadCount, u0_BadCount, u1_BadCount, u2_BadCount, u3_BadCount, u5_BadCount, x_BadCount, rfl⟩, sa_BadCount, be_BadCount, ty_BadCount, kc_BadCount⟩, PySem.W.mg_of X G n_BadCount, n_BadCount_init, t_BadCount_init, (fun_mk (st := s_BadCount_init) l_BadCount_init c_BadCount_init p_BadCount_init).binds (ps := ["self", "what", "count"]) fun _ _ _ _ _ _ us hl => match us, hl with | [_, _, _], _ => rfl, ⟨ga_BadCount, gg_BadCount, be_BadCount, hd_BadCount, cl_BadCount, g_clsget, g_clstk, ob_BadCount⟩, ⟨ga_BadCount, gg_BadCount, be_BadCount, hd_BadCount⟩⟩,
  C_NoRod := C_NoRod,
  O_NoRod := ⟨⟨nm_NoRod, q_NoRod, N_NoRod, bs_NoRod, _, sn_NoRod, sub_NoRod, ab_NoRod, col_NoRod, dd_NoRod, u0_NoRod, u1_NoRod, u2_NoRod, u3_NoRod, u5_NoRod, x_NoRod, rfl⟩, sa_NoRod, be_NoRod, ty_NoRod, kc_NoRod⟩,
  m_NoRod := PySem.W.mg_of X G n_NoRod,
  isC_NoRod := ⟨ga_NoRod, gg_NoRod, be_NoRod, hd_NoRod, cl_NoRod, g_clsget, g_clstk, ob_NoRod⟩,
  xf_NoRod := ⟨ga_NoRod, gg_NoRod, be_NoRod, hd_NoRod⟩,
  exm_NoRod_HooksError := PySem.W.exm_ref be_HooksError hd_HooksError ty_HooksError sb_NoRod_HooksError,
  a_NoRod_init := a_NoRod_init,
  fd_NoRod_init := _,
  F_NoRod_init := fun_mk (st := s_NoRod_init) l_NoRod_init c_NoRod_init p_NoRod_init,
  b_NoRod_init := (fun_mk (st := s_NoRod_init) l_NoRod_init c_NoRod_init p_NoRod_init).binds (ps := ["self", "rod"]) fun _ _ _ _ _ _ us hl => match us, hl with | [_, _], _ => rfl,
  nf_NoRod_rod := nf_NoRod_rod,
  X_NoRod := ⟨⟨⟨nm_NoRod, q_NoRod, N_NoRod, bs_NoRod, _, sn_NoRod, sub_NoRod, ab_NoRod, col_NoRod, dd_NoRod, u0_NoRod, u1_NoRod, u2_NoRod, u3_NoRod, u5_NoRod, x_NoRod, rfl⟩, sa_NoRod, be_NoRod, ty_NoRod, kc_NoRod⟩, PySem.W.mg_of X G n_NoRod, n_NoRod_init, t_NoRod_init, (fun_mk (st := s_NoRod_init) l_NoRod_init c_NoRod_init p_NoRod_init).binds (ps := ["self", "rod"]) fun _ _ _ _ _ _ us hl => match us, hl with | [_, _], _ => rfl, ⟨ga_NoRod, gg_NoRod, be_NoRod, hd_NoRod, cl_NoRod, g_clsget, g_clstk, ob_NoRod⟩, ⟨ga_NoRod, gg_NoRod, be_NoRod, hd_NoRod⟩⟩,
  C_SameRod := C_SameRod,
  O_SameRod := ⟨⟨nm_SameRod, q_SameRod, N_SameRod, bs_SameRod, _, sn_SameRod, sub_SameRod, ab_SameRod, col_SameRod, dd_SameRod, u0_SameRod, u1_SameRod, u2_SameRod, u3_SameRod, u5_SameRod, x_SameRod, rfl⟩, sa_SameRod, be_SameRod, ty_SameRod, kc_SameRod⟩,
  m_SameRod := PySem.W.mg_of X G n_SameRod,
  isC_SameRod := ⟨ga_SameRod, gg_SameRod, be_SameRod, hd_SameRod, cl_SameRod, g_clsget, g_clstk, ob_SameRod⟩,
  xf_SameRod := ⟨ga_SameRod, gg_SameRod, be_SameRod, hd_SameRod⟩,
  exm_SameRod_HooksError := PySem.W.exm_ref be_HooksError hd_HooksError ty_HooksError sb_SameRod_HooksError,
  a_SameRod_init := a_SameRod_init,
  fd_SameRod_init := _,
  F_SameRod_init := fun_mk (st := s_SameRod_init) l_SameRod_init c_SameRod_init p_SameRod_init,
  b_SameRod_init := (fun_mk (st := s_SameRod_init) l_SameRod_init c_SameRod_init p_SameRod_init).binds (ps := ["self", "rod"]) fun _ _ _ _ _ _ us hl => match us, hl with | [_, _], _ => rfl,
  nf_SameRod_rod := nf_SameRod_rod,
  X_SameRod := ⟨⟨⟨nm_SameRod, q_SameRod, N_SameRod, bs_SameRod, _, sn_SameRod, sub_SameRod, ab_SameRod, col_SameRod, dd_SameRod, u0_SameRod, u1_SameRod, u2_SameRod, u3_SameRod, u5_SameRod, x_SameRod, rfl⟩, sa_SameRod, be_SameRod, ty_SameRod, kc_SameRod⟩, PySem.W.mg_of X G n_SameRod, n_SameRod_init, t_SameRod_init, (fun_mk (st := s_SameRod_init) l_SameRod_init c_SameRod_init p_SameRod_init).binds (ps := ["self", "rod"]) fun _ _ _ _ _ _ us hl => match us, hl with | [_, _], _ => rfl, ⟨ga_SameRod, gg_SameRod, be_SameRod, hd_SameRod, cl_SameRod, g_clsget, g_clstk, ob_SameRod⟩, ⟨ga_SameRod, gg_SameRod, be_SameRod, hd_SameRod⟩⟩,
  C_BadSpan := C_BadSpan,
  O_BadSpan := ⟨⟨nm_BadSpan, q_BadSpan, N_BadSpan, bs_BadSpan, _, sn_BadSpan, sub_BadSpan, ab_BadSpan, col_BadSpan, dd_BadSpan, u0_BadSpan, u1_BadSpan, u2_BadSpan, u3_BadSpan, u5_BadSpan, x_BadSpan, rfl⟩, sa_BadSpan, be_BadSpan, ty_BadSpan, kc_BadSpan⟩,
  m_BadSpan := PySem.W.mg_of X G n_BadSpan,
  isC_BadSpan := ⟨ga_BadSpan, gg_BadSpan, be_BadSpan, hd_BadSpan, cl_BadSpan, g_clsget, g_clstk, ob_BadSpan⟩,
  xf_BadSpan := ⟨ga_BadSpan, gg_BadSpan, be_BadSpan, hd_BadSpan⟩,
  exm_BadSpan_HooksError := PySem.W.exm_ref be_HooksError hd_HooksError ty_HooksError sb_BadSpan_HooksError,
  a_BadSpan_init := a_BadSpan_init,
  fd_BadSpan_init := _,
  F_BadSpan_init := fun_mk (st := s_BadSpan_init) l_BadSpan_init c_BadSpan_init p_BadSpan_init,
  b_BadSpan_init := (fun_mk (st := s_BadSpan_init) l_BadSpan_init c_BadSpan_init p_BadSpan_init).binds (ps := ["self", "bar"]) fun _ _ _ _ _ _ us hl => match us, hl with | [_, _], _ => rfl,
  nf_BadSpan_bar := nf_BadSpan_bar,
  X_BadSpan := ⟨⟨⟨nm_BadSpan, q_BadSpan, N_BadSpan, bs_BadSpan, _, sn_BadSpan, sub_BadSpan, ab_BadSpan, col_BadSpan, dd_BadSpan, u0_BadSpan, u1_BadSpan, u2_BadSpan, u3_BadSpan, u5_BadSpan, x_BadSpan, rfl⟩, sa_BadSpan, be_BadSpan, ty_BadSpan, kc_BadSpan⟩, PySem.W.mg_of X G n_BadSpan, n_BadSpan_init, t_BadSpan_init, (fun_mk (st := s_BadSpan_init) l_BadSpan_init c_BadSpan_init p_BadSpan_init).binds (ps := ["self", "bar"]) fun _ _ _ _ _ _ us hl => match us, hl with | [_, _], _ => rfl, ⟨ga_BadSpan, gg_BadSpan, be_BadSpan, hd_BadSpan, cl_BadSpan, g_clsget, g_clstk, ob_BadSpan⟩, ⟨ga_BadSpan, gg_BadSpan, be_BadSpan, hd_BadSpan⟩⟩,
  C_NotSquare := C_NotSquare,
  O_NotSquare := ⟨⟨nm_NotSquare, q_NotSquare, N_NotSquare, bs_NotSquare, _, sn_NotSquare, sub_NotSquare, ab_NotSquare, col_NotSquare, dd_NotSquare, u0_NotSquare, u1_NotSquare, u2_NotSquare, u3_NotSquare, u5_NotSquare, x_NotSquare, rfl⟩, sa_NotSquare, be_NotSquare, ty_NotSquare, kc_NotSquare⟩,
  m_NotSquare := PySem.W.mg_of X G n_NotSquare,
  isC_NotSquare := ⟨ga_NotSquare, gg_NotSquare, be_NotSquare, hd_NotSquare, cl_NotSquare, g_clsget, g_clstk, ob_NotSquare⟩,
  xf_NotSquare := ⟨ga_NotSquare, gg_NotSquare, be_NotSquare, hd_NotSquare⟩,
  exm_NotSquare_HooksError := PySem.W.exm_ref be_HooksError hd_HooksError ty_HooksError sb_NotSquare_HooksError,
  a_NotSquare_init := a_NotSquare_init,
  fd_NotSquare_init := _,
  F_NotSquare_init := fun_mk (st := s_NotSquare_init) l_NotSquare_init c_NotSquare_init p_NotSquare_init,
  b_NotSquare_init := (fun_mk (st := s_NotSquare_init) l_NotSquare_init c_NotSquare_init p_NotSquare_init).binds (ps := ["self", "bars", "wanted"]) fun _ _ _ _ _ _ us hl => match us, hl with | [_, _, _], _ => rfl,
  nf_NotSquare_bars := nf_NotSquare_bars,
  nf_NotSquare_wanted := nf_NotSquare_wanted,
  X_NotSquare := ⟨⟨⟨nm_NotSquare, q_NotSquare, N_NotSquare, bs_NotSquare, _, sn_NotSquare, sub_NotSquare, ab_NotSquare, col_NotSquare, dd_NotSquare, u0_NotSquare, u1_NotSquare, u2_NotSquare, u3_NotSquare, u5_NotSquare, x_NotSquare, rfl⟩, sa_NotSquare, be_NotSquare, ty_NotSquare, kc_NotSquare⟩, PySem.W.mg_of X G n_NotSquare, n_NotSquare_init, t_NotSquare_init, (fun_mk (st := s_NotSquare_init) l_NotSquare_init c_NotSquare_init p_NotSquare_init).binds (ps := ["self", "bars", "wanted"]) fun _ _ _ _ _ _ us hl => match us, hl with | [_, _, _], _ => rfl, ⟨ga_NotSquare, gg_NotSquare, be_NotSquare, hd_NotSquare, cl_NotSquare, g_clsget, g_clstk, ob_NotSquare⟩, ⟨ga_NotSquare, gg_NotSquare, be_NotSquare, hd_NotSquare⟩⟩,
  C_BadPlace := C_BadPlace,
  O_BadPlace := ⟨⟨nm_BadPlace, q_BadPlace, N_BadPlace, bs_BadPlace, _, sn_BadPlace, sub_BadPlace, ab_BadPlace, col_BadPlace, dd_BadPlace, u0_BadPlace, u1_BadPlace, u2_BadPlace, u3_BadPlace, u5_BadPlace, x_BadPlace, rfl⟩, sa_BadPlace, be_BadPlace, ty_BadPlace, kc_BadPlace⟩,
  m_BadPlace := PySem.W.mg_of X G n_BadPlace,
  isC_BadPlace := ⟨ga_BadPlace, gg_BadPlace, be_BadPlace, hd_BadPlace, cl_BadPlace, g_clsget, g_clstk, ob_BadPlace⟩,
  xf_BadPlace := ⟨ga_BadPlace, gg_BadPlace, be_BadPlace, hd_BadPlace⟩,
  exm_BadPlace_HooksError := PySem.W.exm_ref be_HooksError hd_HooksError ty_HooksError sb_BadPlace_HooksError,
  a_BadPlace_init := a_BadPlace_init,
  fd_BadPlace_init := _,
  F_BadPlace_init := fun_mk (st := s_BadPlace_init) l_BadPlace_init c_BadPlace_init p_BadPlace_init,
  b_BadPlace_init := (fun_mk (st := s_BadPlace_init) l_BadPlace_init c_BadPlace_init p_BadPlace_init).binds (ps := ["self", "bar"]) fun _ _ _ _ _ _ us hl => match us, hl with | [_, _], _ => rfl,
  nf_BadPlace_bar := nf_BadPlace_bar,
  X_BadPlace := ⟨⟨⟨nm_BadPlace, q_BadPlace, N_BadPlace, bs_BadPlace, _, sn_BadPlace, sub_BadPlace, ab_BadPlace, col_BadPlace, dd_BadPlace, u0_BadPlace, u1_BadPlace, u2_BadPlace, u3_BadPlace, u5_BadPlace, x_BadPlace, rfl⟩, sa_BadPlace, be_BadPlace, ty_BadPlace, kc_BadPlace⟩, PySem.W.mg_of X G n_BadPlace, n_BadPlace_init, t_BadPlace_init, (fun_mk (st := s_BadPlace_init) l_BadPlace_init c_BadPlace_init p_BadPlace_init).binds (ps := ["self", "bar"]) fun _ _ _ _ _ _ us hl => match us, hl with | [_, _], _ => rfl, ⟨ga_BadPlace, gg_BadPlace, be_BadPlace, hd_BadPlace, cl_BadPlace, g_clsget, g_clstk, ob_BadPlace⟩, ⟨ga_BadPlace, gg_BadPlace, be_BadPlace, hd_BadPlace⟩⟩,
  kit_BadCount_BadCount := kit_self,
  kit_BadPlace_BadCount := kit_two dc_BadPlace_BadCount hd_BadCount ty_BadCount sb_BadPlace_BadCount,
  kit_BadPlace_BadPlace := kit_self,
  z_abs := PySem.W.mg_none_of X G z_abs,
  z_len := PySem.W.mg_none_of X G z_len,
  z_range := PySem.W.mg_none_of X G z_range,
  z_tuple := PySem.W.mg_none_of X G z_tuple,
  z_list := PySem.W.mg_none_of X G z_list,
  z_dict := PySem.W.mg_none_of X G z_dict,
  z_sorted := PySem.W.mg_none_of X G z_sorted,
  z_enumerate := PySem.W.mg_none_of X G z_enumerate,
  z_zip := PySem.W.mg_none_of X G z_zip,
  z_min := PySem.W.mg_none_of X G z_min,
  z_all := PySem.W.mg_none_of X G z_all,
  z_int := PySem.W.mg_none_of X G z_int,
  z_isinstance := PySem.W.mg_none_of X G z_isinstance,
  z_type := PySem.W.mg_none_of X G z_type,
  m_gcd := PySem.W.mg_of X G v_gcd,
  t_LEAST_RODS := t_LEAST_RODS,
  m_LEAST_RODS := PySem.W.mg_of X G v_LEAST_RODS,
  t_MOST_RODS := t_MOST_RODS,
  m_MOST_RODS := PySem.W.mg_of X G v_MOST_RODS,
  t_MOST_BARS := t_MOST_BARS,
  m_MOST_BARS := PySem.W.mg_of X G v_MOST_BARS,
  t_MOST_HEIGHT := t_MOST_HEIGHT,
  m_MOST_HEIGHT := PySem.W.mg_of X G v_MOST_HEIGHT,
  t_MOST_LENGTH := t_MOST_LENGTH,
  m_MOST_LENGTH := PySem.W.mg_of X G v_MOST_LENGTH }
theorem txH {w : World} {K : PySem.W.Frag} {h : Heap} {mg : Str → Option Value} (X : K.In h) (G : h.Ns mainGlobals mg) (c : He.SaysX faH fnH [] [] exK w h K) : Nonempty (Tx K mg) := by
  have hx := c.more
  have x0 : (exL0 K).all id = true := ex_at hx 0 rfl
  have x1 : (exL1 K).all id = true := ex_at hx 1 rfl
  have x2 : (exL2 K).all id = true := ex_at hx 2 rfl
  have x3 : (exL3 K).all id = true := ex_at hx 3 rfl
  have x4 : (exL4 K).all id = true := ex_at hx 4 rfl
  have x5 : (exL5 K).all id = true := ex_at hx 5 rfl
  have x6 : (exL6 K).all id = true := ex_at hx 6 rfl
  obtain ⟨nm_BadCount, q_BadCount, N_BadCount, bs_BadCount, sn_BadCount, sub_BadCount, ab_BadCount, col_BadCount, dd_BadCount, u0_BadCount, u1_BadCount, u2_BadCount, u3_BadCount, u5_BadCount, x_BadCount⟩ := xcB_ok (ex_at x3 17 rfl)
  obtain ⟨nm_NoRod, q_NoRod, N_NoRod, bs_NoRod, sn_NoRod, sub_NoRod, ab_NoRod, col_NoRod, dd_NoRod, u0_NoRod, u1_NoRod, u2_NoRod, u3_NoRod, u5_NoRod, x_NoRod⟩ := xcB_ok (ex_at x3 33 rfl)
  obtain ⟨nm_SameRod, q_SameRod, N_SameRod, bs_SameRod, sn_SameRod, sub_SameRod, ab_SameRod, col_SameRod, dd_SameRod, u0_SameRod, u1_SameRod, u2_SameRod, u3_SameRod, u5_SameRod, x_SameRod⟩ := xcB_ok (ex_at x4 8 rfl)
  obtain ⟨nm_BadSpan, q_BadSpan, N_BadSpan, bs_BadSpan, sn_BadSpan, sub_BadSpan, ab_BadSpan, col_BadSpan, dd_BadSpan, u0_BadSpan, u1_BadSpan, u2_BadSpan, u3_BadSpan, u5_BadSpan, x_BadSpan⟩ := xcB_ok (ex_at x4 23 rfl)
  obtain ⟨nm_NotSquare, q_NotSquare, N_NotSquare, bs_NotSquare, sn_NotSquare, sub_NotSquare, ab_NotSquare, col_NotSquare, dd_NotSquare, u0_NotSquare, u1_NotSquare, u2_NotSquare, u3_NotSquare, u5_NotSquare, x_NotSquare⟩ := xcB_ok (ex_at x4 38 rfl)
  obtain ⟨nm_BadPlace, q_BadPlace, N_BadPlace, bs_BadPlace, sn_BadPlace, sub_BadPlace, ab_BadPlace, col_BadPlace, dd_BadPlace, u0_BadPlace, u1_BadPlace, u2_BadPlace, u3_BadPlace, u5_BadPlace, x_BadPlace⟩ := xcB_ok (ex_at x5 14 rfl)
  obtain ⟨t_LEAST_RODS, v_LEAST_RODS⟩ := intB_ok (ex_at x6 5 rfl)
  obtain ⟨t_MOST_RODS, v_MOST_RODS⟩ := intB_ok (ex_at x6 6 rfl)
  obtain ⟨t_MOST_BARS, v_MOST_BARS⟩ := intB_ok (ex_at x6 7 rfl)
  obtain ⟨t_MOST_HEIGHT, v_MOST_HEIGHT⟩ := intB_ok (ex_at x6 8 rfl)
  obtain ⟨t_MOST_LENGTH, v_MOST_LENGTH⟩ := intB_ok (ex_at x6 9 rfl)
  obtain ⟨fd_check_rods, ⟨oc_check_rods, od_check_rods, dV_check_rods, kV_check_rods, dc_check_rods, pm_check_rods, an_check_rods, cd_check_rods, ct_check_rods, sl_check_rods, e_check_rods, l_check_rods, c_check_rods, g_check_rods, _⟩, p_check_rods⟩ := c.t.d.def_ 0 (d := dH_check_rods) rfl
  cases def_none g_check_rods
  subst e_check_rods
  obtain ⟨fd_check_bars, ⟨oc_check_bars, od_check_bars, dV_check_bars, kV_check_bars, dc_check_bars, pm_check_bars, an_check_bars, cd_check_bars, ct_check_bars, sl_check_bars, e_check_bars, l_check_bars, c_check_bars, g_check_bars, _⟩, p_check_bars⟩ := c.t.d.def_ 1 (d := dH_check_bars) rfl
  cases def_none g_check_bars
  subst e_check_bars
  obtain ⟨fd_check_bar, ⟨oc_check_bar, od_check_bar, dV_check_bar, kV_check_bar, dc_check_bar, pm_check_bar, an_check_bar, cd_check_bar, ct_check_bar, sl_check_bar, e_check_bar, l_check_bar, c_check_bar, g_check_bar, _⟩, p_check_bar⟩ := c.t.d.def_ 2 (d := dH_check_bar) rfl
  cases def_none g_check_bar
  subst e_check_bar
  obtain ⟨fd_divisor, ⟨oc_divisor, od_divisor, dV_divisor, kV_divisor, dc_divisor, pm_divisor, an_divisor, cd_divisor, ct_divisor, sl_divisor, e_divisor, l_divisor, c_divisor, g_divisor, _⟩, p_divisor⟩ := c.t.d.def_ 3 (d := dH_divisor) rfl
  cases def_none g_divisor
  subst e_divisor
  obtain ⟨fd_lowest, ⟨oc_lowest, od_lowest, dV_lowest, kV_lowest, dc_lowest, pm_lowest, an_lowest, cd_lowest, ct_lowest, sl_lowest, e_lowest, l_lowest, c_lowest, g_lowest, _⟩, p_lowest⟩ := c.t.d.def_ 4 (d := dH_lowest) rfl
  cases def_none g_lowest
  subst e_lowest
  obtain ⟨fd_check_places, ⟨oc_check_places, od_check_places, dV_check_places, kV_check_places, dc_check_places, pm_check_places, an_check_places, cd_check_places, ct_check_places, sl_check_places, e_check_places, l_check_places, c_check_places, g_check_places, _⟩, p_check_places⟩ := c.t.d.def_ 5 (d := dH_check_places) rfl
  cases def_none g_check_places
  subst e_check_places
  obtain ⟨fd_is_within, ⟨oc_is_within, od_is_within, dV_is_within, kV_is_within, dc_is_within, pm_is_within, an_is_within, cd_is_within, ct_is_within, sl_is_within, e_is_within, l_is_within, c_is_within, g_is_within, _⟩, p_is_within⟩ := c.t.d.def_ 6 (d := dH_is_within) rfl
  cases def_none g_is_within
  subst e_is_within
  obtain ⟨fd_corners, ⟨oc_corners, od_corners, dV_corners, kV_corners, dc_corners, pm_corners, an_corners, cd_corners, ct_corners, sl_corners, e_corners, l_corners, c_corners, g_corners, _⟩, p_corners⟩ := c.t.d.def_ 7 (d := dH_corners) rfl
  cases def_none g_corners
  subst e_corners
  obtain ⟨fd_corner_rows, ⟨oc_corner_rows, od_corner_rows, dV_corner_rows, kV_corner_rows, dc_corner_rows, pm_corner_rows, an_corner_rows, cd_corner_rows, ct_corner_rows, sl_corner_rows, e_corner_rows, l_corner_rows, c_corner_rows, g_corner_rows, _⟩, p_corner_rows⟩ := c.t.d.def_ 8 (d := dH_corner_rows) rfl
  cases def_none g_corner_rows
  subst e_corner_rows
  obtain ⟨fd_ends, ⟨oc_ends, od_ends, dV_ends, kV_ends, dc_ends, pm_ends, an_ends, cd_ends, ct_ends, sl_ends, e_ends, l_ends, c_ends, g_ends, _⟩, p_ends⟩ := c.t.d.def_ 9 (d := dH_ends) rfl
  cases def_none g_ends
  subst e_ends
  obtain ⟨fd_spread, ⟨oc_spread, od_spread, dV_spread, kV_spread, dc_spread, pm_spread, an_spread, cd_spread, ct_spread, sl_spread, e_spread, l_spread, c_spread, g_spread, _⟩, p_spread⟩ := c.t.d.def_ 10 (d := dH_spread) rfl
  cases def_none g_spread
  subst e_spread
  obtain ⟨fd_l_cell_at, ⟨oc_l_cell_at, od_l_cell_at, dV_l_cell_at, kV_l_cell_at, dc_l_cell_at, pm_l_cell_at, an_l_cell_at, cd_l_cell_at, ct_l_cell_at, sl_l_cell_at, e_l_cell_at, l_l_cell_at, c_l_cell_at, g_l_cell_at, _⟩, p_l_cell_at⟩ := c.t.d.def_ 11 (d := dH_l_cell_at) rfl
  cases def_none g_l_cell_at
  subst e_l_cell_at
  obtain ⟨fd_l_state, ⟨oc_l_state, od_l_state, dV_l_state, kV_l_state, dc_l_state, pm_l_state, an_l_state, cd_l_state, ct_l_state, sl_l_state, e_l_state, l_l_state, c_l_state, g_l_state, _⟩, p_l_state⟩ := c.t.d.def_ 12 (d := dH_l_state) rfl
  cases def_none g_l_state
  subst e_l_state
  obtain ⟨fd_l_digit, ⟨oc_l_digit, od_l_digit, dV_l_digit, kV_l_digit, dc_l_digit, pm_l_digit, an_l_digit, cd_l_digit, ct_l_digit, sl_l_digit, e_l_digit, l_l_digit, c_l_digit, g_l_digit, _⟩, p_l_digit⟩ := c.t.d.def_ 13 (d := dH_l_digit) rfl
  cases def_none g_l_digit
  subst e_l_digit
  obtain ⟨fd_l_bar, ⟨oc_l_bar, od_l_bar, dV_l_bar, kV_l_bar, dc_l_bar, pm_l_bar, an_l_bar, cd_l_bar, ct_l_bar, sl_l_bar, e_l_bar, l_l_bar, c_l_bar, g_l_bar, _⟩, p_l_bar⟩ := c.t.d.def_ 14 (d := dH_l_bar) rfl
  cases def_none g_l_bar
  subst e_l_bar
  obtain ⟨fd_l_web, ⟨oc_l_web, od_l_web, dV_l_web, kV_l_web, dc_l_web, pm_l_web, an_l_web, cd_l_web, ct_l_web, sl_l_web, e_l_web, l_l_web, c_l_web, g_l_web, _⟩, p_l_web⟩ := c.t.d.def_ 15 (d := dH_l_web) rfl
  cases def_none g_l_web
  subst e_l_web
  obtain ⟨fd_l_made, ⟨oc_l_made, od_l_made, dV_l_made, kV_l_made, dc_l_made, pm_l_made, an_l_made, cd_l_made, ct_l_made, sl_l_made, e_l_made, l_l_made, c_l_made, g_l_made, _⟩, p_l_made⟩ := c.t.d.def_ 16 (d := dH_l_made) rfl
  cases def_none g_l_made
  subst e_l_made
  obtain ⟨fd_l_within, ⟨oc_l_within, od_l_within, dV_l_within, kV_l_within, dc_l_within, pm_l_within, an_l_within, cd_l_within, ct_l_within, sl_l_within, e_l_within, l_l_within, c_l_within, g_l_within, _⟩, p_l_within⟩ := c.t.d.def_ 17 (d := dH_l_within) rfl
  cases def_none g_l_within
  subst e_l_within
  obtain ⟨fd_l_corners, ⟨oc_l_corners, od_l_corners, dV_l_corners, kV_l_corners, dc_l_corners, pm_l_corners, an_l_corners, cd_l_corners, ct_l_corners, sl_l_corners, e_l_corners, l_l_corners, c_l_corners, g_l_corners, _⟩, p_l_corners⟩ := c.t.d.def_ 18 (d := dH_l_corners) rfl
  cases def_none g_l_corners
  subst e_l_corners
  obtain ⟨fd_l_refusal, ⟨oc_l_refusal, od_l_refusal, dV_l_refusal, kV_l_refusal, dc_l_refusal, pm_l_refusal, an_l_refusal, cd_l_refusal, ct_l_refusal, sl_l_refusal, e_l_refusal, l_l_refusal, c_l_refusal, g_l_refusal, _⟩, p_l_refusal⟩ := c.t.d.def_ 19 (d := dH_l_refusal) rfl
  cases def_none g_l_refusal
  subst e_l_refusal
  obtain ⟨fd_l_places_right, ⟨oc_l_places_right, od_l_places_right, dV_l_places_right, kV_l_places_right, dc_l_places_right, pm_l_places_right, an_l_places_right, cd_l_places_right, ct_l_places_right, sl_l_places_right, e_l_places_right, l_l_places_right, c_l_places_right, g_l_places_right, _⟩, p_l_places_right⟩ := c.t.d.def_ 20 (d := dH_l_places_right) rfl
  cases def_none g_l_places_right
  subst e_l_places_right
  obtain ⟨fd_law, ⟨oc_law, od_law, dV_law, kV_law, dc_law, pm_law, an_law, cd_law, ct_law, sl_law, e_law, l_law, c_law, g_law, _⟩, p_law⟩ := c.t.d.def_ 21 (d := dH_law) rfl
  cases def_none g_law
  subst e_law
  obtain ⟨fd_Places_init, ⟨oc_Places_init, od_Places_init, dV_Places_init, kV_Places_init, dc_Places_init, pm_Places_init, an_Places_init, cd_Places_init, ct_Places_init, sl_Places_init, e_Places_init, l_Places_init, c_Places_init, g_Places_init, _⟩, p_Places_init⟩ := c.t.d.def_ 22 (d := dH_Places_init) rfl
  cases def_none g_Places_init
  subst e_Places_init
  obtain ⟨fd_Places_eq, ⟨oc_Places_eq, od_Places_eq, dV_Places_eq, kV_Places_eq, dc_Places_eq, pm_Places_eq, an_Places_eq, cd_Places_eq, ct_Places_eq, sl_Places_eq, e_Places_eq, l_Places_eq, c_Places_eq, g_Places_eq, _⟩, p_Places_eq⟩ := c.t.d.def_ 23 (d := dH_Places_eq) rfl
  cases def_none g_Places_eq
  subst e_Places_eq
  obtain ⟨fd_Bar_init, ⟨oc_Bar_init, od_Bar_init, dV_Bar_init, kV_Bar_init, dc_Bar_init, pm_Bar_init, an_Bar_init, cd_Bar_init, ct_Bar_init, sl_Bar_init, e_Bar_init, l_Bar_init, c_Bar_init, g_Bar_init, _⟩, p_Bar_init⟩ := c.t.d.def_ 24 (d := dH_Bar_init) rfl
  cases def_none g_Bar_init
  subst e_Bar_init
  obtain ⟨fd_Bar_eq, ⟨oc_Bar_eq, od_Bar_eq, dV_Bar_eq, kV_Bar_eq, dc_Bar_eq, pm_Bar_eq, an_Bar_eq, cd_Bar_eq, ct_Bar_eq, sl_Bar_eq, e_Bar_eq, l_Bar_eq, c_Bar_eq, g_Bar_eq, _⟩, p_Bar_eq⟩ := c.t.d.def_ 25 (d := dH_Bar_eq) rfl
  cases def_none g_Bar_eq
  subst e_Bar_eq
  obtain ⟨fd_Web_init, ⟨oc_Web_init, od_Web_init, dV_Web_init, kV_Web_init, dc_Web_init, pm_Web_init, an_Web_init, cd_Web_init, ct_Web_init, sl_Web_init, e_Web_init, l_Web_init, c_Web_init, g_Web_init, _⟩, p_Web_init⟩ := c.t.d.def_ 26 (d := dH_Web_init) rfl
  cases def_none g_Web_init
  subst e_Web_init
  obtain ⟨fd_Web_held, ⟨oc_Web_held, od_Web_held, dV_Web_held, kV_Web_held, dc_Web_held, pm_Web_held, an_Web_held, cd_Web_held, ct_Web_held, sl_Web_held, e_Web_held, l_Web_held, c_Web_held, g_Web_held, _⟩, p_Web_held⟩ := c.t.d.def_ 27 (d := dH_Web_held) rfl
  cases def_none g_Web_held
  subst e_Web_held
  obtain ⟨fd_Web_hanging, ⟨oc_Web_hanging, od_Web_hanging, dV_Web_hanging, kV_Web_hanging, dc_Web_hanging, pm_Web_hanging, an_Web_hanging, cd_Web_hanging, ct_Web_hanging, sl_Web_hanging, e_Web_hanging, l_Web_hanging, c_Web_hanging, g_Web_hanging, _⟩, p_Web_hanging⟩ := c.t.d.def_ 28 (d := dH_Web_hanging) rfl
  cases def_none g_Web_hanging
  subst e_Web_hanging
  obtain ⟨fd_Web_eq, ⟨oc_Web_eq, od_Web_eq, dV_Web_eq, kV_Web_eq, dc_Web_eq, pm_Web_eq, an_Web_eq, cd_Web_eq, ct_Web_eq, sl_Web_eq, e_Web_eq, l_Web_eq, c_Web_eq, g_Web_eq, _⟩, p_Web_eq⟩ := c.t.d.def_ 29 (d := dH_Web_eq) rfl
  cases def_none g_Web_eq
  subst e_Web_eq
  obtain ⟨fd_BadCount_init, ⟨oc_BadCount_init, od_BadCount_init, dV_BadCount_init, kV_BadCount_init, dc_BadCount_init, pm_BadCount_init, an_BadCount_init, cd_BadCount_init, ct_BadCount_init, sl_BadCount_init, e_BadCount_init, l_BadCount_init, c_BadCount_init, g_BadCount_init, _⟩, p_BadCount_init⟩ := c.t.d.def_ 30 (d := dH_BadCount_init) rfl
  cases def_none g_BadCount_init
  subst e_BadCount_init
  obtain ⟨fd_NoRod_init, ⟨oc_NoRod_init, od_NoRod_init, dV_NoRod_init, kV_NoRod_init, dc_NoRod_init, pm_NoRod_init, an_NoRod_init, cd_NoRod_init, ct_NoRod_init, sl_NoRod_init, e_NoRod_init, l_NoRod_init, c_NoRod_init, g_NoRod_init, _⟩, p_NoRod_init⟩ := c.t.d.def_ 31 (d := dH_NoRod_init) rfl
  cases def_none g_NoRod_init
  subst e_NoRod_init
  obtain ⟨fd_SameRod_init, ⟨oc_SameRod_init, od_SameRod_init, dV_SameRod_init, kV_SameRod_init, dc_SameRod_init, pm_SameRod_init, an_SameRod_init, cd_SameRod_init, ct_SameRod_init, sl_SameRod_init, e_SameRod_init, l_SameRod_init, c_SameRod_init, g_SameRod_init, _⟩, p_SameRod_init⟩ := c.t.d.def_ 32 (d := dH_SameRod_init) rfl
  cases def_none g_SameRod_init
  subst e_SameRod_init
  obtain ⟨fd_BadSpan_init, ⟨oc_BadSpan_init, od_BadSpan_init, dV_BadSpan_init, kV_BadSpan_init, dc_BadSpan_init, pm_BadSpan_init, an_BadSpan_init, cd_BadSpan_init, ct_BadSpan_init, sl_BadSpan_init, e_BadSpan_init, l_BadSpan_init, c_BadSpan_init, g_BadSpan_init, _⟩, p_BadSpan_init⟩ := c.t.d.def_ 33 (d := dH_BadSpan_init) rfl
  cases def_none g_BadSpan_init
  subst e_BadSpan_init
  obtain ⟨fd_NotSquare_init, ⟨oc_NotSquare_init, od_NotSquare_init, dV_NotSquare_init, kV_NotSquare_init, dc_NotSquare_init, pm_NotSquare_init, an_NotSquare_init, cd_NotSquare_init, ct_NotSquare_init, sl_NotSquare_init, e_NotSquare_init, l_NotSquare_init, c_NotSquare_init, g_NotSquare_init, _⟩, p_NotSquare_init⟩ := c.t.d.def_ 34 (d := dH_NotSquare_init) rfl
  cases def_none g_NotSquare_init
  subst e_NotSquare_init
  obtain ⟨fd_BadPlace_init, ⟨oc_BadPlace_init, od_BadPlace_init, dV_BadPlace_init, kV_BadPlace_init, dc_BadPlace_init, pm_BadPlace_init, an_BadPlace_init, cd_BadPlace_init, ct_BadPlace_init, sl_BadPlace_init, e_BadPlace_init, l_BadPlace_init, c_BadPlace_init, g_BadPlace_init, _⟩, p_BadPlace_init⟩ := c.t.d.def_ 35 (d := dH_BadPlace_init) rfl
  cases def_none g_BadPlace_init
  subst e_BadPlace_init
  exact ⟨mk_tx X G (of_decide_eq_true (ex_at x0 0 rfl)) (of_decide_eq_true (ex_at x0 1 rfl)) (of_decide_eq_true (ex_at x0 2 rfl)) l_check_rods c_check_rods p_check_rods (of_decide_eq_true (ex_at x0 3 rfl)) l_check_bars c_check_bars p_check_bars (of_decide_eq_true (ex_at x0 4 rfl)) l_check_bar c_check_bar p_check_bar (of_decide_eq_true (ex_at x0 5 rfl)) l_divisor c_divisor p_divisor (of_decide_eq_true (ex_at x0 6 rfl)) l_lowest c_lowest p_lowest (of_decide_eq_true (ex_at x0 7 rfl)) l_check_places c_check_places p_check_places (of_decide_eq_true (ex_at x0 8 rfl)) l_is_within c_is_within p_is_within (of_decide_eq_true (ex_at x0 9 rfl)) l_corners c_corners p_corners (of_decide_eq_true (ex_at x0 10 rfl)) l_corner_rows c_corner_rows p_corner_rows (of_decide_eq_true (ex_at x0 11 rfl)) l_ends c_ends p_ends (of_decide_eq_true (ex_at x0 12 rfl)) l_spread c_spread p_spread (of_decide_eq_true (ex_at x0 13 rfl)) l_l_cell_at c_l_cell_at p_l_cell_at (of_decide_eq_true (ex_at x0 14 rfl)) l_l_state c_l_state p_l_state (of_decide_eq_true (ex_at x0 15 rfl)) l_l_digit c_l_digit p_l_digit (of_decide_eq_true (ex_at x0 16 rfl)) l_l_bar c_l_bar p_l_bar (of_decide_eq_true (ex_at x0 17 rfl)) l_l_web c_l_web p_l_web (of_decide_eq_true (ex_at x0 18 rfl)) l_l_made c_l_made p_l_made (of_decide_eq_true (ex_at x0 19 rfl)) l_l_within c_l_within p_l_within (of_decide_eq_true (ex_at x0 20 rfl)) l_l_corners c_l_corners p_l_corners (of_decide_eq_true (ex_at x0 21 rfl)) l_l_refusal c_l_refusal p_l_refusal (of_decide_eq_true (ex_at x0 22 rfl)) l_l_places_right c_l_places_right p_l_places_right (of_decide_eq_true (ex_at x0 23 rfl)) l_law c_law p_law (of_decide_eq_true (ex_at x0 24 rfl)) (ex_at x0 25 rfl) (ex_at x0 26 rfl) (ex_at x0 27 rfl) (of_decide_eq_true (ex_at x0 28 rfl)) (ex_at x0 29 rfl) (ex_at x0 30 rfl) (of_decide_eq_true (ex_at x0 31 rfl)) (of_decide_eq_true (ex_at x0 32 rfl)) (of_decide_eq_true (ex_at x0 33 rfl)) (ex_at x0 34 rfl) l_Places_init c_Places_init p_Places_init (of_decide_eq_true (ex_at x0 35 rfl)) (ex_at x0 36 rfl) l_Places_eq c_Places_eq p_Places_eq (ex_at x0 37 rfl) (of_decide_eq_true (ex_at x0 38 rfl)) (ex_at x0 39 rfl) (of_decide_eq_true (ex_at x1 0 rfl)) (ex_at x1 1 rfl) (of_decide_eq_true (ex_at x1 2 rfl)) (ex_at x1 3 rfl) (of_decide_eq_true (ex_at x1 4 rfl)) (ex_at x1 5 rfl) (of_decide_eq_true (ex_at x1 6 rfl)) (ex_at x1 7 rfl) (of_decide_eq_true (ex_at x1 8 rfl)) (ex_at x1 9 rfl) (of_decide_eq_true (ex_at x1 10 rfl)) (of_decide_eq_true (ex_at x1 11 rfl)) (of_decide_eq_true (ex_at x1 12 rfl)) (of_decide_eq_true (ex_at x1 13 rfl)) (ex_at x1 14 rfl) (ex_at x1 15 rfl) (ex_at x1 16 rfl) (of_decide_eq_true (ex_at x1 17 rfl)) (ex_at x1 18 rfl) (ex_at x1 19 rfl) (of_decide_eq_true (ex_at x1 20 rfl)) (of_decide_eq_true (ex_at x1 21 rfl)) (of_decide_eq_true (ex_at x1 22 rfl)) (of_decide_eq_true (ex_at x1 23 rfl)) (of_decide_eq_true (ex_at x1 24 rfl)) (of_decide_eq_true (ex_at x1 25 rfl)) (of_decide_eq_true (ex_at x1 26 rfl)) (ex_at x1 27 rfl) l_Bar_init c_Bar_init p_Bar_init (of_decide_eq_true (ex_at x1 28 rfl)) (ex_at x1 29 rfl) l_Bar_eq c_Bar_eq p_Bar_eq (ex_at x1 30 rfl) (of_decide_eq_true (ex_at x1 31 rfl)) (ex_at x1 32 rfl) (of_decide_eq_true (ex_at x1 33 rfl)) (ex_at x1 34 rfl) (of_decide_eq_true (ex_at x1 35 rfl)) (ex_at x1 36 rfl) (of_decide_eq_true (ex_at x1 37 rfl)) (ex_at x1 38 rfl) (of_decide_eq_true (ex_at x1 39 rfl)) (ex_at x2 0 rfl) (of_decide_eq_true (ex_at x2 1 rfl)) (ex_at x2 2 rfl) (of_decide_eq_true (ex_at x2 3 rfl)) (of_decide_eq_true (ex_at x2 4 rfl)) (of_decide_eq_true (ex_at x2 5 rfl)) (of_decide_eq_true (ex_at x2 6 rfl)) (ex_at x2 7 rfl) (ex_at x2 8 rfl) (ex_at x2 9 rfl) (of_decide_eq_true (ex_at x2 10 rfl)) (ex_at x2 11 rfl) (ex_at x2 12 rfl) (of_decide_eq_true (ex_at x2 13 rfl)) (of_decide_eq_true (ex_at x2 14 rfl)) (of_decide_eq_true (ex_at x2 15 rfl)) (of_decide_eq_true (ex_at x2 16 rfl)) (ex_at x2 17 rfl) l_Web_init c_Web_init p_Web_init (of_decide_eq_true (ex_at x2 18 rfl)) (ex_at x2 19 rfl) l_Web_held c_Web_held p_Web_held (of_decide_eq_true (ex_at x2 20 rfl)) (ex_at x2 21 rfl) l_Web_hanging c_Web_hanging p_Web_hanging (of_decide_eq_true (ex_at x2 22 rfl)) (ex_at x2 23 rfl) l_Web_eq c_Web_eq p_Web_eq (ex_at x2 24 rfl) (of_decide_eq_true (ex_at x2 25 rfl)) (ex_at x2 26 rfl) (of_decide_eq_true (ex_at x2 27 rfl)) (ex_at x2 28 rfl) (of_decide_eq_true (ex_at x2 29 rfl)) (ex_at x2 30 rfl) (of_decide_eq_true (ex_at x2 31 rfl)) (ex_at x2 32 rfl) (of_decide_eq_true (ex_at x2 33 rfl)) (ex_at x2 34 rfl) (of_decide_eq_true (ex_at x2 35 rfl)) (ex_at x2 36 rfl) (of_decide_eq_true (ex_at x2 37 rfl)) (of_decide_eq_true (ex_at x2 38 rfl)) (of_decide_eq_true (ex_at x2 39 rfl)) (ex_at x3 0 rfl) (ex_at x3 1 rfl) (ex_at x3 2 rfl) (of_decide_eq_true (ex_at x3 3 rfl)) (ex_at x3 4 rfl) (of_decide_eq_true (ex_at x3 5 rfl)) (ex_at x3 6 rfl) (ex_at x3 7 rfl) (of_decide_eq_true (ex_at x3 8 rfl)) (ex_at x3 9 rfl) (ex_at x3 10 rfl) (ex_at x3 11 rfl) (of_decide_eq_true (ex_at x3 12 rfl)) (of_decide_eq_true (ex_at x3 13 rfl)) (of_decide_eq_true (ex_at x3 14 rfl)) (ex_at x3 15 rfl) (of_decide_eq_true (ex_at x3 16 rfl)) x_BadCount (of_decide_eq_true (ex_at x3 18 rfl)) (of_decide_eq_true (ex_at x3 19 rfl)) (of_decide_eq_true (ex_at x3 20 rfl)) (ex_at x3 21 rfl) (of_decide_eq_true (ex_at x3 22 rfl)) (of_decide_eq_true (ex_at x3 23 rfl)) (ex_at x3 24 rfl) (of_decide_eq_true (ex_at x3 25 rfl)) (of_decide_eq_true (ex_at x3 26 rfl)) (of_decide_eq_true (ex_at x3 27 rfl)) (of_decide_eq_true (ex_at x3 28 rfl)) (of_decide_eq_true (ex_at x3 29 rfl)) l_BadCount_init c_BadCount_init p_BadCount_init (of_decide_eq_true (ex_at x3 30 rfl)) (of_decide_eq_true (ex_at x3 31 rfl)) (of_decide_eq_true (ex_at x3 32 rfl)) x_NoRod (of_decide_eq_true (ex_at x3 34 rfl)) (of_decide_eq_true (ex_at x3 35 rfl)) (of_decide_eq_true (ex_at x3 36 rfl)) (ex_at x3 37 rfl) (of_decide_eq_true (ex_at x3 38 rfl)) (of_decide_eq_true (ex_at x3 39 rfl)) (ex_at x4 0 rfl) (of_decide_eq_true (ex_at x4 1 rfl)) (of_decide_eq_true (ex_at x4 2 rfl)) (of_decide_eq_true (ex_at x4 3 rfl)) (of_decide_eq_true (ex_at x4 4 rfl)) (of_decide_eq_true (ex_at x4 5 rfl)) l_NoRod_init c_NoRod_init p_NoRod_init (of_decide_eq_true (ex_at x4 6 rfl)) (of_decide_eq_true (ex_at x4 7 rfl)) x_SameRod (of_decide_eq_true (ex_at x4 9 rfl)) (of_decide_eq_true (ex_at x4 10 rfl)) (of_decide_eq_true (ex_at x4 11 rfl)) (ex_at x4 12 rfl) (of_decide_eq_true (ex_at x4 13 rfl)) (of_decide_eq_true (ex_at x4 14 rfl)) (ex_at x4 15 rfl) (of_decide_eq_true (ex_at x4 16 rfl)) (of_decide_eq_true (ex_at x4 17 rfl)) (of_decide_eq_true (ex_at x4 18 rfl)) (of_decide_eq_true (ex_at x4 19 rfl)) (of_decide_eq_true (ex_at x4 20 rfl)) l_SameRod_init c_SameRod_init p_SameRod_init (of_decide_eq_true (ex_at x4 21 rfl)) (of_decide_eq_true (ex_at x4 22 rfl)) x_BadSpan (of_decide_eq_true (ex_at x4 24 rfl)) (of_decide_eq_true (ex_at x4 25 rfl)) (of_decide_eq_true (ex_at x4 26 rfl)) (ex_at x4 27 rfl) (of_decide_eq_true (ex_at x4 28 rfl)) (of_decide_eq_true (ex_at x4 29 rfl)) (ex_at x4 30 rfl) (of_decide_eq_true (ex_at x4 31 rfl)) (of_decide_eq_true (ex_at x4 32 rfl)) (of_decide_eq_true (ex_at x4 33 rfl)) (of_decide_eq_true (ex_at x4 34 rfl)) (of_decide_eq_true (ex_at x4 35 rfl)) l_BadSpan_init c_BadSpan_init p_BadSpan_init (of_decide_eq_true (ex_at x4 36 rfl)) (of_decide_eq_true (ex_at x4 37 rfl)) x_NotSquare (of_decide_eq_true (ex_at x4 39 rfl)) (of_decide_eq_true (ex_at x5 0 rfl)) (of_decide_eq_true (ex_at x5 1 rfl)) (ex_at x5 2 rfl) (of_decide_eq_true (ex_at x5 3 rfl)) (of_decide_eq_true (ex_at x5 4 rfl)) (ex_at x5 5 rfl) (of_decide_eq_true (ex_at x5 6 rfl)) (of_decide_eq_true (ex_at x5 7 rfl)) (of_decide_eq_true (ex_at x5 8 rfl)) (of_decide_eq_true (ex_at x5 9 rfl)) (of_decide_eq_true (ex_at x5 10 rfl)) l_NotSquare_init c_NotSquare_init p_NotSquare_init (of_decide_eq_true (ex_at x5 11 rfl)) (of_decide_eq_true (ex_at x5 12 rfl)) (of_decide_eq_true (ex_at x5 13 rfl)) x_BadPlace (of_decide_eq_true (ex_at x5 15 rfl)) (of_decide_eq_true (ex_at x5 16 rfl)) (of_decide_eq_true (ex_at x5 17 rfl)) (ex_at x5 18 rfl) (of_decide_eq_true (ex_at x5 19 rfl)) (of_decide_eq_true (ex_at x5 20 rfl)) (ex_at x5 21 rfl) (of_decide_eq_true (ex_at x5 22 rfl)) (of_decide_eq_true (ex_at x5 23 rfl)) (of_decide_eq_true (ex_at x5 24 rfl)) (of_decide_eq_true (ex_at x5 25 rfl)) (of_decide_eq_true (ex_at x5 26 rfl)) l_BadPlace_init c_BadPlace_init p_BadPlace_init (of_decide_eq_true (ex_at x5 27 rfl)) (of_decide_eq_true (ex_at x5 28 rfl)) (of_decide_eq_true (ex_at x5 29 rfl)) (of_decide_eq_true (ex_at x5 30 rfl)) (of_decide_eq_true (ex_at x5 31 rfl)) (of_decide_eq_true (ex_at x5 32 rfl)) (of_decide_eq_true (ex_at x5 33 rfl)) (of_decide_eq_true (ex_at x5 34 rfl)) (of_decide_eq_true (ex_at x5 35 rfl)) (of_decide_eq_true (ex_at x5 36 rfl)) (of_decide_eq_true (ex_at x5 37 rfl)) (of_decide_eq_true (ex_at x5 38 rfl)) (of_decide_eq_true (ex_at x5 39 rfl)) (of_decide_eq_true (ex_at x6 0 rfl)) (of_decide_eq_true (ex_at x6 1 rfl)) (of_decide_eq_true (ex_at x6 2 rfl)) (of_decide_eq_true (ex_at x6 3 rfl)) (of_decide_eq_true (ex_at x6 4 rfl)) v_LEAST_RODS v_MOST_RODS v_MOST_BARS v_MOST_HEIGHT v_MOST_LENGTH⟩
theorem all_mk {P : Program} {w : World} {K : PySem.W.Frag} {h : Heap} {mg : Str → Option Value} {fa : Addr} (KX : K.In h) (G : h.Ns mainGlobals mg) (hfa : mg "law" = some (.ref fa)) (T : Tx K mg) (hb : exT K = true) :
    ∃ fd : FuncData, (∀ (s : Shared) (v : Value), BindsTo s fd ⟨[v], []⟩ [("_law_script", v)]) ∧ ∀ base : Heap, K.In base → base.Ns mainGlobals mg → (∀ p ∈ tfH.map (He.cT K), LamX.TabB base mg p.1 p.2) → FnOk P w K mg base (L2.CX P w) 60 fa fd ["_law_script"] (spLaw K (He.cT K ("_law_places_right", none)).2 (He.cT K ("law", none)).2) := by
  have e := hfa.symm.trans T.m_law
  cases e
  obtain ⟨oc, od, kV, doc, pm, an, cdv, ct, osl, e, _, _⟩ := T.F_law.ex
  unfold exT at hb
  simp only [Bool.and_eq_true] at hb
  obtain ⟨⟨⟨_, nb0⟩, nb1⟩, hne⟩ := hb
  exact ⟨T.fd_law, fun s v => by rw [e]; exact .of_eq rfl, fun base _ _ TB => ok_law T (TB _ (List.mem_map_of_mem (show (("_law_places_right", none) : He.Defn) ∈ tfH by decide))) (TB _ (List.mem_map_of_mem (show (("law", none) : He.Defn) ∈ tfH by decide))) (Hk.code_of KX G nb0 T.m_l_places_right T.F_l_places_right) (Hk.code_of KX G nb1 T.m_law T.F_law) (of_decide_eq_true hne)⟩
end K23
open PySem PySem.W PyProof.Rows in
set_option maxRecDepth 100000 in
set_option maxHeartbeats 0 in
theorem PySem.Challenge.cw_hookspans_k23_places_and_corners_holds : PySem.Challenge.rw_hookspans_k23_places_and_corners.Holds := by
  w_on; o_law
  refine HandSHeadRun.head_imp (r := OpenLaw.row PySem.Challenge.rw_hookspans_k23_places_and_corners) (q := K23.qH) (H := K23.hkH) (ob := K23.obH) (M := 9000) (loose := K23.loH) (d := HandSHeadRun.topDef (OpenLaw.row PySem.Challenge.rw_hookspans_k23_places_and_corners).prog 42) (kwd := []) K23.obH_eq K23.runH
    (by kernel_rfl) (by kernel_rfl) (by kernel_rfl) (by rfl) (by first | assumption | decide +kernel) (by decide +kernel) ⟨rfl, rfl, rfl, rfl, rfl, by decide +kernel⟩ ?hw ?hc
  case hw => w_witness2
  case hc =>
    refine LamX.walk_ofTsE (l := PySem.Challenge.rw_hookspans_k23_places_and_corners) (n := 63) (k := 60) (x := "_law_script") (CX := fun w => L2.CX (PySem.Challenge.rw_hookspans_k23_places_and_corners).prog w) rfl (by decide) (by kernel_rfl) ⟨rfl, by decide, by decide⟩ ?F (fun _ _ _ _ _ z => by
      obtain ⟨_, _, _, _, _, _, _, _, _, _, _, _, z⟩ := z
      exact z.elim)
    intro w mg fa h Y G hmg0
    obtain ⟨K, KX, c⟩ := Y
    have hmg : mg ("law" : PySem.Str) = some (.ref fa) := by
      have e : (HandSHeadRun.topDef (OpenLaw.row PySem.Challenge.rw_hookspans_k23_places_and_corners).prog 42).name = ("law" : PySem.Str) := by kernel_rfl
      rw [← e]
      exact hmg0
    have hb := c.more
    have hk : K23.exK K = true := by
      unfold K23.exT at hb
      simp only [Bool.and_eq_true] at hb
      exact hb.1.1.1
    obtain ⟨T⟩ := K23.txH KX G (⟨c.t, hk, (fun p hp => by cases hp), (fun p hp => by cases hp), (fun p hp => by cases hp)⟩ : He.SaysX K23.faH K23.fnH [] [] K23.exK w h K)
    obtain ⟨fd, hb', hF⟩ := K23.all_mk (P := (PySem.Challenge.rw_hookspans_k23_places_and_corners).prog) (w := w) KX G hmg T c.more
    refine ⟨K, KX, fd, K23.tfH.map (He.cT K), K23.spLaw K (He.cT K ("_law_places_right", none)).2 (He.cT K ("law", none)).2, (fun p hp => ?_), (fun p hp => ?_), (fun p hp => ?_), hb', (fun H a ns hl _ hT hS => ⟨a, ns, rfl, hS, hl, hT _ (List.mem_map_of_mem (show (("_law_places_right", none) : He.Defn) ∈ K23.tfH by decide)), hT _ (List.mem_map_of_mem (show (("law", none) : He.Defn) ∈ K23.tfH by decide)), fun _ => rfl⟩), fun base KB GB TB => hF base KB GB TB⟩
    · obtain ⟨q, hq, rfl⟩ := List.mem_map.mp hp
      exact c.empty q hq
    · obtain ⟨q, hq, rfl⟩ := List.mem_map.mp hp
      exact c.out q hq
    · obtain ⟨q, hq, rfl⟩ := List.mem_map.mp hp
      exact PySem.W.codeHd_of_K KX (c.hd q hq)
