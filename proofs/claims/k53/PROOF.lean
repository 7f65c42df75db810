import PyProof.Rows.All
import Wide.All
import OpenK.AllK
import Wide.FinOn
import HandS.ForMost
import HandS.ForExc
import HandS.ExcInit
import HandS.ExcIs
import HandS.ExcField
import HandS.Gcd
import HandS.Style
import HandS.OwnEq
import HandS.MakeKw
import HandS.SortInts
import HandS.IsInst
import HandS.DictEq
import HandS.DeepEq
import HandS.Zip
import HandS.Wide
import HandS.MakeKwOnly
import KE.GoesMore
import HandS.ExcOwn
import PyProof.ExcBaseAll.ValueError
import HandS.SetFor
import HandS.Strs
import HandS.Sort
import HandS.FStr
import HandS.Text
import HandS.Star
import HandS.SortKw
import KE.KUnpackStar
import KE.DataMinMax
import KE.KDictList
import HandS.DictTup
import HandS.SortRule
import KE.GoesEnum
import KE.GoesEnumKw
import HandS.Walk
import HandS.DictComp
import HandS.Conv
import HandS.TupAny
import HandS.Flow
import PySem.Challenge.RW_hookspans_k53_how_far_a_span_may_go
set_option Elab.async false
set_option linter.all false
set_option maxRecDepth 100000
set_option maxHeartbeats 4000000
namespace PySem.W
open PySem PySem.Spec PySem.Calls PyProof.Rows
end PySem.W
namespace L2
open PySem PySem.Spec PyProof.Rows
end L2
namespace LxE
open PySem PySem.SeqAt
open AutoSeq1 (wpAny_loadPart')
open MeetsSeq MeetsSeq2 MeetsSeq3 SeqRoads2
section
variable {prog : Program} {w : World} {A : Around} {R : Result → Shared → Prop}
abbrev FinOf (prog : Program) (w : World) (A : Around) (R : Result → Shared → Prop) : Fin → Shared → Prop := fun fin s' => match fin with
  | .done f => R (.ok f) s'
  | .again c' => c'.quiet = true ∧ codeAny (model prog w) A c' R s'
def ListJ (prog : Program) (w : World) (A : Around) (E : Value → Shared → Prop) (l b : Addr) (N : Nat) (e : Nat → Bool) (I : Shared → Prop) : Prop :=
  ∀ s, I s → ∃ (items items2 : Array Value), s.heap.IsList l items ∧ s.heap.IsList b items2 ∧ items.size = N ∧ items2.size = N ∧
    ∀ i (h1 : i < items.size) (h2 : i < items2.size), wpAny (model prog w) A.in1 (eqBool items[i] items2[i]) (fun r s' => r = e i ∧ I s') E s
theorem isList_obj {h : Heap} {l : Addr} {items : Array Value} (hl : h.IsList l items) : ∃ n dd sl, h.get? l = some { cls := .type "list", dict := dd, data := .seq items n, slots := sl } := by
  obtain ⟨⟨cls, dd, data, sl⟩, ho, hc, n, hd⟩ := hl
  simp only at hc hd
  subst hc hd
  exact ⟨n, dd, sl, ho⟩
theorem all_drop {N : Nat} {e : Nat → Bool} {i : Nat} (hp : ∀ j, j < i → e j = true) (hi : i < N) (hf : e i = false) : (List.range N).all e = false := by
  rw [List.all_eq_false]
  exact ⟨i, List.mem_range.mpr hi, by rw [hf]; exact Bool.false_ne_true⟩
theorem all_full {N : Nat} {e : Nat → Bool} (hp : ∀ j, j < N → e j = true) : (List.range N).all e = true := by
  rw [List.all_eq_true]
  intro x hx
  exact hp x (List.mem_range.mp hx)
theorem eq_loopB (l b : Addr) (N : Nat) (e : Nat → Bool) (I : Shared → Prop) (hl : ListJ prog w A (fun e s' => R (.error e) s') l b N e I)
    (fin : ∀ s, I s → R (.ok (.ret (.bool ((List.range N).all e)))) s) (k : Nat) :
    ∀ i : Nat, N - i = k → i ≤ N → (∀ j, j < i → e j = true) → ∀ s, I s →
      wpAny (model prog w) A.in1 (Builtin.«list.__eq__.loop» ⟨[.ref l, .ref b, rawInt i, rawInt 2], []⟩) (FinOf prog w A R) (fun e s' => R (.error e) s') s := by
  induction k with
  | zero =>
    intro i hk hi hp s h
    obtain ⟨items, items2, hl1', hb1', hs1, hs2, _⟩ := hl _ h
    obtain ⟨n, dd, sl, hl1⟩ := isList_obj hl1'
    obtain ⟨n2, dd2, sl2, hb1⟩ := isList_obj hb1'
    have hi' : i = N := by omega
    have hR : R (.ok (.ret (.bool true))) s := by
      have z := fin s h
      rw [all_full (fun j hj => hp j (by omega))] at z
      exact z
    obtain ⟨hp', g, d, tk, os⟩ := s
    wp_walk using wpAny_loadPart' hl1, wpAny_loadPart' hb1
    have hi1 : items[((i : Nat) : Int).toNat]? = none := by simp; omega
    have hi2 : items2[((i : Nat) : Int).toNat]? = none := by simp; omega
    rw [hi1, hi2]
    wp_walk using wpAny_loadPart' hl1, wpAny_loadPart' hb1
    show R (.ok (.ret (.bool (items.size == items2.size)))) _
    rw [hs1, hs2]
    simpa using hR
  | succ k ih =>
    intro i hk hi hp s h
    obtain ⟨items, items2, hl1', hb1', hs1, hs2, turn⟩ := hl _ h
    obtain ⟨n, dd, sl, hl1⟩ := isList_obj hl1'
    obtain ⟨n2, dd2, sl2, hb1⟩ := isList_obj hb1'
    have hlt : i < items.size := by omega
    have hlt2 : i < items2.size := by omega
    have ht := turn i hlt hlt2
    obtain ⟨hp', g, d, tk, os⟩ := s
    wp_walk using wpAny_loadPart' hl1, wpAny_loadPart' hb1
    have hi1 : items[((i : Nat) : Int).toNat]? = some items[i] := by simp [hlt]
    have hi2 : items2[((i : Nat) : Int).toNat]? = some items2[i] := by simp [hlt2]
    have hc : ((i : Int) + 1) = ((i + 1 : Nat) : Int) := by omega
    rw [hi1, hi2]
    refine wpAny_bind (wpAny_mono ht (fun r s2 h2 => ?_) fun _ _ x => x)
    obtain ⟨hr, h2⟩ := h2
    subst hr
    obtain ⟨items3, items4, hl3', hb3', hs3, hs4, _⟩ := hl _ h2
    obtain ⟨n3, dd3, sl3, hl3⟩ := isList_obj hl3'
    obtain ⟨n4, dd4, sl4, hb3⟩ := isList_obj hb3'
    have fin2 := fin s2 h2
    cases hei : e i with
    | true =>
      have hrec := ih (i + 1) (by omega) (by omega) (fun j hj => by
        rcases Nat.lt_succ_iff_lt_or_eq.mp hj with z | z
        · exact hp j z
        · rw [z]; exact hei) s2 h2
      obtain ⟨hp2, g2, d2, tk2, os2⟩ := s2
      wp_walk
      rw [hc]
      exact ⟨plainId_quiet plain_eq_loop _, codeAny_builtin entry_eq_loop (by
        rw [Around.under_plainId plain_eq_loop _]
        exact hrec)⟩
    | false =>
      rw [all_drop hp (by omega) hei] at fin2
      have hj1 : items3[((i : Nat) : Int).toNat]? = some (items3[i]'(by omega)) := by simp <;> omega
      have hj2 : items4[((i : Nat) : Int).toNat]? = some (items4[i]'(by omega)) := by simp <;> omega
      obtain ⟨hp2, g2, d2, tk2, os2⟩ := s2
      wp_walk using wpAny_loadPart' hl3, wpAny_loadPart' hb3
      rw [hj1, hj2]
      wp_walk
      simpa using fin2
theorem list_eqB (l b : Addr) (N : Nat) (e : Nat → Bool) (I : Shared → Prop) (hl : ListJ prog w A (fun e s' => R (.error e) s') l b N e I)
    (fin : ∀ s, I s → R (.ok (.ret (.bool ((List.range N).all e)))) s) {s : Shared} (h : I s) :
    wpAny (model prog w) A.in1 (Builtin.«list.__eq__» ⟨[.ref l, .ref b], []⟩) (FinOf prog w A R) (fun e s' => R (.error e) s') s := by
  obtain ⟨items, items2, hl1', hb1', hs1, hs2, _⟩ := hl _ h
  obtain ⟨n, dd, sl, hl1⟩ := isList_obj hl1'
  obtain ⟨n2, dd2, sl2, hb1⟩ := isList_obj hb1'
  have hrec := eq_loopB (A := A) (R := R) l b N e I hl fin _ 0 rfl (Nat.zero_le _) (fun j hj => absurd hj (Nat.not_lt_zero j)) s h
  obtain ⟨hp, g, d, tk, os⟩ := s
  have f3 := AutoSeq1.sub_list_list
  have hne : ¬ (items.size != items2.size) = true := by simp [hs1, hs2]
  wp_walk using wpAny_loadPart' hl1, wpAny_loadPart' hb1
  exact ⟨plainId_quiet plain_eq_loop _, codeAny_builtin entry_eq_loop (by
    rw [Around.under_plainId plain_eq_loop _]
    exact hrec)⟩
theorem tuple_eqB (l b : Addr) (items items2 : Array Value) (n n2 : Nat) (dd dd2 : Option Addr) (sl sl2 : Array (Option Value)) (e : Nat → Bool) (I : Shared → Prop)
    (turn : ∀ i (h1 : i < items.size) (h2 : i < items2.size) s, I s → wpAny (model prog w) A.in1 (eqBool items[i] items2[i]) (fun r s' => r = e i ∧ I s') (fun e s' => R (.error e) s') s)
    (fin : ∀ s, I s → R (.ok (.ret (.bool ((List.range (min items.size items2.size)).all e && items.size == items2.size)))) s) {s : Shared} (hl1 : s.heap.get? l = some { cls := .type "tuple", dict := dd, data := .seq items n, slots := sl }) (hb1 : s.heap.get? b = some { cls := .type "tuple", dict := dd2, data := .seq items2 n2, slots := sl2 }) (h : I s) :
    wpAny (model prog w) A.in1 (Builtin.«tuple.__eq__» ⟨[.ref l, .ref b], []⟩) (FinOf prog w A R) (fun e s' => R (.error e) s') s := by
  have f2 := AutoSeq1.sub_tuple_tuple
  have hZ : (items.toList.zip items2.toList).length = min items.size items2.size := by simp
  have h0 := h
  obtain ⟨hp, g, d, tk, os⟩ := s
  wp_walk using wpAny_loadPart' hl1, wpAny_loadPart' hb1, wpAny_forIn_list _ (fun rest b s' => b.1 = none ∧ ∃ i, rest = (items.toList.zip items2.toList).drop i ∧ (∀ j, j < i → e j = true) ∧ i ≤ min items.size items2.size ∧ I s') _
  case turn =>
    rintro ⟨y, x⟩ rest b s' ⟨hb', i, hz, hpre, hi, hI⟩
    have hlt : i < (items.toList.zip items2.toList).length := by
      rcases Nat.lt_or_ge i (items.toList.zip items2.toList).length with h' | h'
      · exact h'
      · rw [List.drop_of_length_le h'] at hz; cases hz
    have hm : i < min items.size items2.size := hZ ▸ hlt
    have h1 : i < items.size := Nat.lt_of_lt_of_le hm (Nat.min_le_left _ _)
    have h2 : i < items2.size := Nat.lt_of_lt_of_le hm (Nat.min_le_right _ _)
    rw [List.drop_eq_getElem_cons hlt] at hz
    injection hz with hyx hrest
    have hy : y = items[i] := by have := congrArg Prod.fst hyx; simpa using this
    have hx : x = items2[i] := by have := congrArg Prod.snd hyx; simpa using this
    subst hy hx
    refine wpAny_bind (wpAny_mono (turn i h1 h2 s' hI) (fun r s2 q2 => ?_) fun _ _ x => x)
    obtain ⟨hr, q2⟩ := q2
    subst hr
    cases hei : e i with
    | true =>
      wp_walk
      exact ⟨rfl, i + 1, hrest, fun j hj => by
        rcases Nat.lt_succ_iff_lt_or_eq.mp hj with z | z
        · exact hpre j z
        · rw [z]; exact hei, hm, q2⟩
    | false =>
      have hR := fin s2 q2
      rw [all_drop hpre hm hei] at hR
      wp_walk
      simpa using hR
  case fin =>
    rintro ⟨b1, b2⟩ s' ⟨hb', i, hz, hpre, hi, hI⟩
    simp only at hb'
    subst hb'
    have hge : min items.size items2.size ≤ i := by
      rcases Nat.lt_or_ge i (items.toList.zip items2.toList).length with h' | h'
      · rw [List.drop_eq_getElem_cons h'] at hz; cases hz
      · exact hZ ▸ h'
    have hR := fin s' hI
    rw [all_full (fun j hj => hpre j (by omega))] at hR
    wp_walk
    simpa [Builtin.Tuple.tupleCompareSizes] using hR
  case h =>
    exact ⟨rfl, 0, rfl, fun j hj => absurd hj (Nat.not_lt_zero j), Nat.zero_le _, h0⟩
end
section
variable {prog : Program} {w : World} {A : Around} {E : Value → Shared → Prop} {s : Shared}
theorem call_here {T : String} {name : Str} {id : String} {B : Builtin} {self : Value} {rest : List Value} {Q : Value → Shared → Prop} (slot : Slot T name id) (hT : s.TypeIs self T)
    (entry : entryFor table id = some B) (args : argsOk id ⟨self :: rest, []⟩)
    (h : wpAny (model prog w) A.in1 (B ⟨self :: rest, []⟩) (FinOf prog w A (wants Q E)) (fun e s' => wants Q E (.error e) s') s) :
    wpAny (model prog w) A (call (.builtin id) (self :: rest)) Q E s :=
  wpAny_call (codeAny_call_builtin slot.plain entry (slot.check _ _ _ _ _ _ _ _ hT args h))
theorem rc_listB {l b : Addr} {N : Nat} {e : Nat → Bool} {Q : Value → Shared → Prop} (hu : A.units < cLine) (I : Shared → Prop) (hl : ListJ prog w A E l b N e I)
    (fin : ∀ s, I s → Q (.bool ((List.range N).all e)) s) (h : I s) : wpAny (model prog w) A (richCompare .Eq (.ref l) (.ref b)) Q E s := by
  obtain ⟨items, items2, hl1', hb1', _, _, _⟩ := hl _ h
  obtain ⟨n, dd, sl, hl1⟩ := isList_obj hl1'
  obtain ⟨n2, dd2, sl2, hb1⟩ := isList_obj hb1'
  refine wpAny_richCompare_same_room (op := .Eq) ⟨_, hl1, rfl⟩ ⟨_, hb1, rfl⟩ F.slot_list_eq (call_here F.slot_list_eq ⟨_, hl1, rfl⟩ F.entry_list_eq (F.args_list_eq_2 _ _) ?_) hu
  exact list_eqB (R := wants (fun v s' => v ≠ .notImplemented ∧ Q v s') E) l b N e I hl (fun s' q => ⟨(fun x => nomatch x), fin s' q⟩) h
theorem rc_tupB {l b : Addr} {items items2 : Array Value} {e : Nat → Bool} {Q : Value → Shared → Prop} (hu : A.units < cLine) (I : Shared → Prop)
    (hl : s.heap.IsTuple l items) (hb : s.heap.IsTuple b items2)
    (turn : ∀ i (h1 : i < items.size) (h2 : i < items2.size) s, I s → wpAny (model prog w) A.in1 (eqBool items[i] items2[i]) (fun r s' => r = e i ∧ I s') E s)
    (fin : ∀ s, I s → Q (.bool ((List.range (min items.size items2.size)).all e && items.size == items2.size)) s) (h : I s) : wpAny (model prog w) A (richCompare .Eq (.ref l) (.ref b)) Q E s := by
  obtain ⟨⟨cls, dd, data, sl⟩, ho, hc, n, hd⟩ := id hl
  obtain ⟨⟨cls2, dd2, data2, sl2⟩, ho2, hc2, n2, hd2⟩ := id hb
  simp only at hc hd hc2 hd2
  subst hc hd hc2 hd2
  refine wpAny_richCompare_same_room (op := .Eq) ⟨_, ho, rfl⟩ ⟨_, ho2, rfl⟩ F.slot_tuple_eq (call_here F.slot_tuple_eq ⟨_, ho, rfl⟩ F.entry_tuple_eq (F.args_tuple_eq_2 _ _) ?_) hu
  exact tuple_eqB (R := wants (fun v s' => v ≠ .notImplemented ∧ Q v s') E) l b items items2 n n2 dd dd2 sl sl2 e I turn (fun s' q => ⟨(fun x => nomatch x), fin s' q⟩) ho ho2 h
/-- == of two values inside a builtin, by their rich comparison -/
theorem eqBool_B {u v : Value} {Q : Bool → Shared → Prop} (hne : (u == v) = false) (hf : ∀ a t b t', u = .float a t → v = .float b t' → False) (h : wpAny (model prog w) A (richCompare .Eq u v) (fun v s' => ∃ r, v = .bool r ∧ Q r s') E s) : wpAny (model prog w) A (eqBool u v) Q E s := by
  unfold eqBool
  refine wpAny_holding ?_
  rw [if_neg (by rw [hne]; exact Bool.false_ne_true)]
  have z : wpAny (model prog w) A (do let r ← richCompare .Eq u v; truthOfDropped r) Q E s := by
    refine wpAny_bind (wpAny_mono h (fun v s' hv => ?_) fun _ _ x => x)
    obtain ⟨r, rfl, q⟩ := hv
    exact wpAny_truthy_bool q
  cases u <;> cases v <;> first | exact z | exact (hf _ _ _ _ rfl rfl).elim
end
end LxE
namespace LxE
open PySem PySem.SeqAt
open AutoSeq1 (wpAny_loadPart')
open MeetsSeq MeetsSeq2 MeetsSeq3 SeqRoads2
section
variable {prog : Program} {w : World} {A : Around} {E : Value → Shared → Prop} {s : Shared}
/-- b is no instance of T -/
def NotInst (prog : Program) (w : World) (s : Shared) (b : Value) (T : String) : Prop := ∀ (A : Around) (E : Value → Shared → Prop) (Q : Bool → Shared → Prop), Q false s → wpAny (model prog w) A (isInstance b (.type T)) Q E s
theorem list_declinesI {l b : Addr} {items : Array Value} {n : Nat} {dd : Option Addr} {sl : Array (Option Value)} {R : Fin → Shared → Prop} (hl : s.heap.get? l = some { cls := .type "list", dict := dd, data := .seq items n, slots := sl }) (hI : NotInst prog w s (.ref b) "list")
    (h : R (.done (.ret .notImplemented)) s) : wpAny (model prog w) A (Builtin.«list.__eq__» ⟨[.ref l, .ref b], []⟩) R E s := by
  obtain ⟨hp, g, d, tk, os⟩ := s
  have hI' := hI
  unfold NotInst at hI'
  wp_walk using wpAny_loadPart' hl, hI'
  exact h
theorem tuple_declinesI {l b : Addr} {items : Array Value} {n : Nat} {dd : Option Addr} {sl : Array (Option Value)} {R : Fin → Shared → Prop} (hl : s.heap.get? l = some { cls := .type "tuple", dict := dd, data := .seq items n, slots := sl }) (hI : NotInst prog w s (.ref b) "tuple")
    (h : R (.done (.ret .notImplemented)) s) : wpAny (model prog w) A (Builtin.«tuple.__eq__» ⟨[.ref l, .ref b], []⟩) R E s := by
  obtain ⟨hp, g, d, tk, os⟩ := s
  have hI' := hI
  unfold NotInst at hI'
  wp_walk using wpAny_loadPart' hl, hI'
  exact h
theorem int_declinesI {i : Int} {u : Tok} {b C dx : Addr} {R : Fin → Shared → Prop} (hb : s.heap.get? b = some (PySem.W.instObj C dx)) (h : R (.done (.ret .notImplemented)) s) : wpAny (model prog w) A (Builtin.«int.__eq__» ⟨[.int i u, .ref b], []⟩) R E s := by
  obtain ⟨hp, g, d, tk, os⟩ := s
  wp_walk using wpAny_loadPart' hb, wpAny_load hb
  exact h
theorem bool_declinesI {i : Bool} {b C dx : Addr} {R : Fin → Shared → Prop} (hb : s.heap.get? b = some (PySem.W.instObj C dx)) (h : R (.done (.ret .notImplemented)) s) : wpAny (model prog w) A (Builtin.«int.__eq__» ⟨[.bool i, .ref b], []⟩) R E s := by
  obtain ⟨hp, g, d, tk, os⟩ := s
  wp_walk using wpAny_loadPart' hb, wpAny_load hb
  exact h
theorem str_declinesI {i : Str} {u : Tok} {b C dx : Addr} {R : Fin → Shared → Prop} (hb : s.heap.get? b = some (PySem.W.instObj C dx)) (h : R (.done (.ret .notImplemented)) s) : wpAny (model prog w) A (Builtin.«str.__eq__» ⟨[.str i u, .ref b], []⟩) R E s := by
  obtain ⟨hp, g, d, tk, os⟩ := s
  wp_walk using wpAny_loadPart' hb, wpAny_load hb
  exact h
end
section
open PySem.W
variable {prog : Program} {w : World} {A : Around} {E : Value → Shared → Prop} {s : Shared} {K : Frag} {y C f : Addr} {oy : Obj} {od : Option Obj} {a : Value}
theorem notInst_of {T : String} (X : K.In s.heap) (I : InstAt s.heap y oy C od) (hs : subIn K (.ref C) (.type T) = some false) : NotInst prog w s (.ref y) T := fun A E Q q => by
  have L : Looks (model prog w) s.heap (isInstance (.ref y) (.type T)) false := I.type.andThen (looks_subIn X hs)
  exact L.here q
theorem cmp_back {Ta ida : String} {Q : Value → Shared → Prop} (hu : A.units < cLine) (X : K.In s.heap) (I : InstAt s.heap y oy C od) (ha : s.TypeIs a Ta) (hsub : subIn K (.ref C) (.type Ta) = some false) (slot : Slot Ta "__eq__" ida)
    (hc1 : ∀ Q' : Value → Shared → Prop, Q' .notImplemented s → wpAny (model prog w) A (call (.builtin ida) [a, .ref y]) Q' E s)
    (hs : findIn K (.ref C) "__eq__" = some (some (.ref f))) (hf : isFn K (.ref f) = true)
    (h : wpAny (model prog w) A (call (.ref f) [.ref y, a]) (CmpBack Q) E s) : wpAny (model prog w) A (richCompare .Eq a (.ref y)) Q E s := by
  have one : wpAny (model prog w) A (tryCompare (.ref y) "__eq__" a) (fun r s' => ∃ v, r = some v ∧ Q v s') E s := by
    unfold tryCompare
    refine wpAny_bind (ifBound_K X I hs hf (wpAny_mono h (fun v s' hv => ?_) fun _ _ e => e))
    cases v <;> first | exact hv.elim | exact wpAny_pure ⟨_, rfl, hv⟩
  unfold richCompare
  simp only [ha.oneThing_none, cmpInfo]
  refine wpAny_holding (wpAny_bind (wpAny_cRoomFor hu ?_))
  refine wpAny_bind (wpAny_typeOf ha (wpAny_bind (I.type.here ?_)))
  have hne : (Value.type Ta != Value.ref C) = true := by first | rfl | simp
  simp only [hne, if_true]
  refine wpAny_bind ((looks_subIn X hsub).here ?_)
  simp only [Bool.false_eq_true, if_false, Bool.not_false, if_true]
  refine wpAny_bind (m := tryCompare a _ _) (wpAny_tryCompare_declines ha slot (hc1 _ ⟨rfl, ?_⟩))
  refine wpAny_bind (wpAny_mono one (fun r s' z => ?_) fun _ _ e => e)
  obtain ⟨v, rfl, hq⟩ := z
  exact wpAny_pure hq
end
end LxE
namespace L2
open PySem PySem.Spec PyProof.Rows
/-- data and own objects, told without the heap -/
inductive Dt where
  | non | bl (b : Bool) | int (i : Int) | str (s : Str)
  | lst (ds : List Dt) | tup (ds : List Dt) | dic (ks : List Key) (ds : List Dt) | ins (C : Addr) (fs : List Str) (ds : List Dt)
mutual
def Is (K : PySem.W.Frag) (H : Hp) : Dt → V → Prop
  | .non, v => v = .non
  | .bl b, v => v = .bl b
  | .int i, v => v = .int i
  | .str s, v => v = .str s
  | .lst ds, v => ∃ a xs, v = .ref a ∧ SqL K H a xs ∧ IsL K H ds xs
  | .tup ds, v => ∃ a xs, v = .ref a ∧ SqT K H a xs ∧ IsL K H ds xs
  | .dic ks ds, v => ∃ a kvs, v = .ref a ∧ H a = some (.dK kvs) ∧ kvs.map (·.1) = ks ∧ IsL K H ds (kvs.map (·.2))
  | .ins C fs ds, v => ∃ a dx kvs, v = .ref a ∧ H a = some (.ins C dx kvs) ∧ kvs.map (·.1) = fs ∧ IsL K H ds (kvs.map (·.2))
def IsL (K : PySem.W.Frag) (H : Hp) : List Dt → List V → Prop
  | [], vs => vs = []
  | d :: ds, vs => ∃ v r, vs = v :: r ∧ Is K H d v ∧ IsL K H ds r
end
mutual
theorem Is.ext {K : PySem.W.Frag} {H H' : Hp} (e : Ext H H') : ∀ {d : Dt} {v : V}, Is K H d v → Is K H' d v
  | .non, _, h => h
  | .bl _, _, h => h
  | .int _, _, h => h
  | .str _, _, h => h
  | .lst _, _, ⟨a, xs, h1, h2, h3⟩ => ⟨a, xs, h1, h2.ext e, IsL.ext e h3⟩
  | .tup _, _, ⟨a, xs, h1, h2, h3⟩ => ⟨a, xs, h1, h2.ext e, IsL.ext e h3⟩
  | .dic _ _, _, ⟨a, kvs, h1, h2, h3, h4⟩ => ⟨a, kvs, h1, e _ _ h2, h3, IsL.ext e h4⟩
  | .ins _ _ _, _, ⟨a, dx, kvs, h1, h2, h3, h4⟩ => ⟨a, dx, kvs, h1, e _ _ h2, h3, IsL.ext e h4⟩
theorem IsL.ext {K : PySem.W.Frag} {H H' : Hp} (e : Ext H H') : ∀ {ds : List Dt} {vs : List V}, IsL K H ds vs → IsL K H' ds vs
  | [], _, h => h
  | _ :: _, _, ⟨v, r, h1, h2, h3⟩ => ⟨v, r, h1, Is.ext e h2, IsL.ext e h3⟩
end
theorem IsL.length {K : PySem.W.Frag} {H : Hp} : ∀ {ds : List Dt} {vs : List V}, IsL K H ds vs → ds.length = vs.length
  | [], _, h => by rw [show _ = [] from h] <;> rfl
  | _ :: _, _, ⟨v, r, h1, h2, h3⟩ => by rw [h1, List.length_cons, List.length_cons, IsL.length h3]
theorem IsL.get {K : PySem.W.Frag} {H : Hp} : ∀ {ds : List Dt} {vs : List V} {i : Nat} {v : V}, IsL K H ds vs → vs[i]? = some v → ∃ d, ds[i]? = some d ∧ Is K H d v
  | [], _, i, v, h, e => by rw [show _ = [] from h] at e; simp at e
  | d :: _, _, 0, v, ⟨w, r, h1, h2, h3⟩, e => by
    rw [h1] at e
    cases e
    exact ⟨d, rfl, h2⟩
  | _ :: _, _, i + 1, v, ⟨w, r, h1, h2, h3⟩, e => by
    rw [h1] at e
    exact IsL.get (i := i) h3 e
theorem IsL.get' {K : PySem.W.Frag} {H : Hp} : ∀ {ds : List Dt} {vs : List V} {i : Nat} {d : Dt}, IsL K H ds vs → ds[i]? = some d → ∃ v, vs[i]? = some v ∧ Is K H d v
  | [], _, i, d, h, e => by simp at e
  | d :: _, _, 0, d', ⟨w, r, h1, h2, h3⟩, e => by
    rw [h1]
    cases e
    exact ⟨w, rfl, h2⟩
  | _ :: _, _, i + 1, v, ⟨w, r, h1, h2, h3⟩, e => by
    rw [h1]
    exact IsL.get' (i := i) h3 e
theorem IsL.nil {K : PySem.W.Frag} {H : Hp} : IsL K H [] [] := rfl
theorem IsL.cons {K : PySem.W.Frag} {H : Hp} {d : Dt} {v : V} {ds : List Dt} {vs : List V} (h : Is K H d v) (t : IsL K H ds vs) : IsL K H (d :: ds) (v :: vs) := ⟨v, vs, rfl, h, t⟩
theorem IsL.append {K : PySem.W.Frag} {H : Hp} : ∀ {ds es : List Dt} {vs ws : List V}, IsL K H ds vs → IsL K H es ws → IsL K H (ds ++ es) (vs ++ ws)
  | [], _, _, _, h, t => by rw [show _ = [] from h]; exact t
  | _ :: _, _, _, _, ⟨v, r, h1, h2, h3⟩, t => by rw [h1]; exact ⟨v, _, rfl, h2, IsL.append h3 t⟩
/-- ints -/
theorem isL_ints {K : PySem.W.Frag} {H : Hp} : ∀ ns : List Int, IsL K H (ns.map Dt.int) (ns.map V.int)
  | [] => rfl
  | n :: r => ⟨_, _, rfl, rfl, isL_ints r⟩
theorem of_isL_ints {K : PySem.W.Frag} {H : Hp} : ∀ {ns : List Int} {vs : List V}, IsL K H (ns.map Dt.int) vs → vs = ns.map V.int
  | [], _, h => h
  | n :: r, _, ⟨v, w, h1, h2, h3⟩ => by rw [h1, show v = V.int n from h2, of_isL_ints h3] <;> rfl
def look (ls : List Key) (es : List Dt) (k : Key) : Option Dt := ((ls.zip es).find? fun p => decide (p.1 = k)).map (·.2)
mutual
def deq : Dt → Dt → Bool
  | .non, .non => true
  | .bl a, .bl b => a == b
  | .bl a, .int b => (if a then 1 else 0) == b
  | .int a, .bl b => a == (if b then 1 else 0)
  | .int a, .int b => a == b
  | .str a, .str b => a == b
  | .lst a, .lst b => deqL a b
  | .tup a, .tup b => deqL a b
  | .dic ks ds, .dic ls es => ks.length == ls.length && deqD ks ds ls es
  | .ins C _ a, .ins C' _ b => C == C' && deqL a b
  | _, _ => false
def deqL : List Dt → List Dt → Bool
  | [], [] => true
  | a :: as, b :: bs => deq a b && deqL as bs
  | _, _ => false
def deqD : List Key → List Dt → List Key → List Dt → Bool
  | k :: ks, d :: ds, ls, es => (match look ls es k with | some e => deq d e | none => false) && deqD ks ds ls es
  | _, _, _, _ => true
end
mutual
def dep : Dt → Nat
  | .lst ds => depL ds + 1
  | .tup ds => depL ds + 1
  | .dic _ ds => depL ds + 1
  | .ins _ _ ds => depL ds + 1
  | _ => 0
def depL : List Dt → Nat
  | [] => 0
  | d :: ds => max (dep d) (depL ds)
end
theorem depL_get : ∀ {ds : List Dt} {i : Nat} {d : Dt}, ds[i]? = some d → dep d ≤ depL ds
  | [], _, _, e => by simp at e
  | a :: ds, 0, d, e => by cases e; exact Nat.le_max_left _ _
  | a :: ds, i + 1, d, e => Nat.le_trans (depL_get (i := i) e) (Nat.le_max_right _ _)
/-- the item's answer -/
def eAt (ds es : List Dt) (i : Nat) : Bool := match ds[i]?, es[i]? with | some d, some e => deq d e | _, _ => true
theorem range_all_succ (n : Nat) (f : Nat → Bool) : (List.range (n + 1)).all f = (f 0 && (List.range n).all fun i => f (i + 1)) := by
  rw [List.range_succ_eq_map, List.all_cons, List.all_map]
  rfl
theorem deqL_eq : ∀ ds es : List Dt, deqL ds es = ((List.range (min ds.length es.length)).all (eAt ds es) && ds.length == es.length)
  | [], [] => by simp [deqL]
  | [], _ :: _ => by simp [deqL]
  | _ :: _, [] => by simp [deqL]
  | a :: as, b :: bs => by
    have ih := deqL_eq as bs
    have h1 : min (a :: as).length (b :: bs).length = min as.length bs.length + 1 := by simp [Nat.succ_min_succ]
    rw [h1, range_all_succ]
    show (deq a b && deqL as bs) = _
    rw [ih]
    have h2 : (fun i => eAt (a :: as) (b :: bs) (i + 1)) = eAt as bs := rfl
    have h3 : eAt (a :: as) (b :: bs) 0 = deq a b := rfl
    rw [h2, h3, List.length_cons, List.length_cons, Bool.and_assoc]
    congr 2
    simp
mutual
def pureD : Dt → Bool
  | .lst ds => pureL ds
  | .tup ds => pureL ds
  | .dic _ ds => pureL ds
  | .ins _ _ _ => false
  | _ => true
def pureL : List Dt → Bool
  | [] => true
  | d :: ds => pureD d && pureL ds
end
theorem pureL_get : ∀ {ds : List Dt} {i : Nat} {d : Dt}, pureL ds = true → ds[i]? = some d → pureD d = true
  | [], _, _, _, e => by simp at e
  | a :: ds, 0, d, h, e => by cases e; exact (Bool.and_eq_true_iff.mp h).1
  | a :: ds, i + 1, d, h, e => pureL_get (i := i) (Bool.and_eq_true_iff.mp h).2 e
end L2
namespace LxE
open PySem PySem.SeqAt
open AutoSeq1 (wpAny_loadPart')
open MeetsSeq MeetsSeq2 MeetsSeq3 SeqRoads2
section
variable {prog : Program} {w : World} {A : Around} {E : Value → Shared → Prop} {s : Shared}
theorem notInst_ty {v : Value} {T U : String} (hT : s.TypeIs v T) (h : isSubtype (.type T) (.type U) = pure false) : NotInst prog w s v U := fun _ _ _ q => wpAny_isInstance hT h q
theorem dict_declines {a : Addr} {v : Value} {R : Fin → Shared → Prop} (ha : s.TypeIs (.ref a) "dict") (hI : NotInst prog w s v "dict") (h : R (.done (.ret .notImplemented)) s) : wpAny (model prog w) A (Builtin.«dict.__eq__» ⟨[.ref a, v], []⟩) R E s := by
  show wpAny _ _ (Builtin.Dict.dictSlotArgs "__eq__" ⟨[.ref a, v], []⟩ >>= _) _ _ s
  refine wpAny_bind ?_
  unfold Builtin.Dict.dictSlotArgs
  refine wpAny_bind (wpAny_notOrdered_dict ha ?_)
  show wpAny _ _ (pure (Value.ref a, v)) _ _ s
  refine wpAny_pure ?_
  refine wpAny_bind (hI _ _ _ ?_)
  simp only [Bool.not_false, if_true]
  wp_walk
  exact h
theorem int_declinesD {i : Int} {u : Tok} {b : Addr} {o : Obj} {es : Array DictEntry} {ep : Nat} {R : Fin → Shared → Prop} (hb : s.heap.get? b = some o) (hd : o.data = .dict es ep) (h : R (.done (.ret .notImplemented)) s) : wpAny (model prog w) A (Builtin.«int.__eq__» ⟨[.int i u, .ref b], []⟩) R E s := by
  obtain ⟨hp, g, d, tk, os⟩ := s
  obtain ⟨cl, dd, dt, sl⟩ := o
  simp only at hd
  subst hd
  wp_walk using wpAny_loadPart' hb, wpAny_load hb
  exact h
theorem bool_declinesD {i : Bool} {b : Addr} {o : Obj} {es : Array DictEntry} {ep : Nat} {R : Fin → Shared → Prop} (hb : s.heap.get? b = some o) (hd : o.data = .dict es ep) (h : R (.done (.ret .notImplemented)) s) : wpAny (model prog w) A (Builtin.«int.__eq__» ⟨[.bool i, .ref b], []⟩) R E s := by
  obtain ⟨hp, g, d, tk, os⟩ := s
  obtain ⟨cl, dd, dt, sl⟩ := o
  simp only at hd
  subst hd
  wp_walk using wpAny_loadPart' hb, wpAny_load hb
  exact h
theorem str_declinesD {i : Str} {u : Tok} {b : Addr} {o : Obj} {es : Array DictEntry} {ep : Nat} {R : Fin → Shared → Prop} (hb : s.heap.get? b = some o) (hd : o.data = .dict es ep) (h : R (.done (.ret .notImplemented)) s) : wpAny (model prog w) A (Builtin.«str.__eq__» ⟨[.str i u, .ref b], []⟩) R E s := by
  obtain ⟨hp, g, d, tk, os⟩ := s
  obtain ⟨cl, dd, dt, sl⟩ := o
  simp only at hd
  subst hd
  wp_walk using wpAny_loadPart' hb, wpAny_load hb
  exact h
/-- a built-in == that declines, as a call -/
theorem callFin {self : Value} {rest : List Value} {T : String} {name : Str} {id : String} {B : Builtin} (slot : Slot T name id) (hT : s.TypeIs self T) (entry : entryFor table id = some B) (args : argsOk id ⟨self :: rest, []⟩)
    (hB : ∀ (A : Around) (E : Value → Shared → Prop) (R : Fin → Shared → Prop), R (.done (.ret .notImplemented)) s → wpAny (model prog w) A (B ⟨self :: rest, []⟩) R E s) (Q' : Value → Shared → Prop) (q : Q' .notImplemented s) :
    wpAny (model prog w) A (call (.builtin id) (self :: rest)) Q' E s := call_here slot hT entry args (hB _ _ _ q)
end
end LxE
namespace LxE
open PySem PySem.SeqAt L2
open AutoSeq1 (wpAny_loadPart')
open MeetsSeq MeetsSeq2 MeetsSeq3 SeqRoads2
section
variable {prog : Program} {w : World} {A : Around} {E : Value → Shared → Prop} {s : Shared}
theorem isTup_obj {h : Heap} {l : Addr} {items : Array Value} (hl : h.IsTuple l items) : ∃ n dd sl, h.get? l = some { cls := .type "tuple", dict := dd, data := .seq items n, slots := sl } := by
  obtain ⟨⟨cls, dd, data, sl⟩, ho, hc, n, hd⟩ := hl
  simp only at hc hd
  subst hc hd
  exact ⟨n, dd, sl, ho⟩
theorem dict_obj {K : Type} [DecidableEq K] {knd : KeyKind prog w K} {h : Heap} {l : Addr} {kvs : List (K × Value)} (hl : h.DictOf knd l kvs) : ∃ (o : Obj) (es : Array DictEntry) (ep : Nat), h.get? l = some o ∧ o.data = .dict es ep := by
  obtain ⟨o, es, ep, ho, _, hd, _⟩ := hl
  exact ⟨o, es, ep, ho, hd⟩
theorem ti_list {l : Addr} {items : Array Value} (hl : s.heap.IsList l items) : s.TypeIs (.ref l) "list" := by
  obtain ⟨o, ho, hc, _⟩ := hl
  exact ⟨o, ho, hc⟩
theorem ti_tuple {l : Addr} {items : Array Value} (hl : s.heap.IsTuple l items) : s.TypeIs (.ref l) "tuple" := by
  obtain ⟨o, ho, hc, _⟩ := hl
  exact ⟨o, ho, hc⟩
theorem ne_data {h : Heap} {a b : Addr} {oa ob : Obj} (ha : h.get? a = some oa) (hb : h.get? b = some ob) (hd : oa.data ≠ ob.data) : a ≠ b := fun e => by
  subst e
  rw [ha] at hb
  cases hb
  exact hd rfl
theorem isSame_lst_dic {K : Type} [DecidableEq K] {knd : KeyKind prog w K} {a b : Addr} {items : Array Value} {kvs : List (K × Value)} {M : Model} {R : Bool → Shared → Prop} (h1 : s.heap.IsList a items) (h2 : s.heap.DictOf knd b kvs) (q : R false s) : wpAny M A (isSame (.ref a) (.ref b)) R E s := by
  obtain ⟨n, dd, sl, ho⟩ := isList_obj h1
  obtain ⟨o, es, ep, ho2, hd⟩ := dict_obj h2
  exact wpAny_isSame_ref_other (ne_data ho ho2 (by rw [hd]; exact fun z => nomatch z)) ho ho2 (by simp) q
theorem isSame_dic_lst {K : Type} [DecidableEq K] {knd : KeyKind prog w K} {a b : Addr} {items : Array Value} {kvs : List (K × Value)} {M : Model} {R : Bool → Shared → Prop} (h2 : s.heap.DictOf knd a kvs) (h1 : s.heap.IsList b items) (q : R false s) : wpAny M A (isSame (.ref a) (.ref b)) R E s := by
  obtain ⟨n, dd, sl, ho⟩ := isList_obj h1
  obtain ⟨o, es, ep, ho2, hd⟩ := dict_obj h2
  exact wpAny_isSame_ref_other' (ne_data ho2 ho (by rw [hd]; exact fun z => nomatch z)) ho2 ho (by simp) q
theorem isSame_tup_dic {K : Type} [DecidableEq K] {knd : KeyKind prog w K} {a b : Addr} {items : Array Value} {kvs : List (K × Value)} {M : Model} {R : Bool → Shared → Prop} (h1 : s.heap.IsTuple a items) (h2 : s.heap.DictOf knd b kvs) (q : R false s) : wpAny M A (isSame (.ref a) (.ref b)) R E s := by
  obtain ⟨n, dd, sl, ho⟩ := isTup_obj h1
  have ht := h2.typeIs
  obtain ⟨o, es, ep, ho2, hd⟩ := dict_obj h2
  obtain ⟨o', ho', hc⟩ := ht
  rw [ho2] at ho'
  cases ho'
  exact wpAny_isSame_ref_other' (ne_data ho ho2 (by rw [hd]; exact fun z => nomatch z)) ho ho2 (by rw [hc]; simp) q
theorem isSame_dic_tup {K : Type} [DecidableEq K] {knd : KeyKind prog w K} {a b : Addr} {items : Array Value} {kvs : List (K × Value)} {M : Model} {R : Bool → Shared → Prop} (h2 : s.heap.DictOf knd a kvs) (h1 : s.heap.IsTuple b items) (q : R false s) : wpAny M A (isSame (.ref a) (.ref b)) R E s := by
  obtain ⟨n, dd, sl, ho⟩ := isTup_obj h1
  have ht := h2.typeIs
  obtain ⟨o, es, ep, ho2, hd⟩ := dict_obj h2
  obtain ⟨o', ho', hc⟩ := ht
  rw [ho2] at ho'
  cases ho'
  exact wpAny_isSame_ref_other (ne_data ho2 ho (by rw [hd]; exact fun z => nomatch z)) ho2 ho (by rw [hc]; simp) q
end
def kd : Dt → Nat
  | .non => 0 | .bl _ => 1 | .int _ => 1 | .str _ => 2 | .lst _ => 3 | .tup _ => 4 | .dic _ _ => 5 | .ins _ _ _ => 6
def RcP (prog : Program) (w : World) (A : Around) (s : Shared) (u v : Value) (k : Bool) : Prop := ∀ (E Q : Value → Shared → Prop), Q (.bool k) s → wpAny (model prog w) A (richCompare .Eq u v) Q E s
theorem mis {X : Cx} {pins : List (Addr × Obj)} {σ : L2.St} {H : Hp} {s : Shared} {A : Around} (I : Inv X pins σ H s) (hu : A.units < cLine) {x y : V} {u v : Value} :
    ∀ (d e : Dt), Is X.K H d x → Is X.K H e y → RelV x u → RelV y v → kd d ≠ kd e → kd d ≠ 6 → kd e ≠ 6 → RcP X.prog X.w A s u v false
  | .non, .non, _, _, _, _, h, _, _ => absurd rfl h
  | .non, .bl b2, hd, he, rx, ry, _, _, _ => by
    cases (show x = V.non from hd)
    cases (show u = Value.none from rx)
    cases (show y = V.bl b2 from he)
    cases (show v = Value.bool b2 from ry)
    exact fun E Q q => RcAt.none_bool b2 X.prog X.w E Q q
  | .non, .int i2, hd, he, rx, ry, _, _, _ => by
    cases (show x = V.non from hd)
    cases (show u = Value.none from rx)
    cases (show y = V.int i2 from he)
    obtain ⟨t2, rfl⟩ := (show ∃ t, v = Value.int i2 t from ry)
    exact fun E Q q => RcAt.none_int i2 t2 X.prog X.w E Q q
  | .non, .str z2, hd, he, rx, ry, _, _, _ => by
    cases (show x = V.non from hd)
    cases (show u = Value.none from rx)
    cases (show y = V.str z2 from he)
    obtain ⟨t2, rfl⟩ := (show ∃ t, v = Value.str z2 t from ry)
    exact fun E Q q => RcAt.none_str z2 t2 X.prog X.w E Q q
  | .non, .lst ds2, hd, he, rx, ry, _, _, _ => by
    cases (show x = V.non from hd)
    cases (show u = Value.none from rx)
    obtain ⟨a2, xs2, ex2, hs2, _⟩ := he
    subst ex2
    cases (show v = Value.ref a2 from ry)
    obtain ⟨its2, _, p2, _⟩ := I.list hs2
    have o2 := p2.isList
    exact fun E Q q => RcAt.none_list o2 hu X.prog X.w E Q q
  | .non, .tup ds2, hd, he, rx, ry, _, _, _ => by
    cases (show x = V.non from hd)
    cases (show u = Value.none from rx)
    obtain ⟨a2, xs2, ex2, hs2, _⟩ := he
    subst ex2
    cases (show v = Value.ref a2 from ry)
    obtain ⟨its2, _, o2, _⟩ := I.tuple hs2
    exact fun E Q q => RcAt.none_tuple o2 hu X.prog X.w E Q q
  | .non, .dic ks2 ds2, hd, he, rx, ry, _, _, _ => by
    cases (show x = V.non from hd)
    cases (show u = Value.none from rx)
    obtain ⟨a2, xs2, ex2, hs2, _⟩ := he
    subst ex2
    cases (show v = Value.ref a2 from ry)
    obtain ⟨_, _, va2, _, o2⟩ := (show ObjOk X.prog X.w H s.heap a2 (.dK xs2) from I.hok a2 _ hs2)
    exact fun E Q q => rc_eq_decline_or (k := false) (show s.TypeIs Value.none "NoneType" from rfl) o2.typeIs (by decide) F.sub_dict_NoneType F.slot_NoneType_eq F.slot_dict_eq_refl
      (fun Q' q' => call_gives F.slot_NoneType_eq rfl F.entry_NoneType_eq (F.args_NoneType_eq_2 _ _) (NoneType___eq___none_ref_0 a2) q')
      (fun Q' q' => callFin F.slot_dict_eq_refl o2.typeIs F.entry_dict_eq (F.args_dict_eq_2 _ _) (fun _ _ _ z => dict_declines o2.typeIs (notInst_ty (show s.TypeIs Value.none "NoneType" from rfl) F.sub_NoneType_dict) z) Q' q')
      (fun _ q' => wpAny_of_eq (rfl : isSame Value.none (Value.ref a2) = pure false) q') (.inr hu) q
  | .bl b1, .non, hd, he, rx, ry, _, _, _ => by
    cases (show x = V.bl b1 from hd)
    cases (show u = Value.bool b1 from rx)
    cases (show y = V.non from he)
    cases (show v = Value.none from ry)
    exact fun E Q q => RcAt.bool_none b1 X.prog X.w E Q q
  | .bl b1, .bl b2, _, _, _, _, h, _, _ => absurd rfl h
  | .bl b1, .int i2, _, _, _, _, h, _, _ => absurd rfl h
  | .bl b1, .str z2, hd, he, rx, ry, _, _, _ => by
    cases (show x = V.bl b1 from hd)
    cases (show u = Value.bool b1 from rx)
    cases (show y = V.str z2 from he)
    obtain ⟨t2, rfl⟩ := (show ∃ t, v = Value.str z2 t from ry)
    exact fun E Q q => RcAt.bool_str b1 z2 t2 X.prog X.w E Q q
  | .bl b1, .lst ds2, hd, he, rx, ry, _, _, _ => by
    cases (show x = V.bl b1 from hd)
    cases (show u = Value.bool b1 from rx)
    obtain ⟨a2, xs2, ex2, hs2, _⟩ := he
    subst ex2
    cases (show v = Value.ref a2 from ry)
    obtain ⟨its2, _, p2, _⟩ := I.list hs2
    have o2 := p2.isList
    exact fun E Q q => RcAt.bool_list b1 o2 hu X.prog X.w E Q q
  | .bl b1, .tup ds2, hd, he, rx, ry, _, _, _ => by
    cases (show x = V.bl b1 from hd)
    cases (show u = Value.bool b1 from rx)
    obtain ⟨a2, xs2, ex2, hs2, _⟩ := he
    subst ex2
    cases (show v = Value.ref a2 from ry)
    obtain ⟨its2, _, o2, _⟩ := I.tuple hs2
    exact fun E Q q => RcAt.bool_tuple b1 o2 hu X.prog X.w E Q q
  | .bl b1, .dic ks2 ds2, hd, he, rx, ry, _, _, _ => by
    cases (show x = V.bl b1 from hd)
    cases (show u = Value.bool b1 from rx)
    obtain ⟨a2, xs2, ex2, hs2, _⟩ := he
    subst ex2
    cases (show v = Value.ref a2 from ry)
    obtain ⟨_, _, va2, _, o2⟩ := (show ObjOk X.prog X.w H s.heap a2 (.dK xs2) from I.hok a2 _ hs2)
    exact fun E Q q => rc_eq_decline_or (k := false) (show s.TypeIs (Value.bool b1) "bool" from rfl) o2.typeIs (by decide) F.sub_dict_bool F.slot_bool_eq F.slot_dict_eq_refl
      (fun Q' q' => callFin F.slot_bool_eq (show s.TypeIs (Value.bool b1) "bool" from rfl) F.entry_int_eq (F.args_int_eq_2 _ _) (fun _ _ _ z => (dict_obj o2).elim fun _ y => y.elim fun _ y => y.elim fun _ ho => bool_declinesD ho.1 ho.2 z) Q' q')
      (fun Q' q' => callFin F.slot_dict_eq_refl o2.typeIs F.entry_dict_eq (F.args_dict_eq_2 _ _) (fun _ _ _ z => dict_declines o2.typeIs (notInst_ty (show s.TypeIs (Value.bool b1) "bool" from rfl) F.sub_bool_dict) z) Q' q')
      (fun _ q' => wpAny_of_eq (rfl : isSame (Value.bool b1) (Value.ref a2) = pure false) q') (.inr hu) q
  | .int i1, .non, hd, he, rx, ry, _, _, _ => by
    cases (show x = V.int i1 from hd)
    obtain ⟨t1, rfl⟩ := (show ∃ t, u = Value.int i1 t from rx)
    cases (show y = V.non from he)
    cases (show v = Value.none from ry)
    exact fun E Q q => RcAt.int_none i1 t1 X.prog X.w E Q q
  | .int i1, .bl b2, _, _, _, _, h, _, _ => absurd rfl h
  | .int i1, .int i2, _, _, _, _, h, _, _ => absurd rfl h
  | .int i1, .str z2, hd, he, rx, ry, _, _, _ => by
    cases (show x = V.int i1 from hd)
    obtain ⟨t1, rfl⟩ := (show ∃ t, u = Value.int i1 t from rx)
    cases (show y = V.str z2 from he)
    obtain ⟨t2, rfl⟩ := (show ∃ t, v = Value.str z2 t from ry)
    exact fun E Q q => RcAt.int_str i1 t1 z2 t2 X.prog X.w E Q q
  | .int i1, .lst ds2, hd, he, rx, ry, _, _, _ => by
    cases (show x = V.int i1 from hd)
    obtain ⟨t1, rfl⟩ := (show ∃ t, u = Value.int i1 t from rx)
    obtain ⟨a2, xs2, ex2, hs2, _⟩ := he
    subst ex2
    cases (show v = Value.ref a2 from ry)
    obtain ⟨its2, _, p2, _⟩ := I.list hs2
    have o2 := p2.isList
    exact fun E Q q => RcAt.int_list i1 t1 o2 hu X.prog X.w E Q q
  | .int i1, .tup ds2, hd, he, rx, ry, _, _, _ => by
    cases (show x = V.int i1 from hd)
    obtain ⟨t1, rfl⟩ := (show ∃ t, u = Value.int i1 t from rx)
    obtain ⟨a2, xs2, ex2, hs2, _⟩ := he
    subst ex2
    cases (show v = Value.ref a2 from ry)
    obtain ⟨its2, _, o2, _⟩ := I.tuple hs2
    exact fun E Q q => RcAt.int_tuple i1 t1 o2 hu X.prog X.w E Q q
  | .int i1, .dic ks2 ds2, hd, he, rx, ry, _, _, _ => by
    cases (show x = V.int i1 from hd)
    obtain ⟨t1, rfl⟩ := (show ∃ t, u = Value.int i1 t from rx)
    obtain ⟨a2, xs2, ex2, hs2, _⟩ := he
    subst ex2
    cases (show v = Value.ref a2 from ry)
    obtain ⟨_, _, va2, _, o2⟩ := (show ObjOk X.prog X.w H s.heap a2 (.dK xs2) from I.hok a2 _ hs2)
    exact fun E Q q => rc_eq_decline_or (k := false) (show s.TypeIs (Value.int i1 t1) "int" from rfl) o2.typeIs (by decide) F.sub_dict_int F.slot_int_eq F.slot_dict_eq_refl
      (fun Q' q' => callFin F.slot_int_eq (show s.TypeIs (Value.int i1 t1) "int" from rfl) F.entry_int_eq (F.args_int_eq_2 _ _) (fun _ _ _ z => (dict_obj o2).elim fun _ y => y.elim fun _ y => y.elim fun _ ho => int_declinesD ho.1 ho.2 z) Q' q')
      (fun Q' q' => callFin F.slot_dict_eq_refl o2.typeIs F.entry_dict_eq (F.args_dict_eq_2 _ _) (fun _ _ _ z => dict_declines o2.typeIs (notInst_ty (show s.TypeIs (Value.int i1 t1) "int" from rfl) F.sub_int_dict) z) Q' q')
      (fun _ q' => wpAny_of_eq (rfl : isSame (Value.int i1 t1) (Value.ref a2) = pure false) q') (.inr hu) q
  | .str z1, .non, hd, he, rx, ry, _, _, _ => by
    cases (show x = V.str z1 from hd)
    obtain ⟨t1, rfl⟩ := (show ∃ t, u = Value.str z1 t from rx)
    cases (show y = V.non from he)
    cases (show v = Value.none from ry)
    exact fun E Q q => RcAt.str_none z1 t1 X.prog X.w E Q q
  | .str z1, .bl b2, hd, he, rx, ry, _, _, _ => by
    cases (show x = V.str z1 from hd)
    obtain ⟨t1, rfl⟩ := (show ∃ t, u = Value.str z1 t from rx)
    cases (show y = V.bl b2 from he)
    cases (show v = Value.bool b2 from ry)
    exact fun E Q q => RcAt.str_bool z1 t1 b2 X.prog X.w E Q q
  | .str z1, .int i2, hd, he, rx, ry, _, _, _ => by
    cases (show x = V.str z1 from hd)
    obtain ⟨t1, rfl⟩ := (show ∃ t, u = Value.str z1 t from rx)
    cases (show y = V.int i2 from he)
    obtain ⟨t2, rfl⟩ := (show ∃ t, v = Value.int i2 t from ry)
    exact fun E Q q => RcAt.str_int z1 t1 i2 t2 X.prog X.w E Q q
  | .str z1, .str z2, _, _, _, _, h, _, _ => absurd rfl h
  | .str z1, .lst ds2, hd, he, rx, ry, _, _, _ => by
    cases (show x = V.str z1 from hd)
    obtain ⟨t1, rfl⟩ := (show ∃ t, u = Value.str z1 t from rx)
    obtain ⟨a2, xs2, ex2, hs2, _⟩ := he
    subst ex2
    cases (show v = Value.ref a2 from ry)
    obtain ⟨its2, _, p2, _⟩ := I.list hs2
    have o2 := p2.isList
    exact fun E Q q => RcAt.str_list z1 t1 o2 hu X.prog X.w E Q q
  | .str z1, .tup ds2, hd, he, rx, ry, _, _, _ => by
    cases (show x = V.str z1 from hd)
    obtain ⟨t1, rfl⟩ := (show ∃ t, u = Value.str z1 t from rx)
    obtain ⟨a2, xs2, ex2, hs2, _⟩ := he
    subst ex2
    cases (show v = Value.ref a2 from ry)
    obtain ⟨its2, _, o2, _⟩ := I.tuple hs2
    exact fun E Q q => RcAt.str_tuple z1 t1 o2 hu X.prog X.w E Q q
  | .str z1, .dic ks2 ds2, hd, he, rx, ry, _, _, _ => by
    cases (show x = V.str z1 from hd)
    obtain ⟨t1, rfl⟩ := (show ∃ t, u = Value.str z1 t from rx)
    obtain ⟨a2, xs2, ex2, hs2, _⟩ := he
    subst ex2
    cases (show v = Value.ref a2 from ry)
    obtain ⟨_, _, va2, _, o2⟩ := (show ObjOk X.prog X.w H s.heap a2 (.dK xs2) from I.hok a2 _ hs2)
    exact fun E Q q => rc_eq_decline_or (k := false) (show s.TypeIs (Value.str z1 t1) "str" from rfl) o2.typeIs (by decide) F.sub_dict_str F.slot_str_eq F.slot_dict_eq_refl
      (fun Q' q' => callFin F.slot_str_eq (show s.TypeIs (Value.str z1 t1) "str" from rfl) F.entry_str_eq (F.args_str_eq_2 _ _) (fun _ _ _ z => (dict_obj o2).elim fun _ y => y.elim fun _ y => y.elim fun _ ho => str_declinesD ho.1 ho.2 z) Q' q')
      (fun Q' q' => callFin F.slot_dict_eq_refl o2.typeIs F.entry_dict_eq (F.args_dict_eq_2 _ _) (fun _ _ _ z => dict_declines o2.typeIs (notInst_ty (show s.TypeIs (Value.str z1 t1) "str" from rfl) F.sub_str_dict) z) Q' q')
      (fun _ q' => wpAny_of_eq (rfl : isSame (Value.str z1 t1) (Value.ref a2) = pure false) q') (.inr hu) q
  | .lst ds1, .non, hd, he, rx, ry, _, _, _ => by
    obtain ⟨a1, xs1, ex1, hs1, _⟩ := hd
    subst ex1
    cases (show u = Value.ref a1 from rx)
    obtain ⟨its1, _, p1, _⟩ := I.list hs1
    have o1 := p1.isList
    cases (show y = V.non from he)
    cases (show v = Value.none from ry)
    exact fun E Q q => RcAt.list_none o1 hu X.prog X.w E Q q
  | .lst ds1, .bl b2, hd, he, rx, ry, _, _, _ => by
    obtain ⟨a1, xs1, ex1, hs1, _⟩ := hd
    subst ex1
    cases (show u = Value.ref a1 from rx)
    obtain ⟨its1, _, p1, _⟩ := I.list hs1
    have o1 := p1.isList
    cases (show y = V.bl b2 from he)
    cases (show v = Value.bool b2 from ry)
    exact fun E Q q => RcAt.list_bool b2 o1 hu X.prog X.w E Q q
  | .lst ds1, .int i2, hd, he, rx, ry, _, _, _ => by
    obtain ⟨a1, xs1, ex1, hs1, _⟩ := hd
    subst ex1
    cases (show u = Value.ref a1 from rx)
    obtain ⟨its1, _, p1, _⟩ := I.list hs1
    have o1 := p1.isList
    cases (show y = V.int i2 from he)
    obtain ⟨t2, rfl⟩ := (show ∃ t, v = Value.int i2 t from ry)
    exact fun E Q q => RcAt.list_int i2 t2 o1 hu X.prog X.w E Q q
  | .lst ds1, .str z2, hd, he, rx, ry, _, _, _ => by
    obtain ⟨a1, xs1, ex1, hs1, _⟩ := hd
    subst ex1
    cases (show u = Value.ref a1 from rx)
    obtain ⟨its1, _, p1, _⟩ := I.list hs1
    have o1 := p1.isList
    cases (show y = V.str z2 from he)
    obtain ⟨t2, rfl⟩ := (show ∃ t, v = Value.str z2 t from ry)
    exact fun E Q q => RcAt.list_str z2 t2 o1 hu X.prog X.w E Q q
  | .lst ds1, .lst ds2, _, _, _, _, h, _, _ => absurd rfl h
  | .lst ds1, .tup ds2, hd, he, rx, ry, _, _, _ => by
    obtain ⟨a1, xs1, ex1, hs1, _⟩ := hd
    subst ex1
    cases (show u = Value.ref a1 from rx)
    obtain ⟨its1, _, p1, _⟩ := I.list hs1
    have o1 := p1.isList
    obtain ⟨a2, xs2, ex2, hs2, _⟩ := he
    subst ex2
    cases (show v = Value.ref a2 from ry)
    obtain ⟨its2, _, o2, _⟩ := I.tuple hs2
    exact fun E Q q => RcAt.list_tuple o1 o2 hu X.prog X.w E Q q
  | .lst ds1, .dic ks2 ds2, hd, he, rx, ry, _, _, _ => by
    obtain ⟨a1, xs1, ex1, hs1, _⟩ := hd
    subst ex1
    cases (show u = Value.ref a1 from rx)
    obtain ⟨its1, _, p1, _⟩ := I.list hs1
    have o1 := p1.isList
    obtain ⟨a2, xs2, ex2, hs2, _⟩ := he
    subst ex2
    cases (show v = Value.ref a2 from ry)
    obtain ⟨_, _, va2, _, o2⟩ := (show ObjOk X.prog X.w H s.heap a2 (.dK xs2) from I.hok a2 _ hs2)
    exact fun E Q q => rc_eq_decline_or (k := false) (ti_list o1) o2.typeIs (by decide) F.sub_dict_list F.slot_list_eq F.slot_dict_eq_refl
      (fun Q' q' => callFin F.slot_list_eq (ti_list o1) F.entry_list_eq (F.args_list_eq_2 _ _) (fun _ _ _ z => (isList_obj o1).elim fun _ y => y.elim fun _ y => y.elim fun _ ho => list_declinesI ho (notInst_ty o2.typeIs F.sub_dict_list) z) Q' q')
      (fun Q' q' => callFin F.slot_dict_eq_refl o2.typeIs F.entry_dict_eq (F.args_dict_eq_2 _ _) (fun _ _ _ z => dict_declines o2.typeIs (notInst_ty (ti_list o1) F.sub_list_dict) z) Q' q')
      (fun _ q' => isSame_lst_dic o1 o2 q') (.inr hu) q
  | .tup ds1, .non, hd, he, rx, ry, _, _, _ => by
    obtain ⟨a1, xs1, ex1, hs1, _⟩ := hd
    subst ex1
    cases (show u = Value.ref a1 from rx)
    obtain ⟨its1, _, o1, _⟩ := I.tuple hs1
    cases (show y = V.non from he)
    cases (show v = Value.none from ry)
    exact fun E Q q => RcAt.tuple_none o1 hu X.prog X.w E Q q
  | .tup ds1, .bl b2, hd, he, rx, ry, _, _, _ => by
    obtain ⟨a1, xs1, ex1, hs1, _⟩ := hd
    subst ex1
    cases (show u = Value.ref a1 from rx)
    obtain ⟨its1, _, o1, _⟩ := I.tuple hs1
    cases (show y = V.bl b2 from he)
    cases (show v = Value.bool b2 from ry)
    exact fun E Q q => RcAt.tuple_bool b2 o1 hu X.prog X.w E Q q
  | .tup ds1, .int i2, hd, he, rx, ry, _, _, _ => by
    obtain ⟨a1, xs1, ex1, hs1, _⟩ := hd
    subst ex1
    cases (show u = Value.ref a1 from rx)
    obtain ⟨its1, _, o1, _⟩ := I.tuple hs1
    cases (show y = V.int i2 from he)
    obtain ⟨t2, rfl⟩ := (show ∃ t, v = Value.int i2 t from ry)
    exact fun E Q q => RcAt.tuple_int i2 t2 o1 hu X.prog X.w E Q q
  | .tup ds1, .str z2, hd, he, rx, ry, _, _, _ => by
    obtain ⟨a1, xs1, ex1, hs1, _⟩ := hd
    subst ex1
    cases (show u = Value.ref a1 from rx)
    obtain ⟨its1, _, o1, _⟩ := I.tuple hs1
    cases (show y = V.str z2 from he)
    obtain ⟨t2, rfl⟩ := (show ∃ t, v = Value.str z2 t from ry)
    exact fun E Q q => RcAt.tuple_str z2 t2 o1 hu X.prog X.w E Q q
  | .tup ds1, .lst ds2, hd, he, rx, ry, _, _, _ => by
    obtain ⟨a1, xs1, ex1, hs1, _⟩ := hd
    subst ex1
    cases (show u = Value.ref a1 from rx)
    obtain ⟨its1, _, o1, _⟩ := I.tuple hs1
    obtain ⟨a2, xs2, ex2, hs2, _⟩ := he
    subst ex2
    cases (show v = Value.ref a2 from ry)
    obtain ⟨its2, _, p2, _⟩ := I.list hs2
    have o2 := p2.isList
    exact fun E Q q => RcAt.tuple_list o1 o2 hu X.prog X.w E Q q
  | .tup ds1, .tup ds2, _, _, _, _, h, _, _ => absurd rfl h
  | .tup ds1, .dic ks2 ds2, hd, he, rx, ry, _, _, _ => by
    obtain ⟨a1, xs1, ex1, hs1, _⟩ := hd
    subst ex1
    cases (show u = Value.ref a1 from rx)
    obtain ⟨its1, _, o1, _⟩ := I.tuple hs1
    obtain ⟨a2, xs2, ex2, hs2, _⟩ := he
    subst ex2
    cases (show v = Value.ref a2 from ry)
    obtain ⟨_, _, va2, _, o2⟩ := (show ObjOk X.prog X.w H s.heap a2 (.dK xs2) from I.hok a2 _ hs2)
    exact fun E Q q => rc_eq_decline_or (k := false) (ti_tuple o1) o2.typeIs (by decide) F.sub_dict_tuple F.slot_tuple_eq F.slot_dict_eq_refl
      (fun Q' q' => callFin F.slot_tuple_eq (ti_tuple o1) F.entry_tuple_eq (F.args_tuple_eq_2 _ _) (fun _ _ _ z => (isTup_obj o1).elim fun _ y => y.elim fun _ y => y.elim fun _ ho => tuple_declinesI ho (notInst_ty o2.typeIs F.sub_dict_tuple) z) Q' q')
      (fun Q' q' => callFin F.slot_dict_eq_refl o2.typeIs F.entry_dict_eq (F.args_dict_eq_2 _ _) (fun _ _ _ z => dict_declines o2.typeIs (notInst_ty (ti_tuple o1) F.sub_tuple_dict) z) Q' q')
      (fun _ q' => isSame_tup_dic o1 o2 q') (.inr hu) q
  | .dic ks1 ds1, .non, hd, he, rx, ry, _, _, _ => by
    obtain ⟨a1, xs1, ex1, hs1, _⟩ := hd
    subst ex1
    cases (show u = Value.ref a1 from rx)
    obtain ⟨_, _, va1, _, o1⟩ := (show ObjOk X.prog X.w H s.heap a1 (.dK xs1) from I.hok a1 _ hs1)
    cases (show y = V.non from he)
    cases (show v = Value.none from ry)
    exact fun E Q q => rc_eq_decline_or (k := false) o1.typeIs (show s.TypeIs Value.none "NoneType" from rfl) (by decide) F.sub_NoneType_dict F.slot_dict_eq F.slot_NoneType_eq_refl
      (fun Q' q' => callFin F.slot_dict_eq o1.typeIs F.entry_dict_eq (F.args_dict_eq_2 _ _) (fun _ _ _ z => dict_declines o1.typeIs (notInst_ty (show s.TypeIs Value.none "NoneType" from rfl) F.sub_NoneType_dict) z) Q' q')
      (fun Q' q' => call_gives F.slot_NoneType_eq_refl rfl F.entry_NoneType_eq (F.args_NoneType_eq_2 _ _) (NoneType___eq___none_ref_0 a1) q')
      (fun _ q' => wpAny_of_eq (rfl : isSame (Value.ref a1) Value.none = pure false) q') (.inr hu) q
  | .dic ks1 ds1, .bl b2, hd, he, rx, ry, _, _, _ => by
    obtain ⟨a1, xs1, ex1, hs1, _⟩ := hd
    subst ex1
    cases (show u = Value.ref a1 from rx)
    obtain ⟨_, _, va1, _, o1⟩ := (show ObjOk X.prog X.w H s.heap a1 (.dK xs1) from I.hok a1 _ hs1)
    cases (show y = V.bl b2 from he)
    cases (show v = Value.bool b2 from ry)
    exact fun E Q q => rc_eq_decline_or (k := false) o1.typeIs (show s.TypeIs (Value.bool b2) "bool" from rfl) (by decide) F.sub_bool_dict F.slot_dict_eq F.slot_bool_eq_refl
      (fun Q' q' => callFin F.slot_dict_eq o1.typeIs F.entry_dict_eq (F.args_dict_eq_2 _ _) (fun _ _ _ z => dict_declines o1.typeIs (notInst_ty (show s.TypeIs (Value.bool b2) "bool" from rfl) F.sub_bool_dict) z) Q' q')
      (fun Q' q' => callFin F.slot_bool_eq_refl (show s.TypeIs (Value.bool b2) "bool" from rfl) F.entry_int_eq (F.args_int_eq_2 _ _) (fun _ _ _ z => (dict_obj o1).elim fun _ y => y.elim fun _ y => y.elim fun _ ho => bool_declinesD ho.1 ho.2 z) Q' q')
      (fun _ q' => wpAny_of_eq (rfl : isSame (Value.ref a1) (Value.bool b2) = pure false) q') (.inr hu) q
  | .dic ks1 ds1, .int i2, hd, he, rx, ry, _, _, _ => by
    obtain ⟨a1, xs1, ex1, hs1, _⟩ := hd
    subst ex1
    cases (show u = Value.ref a1 from rx)
    obtain ⟨_, _, va1, _, o1⟩ := (show ObjOk X.prog X.w H s.heap a1 (.dK xs1) from I.hok a1 _ hs1)
    cases (show y = V.int i2 from he)
    obtain ⟨t2, rfl⟩ := (show ∃ t, v = Value.int i2 t from ry)
    exact fun E Q q => rc_eq_decline_or (k := false) o1.typeIs (show s.TypeIs (Value.int i2 t2) "int" from rfl) (by decide) F.sub_int_dict F.slot_dict_eq F.slot_int_eq_refl
      (fun Q' q' => callFin F.slot_dict_eq o1.typeIs F.entry_dict_eq (F.args_dict_eq_2 _ _) (fun _ _ _ z => dict_declines o1.typeIs (notInst_ty (show s.TypeIs (Value.int i2 t2) "int" from rfl) F.sub_int_dict) z) Q' q')
      (fun Q' q' => callFin F.slot_int_eq_refl (show s.TypeIs (Value.int i2 t2) "int" from rfl) F.entry_int_eq (F.args_int_eq_2 _ _) (fun _ _ _ z => (dict_obj o1).elim fun _ y => y.elim fun _ y => y.elim fun _ ho => int_declinesD ho.1 ho.2 z) Q' q')
      (fun _ q' => wpAny_of_eq (rfl : isSame (Value.ref a1) (Value.int i2 t2) = pure false) q') (.inr hu) q
  | .dic ks1 ds1, .str z2, hd, he, rx, ry, _, _, _ => by
    obtain ⟨a1, xs1, ex1, hs1, _⟩ := hd
    subst ex1
    cases (show u = Value.ref a1 from rx)
    obtain ⟨_, _, va1, _, o1⟩ := (show ObjOk X.prog X.w H s.heap a1 (.dK xs1) from I.hok a1 _ hs1)
    cases (show y = V.str z2 from he)
    obtain ⟨t2, rfl⟩ := (show ∃ t, v = Value.str z2 t from ry)
    exact fun E Q q => rc_eq_decline_or (k := false) o1.typeIs (show s.TypeIs (Value.str z2 t2) "str" from rfl) (by decide) F.sub_str_dict F.slot_dict_eq F.slot_str_eq_refl
      (fun Q' q' => callFin F.slot_dict_eq o1.typeIs F.entry_dict_eq (F.args_dict_eq_2 _ _) (fun _ _ _ z => dict_declines o1.typeIs (notInst_ty (show s.TypeIs (Value.str z2 t2) "str" from rfl) F.sub_str_dict) z) Q' q')
      (fun Q' q' => callFin F.slot_str_eq_refl (show s.TypeIs (Value.str z2 t2) "str" from rfl) F.entry_str_eq (F.args_str_eq_2 _ _) (fun _ _ _ z => (dict_obj o1).elim fun _ y => y.elim fun _ y => y.elim fun _ ho => str_declinesD ho.1 ho.2 z) Q' q')
      (fun _ q' => wpAny_of_eq (rfl : isSame (Value.ref a1) (Value.str z2 t2) = pure false) q') (.inr hu) q
  | .dic ks1 ds1, .lst ds2, hd, he, rx, ry, _, _, _ => by
    obtain ⟨a1, xs1, ex1, hs1, _⟩ := hd
    subst ex1
    cases (show u = Value.ref a1 from rx)
    obtain ⟨_, _, va1, _, o1⟩ := (show ObjOk X.prog X.w H s.heap a1 (.dK xs1) from I.hok a1 _ hs1)
    obtain ⟨a2, xs2, ex2, hs2, _⟩ := he
    subst ex2
    cases (show v = Value.ref a2 from ry)
    obtain ⟨its2, _, p2, _⟩ := I.list hs2
    have o2 := p2.isList
    exact fun E Q q => rc_eq_decline_or (k := false) o1.typeIs (ti_list o2) (by decide) F.sub_list_dict F.slot_dict_eq F.slot_list_eq_refl
      (fun Q' q' => callFin F.slot_dict_eq o1.typeIs F.entry_dict_eq (F.args_dict_eq_2 _ _) (fun _ _ _ z => dict_declines o1.typeIs (notInst_ty (ti_list o2) F.sub_list_dict) z) Q' q')
      (fun Q' q' => callFin F.slot_list_eq_refl (ti_list o2) F.entry_list_eq (F.args_list_eq_2 _ _) (fun _ _ _ z => (isList_obj o2).elim fun _ y => y.elim fun _ y => y.elim fun _ ho => list_declinesI ho (notInst_ty o1.typeIs F.sub_dict_list) z) Q' q')
      (fun _ q' => isSame_dic_lst o1 o2 q') (.inr hu) q
  | .dic ks1 ds1, .tup ds2, hd, he, rx, ry, _, _, _ => by
    obtain ⟨a1, xs1, ex1, hs1, _⟩ := hd
    subst ex1
    cases (show u = Value.ref a1 from rx)
    obtain ⟨_, _, va1, _, o1⟩ := (show ObjOk X.prog X.w H s.heap a1 (.dK xs1) from I.hok a1 _ hs1)
    obtain ⟨a2, xs2, ex2, hs2, _⟩ := he
    subst ex2
    cases (show v = Value.ref a2 from ry)
    obtain ⟨its2, _, o2, _⟩ := I.tuple hs2
    exact fun E Q q => rc_eq_decline_or (k := false) o1.typeIs (ti_tuple o2) (by decide) F.sub_tuple_dict F.slot_dict_eq F.slot_tuple_eq_refl
      (fun Q' q' => callFin F.slot_dict_eq o1.typeIs F.entry_dict_eq (F.args_dict_eq_2 _ _) (fun _ _ _ z => dict_declines o1.typeIs (notInst_ty (ti_tuple o2) F.sub_tuple_dict) z) Q' q')
      (fun Q' q' => callFin F.slot_tuple_eq_refl (ti_tuple o2) F.entry_tuple_eq (F.args_tuple_eq_2 _ _) (fun _ _ _ z => (isTup_obj o2).elim fun _ y => y.elim fun _ y => y.elim fun _ ho => tuple_declinesI ho (notInst_ty o1.typeIs F.sub_dict_tuple) z) Q' q')
      (fun _ q' => isSame_dic_tup o1 o2 q') (.inr hu) q
  | .dic ks1 ds1, .dic ks2 ds2, _, _, _, _, h, _, _ => absurd rfl h
  | .ins _ _ _, _, _, _, _, _, _, h, _ => absurd rfl h
  | _, .ins _ _ _, _, _, _, _, _, _, h => absurd rfl h
end LxE
namespace LxE
open PySem PySem.SeqAt L2
theorem dep_lst {ds : List Dt} {i : Nat} {d : Dt} {n : Nat} (h : depL ds + 1 ≤ n + 1) (e : ds[i]? = some d) : dep d ≤ n := by
  have := depL_get e
  omega
theorem eAt_some {ds es : List Dt} {i : Nat} {d e : Dt} (h1 : ds[i]? = some d) (h2 : es[i]? = some e) : eAt ds es i = deq d e := by
  unfold eAt
  rw [h1, h2]
theorem deqL_true : ∀ {ds es : List Dt}, ds.length = es.length → (∀ (i : Nat) (d e : Dt), ds[i]? = some d → es[i]? = some e → deq d e = true) → deqL ds es = true
  | [], [], _, _ => rfl
  | [], _ :: _, h, _ => by simp at h
  | _ :: _, [], h, _ => by simp at h
  | a :: as, b :: bs, h, k => by
    show (deq a b && deqL as bs) = true
    rw [k 0 a b rfl rfl, deqL_true (by simpa using h) fun i d e h1 h2 => k (i + 1) d e h1 h2] <;> rfl
theorem look_cons {l : Key} {ls : List Key} {e : Dt} {es : List Dt} {k : Key} : look (l :: ls) (e :: es) k = if l = k then some e else look ls es k := by
  unfold look
  rw [List.zip_cons_cons, List.find?_cons]
  by_cases h : l = k
  · simp [h]
  · simp [h]
theorem look_val {K : PySem.W.Frag} {H : Hp} : ∀ {kvs : List (Key × V)} {es : List Dt} {k : Key}, IsL K H es (kvs.map (·.2)) →
    (∀ v, valV kvs k = some v → ∃ e, look (kvs.map (·.1)) es k = some e ∧ Is K H e v) ∧ (valV kvs k = none → look (kvs.map (·.1)) es k = none)
  | [], es, k, h => by
    constructor
    · intro v hv
      exact absurd hv (by unfold valV; simp)
    · intro _
      unfold look
      rw [List.map_nil, List.zip_nil_left] <;> rfl
  | p :: kvs, [], k, h => by
    have h' : List.map (·.2) (p :: kvs) = [] := h
    simp at h'
  | p :: kvs, e :: es, k, h => by
    obtain ⟨v, r, h1, h2, h3⟩ := h
    rw [List.map_cons] at h1
    injection h1 with a1 a2
    subst a1 a2
    have ih := look_val (k := k) h3
    have lc : look (List.map (·.1) (p :: kvs)) (e :: es) k = if p.1 = k then some e else look (kvs.map (·.1)) es k := look_cons
    have vc : valV (p :: kvs) k = if p.1 = k then some p.2 else valV kvs k := by
      unfold valV
      rw [List.find?_cons]
      by_cases hk : p.1 = k
      · simp [hk]
      · simp [hk]
    rw [lc, vc]
    by_cases hk : p.1 = k
    · rw [if_pos hk, if_pos hk]
      exact ⟨fun w hw => ⟨e, rfl, by cases hw; exact h2⟩, fun z => by cases z⟩
    · rw [if_neg hk, if_neg hk]
      exact ih
theorem valV_nodup : ∀ {kvs : List (Key × V)} {i : Nat} {p : Key × V}, (kvs.map (·.1)).Nodup → kvs[i]? = some p → valV kvs p.1 = some p.2
  | [], _, _, _, h => by simp at h
  | q :: kvs, 0, p, _, h => by
    cases h
    unfold valV
    rw [List.find?_cons]
    simp
  | q :: kvs, i + 1, p, hn, h => by
    rw [List.map_cons, List.nodup_cons] at hn
    have h' : kvs[i]? = some p := h
    have hm : p.1 ∈ kvs.map (·.1) := List.mem_map.mpr ⟨p, List.mem_of_getElem? h', rfl⟩
    have hne : q.1 ≠ p.1 := fun z => hn.1 (z ▸ hm)
    have ih := valV_nodup hn.2 h'
    unfold valV at ih ⊢
    rw [List.find?_cons]
    simp only [hne, decide_false]
    exact ih
theorem deqD_true {ls : List Key} {es : List Dt} : ∀ {ks : List Key} {ds : List Dt}, (∀ (i : Nat) (k : Key) (d : Dt), ks[i]? = some k → ds[i]? = some d → ∃ e, look ls es k = some e ∧ deq d e = true) → deqD ks ds ls es = true
  | [], _, _ => by cases ‹List Dt› <;> rfl
  | _ :: _, [], _ => rfl
  | k :: ks, d :: ds, h => by
    obtain ⟨e, h1, h2⟩ := h 0 k d rfl rfl
    show ((match look ls es k with | some e => deq d e | none => false) && deqD ks ds ls es) = true
    rw [h1, deqD_true fun i k d a b => h (i + 1) k d a b]
    show (deq d e && true) = true
    rw [h2] <;> rfl
section
variable {X : Cx} {pins : List (Addr × Obj)} {σ : L2.St} {H : Hp} {s : Shared}
theorem deqL_same (I : Inv X pins σ H s) {n : Nat} (ih : ∀ (d e : Dt) (x : V), dep d ≤ n → Is X.K H d x → Is X.K H e x → deq d e = true) {ds es : List Dt} {xs : List V} (hn : depL ds ≤ n) (h1 : IsL X.K H ds xs) (h2 : IsL X.K H es xs) : deqL ds es = true :=
  deqL_true (h1.length.trans h2.length.symm) fun i d e e1 e2 => by
    obtain ⟨v, hv, a⟩ := h1.get' e1
    obtain ⟨v', hv', b⟩ := h2.get' e2
    rw [hv] at hv'
    cases hv'
    exact ih d e v (Nat.le_trans (depL_get e1) hn) a b
theorem is_same (I : Inv X pins σ H s) : ∀ (n : Nat) (d e : Dt) (x : V), dep d ≤ n → Is X.K H d x → Is X.K H e x → deq d e = true := by
  intro n
  induction n with
  | zero =>
    intro d e x hn hd he
    cases d <;> first
      | (exfalso; simp [dep] at hn; done)
      | skip
    all_goals (cases e <;> first
      | (cases (show x = _ from hd); cases (show _ = _ from he); simp [deq]; done)
      | (cases (show x = _ from hd); exact absurd (show _ = _ from he) (by simp))
      | (cases (show x = _ from hd); obtain ⟨_, _, _, z, _⟩ := he; cases z; done)
      | (cases (show x = _ from hd); obtain ⟨_, _, z, _⟩ := he; cases z; done))
  | succ n ih =>
    intro d e x hn hd he
    by_cases h0 : dep d ≤ n
    · exact ih d e x h0 hd he
    cases d with
    | non => exact absurd (Nat.zero_le _) h0
    | bl b => exact absurd (Nat.zero_le _) h0
    | int b => exact absurd (Nat.zero_le _) h0
    | str b => exact absurd (Nat.zero_le _) h0
    | lst ds =>
      obtain ⟨a, xs, rfl, hs, hl⟩ := hd
      cases e with
      | lst es =>
        obtain ⟨a', ys, ea, hs', hl'⟩ := he
        cases ea
        cases I.list_inj hs hs'
        exact deqL_same I ih (Nat.le_of_succ_le_succ hn) hl hl'
      | tup es =>
        obtain ⟨a', ys, ea, hs', hl'⟩ := he
        cases ea
        obtain ⟨_, _, p1, _⟩ := I.list hs
        obtain ⟨_, _, p2, _⟩ := I.tuple hs'
        exact absurd rfl (ne_of_list_tuple p1.isList p2)
      | dic ks es =>
        obtain ⟨a', ys, ea, hs', hl'⟩ := he
        cases ea
        obtain ⟨_, _, p1, _⟩ := I.list hs
        obtain ⟨_, _, va, _, o⟩ := (show ObjOk X.prog X.w H s.heap a (.dK ys) from I.hok a _ hs')
        obtain ⟨_, _, _, ho⟩ := isList_obj p1.isList
        obtain ⟨_, _, _, ho2, hd2⟩ := dict_obj o
        exact absurd rfl (ne_data ho ho2 (by rw [hd2]; exact fun z => nomatch z))
      | ins C fs es =>
        obtain ⟨a', dx, ys, ea, hs', hl'⟩ := he
        cases ea
        obtain ⟨_, _, p1, _⟩ := I.list hs
        obtain ⟨_, _, _, ho⟩ := isList_obj p1.isList
        obtain ⟨_, J, _⟩ := ins_get I.hok hs'
        exact absurd rfl (ne_data ho J.obj (fun z => nomatch z))
      | non => exact absurd (show V.ref a = V.non from he) (by simp)
      | bl b => exact absurd (show V.ref a = V.bl b from he) (by simp)
      | int b => exact absurd (show V.ref a = V.int b from he) (by simp)
      | str b => exact absurd (show V.ref a = V.str b from he) (by simp)
    | tup ds =>
      obtain ⟨a, xs, rfl, hs, hl⟩ := hd
      cases e with
      | tup es =>
        obtain ⟨a', ys, ea, hs', hl'⟩ := he
        cases ea
        cases I.tuple_inj hs hs'
        exact deqL_same I ih (Nat.le_of_succ_le_succ hn) hl hl'
      | lst es =>
        obtain ⟨a', ys, ea, hs', hl'⟩ := he
        cases ea
        obtain ⟨_, _, p1, _⟩ := I.list hs'
        obtain ⟨_, _, p2, _⟩ := I.tuple hs
        exact absurd rfl (ne_of_list_tuple p1.isList p2)
      | dic ks es =>
        obtain ⟨a', ys, ea, hs', hl'⟩ := he
        cases ea
        obtain ⟨_, _, p1, _⟩ := I.tuple hs
        obtain ⟨_, _, va, _, o⟩ := (show ObjOk X.prog X.w H s.heap a (.dK ys) from I.hok a _ hs')
        obtain ⟨_, _, _, ho⟩ := isTup_obj p1
        obtain ⟨_, _, _, ho2, hd2⟩ := dict_obj o
        exact absurd rfl (ne_data ho ho2 (by rw [hd2]; exact fun z => nomatch z))
      | ins C fs es =>
        obtain ⟨a', dx, ys, ea, hs', hl'⟩ := he
        cases ea
        obtain ⟨_, _, p1, _⟩ := I.tuple hs
        obtain ⟨_, _, _, ho⟩ := isTup_obj p1
        obtain ⟨_, J, _⟩ := ins_get I.hok hs'
        exact absurd rfl (ne_data ho J.obj (fun z => nomatch z))
      | non => exact absurd (show V.ref a = V.non from he) (by simp)
      | bl b => exact absurd (show V.ref a = V.bl b from he) (by simp)
      | int b => exact absurd (show V.ref a = V.int b from he) (by simp)
      | str b => exact absurd (show V.ref a = V.str b from he) (by simp)
    | dic ks ds =>
      obtain ⟨a, kvs, rfl, hs, ek, hl⟩ := hd
      obtain ⟨_, _, va, rk, o⟩ := (show ObjOk X.prog X.w H s.heap a (.dK kvs) from I.hok a _ hs)
      cases e with
      | dic ls es =>
        obtain ⟨a', lvs, ea, hs', ek', hl'⟩ := he
        cases ea
        rw [hs] at hs'
        cases hs'
        subst ek ek'
        have hnd : (kvs.map (·.1)).Nodup := by
          obtain ⟨_, _, _, _, _, _, _, _, nd⟩ := o
          rw [KV.keys rk]
          exact nd
        show ((kvs.map (·.1)).length == (kvs.map (·.1)).length && deqD (kvs.map (·.1)) ds (kvs.map (·.1)) es) = true
        rw [beq_self_eq_true, Bool.true_and]
        refine deqD_true fun i k d e1 e2 => ?_
        obtain ⟨p, hp, rfl⟩ : ∃ p, kvs[i]? = some p ∧ p.1 = k := by
          rw [List.getElem?_map] at e1
          cases hq : kvs[i]? with
          | none => rw [hq] at e1; cases e1
          | some p => rw [hq] at e1; exact ⟨p, rfl, Option.some.inj e1⟩
        obtain ⟨v, hv, hiv⟩ := hl.get' e2
        rw [List.getElem?_map, hp] at hv
        cases hv
        obtain ⟨e, he1, he2⟩ := (look_val (k := p.1) hl').1 p.2 (valV_nodup hnd hp)
        exact ⟨e, he1, ih d e p.2 (dep_lst hn e2) hiv he2⟩
      | lst es =>
        obtain ⟨a', ys, ea, hs', hl'⟩ := he
        cases ea
        obtain ⟨_, _, p1, _⟩ := I.list hs'
        obtain ⟨_, _, _, ho⟩ := isList_obj p1.isList
        obtain ⟨_, _, _, ho2, hd2⟩ := dict_obj o
        exact absurd rfl (ne_data ho ho2 (by rw [hd2]; exact fun z => nomatch z))
      | tup es =>
        obtain ⟨a', ys, ea, hs', hl'⟩ := he
        cases ea
        obtain ⟨_, _, p1, _⟩ := I.tuple hs'
        obtain ⟨_, _, _, ho⟩ := isTup_obj p1
        obtain ⟨_, _, _, ho2, hd2⟩ := dict_obj o
        exact absurd rfl (ne_data ho ho2 (by rw [hd2]; exact fun z => nomatch z))
      | ins C fs es =>
        obtain ⟨a', dx, ys, ea, hs', hl'⟩ := he
        cases ea
        rw [hs] at hs'
        cases hs'
      | non => exact absurd (show V.ref a = V.non from he) (by simp)
      | bl b => exact absurd (show V.ref a = V.bl b from he) (by simp)
      | int b => exact absurd (show V.ref a = V.int b from he) (by simp)
      | str b => exact absurd (show V.ref a = V.str b from he) (by simp)
    | ins C fs ds =>
      obtain ⟨a, dx, kvs, rfl, hs, ek, hl⟩ := hd
      obtain ⟨_, J, _⟩ := ins_get I.hok hs
      cases e with
      | ins C' fs' es =>
        obtain ⟨a', dx', lvs, ea, hs', ek', hl'⟩ := he
        cases ea
        rw [hs] at hs'
        cases hs'
        show (C == C && deqL ds es) = true
        rw [beq_self_eq_true, deqL_same I ih (Nat.le_of_succ_le_succ hn) hl hl'] <;> rfl
      | lst es =>
        obtain ⟨a', ys, ea, hs', hl'⟩ := he
        cases ea
        obtain ⟨_, _, p1, _⟩ := I.list hs'
        obtain ⟨_, _, _, ho⟩ := isList_obj p1.isList
        exact absurd rfl (ne_data ho J.obj (fun z => nomatch z))
      | tup es =>
        obtain ⟨a', ys, ea, hs', hl'⟩ := he
        cases ea
        obtain ⟨_, _, p1, _⟩ := I.tuple hs'
        obtain ⟨_, _, _, ho⟩ := isTup_obj p1
        exact absurd rfl (ne_data ho J.obj (fun z => nomatch z))
      | dic ls es =>
        obtain ⟨a', ys, ea, hs', hl'⟩ := he
        cases ea
        rw [hs] at hs'
        cases hs'
      | non => exact absurd (show V.ref a = V.non from he) (by simp)
      | bl b => exact absurd (show V.ref a = V.bl b from he) (by simp)
      | int b => exact absurd (show V.ref a = V.int b from he) (by simp)
      | str b => exact absurd (show V.ref a = V.str b from he) (by simp)
end
end LxE
namespace LxE
open PySem PySem.SeqAt L2
theorem shape_of {K : PySem.W.Frag} {H : Hp} {d : Dt} {x : V} (h : Is K H d x) : (kd d ≤ 2 ∧ flatV x = true) ∨ (2 < kd d ∧ ∃ a, x = V.ref a) := by
  cases d with
  | non => rw [show x = _ from h]; exact .inl ⟨by decide, rfl⟩
  | bl b => rw [show x = _ from h]; exact .inl ⟨by show 1 ≤ 2; decide, rfl⟩
  | int b => rw [show x = _ from h]; exact .inl ⟨by show 1 ≤ 2; decide, rfl⟩
  | str b => rw [show x = _ from h]; exact .inl ⟨by show 2 ≤ 2; decide, rfl⟩
  | lst ds => obtain ⟨a, _, e, _⟩ := h; exact .inr ⟨by show 2 < 3; decide, a, e⟩
  | tup ds => obtain ⟨a, _, e, _⟩ := h; exact .inr ⟨by show 2 < 4; decide, a, e⟩
  | dic ks ds => obtain ⟨a, _, e, _⟩ := h; exact .inr ⟨by show 2 < 5; decide, a, e⟩
  | ins C fs ds => obtain ⟨a, _, _, e, _⟩ := h; exact .inr ⟨by show 2 < 6; decide, a, e⟩
theorem deq_kd : ∀ {d e : Dt}, kd d ≠ kd e → deq d e = false := by
  intro d e h
  cases d <;> cases e <;> first | rfl | exact absurd rfl h
theorem eqV_flat {K : PySem.W.Frag} {H : Hp} {d e : Dt} {x y : V} (hd : Is K H d x) (he : Is K H e y) (h1 : kd d ≤ 2) (h2 : kd e ≤ 2) : eqV x y = deq d e := by
  cases d <;> first
    | (exfalso; simp [kd] at h1; done)
    | skip
  all_goals (cases e <;> first
    | (exfalso; simp [kd] at h2; done)
    | skip)
  all_goals (cases (show x = _ from hd); cases (show y = _ from he); first | rfl | simp [eqV, deq])
section
variable {X : Cx} {pins : List (Addr × Obj)} {σ : L2.St} {H : Hp} {s : Shared}
theorem rc_flat {A : Around} {d e : Dt} {x y : V} {u v : Value} (hd : Is X.K H d x) (he : Is X.K H e y) (rx : RelV x u) (ry : RelV y v) (h1 : kd d ≤ 2) (h2 : kd d = kd e) : RcP X.prog X.w A s u v (deq d e) := by
  have h3 : kd e ≤ 2 := h2 ▸ h1
  cases d <;> first
    | (exfalso; simp [kd] at h1; done)
    | skip
  all_goals (cases e <;> first
    | (exfalso; simp [kd] at h2; done)
    | skip)
  · cases (show x = _ from hd); cases (show y = _ from he); cases (show u = _ from rx); cases (show v = _ from ry)
    exact fun E Q q => RcAt.none_none X.prog X.w E Q q
  · cases (show x = _ from hd); cases (show y = _ from he); cases (show u = _ from rx); cases (show v = _ from ry)
    exact fun E Q q => RcAt.bool_bool _ _ X.prog X.w E Q q
  · cases (show x = _ from hd); cases (show y = _ from he); cases (show u = _ from rx); obtain ⟨t, rfl⟩ := (show ∃ t, v = Value.int _ t from ry)
    exact fun E Q q => RcAt.bool_int _ _ _ X.prog X.w E Q q
  · cases (show x = _ from hd); cases (show y = _ from he); obtain ⟨t, rfl⟩ := (show ∃ t, u = Value.int _ t from rx); cases (show v = _ from ry)
    exact fun E Q q => RcAt.int_bool _ _ _ X.prog X.w E Q q
  · cases (show x = _ from hd); cases (show y = _ from he); obtain ⟨t, rfl⟩ := (show ∃ t, u = Value.int _ t from rx); obtain ⟨t', rfl⟩ := (show ∃ t, v = Value.int _ t from ry)
    exact fun E Q q => RcAt.int_int _ _ _ _ X.prog X.w E Q q
  · cases (show x = _ from hd); cases (show y = _ from he); obtain ⟨t, rfl⟩ := (show ∃ t, u = Value.str _ t from rx); obtain ⟨t', rfl⟩ := (show ∃ t, v = Value.str _ t from ry)
    exact fun E Q q => RcAt.str_str _ _ _ _ X.prog X.w E Q q
theorem ref_beq {a b : Addr} (h : a ≠ b) : (Value.ref a == Value.ref b) = false := beq_eq_false_iff_ne.mpr (fun e => h (Value.ref.inj e))
theorem flat_ref {x : V} {u : Value} {a : Addr} (f : flatV x = true) (r : RelV x u) : (u == Value.ref a) = false ∧ (Value.ref a == u) = false := by
  cases x <;> first | (exact absurd f Bool.false_ne_true) | skip
  · cases (show u = _ from r); exact ⟨rfl, rfl⟩
  · cases (show u = _ from r); exact ⟨rfl, rfl⟩
  · obtain ⟨t, rfl⟩ := (show ∃ t, u = Value.int _ t from r); exact ⟨rfl, rfl⟩
  · obtain ⟨t, rfl⟩ := (show ∃ t, u = Value.str _ t from r); exact ⟨rfl, rfl⟩
theorem flat_nofl {x : V} {u : Value} (f : flatV x = true) (r : RelV x u) : ∀ a t, u ≠ .float a t := by
  cases x <;> first | (exact absurd f Bool.false_ne_true) | skip
  · cases (show u = _ from r); exact fun _ _ z => nomatch z
  · cases (show u = _ from r); exact fun _ _ z => nomatch z
  · obtain ⟨t, rfl⟩ := (show ∃ t, u = Value.int _ t from r); exact fun _ _ z => nomatch z
  · obtain ⟨t, rfl⟩ := (show ∃ t, u = Value.str _ t from r); exact fun _ _ z => nomatch z
/-- from a rich comparison to == inside a builtin, with a state -/
theorem eq_get {A : Around} {E : Value → Shared → Prop} (I : Inv X pins σ H s) {d e : Dt} {x y : V} {u v : Value} {Q : Bool → Shared → Prop} (hd : Is X.K H d x) (he : Is X.K H e y) (rx : RelV x u) (ry : RelV y v) (q : Q (deq d e) s)
    (h : wpAny (model X.prog X.w) A (richCompare .Eq u v) (fun r s' => ∃ b, r = .bool b ∧ Q b s') E s) : wpAny (model X.prog X.w) A (eqBool u v) Q E s := by
  rcases shape_of hd with ⟨k1, f1⟩ | ⟨k1, a, rfl⟩
  · rcases shape_of he with ⟨k2, f2⟩ | ⟨k2, b, rfl⟩
    · have z := eqAt_V (A := A) (s := s) rx ry f1 f2
      rw [eqV_flat hd he k1 k2] at z
      exact z X.prog X.w E Q q
    · cases (show v = _ from ry)
      exact eqBool_B (flat_ref f1 rx).1 (fun a t b t' e1 _ => flat_nofl f1 rx a t e1) h
  · cases (show u = _ from rx)
    rcases shape_of he with ⟨k2, f2⟩ | ⟨k2, b, rfl⟩
    · exact eqBool_B (flat_ref f2 ry).2 (fun a t b t' e1 _ => nomatch e1) h
    · cases (show v = _ from ry)
      by_cases hab : a = b
      · subst hab
        have z := is_same I (dep d) d e (.ref a) (Nat.le_refl _) hd he
        rw [z] at q
        exact SeqAt.EqAt.same (A := A) (s := s) (.ref a) X.prog X.w E Q q
      · exact eqBool_B (ref_beq hab) (fun a t b t' e1 _ => nomatch e1) h
theorem hits_of {P : Program} {w : World} {A : Around} {K : PySem.W.Frag} {lvs : List (Key × V)} {es : List Dt} {vb : List (Key × Value)} (rb : KV lvs vb) (hl : IsL K H es (lvs.map (·.2)))
    : ∀ {kvs : List (Key × V)} {ds : List Dt} {va : List (Key × Value)}, IsL K H ds (kvs.map (·.2)) → KV kvs va →
      (∀ (i : Nat) (d e : Dt) (x y : V) (u v : Value), ds[i]? = some d → e ∈ es → Is K H d x → Is K H e y → RelV x u → RelV y v → EqP P w A s u v (deq d e)) →
      PySem.W.KeqHitsP P w A s vb va (deqD (kvs.map (·.1)) ds (lvs.map (·.1)) es)
  | [], ds, va, h, ra, _ => by
    cases ra
    cases ds with
    | nil => exact .nil
    | cons d ds => obtain ⟨v, r, e, _⟩ := h; cases e
  | p :: kvs, [], va, h, ra, _ => by
    have h' : List.map (·.2) (p :: kvs) = [] := h
    simp at h'
  | p :: kvs, d :: ds, va, h, ra, ih => by
    cases ra with
    | @cons _ q _ qs hpq t =>
    obtain ⟨h1, h2⟩ := hpq
    obtain ⟨x, r, e1, e2, e3⟩ := h
    rw [List.map_cons] at e1
    injection e1 with a1 a2
    subst a1 a2
    obtain ⟨key, u⟩ := q
    have h1' : p.1 = key := h1
    have rest := hits_of (A := A) (P := P) (w := w) rb hl e3 t fun i d' e x y u v k1 => ih (i + 1) d' e x y u v k1
    show PySem.W.KeqHitsP P w A s vb ((key, u) :: qs) ((match look (lvs.map (·.1)) es p.1 with | some e => deq d e | none => false) && deqD (kvs.map (·.1)) ds (lvs.map (·.1)) es)
    have rv : RelO (valV lvs p.1) (valueAt vb p.1) := rb.val p.1
    have lk := look_val (k := p.1) hl
    cases hv : valV lvs p.1 with
    | none =>
      rw [hv] at rv
      rw [lk.2 hv]
      refine .miss ?_
      rw [← h1']
      cases hz : valueAt vb p.1 with
      | none => rfl
      | some z => rw [hz] at rv; exact rv.elim
    | some y =>
      rw [hv] at rv
      obtain ⟨z, hz, rz⟩ := rv.some_of
      obtain ⟨e, le, ie⟩ := lk.1 y hv
      rw [le]
      refine .hit (by rw [← h1']; exact hz) (ih 0 d e p.2 y u z rfl ?_ e2 ie h2 rz) rest
      unfold look at le
      cases hf : ((lvs.map (·.1)).zip es).find? fun p' => decide (p'.1 = p.1) with
      | none => rw [hf] at le; cases le
      | some w =>
        rw [hf] at le
        cases le
        exact (List.of_mem_zip (List.mem_of_find?_eq_some hf)).2
theorem mem_get {es : List Dt} {e : Dt} (h : e ∈ es) : ∃ i : Nat, es[i]? = some e := List.mem_iff_getElem?.mp h
theorem rc_pure (I : Inv X pins σ H s) : ∀ (n : Nat) (d e : Dt) (x y : V) (u v : Value) (A : Around), dep d ≤ n → pureD d = true → pureD e = true → Is X.K H d x → Is X.K H e y → RelV x u → RelV y v → A.units + n < cLine → RcP X.prog X.w A s u v (deq d e) := by
  intro n
  induction n with
  | zero =>
    intro d e x y u v A hn pd pe hd he rx ry hu
    by_cases hk : kd d = kd e
    · have h2 : kd d ≤ 2 := by cases d <;> first | (exfalso; simp [dep] at hn; done) | (simp [kd])
      exact rc_flat hd he rx ry h2 hk
    · rw [deq_kd hk]
      exact mis I (by omega) d e hd he rx ry hk (fun z => by cases d <;> first | (simp [kd] at z; done) | (exact absurd pd Bool.false_ne_true)) (fun z => by cases e <;> first | (simp [kd] at z; done) | (exact absurd pe Bool.false_ne_true))
  | succ n ih =>
    intro d e x y u v A hn pd pe hd he rx ry hu
    have ihE : ∀ (d e : Dt) (x y : V) (u v : Value), dep d ≤ n → pureD d = true → pureD e = true → Is X.K H d x → Is X.K H e y → RelV x u → RelV y v → EqP X.prog X.w A.in1 s u v (deq d e) := fun d e x y u v hn pd pe hd he rx ry E Q q =>
      eq_get I hd he rx ry q (ih d e x y u v A.in1 hn pd pe hd he rx ry (by show A.units + 1 + n < cLine; omega) E _ ⟨_, rfl, q⟩)
    by_cases hk : kd d = kd e
    · by_cases h2 : kd d ≤ 2
      · exact rc_flat hd he rx ry h2 hk
      · have items : ∀ {ds es : List Dt} {xs ys : List V} {its its2 : List Value}, depL ds ≤ n → pureL ds = true → pureL es = true → IsL X.K H ds xs → IsL X.K H es ys → Vals xs its → Vals ys its2 →
            ∀ i (h1 : i < its.toArray.size) (h2 : i < its2.toArray.size), EqP X.prog X.w A.in1 s its.toArray[i] its2.toArray[i] (eAt ds es i) := by
          intro ds es xs ys its its2 hdn p1 p2 l1 l2 r1 r2 i h1 h2
          have g1 : its[i]? = some its.toArray[i] := by
            have h1' : i < its.length := by simpa using h1
            rw [List.getElem?_eq_getElem h1'] <;> simp
          have g2 : its2[i]? = some its2.toArray[i] := by
            have h2' : i < its2.length := by simpa using h2
            rw [List.getElem?_eq_getElem h2'] <;> simp
          have k1 : i < xs.length := by rw [r1.length]; simpa using h1
          have k2 : i < ys.length := by rw [r2.length]; simpa using h2
          obtain ⟨u', hu', ru⟩ := r1.get (List.getElem?_eq_getElem k1)
          obtain ⟨v', hv', rv⟩ := r2.get (List.getElem?_eq_getElem k2)
          rw [g1] at hu'
          rw [g2] at hv'
          rw [Option.some.inj hu', Option.some.inj hv']
          obtain ⟨d', e1, i1⟩ := l1.get (List.getElem?_eq_getElem k1)
          obtain ⟨e', e2, i2⟩ := l2.get (List.getElem?_eq_getElem k2)
          rw [eAt_some e1 e2]
          exact ihE d' e' _ _ u' v' (Nat.le_trans (depL_get e1) hdn) (pureL_get p1 e1) (pureL_get p2 e2) i1 i2 ru rv
        cases d with
        | non => exact absurd (by decide) h2
        | bl b => exact absurd (by show 1 ≤ 2; decide) h2
        | int b => exact absurd (by show 1 ≤ 2; decide) h2
        | str b => exact absurd (by show 2 ≤ 2; decide) h2
        | ins C fs ds => exact absurd pd Bool.false_ne_true
        | lst ds =>
          cases e <;> first | (exfalso; simp [kd] at hk; done) | skip
          rename_i es
          obtain ⟨a, xs, rfl, hs, l1⟩ := hd
          obtain ⟨b, ys, rfl, hs', l2⟩ := he
          cases (show u = _ from rx)
          cases (show v = _ from ry)
          obtain ⟨its, r1, p1, _⟩ := I.list hs
          obtain ⟨its2, r2, p2, _⟩ := I.list hs'
          intro E Q q
          have it := items (Nat.le_of_succ_le_succ hn) pd pe l1 l2 r1 r2
          have e1 : its.toArray.size = ds.length := by rw [List.size_toArray, ← r1.length, ← l1.length]
          have e2 : its2.toArray.size = es.length := by rw [List.size_toArray, ← r2.length, ← l2.length]
          rw [show deq (.lst ds) (.lst es) = deqL ds es from rfl, deqL_eq] at q
          by_cases hsz : ds.length = es.length
          · refine rc_listB (N := ds.length) (e := eAt ds es) (by omega) (fun s' => s' = s) (fun s' z => ?_) (fun s' z => ?_) rfl
            · subst z
              exact ⟨its.toArray, its2.toArray, p1.isList, p2.isList, e1, e2.trans hsz.symm, fun i h1 h2 => it i h1 h2 E _ ⟨rfl, rfl⟩⟩
            · subst z
              rw [hsz, Nat.min_self, beq_self_eq_true, Bool.and_true, ← hsz] at q
              exact q
          · have hb : (ds.length == es.length) = false := beq_eq_false_iff_ne.mpr hsz
            rw [hb, Bool.and_false] at q
            refine RcAt.lists_lengths p1.isList p2.isList ?_ (by omega) X.prog X.w E Q q
            rw [e1, e2]
            simp [hsz]
        | tup ds =>
          cases e <;> first | (exfalso; simp [kd] at hk; done) | skip
          rename_i es
          obtain ⟨a, xs, rfl, hs, l1⟩ := hd
          obtain ⟨b, ys, rfl, hs', l2⟩ := he
          cases (show u = _ from rx)
          cases (show v = _ from ry)
          obtain ⟨its, r1, p1, _⟩ := I.tuple hs
          obtain ⟨its2, r2, p2, _⟩ := I.tuple hs'
          intro E Q q
          have it := items (Nat.le_of_succ_le_succ hn) pd pe l1 l2 r1 r2
          have e1 : its.toArray.size = ds.length := by rw [List.size_toArray, ← r1.length, ← l1.length]
          have e2 : its2.toArray.size = es.length := by rw [List.size_toArray, ← r2.length, ← l2.length]
          rw [show deq (.tup ds) (.tup es) = deqL ds es from rfl, deqL_eq] at q
          refine rc_tupB (e := eAt ds es) (by omega) (fun s' => s' = s) p1 p2 (fun i h1 h2 s' z => ?_) (fun s' z => ?_) rfl
          · subst z
            exact it i h1 h2 E _ ⟨rfl, rfl⟩
          · subst z
            rw [e1, e2]
            exact q
        | dic ks ds =>
          cases e <;> first | (exfalso; simp [kd] at hk; done) | skip
          rename_i ls es
          obtain ⟨a, kvs, rfl, hs, ek, l1⟩ := hd
          obtain ⟨b, lvs, rfl, hs', el, l2⟩ := he
          subst ek el
          cases (show u = _ from rx)
          cases (show v = _ from ry)
          obtain ⟨_, ya, va, ra, da⟩ := (show ObjOk X.prog X.w H s.heap a (.dK kvs) from I.hok a _ hs)
          obtain ⟨_, yb, vb, rb, db⟩ := (show ObjOk X.prog X.w H s.heap b (.dK lvs) from I.hok b _ hs')
          intro E Q q
          refine PySem.W.rcP_dicts (knd := mixKind X.prog X.w) (r := deqD (kvs.map (·.1)) ds (lvs.map (·.1)) es) ya yb da db (by omega) (fun _ => hits_of rb l2 l1 ra fun i d e x y u v k1 k2 i1 i2 r1 r2 => ?_) E Q ?_
          · obtain ⟨j, hj⟩ := mem_get k2
            exact ihE d e x y u v (Nat.le_trans (depL_get k1) (Nat.le_of_succ_le_succ hn)) (pureL_get pd k1) (pureL_get pe hj) i1 i2 r1 r2
          · have e1 : va.length = (kvs.map (·.1)).length := by rw [List.length_map, ← KV.length ra]
            have e2 : vb.length = (lvs.map (·.1)).length := by rw [List.length_map, ← KV.length rb]
            rw [e1, e2]
            exact q
    · rw [deq_kd hk]
      exact mis I (by omega) d e hd he rx ry hk (fun z => by cases d <;> first | (simp [kd] at z; done) | (exact absurd pd Bool.false_ne_true)) (fun z => by cases e <;> first | (simp [kd] at z; done) | (exact absurd pe Bool.false_ne_true))
end
end LxE
namespace L2
open PySem PySem.Spec PyProof.Rows
mutual
def okD (shp : Addr → List Str → List Dt → Prop) : Dt → Prop
  | .lst ds => okL shp ds
  | .tup ds => okL shp ds
  | .dic _ ds => pureL ds = true
  | .ins C fs ds => shp C fs ds
  | _ => True
def okL (shp : Addr → List Str → List Dt → Prop) : List Dt → Prop
  | [] => True
  | d :: ds => okD shp d ∧ okL shp ds
end
theorem okL_get {shp : Addr → List Str → List Dt → Prop} : ∀ {ds : List Dt} {i : Nat} {d : Dt}, okL shp ds → ds[i]? = some d → okD shp d
  | [], _, _, _, e => by simp at e
  | a :: ds, 0, d, h, e => by cases e; exact h.1
  | a :: ds, i + 1, d, h, e => okL_get (i := i) h.2 e
mutual
theorem okD_pure {shp : Addr → List Str → List Dt → Prop} : ∀ {d : Dt}, pureD d = true → okD shp d
  | .non, _ => trivial
  | .bl _, _ => trivial
  | .int _, _ => trivial
  | .str _, _ => trivial
  | .lst ds, h => okL_pure (ds := ds) h
  | .tup ds, h => okL_pure (ds := ds) h
  | .dic _ _, h => h
  | .ins _ _ _, h => absurd h Bool.false_ne_true
theorem okL_pure {shp : Addr → List Str → List Dt → Prop} : ∀ {ds : List Dt}, pureL ds = true → okL shp ds
  | [], _ => trivial
  | _ :: ds, h => ⟨okD_pure (Bool.and_eq_true_iff.mp h).1, okL_pure (ds := ds) (Bool.and_eq_true_iff.mp h).2⟩
end
/-- what an own == promises -/
def spEqO (K : PySem.W.Frag) (shp : Addr → List Str → List Dt → Prop) (C : Addr) : Sp := fun vs H Q _ => ∃ (a : Addr) (y : V) (fs : List Str) (ds : List Dt) (e : Dt), vs = [.ref a, y] ∧ Is K H (.ins C fs ds) (.ref a) ∧ Is K H e y ∧ shp C fs ds ∧ okD shp e ∧
  ∀ H', Ext H H' → Q (.bl (deq (.ins C fs ds) e)) H'
def tyNames : List String := ["NoneType", "bool", "int", "str", "list", "tuple", "dict"]
def eqFacts (K : PySem.W.Frag) (C : Addr) : Bool := tyNames.all fun T => PySem.W.notFirst K C (.type T) && PySem.W.subIn K (.ref C) (.type T) == some false
/-- the class at C has an own == -/
structure OwnEq (P : Program) (w : World) (K : PySem.W.Frag) (mg : Str → Option Value) (base : Heap) (k : Nat) (shp : Addr → List Str → List Dt → Prop) (C : Addr) : Prop where
  fn : ∃ (f : Addr) (fd : FuncData), FnOk P w K mg base (fun _ _ _ _ _ _ => False) k f fd ["self", "other"] (spEqO K shp C) ∧ PySem.W.findIn K (.ref C) "__eq__" = some (some (.ref f)) ∧ PySem.W.isFn K (.ref f) = true ∧ Binds K fd ["self", "other"] []
  facts : eqFacts K C = true
structure EqTab (P : Program) (w : World) (K : PySem.W.Frag) (mg : Str → Option Value) (base : Heap) (k : Nat) (shp : Addr → List Str → List Dt → Prop) : Prop where
  own : ∀ C fs ds, shp C fs ds → OwnEq P w K mg base k shp C
  two : ∀ C fs ds C' fs' ds', shp C fs ds → shp C' fs' ds' → PySem.W.notFirst K C (.ref C') = true
end L2
namespace LxE
open PySem PySem.SeqAt L2
theorem facts_of {K : PySem.W.Frag} {C : Addr} {T : String} (h : eqFacts K C = true) (hT : T ∈ tyNames) : PySem.W.notFirst K C (.type T) = true ∧ PySem.W.subIn K (.ref C) (.type T) = some false := by
  have z := Bool.and_eq_true_iff.mp (List.all_eq_true.mp h T hT)
  exact ⟨z.1, beq_iff_eq.mp z.2⟩
section
variable {X : Cx} {pins : List (Addr × Obj)} {σ : L2.St} {H : Hp} {s : Shared}
theorem looks_ty {M : Model} {v : Value} {T : String} (hT : s.TypeIs v T) : PySem.W.Looks M s.heap (typeOf v) (.type T) := by
  cases v with
  | ref a =>
    obtain ⟨o, ho, hc⟩ := hT
    intro A Q E s' k q
    exact wpAny_typeOf_ref (k _ _ ho) (by rw [hc]; exact q)
  | _ =>
    intro A Q E s' k q
    exact wpAny_of_eq hT q
/-- a built-in value's type -/
theorem ty_of (I : Inv X pins σ H s) {d : Dt} {x : V} {u : Value} (hd : Is X.K H d x) (rx : RelV x u) (h6 : kd d ≠ 6) : ∃ T, T ∈ tyNames ∧ s.TypeIs u T := by
  cases d with
  | non => cases (show x = _ from hd); cases (show u = _ from rx); exact ⟨"NoneType", by decide, rfl⟩
  | bl b => cases (show x = _ from hd); cases (show u = _ from rx); exact ⟨"bool", by decide, rfl⟩
  | int i => cases (show x = _ from hd); obtain ⟨t, rfl⟩ := (show ∃ t, u = Value.int _ t from rx); exact ⟨"int", by decide, rfl⟩
  | str i => cases (show x = _ from hd); obtain ⟨t, rfl⟩ := (show ∃ t, u = Value.str _ t from rx); exact ⟨"str", by decide, rfl⟩
  | lst ds =>
    obtain ⟨a, xs, rfl, hs, _⟩ := hd
    cases (show u = _ from rx)
    obtain ⟨_, _, p, _⟩ := I.list hs
    exact ⟨"list", by decide, ti_list p.isList⟩
  | tup ds =>
    obtain ⟨a, xs, rfl, hs, _⟩ := hd
    cases (show u = _ from rx)
    obtain ⟨_, _, p, _⟩ := I.tuple hs
    exact ⟨"tuple", by decide, ti_tuple p⟩
  | dic ks ds =>
    obtain ⟨a, xs, rfl, hs, _⟩ := hd
    cases (show u = _ from rx)
    obtain ⟨_, _, va, _, o⟩ := (show ObjOk X.prog X.w H s.heap a (.dK xs) from I.hok a _ hs)
    exact ⟨"dict", by decide, o.typeIs⟩
  | ins C fs ds => exact absurd rfl h6
/-- how a built-in == declines an own instance -/
theorem back_of (I : Inv X pins σ H s) {A : Around} {d : Dt} {x : V} {u : Value} (hd : Is X.K H d x) (rx : RelV x u) (h6 : kd d ≠ 6) {y C dy : Addr} {od : Option Obj} (J : PySem.W.InstAt s.heap y (PySem.W.instObj C dy) C od) (hf : eqFacts X.K C = true) :
    ∃ T id, T ∈ tyNames ∧ s.TypeIs u T ∧ Slot T "__eq__" id ∧ ∀ (E : Value → Shared → Prop) (Q' : Value → Shared → Prop), Q' .notImplemented s → wpAny (model X.prog X.w) A (call (.builtin id) [u, .ref y]) Q' E s := by
  have NI : ∀ T, T ∈ tyNames → NotInst X.prog X.w s (.ref y) T := fun T hT => notInst_of I.kIn J (facts_of hf hT).2
  cases d with
  | non =>
    cases (show x = _ from hd); cases (show u = _ from rx)
    exact ⟨"NoneType", _, by decide, rfl, F.slot_NoneType_eq, fun E Q' q' => call_gives F.slot_NoneType_eq rfl F.entry_NoneType_eq (F.args_NoneType_eq_2 _ _) (NoneType___eq___none_ref_0 y) q'⟩
  | bl b =>
    cases (show x = _ from hd); cases (show u = _ from rx)
    exact ⟨"bool", _, by decide, rfl, F.slot_bool_eq, fun E Q' q' => callFin F.slot_bool_eq (show s.TypeIs (Value.bool b) "bool" from rfl) F.entry_int_eq (F.args_int_eq_2 _ _) (fun _ _ _ z => bool_declinesI J.at_ z) Q' q'⟩
  | int i =>
    cases (show x = _ from hd); obtain ⟨t, rfl⟩ := (show ∃ t, u = Value.int _ t from rx)
    exact ⟨"int", _, by decide, rfl, F.slot_int_eq, fun E Q' q' => callFin F.slot_int_eq (show s.TypeIs (Value.int i t) "int" from rfl) F.entry_int_eq (F.args_int_eq_2 _ _) (fun _ _ _ z => int_declinesI J.at_ z) Q' q'⟩
  | str i =>
    cases (show x = _ from hd); obtain ⟨t, rfl⟩ := (show ∃ t, u = Value.str _ t from rx)
    exact ⟨"str", _, by decide, rfl, F.slot_str_eq, fun E Q' q' => callFin F.slot_str_eq (show s.TypeIs (Value.str i t) "str" from rfl) F.entry_str_eq (F.args_str_eq_2 _ _) (fun _ _ _ z => str_declinesI J.at_ z) Q' q'⟩
  | lst ds =>
    obtain ⟨a, xs, rfl, hs, _⟩ := hd
    cases (show u = _ from rx)
    obtain ⟨_, _, p, _⟩ := I.list hs
    obtain ⟨n, dd, sl, ho⟩ := isList_obj p.isList
    exact ⟨"list", _, by decide, ti_list p.isList, F.slot_list_eq, fun E Q' q' => callFin F.slot_list_eq (ti_list p.isList) F.entry_list_eq (F.args_list_eq_2 _ _) (fun _ _ _ z => list_declinesI ho (NI "list" (by decide)) z) Q' q'⟩
  | tup ds =>
    obtain ⟨a, xs, rfl, hs, _⟩ := hd
    cases (show u = _ from rx)
    obtain ⟨_, _, p, _⟩ := I.tuple hs
    obtain ⟨n, dd, sl, ho⟩ := isTup_obj p
    exact ⟨"tuple", _, by decide, ti_tuple p, F.slot_tuple_eq, fun E Q' q' => callFin F.slot_tuple_eq (ti_tuple p) F.entry_tuple_eq (F.args_tuple_eq_2 _ _) (fun _ _ _ z => tuple_declinesI ho (NI "tuple" (by decide)) z) Q' q'⟩
  | dic ks ds =>
    obtain ⟨a, xs, rfl, hs, _⟩ := hd
    cases (show u = _ from rx)
    obtain ⟨_, _, va, _, o⟩ := (show ObjOk X.prog X.w H s.heap a (.dK xs) from I.hok a _ hs)
    exact ⟨"dict", _, by decide, o.typeIs, F.slot_dict_eq, fun E Q' q' => callFin F.slot_dict_eq o.typeIs F.entry_dict_eq (F.args_dict_eq_2 _ _) (fun _ _ _ z => dict_declines o.typeIs (NI "dict" (by decide)) z) Q' q'⟩
  | ins C fs ds => exact absurd rfl h6
/-- the own == runs -/
theorem own_run {k : Nat} {f : Addr} {fd : FuncData} {sp : Sp} {A : Around} {a : Addr} {y : V} {v : Value} {Q' : VK} (F1 : FnOk X.prog X.w X.K X.mg X.base (fun _ _ _ _ _ _ => False) k f fd ["self", "other"] sp) (hb : Binds X.K fd ["self", "other"] []) (sb : Sub X k A) (I : Inv X pins σ H s)
    (ry : RelV y v) (hsp : sp [.ref a, y] H Q' (fun _ _ _ => False)) : wpAny (model X.prog X.w) A (call (.ref f) [.ref a, v]) (fun r s' => ∃ z H', Inv X pins σ H' s' ∧ RelV z r ∧ Q' z H') X.xe s := by
  have e0 : Env0 X.prog X.w X.K X.mg X.base A X.stack s H := by
    have e := I.env0
    exact ⟨by rw [sb.fr]; exact e.frames, e.mod, e.bs, e.bsz, e.funs, e.frf, e.hok, e.bare⟩
  have r2 : Vals [V.ref a, y] [Value.ref a, v] := .cons rfl (.cons ry .nil)
  refine wpAny_call (codeAny_mono (F1.run A X.stack s H ⟨[.ref a, v], []⟩ [.ref a, v] [.ref a, y] _ _ sb.room e0 (by
    have := hb s [.ref a, v] I.kIn rfl
    simpa using this) r2 hsp) fun r s' hq => ?_)
  cases r with
  | error e => exact False.elim hq
  | ok fl =>
    cases fl with
    | ret w =>
      obtain ⟨z, H', I', rz, ez⟩ := I.after hq
      exact ⟨z, H', I', rz, ez⟩
    | next => exact False.elim hq
    | brk => exact False.elim hq
    | cont => exact False.elim hq
theorem rc_own {k : Nat} {shp : Addr → List Str → List Dt → Prop} (T : EqTab X.prog X.w X.K X.mg X.base k shp) : ∀ (n : Nat) (d e : Dt) (x y : V) (u v : Value) (A : Around) (pins : List (Addr × Obj)) (s : Shared) (H : Hp), dep d ≤ n → okD shp d → okD shp e → Is X.K H d x → Is X.K H e y → RelV x u → RelV y v → Sub X (k + n) A → Inv X pins σ H s →
    wpAny (model X.prog X.w) A (richCompare .Eq u v) (fun r s' => r = .bool (deq d e) ∧ LoopI X pins σ H s') X.xe s := by
  intro n
  induction n with
  | zero =>
    intro d e x y u v A pins s H hn od oe hd he rx ry sb I
    have h6 : kd d ≠ 6 := fun z => by cases d <;> first | (simp [kd] at z; done) | (simp [dep] at hn; done)
    by_cases h6' : kd e = 6
    · cases e <;> first | (exfalso; simp [kd] at h6'; done) | skip
      rename_i C fs ds
      obtain ⟨⟨f, fd, F1, hfind, hfn, hb⟩, hfc⟩ := T.own C fs ds oe
      have he' := he
      obtain ⟨b, dx, kvs, rfl, hs, ek, hl⟩ := he
      cases (show v = _ from ry)
      obtain ⟨mA, J0, _⟩ := ins_get I.hok hs
      obtain ⟨odj, J, _⟩ := J0.look
      obtain ⟨Tn, id, hT, tT, slot, hc⟩ := back_of (A := A) I hd rx h6 J hfc
      refine cmp_back sb.room.units0 I.kIn J tT (facts_of hfc hT).2 slot (hc _) hfind hfn ?_
      refine wpAny_mono (own_run (Q' := fun z H' => z = .bl (deq (.ins C fs ds) d) ∧ Ext H H') F1 hb (sb.mono (by omega)) I rx ⟨b, x, fs, ds, d, rfl, he', hd, oe, od, fun H' e' => ⟨rfl, e'⟩⟩) (fun r s' hr => ?_) fun _ _ z => z
      obtain ⟨z, H', I', rz, ez, ex⟩ := hr
      subst ez
      cases (show r = _ from rz)
      refine ⟨?_, H', I', ex⟩
      rw [deq_kd (d := d) (e := .ins C fs ds) (fun z => h6 z), deq_kd (d := .ins C fs ds) (e := d) (fun z => h6 z.symm)]
    · by_cases hk : kd d = kd e
      · have h2 : kd d ≤ 2 := by cases d <;> first | (exfalso; simp [dep] at hn; done) | (simp [kd])
        exact rc_flat hd he rx ry h2 hk X.xe _ ⟨rfl, H, I, Ext.rfl'⟩
      · exact mis I sb.room.units0 d e hd he rx ry hk h6 h6' X.xe _ ⟨by rw [deq_kd hk], H, I, Ext.rfl'⟩
  | succ n ih =>
    intro d e x y u v A pins s H hn od oe hd he rx ry sb I
    by_cases h6 : kd d = 6
    · cases d <;> first | (exfalso; simp [kd] at h6; done) | skip
      rename_i C fs ds
      obtain ⟨⟨f, fd, F1, hfind, hfn, hb⟩, hfc⟩ := T.own C fs ds od
      have hd' := hd
      obtain ⟨a, dx, kvs, rfl, hs, ek, hl⟩ := hd
      cases (show u = _ from rx)
      obtain ⟨mA, J0, _⟩ := ins_get I.hok hs
      obtain ⟨odj, J, _⟩ := J0.look
      have tb : ∃ tb, PySem.W.Looks (model X.prog X.w) s.heap (typeOf v) tb ∧ PySem.W.notFirst X.K C tb = true := by
        by_cases h6' : kd e = 6
        · cases e <;> first | (exfalso; simp [kd] at h6'; done) | skip
          rename_i C' fs' es
          have t2 := T.two _ _ _ _ _ _ od oe
          obtain ⟨b, dy, lvs, rfl, hs', _, _⟩ := he
          cases (show v = _ from ry)
          obtain ⟨mB, J0', _⟩ := ins_get I.hok hs'
          obtain ⟨odj', J', _⟩ := J0'.look
          exact ⟨_, J'.type, t2⟩
        · obtain ⟨Tn, hT, tT⟩ := ty_of I he ry h6'
          exact ⟨_, looks_ty tT, (facts_of hfc hT).1⟩
      obtain ⟨tb, Lt, hnf⟩ := tb
      obtain ⟨m, hF⟩ := I.fr
      refine PySem.W.cmp_K (op := .Eq) (tb := tb) sb.room.units0 hF I.ok.mod.kin J Lt hnf hfind hfn ?_
      refine wpAny_mono (own_run (Q' := fun z H' => z = .bl (deq (.ins C fs ds) e) ∧ Ext H H') F1 hb (sb.mono (by omega)) I ry ⟨a, y, fs, ds, e, rfl, hd', he, od, oe, fun H' e' => ⟨rfl, e'⟩⟩) (fun r s' hr => ?_) fun _ _ z => z
      obtain ⟨z, H', I', rz, ez, ex⟩ := hr
      subst ez
      cases (show r = _ from rz)
      exact ⟨rfl, H', I', ex⟩
    · by_cases h6' : kd e = 6
      · cases e <;> first | (exfalso; simp [kd] at h6'; done) | skip
        rename_i C fs ds
        obtain ⟨⟨f, fd, F1, hfind, hfn, hb⟩, hfc⟩ := T.own C fs ds oe
        have he' := he
        obtain ⟨b, dx, kvs, rfl, hs, ek, hl⟩ := he
        cases (show v = _ from ry)
        obtain ⟨mA, J0, _⟩ := ins_get I.hok hs
        obtain ⟨odj, J, _⟩ := J0.look
        obtain ⟨Tn, id, hT, tT, slot, hc⟩ := back_of (A := A) I hd rx h6 J hfc
        refine cmp_back sb.room.units0 I.kIn J tT (facts_of hfc hT).2 slot (hc _) hfind hfn ?_
        refine wpAny_mono (own_run (Q' := fun z H' => z = .bl (deq (.ins C fs ds) d) ∧ Ext H H') F1 hb (sb.mono (by omega)) I rx ⟨b, x, fs, ds, d, rfl, he', hd, oe, od, fun H' e' => ⟨rfl, e'⟩⟩) (fun r s' hr => ?_) fun _ _ z => z
        obtain ⟨z, H', I', rz, ez, ex⟩ := hr
        subst ez
        cases (show r = _ from rz)
        refine ⟨?_, H', I', ex⟩
        rw [deq_kd (d := d) (e := .ins C fs ds) (fun z => h6 z), deq_kd (d := .ins C fs ds) (e := d) (fun z => h6 z.symm)]
      · by_cases hk : kd d = kd e
        · by_cases h2 : kd d ≤ 2
          · exact rc_flat hd he rx ry h2 hk X.xe _ ⟨rfl, H, I, Ext.rfl'⟩
          · have sb1 : Sub X (k + n) A.in1 := (show Sub X (k + n + 1) A from sb).in1
            have items : ∀ {ds es : List Dt} {xs ys : List V} {its its2 : List Value}, depL ds ≤ n → okL shp ds → okL shp es → IsL X.K H ds xs → IsL X.K H es ys → Vals xs its → Vals ys its2 →
                ∀ i (h1 : i < its.toArray.size) (h2 : i < its2.toArray.size) (s' : Shared), LoopI X pins σ H s' → wpAny (model X.prog X.w) A.in1 (eqBool its.toArray[i] its2.toArray[i]) (fun r s2 => r = eAt ds es i ∧ LoopI X pins σ H s2) X.xe s' := by
              intro ds es xs ys its its2 hdn p1 p2 l1 l2 r1 r2 i h1 h2 s' L
              obtain ⟨H1, I1, e1⟩ := L
              have g1 : its[i]? = some its.toArray[i] := by
                have h1' : i < its.length := by simpa using h1
                rw [List.getElem?_eq_getElem h1'] <;> simp
              have g2 : its2[i]? = some its2.toArray[i] := by
                have h2' : i < its2.length := by simpa using h2
                rw [List.getElem?_eq_getElem h2'] <;> simp
              have k1 : i < xs.length := by rw [r1.length]; simpa using h1
              have k2 : i < ys.length := by rw [r2.length]; simpa using h2
              obtain ⟨u', hu', ru⟩ := r1.get (List.getElem?_eq_getElem k1)
              obtain ⟨v', hv', rv⟩ := r2.get (List.getElem?_eq_getElem k2)
              rw [g1] at hu'
              rw [g2] at hv'
              rw [Option.some.inj hu', Option.some.inj hv']
              obtain ⟨d', d1, i1⟩ := l1.get (List.getElem?_eq_getElem k1)
              obtain ⟨e', d2, i2⟩ := l2.get (List.getElem?_eq_getElem k2)
              rw [eAt_some d1 d2]
              refine eq_get I1 (i1.ext e1) (i2.ext e1) ru rv ⟨rfl, H1, I1, e1⟩ (wpAny_mono (ih d' e' _ _ u' v' A.in1 pins s' H1 (Nat.le_trans (depL_get d1) hdn) (okL_get p1 d1) (okL_get p2 d2) (i1.ext e1) (i2.ext e1) ru rv sb1 I1) (fun r s2 q => ?_) fun _ _ z => z)
              obtain ⟨hr, H2, I2, e2⟩ := q
              exact ⟨_, hr, rfl, H2, I2, e1.trans e2⟩
            cases d with
            | non => exact absurd (by decide) h2
            | bl b => exact absurd (by show 1 ≤ 2; decide) h2
            | int b => exact absurd (by show 1 ≤ 2; decide) h2
            | str b => exact absurd (by show 2 ≤ 2; decide) h2
            | ins C fs ds => exact absurd rfl h6
            | lst ds =>
              cases e <;> first | (exfalso; simp [kd] at hk; done) | skip
              rename_i es
              obtain ⟨a, xs, rfl, hs, l1⟩ := hd
              obtain ⟨b, ys, rfl, hs', l2⟩ := he
              cases (show u = _ from rx)
              cases (show v = _ from ry)
              have eq0 : deq (.lst ds) (.lst es) = ((List.range (min ds.length es.length)).all (eAt ds es) && ds.length == es.length) := deqL_eq ds es
              by_cases hsz : ds.length = es.length
              · refine rc_listB (N := ds.length) (e := eAt ds es) sb.room.units0 (LoopI X pins σ H) (fun s' z => ?_) (fun s' z => ⟨?_, z⟩) ⟨H, I, Ext.rfl'⟩
                · obtain ⟨H1, I1, e1⟩ := id z
                  obtain ⟨its, r1, p1, _⟩ := I1.list (hs.ext e1)
                  obtain ⟨its2, r2, p2, _⟩ := I1.list (hs'.ext e1)
                  exact ⟨its.toArray, its2.toArray, p1.isList, p2.isList, by rw [List.size_toArray, ← r1.length, ← l1.length], by rw [List.size_toArray, ← r2.length, ← l2.length, hsz],
                    fun i h1 h2 => items (Nat.le_of_succ_le_succ hn) od oe l1 l2 r1 r2 i h1 h2 s' z⟩
                · rw [eq0, hsz, Nat.min_self, beq_self_eq_true, Bool.and_true, ← hsz]
              · have hb : (ds.length == es.length) = false := beq_eq_false_iff_ne.mpr hsz
                rw [hb, Bool.and_false] at eq0
                obtain ⟨its, r1, p1, _⟩ := I.list hs
                obtain ⟨its2, r2, p2, _⟩ := I.list hs'
                refine RcAt.lists_lengths p1.isList p2.isList ?_ sb.room.units0 X.prog X.w X.xe _ ⟨by rw [eq0], H, I, Ext.rfl'⟩
                rw [List.size_toArray, List.size_toArray, ← r1.length, ← r2.length, ← l1.length, ← l2.length]
                simp [hsz]
            | tup ds =>
              cases e <;> first | (exfalso; simp [kd] at hk; done) | skip
              rename_i es
              obtain ⟨a, xs, rfl, hs, l1⟩ := hd
              obtain ⟨b, ys, rfl, hs', l2⟩ := he
              cases (show u = _ from rx)
              cases (show v = _ from ry)
              have eq0 : deq (.tup ds) (.tup es) = ((List.range (min ds.length es.length)).all (eAt ds es) && ds.length == es.length) := deqL_eq ds es
              obtain ⟨its, r1, p1, _⟩ := I.tuple hs
              obtain ⟨its2, r2, p2, _⟩ := I.tuple hs'
              have e1 : its.toArray.size = ds.length := by rw [List.size_toArray, ← r1.length, ← l1.length]
              have e2 : its2.toArray.size = es.length := by rw [List.size_toArray, ← r2.length, ← l2.length]
              refine rc_tupB (e := eAt ds es) sb.room.units0 (LoopI X pins σ H) p1 p2 (fun i h1 h2 s' z => items (Nat.le_of_succ_le_succ hn) od oe l1 l2 r1 r2 i h1 h2 s' z) (fun s' z => ⟨?_, z⟩) ⟨H, I, Ext.rfl'⟩
              rw [eq0, e1, e2]
            | dic ks ds =>
              cases e <;> first | (exfalso; simp [kd] at hk; done) | skip
              rename_i ls es
              have hu := sb.room.un
              refine rc_pure I (dep (.dic ks ds)) (.dic ks ds) (.dic ls es) x y u v A (Nat.le_refl _) od oe hd he rx ry ?_ X.xe _ ⟨rfl, H, I, Ext.rfl'⟩
              omega
        · exact mis I sb.room.units0 d e hd he rx ry hk h6 h6' X.xe _ ⟨by rw [deq_kd hk], H, I, Ext.rfl'⟩
theorem eq_own {k : Nat} {shp : Addr → List Str → List Dt → Prop} (T : EqTab X.prog X.w X.K X.mg X.base k shp) {d e : Dt} {x y : V} {u v : Value} {A : Around} (hn : dep d ≤ n) (od : okD shp d) (oe : okD shp e) (hd : Is X.K H d x) (he : Is X.K H e y) (rx : RelV x u) (ry : RelV y v) (sb : Sub X (k + n) A) (I : Inv X pins σ H s) :
    wpAny (model X.prog X.w) A (eqBool u v) (fun r s' => r = deq d e ∧ LoopI X pins σ H s') X.xe s :=
  eq_get I hd he rx ry ⟨rfl, H, I, Ext.rfl'⟩ (wpAny_mono (rc_own T n d e x y u v A pins s H hn od oe hd he rx ry sb I) (fun r s2 q => ⟨_, q.1, rfl, q.2⟩) fun _ _ z => z)
end
end LxE
namespace LxE
open PySem PySem.SeqAt
open AutoSeq1 (wpAny_loadPart')
open MeetsSeq MeetsSeq2 MeetsSeq3 SeqRoads2
section
variable {prog : Program} {w : World} {A : Around} {R : Result → Shared → Prop}
theorem ne_loopB (l b : Addr) (N : Nat) (e : Nat → Bool) (I : Shared → Prop) (hl : ListJ prog w A (fun e s' => R (.error e) s') l b N e I)
    (fin : ∀ s, I s → R (.ok (.ret (.bool (!(List.range N).all e)))) s) (k : Nat) :
    ∀ i : Nat, N - i = k → i ≤ N → (∀ j, j < i → e j = true) → ∀ s, I s →
      wpAny (model prog w) A.in1 (Builtin.«list.__eq__.loop» ⟨[.ref l, .ref b, rawInt i, rawInt 3], []⟩) (FinOf prog w A R) (fun e s' => R (.error e) s') s := by
  induction k with
  | zero =>
    intro i hk hi hp s h
    obtain ⟨items, items2, hl1', hb1', hs1, hs2, _⟩ := hl _ h
    obtain ⟨n, dd, sl, hl1⟩ := isList_obj hl1'
    obtain ⟨n2, dd2, sl2, hb1⟩ := isList_obj hb1'
    have hi' : i = N := by omega
    have hR : R (.ok (.ret (.bool false))) s := by
      have z := fin s h
      rw [all_full (fun j hj => hp j (by omega))] at z
      exact z
    obtain ⟨hp', g, d, tk, os⟩ := s
    wp_walk using wpAny_loadPart' hl1, wpAny_loadPart' hb1
    have hi1 : items[((i : Nat) : Int).toNat]? = none := by simp; omega
    have hi2 : items2[((i : Nat) : Int).toNat]? = none := by simp; omega
    rw [hi1, hi2]
    wp_walk using wpAny_loadPart' hl1, wpAny_loadPart' hb1
    show R (.ok (.ret (.bool (items.size != items2.size)))) _
    rw [hs1, hs2]
    simpa using hR
  | succ k ih =>
    intro i hk hi hp s h
    obtain ⟨items, items2, hl1', hb1', hs1, hs2, turn⟩ := hl _ h
    obtain ⟨n, dd, sl, hl1⟩ := isList_obj hl1'
    obtain ⟨n2, dd2, sl2, hb1⟩ := isList_obj hb1'
    have hlt : i < items.size := by omega
    have hlt2 : i < items2.size := by omega
    have ht := turn i hlt hlt2
    obtain ⟨hp', g, d, tk, os⟩ := s
    wp_walk using wpAny_loadPart' hl1, wpAny_loadPart' hb1
    have hi1 : items[((i : Nat) : Int).toNat]? = some items[i] := by simp [hlt]
    have hi2 : items2[((i : Nat) : Int).toNat]? = some items2[i] := by simp [hlt2]
    have hc : ((i : Int) + 1) = ((i + 1 : Nat) : Int) := by omega
    rw [hi1, hi2]
    refine wpAny_bind (wpAny_mono ht (fun r s2 h2 => ?_) fun _ _ x => x)
    obtain ⟨hr, h2⟩ := h2
    subst hr
    obtain ⟨items3, items4, hl3', hb3', hs3, hs4, _⟩ := hl _ h2
    obtain ⟨n3, dd3, sl3, hl3⟩ := isList_obj hl3'
    obtain ⟨n4, dd4, sl4, hb3⟩ := isList_obj hb3'
    have fin2 := fin s2 h2
    cases hei : e i with
    | true =>
      have hrec := ih (i + 1) (by omega) (by omega) (fun j hj => by
        rcases Nat.lt_succ_iff_lt_or_eq.mp hj with z | z
        · exact hp j z
        · rw [z]; exact hei) s2 h2
      obtain ⟨hp2, g2, d2, tk2, os2⟩ := s2
      wp_walk
      rw [hc]
      exact ⟨plainId_quiet plain_eq_loop _, codeAny_builtin entry_eq_loop (by
        rw [Around.under_plainId plain_eq_loop _]
        exact hrec)⟩
    | false =>
      rw [all_drop hp (by omega) hei] at fin2
      have hj1 : items3[((i : Nat) : Int).toNat]? = some (items3[i]'(by omega)) := by simp <;> omega
      have hj2 : items4[((i : Nat) : Int).toNat]? = some (items4[i]'(by omega)) := by simp <;> omega
      obtain ⟨hp2, g2, d2, tk2, os2⟩ := s2
      wp_walk using wpAny_loadPart' hl3, wpAny_loadPart' hb3
      rw [hj1, hj2]
      wp_walk
      simpa using fin2
theorem list_neB (l b : Addr) (N : Nat) (e : Nat → Bool) (I : Shared → Prop) (hl : ListJ prog w A (fun e s' => R (.error e) s') l b N e I)
    (fin : ∀ s, I s → R (.ok (.ret (.bool (!(List.range N).all e)))) s) {s : Shared} (h : I s) :
    wpAny (model prog w) A.in1 (Builtin.«list.__ne__» ⟨[.ref l, .ref b], []⟩) (FinOf prog w A R) (fun e s' => R (.error e) s') s := by
  obtain ⟨items, items2, hl1', hb1', hs1, hs2, _⟩ := hl _ h
  obtain ⟨n, dd, sl, hl1⟩ := isList_obj hl1'
  obtain ⟨n2, dd2, sl2, hb1⟩ := isList_obj hb1'
  have hrec := ne_loopB (A := A) (R := R) l b N e I hl fin _ 0 rfl (Nat.zero_le _) (fun j hj => absurd hj (Nat.not_lt_zero j)) s h
  obtain ⟨hp, g, d, tk, os⟩ := s
  have f3 := AutoSeq1.sub_list_list
  have hne : ¬ (items.size != items2.size) = true := by simp [hs1, hs2]
  wp_walk using wpAny_loadPart' hl1, wpAny_loadPart' hb1
  exact ⟨plainId_quiet plain_eq_loop _, codeAny_builtin entry_eq_loop (by
    rw [Around.under_plainId plain_eq_loop _]
    exact hrec)⟩
theorem tuple_neB (l b : Addr) (items items2 : Array Value) (n n2 : Nat) (dd dd2 : Option Addr) (sl sl2 : Array (Option Value)) (e : Nat → Bool) (I : Shared → Prop)
    (turn : ∀ i (h1 : i < items.size) (h2 : i < items2.size) s, I s → wpAny (model prog w) A.in1 (eqBool items[i] items2[i]) (fun r s' => r = e i ∧ I s') (fun e s' => R (.error e) s') s)
    (fin : ∀ s, I s → R (.ok (.ret (.bool (!((List.range (min items.size items2.size)).all e && items.size == items2.size))))) s) {s : Shared} (hl1 : s.heap.get? l = some { cls := .type "tuple", dict := dd, data := .seq items n, slots := sl }) (hb1 : s.heap.get? b = some { cls := .type "tuple", dict := dd2, data := .seq items2 n2, slots := sl2 }) (h : I s) :
    wpAny (model prog w) A.in1 (Builtin.«tuple.__ne__» ⟨[.ref l, .ref b], []⟩) (FinOf prog w A R) (fun e s' => R (.error e) s') s := by
  have f2 := AutoSeq1.sub_tuple_tuple
  have hZ : (items.toList.zip items2.toList).length = min items.size items2.size := by simp
  have h0 := h
  obtain ⟨hp, g, d, tk, os⟩ := s
  wp_walk using wpAny_loadPart' hl1, wpAny_loadPart' hb1, wpAny_forIn_list _ (fun rest b s' => b.1 = none ∧ ∃ i, rest = (items.toList.zip items2.toList).drop i ∧ (∀ j, j < i → e j = true) ∧ i ≤ min items.size items2.size ∧ I s') _
  case turn =>
    rintro ⟨y, x⟩ rest b s' ⟨hb', i, hz, hpre, hi, hI⟩
    have hlt : i < (items.toList.zip items2.toList).length := by
      rcases Nat.lt_or_ge i (items.toList.zip items2.toList).length with h' | h'
      · exact h'
      · rw [List.drop_of_length_le h'] at hz; cases hz
    have hm : i < min items.size items2.size := hZ ▸ hlt
    have h1 : i < items.size := Nat.lt_of_lt_of_le hm (Nat.min_le_left _ _)
    have h2 : i < items2.size := Nat.lt_of_lt_of_le hm (Nat.min_le_right _ _)
    rw [List.drop_eq_getElem_cons hlt] at hz
    injection hz with hyx hrest
    have hy : y = items[i] := by have := congrArg Prod.fst hyx; simpa using this
    have hx : x = items2[i] := by have := congrArg Prod.snd hyx; simpa using this
    subst hy hx
    refine wpAny_bind (wpAny_mono (turn i h1 h2 s' hI) (fun r s2 q2 => ?_) fun _ _ x => x)
    obtain ⟨hr, q2⟩ := q2
    subst hr
    cases hei : e i with
    | true =>
      wp_walk
      exact ⟨rfl, i + 1, hrest, fun j hj => by
        rcases Nat.lt_succ_iff_lt_or_eq.mp hj with z | z
        · exact hpre j z
        · rw [z]; exact hei, hm, q2⟩
    | false =>
      have hR := fin s2 q2
      rw [all_drop hpre hm hei] at hR
      wp_walk
      simpa using hR
  case fin =>
    rintro ⟨b1, b2⟩ s' ⟨hb', i, hz, hpre, hi, hI⟩
    simp only at hb'
    subst hb'
    have hge : min items.size items2.size ≤ i := by
      rcases Nat.lt_or_ge i (items.toList.zip items2.toList).length with h' | h'
      · rw [List.drop_eq_getElem_cons h'] at hz; cases hz
      · exact hZ ▸ h'
    have hR := fin s' hI
    rw [all_full (fun j hj => hpre j (by omega))] at hR
    wp_walk
    simpa [Builtin.Tuple.tupleCompareSizes, bne] using hR
  case h =>
    exact ⟨rfl, 0, rfl, fun j hj => absurd hj (Nat.not_lt_zero j), Nat.zero_le _, h0⟩
end
section
variable {prog : Program} {w : World} {A : Around} {E : Value → Shared → Prop} {s : Shared}
theorem rc_listNB {l b : Addr} {N : Nat} {e : Nat → Bool} {Q : Value → Shared → Prop} (hu : A.units < cLine) (I : Shared → Prop) (hl : ListJ prog w A E l b N e I)
    (fin : ∀ s, I s → Q (.bool (!(List.range N).all e)) s) (h : I s) : wpAny (model prog w) A (richCompare .NotEq (.ref l) (.ref b)) Q E s := by
  obtain ⟨items, items2, hl1', hb1', _, _, _⟩ := hl _ h
  obtain ⟨n, dd, sl, hl1⟩ := isList_obj hl1'
  obtain ⟨n2, dd2, sl2, hb1⟩ := isList_obj hb1'
  refine wpAny_richCompare_same_room (op := .NotEq) ⟨_, hl1, rfl⟩ ⟨_, hb1, rfl⟩ F.slot_list_ne (call_here F.slot_list_ne ⟨_, hl1, rfl⟩ F.entry_list_ne (F.args_list_ne_2 _ _) ?_) hu
  exact list_neB (R := wants (fun v s' => v ≠ .notImplemented ∧ Q v s') E) l b N e I hl (fun s' q => ⟨(fun x => nomatch x), fin s' q⟩) h
theorem rc_tupNB {l b : Addr} {items items2 : Array Value} {e : Nat → Bool} {Q : Value → Shared → Prop} (hu : A.units < cLine) (I : Shared → Prop)
    (hl : s.heap.IsTuple l items) (hb : s.heap.IsTuple b items2)
    (turn : ∀ i (h1 : i < items.size) (h2 : i < items2.size) s, I s → wpAny (model prog w) A.in1 (eqBool items[i] items2[i]) (fun r s' => r = e i ∧ I s') E s)
    (fin : ∀ s, I s → Q (.bool (!((List.range (min items.size items2.size)).all e && items.size == items2.size))) s) (h : I s) : wpAny (model prog w) A (richCompare .NotEq (.ref l) (.ref b)) Q E s := by
  obtain ⟨⟨cls, dd, data, sl⟩, ho, hc, n, hd⟩ := id hl
  obtain ⟨⟨cls2, dd2, data2, sl2⟩, ho2, hc2, n2, hd2⟩ := id hb
  simp only at hc hd hc2 hd2
  subst hc hd hc2 hd2
  refine wpAny_richCompare_same_room (op := .NotEq) ⟨_, ho, rfl⟩ ⟨_, ho2, rfl⟩ F.slot_tuple_ne (call_here F.slot_tuple_ne ⟨_, ho, rfl⟩ F.entry_tuple_ne (F.args_tuple_ne_2 _ _) ?_) hu
  exact tuple_neB (R := wants (fun v s' => v ≠ .notImplemented ∧ Q v s') E) l b items items2 n n2 dd dd2 sl sl2 e I turn (fun s' q => ⟨(fun x => nomatch x), fin s' q⟩) ho ho2 h
end
section
open PySem.W
variable {prog : Program} {w : World} {A : Around} {E : Value → Shared → Prop} {s : Shared} {K : Frag} {x C f : Addr} {ox : Obj} {od : Option Obj} {b tb : Value}
/-- x != b, x of an own class with an own == and no own != -/
theorem cmpne_K {Q : Value → Shared → Prop} (hu : A.units + 1 < cLine) (X : K.In s.heap) (I : InstAt s.heap x ox C od) (hb : Looks (model prog w) s.heap (typeOf b) tb) (hn : notFirst K C tb = true) (hm : mroIn K C (.type "object") = some true)
    (hne : findIn K (.ref C) "__ne__" = some (some (.builtin "object.__ne__"))) (hs : findIn K (.ref C) "__eq__" = some (some (.ref f))) (hf : isFn K (.ref f) = true)
    (h : wpAny (model prog w) A.in1 (call (.ref f) [.ref x, b]) (fun v s' => ∃ r, v = .bool r ∧ Q (.bool (!r)) s') E s) : wpAny (model prog w) A (richCompare .NotEq (.ref x) b) Q E s := by
  have one : wpAny (model prog w) A (tryCompare (.ref x) "__ne__" b) (fun r s' => ∃ v, r = some (.bool v) ∧ Q (.bool v) s') E s := by
    unfold tryCompare
    refine wpAny_bind ?_
    simp only [callSpecialIfBound?, bindSpecialIfBound?]
    refine wpAny_holding (wpAny_bind (wpAny_bind (wpAny_bind (I.type.here ((looks_findIn X hne).here ?_)))))
    refine wpAny_bind (wpAny_askSetting (wpAny_ite ?_))
    have fin : wpAny (model prog w) A (call (.builtin "object.__ne__") ([.ref x] ++ [b]) >>= fun v => pure (some v)) (fun a s₁ => wpAny (model prog w) A (match a with
        | some Value.notImplemented => pure none
        | none => pure none
        | some v => pure (some v)) (fun r s' => ∃ v, r = some (Value.bool v) ∧ Q (.bool v) s') E s₁) E s := by
      refine wpAny_bind (wpAny_call (codeAny_call_builtin PySem.F.cmp_object.ne.plain PySem.F.cmpEntry_ne ?_))
      refine check_slot PySem.F.cmpKind_ne PySem.F.cmpSplit_ne (I.type.andThen (looks_mroIn X hm)) (PySem.F.cmpArgs_ne _ _) ?_
      unfold Builtin.«object.__ne__»
      refine wpAny_bind (wpAny_of_eq (a := ((Value.ref x : Value), [b])) (by first | rfl | (simp only [slotArgs]; rfl)) ?_)
      refine wpAny_bind (wpAny_cRoomFor (by exact hu) ?_)
      refine wpAny_bind (ifBound_K X I hs hf (wpAny_mono h (fun v s' hv => ?_) fun _ _ e => e))
      obtain ⟨r, rfl, q⟩ := hv
      refine wpAny_bind (wpAny_truthy_bool ?_)
      exact wpAny_pure (wpAny_pure (wpAny_pure ⟨_, rfl, q⟩))
    split
    · exact wpAny_bind (wpAny_of_eq (PySem.F.cmp_object.ne.bind _) (wpAny_pure (by exact fin)))
    · exact wpAny_tryCatch (wpAny_bind (wpAny_of_eq (PySem.F.cmp_object.ne.bind _) (wpAny_pure (by exact fin))))
  unfold richCompare
  simp only [oneThing_ref, cmpInfo]
  refine wpAny_holding (wpAny_bind (wpAny_cRoomFor (by omega) ?_))
  refine wpAny_bind (I.type.here (wpAny_bind (hb.here ?_)))
  split
  · rename_i q
    have e : subIn K tb (.ref C) = some false := by
      rcases Bool.or_eq_true_iff.mp hn with e | e
      · rw [beq_iff_eq.mp e] at q; simp at q
      · exact beq_iff_eq.mp e
    refine wpAny_bind ((looks_subIn X e).here ?_)
    simp only [Bool.false_eq_true, if_false]
    refine wpAny_bind (wpAny_mono one (fun r s' z => ?_) fun _ _ e => e)
    obtain ⟨v, rfl, hq⟩ := z
    exact wpAny_pure hq
  · refine wpAny_bind (wpAny_pure ?_)
    simp only [Bool.false_eq_true, if_false]
    refine wpAny_bind (wpAny_mono one (fun r s' z => ?_) fun _ _ e => e)
    obtain ⟨v, rfl, hq⟩ := z
    exact wpAny_pure hq
end
end LxE
namespace PySem.W
open Lean Elab Tactic Meta PySem PySem.Calls PyProof.Rows PyProof.V PySem.Spec
theorem lx_ne_dicts {prog : Program} {w : World} {K : Type} [DecidableEq K] {knd : KeyKind prog w K} {A : Around} {s : Shared} {a b : Addr} {ka kb : List (K × Value)} {r : Bool} (ha : (a == sysModules) = false) (hb : (b == sysModules) = false)
    (da : s.heap.DictOf knd a ka) (db : s.heap.DictOf knd b kb) (hu : A.units < cLine) (hits : ka.length = kb.length → KeqHitsP prog w A.in1 s kb ka r) (E Q : Value → Shared → Prop) (h : Q (.bool (!(ka.length == kb.length && r))) s) : wpAny (model prog w) A (richCompare .NotEq (.ref a) (.ref b)) Q E s := by
  refine wpAny_richCompare_same_room (op := .NotEq) da.typeIs db.typeIs PySem.F.slot_dict_ne (wpAny_call_entry PySem.F.slot_dict_ne da.typeIs PySem.F.entry_dict_ne ?_ (PySem.F.args_dict_ne_2 _ _)) hu
  show wpAny _ _ (Builtin.Dict.dictSlotArgs "__ne__" ⟨[.ref a, .ref b], []⟩ >>= _) _ _ s
  refine wpAny_bind ?_
  unfold Builtin.Dict.dictSlotArgs
  refine wpAny_bind (wpAny_notOrdered_dict da.typeIs ?_)
  show wpAny _ _ (pure (Value.ref a, Value.ref b)) _ _ s
  refine wpAny_pure ?_
  refine wpAny_bind (wpAny_isInstance (T := "dict") db.typeIs PySem.F.sub_dict_dict ?_)
  simp only [Bool.not_true, Bool.false_eq_true, if_false]
  refine wpAny_bind (wpAny_pure (wpAny_bind (wpAny_pure ?_)))
  refine wpAny_bind (samePairsP ha hb da db hits ?_)
  refine wpAny_pure ⟨_, rfl, ?_, ?_⟩
  · exact fun x => nomatch x
  · simpa using h
end PySem.W
namespace LxE
open PySem PySem.SeqAt L2
section
variable {X : Cx} {pins : List (Addr × Obj)} {σ : L2.St} {H : Hp} {s : Shared}
theorem items_own {k n : Nat} {shp : Addr → List Str → List Dt → Prop} (T : EqTab X.prog X.w X.K X.mg X.base k shp) {A : Around} (sb : Sub X (k + n) A) {ds es : List Dt} {xs ys : List V} {its its2 : List Value} (hdn : depL ds ≤ n) (p1 : okL shp ds) (p2 : okL shp es)
    (l1 : IsL X.K H ds xs) (l2 : IsL X.K H es ys) (r1 : Vals xs its) (r2 : Vals ys its2) (i : Nat) (h1 : i < its.toArray.size) (h2 : i < its2.toArray.size) (s' : Shared) (L : LoopI X pins σ H s') :
    wpAny (model X.prog X.w) A (eqBool its.toArray[i] its2.toArray[i]) (fun r s2 => r = eAt ds es i ∧ LoopI X pins σ H s2) X.xe s' := by
  obtain ⟨H1, I1, e1⟩ := L
  have g1 : its[i]? = some its.toArray[i] := by
    have h1' : i < its.length := by simpa using h1
    rw [List.getElem?_eq_getElem h1'] <;> simp
  have g2 : its2[i]? = some its2.toArray[i] := by
    have h2' : i < its2.length := by simpa using h2
    rw [List.getElem?_eq_getElem h2'] <;> simp
  have k1 : i < xs.length := by rw [r1.length]; simpa using h1
  have k2 : i < ys.length := by rw [r2.length]; simpa using h2
  obtain ⟨u', hu', ru⟩ := r1.get (List.getElem?_eq_getElem k1)
  obtain ⟨v', hv', rv⟩ := r2.get (List.getElem?_eq_getElem k2)
  rw [g1] at hu'
  rw [g2] at hv'
  rw [Option.some.inj hu', Option.some.inj hv']
  obtain ⟨d', d1, i1⟩ := l1.get (List.getElem?_eq_getElem k1)
  obtain ⟨e', d2, i2⟩ := l2.get (List.getElem?_eq_getElem k2)
  rw [eAt_some d1 d2]
  refine wpAny_mono (eq_own T (Nat.le_trans (depL_get d1) hdn) (okL_get p1 d1) (okL_get p2 d2) (i1.ext e1) (i2.ext e1) ru rv sb I1) (fun r s2 q => ?_) fun _ _ z => z
  obtain ⟨hr, H2, I2, e2⟩ := q
  exact ⟨hr, H2, I2, e1.trans e2⟩
/-- what a class must have besides, for != -/
def NeFacts (K : PySem.W.Frag) (C : Addr) : Prop := PySem.W.findIn K (.ref C) "__ne__" = some (some (.builtin "object.__ne__")) ∧ PySem.W.mroIn K C (.type "object") = some true
theorem rcn_own {k : Nat} {shp : Addr → List Str → List Dt → Prop} (T : EqTab X.prog X.w X.K X.mg X.base k shp) (N : ∀ C fs ds, shp C fs ds → NeFacts X.K C) (n : Nat) (d e : Dt) (x y : V) (u v : Value) (A : Around) (hn : dep d ≤ n) (od : okD shp d) (oe : okD shp e) (hd : Is X.K H d x) (he : Is X.K H e y)
    (rx : RelV x u) (ry : RelV y v) (sb : Sub X (k + n + 1) A) (I : Inv X pins σ H s) (hk : kd d = kd e ∨ kd d = 6) :
    wpAny (model X.prog X.w) A (richCompare .NotEq u v) (fun r s' => r = .bool (!deq d e) ∧ LoopI X pins σ H s') X.xe s := by
  have sb1 : Sub X (k + n) A.in1 := sb.in1
  by_cases h6 : kd d = 6
  · cases d <;> first | (exfalso; simp [kd] at h6; done) | skip
    rename_i C fs ds
    obtain ⟨⟨f, fd, F1, hfind, hfn, hb⟩, hfc⟩ := T.own C fs ds od
    obtain ⟨hne, hm⟩ := N C fs ds od
    have hd' := hd
    obtain ⟨a, dx, kvs, rfl, hs, ek, hl⟩ := hd
    cases (show u = _ from rx)
    obtain ⟨mA, J0, _⟩ := ins_get I.hok hs
    obtain ⟨odj, J, _⟩ := J0.look
    have tb : ∃ tb, PySem.W.Looks (model X.prog X.w) s.heap (typeOf v) tb ∧ PySem.W.notFirst X.K C tb = true := by
      by_cases h6' : kd e = 6
      · cases e <;> first | (exfalso; simp [kd] at h6'; done) | skip
        rename_i C' fs' es
        have t2 := T.two _ _ _ _ _ _ od oe
        obtain ⟨b, dy, lvs, rfl, hs', _, _⟩ := he
        cases (show v = _ from ry)
        obtain ⟨mB, J0', _⟩ := ins_get I.hok hs'
        obtain ⟨odj', J', _⟩ := J0'.look
        exact ⟨_, J'.type, t2⟩
      · obtain ⟨Tn, hT, tT⟩ := ty_of I he ry h6'
        exact ⟨_, looks_ty tT, (facts_of hfc hT).1⟩
    obtain ⟨tb, Lt, hnf⟩ := tb
    have hun := sb.room.un
    refine cmpne_K (tb := tb) (by omega) I.kIn J Lt hnf hm hne hfind hfn ?_
    refine wpAny_mono (own_run (Q' := fun z H' => z = .bl (deq (.ins C fs ds) e) ∧ Ext H H') F1 hb (sb1.mono (by omega)) I ry ⟨a, y, fs, ds, e, rfl, hd', he, od, oe, fun H' e' => ⟨rfl, e'⟩⟩) (fun r s' hr => ?_) fun _ _ z => z
    obtain ⟨z, H', I', rz, ez, ex⟩ := hr
    subst ez
    cases (show r = _ from rz)
    exact ⟨_, rfl, rfl, H', I', ex⟩
  · have hk' : kd d = kd e := hk.resolve_right h6
    by_cases h2 : kd d ≤ 2
    · have h3 : kd e ≤ 2 := hk' ▸ h2
      have L : LoopI X pins σ H s := ⟨H, I, Ext.rfl'⟩
      cases d <;> first | (exfalso; simp [kd] at h2; done) | skip
      all_goals (cases e <;> first | (exfalso; simp [kd] at hk'; done) | skip)
      · cases (show x = _ from hd); cases (show y = _ from he); cases (show u = _ from rx); cases (show v = _ from ry)
        exact RcNeAt.none_none X.prog X.w X.xe _ ⟨rfl, L⟩
      · cases (show x = _ from hd); cases (show y = _ from he); cases (show u = _ from rx); cases (show v = _ from ry)
        exact RcNeAt.bool_bool _ _ X.prog X.w X.xe _ ⟨rfl, L⟩
      · cases (show x = _ from hd); cases (show y = _ from he); cases (show u = _ from rx); obtain ⟨t, rfl⟩ := (show ∃ t, v = Value.int _ t from ry)
        exact RcNeAt.bool_int _ _ _ X.prog X.w X.xe _ ⟨rfl, L⟩
      · cases (show x = _ from hd); cases (show y = _ from he); obtain ⟨t, rfl⟩ := (show ∃ t, u = Value.int _ t from rx); cases (show v = _ from ry)
        exact RcNeAt.int_bool _ _ _ X.prog X.w X.xe _ ⟨rfl, L⟩
      · cases (show x = _ from hd); cases (show y = _ from he); obtain ⟨t, rfl⟩ := (show ∃ t, u = Value.int _ t from rx); obtain ⟨t', rfl⟩ := (show ∃ t, v = Value.int _ t from ry)
        exact RcNeAt.int_int _ _ _ _ X.prog X.w X.xe _ ⟨rfl, L⟩
      · cases (show x = _ from hd); cases (show y = _ from he); obtain ⟨t, rfl⟩ := (show ∃ t, u = Value.str _ t from rx); obtain ⟨t', rfl⟩ := (show ∃ t, v = Value.str _ t from ry)
        exact RcNeAt.str_str _ _ _ _ X.prog X.w X.xe _ ⟨rfl, L⟩
    · cases d with
      | non => exact absurd (by decide) h2
      | bl b => exact absurd (by show 1 ≤ 2; decide) h2
      | int b => exact absurd (by show 1 ≤ 2; decide) h2
      | str b => exact absurd (by show 2 ≤ 2; decide) h2
      | ins C fs ds => exact absurd rfl h6
      | lst ds =>
        cases e <;> first | (exfalso; simp [kd] at hk'; done) | skip
        rename_i es
        obtain ⟨a, xs, rfl, hs, l1⟩ := hd
        obtain ⟨b, ys, rfl, hs', l2⟩ := he
        cases (show u = _ from rx)
        cases (show v = _ from ry)
        have eq0 : deq (.lst ds) (.lst es) = ((List.range (min ds.length es.length)).all (eAt ds es) && ds.length == es.length) := deqL_eq ds es
        have hdn : depL ds ≤ n := Nat.le_trans (Nat.le_succ _) hn
        by_cases hsz : ds.length = es.length
        · refine rc_listNB (N := ds.length) (e := eAt ds es) sb.room.units0 (LoopI X pins σ H) (fun s' z => ?_) (fun s' z => ⟨?_, z⟩) ⟨H, I, Ext.rfl'⟩
          · obtain ⟨H1, I1, e1⟩ := id z
            obtain ⟨its, r1, p1, _⟩ := I1.list (hs.ext e1)
            obtain ⟨its2, r2, p2, _⟩ := I1.list (hs'.ext e1)
            exact ⟨its.toArray, its2.toArray, p1.isList, p2.isList, by rw [List.size_toArray, ← r1.length, ← l1.length], by rw [List.size_toArray, ← r2.length, ← l2.length, hsz],
              fun i h1 h2 => items_own T sb1 hdn od oe l1 l2 r1 r2 i h1 h2 s' z⟩
          · rw [eq0, hsz, Nat.min_self, beq_self_eq_true, Bool.and_true, ← hsz]
        · have hb : (ds.length == es.length) = false := beq_eq_false_iff_ne.mpr hsz
          rw [hb, Bool.and_false] at eq0
          obtain ⟨its, r1, p1, _⟩ := I.list hs
          obtain ⟨its2, r2, p2, _⟩ := I.list hs'
          refine RcNeAt.lists_lengths p1.isList p2.isList ?_ sb.room.units0 X.prog X.w X.xe _ ⟨by rw [eq0] <;> rfl, H, I, Ext.rfl'⟩
          rw [List.size_toArray, List.size_toArray, ← r1.length, ← r2.length, ← l1.length, ← l2.length]
          simp [hsz]
      | tup ds =>
        cases e <;> first | (exfalso; simp [kd] at hk'; done) | skip
        rename_i es
        obtain ⟨a, xs, rfl, hs, l1⟩ := hd
        obtain ⟨b, ys, rfl, hs', l2⟩ := he
        cases (show u = _ from rx)
        cases (show v = _ from ry)
        have eq0 : deq (.tup ds) (.tup es) = ((List.range (min ds.length es.length)).all (eAt ds es) && ds.length == es.length) := deqL_eq ds es
        have hdn : depL ds ≤ n := Nat.le_trans (Nat.le_succ _) hn
        obtain ⟨its, r1, p1, _⟩ := I.tuple hs
        obtain ⟨its2, r2, p2, _⟩ := I.tuple hs'
        have e1 : its.toArray.size = ds.length := by rw [List.size_toArray, ← r1.length, ← l1.length]
        have e2 : its2.toArray.size = es.length := by rw [List.size_toArray, ← r2.length, ← l2.length]
        refine rc_tupNB (e := eAt ds es) sb.room.units0 (LoopI X pins σ H) p1 p2 (fun i h1 h2 s' z => items_own T sb1 hdn od oe l1 l2 r1 r2 i h1 h2 s' z) (fun s' z => ⟨?_, z⟩) ⟨H, I, Ext.rfl'⟩
        rw [eq0, e1, e2]
      | dic ks ds =>
        cases e <;> first | (exfalso; simp [kd] at hk'; done) | skip
        rename_i ls es
        obtain ⟨a, kvs, rfl, hs, ek, l1⟩ := hd
        obtain ⟨b, lvs, rfl, hs', el, l2⟩ := he
        subst ek el
        cases (show u = _ from rx)
        cases (show v = _ from ry)
        obtain ⟨_, ya, va, ra, da⟩ := (show ObjOk X.prog X.w H s.heap a (.dK kvs) from I.hok a _ hs)
        obtain ⟨_, yb, vb, rb, db⟩ := (show ObjOk X.prog X.w H s.heap b (.dK lvs) from I.hok b _ hs')
        have hun := sb.room.un
        have hdn : depL ds ≤ n := Nat.le_trans (Nat.le_succ _) hn
        refine PySem.W.lx_ne_dicts (knd := mixKind X.prog X.w) (r := deqD (kvs.map (·.1)) ds (lvs.map (·.1)) es) ya yb da db (by omega) (fun _ => hits_of rb l2 l1 ra fun i d e x y u v k1 k2 i1 i2 r1 r2 => ?_) X.xe _ ⟨?_, H, I, Ext.rfl'⟩
        · obtain ⟨j, hj⟩ := mem_get k2
          intro E Q q
          exact eq_get I i1 i2 r1 r2 q (rc_pure I n d e x y u v A.in1 (Nat.le_trans (depL_get k1) hdn) (pureL_get od k1) (pureL_get oe hj) i1 i2 r1 r2 (by show A.units + 1 + n < cLine; omega) E _ ⟨_, rfl, q⟩)
        · have e1 : va.length = (kvs.map (·.1)).length := by rw [List.length_map, ← KV.length ra]
          have e2 : vb.length = (lvs.map (·.1)).length := by rw [List.length_map, ← KV.length rb]
          rw [e1, e2] <;> rfl
end
end LxE
namespace L2
open PySem PySem.Spec PyProof.Rows
def rEqO (K : PySem.W.Frag) (shp : Addr → List Str → List Dt → Prop) : R2 := fun x y H Q => ∃ d e, Is K H d x ∧ Is K H e y ∧ okD shp d ∧ okD shp e ∧ dep d ≤ 8 ∧ ∀ H', Ext H H' → Q (.bl (deq d e)) H'
def rNeO (K : PySem.W.Frag) (shp : Addr → List Str → List Dt → Prop) : R2 := fun x y H Q => ∃ d e, Is K H d x ∧ Is K H e y ∧ okD shp d ∧ okD shp e ∧ dep d ≤ 8 ∧ (LxE.kd d = LxE.kd e ∨ LxE.kd d = 6) ∧ ∀ H', Ext H H' → Q (.bl (!deq d e)) H'
section
variable {X : Cx} {k m : Nat} {shp : Addr → List Str → List Dt → Prop}
theorem op_eqO (T : EqTab X.prog X.w X.K X.mg X.base k shp) (hr : Room m X.A) (hm : k + 9 ≤ m) : OpR X (compareOp .Eq) (rEqO X.K shp) := by
  intro pins s σ H x y v u Q I rx ry hq
  obtain ⟨d, e, hd, he, od, oe, hn, q⟩ := hq
  show wpAny (model X.prog X.w) X.A (richCompare .Eq v u) (EP X pins σ Q) X.xe s
  refine wpAny_mono (LxE.rc_own T 8 d e x y v u X.A pins s H hn od oe hd he rx ry ⟨hr.mono (by omega), rfl⟩ I) (fun r s' z => ?_) fun _ _ x => x
  obtain ⟨hr', H', I', e'⟩ := z
  subst hr'
  exact ⟨.bl _, H', I', rfl, q H' e'⟩
theorem op_neO (T : EqTab X.prog X.w X.K X.mg X.base k shp) (N : ∀ C fs ds, shp C fs ds → LxE.NeFacts X.K C) (hr : Room m X.A) (hm : k + 9 ≤ m) : OpR X (compareOp .NotEq) (rNeO X.K shp) := by
  intro pins s σ H x y v u Q I rx ry hq
  obtain ⟨d, e, hd, he, od, oe, hn, hk, q⟩ := hq
  show wpAny (model X.prog X.w) X.A (richCompare .NotEq v u) (EP X pins σ Q) X.xe s
  refine wpAny_mono (LxE.rcn_own T N 8 d e x y v u X.A hn od oe hd he rx ry ⟨hr.mono (by omega), rfl⟩ I hk) (fun r s' z => ?_) fun _ _ x => x
  obtain ⟨hr', H', I', e'⟩ := z
  subst hr'
  exact ⟨.bl _, H', I', rfl, q H' e'⟩
end
end L2
namespace L2
open PySem PySem.Spec PyProof.Rows
def tyD : Dt → V
  | .non => .ty "NoneType" | .bl _ => .ty "bool" | .int _ => .ty "int" | .str _ => .ty "str" | .lst _ => .ty "list" | .tup _ => .ty "tuple" | .dic _ _ => .ty "dict" | .ins C _ _ => .ref C
def rTypeO (K : PySem.W.Frag) : List V → Hp → VK → Prop := fun xs H Q => ∃ x d, xs = [x] ∧ Is K H d x ∧ Q (tyD d) H
section
variable {X : Cx}
theorem call_typeO : CallR X (.type "type") (rTypeO X.K) := by
  intro pins s σ H xs us Q I r h
  obtain ⟨x, d, rfl, hd, q⟩ := h
  obtain ⟨u, rfl, rx⟩ := vals1 r
  by_cases h6 : LxE.kd d = 6
  · cases d <;> first | (exfalso; simp [LxE.kd] at h6; done) | skip
    rename_i C fs ds
    obtain ⟨a, dx, kvs, rfl, hs, _, _⟩ := hd
    cases (show u = _ from rx)
    obtain ⟨mA, O, _⟩ := ins_get I.hok hs
    obtain ⟨od, J, _⟩ := O.look
    exact PySem.W.kto_own J ⟨.ref C, H, I, rfl, q⟩
  · have fin : ∀ T, s.TypeIs u T → (Value.type T == Value.type "builtin_function_or_method") = false → tyD d = .ty T → wpAny (model X.prog X.w) X.A (call (.type "type") [u]) (EP X pins σ Q) X.xe s := fun T h1 h2 h3 => by
      rw [h3] at q
      exact call_type_of h1 h2 ⟨.ty T, H, I, rfl, q⟩
    cases d with
    | non => cases (show x = _ from hd); cases (show u = _ from rx); exact fin "NoneType" rfl (by decide +kernel) rfl
    | bl b => cases (show x = _ from hd); cases (show u = _ from rx); exact fin "bool" rfl (by decide +kernel) rfl
    | int i => cases (show x = _ from hd); obtain ⟨t, rfl⟩ := (show ∃ t, u = Value.int _ t from rx); exact fin "int" rfl (by decide +kernel) rfl
    | str i => cases (show x = _ from hd); obtain ⟨t, rfl⟩ := (show ∃ t, u = Value.str _ t from rx); exact fin "str" rfl (by decide +kernel) rfl
    | lst ds =>
      obtain ⟨a, xs, rfl, hs, _⟩ := hd
      cases (show u = _ from rx)
      obtain ⟨_, _, p, _⟩ := I.list hs
      exact fin "list" (LxE.ti_list p.isList) (by decide +kernel) rfl
    | tup ds =>
      obtain ⟨a, xs, rfl, hs, _⟩ := hd
      cases (show u = _ from rx)
      obtain ⟨_, _, p, _⟩ := I.tuple hs
      exact fin "tuple" (LxE.ti_tuple p) (by decide +kernel) rfl
    | dic ks ds =>
      obtain ⟨a, xs, rfl, hs, _⟩ := hd
      cases (show u = _ from rx)
      obtain ⟨_, _, va, _, o⟩ := (show ObjOk X.prog X.w H s.heap a (.dK xs) from I.hok a _ hs)
      exact fin "dict" o.typeIs (by decide +kernel) rfl
    | ins C fs ds => exact absurd rfl h6
/-- C is T: a class of the text, and any type -/
def rIsT (K : PySem.W.Frag) : R2 := fun x y H Q => ∃ C, x = V.ref C ∧ ((∃ T, y = V.ty T ∧ Q (.bl false) H) ∨ (∃ C', y = V.ref C' ∧ (C = C' ∨ (PySem.W.makesIn K C = true ∧ PySem.W.makesIn K C' = true)) ∧ Q (.bl (decide (C = C'))) H))
theorem op_is_ty : OpR X (compareOp .Is) (rIsT X.K) := by
  intro pins s σ H x y v u Q I rx ry h
  obtain ⟨C, rfl, ⟨T, rfl, q⟩ | ⟨C', rfl, hab, q⟩⟩ := h
  · cases (show v = _ from rx)
    cases (show u = _ from ry)
    show wpAny _ _ (do return Value.bool (← isSame (.ref C) (.type T))) _ _ _
    refine wpAny_bind (wpAny_of_eq (rfl : isSame (.ref C) (.type T) = pure false) ?_)
    exact wpAny_pure ⟨.bl false, H, I, rfl, q⟩
  · exact op_is_cls pins s σ H _ _ v u Q I rx ry ⟨C, C', rfl, rfl, hab, q⟩
end
def spX (C : Addr) (n : Nat) (fo : List V → List (Str × V)) : Sp := fun vs H Q _ => ∃ (H0 : Hp) (a : Addr) (ws : List V), vs = .ref a :: ws ∧ ws.length = n ∧ H0 a = none ∧ H = upd H0 a (exo a C none) ∧
  ∀ d, H0 d = none → d ≠ a → Q .non (upd (upd H0 d (exd d (fo ws))) a (exo a C (some d)))
theorem exo1 {H0 : Hp} {a d : Addr} {o o' e : HO} (hne : d ≠ a) : upd (upd (upd H0 a o) d e) a o' = upd (upd H0 d e) a o' := by
  funext b
  by_cases h1 : b = a
  · rw [h1, upd_same, upd_same]
  · rw [upd_ne h1, upd_ne h1]
    by_cases h2 : b = d
    · rw [h2, upd_same, upd_same]
    · rw [upd_ne h2, upd_ne h2, upd_ne h1]
theorem exo2 {H0 : Hp} {a d : Addr} {o' e e' : HO} (hne : d ≠ a) : upd (upd (upd H0 d e) a o') d e' = upd (upd H0 d e') a o' := by
  funext b
  by_cases h1 : b = d
  · rw [h1, upd_same, upd_ne hne, upd_same]
  · rw [upd_ne h1]
    by_cases h2 : b = a
    · rw [h2, upd_same, upd_same]
    · rw [upd_ne h2, upd_ne h2, upd_ne h1, upd_ne h1]
theorem exo3 {H0 : Hp} {a d : Addr} {o' e e' : HO} (ha : H0 a = none) (hne : d ≠ a) : upd (del (upd (upd H0 d e) a o') a) d e' = upd H0 d e' := by
  funext b
  by_cases h1 : b = d
  · rw [h1, upd_same, upd_same]
  · rw [upd_ne h1, upd_ne h1]
    by_cases h2 : b = a
    · rw [h2, del_same, ha]
    · rw [del_ne h2, upd_ne h2, upd_ne h1]
/-- what of the text an own exception class with an __init__ must have -/
structure XCls (K : PySem.W.Frag) (mg : Str → Option Value) (x : Str) (C fI : Addr) (fd : FuncData) (ps : List Str) : Prop where
  T : OexC K C
  m : mg x = some (.ref C)
  i : PySem.W.findIn K (.ref C) "__init__" = some (some (.ref fI))
  t : PySem.W.typeIn K (.ref fI) = some (.type "function")
  b : Binds K fd ps []
  isC : ExcC K C
  xf : XfC K C
/-- the reading of raise C(e, ..) behind its arguments -/
theorem rz_ok {C : Addr} {n : Nat} {fo : List V → List (Str × V)} {ws : List V} {H1 : Hp} {Q : XK} (hn : ws.length = n) (h10 : n ≤ 10) (k : ∀ d, H1 d = none → Q (.ref C) (some d) (upd H1 d (.xd (fo ws)))) :
    ws.length ≤ 1000 ∧ ∀ a, H1 a = none → spX C n fo (.ref a :: (ws ++ [])) (upd H1 a (exo a C none))
      (fun v H2 => v = .non ∧ ∃ (d : Addr) (fs : List (Str × V)), H2 a = some (exo a C (some d)) ∧ H2 d = some (exd d fs) ∧ H1 d = none ∧ Q (.ref C) (some d) (upd (del H2 a) d (.xd fs))) (fun _ _ _ => False) := by
  refine ⟨by omega, fun a ha => ⟨H1, a, ws, by rw [List.append_nil], hn, ha, rfl, fun d hd hne => ⟨rfl, d, fo ws, upd_same, ?_, hd, ?_⟩⟩⟩
  · rw [upd_ne hne, upd_same]
  · rw [exo3 ha hne]
    exact k d hd
section
variable {X : Cx} {x : Str} {C fI : Addr} {fd : FuncData} {ps : List Str} {k n : Nat} {fo : List V → List (Str × V)} {e : Expr} {es : List Expr} {ta : TA} {p pos pos2 : Pos} {W : WX}
/-- raise C(e, ..) -/
theorem ps_raiseX (T : XCls X.K X.mg x C fI fd ps) (F1 : FnOk X.prog X.w X.K X.mg X.base CX0 k fI fd ps (spX C n fo)) (hr : Room (k + 1) X.A) (hc : X.calm = true) (tk : Takes X W) (hg : Gl X x) (ha : PA X (e :: es) ta)
    (hdb : (x == ("__debug__" : Str)) = false := by decide) (he : starEach (e :: es) X.env = (false, eval e X.env) :: starEach es X.env := by rfl) (hpl : (backTo pos (starEach es X.env)).any (·.1) = false := by rfl) :
    PS X (.Raise (some (.Call (.Name x p) (e :: es) [] pos)) none pos2) (fun _ σ H => tMkO C (spX C n fo) [] ta σ H fun cls d H' => W cls d σ H') :=
  ps_raise hc tk (pmk_oex (k := k) (dvs := []) (ds := []) T.T T.i T.t F1 hr T.b .nil (fun _ _ _ _ _ _ _ h => h.elim) hg T.m ha hdb he hpl)
end
end L2
namespace L2
open PySem
theorem eqFacts_mk {K : PySem.W.Frag} {C : Addr} (a1 : PySem.W.notFirst K C (.type "NoneType") = true) (b1 : PySem.W.subIn K (.ref C) (.type "NoneType") = some false) (a2 : PySem.W.notFirst K C (.type "bool") = true) (b2 : PySem.W.subIn K (.ref C) (.type "bool") = some false)
    (a3 : PySem.W.notFirst K C (.type "int") = true) (b3 : PySem.W.subIn K (.ref C) (.type "int") = some false) (a4 : PySem.W.notFirst K C (.type "str") = true) (b4 : PySem.W.subIn K (.ref C) (.type "str") = some false)
    (a5 : PySem.W.notFirst K C (.type "list") = true) (b5 : PySem.W.subIn K (.ref C) (.type "list") = some false) (a6 : PySem.W.notFirst K C (.type "tuple") = true) (b6 : PySem.W.subIn K (.ref C) (.type "tuple") = some false)
    (a7 : PySem.W.notFirst K C (.type "dict") = true) (b7 : PySem.W.subIn K (.ref C) (.type "dict") = some false) : eqFacts K C = true := by
  unfold eqFacts tyNames
  simp only [List.all_cons, List.all_nil, a1, a2, a3, a4, a5, a6, a7, b1, b2, b3, b4, b5, b6, b7]
  rfl
end L2
namespace L2
open PySem
theorem kit_self {K : PySem.W.Frag} {C : Addr} : PySem.W.kitOne K (.ref C) (.ref C) = some true := by
  unfold PySem.W.kitOne
  rw [if_pos (by simp)]
end L2
namespace L2
open PySem PySem.Spec PyProof.Rows
def WellAt (H : Hp) (w : Addr) : Prop := ∃ a b c : Int, H w = some (.lst [.int a, .int b, .int c])
/-- all but w is as it was -/
abbrev DE (w : Addr) (H H' : Hp) : Prop := Ext (del H w) (del H' w)
theorem del_ext {H : Hp} {w : Addr} : Ext (del H w) H := fun a o e => by
  by_cases h : a = w
  · rw [h, del_same] at e
    cases e
  · rw [del_ne h] at e
    exact e
theorem DE.of {w : Addr} {H H' : Hp} (e : Ext H H') : DE w H H' := fun a o h => by
  by_cases h1 : a = w
  · rw [h1, del_same] at h
    cases h
  · rw [del_ne h1] at h ⊢
    exact e a o h
theorem DE.rfl' {w : Addr} {H : Hp} : DE w H H := Ext.rfl'
theorem DE.upd {w : Addr} {H : Hp} {o : HO} : DE w H (upd H w o) := fun a o' h => by
  by_cases h1 : a = w
  · rw [h1, del_same] at h
    cases h
  · rw [del_ne h1] at h ⊢
    rw [upd_ne h1]
    exact h
theorem DE.to {w : Addr} {H H' : Hp} (e : DE w H H') {b : Addr} {o : HO} (h : H b = some o) (hb : b ≠ w) : H' b = some o := by
  have z := e b o (by rw [del_ne hb]; exact h)
  rw [del_ne hb] at z
  exact z
theorem WellAt.ext {H H' : Hp} {w : Addr} (h : WellAt H w) (e : Ext H H') : WellAt H' w := by
  obtain ⟨a, b, c, h⟩ := h
  exact ⟨a, b, c, e _ _ h⟩
theorem WellAt.at (a b c : Int) {H : Hp} {w : Addr} : WellAt (upd H w (.lst [.int a, .int b, .int c])) w := ⟨a, b, c, upd_same⟩
theorem WellAt.ne {H : Hp} {w p : Addr} (h : WellAt H w) (hp : H p = none) : p ≠ w := fun e => by
  obtain ⟨a, b, c, h⟩ := h
  rw [e, h] at hp
  cases hp
theorem DE.fresh {w : Addr} {H H' : Hp} (e : DE w H H') {p : Addr} (hw : WellAt H' w) (hp : H' p = none) : del H w p = none := by
  cases h : del H w p with
  | none => rfl
  | some o =>
    have z := e p o h
    rw [del_ne (hw.ne hp), hp] at z
    cases z
theorem DE.mut {w D : Addr} {H H' : Hp} {o : HO} (e : DE w H H') (h : del H w D = none) : DE w H (L2.upd H' D o) := fun a o' ha => by
  by_cases h1 : a = D
  · rw [h1, h] at ha
    cases ha
  · have z := e a o' ha
    by_cases h2 : a = w
    · rw [h2, del_same] at z
      cases z
    · rw [del_ne h2] at z ⊢
      rw [upd_ne h1]
      exact z
theorem Ext.mut {D : Addr} {H H' : Hp} {o : HO} (e : Ext H H') (h : H D = none) : Ext H (L2.upd H' D o) := fun a o' ha => by
  by_cases h1 : a = D
  · rw [h1, h] at ha
    cases ha
  · rw [upd_ne h1]
    exact e a o' ha
theorem Ext.fresh {H H' : Hp} (e : Ext H H') {p : Addr} (h : H' p = none) : H p = none := by
  cases q : H p with
  | none => rfl
  | some o =>
    rw [e p o q] at h
    cases h
theorem WellAt.upd {H : Hp} {w D : Addr} {o : HO} (h : WellAt H w) (hD : D ≠ w) : WellAt (L2.upd H D o) w := by
  obtain ⟨a, b, c, h⟩ := h
  exact ⟨a, b, c, by rw [upd_ne hD.symm]; exact h⟩
theorem SqL.de {K : PySem.W.Frag} {H : Hp} {w a : Addr} {xs : List V} (h : SqL K (del H w) a xs) : SqL K H a xs := h.ext del_ext
/-- a list of ints as drawn data -/
theorem is_lst {K : PySem.W.Frag} {H : Hp} {a : Addr} {xs : List V} {ds : List Dt} (h : H a = some (.lst xs)) (l : IsL K H ds xs) : Is K H (.lst ds) (.ref a) := ⟨a, xs, rfl, SqL.of h, l⟩
theorem at3a {x y z : V} : atI [x, y, z] 0 = some x := atI_nat (xs := [x, y, z]) (j := 0) rfl
theorem at3b {x y z : V} : atI [x, y, z] 1 = some y := atI_nat (xs := [x, y, z]) (j := 1) rfl
theorem at3c {x y z : V} : atI [x, y, z] 2 = some z := atI_nat (xs := [x, y, z]) (j := 2) rfl
theorem cpow18 : CPow 10 18 := ⟨by decide, by decide, by decide⟩
/-- atI at a drawn place -/
theorem atI_of {xs : List V} {i : Int} (h0 : 0 ≤ i) (h1 : i < (xs.length : Int)) : ∃ x, xs[i.toNat]? = some x ∧ atI xs i = some x := by
  have h2 : i.toNat < xs.length := by omega
  obtain ⟨n, rfl⟩ : ∃ n : Nat, i = (n : Int) := ⟨i.toNat, by omega⟩
  exact ⟨_, List.getElem?_eq_getElem h2, atI_nat (List.getElem?_eq_getElem h2)⟩
theorem fmod_bounds {a m : Int} (h : 0 < m) : 0 ≤ a.fmod m ∧ a.fmod m < m := by
  rw [Int.fmod_eq_emod_of_nonneg a (Int.le_of_lt h)]
  exact ⟨Int.emod_nonneg _ (by omega), Int.emod_lt_of_pos _ h⟩
end L2
namespace L2
theorem tyes {σ : St} {H : Hp} {A B : Hp → Prop} (h : A H) : tYes σ H (fun b H3 => if b = true then A H3 else B H3) := by
  show (if true = true then A H else B H)
  rw [if_pos rfl]
  exact h
end L2
namespace L2
open PySem PySem.Spec PyProof.Rows
def SqQ (K : PySem.W.Frag) (H : Hp) (a : Addr) (xs : List V) : Prop := SqL K H a xs ∨ SqT K H a xs
theorem SqQ.ext {K : PySem.W.Frag} {H H' : Hp} {a : Addr} {xs : List V} (h : SqQ K H a xs) (e : Ext H H') : SqQ K H' a xs := h.elim (fun h => .inl (h.ext e)) fun h => .inr (h.ext e)
def iSeq (K : PySem.W.Frag) (tl : TE) : TI := fun σ H R => tl σ H fun x H1 => ∃ a, x = .ref a ∧ (((∃ xs, SqL K H1 a xs) ∧ R (Itl K a) H1) ∨ ((∃ xs, SqT K H1 a xs) ∧ R (Itt K a) H1))
theorem pi_seq {X : Cx} {tg : Expr} {l : Expr} {tl : TE} (hl : PE X l tl) : PI X tg l (iSeq X.K tl) := by
  refine ⟨fun pins s σ H R I h => ?_⟩
  refine thn (hl.run pins s σ H _ I h) fun v s1 ⟨x, H1, I1, r1, q1⟩ => ?_
  obtain ⟨a, e, ⟨⟨xs, hq⟩, q⟩ | ⟨⟨xs, hq⟩, q⟩⟩ := q1
  · subst e
    cases r1
    obtain ⟨its, rv, p, hz⟩ := I1.list hq
    refine wpAny_pyIter_list p.isList ?_
    refine ⟨s1.heap.objs.size, [s1.heap.objs.size], _, _, H1, rfl, I1.kept (t' := s1.toks) fun b o e => Heap.get?_push_of_some _ e, turn_list a _, ⟨_, Heap.get?_push_size _ rfl, rfl, rfl⟩, fun b hb => ?_, q⟩
    have e : b = s1.heap.objs.size := by simpa using hb
    subst e
    exact I1.fpOk (Nat.le_refl _) (I1.hok.fresh (Nat.le_refl _))
  · subst e
    cases r1
    obtain ⟨its, rv, p, hz⟩ := I1.tuple hq
    refine wpAny_pyIter_tuple (show s1.heap.IsTuple a its.toArray from p) ?_
    refine ⟨s1.heap.objs.size, [s1.heap.objs.size], _, _, H1, rfl, I1.kept (t' := s1.toks) fun b o e => Heap.get?_push_of_some _ e, turn_tuple a _, ⟨_, Heap.get?_push_size _ rfl, rfl, rfl⟩, fun b hb => ?_, q⟩
    have e : b = s1.heap.objs.size := by simpa using hb
    subst e
    exact I1.fpOk (Nat.le_refl _) (I1.hok.fresh (Nat.le_refl _))
/-- the reading of for x in a, behind a: what stood at H0 stands -/
theorem for_seq {K : PySem.W.Frag} {a : Addr} {xs : List V} {g : TG} {tb : TS} {D : Ends} {σ : St} {H0 H : Hp} (hq : SqQ K H0 a xs) (Pv : Nat → St → Hp → Prop) (h0 : Pv 0 σ H) (he : ∀ i σ H, i ≤ xs.length → Pv i σ H → Ext H0 H)
    (hs : ∀ i x σ H, xs[i]? = some x → Pv i σ H → g x σ H fun σ2 H2 => tb { D with nx := Pv (i + 1), ct := Pv (i + 1), bk := D.nx } σ2 H2) (hd : ∀ σ H, Pv xs.length σ H → D.nx σ H) :
    ((∃ ys, SqL K H a ys) ∧ ∃ W : Nat → Nat → St → Hp → Prop, (∃ m, W 0 m σ H) ∧ ∀ i m σ H, W i m σ H →
      ((Itl K a).stop i H ∧ D.nx σ H) ∨ ((Itl K a).go i H ∧ ∃ N : St → Hp → Prop, (∀ σ' H', N σ' H' → ∃ m', m' < m ∧ W (i + 1) m' σ' H') ∧ ∀ x H', (Itl K a).yld i H x H' → g x σ H' fun σ2 H2 => tb { D with nx := N, ct := N, bk := D.nx } σ2 H2)) ∨
    ((∃ ys, SqT K H a ys) ∧ ∃ W : Nat → Nat → St → Hp → Prop, (∃ m, W 0 m σ H) ∧ ∀ i m σ H, W i m σ H →
      ((Itt K a).stop i H ∧ D.nx σ H) ∨ ((Itt K a).go i H ∧ ∃ N : St → Hp → Prop, (∀ σ' H', N σ' H' → ∃ m', m' < m ∧ W (i + 1) m' σ' H') ∧ ∀ x H', (Itt K a).yld i H x H' → g x σ H' fun σ2 H2 => tb { D with nx := N, ct := N, bk := D.nx } σ2 H2)) := by
  have e0 := he 0 σ H (Nat.zero_le _) h0
  rcases hq with hq | hq
  · exact .inl ⟨⟨xs, hq.ext e0⟩, for_list Pv h0 (fun i σ H hi p => hq.ext (he i σ H hi p)) hs hd⟩
  · exact .inr ⟨⟨xs, hq.ext e0⟩, for_tup Pv h0 (fun i σ H hi p => hq.ext (he i σ H hi p)) hs hd⟩
theorem lc_seq {K : PySem.W.Frag} {a : Addr} {xs : List V} {g : TG} {tt : TT} {te : TE} {vs : List Nat} {σ : St} {H0 H1 : Hp} {Q : Addr → Hp → Prop} (hq : SqQ K H0 a xs) (e1 : Ext H0 H1)
    (Pv : Addr → Nat → Hp → Prop) (h0 : ∀ D, H1 D = none → Pv D 0 (upd H1 D (.lst []))) (he : ∀ D i H, i ≤ xs.length → Pv D i H → Ext H0 H)
    (hs : ∀ D i x H, H1 D = none → xs[i]? = some x → Pv D i H → g x (wipe σ vs) H fun σ2 H2 => wipe σ2 vs = wipe σ vs ∧ tt σ2 H2 fun b H3 =>
      if b = true then te σ2 H3 fun y H4 => ∃ acc, H4 D = some (.lst acc) ∧ acc.length < sizeLine ∧ Pv D (i + 1) (upd H4 D (.lst (acc ++ [y]))) else Pv D (i + 1) H3) (hd : ∀ D H, H1 D = none → Pv D xs.length H → Q D H) :
    ((∃ ys, SqL K H1 a ys) ∧ ∀ D, H1 D = none → ∃ W : Nat → Nat → Hp → Prop, (∃ m, W 0 m (upd H1 D (.lst []))) ∧ ∀ i m H, W i m H →
      ((Itl K a).stop i H ∧ Q D H) ∨ ((Itl K a).go i H ∧ ∃ Nx : Hp → Prop, (∀ H', Nx H' → ∃ m', m' < m ∧ W (i + 1) m' H') ∧ ∀ x H', (Itl K a).yld i H x H' → g x (wipe σ vs) H' fun σ2 H2 => wipe σ2 vs = wipe σ vs ∧ tt σ2 H2 fun b H3 =>
        if b = true then te σ2 H3 fun y H4 => ∃ acc, H4 D = some (.lst acc) ∧ acc.length < sizeLine ∧ Nx (upd H4 D (.lst (acc ++ [y]))) else Nx H3)) ∨
    ((∃ ys, SqT K H1 a ys) ∧ ∀ D, H1 D = none → ∃ W : Nat → Nat → Hp → Prop, (∃ m, W 0 m (upd H1 D (.lst []))) ∧ ∀ i m H, W i m H →
      ((Itt K a).stop i H ∧ Q D H) ∨ ((Itt K a).go i H ∧ ∃ Nx : Hp → Prop, (∀ H', Nx H' → ∃ m', m' < m ∧ W (i + 1) m' H') ∧ ∀ x H', (Itt K a).yld i H x H' → g x (wipe σ vs) H' fun σ2 H2 => wipe σ2 vs = wipe σ vs ∧ tt σ2 H2 fun b H3 =>
        if b = true then te σ2 H3 fun y H4 => ∃ acc, H4 D = some (.lst acc) ∧ acc.length < sizeLine ∧ Nx (upd H4 D (.lst (acc ++ [y]))) else Nx H3)) := by
  rcases hq with hq | hq
  · exact .inl ⟨⟨xs, hq.ext e1⟩, fun D hD => lc_list (xs := xs) (Pv D) (h0 D hD) (fun i H hi p => hq.ext (he D i H hi p)) (fun i x H => hs D i x H hD) (fun H => hd D H hD)⟩
  · exact .inr ⟨⟨xs, hq.ext e1⟩, fun D hD => lc_tup (xs := xs) (Pv D) (h0 D hD) (fun i H hi p => hq.ext (he D i H hi p)) (fun i x H => hs D i x H hD) (fun H => hd D H hD)⟩
end L2
namespace L2
open PySem
/-- no own objects -/
theorem pureTab {P : Program} {w : World} {K : PySem.W.Frag} {mg : Str → Option Value} {base : Heap} : EqTab P w K mg base 0 (fun _ _ _ => False) := ⟨fun _ _ _ h => h.elim, fun _ _ _ _ _ _ h => h.elim⟩
theorem pureNe {K : PySem.W.Frag} : ∀ (C : Addr) (fs : List Str) (ds : List Dt), (fun (_ : Addr) (_ : List Str) (_ : List Dt) => False) C fs ds → LxE.NeFacts K C := fun _ _ _ h => h.elim
theorem pureL_ints : ∀ ns : List Int, pureL (ns.map Dt.int) = true
  | [] => rfl
  | _ :: r => by
    show (true && pureL (r.map Dt.int)) = true
    rw [pureL_ints r] <;> rfl
theorem depL_ints : ∀ ns : List Int, depL (ns.map Dt.int) = 0
  | [] => rfl
  | _ :: r => by
    show max 0 (depL (r.map Dt.int)) = 0
    rw [depL_ints r] <;> rfl
end L2
namespace L2
open PySem PySem.Spec PyProof.Rows
end L2
namespace LxC
open PySem PySem.Spec PyProof.Rows PyProof.V PySem.Calls L2 PySem.AutoSeq1
open Sem (wp)
theorem list_add_any (l : Addr) (items : Array Value) (n : Nat) (dd : Option Addr) (sl : Array (Option Value)) (b : Addr) (items2 : Array Value) (n2 : Nat) (dd2 : Option Addr) (sl2 : Array (Option Value)) (hc0 : items.size + items2.size ≤ sizeLine) :
    Meets (Builtin.«list.__add__» ⟨[.ref l, .ref b], []⟩) (fun _ R s => s.heap.get? l = some { cls := .type "list", dict := dd, data := .seq items n, slots := sl } ∧ s.heap.get? b = some { cls := .type "list", dict := dd2, data := .seq items2 n2, slots := sl2 } ∧ R (.ok (.ret (Value.ref s.heap.objs.size))) { s with heap := s.heap.push { cls := Value.type "list", data := Data.seq (items ++ items2) }, toks := s.toks }) :=
  .of_wp fun prog w A R s h => by obtain ⟨hp, g, d, tk, os⟩ := s; obtain ⟨hl, hb, h⟩ := h; have f1 := AutoSeq1.idx_int; have f2 := AutoSeq1.sub_tuple_tuple; have f3 := AutoSeq1.sub_list_list; have f4 := AutoSeq1.sub_tuple_list; have f5 := AutoSeq1.sub_list_tuple; wp_walk using wpAny_loadPart' hl, wpAny_loadPart' hb; exact ⟨_, rfl, h⟩
end LxC
namespace L2
open PySem PySem.Spec PyProof.Rows
/-- list + list, looked at -/
def rCatL (K : PySem.W.Frag) : R2 := fun x y H Q => ∃ l b xs zs, x = .ref l ∧ y = .ref b ∧ SqL K H l xs ∧ SqL K H b zs ∧ xs.length + zs.length ≤ sizeLine ∧ ∀ p, H p = none → Q (.ref p) (upd H p (.lst (xs ++ zs)))
theorem op_catL {X : Cx} : OpR X (binaryOp .Add) (rCatL X.K) := by
  intro pins s σ H x y v u Q I rx ry h
  obtain ⟨l, b, xs, zs, rfl, rfl, hH, hB, hz, q⟩ := h
  cases rx
  cases ry
  obtain ⟨its, r, p, z⟩ := I.list hH
  obtain ⟨its2, r2, p2, z2⟩ := I.list hB
  obtain ⟨n, dd, sl, e⟩ := LxE.isList_obj p.isList
  obtain ⟨n2, dd2, sl2, e2⟩ := LxE.isList_obj p2.isList
  have hl := r.length
  have hl2 := r2.length
  refine concat_meets ⟨_, e, rfl⟩ ⟨_, e2, rfl⟩ noFill_list_add seq_list_add PySem.F.slot_list_add PySem.F.entry_list_add (PySem.F.args_list_add_2 _ _) (LxC.list_add_any l its.toArray n dd sl b its2.toArray n2 dd2 sl2 (by rw [List.size_toArray, List.size_toArray]; omega)) ⟨e, e2, ?_⟩
  have ea : its.toArray ++ its2.toArray = (its ++ its2).toArray := by simp
  rw [ea]
  exact ⟨.ref _, _, I.lnew (t' := s.toks) (r.append r2) (by rw [List.length_append]; omega), rfl, q _ I.fresh⟩
end L2
namespace L2
open PySem PySem.Spec PyProof.Rows
theorem DE.base {p : Addr} {H H1 H2 : Hp} (e : Ext H H1) (h : H p = none) (d : DE p H1 H2) : Ext H H2 := fun a o ha => by
  have hne : a ≠ p := fun z => by rw [z, h] at ha; cases ha
  exact d.to (e a o ha) hne
/-- a comprehension over a list of ints: each item its own int -/
theorem lc_ints {K : PySem.W.Frag} {a : Addr} {ns : List Int} {g : TG} {te : TE} {vs : List Nat} {σ : St} {H1 : Hp} {Q : Addr → Hp → Prop} (f : Int → Int) (hq : SqL K H1 a (ns.map V.int)) (hz : ns.length < 2000)
    (hs : ∀ n ∈ ns, ∀ (H : Hp) (R : V → Hp → Prop), R (.int (f n)) H → g (.int n) (wipe σ vs) H fun σ2 H2 => wipe σ2 vs = wipe σ vs ∧ te σ2 H2 R)
    (hd : ∀ D H', H1 D = none → Ext H1 H' → H' D = some (.lst ((ns.map f).map V.int)) → Q D H') :
    (∃ ys, SqL K H1 a ys) ∧ ∀ D, H1 D = none → ∃ W : Nat → Nat → Hp → Prop, (∃ m, W 0 m (upd H1 D (.lst []))) ∧ ∀ i m H, W i m H →
      ((Itl K a).stop i H ∧ Q D H) ∨ ((Itl K a).go i H ∧ ∃ Nx : Hp → Prop, (∀ H', Nx H' → ∃ m', m' < m ∧ W (i + 1) m' H') ∧ ∀ x H', (Itl K a).yld i H x H' → g x (wipe σ vs) H' fun σ2 H2 => wipe σ2 vs = wipe σ vs ∧ tYes σ2 H2 fun b H3 =>
        if b = true then te σ2 H3 fun y H4 => ∃ acc, H4 D = some (.lst acc) ∧ acc.length < sizeLine ∧ Nx (upd H4 D (.lst (acc ++ [y]))) else Nx H3) := by
  refine ⟨⟨_, hq⟩, fun D hD => lc_list (xs := ns.map V.int) (fun i H' => Ext H1 H' ∧ H' D = some (.lst (((ns.take i).map f).map V.int))) ⟨Ext.upd hD, upd_same⟩ (fun i H' _ p => hq.ext p.1) ?_ ?_⟩
  · rintro i y H' hi ⟨e1, hD1⟩
    obtain ⟨n, hn, rfl⟩ : ∃ n, ns[i]? = some n ∧ y = V.int n := by
      rw [List.getElem?_map] at hi
      cases e : ns[i]? with
      | none => rw [e] at hi; cases hi
      | some n => rw [e] at hi; exact ⟨n, rfl, (Option.some.inj hi).symm⟩
    have hin : i < ns.length := (List.getElem?_eq_some_iff.mp hn).1
    refine hs n (List.mem_of_getElem? hn) H' _ ⟨_, hD1, ?_, e1.mut hD, ?_⟩
    · rw [List.length_map, List.length_map, List.length_take]
      exact Nat.lt_of_lt_of_le (show min i ns.length < 2000 by omega) (by decide)
    · rw [upd_same, List.take_add_one, hn, List.map_append, List.map_append]
      rfl
  · rintro H' ⟨e1, hD1⟩
    rw [List.length_map, List.take_length] at hD1
    exact hd D H' hD e1 hD1
theorem SqT.mut {K : PySem.W.Frag} {H : Hp} {t h : Addr} {xs l : List V} {o : HO} (s : SqT K H t xs) (hh : H h = some (.lst l)) : SqT K (upd H h o) t xs := by
  rcases s with (r | ⟨o', r⟩) | r
  · have hne : t ≠ h := fun e => by rw [e, hh] at r; cases r
    exact .inl (.inl (by rw [upd_ne hne]; exact r))
  · have hne : t ≠ h := fun e => by rw [e, hh] at r; cases r
    exact .inl (.inr ⟨o', by rw [upd_ne hne]; exact r⟩)
  · exact .inr r
end L2
namespace L2
open PySem PySem.Spec PyProof.Rows
end L2
namespace LxN
open PySem PySem.Spec PyProof.Rows
open Sem (wp)
theorem meets_enumT (l : Addr) (items : Array Value) (n : Nat) (dct : Option Addr) (sl : Array (Option Value)) :
    Meets (Builtin.«enumerate.__new__» ⟨[.type "enumerate", .ref l], []⟩) (fun _ R s => s.heap.get? l = some { cls := .type "tuple", dict := dct, data := .seq items n, slots := sl } ∧
      R (.ok (.ret (.ref (s.heap.push { cls := .type "tuple_iterator", data := .fields #[.ref l, .int 0 0] }).objs.size)))
        { s with heap := (s.heap.push { cls := .type "tuple_iterator", data := .fields #[.ref l, .int 0 0] }).push { cls := .type "enumerate", data := .fields #[.none, .bool false, .ref s.heap.objs.size, rawInt 0, .none, .none] } }) :=
  .of_wp fun prog w A R s h => by
    obtain ⟨hp, g, d, tk, os⟩ := s; obtain ⟨hl, h⟩ := h
    have hsub := PySem.sub_enumerate
    have hL : Heap.IsTuple (Shared.heap ⟨hp, g, d, tk, os⟩) l items := ⟨_, hl, rfl, n, rfl⟩
    wp_walk using AutoSeq1.wpAny_loadPart' hl
    refine wpAny_stack_any fun st => wpAny_pure ?_
    split
    · rename_i c _ _ _ _ _
      cases (c == Value.type "enumerate")
      · wp_walk using AutoSeq1.wpAny_loadPart' hl, wpAny_pyIter_tuple hL
        exact ⟨_, rfl, h⟩
      · wp_walk using AutoSeq1.wpAny_loadPart' hl, wpAny_pyIter_tuple hL
        exact ⟨_, rfl, h⟩
    · wp_walk using AutoSeq1.wpAny_loadPart' hl, wpAny_pyIter_tuple hL
      exact ⟨_, rfl, h⟩
section
variable {prog : Program} {w : World} {A : Around} {E : Value → Shared → Prop} {s : Shared}
theorem call_enumT {l : Addr} {items : Array Value} {Q : Value → Shared → Prop} (hL : s.heap.IsTuple l items)
    (h : ∀ h', IsEnum h' (s.heap.objs.size + 1) s.heap.objs.size 0 .none → h'.IsTupleIter s.heap.objs.size l 0 → h'.objs.size = s.heap.objs.size + 2 →
      (∀ b o, s.heap.get? b = some o → h'.get? b = some o) → Q (.ref (s.heap.objs.size + 1)) { s with heap := h' }) :
    wpAny (model prog w) A (call (.type "enumerate") [.ref l]) Q E s := by
  obtain ⟨⟨c, dct, dt, sl⟩, hl, hc, n, hd⟩ := hL
  cases (show c = .type "tuple" from hc)
  cases (show dt = .seq items n from hd)
  refine callType_new F.called_enumerate (by decide) (F.typeCall_enumerate_1 _) (F.newCall_enumerate_1 _) (fun obj => F.args_object_init_2 obj _) F.entry_enumerate_new (meets_enumT l items n dct sl) ⟨hl, ?_⟩
  have hz : (s.heap.push { cls := .type "tuple_iterator", data := .fields #[.ref l, .int 0 0] }).objs.size = s.heap.objs.size + 1 := Heap.size_push ..
  show _ ∧ _
  rw [hz]
  have he : IsEnum ((s.heap.push { cls := .type "tuple_iterator", data := .fields #[.ref l, .int 0 0] }).push
      { cls := .type "enumerate", data := .fields #[.none, .bool false, .ref s.heap.objs.size, rawInt 0, .none, .none] }) (s.heap.objs.size + 1) s.heap.objs.size 0 .none := by
    have z := Heap.get?_push_size (s.heap.push { cls := .type "tuple_iterator", data := .fields #[.ref l, .int 0 0] })
      (o := { cls := .type "enumerate", data := .fields #[.none, .bool false, .ref s.heap.objs.size, rawInt 0, .none, .none] }) rfl
    rw [hz] at z
    exact z
  refine ⟨⟨_, he, rfl⟩, h _ he ⟨_, Heap.get?_push_of_some _ (Heap.get?_push_size _ rfl), rfl, rfl⟩ (by rw [Heap.size_push, hz]) fun b o x => Heap.get?_push_of_some _ (Heap.get?_push_of_some _ x)⟩
end
end LxN
namespace L2
open PySem PySem.Spec PyProof.Rows
/-- the tuple at a as it stands at each turn, its items in new pairs -/
def IteT (K : PySem.W.Frag) (a : Addr) : It :=
  ⟨fun i H => ∃ (xs : List V) (x : V), SqT K H a xs ∧ xs[i]? = some x, fun i H v H' => ∃ T x, v = .ref T ∧ H T = none ∧ H' = upd H T (.tup [.int (i : Nat), x]) ∧ ∀ xs, SqT K H a xs → xs[i]? = some x, fun i H => ∃ xs : List V, SqT K H a xs ∧ xs.length = i⟩
theorem turn_enumT {P : Program} {w : World} {K : PySem.W.Frag} {elts : List Expr} {kk : Nat} {tpos : Pos} (a e it : Addr) :
    Turn P w K (.Tuple elts kk tpos) (IteT K a) [e, it] e (fun i h => (∃ old, IsEnum h e it ((i : Nat) : Int) old) ∧ h.IsTupleIter it a i ∧ e ≠ it ∧ e ≠ a ∧ a ≠ it) where
  mem := by simp
  obj := fun i h st b hb => by
    obtain ⟨⟨old, he⟩, ⟨o, ho, hc, hd⟩, _⟩ := st
    have e' : b = e ∨ b = it := by simpa using hb
    rcases e' with z | z
    · rw [z]; exact ⟨_, he, fun v q => nomatch q⟩
    · rw [z]; exact ⟨o, ho, fun v q => by rw [hd] at q; cases q⟩
  keep := fun i h h' st k => let ⟨⟨old, he⟩, hi, hne⟩ := st; ⟨⟨old, k e (by simp) _ he⟩, hi.at fun o q => k it (by simp) o q, hne⟩
  item := by
    intro X hP hw hK hc i pins s σ H E I hf st hg
    subst hP hw hK
    obtain ⟨⟨old, he⟩, hit, hne, hea, hai⟩ := st
    obtain ⟨xs, x, hq, hx⟩ := hg
    obtain ⟨its, rv, p, hz⟩ := I.tuple hq
    obtain ⟨u, hu, ru⟩ := rv.get hx
    have hel : e < s.heap.objs.size := Heap.lt_size he
    have hil : it < s.heap.objs.size := by obtain ⟨_, q, _⟩ := hit; exact Heap.lt_size q
    have hlt : i < its.toArray.size := by
      rw [List.size_toArray]
      exact (List.getElem?_eq_some_iff.mp hu).1
    refine wpAny_pyNext_enum_itemD (Draws.tuple (A := X.A.in1) (show X.A.in1.handled = none from I.ok.hd hc) it a hai its.toArray) he ⟨hit, p⟩ hlt hne (by simp [hne, hea]) fun y h' tk hy ho st' hT hsz hk => ?_
    have hyu : y = u := by
      have z : its[i]? = some y := by simpa using hy
      rw [hu] at z
      exact (Option.some.inj z).symm
    subst hyu
    refine ⟨_, rfl, wpAny_letOwnedTupleGo_enum (s := { s with heap := h', toks := tk + 1 }) ho fun h'' he' sb => ?_⟩
    have hT2 : h''.get? s.heap.objs.size = some { cls := .type "tuple", data := .seq #[.int i tk, y] } := (sb.2 _ (Nat.ne_of_gt hel)).trans hT
    have new : ObjOk X.prog X.w (upd H s.heap.objs.size (.tup [.int (i : Nat), x])) h'' s.heap.objs.size (.tup [.int (i : Nat), x]) :=
      ⟨by show 2 ≤ sizeLine; decide, [.int i tk, y], .cons ⟨_, rfl⟩ (.cons ru .nil), ⟨_, hT2, rfl, _, rfl⟩⟩
    have I1 : Inv X pins σ (upd H s.heap.objs.size (.tup [.int (i : Nat), x])) { s with heap := h'', toks := tk + 1 } :=
      I.turnedNew (ch := [e, it]) (fun b ob hb q => (sb.2 b (fun z => hb (by simp [z]))).trans (hk b ob (fun z => hb (by simp [z])) (fun z => hb (by simp [z])) q)) hf (Nat.le_refl _) new
    refine ⟨.ref s.heap.objs.size, _, I1, rfl, ⟨_, x, rfl, I.hok.fresh (Nat.le_refl _), rfl, fun ys hy => by rw [I.tuple_inj hy hq]; exact hx⟩, ⟨⟨y, ?_⟩, st'.1.at fun o q => (sb.2 it (Ne.symm hne)).trans q, hne, hea, hai⟩, fun b hb => ?_⟩
    · have e1 : ((i + 1 : Nat) : Int) = (i : Int) + 1 := by omega
      rw [e1]
      exact he'
    · have hb' : b < s.heap.objs.size := by
        have e' : b = e ∨ b = it := by simpa using hb
        rcases e' with z | z
        · rw [z]; exact hel
        · rw [z]; exact hil
      rw [upd_ne (Nat.ne_of_lt hb')]
      exact (hf b hb).1
  done := by
    intro X hP hw hK hc i pins s σ H E I hf st hg
    subst hP hw hK
    obtain ⟨⟨old, he⟩, hit, hne, hea, hai⟩ := st
    obtain ⟨xs, hq, hx⟩ := hg
    obtain ⟨its, rv, p, hz⟩ := I.tuple hq
    obtain ⟨f0, f1, f2, f3, f4, f5⟩ := hf it (by simp)
    have hl := rv.length
    have hi : its.toArray.size = i := by rw [List.size_toArray, ← hl, hx]
    refine wpAny_pyNext_enum_endD (Draws.tuple (A := X.A.in1) (show X.A.in1.handled = none from I.ok.hd hc) it a hai its.toArray) he ⟨by rw [hi]; exact hit, p⟩ fun h' eb => ⟨rfl, I.turned (t' := s.toks) (fun b o hb q => eb b o hb q) f0 f1 f3 f4 f5⟩
  self := fun A i s Q E st h => let ⟨⟨_, he⟩, _⟩ := st; wpAny_pyIter_enum he h
def iEnumQ (K : PySem.W.Frag) (ta : TA) : TI := fun σ H R => ta σ H fun vs H1 => ∃ a, vs = [.ref a] ∧ (((∃ xs, SqL K H1 a xs) ∧ R (Ite K a) H1) ∨ ((∃ xs, SqT K H1 a xs) ∧ R (IteT K a) H1))
theorem pi_enumQ {X : Cx} {e : Expr} {ta : TA} {p pos tpos : Pos} {elts : List Expr} {kk : Nat} (hg : Gl X "enumerate") (hm : X.mg "enumerate" = none) (ha : PA X [e] ta) (hs : starEach [e] X.env = [(false, eval e X.env)] := by rfl) :
    PI X (.Tuple elts kk tpos) (.Call (.Name "enumerate" p) [e] [] pos) (iEnumQ X.K ta) := by
  refine ⟨fun pins s σ H R I h => ?_⟩
  refine Call_ (ld_blt I hg hm boot_enumerate (PyProof.Rows.callWith_type1 (thn (ha.run pos pins s σ H _ I h) fun us s1 ⟨vs, H1, I1, r1, q1⟩ => ?_) hs rfl))
  obtain ⟨a, ex, q⟩ := q1
  subst ex
  cases r1 with
  | cons r rr =>
    cases rr
    cases r
    have hle : ∀ b ∈ [s1.heap.objs.size + 1, s1.heap.objs.size], s1.heap.objs.size ≤ b := fun b hb => by
      have e' : b = s1.heap.objs.size + 1 ∨ b = s1.heap.objs.size := by simpa using hb
      rcases e' with z | z
      · rw [z]; exact Nat.le_add_right _ _
      · rw [z]; exact Nat.le_refl _
    rcases q with ⟨⟨xs, hq⟩, q⟩ | ⟨⟨xs, hq⟩, q⟩
    · obtain ⟨its, rv, p', hz⟩ := I1.list hq
      refine call_enumerate_list p'.isList fun h' he hit hsz hk => wpAny_pyIter_enum he ?_
      have I2 : Inv X pins σ H1 { s1 with heap := h' } := I1.kept (t' := s1.toks) hk
      exact ⟨s1.heap.objs.size + 1, [s1.heap.objs.size + 1, s1.heap.objs.size], _, _, H1, rfl, I2, turn_enum a (s1.heap.objs.size + 1) s1.heap.objs.size, ⟨⟨.none, he⟩, hit, Nat.succ_ne_self _⟩, fun b hb => I1.fpOk (hle b hb) (I1.hok.fresh (hle b hb)), q⟩
    · obtain ⟨its, rv, p', hz⟩ := I1.tuple hq
      have hal : a < s1.heap.objs.size := by obtain ⟨_, z, _⟩ := id p'; exact Heap.lt_size z
      refine LxN.call_enumT (show s1.heap.IsTuple a its.toArray from p') fun h' he hit hsz hk => wpAny_pyIter_enum he ?_
      have I2 : Inv X pins σ H1 { s1 with heap := h' } := I1.kept (t' := s1.toks) hk
      exact ⟨s1.heap.objs.size + 1, [s1.heap.objs.size + 1, s1.heap.objs.size], _, _, H1, rfl, I2, turn_enumT a (s1.heap.objs.size + 1) s1.heap.objs.size, ⟨⟨.none, he⟩, hit, Nat.succ_ne_self _, Nat.ne_of_gt (Nat.lt_succ_of_lt hal), Nat.ne_of_lt hal⟩, fun b hb => I1.fpOk (hle b hb) (I1.hok.fresh (hle b hb)), q⟩
theorem for_enumQ {K : PySem.W.Frag} {a : Addr} {xs : List V} {g : TG} {tb : TS} {D : Ends} {σ : St} {H0 H : Hp} (hq : SqQ K H0 a xs) (Pv : Nat → St → Hp → Prop) (h0 : Pv 0 σ H) (he : ∀ i σ H, i ≤ xs.length → Pv i σ H → Ext H0 H)
    (hs : ∀ i x σ H T, xs[i]? = some x → Pv i σ H → H T = none → g (.ref T) σ (upd H T (.tup [.int (i : Nat), x])) fun σ2 H2 => tb { D with nx := Pv (i + 1), ct := Pv (i + 1), bk := D.nx } σ2 H2) (hd : ∀ σ H, Pv xs.length σ H → D.nx σ H) :
    ((∃ ys, SqL K H a ys) ∧ ∃ W : Nat → Nat → St → Hp → Prop, (∃ m, W 0 m σ H) ∧ ∀ i m σ H, W i m σ H →
      ((Ite K a).stop i H ∧ D.nx σ H) ∨ ((Ite K a).go i H ∧ ∃ N : St → Hp → Prop, (∀ σ' H', N σ' H' → ∃ m', m' < m ∧ W (i + 1) m' σ' H') ∧ ∀ x H', (Ite K a).yld i H x H' → g x σ H' fun σ2 H2 => tb { D with nx := N, ct := N, bk := D.nx } σ2 H2)) ∨
    ((∃ ys, SqT K H a ys) ∧ ∃ W : Nat → Nat → St → Hp → Prop, (∃ m, W 0 m σ H) ∧ ∀ i m σ H, W i m σ H →
      ((IteT K a).stop i H ∧ D.nx σ H) ∨ ((IteT K a).go i H ∧ ∃ N : St → Hp → Prop, (∀ σ' H', N σ' H' → ∃ m', m' < m ∧ W (i + 1) m' σ' H') ∧ ∀ x H', (IteT K a).yld i H x H' → g x σ H' fun σ2 H2 => tb { D with nx := N, ct := N, bk := D.nx } σ2 H2)) := by
  have e0 := he 0 σ H (Nat.zero_le _) h0
  rcases hq with hq | hq
  · refine .inl ⟨⟨xs, hq.ext e0⟩, fun i m σ H => m = xs.length - i ∧ i ≤ xs.length ∧ Pv i σ H, ⟨xs.length, by simp, Nat.zero_le _, h0⟩, ?_⟩
    rintro i m σ H ⟨rfl, hi, p⟩
    have q := hq.ext (he i σ H hi p)
    by_cases hlt : i < xs.length
    · refine .inr ⟨⟨xs, xs[i], q, by simp [hlt]⟩, Pv (i + 1), fun σ' H' p' => ⟨xs.length - (i + 1), by omega, rfl, hlt, p'⟩, fun x H' y => ?_⟩
      obtain ⟨T, z, rfl, hT, rfl, hz⟩ := y
      exact hs i z σ H T (hz xs q) p hT
    · have e : i = xs.length := by omega
      subst e
      exact .inl ⟨⟨xs, q, Nat.le_refl _⟩, hd σ H p⟩
  · refine .inr ⟨⟨xs, hq.ext e0⟩, fun i m σ H => m = xs.length - i ∧ i ≤ xs.length ∧ Pv i σ H, ⟨xs.length, by simp, Nat.zero_le _, h0⟩, ?_⟩
    rintro i m σ H ⟨rfl, hi, p⟩
    have q := hq.ext (he i σ H hi p)
    by_cases hlt : i < xs.length
    · refine .inr ⟨⟨xs, xs[i], q, by simp [hlt]⟩, Pv (i + 1), fun σ' H' p' => ⟨xs.length - (i + 1), by omega, rfl, hlt, p'⟩, fun x H' y => ?_⟩
      obtain ⟨T, z, rfl, hT, rfl, hz⟩ := y
      exact hs i z σ H T (hz xs q) p hT
    · have e : i = xs.length := by omega
      subst e
      exact .inl ⟨⟨xs, q, rfl⟩, hd σ H p⟩
end L2
namespace L2
open PySem PySem.Spec PyProof.Rows
/-- a op b op c op d, tested -/
def tChain3 (r r' r'' : R2) (ta tb tc td : TE) : TT := fun σ H Q => ta σ H fun x H1 => tb σ H1 fun y H2 => r x y H2 fun z H3 => ∃ k, z = .bl k ∧
  (if k = true then tc σ H3 fun y2 H4 => r' y y2 H4 fun z2 H5 => ∃ k2, z2 = .bl k2 ∧ (if k2 = true then td σ H5 fun y3 H6 => r'' y2 y3 H6 fun z3 H7 => ∃ k3, z3 = .bl k3 ∧ Q k3 H7 else Q false H5) else Q false H3)
theorem pt_chain3 {X : Cx} {a b c d : Expr} {ta tb tc td : TE} {pos : Pos} {op op' op'' : CmpOp} {r r' r'' : R2} (ho : OpR X (compareOp op) r) (ho' : OpR X (compareOp op') r') (ho'' : OpR X (compareOp op'') r'') (ha : PE X a ta) (hb : PE X b tb) (hc : PE X c tc) (hd : PE X d td)
    (hm : lastMarks [op, op', op''] [b, c, d] = false := by with_unfolding_all rfl) : PT X (.Compare a [op, op', op''] [b, c, d] pos) (tChain3 r r' r'' ta tb tc td) := by
  refine ⟨fun pins s σ H Q I h => ?_⟩
  refine isTrue_chain (thn (ha.run pins s σ H _ I h) fun v s1 ⟨x, H1, I1, r1, q1⟩ => test_link (thn (hb.run pins s1 σ H1 _ I1 q1) fun u s2 ⟨y, H2, I2, r2, q2⟩ =>
    thn (ho pins s2 σ H2 x y v u _ I2 r1 r2 q2) fun d1 s3 ⟨z, H3, I3, r3, k, e, q3⟩ => ?_)) hm
  subst e
  cases r3
  refine wpAny_truthy_bool ?_
  cases k with
  | false => exact ite_ff ⟨H3, I3, q3⟩
  | true =>
    refine ite_tt (test_link (thn (hc.run pins s3 σ H3 _ I3 q3) fun w' s4 ⟨y2, H4, I4, r4, q4⟩ => thn (ho' pins s4 σ H4 y y2 u w' _ I4 r2 r4 q4) fun d2 s5 ⟨z2, H5, I5, r5, k2, e2, q5⟩ => ?_))
    subst e2
    cases r5
    refine wpAny_truthy_bool ?_
    cases k2 with
    | false => exact ite_ff ⟨H5, I5, q5⟩
    | true =>
      refine ite_tt (test_last (thn (hd.run pins s5 σ H5 _ I5 q5) fun w3 s6 ⟨y3, H6, I6, r6, q6⟩ => thn (ho'' pins s6 σ H6 y2 y3 w' w3 _ I6 r4 r6 q6) fun d3 s7 ⟨z3, H7, I7, r7, k3, e3, q7⟩ => ?_))
      subst e3
      cases r7
      exact wpAny_truthy_bool ⟨H7, I7, q7⟩
end L2
namespace L2
open PySem PySem.Spec PyProof.Rows
def rangeI (n : Nat) : List Int := (List.range n).map fun i : Nat => (i : Int)
theorem rangeI_succ (n : Nat) : rangeI (n + 1) = rangeI n ++ [(n : Int)] := by
  unfold rangeI
  rw [List.range_succ, List.map_append]
  rfl
/-- a comprehension over range(n), with if -/
theorem lc_rangeF {n : Nat} {g : TG} {tt : TT} {te : TE} {vs : List Nat} {σ : St} {H1 : Hp} {Q : Addr → Hp → Prop} (p : Int → Bool) (f : Int → Int) (hz : n ≤ 1000)
    (hs : ∀ (i : Nat), i < n → ∀ (H : Hp), Ext H1 H → ∀ (R : V → Hp → Prop) (N : Hp → Prop), (if p i = true then R (.int (f i)) H else N H) → g (.int (0 + (i : Nat))) (wipe σ vs) H fun σ2 H2 => wipe σ2 vs = wipe σ vs ∧ tt σ2 H2 fun b H3 => if b = true then te σ2 H3 R else N H3)
    (hd : ∀ D H', H1 D = none → Ext H1 H' → H' D = some (.lst ((((rangeI n).filter p).map f).map V.int)) → Q D H') : ∀ D, H1 D = none → 
    ∃ W : Nat → Nat → Hp → Prop, (∃ m, W 0 m (upd H1 D (.lst []))) ∧ ∀ i m H, W i m H →
      ((Itr 0 n).stop i H ∧ Q D H) ∨ ((Itr 0 n).go i H ∧ ∃ Nx : Hp → Prop, (∀ H', Nx H' → ∃ m', m' < m ∧ W (i + 1) m' H') ∧ ∀ x H', (Itr 0 n).yld i H x H' → g x (wipe σ vs) H' fun σ2 H2 => wipe σ2 vs = wipe σ vs ∧ tt σ2 H2 fun b H3 =>
        if b = true then te σ2 H3 fun y H4 => ∃ acc, H4 D = some (.lst acc) ∧ acc.length < sizeLine ∧ Nx (upd H4 D (.lst (acc ++ [y]))) else Nx H3) := fun D hD => by
  refine lc_range (lo := 0) (n := n) (fun i H' => Ext H1 H' ∧ H' D = some (.lst ((((rangeI i).filter p).map f).map V.int))) ⟨Ext.upd hD, upd_same⟩ ?_ ?_
  · rintro i H' hi ⟨e1, hD1⟩
    have et : (rangeI (i + 1)).filter p = (rangeI i).filter p ++ (if p i = true then [(i : Int)] else []) := by
      rw [rangeI_succ, List.filter_append]
      congr 1
      rw [List.filter_cons]
      rfl
    refine hs i hi H' e1 _ _ ?_
    by_cases hp : p i = true
    · rw [if_pos hp] at et ⊢
      refine ⟨_, hD1, ?_, e1.mut hD, ?_⟩
      · rw [List.length_map, List.length_map]
        have h1 := List.length_filter_le p (rangeI i)
        have h2 : (rangeI i).length = i := by unfold rangeI; rw [List.length_map, List.length_range]
        exact Nat.lt_of_lt_of_le (show ((rangeI i).filter p).length < 2000 by omega) (by decide)
      · rw [upd_same, et, List.map_append, List.map_append]
        rfl
    · rw [if_neg hp] at et ⊢
      refine ⟨e1, ?_⟩
      rw [et, List.append_nil]
      exact hD1
  · rintro H' ⟨e1, hD1⟩
    exact hd D H' hD e1 hD1
end L2
namespace L2
open PySem PySem.Spec PyProof.Rows RZ
end L2
namespace L2
open PySem PySem.Spec PyProof.Rows
/-- any loop of a comprehension over a list -/
theorem it_list {K : PySem.W.Frag} {a : Addr} {xs : List V} {H0 : Hp} {Qd : Hp → Prop} {B : V → Hp → (Hp → Prop) → Prop} (Pv : Nat → Hp → Prop) (h0 : Pv 0 H0) (hl : ∀ i H, i ≤ xs.length → Pv i H → SqL K H a xs)
    (hs : ∀ (i : Nat) (x : V) (H : Hp), xs[i]? = some x → Pv i H → B x H (Pv (i + 1))) (hd : ∀ H, Pv xs.length H → Qd H) :
    ∃ W : Nat → Nat → Hp → Prop, (∃ m, W 0 m H0) ∧ ∀ i m H, W i m H → ((Itl K a).stop i H ∧ Qd H) ∨ ((Itl K a).go i H ∧ ∃ Nx : Hp → Prop, (∀ H', Nx H' → ∃ m', m' < m ∧ W (i + 1) m' H') ∧ ∀ x H', (Itl K a).yld i H x H' → B x H' Nx) := by
  refine ⟨fun i m H => m = xs.length - i ∧ i ≤ xs.length ∧ Pv i H, ⟨xs.length, by simp, Nat.zero_le _, h0⟩, ?_⟩
  rintro i m H ⟨rfl, hi, p⟩
  have q := hl i H hi p
  by_cases hlt : i < xs.length
  · refine .inr ⟨⟨xs, xs[i], q, by simp [hlt]⟩, Pv (i + 1), fun H' p' => ⟨xs.length - (i + 1), by omega, rfl, hlt, p'⟩, fun x H' y => ?_⟩
    obtain ⟨e, y⟩ := y
    subst e
    exact hs i x _ (y xs q) p
  · have e : i = xs.length := by omega
    subst e
    exact .inl ⟨⟨xs, q, Nat.le_refl _⟩, hd H p⟩
end L2
namespace L2
open PySem PySem.Spec PyProof.Rows
/-- // by any number but nought -/
def CDivZ (_ j : Int) : Prop := j ≠ 0 ∧ j.natAbs.log2 < 9000
theorem op_fdivZ {X : Cx} : OpR X (binaryOp .FloorDiv) (rI CDivZ fun i j => .int (i.fdiv j)) := opI fun _ _ _ _ _ _ _ hc q => floordiv_int hc.1 q (.inl (PyProof.noPylong_of_log2 hc.2))
theorem div_z {i j : Int} {b : Nat} (h : j ≠ 0) (hb : j.natAbs < 2 ^ b) (h0 : 0 < b) (h9 : b ≤ 9000) : CDivZ i j := ⟨h, Nat.lt_of_lt_of_le (PySem.Flt.log2_lt_of h0 hb) h9⟩
end L2
namespace Mx
def sk (j k : Nat) : Nat := if k < j then k else k + 1
def sg (j : Nat) : Int := if j % 2 = 0 then 1 else -1
def sm : Nat → (Nat → Int) → Int
  | 0, _ => 0
  | n + 1, f => sm n f + f n
def det : Nat → (Nat → Nat → Int) → Int
  | 0, _ => 1
  | n + 1, M => sm (n + 1) fun j => sg j * M 0 j * det n fun i k => M (i + 1) (sk j k)
theorem sg_succ (j : Nat) : sg (j + 1) = - sg j := by
  unfold sg
  split <;> split <;> first | rfl | omega
theorem sg_even {a : Nat} (h : a % 2 = 0) : sg a = 1 := if_pos h
theorem sg_odd {a : Nat} (h : a % 2 = 1) : sg a = -1 := if_neg (by omega)
theorem sm_congr {n : Nat} {f g : Nat → Int} (h : ∀ j, j < n → f j = g j) : sm n f = sm n g := by
  induction n with
  | zero => rfl
  | succ n ih =>
    show sm n f + f n = sm n g + g n
    rw [ih fun j hj => h j (Nat.lt_succ_of_lt hj), h n (Nat.lt_succ_self n)]
theorem sm_add (n : Nat) (f g : Nat → Int) : sm n (fun j => f j + g j) = sm n f + sm n g := by
  induction n with
  | zero => rfl
  | succ n ih =>
    show sm n _ + (f n + g n) = (sm n f + f n) + (sm n g + g n)
    rw [ih]; omega
theorem sm_mul (n : Nat) (a : Int) (f : Nat → Int) : sm n (fun j => a * f j) = a * sm n f := by
  induction n with
  | zero => exact (Int.mul_zero a).symm
  | succ n ih =>
    show sm n _ + a * f n = a * (sm n f + f n)
    rw [ih, Int.mul_add]
theorem sm_neg (n : Nat) (f : Nat → Int) : sm n (fun j => - f j) = - sm n f := by
  induction n with
  | zero => rfl
  | succ n ih =>
    show sm n _ + - f n = - (sm n f + f n)
    rw [ih]; omega
theorem sm_zero {n : Nat} {f : Nat → Int} (h : ∀ j, j < n → f j = 0) : sm n f = 0 := by
  induction n with
  | zero => rfl
  | succ n ih =>
    show sm n f + f n = 0
    rw [ih fun j hj => h j (Nat.lt_succ_of_lt hj), h n (Nat.lt_succ_self n)]; rfl
theorem sm_one {n i : Nat} {f : Nat → Int} (hi : i < n) (h : ∀ j, j < n → j ≠ i → f j = 0) : sm n f = f i := by
  induction n with
  | zero => omega
  | succ n ih =>
    show sm n f + f n = f i
    by_cases e : i = n
    · subst e
      rw [sm_zero fun j hj => h j (by omega) (by omega)]; omega
    · rw [ih (by omega) fun j hj => h j (by omega), h n (by omega) (fun z => e z.symm)]; omega
theorem sm_comm (n m : Nat) (f : Nat → Nat → Int) : sm n (fun a => sm m fun b => f a b) = sm m (fun b => sm n fun a => f a b) := by
  induction n with
  | zero => exact (sm_zero fun _ _ => rfl).symm
  | succ n ih =>
    show sm n (fun a => sm m fun b => f a b) + sm m (fun b => f n b) = sm m (fun b => sm n (fun a => f a b) + f n b)
    rw [ih, sm_add]
theorem sm_sk {n a : Nat} (f : Nat → Int) (h : a ≤ n) : sm n (fun k => f (sk a k)) + f a = sm (n + 1) f := by
  induction n with
  | zero =>
    obtain rfl : a = 0 := by omega
    rfl
  | succ n ih =>
    by_cases e : a = n + 1
    · subst e
      show sm (n + 1) _ + f (n + 1) = sm (n + 1) f + f (n + 1)
      rw [sm_congr fun k hk => by rw [sk, if_pos hk]]
    · show (sm n (fun k => f (sk a k)) + f (sk a n)) + f a = sm (n + 1) f + f (n + 1)
      rw [← ih (by omega), sk, if_neg (by omega)]; omega
theorem sm_two {n c : Nat} (f : Nat → Int) (h : c + 1 < n) : sm n f = f c + f (c + 1) + sm n (fun j => if j = c ∨ j = c + 1 then 0 else f j) := by
  induction n with
  | zero => omega
  | succ n ih =>
    show sm n f + f n = f c + f (c + 1) + (sm n (fun j => if j = c ∨ j = c + 1 then 0 else f j) + if n = c ∨ n = c + 1 then 0 else f n)
    by_cases e : n = c + 1
    · subst e
      rw [if_pos (.inr rfl)]
      show (sm c f + f c) + f (c + 1) = f c + f (c + 1) + ((sm c (fun j => if j = c ∨ j = c + 1 then 0 else f j) + if c = c ∨ c = c + 1 then 0 else f c) + 0)
      rw [if_pos (.inl rfl), sm_congr (n := c) (f := fun j => if j = c ∨ j = c + 1 then 0 else f j) (g := f) fun j hj => if_neg (by omega)]
      omega
    · rw [ih (by omega), if_neg (by omega)]; omega
theorem det_congr {n : Nat} {M N : Nat → Nat → Int} (h : ∀ i k, i < n → k < n → M i k = N i k) : det n M = det n N := by
  induction n generalizing M N with
  | zero => rfl
  | succ n ih =>
    unfold det
    refine sm_congr fun j hj => ?_
    rw [h 0 j (by omega) hj, ih fun i k hi hk => h (i + 1) (sk j k) (by omega) (by unfold sk; split <;> omega)]
/-- the column c is v -/
def cr (M : Nat → Nat → Int) (c : Nat) (v : Nat → Int) : Nat → Nat → Int := fun i k => if k = c then v i else M i k
theorem cr_self (M : Nat → Nat → Int) (c : Nat) : cr M c (fun i => M i c) = M := by
  funext i k
  unfold cr
  split
  · rename_i h; rw [h]
  · rfl
theorem minor_cr_same (M : Nat → Nat → Int) (c : Nat) (v : Nat → Int) : (fun i k => cr M c v (i + 1) (sk c k)) = fun i k => M (i + 1) (sk c k) := by
  funext i k
  unfold cr
  rw [if_neg (by unfold sk; split <;> omega)]
theorem minor_cr_ne {j c : Nat} (M : Nat → Nat → Int) (v : Nat → Int) (h : j ≠ c) : (fun i k => cr M c v (i + 1) (sk j k)) = cr (fun i k => M (i + 1) (sk j k)) (if c < j then c else c - 1) (fun i => v (i + 1)) := by
  funext i k
  unfold cr
  by_cases e : sk j k = c
  · rw [if_pos e, if_pos (by unfold sk at e; split at e <;> split <;> omega)]
  · rw [if_neg e, if_neg (by unfold sk at e; split at e <;> split <;> omega)]
theorem det_lin {n c : Nat} (M : Nat → Nat → Int) (a b : Int) (u v : Nat → Int) (hc : c < n) : det n (cr M c fun i => a * u i + b * v i) = a * det n (cr M c u) + b * det n (cr M c v) := by
  induction n generalizing M c u v with
  | zero => omega
  | succ n ih =>
    unfold det
    rw [← sm_mul, ← sm_mul, ← sm_add]
    refine sm_congr fun j hj => ?_
    by_cases e : j = c
    · subst e
      rw [minor_cr_same, minor_cr_same, minor_cr_same]
      have h1 : ∀ w : Nat → Int, cr M j w 0 j = w 0 := fun w => if_pos rfl
      rw [h1, h1, h1]
      grind
    · rw [minor_cr_ne _ _ e, minor_cr_ne _ _ e, minor_cr_ne _ _ e]
      have h1 : ∀ w : Nat → Int, cr M c w 0 j = M 0 j := fun w => if_neg e
      rw [h1, h1, h1, ih _ _ _ (by split <;> omega)]
      grind
theorem det_scale {n c : Nat} (M : Nat → Nat → Int) (a : Int) (u : Nat → Int) (hc : c < n) : det n (cr M c fun i => a * u i) = a * det n (cr M c u) := by
  have z := det_lin M a 0 u u hc
  rw [Int.zero_mul, Int.add_zero] at z
  rw [← z]
  refine det_congr fun i k _ _ => ?_
  unfold cr
  split
  · show a * u i = a * u i + 0 * u i
    rw [Int.zero_mul, Int.add_zero]
  · rfl
theorem det_zero_col {n c : Nat} (M : Nat → Nat → Int) (hc : c < n) (h : ∀ i, i < n → M i c = 0) : det n M = 0 := by
  have z := det_scale M 0 (fun i => M i c) hc
  rw [Int.zero_mul] at z
  rw [← z]
  refine det_congr fun i k hi _ => ?_
  unfold cr
  split
  · rename_i e
    show M i k = 0 * M i c
    rw [e, h i hi, Int.mul_zero]
  · rfl
theorem det_sum {n c m : Nat} (M : Nat → Nat → Int) (a : Nat → Int) (u : Nat → Nat → Int) (hc : c < n) : det n (cr M c fun i => sm m fun l => a l * u l i) = sm m fun l => a l * det n (cr M c (u l)) := by
  induction m with
  | zero => exact det_zero_col _ hc fun i _ => by unfold cr; rw [if_pos rfl]; rfl
  | succ m ih =>
    show _ = sm m (fun l => a l * det n (cr M c (u l))) + a m * det n (cr M c (u m))
    rw [← ih]
    have z := det_lin M 1 (a m) (fun i => sm m fun l => a l * u l i) (u m) hc
    rw [Int.one_mul] at z
    rw [← z]
    refine det_congr fun i k _ _ => ?_
    unfold cr
    split
    · show sm m (fun l => a l * u l i) + a m * u m i = 1 * sm m (fun l => a l * u l i) + a m * u m i
      rw [Int.one_mul]
    · rfl
/-- two columns that stand side by side are exchanged -/
def cs (M : Nat → Nat → Int) (c : Nat) : Nat → Nat → Int := fun i k => M i (if k = c then c + 1 else if k = c + 1 then c else k)
theorem det_cs {n c : Nat} (M : Nat → Nat → Int) (hc : c + 1 < n) : det n (cs M c) = - det n M := by
  induction n generalizing M c with
  | zero => omega
  | succ n ih =>
    unfold det
    rw [sm_two _ hc, sm_two (fun j => sg j * M 0 j * det n fun i k => M (i + 1) (sk j k)) hc]
    have e1 : (fun i k => cs M c (i + 1) (sk c k)) = fun i k => M (i + 1) (sk (c + 1) k) := by
      funext i k
      unfold cs sk
      congr 1
      repeat' (first | omega | split)
    have e2 : (fun i k => cs M c (i + 1) (sk (c + 1) k)) = fun i k => M (i + 1) (sk c k) := by
      funext i k
      unfold cs sk
      congr 1
      repeat' (first | omega | split)
    have e3 : sm (n + 1) (fun j => if j = c ∨ j = c + 1 then 0 else sg j * cs M c 0 j * det n fun i k => cs M c (i + 1) (sk j k)) = - sm (n + 1) (fun j => if j = c ∨ j = c + 1 then 0 else sg j * M 0 j * det n fun i k => M (i + 1) (sk j k)) := by
      rw [← sm_neg]
      refine sm_congr fun j hj => ?_
      by_cases e : j = c ∨ j = c + 1
      · rw [if_pos e, if_pos e]; rfl
      · rw [if_neg e, if_neg e]
        have e4 : (fun i k => cs M c (i + 1) (sk j k)) = cs (fun i k => M (i + 1) (sk j k)) (if c < j then c else c - 1) := by
          funext i k
          unfold cs sk
          congr 1
          repeat' (first | omega | split)
        rw [e4, ih _ (by split <;> omega)]
        have e5 : cs M c 0 j = M 0 j := by
          unfold cs
          rw [if_neg (fun z => e (.inl z)), if_neg (fun z => e (.inr z))]
        rw [e5]
        grind
    rw [e3, e1, e2]
    have a1 : cs M c 0 c = M 0 (c + 1) := by unfold cs; rw [if_pos rfl]
    have a2 : cs M c 0 (c + 1) = M 0 c := by unfold cs; rw [if_neg (by omega), if_pos rfl]
    rw [a1, a2, sg_succ]
    grind
theorem det_eq_cols {n : Nat} : ∀ (d c : Nat) (M : Nat → Nat → Int), c + 1 + d < n → (∀ i, i < n → M i c = M i (c + 1 + d)) → det n M = 0 := by
  intro d
  induction d with
  | zero =>
    intro c M hc h
    have z := det_cs M (c := c) hc
    rw [show det n (cs M c) = det n M from det_congr fun i k hi _ => by
      unfold cs
      split
      · rename_i e; rw [e]; exact (h i hi).symm
      · split
        · rename_i e; rw [e]; exact h i hi
        · rfl] at z
    omega
  | succ d ih =>
    intro c M hc h
    have z := det_cs M (c := c + 1 + d) hc
    rw [ih c (cs M (c + 1 + d)) (by omega) (fun i hi => by
      unfold cs
      rw [if_neg (by omega), if_neg (by omega), if_pos rfl]
      exact h i hi)] at z
    omega
theorem det_cols {n c d : Nat} {M : Nat → Nat → Int} (hc : c < n) (hd : d < n) (hn : c ≠ d) (h : ∀ i, i < n → M i c = M i d) : det n M = 0 := by
  by_cases e : c < d
  · exact det_eq_cols (d - (c + 1)) c M (by omega) (fun i hi => by rw [h i hi]; congr 1; omega)
  · exact det_eq_cols (c - (d + 1)) d M (by omega) (fun i hi => by rw [← h i hi]; congr 1; omega)
theorem cr_comm {c d : Nat} (M : Nat → Nat → Int) (u v : Nat → Int) (h : c ≠ d) : cr (cr M c u) d v = cr (cr M d v) c u := by
  funext i k
  unfold cr
  split <;> split <;> first | rfl | omega
theorem det_swap {n c d : Nat} (M : Nat → Nat → Int) (u v : Nat → Int) (hc : c < n) (hd : d < n) (hn : c ≠ d) : det n (cr (cr M c u) d v) = - det n (cr (cr M c v) d u) := by
  have same : ∀ w : Nat → Int, det n (cr (cr M c w) d w) = 0 := fun w => det_cols hc hd hn fun i _ => by
    unfold cr
    rw [if_neg hn, if_pos rfl, if_pos rfl]
  have z := same fun i => 1 * u i + 1 * v i
  rw [det_lin _ 1 1 u v hd, cr_comm _ _ _ hn, cr_comm _ _ _ hn, det_lin _ 1 1 u v hc, det_lin _ 1 1 u v hc, ← cr_comm _ _ _ hn, ← cr_comm _ _ _ hn, ← cr_comm _ _ _ hn, ← cr_comm _ _ _ hn, same u, same v] at z
  omega
/-- but for one number the last column is nought -/
theorem det_last : ∀ {n r : Nat} (M : Nat → Nat → Int), r ≤ n → (∀ i, i ≤ n → i ≠ r → M i n = 0) → det (n + 1) M = sg (n + r) * M r n * det n (fun i k => M (sk r i) k) := by
  intro n
  induction n with
  | zero =>
    intro r M hr h
    obtain rfl : r = 0 := by omega
    show 0 + sg 0 * M 0 0 * 1 = sg 0 * M 0 0 * 1
    omega
  | succ n ih =>
    intro r M hr h
    cases r with
    | zero =>
      show sm (n + 1) _ + _ = _
      rw [sm_zero fun j hj => ?_]
      · rw [Int.zero_add, Nat.add_zero]
        show sg (n + 1) * M 0 (n + 1) * det (n + 1) (fun i k => M (i + 1) (sk (n + 1) k)) = _
        rw [det_congr (n := n + 1) (N := fun i k => M (sk 0 i) k) fun i k hi hk => ?_]
        show M (i + 1) (sk (n + 1) k) = M (sk 0 i) k
        unfold sk
        rw [if_pos hk, if_neg (by omega)]
      · show sg j * M 0 j * det (n + 1) (fun i k => M (i + 1) (sk j k)) = 0
        rw [det_zero_col (c := n) _ (by omega) fun i hi => ?_, Int.mul_zero]
        show M (i + 1) (sk j n) = 0
        unfold sk
        rw [if_neg (by omega)]
        exact h (i + 1) (by omega) (by omega)
    | succ r =>
      show sm (n + 1) _ + sg (n + 1) * M 0 (n + 1) * _ = _
      rw [h 0 (by omega) (by omega), Int.mul_zero, Int.zero_mul, Int.add_zero]
      show sm (n + 1) _ = sg (n + 1 + (r + 1)) * M (r + 1) (n + 1) * (sm (n + 1) fun j => sg j * M (sk (r + 1) 0) j * det n fun i k => M (sk (r + 1) (i + 1)) (sk j k))
      rw [← sm_mul]
      refine sm_congr fun j hj => ?_
      rw [ih (r := r) (fun i k => M (i + 1) (sk j k)) (by omega) (fun i hi hne => by
        show M (i + 1) (sk j n) = 0
        unfold sk
        rw [if_neg (by omega)]
        exact h (i + 1) (by omega) (by omega))]
      have e1 : sk j n = n + 1 := by unfold sk; rw [if_neg (by omega)]
      have e2 : sk (r + 1) 0 = 0 := by unfold sk; rw [if_pos (by omega)]
      have e3 : ∀ i, sk (r + 1) (i + 1) = sk r i + 1 := fun i => by unfold sk; split <;> split <;> omega
      have e4 : sg (n + 1 + (r + 1)) = sg (n + r) := by rw [show n + 1 + (r + 1) = n + r + 1 + 1 by omega, sg_succ, sg_succ]; omega
      rw [e1, e2, e4]
      rw [show (fun i k => M (sk (r + 1) (i + 1)) (sk j k)) = fun i k => M (sk r i + 1) (sk j k) by funext i k; rw [e3]]
      grind
end Mx
namespace Mx
/-- the row r is u -/
def rr (M : Nat → Nat → Int) (r : Nat) (u : Nat → Int) : Nat → Nat → Int := fun i k => if i = r then u k else M i k
theorem det_rneg : ∀ {n r : Nat} (M : Nat → Nat → Int), r < n → det n (rr M r fun k => - M r k) = - det n M := by
  intro n
  induction n with
  | zero => intro r M h; omega
  | succ n ih =>
    intro r M h
    unfold det
    rw [← sm_neg]
    refine sm_congr fun j hj => ?_
    cases r with
    | zero =>
      rw [show (fun i k => rr M 0 (fun k => - M 0 k) (i + 1) (sk j k)) = fun i k => M (i + 1) (sk j k) from rfl, show rr M 0 (fun k => - M 0 k) 0 j = - M 0 j from rfl]
      grind
    | succ r =>
      have e : (fun i k => rr M (r + 1) (fun k => - M (r + 1) k) (i + 1) (sk j k)) = rr (fun i k => M (i + 1) (sk j k)) r (fun k => - (fun i k => M (i + 1) (sk j k)) r k) := by
        funext i k
        unfold rr
        by_cases h : i = r
        · rw [if_pos (by omega), if_pos h]
        · rw [if_neg (by omega), if_neg h]
      rw [e, ih _ (by omega), show rr M (r + 1) (fun k => - M (r + 1) k) 0 j = M 0 j from rfl]
      grind
/-- two rows are exchanged -/
def tr (a b i : Nat) : Nat := if i = a then b else if i = b then a else i
def un (a b : Nat) : Nat := if b < a then b else b - 1
theorem un_sk (a k : Nat) : un a (sk a k) = k := by unfold sk un; repeat' (first | omega | split)
theorem sk_ne (a k : Nat) : sk a k ≠ a := by unfold sk; split <;> omega
theorem sk_sk {a b : Nat} (h : a ≠ b) (l : Nat) : sk a (sk (un a b) l) = sk b (sk (un b a) l) := by
  unfold sk un
  repeat' (first | omega | split)
theorem sg_un {a b : Nat} (h : a ≠ b) : sg b * sg (un b a) = - (sg a * sg (un a b)) := by
  by_cases g : a < b
  · rw [show un b a = a by unfold un; rw [if_pos g], show un a b = b - 1 by unfold un; rw [if_neg (by omega)]]
    obtain ⟨c, rfl⟩ : ∃ c, b = c + 1 := ⟨b - 1, by omega⟩
    rw [sg_succ, Nat.add_sub_cancel]
    grind
  · rw [show un a b = b by unfold un; rw [if_pos (by omega)], show un b a = a - 1 by unfold un; rw [if_neg (by omega)]]
    obtain ⟨c, rfl⟩ : ∃ c, a = c + 1 := ⟨a - 1, by omega⟩
    rw [sg_succ, Nat.add_sub_cancel]
    grind
theorem det_two (n : Nat) (M : Nat → Nat → Int) : det (n + 2) M = sm (n + 2) fun a => sm (n + 2) fun b => if b = a then 0 else sg a * sg (un a b) * (M 0 a * M 1 b * det n fun i l => M (i + 2) (sk a (sk (un a b) l))) := by
  show sm (n + 2) (fun j => sg j * M 0 j * det (n + 1) fun i k => M (i + 1) (sk j k)) = _
  refine sm_congr fun a ha => ?_
  rw [show det (n + 1) (fun i k => M (i + 1) (sk a k)) = sm (n + 1) fun k => sg k * M 1 (sk a k) * det n fun i l => M (i + 2) (sk a (sk k l)) from rfl, ← sm_mul]
  rw [← sm_sk _ (show a ≤ n + 1 by omega), if_pos rfl, Int.add_zero]
  refine sm_congr fun k hk => ?_
  rw [if_neg (sk_ne a k), un_sk]
  grind
theorem det_r01 (n : Nat) (M : Nat → Nat → Int) : det (n + 2) (fun i k => M (tr 0 1 i) k) = - det (n + 2) M := by
  rw [det_two, det_two, sm_comm, ← sm_neg]
  refine sm_congr fun a _ => ?_
  rw [← sm_neg]
  refine sm_congr fun b _ => ?_
  by_cases h : a = b
  · rw [if_pos h, if_pos h.symm]; rfl
  · rw [if_neg h, if_neg (fun z => h z.symm)]
    rw [show (fun i l => M (tr 0 1 (i + 2)) (sk b (sk (un b a) l))) = fun i l => M (i + 2) (sk a (sk (un a b) l)) from by
      funext i l
      rw [sk_sk h, show tr 0 1 (i + 2) = i + 2 from by unfold tr; rw [if_neg (by omega), if_neg (by omega)]]]
    rw [show M (tr 0 1 0) b = M 1 b from rfl, show M (tr 0 1 1) a = M 0 a from rfl, sg_un h]
    grind
theorem det_radj : ∀ {n r : Nat} (M : Nat → Nat → Int), r + 1 < n → det n (fun i k => M (tr r (r + 1) i) k) = - det n M := by
  intro n
  induction n with
  | zero => intro r M h; omega
  | succ n ih =>
    intro r M h
    cases r with
    | zero =>
      obtain ⟨m, rfl⟩ : ∃ m, n = m + 1 := ⟨n - 1, by omega⟩
      exact det_r01 m M
    | succ r =>
      unfold det
      rw [← sm_neg]
      refine sm_congr fun j hj => ?_
      have e : (fun i k => M (tr (r + 1) (r + 1 + 1) (i + 1)) (sk j k)) = fun i k => (fun i k => M (i + 1) (sk j k)) (tr r (r + 1) i) k := by
        funext i k
        show M _ _ = M (tr r (r + 1) i + 1) (sk j k)
        congr 1
        unfold tr
        repeat' (first | omega | split)
      show sg j * M (tr (r + 1) (r + 1 + 1) 0) j * det n (fun i k => M (tr (r + 1) (r + 1 + 1) (i + 1)) (sk j k)) = _
      rw [e, ih (r := r) (fun i k => M (i + 1) (sk j k)) (by omega), show tr (r + 1) (r + 1 + 1) 0 = 0 from by unfold tr; rw [if_neg (by omega), if_neg (by omega)]]
      grind
theorem det_rdist : ∀ (d : Nat) {n r : Nat} (M : Nat → Nat → Int), r + 1 + d < n → det n (fun i k => M (tr r (r + 1 + d) i) k) = - det n M := by
  intro d
  induction d with
  | zero => intro n r M h; exact det_radj M h
  | succ d ih =>
    intro n r M h
    have h1 := det_radj (n := n) (r := r + 1 + d) (fun i k => M (tr r (r + 1 + d) (tr (r + 1 + d) (r + 1 + d + 1) i)) k) (by omega)
    have h2 := ih (n := n) (r := r) (fun i k => M (tr (r + 1 + d) (r + 1 + d + 1) i) k) (by omega)
    have h3 := det_radj (n := n) (r := r + 1 + d) M (by omega)
    have e : (fun i k => M (tr r (r + 1 + (d + 1)) i) k) = fun i k => M (tr (r + 1 + d) (r + 1 + d + 1) (tr r (r + 1 + d) (tr (r + 1 + d) (r + 1 + d + 1) i))) k := by
      funext i k
      congr 1
      unfold tr
      repeat' (first | omega | split)
    rw [e]
    have h4 := det_radj (n := n) (r := r + 1 + d) (fun i k => M (tr (r + 1 + d) (r + 1 + d + 1) (tr r (r + 1 + d) i)) k) (by omega)
    rw [h4]
    have h5 := ih (n := n) (r := r) (fun i k => M (tr (r + 1 + d) (r + 1 + d + 1) i) k) (by omega)
    rw [h5, h3]
    omega
theorem det_rows {n a b : Nat} (M : Nat → Nat → Int) (ha : a < n) (hb : b < n) (h : a ≠ b) : det n (fun i k => M (tr a b i) k) = - det n M := by
  by_cases g : a < b
  · obtain ⟨d, rfl⟩ : ∃ d, b = a + 1 + d := ⟨b - (a + 1), by omega⟩
    exact det_rdist d M hb
  · obtain ⟨d, rfl⟩ : ∃ d, a = b + 1 + d := ⟨a - (b + 1), by omega⟩
    rw [← det_rdist d M ha]
    refine det_congr fun i k _ _ => ?_
    congr 1
    unfold tr
    repeat' (first | omega | split)
/-- two rows are exchanged, one of them turns its signs -/
def sx (M : Nat → Nat → Int) (a b : Nat) : Nat → Nat → Int := fun i k => if i = a then M b k else if i = b then - M a k else M i k
theorem det_sx {n a b : Nat} (M : Nat → Nat → Int) (ha : a < n) (hb : b < n) (h : a ≠ b) : det n (sx M a b) = det n M := by
  have e : sx M a b = rr (fun i k => M (tr a b i) k) b fun k => - (fun i k => M (tr a b i) k) b k := by
    funext i k
    unfold sx rr tr
    repeat' (first | omega | split)
    all_goals (try rfl)
    all_goals (subst_vars; try (first | rfl | omega))
    all_goals simp_all
  rw [e, det_rneg _ hb, det_rows M ha hb h]
  omega
end Mx
namespace Mx
structure Inv (n k : Nat) (c : Nat → Nat) (s : Int) (A R : Nat → Nat → Int) : Prop where
  s0 : s ≠ 0
  kn : k ≤ n
  dt : s = det k fun i l => A i (c l)
  up : ∀ r, r < k → ∀ j, s * A r j = sm k fun l => A r (c l) * R l j
  dn : ∀ r, k ≤ r → r < n → ∀ j, R r j = s * A r j - sm k fun l => A r (c l) * R l j
  kr : ∀ l m, l < k → m < k → R l (c m) = if l = m then s else 0
theorem Inv.zero {n k : Nat} {c : Nat → Nat} {s : Int} {A R : Nat → Nat → Int} (I : Inv n k c s A R) {r m : Nat} (h1 : k ≤ r) (h2 : r < n) (hm : m < k) : R r (c m) = 0 := by
  rw [I.dn r h1 h2, sm_one hm fun l hl hne => by rw [I.kr l m hl hm, if_neg hne, Int.mul_zero], I.kr m m hm hm, if_pos rfl, Int.mul_comm]
  omega
theorem Inv.start (n : Nat) (c : Nat → Nat) (A : Nat → Nat → Int) : Inv n 0 c 1 A A where
  s0 := by decide
  kn := Nat.zero_le _
  dt := rfl
  up := fun r h => by omega
  dn := fun r _ _ j => by show A r j = 1 * A r j - 0; omega
  kr := fun l m h => by omega
theorem Inv.congr {n k : Nat} {c : Nat → Nat} {s : Int} {A R S : Nat → Nat → Int} (I : Inv n k c s A R) (h : ∀ i, i < n → ∀ j, S i j = R i j) : Inv n k c s A S where
  s0 := I.s0
  kn := I.kn
  dt := I.dt
  up := fun r hr j => by rw [I.up r hr j]; exact sm_congr fun l hl => by rw [h l (Nat.lt_of_lt_of_le hl I.kn)]
  dn := fun r h1 h2 j => by rw [h r h2, I.dn r h1 h2]; congr 1; exact sm_congr fun l hl => by rw [h l (Nat.lt_of_lt_of_le hl I.kn)]
  kr := fun l m hl hm => by rw [h l (Nat.lt_of_lt_of_le hl I.kn)]; exact I.kr l m hl hm
theorem Inv.congrC {n k : Nat} {c d : Nat → Nat} {s : Int} {A R : Nat → Nat → Int} (I : Inv n k c s A R) (h : ∀ l, l < k → d l = c l) : Inv n k d s A R where
  s0 := I.s0
  kn := I.kn
  dt := by rw [I.dt]; exact det_congr fun i l _ hl => by rw [h l hl]
  up := fun r hr j => by rw [I.up r hr j]; exact sm_congr fun l hl => by rw [h l hl]
  dn := fun r h1 h2 j => by rw [I.dn r h1 h2]; congr 1; exact sm_congr fun l hl => by rw [h l hl]
  kr := fun l m hl hm => by rw [h m hm]; exact I.kr l m hl hm
theorem Inv.swap {n k a b : Nat} {c : Nat → Nat} {s : Int} {A R : Nat → Nat → Int} (I : Inv n k c s A R) (ha : k ≤ a) (hb : k ≤ b) (ha2 : a < n) (hb2 : b < n) : Inv n k c s (sx A a b) (sx R a b) := by
  have lo : ∀ (M : Nat → Nat → Int) (r j : Nat), r < k → sx M a b r j = M r j := fun M r j h => by unfold sx; rw [if_neg (by omega), if_neg (by omega)]
  refine ⟨I.s0, I.kn, ?_, fun r h j => ?_, fun r h1 h2 j => ?_, fun l m hl hm => ?_⟩
  · rw [I.dt]
    exact det_congr fun i l hi hl => (lo A i _ hi).symm
  · rw [lo A r _ h, I.up r h]
    exact sm_congr fun l hl => by rw [lo A r _ h, lo R l _ hl]
  · have e : sm k (fun l => sx A a b r (c l) * sx R a b l j) = sm k (fun l => sx A a b r (c l) * R l j) := sm_congr fun l hl => by rw [lo R l _ hl]
    rw [e]
    unfold sx
    by_cases e1 : r = a
    · simp only [if_pos e1]
      exact I.dn b hb hb2 j
    · by_cases e2 : r = b
      · simp only [if_neg e1, if_pos e2]
        rw [I.dn a ha ha2 j, show sm k (fun l => - A a (c l) * R l j) = - sm k (fun l => A a (c l) * R l j) from by
          rw [← sm_neg]
          exact sm_congr fun l _ => Int.neg_mul _ _]
        grind
      · simp only [if_neg e1, if_neg e2]
        exact I.dn r h1 h2 j
  · rw [lo R l _ hl]
    exact I.kr l m hl hm
/-- a column that is made of the columns ahead and a rest -/
theorem det_comb {m k p : Nat} (X : Nat → Nat → Int) (a : Nat → Int) (rest : Nat → Int) (hp : p < m) (hk : k ≤ p) : det m (cr X p fun r => sm k (fun l => a l * X r l) + rest r) = det m (cr X p rest) := by
  have z := det_lin X 1 1 (fun r => sm k fun l => a l * X r l) rest hp
  have e : (cr X p fun i => 1 * sm k (fun l => a l * X i l) + 1 * rest i) = cr X p fun r => sm k (fun l => a l * X r l) + rest r := by
    funext i j
    unfold cr
    try dsimp only
    split
    · rw [Int.one_mul, Int.one_mul]
    · rfl
  rw [e, det_sum X a (fun l r => X r l) hp, sm_zero fun l hl => by
    rw [det_cols (c := p) (d := l) hp (by omega) (by omega) fun i _ => by
      unfold cr
      try dsimp only
      rw [if_pos rfl, if_neg (by omega)], Int.mul_zero]] at z
  omega
/-- what is above, with a column ahead among those that make it -/
theorem det_comb_in {m k p : Nat} (X : Nat → Nat → Int) (a : Nat → Int) (rest : Nat → Int) (hk : k ≤ m) (hp : p < k) : det m (cr X p fun r => sm k (fun l => a l * X r l) + rest r) = a p * det m X + det m (cr X p rest) := by
  have z := det_lin X 1 1 (fun r => sm k fun l => a l * X r l) rest (show p < m by omega)
  have e : (cr X p fun i => 1 * sm k (fun l => a l * X i l) + 1 * rest i) = cr X p fun r => sm k (fun l => a l * X r l) + rest r := by
    funext i j
    unfold cr
    try dsimp only
    split
    · rw [Int.one_mul, Int.one_mul]
    · rfl
  rw [e, det_sum X a (fun l r => X r l) (show p < m by omega), sm_one hp fun l hl hne => by
    rw [det_cols (c := p) (d := l) (by omega) (by omega) (fun z => hne z.symm) fun i _ => by
      unfold cr
      try dsimp only
      rw [if_pos rfl, if_neg (fun z => hne z)], Int.mul_zero], cr_self] at z
  omega
theorem mul_left {a b c : Int} (h : a ≠ 0) (e : a * b = a * c) : b = c := Int.eq_of_mul_eq_mul_left h e
section
variable {n k : Nat} {c : Nat → Nat} {s : Int} {A R : Nat → Nat → Int}
theorem Inv.cramer (I : Inv n k c s A R) {i : Nat} (v : Nat) (hi : i < k) : det k (cr (fun r l => A r (c l)) i fun r => A r v) = R i v := by
  refine mul_left I.s0 ?_
  rw [← det_scale _ _ _ hi]
  have e : det k (cr (fun r l => A r (c l)) i fun r => s * A r v) = det k (cr (fun r l => A r (c l)) i fun r => sm k (fun l => R l v * (fun r l => A r (c l)) r l) + 0) := by
    refine det_congr fun r l hr _ => ?_
    unfold cr
    try dsimp only
    split
    · rw [I.up r hr v, Int.add_zero]
      exact sm_congr fun l _ => Int.mul_comm _ _
    · rfl
  rw [e, det_comb_in _ _ _ (Nat.le_refl _) hi, ← I.dt, det_zero_col (c := i) _ hi fun r _ => by unfold cr; (try dsimp only); rw [if_pos rfl], Int.add_zero, Int.mul_comm]
/-- the kept columns and one more, the rows ahead and one more -/
def bd (k : Nat) (c : Nat → Nat) (A : Nat → Nat → Int) (u v : Nat) : Nat → Nat → Int := fun r l => A (if r < k then r else u) (if l < k then c l else v)
theorem bd_lo {r l u v : Nat} (hl : l < k) : bd k c A u v r l = A (if r < k then r else u) (c l) := by unfold bd; rw [if_pos hl]
theorem Inv.border (I : Inv n k c s A R) {u : Nat} (v : Nat) (h1 : k ≤ u) (h2 : u < n) : det (k + 1) (bd k c A u v) = R u v := by
  refine mul_left I.s0 ?_
  rw [show bd k c A u v = cr (bd k c A u v) k fun r => bd k c A u v r k from (cr_self _ _).symm, ← det_scale _ _ _ (Nat.lt_succ_self k)]
  have e : det (k + 1) (cr (bd k c A u v) k fun r => s * bd k c A u v r k) = det (k + 1) (cr (bd k c A u v) k fun r => sm k (fun l => R l v * bd k c A u v r l) + if r = k then R u v else 0) := by
    refine det_congr fun r l hr _ => ?_
    unfold cr
    try dsimp only
    split
    · have ek : bd k c A u v r k = A (if r < k then r else u) v := by unfold bd; rw [if_neg (Nat.lt_irrefl k)]
      rw [ek, sm_congr (n := k) (f := fun l => R l v * bd k c A u v r l) (g := fun l => A (if r < k then r else u) (c l) * R l v) fun l hl => by rw [bd_lo hl, Int.mul_comm]]
      by_cases hrk : r < k
      · simp only [if_pos hrk]
        rw [if_neg (by omega), I.up r hrk v, Int.add_zero]
      · simp only [if_neg hrk]
        rw [if_pos (by omega), I.dn u h1 h2 v]
        omega
    · rfl
  rw [e, det_comb _ _ _ (Nat.lt_succ_self k) (Nat.le_refl k), det_last (r := k) _ (Nat.le_refl k) fun i hi hne => by unfold cr; (try dsimp only); rw [if_pos rfl, if_neg hne]]
  rw [show cr (bd k c A u v) k (fun r => if r = k then R u v else 0) k k = R u v from by unfold cr; (try dsimp only); rw [if_pos rfl, if_pos rfl], sg_even (by omega), Int.one_mul]
  rw [det_congr (n := k) (N := fun i l => A i (c l)) fun i l hi hl => by
    rw [show sk k i = i from by unfold sk; rw [if_pos hi]]
    unfold cr
    try dsimp only
    rw [if_neg (by omega), bd_lo hl, if_pos hi], ← I.dt, Int.mul_comm]
/-- the columns, one more kept -/
def ca (k : Nat) (c : Nat → Nat) (v : Nat) : Nat → Nat := fun l => if l < k then c l else v
theorem bd_pivot {v : Nat} (I : Inv n k c s A R) (hk : k < n) : det (k + 1) (fun r l => A r (ca k c v l)) = R k v := by
  rw [← I.border v (Nat.le_refl k) hk]
  refine det_congr fun r l hr _ => ?_
  unfold bd ca
  rw [show (if r < k then r else k) = r from by split <;> omega]
/-- with two more rows and columns -/
theorem Inv.below (I : Inv n k c s A R) {i v : Nat} (j : Nat) (hk : k < i) (hi : i < n) : s * det (k + 2) (fun r l => A (if r < k + 1 then r else i) (if l < k + 1 then ca k c v l else j)) = R k v * R i j - R i v * R k j := by
  generalize hX : (fun r l => A (if r < k + 1 then r else i) (if l < k + 1 then ca k c v l else j)) = X
  have xlo : ∀ r l, l < k → X r l = A (if r < k + 1 then r else i) (c l) := fun r l hl => by
    rw [← hX]
    show A _ (if l < k + 1 then ca k c v l else j) = _
    rw [if_pos (show l < k + 1 by omega), ca, if_pos hl]
  have xla : ∀ r, X r (k + 1) = A (if r < k + 1 then r else i) j := fun r => by
    rw [← hX]
    show A _ (if k + 1 < k + 1 then ca k c v (k + 1) else j) = _
    rw [if_neg (show ¬ k + 1 < k + 1 by omega)]
  have e0 : det (k + 2) X = det (k + 2) (cr X (k + 1) fun r => X r (k + 1)) := by rw [cr_self]
  rw [e0, ← det_scale _ _ _ (by omega)]
  have e : det (k + 2) (cr X (k + 1) fun r => s * X r (k + 1)) = det (k + 2) (cr X (k + 1) fun r => sm k (fun l => R l j * X r l) + (R k j * (if r = k then 1 else 0) + R i j * (if r = k + 1 then 1 else 0))) := by
    refine det_congr fun r l hr _ => ?_
    unfold cr
    try dsimp only
    split
    · rw [xla, sm_congr (n := k) (f := fun l => R l j * X r l) (g := fun l => A (if r < k + 1 then r else i) (c l) * R l j) fun l hl => by rw [xlo r l hl, Int.mul_comm]]
      by_cases h1 : r < k
      · simp only [if_pos (show r < k + 1 by omega)]
        rw [if_neg (by omega), if_neg (by omega), I.up r h1 j]
        omega
      · by_cases h2 : r = k
        · simp only [if_pos (show r < k + 1 by omega)]
          subst h2
          rw [if_pos rfl, if_neg (by omega), I.dn r (Nat.le_refl r) (by omega) j]
          omega
        · simp only [if_neg (show ¬ r < k + 1 by omega)]
          rw [if_neg h2, if_pos (by omega), I.dn i (by omega) hi j]
          omega
    · rfl
  rw [e, det_comb _ _ _ (by omega) (by omega), det_lin _ _ _ _ _ (by omega)]
  rw [det_last (n := k + 1) (r := k) _ (by omega) fun q hq hne => by unfold cr; (try dsimp only); rw [if_pos rfl, if_neg hne]]
  rw [det_last (n := k + 1) (r := k + 1) _ (by omega) fun q hq hne => by unfold cr; (try dsimp only); rw [if_pos rfl, if_neg hne]]
  rw [sg_odd (by omega), sg_even (by omega)]
  have c1 : cr X (k + 1) (fun r => if r = k then 1 else 0) k (k + 1) = 1 := by unfold cr; (try dsimp only); rw [if_pos rfl, if_pos rfl]
  have c2 : cr X (k + 1) (fun r => if r = k + 1 then 1 else 0) (k + 1) (k + 1) = 1 := by unfold cr; (try dsimp only); rw [if_pos rfl, if_pos rfl]
  rw [c1, c2]
  have d1 : det (k + 1) (fun q l => cr X (k + 1) (fun r => if r = k then 1 else 0) (sk k q) l) = R i v := by
    rw [← I.border v (show k ≤ i by omega) hi]
    refine det_congr fun q l hq hl => ?_
    unfold cr
    try dsimp only
    rw [if_neg (by omega), ← hX]
    show A (if sk k q < k + 1 then sk k q else i) (if l < k + 1 then ca k c v l else j) = A (if q < k then q else i) (if l < k then c l else v)
    rw [if_pos hl]
    unfold ca sk
    congr 1
    repeat' (first | omega | split)
  have d2 : det (k + 1) (fun q l => cr X (k + 1) (fun r => if r = k + 1 then 1 else 0) (sk (k + 1) q) l) = R k v := by
    rw [← bd_pivot I (by omega)]
    refine det_congr fun q l hq hl => ?_
    unfold cr
    try dsimp only
    rw [if_neg (by omega), ← hX]
    show A (if sk (k + 1) q < k + 1 then sk (k + 1) q else i) (if l < k + 1 then ca k c v l else j) = A q (ca k c v l)
    rw [if_pos hl, show sk (k + 1) q = q from by unfold sk; rw [if_pos hq], if_pos hq]
  rw [d1, d2]
  grind
theorem Inv.above (I : Inv n k c s A R) {i v : Nat} (j : Nat) (hk : k < n) (hi : i < k) : s * det (k + 1) (cr (fun r l => A r (ca k c v l)) i fun r => A r j) = R k v * R i j - R i v * R k j := by
  rw [← det_scale _ _ _ (by omega)]
  have lo : ∀ r l, l < k → (fun r l => A r (ca k c v l)) r l = A r (c l) := fun r l hl => by
    show A r (ca k c v l) = _
    rw [ca, if_pos hl]
  have e : det (k + 1) (cr (fun r l => A r (ca k c v l)) i fun r => s * A r j) = det (k + 1) (cr (fun r l => A r (ca k c v l)) i fun r => sm k (fun l => R l j * (fun r l => A r (ca k c v l)) r l) + R k j * (if r = k then 1 else 0)) := by
    refine det_congr fun r l hr _ => ?_
    unfold cr
    try dsimp only
    split
    · rw [sm_congr (n := k) (f := fun l => R l j * (fun r l => A r (ca k c v l)) r l) (g := fun l => A r (c l) * R l j) fun l hl => by rw [lo r l hl, Int.mul_comm]]
      by_cases h1 : r < k
      · rw [if_neg (by omega), I.up r h1 j]
        omega
      · obtain rfl : r = k := by omega
        rw [if_pos rfl, I.dn r (Nat.le_refl r) hk j]
        omega
    · rfl
  rw [e, det_comb_in _ _ _ (by omega) hi, bd_pivot I hk, det_scale _ _ _ (show i < k + 1 by omega)]
  have f : det (k + 1) (cr (fun r l => A r (ca k c v l)) i fun r => if r = k then 1 else 0) = - R i v := by
    have z := det_swap (n := k + 1) (c := i) (d := k) (fun r l => A r (ca k c v l)) (fun r => if r = k then 1 else 0) (fun r => A r v) (by omega) (by omega) (by omega)
    rw [show cr (cr (fun r l => A r (ca k c v l)) i fun r => if r = k then 1 else 0) k (fun r => A r v) = cr (fun r l => A r (ca k c v l)) i fun r => if r = k then 1 else 0 from by
      funext r l
      unfold cr
      try dsimp only
      by_cases h : l = k
      · rw [if_pos h, if_neg (by omega), ca, if_neg (by omega)]
      · rw [if_neg h]] at z
    rw [z, det_last (r := k) _ (Nat.le_refl k) fun q hq hne => by unfold cr; (try dsimp only); rw [if_pos rfl, if_neg hne]]
    rw [show cr (cr (fun r l => A r (ca k c v l)) i fun r => A r v) k (fun r => if r = k then 1 else 0) k k = 1 from by unfold cr; (try dsimp only); rw [if_pos rfl, if_pos rfl], sg_even (by omega)]
    rw [← I.cramer v hi]
    rw [det_congr (n := k) (M := fun q l => cr (cr (fun r l => A r (ca k c v l)) i fun r => A r v) k (fun r => if r = k then 1 else 0) (sk k q) l) (N := cr (fun r l => A r (c l)) i fun r => A r v) fun q l hq hl => by
      rw [show sk k q = q from by unfold sk; rw [if_pos hq]]
      unfold cr
      try dsimp only
      rw [if_neg (by omega)]
      split
      · rfl
      · rw [ca, if_pos hl]]
    omega
  rw [f]
  grind
/-- one column more is kept -/
theorem Inv.step (I : Inv n k c s A R) {v : Nat} (hk : k < n) (hp : R k v ≠ 0) : ∃ S : Nat → Nat → Int, (∀ j, S k j = R k j) ∧ (∀ i, i < n → i ≠ k → ∀ j, s * S i j = R k v * R i j - R i v * R k j) ∧ Inv n (k + 1) (ca k c v) (R k v) A S := by
  let S : Nat → Nat → Int := fun i j => if i = k then R k j else if i < k then det (k + 1) (cr (fun r l => A r (ca k c v l)) i fun r => A r j) else det (k + 2) (fun r l => A (if r < k + 1 then r else i) (if l < k + 1 then ca k c v l else j))
  have h1 : ∀ j, S k j = R k j := fun j => if_pos rfl
  have h2 : ∀ i, i < n → i ≠ k → ∀ j, s * S i j = R k v * R i j - R i v * R k j := fun i hi hne j => by
    show s * (if i = k then R k j else if i < k then _ else _) = _
    rw [if_neg hne]
    by_cases h : i < k
    · rw [if_pos h]
      exact I.above j hk h
    · rw [if_neg h]
      exact I.below j (by omega) hi
  have cl : ∀ l, l < k → ca k c v l = c l := fun l hl => by rw [ca, if_pos hl]
  have ck : ca k c v k = v := by rw [ca, if_neg (Nat.lt_irrefl k)]
  -- the sums, times s
  have hs : ∀ r j, s * sm k (fun l => A r (ca k c v l) * S l j) = R k v * sm k (fun l => A r (c l) * R l j) - R k j * sm k (fun l => A r (c l) * R l v) := fun r j => by
    rw [← sm_mul, ← sm_mul, ← sm_mul, Int.sub_eq_add_neg, ← sm_neg, ← sm_add]
    refine sm_congr fun l hl => ?_
    rw [cl l hl]
    have := h2 l (by omega) (by omega) j
    grind
  refine ⟨S, h1, h2, hp, hk, (bd_pivot I hk).symm, fun r hr j => ?_, fun r h3 h4 j => ?_, fun l m hl hm => ?_⟩
  · refine mul_left I.s0 ?_
    show s * (R k v * A r j) = s * (sm k (fun l => A r (ca k c v l) * S l j) + A r (ca k c v k) * S k j)
    rw [Int.mul_add, hs, ck, h1]
    by_cases h : r < k
    · rw [← I.up r h j, ← I.up r h v]
      grind
    · obtain rfl : r = k := by omega
      have a1 := I.dn r (Nat.le_refl r) hk j
      have a2 := I.dn r (Nat.le_refl r) hk v
      grind
  · refine mul_left I.s0 ?_
    show s * S r j = s * (R k v * A r j - (sm k (fun l => A r (ca k c v l) * S l j) + A r (ca k c v k) * S k j))
    rw [h2 r h4 (by omega), Int.mul_sub, Int.mul_add, hs, ck, h1]
    have a1 := I.dn r (by omega) h4 j
    have a2 := I.dn r (by omega) h4 v
    grind
  · by_cases e1 : l = k
    · subst e1
      rw [h1]
      by_cases e2 : m = l
      · subst e2
        rw [ck, if_pos rfl]
      · rw [cl m (by omega), I.zero (Nat.le_refl l) hk (by omega), if_neg (fun z => e2 z.symm)]
    · refine mul_left I.s0 ?_
      rw [h2 l (by omega) e1]
      by_cases e2 : m = k
      · subst e2
        rw [ck, if_neg e1]
        grind
      · rw [cl m (by omega), I.zero (Nat.le_refl k) hk (by omega), I.kr l m (by omega) (by omega)]
        split <;> grind
/-- a column that none of the rows left has: the determinant is nought -/
theorem Inv.none (I : Inv n k c s A R) {v : Nat} (hv : v < n) (hc : ∀ l, l < k → c l < n ∧ c l ≠ v) (h : ∀ r, k ≤ r → r < n → R r v = 0) : det n A = 0 := by
  refine mul_left I.s0 ?_
  rw [Int.mul_zero, show det n A = det n (cr A v fun r => A r v) by rw [cr_self], ← det_scale _ _ _ hv]
  have e : det n (cr A v fun r => s * A r v) = det n (cr A v fun r => sm k fun l => R l v * A r (c l)) := by
    refine det_congr fun r j hr _ => ?_
    unfold cr
    try dsimp only
    split
    · rw [sm_congr (n := k) (f := fun l => R l v * A r (c l)) (g := fun l => A r (c l) * R l v) fun l _ => Int.mul_comm _ _]
      by_cases g : r < k
      · exact I.up r g v
      · have := I.dn r (by omega) hr v
        rw [h r (by omega) hr] at this
        omega
    · rfl
  rw [e, det_sum _ (fun l => R l v) (fun l r => A r (c l)) hv]
  refine sm_zero fun l hl => ?_
  rw [det_cols (c := v) (d := c l) hv (hc l hl).1 (fun z => (hc l hl).2 z.symm) fun i _ => by
    unfold cr
    try dsimp only
    rw [if_pos rfl, if_neg (hc l hl).2], Int.mul_zero]
/-- all columns are kept -/
theorem Inv.all (I : Inv n n c s A R) (hc : ∀ l, l < n → c l = l) : s = det n A := by
  rw [I.dt]
  exact det_congr fun i l _ hl => by rw [hc l hl]
end
end Mx
namespace Mx
theorem natAbs_sm (n : Nat) (f : Nat → Int) (b : Nat) (h : ∀ j, j < n → (f j).natAbs ≤ b) : (sm n f).natAbs ≤ n * b := by
  induction n with
  | zero => show (0 : Int).natAbs ≤ _; simp
  | succ n ih =>
    show (sm n f + f n).natAbs ≤ _
    have h1 := ih fun j hj => h j (by omega)
    have h2 := h n (by omega)
    have h3 := Int.natAbs_add_le (sm n f) (f n)
    rw [Nat.add_mul]
    omega
theorem det_bound {B : Nat} : ∀ {n : Nat} {M : Nat → Nat → Int}, (∀ i k, i < n → k < n → (M i k).natAbs ≤ B) → (det n M).natAbs ≤ (n * B) ^ n := by
  intro n
  induction n with
  | zero => intro M _; exact Nat.le_refl 1
  | succ n ih =>
    intro M h
    refine Nat.le_trans (natAbs_sm (n + 1) _ (B * ((n + 1) * B) ^ n) fun j hj => ?_) ?_
    · rw [Int.natAbs_mul, Int.natAbs_mul]
      have e : (sg j).natAbs = 1 := by unfold sg; split <;> rfl
      rw [e, Nat.one_mul]
      refine Nat.mul_le_mul (h 0 j (by omega) hj) (Nat.le_trans (ih fun i k hi hk => h (i + 1) (sk j k) (by omega) (by unfold sk; split <;> omega)) ?_)
      exact Nat.pow_le_pow_left (Nat.mul_le_mul_right _ (by omega)) n
    · rw [Nat.pow_succ]
      exact Nat.le_of_eq (by rw [← Nat.mul_assoc, Nat.mul_comm])
theorem det_bits {b n : Nat} {M : Nat → Nat → Int} (hn : n ≤ 10) (h : ∀ i k, i < n → k < n → (M i k).natAbs < 2 ^ b) : (det n M).natAbs < 2 ^ ((b + 4) * n + 1) := by
  refine Nat.lt_of_le_of_lt (det_bound (B := 2 ^ b) fun i k hi hk => Nat.le_of_lt (h i k hi hk)) ?_
  rw [Nat.pow_succ, Nat.pow_mul]
  have h1 : (n * 2 ^ b) ^ n ≤ (2 ^ (b + 4)) ^ n := Nat.pow_le_pow_left (by rw [Nat.pow_add, Nat.mul_comm]; exact Nat.mul_le_mul_left _ (Nat.le_trans hn (by decide))) n
  have h2 : 0 < (2 ^ (b + 4)) ^ n := Nat.pow_pos (Nat.pow_pos (by decide))
  omega
def ent (rs : List (List Int)) (i j : Nat) : Int := (rs.getD i []).getD j 0
def elim (chief row : List Int) (p q s : Int) : List Int := (row.zip chief).map fun z => (p * z.1 - q * z.2).fdiv s
def clrRow (rs : List (List Int)) (at' c : Nat) (s : Int) (k : Nat) (row : List Int) : List Int :=
  if k = at' then row else elim (rs.getD at' []) row ((rs.getD at' []).getD c 0) (row.getD c 0) s
def clrOf (rs : List (List Int)) (at' c : Nat) (s : Int) : List (List Int) := rs.mapIdx (clrRow rs at' c s)
def swp (rs : List (List Int)) (a b : Nat) : List (List Int) := if a = b then rs else (rs.set a (rs.getD b [])).set b ((rs.getD a []).map fun x => -x)
theorem getD_lt {α : Type} {l : List α} {i : Nat} (d : α) (h : i < l.length) : l.getD i d = l[i] := by
  rw [List.getD_eq_getElem?_getD, List.getElem?_eq_getElem h]; rfl
theorem getD_ge {α : Type} {l : List α} {i : Nat} (d : α) (h : l.length ≤ i) : l.getD i d = d := by
  rw [List.getD_eq_getElem?_getD, List.getElem?_eq_none h]; rfl
theorem len_swp {rs : List (List Int)} {a b : Nat} : (swp rs a b).length = rs.length := by
  unfold swp
  split
  · rfl
  · rw [List.length_set, List.length_set]
theorem len_clr {rs : List (List Int)} {a c : Nat} {s : Int} : (clrOf rs a c s).length = rs.length := List.length_mapIdx
/-- n rows of w numbers -/
def Sq (n w : Nat) (rs : List (List Int)) : Prop := rs.length = n ∧ ∀ row ∈ rs, row.length = w
theorem Sq.at {n w : Nat} {rs : List (List Int)} (h : Sq n w rs) {i : Nat} (hi : i < n) : (rs.getD i []).length = w := by
  rw [getD_lt [] (by rw [h.1]; exact hi)]
  exact h.2 _ (List.getElem_mem _)
theorem Sq.swp {n w a b : Nat} {rs : List (List Int)} (h : Sq n w rs) (ha : a < n) (hb : b < n) : Sq n w (Mx.swp rs a b) := by
  refine ⟨by rw [len_swp, h.1], fun row hr => ?_⟩
  unfold Mx.swp at hr
  split at hr
  · exact h.2 row hr
  · rcases List.mem_or_eq_of_mem_set hr with hr | rfl
    · rcases List.mem_or_eq_of_mem_set hr with hr | rfl
      · exact h.2 row hr
      · exact h.at hb
    · rw [List.length_map]
      exact h.at ha
theorem Sq.clr {n w a c : Nat} {s : Int} {rs : List (List Int)} (h : Sq n w rs) (ha : a < n) : Sq n w (clrOf rs a c s) := by
  refine ⟨by rw [len_clr, h.1], fun row hr => ?_⟩
  obtain ⟨i, hi⟩ := List.mem_iff_getElem?.mp hr
  unfold clrOf at hi
  rw [List.getElem?_mapIdx] at hi
  cases e : rs[i]? with
  | none => rw [e] at hi; cases hi
  | some x =>
    rw [e] at hi
    have hx := h.2 x (List.mem_of_getElem? e)
    rw [← Option.some.inj hi]
    unfold clrRow
    split
    · exact hx
    · unfold elim
      rw [List.length_map, List.length_zip, h.at ha, hx, Nat.min_self]
theorem ent_out {n w : Nat} {rs : List (List Int)} (h : Sq n w rs) {i j : Nat} (hi : i < n) (hj : w ≤ j) : ent rs i j = 0 := getD_ge 0 (by rw [h.at hi]; exact hj)
theorem row_swp {n w a b : Nat} {rs : List (List Int)} (h : Sq n w rs) (ha : a < n) (hb : b < n) (hne : a ≠ b) (i : Nat) : (Mx.swp rs a b).getD i [] = if i = a then rs.getD b [] else if i = b then (rs.getD a []).map (fun x => -x) else rs.getD i [] := by
  have hl := h.1
  have g : ∀ l : List (List Int), l.getD i [] = (l[i]?).getD [] := fun l => List.getD_eq_getElem?_getD
  unfold Mx.swp
  rw [if_neg hne, g]
  by_cases e1 : i = a
  · subst e1
    rw [if_pos rfl, List.getElem?_set_ne (fun z => hne z.symm), List.getElem?_set_self (by omega)]
    rfl
  · rw [if_neg e1]
    by_cases e2 : i = b
    · subst e2
      rw [if_pos rfl, List.getElem?_set_self (by rw [List.length_set]; omega)]
      rfl
    · rw [if_neg e2, List.getElem?_set_ne (fun z => e2 z.symm), List.getElem?_set_ne (fun z => e1 z.symm), ← g]
theorem getD_neg (l : List Int) (j : Nat) : (l.map fun x => -x).getD j 0 = - l.getD j 0 := by
  rw [List.getD_eq_getElem?_getD, List.getD_eq_getElem?_getD, List.getElem?_map]
  cases l[j]? <;> rfl
theorem ent_swp {n w a b : Nat} {rs : List (List Int)} (h : Sq n w rs) (ha : a < n) (hb : b < n) (hne : a ≠ b) {i : Nat} (hi : i < n) (j : Nat) : ent (Mx.swp rs a b) i j = sx (ent rs) a b i j := by
  unfold ent sx
  rw [row_swp h ha hb hne]
  by_cases e1 : i = a
  · rw [if_pos e1, if_pos e1]
  · rw [if_neg e1, if_neg e1]
    by_cases e2 : i = b
    · rw [if_pos e2, if_pos e2, getD_neg]
    · rw [if_neg e2, if_neg e2]
theorem row_clr {rs : List (List Int)} {a c : Nat} {s : Int} {i : Nat} (hi : i < rs.length) : (clrOf rs a c s).getD i [] = clrRow rs a c s i (rs.getD i []) := by
  unfold clrOf
  rw [List.getD_eq_getElem?_getD, List.getElem?_mapIdx, List.getElem?_eq_getElem hi, getD_lt [] hi]
  rfl
theorem ent_chief {n w a c : Nat} {s : Int} {rs : List (List Int)} (h : Sq n w rs) (ha : a < n) (j : Nat) : ent (clrOf rs a c s) a j = ent rs a j := by
  unfold ent
  rw [row_clr (by rw [h.1]; exact ha)]
  unfold clrRow
  rw [if_pos rfl]
theorem ent_clr {n w a c : Nat} {s : Int} {rs : List (List Int)} (h : Sq n w rs) (ha : a < n) {i : Nat} (hi : i < n) (hne : i ≠ a) (j : Nat) (hs : s ≠ 0) : ent (clrOf rs a c s) i j = (ent rs a c * ent rs i j - ent rs i c * ent rs a j).fdiv s := by
  by_cases hj : j < w
  · unfold ent
    rw [row_clr (by rw [h.1]; exact hi)]
    unfold clrRow elim
    have l1 := h.at hi
    have l2 := h.at ha
    rw [if_neg hne, getD_lt (l := List.map _ _) 0 (by rw [List.length_map, List.length_zip, l1, l2]; omega), List.getElem_map, List.getElem_zip]
    dsimp only
    rw [getD_lt (l := rs.getD i []) (i := j) 0 (by omega), getD_lt (l := rs.getD a []) (i := j) 0 (by omega)]
  · rw [ent_out (i := i) (j := j) (h.clr ha) hi (by omega), ent_out (i := i) (j := j) h hi (by omega), ent_out (i := a) (j := j) h ha (by omega), Int.mul_zero, Int.mul_zero]
    exact (Int.zero_fdiv s).symm
/-- tables that come of one another by exchanges of rows -/
inductive Xr (n : Nat) : (Nat → Nat → Int) → (Nat → Nat → Int) → Prop where
  | refl (A) : Xr n A A
  | step {A B a b} : Xr n A B → a < n → b < n → a ≠ b → Xr n A (sx B a b)
theorem Xr.det {n : Nat} {A B : Nat → Nat → Int} (x : Xr n A B) : Mx.det n B = Mx.det n A := by
  induction x with
  | refl => rfl
  | step x ha hb hn ih => rw [det_sx _ ha hb hn, ih]
/-- what holds of the rows while columns are cleared: up to the column v -/
structure Cl (n w v : Nat) (A : Nat → Nat → Int) (rs : List (List Int)) (kept : List Nat) (s : Int) : Prop where
  sq : Sq n w rs
  inv : ∃ B, Xr n A B ∧ Inv n kept.length (fun l => kept.getD l 0) s B (ent rs)
  lt : ∀ c ∈ kept, c < v
  sorted : kept.Pairwise (· < ·)
  none : ∀ c, c < v → c ∉ kept → ∀ r, kept.length ≤ r → r < n → ent rs r c = 0
theorem Cl.start {n w : Nat} {rs : List (List Int)} (h : Sq n w rs) : Cl n w 0 (ent rs) rs [] 1 :=
  ⟨h, ⟨_, .refl _, Inv.start _ _ _⟩, (fun c h => by cases h), .nil, (fun c h => by omega)⟩
theorem Cl.skip {n w v : Nat} {A : Nat → Nat → Int} {rs : List (List Int)} {kept : List Nat} {s : Int} (C : Cl n w v A rs kept s) (h : ∀ r, kept.length ≤ r → r < n → ent rs r v = 0) : Cl n w (v + 1) A rs kept s :=
  ⟨C.sq, C.inv, fun c hc => Nat.lt_succ_of_lt (C.lt c hc), C.sorted, fun c hc hn r h1 h2 => by
    by_cases e : c = v
    · subst e; exact h r h1 h2
    · exact C.none c (by omega) hn r h1 h2⟩
theorem Cl.keep {n w v f : Nat} {A : Nat → Nat → Int} {rs : List (List Int)} {kept : List Nat} {s : Int} (C : Cl n w v A rs kept s) (h1 : kept.length ≤ f) (h2 : f < n) (hf : ent rs f v ≠ 0) :
    Cl n w (v + 1) A (clrOf (Mx.swp rs kept.length f) kept.length v s) (kept ++ [v]) (ent (clrOf (Mx.swp rs kept.length f) kept.length v s) kept.length v) := by
  obtain ⟨B, xB, I⟩ := C.inv
  have hk : kept.length < n := by omega
  -- the rows exchanged
  obtain ⟨B2, xB2, I2, hp, hz⟩ : ∃ B2, Xr n A B2 ∧ Inv n kept.length (fun l => kept.getD l 0) s B2 (ent (Mx.swp rs kept.length f)) ∧ ent (Mx.swp rs kept.length f) kept.length v ≠ 0 ∧ (∀ c, c < v → c ∉ kept → ∀ r, kept.length ≤ r → r < n → ent (Mx.swp rs kept.length f) r c = 0) := by
    by_cases e : kept.length = f
    · have e2 : Mx.swp rs kept.length f = rs := by unfold Mx.swp; rw [if_pos e]
      rw [e2]
      exact ⟨B, xB, I, by rw [e]; exact hf, C.none⟩
    · refine ⟨_, xB.step hk h2 e, (I.swap (Nat.le_refl _) h1 hk h2).congr fun i hi j => ent_swp C.sq hk h2 e hi j, ?_, fun c hc hn r hr hr2 => ?_⟩
      · rw [ent_swp C.sq hk h2 e hk v]
        unfold sx
        rw [if_pos rfl]
        exact hf
      · rw [ent_swp C.sq hk h2 e hr2 c]
        unfold sx
        split
        · exact C.none c hc hn f h1 h2
        · split
          · rw [C.none c hc hn _ (Nat.le_refl _) hk]; rfl
          · exact C.none c hc hn r hr hr2
  have sq2 : Sq n w (Mx.swp rs kept.length f) := C.sq.swp hk h2
  generalize Mx.swp rs kept.length f = rs2 at I2 hp hz sq2 ⊢
  obtain ⟨S, hS1, hS2, I3⟩ := I2.step hk hp
  have eS : ∀ i, i < n → ∀ j, ent (clrOf rs2 kept.length v s) i j = S i j := fun i hi j => by
    by_cases e : i = kept.length
    · subst e
      rw [ent_chief sq2 hk, hS1]
    · rw [ent_clr sq2 hk hi e j I.s0, ← hS2 i hi e j, Int.mul_fdiv_cancel_left _ I.s0]
  refine ⟨sq2.clr hk, ⟨B2, xB2, ?_⟩, fun c hc => ?_, ?_, fun c hc hn r hr hr2 => ?_⟩
  · rw [ent_chief sq2 hk, List.length_append]
    refine (I3.congr eS).congrC fun l hl => ?_
    unfold ca
    by_cases e : l < kept.length
    · rw [if_pos e, List.getD_eq_getElem?_getD, List.getElem?_append_left e, ← List.getD_eq_getElem?_getD]
    · have e' : l = kept.length := by omega
      rw [if_neg e, e', List.getD_eq_getElem?_getD, List.getElem?_append_right (Nat.le_refl _), Nat.sub_self]
      rfl
  · rcases List.mem_append.mp hc with h | h
    · exact Nat.lt_succ_of_lt (C.lt c h)
    · rw [List.mem_singleton.mp h]; exact Nat.lt_succ_self v
  · rw [List.pairwise_append]
    exact ⟨C.sorted, List.pairwise_singleton _ _, fun a ha b hb => by rw [List.mem_singleton.mp hb]; exact C.lt a ha⟩
  · rw [List.length_append] at hr
    have hne : c ≠ v := fun e => hn (List.mem_append_right _ (by rw [e]; exact List.mem_singleton.mpr rfl))
    have hn2 : c ∉ kept := fun z => hn (List.mem_append_left _ z)
    have hr' : kept.length < r := hr
    rw [eS r hr2]
    refine mul_left I.s0 ?_
    rw [hS2 r hr2 (by omega) c, hz c (by omega) hn2 r (by omega) hr2, hz c (by omega) hn2 _ (Nat.le_refl _) hk]
    simp
theorem Cl.bound {n w v b : Nat} {A : Nat → Nat → Int} {rs : List (List Int)} {kept : List Nat} {s : Int} (C : Cl n w v A rs kept s) (hn : n ≤ 10) (h : ∀ i j, i < n → (A i j).natAbs < 2 ^ b) : (∀ i j, i < n → (ent rs i j).natAbs < 2 ^ ((b + 4) * (n + 1) + 1)) ∧ s.natAbs < 2 ^ ((b + 4) * (n + 1) + 1) := by
  obtain ⟨B, xB, I⟩ := C.inv
  have hB : ∀ i j, i < n → (B i j).natAbs < 2 ^ b := by
    clear I
    induction xB with
    | refl => exact h
    | step x ha hb hne ih =>
      intro i j hi
      unfold sx
      split
      · exact ih _ _ hb
      · split
        · rw [Int.natAbs_neg]; exact ih _ _ ha
        · exact ih _ _ hi
  have up : ∀ (m : Nat) (x : Nat), m ≤ n + 1 → x < 2 ^ ((b + 4) * m + 1) → x < 2 ^ ((b + 4) * (n + 1) + 1) := fun m x hm hx => Nat.lt_of_lt_of_le hx (Nat.pow_le_pow_right (by decide) (Nat.add_le_add_right (Nat.mul_le_mul_left _ hm) 1))
  have hk := I.kn
  constructor
  · intro i j hi
    by_cases e : i < kept.length
    · rw [← I.cramer j e]
      refine up kept.length _ (by omega) (det_bits (by omega) fun r l hr hl => ?_)
      unfold cr
      split
      · exact hB _ _ (by omega)
      · exact hB _ _ (by omega)
    · rw [← I.border j (show kept.length ≤ i by omega) hi]
      by_cases hn0 : kept.length + 1 ≤ 10
      · refine up (kept.length + 1) _ (by omega) (det_bits hn0 fun r l hr hl => ?_)
        unfold bd
        exact hB _ _ (by split <;> omega)
      · omega
  · rw [I.dt]
    exact up kept.length _ (by omega) (det_bits (by omega) fun r l hr hl => hB _ _ (by omega))
theorem in_range {n : Nat} {l : List Nat} (hd : l.Nodup) (h : ∀ c ∈ l, c < n) : ((List.range n).filter fun x => decide (x ∈ l)).Perm l := by
  refine (List.perm_ext_iff_of_nodup (List.nodup_range.filter _) hd).mpr fun x => ?_
  rw [List.mem_filter, List.mem_range, decide_eq_true_iff]
  exact ⟨fun z => z.2, fun z => ⟨h x z, z⟩⟩
theorem missing {n : Nat} {l : List Nat} (hd : l.Nodup) (h : ∀ c ∈ l, c < n) (hl : l.length < n) : ∃ v, v < n ∧ v ∉ l := by
  refine Classical.byContradiction fun z => ?_
  have e := (in_range hd h).length_eq
  rw [List.filter_eq_self.mpr fun x hx => decide_eq_true (Classical.byContradiction fun y => z ⟨x, List.mem_range.mp hx, y⟩), List.length_range] at e
  omega
theorem is_range {n : Nat} {l : List Nat} (hs : l.Pairwise (· < ·)) (h : ∀ c ∈ l, c < n) (hl : l.length = n) : l = List.range n := by
  have hd : l.Nodup := List.nodup_iff_pairwise_ne.mpr (hs.imp fun h => Nat.ne_of_lt h)
  have p := in_range hd h
  have e : (List.range n).filter (fun x => decide (x ∈ l)) = List.range n := List.filter_sublist.eq_of_length (by rw [p.length_eq, hl, List.length_range])
  rw [e] at p
  exact (p.symm).eq_of_pairwise (le := (· < ·)) (fun a b _ _ h1 h2 => absurd h1 (Nat.lt_asymm h2)) hs List.pairwise_lt_range
/-- the end: the determinant -/
theorem Cl.det {n w : Nat} {A : Nat → Nat → Int} {rs : List (List Int)} {kept : List Nat} {s : Int} (C : Cl n w n A rs kept s) : (if kept.length < n then 0 else s) = Mx.det n A := by
  obtain ⟨B, xB, I⟩ := C.inv
  have hnd : kept.Nodup := List.nodup_iff_pairwise_ne.mpr (C.sorted.imp fun h => Nat.ne_of_lt h)
  by_cases e : kept.length < n
  · rw [if_pos e, ← xB.det]
    obtain ⟨v, hv, hvn⟩ := missing hnd C.lt e
    refine (I.none hv (fun l hl => ?_) fun r h1 h2 => C.none v hv hvn r h1 h2).symm
    rw [getD_lt 0 hl]
    exact ⟨C.lt _ (List.getElem_mem _), fun z => hvn (z ▸ List.getElem_mem _)⟩
  · have hk : kept.length = n := by have := I.kn; omega
    rw [if_neg e, ← xB.det]
    have hid : ∀ l, l < n → kept.getD l 0 = l := by
      intro l hl
      rw [is_range C.sorted C.lt hk, getD_lt 0 (by rw [List.length_range]; exact hl), List.getElem_range]
    rw [hk] at I
    exact I.all hid
end Mx
namespace L2
open PySem PySem.Spec PyProof.Rows
/-- a comprehension over zip of two lists of one length -/
theorem lc_zipL {K : PySem.W.Frag} {a b : Addr} {xs ys : List V} {g : TG} {tt : TT} {te : TE} {vs : List Nat} {σ : St} {H1 : Hp} {D : Addr} {Qd : Hp → Prop} (hl : xs.length = ys.length) (Pv : Nat → Hp → Prop) (h0 : Pv 0 (upd H1 D (.lst []))) (hq : ∀ i H, Pv i H → SqL K H a xs ∧ SqL K H b ys)
    (hs : ∀ (i : Nat) (x y : V) (T : Addr) (H : Hp), xs[i]? = some x → ys[i]? = some y → Pv i H → H T = none → g (.ref T) (wipe σ vs) (upd H T (.tup [x, y])) fun σ2 H2 => wipe σ2 vs = wipe σ vs ∧ tt σ2 H2 fun b H3 =>
      if b = true then te σ2 H3 fun y H4 => ∃ acc, H4 D = some (.lst acc) ∧ acc.length < sizeLine ∧ Pv (i + 1) (upd H4 D (.lst (acc ++ [y]))) else Pv (i + 1) H3) (hd : ∀ H, Pv xs.length H → Qd H) :
    ∃ W : Nat → Nat → Hp → Prop, (∃ m, W 0 m (upd H1 D (.lst []))) ∧ ∀ i m H, W i m H →
      ((Itz K a b).stop i H ∧ Qd H) ∨ ((Itz K a b).go i H ∧ ∃ Nx : Hp → Prop, (∀ H', Nx H' → ∃ m', m' < m ∧ W (i + 1) m' H') ∧ ∀ x H', (Itz K a b).yld i H x H' → g x (wipe σ vs) H' fun σ2 H2 => wipe σ2 vs = wipe σ vs ∧ tt σ2 H2 fun b H3 =>
        if b = true then te σ2 H3 fun y H4 => ∃ acc, H4 D = some (.lst acc) ∧ acc.length < sizeLine ∧ Nx (upd H4 D (.lst (acc ++ [y]))) else Nx H3) := by
  refine ⟨fun i m H => m = xs.length - i ∧ i ≤ xs.length ∧ Pv i H, ⟨xs.length, rfl, Nat.zero_le _, h0⟩, ?_⟩
  rintro i m H ⟨rfl, hi, p⟩
  obtain ⟨qx, qy⟩ := hq i H p
  by_cases hlt : i < xs.length
  · have hx : xs[i]? = some xs[i] := List.getElem?_eq_getElem hlt
    have hlt2 : i < ys.length := by omega
    have hy : ys[i]? = some ys[i] := List.getElem?_eq_getElem hlt2
    refine .inr ⟨⟨xs, ys, _, _, qx, qy, hx, hy⟩, Pv (i + 1), fun H' p' => ⟨xs.length - (i + 1), by omega, rfl, hlt, p'⟩, fun v H' z => ?_⟩
    obtain ⟨T, x', y', rfl, hT, rfl, f1, f2⟩ := z
    exact hs i x' y' T H (f1 xs qx) (f2 ys qy) p hT
  · have e : i = xs.length := by omega
    subst e
    exact .inl ⟨⟨xs, ys, qx, qy, Or.inl (Nat.le_refl _)⟩, hd H p⟩
/-- a comprehension over enumerate of a list -/
theorem lc_enum {K : PySem.W.Frag} {a : Addr} {xs : List V} {g : TG} {tt : TT} {te : TE} {vs : List Nat} {σ : St} {H1 : Hp} {D : Addr} {Qd : Hp → Prop} (Pv : Nat → Hp → Prop) (h0 : Pv 0 (upd H1 D (.lst []))) (hq : ∀ i H, Pv i H → SqL K H a xs)
    (hs : ∀ (i : Nat) (x : V) (T : Addr) (H : Hp), xs[i]? = some x → Pv i H → H T = none → g (.ref T) (wipe σ vs) (upd H T (.tup [.int (i : Nat), x])) fun σ2 H2 => wipe σ2 vs = wipe σ vs ∧ tt σ2 H2 fun b H3 =>
      if b = true then te σ2 H3 fun y H4 => ∃ acc, H4 D = some (.lst acc) ∧ acc.length < sizeLine ∧ Pv (i + 1) (upd H4 D (.lst (acc ++ [y]))) else Pv (i + 1) H3) (hd : ∀ H, Pv xs.length H → Qd H) :
    ∃ W : Nat → Nat → Hp → Prop, (∃ m, W 0 m (upd H1 D (.lst []))) ∧ ∀ i m H, W i m H →
      ((Ite K a).stop i H ∧ Qd H) ∨ ((Ite K a).go i H ∧ ∃ Nx : Hp → Prop, (∀ H', Nx H' → ∃ m', m' < m ∧ W (i + 1) m' H') ∧ ∀ x H', (Ite K a).yld i H x H' → g x (wipe σ vs) H' fun σ2 H2 => wipe σ2 vs = wipe σ vs ∧ tt σ2 H2 fun b H3 =>
        if b = true then te σ2 H3 fun y H4 => ∃ acc, H4 D = some (.lst acc) ∧ acc.length < sizeLine ∧ Nx (upd H4 D (.lst (acc ++ [y]))) else Nx H3) := by
  refine ⟨fun i m H => m = xs.length - i ∧ i ≤ xs.length ∧ Pv i H, ⟨xs.length, rfl, Nat.zero_le _, h0⟩, ?_⟩
  rintro i m H ⟨rfl, hi, p⟩
  have qx := hq i H p
  by_cases hlt : i < xs.length
  · have hx : xs[i]? = some xs[i] := List.getElem?_eq_getElem hlt
    refine .inr ⟨⟨xs, _, qx, hx⟩, Pv (i + 1), fun H' p' => ⟨xs.length - (i + 1), by omega, rfl, hlt, p'⟩, fun v H' z => ?_⟩
    obtain ⟨T, x', rfl, hT, rfl, f1⟩ := z
    exact hs i x' T H (f1 xs qx) p hT
  · have e : i = xs.length := by omega
    subst e
    exact .inl ⟨⟨xs, qx, Nat.le_refl _⟩, hd H p⟩
/-- ints of a list, each an int -/
theorem lc_intsE {K : PySem.W.Frag} {a : Addr} {ns : List Int} {g : TG} {te : TE} {vs : List Nat} {σ : St} {H1 : Hp} {Q : Addr → Hp → Prop} (f : Int → Int) (hq : SqL K H1 a (ns.map V.int)) (hz : ns.length < 2000)
    (hs : ∀ n ∈ ns, ∀ (H : Hp), Ext H1 H → ∀ (R : V → Hp → Prop), R (.int (f n)) H → g (.int n) (wipe σ vs) H fun σ2 H2 => wipe σ2 vs = wipe σ vs ∧ te σ2 H2 R)
    (hd : ∀ D H', H1 D = none → Ext H1 H' → H' D = some (.lst ((ns.map f).map V.int)) → Q D H') :
    (∃ ys, SqL K H1 a ys) ∧ ∀ D, H1 D = none → ∃ W : Nat → Nat → Hp → Prop, (∃ m, W 0 m (upd H1 D (.lst []))) ∧ ∀ i m H, W i m H →
      ((Itl K a).stop i H ∧ Q D H) ∨ ((Itl K a).go i H ∧ ∃ Nx : Hp → Prop, (∀ H', Nx H' → ∃ m', m' < m ∧ W (i + 1) m' H') ∧ ∀ x H', (Itl K a).yld i H x H' → g x (wipe σ vs) H' fun σ2 H2 => wipe σ2 vs = wipe σ vs ∧ tYes σ2 H2 fun b H3 =>
        if b = true then te σ2 H3 fun y H4 => ∃ acc, H4 D = some (.lst acc) ∧ acc.length < sizeLine ∧ Nx (upd H4 D (.lst (acc ++ [y]))) else Nx H3) := by
  refine ⟨⟨_, hq⟩, fun D hD => lc_list (xs := ns.map V.int) (fun i H' => Ext H1 H' ∧ H' D = some (.lst (((ns.take i).map f).map V.int))) ⟨Ext.upd hD, upd_same⟩ (fun i H' _ p => hq.ext p.1) ?_ ?_⟩
  · rintro i y H' hi ⟨e1, hD1⟩
    obtain ⟨n, hn, rfl⟩ : ∃ n, ns[i]? = some n ∧ y = V.int n := by
      rw [List.getElem?_map] at hi
      cases e : ns[i]? with
      | none => rw [e] at hi; cases hi
      | some n => rw [e] at hi; exact ⟨n, rfl, (Option.some.inj hi).symm⟩
    have hin : i < ns.length := (List.getElem?_eq_some_iff.mp hn).1
    refine hs n (List.mem_of_getElem? hn) H' e1 _ ⟨_, hD1, ?_, e1.mut hD, ?_⟩
    · rw [List.length_map, List.length_map, List.length_take]
      exact Nat.lt_of_lt_of_le (show min i ns.length < 2000 by omega) (by decide)
    · rw [upd_same, List.take_add_one, hn, List.map_append, List.map_append]
      rfl
  · rintro H' ⟨e1, hD1⟩
    rw [List.length_map, List.take_length] at hD1
    exact hd D H' hD e1 hD1
/-- ints of two lists side by side, each an int -/
theorem lc_zipI {K : PySem.W.Frag} {a b : Addr} {ns ms : List Int} {g : TG} {te : TE} {vs : List Nat} {σ : St} {H1 : Hp} {Q : Addr → Hp → Prop} (f : Int → Int → Int) (hl : ns.length = ms.length) (hq : SqL K H1 a (ns.map V.int)) (hq2 : SqL K H1 b (ms.map V.int)) (hz : ns.length < 2000)
    (hs : ∀ n m, n ∈ ns → m ∈ ms → ∀ (T : Addr) (H : Hp), Ext H1 H → H T = some (.tup [.int n, .int m]) → ∀ (R : V → Hp → Prop), R (.int (f n m)) H → g (.ref T) (wipe σ vs) H fun σ2 H2 => wipe σ2 vs = wipe σ vs ∧ te σ2 H2 R)
    (hd : ∀ D H', H1 D = none → Ext H1 H' → H' D = some (.lst (((ns.zip ms).map fun z => f z.1 z.2).map V.int)) → Q D H') :
    ∀ D, H1 D = none → ∃ W : Nat → Nat → Hp → Prop, (∃ m, W 0 m (upd H1 D (.lst []))) ∧ ∀ i m H, W i m H →
      ((Itz K a b).stop i H ∧ Q D H) ∨ ((Itz K a b).go i H ∧ ∃ Nx : Hp → Prop, (∀ H', Nx H' → ∃ m', m' < m ∧ W (i + 1) m' H') ∧ ∀ x H', (Itz K a b).yld i H x H' → g x (wipe σ vs) H' fun σ2 H2 => wipe σ2 vs = wipe σ vs ∧ tYes σ2 H2 fun b H3 =>
        if b = true then te σ2 H3 fun y H4 => ∃ acc, H4 D = some (.lst acc) ∧ acc.length < sizeLine ∧ Nx (upd H4 D (.lst (acc ++ [y]))) else Nx H3) := fun D hD => by
  refine lc_zipL (xs := ns.map V.int) (ys := ms.map V.int) (by rw [List.length_map, List.length_map, hl]) (fun i H' => Ext H1 H' ∧ H' D = some (.lst ((((ns.zip ms).take i).map fun z => f z.1 z.2).map V.int))) ⟨Ext.upd hD, upd_same⟩ (fun i H' p => ⟨hq.ext p.1, hq2.ext p.1⟩) ?_ ?_
  · rintro i x y T H' hx hy ⟨e1, hD1⟩ hT
    obtain ⟨n, hn, rfl⟩ : ∃ n, ns[i]? = some n ∧ x = V.int n := by
      rw [List.getElem?_map] at hx
      cases e : ns[i]? with
      | none => rw [e] at hx; cases hx
      | some n => rw [e] at hx; exact ⟨n, rfl, (Option.some.inj hx).symm⟩
    obtain ⟨m, hm, rfl⟩ : ∃ m, ms[i]? = some m ∧ y = V.int m := by
      rw [List.getElem?_map] at hy
      cases e : ms[i]? with
      | none => rw [e] at hy; cases hy
      | some n => rw [e] at hy; exact ⟨n, rfl, (Option.some.inj hy).symm⟩
    have hin : i < ns.length := (List.getElem?_eq_some_iff.mp hn).1
    have hz2 : (ns.zip ms)[i]? = some (n, m) := by rw [List.getElem?_zip_eq_some]; exact ⟨hn, hm⟩
    have e2 : Ext H1 (upd H' T (.tup [.int n, .int m])) := e1.trans (Ext.upd hT)
    have hD2 : (upd H' T (.tup [.int n, .int m])) D = some (.lst ((((ns.zip ms).take i).map fun z => f z.1 z.2).map V.int)) := Ext.upd hT _ _ hD1
    have key := hs n m (List.mem_of_getElem? hn) (List.mem_of_getElem? hm) T _ e2 upd_same
    refine key _ ⟨_, hD2, ?_, e2.mut hD, ?_⟩
    · rw [List.length_map, List.length_map, List.length_take, List.length_zip]
      exact Nat.lt_of_lt_of_le (show min i (min ns.length ms.length) < 2000 by omega) (by decide)
    · rw [upd_same, List.take_add_one, hz2, List.map_append, List.map_append]
      rfl
  · rintro H' ⟨e1, hD1⟩
    rw [List.length_map, show (ns.zip ms).take ns.length = ns.zip ms from List.take_of_length_le (by rw [List.length_zip]; omega)] at hD1
    exact hd D H' hD e1 hD1
def mix (H0 H H' : Hp) : Hp := fun a => match H a with | none => H' a | some _ => H0 a
theorem mix_new {H0 H H' : Hp} {a : Addr} (h : H a = none) : mix H0 H H' a = H' a := by unfold mix; rw [h]
theorem mix_old {H0 H H' : Hp} (e : Ext H0 H) : Ext H0 (mix H0 H H') := fun a o h => by
  unfold mix
  rw [e a o h]
  exact h
theorem mix_ext {H0 H H1 H2 : Hp} (e : Ext H1 H2) : Ext (mix H0 H H1) (mix H0 H H2) := fun a o h => by
  unfold mix at h ⊢
  cases q : H a with
  | none => rw [q] at h; exact e a o h
  | some x => rw [q] at h; exact h
theorem mix_del {H H' : Hp} {k : Addr} {o : HO} (hk : H k = some o) (e : Ext H H') : Ext (mix (del H k) H H') (del H' k) := fun a o' h => by
  by_cases ek : a = k
  · subst ek
    unfold mix at h
    rw [hk] at h
    dsimp only at h
    rw [del_same] at h
    cases h
  · rw [del_ne ek]
    unfold mix at h
    cases q : H a with
    | none => rw [q] at h; exact h
    | some x => rw [q] at h; dsimp only at h; rw [del_ne ek] at h; exact e a o' h
def rwI (row : List Int) : Dt := .lst (row.map Dt.int)
def rowsD (rs : List (List Int)) : Dt := .lst (rs.map rwI)
theorem rwI_of {K : PySem.W.Frag} {H : Hp} {v : V} {row : List Int} (h : Is K H (rwI row) v) : ∃ a, v = .ref a ∧ SqL K H a (row.map V.int) := by
  obtain ⟨t, ws, rfl, ht, hl⟩ := h
  rw [of_isL_ints hl] at ht
  exact ⟨t, rfl, ht⟩
theorem rwI_is {K : PySem.W.Frag} {H : Hp} {t : Addr} {row : List Int} (h : SqL K H t (row.map V.int)) : Is K H (rwI row) (.ref t) := ⟨t, _, rfl, h, isL_ints _⟩
theorem rows_of {K : PySem.W.Frag} {H : Hp} {v : V} {rs : List (List Int)} (h : Is K H (rowsD rs) v) : ∃ a xs, v = .ref a ∧ SqL K H a xs ∧ IsL K H (rs.map rwI) xs ∧ xs.length = rs.length := by
  obtain ⟨t, ws, rfl, ht, hl⟩ := h
  exact ⟨t, ws, rfl, ht, hl, by rw [← hl.length, List.length_map]⟩
theorem isL_at {α : Type} {K : PySem.W.Frag} {H : Hp} {f : α → Dt} {rs : List α} {xs : List V} {i : Nat} {r : α} (h : IsL K H (rs.map f) xs) (hi : rs[i]? = some r) : ∃ v, xs[i]? = some v ∧ Is K H (f r) v :=
  h.get' (by rw [List.getElem?_map, hi]; rfl)
theorem isL_at' {α : Type} {K : PySem.W.Frag} {H : Hp} {f : α → Dt} {rs : List α} {xs : List V} {i : Nat} {v : V} (h : IsL K H (rs.map f) xs) (hi : xs[i]? = some v) : ∃ r, rs[i]? = some r ∧ Is K H (f r) v := by
  obtain ⟨d, hd, iv⟩ := h.get hi
  rw [List.getElem?_map] at hd
  cases e : rs[i]? with
  | none => rw [e] at hd; cases hd
  | some r => rw [e] at hd; exact ⟨r, rfl, (Option.some.inj hd).symm ▸ iv⟩
theorem isL_sn {K : PySem.W.Frag} {H : Hp} {ds : List Dt} {vs : List V} {d : Dt} {v : V} (h : IsL K H ds vs) (i : Is K H d v) : IsL K H (ds ++ [d]) (vs ++ [v]) := h.append ⟨v, [], rfl, i, rfl⟩
theorem row_get {rs : List (List Int)} {i : Nat} (h : i < rs.length) : rs[i]? = some (rs.getD i []) := by
  rw [List.getD_eq_getElem?_getD, List.getElem?_eq_getElem h]; rfl
theorem int_get {row : List Int} {j : Nat} (h : j < row.length) : row[j]? = some (row.getD j 0) := by
  rw [List.getD_eq_getElem?_getD, List.getElem?_eq_getElem h]; rfl
/-- an item of a row of ints -/
theorem atI_int {row : List Int} {j : Nat} (h : j < row.length) : atI (row.map V.int) (j : Int) = some (.int (row.getD j 0)) :=
  atI_nat (by rw [List.getElem?_map, int_get h]; rfl)
theorem isL_set {K : PySem.W.Frag} {H : Hp} : ∀ {ds : List Dt} {vs : List V} {i : Nat} {d : Dt} {v : V}, IsL K H ds vs → Is K H d v → IsL K H (ds.set i d) (vs.set i v)
  | [], _, _, _, _, h, _ => by cases h; exact rfl
  | _ :: _, _, 0, _, _, ⟨_, r, e, _, h⟩, i => by subst e; exact ⟨_, r, rfl, i, h⟩
  | _ :: _, _, k + 1, _, _, ⟨w, r, e, iw, h⟩, i => by subst e; exact ⟨w, _, rfl, iw, isL_set h i⟩
end L2
namespace L2
open PySem PySem.Spec PyProof.Rows
abbrev veB : List Value := [.type "ValueError", .type "Exception", .type "BaseException", .type "object"]
section
variable {X : Cx} {C : Addr} {bmB : List Value} {B newId initId : String} {W : WX}
/-- X(), X an own exception class without own __init__ -/
theorem pmk_own0 {x : Str} {p pos : Pos} (F : ExcBaseFacts B newId initId bmB) (q : PySem.W.excIn X.K C bmB newId = true) (gC : X.mg x = some (.ref C)) (kC : PySem.W.keepIn X.K (.ref C) = true) (r : Raises X (.ref C)) (hg : Gl X x)
    (hdb : (x == ("__debug__" : Str)) = false := by decide) : PMk X (.Call (.Name x p) [] [] pos) (fun _ H Q => Q (.ref C) none H) := by
  intro pins s σ H Q I h
  refine wpAny_Call_Name_kw (ld_glob I hg gC ?_ hdb)
  refine PySem.W.callWith_K0 I.kIn kC ?_
  obtain ⟨bm, N, nm, qn, bs, hdct, sn, sub, ab, col, dd, k0, k1, k2, k3, k5, mN, hC, hN, hni, T⟩ := exc_obj I.kIn q
  refine wpAny_call_exc_subT F T hC hN hni (fun h' e hm => ?_) (Nat.zero_le _)
  exact mk_of I hm r h (I.hok.gone hm.new)
theorem ps_raise0 {x : Str} {p pos pos2 : Pos} (q : PySem.W.excIn X.K C veB "ValueError.__new__" = true) (gC : X.mg x = some (.ref C)) (O : OexC X.K C) (hc : X.calm = true) (tk : Takes X W) (hg : Gl X x)
    (hdb : (x == ("__debug__" : Str)) = false := by decide) : PS X (.Raise (some (.Call (.Name x p) [] [] pos)) none pos2) (fun _ σ H => W (.ref C) none σ H) :=
  ps_raise hc tk (pmk_own0 PySem.F.excBase_ValueError q gC O.kC (raises_own O.exC O.tyC) hg hdb)
end
end L2
namespace L2
open PySem PySem.Spec PyProof.Rows
section
variable {X : Cx}
/-- set(t), t a tuple of ints -/
def rSetTI (K : PySem.W.Frag) (w : World) : List V → Hp → VK → Prop := fun vs H Q => ∃ (p : Addr) (ns : List Int), vs = [.ref p] ∧ SqT K H p (ns.map V.int) ∧ ns.length ≤ 1000 ∧ ∀ a n, H a = none → n ≤ ns.length → Q (.ref a) (upd H a (SetO w a (fun j => decide (j ∈ ns)) n))
theorem call_setTI (hc : X.calm = true) : CallR X (.type "set") (rSetTI X.K X.w) := by
  intro pins s σ H vs us Q I r h
  obtain ⟨p0, ns, rfl, hq, hl, q⟩ := h
  rw [Vals.ref1 r]
  obtain ⟨its, rv, pt, hz⟩ := I.tuple hq
  have hi : IntsAre its.toArray.toList ns := ints_of_vals rv
  refine call_set_tupI ns (I.ok.hd hc) (show s.heap.IsTuple p0 its.toArray from pt) hi (by unfold scanBound; omega) fun h' tk c R1 hcn k => ?_
  exact ⟨.ref _, upd H s.heap.objs.size (SetO X.w s.heap.objs.size (fun j => decide (j ∈ ns)) c), I.laid (t' := tk) k (Nat.le_refl _) (setO_new R1), rfl, q _ _ (I.hok.fresh (Nat.le_refl _)) hcn⟩
end
end L2
namespace L2
open PySem PySem.Spec PyProof.Rows
end L2
namespace L2
open PySem PySem.Spec PyProof.Rows
end L2
namespace L2
open PySem PySem.Spec PyProof.Rows
end L2
namespace L2
open PySem PySem.Spec PyProof.Rows
end L2
namespace L2
open PySem PySem.Spec PyProof.Rows
end L2
namespace ZM
open PySem PySem.Spec PyProof.Rows
end ZM
namespace ZM
open PySem PySem.Spec PyProof.Rows L2 RZ
end ZM
namespace L2
open PySem PySem.Spec PyProof.Rows ZM
end L2
namespace L2
open PySem PySem.Spec PyProof.Rows
/-- what isinstance asks of a class of its own, of its instances -/
structure InsT (K : PySem.W.Frag) (C : Addr) : Prop where
  cl : PySem.W.findIn K (.ref C) "__class__" = some (some (.builtin "object.__class__"))
  gn : PySem.W.specialIn K (.builtin "object.__class__") "__get__" = some (some (.builtin "getset_descriptor.__get__"))
  tk : PySem.W.takesIn K (.builtin "object.__class__") = some true
  ob : PySem.W.mroIn K C (.type "object") = some true
end L2
namespace L2
open PySem PySem.Spec PyProof.Rows
end L2
namespace K53
open PySem L2
def topS (i : Nat) : Stmt := PySem.Challenge.pw_hookspans_k53_how_far_a_span_may_go.main.body.getD i (.Pass ⟨0, 0, 0, 0⟩)
abbrev s_divisor : Stmt := topS 12
abbrev N_divisor : List Str := ["numbers", "common", "number"]
theorem sc_divisor : FnScope N_divisor ["numbers"] (defScope s_divisor) := ⟨rfl, rfl, rfl, by decide +kernel, rfl, by decide +kernel, by decide +kernel⟩
abbrev s_lowest : Stmt := topS 13
abbrev N_lowest : List Str := ["tops", "bottom", "common", "top"]
theorem sc_lowest : FnScope N_lowest ["tops", "bottom"] (defScope s_lowest) := ⟨rfl, rfl, rfl, by decide +kernel, rfl, by decide +kernel, by decide +kernel⟩
abbrev s_fraction : Stmt := topS 14
abbrev N_fraction : List Str := ["top", "bottom", "tops", "shared"]
theorem sc_fraction : FnScope N_fraction ["top", "bottom"] (defScope s_fraction) := ⟨rfl, rfl, rfl, by decide +kernel, rfl, by decide +kernel, by decide +kernel⟩
abbrev s_is_less : Stmt := topS 15
abbrev N_is_less : List Str := ["one", "other"]
theorem sc_is_less : FnScope N_is_less ["one", "other"] (defScope s_is_less) := ⟨rfl, rfl, rfl, by decide +kernel, rfl, by decide +kernel, by decide +kernel⟩
abbrev s_corner_rows : Stmt := topS 17
abbrev N_corner_rows : List Str := ["web", "bar"]
theorem sc_corner_rows : FnScope N_corner_rows ["web"] (defScope s_corner_rows) := ⟨rfl, rfl, rfl, by decide +kernel, rfl, by decide +kernel, by decide +kernel⟩
abbrev s_ends : Stmt := topS 18
abbrev N_ends : List Str := ["bar"]
theorem sc_ends : FnScope N_ends ["bar"] (defScope s_ends) := ⟨rfl, rfl, rfl, by decide +kernel, rfl, by decide +kernel, by decide +kernel⟩
abbrev s_spread : Stmt := topS 19
abbrev N_spread : List Str := ["choices", "rows", "choice", "number", "row"]
theorem sc_spread : FnScope N_spread ["choices"] (defScope s_spread) := ⟨rfl, rfl, rfl, by decide +kernel, rfl, by decide +kernel, by decide +kernel⟩
abbrev s_exchanged : Stmt := topS 20
abbrev N_exchanged : List Str := ["row", "at", "number"]
theorem sc_exchanged : FnScope N_exchanged ["row", "at", "number"] (defScope s_exchanged) := ⟨rfl, rfl, rfl, by decide +kernel, rfl, by decide +kernel, by decide +kernel⟩
abbrev s_bar_rows : Stmt := topS 22
abbrev N_bar_rows : List Str := ["web", "numbers", "parts", "rows", "bar", "number", "row"]
theorem sc_bar_rows : FnScope N_bar_rows ["web", "numbers", "parts"] (defScope s_bar_rows) := ⟨rfl, rfl, rfl, by decide +kernel, rfl, by decide +kernel, by decide +kernel⟩
abbrev s_determinant_at : Stmt := topS 23
abbrev N_determinant_at : List Str := ["web", "numbers", "parts", "table", "_", "kept", "shared"]
theorem sc_determinant_at : FnScope N_determinant_at ["web", "numbers", "parts"] (defScope s_determinant_at) := ⟨rfl, rfl, rfl, by decide +kernel, rfl, by decide +kernel, by decide +kernel⟩
abbrev s_table : Stmt := topS 24
abbrev N_table : List Str := ["web", "numbers", "parts", "hanging", "row", "rod"]
theorem sc_table : FnScope N_table ["web", "numbers", "parts"] (defScope s_table) := ⟨rfl, rfl, rfl, by decide +kernel, rfl, by decide +kernel, by decide +kernel⟩
abbrev s_cleared : Stmt := topS 25
abbrev N_cleared : List Str := ["rows", "width", "kept", "shared", "column", "at", "found", "k"]
theorem sc_cleared : FnScope N_cleared ["rows", "width"] (defScope s_cleared) := ⟨rfl, rfl, rfl, by decide +kernel, rfl, by decide +kernel, by decide +kernel⟩
abbrev s_swapped : Stmt := topS 26
abbrev N_swapped : List Str := ["rows", "at", "other", "number"]
theorem sc_swapped : FnScope N_swapped ["rows", "at", "other"] (defScope s_swapped) := ⟨rfl, rfl, rfl, by decide +kernel, rfl, by decide +kernel, by decide +kernel⟩
abbrev s_cleared_of : Stmt := topS 27
abbrev N_cleared_of : List Str := ["rows", "at", "column", "shared", "chief", "k", "row", "against", "number"]
theorem sc_cleared_of : FnScope N_cleared_of ["rows", "at", "column", "shared"] (defScope s_cleared_of) := ⟨rfl, rfl, rfl, by decide +kernel, rfl, by decide +kernel, by decide +kernel⟩
abbrev s_check_firm : Stmt := topS 29
abbrev N_check_firm : List Str := ["web"]
theorem sc_check_firm : FnScope N_check_firm ["web"] (defScope s_check_firm) := ⟨rfl, rfl, rfl, by decide +kernel, rfl, by decide +kernel, by decide +kernel⟩
abbrev s_corner_determinants : Stmt := topS 30
abbrev N_corner_determinants : List Str := ["web", "row"]
theorem sc_corner_determinants : FnScope N_corner_determinants ["web"] (defScope s_corner_determinants) := ⟨rfl, rfl, rfl, by decide +kernel, rfl, by decide +kernel, by decide +kernel⟩
abbrev s_signs_hold : Stmt := topS 31
abbrev N_signs_hold : List Str := ["numbers", "inside", "least", "greatest"]
theorem sc_signs_hold : FnScope N_signs_hold ["numbers", "inside"] (defScope s_signs_hold) := ⟨rfl, rfl, rfl, by decide +kernel, rfl, by decide +kernel, by decide +kernel⟩
abbrev s_check_has_bar : Stmt := topS 40
abbrev N_check_has_bar : List Str := ["web", "bar"]
theorem sc_check_has_bar : FnScope N_check_has_bar ["web", "bar"] (defScope s_check_has_bar) := ⟨rfl, rfl, rfl, by decide +kernel, rfl, by decide +kernel, by decide +kernel⟩
abbrev s_check_rods : Stmt := topS 41
abbrev N_check_rods : List Str := ["rods", "held", "rod"]
theorem sc_check_rods : FnScope N_check_rods ["rods", "held"] (defScope s_check_rods) := ⟨rfl, rfl, rfl, by decide +kernel, rfl, by decide +kernel, by decide +kernel⟩
abbrev s_check_bars : Stmt := topS 42
abbrev N_check_bars : List Str := ["rods", "held", "bars", "wanted", "number", "bar"]
theorem sc_check_bars : FnScope N_check_bars ["rods", "held", "bars"] (defScope s_check_bars) := ⟨rfl, rfl, rfl, by decide +kernel, rfl, by decide +kernel, by decide +kernel⟩
abbrev s_check_bar : Stmt := topS 43
abbrev N_check_bar : List Str := ["rods", "number", "bar", "rod"]
theorem sc_check_bar : FnScope N_check_bar ["rods", "number", "bar"] (defScope s_check_bar) := ⟨rfl, rfl, rfl, by decide +kernel, rfl, by decide +kernel, by decide +kernel⟩
abbrev s_widen : Stmt := topS 46
abbrev N_widen : List Str := ["web", "bar", "length", "least", "greatest", "is_least", "is_greatest", "row", "here", "there"]
theorem sc_widen : FnScope N_widen ["web", "bar"] (defScope s_widen) := ⟨rfl, rfl, rfl, by decide +kernel, rfl, by decide +kernel, by decide +kernel⟩
abbrev s_other_corners : Stmt := topS 47
abbrev N_other_corners : List Str := ["web", "bar", "number", "choices", "other"]
theorem sc_other_corners : FnScope N_other_corners ["web", "bar", "number"] (defScope s_other_corners) := ⟨rfl, rfl, rfl, by decide +kernel, rfl, by decide +kernel, by decide +kernel⟩
abbrev s_firmness_along : Stmt := topS 48
abbrev N_firmness_along : List Str := ["web", "bar", "row", "bar_length", "here", "there", "within"]
theorem sc_firmness_along : FnScope N_firmness_along ["web", "bar", "row"] (defScope s_firmness_along) := ⟨rfl, rfl, rfl, by decide +kernel, rfl, by decide +kernel, by decide +kernel⟩
abbrev s_root : Stmt := topS 49
abbrev N_root : List Str := ["start", "goal", "here", "there", "top", "bottom"]
theorem sc_root : FnScope N_root ["start", "goal", "here", "there"] (defScope s_root) := ⟨rfl, rfl, rfl, by decide +kernel, rfl, by decide +kernel, by decide +kernel⟩
abbrev s_greater : Stmt := topS 50
abbrev N_greater : List Str := ["one", "other"]
theorem sc_greater : FnScope N_greater ["one", "other"] (defScope s_greater) := ⟨rfl, rfl, rfl, by decide +kernel, rfl, by decide +kernel, by decide +kernel⟩
abbrev s_less : Stmt := topS 51
abbrev N_less : List Str := ["one", "other"]
theorem sc_less : FnScope N_less ["one", "other"] (defScope s_less) := ⟨rfl, rfl, rfl, by decide +kernel, rfl, by decide +kernel, by decide +kernel⟩
abbrev s_l_cell_at : Stmt := topS 53
abbrev N_l_cell_at : List Str := ["_law_script", "_law_k"]
theorem sc_l_cell_at : FnScope N_l_cell_at ["_law_script", "_law_k"] (defScope s_l_cell_at) := ⟨rfl, rfl, rfl, by decide +kernel, rfl, by decide +kernel, by decide +kernel⟩
abbrev s_l_well : Stmt := topS 54
abbrev N_l_well : List Str := ["_law_cell"]
theorem sc_l_well : FnScope N_l_well ["_law_cell"] (defScope s_l_well) := ⟨rfl, rfl, rfl, by decide +kernel, rfl, by decide +kernel, by decide +kernel⟩
abbrev s_l_draw : Stmt := topS 55
abbrev N_l_draw : List Str := ["_law_well_here", "_law_many", "_law_digit", "_law_number"]
theorem sc_l_draw : FnScope N_l_draw ["_law_well_here", "_law_many"] (defScope s_l_draw) := ⟨rfl, rfl, rfl, by decide +kernel, rfl, by decide +kernel, by decide +kernel⟩
abbrev s_l_pick : Stmt := topS 56
abbrev N_l_pick : List Str := ["_law_well_here", "_law_some"]
theorem sc_l_pick : FnScope N_l_pick ["_law_well_here", "_law_some"] (defScope s_l_pick) := ⟨rfl, rfl, rfl, by decide +kernel, rfl, by decide +kernel, by decide +kernel⟩
abbrev s_l_unlike : Stmt := topS 57
abbrev N_l_unlike : List Str := ["_law_well_here", "_law_some", "_law_many", "_law_left", "_law_k"]
theorem sc_l_unlike : FnScope N_l_unlike ["_law_well_here", "_law_some", "_law_many"] (defScope s_l_unlike) := ⟨rfl, rfl, rfl, by decide +kernel, rfl, by decide +kernel, by decide +kernel⟩
abbrev s_l_bar : Stmt := topS 58
abbrev N_l_bar : List Str := ["_law_well_here", "_law_rods", "_law_most", "_law_length", "_law_least"]
theorem sc_l_bar : FnScope N_l_bar ["_law_well_here", "_law_rods", "_law_most"] (defScope s_l_bar) := ⟨rfl, rfl, rfl, by decide +kernel, rfl, by decide +kernel, by decide +kernel⟩
abbrev s_l_facts : Stmt := topS 59
abbrev N_l_facts : List Str := ["_law_well_here", "_law_most", "_law_many", "_law_count", "_law_rods", "_law_held", "_law_way", "_law_bars", "_law_k", "_law_three", "_law_rod"]
theorem sc_l_facts : FnScope N_l_facts ["_law_well_here", "_law_most"] (defScope s_l_facts) := ⟨rfl, rfl, rfl, by decide +kernel, rfl, by decide +kernel, by decide +kernel⟩
abbrev s_l_made : Stmt := topS 60
abbrev N_l_made : List Str := ["_law_facts_here", "_law_rods", "_law_held", "_law_bars", "_law_a", "_law_b", "_law_c", "_law_length", "_law_one", "_law_two"]
theorem sc_l_made : FnScope N_l_made ["_law_facts_here"] (defScope s_l_made) := ⟨rfl, rfl, rfl, by decide +kernel, rfl, by decide +kernel, by decide +kernel⟩
abbrev s_l_turned : Stmt := topS 61
abbrev N_l_turned : List Str := ["_law_table_here", "_law_found", "_law_k", "_law_number", "_law_rest", "_law_row"]
theorem sc_l_turned : FnScope N_l_turned ["_law_table_here"] (defScope s_l_turned) := ⟨rfl, rfl, rfl, by decide +kernel, rfl, by decide +kernel, by decide +kernel⟩
abbrev s_l_table : Stmt := topS 62
abbrev N_l_table : List Str := ["_law_facts_here", "_law_numbers", "_law_fine", "_law_found", "_law_bar_here", "_law_number", "_law_a", "_law_b", "_law_c", "_law_length", "_law_row"]
theorem sc_l_table : FnScope N_l_table ["_law_facts_here", "_law_numbers", "_law_fine"] (defScope s_l_table) := ⟨rfl, rfl, rfl, by decide +kernel, rfl, by decide +kernel, by decide +kernel⟩
abbrev s_l_tops : Stmt := topS 63
abbrev N_l_tops : List Str := ["_law_facts_here", "_law_numbers", "_law_fine", "_law_rods", "_law_held", "_law_bars", "_law_rows", "_law_loose", "_law_base", "_law_given", "_law_bottom", "_law_tops_here", "_law_k", "_law_rod", "_law_row", "_law_one"]
theorem sc_l_tops : FnScope N_l_tops ["_law_facts_here", "_law_numbers", "_law_fine"] (defScope s_l_tops) := ⟨rfl, rfl, rfl, by decide +kernel, rfl, by decide +kernel, by decide +kernel⟩
abbrev s_l_corners : Stmt := topS 64
abbrev N_l_corners : List Str := ["_law_facts_here", "_law_found", "_law_bar_here", "_law_longer", "_law_row", "_law_place"]
theorem sc_l_corners : FnScope N_l_corners ["_law_facts_here"] (defScope s_l_corners) := ⟨rfl, rfl, rfl, by decide +kernel, rfl, by decide +kernel, by decide +kernel⟩
abbrev s_l_is_less : Stmt := topS 65
abbrev N_l_is_less : List Str := ["_law_one", "_law_other"]
theorem sc_l_is_less : FnScope N_l_is_less ["_law_one", "_law_other"] (defScope s_l_is_less) := ⟨rfl, rfl, rfl, by decide +kernel, rfl, by decide +kernel, by decide +kernel⟩
abbrev s_l_lowered : Stmt := topS 66
abbrev N_l_lowered : List Str := ["_law_one", "_law_top", "_law_bottom", "_law_left", "_law_right"]
theorem sc_l_lowered : FnScope N_l_lowered ["_law_one"] (defScope s_l_lowered) := ⟨rfl, rfl, rfl, by decide +kernel, rfl, by decide +kernel, by decide +kernel⟩
abbrev s_l_is_sure : Stmt := topS 67
abbrev N_l_is_sure : List Str := ["_law_facts_here", "_law_some", "_law_row"]
theorem sc_l_is_sure : FnScope N_l_is_sure ["_law_facts_here"] (defScope s_l_is_sure) := ⟨rfl, rfl, rfl, by decide +kernel, rfl, by decide +kernel, by decide +kernel⟩
abbrev s_l_beside : Stmt := topS 68
abbrev N_l_beside : List Str := ["_law_facts_here", "_law_bar_here", "_law_rods", "_law_held", "_law_bars", "_law_one"]
theorem sc_l_beside : FnScope N_l_beside ["_law_facts_here", "_law_bar_here"] (defScope s_l_beside) := ⟨rfl, rfl, rfl, by decide +kernel, rfl, by decide +kernel, by decide +kernel⟩
abbrev s_l_at : Stmt := topS 69
abbrev N_l_at : List Str := ["_law_row", "_law_bar_here", "_law_number", "_law_fine", "_law_found", "_law_place"]
theorem sc_l_at : FnScope N_l_at ["_law_row", "_law_bar_here", "_law_number", "_law_fine"] (defScope s_l_at) := ⟨rfl, rfl, rfl, by decide +kernel, rfl, by decide +kernel, by decide +kernel⟩
abbrev s_l_due : Stmt := topS 70
abbrev N_l_due : List Str := ["_law_facts_here", "_law_bar_here", "_law_one", "_law_found", "_law_row", "_law_here", "_law_there", "_law_place"]
theorem sc_l_due : FnScope N_l_due ["_law_facts_here", "_law_bar_here"] (defScope s_l_due) := ⟨rfl, rfl, rfl, by decide +kernel, rfl, by decide +kernel, by decide +kernel⟩
abbrev s_l_with : Stmt := topS 71
abbrev N_l_with : List Str := ["_law_facts_here", "_law_bar_here", "_law_least", "_law_greatest", "_law_rods", "_law_held", "_law_bars"]
theorem sc_l_with : FnScope N_l_with ["_law_facts_here", "_law_bar_here", "_law_least", "_law_greatest"] (defScope s_l_with) := ⟨rfl, rfl, rfl, by decide +kernel, rfl, by decide +kernel, by decide +kernel⟩
abbrev s_l_is_nought : Stmt := topS 72
abbrev N_l_is_nought : List Str := ["_law_facts_here", "_law_bar_here", "_law_place", "_law_row"]
theorem sc_l_is_nought : FnScope N_l_is_nought ["_law_facts_here", "_law_bar_here", "_law_place"] (defScope s_l_is_nought) := ⟨rfl, rfl, rfl, by decide +kernel, rfl, by decide +kernel, by decide +kernel⟩
abbrev s_l_whole_right : Stmt := topS 73
abbrev N_l_whole_right : List Str := ["_law_facts_here", "_law_bar_here", "_law_found", "_law_one", "_law_least", "_law_greatest"]
theorem sc_l_whole_right : FnScope N_l_whole_right ["_law_facts_here", "_law_bar_here", "_law_found"] (defScope s_l_whole_right) := ⟨rfl, rfl, rfl, by decide +kernel, rfl, by decide +kernel, by decide +kernel⟩
abbrev s_law : Stmt := topS 74
abbrev N_law : List Str := ["_law_script", "_law_cell", "_law_well_here", "_law_facts_here", "_law_bar_here", "_law_due_here", "_law_found", "_law_place", "_law_is_let"]
theorem sc_law : FnScope N_law ["_law_script"] (defScope s_law) := ⟨rfl, rfl, rfl, by decide +kernel, rfl, by decide +kernel, by decide +kernel⟩
abbrev s_Bar_init : Stmt := inClass (topS 38) 0
abbrev N_Bar_init : List Str := ["self", "a", "b", "c", "length", "least", "greatest"]
theorem sc_Bar_init : FnScope N_Bar_init ["self", "a", "b", "c", "length", "least", "greatest"] (defScope s_Bar_init) := ⟨rfl, rfl, rfl, by decide +kernel, rfl, by decide +kernel, by decide +kernel⟩
abbrev s_Bar_eq : Stmt := inClass (topS 38) 1
abbrev s_Web_init : Stmt := inClass (topS 39) 0
abbrev N_Web_init : List Str := ["self", "rods", "held", "bars", "rod"]
theorem sc_Web_init : FnScope N_Web_init ["self", "rods", "held", "bars"] (defScope s_Web_init) := ⟨rfl, rfl, rfl, by decide +kernel, rfl, by decide +kernel, by decide +kernel⟩
abbrev s_Web_held : Stmt := inClass (topS 39) 1
abbrev s_Web_hanging : Stmt := inClass (topS 39) 2
abbrev N_Web_hanging : List Str := ["self", "rod"]
theorem sc_Web_hanging : FnScope N_Web_hanging ["self"] (defScope s_Web_hanging) := ⟨rfl, rfl, rfl, by decide +kernel, rfl, by decide +kernel, by decide +kernel⟩
abbrev s_Web_eq : Stmt := inClass (topS 39) 3
abbrev s_Widening_init : Stmt := inClass (topS 45) 0
abbrev N_Widening_init : List Str := ["self", "least", "greatest", "is_least", "is_greatest"]
theorem sc_Widening_init : FnScope N_Widening_init ["self", "least", "greatest", "is_least", "is_greatest"] (defScope s_Widening_init) := ⟨rfl, rfl, rfl, by decide +kernel, rfl, by decide +kernel, by decide +kernel⟩
abbrev s_Widening_eq : Stmt := inClass (topS 45) 1
abbrev N_Widening_eq : List Str := ["self", "other"]
theorem sc_Widening_eq : FnScope N_Widening_eq ["self", "other"] (defScope s_Widening_eq) := ⟨rfl, rfl, rfl, by decide +kernel, rfl, by decide +kernel, by decide +kernel⟩
abbrev s_BadCount_init : Stmt := inClass (topS 4) 0
abbrev N_BadCount_init : List Str := ["self", "what", "count"]
theorem sc_BadCount_init : FnScope N_BadCount_init ["self", "what", "count"] (defScope s_BadCount_init) := ⟨rfl, rfl, rfl, by decide +kernel, rfl, by decide +kernel, by decide +kernel⟩
abbrev s_NoRod_init : Stmt := inClass (topS 5) 0
abbrev N_NoRod_init : List Str := ["self", "rod"]
theorem sc_NoRod_init : FnScope N_NoRod_init ["self", "rod"] (defScope s_NoRod_init) := ⟨rfl, rfl, rfl, by decide +kernel, rfl, by decide +kernel, by decide +kernel⟩
abbrev s_SameRod_init : Stmt := inClass (topS 6) 0
abbrev N_SameRod_init : List Str := ["self", "rod"]
theorem sc_SameRod_init : FnScope N_SameRod_init ["self", "rod"] (defScope s_SameRod_init) := ⟨rfl, rfl, rfl, by decide +kernel, rfl, by decide +kernel, by decide +kernel⟩
abbrev s_BadSpan_init : Stmt := inClass (topS 7) 0
abbrev N_BadSpan_init : List Str := ["self", "bar"]
theorem sc_BadSpan_init : FnScope N_BadSpan_init ["self", "bar"] (defScope s_BadSpan_init) := ⟨rfl, rfl, rfl, by decide +kernel, rfl, by decide +kernel, by decide +kernel⟩
abbrev s_NotSquare_init : Stmt := inClass (topS 8) 0
abbrev N_NotSquare_init : List Str := ["self", "bars", "wanted"]
theorem sc_NotSquare_init : FnScope N_NotSquare_init ["self", "bars", "wanted"] (defScope s_NotSquare_init) := ⟨rfl, rfl, rfl, by decide +kernel, rfl, by decide +kernel, by decide +kernel⟩
/-- what the top has written -/
structure Tx (K : PySem.W.Frag) (mg : Str → Option Value) where
  a_divisor : Addr
  fd_divisor : FuncData
  F_divisor : Fun K "divisor" "divisor" s_divisor a_divisor fd_divisor
  b_divisor : Binds K fd_divisor ["numbers"] []
  m_divisor : mg "divisor" = some (.ref a_divisor)
  a_lowest : Addr
  fd_lowest : FuncData
  F_lowest : Fun K "lowest" "lowest" s_lowest a_lowest fd_lowest
  b_lowest : Binds K fd_lowest ["tops", "bottom"] []
  m_lowest : mg "lowest" = some (.ref a_lowest)
  a_fraction : Addr
  fd_fraction : FuncData
  F_fraction : Fun K "fraction" "fraction" s_fraction a_fraction fd_fraction
  b_fraction : Binds K fd_fraction ["top", "bottom"] []
  m_fraction : mg "fraction" = some (.ref a_fraction)
  a_is_less : Addr
  fd_is_less : FuncData
  F_is_less : Fun K "is_less" "is_less" s_is_less a_is_less fd_is_less
  b_is_less : Binds K fd_is_less ["one", "other"] []
  m_is_less : mg "is_less" = some (.ref a_is_less)
  a_corner_rows : Addr
  fd_corner_rows : FuncData
  F_corner_rows : Fun K "corner_rows" "corner_rows" s_corner_rows a_corner_rows fd_corner_rows
  b_corner_rows : Binds K fd_corner_rows ["web"] []
  m_corner_rows : mg "corner_rows" = some (.ref a_corner_rows)
  a_ends : Addr
  fd_ends : FuncData
  F_ends : Fun K "ends" "ends" s_ends a_ends fd_ends
  b_ends : Binds K fd_ends ["bar"] []
  m_ends : mg "ends" = some (.ref a_ends)
  a_spread : Addr
  fd_spread : FuncData
  F_spread : Fun K "spread" "spread" s_spread a_spread fd_spread
  b_spread : Binds K fd_spread ["choices"] []
  m_spread : mg "spread" = some (.ref a_spread)
  a_exchanged : Addr
  fd_exchanged : FuncData
  F_exchanged : Fun K "exchanged" "exchanged" s_exchanged a_exchanged fd_exchanged
  b_exchanged : Binds K fd_exchanged ["row", "at", "number"] []
  m_exchanged : mg "exchanged" = some (.ref a_exchanged)
  a_bar_rows : Addr
  fd_bar_rows : FuncData
  F_bar_rows : Fun K "bar_rows" "bar_rows" s_bar_rows a_bar_rows fd_bar_rows
  b_bar_rows : Binds K fd_bar_rows ["web", "numbers", "parts"] []
  m_bar_rows : mg "bar_rows" = some (.ref a_bar_rows)
  a_determinant_at : Addr
  fd_determinant_at : FuncData
  F_determinant_at : Fun K "determinant_at" "determinant_at" s_determinant_at a_determinant_at fd_determinant_at
  b_determinant_at : Binds K fd_determinant_at ["web", "numbers", "parts"] []
  m_determinant_at : mg "determinant_at" = some (.ref a_determinant_at)
  a_table : Addr
  fd_table : FuncData
  F_table : Fun K "_table" "_table" s_table a_table fd_table
  b_table : Binds K fd_table ["web", "numbers", "parts"] []
  m_table : mg "_table" = some (.ref a_table)
  a_cleared : Addr
  fd_cleared : FuncData
  F_cleared : Fun K "_cleared" "_cleared" s_cleared a_cleared fd_cleared
  b_cleared : Binds K fd_cleared ["rows", "width"] []
  m_cleared : mg "_cleared" = some (.ref a_cleared)
  a_swapped : Addr
  fd_swapped : FuncData
  F_swapped : Fun K "_swapped" "_swapped" s_swapped a_swapped fd_swapped
  b_swapped : Binds K fd_swapped ["rows", "at", "other"] []
  m_swapped : mg "_swapped" = some (.ref a_swapped)
  a_cleared_of : Addr
  fd_cleared_of : FuncData
  F_cleared_of : Fun K "_cleared_of" "_cleared_of" s_cleared_of a_cleared_of fd_cleared_of
  b_cleared_of : Binds K fd_cleared_of ["rows", "at", "column", "shared"] []
  m_cleared_of : mg "_cleared_of" = some (.ref a_cleared_of)
  a_check_firm : Addr
  fd_check_firm : FuncData
  F_check_firm : Fun K "check_firm" "check_firm" s_check_firm a_check_firm fd_check_firm
  b_check_firm : Binds K fd_check_firm ["web"] []
  m_check_firm : mg "check_firm" = some (.ref a_check_firm)
  a_corner_determinants : Addr
  fd_corner_determinants : FuncData
  F_corner_determinants : Fun K "_corner_determinants" "_corner_determinants" s_corner_determinants a_corner_determinants fd_corner_determinants
  b_corner_determinants : Binds K fd_corner_determinants ["web"] []
  m_corner_determinants : mg "_corner_determinants" = some (.ref a_corner_determinants)
  a_signs_hold : Addr
  fd_signs_hold : FuncData
  F_signs_hold : Fun K "_signs_hold" "_signs_hold" s_signs_hold a_signs_hold fd_signs_hold
  b_signs_hold : Binds K fd_signs_hold ["numbers", "inside"] []
  m_signs_hold : mg "_signs_hold" = some (.ref a_signs_hold)
  a_check_has_bar : Addr
  fd_check_has_bar : FuncData
  F_check_has_bar : Fun K "check_has_bar" "check_has_bar" s_check_has_bar a_check_has_bar fd_check_has_bar
  b_check_has_bar : Binds K fd_check_has_bar ["web", "bar"] []
  m_check_has_bar : mg "check_has_bar" = some (.ref a_check_has_bar)
  a_check_rods : Addr
  fd_check_rods : FuncData
  F_check_rods : Fun K "_check_rods" "_check_rods" s_check_rods a_check_rods fd_check_rods
  b_check_rods : Binds K fd_check_rods ["rods", "held"] []
  m_check_rods : mg "_check_rods" = some (.ref a_check_rods)
  a_check_bars : Addr
  fd_check_bars : FuncData
  F_check_bars : Fun K "_check_bars" "_check_bars" s_check_bars a_check_bars fd_check_bars
  b_check_bars : Binds K fd_check_bars ["rods", "held", "bars"] []
  m_check_bars : mg "_check_bars" = some (.ref a_check_bars)
  a_check_bar : Addr
  fd_check_bar : FuncData
  F_check_bar : Fun K "_check_bar" "_check_bar" s_check_bar a_check_bar fd_check_bar
  b_check_bar : Binds K fd_check_bar ["rods", "number", "bar"] []
  m_check_bar : mg "_check_bar" = some (.ref a_check_bar)
  a_widen : Addr
  fd_widen : FuncData
  F_widen : Fun K "widen" "widen" s_widen a_widen fd_widen
  b_widen : Binds K fd_widen ["web", "bar"] []
  m_widen : mg "widen" = some (.ref a_widen)
  a_other_corners : Addr
  fd_other_corners : FuncData
  F_other_corners : Fun K "_other_corners" "_other_corners" s_other_corners a_other_corners fd_other_corners
  b_other_corners : Binds K fd_other_corners ["web", "bar", "number"] []
  m_other_corners : mg "_other_corners" = some (.ref a_other_corners)
  a_firmness_along : Addr
  fd_firmness_along : FuncData
  F_firmness_along : Fun K "_firmness_along" "_firmness_along" s_firmness_along a_firmness_along fd_firmness_along
  b_firmness_along : Binds K fd_firmness_along ["web", "bar", "row"] []
  m_firmness_along : mg "_firmness_along" = some (.ref a_firmness_along)
  a_root : Addr
  fd_root : FuncData
  F_root : Fun K "_root" "_root" s_root a_root fd_root
  b_root : Binds K fd_root ["start", "goal", "here", "there"] []
  m_root : mg "_root" = some (.ref a_root)
  a_greater : Addr
  fd_greater : FuncData
  F_greater : Fun K "_greater" "_greater" s_greater a_greater fd_greater
  b_greater : Binds K fd_greater ["one", "other"] []
  m_greater : mg "_greater" = some (.ref a_greater)
  a_less : Addr
  fd_less : FuncData
  F_less : Fun K "_less" "_less" s_less a_less fd_less
  b_less : Binds K fd_less ["one", "other"] []
  m_less : mg "_less" = some (.ref a_less)
  a_l_cell_at : Addr
  fd_l_cell_at : FuncData
  F_l_cell_at : Fun K "_law_cell_at" "_law_cell_at" s_l_cell_at a_l_cell_at fd_l_cell_at
  b_l_cell_at : Binds K fd_l_cell_at ["_law_script", "_law_k"] []
  m_l_cell_at : mg "_law_cell_at" = some (.ref a_l_cell_at)
  a_l_well : Addr
  fd_l_well : FuncData
  F_l_well : Fun K "_law_well" "_law_well" s_l_well a_l_well fd_l_well
  b_l_well : Binds K fd_l_well ["_law_cell"] []
  m_l_well : mg "_law_well" = some (.ref a_l_well)
  a_l_draw : Addr
  fd_l_draw : FuncData
  F_l_draw : Fun K "_law_draw" "_law_draw" s_l_draw a_l_draw fd_l_draw
  b_l_draw : Binds K fd_l_draw ["_law_well_here", "_law_many"] []
  m_l_draw : mg "_law_draw" = some (.ref a_l_draw)
  a_l_pick : Addr
  fd_l_pick : FuncData
  F_l_pick : Fun K "_law_pick" "_law_pick" s_l_pick a_l_pick fd_l_pick
  b_l_pick : Binds K fd_l_pick ["_law_well_here", "_law_some"] []
  m_l_pick : mg "_law_pick" = some (.ref a_l_pick)
  a_l_unlike : Addr
  fd_l_unlike : FuncData
  F_l_unlike : Fun K "_law_unlike" "_law_unlike" s_l_unlike a_l_unlike fd_l_unlike
  b_l_unlike : Binds K fd_l_unlike ["_law_well_here", "_law_some", "_law_many"] []
  m_l_unlike : mg "_law_unlike" = some (.ref a_l_unlike)
  a_l_bar : Addr
  fd_l_bar : FuncData
  F_l_bar : Fun K "_law_bar" "_law_bar" s_l_bar a_l_bar fd_l_bar
  b_l_bar : Binds K fd_l_bar ["_law_well_here", "_law_rods", "_law_most"] []
  m_l_bar : mg "_law_bar" = some (.ref a_l_bar)
  a_l_facts : Addr
  fd_l_facts : FuncData
  F_l_facts : Fun K "_law_facts" "_law_facts" s_l_facts a_l_facts fd_l_facts
  b_l_facts : Binds K fd_l_facts ["_law_well_here", "_law_most"] []
  m_l_facts : mg "_law_facts" = some (.ref a_l_facts)
  a_l_made : Addr
  fd_l_made : FuncData
  F_l_made : Fun K "_law_made" "_law_made" s_l_made a_l_made fd_l_made
  b_l_made : Binds K fd_l_made ["_law_facts_here"] []
  m_l_made : mg "_law_made" = some (.ref a_l_made)
  a_l_turned : Addr
  fd_l_turned : FuncData
  F_l_turned : Fun K "_law_turned" "_law_turned" s_l_turned a_l_turned fd_l_turned
  b_l_turned : Binds K fd_l_turned ["_law_table_here"] []
  m_l_turned : mg "_law_turned" = some (.ref a_l_turned)
  a_l_table : Addr
  fd_l_table : FuncData
  F_l_table : Fun K "_law_table" "_law_table" s_l_table a_l_table fd_l_table
  b_l_table : Binds K fd_l_table ["_law_facts_here", "_law_numbers", "_law_fine"] []
  m_l_table : mg "_law_table" = some (.ref a_l_table)
  a_l_tops : Addr
  fd_l_tops : FuncData
  F_l_tops : Fun K "_law_tops" "_law_tops" s_l_tops a_l_tops fd_l_tops
  b_l_tops : Binds K fd_l_tops ["_law_facts_here", "_law_numbers", "_law_fine"] []
  m_l_tops : mg "_law_tops" = some (.ref a_l_tops)
  a_l_corners : Addr
  fd_l_corners : FuncData
  F_l_corners : Fun K "_law_corners" "_law_corners" s_l_corners a_l_corners fd_l_corners
  b_l_corners : Binds K fd_l_corners ["_law_facts_here"] []
  m_l_corners : mg "_law_corners" = some (.ref a_l_corners)
  a_l_is_less : Addr
  fd_l_is_less : FuncData
  F_l_is_less : Fun K "_law_is_less" "_law_is_less" s_l_is_less a_l_is_less fd_l_is_less
  b_l_is_less : Binds K fd_l_is_less ["_law_one", "_law_other"] []
  m_l_is_less : mg "_law_is_less" = some (.ref a_l_is_less)
  a_l_lowered : Addr
  fd_l_lowered : FuncData
  F_l_lowered : Fun K "_law_lowered" "_law_lowered" s_l_lowered a_l_lowered fd_l_lowered
  b_l_lowered : Binds K fd_l_lowered ["_law_one"] []
  m_l_lowered : mg "_law_lowered" = some (.ref a_l_lowered)
  a_l_is_sure : Addr
  fd_l_is_sure : FuncData
  F_l_is_sure : Fun K "_law_is_sure" "_law_is_sure" s_l_is_sure a_l_is_sure fd_l_is_sure
  b_l_is_sure : Binds K fd_l_is_sure ["_law_facts_here"] []
  m_l_is_sure : mg "_law_is_sure" = some (.ref a_l_is_sure)
  a_l_beside : Addr
  fd_l_beside : FuncData
  F_l_beside : Fun K "_law_beside" "_law_beside" s_l_beside a_l_beside fd_l_beside
  b_l_beside : Binds K fd_l_beside ["_law_facts_here", "_law_bar_here"] []
  m_l_beside : mg "_law_beside" = some (.ref a_l_beside)
  a_l_at : Addr
  fd_l_at : FuncData
  F_l_at : Fun K "_law_at" "_law_at" s_l_at a_l_at fd_l_at
  b_l_at : Binds K fd_l_at ["_law_row", "_law_bar_here", "_law_number", "_law_fine"] []
  m_l_at : mg "_law_at" = some (.ref a_l_at)
  a_l_due : Addr
  fd_l_due : FuncData
  F_l_due : Fun K "_law_due" "_law_due" s_l_due a_l_due fd_l_due
  b_l_due : Binds K fd_l_due ["_law_facts_here", "_law_bar_here"] []
  m_l_due : mg "_law_due" = some (.ref a_l_due)
  a_l_with : Addr
  fd_l_with : FuncData
  F_l_with : Fun K "_law_with" "_law_with" s_l_with a_l_with fd_l_with
  b_l_with : Binds K fd_l_with ["_law_facts_here", "_law_bar_here", "_law_least", "_law_greatest"] []
  m_l_with : mg "_law_with" = some (.ref a_l_with)
  a_l_is_nought : Addr
  fd_l_is_nought : FuncData
  F_l_is_nought : Fun K "_law_is_nought" "_law_is_nought" s_l_is_nought a_l_is_nought fd_l_is_nought
  b_l_is_nought : Binds K fd_l_is_nought ["_law_facts_here", "_law_bar_here", "_law_place"] []
  m_l_is_nought : mg "_law_is_nought" = some (.ref a_l_is_nought)
  a_l_whole_right : Addr
  fd_l_whole_right : FuncData
  F_l_whole_right : Fun K "_law_whole_right" "_law_whole_right" s_l_whole_right a_l_whole_right fd_l_whole_right
  b_l_whole_right : Binds K fd_l_whole_right ["_law_facts_here", "_law_bar_here", "_law_found"] []
  m_l_whole_right : mg "_law_whole_right" = some (.ref a_l_whole_right)
  a_law : Addr
  fd_law : FuncData
  F_law : Fun K "law" "law" s_law a_law fd_law
  b_law : Binds K fd_law ["_law_script"] []
  m_law : mg "law" = some (.ref a_law)
  C_Bar : Addr
  m_Bar : mg "Bar" = some (.ref C_Bar)
  c_Bar : Cls K C_Bar
  mk_Bar : PySem.W.makesIn K C_Bar = true
  nf_Bar_a : NoAttr K C_Bar "a"
  nf_Bar_b : NoAttr K C_Bar "b"
  nf_Bar_c : NoAttr K C_Bar "c"
  nf_Bar_length : NoAttr K C_Bar "length"
  nf_Bar_least : NoAttr K C_Bar "least"
  nf_Bar_greatest : NoAttr K C_Bar "greatest"
  a_Bar_init : Addr
  fd_Bar_init : FuncData
  F_Bar_init : Fun K "__init__" "Bar.__init__" s_Bar_init a_Bar_init fd_Bar_init
  b_Bar_init : Binds K fd_Bar_init ["self", "a", "b", "c", "length", "least", "greatest"] []
  k_Bar : Mk K C_Bar a_Bar_init
  a_Bar_eq : Addr
  fd_Bar_eq : FuncData
  F_Bar_eq : Fun K "__eq__" "Bar.__eq__" s_Bar_eq a_Bar_eq fd_Bar_eq
  b_Bar_eq : Binds K fd_Bar_eq ["self", "other"] []
  M_Bar_eq : Meth K C_Bar "__eq__" a_Bar_eq
  ef_Bar : eqFacts K C_Bar = true
  ne_Bar : LxE.NeFacts K C_Bar
  C_Web : Addr
  m_Web : mg "Web" = some (.ref C_Web)
  c_Web : Cls K C_Web
  mk_Web : PySem.W.makesIn K C_Web = true
  nf_Web_rods : NoAttr K C_Web "rods"
  nf_Web_bars : NoAttr K C_Web "bars"
  nf_Web_held : NoAttr K C_Web "_held"
  a_Web_init : Addr
  fd_Web_init : FuncData
  F_Web_init : Fun K "__init__" "Web.__init__" s_Web_init a_Web_init fd_Web_init
  b_Web_init : Binds K fd_Web_init ["self", "rods", "held", "bars"] []
  k_Web : Mk K C_Web a_Web_init
  a_Web_held : Addr
  fd_Web_held : FuncData
  F_Web_held : Fun K "held" "Web.held" s_Web_held a_Web_held fd_Web_held
  b_Web_held : Binds K fd_Web_held ["self"] []
  M_Web_held : Meth K C_Web "held" a_Web_held
  a_Web_hanging : Addr
  fd_Web_hanging : FuncData
  F_Web_hanging : Fun K "hanging" "Web.hanging" s_Web_hanging a_Web_hanging fd_Web_hanging
  b_Web_hanging : Binds K fd_Web_hanging ["self"] []
  M_Web_hanging : Meth K C_Web "hanging" a_Web_hanging
  a_Web_eq : Addr
  fd_Web_eq : FuncData
  F_Web_eq : Fun K "__eq__" "Web.__eq__" s_Web_eq a_Web_eq fd_Web_eq
  b_Web_eq : Binds K fd_Web_eq ["self", "other"] []
  M_Web_eq : Meth K C_Web "__eq__" a_Web_eq
  ef_Web : eqFacts K C_Web = true
  ne_Web : LxE.NeFacts K C_Web
  C_Widening : Addr
  m_Widening : mg "Widening" = some (.ref C_Widening)
  c_Widening : Cls K C_Widening
  mk_Widening : PySem.W.makesIn K C_Widening = true
  nf_Widening_least : NoAttr K C_Widening "least"
  nf_Widening_greatest : NoAttr K C_Widening "greatest"
  nf_Widening_is_least : NoAttr K C_Widening "is_least"
  nf_Widening_is_greatest : NoAttr K C_Widening "is_greatest"
  a_Widening_init : Addr
  fd_Widening_init : FuncData
  F_Widening_init : Fun K "__init__" "Widening.__init__" s_Widening_init a_Widening_init fd_Widening_init
  b_Widening_init : Binds K fd_Widening_init ["self", "least", "greatest", "is_least", "is_greatest"] []
  k_Widening : Mk K C_Widening a_Widening_init
  a_Widening_eq : Addr
  fd_Widening_eq : FuncData
  F_Widening_eq : Fun K "__eq__" "Widening.__eq__" s_Widening_eq a_Widening_eq fd_Widening_eq
  b_Widening_eq : Binds K fd_Widening_eq ["self", "other"] []
  M_Widening_eq : Meth K C_Widening "__eq__" a_Widening_eq
  ef_Widening : eqFacts K C_Widening = true
  ne_Widening : LxE.NeFacts K C_Widening
  nfst_Bar_Bar : PySem.W.notFirst K C_Bar (.ref C_Bar) = true
  nfst_Bar_Web : PySem.W.notFirst K C_Bar (.ref C_Web) = true
  dc_Bar_Web : C_Bar ≠ C_Web
  nfst_Bar_Widening : PySem.W.notFirst K C_Bar (.ref C_Widening) = true
  dc_Bar_Widening : C_Bar ≠ C_Widening
  nfst_Web_Bar : PySem.W.notFirst K C_Web (.ref C_Bar) = true
  nfst_Web_Web : PySem.W.notFirst K C_Web (.ref C_Web) = true
  nfst_Web_Widening : PySem.W.notFirst K C_Web (.ref C_Widening) = true
  dc_Web_Widening : C_Web ≠ C_Widening
  nfst_Widening_Bar : PySem.W.notFirst K C_Widening (.ref C_Bar) = true
  nfst_Widening_Web : PySem.W.notFirst K C_Widening (.ref C_Web) = true
  nfst_Widening_Widening : PySem.W.notFirst K C_Widening (.ref C_Widening) = true
  C_HooksError : Addr
  m_HooksError : mg "HooksError" = some (.ref C_HooksError)
  C_BadCount : Addr
  O_BadCount : OexC K C_BadCount
  m_BadCount : mg "BadCount" = some (.ref C_BadCount)
  isC_BadCount : ExcC K C_BadCount
  xf_BadCount : XfC K C_BadCount
  exm_BadCount_HooksError : PySem.W.exmOne K (.ref C_BadCount) (.ref C_HooksError) = some true
  a_BadCount_init : Addr
  fd_BadCount_init : FuncData
  F_BadCount_init : Fun K "__init__" "BadCount.__init__" s_BadCount_init a_BadCount_init fd_BadCount_init
  b_BadCount_init : Binds K fd_BadCount_init ["self", "what", "count"] []
  nf_BadCount_what : PySem.W.findIn K (.ref C_BadCount) "what" = some none
  nf_BadCount_count : PySem.W.findIn K (.ref C_BadCount) "count" = some none
  X_BadCount : XCls K mg "BadCount" C_BadCount a_BadCount_init fd_BadCount_init ["self", "what", "count"]
  C_NoRod : Addr
  O_NoRod : OexC K C_NoRod
  m_NoRod : mg "NoRod" = some (.ref C_NoRod)
  isC_NoRod : ExcC K C_NoRod
  xf_NoRod : XfC K C_NoRod
  exm_NoRod_HooksError : PySem.W.exmOne K (.ref C_NoRod) (.ref C_HooksError) = some true
  a_NoRod_init : Addr
  fd_NoRod_init : FuncData
  F_NoRod_init : Fun K "__init__" "NoRod.__init__" s_NoRod_init a_NoRod_init fd_NoRod_init
  b_NoRod_init : Binds K fd_NoRod_init ["self", "rod"] []
  nf_NoRod_rod : PySem.W.findIn K (.ref C_NoRod) "rod" = some none
  X_NoRod : XCls K mg "NoRod" C_NoRod a_NoRod_init fd_NoRod_init ["self", "rod"]
  C_SameRod : Addr
  O_SameRod : OexC K C_SameRod
  m_SameRod : mg "SameRod" = some (.ref C_SameRod)
  isC_SameRod : ExcC K C_SameRod
  xf_SameRod : XfC K C_SameRod
  exm_SameRod_HooksError : PySem.W.exmOne K (.ref C_SameRod) (.ref C_HooksError) = some true
  a_SameRod_init : Addr
  fd_SameRod_init : FuncData
  F_SameRod_init : Fun K "__init__" "SameRod.__init__" s_SameRod_init a_SameRod_init fd_SameRod_init
  b_SameRod_init : Binds K fd_SameRod_init ["self", "rod"] []
  nf_SameRod_rod : PySem.W.findIn K (.ref C_SameRod) "rod" = some none
  X_SameRod : XCls K mg "SameRod" C_SameRod a_SameRod_init fd_SameRod_init ["self", "rod"]
  C_BadSpan : Addr
  O_BadSpan : OexC K C_BadSpan
  m_BadSpan : mg "BadSpan" = some (.ref C_BadSpan)
  isC_BadSpan : ExcC K C_BadSpan
  xf_BadSpan : XfC K C_BadSpan
  exm_BadSpan_HooksError : PySem.W.exmOne K (.ref C_BadSpan) (.ref C_HooksError) = some true
  a_BadSpan_init : Addr
  fd_BadSpan_init : FuncData
  F_BadSpan_init : Fun K "__init__" "BadSpan.__init__" s_BadSpan_init a_BadSpan_init fd_BadSpan_init
  b_BadSpan_init : Binds K fd_BadSpan_init ["self", "bar"] []
  nf_BadSpan_bar : PySem.W.findIn K (.ref C_BadSpan) "bar" = some none
  X_BadSpan : XCls K mg "BadSpan" C_BadSpan a_BadSpan_init fd_BadSpan_init ["self", "bar"]
  C_NotSquare : Addr
  O_NotSquare : OexC K C_NotSquare
  m_NotSquare : mg "NotSquare" = some (.ref C_NotSquare)
  isC_NotSquare : ExcC K C_NotSquare
  xf_NotSquare : XfC K C_NotSquare
  exm_NotSquare_HooksError : PySem.W.exmOne K (.ref C_NotSquare) (.ref C_HooksError) = some true
  a_NotSquare_init : Addr
  fd_NotSquare_init : FuncData
  F_NotSquare_init : Fun K "__init__" "NotSquare.__init__" s_NotSquare_init a_NotSquare_init fd_NotSquare_init
  b_NotSquare_init : Binds K fd_NotSquare_init ["self", "bars", "wanted"] []
  nf_NotSquare_bars : PySem.W.findIn K (.ref C_NotSquare) "bars" = some none
  nf_NotSquare_wanted : PySem.W.findIn K (.ref C_NotSquare) "wanted" = some none
  X_NotSquare : XCls K mg "NotSquare" C_NotSquare a_NotSquare_init fd_NotSquare_init ["self", "bars", "wanted"]
  C_Loose : Addr
  O_Loose : OexC K C_Loose
  m_Loose : mg "Loose" = some (.ref C_Loose)
  isC_Loose : ExcC K C_Loose
  xi_Loose : PySem.W.excIn K C_Loose [.type "ValueError", .type "Exception", .type "BaseException", .type "object"] "ValueError.__new__" = true
  exs_Loose : PySem.W.exmOne K (.ref C_Loose) (.ref C_Loose) = some true
  xf_Loose : XfC K C_Loose
  exm_Loose_HooksError : PySem.W.exmOne K (.ref C_Loose) (.ref C_HooksError) = some true
  ii_Widening : InsT K C_Widening
  z_abs : mg "abs" = none
  z_len : mg "len" = none
  z_range : mg "range" = none
  z_tuple : mg "tuple" = none
  z_list : mg "list" = none
  z_dict : mg "dict" = none
  z_sorted : mg "sorted" = none
  z_enumerate : mg "enumerate" = none
  z_zip : mg "zip" = none
  z_min : mg "min" = none
  z_max : mg "max" = none
  z_all : mg "all" = none
  z_any : mg "any" = none
  z_int : mg "int" = none
  z_isinstance : mg "isinstance" = none
  z_type : mg "type" = none
  z_set : mg "set" = none
  z_sum : mg "sum" = none
  z_bool : mg "bool" = none
  m_gcd : mg "gcd" = some (.builtin "math.gcd")
  t_LEAST_RODS : Tok
  m_LEAST_RODS : mg "LEAST_RODS" = some (.int 3 t_LEAST_RODS)
  t_MOST_RODS : Tok
  m_MOST_RODS : mg "MOST_RODS" = some (.int 10 t_MOST_RODS)
  t_MOST_BARS : Tok
  m_MOST_BARS : mg "MOST_BARS" = some (.int 8 t_MOST_BARS)
  t_MOST_HEIGHT : Tok
  m_MOST_HEIGHT : mg "MOST_HEIGHT" = some (.int 1000000 t_MOST_HEIGHT)
  t_MOST_LENGTH : Tok
  m_MOST_LENGTH : mg "MOST_LENGTH" = some (.int 1000000 t_MOST_LENGTH)
end K53
namespace K53
open PySem L2
section
variable {P : Program} {w : World} {K : PySem.W.Frag} {mg : Str → Option Value} {base : Heap}
def fo1 (f : Str) : List V → List (Str × V) := fun ws => match ws with | [x] => [(f, x)] | _ => []
def fo2 (f g : Str) : List V → List (Str × V) := fun ws => match ws with | [x, y] => [(g, y), (f, x)] | _ => []
theorem ok_BadCount_init (T : Tx K mg) : FnOk P w K mg base CX0 1 T.a_BadCount_init T.fd_BadCount_init ["self", "what", "count"] (spX T.C_BadCount 2 (fo2 "what" "count")) := by
  refine T.F_BadCount_init.ok sc_BadCount_init (fun vs H Q E h => ?_) (fun cdv A outer s H vs Q E hr h => ?_)
  · obtain ⟨H0, a, ws, rfl, hn, _⟩ := h
    rw [List.length_cons, hn] <;> rfl
  · obtain ⟨H0, a, ws, rfl, hn, ha, rfl, k⟩ := h
    match ws, hn with
    | [x, y], _ =>
      refine ⟨_, pss_cons (ps_ost (pv 0) (pv 1)) (pss_one (ps_ost (pv 0) (pv 2))), ?_⟩
      refine ⟨_, rfl, _, rfl, a, T.C_BadCount, rfl, T.O_BadCount, T.nf_BadCount_what, .inl ⟨upd_same, fun d hd hda => ?_⟩⟩
      rw [upd_ne hda] at hd
      rw [exo1 hda]
      refine ⟨_, rfl, _, rfl, a, T.C_BadCount, rfl, T.O_BadCount, T.nf_BadCount_count, .inr ⟨d, _, upd_same, by rw [upd_ne hda, upd_same], by show 1 ≤ 900; decide, ?_⟩⟩
      rw [exo2 hda]
      exact k d hd hda
theorem ok_NotSquare_init (T : Tx K mg) : FnOk P w K mg base CX0 1 T.a_NotSquare_init T.fd_NotSquare_init ["self", "bars", "wanted"] (spX T.C_NotSquare 2 (fo2 "bars" "wanted")) := by
  refine T.F_NotSquare_init.ok sc_NotSquare_init (fun vs H Q E h => ?_) (fun cdv A outer s H vs Q E hr h => ?_)
  · obtain ⟨H0, a, ws, rfl, hn, _⟩ := h
    rw [List.length_cons, hn] <;> rfl
  · obtain ⟨H0, a, ws, rfl, hn, ha, rfl, k⟩ := h
    match ws, hn with
    | [x, y], _ =>
      refine ⟨_, pss_cons (ps_ost (pv 0) (pv 1)) (pss_one (ps_ost (pv 0) (pv 2))), ?_⟩
      refine ⟨_, rfl, _, rfl, a, T.C_NotSquare, rfl, T.O_NotSquare, T.nf_NotSquare_bars, .inl ⟨upd_same, fun d hd hda => ?_⟩⟩
      rw [upd_ne hda] at hd
      rw [exo1 hda]
      refine ⟨_, rfl, _, rfl, a, T.C_NotSquare, rfl, T.O_NotSquare, T.nf_NotSquare_wanted, .inr ⟨d, _, upd_same, by rw [upd_ne hda, upd_same], by show 1 ≤ 900; decide, ?_⟩⟩
      rw [exo2 hda]
      exact k d hd hda
theorem ok_NoRod_init (T : Tx K mg) : FnOk P w K mg base CX0 1 T.a_NoRod_init T.fd_NoRod_init ["self", "rod"] (spX T.C_NoRod 1 (fo1 "rod")) := by
  refine T.F_NoRod_init.ok sc_NoRod_init (fun vs H Q E h => ?_) (fun cdv A outer s H vs Q E hr h => ?_)
  · obtain ⟨H0, a, ws, rfl, hn, _⟩ := h
    rw [List.length_cons, hn] <;> rfl
  · obtain ⟨H0, a, ws, rfl, hn, ha, rfl, k⟩ := h
    match ws, hn with
    | [x], _ =>
      refine ⟨_, pss_one (ps_ost (pv 0) (pv 1)), ?_⟩
      refine ⟨_, rfl, _, rfl, a, T.C_NoRod, rfl, T.O_NoRod, T.nf_NoRod_rod, .inl ⟨upd_same, fun d hd hda => ?_⟩⟩
      rw [upd_ne hda] at hd
      rw [exo1 hda]
      exact k d hd hda
theorem ok_SameRod_init (T : Tx K mg) : FnOk P w K mg base CX0 1 T.a_SameRod_init T.fd_SameRod_init ["self", "rod"] (spX T.C_SameRod 1 (fo1 "rod")) := by
  refine T.F_SameRod_init.ok sc_SameRod_init (fun vs H Q E h => ?_) (fun cdv A outer s H vs Q E hr h => ?_)
  · obtain ⟨H0, a, ws, rfl, hn, _⟩ := h
    rw [List.length_cons, hn] <;> rfl
  · obtain ⟨H0, a, ws, rfl, hn, ha, rfl, k⟩ := h
    match ws, hn with
    | [x], _ =>
      refine ⟨_, pss_one (ps_ost (pv 0) (pv 1)), ?_⟩
      refine ⟨_, rfl, _, rfl, a, T.C_SameRod, rfl, T.O_SameRod, T.nf_SameRod_rod, .inl ⟨upd_same, fun d hd hda => ?_⟩⟩
      rw [upd_ne hda] at hd
      rw [exo1 hda]
      exact k d hd hda
theorem ok_BadSpan_init (T : Tx K mg) : FnOk P w K mg base CX0 1 T.a_BadSpan_init T.fd_BadSpan_init ["self", "bar"] (spX T.C_BadSpan 1 (fo1 "bar")) := by
  refine T.F_BadSpan_init.ok sc_BadSpan_init (fun vs H Q E h => ?_) (fun cdv A outer s H vs Q E hr h => ?_)
  · obtain ⟨H0, a, ws, rfl, hn, _⟩ := h
    rw [List.length_cons, hn] <;> rfl
  · obtain ⟨H0, a, ws, rfl, hn, ha, rfl, k⟩ := h
    match ws, hn with
    | [x], _ =>
      refine ⟨_, pss_one (ps_ost (pv 0) (pv 1)), ?_⟩
      refine ⟨_, rfl, _, rfl, a, T.C_BadSpan, rfl, T.O_BadSpan, T.nf_BadSpan_bar, .inl ⟨upd_same, fun d hd hda => ?_⟩⟩
      rw [upd_ne hda] at hd
      rw [exo1 hda]
      exact k d hd hda
inductive Rf where
  | cnt (what : Str) (n : Int) | rod (n : Int) | same (n : Int) | span (n : Int) | sq (a b : Int)
def Rf.fs : Rf → List (Str × V)
  | .cnt x n => [("count", .int n), ("what", .str x)]
  | .rod n => [("rod", .int n)]
  | .same n => [("rod", .int n)]
  | .span n => [("bar", .int n)]
  | .sq a b => [("wanted", .int b), ("bars", .int a)]
def Rf.C (T : Tx K mg) : Rf → Addr
  | .cnt _ _ => T.C_BadCount
  | .rod _ => T.C_NoRod
  | .same _ => T.C_SameRod
  | .span _ => T.C_BadSpan
  | .sq _ _ => T.C_NotSquare
def Rf.E (T : Tx K mg) (r : Rf) (E : XK) (H : Hp) : Prop := ∀ d H', Ext H H' → H d = none → H' d = some (.xd r.fs) → E (.ref (r.C T)) (some d) H'
structure BarD where
  a : Int
  b : Int
  c : Int
  len : Int
  lo : Int
  hi : Int
  deriving DecidableEq
abbrev brF : List Str := ["a", "b", "c", "length", "least", "greatest"]
def brV (b : BarD) : List V := [.int b.a, .int b.b, .int b.c, .int b.len, .int b.lo, .int b.hi]
def brT (b : BarD) : List Dt := [.int b.a, .int b.b, .int b.c, .int b.len, .int b.lo, .int b.hi]
def brD (C : Addr) (b : BarD) : Dt := .ins C brF (brT b)
theorem br_fields {C : Addr} {H : Hp} {b : BarD} {v : V} (i : Is K H (brD C b) v) : ∃ a dx, v = .ref a ∧ H a = some (.ins C dx [("a", .int b.a), ("b", .int b.b), ("c", .int b.c), ("length", .int b.len), ("least", .int b.lo), ("greatest", .int b.hi)]) := by
  obtain ⟨a, dx, kvs, rfl, ha, ek, hl⟩ := i
  obtain ⟨v1, r1, e1, f1, v2, r2, e2, f2, v3, r3, e3, f3, v4, r4, e4, f4, v5, r5, e5, f5, v6, r6, e6, f6, e7⟩ := hl
  subst e7 e6 e5 e4 e3 e2
  cases (show v1 = _ from f1)
  cases (show v2 = _ from f2)
  cases (show v3 = _ from f3)
  cases (show v4 = _ from f4)
  cases (show v5 = _ from f5)
  cases (show v6 = _ from f6)
  refine ⟨a, dx, rfl, ?_⟩
  match kvs, ek, e1 with
  | [(x1, y1), (x2, y2), (x3, y3), (x4, y4), (x5, y5), (x6, y6)], ek, e1 =>
    simp only [List.map_cons, List.map_nil] at ek e1
    injection ek with g1 ek
    injection ek with g2 ek
    injection ek with g3 ek
    injection ek with g4 ek
    injection ek with g5 ek
    injection ek with g6 _
    injection e1 with h1 e1
    injection e1 with h2 e1
    injection e1 with h3 e1
    injection e1 with h4 e1
    injection e1 with h5 e1
    injection e1 with h6 _
    subst g1 g2 g3 g4 g5 g6 h1 h2 h3 h4 h5 h6
    exact ha
theorem br_is {C a dx : Addr} {H : Hp} {b : BarD} (h : H a = some (.ins C dx [("a", .int b.a), ("b", .int b.b), ("c", .int b.c), ("length", .int b.len), ("least", .int b.lo), ("greatest", .int b.hi)])) : Is K H (brD C b) (.ref a) :=
  ⟨a, dx, _, rfl, h, rfl, _, _, rfl, rfl, _, _, rfl, rfl, _, _, rfl, rfl, _, _, rfl, rfl, _, _, rfl, rfl, _, _, rfl, rfl, rfl⟩
def spBar (K : PySem.W.Frag) (C : Addr) : Sp := fun vs H Q _ => ∃ (H0 : Hp) (x dx : Addr) (b : BarD), vs = .ref x :: brV b ∧ H0 x = none ∧ H0 dx = none ∧ dx ≠ x ∧ H = upd (upd H0 dx (.own x)) x (.ins C dx []) ∧ ∀ H', Ext H0 H' → Is K H' (brD C b) (.ref x) → Q .non H'
theorem ok_Bar_init (T : Tx K mg) : FnOk P w K mg base (L2.CX P w) 2 T.a_Bar_init T.fd_Bar_init ["self", "a", "b", "c", "length", "least", "greatest"] (spBar K T.C_Bar) := by
  refine T.F_Bar_init.okX sc_Bar_init (fun vs H Q E h => ?_) (fun cdv A outer s H vs Q E hr h => ?_)
  · obtain ⟨H0, x, dx, b, rfl, _⟩ := h
    rfl
  · obtain ⟨H0, x, dx, b, rfl, hx, hdx, hne, rfl, k⟩ := h
    refine ⟨_, (pss_cons (ps_fld (pv 0) (pv 1) rfl)
      (pss_cons (ps_fld (pv 0) (pv 2) rfl)
      (pss_cons (ps_fld (pv 0) (pv 3) rfl)
      (pss_cons (ps_fld (pv 0) (pv 4) rfl)
      (pss_cons (ps_fld (pv 0) (pv 5) rfl)
      (pss_one (ps_fld (pv 0) (pv 6) rfl))))))), ?_⟩
    have eH : Ext H0 (upd (upd H0 dx (.own x)) x (.ins T.C_Bar dx [])) := (Ext.upd hdx).mut hx
    refine ⟨_, rfl, _, rfl, x, T.C_Bar, dx, _, rfl, upd_same, T.c_Bar, T.nf_Bar_a, (by show 0 < 1000; decide), ?_⟩
    refine ⟨_, rfl, _, rfl, x, T.C_Bar, dx, _, rfl, upd_same, T.c_Bar, T.nf_Bar_b, (by show 1 < 1000; decide), ?_⟩
    refine ⟨_, rfl, _, rfl, x, T.C_Bar, dx, _, rfl, upd_same, T.c_Bar, T.nf_Bar_c, (by show 2 < 1000; decide), ?_⟩
    refine ⟨_, rfl, _, rfl, x, T.C_Bar, dx, _, rfl, upd_same, T.c_Bar, T.nf_Bar_length, (by show 3 < 1000; decide), ?_⟩
    refine ⟨_, rfl, _, rfl, x, T.C_Bar, dx, _, rfl, upd_same, T.c_Bar, T.nf_Bar_least, (by show 4 < 1000; decide), ?_⟩
    refine ⟨_, rfl, _, rfl, x, T.C_Bar, dx, _, rfl, upd_same, T.c_Bar, T.nf_Bar_greatest, (by show 5 < 1000; decide), ?_⟩
    exact k _ ((((((eH.mut hx).mut hx).mut hx).mut hx).mut hx).mut hx) (br_is (dx := dx) upd_same)
end
end K53
namespace K53
open PySem L2
section
variable {P : Program} {w : World} {K : PySem.W.Frag} {mg : Str → Option Value} {base : Heap}
theorem find_at {α : Type} {p : α → Bool} : ∀ {xs : List α} {i : Nat} {r : α}, (∀ j x, j < i → xs[j]? = some x → p x = false) → xs[i]? = some r → p r = true → xs.find? p = some r
  | [], _, _, _, h, _ => by simp at h
  | x :: xs, 0, r, _, h, hp => by
    cases (show some x = some r from h)
    rw [List.find?_cons, hp]
  | x :: xs, i + 1, r, hb, h, hp => by
    rw [List.find?_cons, hb 0 x (Nat.succ_pos _) rfl]
    exact find_at (xs := xs) (i := i) (fun j y hj e => hb (j + 1) y (Nat.succ_lt_succ hj) e) h hp
theorem find_no {α : Type} {p : α → Bool} {xs : List α} (h : ∀ (j : Nat) (x : α), xs[j]? = some x → p x = false) : xs.find? p = none := by
  rw [List.find?_eq_none]
  intro x hx
  obtain ⟨j, hj⟩ := List.getElem?_of_mem hx
  rw [h j x hj]
  exact Bool.false_ne_true
def offRod (n r : Int) : Bool := !(decide (0 ≤ r) && decide (r < n))
def ckBar (n k : Int) (b : BarD) : Option Rf :=
  match [b.a, b.b, b.c].find? (offRod n) with
  | some r => some (.rod r)
  | none => if b.b = b.a then some (.same b.b) else if b.c = b.a ∨ b.c = b.b then some (.same b.c) else if ¬ (1 ≤ b.len ∧ b.len ≤ 1000000) then some (.cnt "length" b.len) else if ¬ (0 ≤ b.lo ∧ b.lo ≤ b.hi ∧ b.hi ≤ b.len) then some (.span k) else none
def spCkBar (K : PySem.W.Frag) (T : Tx K mg) : Sp := fun vs H Q E => ∃ (n k : Int) (v : V) (b : BarD), vs = [.int n, .int k, v] ∧ Is K H (brD T.C_Bar b) v ∧ (∀ r, ckBar n k b = some r → r.E T E H) ∧ (ckBar n k b = none → ∀ H', Ext H H' → Q .non H')
theorem ok_check_bar (T : Tx K mg) : FnOk P w K mg base (L2.CX P w) 4 T.a_check_bar T.fd_check_bar ["rods", "number", "bar"] (spCkBar K T) := by
  refine T.F_check_bar.okX sc_check_bar (fun vs H Q E h => ?_) (fun cdv A outer s H vs Q E hr h => ?_)
  · obtain ⟨n, k, v, b, rfl, _⟩ := h
    rfl
  · obtain ⟨n, k, v, b, rfl, hb, kE, kQ⟩ := h
    refine ⟨_, (pss_cons (ps_for (passes_of rfl) rfl (pi_tup (pe_tup (pa_cons (pe_fld (pv 2) rfl) (pa_cons (pe_fld (pv 2) rfl) (pa_cons (pe_fld (pv 2) rfl) pa_nil))))) (pg_name (i := 3) sc_check_bar.nd rfl (Or.inl rfl)) (pss_one (ps_if (pt_not (pt_chain op_le op_lt pe_int (pv 3) (pv 0))) (pss_one (ps_raiseX T.X_NoRod (ok_NoRod_init T) (hr.mono (by decide)) rfl (takes_of rfl rfl rfl rfl) rfl (pa_cons (pv 3) pa_nil))) pss_nil)))
      (pss_cons (ps_if (pt_cmpR op_eq (pe_fld (pv 2) rfl) (pe_fld (pv 2) rfl) (nomark _)) (pss_one (ps_raiseX T.X_SameRod (ok_SameRod_init T) (hr.mono (by decide)) rfl (takes_of rfl rfl rfl rfl) rfl (pa_cons (pe_fld (pv 2) rfl) pa_nil))) pss_nil)
      (pss_cons (ps_if (pt_cmpR op_in_seq (pe_fld (pv 2) rfl) (pe_tup (pa_cons (pe_fld (pv 2) rfl) (pa_cons (pe_fld (pv 2) rfl) pa_nil))) rfl) (pss_one (ps_raiseX T.X_SameRod (ok_SameRod_init T) (hr.mono (by decide)) rfl (takes_of rfl rfl rfl rfl) rfl (pa_cons (pe_fld (pv 2) rfl) pa_nil))) pss_nil)
      (pss_cons (ps_if (pt_not (pt_chain op_le op_le pe_int (pe_fld (pv 2) rfl) (pe_glob (v := .int 1000000) rfl T.m_MOST_LENGTH ⟨_, rfl⟩))) (pss_one (ps_raiseX T.X_BadCount (ok_BadCount_init T) (hr.mono (by decide)) rfl (takes_of rfl rfl rfl rfl) rfl (pa_cons pe_str (pa_cons (pe_fld (pv 2) rfl) pa_nil)))) pss_nil)
      (pss_one (ps_if (pt_not (pt_chain3 op_le op_le op_le pe_int (pe_fld (pv 2) rfl) (pe_fld (pv 2) rfl) (pe_fld (pv 2) rfl))) (pss_one (ps_raiseX T.X_BadSpan (ok_BadSpan_init T) (hr.mono (by decide)) rfl (takes_of rfl rfl rfl rfl) rfl (pa_cons (pv 1) pa_nil))) pss_nil)))))), ?_⟩
    obtain ⟨ba, bdx, rfl, hba⟩ := br_fields hb
    refine ⟨_, rfl, ba, T.C_Bar, bdx, _, _, rfl, hba, T.c_Bar, T.nf_Bar_a, rfl, ?_⟩
    refine ⟨_, rfl, ba, T.C_Bar, bdx, _, _, rfl, hba, T.c_Bar, T.nf_Bar_b, rfl, ?_⟩
    refine ⟨_, rfl, ba, T.C_Bar, bdx, _, _, rfl, hba, T.c_Bar, T.nf_Bar_c, rfl, by show 3 ≤ sizeLine; decide, fun t ht => ?_⟩
    refine ⟨t, rfl, ⟨_, SqT.of upd_same⟩, for_tup (K := K) (a := t) (xs := [b.a, b.b, b.c].map V.int) (fun i σ H' => Ext H H' ∧ H' t = some (.tup ([b.a, b.b, b.c].map V.int)) ∧ (∀ j x, j < i → [b.a, b.b, b.c][j]? = some x → offRod n x = false) ∧ ∃ v3 : Option V, σ = [some (.int n), some (.int k), some (.ref ba), v3])
      ⟨Ext.upd ht, upd_same, fun j x hj => absurd hj (Nat.not_lt_zero _), none, rfl⟩ (fun i σ H' _ p => SqT.of p.2.1) ?_ ?_⟩
    · rintro i y σ H1 hi ⟨e1, ht1, hno, v3, rfl⟩
      obtain ⟨r, hr', rfl⟩ : ∃ r, [b.a, b.b, b.c][i]? = some r ∧ y = V.int r := by
        rw [List.getElem?_map] at hi
        cases e : [b.a, b.b, b.c][i]? with
        | none => rw [e] at hi; cases hi
        | some n => rw [e] at hi; exact ⟨n, rfl, (Option.some.inj hi).symm⟩
      have bad : offRod n r = true → ckBar n k b = some (.rod r) := fun ho => by
        unfold ckBar
        rw [find_at hno hr' ho]
      have rz : offRod n r = true → ∀ d, H1 d = none → E (.ref T.C_NoRod) (some d) (upd H1 d (.xd (fo1 "rod" [V.int r]))) := fun ho d hd =>
        kE _ (bad ho) d _ (e1.trans (Ext.upd hd)) (e1.fresh hd) upd_same
      refine ⟨_, rfl, _, _, rfl, rfl, _, rfl, ite2 (fun c0 => ?_) (fun c0 => ?_)⟩
      · refine ⟨_, rfl, _, _, rfl, rfl, _, rfl, ite2 (fun c1 => ?_) (fun c1 => ?_)⟩
        · refine ⟨_, rfl, rz_ok (n := 1) rfl (by decide) (rz ?_)⟩
          unfold offRod
          rw [c0, Bool.true_and]
          exact c1
        · refine ⟨e1, ht1, fun j x hj hx => ?_, _, rfl⟩
          by_cases hji : j = i
          · subst hji
            rw [hr'] at hx
            cases hx
            unfold offRod
            rw [c0, Bool.true_and]
            exact Bool.eq_false_iff.mpr c1
          · exact hno j x (by omega) hx
      · refine ⟨_, rfl, ite2 (fun c1 => ?_) (fun c1 => absurd rfl c1)⟩
        refine ⟨_, rfl, rz_ok (n := 1) rfl (by decide) (rz ?_)⟩
        unfold offRod
        rw [Bool.eq_false_iff.mpr c0]
        rfl
    · rintro σ H1 ⟨e1, ht1, hno, v3, rfl⟩
      have hnone : [b.a, b.b, b.c].find? (offRod n) = none := find_no fun j x hx => hno j x (by
        have := (List.getElem?_eq_some_iff.mp hx).1
        exact this) hx
      have hba1 := e1 _ _ hba
      refine ⟨_, rfl, ba, T.C_Bar, bdx, _, _, rfl, hba1, T.c_Bar, T.nf_Bar_b, rfl, ?_⟩
      refine ⟨_, rfl, ba, T.C_Bar, bdx, _, _, rfl, hba1, T.c_Bar, T.nf_Bar_a, rfl, rfl, _, rfl, ite2 (fun c0 => ?_) (fun c0 => ?_)⟩
      · have hba2 : b.b = b.a := V.int.inj (of_decide_eq_true c0)
        refine ⟨_, rfl, ba, T.C_Bar, bdx, _, _, rfl, hba1, T.c_Bar, T.nf_Bar_b, rfl, rz_ok (n := 1) rfl (by decide) fun d hd => ?_⟩
        refine kE (.same b.b) ?_ d _ (e1.trans (Ext.upd hd)) (e1.fresh hd) upd_same
        unfold ckBar
        rw [hnone]
        exact if_pos hba2
      have n1 : ¬ b.b = b.a := fun z => c0 (decide_eq_true (congrArg V.int z))
      refine ⟨_, rfl, ba, T.C_Bar, bdx, _, _, rfl, hba1, T.c_Bar, T.nf_Bar_c, rfl, ?_⟩
      refine ⟨_, rfl, ba, T.C_Bar, bdx, _, _, rfl, hba1, T.c_Bar, T.nf_Bar_a, rfl, ?_⟩
      refine ⟨_, rfl, ba, T.C_Bar, bdx, _, _, rfl, hba1, T.c_Bar, T.nf_Bar_b, rfl, by show 2 ≤ sizeLine; decide, fun t2 ht2 => ?_⟩
      have e2 : Ext H (upd H1 t2 (.tup [.int b.a, .int b.b])) := e1.trans (Ext.upd ht2)
      have hba2 := Ext.upd (o := HO.tup [.int b.a, .int b.b]) ht2 _ _ hba1
      refine ⟨_, _, rfl, .inr (SqT.of upd_same), rfl, rfl, ?_⟩
      generalize upd H1 t2 (.tup [.int b.a, .int b.b]) = H2 at e2 hba2 ⊢
      have hin : inV (.int b.c) [.int b.a, .int b.b] = decide (b.c = b.a ∨ b.c = b.b) := by
        show (b.a == b.c || (b.b == b.c || false)) = _
        rw [Bool.or_false, Bool.eq_iff_iff, Bool.or_eq_true, decide_eq_true_iff, beq_iff_eq, beq_iff_eq]
        exact ⟨fun h => h.imp Eq.symm Eq.symm, fun h => h.imp Eq.symm Eq.symm⟩
      rw [if_neg Bool.false_ne_true, hin]
      refine ⟨_, rfl, ite2 (fun c1 => ?_) (fun c1 => ?_)⟩
      · refine ⟨_, rfl, ba, T.C_Bar, bdx, _, _, rfl, hba2, T.c_Bar, T.nf_Bar_c, rfl, rz_ok (n := 1) rfl (by decide) fun d hd => ?_⟩
        refine kE (.same b.c) ?_ d _ (e2.trans (Ext.upd hd)) (e2.fresh hd) upd_same
        unfold ckBar
        rw [hnone]
        show (if _ then _ else _) = _
        rw [if_neg n1, if_pos (of_decide_eq_true c1)]
      have n2 : ¬ (b.c = b.a ∨ b.c = b.b) := fun z => c1 (decide_eq_true z)
      have r4 : ¬ (1 ≤ b.len ∧ b.len ≤ 1000000) → ckBar n k b = some (.cnt "length" b.len) := fun z => by
        unfold ckBar
        rw [hnone]
        show (if _ then _ else _) = _
        rw [if_neg n1, if_neg n2, if_pos z]
      have rz4 : ¬ (1 ≤ b.len ∧ b.len ≤ 1000000) → ∀ d, H2 d = none → E (.ref T.C_BadCount) (some d) (upd H2 d (.xd (fo2 "what" "count" [V.str "length", V.int b.len]))) := fun z d hd =>
        kE _ (r4 z) d _ (e2.trans (Ext.upd hd)) (e2.fresh hd) upd_same
      refine ⟨_, rfl, ba, T.C_Bar, bdx, _, _, rfl, hba2, T.c_Bar, T.nf_Bar_length, rfl, _, _, rfl, rfl, _, rfl, ite2 (fun c2 => ?_) (fun c2 => ?_)⟩
      · refine ⟨_, _, rfl, rfl, _, rfl, ite2 (fun c3 => ?_) (fun c3 => ?_)⟩
        · refine ⟨_, rfl, ba, T.C_Bar, bdx, _, _, rfl, hba2, T.c_Bar, T.nf_Bar_length, rfl, rz_ok (n := 2) rfl (by decide) (rz4 fun z => ?_)⟩
          rw [decide_eq_true z.2] at c3
          cases c3
        have ok4 : 1 ≤ b.len ∧ b.len ≤ 1000000 := ⟨of_decide_eq_true c2, Classical.byContradiction fun z => c3 (by rw [decide_eq_false z]; rfl)⟩
        have r5 : ¬ (0 ≤ b.lo ∧ b.lo ≤ b.hi ∧ b.hi ≤ b.len) → ckBar n k b = some (.span k) := fun z => by
          unfold ckBar
          rw [hnone]
          show (if _ then _ else _) = _
          rw [if_neg n1, if_neg n2, if_neg (fun y => y ok4), if_pos z]
        have rz5 : ¬ (0 ≤ b.lo ∧ b.lo ≤ b.hi ∧ b.hi ≤ b.len) → ∀ d, H2 d = none → E (.ref T.C_BadSpan) (some d) (upd H2 d (.xd (fo1 "bar" [V.int k]))) := fun z d hd =>
          kE _ (r5 z) d _ (e2.trans (Ext.upd hd)) (e2.fresh hd) upd_same
        refine ⟨_, rfl, ba, T.C_Bar, bdx, _, _, rfl, hba2, T.c_Bar, T.nf_Bar_least, rfl, _, _, rfl, rfl, _, rfl, ite2 (fun c4 => ?_) (fun c4 => ?_)⟩
        · refine ⟨_, rfl, ba, T.C_Bar, bdx, _, _, rfl, hba2, T.c_Bar, T.nf_Bar_greatest, rfl, _, _, rfl, rfl, _, rfl, ite2 (fun c5 => ?_) (fun c5 => ?_)⟩
          · refine ⟨_, rfl, ba, T.C_Bar, bdx, _, _, rfl, hba2, T.c_Bar, T.nf_Bar_length, rfl, _, _, rfl, rfl, _, rfl, ite2 (fun c6 => ?_) (fun c6 => ?_)⟩
            · refine ⟨_, rfl, rz_ok (n := 1) rfl (by decide) (rz5 fun z => ?_)⟩
              rw [decide_eq_true z.2.2] at c6
              cases c6
            · have ok5 : 0 ≤ b.lo ∧ b.lo ≤ b.hi ∧ b.hi ≤ b.len := ⟨of_decide_eq_true c4, of_decide_eq_true c5, Classical.byContradiction fun z => c6 (by rw [decide_eq_false z]; rfl)⟩
              refine kQ ?_ _ e2
              unfold ckBar
              rw [hnone]
              show (if _ then _ else _) = _
              rw [if_neg n1, if_neg n2, if_neg (fun y => y ok4), if_neg (fun y => y ok5)]
          · exact iteT ⟨_, rfl, rz_ok (n := 1) rfl (by decide) (rz5 fun z => c5 (decide_eq_true z.2.1))⟩
        · exact iteT ⟨_, rfl, rz_ok (n := 1) rfl (by decide) (rz5 fun z => c4 (decide_eq_true z.1))⟩
      · refine ⟨_, rfl, iteT ?_⟩
        exact ⟨_, rfl, ba, T.C_Bar, bdx, _, _, rfl, hba2, T.c_Bar, T.nf_Bar_length, rfl, rz_ok (n := 2) rfl (by decide) (rz4 fun z => c2 (decide_eq_true z.1))⟩
end
end K53
namespace K53
open PySem L2
section
variable {P : Program} {w : World} {K : PySem.W.Frag} {mg : Str → Option Value} {base : Heap}
def ckFrom (n : Int) : Nat → List BarD → Option Rf
  | _, [] => none
  | k, b :: r => match ckBar n (k : Nat) b with
    | some x => some x
    | none => ckFrom n (k + 1) r
theorem ck_at {n : Int} : ∀ {bs : List BarD} {k i : Nat} {b : BarD} {r : Rf}, (∀ (j : Nat) (c : BarD), j < i → bs[j]? = some c → ckBar n ((k + j : Nat) : Int) c = none) → bs[i]? = some b → ckBar n ((k + i : Nat) : Int) b = some r → ckFrom n k bs = some r
  | [], _, _, _, _, _, h, _ => by simp at h
  | c :: bs, k, 0, b, r, _, h, hp => by
    cases (show some c = some b from h)
    unfold ckFrom
    rw [show ckBar n (k : Nat) c = some r from hp]
  | c :: bs, k, i + 1, b, r, hb, h, hp => by
    unfold ckFrom
    rw [show ckBar n (k : Nat) c = none from hb 0 c (Nat.succ_pos _) rfl]
    exact ck_at (bs := bs) (k := k + 1) (i := i) (fun j y hj e => by
      rw [Nat.succ_add]
      exact hb (j + 1) y (Nat.succ_lt_succ hj) e) h (by rw [Nat.succ_add]; exact hp)
theorem ck_no {n : Int} : ∀ {bs : List BarD} {k : Nat}, (∀ (j : Nat) (c : BarD), bs[j]? = some c → ckBar n ((k + j : Nat) : Int) c = none) → ckFrom n k bs = none
  | [], _, _ => rfl
  | c :: bs, k, h => by
    unfold ckFrom
    rw [show ckBar n (k : Nat) c = none from h 0 c rfl]
    exact ck_no (bs := bs) (k := k + 1) fun j y e => by
      rw [Nat.succ_add]
      exact h (j + 1) y e
def ckBars (n : Int) (m : Nat) (bs : List BarD) : Option Rf :=
  if ¬ (1 ≤ (bs.length : Int) ∧ (bs.length : Int) ≤ 8) then some (.cnt "bars" bs.length) else if ¬ (bs.length : Int) = n - m then some (.sq bs.length (n - m)) else ckFrom n 0 bs
def hK (hl : List (Int × Int)) : List (Key × V) := hl.map fun p => (Sum.inl p.1, V.int p.2)
theorem isL_len {K : PySem.W.Frag} {H : Hp} : ∀ {ds : List Dt} {vs : List V}, IsL K H ds vs → vs.length = ds.length
  | [], _, h => by cases h; rfl
  | d :: ds, _, ⟨v, r, e, _, h⟩ => by
    subst e
    rw [List.length_cons, List.length_cons, isL_len (ds := ds) h]
def spCkBars (K : PySem.W.Frag) (T : Tx K mg) : Sp := fun vs H Q E => ∃ (n : Int) (hd bl : Addr) (hl : List (Int × Int)) (bs : List BarD) (ws : List V), vs = [.int n, .ref hd, .ref bl] ∧ H hd = some (.dK (hK hl)) ∧ SqQ K H bl ws ∧ IsL K H (bs.map (brD T.C_Bar)) ws ∧
  (∀ r, ckBars n hl.length bs = some r → r.E T E H) ∧ (ckBars n hl.length bs = none → ∀ H', Ext H H' → Q .non H')
theorem ok_check_bars (T : Tx K mg) : FnOk P w K mg base (L2.CX P w) 6 T.a_check_bars T.fd_check_bars ["rods", "held", "bars"] (spCkBars K T) := by
  refine T.F_check_bars.okX sc_check_bars (fun vs H Q E h => ?_) (fun cdv A outer s H vs Q E hr h => ?_)
  · obtain ⟨n, hd, bl, hl, bs, ws, rfl, _⟩ := h
    rfl
  · obtain ⟨n, hd, bl, hl, bs, ws, rfl, hhd, hbl, hbs, kE, kQ⟩ := h
    refine ⟨_, (pss_cons (ps_if (pt_not (pt_chain op_le op_le pe_int (pe_callB call_len_seq (by rfl) T.z_len PySem.boot_len (pa_cons (pv 2) pa_nil)) (pe_glob (v := .int 8) rfl T.m_MOST_BARS ⟨_, rfl⟩))) (pss_one (ps_raiseX T.X_BadCount (ok_BadCount_init T) (hr.mono (by decide)) rfl (takes_of rfl rfl rfl rfl) rfl (pa_cons pe_str (pa_cons (pe_callB call_len_seq (by rfl) T.z_len PySem.boot_len (pa_cons (pv 2) pa_nil)) pa_nil)))) pss_nil)
      (pss_cons (ps_set (i := 3) sc_check_bars.nd rfl (Or.inl rfl) (pe_op op_sub (pv 0) (pe_callB call_lenD (by rfl) T.z_len PySem.boot_len (pa_cons (pv 1) pa_nil))))
      (pss_cons (ps_if (pt_cmpR op_ne (pe_callB call_len_seq (by rfl) T.z_len PySem.boot_len (pa_cons (pv 2) pa_nil)) (pv 3) (nomark _)) (pss_one (ps_raiseX T.X_NotSquare (ok_NotSquare_init T) (hr.mono (by decide)) rfl (takes_of rfl rfl rfl rfl) rfl (pa_cons (pe_callB call_len_seq (by rfl) T.z_len PySem.boot_len (pa_cons (pv 2) pa_nil)) (pa_cons (pv 3) pa_nil)))) pss_nil)
      (pss_one (ps_for (passes_of rfl) rfl (pi_enumQ (by rfl) T.z_enumerate (pa_cons (pv 2) pa_nil)) (pg_tup rfl (pgs_cons (pg_name (i := 4) sc_check_bars.nd rfl (Or.inl rfl)) (pgs_cons (pg_name (i := 5) sc_check_bars.nd rfl (Or.inl rfl)) pgs_nil))) (pss_one (ps_expr (pe_call (ok_check_bar T) (hr.mono (by decide)) rfl T.m_check_bar T.F_check_bar.kp T.b_check_bar .nil (passes_call (takes_of rfl rfl rfl rfl) (fun _ _ _ _ h => h)) (pa_cons (pv 0) (pa_cons (pv 4) (pa_cons (pv 5) pa_nil))))))))))), ?_⟩
    have hlen : ws.length = bs.length := by rw [isL_len hbs, List.length_map]
    have r1 : ¬ (1 ≤ (ws.length : Int) ∧ (ws.length : Int) ≤ 8) → ∀ d, H d = none → E (.ref T.C_BadCount) (some d) (upd H d (.xd (fo2 "what" "count" [V.str "bars", V.int (ws.length : Int)]))) := fun z d hd => by
      have z' : ckBars n hl.length bs = some (.cnt "bars" (ws.length : Int)) := by
        unfold ckBars
        rw [← hlen]
        exact if_pos z
      exact kE _ z' d _ (Ext.upd hd) hd upd_same
    refine ⟨_, rfl, bl, ws, rfl, hbl, _, _, rfl, rfl, _, rfl, ite2 (fun c0 => ?_) (fun c0 => ?_)⟩
    · refine ⟨_, _, rfl, rfl, _, rfl, ite2 (fun c1 => ?_) (fun c1 => ?_)⟩
      · refine ⟨_, rfl, bl, ws, rfl, hbl, rz_ok (n := 2) rfl (by decide) (r1 fun z => ?_)⟩
        rw [decide_eq_true z.2] at c1
        cases c1
      have ok1 : 1 ≤ (ws.length : Int) ∧ (ws.length : Int) ≤ 8 := ⟨of_decide_eq_true c0, Classical.byContradiction fun z => c1 (by rw [decide_eq_false z]; rfl)⟩
      refine ⟨_, rfl, _, rfl, hd, _, rfl, hhd, _, _, rfl, rfl, ?_⟩
      have hkl : ((hK hl).length : Int) = (hl.length : Int) := by unfold hK; rw [List.length_map]
      dsimp only
      rw [hkl]
      refine ⟨_, rfl, bl, ws, rfl, hbl, _, rfl, rfl, _, rfl, ite2 (fun c2 => ?_) (fun c2 => ?_)⟩
      · refine ⟨_, rfl, bl, ws, rfl, hbl, _, rfl, rz_ok (n := 2) rfl (by decide) fun d hd => ?_⟩
        have hne : ¬ (ws.length : Int) = n - hl.length := fun z => by
          rw [z] at c2
          simp at c2
        have z' : ckBars n hl.length bs = some (.sq (ws.length : Int) (n - hl.length)) := by
          unfold ckBars
          rw [← hlen, if_neg (fun y => y ok1), if_pos hne]
        exact kE _ z' d _ (Ext.upd hd) hd upd_same
      have heq : (ws.length : Int) = n - hl.length := Classical.byContradiction fun z => c2 (by
        rw [decide_eq_false (fun y => z (V.int.inj y))]
        rfl)
      have hck : ckBars n hl.length bs = ckFrom n 0 bs := by
        unfold ckBars
        rw [← hlen, if_neg (fun y => y ok1), if_neg (fun y => y heq)]
      rw [hck] at kQ
      simp only [hck] at kE
      refine ⟨_, rfl, bl, rfl, for_enumQ (H0 := H) hbl (fun i σ H' => Ext H H' ∧ (∀ (j : Nat) (c : BarD), j < i → bs[j]? = some c → ckBar n ((0 + j : Nat) : Int) c = none) ∧ ∃ v4 v5 : Option V, σ = [some (.int n), some (.ref hd), some (.ref bl), some (.int (n - hl.length)), v4, v5])
        ⟨Ext.rfl', fun j c hj => absurd hj (Nat.not_lt_zero _), none, none, rfl⟩ (fun i σ H' _ p => p.1) ?_ ?_⟩
      · rintro i y σ H1 t hi ⟨e1, hno, v4, v5, rfl⟩ ht
        obtain ⟨d, hd', iy⟩ := hbs.get hi
        obtain ⟨b, hb, rfl⟩ : ∃ b, bs[i]? = some b ∧ d = brD T.C_Bar b := by
          rw [List.getElem?_map] at hd'
          cases e : bs[i]? with
          | none => rw [e] at hd'; cases hd'
          | some b => rw [e] at hd'; exact ⟨b, rfl, (Option.some.inj hd').symm⟩
        have e2 : Ext H (upd H1 t (.tup [.int (i : Nat), y])) := e1.trans (Ext.upd ht)
        refine ⟨t, _, rfl, SqT.of upd_same, rfl, _, _, rfl, _, _, rfl, rfl, ?_⟩
        refine ⟨_, rfl, _, rfl, _, rfl, n, (i : Nat), y, b, rfl, iy.ext e2, fun r hr' => ?_, fun hnn H3 e3 => ?_⟩
        · intro d' H' e' hd0 hx
          exact kE r (ck_at hno hb (by rw [Nat.zero_add]; exact hr')) d' H' (e2.trans e') (e2.fresh hd0) hx
        · refine ⟨e2.trans e3, fun j c hj hc => ?_, _, _, rfl⟩
          by_cases hji : j = i
          · subst hji
            rw [hb] at hc
            cases hc
            rw [Nat.zero_add]
            exact hnn
          · exact hno j c (by omega) hc
      · rintro σ H1 ⟨e1, hno, v4, v5, rfl⟩
        refine kQ (ck_no fun j c hc => hno j c ?_ hc) _ e1
        have := (List.getElem?_eq_some_iff.mp hc).1
        omega
    · exact ⟨_, rfl, iteT ⟨_, rfl, bl, ws, rfl, hbl, rz_ok (n := 2) rfl (by decide) (r1 fun z => c0 (decide_eq_true z.1))⟩⟩
end
end K53
namespace K53
open PySem L2
section
variable {P : Program} {w : World} {K : PySem.W.Frag} {mg : Str → Option Value} {base : Heap}
def srtI (ks : List Int) : List Int := ks.mergeSort fun a b => decide (a ≤ b)
theorem srtI_perm (ks : List Int) : (srtI ks).Perm ks := List.mergeSort_perm ..
theorem srtI_sorted (ks : List Int) : (srtI ks).Pairwise (· ≤ ·) := by
  have h := List.pairwise_mergeSort (le := fun a b : Int => decide (a ≤ b)) (fun a b c h1 h2 => decide_eq_true (Int.le_trans (of_decide_eq_true h1) (of_decide_eq_true h2))) (fun a b => by
    rw [Bool.or_eq_true, decide_eq_true_iff, decide_eq_true_iff]
    exact Int.le_total a b) ks
  exact h.imp fun h => of_decide_eq_true h
theorem srt_eq {ys ks : List Int} (hp : ys.Perm ks) (hs : ys.Pairwise (· ≤ ·)) : ys = srtI ks :=
  List.Perm.eq_of_pairwise (le := (· ≤ ·)) (fun a b _ _ h1 h2 => Int.le_antisymm h1 h2) hs (srtI_sorted ks) (hp.trans (srtI_perm ks).symm)
def lookI (hl : List (Int × Int)) (r : Int) : Int := match hl.find? fun p => decide (p.1 = r) with
  | some p => p.2
  | none => 0
theorem val_hK : ∀ {hl : List (Int × Int)} {r : Int}, r ∈ hl.map (·.1) → valV (hK hl) (Sum.inl r) = some (V.int (lookI hl r))
  | [], _, h => by cases h
  | p :: hl, r, h => by
    by_cases e : p.1 = r
    · have h1 : valV (hK (p :: hl)) (Sum.inl r) = some (V.int p.2) := valV_pos (by show Sum.inl p.1 = Sum.inl r; rw [e])
      rw [h1]
      unfold lookI
      rw [List.find?_cons, decide_eq_true e]
    · have h2 : r ∈ hl.map (·.1) := by
        rcases List.mem_cons.mp h with h | h
        · exact absurd h.symm e
        · exact h
      have h3 := val_hK h2
      have h4 : valV (hK (p :: hl)) (Sum.inl r) = valV (hK hl) (Sum.inl r) := by
        unfold valV hK
        rw [List.map_cons, List.find?_cons, decide_eq_false (fun z => e (Sum.inl.inj z))]
      rw [h4, h3]
      unfold lookI
      rw [List.find?_cons, decide_eq_false e]
def farH (hl : List (Int × Int)) (r : Int) : Bool := !(decide (-1000000 ≤ lookI hl r) && decide (lookI hl r ≤ 1000000))
def ckRods (n : Int) (hl : List (Int × Int)) : Option Rf :=
  if ¬ (3 ≤ n ∧ n ≤ 10) then some (.cnt "rods" n) else
  match (srtI (hl.map (·.1))).find? (offRod n) with
  | some r => some (.rod r)
  | none => match (srtI (hl.map (·.1))).find? (farH hl) with
    | some r => some (.cnt "height" (lookI hl r))
    | none => if hl = [] then some (.cnt "held" 0) else none
def spCkRods (K : PySem.W.Frag) (T : Tx K mg) : Sp := fun vs H Q E => ∃ (n : Int) (hd : Addr) (hl : List (Int × Int)), vs = [.int n, .ref hd] ∧ H hd = some (.dK (hK hl)) ∧ hl.length < 64 ∧
  (∀ r, ckRods n hl = some r → r.E T E H) ∧ (ckRods n hl = none → ∀ H', Ext H H' → Q .non H')
theorem ok_check_rods (T : Tx K mg) : FnOk P w K mg base (L2.CX P w) 4 T.a_check_rods T.fd_check_rods ["rods", "held"] (spCkRods K T) := by
  refine T.F_check_rods.okX sc_check_rods (fun vs H Q E h => ?_) (fun cdv A outer s H vs Q E hr h => ?_)
  · obtain ⟨n, hd, hl, rfl, _⟩ := h
    rfl
  · obtain ⟨n, hd, hl, rfl, hhd, h64, kE, kQ⟩ := h
    refine ⟨_, (pss_cons (ps_if (pt_not (pt_chain op_le op_le (pe_glob (v := .int 3) rfl T.m_LEAST_RODS ⟨_, rfl⟩) (pv 0) (pe_glob (v := .int 10) rfl T.m_MOST_RODS ⟨_, rfl⟩))) (pss_one (ps_raiseX T.X_BadCount (ok_BadCount_init T) (hr.mono (by decide)) rfl (takes_of rfl rfl rfl rfl) rfl (pa_cons pe_str (pa_cons (pv 0) pa_nil)))) pss_nil)
      (pss_cons (ps_for (passes_of rfl) rfl (pi_list (pe_callB (call_sortedDI rfl) (by rfl) T.z_sorted (by decide +kernel) (pa_cons (pv 1) pa_nil))) (pg_name (i := 2) sc_check_rods.nd rfl (Or.inl rfl)) (pss_one (ps_if (pt_not (pt_chain op_le op_lt pe_int (pv 2) (pv 0))) (pss_one (ps_raiseX T.X_NoRod (ok_NoRod_init T) (hr.mono (by decide)) rfl (takes_of rfl rfl rfl rfl) rfl (pa_cons (pv 2) pa_nil))) pss_nil)))
      (pss_cons (ps_for (passes_of rfl) rfl (pi_list (pe_callB (call_sortedDI rfl) (by rfl) T.z_sorted (by decide +kernel) (pa_cons (pv 1) pa_nil))) (pg_name (i := 2) sc_check_rods.nd rfl (Or.inl rfl)) (pss_one (ps_if (pt_not (pt_chain op_le op_le (pe_un un_neg (pe_glob (v := .int 1000000) rfl T.m_MOST_HEIGHT ⟨_, rfl⟩)) (pe_dget (hu_of hr) (pv 1) (pv 2) (fun _ _ => rfl)) (pe_glob (v := .int 1000000) rfl T.m_MOST_HEIGHT ⟨_, rfl⟩))) (pss_one (ps_raiseX T.X_BadCount (ok_BadCount_init T) (hr.mono (by decide)) rfl (takes_of rfl rfl rfl rfl) rfl (pa_cons pe_str (pa_cons (pe_dget (hu_of hr) (pv 1) (pv 2) (fun _ _ => rfl)) pa_nil)))) pss_nil)))
      (pss_one (ps_if (pt_not (pt_truth (pv 1) (by intro _; rfl))) (pss_one (ps_raiseX T.X_BadCount (ok_BadCount_init T) (hr.mono (by decide)) rfl (takes_of rfl rfl rfl rfl) rfl (pa_cons pe_str (pa_cons pe_int pa_nil)))) pss_nil))))), ?_⟩
    have r0 : ¬ (3 ≤ n ∧ n ≤ 10) → ∀ d, H d = none → E (.ref T.C_BadCount) (some d) (upd H d (.xd (fo2 "what" "count" [V.str "rods", V.int n]))) := fun z d hd =>
      kE (.cnt "rods" n) (by unfold ckRods; exact if_pos z) d _ (Ext.upd hd) hd upd_same
    refine ⟨_, rfl, _, _, rfl, rfl, _, rfl, ite2 (fun c0 => ?_) (fun c0 => ?_)⟩
    · refine ⟨_, _, rfl, rfl, _, rfl, ite2 (fun c1 => ?_) (fun c1 => ?_)⟩
      · refine ⟨_, rfl, rz_ok (n := 2) rfl (by decide) (r0 fun z => ?_)⟩
        rw [decide_eq_true z.2] at c1
        cases c1
      have ok0 : 3 ≤ n ∧ n ≤ 10 := ⟨of_decide_eq_true c0, Classical.byContradiction fun z => c1 (by rw [decide_eq_false z]; rfl)⟩
      have hkk : (hK hl).map (·.1) = (hl.map (·.1)).map Sum.inl := by
        unfold hK
        rw [List.map_map, List.map_map]
        rfl
      refine ⟨_, rfl, hd, _, _, rfl, .inl hhd, hkk, by rw [List.length_map]; exact h64, fun ys p hp hs hpn => ?_⟩
      cases srt_eq hp hs
      have e1 : Ext H (upd H p (.lst ((srtI (hl.map (·.1))).map V.int))) := Ext.upd hpn
      have hp1 : (upd H p (.lst ((srtI (hl.map (·.1))).map V.int))) p = some (.lst ((srtI (hl.map (·.1))).map V.int)) := upd_same
      generalize upd H p (.lst ((srtI (hl.map (·.1))).map V.int)) = H1 at e1 hp1 ⊢
      refine ⟨p, rfl, ⟨_, SqL.of hp1⟩, for_list (K := K) (a := p) (xs := (srtI (hl.map (·.1))).map V.int) (fun i σ H' => Ext H1 H' ∧ (∀ (j : Nat) (x : Int), j < i → (srtI (hl.map (·.1)))[j]? = some x → offRod n x = false) ∧ ∃ v2 : Option V, σ = [some (.int n), some (.ref hd), v2])
        ⟨Ext.rfl', fun j x hj => absurd hj (Nat.not_lt_zero _), none, rfl⟩ (fun i σ H' _ p => (SqL.of hp1).ext p.1) ?_ ?_⟩
      · rintro i y σ H2 hi ⟨e2, hno, v2, rfl⟩
        obtain ⟨r, hr', rfl⟩ : ∃ r, (srtI (hl.map (·.1)))[i]? = some r ∧ y = V.int r := by
          rw [List.getElem?_map] at hi
          cases e : (srtI (hl.map (·.1)))[i]? with
          | none => rw [e] at hi; cases hi
          | some n => rw [e] at hi; exact ⟨n, rfl, (Option.some.inj hi).symm⟩
        have rz : offRod n r = true → ∀ d, H2 d = none → E (.ref T.C_NoRod) (some d) (upd H2 d (.xd (fo1 "rod" [V.int r]))) := fun ho d hd =>
          kE (.rod r) (by unfold ckRods; rw [if_neg (fun y => y ok0), find_at hno hr' ho]) d _ ((e1.trans e2).trans (Ext.upd hd)) ((e1.trans e2).fresh hd) upd_same
        refine ⟨_, rfl, _, _, rfl, rfl, _, rfl, ite2 (fun c2 => ?_) (fun c2 => ?_)⟩
        · refine ⟨_, rfl, _, _, rfl, rfl, _, rfl, ite2 (fun c3 => ?_) (fun c3 => ?_)⟩
          · refine ⟨_, rfl, rz_ok (n := 1) rfl (by decide) (rz ?_)⟩
            unfold offRod
            rw [c2, Bool.true_and]
            exact c3
          · refine ⟨e2, fun j x hj hx => ?_, _, rfl⟩
            by_cases hji : j = i
            · subst hji
              rw [hr'] at hx
              cases hx
              unfold offRod
              rw [c2, Bool.true_and]
              exact Bool.eq_false_iff.mpr c3
            · exact hno j x (by omega) hx
        · refine ⟨_, rfl, ite2 (fun c3 => ?_) (fun c3 => absurd rfl c3)⟩
          refine ⟨_, rfl, rz_ok (n := 1) rfl (by decide) (rz ?_)⟩
          unfold offRod
          rw [Bool.eq_false_iff.mpr c2]
          rfl
      · rintro σ H2 ⟨e2, hno, v2, rfl⟩
        have hnone : (srtI (hl.map (·.1))).find? (offRod n) = none := find_no fun j x hx => hno j x (by
          rw [List.length_map]
          exact (List.getElem?_eq_some_iff.mp hx).1) hx
        have e02 := e1.trans e2
        clear e2 e1 hp1 hno hp hs hpn
        refine ⟨_, rfl, hd, _, _, rfl, .inl (e02 _ _ hhd), hkk, by rw [List.length_map]; exact h64, fun ys p2 hp hs hpn => ?_⟩
        cases srt_eq hp hs
        have e23 : Ext H2 (upd H2 p2 (.lst ((srtI (hl.map (·.1))).map V.int))) := Ext.upd hpn
        have hp1 : (upd H2 p2 (.lst ((srtI (hl.map (·.1))).map V.int))) p2 = some (.lst ((srtI (hl.map (·.1))).map V.int)) := upd_same
        generalize upd H2 p2 (.lst ((srtI (hl.map (·.1))).map V.int)) = H3 at e23 hp1 ⊢
        have e03 := e02.trans e23
        refine ⟨p2, rfl, ⟨_, SqL.of hp1⟩, for_list (K := K) (a := p2) (xs := (srtI (hl.map (·.1))).map V.int) (fun i σ H' => Ext H3 H' ∧ (∀ (j : Nat) (x : Int), j < i → (srtI (hl.map (·.1)))[j]? = some x → farH hl x = false) ∧ ∃ v2 : Option V, σ = [some (.int n), some (.ref hd), v2])
          ⟨Ext.rfl', fun j x hj => absurd hj (Nat.not_lt_zero _), _, rfl⟩ (fun i σ H' _ p => (SqL.of hp1).ext p.1) ?_ ?_⟩
        · rintro i y σ H4 hi ⟨e4, hno, v2, rfl⟩
          obtain ⟨r, hr', rfl⟩ : ∃ r, (srtI (hl.map (·.1)))[i]? = some r ∧ y = V.int r := by
            rw [List.getElem?_map] at hi
            cases e : (srtI (hl.map (·.1)))[i]? with
            | none => rw [e] at hi; cases hi
            | some n => rw [e] at hi; exact ⟨n, rfl, (Option.some.inj hi).symm⟩
          have hmem : r ∈ hl.map (·.1) := (srtI_perm _).mem_iff.mp (List.mem_of_getElem? hr')
          have e04 := e03.trans e4
          have hv : DGet H4 hd (V.int r) (some (V.int (lookI hl r))) := by
            rw [← val_hK hmem]
            exact DGet.k (k := Sum.inl r) (e04 _ _ hhd)
          have rz : farH hl r = true → ∀ d, H4 d = none → E (.ref T.C_BadCount) (some d) (upd H4 d (.xd (fo2 "what" "count" [V.str "height", V.int (lookI hl r)]))) := fun ho d hd =>
            kE (.cnt "height" (lookI hl r)) (by
              unfold ckRods
              rw [if_neg (fun y => y ok0), hnone]
              dsimp only
              rw [find_at hno hr' ho]) d _ (e04.trans (Ext.upd hd)) (e04.fresh hd) upd_same
          refine ⟨_, rfl, _, rfl, _, rfl, hd, _, rfl, hv, _, _, rfl, rfl, _, rfl, ite2 (fun c2 => ?_) (fun c2 => ?_)⟩
          · refine ⟨_, _, rfl, rfl, _, rfl, ite2 (fun c3 => ?_) (fun c3 => ?_)⟩
            · refine ⟨_, rfl, _, rfl, hd, _, rfl, hv, rz_ok (n := 2) rfl (by decide) (rz ?_)⟩
              unfold farH
              rw [c2, Bool.true_and]
              exact c3
            · refine ⟨e4, fun j x hj hx => ?_, _, rfl⟩
              by_cases hji : j = i
              · subst hji
                rw [hr'] at hx
                cases hx
                unfold farH
                rw [c2, Bool.true_and]
                exact Bool.eq_false_iff.mpr c3
              · exact hno j x (by omega) hx
          · refine ⟨_, rfl, ite2 (fun c3 => ?_) (fun c3 => absurd rfl c3)⟩
            refine ⟨_, rfl, _, rfl, hd, _, rfl, hv, rz_ok (n := 2) rfl (by decide) (rz ?_)⟩
            unfold farH
            rw [Bool.eq_false_iff.mpr c2]
            rfl
        · rintro σ H4 ⟨e4, hno, v2, rfl⟩
          have hnone2 : (srtI (hl.map (·.1))).find? (farH hl) = none := find_no fun j x hx => hno j x (by
            rw [List.length_map]
            exact (List.getElem?_eq_some_iff.mp hx).1) hx
          have e04 := e03.trans e4
          have hck : ckRods n hl = if hl = [] then some (.cnt "held" 0) else none := by
            unfold ckRods
            rw [if_neg (fun y => y ok0), hnone]
            dsimp only
            rw [hnone2]
          refine ⟨_, rfl, _, .inr (.inr ⟨_, e04 _ _ hhd, rfl⟩), ?_⟩
          cases hl with
          | nil =>
            refine iteT (rz_ok (n := 2) rfl (by decide) fun d hd => ?_)
            exact kE (.cnt "held" 0) (by rw [hck]; rfl) d _ (e04.trans (Ext.upd hd)) (e04.fresh hd) upd_same
          | cons x l => exact iteF (kQ (by rw [hck]; exact if_neg (fun z => by cases z)) _ e04)
    · exact ⟨_, rfl, iteT ⟨_, rfl, rz_ok (n := 2) rfl (by decide) (r0 fun z => c0 (decide_eq_true z.1))⟩⟩
end
end K53
namespace K53
open PySem L2
section
variable {P : Program} {w : World} {K : PySem.W.Frag} {mg : Str → Option Value} {base : Heap}
def normH (hl : List (Int × Int)) : List (Int × Int) := (srtI (hl.map (·.1))).map fun r => (r, lookI hl r)
abbrev wbF : List Str := ["rods", "bars", "_held"]
def hdD (hl : List (Int × Int)) : Dt := .dic (hl.map fun p => Sum.inl p.1) (hl.map fun p => Dt.int p.2)
def wbT (CB : Addr) (n : Int) (bs : List BarD) (hl : List (Int × Int)) : List Dt := [.int n, .tup (bs.map (brD CB)), hdD hl]
def wbD (C CB : Addr) (n : Int) (bs : List BarD) (hl : List (Int × Int)) : Dt := .ins C wbF (wbT CB n bs hl)
theorem hd_is {H : Hp} {a : Addr} {hl : List (Int × Int)} (h : H a = some (.dK (hK hl))) : Is K H (hdD hl) (.ref a) := by
  refine ⟨a, hK hl, rfl, h, by unfold hK; rw [List.map_map]; rfl, ?_⟩
  unfold hK
  rw [List.map_map]
  have z := isL_ints (K := K) (H := H) (hl.map (·.2))
  rw [List.map_map, List.map_map] at z
  exact z
theorem hd_of : ∀ {hl : List (Int × Int)} {kvs : List (Key × V)}, kvs.map (·.1) = (hl.map fun p => (Sum.inl p.1 : Key)) → kvs.map (·.2) = hl.map (fun p => V.int p.2) → kvs = hK hl
  | [], [], _, _ => rfl
  | [], _ :: _, h, _ => by cases h
  | _ :: _, [], h, _ => by cases h
  | p :: hl, (k, v) :: kvs, h1, h2 => by
    rw [List.map_cons, List.map_cons] at h1 h2
    injection h1 with a1 a2
    injection h2 with b1 b2
    show _ = (Sum.inl p.1, V.int p.2) :: hK hl
    rw [← hd_of a2 b2]
    cases (show k = _ from a1)
    cases (show v = _ from b1)
    rfl
theorem wb_fields {C CB : Addr} {H : Hp} {n : Int} {bs : List BarD} {hl : List (Int × Int)} {v : V} (i : Is K H (wbD C CB n bs hl) v) :
    ∃ (a dx t d : Addr) (ws : List V), v = .ref a ∧ H a = some (.ins C dx [("rods", .int n), ("bars", .ref t), ("_held", .ref d)]) ∧ SqT K H t ws ∧ IsL K H (bs.map (brD CB)) ws ∧ H d = some (.dK (hK hl)) := by
  obtain ⟨a, dx, kvs, rfl, ha, ek, h⟩ := i
  obtain ⟨v1, r1, e1, f1, v2, r2, e2, ⟨t, ws, g1, g2, g3⟩, v3, r3, e3, ⟨d, qs, k1, k2, k3, k4⟩, e4⟩ := h
  subst e4 e3 e2
  cases (show v1 = _ from f1)
  subst g1 k1
  have hq : qs = hK hl := hd_of k3 (by
    have z : IsL K H ((hl.map (·.2)).map Dt.int) (qs.map (·.2)) := by rw [List.map_map]; exact k4
    rw [of_isL_ints z, List.map_map]
    rfl)
  subst hq
  match kvs, ek, e1 with
  | [(x1, y1), (x2, y2), (x3, y3)], ek, e1 =>
    simp only [List.map_cons, List.map_nil] at ek e1
    injection ek with g1 ek
    injection ek with g2' ek
    injection ek with g3' _
    injection e1 with h1 e1
    injection e1 with h2 e1
    injection e1 with h3 _
    subst g1 g2' g3' h1 h2 h3
    exact ⟨a, dx, t, d, ws, rfl, ha, g2, g3, k2⟩
theorem wb_is {C CB a dx t d : Addr} {H : Hp} {n : Int} {bs : List BarD} {hl : List (Int × Int)} {ws : List V} (h : H a = some (.ins C dx [("rods", .int n), ("bars", .ref t), ("_held", .ref d)])) (ht : SqT K H t ws) (hb : IsL K H (bs.map (brD CB)) ws) (hd : H d = some (.dK (hK hl))) :
    Is K H (wbD C CB n bs hl) (.ref a) := ⟨a, dx, _, rfl, h, rfl, _, _, rfl, rfl, _, _, rfl, ⟨t, ws, rfl, ht, hb⟩, _, _, rfl, hd_is hd, rfl⟩
def ckWeb (n : Int) (hl : List (Int × Int)) (bs : List BarD) : Option Rf :=
  match ckRods n hl with
  | some r => some r
  | none => ckBars n hl.length bs
def spWeb (K : PySem.W.Frag) (T : Tx K mg) : Sp := fun vs H Q E => ∃ (H0 : Hp) (x dx : Addr) (n : Int) (hd bl : Addr) (hl : List (Int × Int)) (bs : List BarD) (ws : List V), vs = [.ref x, .int n, .ref hd, .ref bl] ∧ H0 x = none ∧ H0 dx = none ∧ dx ≠ x ∧ H = upd (upd H0 dx (.own x)) x (.ins T.C_Web dx []) ∧
  H0 hd = some (.dK (hK hl)) ∧ (hl.map (·.1)).Nodup ∧ hl.length < 64 ∧ SqQ K H0 bl ws ∧ IsL K H0 (bs.map (brD T.C_Bar)) ws ∧
  (∀ r, ckWeb n hl bs = some r → r.E T E H0) ∧ (ckWeb n hl bs = none → ∀ H', Ext H0 H' → Is K H' (wbD T.C_Web T.C_Bar n bs (normH hl)) (.ref x) → (∀ a kvs, H0 a = some (.dK kvs) → Is K (del H' a) (wbD T.C_Web T.C_Bar n bs (normH hl)) (.ref x)) → Q .non H')
theorem put_new {kvs : List (Key × V)} {k : Key} {v : V} (h : k ∉ kvs.map (·.1)) : putK kvs k v = kvs ++ [(k, v)] := by
  unfold putK
  rw [if_neg]
  intro z
  obtain ⟨p, hp, e⟩ := List.any_eq_true.mp z
  exact h (List.mem_map.mpr ⟨p, hp, of_decide_eq_true e⟩)
theorem dc_list {a : Addr} {xs : List V} {g : TG} {tt : TT} {tk tv : TE} {vs : List Nat} {σ : St} {H1 : Hp} {D : Addr} {Qd : Hp → Prop} (Pv : Nat → Hp → Prop) (h0 : Pv 0 (upd H1 D (.dK []))) (hl : ∀ i H, i ≤ xs.length → Pv i H → SqL K H a xs)
    (hs : ∀ i x H, xs[i]? = some x → Pv i H → g x (wipe σ vs) H fun σ2 H2 => wipe σ2 vs = wipe σ vs ∧ tt σ2 H2 fun b H3 =>
      if b = true then tk σ2 H3 fun y H4 => tv σ2 H4 fun z H5 => ∃ kvs k, y = kV k ∧ H5 D = some (.dK kvs) ∧ kvs.length < sizeLine ∧ Pv (i + 1) (upd H5 D (.dK (putK kvs k z))) else Pv (i + 1) H3) (hd : ∀ H, Pv xs.length H → Qd H) :
    ∃ W : Nat → Nat → Hp → Prop, (∃ m, W 0 m (upd H1 D (.dK []))) ∧ ∀ i m H, W i m H →
      ((Itl K a).stop i H ∧ Qd H) ∨ ((Itl K a).go i H ∧ ∃ Nx : Hp → Prop, (∀ H', Nx H' → ∃ m', m' < m ∧ W (i + 1) m' H') ∧ ∀ x H', (Itl K a).yld i H x H' → g x (wipe σ vs) H' fun σ2 H2 => wipe σ2 vs = wipe σ vs ∧ tt σ2 H2 fun b H3 =>
        if b = true then tk σ2 H3 fun y H4 => tv σ2 H4 fun z H5 => ∃ kvs k, y = kV k ∧ H5 D = some (.dK kvs) ∧ kvs.length < sizeLine ∧ Nx (upd H5 D (.dK (putK kvs k z))) else Nx H3) := by
  refine ⟨fun i m H => m = xs.length - i ∧ i ≤ xs.length ∧ Pv i H, ⟨xs.length, by simp, Nat.zero_le _, h0⟩, ?_⟩
  rintro i m H ⟨rfl, hi, p⟩
  have q := hl i H hi p
  by_cases hlt : i < xs.length
  · refine .inr ⟨⟨xs, xs[i], q, by simp [hlt]⟩, Pv (i + 1), fun H' p' => ⟨xs.length - (i + 1), by omega, rfl, hlt, p'⟩, fun x H' y => ?_⟩
    obtain ⟨e, y⟩ := y
    subst e
    exact hs i x _ (y xs q) p
  · have e : i = xs.length := by omega
    subst e
    exact .inl ⟨⟨xs, q, Nat.le_refl _⟩, hd H p⟩
theorem Ext.dele {H0 H5 : Hp} {x : Addr} (e : Ext H0 H5) (h : H0 x = none) : Ext H0 (del H5 x) := fun a o ha => by
  have hne : a ≠ x := fun z => by rw [z, h] at ha; cases ha
  rw [del_ne hne]
  exact e a o ha
theorem SqT.de' {H : Hp} {w a : Addr} {xs : List V} (h : SqT K (del H w) a xs) : SqT K H a xs := h.ext del_ext
theorem sqT_del {H : Hp} {t a : Addr} {xs : List V} {kvs : List (Key × V)} (s : SqT K H t xs) (h : H a = some (.dK kvs)) : SqT K (del H a) t xs := by
  rcases s with (r | ⟨b, r⟩) | r
  · exact .inl (.inl (by rw [del_ne (fun e => by rw [e, h] at r; cases r)]; exact r))
  · exact .inl (.inr ⟨b, by rw [del_ne (fun e => by rw [e, h] at r; cases r)]; exact r⟩)
  · exact .inr r
theorem brL_del {C : Addr} {H : Hp} {a : Addr} {kvs : List (Key × V)} (h : H a = some (.dK kvs)) : ∀ {bs : List BarD} {vs : List V}, IsL K H (bs.map (brD C)) vs → IsL K (del H a) (bs.map (brD C)) vs
  | [], _, e => e
  | b :: bs, _, ⟨v, r, e, i, il⟩ => by
    obtain ⟨x, dx, rfl, hx⟩ := br_fields i
    exact ⟨_, r, e, br_is (dx := dx) (by rw [del_ne (fun e => by rw [e, h] at hx; cases hx)]; exact hx), brL_del h il⟩
theorem ok_Web_init (T : Tx K mg) : FnOk P w K mg base (L2.CX P w) 8 T.a_Web_init T.fd_Web_init ["self", "rods", "held", "bars"] (spWeb K T) := by
  refine T.F_Web_init.okX sc_Web_init (fun vs H Q E h => ?_) (fun cdv A outer s H vs Q E hr h => ?_)
  · obtain ⟨H0, x, dx, n, hd, bl, hl, bs, ws, rfl, _⟩ := h
    rfl
  · obtain ⟨H0, x, dx, n, hd, bl, hl, bs, ws, rfl, hx, hdx, hne, rfl, hhd, hnd, h64, hbl, hbs, kE, kQ⟩ := h
    refine ⟨_, (pss_cons (ps_expr (pe_call (ok_check_rods T) (hr.mono (by decide)) rfl T.m_check_rods T.F_check_rods.kp T.b_check_rods .nil (passes_call (takes_of rfl rfl rfl rfl) (fun _ _ _ _ h => h)) (pa_cons (pv 1) (pa_cons (pv 2) pa_nil))))
      (pss_cons (ps_expr (pe_call (ok_check_bars T) (hr.mono (by decide)) rfl T.m_check_bars T.F_check_bars.kp T.b_check_bars .nil (passes_call (takes_of rfl rfl rfl rfl) (fun _ _ _ _ h => h)) (pa_cons (pv 1) (pa_cons (pv 2) (pa_cons (pv 3) pa_nil)))))
      (pss_cons (ps_fld (pv 0) (pv 1) rfl)
      (pss_cons (ps_fld (pv 0) (pe_callTy call_tuple_of (by rfl) T.z_tuple (by decide +kernel) (pa_cons (pv 3) pa_nil)) rfl)
      (pss_one (ps_fld (pv 0) (pe_dc (own := [("rod", 4)]) (g := gName 4) (tt := tYes) rfl sc_Web_init.nd (pi_list (pe_callB (call_sortedDI rfl) (by rfl) T.z_sorted (by decide +kernel) (pa_cons (pv 2) pa_nil))) (blkOk_by (own := [("rod", 4)]) (N := N_Web_init) (sc := defScope s_Web_init) (by decide +kernel)) (fun _ _ _ _ _ => pg_name (i := 4) sc_Web_init.nd rfl (Or.inl rfl)) (fun _ _ _ _ _ => pts_nil) (fun _ _ _ _ _ => pv 4) (fun _ _ _ _ _ => pe_dget (hu_of hr) (pv 2) (pv 4) (fun _ _ => rfl))) rfl)))))), ?_⟩
    have eH : Ext H0 (upd (upd H0 dx (.own x)) x (.ins T.C_Web dx [])) := (Ext.upd hdx).mut hx
    have hxi : (upd (upd H0 dx (.own x)) x (.ins T.C_Web dx [])) x = some (.ins T.C_Web dx []) := upd_same
    generalize upd (upd H0 dx (.own x)) x (.ins T.C_Web dx []) = H1 at eH hxi ⊢
    refine ⟨_, rfl, _, rfl, n, hd, hl, rfl, eH _ _ hhd, h64, fun r hr' => ?_, fun hc1 H2 e2 => ?_⟩
    · exact fun d H' e' hd0 hx' => kE r (by unfold ckWeb; rw [hr']) d H' (eH.trans e') (eH.fresh hd0) hx'
    have e02 := eH.trans e2
    refine ⟨_, rfl, _, rfl, _, rfl, n, hd, bl, hl, bs, ws, rfl, e02 _ _ hhd, hbl.ext e02, hbs.ext e02, fun r hr' => ?_, fun hc2 H3 e3 => ?_⟩
    · exact fun d H' e' hd0 hx' => kE r (by unfold ckWeb; rw [hc1]; exact hr') d H' (e02.trans e') (e02.fresh hd0) hx'
    have e03 := e02.trans e3
    have hx3 := e3 _ _ (e2 _ _ hxi)
    have hck : ckWeb n hl bs = none := by unfold ckWeb; rw [hc1]; exact hc2
    refine ⟨_, rfl, _, rfl, x, T.C_Web, dx, _, rfl, hx3, T.c_Web, T.nf_Web_rods, (by show 0 < 1000; decide), ?_⟩
    have e04 : Ext H0 (upd H3 x (.ins T.C_Web dx (putF "rods" (.int n) []))) := e03.mut hx
    have hx4 : (upd H3 x (.ins T.C_Web dx (putF "rods" (.int n) []))) x = some (.ins T.C_Web dx [("rods", .int n)]) := upd_same
    generalize upd H3 x (.ins T.C_Web dx (putF "rods" (.int n) [])) = H4 at e04 hx4 ⊢
    rcases hbl with hb | hb
    refine ⟨_, rfl, bl, ws, rfl, .inl ⟨hb.ext e04, fun t htn => ?_⟩⟩
    have e45 : Ext H4 (upd H4 t (.tup ws)) := Ext.upd htn
    have ht : SqT K (del (upd H4 t (.tup ws)) x) t ws := SqT.of (by rw [del_ne (ne_of_none hx4 htn).symm, upd_same])
    have hbs5 := hbs
    generalize upd H4 t (.tup ws) = H5 at e45 ht ⊢
    rotate_left
    refine ⟨_, rfl, bl, ws, rfl, .inr ⟨hb.ext e04, ?_⟩⟩
    obtain ⟨H5, e5⟩ : ∃ H5, H5 = H4 := ⟨_, rfl⟩
    rw [← e5]
    have e45 : Ext H4 H5 := e5 ▸ Ext.rfl'
    have ht : SqT K (del H5 x) bl ws := by rw [e5]; exact hb.ext (Ext.dele e04 hx)
    clear e5 hb
    have hbs5 := hbs
    revert ht
    generalize bl = t
    intro ht
    all_goals
      have hx5 := e45 _ _ hx4
      have e05 := e04.trans e45
      refine ⟨_, rfl, x, T.C_Web, dx, _, rfl, hx5, T.c_Web, T.nf_Web_bars, (by show 1 < 1000; decide), ?_⟩
      have e06 : Ext H0 (upd H5 x (.ins T.C_Web dx (putF "bars" (.ref t) [("rods", .int n)]))) := e05.mut hx
      have hx6 : (upd H5 x (.ins T.C_Web dx (putF "bars" (.ref t) [("rods", .int n)]))) x = some (.ins T.C_Web dx [("rods", .int n), ("bars", .ref t)]) := upd_same
      have d56 : DE x H5 (upd H5 x (.ins T.C_Web dx (putF "bars" (.ref t) [("rods", .int n)]))) := DE.upd
      generalize upd H5 x (.ins T.C_Web dx (putF "bars" (.ref t) [("rods", .int n)])) = H6 at e06 hx6 d56 ⊢
      have hkk : (hK hl).map (·.1) = (hl.map (·.1)).map Sum.inl := by
        unfold hK
        rw [List.map_map, List.map_map]
        rfl
      refine ⟨_, rfl, hd, _, _, rfl, .inl (e06 _ _ hhd), hkk, by rw [List.length_map]; exact h64, fun ys p hp hs hpn => ?_⟩
      cases srt_eq hp hs
      have hp7 : (upd H6 p (.lst ((srtI (hl.map (·.1))).map V.int))) p = some (.lst ((srtI (hl.map (·.1))).map V.int)) := upd_same
      have e67 : Ext H6 (upd H6 p (.lst ((srtI (hl.map (·.1))).map V.int))) := Ext.upd hpn
      generalize upd H6 p (.lst ((srtI (hl.map (·.1))).map V.int)) = H7 at hp7 e67 ⊢
      have e07 := e06.trans e67
      have hx7 := e67 _ _ hx6
      have d57 := d56.trans (DE.of e67)
      refine ⟨p, rfl, ⟨_, SqL.of hp7⟩, fun D hD => dc_list (K := K) (a := p) (xs := (srtI (hl.map (·.1))).map V.int) (fun i H' => Ext H7 H' ∧ H' D = some (.dK (hK (((srtI (hl.map (·.1))).take i).map fun r => (r, lookI hl r)))))
        ⟨Ext.upd hD, upd_same⟩ (fun i H' _ p => (SqL.of hp7).ext p.1) ?_ ?_⟩
      · rintro i y H8 hi ⟨e78, hD8⟩
        obtain ⟨r, hr', rfl⟩ : ∃ r, (srtI (hl.map (·.1)))[i]? = some r ∧ y = V.int r := by
          rw [List.getElem?_map] at hi
          cases e : (srtI (hl.map (·.1)))[i]? with
          | none => rw [e] at hi; cases hi
          | some n => rw [e] at hi; exact ⟨n, rfl, (Option.some.inj hi).symm⟩
        have hmem : r ∈ hl.map (·.1) := (srtI_perm _).mem_iff.mp (List.mem_of_getElem? hr')
        have hv : DGet H8 hd (V.int r) (some (V.int (lookI hl r))) := by
          rw [← val_hK hmem]
          exact DGet.k (k := Sum.inl r) ((e07.trans e78) _ _ hhd)
        have hnew : (Sum.inl r : Key) ∉ (hK (((srtI (hl.map (·.1))).take i).map fun r => (r, lookI hl r))).map (·.1) := by
          intro z
          unfold hK at z
          rw [List.map_map, List.map_map] at z
          obtain ⟨r', h1, h2⟩ := List.mem_map.mp z
          have e : r' = r := Sum.inl.inj h2
          subst e
          have hnd2 : (srtI (hl.map (·.1))).Nodup := (srtI_perm _).nodup_iff.mpr hnd
          obtain ⟨j, hj⟩ := List.getElem?_of_mem h1
          have hji : j < i := by
            have := (List.getElem?_eq_some_iff.mp hj).1
            rw [List.length_take] at this
            omega
          rw [List.getElem?_take_of_lt hji] at hj
          have hlt := (List.getElem?_eq_some_iff.mp hr').1
          have := (List.getElem?_inj (i := j) (j := i) (by omega) hnd2).mp (hj.trans hr'.symm)
          omega
        refine ⟨rfl, tyes ?_⟩
        refine ⟨_, rfl, _, rfl, _, rfl, hd, _, rfl, hv, _, Sum.inl r, rfl, hD8, ?_, e78.mut hD, ?_⟩
        · unfold hK
          rw [List.length_map, List.length_map, List.length_take]
          exact Nat.lt_of_lt_of_le (show min i (srtI (hl.map (·.1))).length < 100 by
            rw [(srtI_perm (hl.map (·.1))).length_eq, List.length_map]
            omega) (by decide)
        · rw [upd_same, put_new hnew, List.take_add_one, hr']
          unfold hK
          simp
      · rintro H8 ⟨e78, hD8⟩
        rw [List.length_map, List.take_length] at hD8
        have hx8 := e78 _ _ hx7
        refine ⟨_, rfl, x, T.C_Web, dx, _, rfl, hx8, T.c_Web, T.nf_Web_held, (by show 2 < 1000; decide), ?_⟩
        have d59 : DE x H5 (upd H8 x (.ins T.C_Web dx [("rods", .int n), ("bars", .ref t), ("_held", .ref D)])) := (d57.trans (DE.of e78)).trans DE.upd
        have e09 : Ext H0 (upd H8 x (.ins T.C_Web dx [("rods", .int n), ("bars", .ref t), ("_held", .ref D)])) := (e07.trans e78).mut hx
        have hDx : D ≠ x := (ne_of_none hx7 hD).symm
        have hD9 : (upd H8 x (.ins T.C_Web dx [("rods", .int n), ("bars", .ref t), ("_held", .ref D)])) D = some (.dK (hK (normH hl))) := by
          rw [upd_ne hDx]
          exact hD8
        have ht9 := SqT.de' (K := K) (ht.ext d59)
        refine kQ hck _ e09 (wb_is upd_same ht9 (hbs.ext e09) hD9) fun a kvs ha => ?_
        have ha9 := e09 _ _ ha
        refine wb_is (dx := dx) (t := t) (d := D) ?_ (sqT_del ht9 ha9) (brL_del ha9 (hbs.ext e09)) ?_
        · rw [del_ne (ne_of_none ha hx).symm, upd_same]
          rfl
        · rw [del_ne (ne_of_none (e07 _ _ ha) hD).symm]
          exact hD9
end
end K53
namespace K53
open PySem L2
section
variable {P : Program} {w : World} {K : PySem.W.Frag} {mg : Str → Option Value} {base : Heap}
def offK (hl : List (Int × Int)) (r : Int) : Bool := !((hl.map (·.1)).contains r)
def hangL (n : Int) (hl : List (Int × Int)) : List Int := (rangeI n.toNat).filter (offK hl)
theorem val_none : ∀ {hl : List (Int × Int)} {r : Int}, r ∉ hl.map (·.1) → valV (hK hl) (Sum.inl r) = none
  | [], _, _ => rfl
  | p :: hl, r, h => by
    have h1 : p.1 ≠ r := fun e => h (by rw [List.map_cons, e]; exact List.mem_cons_self)
    have h2 := val_none (hl := hl) (r := r) fun z => h (List.mem_cons_of_mem _ z)
    unfold valV hK at h2 ⊢
    rw [List.map_cons, List.find?_cons, decide_eq_false (fun z => h1 (Sum.inl.inj z))]
    exact h2
theorem val_some {hl : List (Int × Int)} {r : Int} : (valV (hK hl) (Sum.inl r)).isSome = (hl.map (·.1)).contains r := by
  by_cases h : r ∈ hl.map (·.1)
  · rw [val_hK h, List.contains_iff_mem.mpr h]
    rfl
  · rw [val_none h, Bool.eq_false_iff.mpr fun z => h (List.contains_iff_mem.mp z)]
    rfl
def spHanging (K : PySem.W.Frag) (C CB : Addr) : Sp := fun vs H Q _ => ∃ (v : V) (n : Int) (bs : List BarD) (hl : List (Int × Int)), vs = [v] ∧ Is K H (wbD C CB n bs hl) v ∧ 0 ≤ n ∧ n ≤ 1000 ∧ ∀ p H', H p = none → Ext H H' → H' p = some (.lst ((hangL n hl).map V.int)) → Q (.ref p) H'
theorem ok_Web_hanging (T : Tx K mg) : FnOk P w K mg base (L2.CX P w) 2 T.a_Web_hanging T.fd_Web_hanging ["self"] (spHanging K T.C_Web T.C_Bar) := by
  refine T.F_Web_hanging.okX sc_Web_hanging (fun vs H Q E h => ?_) (fun cdv A outer s H vs Q E hr h => ?_)
  · obtain ⟨v, n, bs, hl, rfl, _⟩ := h
    rfl
  · obtain ⟨v, n, bs, hl, rfl, hw, n0, n1, k⟩ := h
    refine ⟨_, (pss_one (ps_ret (pe_lc (own := [("rod", 1)]) (g := gName 1) (by rfl) sc_Web_hanging.nd (pi_range1 rfl T.z_range (pa_cons (pe_fld (pv 0) rfl) pa_nil)) (blkOk_by (own := [("rod", 1)]) (N := N_Web_hanging) (sc := defScope s_Web_hanging) (by decide +kernel)) (fun _ _ _ _ _ => (pg_name (i := 1) sc_Web_hanging.nd rfl (Or.inl rfl))) (fun _ _ _ _ _ => (pts_one (pt_cmp (h1 := rfl) (pc_dnotin (ty := tVar 1) (td := tFld K (tVar 0) "_held") (hu_of hr) (pv 1) (pe_fld (pv 0) rfl))))) (fun _ _ _ _ _ => (pv 1))))), ?_⟩
    obtain ⟨a, dx, t, d, ws, rfl, ha, ht, hb, hd⟩ := wb_fields hw
    refine ⟨_, rfl, a, T.C_Web, dx, _, _, rfl, ha, T.c_Web, T.nf_Web_rods, rfl, n, rfl, by omega, by omega, lc_rangeF (offK hl) (fun i => i) (by omega) (fun i hi H' e R N hR => ?_) (fun D H' hD e hD' => ?_)⟩
    · refine ⟨rfl, _, rfl, _, rfl, a, T.C_Web, dx, _, _, rfl, e _ _ ha, T.c_Web, T.nf_Web_held, rfl, d, _, rfl, DGet.k (k := Sum.inl (0 + (i : Nat) : Int)) (e _ _ hd), _, rfl, ?_⟩
      rw [val_some, Int.zero_add]
      by_cases hp : offK hl (i : Nat) = true
      · rw [if_pos hp] at hR
        unfold offK at hp
        rw [if_pos hp]
        exact ⟨_, rfl, hR⟩
      · rw [if_neg hp] at hR
        unfold offK at hp
        rw [if_neg hp]
        exact hR
    · refine k D H' hD e ?_
      rw [List.map_id'] at hD'
      exact hD'
end
end K53
namespace L2
theorem cut_take (xs : List V) (k : Nat) : cutV xs none (some (k : Int)) = xs.take k := by
  unfold cutV
  rw [HT.sIx_nat, HT.sIx_none, List.drop_zero, Nat.sub_zero]
  by_cases h : k ≤ xs.length
  · rw [Nat.min_eq_left h]
  · rw [Nat.min_eq_right (by omega), List.take_of_length_le (Nat.le_refl _), List.take_of_length_le (by omega)]
theorem cut_drop (xs : List V) (k : Nat) : cutV xs (some (k : Int)) none = xs.drop k := by
  unfold cutV
  rw [HT.sIx_nat, HT.sIx_none]
  by_cases h : k ≤ xs.length
  · rw [Nat.min_eq_left h, List.take_of_length_le (by rw [List.length_drop]; omega)]
  · rw [Nat.min_eq_right (by omega), List.drop_eq_nil_of_le (Nat.le_refl _), List.drop_eq_nil_of_le (by omega), List.take_nil]
theorem rgV_range (n : Nat) : rgV 0 (n : Int) = (rangeI n).map V.int := by
  unfold rgV rangeI
  rw [List.map_map, Int.sub_zero, Int.toNat_natCast]
  refine List.map_congr_left fun i _ => ?_
  show V.int (0 + (i : Nat)) = V.int (i : Nat)
  rw [Int.zero_add]
theorem mem_rangeI {n : Nat} {x : Int} : x ∈ rangeI n ↔ 0 ≤ x ∧ x < n := by
  unfold rangeI
  rw [List.mem_map]
  constructor
  · rintro ⟨i, hi, rfl⟩
    have := List.mem_range.mp hi
    omega
  · rintro ⟨h0, h1⟩
    exact ⟨x.toNat, List.mem_range.mpr (by omega), by omega⟩
theorem nodup_rangeI (n : Nat) : (rangeI n).Nodup := by
  unfold rangeI
  rw [List.nodup_iff_pairwise_ne, List.pairwise_map]
  exact (List.nodup_iff_pairwise_ne.mp List.nodup_range).imp fun h e => h (by omega)
theorem len_rangeI (n : Nat) : (rangeI n).length = n := by
  unfold rangeI
  rw [List.length_map, List.length_range]
end L2
namespace K53
open PySem L2
structure BarOk (n : Int) (b : BarD) : Prop where
  a0 : 0 ≤ b.a
  a1 : b.a < n
  b0 : 0 ≤ b.b
  b1 : b.b < n
  c0 : 0 ≤ b.c
  c1 : b.c < n
  ab : b.b ≠ b.a
  ac : b.c ≠ b.a
  bc : b.c ≠ b.b
  l0 : 1 ≤ b.len
  l1 : b.len ≤ 1000000
  o0 : 0 ≤ b.lo
  o1 : b.lo ≤ b.hi
  o2 : b.hi ≤ b.len
theorem BarOk.ck {n k : Int} {b : BarD} (h : BarOk n b) : ckBar n k b = none := by
  have hoff : ∀ r : Int, 0 ≤ r → r < n → offRod n r = false := fun r h0 h1 => by
    unfold offRod
    rw [decide_eq_true h0, decide_eq_true h1]
    rfl
  unfold ckBar
  have hf : [b.a, b.b, b.c].find? (offRod n) = none := by
    rw [List.find?_cons, hoff _ h.a0 h.a1, List.find?_cons, hoff _ h.b0 h.b1, List.find?_cons, hoff _ h.c0 h.c1]
    rfl
  rw [hf]
  dsimp only
  rw [if_neg h.ab, if_neg (fun z => z.elim h.ac h.bc), if_neg (fun z => z ⟨h.l0, h.l1⟩), if_neg (fun z => z ⟨h.o0, h.o1, h.o2⟩)]
structure WebOk (n : Int) (hl : List (Int × Int)) (bs : List BarD) : Prop where
  n3 : 3 ≤ n
  n10 : n ≤ 10
  keys : ∀ q ∈ hl, (0 ≤ q.1 ∧ q.1 < n) ∧ -1000000 ≤ q.2 ∧ q.2 ≤ 1000000
  nd : (hl.map (·.1)).Nodup
  ne : hl ≠ []
  b1 : 1 ≤ bs.length
  b8 : bs.length ≤ 8
  sum : (bs.length : Int) = n - hl.length
  bars : ∀ b ∈ bs, BarOk n b
theorem look_mem : ∀ {hl : List (Int × Int)} {r : Int}, r ∈ hl.map (·.1) → (r, lookI hl r) ∈ hl
  | [], _, h => by cases h
  | p :: hl, r, h => by
    unfold lookI
    by_cases e : p.1 = r
    · rw [List.find?_cons, decide_eq_true e]
      subst e
      exact List.mem_cons_self
    · rw [List.find?_cons, decide_eq_false e]
      refine List.mem_cons_of_mem _ ?_
      refine look_mem (hl := hl) ?_
      rcases List.mem_cons.mp h with h | h
      · exact absurd h.symm e
      · exact h
theorem WebOk.l64 {n : Int} {hl : List (Int × Int)} {bs : List BarD} (h : WebOk n hl bs) : hl.length < 64 := by
  have := h.sum
  have := h.n10
  omega
theorem WebOk.ck {n : Int} {hl : List (Int × Int)} {bs : List BarD} (h : WebOk n hl bs) : ckWeb n hl bs = none := by
  have h1 : (srtI (hl.map (·.1))).find? (offRod n) = none := by
    rw [List.find?_eq_none]
    intro r hr
    have hm := look_mem ((srtI_perm _).mem_iff.mp hr)
    have := (h.keys _ hm).1
    unfold offRod
    rw [decide_eq_true this.1, decide_eq_true this.2]
    decide
  have h2 : (srtI (hl.map (·.1))).find? (farH hl) = none := by
    rw [List.find?_eq_none]
    intro r hr
    have hm := look_mem ((srtI_perm _).mem_iff.mp hr)
    have := (h.keys _ hm).2
    unfold farH
    rw [decide_eq_true this.1, decide_eq_true this.2]
    decide
  have h3 : ckRods n hl = none := by
    unfold ckRods
    rw [if_neg (fun z => z ⟨h.n3, h.n10⟩), h1]
    dsimp only
    rw [h2]
    dsimp only
    rw [if_neg h.ne]
  unfold ckWeb
  rw [h3]
  dsimp only
  unfold ckBars
  have := h.b1
  have := h.b8
  rw [if_neg (fun z => z ⟨by omega, by omega⟩), if_neg (fun z => z h.sum)]
  exact ck_no fun j c hc => (h.bars c (List.mem_of_getElem? hc)).ck
section
variable {P : Program} {w : World} {K : PySem.W.Frag} {mg : Str → Option Value} {base : Heap}
def bfD (b : BarD) : Dt := .tup (brT b)
theorem bf_is {H : Hp} {t : Addr} {b : BarD} (h : H t = some (.tup (brV b))) : Is K H (bfD b) (.ref t) :=
  ⟨t, _, rfl, SqT.of h, _, _, rfl, rfl, _, _, rfl, rfl, _, _, rfl, rfl, _, _, rfl, rfl, _, _, rfl, rfl, _, _, rfl, rfl, rfl⟩
theorem bf_of {H : Hp} {v : V} {b : BarD} (h : Is K H (bfD b) v) : ∃ t, v = .ref t ∧ SqT K H t (brV b) := by
  obtain ⟨t, ws, rfl, ht, v1, r1, e1, f1, v2, r2, e2, f2, v3, r3, e3, f3, v4, r4, e4, f4, v5, r5, e5, f5, v6, r6, e6, f6, e7⟩ := h
  subst e7 e6 e5 e4 e3 e2 e1
  cases (show v1 = _ from f1)
  cases (show v2 = _ from f2)
  cases (show v3 = _ from f3)
  cases (show v4 = _ from f4)
  cases (show v5 = _ from f5)
  cases (show v6 = _ from f6)
  exact ⟨t, rfl, ht⟩
theorem hd_of_is {H : Hp} {v : V} {hl : List (Int × Int)} (h : Is K H (hdD hl) v) : ∃ d, v = .ref d ∧ H d = some (.dK (hK hl)) := by
  obtain ⟨d, qs, rfl, k2, k3, k4⟩ := h
  have hq : qs = hK hl := hd_of k3 (by
    have z : IsL K H ((hl.map (·.2)).map Dt.int) (qs.map (·.2)) := by rw [List.map_map]; exact k4
    rw [of_isL_ints z, List.map_map]
    rfl)
  subst hq
  exact ⟨d, rfl, k2⟩
theorem merge_new : ∀ (kvs acc : List (Key × V)), (acc.map (·.1) ++ kvs.map (·.1)).Nodup → mergeK acc kvs = acc ++ kvs
  | [], acc, _ => by rw [List.append_nil]; rfl
  | (k, v) :: kvs, acc, h => by
    show mergeK (putK acc k v) kvs = _
    have hk : k ∉ acc.map (·.1) := fun z => by
      have := List.nodup_append.mp h
      exact this.2.2 k z k List.mem_cons_self rfl
    rw [put_new hk, merge_new kvs (acc ++ [(k, v)]), List.append_assoc]
    · rfl
    · rw [List.map_append, List.append_assoc]
      exact h
end
end K53
namespace L2
open PySem
/-- a well from which n more may be drawn -/
def WellN (n : Nat) (H : Hp) (p : Addr) : Prop := ∃ a b c : Int, H p = some (.lst [.int a, .int b, .int c]) ∧ 0 ≤ b ∧ b < 2147483647 ∧ 0 ≤ c ∧ c + (n : Int) ≤ 1099511627776
theorem WellN.well {n : Nat} {H : Hp} {p : Addr} (h : WellN n H p) : WellAt H p := let ⟨a, b, c, e, _⟩ := h; ⟨a, b, c, e⟩
theorem WellN.ext {n : Nat} {H H' : Hp} {p : Addr} (h : WellN n H p) (e : Ext H H') : WellN n H' p := let ⟨a, b, c, h1, h2⟩ := h; ⟨a, b, c, e _ _ h1, h2⟩
theorem WellN.upd {n : Nat} {H : Hp} {p D : Addr} {o : HO} (h : WellN n H p) (hD : D ≠ p) : WellN n (L2.upd H D o) p := let ⟨a, b, c, h1, h2⟩ := h; ⟨a, b, c, by rw [upd_ne hD.symm]; exact h1, h2⟩
theorem WellN.ne {n : Nat} {H : Hp} {p q : Addr} (h : WellN n H p) (hq : H q = none) : q ≠ p := h.well.ne hq
theorem WellN.le {n m : Nat} {H : Hp} {p : Addr} (h : WellN n H p) (hm : m ≤ n) : WellN m H p := let ⟨a, b, c, h1, h2, h3, h4, h5⟩ := h; ⟨a, b, c, h1, h2, h3, h4, by omega⟩
end L2
namespace K53
open PySem L2
section
variable {P : Program} {w : World} {K : PySem.W.Frag} {mg : Str → Option Value} {base : Heap}
def spWell : Sp := fun vs H Q _ => ∃ n : Int, vs = [.int n] ∧ ∀ p H', H p = none → Ext H H' → WellN 1099511627776 H' p → Q (.ref p) H'
theorem ok_l_well (T : Tx K mg) : FnOk P w K mg base (L2.CX P w) 1 T.a_l_well T.fd_l_well ["_law_cell"] spWell := by
  refine T.F_l_well.okX sc_l_well (fun vs H Q E h => ?_) (fun cdv A outer s H vs Q E hr h => ?_)
  · obtain ⟨n, rfl, _⟩ := h
    rfl
  · obtain ⟨n, rfl, k⟩ := h
    refine ⟨_, (pss_one (ps_ret (pe_lst (pa_cons (pe_op op_mul (pv 0) (pe_callTy call_int1 (by rfl) T.z_int (by decide +kernel) (pa_cons (pe_cmpR op_ge (pv 0) (pe_op op_pow pe_int pe_int) (nomark _)) pa_nil))) (pa_cons (pe_op op_modN (pv 0) pe_int) (pa_cons pe_int pa_nil)))))), ?_⟩
    refine ⟨_, rfl, _, rfl, _, _, rfl, rfl, cpow18, _, _, rfl, rfl, .inr ⟨_, rfl, ?_⟩⟩
    refine ⟨_, _, rfl, rfl, .inr ⟨by split <;> decide, by split <;> decide⟩, ?_⟩
    have b1 := fmod_bounds (a := n) (m := 2147483647) (by decide)
    refine ⟨_, rfl, _, _, rfl, rfl, (show (2147483647 : Int) ≠ 0 by decide), by show 3 ≤ sizeLine; decide, fun p hp => ?_⟩
    exact k p _ hp (Ext.upd hp) ⟨_, _, _, upd_same, b1.1, b1.2, Int.le_refl _, by decide⟩
def spDraw : Sp := fun vs H Q _ => ∃ (p : Addr) (m : Int) (N : Nat), vs = [.ref p, .int m] ∧ WellN (N + 1) H p ∧ 0 < m ∧ m < 1073741824 ∧ ∀ (r : Int) (H' : Hp), DE p H H' → WellN N H' p → 0 ≤ r → r < m → Q (.int r) H'
theorem ok_l_draw (T : Tx K mg) : FnOk P w K mg base (L2.CX P w) 1 T.a_l_draw T.fd_l_draw ["_law_well_here", "_law_many"] spDraw := by
  refine T.F_l_draw.okX sc_l_draw (fun vs H Q E h => ?_) (fun cdv A outer s H vs Q E hr h => ?_)
  · obtain ⟨p, m, N, rfl, _⟩ := h
    rfl
  · obtain ⟨p, m, N, rfl, ⟨a, b, c, hw, b0, b1, c0, c1⟩, hm, hm2, k⟩ := h
    refine ⟨_, (pss_cons (ps_if (pt_cmpR op_gt (pe_ix ix_list (pv 0) pe_int (fun _ _ => rfl)) pe_int (nomark _)) (pss_cons (ps_set (i := 2) sc_l_draw.nd rfl (Or.inl rfl) (pe_op op_modN (pe_ix ix_list (pv 0) pe_int (fun _ _ => rfl)) (pv 1)))
      (pss_cons (ps_asg (pe_op op_fdivN (pe_ix ix_list (pv 0) pe_int (fun _ _ => rfl)) (pv 1)) (pg_sub (pv 0) pe_int set_list))
      (pss_one (ps_ret (pv 2))))) pss_nil)
      (pss_cons (ps_asg (pe_op op_add (pe_ix ix_list (pv 0) pe_int (fun _ _ => rfl)) pe_int) (pg_sub (pv 0) pe_int set_list))
      (pss_cons (ps_set (i := 3) sc_l_draw.nd rfl (Or.inl rfl) (pe_op op_modN (pe_op op_pow (pe_op op_add (pe_op op_add (pe_ix ix_list (pv 0) pe_int (fun _ _ => rfl)) (pe_op op_mul pe_int (pe_ix ix_list (pv 0) pe_int (fun _ _ => rfl)))) pe_int) pe_int) pe_int))
      (pss_cons (ps_set (i := 3) sc_l_draw.nd rfl (Or.inl rfl) (pe_op op_modN (pe_op op_mul (pv 3) (pe_op op_add (pe_op op_add (pe_op op_fdivN (pv 3) pe_int) pe_int) (pe_ix ix_list (pv 0) pe_int (fun _ _ => rfl)))) pe_int))
      (pss_one (ps_ret (pe_op op_modN (pe_op op_fdivN (pe_op op_modN (pe_op op_mul (pv 3) (pe_op op_add (pe_op op_fdivN (pv 3) pe_int) pe_int)) pe_int) pe_int) (pv 1)))))))), ?_⟩
    refine ⟨_, rfl, p, _, _, _, rfl, rfl, SqL.of hw, at3a, _, _, rfl, rfl, _, rfl, ?_⟩
    refine ite2 (fun _ => ?_) (fun _ => ?_)
    · refine ⟨_, rfl, p, _, _, _, rfl, rfl, SqL.of hw, at3a, _, rfl, _, _, rfl, rfl, (by omega), ?_⟩
      refine ⟨_, rfl, p, _, _, _, rfl, rfl, SqL.of hw, at3a, _, rfl, _, _, rfl, rfl, ⟨by omega, by omega⟩, ?_⟩
      refine ⟨_, rfl, p, _, _, 0, rfl, rfl, hw, rfl, ?_⟩
      refine ⟨_, rfl, ?_⟩
      have fb := fmod_bounds (a := a) hm
      exact k _ _ DE.upd ⟨_, _, _, upd_same, b0, b1, c0, by omega⟩ fb.1 fb.2
    · refine ⟨_, rfl, p, _, _, _, rfl, rfl, SqL.of hw, at3c, _, _, rfl, rfl, ?_⟩
      refine ⟨_, rfl, p, _, _, 2, rfl, rfl, hw, rfl, ?_⟩
      have hw2 : (upd H p (.lst [.int a, .int b, .int (c + 1)])) p = some (.lst [.int a, .int b, .int (c + 1)]) := upd_same
      refine ⟨_, rfl, p, _, _, _, rfl, rfl, SqL.of hw2, at3b, _, rfl, p, _, _, _, rfl, rfl, SqL.of hw2, at3c, _, _, rfl, rfl, .inl ⟨by decide, by decide⟩, _, _, rfl, rfl, _, _, rfl, rfl, _, _, rfl, rfl, ⟨by decide, by decide, by omega⟩, _, _, rfl, rfl, (show (2147483629 : Int) ≠ 0 by decide), ?_⟩
      have n1 := fmod_bounds (a := (b + 7919 * (c + 1) + 1) ^ (5 : Int).toNat) (m := 2147483629) (by decide)
      refine ⟨_, rfl, _, rfl, _, _, rfl, rfl, ⟨by decide, by decide⟩, _, _, rfl, rfl, _, rfl, p, _, _, _, rfl, rfl, SqL.of hw2, at3c, _, _, rfl, rfl, _, _, rfl, rfl, .inl ⟨Int.lt_of_lt_of_le (by decide) n1.1, Int.lt_trans n1.2 (by decide)⟩, _, _, rfl, rfl, (show (2147483587 : Int) ≠ 0 by decide), ?_⟩
      have n2 := fmod_bounds (a := ((b + 7919 * (c + 1) + 1) ^ (5 : Int).toNat).fmod 2147483629 * ((((b + 7919 * (c + 1) + 1) ^ (5 : Int).toNat).fmod 2147483629).fdiv 1009 + 69621 + (c + 1))) (m := 2147483587) (by decide)
      refine ⟨_, rfl, _, rfl, _, _, rfl, rfl, ⟨by decide, by decide⟩, _, _, rfl, rfl, _, _, rfl, rfl, .inl ⟨Int.lt_of_lt_of_le (by decide) n2.1, Int.lt_trans n2.2 (by decide)⟩, _, _, rfl, rfl, (show (2147483579 : Int) ≠ 0 by decide), _, _, rfl, rfl, ⟨by decide, by decide⟩, _, rfl, _, _, rfl, rfl, (show m ≠ 0 by omega), ?_⟩
      exact k _ _ DE.upd ⟨_, _, _, upd_same, b0, b1, by omega, by omega⟩ (fmod_bounds hm).1 (fmod_bounds hm).2
def spPick (K : PySem.W.Frag) : Sp := fun vs H Q _ => ∃ (p l : Addr) (xs : List V) (N : Nat), vs = [.ref p, .ref l] ∧ WellN (N + 1) H p ∧ SqL K (del H p) l xs ∧ 0 < xs.length ∧ xs.length < 1000000 ∧ ∀ (x : V) (H' : Hp), x ∈ xs → DE p H H' → WellN N H' p → Q x H'
theorem ok_l_pick (T : Tx K mg) : FnOk P w K mg base (L2.CX P w) 2 T.a_l_pick T.fd_l_pick ["_law_well_here", "_law_some"] (spPick K) := by
  refine T.F_l_pick.okX sc_l_pick (fun vs H Q E h => ?_) (fun cdv A outer s H vs Q E hr h => ?_)
  · obtain ⟨p, l, xs, N, rfl, _⟩ := h
    rfl
  · obtain ⟨p, l, xs, N, rfl, hw, hl, h0, h1, k⟩ := h
    refine ⟨_, (pss_one (ps_ret (pe_ix ix_list (pv 1) (pe_call (ok_l_draw T) (hr.mono (by decide)) rfl T.m_l_draw T.F_l_draw.kp T.b_l_draw .nil passL (pa_cons (pv 0) (pa_cons (pe_callB call_len_seq (by rfl) T.z_len PySem.boot_len (pa_cons (pv 1) pa_nil)) pa_nil))) (fun _ _ => rfl)))), ?_⟩
    refine ⟨_, rfl, _, rfl, _, rfl, l, xs, rfl, .inl hl.de, p, _, N, rfl, hw, by omega, by omega, fun r H' e hw' r0 r1 => ?_⟩
    obtain ⟨x, hx, ha⟩ := atI_of r0 r1
    exact ⟨l, xs, r, x, rfl, rfl, (hl.ext e).de, ha, k x H' (List.mem_of_getElem? hx) e hw'⟩
end
end K53
namespace L2
open PySem
theorem erase_permV {α : Type} : ∀ {l : List α} {i : Nat} {y : α}, l[i]? = some y → (y :: l.eraseIdx i).Perm l
  | [], _, _, h => by simp at h
  | x :: l, 0, y, h => by
    cases (show some x = some y from h)
    exact .refl _
  | x :: l, i + 1, y, h => by
    rw [List.eraseIdx_cons_succ]
    exact (List.Perm.swap x y _).trans (.cons x (erase_permV (l := l) (i := i) h))
/-- len(x) of a row -/
def rLenS (K : PySem.W.Frag) : List V → Hp → (V → Hp → Prop) → Prop := fun xs H Q => ∃ p ys, xs = [.ref p] ∧ (SqL K H p ys ∨ SqT K H p ys) ∧ Q (.int ys.length) H
end L2
namespace K53
open PySem L2
section
variable {P : Program} {w : World} {K : PySem.W.Frag} {mg : Str → Option Value} {base : Heap}
def spUnlike (K : PySem.W.Frag) : Sp := fun vs H Q _ => ∃ (p l : Addr) (xs : List V) (m N : Nat), vs = [.ref p, .ref l, .int (m : Int)] ∧ WellN (N + m) H p ∧ SqL K (del H p) l xs ∧ m ≤ xs.length ∧ xs.length < 1000 ∧
  ∀ (a : Addr) (ys rest : List V) (H' : Hp), a ≠ p → del H p a = none → DE p H H' → WellN N H' p → H' a = some (.lst ys) → ys.length = m → (ys ++ rest).Perm xs → Q (.ref a) H'
theorem ok_l_unlike (T : Tx K mg) : FnOk P w K mg base (L2.CX P w) 2 T.a_l_unlike T.fd_l_unlike ["_law_well_here", "_law_some", "_law_many"] (spUnlike K) := by
  refine T.F_l_unlike.okX sc_l_unlike (fun vs H Q E h => ?_) (fun cdv A outer s H vs Q E hr h => ?_)
  · obtain ⟨p, l, xs, m, N, rfl, _⟩ := h
    rfl
  · obtain ⟨p, l, xs, m, N, rfl, hw, hl, hm, hx, k⟩ := h
    refine ⟨_, (pss_cons (ps_set (i := 3) sc_l_unlike.nd rfl (Or.inr rfl) (pe_callTy call_list_of (by rfl) T.z_list (by decide +kernel) (pa_cons (pv 1) pa_nil)))
      (pss_one (ps_ret (pe_lc (own := [("_law_k", 4)]) (g := gName 4) (tt := tYes) (te := tBM K "list" rPopAt (tVar 3) (tCons (tCall spDraw [] E0 (tCons (tVar 0) (tCons (tCB (rLenS K) (tCons (tVar 3) tNil)) tNil))) tNil)) (by rfl) sc_l_unlike.nd (pi_range1 rfl T.z_range (pa_cons (pv 2) pa_nil)) (blkOk_by (own := [("_law_k", 4)]) (N := N_l_unlike) (sc := defScope s_l_unlike) (by decide +kernel)) (fun _ _ _ _ _ => (pg_name (i := 4) sc_l_unlike.nd rfl (Or.inl rfl))) (fun _ _ _ _ _ => pts_nil)
        (fun _ _ _ _ _ => (by exact pe_bm PySem.F.plainAttrs_list PySem.F.slot_list_pop PySem.F.type_list_pop mt_popAt (pv 3) (pa_cons (pe_call (ok_l_draw T) (hr.mono (by decide)) rfl T.m_l_draw T.F_l_draw.kp T.b_l_draw .nil passL (pa_cons (pv 0) (pa_cons (pe_callB call_len_seq (by rfl) T.z_len PySem.boot_len (pa_cons (pv 3) pa_nil)) pa_nil))) pa_nil))))))), ?_⟩
    refine ⟨_, rfl, l, xs, rfl, .inl hl.de, fun L hL => ?_⟩
    have hLp : L ≠ p := hw.ne hL
    have hw1 : WellN (N + m) (upd H L (.lst xs)) p := hw.ext (Ext.upd hL)
    have hL0 : del H p L = none := by rw [del_ne hLp]; exact hL
    refine ⟨_, rfl, (m : Int), rfl, by omega, by omega, fun F hF => ?_⟩
    rw [Int.toNat_natCast]
    have hFp : F ≠ p := hw1.ne hF
    have hFL : F ≠ L := fun e => by rw [e, upd_same] at hF; cases hF
    have hFH : H F = none := by rw [upd_ne hFL] at hF; exact hF
    have hF0 : del H p F = none := by rw [del_ne hFp]; exact hFH
    refine lc_range (lo := 0) (n := m) (fun i H' => ∃ ls fs : List V, H' L = some (.lst ls) ∧ H' F = some (.lst fs) ∧ fs.length = i ∧ (fs ++ ls).Perm xs ∧ DE p H H' ∧ WellN (N + (m - i)) H' p)
      ⟨xs, [], by rw [upd_ne hFL.symm, upd_same], upd_same, rfl, .refl _, (DE.of (Ext.upd hL)).trans (DE.of (Ext.upd hF)), hw1.ext (Ext.upd hF)⟩ ?_ ?_
    · rintro i H1 hi ⟨ls, fs, hLs, hFs, hfl, hp, e1, hw2⟩
      have hlen : fs.length + ls.length = xs.length := by rw [← hp.length_eq, List.length_append]
      refine ⟨rfl, tyes ?_⟩
      refine ⟨_, rfl, .inl ⟨rfl, _, SqL.of hLs⟩, ?_⟩
      refine ⟨_, rfl, _, rfl, L, _, rfl, .inl (SqL.of hLs), p, _, N + (m - (i + 1)), rfl, ?_, by omega, by omega, fun r H3 e3 hw3 r0 r1 => ?_⟩
      · rw [show N + (m - (i + 1)) + 1 = N + (m - i) by omega]
        exact hw2
      have hLs3 := e3.to hLs hLp
      have hFs3 := e3.to hFs hFp
      have hr2 : r.toNat < ls.length := by omega
      have hy : ls[r.toNat]? = some (ls[r.toNat]'hr2) := List.getElem?_eq_getElem hr2
      generalize ls[r.toNat]'hr2 = y at hy
      refine ⟨L, _, r, r.toNat, y, rfl, rfl, hLs3, by omega, by omega, seqIndex_of r0 r1, hy, ?_⟩
      refine ⟨fs, by rw [upd_ne hFL]; exact hFs3, Nat.lt_of_lt_of_le (show fs.length < 1000 by omega) (by decide), ?_⟩
      refine ⟨ls.eraseIdx r.toNat, fs ++ [y], by rw [upd_ne hFL.symm, upd_same], upd_same, by rw [List.length_append, hfl]; rfl, ?_, ?_, ?_⟩
      · refine List.Perm.trans ?_ hp
        rw [List.append_assoc]
        exact List.Perm.append_left fs (erase_permV hy)
      · exact DE.mut (DE.mut (e1.trans e3) hL0) hF0
      · exact (hw3.upd hLp).upd hFp
    · rintro H1 ⟨ls, fs, hLs, hFs, hfl, hp, e1, hw2⟩
      rw [Nat.sub_self] at hw2
      exact k F fs ls H1 hFp hF0 e1 hw2 hFs hfl hp
end
end K53
namespace K53
open PySem L2
section
variable {P : Program} {w : World} {K : PySem.W.Frag} {mg : Str → Option Value} {base : Heap}
def spLBar (K : PySem.W.Frag) : Sp := fun vs H Q _ => ∃ (p l : Addr) (x y z : Int) (m : Int) (N : Nat), vs = [.ref p, .ref l, .int m] ∧ WellN (N + 4) H p ∧ SqL K (del H p) l [.int x, .int y, .int z] ∧ 1 ≤ m ∧ m ≤ 1000000 ∧
  ∀ (t : Addr) (b : BarD) (H' : Hp), t ≠ p → del H p t = none → DE p H H' → WellN N H' p → H' t = some (.tup (brV b)) → b.a = x → b.b = y → b.c = z → 1 ≤ b.len → (b.len ≤ m ∨ b.len ≤ 3) → 0 ≤ b.lo → b.lo ≤ b.hi → b.hi ≤ b.len → Q (.ref t) H'
theorem ok_l_bar (T : Tx K mg) : FnOk P w K mg base (L2.CX P w) 4 T.a_l_bar T.fd_l_bar ["_law_well_here", "_law_rods", "_law_most"] (spLBar K) := by
  refine T.F_l_bar.okX sc_l_bar (fun vs H Q E h => ?_) (fun cdv A outer s H vs Q E hr h => ?_)
  · obtain ⟨p, l, x, y, z, m, N, rfl, _⟩ := h
    rfl
  · obtain ⟨p, l, x, y, z, m, N, rfl, hw, hl, m1, m2, k⟩ := h
    refine ⟨_, (pss_cons (ps_set (i := 3) sc_l_bar.nd rfl (Or.inl rfl) (pe_call (ok_l_pick T) (hr.mono (by decide)) rfl T.m_l_pick T.F_l_pick.kp T.b_l_pick .nil passL (pa_cons (pv 0) (pa_cons (pe_lst (pa_cons pe_int (pa_cons pe_int (pa_cons pe_int (pa_cons (pe_op op_add pe_int (pe_call (ok_l_draw T) (hr.mono (by decide)) rfl T.m_l_draw T.F_l_draw.kp T.b_l_draw .nil passL (pa_cons (pv 0) (pa_cons (pv 2) pa_nil)))) pa_nil))))) pa_nil))))
      (pss_cons (ps_set (i := 4) sc_l_bar.nd rfl (Or.inl rfl) (pe_call (ok_l_draw T) (hr.mono (by decide)) rfl T.m_l_draw T.F_l_draw.kp T.b_l_draw .nil passL (pa_cons (pv 0) (pa_cons (pe_op op_add (pv 3) pe_int) pa_nil))))
      (pss_one (ps_ret (pe_tup (pa_cons (pe_ix ix_list (pv 1) pe_int (fun _ _ => rfl)) (pa_cons (pe_ix ix_list (pv 1) pe_int (fun _ _ => rfl)) (pa_cons (pe_ix ix_list (pv 1) pe_int (fun _ _ => rfl)) (pa_cons (pv 3) (pa_cons (pv 4) (pa_cons (pe_op op_add (pv 4) (pe_call (ok_l_draw T) (hr.mono (by decide)) rfl T.m_l_draw T.F_l_draw.kp T.b_l_draw .nil passL (pa_cons (pv 0) (pa_cons (pe_op op_add (pe_op op_sub (pv 3) (pv 4)) pe_int) pa_nil)))) pa_nil))))))))))), ?_⟩
    refine ⟨_, rfl, _, rfl, _, rfl, p, m, N + 3, rfl, hw, by omega, by omega, fun r H1 e1 hw1 r0 r1 => ?_⟩
    refine ⟨_, _, rfl, rfl, by show 4 ≤ sizeLine; decide, fun L hL => ?_⟩
    have hLp : L ≠ p := hw1.ne hL
    refine ⟨p, L, _, N + 2, rfl, hw1.ext (Ext.upd hL), SqL.of (by rw [del_ne hLp]; exact upd_same), by show 0 < 4; decide, by show 4 < 1000000; decide, fun v H2 hv e2' hw2 => ?_⟩
    have e2 : DE p H H2 := (e1.trans (DE.of (Ext.upd hL))).trans e2'
    obtain ⟨len, rfl, l1, l2⟩ : ∃ len : Int, v = .int len ∧ 1 ≤ len ∧ (len ≤ m ∨ len ≤ 3) := by
      rcases List.mem_cons.mp hv with rfl | hv
      · exact ⟨1, rfl, by decide, .inr (by decide)⟩
      rcases List.mem_cons.mp hv with rfl | hv
      · exact ⟨2, rfl, by decide, .inr (by decide)⟩
      rcases List.mem_cons.mp hv with rfl | hv
      · exact ⟨3, rfl, by decide, .inr (by decide)⟩
      rcases List.mem_cons.mp hv with rfl | hv
      · exact ⟨1 + r, rfl, by omega, .inl (by omega)⟩
      cases hv
    refine ⟨_, rfl, _, rfl, _, _, rfl, rfl, p, _, N + 1, rfl, hw2, by omega, by omega, fun lo H3 e3' hw3 lo0 lo1 => ?_⟩
    have e3 : DE p H H3 := e2.trans e3'
    have hl3 := (hl.ext e3).de
    refine ⟨_, rfl, l, _, _, _, rfl, rfl, hl3, at3a, _, rfl, l, _, _, _, rfl, rfl, hl3, at3b, _, rfl, l, _, _, _, rfl, rfl, hl3, at3c, _, rfl, _, rfl, _, rfl, _, rfl, _, rfl, _, rfl, _, _, rfl, rfl, _, _, rfl, rfl, p, _, N, rfl, hw3, by omega, by omega, fun q H4 e4' hw4 q0 q1 => ?_⟩
    have e4 : DE p H H4 := e3.trans e4'
    refine ⟨_, _, rfl, rfl, by show 6 ≤ sizeLine; decide, fun t ht => ?_⟩
    have htp : t ≠ p := hw4.ne ht
    exact k t ⟨x, y, z, len, lo, lo + q⟩ _ htp (e4.fresh hw4.well ht) (e4.trans (DE.of (Ext.upd ht))) (hw4.ext (Ext.upd ht)) upd_same rfl rfl rfl l1 l2 lo0 (by show lo ≤ lo + q; omega) (by show lo + q ≤ len; omega)
end
end K53
namespace L2
open PySem
def vIntV : V → Int
  | .int n => n
  | _ => 0
theorem perm_ints {ys : List V} {ns : List Int} (h : ys.Perm (ns.map V.int)) : ∃ ms : List Int, ys = ms.map V.int ∧ ms.Perm ns := by
  refine ⟨ys.map vIntV, ?_, ?_⟩
  · rw [List.map_map]
    have : ∀ y ∈ ys, (V.int ∘ vIntV) y = y := fun y hy => by
      obtain ⟨n, _, rfl⟩ := List.mem_map.mp (h.mem_iff.mp hy)
      rfl
    rw [List.map_congr_left this, List.map_id'']
    exact fun _ => rfl
  · have z := h.map vIntV
    rw [List.map_map, show (vIntV ∘ V.int) = id from rfl, List.map_id] at z
    exact z
theorem append_ints {ys rest : List V} {ns : List Int} (h : (ys ++ rest).Perm (ns.map V.int)) : ∃ ms rs : List Int, ys = ms.map V.int ∧ rest = rs.map V.int ∧ (ms ++ rs).Perm ns := by
  obtain ⟨zs, hz, hp⟩ := perm_ints h
  obtain ⟨a, b, rfl, ha, hb⟩ := List.map_eq_append_iff.mp hz.symm
  exact ⟨a, b, ha.symm, hb.symm, hp⟩
end L2
namespace K53
open PySem L2
/-- what is drawn: rods, the held ones, the bars -/
def fcD (n : Int) (hl : List (Int × Int)) (bs : List BarD) : Dt := .tup [.int n, hdD hl, .lst (bs.map bfD)]
section
variable {P : Program} {w : World} {K : PySem.W.Frag} {mg : Str → Option Value} {base : Heap}
theorem fc_of {H : Hp} {v : V} {n : Int} {hl : List (Int × Int)} {bs : List BarD} (h : Is K H (fcD n hl bs) v) :
    ∃ (t hd bl : Addr) (ws : List V), v = .ref t ∧ SqT K H t [.int n, .ref hd, .ref bl] ∧ H hd = some (.dK (hK hl)) ∧ SqL K H bl ws ∧ IsL K H (bs.map bfD) ws := by
  obtain ⟨t, ws, rfl, ht, v1, r1, e1, f1, v2, r2, e2, f2, v3, r3, e3, ⟨bl, xs, g1, g2, g3⟩, e4⟩ := h
  subst e4 e3 e2 e1
  cases (show v1 = _ from f1)
  obtain ⟨hd, rfl, hhd⟩ := hd_of_is f2
  subst g1
  exact ⟨t, hd, bl, xs, rfl, ht, hhd, g2, g3⟩
theorem fc_is {H : Hp} {t hd bl : Addr} {n : Int} {hl : List (Int × Int)} {bs : List BarD} {ws : List V} (h : SqT K H t [.int n, .ref hd, .ref bl]) (h1 : H hd = some (.dK (hK hl))) (h2 : SqL K H bl ws) (h3 : IsL K H (bs.map bfD) ws) : Is K H (fcD n hl bs) (.ref t) :=
  ⟨t, _, rfl, h, _, _, rfl, rfl, _, _, rfl, hd_is h1, _, _, rfl, ⟨bl, ws, rfl, h2, h3⟩, rfl⟩
end
end K53
namespace K53
open PySem L2
section
variable {P : Program} {w : World} {K : PySem.W.Frag} {mg : Str → Option Value} {base : Heap}
def FLoop (p L hd B : Addr) (most way : Int) (m c N : Nat) (ln : List Int) (hl : List (Int × Int)) (H : Hp) (i : Nat) (σ : St) (H' : Hp) : Prop :=
  ∃ (ts : List Addr) (bs : List BarD) (v8 v9 v10 : Option V), σ = [some (.ref p), some (.int most), some (.int (m : Int)), some (.int (c : Int)), some (.ref L), some (.ref hd), some (.int way), some (.ref B), v8, v9, v10] ∧
    bs.length = i ∧ DE p H H' ∧ WellN (N + 70 - 10 * i) H' p ∧ H' L = some (.lst (ln.map V.int)) ∧ H' hd = some (.dK (hK hl)) ∧ H' B = some (.lst (ts.map V.ref)) ∧ Paired (fun t b => t ≠ p ∧ H' t = some (.tup (brV b))) ts bs ∧ ∀ b ∈ bs, BarOk ((m + c : Nat) : Int) b ∧ b.len ≤ 1000
theorem facts_bar {D : Ends} {p L hd B A : Addr} {most way : Int} {m c N i : Nat} {ln : List Int} {hl : List (Int × Int)} {H Hc : Hp} {ts : List Addr} {bs : List BarD} {v8 v10 : Option V} {x y z : Int}
    (hm0 : 1 ≤ most) (hm1 : most ≤ 1000) (hi : i < m) (hm : m ≤ 3) (hLp : L ≠ p) (hdp : hd ≠ p) (hBp : B ≠ p) (hLB : L ≠ B) (hdB : hd ≠ B) (hB0 : del H p B = none)
    (hbl : bs.length = i) (e : DE p H Hc) (hw : WellN (N + 70 - 10 * i - 5) Hc p) (hL : Hc L = some (.lst (ln.map V.int))) (hh : Hc hd = some (.dK (hK hl))) (hB : Hc B = some (.lst (ts.map V.ref))) (hts : Paired (fun t b => t ≠ p ∧ Hc t = some (.tup (brV b))) ts bs) (hbo : ∀ b ∈ bs, BarOk ((m + c : Nat) : Int) b ∧ b.len ≤ 1000)
    (hA : Hc A = some (.lst [.int x, .int y, .int z])) (hAp : A ≠ p) (mx : 0 ≤ x ∧ x < ((m + c : Nat) : Int)) (my : 0 ≤ y ∧ y < ((m + c : Nat) : Int)) (mz : 0 ≤ z ∧ z < ((m + c : Nat) : Int)) (hxy : y ≠ x) (hxz : z ≠ x) (hyz : z ≠ y)
    (k : ∀ σ H', FLoop p L hd B most way m c N ln hl H (i + 1) σ H' → D.nx σ H') :
    tDrop (tBM K "list" rAppend (tVar 7) (tCons (tCall (spLBar K) [] E0 (tCons (tVar 0) (tCons (tVar 9) (tCons (tVar 1) tNil)))) tNil)) D
      [some (.ref p), some (.int most), some (.int (m : Int)), some (.int (c : Int)), some (.ref L), some (.ref hd), some (.int way), some (.ref B), v8, some (.ref A), v10] Hc := by
  refine ⟨_, rfl, .inl ⟨rfl, _, SqL.of hB⟩, ?_⟩
  refine ⟨_, rfl, _, rfl, _, rfl, p, A, x, y, z, most, N + 70 - 10 * i - 9, rfl, hw.le (by omega), SqL.of (by rw [del_ne hAp]; exact hA), hm0, by omega, fun t b H1 htp ht0 e1 hw1 ht ha hb hc l0 l1 o0 o1 o2 => ?_⟩
  have hB1 := e1.to hB hBp
  have htB : t ≠ B := fun q => by rw [q, del_ne hBp, hB] at ht0; cases ht0
  refine ⟨B, _, _, rfl, rfl, hB1, ?_, ?_⟩
  · rw [List.length_map, hts.length, hbl]
    exact Nat.lt_of_lt_of_le (show i < 100 by omega) (by decide)
  refine k _ _ ⟨ts ++ [t], bs ++ [b], v8, _, v10, rfl, by rw [List.length_append, hbl]; rfl, DE.mut (e.trans e1) hB0, (hw1.le (by omega)).upd hBp, by rw [upd_ne hLB]; exact e1.to hL hLp, by rw [upd_ne hdB]; exact e1.to hh hdp, by rw [upd_same, List.map_append]; rfl, ?_, fun q hq => ?_⟩
  · have hts' : Paired (fun t' b' => t' ≠ p ∧ (upd H1 B (.lst (ts.map V.ref ++ [V.ref t]))) t' = some (.tup (brV b'))) ts bs := PySem.Paired.mono (fun a b' q => by
      have h10 := e1.to q.2 q.1
      have hDa : a ≠ B := fun e => by rw [e, hB1] at h10; cases h10
      exact ⟨q.1, by rw [upd_ne hDa]; exact h10⟩) hts
    exact hts'.snoc ⟨htp, by rw [upd_ne htB]; exact ht⟩
  · rcases List.mem_append.mp hq with h | h
    · exact hbo q h
    · rw [List.mem_singleton.mp h]
      subst ha hb hc
      exact ⟨⟨mx.1, mx.2, my.1, my.2, mz.1, mz.2, hxy, hxz, hyz, l0, by omega, o0, o1, o2⟩, by omega⟩
theorem isL_permB {H : Hp} {xs ys : List V} (h : xs.Perm ys) : ∀ {bs : List BarD}, IsL K H (bs.map bfD) xs → ∃ bs' : List BarD, bs'.Perm bs ∧ IsL K H (bs'.map bfD) ys := by
  induction h with
  | nil => exact fun {bs} i => ⟨bs, .refl _, i⟩
  | cons x _ ih =>
    intro bs i
    match bs, i with
    | [], i => cases (show _ = _ from i)
    | b :: r, ⟨v, u, e, i1, i2⟩ =>
      cases e
      obtain ⟨r', p, i'⟩ := ih i2
      exact ⟨b :: r', .cons _ p, _, _, rfl, i1, i'⟩
  | swap x y l =>
    intro bs i
    match bs, i with
    | [], i => cases (show _ = _ from i)
    | [_], ⟨_, _, e, _, i2⟩ =>
      cases e
      cases (show _ = _ from i2)
    | b :: b2 :: r, ⟨v, u, e, i1, v2, u2, e2, i2, i3⟩ =>
      cases e
      cases e2
      exact ⟨b2 :: b :: r, .swap _ _ _, _, _, rfl, i2, _, _, rfl, i1, i3⟩
  | trans _ _ ih1 ih2 =>
    intro bs i
    obtain ⟨b1, p1, i1⟩ := ih1 i
    obtain ⟨b2, p2, i2⟩ := ih2 i1
    exact ⟨b2, p2.trans p1, i2⟩
theorem isL_bf {H : Hp} {p : Addr} : ∀ {ts : List Addr} {bs : List BarD}, Paired (fun t b => t ≠ p ∧ H t = some (.tup (brV b))) ts bs → IsL K (del H p) (bs.map bfD) (ts.map V.ref)
  | _, _, .nil => rfl
  | _, _, .cons h r => ⟨_, _, rfl, bf_is (by rw [del_ne h.1]; exact h.2), isL_bf r⟩
def spFacts (K : PySem.W.Frag) : Sp := fun vs H Q _ => ∃ (p : Addr) (most : Int) (N : Nat), vs = [.ref p, .int most] ∧ WellN (N + 100) H p ∧ 1 ≤ most ∧ most ≤ 1000 ∧
  ∀ (v : V) (n : Int) (hl : List (Int × Int)) (bs : List BarD) (H' : Hp), DE p H H' → WellN N H' p → Is K (del H' p) (fcD n hl bs) v → WebOk n hl bs → bs.length ≤ 3 → (∀ b ∈ bs, b.len ≤ 1000) → Q v H'
theorem ok_l_facts (T : Tx K mg) : FnOk P w K mg base (L2.CX P w) 8 T.a_l_facts T.fd_l_facts ["_law_well_here", "_law_most"] (spFacts K) := by
  refine T.F_l_facts.okX sc_l_facts (fun vs H Q E h => ?_) (fun cdv A outer s H vs Q E hr h => ?_)
  · obtain ⟨p, most, N, rfl, _⟩ := h
    rfl
  · obtain ⟨p, most, N, rfl, hw, hm0, hm1, k⟩ := h
    refine ⟨_, (pss_cons (ps_par (i := 2) (j := 3) (by rfl) sc_l_facts.nd rfl rfl (by decide) rfl rfl (pa_cons (pe_op op_add pe_int (pe_call (ok_l_draw T) (hr.mono (by decide)) rfl T.m_l_draw T.F_l_draw.kp T.b_l_draw .nil passL (pa_cons (pv 0) (pa_cons pe_int pa_nil)))) (pa_cons (pe_op op_add pe_int (pe_call (ok_l_draw T) (hr.mono (by decide)) rfl T.m_l_draw T.F_l_draw.kp T.b_l_draw .nil passL (pa_cons (pv 0) (pa_cons pe_int pa_nil)))) pa_nil)) (by rfl))
      (pss_cons (ps_set (i := 4) sc_l_facts.nd rfl (Or.inl rfl) (pe_call (ok_l_unlike T) (hr.mono (by decide)) rfl T.m_l_unlike T.F_l_unlike.kp T.b_l_unlike .nil passL (pa_cons (pv 0) (pa_cons (pe_listRg rfl rfl T.z_list (prg_1 rfl T.z_range (pe_op op_add (pv 2) (pv 3)))) (pa_cons (pe_op op_add (pv 2) (pv 3)) pa_nil)))))
      (pss_cons (ps_set (i := 5) sc_l_facts.nd rfl (Or.inl rfl) (pe_callTy (call_dictP rfl) (by rfl) T.z_dict (by decide +kernel) (pa_cons (pe_lc (own := [("_law_rod", 10)]) (g := gName 10) (tt := tYes) (by rfl) sc_l_facts.nd (pi_list (pe_slice sl_list (pv 4) po_none (po_some (pv 3)))) (blkOk_by (own := [("_law_rod", 10)]) (N := N_l_facts) (sc := defScope s_l_facts) (by decide +kernel)) (fun _ _ _ _ _ => (pg_name (i := 10) sc_l_facts.nd rfl (Or.inl rfl))) (fun _ _ _ _ _ => pts_nil) (fun _ _ _ _ _ => (pe_tup (pa_cons (pv 10) (pa_cons (pe_call (ok_l_pick T) (hr.mono (by decide)) rfl T.m_l_pick T.F_l_pick.kp T.b_l_pick .nil passL (pa_cons (pv 0) (pa_cons (pe_lst (pa_cons pe_int (pa_cons pe_int (pa_cons (pe_un un_neg pe_int) (pa_cons (pe_op op_sub (pe_call (ok_l_draw T) (hr.mono (by decide)) rfl T.m_l_draw T.F_l_draw.kp T.b_l_draw .nil passL (pa_cons (pv 0) (pa_cons (pe_op op_add (pe_op op_mul pe_int (pv 1)) pe_int) pa_nil))) (pv 1)) pa_nil))))) pa_nil))) pa_nil))))) pa_nil)))
      (pss_cons (ps_set (i := 6) sc_l_facts.nd rfl (Or.inl rfl) (pe_call (ok_l_draw T) (hr.mono (by decide)) rfl T.m_l_draw T.F_l_draw.kp T.b_l_draw .nil passL (pa_cons (pv 0) (pa_cons pe_int pa_nil))))
      (pss_cons (ps_set (i := 7) sc_l_facts.nd rfl (Or.inl rfl) (pe_lst pa_nil))
      (pss_cons (ps_for (passes_of rfl) rfl (pi_range2 rfl T.z_range (pa_cons (pv 3) (pa_cons (pe_op op_add (pv 2) (pv 3)) pa_nil))) (pg_name (i := 8) sc_l_facts.nd rfl (Or.inl rfl)) (pss_cons (ps_set (i := 9) sc_l_facts.nd rfl (Or.inl rfl) (pe_op op_catL (pe_call (ok_l_unlike T) (hr.mono (by decide)) rfl T.m_l_unlike T.F_l_unlike.kp T.b_l_unlike .nil passL (pa_cons (pv 0) (pa_cons (pe_slice sl_list (pv 4) po_none (po_some (pv 8))) (pa_cons pe_int pa_nil)))) (pe_lst (pa_cons (pe_ix ix_list (pv 4) (pv 8) (fun _ _ => rfl)) pa_nil))))
      (pss_cons (ps_if (pt_cmpR op_eq (pv 6) pe_int (nomark _)) (pss_one (ps_set (i := 9) sc_l_facts.nd rfl (Or.inl rfl) (pe_call (ok_l_unlike T) (hr.mono (by decide)) rfl T.m_l_unlike T.F_l_unlike.kp T.b_l_unlike .nil passL (pa_cons (pv 0) (pa_cons (pv 4) (pa_cons pe_int pa_nil)))))) pss_nil)
      (pss_one (ps_expr (pe_bm PySem.F.plainAttrs_list PySem.F.slot_list_append PySem.F.type_list_append mt_append (pv 7) (pa_cons (pe_call (ok_l_bar T) (hr.mono (by decide)) rfl T.m_l_bar T.F_l_bar.kp T.b_l_bar .nil passL (pa_cons (pv 0) (pa_cons (pv 9) (pa_cons (pv 1) pa_nil)))) pa_nil)))))))
      (pss_one (ps_ret (pe_tup (pa_cons (pe_op op_add (pv 2) (pv 3)) (pa_cons (pv 5) (pa_cons (pe_call (ok_l_unlike T) (hr.mono (by decide)) rfl T.m_l_unlike T.F_l_unlike.kp T.b_l_unlike .nil passL (pa_cons (pv 0) (pa_cons (pv 7) (pa_cons (pv 2) pa_nil)))) pa_nil)))))))))))), ?_⟩
    refine ⟨_, rfl, p, 3, N + 99, rfl, hw, by decide, by decide, fun r1 H1 e1 hw1 r10 r11 => ?_⟩
    refine ⟨_, _, rfl, rfl, _, rfl, p, 2, N + 98, rfl, hw1, by decide, by decide, fun r2 H2 e2 hw2 r20 r21 => ?_⟩
    refine ⟨_, _, rfl, rfl, _, _, rfl, ?_⟩
    obtain ⟨m, hm, m1, m3⟩ : ∃ m : Nat, 1 + r1 = (m : Int) ∧ 1 ≤ m ∧ m ≤ 3 := ⟨(1 + r1).toNat, by omega, by omega, by omega⟩
    obtain ⟨c, hc, c2, c3⟩ : ∃ c : Nat, 2 + r2 = (c : Int) ∧ 2 ≤ c ∧ c ≤ 3 := ⟨(2 + r2).toNat, by omega, by omega, by omega⟩
    dsimp only
    rw [hm, hc]
    -- rods
    refine ⟨_, rfl, _, rfl, _, rfl, _, _, rfl, rfl, _, rfl, RgOk.of_le (by decide) (by omega) (by decide) (by omega), fun g0 hg0 => ?_⟩
    rw [show ((m : Int) + (c : Int)) = ((m + c : Nat) : Int) by omega, rgV_range]
    have hg0p : g0 ≠ p := hw2.ne hg0
    refine ⟨_, rfl, _, rfl, _, _, rfl, rfl, p, g0, (rangeI (m + c)).map V.int, m + c, N + 90, rfl, (hw2.le (by omega)).ext (Ext.upd hg0), SqL.of (by rw [del_ne hg0p]; exact upd_same), by rw [List.length_map, len_rangeI]; omega, by rw [List.length_map, len_rangeI]; omega, fun L ys rest H3 hLp hL0 e3 hw3 hL hyl hperm => ?_⟩
    obtain ⟨ln, rs, rfl, rfl, hp3⟩ := append_ints hperm
    have hrs : rs = [] := by
      have := hp3.length_eq
      rw [List.length_append, len_rangeI] at this
      rw [List.length_map] at hyl
      exact List.eq_nil_of_length_eq_zero (by omega)
    rw [hrs, List.append_nil] at hp3
    have hlen : ln.length = m + c := by rw [hp3.length_eq, len_rangeI]
    have hnd : ln.Nodup := hp3.nodup_iff.mpr (nodup_rangeI _)
    have hmem : ∀ x ∈ ln, 0 ≤ x ∧ x < ((m + c : Nat) : Int) := fun x hx => mem_rangeI.mp (hp3.mem_iff.mp hx)
    have e03 : DE p H H3 := ((e1.trans e2).trans (DE.of (Ext.upd hg0))).trans e3
    clear e1 e2 e3 hw1 hw2 hg0 hL0 hm hc r20 r21 r10 r11 hperm hrs rs hyl hp3
    -- heights
    refine ⟨_, rfl, _, rfl, (c : Int), rfl, L, _, rfl, SqL.of hL, fun S hS => ?_⟩
    rw [cut_take, ← List.map_take]
    have hSp : S ≠ p := hw3.ne hS
    have hS4 : (upd H3 S (.lst ((ln.take c).map V.int))) S = some (.lst ((ln.take c).map V.int)) := upd_same
    have e34 : Ext H3 (upd H3 S (.lst ((ln.take c).map V.int))) := Ext.upd hS
    generalize upd H3 S (.lst ((ln.take c).map V.int)) = H4 at hS4 e34 ⊢
    have hw4 := hw3.ext e34
    have e04 := e03.trans (DE.of e34)
    have hL4 := e34 _ _ hL
    clear hS e34 hL hw3 e03
    have hlc : (ln.take c).length = c := by rw [List.length_take]; omega
    refine ⟨S, rfl, ⟨_, SqL.of hS4⟩, fun D hD => ?_⟩
    have hDp : D ≠ p := hw4.ne hD
    have hD0 : del H4 p D = none := by rw [del_ne hDp]; exact hD
    refine lc_list (xs := (ln.take c).map V.int) (fun i H' => ∃ (ps : List Addr) (hs : List Int), hs.length = i ∧ DE p H4 H' ∧ WellN (N + 90 - 2 * i) H' p ∧ H' D = some (.lst (ps.map V.ref)) ∧ Paired (fun a kv => a ≠ p ∧ H' a = some (.tup [kV kv.1, kv.2])) ps (hK ((ln.take c).zip hs)) ∧ ∀ x ∈ hs, -1000000 ≤ x ∧ x ≤ 1000000)
      ⟨[], [], rfl, DE.of (Ext.upd hD), hw4.ext (Ext.upd hD), upd_same, by rw [List.zip_nil_right]; exact .nil, fun x hx => by cases hx⟩ (fun i H' _ q => ?_) ?_ ?_
    · obtain ⟨_, _, _, e, _⟩ := q
      exact SqL.of (e.to hS4 hSp)
    · rintro i y H5 hi ⟨ps, hs, hli, e5, hw5, hD5, hps, hb⟩
      obtain ⟨x, hx, rfl⟩ : ∃ x, (ln.take c)[i]? = some x ∧ y = V.int x := by
        rw [List.getElem?_map] at hi
        cases e : (ln.take c)[i]? with
        | none => rw [e] at hi; cases hi
        | some n => rw [e] at hi; exact ⟨n, rfl, (Option.some.inj hi).symm⟩
      have hin : i < (ln.take c).length := (List.getElem?_eq_some_iff.mp hx).1
      rw [hlc] at hin
      refine ⟨rfl, tyes ?_⟩
      refine ⟨_, rfl, _, rfl, _, rfl, _, rfl, _, rfl, _, _, rfl, rfl, .inl ⟨by decide, by decide⟩, _, _, rfl, rfl, p, _, N + 90 - 2 * i - 1, rfl, hw5.le (by omega), by omega, by omega, fun r3 H6 e6 hw6 r30 r31 => ?_⟩
      refine ⟨_, rfl, _, _, rfl, rfl, by show 4 ≤ sizeLine; decide, fun A4 hA4 => ?_⟩
      have hA4p : A4 ≠ p := hw6.ne hA4
      refine ⟨p, A4, _, N + 90 - 2 * (i + 1), rfl, (hw6.le (by omega)).ext (Ext.upd hA4), SqL.of (by rw [del_ne hA4p]; exact upd_same), by show 0 < 4; decide, by show 4 < 1000000; decide, fun v H7 hv e7' hw7 => ?_⟩
      have e57 : DE p H5 H7 := (e6.trans (DE.of (Ext.upd hA4))).trans e7'
      obtain ⟨h, rfl, b0, b1⟩ : ∃ h : Int, v = .int h ∧ -1000000 ≤ h ∧ h ≤ 1000000 := by
        rcases List.mem_cons.mp hv with rfl | hv
        · exact ⟨0, rfl, by decide, by decide⟩
        rcases List.mem_cons.mp hv with rfl | hv
        · exact ⟨1, rfl, by decide, by decide⟩
        rcases List.mem_cons.mp hv with rfl | hv
        · exact ⟨-1, rfl, by decide, by decide⟩
        rcases List.mem_cons.mp hv with rfl | hv
        · exact ⟨_, rfl, by omega, by omega⟩
        cases hv
      refine ⟨by show 2 ≤ sizeLine; decide, fun t ht => ?_⟩
      have htp : t ≠ p := hw7.ne ht
      have hD7 := e57.to hD5 hDp
      have htD : D ≠ t := ne_of_none hD7 ht
      refine ⟨ps.map V.ref, by rw [upd_ne htD]; exact hD7, ?_, ps ++ [t], hs ++ [h], by rw [List.length_append, hli]; rfl, ?_, (hw7.ext (Ext.upd ht)).upd hDp, by rw [upd_same, List.map_append]; rfl, ?_, fun z hz => ?_⟩
      · rw [List.length_map]
        have h1 := hps.length
        unfold hK at h1
        rw [List.length_map, List.length_zip] at h1
        exact Nat.lt_of_lt_of_le (show ps.length < 100 by omega) (by decide)
      · exact DE.mut ((e5.trans e57).trans (DE.of (Ext.upd ht))) hD0
      · have hz : (ln.take c).zip (hs ++ [h]) = (ln.take c).zip hs ++ [(x, h)] := by
          have hin' : i < (ln.take c).length := by omega
          have e1 : ln.take c = (ln.take c).take i ++ x :: (ln.take c).drop (i + 1) := by
            have := List.take_append_drop i (ln.take c)
            rw [List.drop_eq_getElem_cons hin'] at this
            rw [show (ln.take c)[i] = x from Option.some.inj ((List.getElem?_eq_getElem hin').symm.trans hx)] at this
            exact this.symm
          have l1 : ((ln.take c).take i).length = hs.length := by rw [List.length_take]; omega
          rw [e1, List.zip_append l1, show (((ln.take c).take i) ++ x :: (ln.take c).drop (i + 1)).zip hs = ((ln.take c).take i).zip hs from by
            have z := List.zip_append (l₁ := (ln.take c).take i) (r₁ := x :: (ln.take c).drop (i + 1)) (l₂ := hs) (r₂ := []) l1
            rw [List.append_nil, List.zip_nil_right, List.append_nil] at z
            exact z, List.zip_cons_cons, List.zip_nil_right]
        rw [hz]
        unfold hK
        rw [List.map_append]
        have hps' : Paired (fun a (kv : Key × V) => a ≠ p ∧ (upd (upd H7 t (.tup [V.int x, V.int h])) D (.lst (ps.map V.ref ++ [V.ref t]))) a = some (.tup [kV kv.1, kv.2])) ps (hK ((ln.take c).zip hs)) := PySem.Paired.mono (fun a kv q => by
          have h6 := e57.to q.2 q.1
          have hta : a ≠ t := ne_of_none h6 ht
          have hDa : a ≠ D := fun e => by rw [e, hD7] at h6; cases h6
          exact ⟨q.1, by rw [upd_ne hDa, upd_ne hta]; exact h6⟩) hps
        exact hps'.snoc ⟨htp, by rw [upd_ne htD.symm, upd_same]; rfl⟩
      · rcases List.mem_append.mp hz with h | h
        · exact hb z h
        · rw [List.mem_singleton.mp h]
          exact ⟨b0, b1⟩
    · rintro H5 ⟨ps, hs, hli, e5, hw5, hD5, hps, hb⟩
      rw [List.length_map, hlc] at hli hw5
      have hL5 := e5.to hL4 hLp
      have e05 := e04.trans e5
      refine ⟨D, ps, hK ((ln.take c).zip hs), rfl, SqL.of hD5, PySem.Paired.mono (fun a kv q => SqT.of q.2) hps, fun hd hhd => ?_⟩
      have hfst : ((ln.take c).zip hs).map (·.1) = ln.take c := List.map_fst_zip (by omega)
      have hnd2 : (ln.take c).Nodup := hnd.sublist (List.take_sublist _ _)
      rw [merge_new _ [] (by
        rw [List.map_nil, List.nil_append]
        unfold hK
        rw [List.map_map]
        show (((ln.take c).zip hs).map (Sum.inl ∘ Prod.fst)).Nodup
        rw [← List.map_map, hfst, List.nodup_iff_pairwise_ne, List.pairwise_map]
        exact (List.nodup_iff_pairwise_ne.mp hnd2).imp fun h e => h (Sum.inl.inj e)), List.nil_append]
      have hhp : hd ≠ p := hw5.ne hhd
      have h7d : (upd H5 hd (.dK (hK ((ln.take c).zip hs)))) hd = some (.dK (hK ((ln.take c).zip hs))) := upd_same
      have e57 : Ext H5 (upd H5 hd (.dK (hK ((ln.take c).zip hs)))) := Ext.upd hhd
      have hlz : ((ln.take c).zip hs).length = c := by
        rw [List.length_zip, hli, hlc, Nat.min_self]
      have hkeys : ∀ q ∈ (ln.take c).zip hs, (0 ≤ q.1 ∧ q.1 < ((m + c : Nat) : Int)) ∧ -1000000 ≤ q.2 ∧ q.2 ≤ 1000000 := fun q hq => by
        obtain ⟨h1, h2⟩ := List.of_mem_zip (a := q.1) (b := q.2) hq
        exact ⟨hmem _ (List.mem_of_mem_take h1), hb _ h2⟩
      have hnd3 : (((ln.take c).zip hs).map (·.1)).Nodup := by rw [hfst]; exact hnd2
      generalize (ln.take c).zip hs = hl at h7d e57 hlz hkeys hnd3 ⊢
      generalize upd H5 hd (.dK (hK hl)) = H7 at h7d e57 ⊢
      have hw7 : WellN (N + 80) H7 p := (hw5.le (by omega)).ext e57
      have hL7 := e57 _ _ hL5
      have e07 := e05.trans (DE.of e57)
      clear e57 hhd hps hfst hnd2 hli hb e05 hL5 hw5 e5 hD5 hD hD0 hDp hS4 hw4 e04 hL4 hSp
      -- way
      refine ⟨_, rfl, p, 3, N + 79, rfl, hw7, by decide, by decide, fun way H8 e8 hw8 w0 w1 => ?_⟩
      refine ⟨by show 0 ≤ sizeLine; decide, fun B hB => ?_⟩
      have hBp : B ≠ p := hw8.ne hB
      have hL8 := e8.to hL7 hLp
      have hd8 := e8.to h7d hhp
      have hBL : L ≠ B := ne_of_none hL8 hB
      have hBd : hd ≠ B := ne_of_none hd8 hB
      have hB0 : del H p B = none := DE.fresh (e07.trans e8) hw8.well hB
      have e08 : DE p H (upd H8 B (.lst [])) := (e07.trans e8).trans (DE.of (Ext.upd hB))
      refine ⟨_, rfl, _, rfl, _, rfl, _, _, rfl, rfl, (c : Int), ((m + c : Nat) : Int), rfl, ⟨by omega, by omega, by omega, by omega⟩, ?_⟩
      rw [show ((((m + c : Nat) : Int)) - (c : Int)).toNat = m by omega]
      refine for_range (lo := (c : Int)) (n := m) (FLoop p L hd B most way m c N ln hl H)
        ⟨[], [], none, none, _, rfl, rfl, e08, (hw8.le (by omega)).ext (Ext.upd hB), by rw [upd_ne hBL]; exact hL8, by rw [upd_ne hBd]; exact hd8, upd_same, .nil, fun b hb => by cases hb⟩ ?_ ?_
      · rintro i σ H9 hi ⟨ts, bs, v8, v9, v10, rfl, hbl, e9, hw9, hL9, hd9, hB9, hts, hbo⟩
        have hin : c + i < ln.length := by omega
        obtain ⟨z, hz⟩ : ∃ z, ln[c + i]? = some z := ⟨_, List.getElem?_eq_getElem hin⟩
        refine ⟨_, rfl, ?_⟩
        dsimp only
        rw [show (c : Int) + (i : Int) = ((c + i : Nat) : Int) by omega]
        -- three
        refine ⟨_, rfl, _, rfl, ((c + i : Nat) : Int), rfl, L, _, rfl, SqL.of hL9, fun S hS => ?_⟩
        rw [cut_take, ← List.map_take]
        have hSp : S ≠ p := hw9.ne hS
        refine ⟨p, S, _, 2, N + 70 - 10 * i - 2, rfl, (hw9.le (by omega)).ext (Ext.upd hS), SqL.of (by rw [del_ne hSp]; exact upd_same), by rw [List.length_map, List.length_take]; omega, by rw [List.length_map, List.length_take]; omega, fun A ys rest H10 hAp hA0 e10' hw10 hA hyl hperm => ?_⟩
        have e10 : DE p H9 H10 := (DE.of (Ext.upd hS)).trans e10'
        obtain ⟨ms, rs, rfl, rfl, hp3⟩ := append_ints hperm
        rw [List.length_map] at hyl
        obtain ⟨x, y, rfl⟩ : ∃ x y, ms = [x, y] := by
          match ms, hyl with
          | [x, y], _ => exact ⟨x, y, rfl⟩
        have htk : ln.take (c + i + 1) = ln.take (c + i) ++ [z] := by
          rw [List.take_add_one, hz]
          rfl
        have hnt : (ln.take (c + i) ++ [z]).Nodup := by rw [← htk]; exact hnd.sublist (List.take_sublist _ _)
        have hnx : ([x, y] ++ rs).Nodup := hp3.nodup_iff.mpr (hnt.sublist (List.sublist_append_left _ _))
        have hxm : x ∈ ln.take (c + i) := hp3.mem_iff.mp (by simp)
        have hym : y ∈ ln.take (c + i) := hp3.mem_iff.mp (by simp)
        have hzn : z ∉ ln.take (c + i) := fun hm => by
          rw [List.nodup_append] at hnt
          exact hnt.2.2 z hm z (by simp) rfl
        have hxy : x ≠ y := fun e => by
          have := (List.nodup_cons.mp hnx).1
          rw [e] at this
          exact this (by simp)
        have hxz : z ≠ x := fun e => hzn (e ▸ hxm)
        have hyz : z ≠ y := fun e => hzn (e ▸ hym)
        have mx := hmem x (List.mem_of_mem_take hxm)
        have my := hmem y (List.mem_of_mem_take hym)
        have mz := hmem z (List.mem_of_getElem? hz)
        clear hp3 hnx hxm hym hzn htk hnt hperm hyl
        have hL10 := e10.to hL9 hLp
        refine ⟨_, rfl, _, rfl, L, _, _, _, rfl, rfl, SqL.of hL10, atI_nat (xs := ln.map V.int) (j := c + i) (by rw [List.getElem?_map, hz]; rfl), by show 1 ≤ sizeLine; decide, fun A2 hA2 => ?_⟩
        have hAA : A ≠ A2 := ne_of_none hA hA2
        refine ⟨A, A2, _, _, rfl, rfl, SqL.of (by rw [upd_ne hAA]; exact hA), SqL.of upd_same, by show 3 ≤ _; decide, fun A3 hA3 => ?_⟩
        have hA3p : A3 ≠ p := (hw10.ext (Ext.upd hA2)).ne hA3
        have e911 : DE p H9 (upd (upd H10 A2 (.lst [.int z])) A3 (.lst ([x, y].map V.int ++ [.int z]))) := (e10.trans (DE.of (Ext.upd hA2))).trans (DE.of (Ext.upd hA3))
        have hw11 : WellN (N + 70 - 10 * i - 2) (upd (upd H10 A2 (.lst [.int z])) A3 (.lst ([x, y].map V.int ++ [.int z]))) p := (hw10.ext (Ext.upd hA2)).ext (Ext.upd hA3)
        have hA11 : (upd (upd H10 A2 (.lst [.int z])) A3 (.lst ([x, y].map V.int ++ [.int z]))) A3 = some (.lst [.int x, .int y, .int z]) := upd_same
        generalize upd (upd H10 A2 (.lst [.int z])) A3 (.lst ([x, y].map V.int ++ [.int z])) = H11 at hw11 e911 hA11 ⊢
        have hL11 := e911.to hL9 hLp
        have hd11 := e911.to hd9 hhp
        have hB11 := e911.to hB9 hBp
        have hts11 : Paired (fun t b => t ≠ p ∧ H11 t = some (.tup (brV b))) ts bs := PySem.Paired.mono (fun a b q => ⟨q.1, e911.to q.2 q.1⟩) hts
        refine ⟨_, rfl, rfl, _, rfl, ite2 (fun cw => ?_) (fun cw => ?_)⟩
        · refine ⟨_, rfl, _, rfl, p, L, _, 3, N + 70 - 10 * i - 5, rfl, hw11.le (by omega), SqL.of (by rw [del_ne hLp]; exact hL11), by rw [List.length_map]; omega, by rw [List.length_map]; omega, fun A ys rest H12 hAp hA0 e12 hw12 hA hyl hperm => ?_⟩
          obtain ⟨ms, rs, rfl, rfl, hp3⟩ := append_ints hperm
          rw [List.length_map] at hyl
          obtain ⟨x, y, z, rfl⟩ : ∃ x y z, ms = [x, y, z] := by
            match ms, hyl with
            | [x, y, z], _ => exact ⟨x, y, z, rfl⟩
          have hnx : ([x, y, z] ++ rs).Nodup := hp3.nodup_iff.mpr hnd
          have h1 := List.nodup_cons.mp hnx
          have h2 := List.nodup_cons.mp h1.2
          exact facts_bar hm0 hm1 hi m3 hLp hhp hBp hBL hBd hB0 hbl ((e9.trans e911).trans e12) hw12 (e12.to hL11 hLp) (e12.to hd11 hhp) (e12.to hB11 hBp) (PySem.Paired.mono (fun a b q => ⟨q.1, e12.to q.2 q.1⟩) hts11) hbo hA hAp
            (hmem x (hp3.mem_iff.mp (by simp))) (hmem y (hp3.mem_iff.mp (by simp))) (hmem z (hp3.mem_iff.mp (by simp))) (fun e => h1.1 (e ▸ by simp)) (fun e => h1.1 (e ▸ by simp)) (fun e => h2.1 (e ▸ by simp)) fun σ H' q => q
        · exact facts_bar hm0 hm1 hi m3 hLp hhp hBp hBL hBd hB0 hbl (e9.trans e911) (hw11.le (by omega)) hL11 hd11 hB11 hts11 hbo hA11 hA3p mx my mz hxy.symm hxz hyz fun σ H' q => q
      · rintro σ H9 ⟨ts, bs, v8, v9, v10, rfl, hbl, e9, hw9, hL9, hd9, hB9, hts, hbo⟩
        have htl : ts.length = m := by rw [hts.length, hbl]
        refine ⟨_, rfl, _, rfl, _, _, rfl, rfl, _, rfl, _, rfl, _, rfl, _, rfl, p, B, ts.map V.ref, m, N + 10, rfl, hw9.le (by omega), SqL.of (by rw [del_ne hBp]; exact hB9), by rw [List.length_map]; omega, by rw [List.length_map]; omega, fun A ys rest H10 hAp hA0 e10 hw10 hA hyl hperm => ?_⟩
        have hrs : rest = [] := by
          have := hperm.length_eq
          rw [List.length_append, List.length_map] at this
          exact List.eq_nil_of_length_eq_zero (by omega)
        rw [hrs, List.append_nil] at hperm
        obtain ⟨bs', hpb, hib⟩ := isL_permB hperm.symm (isL_bf hts)
        refine ⟨by show 3 ≤ sizeLine; decide, fun t ht => ?_⟩
        have htp : t ≠ p := hw10.ne ht
        have hbl' : bs'.length = m := by rw [hpb.length_eq, hbl]
        have hd10 := e10.to hd9 hhp
        have hta : A ≠ t := ne_of_none hA ht
        have htd : hd ≠ t := ne_of_none hd10 ht
        refine k (.ref t) _ hl bs' _ ((e9.trans e10).trans (DE.of (Ext.upd ht))) ((hw10.le (by omega)).ext (Ext.upd ht)) (fc_is (hd := hd) (bl := A) (ws := ys) (SqT.of (by rw [del_ne htp]; exact upd_same)) ?_ (SqL.of (by rw [del_ne hAp, upd_ne hta]; exact hA)) (hib.ext (e10.trans (DE.of (Ext.upd ht))))) ?_ (by omega) (fun b hb => (hbo b (hpb.mem_iff.mp hb)).2)
        · rw [del_ne hhp, upd_ne htd]
          exact hd10
        · refine ⟨by omega, by omega, fun q hq => ?_, hnd3, fun e => ?_, by omega, by omega, by omega, fun b hb => ?_⟩
          · have := hkeys q hq
            exact ⟨⟨this.1.1, by have := this.1.2; omega⟩, this.2⟩
          · rw [e] at hlz
            simp at hlz
            omega
          · have := (hbo b (hpb.mem_iff.mp hb)).1
            rw [show ((m : Int) + (c : Int)) = ((m + c : Nat) : Int) by omega]
            exact this
end
end K53
namespace K53
open PySem L2
section
variable {P : Program} {w : World} {K : PySem.W.Frag} {mg : Str → Option Value} {base : Heap}
theorem br_del {C D : Addr} {H : Hp} {b : BarD} {v : V} {l : List V} (i : Is K H (brD C b) v) (h : H D = some (.lst l)) : Is K (del H D) (brD C b) v := by
  obtain ⟨a, dx, rfl, ha⟩ := br_fields i
  exact br_is (dx := dx) (by rw [del_ne (fun e => by rw [e, h] at ha; cases ha)]; exact ha)
theorem isL_snoc {H : Hp} : ∀ {ds : List Dt} {vs : List V} {d : Dt} {v : V}, IsL K H ds vs → Is K H d v → IsL K H (ds ++ [d]) (vs ++ [v])
  | [], _, _, _, h, i => by
    cases h
    exact ⟨_, _, rfl, i, rfl⟩
  | _ :: _, _, _, _, ⟨v, r, e, a, h⟩, i => by
    subst e
    exact ⟨v, _, rfl, a, isL_snoc h i⟩
def g6 (K : PySem.W.Frag) : TG := gTup K 6 (gCons (gName 4) (gCons (gName 5) (gCons (gName 6) (gCons (gName 7) (gCons (gName 8) (gCons (gName 9) gNil))))))
def brTE6 (K : PySem.W.Frag) (C : Addr) : TE := tMake C (spBar K C) [] E0 (tCons (tVar 4) (tCons (tVar 5) (tCons (tVar 6) (tCons (tVar 7) (tCons (tVar 8) (tCons (tVar 9) tNil))))))
theorem lc_bars6 {C a : Addr} {bs : List BarD} {ws : List V} {s0 s1 s2 s3 s4 s5 s6 s7 s8 s9 : Option V} {H1 : Hp} {Q : Addr → Hp → Prop} (hq : SqL K H1 a ws) (hb : IsL K H1 (bs.map bfD) ws) (hz : bs.length < 1000)
    (hd : ∀ D H' rs, H1 D = none → Ext H1 H' → H' D = some (.lst rs) → IsL K (del H' D) (bs.map (brD C)) rs → Q D H') :
    (∃ ys, SqL K H1 a ys) ∧ ∀ D, H1 D = none → ∃ W : Nat → Nat → Hp → Prop, (∃ m, W 0 m (upd H1 D (.lst []))) ∧ ∀ i m H, W i m H →
      ((Itl K a).stop i H ∧ Q D H) ∨ ((Itl K a).go i H ∧ ∃ Nx : Hp → Prop, (∀ H', Nx H' → ∃ m', m' < m ∧ W (i + 1) m' H') ∧ ∀ x H', (Itl K a).yld i H x H' → g6 K x (wipe [s0, s1, s2, s3, s4, s5, s6, s7, s8, s9] [4, 5, 6, 7, 8, 9]) H' fun σ2 H2 => wipe σ2 [4, 5, 6, 7, 8, 9] = wipe [s0, s1, s2, s3, s4, s5, s6, s7, s8, s9] [4, 5, 6, 7, 8, 9] ∧ tYes σ2 H2 fun b H3 =>
        if b = true then brTE6 K C σ2 H3 fun y H4 => ∃ acc, H4 D = some (.lst acc) ∧ acc.length < sizeLine ∧ Nx (upd H4 D (.lst (acc ++ [y]))) else Nx H3) := by
  refine ⟨⟨_, hq⟩, fun D hD => lc_list (xs := ws) (fun i H' => Ext H1 H' ∧ ∃ rs, H' D = some (.lst rs) ∧ IsL K (del H' D) ((bs.take i).map (brD C)) rs) ⟨Ext.upd hD, [], upd_same, rfl⟩ (fun i H' _ p => hq.ext p.1) ?_ ?_⟩
  · rintro i y H' hi ⟨e1, rs, hD1, hrs⟩
    obtain ⟨d, hd', iy⟩ := hb.get hi
    obtain ⟨b, hbi, rfl⟩ : ∃ b, bs[i]? = some b ∧ d = bfD b := by
      rw [List.getElem?_map] at hd'
      cases e : bs[i]? with
      | none => rw [e] at hd'; cases hd'
      | some b => rw [e] at hd'; exact ⟨b, rfl, (Option.some.inj hd').symm⟩
    obtain ⟨t, rfl, ht⟩ := bf_of (iy.ext e1)
    rw [show wipe [s0, s1, s2, s3, s4, s5, s6, s7, s8, s9] [4, 5, 6, 7, 8, 9] = [s0, s1, s2, s3, none, none, none, none, none, none] from rfl]
    refine ⟨t, _, rfl, ht, rfl, _, _, rfl, _, _, rfl, _, _, rfl, _, _, rfl, _, _, rfl, _, _, rfl, rfl, ?_⟩
    simp only [List.set_cons_succ, List.set_cons_zero]
    refine ⟨rfl, tyes ?_⟩
    refine ⟨_, rfl, _, rfl, _, rfl, _, rfl, _, rfl, _, rfl, fun x dx hx hdx hne => ?_⟩
    refine ⟨H', x, dx, b, rfl, hx, hdx, hne, rfl, fun H2 e2 i2 => ⟨rfl, ?_⟩⟩
    have hD2 := e2 _ _ hD1
    refine ⟨rs, hD2, ?_, (e1.trans e2).mut hD, rs ++ [.ref x], upd_same, ?_⟩
    · have h1 := isL_len hrs
      rw [List.length_map, List.length_take] at h1
      exact Nat.lt_of_lt_of_le (show rs.length < 2000 by omega) (by decide)
    · have hE : Ext (del H' D) (del (upd H2 D (.lst (rs ++ [.ref x]))) D) := (DE.of e2).trans DE.upd
      rw [List.take_add_one, hbi, List.map_append]
      refine isL_snoc (hrs.ext hE) ?_
      have z := br_del i2 hD2
      exact z.ext (DE.upd (w := D))
  · rintro H' ⟨e1, rs, hD1, hrs⟩
    have hl : ws.length = bs.length := by rw [isL_len hb, List.length_map]
    rw [hl, List.take_length] at hrs
    exact hd D H' rs hD e1 hD1 hrs
def spMade (K : PySem.W.Frag) (T : Tx K mg) : Sp := fun vs H Q _ => ∃ (v : V) (n : Int) (hl : List (Int × Int)) (bs : List BarD), vs = [v] ∧ Is K H (fcD n hl bs) v ∧ WebOk n hl bs ∧ ∀ (u : V) (H' : Hp), Ext H H' → Is K H' (wbD T.C_Web T.C_Bar n bs (normH hl)) u → Q u H'
theorem ok_l_made (T : Tx K mg) : FnOk P w K mg base (L2.CX P w) 12 T.a_l_made T.fd_l_made ["_law_facts_here"] (spMade K T) := by
  refine T.F_l_made.okX sc_l_made (fun vs H Q E h => ?_) (fun cdv A outer s H vs Q E hr h => ?_)
  · obtain ⟨v, n, hl, bs, rfl, _⟩ := h
    rfl
  · obtain ⟨v, n, hl, bs, rfl, hv, ok, k⟩ := h
    refine ⟨_, (pss_cons (ps_asg (pv 0) (pg_tup (by rfl) (pgs_cons (pg_name (i := 1) sc_l_made.nd rfl (Or.inl rfl)) (pgs_cons (pg_name (i := 2) sc_l_made.nd rfl (Or.inl rfl)) (pgs_cons (pg_name (i := 3) sc_l_made.nd rfl (Or.inl rfl)) pgs_nil)))))
      (pss_one (ps_ret (pe_make T.k_Web (ok_Web_init T) (hr.mono (by decide)) rfl T.m_Web T.b_Web_init .nil passL (pa_cons (pv 1) (pa_cons (pe_callTy call_dictD (by rfl) T.z_dict (by decide +kernel) (pa_cons (pv 2) pa_nil)) (pa_cons (pe_lc (own := [("_law_a", 4), ("_law_b", 5), ("_law_c", 6), ("_law_length", 7), ("_law_one", 8), ("_law_two", 9)]) (g := g6 K) (tt := tYes) (te := brTE6 K T.C_Bar) (by rfl) sc_l_made.nd (pi_list (pv 3)) (blkOk_by (own := [("_law_a", 4), ("_law_b", 5), ("_law_c", 6), ("_law_length", 7), ("_law_one", 8), ("_law_two", 9)]) (N := N_l_made) (sc := defScope s_l_made) (by decide +kernel)) (fun _ _ _ _ _ => (by exact pg_tup (by rfl) (pgs_cons (pg_name (i := 4) sc_l_made.nd rfl (Or.inl rfl)) (pgs_cons (pg_name (i := 5) sc_l_made.nd rfl (Or.inl rfl)) (pgs_cons (pg_name (i := 6) sc_l_made.nd rfl (Or.inl rfl)) (pgs_cons (pg_name (i := 7) sc_l_made.nd rfl (Or.inl rfl)) (pgs_cons (pg_name (i := 8) sc_l_made.nd rfl (Or.inl rfl)) (pgs_cons (pg_name (i := 9) sc_l_made.nd rfl (Or.inl rfl)) pgs_nil)))))))) (fun _ _ _ _ _ => pts_nil) (fun _ _ _ _ _ => (by exact pe_make T.k_Bar (ok_Bar_init T) (hr.mono (by decide)) rfl T.m_Bar T.b_Bar_init .nil passL (pa_cons (pv 4) (pa_cons (pv 5) (pa_cons (pv 6) (pa_cons (pv 7) (pa_cons (pv 8) (pa_cons (pv 9) pa_nil))))))))) pa_nil))))))), ?_⟩
    obtain ⟨t, hd, bl, ws, rfl, ht, hhd, hbl, hbs⟩ := fc_of hv
    rw [show L2.start N_l_made [V.ref t] = [some (.ref t), none, none, none, none, none, none, none, none, none] from rfl]
    refine ⟨_, rfl, t, _, rfl, ht, rfl, _, _, rfl, _, _, rfl, _, _, rfl, rfl, ?_⟩
    simp only [List.set_cons_succ, List.set_cons_zero]
    refine ⟨_, rfl, _, rfl, hd, _, rfl, .inl hhd, fun q hq => ?_⟩
    have e1 : Ext H (upd H q (.dK (hK hl))) := Ext.upd hq
    refine ⟨_, rfl, bl, rfl, lc_bars6 (hbl.ext e1) (hbs.ext e1) (by have := ok.b8; omega) (fun D H1 rs hD e2 hD1 hrs => ?_)⟩
    refine fun x dx hx hdx hne => ?_
    exact ⟨_, x, dx, n, q, D, hl, bs, rs, rfl, hx, hdx, hne, rfl, e2 _ _ upd_same, ok.nd, ok.l64, .inl (SqL.of hD1), hrs.ext del_ext, (by intro r h; rw [ok.ck] at h; cases h), fun _ H3 e3 i3 _ => ⟨rfl, k _ H3 ((e1.trans e2).trans e3) i3⟩⟩
end
end K53
namespace K53
open PySem L2 RZ
section
variable {P : Program} {w : World} {K : PySem.W.Frag} {mg : Str → Option Value} {base : Heap}
def spSwapped (K : PySem.W.Frag) : Sp := fun vs H Q _ => ∃ (H0 : Hp) (v : V) (rs : List (List Int)) (n m a b : Nat), vs = [v, .int (a : Int), .int (b : Int)] ∧ Ext H0 H ∧ Is K H0 (rowsD rs) v ∧ Mx.Sq n m rs ∧ a < n ∧ b < n ∧ n ≤ 10 ∧ m ≤ 20 ∧ ∀ u H', Ext H H' → Is K (mix H0 H H') (rowsD (Mx.swp rs a b)) u → Q u H'
theorem ok_swapped (T : Tx K mg) : FnOk P w K mg base (L2.CX P w) 1 T.a_swapped T.fd_swapped ["rows", "at", "other"] (spSwapped K) := by
  refine T.F_swapped.okX sc_swapped (fun vs H Q E h => ?_) (fun cdv A outer s H vs Q E hr h => ?_)
  · obtain ⟨H0, v, rs, n, m, a, b, rfl, _⟩ := h
    rfl
  · obtain ⟨H0, v, rs, n, m, a, b, rfl, e0, hv, sq, ha, hb, hn, hm, k⟩ := h
    refine ⟨_, (pss_cons (ps_if (pt_cmpR op_eq (pv 1) (pv 2) (nomark _)) (pss_one (ps_ret (pv 0))) pss_nil)
      (pss_cons (ps_set (i := 0) sc_swapped.nd rfl (Or.inl rfl) (pe_callTy call_list_of (by rfl) T.z_list (by decide +kernel) (pa_cons (pv 0) pa_nil)))
      (pss_cons (ps_asg (pe_tup (pa_cons (pe_ix ix_list (pv 0) (pv 2) (fun _ _ => rfl)) (pa_cons (pe_lc (own := [("number", 3)]) (g := gName 3) (tt := tYes) (by rfl) sc_swapped.nd (pi_list (pe_ix ix_list (pv 0) (pv 1) (fun _ _ => rfl))) (blkOk_by (own := [("number", 3)]) (N := N_swapped) (sc := defScope s_swapped) (by decide +kernel)) (fun _ _ _ _ _ => (pg_name (i := 3) sc_swapped.nd rfl (Or.inl rfl))) (fun _ _ _ _ _ => pts_nil) (fun _ _ _ _ _ => (pe_un un_neg (pv 3)))) pa_nil))) (pg_tup (by rfl) (pgs_cons (pg_sub (pv 0) (pv 1) set_list) (pgs_cons (pg_sub (pv 0) (pv 2) set_list) pgs_nil))))
      (pss_one (ps_ret (pv 0)))))), ?_⟩
    obtain ⟨l, xs, rfl, hl, hxs, hxl⟩ := rows_of hv
    refine ⟨_, rfl, _, rfl, rfl, _, rfl, ite2 (fun c => ?_) (fun c => ?_)⟩
    · have hab : a = b := by
        have := V.int.inj (of_decide_eq_true c)
        omega
      refine ⟨_, rfl, k _ _ Ext.rfl' ?_⟩
      unfold Mx.swp
      rw [if_pos hab]
      exact hv.ext (mix_old e0)
    · have hab : a ≠ b := fun z => c (decide_eq_true (by rw [z]))
      have hsa := row_get (rs := rs) (i := a) (by rw [sq.1]; exact ha)
      have hsb := row_get (rs := rs) (i := b) (by rw [sq.1]; exact hb)
      have hla := sq.at ha
      obtain ⟨va, hva, ia⟩ := isL_at hxs hsa
      obtain ⟨vb, hvb, ib⟩ := isL_at hxs hsb
      obtain ⟨ra, rfl, hra⟩ := rwI_of ia
      refine ⟨_, rfl, l, _, rfl, .inl (hl.ext e0), fun q hq => ?_⟩
      have e1 : Ext H (upd H q (.lst xs)) := Ext.upd hq
      have hq1 : (upd H q (.lst xs)) q = some (.lst xs) := upd_same
      generalize upd H q (.lst xs) = H1 at e1 hq1 ⊢
      refine ⟨_, rfl, _, rfl, q, _, _, _, rfl, rfl, SqL.of hq1, atI_nat hvb, ?_⟩
      refine ⟨_, rfl, _, rfl, q, _, _, _, rfl, rfl, SqL.of hq1, atI_nat hva, ra, rfl, lc_ints (fun x => -x) (hra.ext (e0.trans e1)) (by omega) (fun n _ H' R hR => ⟨rfl, _, rfl, _, rfl, hR⟩) (fun D H2 hD e2 hD2 => ?_)⟩
      refine ⟨by show 2 ≤ sizeLine; decide, fun t ht => ?_⟩
      have e3 : Ext H1 (upd H2 t (.tup [vb, .ref D])) := e2.trans (Ext.upd ht)
      have hq3 : (upd H2 t (.tup [vb, .ref D])) q = some (.lst xs) := e3 _ _ hq1
      have hD3 : (upd H2 t (.tup [vb, .ref D])) D = some (.lst (((rs.getD a []).map fun x => -x).map V.int)) := Ext.upd ht _ _ hD2
      refine ⟨t, _, rfl, SqT.of upd_same, rfl, ?_⟩
      generalize upd H2 t (.tup [vb, .ref D]) = H3 at e3 hq3 hD3 ⊢
      have hxa : ixN xs.length (a : Int) = some a := by
        unfold ixN
        rw [if_pos (by omega), Int.toNat_natCast, if_pos (by rw [hxl, sq.1]; exact Int.ofNat_lt.mpr ha)]
      have hxb : ixN (xs.set a vb).length (b : Int) = some b := by
        unfold ixN
        rw [List.length_set, if_pos (by omega), Int.toNat_natCast, if_pos (by rw [hxl, sq.1]; exact Int.ofNat_lt.mpr hb)]
      refine ⟨_, _, rfl, ⟨_, rfl, _, rfl, q, xs, _, a, rfl, rfl, hq3, hxa, ?_⟩⟩
      refine ⟨_, _, rfl, ⟨_, rfl, _, rfl, q, xs.set a vb, _, b, rfl, rfl, upd_same, hxb, ?_⟩⟩
      refine ⟨rfl, _, rfl, k _ _ (((e1.trans e3).mut hq).mut hq) ?_⟩
      have hqD : q ≠ D := fun z => by rw [← z, hq1] at hD; cases hD
      have hqH : H q = none := hq
      have hDH : H D = none := e1.fresh hD
      have z : IsL K (mix H0 H (upd (upd H3 q (.lst (xs.set a vb))) q (.lst ((xs.set a vb).set b (.ref D))))) ((rs.map rwI).set a (rwI (rs.getD b [])) |>.set b (rwI ((rs.getD a []).map fun x => -x))) ((xs.set a vb).set b (.ref D)) :=
        isL_set (isL_set (hxs.ext (mix_old e0)) (ib.ext (mix_old e0))) (rwI_is (SqL.of (by rw [mix_new hDH, upd_ne hqD.symm, upd_ne hqD.symm]; exact hD3)))
      rw [← List.map_set, ← List.map_set] at z
      unfold Mx.swp
      rw [if_neg hab]
      exact ⟨q, _, rfl, SqL.of (by rw [mix_new hqH, upd_same]), z⟩
def tRowE (K : PySem.W.Frag) : TE := tOp (rI CDivZ fun i j => .int (i.fdiv j)) (tOp (rI0 fun i j => .int (i - j)) (tOp (rI CMulW fun i j => .int (i * j)) (tOp (rIxL K) (tVar 4) (tVar 2)) (tVar 8)) (tOp (rI CMulW fun i j => .int (i * j)) (tOp (rIxL K) (tVar 6) (tVar 2)) (tVar 7))) (tVar 3)
def gTwo (K : PySem.W.Frag) (i j : Nat) : TG := gTup K 2 (gCons (gName i) (gCons (gName j) gNil))
def tClrE (K : PySem.W.Frag) : TE := tIf (tTest (tOp rEq (tVar 5) (tVar 1))) (tVar 6) (tLc (iZipA K (tCons (tVar 6) (tCons (tVar 4) tNil))) (gTwo K 8 7) tYes (tRowE K) [8, 7])
abbrev scClr : Scope := { kind := ScopeKind.function, names := [(Str.ofString ".0", NameKind.local), (Str.ofString "k", NameKind.local), (Str.ofString "row", NameKind.cell), (Str.ofString "zip", NameKind.globalImplicit), (Str.ofString "at", NameKind.cell), (Str.ofString "chief", NameKind.cell), (Str.ofString "column", NameKind.cell), (Str.ofString "shared", NameKind.cell)], isGenerator := false, isCoroutine := false }
def spClearedOf (K : PySem.W.Frag) : Sp := fun vs H Q _ => ∃ (H0 : Hp) (v : V) (rs : List (List Int)) (n m a c : Nat) (sh : Int), vs = [v, .int (a : Int), .int (c : Int), .int sh] ∧ Ext H0 H ∧ Is K H0 (rowsD rs) v ∧ Mx.Sq n m rs ∧ a < n ∧ c < m ∧ n ≤ 10 ∧ m ≤ 20 ∧ sh ≠ 0 ∧ sh.natAbs < 2 ^ 8000 ∧ (∀ i j, i < n → (Mx.ent rs i j).natAbs < 2 ^ 8000) ∧
  ∀ u H', Ext H H' → Is K (mix H0 H H') (rowsD (Mx.clrOf rs a c sh)) u → Q u H'
theorem ok_cleared_of (T : Tx K mg) : FnOk P w K mg base (L2.CX P w) 1 T.a_cleared_of T.fd_cleared_of ["rows", "at", "column", "shared"] (spClearedOf K) := by
  refine T.F_cleared_of.okX sc_cleared_of (fun vs H Q E h => ?_) (fun cdv A outer s H vs Q E hr h => ?_)
  · obtain ⟨H0, v, rs, n, m, a, c, sh, rfl, _⟩ := h
    rfl
  · obtain ⟨H0, v, rs, n, m, a, c, sh, rfl, e0, hv, sq, ha, hc, hn, hm, hs0, hsb, hb, k⟩ := h
    refine ⟨_, (pss_cons (ps_set (i := 4) sc_cleared_of.nd rfl (Or.inr rfl) (pe_ix ix_list (pv 0) (pv 1) (fun _ _ => rfl)))
      (pss_one (ps_ret (pe_lc (own := [("k", 5), ("row", 6)]) (g := gTwo K 5 6) (tt := tYes) (te := tClrE K) (by rfl) sc_cleared_of.nd (pi_enum (by rfl) T.z_enumerate (pa_cons (pv 0) pa_nil)) (blkOk_by (own := [("k", 5), ("row", 6)]) (N := N_cleared_of) (sc := defScope s_cleared_of) (by decide +kernel)) (fun _ _ _ _ _ => (by exact pg_tup rfl (pgs_cons (pg_name (i := 5) sc_cleared_of.nd rfl (Or.inl rfl)) (pgs_cons (pg_name (i := 6) sc_cleared_of.nd rfl (Or.inr rfl)) pgs_nil)))) (fun _ _ _ _ _ => pts_nil)
        (fun _ _ _ _ _ => (by exact pe_ifExp (pt_cmpR op_eq (pv 5) (pv 1) (nomark _)) (pv 6) (pe_lc (own := [("number", 8), ("against", 7)]) (g := gTwo K 8 7) (tt := tYes) (te := tRowE K) (by rfl) sc_cleared_of.nd (pi_zipA (by rfl) T.z_zip (pa_cons (pv 6) (pa_cons (pv 4) pa_nil))) (blkOk_by (own := [("number", 8), ("against", 7)]) (N := N_cleared_of) (sc := scClr) (by decide +kernel)) (fun _ _ _ _ _ => (by exact pg_tup rfl (pgs_cons (pg_name (i := 8) sc_cleared_of.nd rfl (Or.inl rfl)) (pgs_cons (pg_name (i := 7) sc_cleared_of.nd rfl (Or.inl rfl)) pgs_nil)))) (fun _ _ _ _ _ => pts_nil) (fun _ _ _ _ _ => (by exact pe_op op_fdivZ (pe_op op_sub (pe_op op_mulW (pe_ix ix_list (pv 4) (pv 2) (fun _ _ => rfl)) (pv 8)) (pe_op op_mulW (pe_ix ix_list (pv 6) (pv 2) (fun _ _ => rfl)) (pv 7))) (pv 3)))))))))), ?_⟩
    obtain ⟨l, xs, rfl, hl, hxs, hxl⟩ := rows_of hv
    have hlH := hl.ext e0
    have hlen := sq.1
    have hsa := row_get (rs := rs) (i := a) (by rw [hlen]; exact ha)
    have hla := sq.at ha
    obtain ⟨va, hva, ia⟩ := isL_at hxs hsa
    obtain ⟨ra, rfl, hra⟩ := rwI_of ia
    have mul : ∀ x y : Int, x.natAbs < 2 ^ 8000 → y.natAbs < 2 ^ 8000 → CMulW x y := fun x y hx hy => wide_mul hx hy (by decide) (by decide) (by decide)
    have entb : ∀ i, i < n → ∀ x ∈ rs.getD i [], x.natAbs < 2 ^ 8000 := fun i hi x hx => by
      obtain ⟨j, hj, rfl⟩ := List.mem_iff_getElem.mp hx
      have z := hb i j hi
      unfold Mx.ent at z
      rw [Mx.getD_lt (l := rs.getD i []) 0 hj] at z
      exact z
    refine ⟨_, rfl, _, rfl, l, _, _, _, rfl, rfl, hlH, atI_nat hva, ?_⟩
    refine ⟨_, rfl, l, xs, rfl, hlH, fun D hD => ?_⟩
    refine lc_enum (xs := xs) (fun i H' => Ext H H' ∧ ∃ acc, H' D = some (.lst acc) ∧ IsL K (del (mix H0 H H') D) (((Mx.clrOf rs a c sh).take i).map rwI) acc) ⟨Ext.upd hD, [], upd_same, rfl⟩ (fun i H' p => hlH.ext p.1) ?_ ?_
    · rintro i y tp H1 hi ⟨e1, acc, hD1, hacc⟩ htp
      obtain ⟨row, hrow, iy⟩ := isL_at' hxs hi
      have hin : i < n := by rw [← hlen]; exact (List.getElem?_eq_some_iff.mp hrow).1
      have hrd : rs.getD i [] = row := by rw [List.getD_eq_getElem?_getD, hrow]; rfl
      obtain ⟨rr, rfl, hrr⟩ := rwI_of iy
      have hrl : row.length = m := sq.2 row (List.mem_of_getElem? hrow)
      have hci : (Mx.clrOf rs a c sh)[i]? = some (Mx.clrRow rs a c sh i row) := by
        unfold Mx.clrOf
        rw [List.getElem?_mapIdx, hrow]
        rfl
      refine ⟨tp, _, rfl, SqT.of upd_same, rfl, _, _, rfl, _, _, rfl, rfl, rfl, tyes ?_⟩
      have e2 : Ext H (upd H1 tp (.tup [.int (i : Nat), .ref rr])) := e1.trans (Ext.upd htp)
      have hD2 : (upd H1 tp (.tup [.int (i : Nat), .ref rr])) D = some (.lst acc) := Ext.upd htp _ _ hD1
      have hacc2 : IsL K (del (mix H0 H (upd H1 tp (.tup [.int (i : Nat), .ref rr]))) D) (((Mx.clrOf rs a c sh).take i).map rwI) acc := hacc.ext (DE.of (mix_ext (Ext.upd htp)))
      generalize upd H1 tp (.tup [.int (i : Nat), .ref rr]) = H2 at e2 hD2 hacc2 ⊢
      have hal : acc.length < sizeLine := by
        rw [← hacc2.length, List.length_map, List.length_take]
        exact Nat.lt_of_lt_of_le (show min i (Mx.clrOf rs a c sh).length < 100 by omega) (by decide)
      have mixD : ∀ (H3 : Hp) (o : HO), Ext (del (mix H0 H H3) D) (del (mix H0 H (upd H3 D o)) D) := fun H3 o x u hx => by
        by_cases e : x = D
        · rw [e, del_same] at hx; cases hx
        · rw [del_ne e] at hx ⊢
          unfold mix at hx ⊢
          cases q : H x with
          | none => rw [q] at hx; dsimp only at hx ⊢; rw [upd_ne e]; exact hx
          | some y => rw [q] at hx; exact hx
      -- the new item
      have fin : ∀ (H3 : Hp) (u : Addr), Ext H2 H3 → SqL K (del (mix H0 H H3) D) u ((Mx.clrRow rs a c sh i row).map V.int) → ∃ acc, H3 D = some (.lst acc) ∧ acc.length < sizeLine ∧ Ext H (upd H3 D (.lst (acc ++ [V.ref u]))) ∧ ∃ acc', (upd H3 D (.lst (acc ++ [V.ref u]))) D = some (.lst acc') ∧ IsL K (del (mix H0 H (upd H3 D (.lst (acc ++ [V.ref u])))) D) (((Mx.clrOf rs a c sh).take (i + 1)).map rwI) acc' := fun H3 u e3 hu => by
        refine ⟨acc, e3 _ _ hD2, hal, (e2.trans e3).mut hD, _, upd_same, ?_⟩
        rw [List.take_add_one, hci, List.map_append]
        refine isL_sn ?_ (rwI_is ?_)
        · exact (hacc2.ext (DE.of (mix_ext e3))).ext (mixD H3 _)
        · exact hu.ext (mixD H3 _)
      refine ⟨_, rfl, _, rfl, rfl, _, rfl, ite2 (fun ce => ?_) (fun ce => ?_)⟩
      · have hia : i = a := by
          have := V.int.inj (of_decide_eq_true ce)
          omega
        refine ⟨_, rfl, ?_⟩
        refine fin H2 rr Ext.rfl' ?_
        unfold Mx.clrRow
        rw [if_pos hia]
        refine hrr.ext fun x o hx => ?_
        rw [del_ne (ne_of_none (e0 x o hx) hD)]
        exact mix_old e0 x o hx
      · have hia : i ≠ a := fun z => ce (decide_eq_true (by rw [z]))
        have hrr2 := hrr.ext (e0.trans e2)
        have hra2 := hra.ext (e0.trans e2)
        refine ⟨_, rfl, _, rfl, rr, ra, _, _, rfl, .inl ⟨hrr2, hra2, ?_⟩⟩
        refine lc_zipI (ns := row) (ms := rs.getD a []) (fun x y => ((rs.getD a []).getD c 0 * x - row.getD c 0 * y).fdiv sh) (by rw [hrl, hla]) hrr2 hra2 (by omega) (fun x y hx hy t H3 e3 ht R hR => ?_) (fun u H3 hu e3 hu3 => ?_)
        · refine ⟨t, _, rfl, SqT.of ht, rfl, _, _, rfl, _, _, rfl, rfl, rfl, ?_⟩
          have bx := entb i hin x (by rw [hrd]; exact hx)
          have by' := entb a ha y hy
          have bp := hb a c ha
          have bq := hb i c hin
          unfold Mx.ent at bp bq
          rw [hrd] at bq
          refine ⟨_, rfl, _, rfl, ra, _, _, _, rfl, rfl, hra2.ext e3, atI_int (by rw [hla]; exact hc), _, rfl, _, _, rfl, rfl, mul _ _ bp bx, ?_⟩
          refine ⟨_, rfl, _, rfl, rr, _, _, _, rfl, rfl, hrr2.ext e3, atI_int (by rw [hrl]; exact hc), _, rfl, _, _, rfl, rfl, mul _ _ bq by', ?_⟩
          exact ⟨_, _, rfl, rfl, _, rfl, _, _, rfl, rfl, div_z hs0 hsb (by decide) (by decide), hR⟩
        · have huD : u ≠ D := fun z => by rw [z, hD2] at hu; cases hu
          refine fin H3 u e3 (SqL.of ?_)
          rw [del_ne huD, mix_new (e2.fresh hu), hu3]
          unfold Mx.clrRow Mx.elim
          rw [if_neg hia]
    · rintro H1 ⟨e1, acc, hD1, hacc⟩
      rw [List.take_of_length_le (by rw [Mx.len_clr, hxl]; exact Nat.le_refl _)] at hacc
      exact k _ _ e1 ⟨D, acc, rfl, SqL.of (by rw [mix_new hD]; exact hD1), hacc.ext del_ext⟩
end
end K53
namespace L2
open PySem PySem.Spec PyProof.Rows
/-- ints of a range that pass a test -/
theorem lc_rangeP {lo : Int} {n : Nat} {g : TG} {tt : TT} {te : TE} {vs : List Nat} {σ : St} {H1 : Hp} {Q : Addr → Hp → Prop} (p : Nat → Bool) (hz : n ≤ 1000)
    (hs : ∀ (i : Nat), i < n → ∀ (H : Hp), Ext H1 H → ∀ (R : V → Hp → Prop) (N : Hp → Prop), (if p i = true then R (.int (lo + i)) H else N H) → g (.int (lo + (i : Nat))) (wipe σ vs) H fun σ2 H2 => wipe σ2 vs = wipe σ vs ∧ tt σ2 H2 fun b H3 => if b = true then te σ2 H3 R else N H3)
    (hd : ∀ D H', H1 D = none → Ext H1 H' → H' D = some (.lst (((List.range n).filter p).map fun i : Nat => V.int (lo + i))) → Q D H') : ∀ D, H1 D = none →
    ∃ W : Nat → Nat → Hp → Prop, (∃ m, W 0 m (upd H1 D (.lst []))) ∧ ∀ i m H, W i m H →
      ((Itr lo n).stop i H ∧ Q D H) ∨ ((Itr lo n).go i H ∧ ∃ Nx : Hp → Prop, (∀ H', Nx H' → ∃ m', m' < m ∧ W (i + 1) m' H') ∧ ∀ x H', (Itr lo n).yld i H x H' → g x (wipe σ vs) H' fun σ2 H2 => wipe σ2 vs = wipe σ vs ∧ tt σ2 H2 fun b H3 =>
        if b = true then te σ2 H3 fun y H4 => ∃ acc, H4 D = some (.lst acc) ∧ acc.length < sizeLine ∧ Nx (upd H4 D (.lst (acc ++ [y]))) else Nx H3) := fun D hD => by
  refine lc_range (lo := lo) (n := n) (fun i H' => Ext H1 H' ∧ H' D = some (.lst (((List.range i).filter p).map fun i : Nat => V.int (lo + i)))) ⟨Ext.upd hD, upd_same⟩ ?_ ?_
  · rintro i H' hi ⟨e1, hD1⟩
    have et : (List.range (i + 1)).filter p = (List.range i).filter p ++ (if p i = true then [i] else []) := by
      rw [List.range_succ, List.filter_append]
      congr 1
      rw [List.filter_cons]
      rfl
    refine hs i hi H' e1 _ _ ?_
    by_cases hp : p i = true
    · rw [if_pos hp]
      refine ⟨_, hD1, ?_, e1.mut hD, ?_⟩
      · rw [List.length_map]
        exact Nat.lt_of_le_of_lt (List.length_filter_le _ _) (Nat.lt_of_lt_of_le (show (List.range i).length < 2000 by rw [List.length_range]; omega) (by decide))
      · rw [upd_same, et, if_pos hp, List.map_append]
        rfl
    · rw [if_neg hp]
      refine ⟨e1, ?_⟩
      rw [hD1, et, if_neg hp, List.append_nil]
  · rintro H' ⟨e1, hD1⟩
    exact hd D H' hD e1 hD1
end L2
namespace K53
open PySem L2 RZ
section
variable {P : Program} {w : World} {K : PySem.W.Frag} {mg : Str → Option Value} {base : Heap}
def spCleared (K : PySem.W.Frag) : Sp := fun vs H Q _ => ∃ (v : V) (rs : List (List Int)) (n m : Nat), vs = [v, .int (n : Int)] ∧ Is K H (rowsD rs) v ∧ Mx.Sq n m rs ∧ n ≤ m ∧ n ≤ 9 ∧ m ≤ 20 ∧ (∀ i j, i < n → (Mx.ent rs i j).natAbs < 2 ^ 400) ∧
  ∀ (t kp : Addr) (u : V) (rs' : List (List Int)) (kept : List Nat) (s : Int) (H' : Hp), Ext H H' → H' t = some (.tup [u, .ref kp, .int s]) → Is K H' (rowsD rs') u → H' kp = some (.lst (kept.map fun c : Nat => V.int (c : Int))) → Mx.Cl n m n (Mx.ent rs) rs' kept s → Q (.ref t) H'
theorem ok_cleared (T : Tx K mg) : FnOk P w K mg base (L2.CX P w) 2 T.a_cleared T.fd_cleared ["rows", "width"] (spCleared K) := by
  refine T.F_cleared.okX sc_cleared (fun vs H Q E h => ?_) (fun cdv A outer s H vs Q E hr h => ?_)
  · obtain ⟨v, rs, n, m, rfl, _⟩ := h
    rfl
  · obtain ⟨v, rs, n, m, rfl, hv, sq, hnm, hn, hm, hb, k⟩ := h
    refine ⟨_, (pss_cons (ps_set (i := 2) sc_cleared.nd rfl (Or.inl rfl) (pe_lst pa_nil))
      (pss_cons (ps_set (i := 3) sc_cleared.nd rfl (Or.inl rfl) pe_int)
      (pss_cons (ps_for (passes_of rfl) rfl (pi_range1 rfl T.z_range (pa_cons (pv 1) pa_nil)) (pg_name (i := 4) sc_cleared.nd rfl (Or.inr rfl)) (pss_cons (ps_set (i := 5) sc_cleared.nd rfl (Or.inl rfl) (pe_callB call_len_seq (by rfl) T.z_len PySem.boot_len (pa_cons (pv 2) pa_nil)))
      (pss_cons (ps_setLc (i := 6) (own := [("k", 7)]) (g := gName 7) (te := tVar 7) (by rfl) sc_cleared.nd rfl rfl (sw_true rfl rfl rfl (by decide +kernel)) (pi_range2 rfl T.z_range (pa_cons (pv 5) (pa_cons (pe_callB call_len_seq (by rfl) T.z_len PySem.boot_len (pa_cons (pv 0) pa_nil)) pa_nil))) (blkOk_by (own := [("k", 7)]) (N := N_cleared) (sc := defScope s_cleared) (by decide +kernel)) (fun _ _ _ _ _ => (pg_name (i := 7) sc_cleared.nd rfl (Or.inl rfl))) (fun _ _ _ _ _ => (pts_one (pt_cmpR op_ne (pe_ix (r := rIxL K) ix_list (pe_ix (r := rIxL K) ix_list (pv 0) (pv 7) (fun _ _ => rfl)) (pv 4) (fun _ _ => rfl)) pe_int (nomark _)))) (fun _ _ _ _ _ => (pv 7)))
      (pss_one (ps_if (pt_truth (pv 6) (by intro _; rfl)) (pss_cons (ps_set (i := 0) sc_cleared.nd rfl (Or.inr rfl) (pe_call (ok_swapped T) (hr.mono (by decide)) rfl T.m_swapped T.F_swapped.kp T.b_swapped .nil passL (pa_cons (pv 0) (pa_cons (pv 5) (pa_cons (pe_ix ix_list (pv 6) pe_int (fun _ _ => rfl)) pa_nil)))))
      (pss_cons (ps_set (i := 0) sc_cleared.nd rfl (Or.inr rfl) (pe_call (ok_cleared_of T) (hr.mono (by decide)) rfl T.m_cleared_of T.F_cleared_of.kp T.b_cleared_of .nil passL (pa_cons (pv 0) (pa_cons (pv 5) (pa_cons (pv 4) (pa_cons (pv 3) pa_nil))))))
      (pss_cons (ps_set (i := 3) sc_cleared.nd rfl (Or.inl rfl) (pe_ix ix_list (pe_ix ix_list (pv 0) (pv 5) (fun _ _ => rfl)) (pv 4) (fun _ _ => rfl)))
      (pss_one (ps_expr (pe_bm PySem.F.plainAttrs_list PySem.F.slot_list_append PySem.F.type_list_append mt_append (pv 2) (pa_cons (pv 4) pa_nil))))))) pss_nil)))))
      (pss_one (ps_ret (pe_tup (pa_cons (pv 0) (pa_cons (pv 2) (pa_cons (pv 3) pa_nil))))))))), ?_⟩
    refine ⟨by show 0 ≤ sizeLine; decide, fun kp hkp => ?_⟩
    have eK : Ext H (upd H kp (.lst [])) := Ext.upd hkp
    have hK0 : (upd H kp (.lst [])) kp = some (.lst []) := upd_same
    refine ⟨_, rfl, (n : Int), rfl, by omega, by omega, ?_⟩
    rw [Int.toNat_natCast]
    refine for_range (lo := 0) (n := n) (fun i σ H' => Ext H H' ∧ ∃ (u : V) (rs' : List (List Int)) (kept : List Nat) (s' : Int) (v4 v5 v6 v7 : Option V), σ = [some u, some (.int (n : Int)), some (.ref kp), some (.int s'), v4, v5, v6, v7] ∧ H' kp = some (.lst (kept.map fun c : Nat => V.int (c : Int))) ∧ Is K (del H' kp) (rowsD rs') u ∧ Mx.Cl n m i (Mx.ent rs) rs' kept s')
      ⟨eK, v, rs, [], 1, none, none, none, none, rfl, hK0, hv.ext (fun x o hx => by rw [del_ne (ne_of_none hx hkp)]; exact eK x o hx), Mx.Cl.start sq⟩ ?_ ?_
    · rintro i σ H1 hi ⟨e1, u, rs', kept, s', v4, v5, v6, v7, rfl, hK1, hu, C⟩
      have hkl : kept.length ≤ n := by
        obtain ⟨B, _, I⟩ := C.inv
        exact I.kn
      obtain ⟨bR, bS⟩ := C.bound (b := 400) (by omega) hb
      have pw : 2 ^ ((400 + 4) * (n + 1) + 1) ≤ 2 ^ 8000 := Nat.pow_le_pow_right (by decide) (by omega)
      have hs0 : s' ≠ 0 := by
        obtain ⟨B, _, I⟩ := C.inv
        exact I.s0
      obtain ⟨l, xs, rfl, hl, hxs, hxl⟩ := rows_of hu
      have hlen := C.sq.1
      have hl1 := hl.ext del_ext
      refine ⟨_, rfl, kp, _, rfl, .inl (SqL.of hK1), ?_⟩
      rw [List.length_map, Int.zero_add]
      refine ⟨_, rfl, _, rfl, l, _, rfl, .inl hl1, (kept.length : Int), (xs.length : Int), rfl, ⟨by omega, by omega, by omega, by omega⟩, ?_⟩
      rw [show ((xs.length : Int) - (kept.length : Int)).toNat = n - kept.length by omega]
      refine lc_rangeP (fun j => decide (Mx.ent rs' (kept.length + j) i ≠ 0)) (by omega) (fun j hj H' e R N hR => ?_) (fun D H2 hD e2 hD2 => ?_)
      · have hj' : kept.length + j < n := by omega
        obtain ⟨vr, hvr, ir⟩ := isL_at hxs (row_get (rs := rs') (i := kept.length + j) (by omega))
        obtain ⟨ra, rfl, hra⟩ := rwI_of ir
        have hrl := C.sq.at hj'
        have hij : atI ((rs'.getD (kept.length + j) []).map V.int) (i : Int) = some (.int (Mx.ent rs' (kept.length + j) i)) := atI_int (by rw [hrl]; omega)
        refine ⟨rfl, _, rfl, _, rfl, l, _, _, _, rfl, rfl, hl1.ext e, ?_, _, rfl, ra, _, _, _, rfl, rfl, (hra.ext del_ext).ext e, hij, rfl, _, rfl, ?_⟩
        · rw [← Int.natCast_add]
          exact atI_nat hvr
        · by_cases hp : Mx.ent rs' (kept.length + j) i = 0
          · have hb' : (!decide (V.int (Mx.ent rs' (kept.length + j) i) = V.int 0)) = false := by
              rw [Bool.not_eq_false', decide_eq_true_iff, hp]
            rw [if_neg (by rw [decide_eq_true_iff]; exact fun z => z hp)] at hR
            rw [hb']
            exact hR
          · have hb' : (!decide (V.int (Mx.ent rs' (kept.length + j) i) = V.int 0)) = true := by
              rw [Bool.not_eq_true', decide_eq_false_iff_not]
              exact fun z => hp (V.int.inj z)
            rw [if_pos (decide_eq_true hp)] at hR
            simp only [hb', if_true]
            exact ⟨_, rfl, hR⟩
      · have hK2 := e2 _ _ hK1
        have hu2 : Is K (del H2 kp) (rowsD rs') (.ref l) := hu.ext (DE.of e2)
        refine ⟨_, rfl, _, .inl ⟨_, SqL.of hD2, rfl⟩, ?_⟩
        cases hf : (List.range (n - kept.length)).filter (fun j => decide (Mx.ent rs' (kept.length + j) i ≠ 0)) with
        | nil =>
          rw [hf] at hD2
          refine iteF ?_
          refine ⟨e1.trans e2, _, rs', kept, s', _, _, _, _, rfl, hK2, hu2, C.skip fun r h1 h2 => ?_⟩
          refine Classical.byContradiction fun z => ?_
          have : (r - kept.length) ∈ (List.range (n - kept.length)).filter (fun j => decide (Mx.ent rs' (kept.length + j) i ≠ 0)) := by
            rw [List.mem_filter, List.mem_range, decide_eq_true_iff]
            exact ⟨by omega, by rw [show kept.length + (r - kept.length) = r by omega]; exact z⟩
          rw [hf] at this
          cases this
        | cons j0 js =>
          rw [hf] at hD2
          refine iteT ?_
          have hj0 : j0 ∈ (List.range (n - kept.length)).filter (fun j => decide (Mx.ent rs' (kept.length + j) i ≠ 0)) := by rw [hf]; exact List.mem_cons_self
          rw [List.mem_filter, List.mem_range, decide_eq_true_iff] at hj0
          obtain ⟨hj1, hj2⟩ := hj0
          have hkn : kept.length < n := by omega
          refine ⟨_, rfl, _, rfl, _, rfl, D, _, _, _, rfl, rfl, SqL.of hD2, atI_nat (j := 0) rfl, ?_⟩
          refine ⟨del H2 kp, _, rs', n, m, kept.length, kept.length + j0, (by rw [Int.natCast_add]; rfl), del_ext, hu2, C.sq, hkn, by omega, by omega, hm, fun u2 H3 e3 i3 => ?_⟩
          have hK3 := e3 _ _ hK2
          have i3' : Is K (del H3 kp) (rowsD (Mx.swp rs' kept.length (kept.length + j0))) u2 := i3.ext (mix_del hK2 e3)
          have sq3 := C.sq.swp hkn (show kept.length + j0 < n by omega)
          have b3 : ∀ p q, p < n → (Mx.ent (Mx.swp rs' kept.length (kept.length + j0)) p q).natAbs < 2 ^ 8000 := fun p q hp => by
            by_cases e : kept.length = kept.length + j0
            · have e2 : Mx.swp rs' kept.length (kept.length + j0) = rs' := by unfold Mx.swp; rw [if_pos e]
              rw [e2]
              exact Nat.lt_of_lt_of_le (bR p q hp) pw
            · rw [Mx.ent_swp C.sq hkn (by omega) e hp q]
              unfold Mx.sx
              split
              · exact Nat.lt_of_lt_of_le (bR _ q (by omega)) pw
              · split
                · rw [Int.natAbs_neg]
                  exact Nat.lt_of_lt_of_le (bR _ q hkn) pw
                · exact Nat.lt_of_lt_of_le (bR p q hp) pw
          refine ⟨_, rfl, _, rfl, _, rfl, _, rfl, del H3 kp, _, _, n, m, kept.length, i, s', rfl, del_ext, i3', sq3, hkn, by omega, by omega, hm, hs0, Nat.lt_of_lt_of_le bS pw, b3, fun u3 H4 e4 i4 => ?_⟩
          have hK4 := e4 _ _ hK3
          have i4' : Is K (del H4 kp) (rowsD (Mx.clrOf (Mx.swp rs' kept.length (kept.length + j0)) kept.length i s')) u3 := i4.ext (mix_del hK3 e4)
          have C4 := C.keep (f := kept.length + j0) (by omega) (by omega) hj2
          generalize Mx.clrOf (Mx.swp rs' kept.length (kept.length + j0)) kept.length i s' = rs4 at i4' C4 ⊢
          obtain ⟨l4, xs4, rfl, hl4, hxs4, hxl4⟩ := rows_of i4'
          obtain ⟨v4', hv4, iv4⟩ := isL_at hxs4 (row_get (rs := rs4) (i := kept.length) (by rw [C4.sq.1]; exact hkn))
          obtain ⟨r4, rfl, hr4⟩ := rwI_of iv4
          have hrl4 := C4.sq.at hkn
          have hij4 : atI ((rs4.getD kept.length []).map V.int) (i : Int) = some (.int (Mx.ent rs4 kept.length i)) := atI_int (by rw [hrl4]; omega)
          refine ⟨_, rfl, _, rfl, l4, _, _, _, rfl, rfl, hl4.ext del_ext, atI_nat hv4, _, rfl, r4, _, _, _, rfl, rfl, hr4.ext del_ext, hij4, ?_⟩
          refine ⟨_, rfl, .inl ⟨rfl, _, SqL.of hK4⟩, _, rfl, kp, _, _, rfl, rfl, hK4, ?_, ?_⟩
          · rw [List.length_map]
            exact Nat.lt_of_lt_of_le (show kept.length < 100 by omega) (by decide)
          · refine ⟨(((e1.trans e2).trans e3).trans e4).mut hkp, _, rs4, kept ++ [i], _, _, _, _, _, rfl, ?_, i4'.ext DE.upd, C4⟩
            rw [upd_same, List.map_append]
            rfl
    · rintro σ H1 ⟨e1, u, rs', kept, s', v4, v5, v6, v7, rfl, hK1, hu, C⟩
      refine ⟨_, rfl, _, rfl, _, rfl, by show 3 ≤ sizeLine; decide, fun t ht => ?_⟩
      exact k t kp u rs' kept s' _ (e1.trans (Ext.upd ht)) upd_same ((hu.ext del_ext).ext (Ext.upd ht)) (Ext.upd ht _ _ hK1) C
end
end K53
namespace K53
open PySem L2 RZ
section
variable {P : Program} {w : World} {K : PySem.W.Frag} {mg : Str → Option Value} {base : Heap}
/-- what a bar asks, of all rods -/
def barRow (n : Nat) (q : Int) (b : BarD) (x : Int) : List Int := (((List.replicate n 0).set b.a.toNat (x - q * b.len)).set b.b.toNat (-x)).set b.c.toNat (q * b.len)
def barRows (n : Nat) (q : Int) (bs : List BarD) (ns : List Int) : List (List Int) := (bs.zip ns).map fun z => barRow n q z.1 z.2
theorem len_barRow {n : Nat} {q : Int} {b : BarD} {x : Int} : (barRow n q b x).length = n := by
  unfold barRow
  rw [List.length_set, List.length_set, List.length_set, List.length_replicate]
theorem rep_zero (n : Nat) : (List.replicate n [V.int 0]).flatten = (List.replicate n (0 : Int)).map V.int := by
  induction n with
  | zero => rfl
  | succ n ih => rw [List.replicate_succ, List.replicate_succ, List.flatten_cons, ih]; rfl
theorem ixN_of {n : Nat} {i : Int} (h0 : 0 ≤ i) (h1 : i < (n : Int)) : ixN n i = some i.toNat := by
  unfold ixN
  rw [if_pos h0, if_pos (by omega)]
def spBarRows (K : PySem.W.Frag) (T : Tx K mg) : Sp := fun vs H Q _ => ∃ (v : V) (t : Addr) (n : Nat) (bs : List BarD) (hl : List (Int × Int)) (ns : List Int) (q : Int), vs = [v, .ref t, .int q] ∧ Is K H (wbD T.C_Web T.C_Bar (n : Int) bs hl) v ∧ SqT K H t (ns.map V.int) ∧ ns.length = bs.length ∧ n ≤ 10 ∧ bs.length ≤ 8 ∧ (∀ b ∈ bs, BarOk (n : Int) b) ∧
  ∀ u H', Ext H H' → Is K H' (rowsD (barRows n q bs ns)) u → Q u H'
theorem ok_bar_rows (T : Tx K mg) : FnOk P w K mg base (L2.CX P w) 1 T.a_bar_rows T.fd_bar_rows ["web", "numbers", "parts"] (spBarRows K T) := by
  refine T.F_bar_rows.okX sc_bar_rows (fun vs H Q E h => ?_) (fun cdv A outer s H vs Q E hr h => ?_)
  · obtain ⟨v, t, n, bs, hl, ns, q, rfl, _⟩ := h
    rfl
  · obtain ⟨v, tn, n, bs, hl, ns, q, rfl, hv, htn, hnl, hn, h8, hbo, k⟩ := h
    refine ⟨_, (pss_cons (ps_set (i := 3) sc_bar_rows.nd rfl (Or.inl rfl) (pe_lst pa_nil))
      (pss_cons (ps_for (passes_of rfl) rfl (pi_zipA (by rfl) T.z_zip (pa_cons (pe_fld (pv 0) rfl) (pa_cons (pv 1) pa_nil))) (pg_tup rfl (pgs_cons (pg_name (i := 4) sc_bar_rows.nd rfl (Or.inl rfl)) (pgs_cons (pg_name (i := 5) sc_bar_rows.nd rfl (Or.inl rfl)) pgs_nil))) (pss_cons (ps_set (i := 6) sc_bar_rows.nd rfl (Or.inl rfl) (pe_op op_rep (pe_lst (pa_cons pe_int pa_nil)) (pe_fld (pv 0) rfl)))
      (pss_cons (ps_asg (pe_op op_sub (pv 5) (pe_op op_mul (pv 2) (pe_fld (pv 4) rfl))) (pg_sub (pv 6) (pe_fld (pv 4) rfl) set_list))
      (pss_cons (ps_asg (pe_un un_neg (pv 5)) (pg_sub (pv 6) (pe_fld (pv 4) rfl) set_list))
      (pss_cons (ps_asg (pe_op op_mul (pv 2) (pe_fld (pv 4) rfl)) (pg_sub (pv 6) (pe_fld (pv 4) rfl) set_list))
      (pss_one (ps_expr (pe_bm PySem.F.plainAttrs_list PySem.F.slot_list_append PySem.F.type_list_append mt_append (pv 3) (pa_cons (pv 6) pa_nil)))))))))
      (pss_one (ps_ret (pv 3))))), ?_⟩
    obtain ⟨a, dx, t, d, ws, rfl, ha, ht, hb, _⟩ := wb_fields hv
    have hwl : ws.length = bs.length := by rw [isL_len hb, List.length_map]
    refine ⟨by show 0 ≤ sizeLine; decide, fun R hR => ?_⟩
    have eR : Ext H (upd H R (.lst [])) := Ext.upd hR
    have hR0 : (upd H R (.lst [])) R = some (.lst []) := upd_same
    generalize upd H R (.lst []) = HR at eR hR0 ⊢
    refine ⟨_, rfl, a, T.C_Web, dx, _, _, rfl, eR _ _ ha, T.c_Web, T.nf_Web_bars, rfl, _, rfl, t, tn, _, _, rfl, .inr ⟨ht.ext eR, htn.ext eR, ?_⟩⟩
    refine for_zipT (xs := ws) (ys := ns.map V.int) (by rw [List.length_map, hwl, hnl]) (fun i σ H' => Ext H H' ∧ ∃ (acc : List V) (v4 v5 v6 : Option V), σ = [some (.ref a), some (.ref tn), some (.int q), some (.ref R), v4, v5, v6] ∧ H' R = some (.lst acc) ∧ IsL K (del H' R) (((barRows n q bs ns).take i).map rwI) acc)
      ⟨eR, [], none, none, none, rfl, hR0, rfl⟩ (fun i σ H' p => ⟨ht.ext p.1, htn.ext p.1⟩) ?_ ?_
    · rintro i x y tp σ H1 hx hy ⟨e1, acc, v4, v5, v6, rfl, hR1, hacc⟩ htp
      obtain ⟨b, hbi, ib⟩ := isL_at' hb hx
      obtain ⟨z, hz, rfl⟩ : ∃ z, ns[i]? = some z ∧ y = V.int z := by
        rw [List.getElem?_map] at hy
        cases e : ns[i]? with
        | none => rw [e] at hy; cases hy
        | some n => rw [e] at hy; exact ⟨n, rfl, (Option.some.inj hy).symm⟩
      have hin : i < bs.length := (List.getElem?_eq_some_iff.mp hbi).1
      have ok := hbo b (List.mem_of_getElem? hbi)
      have e2 : Ext H (upd H1 tp (.tup [x, .int z])) := e1.trans (Ext.upd htp)
      have hR2 : (upd H1 tp (.tup [x, .int z])) R = some (.lst acc) := Ext.upd htp _ _ hR1
      have hacc2 : IsL K (del (upd H1 tp (.tup [x, .int z])) R) (((barRows n q bs ns).take i).map rwI) acc := hacc.ext (DE.of (Ext.upd htp))
      refine ⟨tp, _, rfl, SqT.of upd_same, rfl, _, _, rfl, _, _, rfl, rfl, ?_⟩
      generalize upd H1 tp (.tup [x, .int z]) = H2 at e2 hR2 hacc2 ⊢
      obtain ⟨ab, adx, rfl, hab0⟩ := br_fields ib
      have ha2 := e2 _ _ ha
      -- row = [0] * web.rods
      refine ⟨by show 1 ≤ sizeLine; decide, fun z1 hz1 => ?_⟩
      refine ⟨_, rfl, a, T.C_Web, dx, _, _, rfl, Ext.upd hz1 _ _ ha2, T.c_Web, T.nf_Web_rods, rfl, z1, (n : Int), _, rfl, rfl, upd_same, by omega, by omega, ?_, fun r hr1 => ?_⟩
      · show 1 * ((n : Int).toNat) ≤ sizeLine
        exact Nat.le_trans (show 1 * ((n : Int).toNat) ≤ 100 by omega) (by decide)
      rw [Int.toNat_natCast, rep_zero]
      have e3 : Ext H2 (upd (upd H2 z1 (.lst [.int 0])) r (.lst ((List.replicate n (0 : Int)).map V.int))) := (Ext.upd hz1).trans (Ext.upd hr1)
      have hr3 : (upd (upd H2 z1 (.lst [.int 0])) r (.lst ((List.replicate n (0 : Int)).map V.int))) r = some (.lst ((List.replicate n (0 : Int)).map V.int)) := upd_same
      have hrH2 : H2 r = none := (Ext.upd hz1).fresh hr1
      generalize upd (upd H2 z1 (.lst [.int 0])) r (.lst ((List.replicate n (0 : Int)).map V.int)) = H3 at e3 hr3 ⊢
      have fld : ∀ (H' : Hp), Ext H2 H' → H' ab = some (.ins T.C_Bar adx [("a", .int b.a), ("b", .int b.b), ("c", .int b.c), ("length", .int b.len), ("least", .int b.lo), ("greatest", .int b.hi)]) := fun H' e => e _ _ (e2 _ _ hab0)
      have h3 := fld H3 e3
      have l0 := ok.l0
      have l1 := ok.l1
      refine ⟨_, rfl, _, rfl, _, rfl, ab, T.C_Bar, adx, _, _, rfl, h3, T.c_Bar, T.nf_Bar_length, rfl, _, _, rfl, rfl, .inr ⟨by omega, by omega⟩, _, _, rfl, rfl, ?_⟩
      refine ⟨_, rfl, _, rfl, ab, T.C_Bar, adx, _, _, rfl, h3, T.c_Bar, T.nf_Bar_a, rfl, r, _, b.a, b.a.toNat, rfl, rfl, hr3, ?_, ?_⟩
      · rw [List.length_map, List.length_replicate]
        exact ixN_of ok.a0 ok.a1
      dsimp only
      rw [← List.map_set]
      have e4 : Ext H2 (upd H3 r (.lst (((List.replicate n (0 : Int)).set b.a.toNat (z - q * b.len)).map V.int))) := e3.mut hrH2
      have hr4 : (upd H3 r (.lst (((List.replicate n (0 : Int)).set b.a.toNat (z - q * b.len)).map V.int))) r = some (.lst (((List.replicate n (0 : Int)).set b.a.toNat (z - q * b.len)).map V.int)) := upd_same
      generalize upd H3 r (.lst (((List.replicate n (0 : Int)).set b.a.toNat (z - q * b.len)).map V.int)) = H4 at e4 hr4 ⊢
      have h4 := fld H4 e4
      refine ⟨_, rfl, _, rfl, _, rfl, _, rfl, ab, T.C_Bar, adx, _, _, rfl, h4, T.c_Bar, T.nf_Bar_b, rfl, r, _, b.b, b.b.toNat, rfl, rfl, hr4, ?_, ?_⟩
      · rw [List.length_map, List.length_set, List.length_replicate]
        exact ixN_of ok.b0 ok.b1
      dsimp only
      rw [← List.map_set]
      have e5 : Ext H2 (upd H4 r (.lst ((((List.replicate n (0 : Int)).set b.a.toNat (z - q * b.len)).set b.b.toNat (-z)).map V.int))) := e4.mut hrH2
      have hr5 : (upd H4 r (.lst ((((List.replicate n (0 : Int)).set b.a.toNat (z - q * b.len)).set b.b.toNat (-z)).map V.int))) r = some (.lst ((((List.replicate n (0 : Int)).set b.a.toNat (z - q * b.len)).set b.b.toNat (-z)).map V.int)) := upd_same
      generalize upd H4 r (.lst ((((List.replicate n (0 : Int)).set b.a.toNat (z - q * b.len)).set b.b.toNat (-z)).map V.int)) = H5 at e5 hr5 ⊢
      have h5 := fld H5 e5
      refine ⟨_, rfl, _, rfl, ab, T.C_Bar, adx, _, _, rfl, h5, T.c_Bar, T.nf_Bar_length, rfl, _, _, rfl, rfl, .inr ⟨by omega, by omega⟩, ?_⟩
      refine ⟨_, rfl, _, rfl, ab, T.C_Bar, adx, _, _, rfl, h5, T.c_Bar, T.nf_Bar_c, rfl, r, _, b.c, b.c.toNat, rfl, rfl, hr5, ?_, ?_⟩
      · rw [List.length_map, List.length_set, List.length_set, List.length_replicate]
        exact ixN_of ok.c0 ok.c1
      dsimp only
      rw [← List.map_set]
      have e6 : Ext H2 (upd H5 r (.lst ((barRow n q b z).map V.int))) := e5.mut hrH2
      have hr6 : (upd H5 r (.lst ((barRow n q b z).map V.int))) r = some (.lst ((barRow n q b z).map V.int)) := upd_same
      show tDrop _ _ _ (upd H5 r (.lst ((barRow n q b z).map V.int)))
      have hR6 := e6 _ _ hR2
      generalize upd H5 r (.lst ((barRow n q b z).map V.int)) = H6 at e6 hr6 hR6 ⊢
      have hrR : r ≠ R := fun e => by rw [e, hR2] at hrH2; cases hrH2
      have hzi : (barRows n q bs ns)[i]? = some (barRow n q b z) := by
        unfold barRows
        have hzz : (bs.zip ns)[i]? = some (b, z) := by rw [List.getElem?_zip_eq_some]; exact ⟨hbi, hz⟩
        rw [List.getElem?_map, hzz]
        rfl
      refine ⟨_, rfl, .inl ⟨rfl, _, SqL.of hR6⟩, _, rfl, R, _, _, rfl, rfl, hR6, ?_, ?_⟩
      · rw [← hacc2.length, List.length_map, List.length_take]
        exact Nat.lt_of_lt_of_le (show min i (barRows n q bs ns).length < 100 by omega) (by decide)
      · refine ⟨(e2.trans e6).mut hR, _, _, _, _, rfl, upd_same, ?_⟩
        rw [List.take_add_one, hzi, List.map_append]
        refine isL_sn ((hacc2.ext (DE.of e6)).ext DE.upd) (rwI_is (SqL.of ?_))
        rw [del_ne hrR, upd_ne hrR]
        exact hr6
    · rintro σ H1 ⟨e1, acc, v4, v5, v6, rfl, hR1, hacc⟩
      rw [List.take_of_length_le (by unfold barRows; rw [List.length_map, List.length_zip, hwl]; omega)] at hacc
      exact ⟨_, rfl, k _ _ e1 ⟨R, acc, rfl, SqL.of hR1, hacc.ext del_ext⟩⟩
def tabRow (hs : List Int) (row : List Int) : List Int := hs.map fun r => row.getD r.toNat 0
def tabRows (n : Nat) (hs : List Int) (q : Int) (bs : List BarD) (ns : List Int) : List (List Int) := (barRows n q bs ns).map (tabRow hs)
def tTabE (K : PySem.W.Frag) : TE := tLc (iList K (tVar 3)) (gName 5) tYes (tOp (rIxL K) (tVar 4) (tVar 5)) [5]
abbrev scTab : Scope := { kind := ScopeKind.function, names := [(Str.ofString ".0", NameKind.local), (Str.ofString "row", NameKind.cell), (Str.ofString "hanging", NameKind.cell)], isGenerator := false, isCoroutine := false }
theorem mem_hangL {n : Nat} {hl : List (Int × Int)} {r : Int} (h : r ∈ hangL (n : Int) hl) : 0 ≤ r ∧ r < (n : Int) := by
  unfold hangL at h
  rw [Int.toNat_natCast] at h
  exact mem_rangeI.mp (List.mem_filter.mp h).1
def spTable (K : PySem.W.Frag) (T : Tx K mg) : Sp := fun vs H Q _ => ∃ (v : V) (t : Addr) (n : Nat) (bs : List BarD) (hl : List (Int × Int)) (ns : List Int) (q : Int), vs = [v, .ref t, .int q] ∧ Is K H (wbD T.C_Web T.C_Bar (n : Int) bs hl) v ∧ SqT K H t (ns.map V.int) ∧ ns.length = bs.length ∧ n ≤ 10 ∧ bs.length ≤ 8 ∧ (∀ b ∈ bs, BarOk (n : Int) b) ∧
  ∀ u H', Ext H H' → Is K H' (rowsD (tabRows n (hangL (n : Int) hl) q bs ns)) u → Q u H'
theorem ok_table (T : Tx K mg) : FnOk P w K mg base (L2.CX P w) 4 T.a_table T.fd_table ["web", "numbers", "parts"] (spTable K T) := by
  refine T.F_table.okX sc_table (fun vs H Q E h => ?_) (fun cdv A outer s H vs Q E hr h => ?_)
  · obtain ⟨v, t, n, bs, hl, ns, q, rfl, _⟩ := h
    rfl
  · obtain ⟨v, tn, n, bs, hl, ns, q, rfl, hv, htn, hnl, hn, h8, hbo, k⟩ := h
    refine ⟨_, (pss_cons (ps_set (i := 3) sc_table.nd rfl (Or.inr rfl) (pe_meth0 (pv 0) T.c_Web T.M_Web_hanging (ok_Web_hanging T) (hr.mono (by decide)) T.b_Web_hanging .nil passL))
      (pss_one (ps_ret (pe_lc (own := [("row", 4)]) (g := gName 4) (tt := tYes) (te := tTabE K) (by rfl) sc_table.nd (pi_list (pe_call (ok_bar_rows T) (hr.mono (by decide)) rfl T.m_bar_rows T.F_bar_rows.kp T.b_bar_rows .nil passL (pa_cons (pv 0) (pa_cons (pv 1) (pa_cons (pv 2) pa_nil))))) (blkOk_by (own := [("row", 4)]) (N := N_table) (sc := defScope s_table) (by decide +kernel)) (fun _ _ _ _ _ => (pg_name (i := 4) sc_table.nd rfl (Or.inr rfl))) (fun _ _ _ _ _ => pts_nil) (fun _ _ _ _ _ => (by exact pe_lc (own := [("rod", 5)]) (g := gName 5) (tt := tYes) (te := tOp (rIxL K) (tVar 4) (tVar 5)) (by rfl) sc_table.nd (pi_list (pv 3)) (blkOk_by (own := [("rod", 5)]) (N := N_table) (sc := scTab) (by decide +kernel)) (fun _ _ _ _ _ => (pg_name (i := 5) sc_table.nd rfl (Or.inl rfl))) (fun _ _ _ _ _ => pts_nil) (fun _ _ _ _ _ => (by exact pe_ix ix_list (pv 4) (pv 5) (fun _ _ => rfl))))))))), ?_⟩
    obtain ⟨a, dx, t, d, ws, rfl, ha, ht, hb, hd⟩ := wb_fields hv
    refine ⟨_, rfl, a, dx, _, rfl, ha, rfl, .ref a, (n : Int), bs, hl, rfl, hv, by omega, by omega, fun hp H1 hhp e1 hh1 => ?_⟩
    refine ⟨_, rfl, _, rfl, _, rfl, .ref a, tn, n, bs, hl, ns, q, rfl, hv.ext e1, htn.ext e1, hnl, hn, h8, hbo, fun u H2 e2 i2 => ?_⟩
    obtain ⟨l, xs, rfl, hls, hxs, hxl⟩ := rows_of i2
    have hh2 := e2 _ _ hh1
    have hhl : (hangL (n : Int) hl).length ≤ 10 := by
      unfold hangL
      refine Nat.le_trans (List.length_filter_le _ _) ?_
      rw [len_rangeI, Int.toNat_natCast]
      exact hn
    refine ⟨l, rfl, ⟨_, hls⟩, fun D hD => lc_list (xs := xs) (fun i H' => Ext H2 H' ∧ ∃ acc, H' D = some (.lst acc) ∧ IsL K (del H' D) (((tabRows n (hangL (n : Int) hl) q bs ns).take i).map rwI) acc) ⟨Ext.upd hD, [], upd_same, rfl⟩ (fun i H' _ p => hls.ext p.1) ?_ ?_⟩
    · rintro i y H3 hi ⟨e3, acc, hD3, hacc⟩
      obtain ⟨row, hrow, iy⟩ := isL_at' hxs hi
      obtain ⟨ra, rfl, hra⟩ := rwI_of iy
      have hrl : row.length = n := by
        obtain ⟨z, _, hz⟩ := List.mem_map.mp (List.mem_of_getElem? hrow)
        rw [← hz]
        exact len_barRow
      have hin : i < (barRows n q bs ns).length := (List.getElem?_eq_some_iff.mp hrow).1
      have hi8 : (barRows n q bs ns).length ≤ 8 := by
        unfold barRows
        rw [List.length_map, List.length_zip]
        omega
      refine ⟨rfl, tyes ?_⟩
      refine ⟨_, rfl, hp, rfl, lc_intsE (fun r => row.getD r.toNat 0) (SqL.of (e3 _ _ hh2)) (by omega) (fun r hr' H' e R hR => ?_) (fun D2 H4 hD2 e4 hD4 => ?_)⟩
      · have hm := mem_hangL hr'
        refine ⟨rfl, _, rfl, _, rfl, ra, _, _, _, rfl, rfl, (hra.ext e3).ext e, ?_, hR⟩
        have z := atI_int (row := row) (j := r.toNat) (by rw [hrl]; omega)
        rwa [show ((r.toNat : Nat) : Int) = r by omega] at z
      · have hD5 := e4 _ _ hD3
        have hne : D2 ≠ D := fun e => by rw [e, hD3] at hD2; cases hD2
        refine ⟨acc, hD5, ?_, (e3.trans e4).mut hD, _, upd_same, ?_⟩
        · rw [← hacc.length, List.length_map, List.length_take]
          exact Nat.lt_of_lt_of_le (show min i (tabRows n (hangL (n : Int) hl) q bs ns).length < 100 by omega) (by decide)
        · have ht : (tabRows n (hangL (n : Int) hl) q bs ns)[i]? = some (tabRow (hangL (n : Int) hl) row) := by
            unfold tabRows
            rw [List.getElem?_map, hrow]
            rfl
          rw [List.take_add_one, ht, List.map_append]
          refine isL_sn ((hacc.ext (DE.of e4)).ext DE.upd) (rwI_is (SqL.of ?_))
          rw [del_ne hne, upd_ne hne]
          exact hD4
    · rintro H3 ⟨e3, acc, hD3, hacc⟩
      rw [List.take_of_length_le (by unfold tabRows; rw [List.length_map, hxl]; exact Nat.le_refl _)] at hacc
      exact k _ _ ((e1.trans e2).trans e3) ⟨D, acc, rfl, SqL.of hD3, hacc.ext del_ext⟩
end
end K53
namespace K53
open PySem L2 RZ
section
variable {P : Program} {w : World} {K : PySem.W.Frag} {mg : Str → Option Value} {base : Heap}
theorem len_barRows {n : Nat} {q : Int} {bs : List BarD} {ns : List Int} (h : ns.length = bs.length) : (barRows n q bs ns).length = bs.length := by
  unfold barRows
  rw [List.length_map, List.length_zip]
  omega
theorem sq_tab {n : Nat} {hs : List Int} {q : Int} {bs : List BarD} {ns : List Int} (h : ns.length = bs.length) (hl : hs.length = bs.length) : Mx.Sq bs.length bs.length (tabRows n hs q bs ns) := by
  refine ⟨by unfold tabRows; rw [List.length_map, len_barRows h], fun row hr => ?_⟩
  obtain ⟨r, _, rfl⟩ := List.mem_map.mp hr
  unfold tabRow
  rw [List.length_map, hl]
theorem mem_set4 {l : List Int} {i : Nat} {v x : Int} (h : x ∈ l.set i v) : x ∈ l ∨ x = v := List.mem_or_eq_of_mem_set h
theorem barRow_small {n : Nat} {q : Int} {b : BarD} {x : Int} (hx : x.natAbs < 2 ^ 300) (hq : q.natAbs < 2 ^ 300) (l0 : 1 ≤ b.len) (l1 : b.len ≤ 1000000) : ∀ y ∈ barRow n q b x, y.natAbs < 2 ^ 400 := by
  have hql : (q * b.len).natAbs < 2 ^ 399 := by
    rw [Int.natAbs_mul]
    have h1 : q.natAbs * b.len.natAbs ≤ 2 ^ 300 * 2 ^ 20 := Nat.mul_le_mul (Nat.le_of_lt hq) (Nat.le_trans (show b.len.natAbs ≤ 1000000 by omega) (by decide))
    exact Nat.lt_of_le_of_lt h1 (by decide +kernel)
  have hx2 : x.natAbs < 2 ^ 399 := Nat.lt_trans hx (by decide +kernel)
  have e : (2 : Nat) ^ 400 = 2 ^ 399 + 2 ^ 399 := by decide +kernel
  intro y hy
  unfold barRow at hy
  rw [e]
  generalize (2 : Nat) ^ 399 = B at hql hx2
  rcases mem_set4 hy with hy | rfl
  · rcases mem_set4 hy with hy | rfl
    · rcases mem_set4 hy with hy | rfl
      · rw [(List.mem_replicate.mp hy).2]
        omega
      · omega
    · omega
  · omega
theorem tab_small {n : Nat} {hs : List Int} {q : Int} {bs : List BarD} {ns : List Int} (hx : ∀ x ∈ ns, x.natAbs < 2 ^ 300) (hq : q.natAbs < 2 ^ 300) (hb : ∀ b ∈ bs, 1 ≤ b.len ∧ b.len ≤ 1000000) (i j : Nat) : (Mx.ent (tabRows n hs q bs ns) i j).natAbs < 2 ^ 400 := by
  have pos : (0 : Int).natAbs < 2 ^ 400 := by decide +kernel
  have gd : ∀ (l : List Int) (j : Nat), (∀ y ∈ l, y.natAbs < 2 ^ 400) → (l.getD j 0).natAbs < 2 ^ 400 := fun l j h => by
    by_cases hj : j < l.length
    · rw [Mx.getD_lt 0 hj]
      exact h _ (List.getElem_mem _)
    · rw [Mx.getD_ge 0 (by omega)]
      exact pos
  unfold Mx.ent
  refine gd _ _ fun y hy => ?_
  by_cases hi : i < (tabRows n hs q bs ns).length
  · rw [Mx.getD_lt [] hi] at hy
    have hm : (tabRows n hs q bs ns)[i] ∈ tabRows n hs q bs ns := List.getElem_mem _
    obtain ⟨r, hr, hre⟩ := List.mem_map.mp hm
    rw [← hre] at hy
    obtain ⟨rod, _, rfl⟩ := List.mem_map.mp hy
    refine gd _ _ fun z hz => ?_
    obtain ⟨p, hp, rfl⟩ := List.mem_map.mp hr
    obtain ⟨p1, p2⟩ := List.of_mem_zip (a := p.1) (b := p.2) hp
    have := hb p.1 p1
    exact barRow_small (hx _ p2) hq this.1 this.2 z hz
  · rw [Mx.getD_ge [] (by omega)] at hy
    cases hy
def detB (n : Nat) (hs : List Int) (q : Int) (bs : List BarD) (ns : List Int) : Int := Mx.det bs.length (Mx.ent (tabRows n hs q bs ns))
def spDetAt (K : PySem.W.Frag) (T : Tx K mg) : Sp := fun vs H Q _ => ∃ (v : V) (t : Addr) (n : Nat) (bs : List BarD) (hl : List (Int × Int)) (ns : List Int) (q : Int), vs = [v, .ref t, .int q] ∧ Is K H (wbD T.C_Web T.C_Bar (n : Int) bs hl) v ∧ SqT K H t (ns.map V.int) ∧ ns.length = bs.length ∧ n ≤ 10 ∧ bs.length ≤ 8 ∧ (∀ b ∈ bs, BarOk (n : Int) b) ∧ (hangL (n : Int) hl).length = bs.length ∧ (∀ x ∈ ns, x.natAbs < 2 ^ 300) ∧ q.natAbs < 2 ^ 300 ∧
  ∀ H', Ext H H' → Q (.int (detB n (hangL (n : Int) hl) q bs ns)) H'
theorem ok_determinant_at (T : Tx K mg) : FnOk P w K mg base (L2.CX P w) 5 T.a_determinant_at T.fd_determinant_at ["web", "numbers", "parts"] (spDetAt K T) := by
  refine T.F_determinant_at.okX sc_determinant_at (fun vs H Q E h => ?_) (fun cdv A outer s H vs Q E hr h => ?_)
  · obtain ⟨v, t, n, bs, hl, ns, q, rfl, _⟩ := h
    rfl
  · obtain ⟨v, tn, n, bs, hl, ns, q, rfl, hv, htn, hnl, hn, h8, hbo, hhl, hx, hq, k⟩ := h
    refine ⟨_, (pss_cons (ps_set (i := 3) sc_determinant_at.nd rfl (Or.inl rfl) (pe_call (ok_table T) (hr.mono (by decide)) rfl T.m_table T.F_table.kp T.b_table .nil passL (pa_cons (pv 0) (pa_cons (pv 1) (pa_cons (pv 2) pa_nil)))))
      (pss_cons (ps_asg (pe_call (ok_cleared T) (hr.mono (by decide)) rfl T.m_cleared T.F_cleared.kp T.b_cleared .nil passL (pa_cons (pv 3) (pa_cons (pe_callB call_len_seq (by rfl) T.z_len PySem.boot_len (pa_cons (pv 3) pa_nil)) pa_nil))) (pg_tup (by rfl) (pgs_cons (pg_name (i := 4) sc_determinant_at.nd rfl (Or.inl rfl)) (pgs_cons (pg_name (i := 5) sc_determinant_at.nd rfl (Or.inl rfl)) (pgs_cons (pg_name (i := 6) sc_determinant_at.nd rfl (Or.inl rfl)) pgs_nil)))))
      (pss_cons (ps_if (pt_cmpR op_lt (pe_callB call_len_seq (by rfl) T.z_len PySem.boot_len (pa_cons (pv 5) pa_nil)) (pe_callB call_len_seq (by rfl) T.z_len PySem.boot_len (pa_cons (pv 3) pa_nil)) (nomark _)) (pss_one (ps_ret pe_int)) pss_nil)
      (pss_one (ps_ret (pv 6)))))), ?_⟩
    refine ⟨_, rfl, _, rfl, _, rfl, v, tn, n, bs, hl, ns, q, rfl, hv, htn, hnl, hn, h8, hbo, fun u H1 e1 i1 => ?_⟩
    have sq := sq_tab (n := n) (q := q) hnl hhl
    obtain ⟨l, xs, rfl, hls, hxs, hxl⟩ := rows_of i1
    rw [sq.1] at hxl
    refine ⟨_, rfl, _, rfl, l, _, rfl, .inl hls, ?_⟩
    rw [hxl]
    refine ⟨.ref l, tabRows n (hangL (n : Int) hl) q bs ns, bs.length, bs.length, rfl, i1, sq, Nat.le_refl _, by omega, by omega, fun i j _ => tab_small hx hq (fun b hb => ⟨(hbo b hb).l0, (hbo b hb).l1⟩) i j, fun t kp u2 rs' kept sh H2 e2 ht2 _ hk2 C => ?_⟩
    refine ⟨t, _, rfl, SqT.of ht2, rfl, _, _, rfl, _, _, rfl, _, _, rfl, rfl, ?_⟩
    refine ⟨_, rfl, kp, _, rfl, .inl (SqL.of hk2), _, rfl, l, _, rfl, .inl (hls.ext e2), _, _, rfl, rfl, _, rfl, ?_⟩
    rw [List.length_map, hxl]
    have hdet := C.det
    refine ite2 (fun c => ?_) (fun c => ?_)
    · have c' : kept.length < bs.length := by
        have := of_decide_eq_true c
        omega
      rw [if_pos c'] at hdet
      have z := k H2 (e1.trans e2)
      unfold detB at z
      rw [← hdet] at z
      exact z
    · have c' : ¬ kept.length < bs.length := fun z => c (decide_eq_true (by omega))
      rw [if_neg c'] at hdet
      have z := k H2 (e1.trans e2)
      unfold detB at z
      rw [← hdet] at z
      exact ⟨_, rfl, z⟩
end
end K53
namespace L2
open PySem PySem.Spec PyProof.Rows
theorem rows_pure : ∀ rs : List (List Int), pureL (rs.map rwI) = true
  | [] => rfl
  | r :: rs => by
    show (pureL (r.map Dt.int) && pureL (rs.map rwI)) = true
    rw [pureL_ints, rows_pure rs]
    rfl
theorem rows_dep : ∀ rs : List (List Int), depL (rs.map rwI) ≤ 1
  | [] => Nat.zero_le _
  | r :: rs => by
    show max (depL (r.map Dt.int) + 1) (depL (rs.map rwI)) ≤ 1
    have := rows_dep rs
    rw [depL_ints]
    omega
/-- the rows behind the first one, less one column -/
def lessR (rs : List (List Int)) (k : Nat) : List (List Int) := (rs.drop 1).map fun row => row.take k ++ row.drop (k + 1)
theorem sq_less {n : Nat} {rs : List (List Int)} {k : Nat} (h : Mx.Sq (n + 1) (n + 1) rs) (hk : k < n + 1) : Mx.Sq n n (lessR rs k) := by
  refine ⟨by unfold lessR; rw [List.length_map, List.length_drop, h.1]; rfl, fun row hr => ?_⟩
  obtain ⟨r, hr2, rfl⟩ := List.mem_map.mp hr
  have := h.2 r (List.mem_of_mem_drop hr2)
  rw [List.length_append, List.length_take, List.length_drop]
  omega
theorem ent_less {n : Nat} {rs : List (List Int)} {k i j : Nat} (h : Mx.Sq (n + 1) (n + 1) rs) (hk : k < n + 1) (hi : i < n) (hj : j < n) : Mx.ent (lessR rs k) i j = Mx.ent rs (i + 1) (Mx.sk k j) := by
  unfold Mx.ent lessR
  have hi1 : i + 1 < rs.length := by rw [h.1]; omega
  have e1 : ((rs.drop 1).map fun row => row.take k ++ row.drop (k + 1)).getD i [] = (rs.getD (i + 1) []).take k ++ (rs.getD (i + 1) []).drop (k + 1) := by
    rw [List.getD_eq_getElem?_getD, List.getElem?_map, List.getElem?_drop, Nat.add_comm 1 i, row_get hi1]
    rfl
  rw [e1]
  have hl := h.at (i := i + 1) (by omega)
  generalize rs.getD (i + 1) [] = row at hl
  unfold Mx.sk
  rw [List.getD_eq_getElem?_getD, List.getD_eq_getElem?_getD]
  by_cases g : j < k
  · rw [if_pos g, List.getElem?_append_left (by rw [List.length_take]; omega), List.getElem?_take_of_lt g]
  · rw [if_neg g, List.getElem?_append_right (by rw [List.length_take]; omega), List.length_take, List.getElem?_drop, Nat.min_eq_left (by omega)]
    congr 2
    omega
end L2
namespace K53
open PySem L2 RZ
section
variable {P : Program} {w : World} {K : PySem.W.Frag} {mg : Str → Option Value} {base : Heap}
def spLDet (K : PySem.W.Frag) (m : Nat) : Sp := fun vs H Q _ => ∃ (v : V) (rs : List (List Int)), vs = [v] ∧ Is K H (rowsD rs) v ∧ Mx.Sq m m rs ∧ m ≤ 8 ∧ (∀ i j, i < m → (Mx.ent rs i j).natAbs < 2 ^ 400) ∧ ∀ H', Ext H H' → Q (.int (Mx.det m (Mx.ent rs))) H'
theorem ok_l_turned (T : Tx K mg) : ∀ m, FnOk P w K mg base (L2.CX P w) (10 + m) T.a_l_turned T.fd_l_turned ["_law_table_here"] (spLDet K m) := by
  intro m
  induction m with
  | zero =>
    refine T.F_l_turned.okX sc_l_turned (fun vs H Q E h => ?_) (fun cdv A outer s H vs Q E hr h => ?_)
    · obtain ⟨v, rs, rfl, _⟩ := h
      rfl
    · obtain ⟨v, rs, rfl, hv, sq, hm, hb, k⟩ := h
      refine ⟨_, (pss_cons (ps_if (pt_cmpR (op_eqO pureTab hr (by decide)) (pv 0) (pe_lst pa_nil) (nomark _)) (pss_one (ps_ret pe_int)) pss_nil) pss_never), ?_⟩
      obtain rfl : rs = [] := List.eq_nil_of_length_eq_zero sq.1
      refine ⟨_, rfl, by show 0 ≤ sizeLine; decide, fun z hz => ?_⟩
      refine ⟨rowsD [], rowsD [], hv.ext (Ext.upd hz), is_lst upd_same rfl, okL_pure (rows_pure []), okL_pure (rows_pure []), by decide, fun H' e => ?_⟩
      refine ⟨_, rfl, iteT ?_⟩
      exact k H' ((Ext.upd hz).trans e)
  | succ m ih =>
    refine T.F_l_turned.okX sc_l_turned (fun vs H Q E h => ?_) (fun cdv A outer s H vs Q E hr h => ?_)
    · obtain ⟨v, rs, rfl, _⟩ := h
      rfl
    · obtain ⟨v, rs, rfl, hv, sq, hm, hb, k⟩ := h
      refine ⟨_, (pss_cons (ps_if (pt_cmpR (op_eqO pureTab hr (show 0 + 9 ≤ 10 + m by omega)) (pv 0) (pe_lst pa_nil) (nomark _)) (pss_one (ps_ret pe_int)) pss_nil)
        (pss_cons (ps_set (i := 1) sc_l_turned.nd rfl (Or.inl rfl) pe_int)
        (pss_cons (ps_for (passes_of rfl) rfl (pi_enumQ (by rfl) T.z_enumerate (pa_cons (pe_ix ix_list (pv 0) pe_int (fun _ _ => rfl)) pa_nil)) (pg_tup rfl (pgs_cons (pg_name (i := 2) sc_l_turned.nd rfl (Or.inr rfl)) (pgs_cons (pg_name (i := 3) sc_l_turned.nd rfl (Or.inl rfl)) pgs_nil))) (pss_one (ps_if (pt_cmpR op_ne (pv 3) pe_int (nomark _)) (pss_cons (ps_setLc (i := 4) (own := [("_law_row", 5)]) (g := gName 5) (tt := tYes) (te := tOp (rCatL K) (tSl (rSlL K) (tVar 5) tNoPart (tPart (tVar 2))) (tSl (rSlL K) (tVar 5) (tPart (tOp (rI0 fun i j => .int (i + j)) (tVar 2) (tC (.int 1)))) tNoPart)) (by rfl) sc_l_turned.nd rfl rfl (sw_true rfl rfl rfl (by decide +kernel)) (pi_list (pe_slice sl_list (pv 0) (po_some pe_int) po_none)) (blkOk_by (own := [("_law_row", 5)]) (N := N_l_turned) (sc := defScope s_l_turned) (by decide +kernel)) (fun _ _ _ _ _ => (pg_name (i := 5) sc_l_turned.nd rfl (Or.inl rfl))) (fun _ _ _ _ _ => pts_nil) (fun _ _ _ _ _ => (by exact pe_op op_catL (pe_slice sl_list (pv 5) po_none (po_some (pv 2))) (pe_slice sl_list (pv 5) (po_some (pe_op op_add (pv 2) pe_int)) po_none))))
        (pss_one (ps_set (i := 1) sc_l_turned.nd rfl (Or.inl rfl) (pe_op op_add (pv 1) (pe_op op_mulW (pe_op op_mulW (pe_ix ix_list (pe_lst (pa_cons pe_int (pa_cons (pe_un un_neg pe_int) pa_nil))) (pe_op op_modN (pv 2) pe_int) (fun _ _ => rfl)) (pv 3)) (pe_call ih (hr.mono (Nat.le_refl _)) rfl T.m_l_turned T.F_l_turned.kp T.b_l_turned .nil passL (pa_cons (pv 4) pa_nil))))))) pss_nil)))
        (pss_one (ps_ret (pv 1)))))), ?_⟩
      obtain ⟨l, xs, rfl, hl, hxs, hxl⟩ := rows_of hv
      have hlen := sq.1
      refine ⟨_, rfl, by show 0 ≤ sizeLine; decide, fun z hz => ?_⟩
      have e1 : Ext H (upd H z (.lst [])) := Ext.upd hz
      refine ⟨rowsD rs, rowsD [], hv.ext e1, is_lst upd_same rfl, okL_pure (rows_pure rs), okL_pure (rows_pure []), (by show depL (rs.map rwI) + 1 ≤ 8; have := rows_dep rs; omega), fun H2 e2 => ?_⟩
      have hne : deq (rowsD rs) (rowsD []) = false := by
        cases rs with
        | nil => cases hlen
        | cons _ _ => rfl
      rw [hne]
      have e02 : Ext H H2 := e1.trans e2
      refine ⟨_, rfl, iteF ?_⟩
      obtain ⟨v0, hv0, i0⟩ := isL_at hxs (row_get (rs := rs) (i := 0) (by rw [hlen]; omega))
      obtain ⟨r0, rfl, hr0⟩ := rwI_of i0
      have hl0 := sq.at (i := 0) (by omega)
      have hr02 := hr0.ext e02
      let F : Nat → Int := fun j => Mx.sg j * Mx.ent rs 0 j * Mx.det m fun i k => Mx.ent rs (i + 1) (Mx.sk j k)
      refine ⟨_, rfl, l, _, _, _, rfl, rfl, hl.ext e02, atI_nat (j := 0) hv0, r0, rfl, for_enumQ (xs := (rs.getD 0 []).map V.int) (H0 := H2) (.inl hr02) (fun i σ H' => Ext H2 H' ∧ ∃ v2 v3 v4 v5 : Option V, σ = [some (.ref l), some (.int (Mx.sm i F)), v2, v3, v4, v5])
        ⟨Ext.rfl', none, none, none, none, rfl⟩ (fun i σ H' _ p => p.1) ?_ ?_⟩
      · rintro i y σ H3 tp hi ⟨e3, v2, v3, v4, v5, rfl⟩ htp
        obtain ⟨x, hx, rfl⟩ : ∃ x, (rs.getD 0 [])[i]? = some x ∧ y = V.int x := by
          rw [List.getElem?_map] at hi
          cases e : (rs.getD 0 [])[i]? with
          | none => rw [e] at hi; cases hi
          | some n => rw [e] at hi; exact ⟨n, rfl, (Option.some.inj hi).symm⟩
        have him : i < m + 1 := by rw [← hl0]; exact (List.getElem?_eq_some_iff.mp hx).1
        have hxe : Mx.ent rs 0 i = x := by
          unfold Mx.ent
          rw [List.getD_eq_getElem?_getD (l := rs.getD 0 []), hx]
          rfl
        have e4 : Ext H2 (upd H3 tp (.tup [.int (i : Nat), .int x])) := e3.trans (Ext.upd htp)
        refine ⟨tp, _, rfl, SqT.of upd_same, rfl, _, _, rfl, _, _, rfl, rfl, ?_⟩
        generalize upd H3 tp (.tup [.int (i : Nat), .int x]) = H4 at e4 ⊢
        refine ⟨_, rfl, rfl, _, rfl, ite2 (fun c => ?_) (fun c => ?_)⟩
        · have hl4 := (hl.ext e02).ext e4
          have hxs4 := (hxs.ext e02).ext e4
          refine ⟨_, rfl, 1, rfl, l, _, rfl, hl4, fun S hS => ?_⟩
          have hcd : cutV xs (some (1 : Int)) none = xs.drop 1 := cut_drop xs 1
          rw [hcd]
          have e5 : Ext H4 (upd H4 S (.lst (xs.drop 1))) := Ext.upd hS
          have hS5 : (upd H4 S (.lst (xs.drop 1))) S = some (.lst (xs.drop 1)) := upd_same
          generalize upd H4 S (.lst (xs.drop 1)) = H5 at e5 hS5 ⊢
          refine ⟨S, rfl, ⟨_, SqL.of hS5⟩, fun D hD => lc_list (xs := xs.drop 1) (fun j H' => Ext H5 H' ∧ ∃ acc, H' D = some (.lst acc) ∧ IsL K (del H' D) (((lessR rs i).take j).map rwI) acc) ⟨Ext.upd hD, [], upd_same, rfl⟩ (fun j H' _ p => SqL.of (p.1 _ _ hS5)) ?_ ?_⟩
          · rintro j y H6 hj ⟨e6, acc, hD6, hacc⟩
            rw [List.getElem?_drop] at hj
            obtain ⟨row, hrow, iy⟩ := isL_at' hxs4 hj
            obtain ⟨ra, rfl, hra⟩ := rwI_of iy
            have hra6 := (hra.ext e5).ext e6
            have hrl : row.length = m + 1 := sq.2 row (List.mem_of_getElem? hrow)
            have hjm : 1 + j < rs.length := (List.getElem?_eq_some_iff.mp hrow).1
            refine ⟨rfl, tyes ?_⟩
            refine ⟨_, rfl, _, rfl, (i : Int), rfl, ra, _, rfl, hra6, fun A1 hA1 => ?_⟩
            have hra7 := hra6.ext (Ext.upd (o := HO.lst (cutV (row.map V.int) none (some (i : Int)))) hA1)
            refine ⟨_, rfl, _, rfl, _, _, rfl, rfl, ((i + 1 : Nat) : Int), rfl, ra, _, rfl, hra7, fun A2 hA2 => ?_⟩
            rw [cut_drop, cut_take, ← List.map_take, ← List.map_drop] at *
            have hA1' : (upd (upd H6 A1 (.lst ((row.take i).map V.int))) A2 (.lst ((row.drop (i + 1)).map V.int))) A1 = some (.lst ((row.take i).map V.int)) := Ext.upd hA2 _ _ upd_same
            refine ⟨A1, A2, _, _, rfl, rfl, SqL.of hA1', SqL.of upd_same, ?_, fun p hp => ?_⟩
            · rw [List.length_map, List.length_map, List.length_take, List.length_drop]
              exact Nat.le_trans (show min i row.length + (row.length - (i + 1)) ≤ 100 by omega) (by decide)
            rw [← List.map_append]
            have e7 : Ext H6 (upd (upd (upd H6 A1 (.lst ((row.take i).map V.int))) A2 (.lst ((row.drop (i + 1)).map V.int))) p (.lst ((row.take i ++ row.drop (i + 1)).map V.int))) := ((Ext.upd hA1).trans (Ext.upd hA2)).trans (Ext.upd hp)
            have hp7 : (upd (upd (upd H6 A1 (.lst ((row.take i).map V.int))) A2 (.lst ((row.drop (i + 1)).map V.int))) p (.lst ((row.take i ++ row.drop (i + 1)).map V.int))) p = some (.lst ((row.take i ++ row.drop (i + 1)).map V.int)) := upd_same
            have hp6 : H6 p = none := ((Ext.upd hA1).trans (Ext.upd hA2)).fresh hp
            generalize upd (upd (upd H6 A1 (.lst ((row.take i).map V.int))) A2 (.lst ((row.drop (i + 1)).map V.int))) p (.lst ((row.take i ++ row.drop (i + 1)).map V.int)) = H7 at e7 hp7 ⊢
            have hD7 := e7 _ _ hD6
            have hpD : p ≠ D := fun e => by rw [e, hD6] at hp6; cases hp6
            have hli : (lessR rs i)[j]? = some (row.take i ++ row.drop (i + 1)) := by
              unfold lessR
              rw [List.getElem?_map, List.getElem?_drop, hrow]
              rfl
            refine ⟨acc, hD7, ?_, (e6.trans e7).mut hD, _, upd_same, ?_⟩
            · rw [← hacc.length, List.length_map, List.length_take]
              exact Nat.lt_of_lt_of_le (show min j (lessR rs i).length < 100 by omega) (by decide)
            · rw [List.take_add_one, hli, List.map_append]
              refine isL_sn ((hacc.ext (DE.of e7)).ext DE.upd) (rwI_is (SqL.of ?_))
              rw [del_ne hpD, upd_ne hpD]
              exact hp7
          · rintro H6 ⟨e6, acc, hD6, hacc⟩
            have hsl := sq_less sq him
            rw [List.take_of_length_le (by rw [hsl.1, List.length_drop, hxl, hlen]; omega)] at hacc
            have hD6' : Is K H6 (rowsD (lessR rs i)) (.ref D) := ⟨D, acc, rfl, SqL.of hD6, hacc.ext del_ext⟩
            refine ⟨_, rfl, _, rfl, by show 2 ≤ sizeLine; decide, fun L hL => ?_⟩
            have e7 : Ext H6 (upd H6 L (.lst [.int 1, .int (-1)])) := Ext.upd hL
            have hL7 : (upd H6 L (.lst [.int 1, .int (-1)])) L = some (.lst [.int 1, .int (-1)]) := upd_same
            generalize upd H6 L (.lst [.int 1, .int (-1)]) = H7 at e7 hL7 ⊢
            have hsg : atI [V.int 1, V.int (-1)] ((i : Int).fmod 2) = some (.int (Mx.sg i)) := by
              rw [Int.fmod_eq_emod_of_nonneg _ (by decide)]
              unfold Mx.sg
              rcases Nat.mod_two_eq_zero_or_one i with h | h
              · rw [show (i : Int) % 2 = 0 by omega, if_pos h]; rfl
              · rw [show (i : Int) % 2 = 1 by omega, if_neg (by omega)]; rfl
            have bx : x.natAbs < 2 ^ 400 := by rw [← hxe]; exact hb 0 i (by omega)
            have bl : ∀ p q, p < m → (Mx.ent (lessR rs i) p q).natAbs < 2 ^ 400 := fun p q hp => by
              by_cases hq : q < m
              · rw [ent_less sq him hp hq]
                exact hb _ _ (by omega)
              · rw [Mx.ent_out hsl hp (by omega)]
                decide +kernel
            have bd := Mx.det_bits (b := 400) (n := m) (M := Mx.ent (lessR rs i)) (by omega) (fun p q hp _ => bl p q hp)
            have bd2 : (Mx.det m (Mx.ent (lessR rs i))).natAbs < 2 ^ 5000 := Nat.lt_of_lt_of_le bd (Nat.pow_le_pow_right (by decide) (by omega))
            have bs : (Mx.sg i * x).natAbs < 2 ^ 400 := by
              rw [Int.natAbs_mul]
              have : (Mx.sg i).natAbs = 1 := by unfold Mx.sg; split <;> rfl
              rw [this, Nat.one_mul]
              exact bx
            refine ⟨_, rfl, _, _, rfl, rfl, (show (2 : Int) ≠ 0 by decide), L, _, _, _, rfl, rfl, SqL.of hL7, hsg, _, rfl, _, _, rfl, rfl, wide_mul (a := 1) (b := 400) (by unfold Mx.sg; split <;> decide) bx (by decide) (by decide) (by decide), ?_⟩
            refine ⟨_, rfl, .ref D, lessR rs i, rfl, hD6'.ext e7, hsl, by omega, bl, fun H8 e8 => ?_⟩
            refine ⟨_, _, rfl, rfl, wide_mul (a := 400) (b := 5000) bs bd2 (by decide) (by decide) (by decide), _, _, rfl, rfl, ?_⟩
            refine ⟨(((e4.trans e5).trans e6).trans e7).trans e8, some (.int (i : Nat)), some (.int x), some (.ref D), v5, ?_⟩
            have hF : Mx.sm (i + 1) F = Mx.sm i F + Mx.sg i * x * Mx.det m (Mx.ent (lessR rs i)) := by
              show Mx.sm i F + Mx.sg i * Mx.ent rs 0 i * Mx.det m (fun p k => Mx.ent rs (p + 1) (Mx.sk i k)) = _
              rw [hxe, Mx.det_congr (n := m) (M := Mx.ent (lessR rs i)) (N := fun p k => Mx.ent rs (p + 1) (Mx.sk i k)) fun p k hp hk => ent_less sq him hp hk]
            rw [hF]
            rfl
        · have hx0 : x = 0 := by
            refine Classical.byContradiction fun z => c ?_
            rw [Bool.not_eq_true', decide_eq_false_iff_not]
            exact fun y => z (V.int.inj y)
          refine ⟨e4, some (.int (i : Nat)), some (.int x), v4, v5, ?_⟩
          have hF : Mx.sm (i + 1) F = Mx.sm i F := by
            show Mx.sm i F + Mx.sg i * Mx.ent rs 0 i * Mx.det m (fun p k => Mx.ent rs (p + 1) (Mx.sk i k)) = _
            rw [hxe, hx0, Int.mul_zero, Int.zero_mul, Int.add_zero]
          rw [hF]
          rfl
      · rintro σ H3 ⟨e3, v2, v3, v4, v5, rfl⟩
        rw [List.length_map, hl0]
        exact ⟨_, rfl, k H3 (e02.trans e3)⟩
end
end K53
namespace K53
open PySem L2 RZ
section
variable {P : Program} {w : World} {K : PySem.W.Frag} {mg : Str → Option Value} {base : Heap}
theorem barRow_law {n : Nat} {q x : Int} {b : BarD} (ok : BarOk (n : Int) b) : (((List.replicate n 0).set b.c.toNat (b.len * q)).set b.a.toNat (x - b.len * q)).set b.b.toNat (0 - x) = barRow n q b x := by
  unfold barRow
  have h1 := ok.a0
  have h2 := ok.b0
  have h3 := ok.c0
  have h4 := ok.ab
  have h5 := ok.ac
  have h6 := ok.bc
  rw [Int.mul_comm b.len q, Int.zero_sub, List.set_comm _ _ (show b.c.toNat ≠ b.a.toNat by omega), List.set_comm _ _ (show b.c.toNat ≠ b.b.toNat by omega)]
def spLTable (K : PySem.W.Frag) : Sp := fun vs H Q _ => ∃ (v : V) (t : Addr) (n : Nat) (hl : List (Int × Int)) (bs : List BarD) (ns : List Int) (q : Int), vs = [v, .ref t, .int q] ∧ Is K H (fcD (n : Int) hl bs) v ∧ SqL K H t (ns.map V.int) ∧ WebOk (n : Int) hl bs ∧ ns.length = bs.length ∧
  ∀ u H', Ext H H' → Is K H' (rowsD (barRows n q bs ns)) u → Q u H'
theorem ok_l_table (T : Tx K mg) : FnOk P w K mg base (L2.CX P w) 2 T.a_l_table T.fd_l_table ["_law_facts_here", "_law_numbers", "_law_fine"] (spLTable K) := by
  refine T.F_l_table.okX sc_l_table (fun vs H Q E h => ?_) (fun cdv A outer s H vs Q E hr h => ?_)
  · obtain ⟨v, t, n, hl, bs, ns, q, rfl, _⟩ := h
    rfl
  · obtain ⟨v, tn, n, hl, bs, ns, q, rfl, hv, htn, ok, hnl, k⟩ := h
    refine ⟨_, (pss_cons (ps_set (i := 3) sc_l_table.nd rfl (Or.inl rfl) (pe_lst pa_nil))
      (pss_cons (ps_for (passes_of rfl) rfl (pi_zipA (by rfl) T.z_zip (pa_cons (pe_ix ix_tup (pv 0) pe_int (fun _ _ => rfl)) (pa_cons (pv 1) pa_nil))) (pg_tup rfl (pgs_cons (pg_name (i := 4) sc_l_table.nd rfl (Or.inl rfl)) (pgs_cons (pg_name (i := 5) sc_l_table.nd rfl (Or.inl rfl)) pgs_nil)))
        (pss_cons (ps_asg (pe_slice sl_tup (pv 4) po_none (po_some pe_int)) (pg_tup (by rfl) (pgs_cons (pg_name (i := 6) sc_l_table.nd rfl (Or.inl rfl)) (pgs_cons (pg_name (i := 7) sc_l_table.nd rfl (Or.inl rfl)) (pgs_cons (pg_name (i := 8) sc_l_table.nd rfl (Or.inl rfl)) (pgs_cons (pg_name (i := 9) sc_l_table.nd rfl (Or.inl rfl)) pgs_nil))))))
        (pss_cons (ps_set (i := 10) sc_l_table.nd rfl (Or.inl rfl) (pe_op op_rep (pe_lst (pa_cons pe_int pa_nil)) (pe_ix ix_tup (pv 0) pe_int (fun _ _ => rfl))))
        (pss_cons (ps_asg (pe_op op_mul (pv 9) (pv 2)) (pg_sub (pv 10) (pv 8) set_list))
        (pss_cons (ps_asg (pe_op op_sub (pv 5) (pe_op op_mul (pv 9) (pv 2))) (pg_sub (pv 10) (pv 6) set_list))
        (pss_cons (ps_asg (pe_op op_sub pe_int (pv 5)) (pg_sub (pv 10) (pv 7) set_list))
        (pss_one (ps_expr (pe_bm PySem.F.plainAttrs_list PySem.F.slot_list_append PySem.F.type_list_append mt_append (pv 3) (pa_cons (pv 10) pa_nil))))))))))
      (pss_one (ps_ret (pv 3))))), ?_⟩
    obtain ⟨t, hd, bl, ws, rfl, ht, hhd, hbl, hbs⟩ := fc_of hv
    have hwl : ws.length = bs.length := by rw [isL_len hbs, List.length_map]
    have h8 := ok.b8
    have hn10 := ok.n10
    rw [show L2.start N_l_table [V.ref t, V.ref tn, V.int q] = [some (.ref t), some (.ref tn), some (.int q), none, none, none, none, none, none, none, none] from rfl]
    refine ⟨by show 0 ≤ sizeLine; decide, fun R hR => ?_⟩
    have eR : Ext H (upd H R (.lst [])) := Ext.upd hR
    have hR0 : (upd H R (.lst [])) R = some (.lst []) := upd_same
    generalize upd H R (.lst []) = HR at eR hR0 ⊢
    refine ⟨_, rfl, t, _, 2, _, rfl, rfl, ht.ext eR, at3c, _, rfl, bl, tn, _, _, rfl, .inl ⟨hbl.ext eR, htn.ext eR, ?_⟩⟩
    refine for_zipL (xs := ws) (ys := ns.map V.int) (by rw [List.length_map, hwl, hnl]) (fun i σ H' => Ext H H' ∧ ∃ (acc : List V) (v4 v5 v6 v7 v8 v9 v10 : Option V), σ = [some (.ref t), some (.ref tn), some (.int q), some (.ref R), v4, v5, v6, v7, v8, v9, v10] ∧ H' R = some (.lst acc) ∧ IsL K (del H' R) (((barRows n q bs ns).take i).map rwI) acc)
      ⟨eR, [], none, none, none, none, none, none, none, rfl, hR0, rfl⟩ (fun i σ H' p => ⟨hbl.ext p.1, htn.ext p.1⟩) ?_ ?_
    · rintro i x y tp σ H1 hx hy ⟨e1, acc, v4, v5, v6, v7, v8, v9, v10, rfl, hR1, hacc⟩ htp
      obtain ⟨b, hbi, ib⟩ := isL_at' hbs hx
      obtain ⟨z, hz, rfl⟩ : ∃ z, ns[i]? = some z ∧ y = V.int z := by
        rw [List.getElem?_map] at hy
        cases e : ns[i]? with
        | none => rw [e] at hy; cases hy
        | some n => rw [e] at hy; exact ⟨n, rfl, (Option.some.inj hy).symm⟩
      have hin : i < bs.length := (List.getElem?_eq_some_iff.mp hbi).1
      have okb := ok.bars b (List.mem_of_getElem? hbi)
      have l0 := okb.l0
      have l1 := okb.l1
      have e2 : Ext H (upd H1 tp (.tup [x, .int z])) := e1.trans (Ext.upd htp)
      have hR2 : (upd H1 tp (.tup [x, .int z])) R = some (.lst acc) := Ext.upd htp _ _ hR1
      have hacc2 : IsL K (del (upd H1 tp (.tup [x, .int z])) R) (((barRows n q bs ns).take i).map rwI) acc := hacc.ext (DE.of (Ext.upd htp))
      refine ⟨tp, _, rfl, SqT.of upd_same, rfl, _, _, rfl, _, _, rfl, rfl, ?_⟩
      simp only [List.set_cons_succ, List.set_cons_zero]
      generalize upd H1 tp (.tup [x, .int z]) = H2 at e2 hR2 hacc2 ⊢
      obtain ⟨ab, rfl, hab0⟩ := bf_of ib
      have hab := hab0.ext e2
      refine ⟨_, rfl, 4, rfl, ab, _, rfl, hab, fun z => absurd z.2 (show ¬ ((4 : Nat) = 6) by decide), fun S hS => ?_⟩
      have hcut : cutV (brV b) none (some (4 : Int)) = [.int b.a, .int b.b, .int b.c, .int b.len] := cut_take (brV b) 4
      rw [hcut]
      have eS : Ext H2 (upd H2 S (.tup [.int b.a, .int b.b, .int b.c, .int b.len])) := Ext.upd hS
      refine ⟨S, _, rfl, SqT.of upd_same, rfl, _, _, rfl, _, _, rfl, _, _, rfl, _, _, rfl, rfl, ?_⟩
      simp only [List.set_cons_succ, List.set_cons_zero]
      generalize upd H2 S (.tup [.int b.a, .int b.b, .int b.c, .int b.len]) = H2' at eS ⊢
      -- row = [0] * rods
      refine ⟨by show 1 ≤ sizeLine; decide, fun z1 hz1 => ?_⟩
      have ht2 := (ht.ext e2).ext eS
      refine ⟨_, rfl, t, _, 0, _, rfl, rfl, ht2.ext (Ext.upd hz1), at3a, z1, (n : Int), _, rfl, rfl, upd_same, by omega, by omega, ?_, fun r hr1 => ?_⟩
      · show 1 * ((n : Int).toNat) ≤ sizeLine
        exact Nat.le_trans (show 1 * ((n : Int).toNat) ≤ 100 by omega) (by decide)
      rw [Int.toNat_natCast, rep_zero]
      have e3 : Ext H2 (upd (upd H2' z1 (.lst [.int 0])) r (.lst ((List.replicate n (0 : Int)).map V.int))) := eS.trans ((Ext.upd hz1).trans (Ext.upd hr1))
      have hr3 : (upd (upd H2' z1 (.lst [.int 0])) r (.lst ((List.replicate n (0 : Int)).map V.int))) r = some (.lst ((List.replicate n (0 : Int)).map V.int)) := upd_same
      have hrH2 : H2 r = none := (eS.trans (Ext.upd hz1)).fresh hr1
      generalize upd (upd H2' z1 (.lst [.int 0])) r (.lst ((List.replicate n (0 : Int)).map V.int)) = H3 at e3 hr3 ⊢
      simp only [List.set_cons_succ, List.set_cons_zero]
      refine ⟨_, rfl, _, rfl, _, _, rfl, rfl, .inl ⟨by omega, by omega⟩, ?_⟩
      refine ⟨_, rfl, _, rfl, r, _, b.c, b.c.toNat, rfl, rfl, hr3, ?_, ?_⟩
      · rw [List.length_map, List.length_replicate]
        exact ixN_of okb.c0 okb.c1
      dsimp only
      rw [← List.map_set]
      have e4 : Ext H2 (upd H3 r (.lst (((List.replicate n (0 : Int)).set b.c.toNat (b.len * q)).map V.int))) := e3.mut hrH2
      have hr4 : (upd H3 r (.lst (((List.replicate n (0 : Int)).set b.c.toNat (b.len * q)).map V.int))) r = some (.lst (((List.replicate n (0 : Int)).set b.c.toNat (b.len * q)).map V.int)) := upd_same
      generalize upd H3 r (.lst (((List.replicate n (0 : Int)).set b.c.toNat (b.len * q)).map V.int)) = H4 at e4 hr4 ⊢
      refine ⟨_, rfl, _, rfl, _, rfl, _, _, rfl, rfl, .inl ⟨by omega, by omega⟩, _, _, rfl, rfl, ?_⟩
      refine ⟨_, rfl, _, rfl, r, _, b.a, b.a.toNat, rfl, rfl, hr4, ?_, ?_⟩
      · rw [List.length_map, List.length_set, List.length_replicate]
        exact ixN_of okb.a0 okb.a1
      dsimp only
      rw [← List.map_set]
      have e5 : Ext H2 (upd H4 r (.lst ((((List.replicate n (0 : Int)).set b.c.toNat (b.len * q)).set b.a.toNat (z - b.len * q)).map V.int))) := e4.mut hrH2
      have hr5 : (upd H4 r (.lst ((((List.replicate n (0 : Int)).set b.c.toNat (b.len * q)).set b.a.toNat (z - b.len * q)).map V.int))) r = some (.lst ((((List.replicate n (0 : Int)).set b.c.toNat (b.len * q)).set b.a.toNat (z - b.len * q)).map V.int)) := upd_same
      generalize upd H4 r (.lst ((((List.replicate n (0 : Int)).set b.c.toNat (b.len * q)).set b.a.toNat (z - b.len * q)).map V.int)) = H5 at e5 hr5 ⊢
      refine ⟨_, rfl, _, _, rfl, rfl, ?_⟩
      refine ⟨_, rfl, _, rfl, r, _, b.b, b.b.toNat, rfl, rfl, hr5, ?_, ?_⟩
      · rw [List.length_map, List.length_set, List.length_set, List.length_replicate]
        exact ixN_of okb.b0 okb.b1
      dsimp only
      rw [← List.map_set, barRow_law okb]
      have e6 : Ext H2 (upd H5 r (.lst ((barRow n q b z).map V.int))) := e5.mut hrH2
      have hr6 : (upd H5 r (.lst ((barRow n q b z).map V.int))) r = some (.lst ((barRow n q b z).map V.int)) := upd_same
      have hR6 := e6 _ _ hR2
      generalize upd H5 r (.lst ((barRow n q b z).map V.int)) = H6 at e6 hr6 hR6 ⊢
      have hrR : r ≠ R := fun e => by rw [e, hR2] at hrH2; cases hrH2
      have hzi : (barRows n q bs ns)[i]? = some (barRow n q b z) := by
        unfold barRows
        have hzz : (bs.zip ns)[i]? = some (b, z) := by rw [List.getElem?_zip_eq_some]; exact ⟨hbi, hz⟩
        rw [List.getElem?_map, hzz]
        rfl
      refine ⟨_, rfl, .inl ⟨rfl, _, SqL.of hR6⟩, _, rfl, R, _, _, rfl, rfl, hR6, ?_, ?_⟩
      · rw [← hacc2.length, List.length_map, List.length_take]
        exact Nat.lt_of_lt_of_le (show min i (barRows n q bs ns).length < 100 by omega) (by decide)
      · refine ⟨(e2.trans e6).mut hR, _, _, _, _, _, _, _, _, rfl, upd_same, ?_⟩
        rw [List.take_add_one, hzi, List.map_append]
        refine isL_sn ((hacc2.ext (DE.of e6)).ext DE.upd) (rwI_is (SqL.of ?_))
        rw [del_ne hrR, upd_ne hrR]
        exact hr6
    · rintro σ H1 ⟨e1, acc, v4, v5, v6, v7, v8, v9, v10, rfl, hR1, hacc⟩
      rw [List.take_of_length_le (by unfold barRows; rw [List.length_map, List.length_zip, hwl]; omega)] at hacc
      exact ⟨_, rfl, k _ _ e1 ⟨R, acc, rfl, SqL.of hR1, hacc.ext del_ext⟩⟩
end
end K53
namespace K53
open PySem L2
section
variable {P : Program} {w : World} {K : PySem.W.Frag} {mg : Str → Option Value} {base : Heap}
def endsI (b : BarD) : List Int := if b.lo = b.hi then [b.lo] else [b.lo, b.hi]
def spEnds (K : PySem.W.Frag) (C : Addr) : Sp := fun vs H Q _ => ∃ (v : V) (b : BarD), vs = [v] ∧ Is K H (brD C b) v ∧ ∀ p, H p = none → Q (.ref p) (upd H p (.lst ((endsI b).map V.int)))
theorem ok_ends (T : Tx K mg) : FnOk P w K mg base (L2.CX P w) 2 T.a_ends T.fd_ends ["bar"] (spEnds K T.C_Bar) := by
  refine T.F_ends.okX sc_ends (fun vs H Q E h => ?_) (fun cdv A outer s H vs Q E hr h => ?_)
  · obtain ⟨v, b, rfl, _⟩ := h
    rfl
  · obtain ⟨v, b, rfl, hb, k⟩ := h
    refine ⟨_, (pss_cons (ps_if (pt_cmpR op_eq (pe_fld (pv 0) rfl) (pe_fld (pv 0) rfl) (nomark _)) (pss_one (ps_ret (pe_lst (pa_cons (pe_fld (pv 0) rfl) pa_nil)))) pss_nil)
      (pss_one (ps_ret (pe_lst (pa_cons (pe_fld (pv 0) rfl) (pa_cons (pe_fld (pv 0) rfl) pa_nil)))))), ?_⟩
    obtain ⟨a, dx, rfl, ha⟩ := br_fields hb
    refine ⟨_, rfl, a, T.C_Bar, dx, _, _, rfl, ha, T.c_Bar, T.nf_Bar_least, rfl, _, rfl, a, T.C_Bar, dx, _, _, rfl, ha, T.c_Bar, T.nf_Bar_greatest, rfl, rfl, _, rfl, ite2 (fun c => ?_) (fun c => ?_)⟩
    · refine ⟨_, rfl, a, T.C_Bar, dx, _, _, rfl, ha, T.c_Bar, T.nf_Bar_least, rfl, by show 1 ≤ sizeLine; decide, fun p hp => ?_⟩
      have z := k p hp
      unfold endsI at z
      rw [if_pos (V.int.inj (of_decide_eq_true c))] at z
      exact z
    · refine ⟨_, rfl, a, T.C_Bar, dx, _, _, rfl, ha, T.c_Bar, T.nf_Bar_least, rfl, _, rfl, a, T.C_Bar, dx, _, _, rfl, ha, T.c_Bar, T.nf_Bar_greatest, rfl, by show 2 ≤ sizeLine; decide, fun p hp => ?_⟩
      have z := k p hp
      unfold endsI at z
      rw [if_neg (fun e => c (decide_eq_true (congrArg V.int e)))] at z
      exact z
def rwD (row : List Int) : Dt := .tup (row.map Dt.int)
theorem sum_le {α : Type} {f : α → Nat} : ∀ (l : List α), (∀ x ∈ l, f x ≤ 2) → (l.map f).sum ≤ 2 * l.length
  | [], _ => Nat.le_refl _
  | x :: l, h => by
    rw [List.map_cons, List.sum_cons, List.length_cons]
    have h1 := h x List.mem_cons_self
    have h2 := sum_le l fun y hy => h y (List.mem_cons_of_mem _ hy)
    omega
theorem rw_of {H : Hp} {v : V} {row : List Int} (h : Is K H (rwD row) v) : ∃ t, v = .ref t ∧ SqT K H t (row.map V.int) := by
  obtain ⟨t, ws, rfl, ht, hl⟩ := h
  rw [of_isL_ints hl] at ht
  exact ⟨t, rfl, ht⟩
theorem rw_is {H : Hp} {t : Addr} {row : List Int} (h : SqT K H t (row.map V.int)) : Is K H (rwD row) (.ref t) := ⟨t, _, rfl, h, isL_ints _⟩
theorem rwL_mut {H : Hp} {h : Addr} {l : List V} {o : HO} (hh : H h = some (.lst l)) : ∀ {rows : List (List Int)} {vs : List V}, IsL K H (rows.map rwD) vs → IsL K (upd H h o) (rows.map rwD) vs
  | [], _, e => e
  | _ :: _, _, ⟨v, r, e, i, il⟩ => by
    obtain ⟨t, rfl, ht⟩ := rw_of i
    exact ⟨_, r, e, rw_is (ht.mut hh), rwL_mut hh il⟩
def nextR (rows : List (List Int)) (es : List Int) : List (List Int) := rows.flatMap fun row => es.map fun e => row ++ [e]
def spreadI (css : List (List Int)) : List (List Int) := css.foldl nextR [[]]
def spSpread (K : PySem.W.Frag) : Sp := fun vs H Q _ => ∃ (c : Addr) (ws : List V) (css : List (List Int)), vs = [.ref c] ∧ SqL K H c ws ∧ IsL K H (css.map rwI) ws ∧ css.length ≤ 8 ∧ (∀ es ∈ css, es.length ≤ 2) ∧
  ∀ p rs H', H p = none → Ext H H' → H' p = some (.lst rs) → IsL K H' ((spreadI css).map rwD) rs → (spreadI css).length ≤ 256 → Q (.ref p) H'
theorem ok_spread (T : Tx K mg) : FnOk P w K mg base (L2.CX P w) 2 T.a_spread T.fd_spread ["choices"] (spSpread K) := by
  refine T.F_spread.okX sc_spread (fun vs H Q E h => ?_) (fun cdv A outer s H vs Q E hr h => ?_)
  · obtain ⟨c, ws, css, rfl, _⟩ := h
    rfl
  · obtain ⟨c, ws, css, rfl, hc0, hcs, hcl, hce, k⟩ := h
    refine ⟨_, (pss_cons (ps_set (i := 1) sc_spread.nd rfl (Or.inl rfl) (pe_lst (pa_cons (pe_tup pa_nil) pa_nil)))
      (pss_cons (ps_for (passes_of rfl) rfl (pi_list (pv 0)) (pg_name (i := 2) sc_spread.nd rfl (Or.inr rfl)) 
      (pss_one (ps_setLc2 (i := 1) (own := [("number", 3), ("row", 4)]) (vs1 := [3]) (g := gName 4) (tt := tYes) (g1 := gName 3) (tt1 := tYes) (wi1 := iList K (tVar 2)) (te := tOp (rCatA K) (tVar 4) (tTup (tCons (tVar 3) tNil))) rfl sc_spread.nd rfl rfl (by first | exact sw_true rfl rfl rfl (by decide +kernel) | rfl) (pi_list (pv 1)) (blkOk_by (own := [("number", 3), ("row", 4)]) (N := N_spread) (sc := defScope s_spread) (by decide +kernel)) (by decide)
        (fun _ _ _ _ _ => (pg_name (i := 4) sc_spread.nd rfl (Or.inl rfl))) (fun _ _ _ _ _ => pts_nil) (fun _ _ _ _ _ => (by exact pi_list (pv 2))) (fun _ _ _ _ _ => (pg_name (i := 3) sc_spread.nd rfl (Or.inl rfl))) (fun _ _ _ _ _ => pts_nil) (fun _ _ _ _ _ => (by exact pe_op op_catA (pv 4) (pe_tup (pa_cons (pv 3) pa_nil)))))))
      (pss_one (ps_ret (pv 1))))), ?_⟩
    have hwl : ws.length = css.length := by rw [isL_len hcs, List.length_map]
    refine ⟨by show 0 ≤ sizeLine; decide, fun t0 ht00 => ⟨by show 1 ≤ sizeLine; decide, fun R0 hR0 => ?_⟩⟩
    have e1 : Ext H (upd (upd H t0 (.tup [])) R0 (.lst [V.ref t0])) := (Ext.upd ht00).trans (Ext.upd hR0)
    have hR1 : (upd (upd H t0 (.tup [])) R0 (.lst [V.ref t0])) R0 = some (.lst [V.ref t0]) := upd_same
    have ht1 : (upd (upd H t0 (.tup [])) R0 (.lst [V.ref t0])) t0 = some (.tup []) := Ext.upd hR0 _ _ upd_same
    have hR0n : H R0 = none := (Ext.upd ht00).fresh hR0
    generalize upd (upd H t0 (.tup [])) R0 (.lst [V.ref t0]) = H1 at e1 hR1 ht1 ⊢
    refine ⟨_, rfl, c, rfl, ⟨_, hc0.ext e1⟩, for_list (K := K) (a := c) (xs := ws) (fun i σ H' => Ext H1 H' ∧ ∃ (R : Addr) (rs : List V) (rows : List (List Int)) (v2 v3 v4 : Option V), σ = [some (.ref c), some (.ref R), v2, v3, v4] ∧ H R = none ∧ H' R = some (.lst rs) ∧ rows = (css.take i).foldl nextR [[]] ∧ IsL K H' (rows.map rwD) rs ∧ rows.length ≤ 2 ^ i ∧ ∀ row ∈ rows, row.length = i)
      ⟨Ext.rfl', R0, _, [[]], none, none, none, rfl, hR0n, hR1, rfl, ⟨_, _, rfl, rw_is (row := []) (SqT.of ht1), rfl⟩, Nat.le_refl _, fun row h => by rw [List.mem_singleton.mp h]; rfl⟩ (fun i σ H' _ p => (hc0.ext e1).ext p.1) ?_ ?_⟩
    · rintro i y σ H2 hi ⟨e2, R, rs, rows, v2, v3, v4, rfl, hRn, hR2, hrows, hil, hcnt, hrl⟩
      have hi8 : i < 8 := by have := (List.getElem?_eq_some_iff.mp hi).1; omega
      obtain ⟨es, hbb, iy⟩ := isL_at' hcs hi
      have hpow : (2 : Nat) ^ i ≤ 128 := Nat.le_trans (Nat.pow_le_pow_right (by decide) (show i ≤ 7 by omega)) (by decide)
      have hel : es.length ≤ 2 := hce es (List.mem_of_getElem? hbb)
      have hrsl : rs.length = rows.length := by rw [isL_len hil, List.length_map]
      obtain ⟨En, rfl, hE0⟩ := rwI_of iy
      have hE2 := hE0.ext (e1.trans e2)
      refine ⟨_, rfl, R, rfl, ⟨_, SqL.of hR2⟩, fun D hD => ?_⟩
      have hDn : H D = none := (e1.trans e2).fresh hD
      refine it_list (xs := rs) (fun i' H' => Ext H2 H' ∧ ∃ acc, H' D = some (.lst acc) ∧ IsL K H' (((rows.take i').flatMap fun row => es.map fun e => row ++ [e]).map rwD) acc) ⟨Ext.upd hD, [], upd_same, rfl⟩ (fun i' H' _ p => (SqL.of hR2).ext p.1) ?_ ?_
      · rintro i' y' H4 hi' ⟨e4, acc, hD4, hacc⟩
        obtain ⟨d1, hd1, iy'⟩ := hil.get hi'
        obtain ⟨row, hrow, rfl⟩ : ∃ row, rows[i']? = some row ∧ d1 = rwD row := by
          rw [List.getElem?_map] at hd1
          cases e : rows[i']? with
          | none => rw [e] at hd1; cases hd1
          | some b => rw [e] at hd1; exact ⟨b, rfl, (Option.some.inj hd1).symm⟩
        have hi2 : i' < rows.length := (List.getElem?_eq_some_iff.mp hrow).1
        obtain ⟨tr, rfl, htr⟩ := rw_of iy'
        refine ⟨rfl, tyes ?_⟩
        refine ⟨_, rfl, En, rfl, ⟨_, hE2.ext e4⟩, it_list (xs := es.map V.int) (fun j H' => Ext H2 H' ∧ ∃ acc, H' D = some (.lst acc) ∧ IsL K H' (((rows.take i').flatMap (fun row => es.map fun e => row ++ [e]) ++ (es.take j).map fun e => row ++ [e]).map rwD) acc) ⟨e4, acc, hD4, by rw [List.take_zero, List.map_nil, List.append_nil]; exact hacc⟩ (fun j H' _ p => hE2.ext p.1) ?_ ?_⟩
        · rintro j z H5 hj ⟨e5, acc5, hD5, hacc5⟩
          obtain ⟨e, he, rfl⟩ : ∃ e, es[j]? = some e ∧ z = V.int e := by
            rw [List.getElem?_map] at hj
            cases h : es[j]? with
            | none => rw [h] at hj; cases hj
            | some n => rw [h] at hj; exact ⟨n, rfl, (Option.some.inj hj).symm⟩
          have hlen5 : acc5.length < 2000 := by
            rw [isL_len hacc5, List.length_map, List.length_append, List.length_map, List.length_take]
            have h1 : ((rows.take i').flatMap fun row => es.map fun e => row ++ [e]).length ≤ 2 * rows.length := by
              rw [List.length_flatMap]
              refine Nat.le_trans (sum_le _ fun x hx => by rw [List.length_map]; exact hel) ?_
              rw [List.length_take]
              omega
            omega
          refine ⟨rfl, tyes ?_⟩
          have fin : ∀ (x : Addr) (H6 : Hp), Ext H5 H6 → SqT K H6 x ((row ++ [e]).map V.int) → ∃ acc, H6 D = some (.lst acc) ∧ acc.length < sizeLine ∧ Ext H2 (upd H6 D (.lst (acc ++ [V.ref x]))) ∧ ∃ acc', (upd H6 D (.lst (acc ++ [V.ref x]))) D = some (.lst acc') ∧ IsL K (upd H6 D (.lst (acc ++ [V.ref x]))) (((rows.take i').flatMap (fun row => es.map fun e => row ++ [e]) ++ (es.take (j + 1)).map fun e => row ++ [e]).map rwD) acc' := fun x H6 e6 hx => by
            have hD6 := e6 _ _ hD5
            refine ⟨acc5, hD6, Nat.lt_of_lt_of_le hlen5 (by decide), (e5.trans e6).mut hD, _, upd_same, ?_⟩
            have hm : (rows.take i').flatMap (fun row => es.map fun e => row ++ [e]) ++ (es.take (j + 1)).map (fun e => row ++ [e]) = ((rows.take i').flatMap (fun row => es.map fun e => row ++ [e]) ++ (es.take j).map fun e => row ++ [e]) ++ [row ++ [e]] := by
              rw [List.take_add_one, he, List.map_append, List.append_assoc]
              rfl
            rw [hm]
            refine rwL_mut (l := acc5) hD6 ?_
            rw [List.map_append]
            exact isL_snoc (hacc5.ext e6) (rw_is hx)
          refine ⟨_, rfl, _, rfl, by show 1 ≤ sizeLine; decide, fun q hq => ?_⟩
          have hrl2 := hrl row (List.mem_of_getElem? hrow)
          refine ⟨tr, q, row.map V.int, [V.int e], rfl, rfl, (htr.ext e5).ext (Ext.upd hq), SqT.of upd_same, by rw [List.length_map, hrl2]; exact Nat.le_trans (show i + 1 ≤ 100 by omega) (by decide), (fun z => ?_), (fun _ z => by cases z), fun _ _ p hp => ?_⟩
          · refine fin q _ (Ext.upd hq) (SqT.of ?_)
            rw [upd_same, List.map_append, z]
            rfl
          · refine fin p _ ((Ext.upd hq).trans (Ext.upd hp)) (SqT.of ?_)
            rw [upd_same, List.map_append]
            rfl
        · rintro H5 ⟨e5, acc5, hD5, hacc5⟩
          refine ⟨e5, acc5, hD5, ?_⟩
          rw [List.length_map, List.take_length] at hacc5
          rw [List.take_add_one, hrow, List.flatMap_append]
          show IsL K H5 ((_ ++ List.flatMap _ [row]).map rwD) acc5
          rw [List.flatMap_cons, List.flatMap_nil, List.append_nil]
          exact hacc5
      · rintro H4 ⟨e4, acc, hD4, hacc⟩
        rw [hrsl, List.take_length] at hacc
        refine ⟨e2.trans e4, D, acc, nextR rows es, _, _, _, rfl, hDn, hD4, ?_, hacc, ?_, fun row hr => ?_⟩
        · rw [List.take_add_one, hbb, List.foldl_append, ← hrows]
          rfl
        · unfold nextR
          rw [List.length_flatMap, Nat.pow_succ]
          refine Nat.le_trans (sum_le _ fun x hx => by rw [List.length_map]; exact hel) ?_
          omega
        · unfold nextR at hr
          obtain ⟨r0, h1, h2⟩ := List.mem_flatMap.mp hr
          obtain ⟨e, _, rfl⟩ := List.mem_map.mp h2
          rw [List.length_append, hrl r0 h1]
          rfl
    · rintro σ H2 ⟨e2, R, rs, rows, v2, v3, v4, rfl, hRn, hR2, hrows, hil, hcnt, hrl⟩
      rw [hwl, List.take_length] at hrows
      rw [hwl] at hcnt
      have hpow : (2 : Nat) ^ css.length ≤ 256 := Nat.le_trans (Nat.pow_le_pow_right (by decide) hcl) (by decide)
      rw [hrows] at hil hcnt
      exact ⟨_, rfl, k R rs _ hRn (e1.trans e2) hR2 hil (Nat.le_trans hcnt hpow)⟩
end
end K53
namespace K53
open PySem L2
section
variable {P : Program} {w : World} {K : PySem.W.Frag} {mg : Str → Option Value} {base : Heap}
theorem len_endsI (b : BarD) : (endsI b).length ≤ 2 := by
  unfold endsI
  split
  · exact Nat.le_succ 1
  · exact Nat.le_refl 2
/-- the rows of hooks at ends of their spans -/
def cornersB (bs : List BarD) : List (List Int) := spreadI (bs.map endsI)
def spCornerRows (K : PySem.W.Frag) (T : Tx K mg) : Sp := fun vs H Q _ => ∃ (v : V) (n : Int) (bs : List BarD) (hl : List (Int × Int)), vs = [v] ∧ Is K H (wbD T.C_Web T.C_Bar n bs hl) v ∧ bs.length ≤ 8 ∧
  ∀ p rs H', H p = none → Ext H H' → H' p = some (.lst rs) → IsL K H' ((cornersB bs).map rwD) rs → (cornersB bs).length ≤ 256 → Q (.ref p) H'
theorem ok_corner_rows (T : Tx K mg) : FnOk P w K mg base (L2.CX P w) 4 T.a_corner_rows T.fd_corner_rows ["web"] (spCornerRows K T) := by
  refine T.F_corner_rows.okX sc_corner_rows (fun vs H Q E h => ?_) (fun cdv A outer s H vs Q E hr h => ?_)
  · obtain ⟨v, n, bs, hl, rfl, _⟩ := h
    rfl
  · obtain ⟨v, n, bs, hl, rfl, hv, hbl, k⟩ := h
    refine ⟨_, (pss_one (ps_ret (pe_call (ok_spread T) (hr.mono (by decide)) rfl T.m_spread T.F_spread.kp T.b_spread .nil passL (pa_cons (pe_lc (own := [("bar", 1)]) (g := gName 1) (tt := tYes) (te := tCall (spEnds K T.C_Bar) [] E0 (tCons (tVar 1) tNil)) (by rfl) sc_corner_rows.nd (pi_tup (pe_fld (pv 0) rfl)) (blkOk_by (own := [("bar", 1)]) (N := N_corner_rows) (sc := defScope s_corner_rows) (by decide +kernel)) (fun _ _ _ _ _ => (pg_name (i := 1) sc_corner_rows.nd rfl (Or.inl rfl))) (fun _ _ _ _ _ => pts_nil) (fun _ _ _ _ _ => (by exact pe_call (ok_ends T) (hr.mono (by decide)) rfl T.m_ends T.F_ends.kp T.b_ends .nil passL (pa_cons (pv 1) pa_nil)))) pa_nil)))), ?_⟩
    obtain ⟨a, dx, t, d, ws, rfl, ha0, ht0, hb0, _⟩ := wb_fields hv
    have hwl : ws.length = bs.length := by rw [isL_len hb0, List.length_map]
    refine ⟨_, rfl, a, T.C_Web, dx, _, _, rfl, ha0, T.c_Web, T.nf_Web_bars, rfl, t, rfl, ⟨_, ht0⟩, fun D hD => ?_⟩
    refine lc_tup (xs := ws) (fun i H' => Ext H H' ∧ ∃ acc, H' D = some (.lst acc) ∧ IsL K (del H' D) (((bs.map endsI).take i).map rwI) acc) ⟨Ext.upd hD, [], upd_same, rfl⟩ (fun i H' _ p => ht0.ext p.1) ?_ ?_
    · rintro i y H1 hi ⟨e1, acc, hD1, hacc⟩
      obtain ⟨b, hbi, ib⟩ : ∃ b, bs[i]? = some b ∧ Is K H (brD T.C_Bar b) y := by
        obtain ⟨d0, hd0, iy⟩ := hb0.get hi
        rw [List.getElem?_map] at hd0
        cases e : bs[i]? with
        | none => rw [e] at hd0; cases hd0
        | some b => rw [e] at hd0; exact ⟨b, rfl, (Option.some.inj hd0).symm ▸ iy⟩
      refine ⟨rfl, tyes ?_⟩
      refine ⟨_, rfl, y, b, rfl, ib.ext e1, fun r hr1 => ?_⟩
      have hD2 := Ext.upd (o := HO.lst ((endsI b).map V.int)) hr1 _ _ hD1
      have hrD : r ≠ D := fun e => by rw [e, hD1] at hr1; cases hr1
      refine ⟨acc, hD2, ?_, (e1.trans (Ext.upd hr1)).mut hD, _, upd_same, ?_⟩
      · rw [← hacc.length, List.length_map, List.length_take]
        have := (List.getElem?_eq_some_iff.mp hi).1
        exact Nat.lt_of_lt_of_le (show min i (bs.map endsI).length < 100 by omega) (by decide)
      · rw [List.take_add_one, List.getElem?_map, hbi, List.map_append]
        refine isL_snoc ((hacc.ext (DE.of (Ext.upd hr1))).ext DE.upd) (rwI_is (SqL.of ?_))
        rw [del_ne hrD, upd_ne hrD, upd_same]
    · rintro H1 ⟨e1, acc, hD1, hacc⟩
      rw [List.take_of_length_le (by rw [List.length_map, hwl]; exact Nat.le_refl _)] at hacc
      exact ⟨D, acc, bs.map endsI, rfl, SqL.of hD1, hacc.ext del_ext, by rw [List.length_map]; exact hbl, fun es he => by
        obtain ⟨b, _, rfl⟩ := List.mem_map.mp he
        exact len_endsI b, fun p rs H' hp e2 hp2 hrs hl2 => k p rs H' (e1.fresh hp) (e1.trans e2) hp2 hrs hl2⟩
end
end K53
namespace K53
open PySem L2 RZ
section
variable {P : Program} {w : World} {K : PySem.W.Frag} {mg : Str → Option Value} {base : Heap}
/-- one of each -/
def Pk : List (List Int) → List Int → Prop
  | [], p => p = []
  | es :: css, p => ∃ e r, p = e :: r ∧ e ∈ es ∧ Pk css r
theorem mem_fold : ∀ {css rows : List (List Int)} {row : List Int}, row ∈ css.foldl nextR rows ↔ ∃ r0 p, r0 ∈ rows ∧ Pk css p ∧ row = r0 ++ p
  | [], rows, row => ⟨fun h => ⟨row, [], h, rfl, (List.append_nil _).symm⟩, fun ⟨r0, p, h, hp, e⟩ => by
    cases (show p = [] from hp)
    rw [List.append_nil] at e
    rw [e]
    exact h⟩
  | es :: css, rows, row => by
    rw [List.foldl_cons, mem_fold (css := css)]
    constructor
    · rintro ⟨r0, p, h, hp, rfl⟩
      obtain ⟨r1, h1, h2⟩ := List.mem_flatMap.mp h
      obtain ⟨e, he, rfl⟩ := List.mem_map.mp h2
      exact ⟨r1, e :: p, h1, ⟨e, p, rfl, he, hp⟩, by rw [List.append_assoc]; rfl⟩
    · rintro ⟨r0, p, h, ⟨e, r, rfl, he, hp⟩, rfl⟩
      exact ⟨r0 ++ [e], r, List.mem_flatMap.mpr ⟨r0, h, List.mem_map.mpr ⟨e, he, rfl⟩⟩, hp, by rw [List.append_assoc]; rfl⟩
theorem mem_spread {css : List (List Int)} {row : List Int} : row ∈ spreadI css ↔ Pk css row := by
  unfold spreadI
  rw [mem_fold]
  constructor
  · rintro ⟨r0, p, h, hp, rfl⟩
    rw [List.mem_singleton.mp h]
    exact hp
  · intro h
    exact ⟨[], row, List.mem_singleton.mpr rfl, h, rfl⟩
theorem Pk.len : ∀ {css : List (List Int)} {p : List Int}, Pk css p → p.length = css.length
  | [], _, h => by cases (show _ = [] from h); rfl
  | es :: css, _, ⟨e, r, h, _, hp⟩ => by subst h; rw [List.length_cons, List.length_cons, Pk.len hp]
theorem Pk.mem : ∀ {css : List (List Int)} {p : List Int}, Pk css p → ∀ (i : Nat) (es : List Int) (x : Int), css[i]? = some es → p[i]? = some x → x ∈ es
  | [], _, _, i, es, x, h, _ => by simp at h
  | es :: css, _, ⟨e, r, hh, he, hp⟩, 0, es', x, h1, h2 => by
    subst hh
    cases (show some es = some es' from h1)
    cases (show some e = some x from h2)
    exact he
  | es :: css, _, ⟨e, r, hh, he, hp⟩, i + 1, es', x, h1, h2 => by
    subst hh
    exact Pk.mem hp i es' x h1 h2
theorem Pk.has : ∀ {css : List (List Int)}, (∀ es ∈ css, es ≠ []) → ∃ p, Pk css p
  | [], _ => ⟨[], rfl⟩
  | es :: css, h => by
    obtain ⟨p, hp⟩ := Pk.has (css := css) fun e he => h e (List.mem_cons_of_mem _ he)
    cases es with
    | nil => exact absurd rfl (h [] List.mem_cons_self)
    | cons e r => exact ⟨e :: p, e, p, rfl, List.mem_cons_self, hp⟩
theorem mem_ends {b : BarD} {x : Int} : x ∈ endsI b ↔ x = b.lo ∨ x = b.hi := by
  unfold endsI
  split
  · rename_i h
    rw [List.mem_singleton, ← h]
    exact ⟨Or.inl, fun z => z.elim id id⟩
  · rw [List.mem_cons, List.mem_singleton]
theorem corner_len {bs : List BarD} {row : List Int} (h : row ∈ cornersB bs) : row.length = bs.length := by
  have := (mem_spread.mp h).len
  rwa [List.length_map] at this
theorem corner_at {bs : List BarD} {row : List Int} (h : row ∈ cornersB bs) {i : Nat} {b : BarD} {x : Int} (hb : bs[i]? = some b) (hx : row[i]? = some x) : x = b.lo ∨ x = b.hi :=
  mem_ends.mp ((mem_spread.mp h).mem i (endsI b) x (by rw [List.getElem?_map, hb]; rfl) hx)
theorem corners_ne (bs : List BarD) : cornersB bs ≠ [] := by
  obtain ⟨p, hp⟩ := Pk.has (css := bs.map endsI) fun es h e => by
    obtain ⟨b, _, rfl⟩ := List.mem_map.mp h
    have : b.lo ∈ endsI b := mem_ends.mpr (Or.inl rfl)
    rw [e] at this
    cases this
  intro e
  have := mem_spread.mpr hp
  unfold cornersB at e
  rw [e] at this
  cases this
theorem corner_small {n : Int} {bs : List BarD} {row : List Int} (hb : ∀ b ∈ bs, BarOk n b) (h : row ∈ cornersB bs) : ∀ x ∈ row, 0 ≤ x ∧ x ≤ 1000000 := by
  intro x hx
  obtain ⟨i, hi, rfl⟩ := List.mem_iff_getElem.mp hx
  have hl := corner_len h
  have hib : i < bs.length := by omega
  have ok := hb bs[i] (List.getElem_mem _)
  have h1 := ok.o0
  have h2 := ok.o1
  have h3 := ok.o2
  have h4 := ok.l1
  rcases corner_at h (List.getElem?_eq_getElem hib) (List.getElem?_eq_getElem hi) with e | e <;> rw [e] <;> constructor <;> omega
def spCornDets (K : PySem.W.Frag) (T : Tx K mg) : Sp := fun vs H Q _ => ∃ (v : V) (n : Nat) (bs : List BarD) (hl : List (Int × Int)), vs = [v] ∧ Is K H (wbD T.C_Web T.C_Bar (n : Int) bs hl) v ∧ n ≤ 10 ∧ bs.length ≤ 8 ∧ (∀ b ∈ bs, BarOk (n : Int) b) ∧ (hangL (n : Int) hl).length = bs.length ∧
  ∀ p H', H p = none → Ext H H' → H' p = some (.lst (((cornersB bs).map fun row => detB n (hangL (n : Int) hl) 1 bs row).map V.int)) → Q (.ref p) H'
theorem ok_corner_determinants (T : Tx K mg) : FnOk P w K mg base (L2.CX P w) 7 T.a_corner_determinants T.fd_corner_determinants ["web"] (spCornDets K T) := by
  refine T.F_corner_determinants.okX sc_corner_determinants (fun vs H Q E h => ?_) (fun cdv A outer s H vs Q E hr h => ?_)
  · obtain ⟨v, n, bs, hl, rfl, _⟩ := h
    rfl
  · obtain ⟨v, n, bs, hl, rfl, hv, hn, h8, hbo, hhl, k⟩ := h
    refine ⟨_, (pss_one (ps_ret (pe_lc (own := [("row", 1)]) (g := gName 1) (tt := tYes) (te := tCall (spDetAt K T) [] E0 (tCons (tVar 0) (tCons (tVar 1) (tCons (tC (.int 1)) tNil)))) (by rfl) sc_corner_determinants.nd (pi_list (pe_call (ok_corner_rows T) (hr.mono (by decide)) rfl T.m_corner_rows T.F_corner_rows.kp T.b_corner_rows .nil passL (pa_cons (pv 0) pa_nil))) (blkOk_by (own := [("row", 1)]) (N := N_corner_determinants) (sc := defScope s_corner_determinants) (by decide +kernel)) (fun _ _ _ _ _ => (pg_name (i := 1) sc_corner_determinants.nd rfl (Or.inl rfl))) (fun _ _ _ _ _ => pts_nil) (fun _ _ _ _ _ => (by exact pe_call (ok_determinant_at T) (hr.mono (by decide)) rfl T.m_determinant_at T.F_determinant_at.kp T.b_determinant_at .nil passL (pa_cons (pv 0) (pa_cons (pv 1) (pa_cons pe_int pa_nil)))))))), ?_⟩
    refine ⟨_, rfl, v, (n : Int), bs, hl, rfl, hv, h8, fun R rs H1 hR e1 hR1 hrs hcl => ?_⟩
    refine ⟨R, rfl, ⟨_, SqL.of hR1⟩, fun D hD => ?_⟩
    have hrl : rs.length = (cornersB bs).length := by rw [isL_len hrs, List.length_map]
    refine lc_list (xs := rs) (fun i H' => Ext H1 H' ∧ H' D = some (.lst ((((cornersB bs).take i).map fun row => detB n (hangL (n : Int) hl) 1 bs row).map V.int))) ⟨Ext.upd hD, upd_same⟩ (fun i H' _ p => SqL.of (p.1 _ _ hR1)) ?_ ?_
    · rintro i y H2 hi ⟨e2, hD2⟩
      obtain ⟨row, hrow, iy⟩ : ∃ row, (cornersB bs)[i]? = some row ∧ Is K H1 (rwD row) y := by
        obtain ⟨d0, hd0, iy⟩ := hrs.get hi
        rw [List.getElem?_map] at hd0
        cases e : (cornersB bs)[i]? with
        | none => rw [e] at hd0; cases hd0
        | some b => rw [e] at hd0; exact ⟨b, rfl, (Option.some.inj hd0).symm ▸ iy⟩
      obtain ⟨t, rfl, ht⟩ := rw_of (iy.ext e2)
      have hm := List.mem_of_getElem? hrow
      have hi2 : i < (cornersB bs).length := (List.getElem?_eq_some_iff.mp hrow).1
      refine ⟨rfl, tyes ?_⟩
      refine ⟨_, rfl, _, rfl, v, t, n, bs, hl, row, 1, rfl, hv.ext (e1.trans e2), ht, corner_len hm, hn, h8, hbo, hhl, fun x hx => ?_, by decide +kernel, fun H3 e3 => ?_⟩
      · have := corner_small hbo hm x hx
        exact Nat.lt_of_le_of_lt (show x.natAbs ≤ 1000000 by omega) (by decide +kernel)
      · have hD3 := e3 _ _ hD2
        refine ⟨_, hD3, ?_, (e2.trans e3).mut hD, ?_⟩
        · rw [List.length_map, List.length_map, List.length_take]
          exact Nat.lt_of_lt_of_le (show min i (cornersB bs).length < 300 by omega) (by decide)
        · rw [upd_same, List.take_add_one, hrow, List.map_append, List.map_append]
          rfl
    · rintro H2 ⟨e2, hD2⟩
      rw [hrl, List.take_length] at hD2
      exact k D H2 (e1.fresh hD) (e1.trans e2) hD2
end
end K53
namespace K53
open PySem L2 RZ
section
variable {P : Program} {w : World} {K : PySem.W.Frag} {mg : Str → Option Value} {base : Heap}
def SignsIn (ns : List Int) : Prop := ((∀ x ∈ ns, 0 ≤ x) ∧ ∃ x ∈ ns, 0 < x) ∨ ((∀ x ∈ ns, x ≤ 0) ∧ ∃ x ∈ ns, x < 0)
def SignsAll (ns : List Int) : Prop := (∀ x ∈ ns, 0 < x) ∨ ∀ x ∈ ns, x < 0
def spSigns (K : PySem.W.Frag) : Sp := fun vs H Q _ => ∃ (l : Addr) (ns : List Int) (i : Bool), vs = [.ref l, .bl i] ∧ SqL K H l (ns.map V.int) ∧ ns ≠ [] ∧ ∀ b : Bool, (b = true ↔ if i = true then SignsIn ns else SignsAll ns) → Q (.bl b) H
theorem ok_signs_hold (T : Tx K mg) : FnOk P w K mg base (L2.CX P w) 1 T.a_signs_hold T.fd_signs_hold ["numbers", "inside"] (spSigns K) := by
  refine T.F_signs_hold.okX sc_signs_hold (fun vs H Q E h => ?_) (fun cdv A outer s H vs Q E hr h => ?_)
  · obtain ⟨l, ns, i, rfl, _⟩ := h
    rfl
  · obtain ⟨l, ns, i, rfl, hl, hne, k⟩ := h
    refine ⟨_, (pss_cons (ps_set (i := 2) sc_signs_hold.nd rfl (Or.inl rfl) (pe_callB (cr_min rfl) (by rfl) T.z_min (by decide +kernel) (pa_cons (pv 0) pa_nil)))
      (pss_cons (ps_set (i := 3) sc_signs_hold.nd rfl (Or.inl rfl) (pe_callB (cr_max rfl) (by rfl) T.z_max (by decide +kernel) (pa_cons (pv 0) pa_nil)))
      (pss_cons (ps_if (pt_truth (pv 1) (by intro _; rfl)) (pss_one (ps_ret (pe_or (pe_and (pe_cmpR op_ge (pv 2) pe_int (nomark _)) (pe_one (pe_cmpR op_gt (pv 3) pe_int (nomark _)))) (pe_one (pe_and (pe_cmpR op_le (pv 3) pe_int (nomark _)) (pe_one (pe_cmpR op_lt (pv 2) pe_int (nomark _)))))))) pss_nil)
      (pss_one (ps_ret (pe_or (pe_cmpR op_gt (pv 2) pe_int (nomark _)) (pe_one (pe_cmpR op_lt (pv 3) pe_int (nomark _))))))))), ?_⟩
    refine ⟨_, rfl, l, ns, rfl, hl, List.length_pos_iff.mpr hne, fun lo hlo hlo2 => ?_⟩
    refine ⟨_, rfl, l, ns, rfl, hl, List.length_pos_iff.mpr hne, fun hi hhi hhi2 => ?_⟩
    have hin : SignsIn ns ↔ (0 ≤ lo ∧ 0 < hi) ∨ (hi ≤ 0 ∧ lo < 0) := by
      constructor
      · rintro (⟨h1, x, hx, h2⟩ | ⟨h1, x, hx, h2⟩)
        · exact .inl ⟨h1 lo hlo, Int.lt_of_lt_of_le h2 (hhi2 x hx)⟩
        · exact .inr ⟨h1 hi hhi, Int.lt_of_le_of_lt (hlo2 x hx) h2⟩
      · rintro (⟨h1, h2⟩ | ⟨h1, h2⟩)
        · exact .inl ⟨fun x hx => Int.le_trans h1 (hlo2 x hx), hi, hhi, h2⟩
        · exact .inr ⟨fun x hx => Int.le_trans (hhi2 x hx) h1, lo, hlo, h2⟩
    have hall : SignsAll ns ↔ 0 < lo ∨ hi < 0 := by
      constructor
      · rintro (h | h)
        · exact .inl (h lo hlo)
        · exact .inr (h hi hhi)
      · rintro (h | h)
        · exact .inl fun x hx => Int.lt_of_lt_of_le h (hlo2 x hx)
        · exact .inr fun x hx => Int.lt_of_le_of_lt (hhi2 x hx) h
    refine ⟨_, rfl, i, rfl, ?_⟩
    cases i with
    | true =>
      refine iteT ?_
      have k2 : ∀ b : Bool, (b = true ↔ SignsIn ns) → Q (.bl b) H := k
      refine ⟨_, rfl, _, _, rfl, rfl, decide (0 ≤ lo), rfl, ite2 (fun c1 => ?_) (fun c1 => ?_)⟩
      · have c1 := of_decide_eq_true c1
        refine ⟨_, rfl, _, _, rfl, rfl, decide (0 < hi), rfl, ite2 (fun c2 => ?_) (fun c2 => ?_)⟩
        · exact k2 true ⟨fun _ => hin.mpr (.inl ⟨c1, of_decide_eq_true c2⟩), fun _ => rfl⟩
        · have c2 : ¬ 0 < hi := fun z => c2 (decide_eq_true z)
          refine ⟨_, rfl, _, _, rfl, rfl, decide (hi ≤ 0), rfl, ite2 (fun c3 => ?_) (fun c3 => ?_)⟩
          · refine ⟨_, rfl, _, _, rfl, rfl, k2 _ ⟨fun z => hin.mpr (.inr ⟨of_decide_eq_true c3, of_decide_eq_true z⟩), fun z => decide_eq_true ((hin.mp z).elim (fun y => absurd y.2 c2) fun y => y.2)⟩⟩
          · exact absurd (decide_eq_true (by omega)) c3
      · have c1 : ¬ 0 ≤ lo := fun z => c1 (decide_eq_true z)
        refine ⟨false, rfl, iteF ?_⟩
        refine ⟨_, rfl, _, _, rfl, rfl, decide (hi ≤ 0), rfl, ite2 (fun c3 => ?_) (fun c3 => ?_)⟩
        · refine ⟨_, rfl, _, _, rfl, rfl, k2 _ ⟨fun z => hin.mpr (.inr ⟨of_decide_eq_true c3, of_decide_eq_true z⟩), fun z => decide_eq_true ((hin.mp z).elim (fun y => absurd y.1 c1) fun y => y.2)⟩⟩
        · exact k2 false ⟨fun z => (by cases z), fun z => ((hin.mp z).elim (fun y => absurd y.1 c1) fun y => absurd (decide_eq_true y.1) c3)⟩
    | false =>
      refine iteF ?_
      have k2 : ∀ b : Bool, (b = true ↔ SignsAll ns) → Q (.bl b) H := k
      refine ⟨_, rfl, _, _, rfl, rfl, decide (0 < lo), rfl, ite2 (fun c1 => ?_) (fun c1 => ?_)⟩
      · exact k2 true ⟨fun _ => hall.mpr (.inl (of_decide_eq_true c1)), fun _ => rfl⟩
      · have c1 : ¬ 0 < lo := fun z => c1 (decide_eq_true z)
        exact ⟨_, rfl, _, _, rfl, rfl, k2 _ ⟨fun z => hall.mpr (.inr (of_decide_eq_true z)), fun z => decide_eq_true ((hall.mp z).elim (fun y => absurd y c1) id)⟩⟩
def firmB (n : Nat) (hs : List Int) (bs : List BarD) : Prop := SignsAll ((cornersB bs).map fun row => detB n hs 1 bs row)
def spFirm (K : PySem.W.Frag) (T : Tx K mg) : Sp := fun vs H Q E => ∃ (v : V) (n : Nat) (bs : List BarD) (hl : List (Int × Int)), vs = [v] ∧ Is K H (wbD T.C_Web T.C_Bar (n : Int) bs hl) v ∧ n ≤ 10 ∧ bs.length ≤ 8 ∧ (∀ b ∈ bs, BarOk (n : Int) b) ∧ (hangL (n : Int) hl).length = bs.length ∧
  (firmB n (hangL (n : Int) hl) bs → ∀ H', Ext H H' → Q .non H') ∧ (¬ firmB n (hangL (n : Int) hl) bs → ∀ H', Ext H H' → E (.ref T.C_Loose) none H')
theorem ok_check_firm (T : Tx K mg) : FnOk P w K mg base (L2.CX P w) 9 T.a_check_firm T.fd_check_firm ["web"] (spFirm K T) := by
  refine T.F_check_firm.okX sc_check_firm (fun vs H Q E h => ?_) (fun cdv A outer s H vs Q E hr h => ?_)
  · obtain ⟨v, n, bs, hl, rfl, _⟩ := h
    rfl
  · obtain ⟨v, n, bs, hl, rfl, hv, hn, h8, hbo, hhl, k1, k2⟩ := h
    refine ⟨_, (pss_one (ps_if (pt_not (pt_val (pe_call (ok_signs_hold T) (hr.mono (by decide)) rfl T.m_signs_hold T.F_signs_hold.kp T.b_signs_hold .nil passL (pa_cons (pe_call (ok_corner_determinants T) (hr.mono (by decide)) rfl T.m_corner_determinants T.F_corner_determinants.kp T.b_corner_determinants .nil passL (pa_cons (pv 0) pa_nil)) (pa_cons pe_bl pa_nil))))) (pss_one (ps_raise0 T.xi_Loose T.m_Loose T.O_Loose rfl (takes_of rfl rfl rfl rfl) rfl)) pss_nil)), ?_⟩
    refine ⟨_, rfl, v, n, bs, hl, rfl, hv, hn, h8, hbo, hhl, fun p H1 hp e1 hp1 => ?_⟩
    refine ⟨p, _, false, rfl, SqL.of hp1, ?_, fun b hb => ?_⟩
    · intro z
      exact corners_ne bs (List.map_eq_nil_iff.mp z)
    · cases b with
      | true => exact ⟨true, rfl, iteF (k1 (hb.mp rfl) _ e1)⟩
      | false => exact ⟨false, rfl, iteT (k2 (fun z => Bool.noConfusion (hb.mpr z)) _ e1)⟩
end
end K53
namespace K53
open PySem L2 RZ
section
variable {P : Program} {w : World} {K : PySem.W.Frag} {mg : Str → Option Value} {base : Heap}
/-- what the held rods' heights give to a row -/
def askRow (hl : List (Int × Int)) (row : List Int) : Int := -(hl.map fun p => row.getD p.1.toNat 0 * p.2).sum
def askB (n : Nat) (q : Int) (hl : List (Int × Int)) (bs : List BarD) (ns : List Int) : List Int := (barRows n q bs ns).map (askRow hl)
end
end K53
namespace K53
open PySem L2 RZ
theorem barRow_small2 {n : Nat} {q : Int} {b : BarD} {x : Int} (hx : x.natAbs < 2 ^ 300) (hq : q.natAbs < 2 ^ 300) (l0 : 1 ≤ b.len) (l1 : b.len ≤ 1000000) : ∀ y ∈ barRow n q b x, y.natAbs < 2 ^ 330 := by
  have hql : (q * b.len).natAbs < 2 ^ 329 := by
    rw [Int.natAbs_mul]
    have h1 : q.natAbs * b.len.natAbs ≤ 2 ^ 300 * 2 ^ 20 := Nat.mul_le_mul (Nat.le_of_lt hq) (Nat.le_trans (show b.len.natAbs ≤ 1000000 by omega) (by decide))
    exact Nat.lt_of_le_of_lt h1 (by decide +kernel)
  have hx2 : x.natAbs < 2 ^ 329 := Nat.lt_trans hx (by decide +kernel)
  have e : (2 : Nat) ^ 330 = 2 ^ 329 + 2 ^ 329 := by decide +kernel
  intro y hy
  unfold barRow at hy
  rw [e]
  generalize (2 : Nat) ^ 329 = B at hql hx2
  rcases mem_set4 hy with hy | rfl
  · rcases mem_set4 hy with hy | rfl
    · rcases mem_set4 hy with hy | rfl
      · rw [(List.mem_replicate.mp hy).2]
        omega
      · omega
    · omega
  · omega
theorem sum_small {B : Nat} : ∀ {l : List Int}, (∀ y ∈ l, y.natAbs ≤ B) → l.sum.natAbs ≤ l.length * B
  | [], _ => by rw [List.sum_nil]; exact Nat.zero_le _
  | y :: l, h => by
    have h1 := h y List.mem_cons_self
    have h2 := sum_small (l := l) fun z hz => h z (List.mem_cons_of_mem _ hz)
    rw [List.sum_cons, List.length_cons, Nat.add_mul, Nat.one_mul]
    omega
theorem askRow_small {hl : List (Int × Int)} {row : List Int} (hr : ∀ y ∈ row, y.natAbs < 2 ^ 330) (hh : ∀ p ∈ hl, -1000000 ≤ p.2 ∧ p.2 ≤ 1000000) (h10 : hl.length ≤ 10) : (askRow hl row).natAbs < 2 ^ 400 := by
  unfold askRow
  rw [Int.natAbs_neg]
  have h := sum_small (l := hl.map fun p => row.getD p.1.toNat 0 * p.2) (B := 2 ^ 330 * 2 ^ 20) fun y hy => by
    obtain ⟨p, hp, rfl⟩ := List.mem_map.mp hy
    rw [Int.natAbs_mul]
    have h1 := hh p hp
    refine Nat.mul_le_mul ?_ (Nat.le_trans (show p.2.natAbs ≤ 1000000 by omega) (by decide))
    by_cases hi : p.1.toNat < row.length
    · rw [Mx.getD_lt 0 hi]
      exact Nat.le_of_lt (hr _ (List.getElem_mem _))
    · rw [Mx.getD_ge 0 (by omega)]
      exact Nat.zero_le _
  rw [List.length_map] at h
  refine Nat.lt_of_le_of_lt h (Nat.lt_of_le_of_lt (Nat.mul_le_mul_right _ h10) (by decide +kernel))
/-- the table, and behind it what is asked of it -/
def augRows (n : Nat) (hs : List Int) (q : Int) (hl : List (Int × Int)) (bs : List BarD) (ns : List Int) : List (List Int) := (barRows n q bs ns).map fun row => tabRow hs row ++ [askRow hl row]
theorem aug_tab {n : Nat} {hs : List Int} {q : Int} {hl : List (Int × Int)} {bs : List BarD} {ns : List Int} {i j : Nat} (hj : j < hs.length) : Mx.ent (augRows n hs q hl bs ns) i j = Mx.ent (tabRows n hs q bs ns) i j := by
  unfold Mx.ent augRows tabRows
  simp only [List.getD_eq_getElem?_getD, List.getElem?_map]
  cases h : (barRows n q bs ns)[i]? with
  | none => rfl
  | some row =>
    show (tabRow hs row ++ [askRow hl row])[j]?.getD 0 = (tabRow hs row)[j]?.getD 0
    rw [List.getElem?_append_left (by unfold tabRow; rw [List.length_map]; exact hj)]
/-- a hanging rod's height times the determinant -/
def cramB (n : Nat) (hs : List Int) (q : Int) (hl : List (Int × Int)) (bs : List BarD) (ns : List Int) (k : Nat) : Int := Mx.det bs.length (Mx.cr (Mx.ent (tabRows n hs q bs ns)) k fun r => (askB n q hl bs ns).getD r 0)
theorem det_aug {n : Nat} {hs : List Int} {q : Int} {hl : List (Int × Int)} {bs : List BarD} {ns : List Int} (hl' : hs.length = bs.length) : Mx.det bs.length (Mx.ent (augRows n hs q hl bs ns)) = detB n hs q bs ns :=
  Mx.det_congr fun i j _ hj => aug_tab (by omega)
/-- a rod's height times the determinant -/
def topB (n : Nat) (hs : List Int) (q : Int) (hl : List (Int × Int)) (bs : List BarD) (ns : List Int) (r : Int) : Int := if r ∈ hl.map (·.1) then lookI hl r * detB n hs q bs ns else cramB n hs q hl bs ns (hs.idxOf r)
def sgnI (d : Int) : Int := if d < 0 then -1 else 1
end K53
namespace K53
open PySem L2 RZ
section
variable {P : Program} {w : World} {K : PySem.W.Frag} {mg : Str → Option Value} {base : Heap}
theorem aug_row {n : Nat} {hs : List Int} {q : Int} {hl : List (Int × Int)} {bs : List BarD} {ns : List Int} (hsm : ∀ x ∈ ns, x.natAbs < 2 ^ 300) (hq : q.natAbs < 2 ^ 300) (hb : ∀ b ∈ bs, BarOk (n : Int) b) (hh : ∀ p ∈ hl, -1000000 ≤ p.2 ∧ p.2 ≤ 1000000) (h10 : hl.length ≤ 10) :
    ∀ row ∈ augRows n hs q hl bs ns, row.length = hs.length + 1 ∧ ∀ y ∈ row, y.natAbs < 2 ^ 400 := by
  intro row hr
  obtain ⟨br, hbr, rfl⟩ := List.mem_map.mp hr
  obtain ⟨⟨b, x⟩, hbx, rfl⟩ := List.mem_map.mp hbr
  obtain ⟨h1, h2⟩ := List.of_mem_zip hbx
  have hs' := barRow_small2 (n := n) (hsm x h2) hq (hb b h1).l0 (hb b h1).l1
  refine ⟨by unfold tabRow; rw [List.length_append, List.length_map]; rfl, fun y hy => ?_⟩
  rcases List.mem_append.mp hy with hy | hy
  · obtain ⟨r, _, rfl⟩ := List.mem_map.mp hy
    by_cases hi : r.toNat < (barRow n q b x).length
    · rw [Mx.getD_lt 0 hi]
      exact Nat.lt_trans (hs' _ (List.getElem_mem _)) (by decide +kernel)
    · rw [Mx.getD_ge 0 (Nat.not_lt.mp hi)]
      decide +kernel
  · rw [List.mem_singleton.mp hy]
    exact askRow_small hs' hh h10
theorem ent_small {B : Nat} (h0 : 0 < B) {rs : List (List Int)} (h : ∀ row ∈ rs, ∀ y ∈ row, y.natAbs < B) (i j : Nat) : (Mx.ent rs i j).natAbs < B := by
  unfold Mx.ent
  by_cases hi : i < rs.length
  · rw [Mx.getD_lt [] hi]
    by_cases hj : j < rs[i].length
    · rw [Mx.getD_lt 0 hj]
      exact h _ (List.getElem_mem _) _ (List.getElem_mem _)
    · rw [Mx.getD_ge 0 (by omega)]
      exact h0
  · rw [Mx.getD_ge [] (by omega), Mx.getD_ge 0 (Nat.zero_le _)]
    exact h0
def fillB (n : Nat) (f : Int → Int) (S : List Int) : List Int := (rangeI n).map fun r => if r ∈ S then f r else 0
theorem len_fill {n : Nat} {f : Int → Int} {S : List Int} : (fillB n f S).length = n := by unfold fillB; rw [List.length_map, len_rangeI]
theorem fill_set {n : Nat} {f : Int → Int} {S : List Int} {r : Int} (h0 : 0 ≤ r) : (fillB n f S).set r.toNat (f r) = fillB n f (S ++ [r]) := by
  unfold fillB
  refine List.ext_getElem (by rw [List.length_set, List.length_map, List.length_map]) fun i h1 h2 => ?_
  rw [List.length_map, len_rangeI] at h2
  have hi : (rangeI n)[i]'(by rw [len_rangeI]; exact h2) = (i : Int) := by unfold rangeI; rw [List.getElem_map, List.getElem_range]
  rw [List.getElem_set, List.getElem_map, List.getElem_map, hi]
  by_cases e : r.toNat = i
  · rw [if_pos e, if_pos (by rw [show (i : Int) = r by omega]; exact List.mem_append_right _ (List.mem_singleton.mpr rfl)), show (i : Int) = r by omega]
  · rw [if_neg e]
    have hm : (i : Int) ∈ S ↔ (i : Int) ∈ S ++ [r] := by
      rw [List.mem_append, List.mem_singleton]
      exact ⟨Or.inl, fun z => z.elim id fun y => absurd (show r.toNat = i by omega) e⟩
    by_cases hs : (i : Int) ∈ S
    · rw [if_pos hs, if_pos (hm.mp hs)]
    · rw [if_neg hs, if_neg fun z => hs (hm.mpr z)]
theorem fill_all {n : Nat} {f : Int → Int} {S : List Int} (h : ∀ r : Int, 0 ≤ r → r < n → r ∈ S) : fillB n f S = (rangeI n).map f := by
  unfold fillB
  refine List.map_congr_left fun r hr => ?_
  have := mem_rangeI.mp hr
  rw [if_pos (h r this.1 this.2)]
theorem nodup_hangL {n : Int} {hl : List (Int × Int)} : (hangL n hl).Nodup := (nodup_rangeI _).sublist List.filter_sublist
theorem not_held {n : Int} {hl : List (Int × Int)} {r : Int} (h : r ∈ hangL n hl) : r ∉ hl.map (·.1) := fun z => by
  have := (List.mem_filter.mp h).2
  unfold offK at this
  rw [List.contains_iff_mem.mpr z] at this
  cases this
theorem held_or {n : Nat} {hl : List (Int × Int)} {r : Int} (h0 : 0 ≤ r) (h1 : r < (n : Int)) : r ∈ hl.map (·.1) ++ hangL (n : Int) hl := by
  rw [List.mem_append]
  by_cases z : r ∈ hl.map (·.1)
  · exact .inl z
  · refine .inr (List.mem_filter.mpr ⟨by rw [Int.toNat_natCast]; exact mem_rangeI.mpr ⟨h0, h1⟩, ?_⟩)
    unfold offK
    cases hc : (hl.map (·.1)).contains r with
    | false => rfl
    | true => exact absurd (List.contains_iff_mem.mp hc) z
theorem idx_at {l : List Int} {i : Nat} {r : Int} (hn : l.Nodup) (h : l[i]? = some r) : l.idxOf r = i := by
  obtain ⟨hi, rfl⟩ := List.getElem?_eq_some_iff.mp h
  exact List.Nodup.idxOf_getElem hn i hi
theorem look_of : ∀ {hl : List (Int × Int)} {r h : Int}, (hl.map (·.1)).Nodup → (r, h) ∈ hl → lookI hl r = h
  | [], _, _, _, m => by cases m
  | p :: hl, r, h, hn, m => by
    rw [List.map_cons, List.nodup_cons] at hn
    unfold lookI
    rcases List.mem_cons.mp m with e | m
    · rw [List.find?_cons, ← e, decide_eq_true rfl]
    · have : p.1 ≠ r := fun e => hn.1 (e ▸ List.mem_map.mpr ⟨_, m, rfl⟩)
      rw [List.find?_cons, decide_eq_false this]
      exact look_of hn.2 m
end
end K53
namespace K53
open PySem L2 RZ
abbrev scTopA : Scope := { kind := ScopeKind.function, names := [(Str.ofString ".0", NameKind.local), (Str.ofString "_law_row", NameKind.cell), (Str.ofString "_law_loose", NameKind.cell)], isGenerator := false, isCoroutine := false }
abbrev scTopB : Scope := { kind := ScopeKind.function, names := [(Str.ofString ".0", NameKind.local), (Str.ofString "_law_row", NameKind.cell), (Str.ofString "sum", NameKind.globalImplicit), (Str.ofString "_law_held", NameKind.cell)], isGenerator := false, isCoroutine := false }
def tBaseE (K : PySem.W.Frag) : TE := tLc (iList K (tVar 7)) (gName 13) tYes (tOp (rIxL K) (tVar 14) (tVar 13)) [13]
def tGivE (K : PySem.W.Frag) : TE := tOp (rI0 fun i j => .int (i - j)) (tC (.int 0)) (tCB (rSum K) (tCons (tLc (iKeys (tVar 4)) (gName 13) tYes (tOp (rI CMulW fun i j => .int (i * j)) (tOp (rIxL K) (tVar 14) (tVar 13)) (tDGet (tVar 4) (tVar 13))) [13]) tNil))
def tColE (K : PySem.W.Frag) : TE := tOp (rCatL K) (tOp (rCatL K) (tSl (rSlL K) (tVar 14) tNoPart (tPart (tVar 12))) (tLst (tCons (tVar 15) tNil))) (tSl (rSlL K) (tVar 14) (tPart (tOp (rI0 fun i j => .int (i + j)) (tVar 12) (tC (.int 1)))) tNoPart)
section
variable {P : Program} {w : World} {K : PySem.W.Frag} {mg : Str → Option Value} {base : Heap}
theorem filter_split (p : Int → Bool) : ∀ l : List Int, (l.filter p).length + (l.filter fun x => !p x).length = l.length
  | [] => rfl
  | x :: r => by
    have := filter_split p r
    rw [List.filter_cons, List.filter_cons, List.length_cons]
    cases h : p x
    · simp only [Bool.not_false, if_true, List.length_cons, Bool.false_eq_true, if_false]
      omega
    · simp only [Bool.not_true, if_true, List.length_cons, Bool.false_eq_true, if_false]
      omega
theorem normH_keys {hl : List (Int × Int)} : (normH hl).map (·.1) = srtI (hl.map (·.1)) := by
  unfold normH
  rw [List.map_map]
  exact List.map_id _
theorem off_norm {hl : List (Int × Int)} {r : Int} : offK (normH hl) r = offK hl r := by
  unfold offK
  rw [normH_keys]
  congr 1
  rw [Bool.eq_iff_iff, List.contains_iff_mem, List.contains_iff_mem]
  exact (srtI_perm _).mem_iff
theorem hang_norm {n : Int} {hl : List (Int × Int)} : hangL n (normH hl) = hangL n hl := by
  unfold hangL
  congr 1
  funext r
  exact off_norm
theorem WebOk.hang {n : Nat} {hl : List (Int × Int)} {bs : List BarD} (h : WebOk (n : Int) hl bs) : (hangL (n : Int) hl).length = bs.length := by
  unfold hangL
  rw [Int.toNat_natCast]
  have h1 : ((rangeI n).filter (offK hl)).length + ((rangeI n).filter fun x => (hl.map (·.1)).contains x).length = (rangeI n).length := by
    have := filter_split (fun x => (hl.map (·.1)).contains x) (rangeI n)
    unfold offK
    omega
  have h2 : ((rangeI n).filter fun x => (hl.map (·.1)).contains x).Perm (hl.map (·.1)) := by
    refine (List.perm_ext_iff_of_nodup ((nodup_rangeI n).filter _) h.nd).mpr fun x => ?_
    rw [List.mem_filter, List.contains_iff_mem]
    refine ⟨fun h => h.2, fun z => ⟨?_, z⟩⟩
    obtain ⟨q, hq, rfl⟩ := List.mem_map.mp z
    exact mem_rangeI.mpr (h.keys q hq).1
  have := h.sum
  rw [h2.length_eq, List.length_map, len_rangeI] at h1
  omega
/-- what the law asks of a rod for a bar -/
theorem SqL.lockD {H : Hp} {l h : Addr} {xs : List V} {kvs : List (Key × V)} {o : HO} (s : SqL K H l xs) (hh : H h = some (.dK kvs)) : SqL K (upd H h o) l xs := by
  rcases s with (r | ⟨o', r⟩) | r
  · exact .inl (.inl (by rw [upd_ne (fun e => by rw [e, hh] at r; cases r)]; exact r))
  · exact .inl (.inr ⟨o', by rw [upd_ne (fun e => by rw [e, hh] at r; cases r)]; exact r⟩)
  · exact .inr r
theorem lock_ext {H H' : Hp} {h : Addr} {o u : HO} (e : Ext (upd H h o) H') (hh : H h = some u) : Ext H (upd H' h u) := fun a x ha => by
  by_cases z : a = h
  · subst z
    rw [hh] at ha
    rw [upd_same]
    exact ha
  · rw [upd_ne z]
    exact e a x (by rw [upd_ne z]; exact ha)
theorem row_of {n : Nat} {q : Int} {bs : List BarD} {ns : List Int} (ok : ∀ b ∈ bs, BarOk (n : Int) b) (hs : ∀ x ∈ ns, x.natAbs < 2 ^ 300) (hq : q.natAbs < 2 ^ 300) : ∀ row ∈ barRows n q bs ns, row.length = n ∧ ∀ y ∈ row, y.natAbs < 2 ^ 400 := by
  intro row hr
  obtain ⟨⟨b, x⟩, hbx, rfl⟩ := List.mem_map.mp hr
  obtain ⟨h1, h2⟩ := List.of_mem_zip hbx
  exact ⟨len_barRow, barRow_small (hs x h2) hq (ok b h1).l0 (ok b h1).l1⟩
/-- one column with what is asked in its place -/
def colRows (rs : List (List Int)) (as : List Int) (k : Nat) : List (List Int) := (rs.zip as).map fun z => z.1.take k ++ [z.2] ++ z.1.drop (k + 1)
theorem len_col {rs : List (List Int)} {as : List Int} {k : Nat} (h : as.length = rs.length) : (colRows rs as k).length = rs.length := by
  unfold colRows
  rw [List.length_map, List.length_zip, h, Nat.min_self]
theorem col_at {rs : List (List Int)} {as : List Int} {k i : Nat} {row : List Int} {x : Int} (h1 : rs[i]? = some row) (h2 : as[i]? = some x) : (colRows rs as k)[i]? = some (row.take k ++ [x] ++ row.drop (k + 1)) := by
  unfold colRows
  have hz : (rs.zip as)[i]? = some (row, x) := by rw [List.getElem?_zip_eq_some]; exact ⟨h1, h2⟩
  rw [List.getElem?_map, hz]
  rfl
theorem sq_col {n k : Nat} {rs : List (List Int)} {as : List Int} (h : Mx.Sq n n rs) (ha : as.length = n) (hk : k < n) : Mx.Sq n n (colRows rs as k) := by
  refine ⟨by rw [len_col (by rw [ha, h.1]), h.1], fun row hr => ?_⟩
  obtain ⟨⟨r, x⟩, hz, rfl⟩ := List.mem_map.mp hr
  have hl := h.2 r (List.of_mem_zip hz).1
  dsimp only
  rw [List.length_append, List.length_append, List.length_take, List.length_drop, hl]
  show min k n + 1 + (n - (k + 1)) = n
  omega
theorem ent_col {n k i j : Nat} {rs : List (List Int)} {as : List Int} (h : Mx.Sq n n rs) (ha : as.length = n) (hk : k < n) (hi : i < n) (hj : j < n) : Mx.ent (colRows rs as k) i j = Mx.cr (Mx.ent rs) k (fun r => as.getD r 0) i j := by
  have h1 : i < rs.length := by rw [h.1]; exact hi
  have h2 : i < as.length := by rw [ha]; exact hi
  have hc := col_at (k := k) (List.getElem?_eq_getElem h1) (List.getElem?_eq_getElem h2)
  have hl := h.2 _ (List.getElem_mem h1)
  unfold Mx.cr Mx.ent
  simp only [List.getD_eq_getElem?_getD, hc, List.getElem?_eq_getElem h1, List.getElem?_eq_getElem h2, Option.getD_some]
  generalize rs[i] = row at hl
  rcases Nat.lt_trichotomy j k with g | g | g
  · rw [if_neg (by omega), List.append_assoc, List.getElem?_append_left (by rw [List.length_take]; omega), List.getElem?_take_of_lt g]
  · rw [if_pos g, List.append_assoc, List.getElem?_append_right (by rw [List.length_take]; omega), List.length_take, show j - min k row.length = 0 by omega]
    rfl
  · rw [if_neg (by omega), List.getElem?_append_right (by rw [List.length_append, List.length_take]; show min k row.length + 1 ≤ j; omega), List.length_append, List.length_take, List.getElem?_drop]
    congr 2
    show k + 1 + (j - (min k row.length + 1)) = j
    omega
def topsL (n : Nat) (q : Int) (hl : List (Int × Int)) (bs : List BarD) (ns : List Int) : List Int := (rangeI n).map fun r => topB n (hangL (n : Int) hl) q hl bs ns r
def spTops (K : PySem.W.Frag) : Sp := fun vs H Q _ => ∃ (v : V) (t : Addr) (n : Nat) (hl : List (Int × Int)) (bs : List BarD) (ns : List Int) (q : Int), vs = [v, .ref t, .int q] ∧ Is K H (fcD (n : Int) hl bs) v ∧ SqL K H t (ns.map V.int) ∧ WebOk (n : Int) hl bs ∧ ns.length = bs.length ∧ (∀ x ∈ ns, x.natAbs < 2 ^ 300) ∧ q.natAbs < 2 ^ 300 ∧
  ∀ (p l : Addr) (H' : Hp), H p = none → H l = none → Ext H H' → H' p = some (.tup [.ref l, .int (detB n (hangL (n : Int) hl) q bs ns)]) → H' l = some (.lst ((topsL n q hl bs ns).map V.int)) → Q (.ref p) H'
theorem ok_l_tops (T : Tx K mg) : FnOk P w K mg base (L2.CX P w) 20 T.a_l_tops T.fd_l_tops ["_law_facts_here", "_law_numbers", "_law_fine"] (spTops K) := by
  refine T.F_l_tops.okX sc_l_tops (fun vs H Q E h => ?_) (fun cdv A outer s H vs Q E hr h => ?_)
  · obtain ⟨v, t, n, hl, bs, ns, q, rfl, _⟩ := h
    rfl
  · obtain ⟨v, tn, n, hl, bs, ns, q, rfl, hv, htn, ok, hnl, hsm, hqs, k⟩ := h
    have b8 := ok.b8
    refine ⟨_, (pss_cons (ps_asg (pv 0) (pg_tup (by rfl) (pgs_cons (pg_name (i := 3) sc_l_tops.nd rfl (Or.inl rfl)) (pgs_cons (pg_name (i := 4) sc_l_tops.nd rfl (Or.inr rfl)) (pgs_cons (pg_name (i := 5) sc_l_tops.nd rfl (Or.inl rfl)) pgs_nil)))))
      (pss_cons (ps_set (i := 6) sc_l_tops.nd rfl (Or.inl rfl) (pe_call (ok_l_table T) (hr.mono (by decide)) rfl T.m_l_table T.F_l_table.kp T.b_l_table .nil passL (pa_cons (pv 0) (pa_cons (pv 1) (pa_cons (pv 2) pa_nil)))))
      (pss_cons (ps_set (i := 7) sc_l_tops.nd rfl (Or.inr rfl) (pe_lc (own := [("_law_rod", 13)]) (g := gName 13) (te := tVar 13) (by rfl) sc_l_tops.nd (pi_range1 rfl T.z_range (pa_cons (pv 3) pa_nil)) (blkOk_by (own := [("_law_rod", 13)]) (N := N_l_tops) (sc := defScope s_l_tops) (by decide +kernel)) (fun _ _ _ _ _ => (pg_name (i := 13) sc_l_tops.nd rfl (Or.inl rfl))) (fun _ _ _ _ _ => (pts_one (pt_cmp (h1 := rfl) (pc_dnotin (ty := tVar 13) (td := tVar 4) (hu_of hr) (pv 13) (pv 4))))) (fun _ _ _ _ _ => (by exact (pv 13)))))
      (pss_cons (ps_setLc (i := 8) (own := [("_law_row", 14)]) (g := gName 14) (tt := tYes) (te := tBaseE K) (by rfl) sc_l_tops.nd rfl rfl (sw_true rfl rfl rfl (by decide +kernel)) (pi_list (pv 6)) (blkOk_by (own := [("_law_row", 14)]) (N := N_l_tops) (sc := defScope s_l_tops) (by decide +kernel)) (fun _ _ _ _ _ => (pg_name (i := 14) sc_l_tops.nd rfl (Or.inr rfl))) (fun _ _ _ _ _ => pts_nil) (fun _ _ _ _ _ => (by exact pe_lc (own := [("_law_rod", 13)]) (g := gName 13) (tt := tYes) (te := tOp (rIxL K) (tVar 14) (tVar 13)) (by rfl) sc_l_tops.nd (pi_list (pv 7)) (blkOk_by (own := [("_law_rod", 13)]) (N := N_l_tops) (sc := scTopA) (by decide +kernel)) (fun _ _ _ _ _ => (pg_name (i := 13) sc_l_tops.nd rfl (Or.inl rfl))) (fun _ _ _ _ _ => pts_nil) (fun _ _ _ _ _ => (by exact pe_ix ix_list (pv 14) (pv 13) (fun _ _ => rfl))))))
      (pss_cons (ps_lock (ps_setLc (i := 9) (own := [("_law_row", 14)]) (g := gName 14) (tt := tYes) (te := tGivE K) (by rfl) sc_l_tops.nd rfl rfl (sw_true rfl rfl rfl (by decide +kernel)) (pi_list (pv 6)) (blkOk_by (own := [("_law_row", 14)]) (N := N_l_tops) (sc := defScope s_l_tops) (by decide +kernel)) (fun _ _ _ _ _ => (pg_name (i := 14) sc_l_tops.nd rfl (Or.inr rfl))) (fun _ _ _ _ _ => pts_nil) (fun _ _ _ _ _ => (by exact pe_op op_sub pe_int (pe_callB (cr_sum rfl) (by rfl) T.z_sum (by decide +kernel) (pa_cons (pe_lc (own := [("_law_rod", 13)]) (g := gName 13) (tt := tYes) (te := tOp (rI CMulW fun i j => .int (i * j)) (tOp (rIxL K) (tVar 14) (tVar 13)) (tDGet (tVar 4) (tVar 13))) (by rfl) sc_l_tops.nd (pi_keys (pv 4)) (blkOk_by (own := [("_law_rod", 13)]) (N := N_l_tops) (sc := scTopB) (by decide +kernel)) (fun _ _ _ _ _ => (pg_name (i := 13) sc_l_tops.nd rfl (Or.inl rfl))) (fun _ _ _ _ _ => pts_nil) (fun _ _ _ _ _ => (by exact pe_op op_mulW (pe_ix ix_list (pv 14) (pv 13) (fun _ _ => rfl)) (pe_dget (hu_of hr) (pv 4) (pv 13) (fun _ _ => rfl))))) pa_nil))))))
      (pss_cons (ps_set (i := 10) sc_l_tops.nd rfl (Or.inr rfl) (pe_call (ok_l_turned T bs.length) (hr.mono (by omega)) rfl T.m_l_turned T.F_l_turned.kp T.b_l_turned .nil passL (pa_cons (pv 8) pa_nil)))
      (pss_cons (ps_setLc (i := 11) (own := [("_law_rod", 13)]) (g := gName 13) (tt := tYes) (te := tOp (rI CMulW fun i j => .int (i * j)) (tDGet2 (tVar 4) (tVar 13) (tC (.int 0))) (tVar 10)) (by rfl) sc_l_tops.nd rfl rfl (sw_true rfl rfl rfl (by decide +kernel)) (pi_range1 rfl T.z_range (pa_cons (pv 3) pa_nil)) (blkOk_by (own := [("_law_rod", 13)]) (N := N_l_tops) (sc := defScope s_l_tops) (by decide +kernel)) (fun _ _ _ _ _ => (pg_name (i := 13) sc_l_tops.nd rfl (Or.inl rfl))) (fun _ _ _ _ _ => pts_nil) (fun _ _ _ _ _ => (by exact pe_op op_mulW (pe_dget2 (hu_of hr) (pv 4) (pv 13) pe_int ⟨rfl, rfl, rfl, rfl⟩) (pv 10))))
      (pss_cons (ps_for (passes_of rfl) rfl (pi_enumQ (by rfl) T.z_enumerate (pa_cons (pv 7) pa_nil)) (pg_tup (by rfl) (pgs_cons (pg_name (i := 12) sc_l_tops.nd rfl (Or.inr rfl)) (pgs_cons (pg_name (i := 13) sc_l_tops.nd rfl (Or.inl rfl)) pgs_nil))) (pss_one (ps_asg (pe_call (ok_l_turned T bs.length) (hr.mono (by omega)) rfl T.m_l_turned T.F_l_turned.kp T.b_l_turned .nil passL (pa_cons (pe_lc (own := [("_law_row", 14), ("_law_one", 15)]) (g := gTwo K 14 15) (tt := tYes) (te := tColE K) (by rfl) sc_l_tops.nd (pi_zipA (by rfl) T.z_zip (pa_cons (pv 8) (pa_cons (pv 9) pa_nil))) (blkOk_by (own := [("_law_row", 14), ("_law_one", 15)]) (N := N_l_tops) (sc := defScope s_l_tops) (by decide +kernel)) (fun _ _ _ _ _ => (by exact pg_tup rfl (pgs_cons (pg_name (i := 14) sc_l_tops.nd rfl (Or.inl rfl)) (pgs_cons (pg_name (i := 15) sc_l_tops.nd rfl (Or.inl rfl)) pgs_nil)))) (fun _ _ _ _ _ => pts_nil) (fun _ _ _ _ _ => (by exact pe_op op_catL (pe_op op_catL (pe_slice sl_list (pv 14) po_none (po_some (pv 12))) (pe_lst (pa_cons (pv 15) pa_nil))) (pe_slice sl_list (pv 14) (po_some (pe_op op_add (pv 12) pe_int)) po_none)))) pa_nil)) (pg_sub (pv 11) (pv 13) set_list))))
      (pss_one (ps_ret (pe_tup (pa_cons (pv 11) (pa_cons (pv 10) pa_nil))))))))))))), ?_⟩
    obtain ⟨t, hd, bl, ws, rfl, ht, hhd, hbl, hbs⟩ := fc_of hv
    have hn10 := ok.n10
    rw [show L2.start N_l_tops [V.ref t, V.ref tn, V.int q] = [some (.ref t), some (.ref tn), some (.int q), none, none, none, none, none, none, none, none, none, none, none, none, none] from rfl]
    refine ⟨_, rfl, t, _, rfl, ht, rfl, _, _, rfl, _, _, rfl, _, _, rfl, rfl, ?_⟩
    simp only [List.set_cons_succ, List.set_cons_zero]
    refine ⟨_, rfl, _, rfl, _, rfl, .ref t, tn, n, hl, bs, ns, q, rfl, hv, htn, ok, hnl, fun u1 H1 e1 i1 => ?_⟩
    simp only [List.set_cons_succ, List.set_cons_zero]
    obtain ⟨l1, xs1, rfl, hl1, hxs1, hxl1⟩ := rows_of i1
    have hhl := ok.hang
    have hbrl : (barRows n q bs ns).length = bs.length := len_barRows hnl
    have hx1 : xs1.length = bs.length := by rw [hxl1, hbrl]
    have hd1 := e1 _ _ hhd
    -- loose
    refine ⟨_, rfl, (n : Int), rfl, by omega, by omega, lc_rangeF (offK hl) (fun i => i) (by omega) (fun i hi H' e R N hR => ?_) (fun lo H2 hlo e2 hlo2 => ?_)⟩
    · refine ⟨rfl, _, rfl, _, rfl, hd, _, rfl, DGet.k (k := Sum.inl (0 + (i : Nat) : Int)) (e _ _ hd1), _, rfl, ?_⟩
      rw [val_some, Int.zero_add]
      by_cases hp : offK hl (i : Nat) = true
      · rw [if_pos hp] at hR
        unfold offK at hp
        rw [if_pos hp]
        exact ⟨_, rfl, hR⟩
      · rw [if_neg hp] at hR
        unfold offK at hp
        rw [if_neg hp]
        exact hR
    have hlo3 : H2 lo = some (.lst ((hangL (n : Int) hl).map V.int)) := by
      rw [hlo2, List.map_id']
      unfold hangL
      rw [Int.toNat_natCast]
    simp only [List.set_cons_succ, List.set_cons_zero]
    clear hlo2
    -- base
    have hl2 := hl1.ext e2
    refine ⟨_, rfl, l1, rfl, ⟨_, hl2⟩, fun D hD => lc_list (xs := xs1) (fun i H' => Ext H2 H' ∧ ∃ acc, H' D = some (.lst acc) ∧ IsL K (del H' D) (((tabRows n (hangL (n : Int) hl) q bs ns).take i).map rwI) acc) ⟨Ext.upd hD, [], upd_same, rfl⟩ (fun i H' _ p => hl2.ext p.1) ?_ ?_⟩
    · rintro i y H3 hi ⟨e3, acc, hD3, hacc⟩
      obtain ⟨row, hrow, iy⟩ := isL_at' hxs1 hi
      obtain ⟨ra, rfl, hra⟩ := rwI_of iy
      have hrl : row.length = n := by
        obtain ⟨z, _, hz⟩ := List.mem_map.mp (List.mem_of_getElem? hrow)
        rw [← hz]
        exact len_barRow
      have hin : i < (barRows n q bs ns).length := (List.getElem?_eq_some_iff.mp hrow).1
      refine ⟨rfl, tyes ?_⟩
      refine ⟨_, rfl, lo, rfl, lc_intsE (fun r => row.getD r.toNat 0) (SqL.of (e3 _ _ hlo3)) (by omega) (fun r hr' H' e R hR => ?_) (fun D2 H4 hD2 e4 hD4 => ?_)⟩
      · have hm := mem_hangL hr'
        refine ⟨rfl, _, rfl, _, rfl, ra, _, _, _, rfl, rfl, ((hra.ext e2).ext e3).ext e, ?_, hR⟩
        have z := atI_int (row := row) (j := r.toNat) (by rw [hrl]; omega)
        rwa [show ((r.toNat : Nat) : Int) = r by omega] at z
      · have hD5 := e4 _ _ hD3
        have hne : D2 ≠ D := fun e => by rw [e, hD3] at hD2; cases hD2
        refine ⟨acc, hD5, ?_, (e3.trans e4).mut hD, _, upd_same, ?_⟩
        · rw [← hacc.length, List.length_map, List.length_take]
          have : (tabRows n (hangL (n : Int) hl) q bs ns).length = (barRows n q bs ns).length := by unfold tabRows; rw [List.length_map]
          exact Nat.lt_of_lt_of_le (show min i (tabRows n (hangL (n : Int) hl) q bs ns).length < 100 by omega) (by decide)
        · have ht : (tabRows n (hangL (n : Int) hl) q bs ns)[i]? = some (tabRow (hangL (n : Int) hl) row) := by
            unfold tabRows
            rw [List.getElem?_map, hrow]
            rfl
          rw [List.take_add_one, ht, List.map_append]
          refine isL_sn ((hacc.ext (DE.of e4)).ext DE.upd) (rwI_is (SqL.of ?_))
          rw [del_ne hne, upd_ne hne]
          exact hD4
    rintro H3 ⟨e3, acc, hD3, hacc⟩
    rw [List.take_of_length_le (by unfold tabRows; rw [List.length_map, hx1, hbrl]; exact Nat.le_refl _)] at hacc
    have iB : Is K H3 (rowsD (tabRows n (hangL (n : Int) hl) q bs ns)) (.ref D) := ⟨D, acc, rfl, SqL.of hD3, hacc.ext del_ext⟩
    simp only [List.set_cons_succ, List.set_cons_zero]
    -- given
    have e03 : Ext H H3 := (e1.trans e2).trans e3
    have hd3 := e03 _ _ hhd
    refine ⟨hd, _, hd3, trivial, fun od => ?_⟩
    have hf0 : (upd H3 hd (.frz od (.dK (hK hl)))) hd = some (.frz od (.dK (hK hl))) := upd_same
    have hl3 : SqL K (upd H3 hd (.frz od (.dK (hK hl)))) l1 xs1 := SqL.lockD (hl2.ext e3) hd3
    have hrow0 := row_of ok.bars hsm hqs
    have hkb : (hK hl).length = hl.length := by unfold hK; rw [List.length_map]
    have hll := ok.l64
    refine ⟨_, rfl, l1, rfl, ⟨_, hl3⟩, fun G hG => lc_list (xs := xs1) (fun i H' => Ext (upd H3 hd (.frz od (.dK (hK hl)))) H' ∧ H' G = some (.lst ((((barRows n q bs ns).take i).map (askRow hl)).map V.int))) ⟨Ext.upd hG, upd_same⟩ (fun i H' _ p => hl3.ext p.1) ?_ ?_⟩
    · rintro i y H4 hi ⟨e4, hG4⟩
      obtain ⟨row, hrow, iy⟩ := isL_at' hxs1 hi
      obtain ⟨ra, rfl, hra⟩ := rwI_of iy
      have hra4 : SqL K H4 ra (row.map V.int) := (SqL.lockD (hra.ext (e2.trans e3)) hd3).ext e4
      obtain ⟨hrl, hrs⟩ := hrow0 row (List.mem_of_getElem? hrow)
      have hin : i < (barRows n q bs ns).length := (List.getElem?_eq_some_iff.mp hrow).1
      have hf4 := e4 _ _ hf0
      refine ⟨rfl, tyes ?_⟩
      refine ⟨_, rfl, hd, od, rfl, .inl ⟨hK hl, hf4, fun D2 hD2 => ?_⟩⟩
      have hDD : G ≠ D2 := ne_of_none hG4 hD2
      refine lc_it walk_keys (fun j H' => Ext H4 H' ∧ H' D2 = some (.lst (((hl.take j).map fun p => row.getD p.1.toNat 0 * p.2).map V.int))) ⟨Ext.upd hD2, upd_same⟩ (fun j H' _ p => p.1 _ _ hf4) ?_ ?_
      · rintro j y H5 H6 hj ⟨e5, hD5⟩ ⟨rfl, kk, vv, hkv, rfl⟩
        rw [hkb] at hj
        obtain ⟨⟨r, h⟩, hr'⟩ : ∃ p, hl[j]? = some p := ⟨_, List.getElem?_eq_getElem hj⟩
        unfold hK at hkv
        rw [List.getElem?_map, hr'] at hkv
        have hkv2 := Option.some.inj hkv
        obtain ⟨rfl, rfl⟩ : Sum.inl r = kk ∧ V.int h = vv := ⟨congrArg Prod.fst hkv2, congrArg Prod.snd hkv2⟩
        have hm := List.mem_of_getElem? hr'
        have hho' := ok.keys _ hm
        dsimp only at hho'
        refine ⟨rfl, tyes ?_⟩
        have z := atI_int (row := row) (j := r.toNat) (by rw [hrl]; omega)
        rw [show ((r.toNat : Nat) : Int) = r by omega] at z
        have hrb : (row.getD r.toNat 0).natAbs < 2 ^ 400 := by
          rw [Mx.getD_lt 0 (by rw [hrl]; omega)]
          exact hrs _ (List.getElem_mem _)
        have hhb : h.natAbs < 2 ^ 20 := Nat.lt_of_le_of_lt (show h.natAbs ≤ 1000000 by omega) (by decide)
        have hval : some (V.int h) = valV (hK hl) (Sum.inl r) := by
          rw [val_hK (List.mem_map.mpr ⟨_, hm, rfl⟩), look_of ok.nd hm]
        refine ⟨_, rfl, _, rfl, ra, _, _, _, rfl, rfl, hra4.ext e5, z, _, rfl, _, rfl, hd, .int h, rfl, .inl ⟨hK hl, Sum.inl r, .inr ⟨od, e5 _ _ hf4⟩, rfl, hval⟩, _, _, rfl, rfl, wide_mul (a := 400) (b := 20) hrb hhb (by decide) (by decide) (by decide), ?_⟩
        refine ⟨_, hD5, ?_, e5.mut hD2, ?_⟩
        · rw [List.length_map, List.length_map, List.length_take]
          exact Nat.lt_of_lt_of_le (show min j hl.length < 100 by omega) (by decide)
        · rw [upd_same, List.take_add_one, hr', List.map_append, List.map_append]
          rfl
      · rintro H5 ⟨e5, hD5⟩
        rw [hkb, List.take_length] at hD5
        have hG5 := e5 _ _ hG4
        refine ⟨D2, _, rfl, SqL.of hD5, _, _, rfl, rfl, _, hG5, ?_, (e4.trans e5).mut hG, ?_⟩
        · rw [List.length_map, List.length_map, List.length_take]
          exact Nat.lt_of_lt_of_le (show min i (barRows n q bs ns).length < 100 by omega) (by decide)
        · rw [upd_same, List.take_add_one, hrow, List.map_append, List.map_append]
          dsimp only
          rw [Int.zero_sub]
          rfl
    rintro H4 ⟨e4, hG4⟩
    rw [List.take_of_length_le (by rw [hx1, hbrl]; exact Nat.le_refl _)] at hG4
    refine ⟨e4 _ _ hf0, ?_⟩
    have hGd : G ≠ hd := fun e => by rw [e, hf0] at hG; cases hG
    have e35 : Ext H3 (upd H4 hd (.dK (hK hl))) := lock_ext e4 hd3
    have hG5 : (upd H4 hd (.dK (hK hl))) G = some (.lst ((askB n q hl bs ns).map V.int)) := by rw [upd_ne hGd]; exact hG4
    generalize upd H4 hd (.dK (hK hl)) = H5 at e35 hG5 ⊢
    simp only [List.set_cons_succ, List.set_cons_zero]
    -- bottom
    have sqT := sq_tab (n := n) (q := q) (hs := hangL (n : Int) hl) hnl hhl
    have hsmT := tab_small (n := n) (hs := hangL (n : Int) hl) hsm hqs (fun b hb => ⟨(ok.bars b hb).l0, (ok.bars b hb).l1⟩)
    refine ⟨_, rfl, .ref D, tabRows n (hangL (n : Int) hl) q bs ns, rfl, iB.ext e35, sqT, b8, fun i j _ => hsmT i j, fun H6 e6 => ?_⟩
    rw [show Mx.det bs.length (Mx.ent (tabRows n (hangL (n : Int) hl) q bs ns)) = detB n (hangL (n : Int) hl) q bs ns from rfl]
    simp only [List.set_cons_succ, List.set_cons_zero]
    have e36 := e35.trans e6
    have hG6 := e6 _ _ hG5
    have bdt : (detB n (hangL (n : Int) hl) q bs ns).natAbs < 2 ^ 5000 := Nat.lt_of_lt_of_le (Mx.det_bits (b := 400) (n := bs.length) (by omega) (fun p q _ _ => hsmT p q)) (Nat.pow_le_pow_right (by decide) (by omega))
    let f : Int → Int := fun r => topB n (hangL (n : Int) hl) q hl bs ns r
    have hd6 := e36 _ _ hd3
    -- tops
    refine ⟨_, rfl, (n : Int), rfl, by omega, by omega, fun tl htl => ?_⟩
    rw [Int.toNat_natCast]
    refine lc_range (lo := 0) (n := n) (fun i H' => Ext H6 H' ∧ H' tl = some (.lst (((rangeI i).map fun r => if r ∈ hl.map (·.1) then f r else 0).map V.int))) ⟨Ext.upd htl, upd_same⟩ ?_ ?_
    · rintro i H7 hi ⟨e7, htl7⟩
      refine ⟨rfl, tyes ?_⟩
      rw [Int.zero_add]
      refine ⟨_, rfl, hd, rfl, .inl ⟨_, .inl (e7 _ _ hd6)⟩, _, rfl, _, DGet.k (k := Sum.inl (i : Int)) (e7 _ _ hd6), ?_⟩
      have hv2 : (valV (hK hl) (Sum.inl (i : Int))).getD (V.int 0) = V.int (if (i : Int) ∈ hl.map (·.1) then lookI hl (i : Int) else 0) := by
        by_cases hm : (i : Int) ∈ hl.map (·.1)
        · rw [val_hK hm, if_pos hm]
          rfl
        · rw [val_none hm, if_neg hm]
          rfl
      rw [hv2]
      have bh : (if (i : Int) ∈ hl.map (·.1) then lookI hl (i : Int) else 0).natAbs < 2 ^ 20 := by
        split
        · rename_i hm
          have := (ok.keys _ (look_mem hm)).2
          dsimp only at this
          exact Nat.lt_of_le_of_lt (show (lookI hl (i : Int)).natAbs ≤ 1000000 by omega) (by decide)
        · decide
      refine ⟨_, rfl, _, _, rfl, rfl, wide_mul (a := 20) (b := 5000) bh bdt (by decide) (by decide) (by decide), ?_⟩
      refine ⟨_, htl7, ?_, e7.mut htl, ?_⟩
      · rw [List.length_map, List.length_map, len_rangeI]
        exact Nat.lt_of_lt_of_le (show i < 100 by omega) (by decide)
      · rw [upd_same, rangeI_succ, List.map_append, List.map_append]
        have : (if (i : Int) ∈ hl.map (·.1) then lookI hl (i : Int) else 0) * detB n (hangL (n : Int) hl) q bs ns = if (i : Int) ∈ hl.map (·.1) then f (i : Int) else 0 := by
          split
          · rename_i hm
            show _ = topB n (hangL (n : Int) hl) q hl bs ns (i : Int)
            unfold topB
            rw [if_pos hm]
          · exact Int.zero_mul _
        dsimp only
        rw [this]
        rfl
    rintro H7 ⟨e7, htl7⟩
    simp only [List.set_cons_succ, List.set_cons_zero]
    have hxsB : IsL K H3 ((tabRows n (hangL (n : Int) hl) q bs ns).map rwI) acc := hacc.ext del_ext
    have htbl : (tabRows n (hangL (n : Int) hl) q bs ns).length = bs.length := sqT.1
    have hakl : (askB n q hl bs ns).length = bs.length := by unfold askB; rw [List.length_map, hbrl]
    have hacl : acc.length = bs.length := by rw [isL_len hxsB, List.length_map, htbl]
    have hlo6 : H6 lo = some (.lst ((hangL (n : Int) hl).map V.int)) := (e3.trans e36) _ _ hlo3
    have hD6 : H6 D = some (.lst acc) := e36 _ _ hD3
    refine ⟨_, rfl, lo, rfl, for_enumQ (xs := (hangL (n : Int) hl).map V.int) (H0 := H6) (.inl (SqL.of hlo6)) (fun i σ H' => Ext H6 H' ∧ H' tl = some (.lst ((fillB n f (hl.map (·.1) ++ (hangL (n : Int) hl).take i)).map V.int)) ∧ ∃ v12 v13 : Option V, σ = [some (.ref t), some (.ref tn), some (.int q), some (.int (n : Int)), some (.ref hd), some (.ref bl), some (.ref l1), some (.ref lo), some (.ref D), some (.ref G), some (.int (detB n (hangL (n : Int) hl) q bs ns)), some (.ref tl), v12, v13, none, none])
      ⟨e7, by rw [htl7, List.take_zero, List.append_nil]; rfl, none, none, rfl⟩ (fun i σ H' _ p => p.1) ?_ ?_⟩
    · rintro i y σ H8 tp hi ⟨e8, htl8, v12, v13, rfl⟩ htp
      obtain ⟨r, hr', rfl⟩ : ∃ r, (hangL (n : Int) hl)[i]? = some r ∧ y = V.int r := by
        rw [List.getElem?_map] at hi
        cases e : (hangL (n : Int) hl)[i]? with
        | none => rw [e] at hi; cases hi
        | some n => rw [e] at hi; exact ⟨n, rfl, (Option.some.inj hi).symm⟩
      have hib : i < bs.length := by rw [← hhl]; exact (List.getElem?_eq_some_iff.mp hr').1
      have hmr := List.mem_of_getElem? hr'
      have hr01 := mem_hangL hmr
      have e9 : Ext H8 (upd H8 tp (.tup [.int (i : Nat), .int r])) := Ext.upd htp
      refine ⟨tp, _, rfl, SqT.of upd_same, rfl, _, _, rfl, _, _, rfl, rfl, ?_⟩
      simp only [List.set_cons_succ, List.set_cons_zero]
      generalize upd H8 tp (.tup [.int (i : Nat), .int r]) = H9 at e9 ⊢
      have htl9 := e9 _ _ htl8
      have e69 := e8.trans e9
      refine ⟨_, rfl, _, rfl, D, G, acc, (askB n q hl bs ns).map V.int, rfl, .inl ⟨SqL.of (e69 _ _ hD6), SqL.of (e69 _ _ hG6), fun C hC => ?_⟩⟩
      refine lc_zipL (xs := acc) (ys := (askB n q hl bs ns).map V.int) (by rw [List.length_map, hacl, hakl]) (fun j H' => Ext H9 H' ∧ ∃ ac2, H' C = some (.lst ac2) ∧ IsL K (del H' C) (((colRows (tabRows n (hangL (n : Int) hl) q bs ns) (askB n q hl bs ns) i).take j).map rwI) ac2) ⟨Ext.upd hC, [], upd_same, rfl⟩ (fun j H' p => ⟨SqL.of (p.1 _ _ (e69 _ _ hD6)), SqL.of (p.1 _ _ (e69 _ _ hG6))⟩) ?_ ?_
      · rintro j x y tp2 H10 hx hy ⟨e10, ac2, hC10, hac2⟩ htp2
        obtain ⟨row, hrow, iy⟩ := isL_at' hxsB hx
        obtain ⟨ra, rfl, hra⟩ := rwI_of iy
        obtain ⟨z, hz, rfl⟩ : ∃ z, (askB n q hl bs ns)[j]? = some z ∧ y = V.int z := by
          rw [List.getElem?_map] at hy
          cases e : (askB n q hl bs ns)[j]? with
          | none => rw [e] at hy; cases hy
          | some n => rw [e] at hy; exact ⟨n, rfl, (Option.some.inj hy).symm⟩
        have hrl : row.length = bs.length := sqT.2 row (List.mem_of_getElem? hrow)
        have hjb : j < bs.length := by rw [← htbl]; exact (List.getElem?_eq_some_iff.mp hrow).1
        have e11 : Ext H10 (upd H10 tp2 (.tup [.ref ra, .int z])) := Ext.upd htp2
        rw [show wipe [some (V.ref t), some (V.ref tn), some (V.int q), some (V.int (n : Int)), some (V.ref hd), some (V.ref bl), some (V.ref l1), some (V.ref lo), some (V.ref D), some (V.ref G), some (V.int (detB n (hangL (n : Int) hl) q bs ns)), some (V.ref tl), some (V.int (i : Nat)), some (V.int r), none, none] (List.map (fun x => x.2) [(("_law_row" : Str), 14), (("_law_one" : Str), 15)]) = [some (V.ref t), some (V.ref tn), some (V.int q), some (V.int (n : Int)), some (V.ref hd), some (V.ref bl), some (V.ref l1), some (V.ref lo), some (V.ref D), some (V.ref G), some (V.int (detB n (hangL (n : Int) hl) q bs ns)), some (V.ref tl), some (V.int (i : Nat)), some (V.int r), none, none] from rfl]
        refine ⟨tp2, _, rfl, SqT.of upd_same, rfl, _, _, rfl, _, _, rfl, rfl, ?_⟩
        simp only [List.set_cons_succ, List.set_cons_zero]
        have hra11 := (((hra.ext e36).ext e69).ext e10).ext e11
        have hC11 := e11 _ _ hC10
        have hac11 := hac2.ext (DE.of e11)
        generalize upd H10 tp2 (.tup [.ref ra, .int z]) = H11 at e11 hra11 hC11 hac11 ⊢
        refine ⟨rfl, tyes ?_⟩
        have hC10' : H10 C = some (.lst ac2) := hC10
        -- row[:k] + [one]
        refine ⟨_, rfl, _, rfl, (i : Int), rfl, ra, _, rfl, hra11, fun A1 hA1 => ?_⟩
        have f1 : Ext H11 (upd H11 A1 (.lst (cutV (row.map V.int) none (some (i : Int))))) := Ext.upd hA1
        have g1 : (upd H11 A1 (.lst (cutV (row.map V.int) none (some (i : Int))))) A1 = some (.lst ((row.take i).map V.int)) := by rw [upd_same, cut_take, ← List.map_take]
        generalize upd H11 A1 (.lst (cutV (row.map V.int) none (some (i : Int)))) = H12 at f1 g1 ⊢
        refine ⟨_, rfl, by show 1 ≤ sizeLine; decide, fun A2 hA2 => ?_⟩
        refine ⟨A1, A2, _, _, rfl, rfl, SqL.of (Ext.upd hA2 _ _ g1), SqL.of upd_same, ?_, fun A3 hA3 => ?_⟩
        · rw [List.length_map, List.length_take]
          exact Nat.le_trans (show min i row.length + 1 ≤ 100 by omega) (by decide)
        have f2 : Ext H12 (upd (upd H12 A2 (.lst [.int z])) A3 (.lst ((row.take i).map V.int ++ [.int z]))) := (Ext.upd hA2).trans (Ext.upd hA3)
        have g2 : (upd (upd H12 A2 (.lst [.int z])) A3 (.lst ((row.take i).map V.int ++ [.int z]))) A3 = some (.lst ((row.take i ++ [z]).map V.int)) := by
          rw [upd_same, List.map_append]
          rfl
        generalize upd (upd H12 A2 (.lst [.int z])) A3 (.lst ((row.take i).map V.int ++ [.int z])) = H13 at f2 g2 ⊢
        -- row[k + 1:]
        refine ⟨_, rfl, _, rfl, _, _, rfl, rfl, ((i + 1 : Nat) : Int), rfl, ra, _, rfl, (hra11.ext f1).ext f2, fun A4 hA4 => ?_⟩
        have f3 : Ext H13 (upd H13 A4 (.lst (cutV (row.map V.int) (some ((i + 1 : Nat) : Int)) none))) := Ext.upd hA4
        have g3 : (upd H13 A4 (.lst (cutV (row.map V.int) (some ((i + 1 : Nat) : Int)) none))) A4 = some (.lst ((row.drop (i + 1)).map V.int)) := by rw [upd_same, cut_drop, ← List.map_drop]
        have g2' := f3 _ _ g2
        generalize upd H13 A4 (.lst (cutV (row.map V.int) (some ((i + 1 : Nat) : Int)) none)) = H14 at f3 g3 g2' ⊢
        refine ⟨A3, A4, _, _, rfl, rfl, SqL.of g2', SqL.of g3, ?_, fun A5 hA5 => ?_⟩
        · rw [List.length_map, List.length_map, List.length_append, List.length_take, List.length_drop]
          exact Nat.le_trans (show min i row.length + 1 + (row.length - (i + 1)) ≤ 100 by omega) (by decide)
        have f4 : Ext H11 (upd H14 A5 (.lst ((row.take i ++ [z]).map V.int ++ (row.drop (i + 1)).map V.int))) := ((f1.trans f2).trans f3).trans (Ext.upd hA5)
        have g4 : (upd H14 A5 (.lst ((row.take i ++ [z]).map V.int ++ (row.drop (i + 1)).map V.int))) A5 = some (.lst ((row.take i ++ [z] ++ row.drop (i + 1)).map V.int)) := by rw [upd_same, ← List.map_append]
        have hA5n : H11 A5 = none := ((f1.trans f2).trans f3).fresh hA5
        generalize upd H14 A5 (.lst ((row.take i ++ [z]).map V.int ++ (row.drop (i + 1)).map V.int)) = H15 at f4 g4 ⊢
        have hC15 := f4 _ _ hC11
        have hAC : A5 ≠ C := fun e => by rw [e, hC11] at hA5n; cases hA5n
        refine ⟨ac2, hC15, ?_, ((e10.trans e11).trans f4).mut hC, _, upd_same, ?_⟩
        · rw [← hac2.length, List.length_map, List.length_take]
          have := len_col (k := i) (rs := tabRows n (hangL (n : Int) hl) q bs ns) (as := askB n q hl bs ns) (by rw [hakl, htbl])
          exact Nat.lt_of_lt_of_le (show min j (colRows (tabRows n (hangL (n : Int) hl) q bs ns) (askB n q hl bs ns) i).length < 100 by omega) (by decide)
        · rw [List.take_add_one, col_at hrow hz, List.map_append]
          refine isL_sn ((hac11.ext (DE.of f4)).ext DE.upd) (rwI_is (SqL.of ?_))
          rw [del_ne hAC, upd_ne hAC]
          exact g4
      · rintro H10 ⟨e10, ac2, hC10, hac2⟩
        have hcl := len_col (k := i) (rs := tabRows n (hangL (n : Int) hl) q bs ns) (as := askB n q hl bs ns) (by rw [hakl, htbl])
        rw [List.take_of_length_le (by rw [hcl, htbl, hacl]; exact Nat.le_refl _)] at hac2
        have sqC := sq_col (k := i) sqT hakl hib
        have hask : ∀ j, ((askB n q hl bs ns).getD j 0).natAbs < 2 ^ 400 := fun j => by
          by_cases hj : j < (askB n q hl bs ns).length
          · rw [Mx.getD_lt 0 hj]
            obtain ⟨row, hrow, e⟩ := List.mem_map.mp (List.getElem_mem hj)
            rw [← e]
            obtain ⟨⟨b, x⟩, hbx, rfl⟩ := List.mem_map.mp hrow
            obtain ⟨h1, h2⟩ := List.of_mem_zip hbx
            exact askRow_small (barRow_small2 (hsm x h2) hqs (ok.bars b h1).l0 (ok.bars b h1).l1) (fun p hp => (ok.keys p hp).2) (by have := ok.sum; have := ok.b1; omega)
          · rw [Mx.getD_ge 0 (by omega)]
            decide +kernel
        have hcs : ∀ p q', p < bs.length → (Mx.ent (colRows (tabRows n (hangL (n : Int) hl) q bs ns) (askB n q hl bs ns) i) p q').natAbs < 2 ^ 400 := fun p q' hp => by
          by_cases hq' : q' < bs.length
          · rw [ent_col sqT hakl hib hp hq']
            unfold Mx.cr
            split
            · exact hask p
            · exact hsmT p q'
          · rw [Mx.ent_out sqC hp (by omega)]
            decide +kernel
        refine ⟨.ref C, colRows (tabRows n (hangL (n : Int) hl) q bs ns) (askB n q hl bs ns) i, rfl, ⟨C, ac2, rfl, SqL.of hC10, hac2.ext del_ext⟩, sqC, b8, hcs, fun H11 e11 => ?_⟩
        have hdet : Mx.det bs.length (Mx.ent (colRows (tabRows n (hangL (n : Int) hl) q bs ns) (askB n q hl bs ns) i)) = f r := by
          show _ = topB n (hangL (n : Int) hl) q hl bs ns r
          unfold topB
          rw [if_neg (not_held hmr), idx_at nodup_hangL hr']
          exact Mx.det_congr fun p q' hp hq' => ent_col sqT hakl hib hp hq'
        rw [hdet]
        refine ⟨_, rfl, _, rfl, tl, _, r, r.toNat, rfl, rfl, (e10.trans e11) _ _ htl9, ?_, ?_⟩
        · rw [List.length_map, len_fill]
          exact ixN_of hr01.1 hr01.2
        dsimp only
        rw [← List.map_set, fill_set hr01.1]
        refine ⟨((e69.trans e10).trans e11).mut htl, ?_, _, _, rfl⟩
        rw [upd_same, List.take_add_one, hr', ← List.append_assoc]
        rfl
    · rintro σ H8 ⟨e8, htl8, v12, v13, rfl⟩
      rw [List.length_map, List.take_length, fill_all fun r h0 h1 => held_or h0 h1] at htl8
      refine ⟨_, rfl, _, rfl, by show 2 ≤ sizeLine; decide, fun p hp => ?_⟩
      have hlp : tl ≠ p := ne_of_none htl8 hp
      have e0 : Ext H H8 := (e03.trans e36).trans e8
      refine k p tl _ (e0.fresh hp) ((e03.trans e36).fresh htl) (e0.trans (Ext.upd hp)) upd_same ?_
      rw [upd_ne hlp]
      exact htl8
end
end K53
namespace K53
open PySem L2 RZ
section
variable {P : Program} {w : World} {K : PySem.W.Frag} {mg : Str → Option Value} {base : Heap}
theorem isL_app {H : Hp} : ∀ {ds es : List Dt} {vs us : List V}, IsL K H ds vs → IsL K H es us → IsL K H (ds ++ es) (vs ++ us)
  | [], _, _, _, h, i => by
    cases h
    exact i
  | _ :: _, _, _, _, ⟨v, r, e, a, h⟩, i => by
    subst e
    exact ⟨v, _, rfl, a, isL_app h i⟩
theorem ends_sorted {b : BarD} {ys : List Int} (hb : b.lo ≤ b.hi) (hp : ys.Pairwise (· < ·)) (hm : ∀ k : Int, k ∈ ys ↔ decide (k ∈ [b.lo, b.hi]) = true) : ys = endsI b := by
  have he : (endsI b).Pairwise (· < ·) := by
    unfold endsI
    split
    · exact List.pairwise_singleton _ _
    · rename_i h
      exact List.pairwise_pair.mpr (by omega)
  have hn : ∀ {l : List Int}, l.Pairwise (· < ·) → l.Nodup := fun h => List.nodup_iff_pairwise_ne.mpr (h.imp fun z => by omega)
  refine List.Perm.eq_of_pairwise (le := (· < ·)) (fun a c _ _ h1 h2 => by omega) hp he ((List.perm_ext_iff_of_nodup (hn hp) (hn he)).mpr fun k => ?_)
  rw [hm k, decide_eq_true_eq, mem_ends, List.mem_cons, List.mem_singleton]
def spLCorners (K : PySem.W.Frag) : Sp := fun vs H Q _ => ∃ (v : V) (n : Nat) (hl : List (Int × Int)) (bs : List BarD), vs = [v] ∧ Is K H (fcD (n : Int) hl bs) v ∧ WebOk (n : Int) hl bs ∧
  ∀ p rs H', H p = none → Ext H H' → H' p = some (.lst rs) → IsL K H' ((cornersB bs).map rwI) rs → (cornersB bs).length ≤ 256 → Q (.ref p) H'
theorem ok_l_corners (T : Tx K mg) : FnOk P w K mg base (L2.CX P w) 2 T.a_l_corners T.fd_l_corners ["_law_facts_here"] (spLCorners K) := by
  refine T.F_l_corners.okX sc_l_corners (fun vs H Q E h => ?_) (fun cdv A outer s H vs Q E hr h => ?_)
  · obtain ⟨v, n, hl, bs, rfl, _⟩ := h
    rfl
  · obtain ⟨v, n, hl, bs, rfl, hv, ok, k⟩ := h
    refine ⟨_, (pss_cons (ps_set (i := 1) sc_l_corners.nd rfl (Or.inl rfl) (pe_lst (pa_cons (pe_lst pa_nil) pa_nil)))
      (pss_cons (ps_for (passes_of rfl) rfl (pi_list (pe_ix ix_tup (pv 0) pe_int (fun _ _ => rfl))) (pg_name (i := 2) sc_l_corners.nd rfl (Or.inl rfl))
        (pss_cons (ps_set (i := 3) sc_l_corners.nd rfl (Or.inl rfl) (pe_lst pa_nil))
        (pss_cons (ps_for (passes_of rfl) rfl (pi_list (pv 1)) (pg_name (i := 4) sc_l_corners.nd rfl (Or.inr rfl))
          (pss_one (ps_expr (pe_bm PySem.F.plainAttrs_list PySem.F.slot_list_extend PySem.F.type_list_extend mt_extend (pv 3) (pa_cons (pe_lc (own := [("_law_place", 5)]) (g := gName 5) (tt := tYes) (te := tOp (rCatL K) (tVar 4) (tLst (tCons (tVar 5) tNil))) (by rfl) sc_l_corners.nd (pi_list (pe_callB (cr_sortedSet rfl) (by rfl) T.z_sorted (by decide +kernel) (pa_cons (pe_callTy (call_setTI rfl) (by rfl) T.z_set (by decide +kernel) (pa_cons (pe_slice sl_tup (pv 2) (po_some pe_int) po_none) pa_nil)) pa_nil))) (blkOk_by (own := [("_law_place", 5)]) (N := N_l_corners) (sc := defScope s_l_corners) (by decide +kernel)) (fun _ _ _ _ _ => (pg_name (i := 5) sc_l_corners.nd rfl (Or.inl rfl))) (fun _ _ _ _ _ => pts_nil) (fun _ _ _ _ _ => (by exact pe_op op_catL (pv 4) (pe_lst (pa_cons (pv 5) pa_nil))))) pa_nil)))))
        (pss_one (ps_set (i := 1) sc_l_corners.nd rfl (Or.inl rfl) (pv 3))))))
      (pss_one (ps_ret (pv 1))))), ?_⟩
    obtain ⟨t, hd, bl, ws, rfl, ht, hhd, hbl, hbs⟩ := fc_of hv
    have h8 := ok.b8
    have hwl : ws.length = bs.length := by rw [isL_len hbs, List.length_map]
    refine ⟨by show 0 ≤ sizeLine; decide, fun t0 ht00 => ⟨by show 1 ≤ sizeLine; decide, fun F0 hF0 => ?_⟩⟩
    have e1 : Ext H (upd (upd H t0 (.lst [])) F0 (.lst [V.ref t0])) := (Ext.upd ht00).trans (Ext.upd hF0)
    have hF1 : (upd (upd H t0 (.lst [])) F0 (.lst [V.ref t0])) F0 = some (.lst [V.ref t0]) := upd_same
    have ht1 : (upd (upd H t0 (.lst [])) F0 (.lst [V.ref t0])) t0 = some (.lst []) := Ext.upd hF0 _ _ upd_same
    have hF0n : H F0 = none := (Ext.upd ht00).fresh hF0
    generalize upd (upd H t0 (.lst [])) F0 (.lst [V.ref t0]) = H1 at e1 hF1 ht1 ⊢
    refine ⟨_, rfl, t, _, 2, _, rfl, rfl, ht.ext e1, at3c, bl, rfl, ⟨_, hbl.ext e1⟩, for_list (K := K) (a := bl) (xs := ws) (fun i σ H' => Ext H1 H' ∧ ∃ (F : Addr) (rs : List V) (rows : List (List Int)) (v2 v3 v4 v5 : Option V), σ = [some (.ref t), some (.ref F), v2, v3, v4, v5] ∧ H F = none ∧ H' F = some (.lst rs) ∧ rows = ((bs.map endsI).take i).foldl nextR [[]] ∧ IsL K H' (rows.map rwI) rs ∧ rows.length ≤ 2 ^ i ∧ ∀ row ∈ rows, row.length = i)
      ⟨Ext.rfl', F0, _, [[]], none, none, none, none, rfl, hF0n, hF1, rfl, ⟨_, _, rfl, rwI_is (row := []) (SqL.of ht1), rfl⟩, Nat.le_refl _, fun row h => by rw [List.mem_singleton.mp h]; rfl⟩ (fun i σ H' _ p => (hbl.ext e1).ext p.1) ?_ ?_⟩
    · rintro i y σ H2 hi ⟨e2, F, rs, rows, v2, v3, v4, v5, rfl, hFn, hF2, hrows, hil, hcnt, hrl⟩
      have hi8 : i < 8 := by have := (List.getElem?_eq_some_iff.mp hi).1; omega
      obtain ⟨b, hbi, ib⟩ := isL_at' hbs hi
      obtain ⟨tb, rfl, htb⟩ := bf_of (ib.ext (e1.trans e2))
      have okb := ok.bars b (List.mem_of_getElem? hbi)
      have hpow : (2 : Nat) ^ i ≤ 128 := Nat.le_trans (Nat.pow_le_pow_right (by decide) (show i ≤ 7 by omega)) (by decide)
      have hel := len_endsI b
      have hrsl : rs.length = rows.length := by rw [isL_len hil, List.length_map]
      refine ⟨by show 0 ≤ sizeLine; decide, fun L hL => ?_⟩
      have hLn : H L = none := (e1.trans e2).fresh hL
      have hFL : F ≠ L := ne_of_none hF2 hL
      refine ⟨_, rfl, F, rfl, ⟨_, SqL.of (Ext.upd hL _ _ hF2)⟩, for_list (K := K) (a := F) (xs := rs) (fun j σ H' => Ext H2 H' ∧ ∃ (v4 v5 : Option V) (acc : List V), σ = [some (.ref t), some (.ref F), some (.ref tb), some (.ref L), v4, v5] ∧ H' L = some (.lst acc) ∧ IsL K (del H' L) (((rows.take j).flatMap fun row => (endsI b).map fun e => row ++ [e]).map rwI) acc)
        ⟨Ext.upd hL, v4, v5, [], rfl, upd_same, rfl⟩ (fun j σ H' _ p => SqL.of (p.1 _ _ hF2)) ?_ ?_⟩
      · rintro j y σ H4 hj ⟨e4, v4, v5, acc, rfl, hL4, hacc⟩
        obtain ⟨row, hrow, iy⟩ := isL_at' hil hj
        obtain ⟨ra, rfl, hra⟩ := rwI_of (iy.ext e4)
        have hrl2 := hrl row (List.mem_of_getElem? hrow)
        have hj2 : j < rows.length := (List.getElem?_eq_some_iff.mp hrow).1
        refine ⟨_, rfl, .inl ⟨rfl, _, SqL.of hL4⟩, ?_⟩
        refine ⟨_, rfl, 4, rfl, tb, _, rfl, htb.ext e4, fun z => absurd z.1 (show ¬ ((4 : Nat) = 0) by decide), fun S hS => ?_⟩
        have hcut : cutV (brV b) (some (4 : Int)) none = [.int b.lo, .int b.hi] := cut_drop (brV b) 4
        rw [hcut]
        refine ⟨S, [b.lo, b.hi], rfl, SqT.of upd_same, by show 2 ≤ 1000; decide, fun a n' ha hn' => ?_⟩
        refine ⟨a, _, n', rfl, upd_same, Nat.lt_of_le_of_lt hn' (by show 2 < 64; decide), fun ys p hpw hm hlen hpn => ?_⟩
        obtain rfl := ends_sorted okb.o1 hpw hm
        have e45 : Ext H4 (upd (upd (upd H4 S (.tup [.int b.lo, .int b.hi])) a (SetO (cxOf (L2.CX P w) P w K mg base N_l_corners ("_law_corners" : Str) (defScope s_l_corners) T.a_l_corners cdv A outer s H E).w a (fun j => decide (j ∈ [b.lo, b.hi])) n')) p (.lst ((endsI b).map V.int))) := ((Ext.upd hS).trans (Ext.upd ha)).trans (Ext.upd hpn)
        have hp5 : (upd (upd (upd H4 S (.tup [.int b.lo, .int b.hi])) a (SetO (cxOf (L2.CX P w) P w K mg base N_l_corners ("_law_corners" : Str) (defScope s_l_corners) T.a_l_corners cdv A outer s H E).w a (fun j => decide (j ∈ [b.lo, b.hi])) n')) p (.lst ((endsI b).map V.int))) p = some (.lst ((endsI b).map V.int)) := upd_same
        generalize upd (upd (upd H4 S (.tup [.int b.lo, .int b.hi])) a (SetO (cxOf (L2.CX P w) P w K mg base N_l_corners ("_law_corners" : Str) (defScope s_l_corners) T.a_l_corners cdv A outer s H E).w a (fun j => decide (j ∈ [b.lo, b.hi])) n')) p (.lst ((endsI b).map V.int)) = H5 at e45 hp5 ⊢
        have hL5 := e45 _ _ hL4
        refine ⟨p, rfl, ⟨_, SqL.of hp5⟩, fun C hC => lc_list (xs := (endsI b).map V.int) (fun m H' => Ext H5 H' ∧ ∃ ac, H' C = some (.lst ac) ∧ IsL K (del (del H' C) L) ((((endsI b).take m).map fun e => row ++ [e]).map rwI) ac) ⟨Ext.upd hC, [], upd_same, rfl⟩ (fun m H' _ p => SqL.of (p.1 _ _ hp5)) ?_ ?_⟩
        · rintro m z H6 hm ⟨e6, ac, hC6, hac⟩
          obtain ⟨e, he, rfl⟩ : ∃ e, (endsI b)[m]? = some e ∧ z = V.int e := by
            rw [List.getElem?_map] at hm
            cases h : (endsI b)[m]? with
            | none => rw [h] at hm; cases hm
            | some n => rw [h] at hm; exact ⟨n, rfl, (Option.some.inj hm).symm⟩
          have hra6 := (hra.ext e45).ext e6
          have hL6 := e6 _ _ hL5
          refine ⟨rfl, tyes ?_⟩
          refine ⟨_, rfl, _, rfl, by show 1 ≤ sizeLine; decide, fun A1 hA1 => ?_⟩
          refine ⟨ra, A1, _, _, rfl, rfl, hra6.ext (Ext.upd hA1), SqL.of upd_same, ?_, fun A2 hA2 => ?_⟩
          · rw [List.length_map, hrl2]
            exact Nat.le_trans (show i + 1 ≤ 100 by omega) (by decide)
          have f1 : Ext H6 (upd (upd H6 A1 (.lst [.int e])) A2 (.lst (row.map V.int ++ [.int e]))) := (Ext.upd hA1).trans (Ext.upd hA2)
          have g1 : (upd (upd H6 A1 (.lst [.int e])) A2 (.lst (row.map V.int ++ [.int e]))) A2 = some (.lst ((row ++ [e]).map V.int)) := by
            rw [upd_same, List.map_append]
            rfl
          have hA2n : H6 A2 = none := (Ext.upd hA1).fresh hA2
          generalize upd (upd H6 A1 (.lst [.int e])) A2 (.lst (row.map V.int ++ [.int e])) = H7 at f1 g1 ⊢
          have hC7 := f1 _ _ hC6
          have hAC : A2 ≠ C := fun e => by rw [e, hC6] at hA2n; cases hA2n
          have hAL : A2 ≠ L := fun e => by rw [e, hL6] at hA2n; cases hA2n
          refine ⟨ac, hC7, ?_, (e6.trans f1).mut hC, _, upd_same, ?_⟩
          · rw [isL_len hac, List.length_map, List.length_map, List.length_take]
            exact Nat.lt_of_lt_of_le (show min m (endsI b).length < 100 by omega) (by decide)
          · rw [List.take_add_one, he, List.map_append, List.map_append]
            refine isL_snoc (hac.ext (DE.of ((DE.of f1).trans DE.upd))) (rwI_is (SqL.of ?_))
            rw [del_ne hAL, del_ne hAC, upd_ne hAC]
            exact g1
        · rintro H6 ⟨e6, ac, hC6, hac⟩
          rw [List.length_map, List.take_length] at hac
          have hL6 := e6 _ _ hL5
          have hal : acc.length ≤ 256 := by
            rw [isL_len hacc, List.length_map, List.length_flatMap]
            refine Nat.le_trans (sum_le _ fun x hx => by rw [List.length_map]; exact hel) ?_
            rw [List.length_take]
            omega
          have hcl : ac.length ≤ 2 := by
            rw [isL_len hac, List.length_map, List.length_map]
            exact hel
          refine ⟨L, C, acc, ac, rfl, rfl, hL6, hC6, Nat.le_trans (show acc.length + ac.length ≤ 300 by omega) (by decide), ?_⟩
          refine ⟨((e4.trans e45).trans e6).mut hL, _, _, _, rfl, upd_same, ?_⟩
          rw [List.take_add_one, hrow, List.flatMap_append, List.map_append]
          refine isL_app (hacc.ext ((DE.of (e45.trans e6)).trans DE.upd)) ?_
          show IsL K _ ((List.flatMap _ [row]).map rwI) ac
          rw [List.flatMap_cons, List.flatMap_nil, List.append_nil]
          exact hac.ext ((DE.of del_ext).trans DE.upd)
      · rintro σ H4 ⟨e4, v4, v5, acc, rfl, hL4, hacc⟩
        rw [hrsl, List.take_length] at hacc
        refine ⟨_, rfl, e2.trans e4, L, acc, nextR rows (endsI b), _, _, _, _, rfl, hLn, hL4, ?_, hacc.ext del_ext, ?_, fun row hr => ?_⟩
        · rw [List.take_add_one, List.getElem?_map, hbi, List.foldl_append, ← hrows]
          rfl
        · unfold nextR
          rw [List.length_flatMap, Nat.pow_succ]
          refine Nat.le_trans (sum_le _ fun x hx => by rw [List.length_map]; exact hel) ?_
          omega
        · unfold nextR at hr
          obtain ⟨r0, h1, h2⟩ := List.mem_flatMap.mp hr
          obtain ⟨e, _, rfl⟩ := List.mem_map.mp h2
          rw [List.length_append, hrl r0 h1]
          rfl
    · rintro σ H2 ⟨e2, F, rs, rows, v2, v3, v4, v5, rfl, hFn, hF2, hrows, hil, hcnt, hrl⟩
      rw [hwl, List.take_of_length_le (by rw [List.length_map]; exact Nat.le_refl _)] at hrows
      rw [hwl] at hcnt
      have hpow : (2 : Nat) ^ bs.length ≤ 256 := Nat.le_trans (Nat.pow_le_pow_right (by decide) h8) (by decide)
      rw [hrows] at hil hcnt
      exact ⟨_, rfl, k F rs _ hFn (e1.trans e2) hF2 hil (Nat.le_trans hcnt hpow)⟩
end
end K53
namespace K53
open PySem L2 RZ
section
variable {P : Program} {w : World} {K : PySem.W.Frag} {mg : Str → Option Value} {base : Heap}
theorem corner_small3 {n : Int} {bs : List BarD} {row : List Int} (hb : ∀ b ∈ bs, BarOk n b) (h : row ∈ cornersB bs) : ∀ x ∈ row, x.natAbs < 2 ^ 300 := fun x hx => by
  have := corner_small hb h x hx
  exact Nat.lt_of_le_of_lt (show x.natAbs ≤ 1000000 by omega) (by decide +kernel)
def spSure (K : PySem.W.Frag) : Sp := fun vs H Q _ => ∃ (v : V) (n : Nat) (hl : List (Int × Int)) (bs : List BarD), vs = [v] ∧ Is K H (fcD (n : Int) hl bs) v ∧ WebOk (n : Int) hl bs ∧ ∀ (b : Bool) (H' : Hp), Ext H H' → (b = true ↔ firmB n (hangL (n : Int) hl) bs) → Q (.bl b) H'
theorem ok_l_is_sure (T : Tx K mg) : FnOk P w K mg base (L2.CX P w) 22 T.a_l_is_sure T.fd_l_is_sure ["_law_facts_here"] (spSure K) := by
  refine T.F_l_is_sure.okX sc_l_is_sure (fun vs H Q E h => ?_) (fun cdv A outer s H vs Q E hr h => ?_)
  · obtain ⟨v, n, hl, bs, rfl, _⟩ := h
    rfl
  · obtain ⟨v, n, hl, bs, rfl, hv, ok, k⟩ := h
    refine ⟨_, (pss_cons (ps_setLc (i := 1) (own := [("_law_row", 2)]) (g := gName 2) (tt := tYes) (te := tOp (rIxT K) (tCall (spTops K) [] E0 (tCons (tVar 0) (tCons (tVar 2) (tCons (tC (.int 1)) tNil)))) (tC (.int 1))) (by rfl) sc_l_is_sure.nd rfl rfl (sw_true rfl rfl rfl (by decide +kernel)) (pi_list (pe_call (ok_l_corners T) (hr.mono (by decide)) rfl T.m_l_corners T.F_l_corners.kp T.b_l_corners .nil passL (pa_cons (pv 0) pa_nil))) (blkOk_by (own := [("_law_row", 2)]) (N := N_l_is_sure) (sc := defScope s_l_is_sure) (by decide +kernel)) (fun _ _ _ _ _ => (pg_name (i := 2) sc_l_is_sure.nd rfl (Or.inl rfl))) (fun _ _ _ _ _ => pts_nil) (fun _ _ _ _ _ => (by exact pe_ix ix_tup (pe_call (ok_l_tops T) (hr.mono (by decide)) rfl T.m_l_tops T.F_l_tops.kp T.b_l_tops .nil passL (pa_cons (pv 0) (pa_cons (pv 2) (pa_cons pe_int pa_nil)))) pe_int (fun _ _ => rfl))))
      (pss_one (ps_ret (pe_or (pe_cmpR op_gt (pe_callB (cr_min rfl) (by rfl) T.z_min (by decide +kernel) (pa_cons (pv 1) pa_nil)) pe_int (nomark _)) (pe_one (pe_cmpR op_lt (pe_callB (cr_max rfl) (by rfl) T.z_max (by decide +kernel) (pa_cons (pv 1) pa_nil)) pe_int (nomark _))))))), ?_⟩
    refine ⟨_, rfl, v, n, hl, bs, rfl, hv, ok, fun F rs H1 hF e1 hF1 hrs hcl => ?_⟩
    have hrl : rs.length = (cornersB bs).length := by rw [isL_len hrs, List.length_map]
    refine ⟨F, rfl, ⟨_, SqL.of hF1⟩, fun D hD => lc_list (xs := rs) (fun i H' => Ext H1 H' ∧ H' D = some (.lst ((((cornersB bs).take i).map fun row => detB n (hangL (n : Int) hl) 1 bs row).map V.int))) ⟨Ext.upd hD, upd_same⟩ (fun i H' _ p => SqL.of (p.1 _ _ hF1)) ?_ ?_⟩
    · rintro i y H2 hi ⟨e2, hD2⟩
      obtain ⟨row, hrow, iy⟩ := isL_at' hrs hi
      obtain ⟨ra, rfl, hra⟩ := rwI_of (iy.ext e2)
      have hm := List.mem_of_getElem? hrow
      have hi2 : i < (cornersB bs).length := (List.getElem?_eq_some_iff.mp hrow).1
      refine ⟨rfl, tyes ?_⟩
      refine ⟨_, rfl, _, rfl, v, ra, n, hl, bs, row, 1, rfl, hv.ext (e1.trans e2), hra, ok, corner_len hm, corner_small3 ok.bars hm, by decide +kernel, fun p l H3 hp hl' e3 hp3 hl3 => ?_⟩
      refine ⟨p, _, 1, _, rfl, rfl, SqT.of hp3, rfl, ?_⟩
      have hD3 := e3 _ _ hD2
      refine ⟨_, hD3, ?_, (e2.trans e3).mut hD, ?_⟩
      · rw [List.length_map, List.length_map, List.length_take]
        exact Nat.lt_of_lt_of_le (show min i (cornersB bs).length < 300 by omega) (by decide)
      · rw [upd_same, List.take_add_one, hrow, List.map_append, List.map_append]
        rfl
    · rintro H2 ⟨e2, hD2⟩
      rw [hrl, List.take_length] at hD2
      have hne : 0 < ((cornersB bs).map fun row => detB n (hangL (n : Int) hl) 1 bs row).length := by
        rw [List.length_map]
        exact List.length_pos_iff.mpr (corners_ne bs)
      have e0 := e1.trans e2
      refine ⟨_, rfl, D, _, rfl, SqL.of hD2, hne, fun lo hlo hlo2 => ?_⟩
      refine ⟨_, _, rfl, rfl, decide (0 < lo), rfl, ite2 (fun c => ?_) (fun c => ?_)⟩
      · exact k true H2 e0 ⟨fun _ => .inl fun x hx => Int.lt_of_lt_of_le (of_decide_eq_true c) (hlo2 x hx), fun _ => rfl⟩
      · have c : ¬ 0 < lo := fun z => c (decide_eq_true z)
        refine ⟨_, rfl, D, _, rfl, SqL.of hD2, hne, fun hi hhi hhi2 => ?_⟩
        refine ⟨_, _, rfl, rfl, k _ H2 e0 ⟨fun z => .inr fun x hx => Int.lt_of_le_of_lt (hhi2 x hx) (of_decide_eq_true z), fun z => decide_eq_true (z.elim (fun y => absurd (y lo hlo) c) fun y => y hi hhi)⟩⟩
end
end K53
namespace L2
end L2
namespace K53
open PySem L2 RZ
section
variable {P : Program} {w : World} {K : PySem.W.Frag} {mg : Str → Option Value} {base : Heap}
def spCellAt (K : PySem.W.Frag) : Sp := fun vs H Q _ => ∃ (a : Addr) (ns : List Int) (k : Nat), vs = [.ref a, .int (k : Int)] ∧ SqL K H a (ns.map V.int) ∧ ns.length ≤ 63 ∧ Q (.int (ns.getD k 0)) H
theorem ok_l_cell_at (T : Tx K mg) : FnOk P w K mg base (L2.CX P w) 1 T.a_l_cell_at T.fd_l_cell_at ["_law_script", "_law_k"] (spCellAt K) := by
  refine T.F_l_cell_at.okX sc_l_cell_at (fun vs H Q E h => ?_) (fun cdv A outer s H vs Q E hr h => ?_)
  · obtain ⟨a, ns, k, rfl, _⟩ := h
    rfl
  · obtain ⟨a, ns, k, rfl, ha, hl, q⟩ := h
    refine ⟨_, (pss_cons (ps_if (pt_cmpR op_lt (pv 1) (pe_callB call_len_seq (by rfl) T.z_len PySem.boot_len (pa_cons (pv 0) pa_nil)) (nomark _)) (pss_one (ps_ret (pe_ix ix_list (pv 0) (pv 1) (fun _ _ => rfl)))) pss_nil)
      (pss_one (ps_ret pe_int))), ?_⟩
    refine ⟨_, rfl, _, rfl, a, _, rfl, .inl ha, _, _, rfl, rfl, _, rfl, ite2 (fun c => ?_) (fun c => ?_)⟩
    · have hk : k < ns.length := by
        have := of_decide_eq_true c
        rw [List.length_map] at this
        omega
      refine ⟨_, rfl, _, rfl, a, _, (k : Int), _, rfl, rfl, ha, atI_int hk, q⟩
    · have hk : ¬ k < ns.length := fun z => c (decide_eq_true (by rw [List.length_map]; omega))
      rw [Mx.getD_ge 0 (by omega)] at q
      exact q
end
end K53
namespace Mx
theorem det_rlin : ∀ {n r : Nat} (M : Nat → Nat → Int) (a b : Int) (u v : Nat → Int), r < n → det n (rr M r fun k => a * u k + b * v k) = a * det n (rr M r u) + b * det n (rr M r v) := by
  intro n
  induction n with
  | zero => intro r M a b u v h; omega
  | succ n ih =>
    intro r M a b u v h
    unfold det
    rw [← sm_mul, ← sm_mul, ← sm_add]
    refine sm_congr fun j hj => ?_
    cases r with
    | zero =>
      have e : ∀ w : Nat → Int, (fun i k => rr M 0 w (i + 1) (sk j k)) = fun i k => M (i + 1) (sk j k) := fun w => rfl
      have e2 : ∀ w : Nat → Int, rr M 0 w 0 j = w j := fun w => rfl
      rw [e, e, e, e2, e2, e2]
      grind
    | succ r =>
      have e : ∀ w : Nat → Int, (fun i k => rr M (r + 1) w (i + 1) (sk j k)) = rr (fun i k => M (i + 1) (sk j k)) r (fun k => w (sk j k)) := fun w => by
        funext i k
        unfold rr
        by_cases h : i = r
        · rw [if_pos (by omega), if_pos h]
        · rw [if_neg (by omega), if_neg h]
      have e2 : ∀ w : Nat → Int, rr M (r + 1) w 0 j = M 0 j := fun w => rfl
      rw [e, e, e, e2, e2, e2]
      rw [ih (fun i k => M (i + 1) (sk j k)) a b (fun k => u (sk j k)) (fun k => v (sk j k)) (by omega)]
      grind
structure RowLin (n : Nat) (F : (Nat → Nat → Int) → Int) : Prop where
  lin : ∀ (M : Nat → Nat → Int) (r : Nat) (a b : Int) (u v : Nat → Int), r < n → F (rr M r fun k => a * u k + b * v k) = a * F (rr M r u) + b * F (rr M r v)
theorem RowLin.det (n : Nat) : RowLin n (Mx.det n) := ⟨fun M _ a b u v h => det_rlin M a b u v h⟩
/-- rows that are linear in a place and the parts -/
def bx (A B : Nat → Nat → Int) (x : Nat → Int) (q : Nat → Int) : Nat → Nat → Int := fun i k => x i * A i k + q i * B i k
end Mx
namespace K53
open PySem L2 RZ
theorem getD_set (l : List Int) (i j : Nat) (v : Int) : (l.set i v).getD j 0 = if i = j ∧ j < l.length then v else l.getD j 0 := by
  rw [List.getD_eq_getElem?_getD, List.getD_eq_getElem?_getD, List.getElem?_set]
  by_cases h : i = j
  · subst h
    by_cases h2 : i < l.length
    · rw [if_pos rfl, if_pos h2, if_pos ⟨rfl, h2⟩]
      rfl
    · rw [if_pos rfl, if_neg h2, if_neg fun z => h2 z.2, List.getElem?_eq_none (by omega)]
  · rw [if_neg h, if_neg fun z => h z.1]
theorem barRow_lin (n : Nat) (q x : Int) (b : BarD) (j : Nat) : (barRow n q b x).getD j 0 = x * (barRow n 0 b 1).getD j 0 + q * (barRow n 1 b 0).getD j 0 := by
  unfold barRow
  simp only [getD_set, List.length_set, List.length_replicate]
  have h0 : (List.replicate n (0 : Int)).getD j 0 = 0 := by
    rw [List.getD_eq_getElem?_getD, List.getElem?_replicate]
    split <;> rfl
  rw [h0]
  split
  · grind
  · split
    · grind
    · split
      · grind
      · grind
theorem askRow_lin {hl : List (Int × Int)} {r0 r1 r2 : List Int} {x q : Int} (h : ∀ j, r0.getD j 0 = x * r1.getD j 0 + q * r2.getD j 0) : askRow hl r0 = x * askRow hl r1 + q * askRow hl r2 := by
  unfold askRow
  induction hl with
  | nil => simp
  | cons p hl ih =>
    simp only [List.map_cons, List.sum_cons]
    rw [h]
    grind
def augA (n : Nat) (hs : List Int) (hl : List (Int × Int)) (bs : List BarD) : Nat → Nat → Int := Mx.ent (augRows n hs 0 hl bs (List.replicate bs.length 1))
def augB (n : Nat) (hs : List Int) (hl : List (Int × Int)) (bs : List BarD) : Nat → Nat → Int := Mx.ent (augRows n hs 1 hl bs (List.replicate bs.length 0))
theorem aug_ent {n : Nat} {hs : List Int} {q : Int} {hl : List (Int × Int)} {bs : List BarD} {ns : List Int} (hnl : ns.length = bs.length) {i : Nat} (hi : i < bs.length) (k : Nat) : ∃ b x, bs[i]? = some b ∧ ns[i]? = some x ∧ Mx.ent (augRows n hs q hl bs ns) i k = (tabRow hs (barRow n q b x) ++ [askRow hl (barRow n q b x)]).getD k 0 := by
  have h1 : bs[i]? = some bs[i] := List.getElem?_eq_getElem hi
  have h2 : ns[i]? = some (ns[i]'(by omega)) := List.getElem?_eq_getElem (by omega)
  refine ⟨_, _, h1, h2, ?_⟩
  unfold Mx.ent augRows barRows
  have hz : (bs.zip ns)[i]? = some (bs[i], ns[i]'(by omega)) := by rw [List.getElem?_zip_eq_some]; exact ⟨h1, h2⟩
  simp only [List.getD_eq_getElem?_getD, List.getElem?_map, hz]
  rfl
theorem aug_bx {n : Nat} {hs : List Int} {q : Int} {hl : List (Int × Int)} {bs : List BarD} {ns : List Int} (hnl : ns.length = bs.length) {i : Nat} (hi : i < bs.length) (k : Nat) : Mx.ent (augRows n hs q hl bs ns) i k = Mx.bx (augA n hs hl bs) (augB n hs hl bs) (fun i => ns.getD i 0) (fun _ => q) i k := by
  obtain ⟨b, x, h1, h2, h3⟩ := aug_ent (n := n) (hs := hs) (q := q) (hl := hl) hnl hi k
  obtain ⟨b', x', h4, h5, h6⟩ := aug_ent (n := n) (hs := hs) (q := 0) (hl := hl) (ns := List.replicate bs.length 1) (List.length_replicate) hi k
  obtain ⟨b2, x2, h7, h8, h9⟩ := aug_ent (n := n) (hs := hs) (q := 1) (hl := hl) (ns := List.replicate bs.length 0) (List.length_replicate) hi k
  rw [h1] at h4 h7
  obtain rfl := Option.some.inj h4
  obtain rfl := Option.some.inj h7
  rw [List.getElem?_replicate, if_pos hi] at h5 h8
  obtain rfl := Option.some.inj h5
  obtain rfl := Option.some.inj h8
  show _ = ns.getD i 0 * Mx.ent (augRows n hs 0 hl bs (List.replicate bs.length 1)) i k + q * Mx.ent (augRows n hs 1 hl bs (List.replicate bs.length 0)) i k
  rw [h3, h6, h9, List.getD_eq_getElem?_getD (l := ns), h2]
  show _ = x * _ + q * _
  have lin := barRow_lin n q x b
  have la := askRow_lin (hl := hl) lin
  rw [List.getD_eq_getElem?_getD, List.getD_eq_getElem?_getD, List.getD_eq_getElem?_getD]
  have tl : ∀ row, (tabRow hs row).length = hs.length := fun row => by unfold tabRow; rw [List.length_map]
  rcases Nat.lt_trichotomy k hs.length with g | g | g
  · rw [List.getElem?_append_left (by rw [tl]; exact g), List.getElem?_append_left (by rw [tl]; exact g), List.getElem?_append_left (by rw [tl]; exact g)]
    unfold tabRow
    rw [List.getElem?_map, List.getElem?_map, List.getElem?_map, List.getElem?_eq_getElem g]
    exact lin _
  · rw [List.getElem?_append_right (by rw [tl]; omega), List.getElem?_append_right (by rw [tl]; omega), List.getElem?_append_right (by rw [tl]; omega), tl, tl, tl, g, Nat.sub_self]
    exact la
  · rw [List.getElem?_eq_none (by rw [List.length_append, tl]; exact g), List.getElem?_eq_none (by rw [List.length_append, tl]; exact g), List.getElem?_eq_none (by rw [List.length_append, tl]; exact g)]
    show (0 : Int) = x * 0 + q * 0
    omega
theorem det_bx {n : Nat} {hs : List Int} {q : Int} {hl : List (Int × Int)} {bs : List BarD} {ns : List Int} (hhs : hs.length = bs.length) (hnl : ns.length = bs.length) : detB n hs q bs ns = Mx.det bs.length (Mx.bx (augA n hs hl bs) (augB n hs hl bs) (fun i => ns.getD i 0) fun _ => q) := by
  rw [← det_aug (hl := hl) hhs]
  exact Mx.det_congr fun i k hi _ => aug_bx hnl hi k
theorem det_cg {m : Nat} (M N : Nat → Nat → Int) (h : ∀ i k, i < m → M i k = N i k) : Mx.det m M = Mx.det m N := Mx.det_congr fun i k hi _ => h i k hi
end K53
namespace L2
def gcdL : Nat → List Int → Nat
  | g, [] => g
  | g, n :: r => gcdL (Nat.gcd g n.natAbs) r
theorem gcdL_append (g : Nat) (xs ys : List Int) : gcdL g (xs ++ ys) = gcdL (gcdL g xs) ys := by
  induction xs generalizing g with
  | nil => rfl
  | cons x r ih => exact ih _
theorem gcdL_gcd (g h : Nat) (xs : List Int) : gcdL (Nat.gcd g h) xs = Nat.gcd g (gcdL h xs) := by
  induction xs generalizing h with
  | nil => rfl
  | cons x r ih =>
    show gcdL (Nat.gcd (Nat.gcd g h) x.natAbs) r = Nat.gcd g (gcdL (Nat.gcd h x.natAbs) r)
    rw [Nat.gcd_assoc, ih]
theorem gcdL_dvd_start (g : Nat) (xs : List Int) : gcdL g xs ∣ g := by
  induction xs generalizing g with
  | nil => exact Nat.dvd_refl _
  | cons x r ih => exact Nat.dvd_trans (ih _) (Nat.gcd_dvd_left _ _)
theorem gcdL_pos {g : Nat} (xs : List Int) (h : 0 < g) : 0 < gcdL g xs := Nat.pos_of_dvd_of_pos (gcdL_dvd_start g xs) h
theorem gcdL_le {g : Nat} (xs : List Int) (h : 0 < g) : gcdL g xs ≤ g := Nat.le_of_dvd h (gcdL_dvd_start g xs)
/-- what Places keeps -/
def normN (ns : List Int) (s : Int) : List Int := ns.map fun n => n / ((gcdL s.natAbs ns : Nat) : Int)
def normP (ns : List Int) (s : Int) : Int := s / ((gcdL s.natAbs ns : Nat) : Int)
theorem div_mul_back {g : Nat} {x : Int} (h : g ∣ x.natAbs) : x / (g : Int) * (g : Int) = x :=
  Int.ediv_mul_cancel (Int.ofNat_dvd_left.mpr h)
end L2
namespace L2
open PySem PySem.Spec PyProof.Rows
def lowN (n s : Int) : Int := n / ((Nat.gcd s.natAbs n.natAbs : Nat) : Int)
def lowP (n s : Int) : Int := s / ((Nat.gcd s.natAbs n.natAbs : Nat) : Int)
theorem low_gpos {n s : Int} (hs : 1 ≤ s) : 0 < Nat.gcd s.natAbs n.natAbs := Nat.gcd_pos_of_pos_left _ (by omega)
theorem low_pos {n s : Int} (hs : 1 ≤ s) : 1 ≤ lowP n s := by
  have h := low_gpos (n := n) hs
  have hd : ((Nat.gcd s.natAbs n.natAbs : Nat) : Int) ∣ s := Int.ofNat_dvd_left.mpr (Nat.gcd_dvd_left _ _)
  exact Int.ediv_pos_of_pos_of_dvd (by omega) (by omega) hd
theorem ediv_abs_le {a : Int} {g : Nat} : (a / (g : Int)).natAbs ≤ a.natAbs := by
  rcases Nat.eq_zero_or_pos g with h | h
  · subst h; simp
  · exact Int.natAbs_ediv_le_natAbs a g
theorem lowN_le (n s : Int) : (lowN n s).natAbs ≤ n.natAbs := ediv_abs_le
theorem lowP_le (n s : Int) : (lowP n s).natAbs ≤ s.natAbs := ediv_abs_le
/-- the same by less -/
theorem low_div {n s : Int} {g : Nat} (hg : 0 < g) (h1 : g ∣ n.natAbs) (h2 : g ∣ s.natAbs) : lowN (n / (g : Int)) (s / (g : Int)) = lowN n s ∧ lowP (n / (g : Int)) (s / (g : Int)) = lowP n s := by
  have a1 := div_mul_back h1
  have a2 := div_mul_back h2
  generalize n / (g : Int) = m at a1 ⊢
  generalize s / (g : Int) = q at a2 ⊢
  subst a1 a2
  unfold lowN lowP
  rw [Int.natAbs_mul, Int.natAbs_mul, Int.natAbs_natCast, Nat.gcd_mul_right, Int.natCast_mul]
  exact ⟨(Int.mul_ediv_mul_of_pos_left _ _ (by omega)).symm, (Int.mul_ediv_mul_of_pos_left _ _ (by omega)).symm⟩
def frD (p : Int × Int) : Dt := .tup [.int p.1, .int p.2]
end L2
namespace K53
open PySem L2
section
variable {P : Program} {w : World} {K : PySem.W.Frag} {mg : Str → Option Value} {base : Heap}
def spDivisor (K : PySem.W.Frag) : Sp := fun vs H Q _ => ∃ (l : Addr) (ns : List Int), vs = [.ref l] ∧ SqQ K H l (ns.map V.int) ∧ Q (.int ((gcdL 0 ns : Nat) : Int)) H
theorem ok_divisor (T : Tx K mg) : FnOk P w K mg base (L2.CX P w) 1 T.a_divisor T.fd_divisor ["numbers"] (spDivisor K) := by
  refine T.F_divisor.okX sc_divisor (fun vs H Q E h => ?_) (fun cdv A outer s H vs Q E hr h => ?_)
  · obtain ⟨l, ns, rfl, _⟩ := h
    rfl
  · obtain ⟨l, ns, rfl, hl, k⟩ := h
    refine ⟨_, (pss_cons (ps_set (i := 1) sc_divisor.nd rfl (Or.inl rfl) pe_int)
      (pss_cons (ps_for (passes_of rfl) rfl (pi_seq (pv 0)) (pg_name (i := 2) sc_divisor.nd rfl (Or.inl rfl)) (pss_one (ps_set (i := 1) sc_divisor.nd rfl (Or.inl rfl) (pe_callBfun cr_gcd rfl T.m_gcd (pa_cons (pv 1) (pa_cons (pv 2) pa_nil))))))
      (pss_one (ps_ret (pv 1))))), ?_⟩
    refine ⟨_, rfl, l, rfl, for_seq (xs := ns.map V.int) (H0 := H) hl (fun i σ H' => H' = H ∧ ∃ v : Option V, σ = [some (.ref l), some (.int ((gcdL 0 (ns.take i) : Nat) : Int)), v]) ⟨rfl, none, rfl⟩ (fun i σ H' _ p => p.1 ▸ Ext.rfl') ?_ ?_⟩
    · rintro i y σ H' hi ⟨rfl, v, rfl⟩
      obtain ⟨n, hn, rfl⟩ : ∃ n, ns[i]? = some n ∧ y = V.int n := by
        rw [List.getElem?_map] at hi
        cases e : ns[i]? with
        | none => rw [e] at hi; cases hi
        | some n => rw [e] at hi; exact ⟨n, rfl, (Option.some.inj hi).symm⟩
      have step : gcdL 0 (ns.take (i + 1)) = Nat.gcd (gcdL 0 (ns.take i)) n.natAbs := by
        rw [List.take_add_one, hn, gcdL_append]
        rfl
      refine ⟨_, rfl, _, rfl, _, _, rfl, rfl, some (.int n), ?_⟩
      rw [step, Int.natAbs_natCast]
      rfl
    · rintro σ H' ⟨rfl, v, rfl⟩
      rw [List.length_map, List.take_length]
      exact ⟨_, rfl, k⟩
/-- tops over a bottom above nought, in lowest terms: a new tuple of a new tuple and a number -/
def spLowest (K : PySem.W.Frag) : Sp := fun vs H Q _ => ∃ (l : Addr) (ns : List Int) (s : Int), vs = [.ref l, .int s] ∧ SqQ K H l (ns.map V.int) ∧ ns.length ≤ 1000 ∧ 1 ≤ s ∧ s.natAbs < 2 ^ 8000 ∧
  ∀ t u H', Ext H H' → H t = none → H u = none → H' t = some (.tup ((normN ns s).map V.int)) → H' u = some (.tup [.ref t, .int (normP ns s)]) → Q (.ref u) H'
theorem ok_lowest (T : Tx K mg) : FnOk P w K mg base (L2.CX P w) 2 T.a_lowest T.fd_lowest ["tops", "bottom"] (spLowest K) := by
  refine T.F_lowest.okX sc_lowest (fun vs H Q E h => ?_) (fun cdv A outer s H vs Q E hr h => ?_)
  · obtain ⟨l, ns, s, rfl, _⟩ := h
    rfl
  · obtain ⟨l, ns, sh, rfl, hq, hlen, hs1, hbig, k⟩ := h
    refine ⟨_, (pss_cons (ps_set (i := 2) sc_lowest.nd rfl (Or.inr rfl) (pe_callBfun cr_gcd rfl T.m_gcd (pa_cons (pe_call (ok_divisor T) (hr.mono (by decide)) rfl T.m_divisor T.F_divisor.kp T.b_divisor .nil passL (pa_cons (pv 0) pa_nil)) (pa_cons (pv 1) pa_nil))))
      (pss_one (ps_ret (pe_tup (pa_cons (pe_callTy call_tuple_of (by rfl) T.z_tuple (by decide +kernel) (pa_cons (pe_lc (own := [("top", 3)]) (g := gName 3) (tt := tYes) (by rfl) sc_lowest.nd (pi_seq (pv 0)) (blkOk_by (own := [("top", 3)]) (N := N_lowest) (sc := defScope s_lowest) (by decide +kernel)) (fun _ _ _ _ _ => (pg_name (i := 3) sc_lowest.nd rfl (Or.inl rfl))) (fun _ _ _ _ _ => pts_nil) (fun _ _ _ _ _ => (pe_op op_fdivW (pv 3) (pv 2)))) pa_nil)) (pa_cons (pe_op op_fdivW (pv 1) (pv 2)) pa_nil)))))), ?_⟩
    have hg0 : 0 < gcdL sh.natAbs ns := gcdL_pos ns (by omega)
    have hgb : gcdL sh.natAbs ns < 2 ^ 8000 := Nat.lt_of_le_of_lt (gcdL_le ns (by omega)) hbig
    have eg : Nat.gcd ((gcdL 0 ns : Nat) : Int).natAbs sh.natAbs = gcdL sh.natAbs ns := by
      rw [Int.natAbs_natCast, Nat.gcd_comm, ← gcdL_gcd, Nat.gcd_zero_right]
    refine ⟨_, rfl, l, ns, rfl, hq, _, rfl, _, _, rfl, ?_⟩
    dsimp only
    rw [eg]
    refine ⟨_, rfl, l, rfl, lc_seq (xs := ns.map V.int) hq Ext.rfl' (fun D i H' => Ext H H' ∧ H' D = some (.lst (((ns.take i).map fun n => n / ((gcdL sh.natAbs ns : Nat) : Int)).map V.int)))
      (fun D hD => ⟨Ext.upd hD, upd_same⟩) (fun D i H' _ p => p.1) ?_ ?_⟩
    · rintro D i y H' hD hi ⟨e1, hD1⟩
      obtain ⟨n, hn, rfl⟩ : ∃ n, ns[i]? = some n ∧ y = V.int n := by
        rw [List.getElem?_map] at hi
        cases e : ns[i]? with
        | none => rw [e] at hi; cases hi
        | some n => rw [e] at hi; exact ⟨n, rfl, (Option.some.inj hi).symm⟩
      have hin : i < ns.length := (List.getElem?_eq_some_iff.mp hn).1
      refine ⟨rfl, tyes ?_⟩
      refine ⟨_, rfl, _, rfl, _, _, rfl, rfl, wide_div (b := 8000) (by omega) (by rw [Int.natAbs_natCast]; exact hgb) (by decide) (by decide), ?_⟩
      refine ⟨_, hD1, ?_, e1.mut hD, ?_⟩
      · rw [List.length_map, List.length_map, List.length_take]
        exact Nat.lt_of_lt_of_le (show min i ns.length < 2000 by omega) (by decide)
      · rw [upd_same, List.take_add_one, hn, List.map_append, List.map_append]
        rfl
    · rintro D H' hD ⟨e1, hD1⟩
      rw [List.length_map, List.take_length] at hD1
      refine ⟨D, _, rfl, .inl ⟨SqL.of hD1, fun t ht => ?_⟩⟩
      refine ⟨_, rfl, _, rfl, _, _, rfl, rfl, wide_div (b := 8000) (by omega) (by rw [Int.natAbs_natCast]; exact hgb) (by decide) (by decide), (by show 2 ≤ sizeLine; decide), fun u hu => ?_⟩
      have htu : t ≠ u := ne_of_none upd_same hu
      have hu' : H' u = none := by rw [upd_ne htu.symm] at hu; exact hu
      refine k t u _ ((e1.trans (Ext.upd ht)).trans (Ext.upd hu)) (e1.fresh ht) (e1.fresh hu') ?_ upd_same
      rw [upd_ne htu, upd_same]
      rfl
end
end K53
namespace K53
open PySem L2
section
variable {P : Program} {w : World} {K : PySem.W.Frag} {mg : Str → Option Value} {base : Heap}
def spFraction (K : PySem.W.Frag) : Sp := fun vs H Q _ => ∃ (n s : Int), vs = [.int n, .int s] ∧ 1 ≤ s ∧ s.natAbs < 2 ^ 8000 ∧
  ∀ u H', Ext H H' → H u = none → H' u = some (.tup [.int (lowN n s), .int (lowP n s)]) → Q (.ref u) H'
theorem ok_fraction (T : Tx K mg) : FnOk P w K mg base (L2.CX P w) 3 T.a_fraction T.fd_fraction ["top", "bottom"] (spFraction K) := by
  refine T.F_fraction.okX sc_fraction (fun vs H Q E h => ?_) (fun cdv A outer s H vs Q E hr h => ?_)
  · obtain ⟨n, s, rfl, _⟩ := h
    rfl
  · obtain ⟨n, sh, rfl, hs1, hbig, k⟩ := h
    refine ⟨_, (pss_cons (ps_asg (pe_call (ok_lowest T) (hr.mono (by decide)) rfl T.m_lowest T.F_lowest.kp T.b_lowest .nil passL (pa_cons (pe_lst (pa_cons (pv 0) pa_nil)) (pa_cons (pv 1) pa_nil))) (pg_tup (by rfl) (pgs_cons (pg_name (i := 2) sc_fraction.nd rfl (Or.inl rfl)) (pgs_cons (pg_name (i := 3) sc_fraction.nd rfl (Or.inl rfl)) pgs_nil))))
      (pss_one (ps_ret (pe_tup (pa_cons (pe_ix ix_tup (pv 2) pe_int (fun _ _ => rfl)) (pa_cons (pv 3) pa_nil)))))), ?_⟩
    refine ⟨_, rfl, by show 1 ≤ sizeLine; decide, fun l hl => ?_⟩
    refine ⟨_, rfl, l, [n], sh, rfl, .inl (SqL.of upd_same), by show 1 ≤ 1000; decide, hs1, hbig, fun t u H' e1 ht hu ht1 hu1 => ?_⟩
    refine ⟨u, _, rfl, SqT.of hu1, rfl, _, _, rfl, _, _, rfl, rfl, ?_⟩
    refine ⟨_, rfl, t, _, _, _, rfl, rfl, SqT.of ht1, rfl, _, rfl, by show 2 ≤ sizeLine; decide, fun w hw => ?_⟩
    exact k w _ (((Ext.upd hl).trans e1).trans (Ext.upd hw)) (((Ext.upd hl).trans e1).fresh hw) upd_same
end
end K53
namespace K53
open PySem L2 ZM
section
variable {P : Program} {w : World} {K : PySem.W.Frag} {mg : Str → Option Value} {base : Heap}
def frO (a : Int × Int) : HO := .tup [.int a.1, .int a.2]
def ltP (a b : Int × Int) : Bool := decide (a.1 * b.2 < b.1 * a.2)
def lowF (a : Int × Int) : Int × Int := (lowN a.1 a.2, lowP a.1 a.2)
theorem low_back {a : Int × Int} (h : 1 ≤ a.2) : ∃ g : Int, 1 ≤ g ∧ a.1 = lowN a.1 a.2 * g ∧ a.2 = lowP a.1 a.2 * g :=
  ⟨((Nat.gcd a.2.natAbs a.1.natAbs : Nat) : Int), by have := low_gpos (n := a.1) h; omega, (div_mul_back (Nat.gcd_dvd_right _ _)).symm, (div_mul_back (Nat.gcd_dvd_left _ _)).symm⟩
/-- the first row of the least sum (lt), as it is come by -/
def sml (a : Int × Int) : Prop := a.1.natAbs < 2 ^ 6000 ∧ a.2.natAbs < 2 ^ 6000
def spIsLess (K : PySem.W.Frag) : Sp := fun vs H Q _ => ∃ (x y : Addr) (a b : Int × Int), vs = [.ref x, .ref y] ∧ SqT K H x [.int a.1, .int a.2] ∧ SqT K H y [.int b.1, .int b.2] ∧ sml a ∧ sml b ∧ Q (.bl (ltP a b)) H
theorem ok_is_less (T : Tx K mg) : FnOk P w K mg base (L2.CX P w) 1 T.a_is_less T.fd_is_less ["one", "other"] (spIsLess K) := by
  refine T.F_is_less.okX sc_is_less (fun vs H Q E h => ?_) (fun cdv A outer s H vs Q E hr h => ?_)
  · obtain ⟨x, y, a, b, rfl, _⟩ := h
    rfl
  · obtain ⟨x, y, a, b, rfl, hx, hy, ha, hb, k⟩ := h
    refine ⟨_, (pss_one (ps_ret (pe_cmpR op_lt (pe_op op_mulW (pe_ix ix_tup (pv 0) pe_int (fun _ _ => rfl)) (pe_ix ix_tup (pv 1) pe_int (fun _ _ => rfl))) (pe_op op_mulW (pe_ix ix_tup (pv 1) pe_int (fun _ _ => rfl)) (pe_ix ix_tup (pv 0) pe_int (fun _ _ => rfl))) (nomark _)))), ?_⟩
    refine ⟨_, rfl, x, _, _, _, rfl, rfl, hx, rfl, _, rfl, y, _, _, _, rfl, rfl, hy, rfl, _, _, rfl, rfl, wide_mul (a := 6000) (b := 6000) ha.1 hb.2 (by decide) (by decide) (by decide), ?_⟩
    exact ⟨_, rfl, y, _, _, _, rfl, rfl, hy, rfl, _, rfl, x, _, _, _, rfl, rfl, hx, rfl, _, _, rfl, rfl, wide_mul (a := 6000) (b := 6000) hb.1 ha.2 (by decide) (by decide) (by decide), _, _, rfl, rfl, k⟩
theorem ok_l_is_less (T : Tx K mg) : FnOk P w K mg base (L2.CX P w) 1 T.a_l_is_less T.fd_l_is_less ["_law_one", "_law_other"] (spIsLess K) := by
  refine T.F_l_is_less.okX sc_l_is_less (fun vs H Q E h => ?_) (fun cdv A outer s H vs Q E hr h => ?_)
  · obtain ⟨x, y, a, b, rfl, _⟩ := h
    rfl
  · obtain ⟨x, y, a, b, rfl, hx, hy, ha, hb, k⟩ := h
    refine ⟨_, (pss_one (ps_ret (pe_cmpR op_lt (pe_op op_mulW (pe_ix ix_tup (pv 0) pe_int (fun _ _ => rfl)) (pe_ix ix_tup (pv 1) pe_int (fun _ _ => rfl))) (pe_op op_mulW (pe_ix ix_tup (pv 1) pe_int (fun _ _ => rfl)) (pe_ix ix_tup (pv 0) pe_int (fun _ _ => rfl))) (nomark _)))), ?_⟩
    refine ⟨_, rfl, x, _, _, _, rfl, rfl, hx, rfl, _, rfl, y, _, _, _, rfl, rfl, hy, rfl, _, _, rfl, rfl, wide_mul (a := 6000) (b := 6000) ha.1 hb.2 (by decide) (by decide) (by decide), ?_⟩
    exact ⟨_, rfl, y, _, _, _, rfl, rfl, hy, rfl, _, rfl, x, _, _, _, rfl, rfl, hx, rfl, _, _, rfl, rfl, wide_mul (a := 6000) (b := 6000) hb.1 ha.2 (by decide) (by decide) (by decide), _, _, rfl, rfl, k⟩
theorem fr_of {H : Hp} {v : V} {p : Int × Int} (h : Is K H (frD p) v) : ∃ t, v = .ref t ∧ SqT K H t [.int p.1, .int p.2] := by
  obtain ⟨t, xs, rfl, hs, hl⟩ := h
  obtain ⟨v1, r1, rfl, f1, v2, r2, rfl, f2, f3⟩ := hl
  cases f3
  rw [show v1 = V.int p.1 from f1, show v2 = V.int p.2 from f2] at hs
  exact ⟨t, rfl, hs⟩
theorem fr_is {H : Hp} {t : Addr} {p : Int × Int} (h : SqT K H t [.int p.1, .int p.2]) : Is K H (frD p) (.ref t) := ⟨t, _, rfl, h, _, _, rfl, rfl, _, _, rfl, rfl, rfl⟩
theorem fr_deq {a b : Int × Int} : deq (frD a) (frD b) = decide (a = b) := by
  obtain ⟨a1, a2⟩ := a
  obtain ⟨b1, b2⟩ := b
  show (a1 == b1 && (a2 == b2 && true)) = _
  rw [Bool.and_true, Bool.eq_iff_iff]
  simp
theorem fr_dep {a : Int × Int} : dep (frD a) ≤ 8 := by show 1 ≤ 8; decide
end
end K53
namespace K53
open PySem L2
theorem low_eq {n s n' s' : Int} (hs : 1 ≤ s) (hs' : 1 ≤ s') (h : n * s' = n' * s) : lowN n s = lowN n' s' ∧ lowP n s = lowP n' s' := by
  have one : ∀ {a c k : Int}, 1 ≤ c → 1 ≤ k → lowN a c = lowN (a * k) (c * k) ∧ lowP a c = lowP (a * k) (c * k) := fun {a c k} h1 hk => by
    obtain ⟨m, rfl⟩ : ∃ m : Nat, k = (m : Int) := ⟨k.toNat, by omega⟩
    have hm : 0 < m := by omega
    have z := low_div (n := a * (m : Int)) (s := c * (m : Int)) (g := m) hm (by rw [Int.natAbs_mul, Int.natAbs_natCast]; exact Nat.dvd_mul_left _ _) (by rw [Int.natAbs_mul, Int.natAbs_natCast]; exact Nat.dvd_mul_left _ _)
    rw [Int.mul_ediv_cancel _ (by omega), Int.mul_ediv_cancel _ (by omega)] at z
    exact z
  have z1 := one (a := n) hs hs'
  have z2 := one (a := n') hs' hs
  rw [z1.1, z1.2, z2.1, z2.2, h, Int.mul_comm s s']
  exact ⟨rfl, rfl⟩
theorem lt_lowL {a c : Int × Int} (ha : 1 ≤ a.2) : ltP (lowF a) c = ltP a c := by
  obtain ⟨g, g1, e1, e2⟩ := low_back ha
  have l : a.1 * c.2 = lowN a.1 a.2 * c.2 * g := by
    have z : a.1 * c.2 = lowN a.1 a.2 * g * c.2 := by rw [← e1]
    rw [z, Int.mul_assoc, Int.mul_comm g, Int.mul_assoc]
  have r : c.1 * a.2 = c.1 * lowP a.1 a.2 * g := by
    have z : c.1 * a.2 = c.1 * (lowP a.1 a.2 * g) := by rw [← e2]
    rw [z, Int.mul_assoc]
  show decide (lowN a.1 a.2 * c.2 < c.1 * lowP a.1 a.2) = decide (a.1 * c.2 < c.1 * a.2)
  rw [l, r]
  exact decide_eq_decide.mpr ⟨fun h => Int.mul_lt_mul_of_pos_right h (by omega), fun h => Int.lt_of_mul_lt_mul_right h (by omega)⟩
theorem lt_lowR {a c : Int × Int} (ha : 1 ≤ a.2) : ltP c (lowF a) = ltP c a := by
  obtain ⟨g, g1, e1, e2⟩ := low_back ha
  have l : a.1 * c.2 = lowN a.1 a.2 * c.2 * g := by
    have z : a.1 * c.2 = lowN a.1 a.2 * g * c.2 := by rw [← e1]
    rw [z, Int.mul_assoc, Int.mul_comm g, Int.mul_assoc]
  have r : c.1 * a.2 = c.1 * lowP a.1 a.2 * g := by
    have z : c.1 * a.2 = c.1 * (lowP a.1 a.2 * g) := by rw [← e2]
    rw [z, Int.mul_assoc]
  show decide (c.1 * lowP a.1 a.2 < lowN a.1 a.2 * c.2) = decide (c.1 * a.2 < a.1 * c.2)
  rw [l, r]
  exact decide_eq_decide.mpr ⟨fun h => Int.mul_lt_mul_of_pos_right h (by omega), fun h => Int.lt_of_mul_lt_mul_right h (by omega)⟩
/-- rows as lists: == and the first place -/
theorem sgn_two (d : Int) : sgnI d = 1 ∨ sgnI d = -1 := by
  unfold sgnI
  split
  · exact .inr rfl
  · exact .inl rfl
/-- the place at which a straight measure p.1 * x + p.2 is nought, its bottom above nought -/
def rt (L : Int) (p : Int × Int) : Int × Int := (L * p.2 * sgnI (-(L * p.1)), -(L * p.1) * sgnI (-(L * p.1)))
theorem rt_pos {L : Int} {p : Int × Int} (hL : 1 ≤ L) (h : 0 < p.1) : rt L p = (-(L * p.2), L * p.1) ∧ 1 ≤ L * p.1 := by
  have h1 : 0 < L * p.1 := Int.mul_pos (by omega) h
  unfold rt sgnI
  rw [if_pos (by omega)]
  refine ⟨Prod.ext ?_ ?_, by omega⟩ <;> simp only <;> grind
theorem rt_neg {L : Int} {p : Int × Int} (hL : 1 ≤ L) (h : p.1 < 0) : rt L p = (L * p.2, -(L * p.1)) ∧ 1 ≤ -(L * p.1) := by
  have h1 : 0 < L * (-p.1) := Int.mul_pos (by omega) (by omega)
  have h2 : L * (-p.1) = -(L * p.1) := by grind
  unfold rt sgnI
  rw [if_neg (by omega)]
  refine ⟨Prod.ext ?_ ?_, by omega⟩ <;> simp only <;> grind
structure WS where
  g : Int × Int
  l : Int × Int
  fg : Bool
  fl : Bool
def w0 (L : Int) : WS := ⟨(0, 1), (L, 1), true, true⟩
/-- one row of the others' corners, as the law goes -/
def wSt (lo hi L : Int) (s : WS) (p : Int × Int) : WS :=
  if p.1 = 0 then s else
    if ltP (lowF (rt L p)) (lo, 1) && !ltP (lowF (rt L p)) s.g then
      if ltP (hi, 1) (lowF (rt L p)) && !ltP s.l (lowF (rt L p)) then ⟨lowF (rt L p), lowF (rt L p), false, false⟩ else ⟨lowF (rt L p), s.l, false, s.fl⟩
    else if ltP (hi, 1) (lowF (rt L p)) && !ltP s.l (lowF (rt L p)) then ⟨s.g, lowF (rt L p), s.fg, false⟩ else s
structure WInv (lo hi L : Int) (R : List (Int × Int)) (s : WS) : Prop where
  g2 : 1 ≤ s.g.2
  g0 : 0 ≤ s.g.1
  gl : lowF s.g = s.g
  gt : s.fg = true → s.g = (0, 1) ∧ ∀ p ∈ R, 0 < p.2
  gf : s.fg = false → s.g.1 < lo * s.g.2 ∧ ∃ p ∈ R, s.g.1 * p.1 + s.g.2 * p.2 = 0
  gm : ∀ p ∈ R, 0 < p.1 → 0 ≤ s.g.1 * p.1 + s.g.2 * p.2
  l2 : 1 ≤ s.l.2
  l0 : s.l.1 ≤ L * s.l.2
  ll : lowF s.l = s.l
  lt : s.fl = true → s.l = (L, 1) ∧ ∀ p ∈ R, 0 < L * p.1 + p.2
  lf : s.fl = false → hi * s.l.2 < s.l.1 ∧ ∃ p ∈ R, s.l.1 * p.1 + s.l.2 * p.2 = 0
  lm : ∀ p ∈ R, p.1 < 0 → 0 ≤ s.l.1 * p.1 + s.l.2 * p.2
end K53
namespace K53
open PySem L2
theorem pos_of_mul {L x : Int} (hL : 1 ≤ L) (h : 0 < L * x) : 0 < x := by
  refine Int.not_le.mp fun z => ?_
  have := Int.mul_nonpos_of_nonneg_of_nonpos (show 0 ≤ L by omega) z
  omega
theorem mul_pos' {L x : Int} (hL : 1 ≤ L) (h : 0 < x) : 0 < L * x := Int.mul_pos (by omega) h
theorem lt_pos {L : Int} {p g : Int × Int} (hL : 1 ≤ L) (h : 0 < p.1) : (ltP (lowF (rt L p)) g = true ↔ 0 < g.1 * p.1 + g.2 * p.2) ∧ (ltP g (lowF (rt L p)) = true ↔ g.1 * p.1 + g.2 * p.2 < 0) := by
  obtain ⟨e, e1⟩ := rt_pos (p := p) hL h
  rw [e, lt_lowL e1, lt_lowR e1]
  unfold ltP
  simp only [decide_eq_true_iff]
  have z : g.1 * (L * p.1) - -(L * p.2) * g.2 = L * (g.1 * p.1 + g.2 * p.2) := by grind
  constructor
  · constructor
    · intro q; exact pos_of_mul hL (by omega)
    · intro q; have := mul_pos' hL q; omega
  · constructor
    · intro q
      have := pos_of_mul (x := -(g.1 * p.1 + g.2 * p.2)) hL (by rw [Int.mul_neg]; omega)
      omega
    · intro q
      have := mul_pos' (x := -(g.1 * p.1 + g.2 * p.2)) hL (by omega)
      rw [Int.mul_neg] at this
      omega
theorem lt_neg' {L : Int} {p g : Int × Int} (hL : 1 ≤ L) (h : p.1 < 0) : (ltP g (lowF (rt L p)) = true ↔ 0 < g.1 * p.1 + g.2 * p.2) ∧ (ltP (lowF (rt L p)) g = true ↔ g.1 * p.1 + g.2 * p.2 < 0) := by
  obtain ⟨e, e1⟩ := rt_neg (p := p) hL h
  rw [e, lt_lowL e1, lt_lowR e1]
  unfold ltP
  simp only [decide_eq_true_iff]
  have z : L * p.2 * g.2 - g.1 * -(L * p.1) = L * (g.1 * p.1 + g.2 * p.2) := by grind
  constructor
  · constructor
    · intro q; exact pos_of_mul hL (by omega)
    · intro q; have := mul_pos' hL q; omega
  · constructor
    · intro q
      have := pos_of_mul (x := -(g.1 * p.1 + g.2 * p.2)) hL (by rw [Int.mul_neg]; omega)
      omega
    · intro q
      have := mul_pos' (x := -(g.1 * p.1 + g.2 * p.2)) hL (by omega)
      rw [Int.mul_neg] at this
      omega
/-- the root's own facts -/
theorem rt_root {L : Int} {p : Int × Int} (hL : 1 ≤ L) (h : p.1 ≠ 0) : 1 ≤ (lowF (rt L p)).2 ∧ (lowF (rt L p)).1 * p.1 + (lowF (rt L p)).2 * p.2 = 0 ∧ lowF (lowF (rt L p)) = lowF (rt L p) := by
  have h2 : 1 ≤ (rt L p).2 ∧ (rt L p).1 * p.1 + (rt L p).2 * p.2 = 0 := by
    rcases Int.lt_or_gt_of_ne h with h | h
    · obtain ⟨e, e1⟩ := rt_neg (p := p) hL h
      rw [e]
      exact ⟨e1, by simp only; grind⟩
    · obtain ⟨e, e1⟩ := rt_pos (p := p) hL h
      rw [e]
      exact ⟨e1, by simp only; grind⟩
  obtain ⟨h2, h3⟩ := h2
  have hp : 1 ≤ (lowF (rt L p)).2 := low_pos h2
  obtain ⟨k, k1, e1, e2⟩ := low_back h2
  refine ⟨hp, ?_, ?_⟩
  · have z : k * ((lowF (rt L p)).1 * p.1 + (lowF (rt L p)).2 * p.2) = 0 := by
      show k * (lowN (rt L p).1 (rt L p).2 * p.1 + lowP (rt L p).1 (rt L p).2 * p.2) = 0
      generalize lowN (rt L p).1 (rt L p).2 = x at *
      generalize lowP (rt L p).1 (rt L p).2 = y at *
      grind
    exact (Int.mul_eq_zero.mp z).resolve_left (by omega)
  · have z := low_eq (n := (lowF (rt L p)).1) (s := (lowF (rt L p)).2) (n' := (rt L p).1) (s' := (rt L p).2) hp h2 (by
      show lowN (rt L p).1 (rt L p).2 * (rt L p).2 = (rt L p).1 * lowP (rt L p).1 (rt L p).2
      generalize lowN (rt L p).1 (rt L p).2 = x at *
      generalize lowP (rt L p).1 (rt L p).2 = y at *
      rw [e1, e2]
      grind)
    exact Prod.ext z.1 z.2
theorem wSt_pos {lo hi L : Int} {s : WS} {p : Int × Int} (hL : 1 ≤ L) (h : 0 < p.1) (h1 : 0 < lo * p.1 + p.2) (h2 : 0 < hi * p.1 + p.2) : wSt lo hi L s p = if 0 < s.g.1 * p.1 + s.g.2 * p.2 then s else ⟨lowF (rt L p), s.l, false, s.fl⟩ := by
  unfold wSt
  have c1 : ltP (lowF (rt L p)) (lo, 1) = true := (lt_pos hL h).1.mpr (by simp only; omega)
  have c2 : ltP (hi, 1) (lowF (rt L p)) = false := by
    cases e : ltP (hi, 1) (lowF (rt L p)) with
    | false => rfl
    | true => have := (lt_pos hL h).2.mp e; simp only at this; omega
  rw [if_neg (by omega), c1, c2]
  simp only [Bool.true_and, Bool.false_and, Bool.false_eq_true, if_false, Bool.not_eq_true']
  by_cases c : 0 < s.g.1 * p.1 + s.g.2 * p.2
  · rw [if_pos c, (lt_pos hL h).1.mpr c, if_neg (by decide)]
  · rw [if_neg c]
    have : ltP (lowF (rt L p)) s.g = false := by
      cases e : ltP (lowF (rt L p)) s.g with
      | false => rfl
      | true => exact absurd ((lt_pos hL h).1.mp e) c
    rw [this, if_pos rfl]
theorem wSt_neg {lo hi L : Int} {s : WS} {p : Int × Int} (hL : 1 ≤ L) (h : p.1 < 0) (h1 : 0 < lo * p.1 + p.2) (h2 : 0 < hi * p.1 + p.2) : wSt lo hi L s p = if 0 < s.l.1 * p.1 + s.l.2 * p.2 then s else ⟨s.g, lowF (rt L p), s.fg, false⟩ := by
  unfold wSt
  have c1 : ltP (hi, 1) (lowF (rt L p)) = true := (lt_neg' hL h).1.mpr (by simp only; omega)
  have c2 : ltP (lowF (rt L p)) (lo, 1) = false := by
    cases e : ltP (lowF (rt L p)) (lo, 1) with
    | false => rfl
    | true => have := (lt_neg' hL h).2.mp e; simp only at this; omega
  rw [if_neg (by omega), c1, c2]
  simp only [Bool.true_and, Bool.false_and, Bool.false_eq_true, if_false, Bool.not_eq_true']
  by_cases c : 0 < s.l.1 * p.1 + s.l.2 * p.2
  · rw [if_pos c, (lt_neg' hL h).1.mpr c, if_neg (by decide)]
  · rw [if_neg c]
    have : ltP s.l (lowF (rt L p)) = false := by
      cases e : ltP s.l (lowF (rt L p)) with
      | false => rfl
      | true => exact absurd ((lt_neg' hL h).1.mp e) c
    rw [this, if_pos rfl]
/-- one row, as the program goes -/
def pSt (L : Int) (s : WS) (p : Int × Int) : WS :=
  let s1 : WS := if p.2 ≤ 0 then ⟨if ltP s.g (lowF (rt L p)) then lowF (rt L p) else s.g, s.l, false, s.fl⟩ else s
  if L * p.1 + p.2 ≤ 0 then ⟨s1.g, if ltP s1.l (lowF (rt L p)) then s1.l else lowF (rt L p), s1.fg, false⟩ else s1
theorem mono_pos {a x y : Int} (ha : 0 < a) (h : x ≤ y) : x * a ≤ y * a := Int.mul_le_mul_of_nonneg_right h (by omega)
theorem p_is_w {lo hi L : Int} {R : List (Int × Int)} {s : WS} {p : Int × Int} (hL : 1 ≤ L) (l0 : 0 ≤ lo) (lh : lo ≤ hi) (hl : hi ≤ L) (I : WInv lo hi L R s) (h1 : 0 < lo * p.1 + p.2) (h2 : 0 < hi * p.1 + p.2) : pSt L s p = wSt lo hi L s p := by
  have sle : ∀ {x y : Int × Int}, 1 ≤ x.2 → p.1 ≠ 0 → lowF x = x → x.1 * p.1 + x.2 * p.2 = 0 → x = lowF (rt L p) := fun {x y} hx hp e z => by
    obtain ⟨r2, r0, rl⟩ := rt_root hL hp
    rw [← e, ← rl]
    have q := low_eq hx r2 (show x.1 * (lowF (rt L p)).2 = (lowF (rt L p)).1 * x.2 from by
      have : p.1 * (x.1 * (lowF (rt L p)).2 - (lowF (rt L p)).1 * x.2) = 0 := by grind
      have := (Int.mul_eq_zero.mp this).resolve_left hp
      omega)
    exact Prod.ext q.1 q.2
  rcases Int.lt_trichotomy p.1 0 with h | h | h
  · have hb : 0 < p.2 := by
      have : lo * p.1 ≤ 0 := Int.mul_nonpos_of_nonneg_of_nonpos l0 (by omega)
      omega
    rw [wSt_neg hL h h1 h2]
    unfold pSt
    simp only [show ¬ p.2 ≤ 0 by omega, if_false]
    by_cases c : L * p.1 + p.2 ≤ 0
    · rw [if_pos c]
      by_cases d : 0 < s.l.1 * p.1 + s.l.2 * p.2
      · rw [if_pos d, (lt_neg' hL h).1.mpr d, if_pos rfl]
        have hf : s.fl = false := by
          cases e : s.fl with
          | false => rfl
          | true =>
            rw [(I.lt e).1] at d
            simp only at d
            omega
        rw [← hf]
      · have d2 : ltP s.l (lowF (rt L p)) = false := by
          cases e : ltP s.l (lowF (rt L p)) with
          | false => rfl
          | true => exact absurd ((lt_neg' hL h).1.mp e) d
        rw [if_neg d, d2, if_neg (by decide)]
    · rw [if_neg c]
      have d : 0 < s.l.1 * p.1 + s.l.2 * p.2 := by
        have a1 := I.l0
        have a2 := I.l2
        have e1 : (L * s.l.2) * p.1 ≤ s.l.1 * p.1 := by
          have := Int.mul_le_mul_of_nonneg_right a1 (show 0 ≤ -p.1 by omega)
          rw [Int.mul_neg, Int.mul_neg] at this
          omega
        have e2 : 0 < s.l.2 * (L * p.1 + p.2) := Int.mul_pos (by omega) (by omega)
        have e3 : s.l.2 * (L * p.1 + p.2) = (L * s.l.2) * p.1 + s.l.2 * p.2 := by grind
        omega
      rw [if_pos d]
  · have hb : 0 < p.2 := by rw [h] at h1; omega
    unfold wSt pSt
    rw [if_pos h]
    simp only [show ¬ p.2 ≤ 0 by omega, if_false]
    rw [if_neg (by rw [h]; omega)]
  · have hLb : 0 < L * p.1 + p.2 := by
      have := mono_pos h hl
      omega
    rw [wSt_pos hL h h1 h2]
    unfold pSt
    by_cases c : p.2 ≤ 0
    · simp only [c, if_true]
      rw [if_neg (by omega)]
      by_cases d : 0 < s.g.1 * p.1 + s.g.2 * p.2
      · rw [if_pos d]
        have hf : s.fg = false := by
          cases e : s.fg with
          | false => rfl
          | true =>
            rw [(I.gt e).1] at d
            simp only at d
            omega
        have d2 : ltP s.g (lowF (rt L p)) = false := by
          cases e : ltP s.g (lowF (rt L p)) with
          | false => rfl
          | true => have := (lt_pos hL h).2.mp e; omega
        rw [d2, if_neg (by decide), ← hf]
      · rw [if_neg d]
        by_cases d3 : s.g.1 * p.1 + s.g.2 * p.2 < 0
        · rw [(lt_pos hL h).2.mpr d3, if_pos rfl]
        · have d2 : ltP s.g (lowF (rt L p)) = false := by
            cases e : ltP s.g (lowF (rt L p)) with
            | false => rfl
            | true => have := (lt_pos hL h).2.mp e; omega
          rw [d2, if_neg (by decide), ← sle (y := s.g) I.g2 (by omega) I.gl (by omega)]
    · simp only [c, if_false]
      rw [if_neg (by omega), if_pos (by
        have := Int.mul_nonneg I.g0 (show 0 ≤ p.1 by omega)
        have := Int.mul_pos (show 0 < s.g.2 by have := I.g2; omega) (show 0 < p.2 by omega)
        omega)]
theorem low_one1 (L : Int) : lowN L 1 = L ∧ lowP L 1 = 1 := by
  unfold lowN lowP
  rw [show (1 : Int).natAbs = 1 from rfl, Nat.gcd_one_left]
  exact ⟨Int.ediv_one L, rfl⟩
theorem inv_w0 {lo hi L : Int} (hL : 1 ≤ L) : WInv lo hi L [] (w0 L) where
  g2 := by show (1 : Int) ≤ 1; decide
  g0 := by show (0 : Int) ≤ 0; decide
  gl := by show lowF (0, 1) = (0, 1); decide
  gt := fun _ => ⟨rfl, fun p h => by cases h⟩
  gf := fun h => by cases h
  gm := fun p h => by cases h
  l2 := by show (1 : Int) ≤ 1; decide
  l0 := by show L ≤ L * 1; omega
  ll := by
    have e := low_one1 L
    exact Prod.ext e.1 e.2
  lt := fun _ => ⟨rfl, fun p h => by cases h⟩
  lf := fun h => by cases h
  lm := fun p h => by cases h
theorem sg1 {a z : Int} (ha : a < 0) (h : a * z ≤ 0) : 0 ≤ z := by
  refine Int.not_lt.mp fun q => ?_
  have := Int.mul_pos_of_neg_of_neg ha q
  omega
theorem sg2 {a z : Int} (ha : a < 0) (h : a * z < 0) : 0 < z := by
  refine Int.not_le.mp fun q => ?_
  have := Int.mul_nonneg_of_nonpos_of_nonpos (Int.le_of_lt ha) q
  omega
theorem sg3 {a z : Int} (ha : 0 < a) (h : 0 ≤ a * z) : 0 ≤ z := by
  refine Int.not_lt.mp fun q => ?_
  have := Int.mul_neg_of_pos_of_neg ha q
  omega
theorem sg4 {a z : Int} (ha : 0 < a) (h : 0 < a * z) : 0 < z := by
  refine Int.not_le.mp fun q => ?_
  have := Int.mul_nonpos_of_nonneg_of_nonpos (Int.le_of_lt ha) q
  omega
theorem inv_step {lo hi L : Int} {R : List (Int × Int)} {s : WS} {p : Int × Int} (hL : 1 ≤ L) (l0 : 0 ≤ lo) (lh : lo ≤ hi) (hl : hi ≤ L) (I : WInv lo hi L R s) (h1 : 0 < lo * p.1 + p.2) (h2 : 0 < hi * p.1 + p.2) : WInv lo hi L (R ++ [p]) (wSt lo hi L s p) := by
  have mem : ∀ {q : Int × Int} {C : Int × Int → Prop}, (∀ q ∈ R, C q) → C p → ∀ q ∈ R ++ [p], C q := fun {q C} a b q hq => by
    rcases List.mem_append.mp hq with z | z
    · exact a q z
    · rw [List.mem_singleton.mp z]; exact b
  have inR : ∀ {C : Int × Int → Prop}, (∃ q ∈ R, C q) → ∃ q ∈ R ++ [p], C q := fun {C} ⟨q, a, b⟩ => ⟨q, List.mem_append_left _ a, b⟩
  rcases Int.lt_trichotomy p.1 0 with h | h | h
  · have hb : 0 < p.2 := by
      have : lo * p.1 ≤ 0 := Int.mul_nonpos_of_nonneg_of_nonpos l0 (by omega)
      omega
    rw [wSt_neg hL h h1 h2]
    by_cases c : 0 < s.l.1 * p.1 + s.l.2 * p.2
    · rw [if_pos c]
      exact { I with
        gt := fun e => ⟨(I.gt e).1, mem (q := p) (I.gt e).2 hb⟩
        gf := fun e => ⟨(I.gf e).1, inR (I.gf e).2⟩
        gm := mem (q := p) I.gm (fun z => absurd z (by omega))
        lt := fun e => ⟨(I.lt e).1, mem (q := p) (I.lt e).2 (by rw [(I.lt e).1] at c; simp only at c; omega)⟩
        lf := fun e => ⟨(I.lf e).1, inR (I.lf e).2⟩
        lm := mem (q := p) I.lm (fun _ => by omega) }
    · rw [if_neg c]
      obtain ⟨r2, r0, rl⟩ := rt_root hL (show p.1 ≠ 0 by omega)
      generalize lowF (rt L p) = r at r2 r0 rl
      obtain ⟨x, y⟩ := r
      have a1 := I.l0
      have a2 := I.l2
      have hLab : L * p.1 + p.2 ≤ 0 := by
        have e1 : (L * s.l.2) * p.1 ≤ s.l.1 * p.1 := by
          have := Int.mul_le_mul_of_nonneg_right a1 (show 0 ≤ -p.1 by omega)
          rw [Int.mul_neg, Int.mul_neg] at this
          omega
        have e3 : s.l.2 * (L * p.1 + p.2) = (L * s.l.2) * p.1 + s.l.2 * p.2 := by grind
        refine Int.not_lt.mp fun q => ?_
        have := Int.mul_pos (show 0 < s.l.2 by omega) q
        omega
      simp only at r2 r0
      have hxl : 0 ≤ s.l.1 * y - s.l.2 * x := sg1 h (by
        have : p.1 * (s.l.1 * y - s.l.2 * x) = y * (s.l.1 * p.1 + s.l.2 * p.2) := by grind
        rw [this]
        exact Int.mul_nonpos_of_nonneg_of_nonpos (by omega) (by omega))
      exact { I with
        gt := fun e => ⟨(I.gt e).1, mem (q := p) (I.gt e).2 hb⟩
        gf := fun e => ⟨(I.gf e).1, inR (I.gf e).2⟩
        gm := mem (q := p) I.gm (fun z => absurd z (by omega))
        l2 := r2
        l0 := by
          have := sg1 (z := L * y - x) h (by
            have : p.1 * (L * y - x) = y * (L * p.1 + p.2) := by grind
            rw [this]
            exact Int.mul_nonpos_of_nonneg_of_nonpos (by omega) hLab)
          show x ≤ L * y
          omega
        ll := rl
        lt := fun e => by cases e
        lf := fun _ => ⟨by
          have := sg2 (z := x - hi * y) h (by
            have e : p.1 * (x - hi * y) = -(y * (hi * p.1 + p.2)) := by grind
            have := Int.mul_pos (show 0 < y by omega) h2
            omega)
          show hi * y < x
          omega, p, List.mem_append_right _ (List.mem_singleton.mpr rfl), r0⟩
        lm := mem (q := p) (fun q hq hn => by
          have b1 := I.lm q hq hn
          show 0 ≤ x * q.1 + y * q.2
          refine sg3 (a := s.l.2) (by omega) ?_
          have e : s.l.2 * (x * q.1 + y * q.2) = y * (s.l.1 * q.1 + s.l.2 * q.2) + -q.1 * (s.l.1 * y - s.l.2 * x) := by grind
          have c1 := Int.mul_nonneg (show 0 ≤ y by omega) b1
          have c2 := Int.mul_nonneg (show 0 ≤ -q.1 by omega) hxl
          omega) (fun _ => by show 0 ≤ x * p.1 + y * p.2; omega) }
  · have hb : 0 < p.2 := by rw [h] at h1; omega
    rw [show wSt lo hi L s p = s from by unfold wSt; rw [if_pos h]]
    exact { I with
      gt := fun e => ⟨(I.gt e).1, mem (q := p) (I.gt e).2 hb⟩
      gf := fun e => ⟨(I.gf e).1, inR (I.gf e).2⟩
      gm := mem (q := p) I.gm (fun z => absurd z (by omega))
      lt := fun e => ⟨(I.lt e).1, mem (q := p) (I.lt e).2 (by rw [h]; omega)⟩
      lf := fun e => ⟨(I.lf e).1, inR (I.lf e).2⟩
      lm := mem (q := p) I.lm (fun z => absurd z (by omega)) }
  · have hLb : 0 < L * p.1 + p.2 := by
      have := mono_pos h hl
      omega
    rw [wSt_pos hL h h1 h2]
    by_cases c : 0 < s.g.1 * p.1 + s.g.2 * p.2
    · rw [if_pos c]
      exact { I with
        gt := fun e => ⟨(I.gt e).1, mem (q := p) (I.gt e).2 (by rw [(I.gt e).1] at c; simp only at c; omega)⟩
        gf := fun e => ⟨(I.gf e).1, inR (I.gf e).2⟩
        gm := mem (q := p) I.gm (fun _ => by omega)
        lt := fun e => ⟨(I.lt e).1, mem (q := p) (I.lt e).2 hLb⟩
        lf := fun e => ⟨(I.lf e).1, inR (I.lf e).2⟩
        lm := mem (q := p) I.lm (fun z => absurd z (by omega)) }
    · rw [if_neg c]
      obtain ⟨r2, r0, rl⟩ := rt_root hL (show p.1 ≠ 0 by omega)
      generalize lowF (rt L p) = r at r2 r0 rl
      obtain ⟨x, y⟩ := r
      have a1 := I.g0
      have a2 := I.g2
      simp only at r2 r0
      have hb : p.2 ≤ 0 := by
        refine Int.not_lt.mp fun q => c ?_
        have := Int.mul_nonneg a1 (show 0 ≤ p.1 by omega)
        have := Int.mul_pos (show 0 < s.g.2 by omega) q
        omega
      have hxg : 0 ≤ x * s.g.2 - s.g.1 * y := sg3 h (by
        have e : p.1 * (x * s.g.2 - s.g.1 * y) = y * -(s.g.1 * p.1 + s.g.2 * p.2) := by grind
        rw [e]
        exact Int.mul_nonneg (by omega) (by omega))
      exact { I with
        g2 := r2
        g0 := by
          refine sg3 h ?_
          have e : p.1 * x = y * -p.2 := by grind
          show 0 ≤ p.1 * x
          rw [e]
          exact Int.mul_nonneg (by omega) (by omega)
        gl := rl
        gt := fun e => by cases e
        gf := fun _ => ⟨by
          have := sg4 (z := lo * y - x) h (by
            have e : p.1 * (lo * y - x) = y * (lo * p.1 + p.2) := by grind
            rw [e]
            exact Int.mul_pos (by omega) h1)
          show x < lo * y
          omega, p, List.mem_append_right _ (List.mem_singleton.mpr rfl), r0⟩
        gm := mem (q := p) (fun q hq hn => by
          have b1 := I.gm q hq hn
          show 0 ≤ x * q.1 + y * q.2
          refine sg3 (a := s.g.2) (by omega) ?_
          have e : s.g.2 * (x * q.1 + y * q.2) = y * (s.g.1 * q.1 + s.g.2 * q.2) + q.1 * (x * s.g.2 - s.g.1 * y) := by grind
          have c1 := Int.mul_nonneg (show 0 ≤ y by omega) b1
          have c2 := Int.mul_nonneg (show 0 ≤ q.1 by omega) hxg
          omega) (fun _ => by show 0 ≤ x * p.1 + y * p.2; omega)
        lt := fun e => ⟨(I.lt e).1, mem (q := p) (I.lt e).2 hLb⟩
        lf := fun e => ⟨(I.lf e).1, inR (I.lf e).2⟩
        lm := mem (q := p) I.lm (fun z => absurd z (by omega)) }
end K53
namespace Mx
/-- all rows so many times as great -/
theorem RowLin.scale {n : Nat} {F : (Nat → Nat → Int) → Int} (L : RowLin n F) (c : Int) (M : Nat → Nat → Int) : ∀ m, m ≤ n → F (fun i k => if i < m then c * M i k else M i k) = c ^ m * F M := by
  intro m
  induction m with
  | zero =>
    intro _
    rw [show (fun i k => if i < 0 then c * M i k else M i k) = M from funext fun i => funext fun k => if_neg (Nat.not_lt_zero i), Int.pow_zero, Int.one_mul]
  | succ m ih =>
    intro hm
    have h1 : (fun i k => if i < m + 1 then c * M i k else M i k) = rr (fun i k => if i < m then c * M i k else M i k) m fun k => c * M m k + 0 * M m k := by
      funext i k
      unfold rr
      by_cases e : i = m
      · rw [if_pos (by omega), if_pos e, e]
        show c * M m k = c * M m k + 0 * M m k
        omega
      · rw [if_neg e]
        by_cases e2 : i < m
        · simp only [e2, if_true, show i < m + 1 by omega]
        · simp only [e2, if_false, show ¬ i < m + 1 by omega]
    have h2 : rr (fun i k => if i < m then c * M i k else M i k) m (M m) = fun i k => if i < m then c * M i k else M i k := by
      funext i k
      unfold rr
      by_cases e : i = m
      · rw [if_pos e, e, if_neg (by omega)]
      · rw [if_neg e]
    rw [h1, L.lin _ m c 0 (M m) (M m) (by omega), h2, ih (by omega), Int.zero_mul, Int.add_zero, Int.pow_succ]
    rw [Int.mul_comm (c ^ m) c, Int.mul_assoc]
end Mx
namespace K53
open PySem L2
/-- the bars, one of them with another span -/
def withB (bs : List BarD) (t : Nat) (b : BarD) (l g : Int) : List BarD := bs.set t { b with lo := l, hi := g }
theorem len_with {bs : List BarD} {t : Nat} {b : BarD} {l g : Int} : (withB bs t b l g).length = bs.length := by unfold withB; rw [List.length_set]
theorem with_at {bs : List BarD} {t : Nat} {b : BarD} {l g : Int} (ht : t < bs.length) : (withB bs t b l g)[t]? = some { b with lo := l, hi := g } := by
  unfold withB
  rw [List.getElem?_set_self ht]
theorem with_ne {bs : List BarD} {t i : Nat} {b : BarD} {l g : Int} (h : i ≠ t) : (withB bs t b l g)[i]? = bs[i]? := by
  unfold withB
  rw [List.getElem?_set_ne (fun e => h e.symm)]
theorem rows_with {n : Nat} {q : Int} {bs : List BarD} {t : Nat} {b : BarD} {l g : Int} (hb : bs[t]? = some b) (ns : List Int) : barRows n q (withB bs t b l g) ns = barRows n q bs ns := by
  have ht := (List.getElem?_eq_some_iff.mp hb).1
  unfold barRows
  refine List.ext_getElem? fun i => ?_
  rw [List.getElem?_map, List.getElem?_map]
  unfold List.zip
  rw [List.getElem?_zipWith, List.getElem?_zipWith]
  by_cases h : i = t
  · subst h
    rw [with_at ht, hb]
    cases ns[i]? <;> rfl
  · rw [with_ne h]
theorem det_with {n : Nat} {hs : List Int} {q : Int} {bs : List BarD} {t : Nat} {b : BarD} {l g : Int} (hb : bs[t]? = some b) (ns : List Int) : detB n hs q (withB bs t b l g) ns = detB n hs q bs ns := by
  unfold detB tabRows
  rw [len_with, rows_with hb]
section
variable {n : Nat} {q : Int} {hl : List (Int × Int)} {bs : List BarD} {ns : List Int}
abbrev bxI (n : Nat) (q : Int) (hl : List (Int × Int)) (bs : List BarD) (ns : List Int) : Nat → Nat → Int := Mx.bx (augA n (hangL (n : Int) hl) hl bs) (augB n (hangL (n : Int) hl) hl bs) (fun i => ns.getD i 0) fun _ => q
theorem dI_bx (hhs : (hangL (n : Int) hl).length = bs.length) (hnl : ns.length = bs.length) : detB n (hangL (n : Int) hl) q bs ns = Mx.det bs.length (bxI n q hl bs ns) := det_bx hhs hnl
theorem set_rr {t : Nat} {y : Int} (ht : t < ns.length) : bxI n q hl bs (ns.set t y) = Mx.rr (bxI n q hl bs ns) t fun k => y * augA n (hangL (n : Int) hl) hl bs t k + q * augB n (hangL (n : Int) hl) hl bs t k := by
  funext i k
  unfold Mx.rr
  by_cases h : i = t
  · subst h
    simp only [if_true]
    show (ns.set i y).getD i 0 * _ + q * _ = _
    rw [List.getD_eq_getElem?_getD, List.getElem?_set_self ht]
    rfl
  · simp only [h, if_false]
    show (ns.set t y).getD i 0 * _ + q * _ = ns.getD i 0 * _ + q * _
    rw [List.getD_eq_getElem?_getD, List.getElem?_set_ne (fun e => h e.symm), ← List.getD_eq_getElem?_getD]
/-- the determinant, straight in the hook t: x * aR + bR -/
def aR (n : Nat) (hl : List (Int × Int)) (bs : List BarD) (t : Nat) (row : List Int) : Int := Mx.det bs.length (Mx.rr (bxI n 1 hl bs row) t (augA n (hangL (n : Int) hl) hl bs t))
def bR (n : Nat) (hl : List (Int × Int)) (bs : List BarD) (t : Nat) (row : List Int) : Int := Mx.det bs.length (Mx.rr (bxI n 1 hl bs row) t (augB n (hangL (n : Int) hl) hl bs t))
theorem det_set {t : Nat} {x : Int} {row : List Int} (hhs : (hangL (n : Int) hl).length = bs.length) (hnl : row.length = bs.length) (ht : t < bs.length) : detB n (hangL (n : Int) hl) 1 bs (row.set t x) = x * aR n hl bs t row + bR n hl bs t row := by
  rw [dI_bx hhs (by rw [List.length_set]; exact hnl), set_rr (by omega), (Mx.RowLin.det bs.length).lin _ t x 1 _ _ ht, Int.one_mul]
  rfl
theorem det_scaled {t : Nat} {y : Int} {row : List Int} (hhs : (hangL (n : Int) hl).length = bs.length) (hnl : row.length = bs.length) (ht : t < bs.length) (hq : 1 ≤ q) : detB n (hangL (n : Int) hl) q bs ((row.map fun x => x * q).set t y) = 0 ↔ y * aR n hl bs t row + q * bR n hl bs t row = 0 := by
  have hml : (row.map fun x => x * q).length = bs.length := by rw [List.length_map]; exact hnl
  have e1 : q * detB n (hangL (n : Int) hl) q bs ((row.map fun x => x * q).set t y) = q ^ bs.length * (y * aR n hl bs t row + q * bR n hl bs t row) := by
    rw [dI_bx hhs (by rw [List.length_set]; exact hml), set_rr (by omega)]
    have z1 := (Mx.RowLin.det bs.length).lin (bxI n q hl bs (row.map fun x => x * q)) t q 0 (fun k => y * augA n (hangL (n : Int) hl) hl bs t k + q * augB n (hangL (n : Int) hl) hl bs t k) (fun k => y * augA n (hangL (n : Int) hl) hl bs t k + q * augB n (hangL (n : Int) hl) hl bs t k) ht
    rw [Int.zero_mul, Int.add_zero] at z1
    rw [← z1]
    have z2 := (Mx.RowLin.det bs.length).scale q (Mx.rr (bxI n 1 hl bs row) t fun k => y * augA n (hangL (n : Int) hl) hl bs t k + q * augB n (hangL (n : Int) hl) hl bs t k) bs.length (Nat.le_refl _)
    rw [(Mx.RowLin.det bs.length).lin _ t y q _ _ ht] at z2
    refine Eq.trans ?_ z2
    refine det_cg _ _ fun i k hi => ?_
    rw [if_pos hi]
    unfold Mx.rr
    by_cases h : i = t
    · simp only [h, if_true]
      omega
    · simp only [h, if_false]
      show (row.map fun x => x * q).getD i 0 * _ + q * _ = q * (row.getD i 0 * _ + 1 * _)
      have hi2 : i < row.length := by omega
      rw [List.getD_eq_getElem?_getD, List.getElem?_map, List.getD_eq_getElem?_getD, List.getElem?_eq_getElem hi2]
      show row[i] * q * _ + q * _ = q * (row[i] * _ + 1 * _)
      grind
  have hp : q ^ bs.length ≠ 0 := by
    have : 0 < q ^ bs.length := Int.pow_pos (by omega)
    omega
  constructor
  · intro h
    rw [h, Int.mul_zero] at e1
    exact (Int.mul_eq_zero.mp e1.symm).resolve_left hp
  · intro h
    rw [h, Int.mul_zero] at e1
    exact (Int.mul_eq_zero.mp e1).resolve_left (by omega)
end
/-- the corners of the other bars' spans, this bar's hook at nought -/
def rows0 (bs : List BarD) (t : Nat) (b : BarD) : List (List Int) := cornersB (withB bs t b 0 0)
theorem rows0_len {bs : List BarD} {t : Nat} {b : BarD} {row : List Int} (h : row ∈ rows0 bs t b) : row.length = bs.length := by
  rw [corner_len h, len_with]
theorem pk_set : ∀ {css : List (List Int)} {row : List Int} {i : Nat} {es : List Int} {z : Int}, Pk css row → z ∈ es → Pk (css.set i es) (row.set i z)
  | [], _, _, _, _, h, _ => by cases (show _ = [] from h); rfl
  | cs :: css, _, 0, es, z, ⟨e, r, h, _, hp⟩, hz => by
    subst h
    exact ⟨z, r, rfl, hz, hp⟩
  | cs :: css, _, i + 1, es, z, ⟨e, r, h, he, hp⟩, hz => by
    subst h
    exact ⟨e, r.set i z, rfl, he, pk_set hp hz⟩
/-- a corner with this hook put elsewhere -/
theorem corner_put {bs : List BarD} {t : Nat} {b : BarD} {l g l' g' z : Int} {row : List Int} (h : row ∈ cornersB (withB bs t b l g)) (hz : z = l' ∨ z = g') : row.set t z ∈ cornersB (withB bs t b l' g') := by
  have h1 := mem_spread.mp h
  refine mem_spread.mpr ?_
  have e : ((withB bs t b l g).map endsI).set t (endsI { b with lo := l', hi := g' }) = (withB bs t b l' g').map endsI := by
    unfold withB
    rw [← List.map_set, List.set_set]
  have z1 := pk_set (i := t) (es := endsI { b with lo := l', hi := g' }) (z := z) h1 (mem_ends.mpr hz)
  rw [e] at z1
  exact z1
theorem with_self {bs : List BarD} {t : Nat} {b : BarD} (hb : bs[t]? = some b) : withB bs t b b.lo b.hi = bs := by
  unfold withB
  refine List.ext_getElem? fun i => ?_
  by_cases h : i = t
  · subst h
    rw [List.getElem?_set_self (List.getElem?_eq_some_iff.mp hb).1, hb]
  · rw [List.getElem?_set_ne (fun e => h e.symm)]
/-- of one sign at all corners of a span of this hook -/
theorem firm_with {n : Nat} {hl : List (Int × Int)} {bs : List BarD} {t : Nat} {b : BarD} {l g : Int} (hhs : (hangL (n : Int) hl).length = bs.length) (hb : bs[t]? = some b) :
    firmB n (hangL (n : Int) hl) (withB bs t b l g) ↔ ∃ s : Int, (s = 1 ∨ s = -1) ∧ ∀ row ∈ rows0 bs t b, 0 < s * (l * aR n hl bs t row + bR n hl bs t row) ∧ 0 < s * (g * aR n hl bs t row + bR n hl bs t row) := by
  have ht := (List.getElem?_eq_some_iff.mp hb).1
  have hd : ∀ row ∈ rows0 bs t b, ∀ z, (z = l ∨ z = g) → (z * aR n hl bs t row + bR n hl bs t row) ∈ (cornersB (withB bs t b l g)).map fun row => detB n (hangL (n : Int) hl) 1 (withB bs t b l g) row := fun row hr z hz => by
    refine List.mem_map.mpr ⟨row.set t z, corner_put hr hz, ?_⟩
    rw [det_with hb, det_set hhs (rows0_len hr) ht]
  have hc : ∀ d ∈ (cornersB (withB bs t b l g)).map (fun row => detB n (hangL (n : Int) hl) 1 (withB bs t b l g) row), ∃ row ∈ rows0 bs t b, ∃ z, (z = l ∨ z = g) ∧ d = z * aR n hl bs t row + bR n hl bs t row := fun d hdm => by
    obtain ⟨row, hr, rfl⟩ := List.mem_map.mp hdm
    have hlen : row.length = bs.length := by rw [corner_len hr, len_with]
    have hx : row[t]? = some (row[t]'(by omega)) := List.getElem?_eq_getElem (by omega)
    have hz := corner_at hr (with_at ht) hx
    have hr0 : row.set t 0 ∈ rows0 bs t b := corner_put hr (.inl rfl)
    refine ⟨row.set t 0, hr0, row[t]'(by omega), hz, ?_⟩
    rw [det_with hb, ← det_set hhs (rows0_len hr0) ht, List.set_set]
    congr 1
    refine List.ext_getElem? fun i => ?_
    by_cases h : i = t
    · subst h
      rw [List.getElem?_set_self (by omega), hx]
    · rw [List.getElem?_set_ne (fun e => h e.symm)]
  constructor
  · rintro (h | h)
    · exact ⟨1, .inl rfl, fun row hr => by
        have h1 := h _ (hd row hr l (.inl rfl))
        have h2 := h _ (hd row hr g (.inr rfl))
        omega⟩
    · exact ⟨-1, .inr rfl, fun row hr => by
        have h1 := h _ (hd row hr l (.inl rfl))
        have h2 := h _ (hd row hr g (.inr rfl))
        omega⟩
  · rintro ⟨s, hs | hs, h⟩
    · refine .inl fun d hdm => ?_
      obtain ⟨row, hr, z, hz, rfl⟩ := hc d hdm
      obtain ⟨h1, h2⟩ := h row hr
      rw [hs] at h1 h2
      rcases hz with rfl | rfl <;> omega
    · refine .inr fun d hdm => ?_
      obtain ⟨row, hr, z, hz, rfl⟩ := hc d hdm
      obtain ⟨h1, h2⟩ := h row hr
      rw [hs] at h1 h2
      rcases hz with rfl | rfl <;> omega
end K53
namespace K53
open PySem L2
theorem ixN_nat' {n j : Nat} (h : j < n) : ixN n (j : Int) = some j := by
  unfold ixN
  rw [if_pos (by omega), if_pos (by omega), Int.toNat_natCast]
theorem set_split {l : List Int} {i : Nat} {z : Int} (h : i < l.length) : l.take i ++ z :: l.drop (i + 1) = l.set i z := by
  rw [List.set_eq_take_append_cons_drop, if_pos h]
section
variable {P : Program} {w : World} {K : PySem.W.Frag} {mg : Str → Option Value} {base : Heap}
def spExch (K : PySem.W.Frag) : Sp := fun vs H Q _ => ∃ (t : Addr) (ns : List Int) (i : Nat) (z : Int), vs = [.ref t, .int (i : Int), .int z] ∧ SqT K H t (ns.map V.int) ∧ i < ns.length ∧ ns.length ≤ 100 ∧ ∀ u H', Ext H H' → SqT K H' u ((ns.set i z).map V.int) → Q (.ref u) H'
theorem ok_exchanged (T : Tx K mg) : FnOk P w K mg base (L2.CX P w) 1 T.a_exchanged T.fd_exchanged ["row", "at", "number"] (spExch K) := by
  refine T.F_exchanged.okX sc_exchanged (fun vs H Q E h => ?_) (fun cdv A outer s H vs Q E hr h => ?_)
  · obtain ⟨t, ns, i, z, rfl, _⟩ := h
    rfl
  · obtain ⟨t, ns, i, z, rfl, ht, hi, hl, k⟩ := h
    refine ⟨_, (pss_one (ps_ret (pe_op op_catA (pe_op op_catA (pe_slice sl_tupA (pv 0) po_none (po_some (pv 1))) (pe_tup (pa_cons (pv 2) pa_nil))) (pe_slice sl_tupA (pv 0) (po_some (pe_op op_add (pv 1) pe_int)) po_none)))), ?_⟩
    have hset : (ns.set i z).map V.int = (ns.take i ++ [z]).map V.int ++ (ns.map V.int).drop (i + 1) := by
      rw [← set_split hi, ← List.map_drop, ← List.map_append, List.append_assoc]
      rfl
    refine ⟨_, rfl, _, rfl, _, rfl, t, _, rfl, ht, fun w => absurd w.2 ?_, fun _ p hp => ?_⟩
    · rw [HT.sIx_nat, List.length_map]
      omega
    rw [cut_take]
    refine ⟨_, rfl, by show 1 ≤ sizeLine; decide, fun q hq => ?_⟩
    refine ⟨p, q, (ns.map V.int).take i, [.int z], rfl, rfl, SqT.of (Ext.upd hq _ _ upd_same), SqT.of upd_same, ?_, fun z0 => ?_, fun _ z0 => absurd z0 (by simp), fun z0 _ x hx => ?_⟩
    · refine Nat.le_trans (show _ ≤ 300 from ?_) (by decide)
      rw [List.length_take, List.length_map]
      show min i ns.length + 1 ≤ 300
      omega
    · have e3 : Ext H (upd (upd H p (.tup ((ns.map V.int).take i))) q (.tup [.int z])) := (Ext.upd hp).trans (Ext.upd hq)
      have hx3 : SqT K (upd (upd H p (.tup ((ns.map V.int).take i))) q (.tup [.int z])) q ((ns.take i ++ [z]).map V.int) := SqT.of (by
        rw [upd_same, List.map_append, List.map_take, z0]
        rfl)
      generalize upd (upd H p (.tup ((ns.map V.int).take i))) q (.tup [.int z]) = H3 at e3 hx3 ⊢
      refine ⟨_, rfl, _, rfl, _, _, rfl, rfl, _, rfl, t, _, rfl, ht.ext e3, fun w => absurd w.1 ?_, fun _ p2 hp2 => ?_⟩
      · rw [show ((i : Int) + 1) = ((i + 1 : Nat) : Int) by omega, HT.sIx_nat, List.length_map]
        omega
      rw [show ((i : Int) + 1) = ((i + 1 : Nat) : Int) by omega, cut_drop] at *
      have e4 := e3.trans (Ext.upd (o := .tup ((ns.map V.int).drop (i + 1))) hp2)
      refine ⟨q, p2, ((ns.take i ++ [z]).map V.int), (ns.map V.int).drop (i + 1), rfl, rfl, hx3.ext (Ext.upd hp2), SqT.of upd_same, ?_, fun z0 => absurd z0 (by simp), fun _ z0 => ?_, fun _ _ p3 hp3 => ?_⟩
      · refine Nat.le_trans (show _ ≤ 300 from ?_) (by decide)
        rw [List.length_map, List.length_append, List.length_take, List.length_drop, List.length_map]
        show min i ns.length + 1 + (ns.length - (i + 1)) ≤ 300
        omega
      · refine k q _ e4 ?_
        rw [hset, z0, List.append_nil]
        exact hx3.ext (Ext.upd hp2)
      · refine k p3 _ (e4.trans (Ext.upd hp3)) (SqT.of ?_)
        rw [upd_same, hset]
    · have e3 : Ext H (upd (upd (upd H p (.tup ((ns.map V.int).take i))) q (.tup [.int z])) x (.tup ((ns.map V.int).take i ++ [.int z]))) := ((Ext.upd hp).trans (Ext.upd hq)).trans (Ext.upd hx)
      have hx3 : SqT K (upd (upd (upd H p (.tup ((ns.map V.int).take i))) q (.tup [.int z])) x (.tup ((ns.map V.int).take i ++ [.int z]))) x ((ns.take i ++ [z]).map V.int) := SqT.of (by
        rw [upd_same, List.map_append, List.map_take]
        rfl)
      generalize upd (upd (upd H p (.tup ((ns.map V.int).take i))) q (.tup [.int z])) x (.tup ((ns.map V.int).take i ++ [.int z])) = H3 at e3 hx3 ⊢
      refine ⟨_, rfl, _, rfl, _, _, rfl, rfl, _, rfl, t, _, rfl, ht.ext e3, fun w => absurd w.1 ?_, fun _ p2 hp2 => ?_⟩
      · rw [show ((i : Int) + 1) = ((i + 1 : Nat) : Int) by omega, HT.sIx_nat, List.length_map]
        omega
      rw [show ((i : Int) + 1) = ((i + 1 : Nat) : Int) by omega, cut_drop] at *
      have e4 := e3.trans (Ext.upd (o := .tup ((ns.map V.int).drop (i + 1))) hp2)
      refine ⟨x, p2, ((ns.take i ++ [z]).map V.int), (ns.map V.int).drop (i + 1), rfl, rfl, hx3.ext (Ext.upd hp2), SqT.of upd_same, ?_, fun z0 => absurd z0 (by simp), fun _ z0 => ?_, fun _ _ p3 hp3 => ?_⟩
      · refine Nat.le_trans (show _ ≤ 300 from ?_) (by decide)
        rw [List.length_map, List.length_append, List.length_take, List.length_drop, List.length_map]
        show min i ns.length + 1 + (ns.length - (i + 1)) ≤ 300
        omega
      · refine k x _ e4 ?_
        rw [hset, z0, List.append_nil]
        exact hx3.ext (Ext.upd hp2)
      · refine k p3 _ (e4.trans (Ext.upd hp3)) (SqT.of ?_)
        rw [upd_same, hset]
def spHasBar (K : PySem.W.Frag) (T : Tx K mg) : Sp := fun vs H Q _ => ∃ (v : V) (n : Int) (bs : List BarD) (hl : List (Int × Int)) (t : Nat), vs = [v, .int (t : Int)] ∧ Is K H (wbD T.C_Web T.C_Bar n bs hl) v ∧ t < bs.length ∧ Q .non H
theorem ok_check_has_bar (T : Tx K mg) : FnOk P w K mg base (L2.CX P w) 2 T.a_check_has_bar T.fd_check_has_bar ["web", "bar"] (spHasBar K T) := by
  refine T.F_check_has_bar.okX sc_check_has_bar (fun vs H Q E h => ?_) (fun cdv A outer s H vs Q E hr h => ?_)
  · obtain ⟨v, n, bs, hl, t, rfl, _⟩ := h
    rfl
  · obtain ⟨v, n, bs, hl, t, rfl, hv, ht, k⟩ := h
    refine ⟨_, (pss_one (ps_if (pt_not (pt_chain op_le op_lt pe_int (pv 1) (pe_callB call_len_seq (by rfl) T.z_len PySem.boot_len (pa_cons (pe_fld (pv 0) rfl) pa_nil)))) (pss_one ps_never) pss_nil)), ?_⟩
    obtain ⟨a, dx, tb, d, ws, rfl, ha, htb, hb, hd⟩ := wb_fields hv
    have hwl : ws.length = bs.length := by rw [isL_len hb, List.length_map]
    refine ⟨_, rfl, _, _, rfl, rfl, _, rfl, ite2 (fun c0 => ?_) (fun c0 => absurd (decide_eq_true (show (0 : Int) ≤ (t : Int) by omega)) c0)⟩
    refine ⟨_, rfl, a, T.C_Web, dx, _, _, rfl, ha, T.c_Web, T.nf_Web_bars, rfl, tb, _, rfl, .inr htb, ?_⟩
    refine ⟨_, _, rfl, rfl, _, rfl, ?_⟩
    rw [hwl, decide_eq_true (show (t : Int) < (bs.length : Int) by omega)]
    refine iteF ?_
    exact k
def spOther (K : PySem.W.Frag) (T : Tx K mg) : Sp := fun vs H Q _ => ∃ (v : V) (n : Int) (bs : List BarD) (hl : List (Int × Int)) (t : Nat) (z : Int) (b : BarD), vs = [v, .int (t : Int), .int z] ∧ Is K H (wbD T.C_Web T.C_Bar n bs hl) v ∧ bs.length ≤ 8 ∧ bs[t]? = some b ∧
  ∀ p rs H', H p = none → Ext H H' → H' p = some (.lst rs) → IsL K H' ((cornersB (withB bs t b z z)).map rwD) rs → (cornersB (withB bs t b z z)).length ≤ 256 → Q (.ref p) H'
theorem ok_other_corners (T : Tx K mg) : FnOk P w K mg base (L2.CX P w) 4 T.a_other_corners T.fd_other_corners ["web", "bar", "number"] (spOther K T) := by
  refine T.F_other_corners.okX sc_other_corners (fun vs H Q E h => ?_) (fun cdv A outer s H vs Q E hr h => ?_)
  · obtain ⟨v, n, bs, hl, t, z, b, rfl, _⟩ := h
    rfl
  · obtain ⟨v, n, bs, hl, t, z, b, rfl, hv, b8, hbt, k⟩ := h
    refine ⟨_, (pss_cons (ps_setLc (i := 3) (own := [("other", 4)]) (g := gName 4) (tt := tYes) (te := tCall (spEnds K T.C_Bar) [] E0 (tCons (tVar 4) tNil)) (by rfl) sc_other_corners.nd rfl rfl (sw_true rfl rfl rfl (by decide +kernel)) (pi_tup (pe_fld (pv 0) rfl)) (blkOk_by (own := [("other", 4)]) (N := N_other_corners) (sc := defScope s_other_corners) (by decide +kernel)) (fun _ _ _ _ _ => (pg_name (i := 4) sc_other_corners.nd rfl (Or.inl rfl))) (fun _ _ _ _ _ => pts_nil) (fun _ _ _ _ _ => (by exact pe_call (ok_ends T) (hr.mono (by decide)) rfl T.m_ends T.F_ends.kp T.b_ends .nil passL (pa_cons (pv 4) pa_nil))))
      (pss_cons (ps_asg (pe_lst (pa_cons (pv 2) pa_nil)) (pg_sub (pv 3) (pv 1) set_list))
      (pss_one (ps_ret (pe_call (ok_spread T) (hr.mono (by decide)) rfl T.m_spread T.F_spread.kp T.b_spread .nil passL (pa_cons (pv 3) pa_nil)))))), ?_⟩
    have htb : t < bs.length := (List.getElem?_eq_some_iff.mp hbt).1
    obtain ⟨a, dx, tb, d, us, rfl, ha, htp, hb, hd⟩ := wb_fields hv
    have hwl : us.length = bs.length := by rw [isL_len hb, List.length_map]
    refine ⟨_, rfl, a, T.C_Web, dx, _, _, rfl, ha, T.c_Web, T.nf_Web_bars, rfl, tb, rfl, ⟨_, htp⟩, fun D hD => ?_⟩
    refine lc_tup (xs := us) (fun i H' => Ext H H' ∧ ∃ acc, H' D = some (.lst acc) ∧ IsL K (del H' D) (((bs.map endsI).take i).map rwI) acc) ⟨Ext.upd hD, [], upd_same, rfl⟩ (fun i H' _ p => htp.ext p.1) ?_ ?_
    · rintro i y H2 hi ⟨e2, acc, hD2, hacc⟩
      obtain ⟨b', hbi, ib⟩ := isL_at' hb hi
      refine ⟨rfl, tyes ?_⟩
      refine ⟨_, rfl, y, b', rfl, ib.ext e2, fun r hr1 => ?_⟩
      have hD3 := Ext.upd (o := HO.lst ((endsI b').map V.int)) hr1 _ _ hD2
      have hrD : r ≠ D := fun e => by rw [e, hD2] at hr1; cases hr1
      refine ⟨acc, hD3, ?_, (e2.trans (Ext.upd hr1)).mut hD, _, upd_same, ?_⟩
      · rw [← hacc.length, List.length_map, List.length_take]
        have := (List.getElem?_eq_some_iff.mp hi).1
        exact Nat.lt_of_lt_of_le (show min i (bs.map endsI).length < 100 by omega) (by decide)
      · rw [List.take_add_one, List.getElem?_map, hbi, List.map_append]
        refine isL_snoc ((hacc.ext (DE.of (Ext.upd hr1))).ext DE.upd) (rwI_is (SqL.of ?_))
        rw [del_ne hrD, upd_ne hrD, upd_same]
    · rintro H2 ⟨e2, acc, hD2, hacc⟩
      rw [List.take_of_length_le (by rw [List.length_map, hwl]; exact Nat.le_refl _)] at hacc
      have hal : acc.length = bs.length := by rw [isL_len hacc, List.length_map, List.length_map]
      refine ⟨_, rfl, by show 1 ≤ sizeLine; decide, fun L hL => ?_⟩
      have hLD : L ≠ D := fun e => by rw [e, hD2] at hL; cases hL
      have hD3 := Ext.upd (o := HO.lst [.int z]) hL _ _ hD2
      refine ⟨_, rfl, _, rfl, D, acc, _, t, rfl, rfl, hD3, ixN_nat' (by rw [hal]; exact htb), ?_⟩
      have e3 : Ext H (upd (upd H2 L (.lst [.int z])) D (.lst (acc.set t (.ref L)))) := (e2.trans (Ext.upd hL)).mut hD
      have hD4 : (upd (upd H2 L (.lst [.int z])) D (.lst (acc.set t (.ref L)))) D = some (.lst (acc.set t (.ref L))) := upd_same
      have hch : (withB bs t b z z).map endsI = (bs.map endsI).set t [z] := by
        unfold withB
        rw [List.map_set]
        congr 1
        unfold endsI
        rw [if_pos rfl]
      have hacc4 : IsL K (del (upd (upd H2 L (.lst [.int z])) D (.lst (acc.set t (.ref L)))) D) (((withB bs t b z z).map endsI).map rwI) (acc.set t (.ref L)) := by
        rw [hch, List.map_set]
        refine isL_set ((hacc.ext (DE.of (Ext.upd hL))).ext DE.upd) (rwI_is (SqL.of ?_))
        rw [del_ne hLD, upd_ne hLD, upd_same]
        rfl
      generalize upd (upd H2 L (.lst [.int z])) D (.lst (acc.set t (.ref L))) = H4 at e3 hD4 hacc4 ⊢
      exact ⟨_, rfl, D, _, (withB bs t b z z).map endsI, rfl, SqL.of hD4, hacc4.ext del_ext, by rw [List.length_map, len_with]; exact b8, fun es he => by
        obtain ⟨c, _, rfl⟩ := List.mem_map.mp he
        exact len_endsI c, fun p rs H' hp e5 hp5 hrs hl2 => k p rs H' (e3.fresh hp) (e3.trans e5) hp5 hrs hl2⟩
end
end K53
namespace K53
open PySem L2
section
variable {P : Program} {w : World} {K : PySem.W.Frag} {mg : Str → Option Value} {base : Heap}
theorem isL_at2 {H : Hp} {α : Type} {f : α → Dt} : ∀ {ds : List α} {vs : List V}, IsL K H (ds.map f) vs → ∀ {i : Nat} {d : α}, ds[i]? = some d → ∃ v, vs[i]? = some v ∧ Is K H (f d) v
  | [], _, _, i, d, h => by cases h
  | a :: ds, _, ⟨v, r, e, i1, il⟩, i, d, h => by
    subst e
    cases i with
    | zero => exact ⟨v, rfl, by rw [← Option.some.inj h]; exact i1⟩
    | succ i => exact isL_at2 il (i := i) h
def spFirmAl (K : PySem.W.Frag) (T : Tx K mg) : Sp := fun vs H Q _ => ∃ (v : V) (ra : Addr) (n : Nat) (bs : List BarD) (hl : List (Int × Int)) (t : Nat) (b : BarD) (row : List Int), vs = [v, .int (t : Int), .ref ra] ∧ Is K H (wbD T.C_Web T.C_Bar (n : Int) bs hl) v ∧ SqT K H ra (row.map V.int) ∧ row.length = bs.length ∧ n ≤ 10 ∧ bs.length ≤ 8 ∧ (∀ b ∈ bs, BarOk (n : Int) b) ∧ (hangL (n : Int) hl).length = bs.length ∧ (∀ x ∈ row, 0 ≤ x ∧ x ≤ 1000000) ∧ bs[t]? = some b ∧
  ∀ u H', Ext H H' → H' u = some (.tup [.int (if detB n (hangL (n : Int) hl) 1 bs (row.set t b.lo) < 0 then -detB n (hangL (n : Int) hl) 1 bs row else detB n (hangL (n : Int) hl) 1 bs row), .int (if detB n (hangL (n : Int) hl) 1 bs (row.set t b.lo) < 0 then -detB n (hangL (n : Int) hl) 1 bs (row.set t b.len) else detB n (hangL (n : Int) hl) 1 bs (row.set t b.len))]) → Q (.ref u) H'
theorem ok_firmness_along (T : Tx K mg) : FnOk P w K mg base (L2.CX P w) 7 T.a_firmness_along T.fd_firmness_along ["web", "bar", "row"] (spFirmAl K T) := by
  refine T.F_firmness_along.okX sc_firmness_along (fun vs H Q E h => ?_) (fun cdv A outer s H vs Q E hr h => ?_)
  · obtain ⟨v, ra, n, bs, hl, t, b, row, rfl, _⟩ := h
    rfl
  · obtain ⟨v, ra, n, bs, hl, t, b, row, rfl, hv, hra, hrl, n10, b8, hbo, hhs, hsm, hbt, k⟩ := h
    refine ⟨_, (pss_cons (ps_set (i := 3) sc_firmness_along.nd rfl (Or.inl rfl) (pe_fld (pe_ix ix_tup (pe_fld (pv 0) rfl) (pv 1) (fun _ _ => rfl)) rfl))
      (pss_cons (ps_set (i := 4) sc_firmness_along.nd rfl (Or.inl rfl) (pe_call (ok_determinant_at T) (hr.mono (by decide)) rfl T.m_determinant_at T.F_determinant_at.kp T.b_determinant_at .nil passL (pa_cons (pv 0) (pa_cons (pv 2) (pa_cons pe_int pa_nil)))))
      (pss_cons (ps_set (i := 5) sc_firmness_along.nd rfl (Or.inl rfl) (pe_call (ok_determinant_at T) (hr.mono (by decide)) rfl T.m_determinant_at T.F_determinant_at.kp T.b_determinant_at .nil passL (pa_cons (pv 0) (pa_cons (pe_call (ok_exchanged T) (hr.mono (by decide)) rfl T.m_exchanged T.F_exchanged.kp T.b_exchanged .nil passL (pa_cons (pv 2) (pa_cons (pv 1) (pa_cons (pv 3) pa_nil)))) (pa_cons pe_int pa_nil)))))
      (pss_cons (ps_set (i := 6) sc_firmness_along.nd rfl (Or.inl rfl) (pe_call (ok_exchanged T) (hr.mono (by decide)) rfl T.m_exchanged T.F_exchanged.kp T.b_exchanged .nil passL (pa_cons (pv 2) (pa_cons (pv 1) (pa_cons (pe_fld (pe_ix ix_tup (pe_fld (pv 0) rfl) (pv 1) (fun _ _ => rfl)) rfl) pa_nil)))))
      (pss_cons (ps_if (pt_cmpR op_lt (pe_call (ok_determinant_at T) (hr.mono (by decide)) rfl T.m_determinant_at T.F_determinant_at.kp T.b_determinant_at .nil passL (pa_cons (pv 0) (pa_cons (pv 6) (pa_cons pe_int pa_nil)))) pe_int (nomark _)) (pss_one (ps_ret (pe_tup (pa_cons (pe_un un_neg (pv 4)) (pa_cons (pe_un un_neg (pv 5)) pa_nil))))) pss_nil)
      (pss_one (ps_ret (pe_tup (pa_cons (pv 4) (pa_cons (pv 5) pa_nil)))))))))), ?_⟩
    have htb : t < bs.length := (List.getElem?_eq_some_iff.mp hbt).1
    have okb := hbo b (List.mem_of_getElem? hbt)
    have g0 := okb.o0
    have g1 := okb.o1
    have g2 := okb.o2
    have g3 := okb.l1
    have g4 := okb.l0
    have one3 : (1 : Int).natAbs < 2 ^ 300 := by decide +kernel
    have small : ∀ x : Int, 0 ≤ x ∧ x ≤ 1000000 → x.natAbs < 2 ^ 300 := fun x hx => Nat.lt_of_le_of_lt (show x.natAbs ≤ 1000000 by omega) (by decide +kernel)
    have sm0 : ∀ x ∈ row, x.natAbs < 2 ^ 300 := fun x hx => small x (hsm x hx)
    have smS : ∀ z : Int, 0 ≤ z ∧ z ≤ 1000000 → ∀ x ∈ row.set t z, x.natAbs < 2 ^ 300 := fun z hz x hx => by
      rcases List.mem_or_eq_of_mem_set hx with h | h
      · exact sm0 x h
      · rw [h]; exact small z hz
    obtain ⟨a, dx, tb, d, us, rfl, ha, htp, hb, hd⟩ := wb_fields hv
    obtain ⟨o, hot, io⟩ := isL_at2 hb hbt
    obtain ⟨oa, odx, rfl, hoa⟩ := br_fields io
    refine ⟨_, rfl, a, T.C_Web, dx, _, _, rfl, ha, T.c_Web, T.nf_Web_bars, rfl, _, rfl, tb, _, _, _, rfl, rfl, htp, atI_nat hot, oa, T.C_Bar, odx, _, _, rfl, hoa, T.c_Bar, T.nf_Bar_length, rfl, ?_⟩
    refine ⟨_, rfl, _, rfl, .ref a, ra, n, bs, hl, row, 1, rfl, hv, hra, hrl, n10, b8, hbo, hhs, sm0, one3, fun H1 e1 => ?_⟩
    refine ⟨_, rfl, _, rfl, _, rfl, _, rfl, ra, row, t, b.len, rfl, hra.ext e1, by omega, by omega, fun u1 H2 e2 hu1 => ?_⟩
    have e02 := e1.trans e2
    refine ⟨.ref a, u1, n, bs, hl, row.set t b.len, 1, rfl, hv.ext e02, hu1, by rw [List.length_set]; exact hrl, n10, b8, hbo, hhs, smS _ ⟨by omega, by omega⟩, one3, fun H3 e3 => ?_⟩
    have e03 := e02.trans e3
    refine ⟨_, rfl, _, rfl, _, rfl, a, T.C_Web, dx, _, _, rfl, e03 _ _ ha, T.c_Web, T.nf_Web_bars, rfl, _, rfl, tb, _, _, _, rfl, rfl, htp.ext e03, atI_nat hot, oa, T.C_Bar, odx, _, _, rfl, e03 _ _ hoa, T.c_Bar, T.nf_Bar_least, rfl, ra, row, t, b.lo, rfl, hra.ext e03, by omega, by omega, fun u2 H4 e4 hu2 => ?_⟩
    have e04 := e03.trans e4
    refine ⟨_, rfl, _, rfl, .ref a, u2, n, bs, hl, row.set t b.lo, 1, rfl, hv.ext e04, hu2, by rw [List.length_set]; exact hrl, n10, b8, hbo, hhs, smS _ ⟨by omega, by omega⟩, one3, fun H5 e5 => ?_⟩
    have e05 := e04.trans e5
    refine ⟨_, _, rfl, rfl, _, rfl, ite2 (fun c => ?_) (fun c => ?_)⟩
    · have c := of_decide_eq_true c
      refine ⟨_, rfl, _, rfl, _, rfl, _, rfl, by show 2 ≤ sizeLine; decide, fun u hu => k u _ (e05.trans (Ext.upd hu)) ?_⟩
      rw [upd_same, if_pos c, if_pos c]
    · have c : ¬ _ := fun z => c (decide_eq_true z)
      refine ⟨_, rfl, _, rfl, by show 2 ≤ sizeLine; decide, fun u hu => k u _ (e05.trans (Ext.upd hu)) ?_⟩
      rw [upd_same, if_neg c, if_neg c]
def spRoot (K : PySem.W.Frag) : Sp := fun vs H Q _ => ∃ (L : Int) (p : Int × Int), vs = [.int 0, .int L, .int p.2, .int (L * p.1 + p.2)] ∧ 1 ≤ L ∧ L ≤ 1000000 ∧ p.1 ≠ 0 ∧ p.2.natAbs < 2 ^ 5000 ∧ (L * p.1 + p.2).natAbs < 2 ^ 5000 ∧
  ∀ u H', Ext H H' → H' u = some (frO (lowF (rt L p))) → Q (.ref u) H'
theorem ok_root (T : Tx K mg) : FnOk P w K mg base (L2.CX P w) 4 T.a_root T.fd_root ["start", "goal", "here", "there"] (spRoot K) := by
  refine T.F_root.okX sc_root (fun vs H Q E h => ?_) (fun cdv A outer s H vs Q E hr h => ?_)
  · obtain ⟨L, p, rfl, _⟩ := h
    rfl
  · obtain ⟨L, p, rfl, l1, l2, hp, s1, s2, k⟩ := h
    refine ⟨_, (pss_cons (ps_set (i := 4) sc_root.nd rfl (Or.inl rfl) (pe_op op_sub (pe_op op_mulW (pv 0) (pv 3)) (pe_op op_mulW (pv 1) (pv 2))))
      (pss_cons (ps_set (i := 5) sc_root.nd rfl (Or.inl rfl) (pe_op op_sub (pv 3) (pv 2)))
      (pss_cons (ps_if (pt_cmpR op_lt (pv 5) pe_int (nomark _)) (pss_one (ps_ret (pe_call (ok_fraction T) (hr.mono (by decide)) rfl T.m_fraction T.F_fraction.kp T.b_fraction .nil passL (pa_cons (pe_un un_neg (pv 4)) (pa_cons (pe_un un_neg (pv 5)) pa_nil))))) pss_nil)
      (pss_one (ps_ret (pe_call (ok_fraction T) (hr.mono (by decide)) rfl T.m_fraction T.F_fraction.kp T.b_fraction .nil passL (pa_cons (pv 4) (pa_cons (pv 5) pa_nil)))))))), ?_⟩
    have ls : L.natAbs < 2 ^ 20 := by omega
    have big : (L * p.1).natAbs < 2 ^ 8000 := by
      have h1 : (L * p.1).natAbs < 2 ^ 5000 + 2 ^ 5000 := by
        generalize (2 : Nat) ^ 5000 = N at s1 s2 ⊢
        omega
      exact Nat.lt_of_lt_of_le h1 (Nat.le_trans (Nat.le_of_eq (show 2 ^ 5000 + 2 ^ 5000 = 2 ^ 5001 by rw [Nat.pow_succ]; omega)) (Nat.pow_le_pow_right (by decide) (by decide)))
    refine ⟨_, rfl, _, rfl, _, _, rfl, rfl, wide_mul (a := 20) (b := 5000) (show (0 : Int).natAbs < 2 ^ 20 by decide) s2 (by decide) (by decide) (by decide), _, rfl, _, rfl, _, _, rfl, rfl, wide_mul (a := 20) (b := 5000) ls s1 (by decide) (by decide) (by decide), _, _, rfl, rfl, ?_⟩
    refine ⟨_, rfl, _, rfl, _, _, rfl, rfl, ?_⟩
    have ez : L * p.1 + p.2 - p.2 = L * p.1 := by omega
    have e0 : 0 * (L * p.1 + p.2) - L * p.2 = -(L * p.2) := by omega
    dsimp only
    rw [ez, e0]
    refine ⟨_, rfl, _, _, rfl, rfl, _, rfl, ite2 (fun c => ?_) (fun c => ?_)⟩
    · have c := of_decide_eq_true c
      have hn : p.1 < 0 := by
        refine Int.not_le.mp fun z => ?_
        have := Int.mul_nonneg (show 0 ≤ L by omega) z
        omega
      obtain ⟨e, e1⟩ := rt_neg l1 hn
      refine ⟨_, rfl, _, rfl, _, rfl, _, rfl, L * p.2, -(L * p.1), by dsimp only; rw [Int.neg_neg]; rfl, e1, by rw [Int.natAbs_neg]; exact big, fun u H' e1' _ hu => ?_⟩
      refine k u H' e1' ?_
      rw [hu, e]
      rfl
    · have c : ¬ L * p.1 < 0 := fun z => c (decide_eq_true z)
      have hn : 0 < p.1 := by
        refine Int.not_le.mp fun z => c ?_
        have := Int.mul_pos (show 0 < L by omega) (show 0 < -p.1 by omega)
        rw [Int.mul_neg] at this
        omega
      obtain ⟨e, e1⟩ := rt_pos l1 hn
      refine ⟨_, rfl, _, rfl, -(L * p.2), L * p.1, rfl, e1, big, fun u H' e1' _ hu => ?_⟩
      refine k u H' e1' ?_
      rw [hu, e]
      rfl
def spGrt (K : PySem.W.Frag) : Sp := fun vs H Q _ => ∃ (x y : Addr) (a b : Int × Int), vs = [.ref x, .ref y] ∧ SqT K H x [.int a.1, .int a.2] ∧ SqT K H y [.int b.1, .int b.2] ∧ sml a ∧ sml b ∧ Q (.ref (if ltP a b = true then y else x)) H
theorem ok_greater (T : Tx K mg) : FnOk P w K mg base (L2.CX P w) 2 T.a_greater T.fd_greater ["one", "other"] (spGrt K) := by
  refine T.F_greater.okX sc_greater (fun vs H Q E h => ?_) (fun cdv A outer s H vs Q E hr h => ?_)
  · obtain ⟨x, y, a, b, rfl, _⟩ := h
    rfl
  · obtain ⟨x, y, a, b, rfl, hx, hy, ha, hb, k⟩ := h
    refine ⟨_, (pss_one (ps_ret (pe_ifExp (pt_val (pe_call (ok_is_less T) (hr.mono (by decide)) rfl T.m_is_less T.F_is_less.kp T.b_is_less .nil passL (pa_cons (pv 0) (pa_cons (pv 1) pa_nil)))) (pv 1) (pv 0)))), ?_⟩
    refine ⟨_, rfl, _, rfl, x, y, a, b, rfl, hx, hy, ha, hb, ?_⟩
    cases h : ltP a b with
    | true => rw [h, if_pos rfl] at k; exact ⟨true, rfl, iteT ⟨_, rfl, k⟩⟩
    | false => rw [h, if_neg (by decide)] at k; exact ⟨false, rfl, iteF ⟨_, rfl, k⟩⟩
def spLes (K : PySem.W.Frag) : Sp := fun vs H Q _ => ∃ (x y : Addr) (a b : Int × Int), vs = [.ref x, .ref y] ∧ SqT K H x [.int a.1, .int a.2] ∧ SqT K H y [.int b.1, .int b.2] ∧ sml a ∧ sml b ∧ Q (.ref (if ltP a b = true then x else y)) H
theorem ok_less (T : Tx K mg) : FnOk P w K mg base (L2.CX P w) 2 T.a_less T.fd_less ["one", "other"] (spLes K) := by
  refine T.F_less.okX sc_less (fun vs H Q E h => ?_) (fun cdv A outer s H vs Q E hr h => ?_)
  · obtain ⟨x, y, a, b, rfl, _⟩ := h
    rfl
  · obtain ⟨x, y, a, b, rfl, hx, hy, ha, hb, k⟩ := h
    refine ⟨_, (pss_one (ps_ret (pe_ifExp (pt_val (pe_call (ok_is_less T) (hr.mono (by decide)) rfl T.m_is_less T.F_is_less.kp T.b_is_less .nil passL (pa_cons (pv 0) (pa_cons (pv 1) pa_nil)))) (pv 0) (pv 1)))), ?_⟩
    refine ⟨_, rfl, _, rfl, x, y, a, b, rfl, hx, hy, ha, hb, ?_⟩
    cases h : ltP a b with
    | true => rw [h, if_pos rfl] at k; exact ⟨true, rfl, iteT ⟨_, rfl, k⟩⟩
    | false => rw [h, if_neg (by decide)] at k; exact ⟨false, rfl, iteF ⟨_, rfl, k⟩⟩
end
end K53
namespace K53
open PySem L2
section
variable {P : Program} {w : World} {K : PySem.W.Frag} {mg : Str → Option Value} {base : Heap}
theorem SqT.updI {H : Hp} {t x C dx : Addr} {xs : List V} {fs : List (Str × V)} {o : HO} (s : SqT K H t xs) (h : H x = some (.ins C dx fs)) : SqT K (upd H x o) t xs := by
  rcases s with (r | ⟨o', r⟩) | r
  · exact .inl (.inl (by rw [upd_ne (fun e => by rw [e, h] at r; cases r)]; exact r))
  · exact .inl (.inr ⟨o', by rw [upd_ne (fun e => by rw [e, h] at r; cases r)]; exact r⟩)
  · exact .inr r
theorem tup_any {H : Hp} {t : Addr} {xs : List V} {Q : VK} (h : SqQ K H t xs) (k : ∀ u H', Ext H H' → SqT K H' u xs → Q (.ref u) H') :
    ∃ p ys, [V.ref t] = [V.ref p] ∧ ((SqL K H p ys ∧ ∀ l, H l = none → Q (.ref l) (upd H l (.tup ys))) ∨ (SqT K H p ys ∧ Q (.ref p) H)) := by
  rcases h with h | h
  · exact ⟨t, xs, rfl, .inl ⟨h, fun l hl => k l _ (Ext.upd hl) (SqT.of upd_same)⟩⟩
  · exact ⟨t, xs, rfl, .inr ⟨h, k t H Ext.rfl' h⟩⟩
def rTupQ (K : PySem.W.Frag) : List V → Hp → VK → Prop := fun xs H Q => ∃ t ys, xs = [V.ref t] ∧ SqQ K H t ys ∧ ∀ u H', Ext H H' → SqT K H' u ys → Q (.ref u) H'
theorem call_tupleQ {X : Cx} : CallR X (.type "tuple") (rTupQ X.K) := fun pins s σ H xs us Q I r h => by
  obtain ⟨t, ys, rfl, h1, k⟩ := h
  exact call_tuple_of pins s σ H _ us Q I r (tup_any h1 k)
def wiF : List Str := ["least", "greatest", "is_least", "is_greatest"]
def wiT (s : WS) : List Dt := [frD s.g, frD s.l, .bl s.fg, .bl s.fl]
def wiD (C : Addr) (s : WS) : Dt := .ins C wiF (wiT s)
theorem wi_fields {C : Addr} {H : Hp} {s : WS} {v : V} (i : Is K H (wiD C s) v) : ∃ (x dx tl tg : Addr), v = .ref x ∧ H x = some (.ins C dx [("least", .ref tl), ("greatest", .ref tg), ("is_least", .bl s.fg), ("is_greatest", .bl s.fl)]) ∧
    SqT K H tl [.int s.g.1, .int s.g.2] ∧ SqT K H tg [.int s.l.1, .int s.l.2] := by
  obtain ⟨a, dx, kvs, rfl, ha, ek, h⟩ := i
  obtain ⟨v1, r1, e1, f1, v2, r2, e2, f2, v3, r3, e3, f3, v4, r4, e4, f4, e5⟩ := h
  subst e4 e3 e2
  cases e5
  obtain ⟨tl, rfl, h1⟩ := fr_of f1
  obtain ⟨tg, rfl, h2⟩ := fr_of f2
  cases (show v3 = .bl s.fg from f3)
  cases (show v4 = .bl s.fl from f4)
  match kvs, ek, e1 with
  | [(x1, y1), (x2, y2), (x3, y3), (x4, y4)], ek, e1 =>
    simp only [wiF, List.map_cons, List.map_nil] at ek e1
    injection ek with g1 ek
    injection ek with g2 ek
    injection ek with g3 ek
    injection ek with g4 _
    injection e1 with h1' e1
    injection e1 with h2' e1
    injection e1 with h3' e1
    injection e1 with h4' _
    subst g1 g2 g3 g4 h1' h2' h3' h4'
    exact ⟨a, dx, tl, tg, rfl, ha, h1, h2⟩
theorem wi_is {C : Addr} {H : Hp} {s : WS} {x dx tl tg : Addr} (ha : H x = some (.ins C dx [("least", .ref tl), ("greatest", .ref tg), ("is_least", .bl s.fg), ("is_greatest", .bl s.fl)])) (h1 : SqT K H tl [.int s.g.1, .int s.g.2]) (h2 : SqT K H tg [.int s.l.1, .int s.l.2]) : Is K H (wiD C s) (.ref x) :=
  ⟨x, dx, _, rfl, ha, rfl, _, _, rfl, fr_is h1, _, _, rfl, fr_is h2, _, _, rfl, rfl, _, _, rfl, rfl, rfl⟩
def spWidI (K : PySem.W.Frag) (C : Addr) : Sp := fun vs H Q E => ∃ (H0 : Hp) (x dx tl tg : Addr) (s : WS), vs = [.ref x, .ref tl, .ref tg, .bl s.fg, .bl s.fl] ∧ H0 x = none ∧ H0 dx = none ∧ dx ≠ x ∧ H = upd (upd H0 dx (.own x)) x (.ins C dx []) ∧
  SqQ K H0 tl [.int s.g.1, .int s.g.2] ∧ SqQ K H0 tg [.int s.l.1, .int s.l.2] ∧
  ∀ H', Ext H0 H' → Is K H' (wiD C s) (.ref x) → Q .non H'
theorem ok_Widening_init (T : Tx K mg) : FnOk P w K mg base (L2.CX P w) 4 T.a_Widening_init T.fd_Widening_init ["self", "least", "greatest", "is_least", "is_greatest"] (spWidI K T.C_Widening) := by
  refine T.F_Widening_init.okX sc_Widening_init (fun vs H Q E h => ?_) (fun cdv A outer s H vs Q E hr h => ?_)
  · obtain ⟨H0, x, dx, tl, tg, r, rfl, _⟩ := h
    rfl
  · obtain ⟨H0, x, dx, tl, tg, r, rfl, hx, hdx, hne, rfl, h1, h2, k⟩ := h
    refine ⟨_, (pss_cons (ps_fld (pv 0) (pe_callTy call_tupleQ (by rfl) T.z_tuple (by decide +kernel) (pa_cons (pv 1) pa_nil)) rfl)
      (pss_cons (ps_fld (pv 0) (pe_callTy call_tupleQ (by rfl) T.z_tuple (by decide +kernel) (pa_cons (pv 2) pa_nil)) rfl)
      (pss_cons (ps_fld (pv 0) (pv 3) rfl)
      (pss_one (ps_fld (pv 0) (pv 4) rfl))))), ?_⟩
    have eH : Ext H0 (upd (upd H0 dx (.own x)) x (.ins T.C_Widening dx [])) := (Ext.upd hdx).mut hx
    refine ⟨_, rfl, tl, _, rfl, h1.ext eH, fun u1 H1 e1 s1 => ?_⟩
    have x1 := e1 _ _ (upd_same (H := upd H0 dx (.own x)) (a := x) (o := .ins T.C_Widening dx []))
    have E2 := (eH.trans e1).mut (o := HO.ins T.C_Widening dx [("least", V.ref u1)]) hx
    refine ⟨_, rfl, x, T.C_Widening, dx, _, rfl, x1, T.c_Widening, T.nf_Widening_least, (by show 0 < 1000; decide), ?_⟩
    refine ⟨_, rfl, tg, _, rfl, h2.ext E2, fun u2 H3 e3 s2 => ?_⟩
    have x3 := e3 _ _ (upd_same (H := H1) (a := x) (o := .ins T.C_Widening dx [("least", V.ref u1)]))
    have s1' := ((SqT.updI s1 x1).ext e3)
    have E4 := (E2.trans e3).mut (o := HO.ins T.C_Widening dx [("least", V.ref u1), ("greatest", V.ref u2)]) hx
    refine ⟨_, rfl, x, T.C_Widening, dx, _, rfl, x3, T.c_Widening, T.nf_Widening_greatest, (by show 1 < 1000; decide), ?_⟩
    refine ⟨_, rfl, _, rfl, x, T.C_Widening, dx, _, rfl, upd_same, T.c_Widening, T.nf_Widening_is_least, (by show 2 < 1000; decide), ?_⟩
    refine ⟨_, rfl, _, rfl, x, T.C_Widening, dx, _, rfl, upd_same, T.c_Widening, T.nf_Widening_is_greatest, (by show 3 < 1000; decide), ?_⟩
    have eF := ((E4.mut (o := HO.ins T.C_Widening dx [("least", V.ref u1), ("greatest", V.ref u2), ("is_least", .bl r.fg)]) hx).mut (o := HO.ins T.C_Widening dx [("least", V.ref u1), ("greatest", V.ref u2), ("is_least", .bl r.fg), ("is_greatest", .bl r.fl)]) hx)
    exact k _ eF (wi_is (dx := dx) upd_same (SqT.updI (SqT.updI (SqT.updI s1' x3) upd_same) upd_same) (SqT.updI (SqT.updI (SqT.updI s2 x3) upd_same) upd_same))
theorem wi_deq {C : Addr} {r s : WS} : deq (wiD C r) (wiD C s) = (decide (r.g = s.g) && (decide (r.l = s.l) && (r.fg == s.fg && (r.fl == s.fl)))) := by
  show (C == C && (deq (frD r.g) (frD s.g) && (deq (frD r.l) (frD s.l) && ((r.fg == s.fg) && ((r.fl == s.fl) && true))))) = _
  rw [beq_self_eq_true, fr_deq, fr_deq, Bool.true_and, Bool.and_true]
theorem wi_refl {C : Addr} (r : WS) : deq (wiD C r) (wiD C r) = true := by
  rw [wi_deq]
  simp
theorem b_eq {a b : Bool} : deq (.bl a) (.bl b) = (a == b) := rfl
def shW (C : Addr) : Addr → List Str → List Dt → Prop := fun D fs ds => D = C ∧ ∃ r, fs = wiF ∧ ds = wiT r
theorem ok_Widening_eq (T : Tx K mg) : FnOk P w K mg base CX0 24 T.a_Widening_eq T.fd_Widening_eq ["self", "other"] (spEqO K (shW T.C_Widening) T.C_Widening) := by
  refine T.F_Widening_eq.ok sc_Widening_eq (fun vs H Q E h => ?_) (fun cdv A outer s H vs Q E hr h => ?_)
  · obtain ⟨a, y, fs, ds, e, rfl, _⟩ := h
    rfl
  · obtain ⟨a, y, fs, ds, e, rfl, hd, he, hs, oe, k⟩ := h
    obtain ⟨_, r, rfl, rfl⟩ := hs
    refine ⟨_, (pss_one (ps_ret (pe_and (pe_cmpR op_is_ty (pe_callTy call_typeO (by rfl) T.z_type (by decide +kernel) (pa_cons (pv 0) pa_nil)) (pe_callTy call_typeO (by rfl) T.z_type (by decide +kernel) (pa_cons (pv 1) pa_nil)) (nomark _)) (pe_one (pe_and (pe_cmpR (op_eqO pureTab hr (by decide)) (pe_fld (pv 0) rfl) (pe_fld (pv 1) rfl) (nomark _)) (pe_and (pe_cmpR (op_eqO pureTab hr (by decide)) (pe_fld (pv 0) rfl) (pe_fld (pv 1) rfl) (nomark _)) (pe_and (pe_cmpR (op_eqO pureTab hr (by decide)) (pe_fld (pv 0) rfl) (pe_fld (pv 1) rfl) (nomark _)) (pe_one (pe_cmpR (op_eqO pureTab hr (by decide)) (pe_fld (pv 0) rfl) (pe_fld (pv 1) rfl) (nomark _)))))))))), ?_⟩
    refine ⟨_, rfl, _, _, rfl, hd, ?_⟩
    refine ⟨_, rfl, _, e, rfl, he, ?_⟩
    have no : LxE.kd e ≠ 6 → ∃ Tn, tyD e = .ty Tn := fun h6 => by
      cases e <;> first | exact ⟨_, rfl⟩ | exact absurd rfl h6
    by_cases h6 : LxE.kd e = 6
    · cases e <;> first | (exfalso; simp [LxE.kd] at h6; done) | skip
      rename_i D fs es
      obtain ⟨rfl, r2, rfl, rfl⟩ := (show shW _ _ _ _ from oe)
      refine ⟨_, rfl, .inr ⟨_, rfl, .inl rfl, ?_⟩⟩
      refine ⟨true, by simp, iteT ?_⟩
      obtain ⟨a', dx, tl, tg, ea, ha, h1, h2⟩ := wi_fields (C := T.C_Widening) hd
      cases ea
      obtain ⟨a2, dx2, tl2, tg2, rfl, ha2, g1, g2⟩ := wi_fields (C := T.C_Widening) he
      have fin : ∀ (H' : Hp), Ext H H' → ∀ c : Bool, (decide (r.g = r2.g) && (decide (r.l = r2.l) && (r.fg == r2.fg && (r.fl == r2.fl)))) = c → Q (.bl c) H' := fun H' e c hc => by
        have z := k H' e
        rw [show deq (.ins T.C_Widening wiF (wiT r)) (.ins T.C_Widening wiF (wiT r2)) = _ from wi_deq, hc] at z
        exact z
      refine ⟨_, rfl, a, T.C_Widening, dx, _, _, rfl, ha, T.c_Widening, T.nf_Widening_least, rfl, ?_⟩
      refine ⟨_, rfl, a2, T.C_Widening, dx2, _, _, rfl, ha2, T.c_Widening, T.nf_Widening_least, rfl, frD r.g, frD r2.g, fr_is h1, fr_is g1, okL_pure rfl, okL_pure rfl, fr_dep, fun H1 e1 => ?_⟩
      refine ⟨_, rfl, ?_⟩
      rw [fr_deq]
      by_cases c1 : r.g = r2.g
      · rw [decide_eq_true c1]
        refine iteT ?_
        refine ⟨_, rfl, a, T.C_Widening, dx, _, _, rfl, e1 _ _ ha, T.c_Widening, T.nf_Widening_greatest, rfl, ?_⟩
        refine ⟨_, rfl, a2, T.C_Widening, dx2, _, _, rfl, e1 _ _ ha2, T.c_Widening, T.nf_Widening_greatest, rfl, frD r.l, frD r2.l, fr_is (h2.ext e1), fr_is (g2.ext e1), okL_pure rfl, okL_pure rfl, fr_dep, fun H2 e2 => ?_⟩
        refine ⟨_, rfl, ?_⟩
        rw [fr_deq]
        have e12 := e1.trans e2
        by_cases c2 : r.l = r2.l
        · rw [decide_eq_true c2]
          refine iteT ?_
          refine ⟨_, rfl, a, T.C_Widening, dx, _, _, rfl, e12 _ _ ha, T.c_Widening, T.nf_Widening_is_least, rfl, ?_⟩
          refine ⟨_, rfl, a2, T.C_Widening, dx2, _, _, rfl, e12 _ _ ha2, T.c_Widening, T.nf_Widening_is_least, rfl, .bl r.fg, .bl r2.fg, rfl, rfl, trivial, trivial, (by show 0 ≤ 8; decide), fun H3 e3 => ?_⟩
          refine ⟨_, rfl, ?_⟩
          rw [b_eq]
          have e13 := e12.trans e3
          cases c3 : (r.fg == r2.fg) with
          | false =>
            refine iteF (fin H3 e13 false ?_)
            rw [c3, Bool.false_and, Bool.and_false, Bool.and_false]
          | true =>
            refine iteT ?_
            refine ⟨_, rfl, a, T.C_Widening, dx, _, _, rfl, e13 _ _ ha, T.c_Widening, T.nf_Widening_is_greatest, rfl, ?_⟩
            refine ⟨_, rfl, a2, T.C_Widening, dx2, _, _, rfl, e13 _ _ ha2, T.c_Widening, T.nf_Widening_is_greatest, rfl, .bl r.fl, .bl r2.fl, rfl, rfl, trivial, trivial, (by show 0 ≤ 8; decide), fun H4 e4 => ?_⟩
            rw [b_eq]
            refine fin H4 (e13.trans e4) _ ?_
            rw [c3, decide_eq_true c1, decide_eq_true c2, Bool.true_and, Bool.true_and, Bool.true_and]
        · rw [decide_eq_false c2]
          refine iteF (fin H2 e12 false ?_)
          rw [decide_eq_false c2, Bool.false_and, Bool.and_false]
      · rw [decide_eq_false c1]
        refine iteF (fin H1 e1 false ?_)
        rw [decide_eq_false c1, Bool.false_and]
    · obtain ⟨Tn, hTn⟩ := no h6
      rw [hTn]
      refine ⟨_, rfl, .inl ⟨Tn, rfl, ?_⟩⟩
      refine ⟨false, rfl, iteF ?_⟩
      have z := k H Ext.rfl'
      rw [LxE.deq_kd (fun z => h6 z.symm)] at z
      exact z
theorem tabW (T : Tx K mg) : EqTab P w K mg base 24 (shW T.C_Widening) := ⟨fun C fs ds h => by
  obtain ⟨rfl, _⟩ := h
  exact ⟨⟨T.a_Widening_eq, T.fd_Widening_eq, ok_Widening_eq T, T.M_Widening_eq.at_, T.M_Widening_eq.fn, T.b_Widening_eq⟩, T.ef_Widening⟩, fun C fs ds C' fs' ds' h h' => by
  obtain ⟨rfl, _⟩ := h
  obtain ⟨rfl, _⟩ := h'
  exact T.nfst_Widening_Widening⟩
theorem tabWNe (T : Tx K mg) : ∀ C fs ds, shW T.C_Widening C fs ds → LxE.NeFacts K C := fun C fs ds h => by
  obtain ⟨rfl, _⟩ := h
  exact T.ne_Widening
theorem wi_ok {C : Addr} {r : WS} : okD (shW C) (wiD C r) := ⟨rfl, r, rfl, rfl⟩
theorem wi_dep {C : Addr} {r : WS} : dep (wiD C r) ≤ 8 := by show 2 ≤ 8; decide
end
end K53
namespace K53
open PySem L2
theorem det5 {n : Nat} {q : Int} {hl : List (Int × Int)} {bs : List BarD} {ns : List Int} (ok : WebOk (n : Int) hl bs) (hsm : ∀ x ∈ ns, x.natAbs < 2 ^ 300) (hqs : q.natAbs < 2 ^ 300) : (detB n (hangL (n : Int) hl) q bs ns).natAbs < 2 ^ 5000 := by
  have hrow := aug_row (n := n) (hs := hangL (n : Int) hl) hsm hqs ok.bars (fun p hp => (ok.keys p hp).2) (by have := ok.sum; have := ok.b1; have := ok.n10; omega)
  have hab := fun i j => ent_small (B := 2 ^ 400) (by decide +kernel) (fun row hr => (hrow row hr).2) i j
  have b8 := ok.b8
  rw [← det_aug (hl := hl) ok.hang]
  exact Nat.lt_of_lt_of_le (Mx.det_bits (b := 400) (n := bs.length) (by omega) (fun p q _ _ => hab p q)) (Nat.pow_le_pow_right (by decide) (by omega))
theorem with_bars {n : Int} {bs : List BarD} {t : Nat} {b : BarD} {l g : Int} (hbo : ∀ b ∈ bs, BarOk n b) (hb : bs[t]? = some b) (h0 : 0 ≤ l) (h1 : l ≤ g) (h2 : g ≤ b.len) : ∀ c ∈ withB bs t b l g, BarOk n c := fun c hc => by
  unfold withB at hc
  rcases List.mem_or_eq_of_mem_set hc with h | h
  · exact hbo c h
  · have z := hbo b (List.mem_of_getElem? hb)
    rw [h]
    exact { z with o0 := h0, o1 := h1, o2 := h2 }
theorem with_ok {n : Nat} {hl : List (Int × Int)} {bs : List BarD} {t : Nat} {b : BarD} {l g : Int} (ok : WebOk (n : Int) hl bs) (hb : bs[t]? = some b) (h0 : 0 ≤ l) (h1 : l ≤ g) (h2 : g ≤ b.len) : WebOk (n : Int) hl (withB bs t b l g) :=
  { ok with b1 := by rw [len_with]; exact ok.b1, b8 := by rw [len_with]; exact ok.b8, sum := by rw [len_with]; exact ok.sum, bars := with_bars ok.bars hb h0 h1 h2 }
theorem row0_at {bs : List BarD} {t : Nat} {b : BarD} {row : List Int} (ht : t < bs.length) (h : row ∈ rows0 bs t b) : row.set t 0 = row := by
  have hlen := rows0_len h
  have hx : row[t]? = some (row[t]'(by omega)) := List.getElem?_eq_getElem (by omega)
  have hz : row[t]'(by omega) = 0 := (corner_at h (with_at ht) hx).elim id id
  refine List.ext_getElem? fun i => ?_
  by_cases e : i = t
  · subst e
    rw [List.getElem?_set_self (by omega), hx, hz]
  · rw [List.getElem?_set_ne (fun z => e z.symm)]
theorem row0_small {n : Int} {bs : List BarD} {t : Nat} {b : BarD} {row : List Int} (hbo : ∀ b ∈ bs, BarOk n b) (hb : bs[t]? = some b) (h : row ∈ rows0 bs t b) : ∀ x ∈ row, 0 ≤ x ∧ x ≤ 1000000 := by
  have z := hbo b (List.mem_of_getElem? hb)
  exact corner_small (with_bars hbo hb (Int.le_refl 0) (Int.le_refl 0) (by have := z.l0; omega)) h
theorem p300 : 1000000 < 2 ^ 300 := by decide +kernel
theorem set_small {t : Nat} {z : Int} {row : List Int} (h : ∀ x ∈ row, 0 ≤ x ∧ x ≤ 1000000) (hz : 0 ≤ z ∧ z ≤ 1000000) : ∀ x ∈ row.set t z, x.natAbs < 2 ^ 300 := fun x hx => by
  have : 0 ≤ x ∧ x ≤ 1000000 := by
    rcases List.mem_or_eq_of_mem_set hx with h' | h'
    · exact h x h'
    · rw [h']; exact hz
  exact Nat.lt_of_le_of_lt (show x.natAbs ≤ 1000000 by omega) p300
abbrev pB (n : Nat) (hl : List (Int × Int)) (bs : List BarD) (t : Nat) (row : List Int) : Int × Int := (aR n hl bs t row, bR n hl bs t row)
def sP (s : Int) (p : Int × Int) : Int × Int := (s * p.1, s * p.2)
theorem rt_sgn {L s : Int} {p : Int × Int} (hL : 1 ≤ L) (hs : s = 1 ∨ s = -1) (h : p.1 ≠ 0) : rt L (sP s p) = rt L p := by
  unfold sP
  rcases hs with rfl | rfl
  · rw [Int.one_mul, Int.one_mul]
  · rcases Int.lt_or_gt_of_ne h with h | h
    · rw [(rt_neg hL h).1, (rt_pos (p := (-1 * p.1, -1 * p.2)) hL (by show 0 < -1 * p.1; omega)).1]
      refine Prod.ext ?_ ?_ <;> simp only <;> grind
    · rw [(rt_pos hL h).1, (rt_neg (p := (-1 * p.1, -1 * p.2)) hL (by show -1 * p.1 < 0; omega)).1]
      refine Prod.ext ?_ ?_ <;> simp only <;> grind
theorem sP_zero {s : Int} {p : Int × Int} (hs : s = 1 ∨ s = -1) : (sP s p).1 = 0 ↔ p.1 = 0 := by
  unfold sP
  rcases hs with rfl | rfl <;> simp only <;> omega
theorem wSt_sgn {lo hi L s : Int} {st : WS} {p : Int × Int} (hL : 1 ≤ L) (hs : s = 1 ∨ s = -1) : wSt lo hi L st (sP s p) = wSt lo hi L st p := by
  by_cases h : p.1 = 0
  · unfold wSt
    rw [if_pos h, if_pos ((sP_zero hs).mpr h)]
  · unfold wSt
    rw [if_neg h, if_neg (fun z => h ((sP_zero hs).mp z)), rt_sgn hL hs h]
def wF (n : Nat) (hl : List (Int × Int)) (bs : List BarD) (t : Nat) (b : BarD) (rows : List (List Int)) : WS := rows.foldl (fun st row => wSt b.lo b.hi b.len st (pB n hl bs t row)) (w0 b.len)
def wB (n : Nat) (hl : List (Int × Int)) (bs : List BarD) (t : Nat) (b : BarD) : WS := wF n hl bs t b (rows0 bs t b)
theorem wF_snoc {n : Nat} {hl : List (Int × Int)} {bs : List BarD} {t : Nat} {b : BarD} {rows : List (List Int)} {row : List Int} : wF n hl bs t b (rows ++ [row]) = wSt b.lo b.hi b.len (wF n hl bs t b rows) (pB n hl bs t row) := by
  unfold wF
  rw [List.foldl_append]
  rfl
/-- of one sign wherever the hook is within its span, as a straight measure of each row -/
def sgnAt (n : Nat) (hl : List (Int × Int)) (bs : List BarD) (t : Nat) (b : BarD) (s : Int) : Prop := (s = 1 ∨ s = -1) ∧ ∀ row ∈ rows0 bs t b, 0 < b.lo * (sP s (pB n hl bs t row)).1 + (sP s (pB n hl bs t row)).2 ∧ 0 < b.hi * (sP s (pB n hl bs t row)).1 + (sP s (pB n hl bs t row)).2
theorem firm_sgn {n : Nat} {hl : List (Int × Int)} {bs : List BarD} {t : Nat} {b : BarD} (hhs : (hangL (n : Int) hl).length = bs.length) (hb : bs[t]? = some b) (hf : firmB n (hangL (n : Int) hl) bs) : ∃ s, sgnAt n hl bs t b s := by
  rw [← with_self hb] at hf
  obtain ⟨s, hs, h⟩ := (firm_with hhs hb).mp hf
  refine ⟨s, hs, fun row hr => ?_⟩
  obtain ⟨h1, h2⟩ := h row hr
  have e : ∀ x : Int, x * (s * aR n hl bs t row) + s * bR n hl bs t row = s * (x * aR n hl bs t row + bR n hl bs t row) := fun x => by grind
  exact ⟨by show 0 < b.lo * (s * _) + s * _; rw [e]; exact h1, by show 0 < b.hi * (s * _) + s * _; rw [e]; exact h2⟩
theorem wF_inv {n : Nat} {hl : List (Int × Int)} {bs : List BarD} {t : Nat} {b : BarD} {s : Int} (hL : 1 ≤ b.len) (l0 : 0 ≤ b.lo) (lh : b.lo ≤ b.hi) (hh : b.hi ≤ b.len) (hs : sgnAt n hl bs t b s) : ∀ i : Nat, WInv b.lo b.hi b.len (((rows0 bs t b).take i).map fun row => sP s (pB n hl bs t row)) (wF n hl bs t b ((rows0 bs t b).take i))
  | 0 => inv_w0 hL
  | i + 1 => by
    have ih := wF_inv hL l0 lh hh hs i
    rw [List.take_add_one]
    cases e : (rows0 bs t b)[i]? with
    | none => exact (List.append_nil ((rows0 bs t b).take i)).symm ▸ ih
    | some row =>
      obtain ⟨h1, h2⟩ := hs.2 row (List.mem_of_getElem? e)
      show WInv b.lo b.hi b.len (((rows0 bs t b).take i ++ [row]).map _) (wF n hl bs t b ((rows0 bs t b).take i ++ [row]))
      rw [wF_snoc, List.map_append, ← wSt_sgn hL hs.1]
      exact inv_step hL l0 lh hh ih h1 h2
theorem wB_inv {n : Nat} {hl : List (Int × Int)} {bs : List BarD} {t : Nat} {b : BarD} {s : Int} (hL : 1 ≤ b.len) (l0 : 0 ≤ b.lo) (lh : b.lo ≤ b.hi) (hh : b.hi ≤ b.len) (hs : sgnAt n hl bs t b s) : WInv b.lo b.hi b.len ((rows0 bs t b).map fun row => sP s (pB n hl bs t row)) (wB n hl bs t b) := by
  have z := wF_inv hL l0 lh hh hs (rows0 bs t b).length
  rw [List.take_length] at z
  exact z
theorem low_sml {a : Int × Int} (h : sml a) : sml (lowF a) := ⟨Nat.lt_of_le_of_lt (lowN_le _ _) h.1, Nat.lt_of_le_of_lt (lowP_le _ _) h.2⟩
theorem abs_sgn (x d : Int) : (x * sgnI d).natAbs = x.natAbs := by
  rcases sgn_two d with h | h
  · rw [h, Int.mul_one]
  · rw [h, Int.mul_neg, Int.mul_one, Int.natAbs_neg]
theorem rt_sml {L : Int} {p : Int × Int} (hL : L.natAbs < 2 ^ 20) (h0 : p.2.natAbs < 2 ^ 5000) (h1 : (L * p.1 + p.2).natAbs < 2 ^ 5000) : sml (rt L p) := by
  unfold sml rt
  dsimp only
  rw [abs_sgn, abs_sgn, Int.natAbs_neg]
  constructor
  · rw [Int.natAbs_mul]
    exact Nat.lt_of_lt_of_le (Nat.mul_lt_mul'' hL h0) (by rw [← Nat.pow_add]; exact Nat.pow_le_pow_right (by decide) (by decide))
  · have h : (L * p.1).natAbs < 2 ^ 5000 + 2 ^ 5000 := by
      generalize (2 : Nat) ^ 5000 = N at h0 h1 ⊢
      omega
    exact Nat.lt_of_lt_of_le h (Nat.le_trans (Nat.le_of_eq (show 2 ^ 5000 + 2 ^ 5000 = 2 ^ 5001 by rw [Nat.pow_succ]; omega)) (Nat.pow_le_pow_right (by decide) (by decide)))
theorem pB_small {n : Nat} {hl : List (Int × Int)} {bs : List BarD} {t : Nat} {b : BarD} {row : List Int} (ok : WebOk (n : Int) hl bs) (hb : bs[t]? = some b) (hr : row ∈ rows0 bs t b) : (bR n hl bs t row).natAbs < 2 ^ 5000 ∧ (b.len * aR n hl bs t row + bR n hl bs t row).natAbs < 2 ^ 5000 := by
  have ht := (List.getElem?_eq_some_iff.mp hb).1
  have hl2 := rows0_len hr
  have hsm := row0_small ok.bars hb hr
  have okb := ok.bars b (List.mem_of_getElem? hb)
  have g1 := okb.l0
  have g2 := okb.l1
  have one3 : (1 : Int).natAbs < 2 ^ 300 := Nat.lt_of_le_of_lt (by decide) p300
  have z0 := det5 (q := 1) ok (set_small (t := t) (z := 0) hsm ⟨by omega, by omega⟩) one3
  have z1 := det5 (q := 1) ok (set_small (t := t) (z := b.len) hsm ⟨by omega, by omega⟩) one3
  rw [det_set ok.hang hl2 ht] at z0 z1
  rw [Int.zero_mul, Int.zero_add] at z0
  exact ⟨z0, z1⟩
def smW (s : WS) : Prop := sml s.g ∧ sml s.l
theorem w0_sml {L : Int} (hL : L.natAbs < 2 ^ 20) : smW (w0 L) := ⟨⟨Nat.lt_of_lt_of_le (show (0 : Int).natAbs < 1 by decide) (Nat.pow_pos (by decide)), Nat.lt_of_lt_of_le (show (1 : Int).natAbs < 2 ^ 1 by decide) (Nat.pow_le_pow_right (by decide) (by decide))⟩,
  ⟨Nat.lt_of_lt_of_le hL (Nat.pow_le_pow_right (by decide) (by decide)), Nat.lt_of_lt_of_le (show (1 : Int).natAbs < 2 ^ 1 by decide) (Nat.pow_le_pow_right (by decide) (by decide))⟩⟩
theorem wSt_sml {lo hi L : Int} {s : WS} {p : Int × Int} (h : smW s) (hr : sml (lowF (rt L p))) : smW (wSt lo hi L s p) := by
  unfold wSt
  split
  · exact h
  · split
    · split
      · exact ⟨hr, hr⟩
      · exact ⟨hr, h.2⟩
    · split
      · exact ⟨h.1, hr⟩
      · exact h
theorem len20 {L : Int} (h0 : 1 ≤ L) (h1 : L ≤ 1000000) : L.natAbs < 2 ^ 20 := by omega
theorem wF_sml {n : Nat} {hl : List (Int × Int)} {bs : List BarD} {t : Nat} {b : BarD} (ok : WebOk (n : Int) hl bs) (hb : bs[t]? = some b) : ∀ i : Nat, smW (wF n hl bs t b ((rows0 bs t b).take i))
  | 0 => by
    have okb := ok.bars b (List.mem_of_getElem? hb)
    exact w0_sml (len20 okb.l0 okb.l1)
  | i + 1 => by
    have ih := wF_sml ok hb i
    have okb := ok.bars b (List.mem_of_getElem? hb)
    rw [List.take_add_one]
    cases e : (rows0 bs t b)[i]? with
    | none => exact (List.append_nil ((rows0 bs t b).take i)).symm ▸ ih
    | some row =>
      have z := pB_small ok hb (List.mem_of_getElem? e)
      show smW (wF n hl bs t b ((rows0 bs t b).take i ++ [row]))
      rw [wF_snoc]
      exact wSt_sml ih (low_sml (rt_sml (len20 okb.l0 okb.l1) z.1 z.2))
theorem sgn_abs {s x : Int} (hs : s = 1 ∨ s = -1) : (s * x).natAbs = x.natAbs := by
  rcases hs with rfl | rfl
  · rw [Int.one_mul]
  · rw [Int.neg_mul, Int.one_mul, Int.natAbs_neg]
theorem sq_if {K : PySem.W.Frag} {H : Hp} {x y : Addr} {a b : Int × Int} (c : Bool) (h1 : SqT K H x [.int a.1, .int a.2]) (h2 : SqT K H y [.int b.1, .int b.2]) : SqT K H (if c = true then y else x) [.int (if c = true then b else a).1, .int (if c = true then b else a).2] := by
  cases c with
  | true => exact h2
  | false => exact h1
section
variable {P : Program} {w : World} {K : PySem.W.Frag} {mg : Str → Option Value} {base : Heap}
def spWiden (K : PySem.W.Frag) (T : Tx K mg) : Sp := fun vs H Q _ => ∃ (v : V) (n : Nat) (bs : List BarD) (hl : List (Int × Int)) (t : Nat) (b : BarD), vs = [v, .int (t : Int)] ∧ Is K H (wbD T.C_Web T.C_Bar (n : Int) bs (normH hl)) v ∧ WebOk (n : Int) hl bs ∧ bs[t]? = some b ∧ firmB n (hangL (n : Int) hl) bs ∧
  ∀ u H', Ext H H' → Is K H' (wiD T.C_Widening (wB n hl bs t b)) u → Q u H'
theorem ok_widen (T : Tx K mg) : FnOk P w K mg base (L2.CX P w) 11 T.a_widen T.fd_widen ["web", "bar"] (spWiden K T) := by
  refine T.F_widen.okX sc_widen (fun vs H Q E h => ?_) (fun cdv A outer s H vs Q E hr h => ?_)
  · obtain ⟨v, n, bs, hl, t, b, rfl, _⟩ := h
    rfl
  · obtain ⟨v, n, bs, hl, t, b, rfl, hv, ok, hb, hf, k⟩ := h
    refine ⟨_, (pss_cons (ps_expr (pe_call (ok_check_has_bar T) (hr.mono (by decide)) rfl T.m_check_has_bar T.F_check_has_bar.kp T.b_check_has_bar .nil passL (pa_cons (pv 0) (pa_cons (pv 1) pa_nil))))
      (pss_cons (ps_expr (pe_call (ok_check_firm T) (hr.mono (by decide)) rfl T.m_check_firm T.F_check_firm.kp T.b_check_firm .nil passL (pa_cons (pv 0) pa_nil)))
      (pss_cons (ps_set (i := 2) sc_widen.nd rfl (Or.inl rfl) (pe_fld (pe_ix ix_tup (pe_fld (pv 0) rfl) (pv 1) (fun _ _ => rfl)) rfl))
      (pss_cons (ps_set (i := 3) sc_widen.nd rfl (Or.inl rfl) (pe_tup (pa_cons pe_int (pa_cons pe_int pa_nil))))
      (pss_cons (ps_set (i := 4) sc_widen.nd rfl (Or.inl rfl) (pe_tup (pa_cons (pv 2) (pa_cons pe_int pa_nil))))
      (pss_cons (ps_asg2 pe_bl (pg_name (i := 5) sc_widen.nd rfl (Or.inl rfl)) (pg_name (i := 6) sc_widen.nd rfl (Or.inl rfl)))
      (pss_cons (ps_for (passes_of rfl) rfl (pi_list (pe_call (ok_other_corners T) (hr.mono (by decide)) rfl T.m_other_corners T.F_other_corners.kp T.b_other_corners .nil passL (pa_cons (pv 0) (pa_cons (pv 1) (pa_cons pe_int pa_nil))))) (pg_name (i := 7) sc_widen.nd rfl (Or.inl rfl)) (pss_cons (ps_asg (pe_call (ok_firmness_along T) (hr.mono (by decide)) rfl T.m_firmness_along T.F_firmness_along.kp T.b_firmness_along .nil passL (pa_cons (pv 0) (pa_cons (pv 1) (pa_cons (pv 7) pa_nil)))) (pg_tup (by rfl) (pgs_cons (pg_name (i := 8) sc_widen.nd rfl (Or.inl rfl)) (pgs_cons (pg_name (i := 9) sc_widen.nd rfl (Or.inl rfl)) pgs_nil))))
      (pss_cons (ps_if (pt_cmpR op_le (pv 8) pe_int (nomark _)) (pss_cons (ps_set (i := 3) sc_widen.nd rfl (Or.inl rfl) (pe_call (ok_greater T) (hr.mono (by decide)) rfl T.m_greater T.F_greater.kp T.b_greater .nil passL (pa_cons (pv 3) (pa_cons (pe_call (ok_root T) (hr.mono (by decide)) rfl T.m_root T.F_root.kp T.b_root .nil passL (pa_cons pe_int (pa_cons (pv 2) (pa_cons (pv 8) (pa_cons (pv 9) pa_nil))))) pa_nil))))
      (pss_one (ps_set (i := 5) sc_widen.nd rfl (Or.inl rfl) pe_bl))) pss_nil)
      (pss_one (ps_if (pt_cmpR op_le (pv 9) pe_int (nomark _)) (pss_cons (ps_set (i := 4) sc_widen.nd rfl (Or.inl rfl) (pe_call (ok_less T) (hr.mono (by decide)) rfl T.m_less T.F_less.kp T.b_less .nil passL (pa_cons (pv 4) (pa_cons (pe_call (ok_root T) (hr.mono (by decide)) rfl T.m_root T.F_root.kp T.b_root .nil passL (pa_cons pe_int (pa_cons (pv 2) (pa_cons (pv 8) (pa_cons (pv 9) pa_nil))))) pa_nil))))
      (pss_one (ps_set (i := 6) sc_widen.nd rfl (Or.inl rfl) pe_bl))) pss_nil)))))
      (pss_one (ps_ret (pe_make T.k_Widening (ok_Widening_init T) (hr.mono (by decide)) rfl T.m_Widening T.b_Widening_init .nil passL (pa_cons (pv 3) (pa_cons (pv 4) (pa_cons (pv 5) (pa_cons (pv 6) pa_nil)))))))))))))), ?_⟩
    rw [show L2.start N_widen [v, .int (t : Int)] = [some v, some (.int (t : Int)), none, none, none, none, none, none, none, none] from rfl]
    have ht := (List.getElem?_eq_some_iff.mp hb).1
    have n10 : n ≤ 10 := by have := ok.n10; omega
    have okb := ok.bars b (List.mem_of_getElem? hb)
    have g1 := okb.l0
    have g2 := okb.l1
    obtain ⟨s, hs⟩ := firm_sgn ok.hang hb hf
    have hn : (hangL (n : Int) (normH hl)) = hangL (n : Int) hl := hang_norm
    refine ⟨_, rfl, _, rfl, v, (n : Int), bs, normH hl, t, rfl, hv, ht, ?_⟩
    refine ⟨_, rfl, v, n, bs, normH hl, rfl, hv, n10, ok.b8, ok.bars, by rw [hn]; exact ok.hang, fun _ H1 e1 => ?_, fun z => absurd (by rw [hn]; exact hf) z⟩
    have hv1 := hv.ext e1
    obtain ⟨a, dx, tb, d, us, hva, ha, htp, hbb, hd⟩ := wb_fields hv1
    obtain ⟨o, hot, io⟩ := isL_at2 hbb hb
    obtain ⟨oa, odx, rfl, hoa⟩ := br_fields io
    refine ⟨_, rfl, a, T.C_Web, dx, _, _, hva, ha, T.c_Web, T.nf_Web_bars, rfl, _, rfl, tb, _, _, _, rfl, rfl, htp, atI_nat hot, oa, T.C_Bar, odx, _, _, rfl, hoa, T.c_Bar, T.nf_Bar_length, rfl, ?_⟩
    simp only [List.set_cons_succ, List.set_cons_zero]
    refine ⟨by show 2 ≤ sizeLine; decide, fun gl0 hgl0 => ?_⟩
    simp only [List.set_cons_succ, List.set_cons_zero]
    refine ⟨_, rfl, by show 2 ≤ sizeLine; decide, fun gg0 hgg0 => ?_⟩
    simp only [List.set_cons_succ, List.set_cons_zero]
    have f1 := (Ext.upd (o := .tup [.int 0, .int 1]) hgl0).trans (Ext.upd (o := .tup [.int b.len, .int 1]) hgg0)
    have q1 : SqT K (upd (upd H1 gl0 (.tup [.int 0, .int 1])) gg0 (.tup [.int b.len, .int 1])) gl0 [.int 0, .int 1] := (SqT.of (upd_same (H := H1))).ext (Ext.upd hgg0)
    have q2 : SqT K (upd (upd H1 gl0 (.tup [.int 0, .int 1])) gg0 (.tup [.int b.len, .int 1])) gg0 [.int b.len, .int 1] := SqT.of upd_same
    generalize upd (upd H1 gl0 (.tup [.int 0, .int 1])) gg0 (.tup [.int b.len, .int 1]) = H2 at f1 q1 q2 ⊢
    have hv2 := hv1.ext f1
    have e2 := e1.trans f1
    refine ⟨_, rfl, _, rfl, v, (n : Int), bs, normH hl, t, 0, b, rfl, hv2, ok.b8, hb, fun R rs H3 hR e3 hR3 hrs hcl => ?_⟩
    have hrl : rs.length = (rows0 bs t b).length := by rw [isL_len hrs, List.length_map]; rfl
    have e23 := e2.trans e3
    refine ⟨R, rfl, ⟨_, SqL.of hR3⟩, for_list (K := K) (a := R) (xs := rs) (fun i σ H' => Ext H3 H' ∧ ∃ (gl gg : Addr) (v7 v8 v9 : Option V), σ = [some v, some (.int (t : Int)), some (.int b.len), some (.ref gl), some (.ref gg), some (.bl (wF n hl bs t b ((rows0 bs t b).take i)).fg), some (.bl (wF n hl bs t b ((rows0 bs t b).take i)).fl), v7, v8, v9] ∧
        SqT K H' gl [.int (wF n hl bs t b ((rows0 bs t b).take i)).g.1, .int (wF n hl bs t b ((rows0 bs t b).take i)).g.2] ∧ SqT K H' gg [.int (wF n hl bs t b ((rows0 bs t b).take i)).l.1, .int (wF n hl bs t b ((rows0 bs t b).take i)).l.2])
      ⟨Ext.rfl', gl0, gg0, none, none, none, rfl, q1.ext e3, q2.ext e3⟩ (fun i σ H' _ p => SqL.of (p.1 _ _ hR3)) ?_ ?_⟩
    · rintro i y σ H4 hi ⟨e4, gl, gg, v7, v8, v9, rfl, hgl, hgg⟩
      obtain ⟨row, hrow, iy⟩ := isL_at' hrs hi
      have hrow : (rows0 bs t b)[i]? = some row := hrow
      obtain ⟨ra, rfl, hra⟩ := rw_of (iy.ext e4)
      have hm : row ∈ rows0 bs t b := List.mem_of_getElem? hrow
      have hI := wF_inv g1 okb.o0 okb.o1 okb.o2 hs i
      have hS := wF_sml ok hb i
      have hnx : wF n hl bs t b ((rows0 bs t b).take (i + 1)) = pSt b.len (wF n hl bs t b ((rows0 bs t b).take i)) (sP s (pB n hl bs t row)) := by
        rw [List.take_add_one, hrow]
        show wF n hl bs t b (_ ++ [row]) = _
        rw [wF_snoc, p_is_w g1 okb.o0 okb.o1 okb.o2 hI (hs.2 row hm).1 (hs.2 row hm).2, wSt_sgn g1 hs.1]
      have hps := pB_small ok hb hm
      have hln := rows0_len hm
      have hsmr := row0_small ok.bars hb hm
      rw [hnx]
      generalize wF n hl bs t b ((rows0 bs t b).take i) = st at hI hS hgl hgg ⊢
      have hpos := hs.2 row hm
      refine ⟨_, rfl, _, rfl, _, rfl, v, ra, n, bs, normH hl, t, b, row, rfl, hv2.ext (e3.trans e4), hra, hln, n10, ok.b8, ok.bars, by rw [hn]; exact ok.hang, hsmr, hb, fun u H5 e5 hu => ?_⟩
      rw [hn, show detB n (hangL (n : Int) hl) 1 bs row = bR n hl bs t row from by rw [← row0_at ht hm, det_set ok.hang hln ht, Int.zero_mul, Int.zero_add, row0_at ht hm], det_set ok.hang hln ht, det_set ok.hang hln ht] at hu
      obtain ⟨p, hp⟩ : ∃ p, p = sP s (pB n hl bs t row) := ⟨_, rfl⟩
      have hu2 : H5 u = some (.tup [.int p.2, .int (b.len * p.1 + p.2)]) := by
        rw [hu, hp]
        unfold sP pB
        obtain ⟨h1, _⟩ := hpos
        unfold sP pB at h1
        generalize aR n hl bs t row = x at h1 ⊢
        generalize bR n hl bs t row = y at h1 ⊢
        dsimp only at h1 ⊢
        rcases hs.1 with e | e
        · rw [e, Int.one_mul, Int.one_mul] at h1
          rw [e, if_neg (by omega), if_neg (by omega), Int.one_mul, Int.one_mul]
        · have z : b.lo * x + y < 0 := by
            rw [e] at h1
            grind
          rw [e, if_pos z, if_pos z, show -1 * y = -y by omega, show b.len * (-1 * x) + -y = -(b.len * x + y) by grind]
      have hz2 : p.2.natAbs < 2 ^ 5000 := by rw [hp]; show (s * _).natAbs < _; rw [sgn_abs hs.1]; exact hps.1
      have hz1 : (b.len * p.1 + p.2).natAbs < 2 ^ 5000 := by
        rw [hp]
        show (b.len * (s * _) + s * _).natAbs < _
        rw [show b.len * (s * aR n hl bs t row) + s * bR n hl bs t row = s * (b.len * aR n hl bs t row + bR n hl bs t row) by grind, sgn_abs hs.1]
        exact hps.2
      rw [← hp] at hpos ⊢
      clear hu hps hp hI
      have lsm := low_sml (rt_sml (p := p) (len20 g1 g2) hz2 hz1)
      have ne1 : p.2 ≤ 0 → p.1 ≠ 0 := fun h z => by
        have := hpos.1
        rw [z] at this
        omega
      have ne2 : b.len * p.1 + p.2 ≤ 0 → p.1 ≠ 0 := fun h z => by
        have := hpos.1
        rw [z] at this h
        omega
      clear hpos
      have e45 := e4.trans e5
      have hgl5 := hgl.ext e5
      have hgg5 := hgg.ext e5
      clear e4 e5 hgl hgg
      refine ⟨u, _, rfl, SqT.of hu2, rfl, _, _, rfl, _, _, rfl, rfl, ?_⟩
      simp only [List.set_cons_succ, List.set_cons_zero]
      refine ⟨_, rfl, _, _, rfl, rfl, _, rfl, ite2 (fun c => ?_) (fun c => ?_)⟩
      · have c := of_decide_eq_true c
        refine ⟨_, rfl, _, rfl, _, rfl, _, rfl, b.len, p, rfl, g1, g2, ne1 c, hz2, hz1, fun r1 H6 e6 hr1 => ⟨gl, r1, st.g, lowF (rt b.len p), rfl, hgl5.ext e6, SqT.of hr1, hS.1, lsm, ?_⟩⟩
        have e46 := e45.trans e6
        have hg6 := sq_if (ltP st.g (lowF (rt b.len p))) (hgl5.ext e6) (SqT.of (K := K) hr1)
        have hgg6 := hgg5.ext e6
        simp only [List.set_cons_succ, List.set_cons_zero]
        refine ⟨_, rfl, _, _, rfl, rfl, _, rfl, ite2 (fun c2 => ?_) (fun c2 => ?_)⟩
        · have c2 := of_decide_eq_true c2
          refine ⟨_, rfl, _, rfl, _, rfl, _, rfl, b.len, p, rfl, g1, g2, ne2 c2, hz2, hz1, fun r2 H7 e7 hr2 => ⟨gg, r2, st.l, lowF (rt b.len p), rfl, hgg6.ext e7, SqT.of hr2, hS.2, lsm, ?_⟩⟩
          simp only [List.set_cons_succ, List.set_cons_zero]
          rw [show pSt b.len st p = ⟨if ltP st.g (lowF (rt b.len p)) then lowF (rt b.len p) else st.g, if ltP st.l (lowF (rt b.len p)) then st.l else lowF (rt b.len p), false, false⟩ from by unfold pSt; simp only [c, c2, if_true]]
          exact ⟨e46.trans e7, _, _, _, _, _, rfl, hg6.ext e7, sq_if (ltP st.l (lowF (rt b.len p))) (SqT.of (K := K) hr2) (hgg6.ext e7)⟩
        · have c2 : ¬ b.len * p.1 + p.2 ≤ 0 := fun z => c2 (decide_eq_true z)
          rw [show pSt b.len st p = ⟨if ltP st.g (lowF (rt b.len p)) then lowF (rt b.len p) else st.g, st.l, false, st.fl⟩ from by unfold pSt; simp only [c, c2, if_true, if_false]]
          exact ⟨e46, _, _, _, _, _, rfl, hg6, hgg6⟩
      · have c : ¬ p.2 ≤ 0 := fun z => c (decide_eq_true z)
        refine ⟨_, rfl, _, _, rfl, rfl, _, rfl, ite2 (fun c2 => ?_) (fun c2 => ?_)⟩
        · have c2 := of_decide_eq_true c2
          refine ⟨_, rfl, _, rfl, _, rfl, _, rfl, b.len, p, rfl, g1, g2, ne2 c2, hz2, hz1, fun r2 H7 e7 hr2 => ⟨gg, r2, st.l, lowF (rt b.len p), rfl, hgg5.ext e7, SqT.of hr2, hS.2, lsm, ?_⟩⟩
          simp only [List.set_cons_succ, List.set_cons_zero]
          rw [show pSt b.len st p = ⟨st.g, if ltP st.l (lowF (rt b.len p)) then st.l else lowF (rt b.len p), st.fg, false⟩ from by unfold pSt; simp only [c, c2, if_true, if_false]]
          exact ⟨e45.trans e7, _, _, _, _, _, rfl, hgl5.ext e7, sq_if (ltP st.l (lowF (rt b.len p))) (SqT.of (K := K) hr2) (hgg5.ext e7)⟩
        · have c2 : ¬ b.len * p.1 + p.2 ≤ 0 := fun z => c2 (decide_eq_true z)
          rw [show pSt b.len st p = st from by unfold pSt; simp only [c, c2, if_false]]
          exact ⟨e45, _, _, _, _, _, rfl, hgl5, hgg5⟩
    · rintro σ H4 ⟨e4, gl, gg, v7, v8, v9, rfl, hgl, hgg⟩
      rw [hrl, List.take_length] at hgl hgg ⊢
      refine ⟨_, rfl, _, rfl, _, rfl, _, rfl, fun x dx hx hdx hne => ?_⟩
      exact ⟨H4, x, dx, gl, gg, wB n hl bs t b, rfl, hx, hdx, hne, rfl, .inr hgl, .inr hgg, fun H5 e5 i5 => ⟨rfl, k _ _ ((e23.trans e4).trans e5) i5⟩⟩
end
end K53
namespace K53
open PySem L2
theorem set_mid {α : Type} {l : List α} {i : Nat} {z : α} (h : i < l.length) : l.take i ++ [z] ++ l.drop (i + 1) = l.set i z := by
  rw [List.set_eq_take_append_cons_drop, if_pos h, List.append_assoc]
  rfl
section
variable {P : Program} {w : World} {K : PySem.W.Frag} {mg : Str → Option Value} {base : Heap}
def spWith (K : PySem.W.Frag) : Sp := fun vs H Q _ => ∃ (v : V) (n : Nat) (hl : List (Int × Int)) (bs : List BarD) (t : Nat) (b : BarD) (l g : Int), vs = [v, .int (t : Int), .int l, .int g] ∧ Is K H (fcD (n : Int) hl bs) v ∧ bs.length ≤ 8 ∧ bs[t]? = some b ∧
  ∀ u H', Ext H H' → Is K H' (fcD (n : Int) hl (withB bs t b l g)) u → Q u H'
theorem ok_l_with (T : Tx K mg) : FnOk P w K mg base (L2.CX P w) 1 T.a_l_with T.fd_l_with ["_law_facts_here", "_law_bar_here", "_law_least", "_law_greatest"] (spWith K) := by
  refine T.F_l_with.okX sc_l_with (fun vs H Q E h => ?_) (fun cdv A outer s H vs Q E hr h => ?_)
  · obtain ⟨v, n, hl, bs, t, b, l, g, rfl, _⟩ := h
    rfl
  · obtain ⟨v, n, hl, bs, t, b, l, g, rfl, hv, b8, hb, k⟩ := h
    refine ⟨_, (pss_cons (ps_asg (pv 0) (pg_tup (by rfl) (pgs_cons (pg_name (i := 4) sc_l_with.nd rfl (Or.inl rfl)) (pgs_cons (pg_name (i := 5) sc_l_with.nd rfl (Or.inl rfl)) (pgs_cons (pg_name (i := 6) sc_l_with.nd rfl (Or.inl rfl)) pgs_nil)))))
      (pss_one (ps_ret (pe_tup (pa_cons (pv 4) (pa_cons (pv 5) (pa_cons (pe_op op_catL (pe_op op_catL (pe_slice sl_list (pv 6) po_none (po_some (pv 1))) (pe_lst (pa_cons (pe_op op_catT (pe_slice sl_tup (pe_ix ix_list (pv 6) (pv 1) (fun _ _ => rfl)) po_none (po_some pe_int)) (pe_tup (pa_cons (pv 2) (pa_cons (pv 3) pa_nil)))) pa_nil))) (pe_slice sl_list (pv 6) (po_some (pe_op op_add (pv 1) pe_int)) po_none)) pa_nil))))))), ?_⟩
    have ht := (List.getElem?_eq_some_iff.mp hb).1
    obtain ⟨tt, hd, bl, ws, rfl, htt, hhd, hbl, hbs⟩ := fc_of hv
    have hwl : ws.length = bs.length := by rw [isL_len hbs, List.length_map]
    obtain ⟨tv, htv, itb⟩ := isL_at2 hbs hb
    obtain ⟨tb, rfl, htb⟩ := bf_of itb
    refine ⟨_, rfl, tt, _, rfl, htt, rfl, _, _, rfl, _, _, rfl, _, _, rfl, rfl, ?_⟩
    refine ⟨_, rfl, _, rfl, _, rfl, _, rfl, (t : Int), rfl, bl, _, rfl, hbl, fun A1 hA1 => ?_⟩
    have f1 : Ext H (upd H A1 (.lst (cutV ws none (some (t : Int))))) := Ext.upd hA1
    have g1 : (upd H A1 (.lst (cutV ws none (some (t : Int))))) A1 = some (.lst (ws.take t)) := by rw [upd_same, cut_take]
    generalize upd H A1 (.lst (cutV ws none (some (t : Int)))) = H1 at f1 g1 ⊢
    refine ⟨_, rfl, _, rfl, bl, ws, (t : Int), _, rfl, rfl, hbl.ext f1, atI_nat htv, 4, rfl, tb, _, rfl, htb.ext f1, (fun z => absurd (show (4 : Nat) = 6 from z.2) (by decide)), fun q1 hq1 => ?_⟩
    have f2 : Ext H1 (upd H1 q1 (.tup (cutV (brV b) none (some 4)))) := Ext.upd hq1
    have g2 : (upd H1 q1 (.tup (cutV (brV b) none (some 4)))) q1 = some (.tup [.int b.a, .int b.b, .int b.c, .int b.len]) := by rw [upd_same]; rfl
    generalize upd H1 q1 (.tup (cutV (brV b) none (some 4))) = H2 at f2 g2 ⊢
    refine ⟨_, rfl, _, rfl, by show 2 ≤ sizeLine; decide, fun q2 hq2 => ?_⟩
    refine ⟨q1, q2, _, _, rfl, rfl, SqT.of (Ext.upd hq2 _ _ g2), SqT.of upd_same, (fun z => by cases z), by show 6 ≤ sizeLine; decide, (fun z => by cases z), fun _ q3 hq3 => ?_⟩
    have f3 : Ext H2 (upd (upd H2 q2 (.tup [.int l, .int g])) q3 (.tup ([.int b.a, .int b.b, .int b.c, .int b.len] ++ [.int l, .int g]))) := (Ext.upd hq2).trans (Ext.upd hq3)
    have g3 : (upd (upd H2 q2 (.tup [.int l, .int g])) q3 (.tup ([.int b.a, .int b.b, .int b.c, .int b.len] ++ [.int l, .int g]))) q3 = some (.tup (brV { b with lo := l, hi := g })) := upd_same
    generalize upd (upd H2 q2 (.tup [.int l, .int g])) q3 (.tup ([.int b.a, .int b.b, .int b.c, .int b.len] ++ [.int l, .int g])) = H3 at f3 g3 ⊢
    refine ⟨by show 1 ≤ sizeLine; decide, fun A2 hA2 => ?_⟩
    have f13 := f2.trans f3
    refine ⟨A1, A2, _, _, rfl, rfl, SqL.of (Ext.upd hA2 _ _ (f13 _ _ g1)), SqL.of upd_same, ?_, fun A3 hA3 => ?_⟩
    · rw [List.length_take]
      exact Nat.le_trans (show min t ws.length + 1 ≤ 100 by omega) (by decide)
    have f4 : Ext H3 (upd (upd H3 A2 (.lst [.ref q3])) A3 (.lst (ws.take t ++ [.ref q3]))) := (Ext.upd hA2).trans (Ext.upd hA3)
    have g4 : (upd (upd H3 A2 (.lst [.ref q3])) A3 (.lst (ws.take t ++ [.ref q3]))) A3 = some (.lst (ws.take t ++ [.ref q3])) := upd_same
    generalize upd (upd H3 A2 (.lst [.ref q3])) A3 (.lst (ws.take t ++ [.ref q3])) = H4 at f4 g4 ⊢
    have f04 := (f1.trans f13).trans f4
    refine ⟨_, rfl, _, rfl, _, _, rfl, rfl, ((t + 1 : Nat) : Int), rfl, bl, _, rfl, hbl.ext f04, fun A4 hA4 => ?_⟩
    have f5 : Ext H4 (upd H4 A4 (.lst (cutV ws (some ((t + 1 : Nat) : Int)) none))) := Ext.upd hA4
    have g5 : (upd H4 A4 (.lst (cutV ws (some ((t + 1 : Nat) : Int)) none))) A4 = some (.lst (ws.drop (t + 1))) := by rw [upd_same, cut_drop]
    have g4' := f5 _ _ g4
    generalize upd H4 A4 (.lst (cutV ws (some ((t + 1 : Nat) : Int)) none)) = H5 at f5 g5 g4' ⊢
    refine ⟨A3, A4, _, _, rfl, rfl, SqL.of g4', SqL.of g5, ?_, fun A5 hA5 => ?_⟩
    · rw [List.length_append, List.length_take, List.length_drop]
      exact Nat.le_trans (show min t ws.length + 1 + (ws.length - (t + 1)) ≤ 100 by omega) (by decide)
    have f6 : Ext H5 (upd H5 A5 (.lst (ws.take t ++ [.ref q3] ++ ws.drop (t + 1)))) := Ext.upd hA5
    have g6 : (upd H5 A5 (.lst (ws.take t ++ [.ref q3] ++ ws.drop (t + 1)))) A5 = some (.lst (ws.set t (.ref q3))) := by rw [upd_same, set_mid (by omega)]
    generalize upd H5 A5 (.lst (ws.take t ++ [.ref q3] ++ ws.drop (t + 1))) = H6 at f6 g6 ⊢
    have f56 := f5.trans f6
    have f06 := f04.trans f56
    have i6 : IsL K H6 ((withB bs t b l g).map bfD) (ws.set t (.ref q3)) := by
      unfold withB
      rw [List.map_set]
      exact isL_set (hbs.ext f06) (bf_is ((f4.trans f56) _ _ g3))
    refine ⟨by show 3 ≤ sizeLine; decide, fun u hu => ?_⟩
    have f07 : Ext H (upd H6 u (.tup [.int (n : Int), .ref hd, .ref A5])) := f06.trans (Ext.upd hu)
    have i7 : Is K (upd H6 u (.tup [.int (n : Int), .ref hd, .ref A5])) (fcD (n : Int) hl (withB bs t b l g)) (.ref u) := fc_is (SqT.of upd_same) (f07 _ _ hhd) (SqL.of (Ext.upd hu _ _ g6)) (i6.ext (Ext.upd hu))
    generalize upd H6 u (.tup [.int (n : Int), .ref hd, .ref A5]) = H7 at f07 i7 ⊢
    exact k _ _ f07 i7
def spBeside (K : PySem.W.Frag) : Sp := fun vs H Q _ => ∃ (v : V) (n : Nat) (hl : List (Int × Int)) (bs : List BarD) (t : Nat) (b : BarD), vs = [v, .int (t : Int)] ∧ Is K H (fcD (n : Int) hl bs) v ∧ WebOk (n : Int) hl bs ∧ bs[t]? = some b ∧
  ∀ p rs H', H p = none → Ext H H' → H' p = some (.lst rs) → IsL K H' ((rows0 bs t b).map rwI) rs → (rows0 bs t b).length ≤ 256 → Q (.ref p) H'
theorem ok_l_beside (T : Tx K mg) : FnOk P w K mg base (L2.CX P w) 4 T.a_l_beside T.fd_l_beside ["_law_facts_here", "_law_bar_here"] (spBeside K) := by
  refine T.F_l_beside.okX sc_l_beside (fun vs H Q E h => ?_) (fun cdv A outer s H vs Q E hr h => ?_)
  · obtain ⟨v, n, hl, bs, t, b, rfl, _⟩ := h
    rfl
  · obtain ⟨v, n, hl, bs, t, b, rfl, hv, ok, hb, k⟩ := h
    refine ⟨_, (pss_cons (ps_asg (pv 0) (pg_tup (by rfl) (pgs_cons (pg_name (i := 2) sc_l_beside.nd rfl (Or.inl rfl)) (pgs_cons (pg_name (i := 3) sc_l_beside.nd rfl (Or.inl rfl)) (pgs_cons (pg_name (i := 4) sc_l_beside.nd rfl (Or.inl rfl)) pgs_nil)))))
      (pss_cons (ps_set (i := 5) sc_l_beside.nd rfl (Or.inl rfl) (pe_ix ix_list (pv 4) (pv 1) (fun _ _ => rfl)))
      (pss_one (ps_ret (pe_call (ok_l_corners T) (hr.mono (by decide)) rfl T.m_l_corners T.F_l_corners.kp T.b_l_corners .nil passL (pa_cons (pe_tup (pa_cons (pv 2) (pa_cons (pv 3) (pa_cons (pe_op op_catL (pe_op op_catL (pe_slice sl_list (pv 4) po_none (po_some (pv 1))) (pe_lst (pa_cons (pe_op op_catT (pe_slice sl_tup (pv 5) po_none (po_some pe_int)) (pe_tup (pa_cons pe_int (pa_cons pe_int pa_nil)))) pa_nil))) (pe_slice sl_list (pv 4) (po_some (pe_op op_add (pv 1) pe_int)) po_none)) pa_nil)))) pa_nil)))))), ?_⟩
    have b8 := ok.b8
    have ht := (List.getElem?_eq_some_iff.mp hb).1
    obtain ⟨tt, hd, bl, ws, rfl, htt, hhd, hbl, hbs⟩ := fc_of hv
    have hwl : ws.length = bs.length := by rw [isL_len hbs, List.length_map]
    obtain ⟨tv, htv, itb⟩ := isL_at2 hbs hb
    obtain ⟨tb, rfl, htb⟩ := bf_of itb
    refine ⟨_, rfl, tt, _, rfl, htt, rfl, _, _, rfl, _, _, rfl, _, _, rfl, rfl, ?_⟩
    refine ⟨_, rfl, _, rfl, bl, ws, (t : Int), _, rfl, rfl, hbl, atI_nat htv, ?_⟩
    refine ⟨_, rfl, _, rfl, _, rfl, _, rfl, (t : Int), rfl, bl, _, rfl, hbl, fun A1 hA1 => ?_⟩
    have f1 : Ext H (upd H A1 (.lst (cutV ws none (some (t : Int))))) := Ext.upd hA1
    have g1 : (upd H A1 (.lst (cutV ws none (some (t : Int))))) A1 = some (.lst (ws.take t)) := by rw [upd_same, cut_take]
    generalize upd H A1 (.lst (cutV ws none (some (t : Int)))) = H1 at f1 g1 ⊢
    refine ⟨_, rfl, 4, rfl, tb, _, rfl, htb.ext f1, (fun z => absurd (show (4 : Nat) = 6 from z.2) (by decide)), fun q1 hq1 => ?_⟩
    have f2 : Ext H1 (upd H1 q1 (.tup (cutV (brV b) none (some 4)))) := Ext.upd hq1
    have g2 : (upd H1 q1 (.tup (cutV (brV b) none (some 4)))) q1 = some (.tup [.int b.a, .int b.b, .int b.c, .int b.len]) := by rw [upd_same]; rfl
    generalize upd H1 q1 (.tup (cutV (brV b) none (some 4))) = H2 at f2 g2 ⊢
    refine ⟨by show 2 ≤ sizeLine; decide, fun q2 hq2 => ?_⟩
    refine ⟨q1, q2, _, _, rfl, rfl, SqT.of (Ext.upd hq2 _ _ g2), SqT.of upd_same, (fun z => by cases z), by show 6 ≤ sizeLine; decide, (fun z => by cases z), fun _ q3 hq3 => ?_⟩
    have f3 : Ext H2 (upd (upd H2 q2 (.tup [.int 0, .int 0])) q3 (.tup ([.int b.a, .int b.b, .int b.c, .int b.len] ++ [.int 0, .int 0]))) := (Ext.upd hq2).trans (Ext.upd hq3)
    have g3 : (upd (upd H2 q2 (.tup [.int 0, .int 0])) q3 (.tup ([.int b.a, .int b.b, .int b.c, .int b.len] ++ [.int 0, .int 0]))) q3 = some (.tup (brV { b with lo := 0, hi := 0 })) := upd_same
    generalize upd (upd H2 q2 (.tup [.int 0, .int 0])) q3 (.tup ([.int b.a, .int b.b, .int b.c, .int b.len] ++ [.int 0, .int 0])) = H3 at f3 g3 ⊢
    refine ⟨by show 1 ≤ sizeLine; decide, fun A2 hA2 => ?_⟩
    have f13 := f2.trans f3
    refine ⟨A1, A2, _, _, rfl, rfl, SqL.of (Ext.upd hA2 _ _ (f13 _ _ g1)), SqL.of upd_same, ?_, fun A3 hA3 => ?_⟩
    · rw [List.length_take]
      exact Nat.le_trans (show min t ws.length + 1 ≤ 100 by omega) (by decide)
    have f4 : Ext H3 (upd (upd H3 A2 (.lst [.ref q3])) A3 (.lst (ws.take t ++ [.ref q3]))) := (Ext.upd hA2).trans (Ext.upd hA3)
    have g4 : (upd (upd H3 A2 (.lst [.ref q3])) A3 (.lst (ws.take t ++ [.ref q3]))) A3 = some (.lst (ws.take t ++ [.ref q3])) := upd_same
    generalize upd (upd H3 A2 (.lst [.ref q3])) A3 (.lst (ws.take t ++ [.ref q3])) = H4 at f4 g4 ⊢
    have f04 := (f1.trans f13).trans f4
    refine ⟨_, rfl, _, rfl, _, _, rfl, rfl, ((t + 1 : Nat) : Int), rfl, bl, _, rfl, hbl.ext f04, fun A4 hA4 => ?_⟩
    have f5 : Ext H4 (upd H4 A4 (.lst (cutV ws (some ((t + 1 : Nat) : Int)) none))) := Ext.upd hA4
    have g5 : (upd H4 A4 (.lst (cutV ws (some ((t + 1 : Nat) : Int)) none))) A4 = some (.lst (ws.drop (t + 1))) := by rw [upd_same, cut_drop]
    have g4' := f5 _ _ g4
    generalize upd H4 A4 (.lst (cutV ws (some ((t + 1 : Nat) : Int)) none)) = H5 at f5 g5 g4' ⊢
    refine ⟨A3, A4, _, _, rfl, rfl, SqL.of g4', SqL.of g5, ?_, fun A5 hA5 => ?_⟩
    · rw [List.length_append, List.length_take, List.length_drop]
      exact Nat.le_trans (show min t ws.length + 1 + (ws.length - (t + 1)) ≤ 100 by omega) (by decide)
    have f6 : Ext H5 (upd H5 A5 (.lst (ws.take t ++ [.ref q3] ++ ws.drop (t + 1)))) := Ext.upd hA5
    have g6 : (upd H5 A5 (.lst (ws.take t ++ [.ref q3] ++ ws.drop (t + 1)))) A5 = some (.lst (ws.set t (.ref q3))) := by rw [upd_same, set_mid (by omega)]
    generalize upd H5 A5 (.lst (ws.take t ++ [.ref q3] ++ ws.drop (t + 1))) = H6 at f6 g6 ⊢
    have f56 := f5.trans f6
    have f06 := f04.trans f56
    have i6 : IsL K H6 ((withB bs t b 0 0).map bfD) (ws.set t (.ref q3)) := by
      unfold withB
      rw [List.map_set]
      exact isL_set (hbs.ext f06) (bf_is ((f4.trans f56) _ _ g3))
    refine ⟨by show 3 ≤ sizeLine; decide, fun u hu => ?_⟩
    have f07 : Ext H (upd H6 u (.tup [.int (n : Int), .ref hd, .ref A5])) := f06.trans (Ext.upd hu)
    have i7 : Is K (upd H6 u (.tup [.int (n : Int), .ref hd, .ref A5])) (fcD (n : Int) hl (withB bs t b 0 0)) (.ref u) := fc_is (SqT.of upd_same) (f07 _ _ hhd) (SqL.of (Ext.upd hu _ _ g6)) (i6.ext (Ext.upd hu))
    generalize upd H6 u (.tup [.int (n : Int), .ref hd, .ref A5]) = H7 at f07 i7 ⊢
    have okb := ok.bars b (List.mem_of_getElem? hb)
    refine ⟨_, n, hl, withB bs t b 0 0, rfl, i7, with_ok ok hb (Int.le_refl 0) (Int.le_refl 0) (by have := okb.l0; omega), fun p rs H8 hp e8 hp8 hrs hcl => k p rs H8 (f07.fresh hp) (f07.trans e8) hp8 hrs hcl⟩
def spAt (K : PySem.W.Frag) : Sp := fun vs H Q _ => ∃ (ra : Addr) (row : List Int) (t : Nat) (x q : Int), vs = [.ref ra, .int (t : Int), .int x, .int q] ∧ SqL K H ra (row.map V.int) ∧ t < row.length ∧ row.length ≤ 100 ∧ (∀ y ∈ row, y.natAbs < 2 ^ 20) ∧ q.natAbs < 2 ^ 6000 ∧
  ∀ u H', Ext H H' → H u = none → H' u = some (.lst ((((row.map fun y => y * q).set t x)).map V.int)) → Q (.ref u) H'
theorem ok_l_at (T : Tx K mg) : FnOk P w K mg base (L2.CX P w) 1 T.a_l_at T.fd_l_at ["_law_row", "_law_bar_here", "_law_number", "_law_fine"] (spAt K) := by
  refine T.F_l_at.okX sc_l_at (fun vs H Q E h => ?_) (fun cdv A outer s H vs Q E hr h => ?_)
  · obtain ⟨ra, row, t, x, q, rfl, _⟩ := h
    rfl
  · obtain ⟨ra, row, t, x, q, rfl, hra, ht, hrl, hsm, hq, k⟩ := h
    refine ⟨_, (pss_cons (ps_setLc (i := 4) (own := [("_law_place", 5)]) (g := gName 5) (tt := tYes) (te := tOp (rI CMulW fun i j => .int (i * j)) (tVar 5) (tVar 3)) (by rfl) sc_l_at.nd rfl rfl (sw_true rfl rfl rfl (by decide +kernel)) (pi_list (pv 0)) (blkOk_by (own := [("_law_place", 5)]) (N := N_l_at) (sc := defScope s_l_at) (by decide +kernel)) (fun _ _ _ _ _ => (pg_name (i := 5) sc_l_at.nd rfl (Or.inl rfl))) (fun _ _ _ _ _ => pts_nil) (fun _ _ _ _ _ => (by exact pe_op op_mulW (pv 5) (pv 3))))
      (pss_cons (ps_asg (pv 2) (pg_sub (pv 4) (pv 1) set_list))
      (pss_one (ps_ret (pv 4))))), ?_⟩
    refine ⟨_, rfl, ra, rfl, lc_intsE (fun y => y * q) hra (by omega) (fun y hy H' e R hR => ?_) (fun D H' hD e hD' => ?_)⟩
    · exact ⟨rfl, _, rfl, _, rfl, _, _, rfl, rfl, wide_mul (a := 20) (b := 6000) (hsm y hy) hq (by decide) (by decide) (by decide), hR⟩
    · refine ⟨_, rfl, _, rfl, _, rfl, D, _, _, t, rfl, rfl, hD', ixN_nat' (by rw [List.length_map, List.length_map]; exact ht), ?_⟩
      refine ⟨_, rfl, k D _ (e.mut hD) hD ?_⟩
      rw [upd_same, List.map_set]
end
end K53
namespace K53
open PySem L2
theorem barRow22 {n : Nat} {b : BarD} {x : Int} (hx : 0 ≤ x ∧ x ≤ 1000000) (l0 : 1 ≤ b.len) (l1 : b.len ≤ 1000000) : ∀ y ∈ barRow n 1 b x, y.natAbs < 2 ^ 22 := by
  intro y hy
  unfold barRow at hy
  rcases mem_set4 hy with hy | rfl
  · rcases mem_set4 hy with hy | rfl
    · rcases mem_set4 hy with hy | rfl
      · rw [(List.mem_replicate.mp hy).2]
        decide
      · omega
    · omega
  · omega
theorem det79 {n : Nat} {hl : List (Int × Int)} {bs : List BarD} {ns : List Int} (hhs : (hangL (n : Int) hl).length = bs.length) (h3 : bs.length ≤ 3) (hbo : ∀ b ∈ bs, BarOk (n : Int) b) (hsm : ∀ x ∈ ns, 0 ≤ x ∧ x ≤ 1000000) : (detB n (hangL (n : Int) hl) 1 bs ns).natAbs < 2 ^ 79 := by
  have hrow : ∀ row ∈ tabRows n (hangL (n : Int) hl) 1 bs ns, ∀ y ∈ row, y.natAbs < 2 ^ 22 := fun row hr y hy => by
    unfold tabRows at hr
    obtain ⟨r0, h0, rfl⟩ := List.mem_map.mp hr
    unfold barRows at h0
    obtain ⟨⟨b, x⟩, hbx, rfl⟩ := List.mem_map.mp h0
    have hb := List.of_mem_zip hbx
    have okb := hbo b hb.1
    obtain ⟨r, _, rfl⟩ := List.mem_map.mp hy
    rw [List.getD_eq_getElem?_getD]
    cases e : (barRow n 1 b x)[r.toNat]? with
    | none => decide
    | some z => exact barRow22 (hsm x hb.2) okb.l0 okb.l1 z (List.mem_of_getElem? e)
  have hab := fun i j => ent_small (B := 2 ^ 22) (by decide) hrow i j
  exact Nat.lt_of_lt_of_le (Mx.det_bits (b := 22) (n := bs.length) (by omega) (fun p q _ _ => hab p q)) (Nat.pow_le_pow_right (by decide) (by omega))
theorem pB79 {n : Nat} {hl : List (Int × Int)} {bs : List BarD} {t : Nat} {b : BarD} {row : List Int} (ok : WebOk (n : Int) hl bs) (h3 : bs.length ≤ 3) (hb : bs[t]? = some b) (hr : row ∈ rows0 bs t b) : (bR n hl bs t row).natAbs < 2 ^ 79 ∧ (b.len * aR n hl bs t row + bR n hl bs t row).natAbs < 2 ^ 79 := by
  have ht := (List.getElem?_eq_some_iff.mp hb).1
  have hl2 := rows0_len hr
  have hsm := row0_small ok.bars hb hr
  have okb := ok.bars b (List.mem_of_getElem? hb)
  have g1 := okb.l0
  have g2 := okb.l1
  have setS : ∀ z : Int, 0 ≤ z ∧ z ≤ 1000000 → ∀ x ∈ row.set t z, 0 ≤ x ∧ x ≤ 1000000 := fun z hz x hx => by
    rcases List.mem_or_eq_of_mem_set hx with h' | h'
    · exact hsm x h'
    · rw [h']; exact hz
  have z0 := det79 ok.hang h3 ok.bars (setS 0 ⟨by omega, by omega⟩)
  have z1 := det79 ok.hang h3 ok.bars (setS b.len ⟨by omega, by omega⟩)
  rw [det_set ok.hang hl2 ht] at z0 z1
  rw [Int.zero_mul, Int.zero_add] at z0
  exact ⟨z0, z1⟩
def sm1 (a : Int × Int) : Prop := a.1.natAbs < 2 ^ 100 ∧ a.2.natAbs < 2 ^ 100
theorem sm1_sml {a : Int × Int} (h : sm1 a) : sml a := ⟨Nat.lt_of_lt_of_le h.1 (Nat.pow_le_pow_right (by decide) (by decide)), Nat.lt_of_lt_of_le h.2 (Nat.pow_le_pow_right (by decide) (by decide))⟩
theorem low_sm1 {a : Int × Int} (h : sm1 a) : sm1 (lowF a) := ⟨Nat.lt_of_le_of_lt (lowN_le _ _) h.1, Nat.lt_of_le_of_lt (lowP_le _ _) h.2⟩
theorem rt_sm1 {L : Int} {p : Int × Int} (hL : L.natAbs < 2 ^ 20) (h0 : p.2.natAbs < 2 ^ 79) (h1 : (L * p.1 + p.2).natAbs < 2 ^ 79) : sm1 (rt L p) := by
  unfold sm1 rt
  dsimp only
  rw [abs_sgn, abs_sgn, Int.natAbs_neg]
  constructor
  · rw [Int.natAbs_mul]
    exact Nat.lt_of_lt_of_le (Nat.mul_lt_mul'' hL h0) (by decide)
  · omega
theorem num_sm1 {z : Int} (h : 0 ≤ z ∧ z ≤ 1000000) : sm1 (z, 1) := ⟨Nat.lt_of_le_of_lt (show z.natAbs ≤ 1000000 by omega) (by decide), (by show (1 : Int).natAbs < 2 ^ 100; decide)⟩
def sm1W (s : WS) : Prop := sm1 s.g ∧ sm1 s.l
theorem wSt_sm1 {lo hi L : Int} {s : WS} {p : Int × Int} (h : sm1W s) (hr : sm1 (lowF (rt L p))) : sm1W (wSt lo hi L s p) := by
  unfold wSt
  split
  · exact h
  · split
    · split
      · exact ⟨hr, hr⟩
      · exact ⟨hr, h.2⟩
    · split
      · exact ⟨h.1, hr⟩
      · exact h
theorem wF_sm1 {n : Nat} {hl : List (Int × Int)} {bs : List BarD} {t : Nat} {b : BarD} (ok : WebOk (n : Int) hl bs) (h3 : bs.length ≤ 3) (hb : bs[t]? = some b) : ∀ i : Nat, sm1W (wF n hl bs t b ((rows0 bs t b).take i))
  | 0 => by
    have okb := ok.bars b (List.mem_of_getElem? hb)
    have g1 := okb.l0
    have g2 := okb.l1
    exact ⟨num_sm1 ⟨by omega, by omega⟩, num_sm1 ⟨by omega, by omega⟩⟩
  | i + 1 => by
    have ih := wF_sm1 ok h3 hb i
    have okb := ok.bars b (List.mem_of_getElem? hb)
    rw [List.take_add_one]
    cases e : (rows0 bs t b)[i]? with
    | none => exact (List.append_nil ((rows0 bs t b).take i)).symm ▸ ih
    | some row =>
      have z := pB79 ok h3 hb (List.mem_of_getElem? e)
      show sm1W (wF n hl bs t b ((rows0 bs t b).take i ++ [row]))
      rw [wF_snoc]
      exact wSt_sm1 ih (low_sm1 (rt_sm1 (len20 okb.l0 okb.l1) z.1 z.2))
theorem mul_one_row (row : List Int) : (row.map fun y => y * 1) = row := by
  rw [show (fun y : Int => y * 1) = id from by funext y; exact Int.mul_one y, List.map_id]
theorem wSt_eq {lo hi L : Int} {s : WS} {p : Int × Int} (h : p.1 ≠ 0) (A C : Bool) (hA : (ltP (lowF (rt L p)) (lo, 1) && !ltP (lowF (rt L p)) s.g) = A) (hC : (ltP (hi, 1) (lowF (rt L p)) && !ltP s.l (lowF (rt L p))) = C) :
    wSt lo hi L s p = ⟨if A then lowF (rt L p) else s.g, if C then lowF (rt L p) else s.l, if A then false else s.fg, if C then false else s.fl⟩ := by
  unfold wSt
  rw [if_neg h, hA, hC]
  cases A <;> cases C <;> rfl
section
variable {P : Program} {w : World} {K : PySem.W.Frag} {mg : Str → Option Value} {base : Heap}
theorem SqT.updL {H : Hp} {t x : Addr} {xs ys : List V} {o : HO} (s : SqT K H t xs) (h : H x = some (.lst ys)) : SqT K (upd H x o) t xs := by
  rcases s with (r | ⟨o', r⟩) | r
  · exact .inl (.inl (by rw [upd_ne (fun e => by rw [e, h] at r; cases r)]; exact r))
  · exact .inl (.inr ⟨o', by rw [upd_ne (fun e => by rw [e, h] at r; cases r)]; exact r⟩)
  · exact .inr r
theorem ext_del {H H' : Hp} {D : Addr} (e : Ext H H') (h : H D = none) : Ext H (del H' D) := fun a o ha => by
  rw [del_ne (fun z => by rw [z, h] at ha; cases ha)]
  exact e a o ha
/-- lists of ints are other lists than one that begins with a tuple -/
theorem rows_del {H : Hp} {D x : Addr} {ys : List V} (hD : H D = some (.lst (.ref x :: ys))) : ∀ {rows : List (List Int)} {rs : List V}, IsL K H (rows.map rwI) rs → (∀ row ∈ rows, row ≠ []) → IsL K (del H D) (rows.map rwI) rs
  | [], _, h, _ => h
  | row :: rows, _, ⟨v, r, e, hv, h⟩, hn => by
    subst e
    obtain ⟨ra, rfl, hra⟩ := rwI_of hv
    refine ⟨_, _, rfl, rwI_is ?_, rows_del hD h fun z hz => hn z (List.mem_cons_of_mem _ hz)⟩
    rcases hra with (r | ⟨o', r⟩) | r
    · refine .inl (.inl ?_)
      rw [del_ne (fun e => ?_)]
      · exact r
      · rw [e, hD] at r
        have hne := hn row List.mem_cons_self
        cases row with
        | nil => exact hne rfl
        | cons a l => cases r
    · refine .inl (.inr ⟨o', ?_⟩)
      rw [del_ne (fun e => ?_)]
      · exact r
      · rw [e, hD] at r
        cases r
    · exact .inr r
def spLowG (K : PySem.W.Frag) : Sp := fun vs H Q _ => ∃ (t : Addr) (a : Int × Int), vs = [.ref t] ∧ SqT K H t [.int a.1, .int a.2] ∧ a.2 ≠ 0 ∧ sml a ∧ ∀ u H', Ext H H' → H u = none → H' u = some (frO (lowF (a.1 * sgnI a.2, a.2 * sgnI a.2))) → Q (.ref u) H'
theorem fdiv_neg_dvd {x : Int} {g : Nat} (hg : g ∣ x.natAbs) : Int.fdiv x (0 - (g : Int)) = -x / (g : Int) := by
  have h1 : (g : Int) ∣ x := Int.ofNat_dvd_left.mpr hg
  rw [Int.zero_sub, Int.fdiv_eq_ediv_of_dvd (Int.neg_dvd.mpr h1), Int.ediv_neg, Int.neg_ediv_of_dvd h1]
theorem fdiv_pos_dvd {x : Int} {g : Nat} (hg : g ∣ x.natAbs) : Int.fdiv x (g : Int) = x / (g : Int) := Int.fdiv_eq_ediv_of_dvd (Int.ofNat_dvd_left.mpr hg)
theorem ok_l_lowered (T : Tx K mg) : FnOk P w K mg base (L2.CX P w) 1 T.a_l_lowered T.fd_l_lowered ["_law_one"] (spLowG K) := by
  refine T.F_l_lowered.okX sc_l_lowered (fun vs H Q E h => ?_) (fun cdv A outer s H vs Q E hr h => ?_)
  · obtain ⟨t, a, rfl, _⟩ := h
    rfl
  · obtain ⟨t, ⟨x, y⟩, rfl, ht, hy, hs, k⟩ := h
    dsimp only at ht hy hs k
    refine ⟨_, (pss_cons (ps_asg (pv 0) (pg_tup (by rfl) (pgs_cons (pg_name (i := 1) sc_l_lowered.nd rfl (Or.inl rfl)) (pgs_cons (pg_name (i := 2) sc_l_lowered.nd rfl (Or.inl rfl)) pgs_nil))))
      (pss_cons (ps_par (i := 3) (j := 4) (by rfl) sc_l_lowered.nd rfl rfl (by decide) rfl rfl (pa_cons (pe_callB call_abs (by rfl) T.z_abs (by decide +kernel) (pa_cons (pv 1) pa_nil)) (pa_cons (pe_callB call_abs (by rfl) T.z_abs (by decide +kernel) (pa_cons (pv 2) pa_nil)) pa_nil)) (by rfl))
      (pss_cons (ps_while (passes_of rfl) (pt_cmpR op_gt (pv 4) pe_int (nomark _)) (pss_one (ps_par (i := 3) (j := 4) (by rfl) sc_l_lowered.nd rfl rfl (by decide) rfl rfl (pa_cons (pv 4) (pa_cons (pe_op op_modN (pv 3) (pv 4)) pa_nil)) (by rfl))))
      (pss_cons (ps_if (pt_cmpR op_lt (pv 2) pe_int (nomark _)) (pss_one (ps_set (i := 3) sc_l_lowered.nd rfl (Or.inl rfl) (pe_op op_sub pe_int (pv 3)))) pss_nil)
      (pss_one (ps_ret (pe_tup (pa_cons (pe_op op_fdivZ (pv 1) (pv 3)) (pa_cons (pe_op op_fdivZ (pv 2) (pv 3)) pa_nil))))))))), ?_⟩
    refine ⟨_, rfl, t, _, rfl, ht, rfl, _, _, rfl, _, _, rfl, rfl, ?_⟩
    refine ⟨_, rfl, x, rfl, _, rfl, y, rfl, ⟨_, _, rfl, ?_⟩⟩
    have ea : ∀ n : Int, (if n < 0 then -n else n) = ((n.natAbs : Nat) : Int) := fun n => by split <;> omega
    rw [ea, ea]
    refine while_by (fun σ H2 => H2 = H ∧ ∃ a b : Nat, σ = [some (.ref t), some (.int x), some (.int y), some (.int (a : Int)), some (.int (b : Int))] ∧ Nat.gcd a b = Nat.gcd y.natAbs x.natAbs)
      (fun σ _ => match σ with | [_, _, _, _, some (.int b)] => b.toNat | _ => 0) ⟨rfl, _, _, rfl, Nat.gcd_comm _ _⟩ ?_ ?_
    · rintro σ H2 ⟨rfl, a, b, rfl, hg⟩
      refine ⟨_, rfl, _, _, rfl, rfl, _, rfl, ?_⟩
      refine ite2 (fun hc => ?_) (fun hc => ?_)
      · have hb : 0 < b := by
          have := of_decide_eq_true hc
          omega
        refine ⟨_, rfl, _, rfl, _, rfl, _, _, rfl, rfl, (show (b : Int) ≠ 0 by omega), _, _, rfl, ?_⟩
        have em : Int.fmod (a : Int) (b : Int) = ((a % b : Nat) : Int) := by
          rw [Int.fmod_eq_emod_of_nonneg _ (by omega)]
          rfl
        refine ⟨⟨rfl, b, a % b, by rw [← em]; rfl, ?_⟩, ?_⟩
        · rw [Nat.gcd_comm b, ← Nat.gcd_rec, Nat.gcd_comm]
          exact hg
        · show (Int.fmod (a : Int) (b : Int)).toNat < ((b : Nat) : Int).toNat
          rw [em, Int.toNat_natCast, Int.toNat_natCast]
          exact Nat.mod_lt _ hb
      · have hb : b = 0 := by
          have : ¬ ((b : Int) > 0) := fun z => hc (decide_eq_true z)
          omega
        subst hb
        rw [Nat.gcd_zero_right] at hg
        have hg0 : 0 < Nat.gcd y.natAbs x.natAbs := Nat.gcd_pos_of_pos_left _ (by omega)
        have hgs : Nat.gcd y.natAbs x.natAbs < 2 ^ 6000 := Nat.lt_of_le_of_lt (Nat.gcd_le_left _ (by omega)) hs.2
        have dx : a ∣ x.natAbs := by rw [hg]; exact Nat.gcd_dvd_right _ _
        have dy : a ∣ y.natAbs := by rw [hg]; exact Nat.gcd_dvd_left _ _
        rw [← hg] at hg0 hgs
        refine ⟨_, rfl, _, _, rfl, rfl, _, rfl, ?_⟩
        refine ite2 (fun hc => ?_) fun hc => ?_
        · have hc := of_decide_eq_true hc
          refine ⟨_, rfl, _, _, rfl, rfl, ?_⟩
          have dv : ∀ z : Int, CDivZ z (0 - (a : Int)) := fun z => div_z (b := 6000) (by omega) (by rw [Int.zero_sub, Int.natAbs_neg, Int.natAbs_natCast]; exact hgs) (by decide) (by decide)
          refine ⟨_, rfl, _, rfl, _, _, rfl, rfl, dv x, _, rfl, _, rfl, _, _, rfl, rfl, dv y, by show 2 ≤ sizeLine; decide, fun u hu => ?_⟩
          refine k u _ (Ext.upd hu) hu ?_
          rw [upd_same]
          dsimp only
          rw [fdiv_neg_dvd dx, fdiv_neg_dvd dy]
          unfold frO lowF lowN lowP sgnI
          rw [if_pos hc]
          dsimp only
          rw [Int.mul_neg, Int.mul_neg, Int.mul_one, Int.mul_one, Int.natAbs_neg, Int.natAbs_neg, ← hg]
        · have hc : ¬ y < 0 := fun z => hc (decide_eq_true z)
          have dv : ∀ z : Int, CDivZ z (a : Int) := fun z => div_z (b := 6000) (by omega) (by rw [Int.natAbs_natCast]; exact hgs) (by decide) (by decide)
          refine ⟨_, rfl, _, rfl, _, _, rfl, rfl, dv x, _, rfl, _, rfl, _, _, rfl, rfl, dv y, by show 2 ≤ sizeLine; decide, fun u hu => ?_⟩
          refine k u _ (Ext.upd hu) hu ?_
          rw [upd_same]
          dsimp only
          rw [fdiv_pos_dvd dx, fdiv_pos_dvd dy]
          unfold frO lowF lowN lowP sgnI
          rw [if_neg hc]
          dsimp only
          rw [Int.mul_one, Int.mul_one, ← hg]
    · intro σ H Q Q' m h
      obtain ⟨v, hv, a, b, e1, e2, c, hc, q⟩ := h
      exact ⟨v, hv, a, b, e1, e2, c, hc, m _ _ q⟩
end
end K53
namespace K53
open PySem L2 RZ
section
variable {P : Program} {w : World} {K : PySem.W.Frag} {mg : Str → Option Value} {base : Heap}
def spDue (K : PySem.W.Frag) : Sp := fun vs H Q _ => ∃ (v : V) (n : Nat) (hl : List (Int × Int)) (bs : List BarD) (t : Nat) (b : BarD), vs = [v, .int (t : Int)] ∧ Is K H (fcD (n : Int) hl bs) v ∧ WebOk (n : Int) hl bs ∧ bs.length ≤ 3 ∧ bs[t]? = some b ∧
  ∀ (D ga la : Addr) (H' : Hp), Ext H H' → H D = none → H' D = some (.lst [.ref ga, .ref la, .bl (wB n hl bs t b).fg, .bl (wB n hl bs t b).fl]) → SqT K H' ga [.int (wB n hl bs t b).g.1, .int (wB n hl bs t b).g.2] → SqT K H' la [.int (wB n hl bs t b).l.1, .int (wB n hl bs t b).l.2] → Q (.ref D) H'
theorem ok_l_due (T : Tx K mg) : FnOk P w K mg base (L2.CX P w) 22 T.a_l_due T.fd_l_due ["_law_facts_here", "_law_bar_here"] (spDue K) := by
  refine T.F_l_due.okX sc_l_due (fun vs H Q E h => ?_) (fun cdv A outer s H vs Q E hr h => ?_)
  · obtain ⟨v, n, hl, bs, t, b, rfl, _⟩ := h
    rfl
  · obtain ⟨v, n, hl, bs, t, b, rfl, hv, ok, h3, hb, k⟩ := h
    refine ⟨_, (pss_cons (ps_set (i := 2) sc_l_due.nd rfl (Or.inl rfl) (pe_ix ix_list (pe_ix ix_tup (pv 0) pe_int (fun _ _ => rfl)) (pv 1) (fun _ _ => rfl)))
      (pss_cons (ps_set (i := 3) sc_l_due.nd rfl (Or.inl rfl) (pe_lst (pa_cons (pe_tup (pa_cons pe_int (pa_cons pe_int pa_nil))) (pa_cons (pe_tup (pa_cons (pe_ix ix_tup (pv 2) pe_int (fun _ _ => rfl)) (pa_cons pe_int pa_nil))) (pa_cons pe_bl (pa_cons pe_bl pa_nil))))))
      (pss_cons (ps_for (passes_of rfl) rfl (pi_list (pe_call (ok_l_beside T) (hr.mono (by decide)) rfl T.m_l_beside T.F_l_beside.kp T.b_l_beside .nil passL (pa_cons (pv 0) (pa_cons (pv 1) pa_nil)))) (pg_name (i := 4) sc_l_due.nd rfl (Or.inl rfl)) (pss_cons (ps_set (i := 5) sc_l_due.nd rfl (Or.inl rfl) (pe_ix ix_tup (pe_call (ok_l_tops T) (hr.mono (by decide)) rfl T.m_l_tops T.F_l_tops.kp T.b_l_tops .nil passL (pa_cons (pv 0) (pa_cons (pe_call (ok_l_at T) (hr.mono (by decide)) rfl T.m_l_at T.F_l_at.kp T.b_l_at .nil passL (pa_cons (pv 4) (pa_cons (pv 1) (pa_cons pe_int (pa_cons pe_int pa_nil))))) (pa_cons pe_int pa_nil)))) pe_int (fun _ _ => rfl)))
      (pss_cons (ps_set (i := 6) sc_l_due.nd rfl (Or.inl rfl) (pe_ix ix_tup (pe_call (ok_l_tops T) (hr.mono (by decide)) rfl T.m_l_tops T.F_l_tops.kp T.b_l_tops .nil passL (pa_cons (pv 0) (pa_cons (pe_call (ok_l_at T) (hr.mono (by decide)) rfl T.m_l_at T.F_l_at.kp T.b_l_at .nil passL (pa_cons (pv 4) (pa_cons (pv 1) (pa_cons (pe_ix ix_tup (pv 2) pe_int (fun _ _ => rfl)) (pa_cons pe_int pa_nil))))) (pa_cons pe_int pa_nil)))) pe_int (fun _ _ => rfl)))
      (pss_one (ps_if (pt_cmpR op_ne (pv 5) (pv 6) (nomark _)) (pss_cons (ps_set (i := 7) sc_l_due.nd rfl (Or.inl rfl) (pe_call (ok_l_lowered T) (hr.mono (by decide)) rfl T.m_l_lowered T.F_l_lowered.kp T.b_l_lowered .nil passL (pa_cons (pe_tup (pa_cons (pe_op op_mulW (pe_ix ix_tup (pv 2) pe_int (fun _ _ => rfl)) (pv 5)) (pa_cons (pe_op op_sub (pv 5) (pv 6)) pa_nil))) pa_nil)))
      (pss_cons (ps_if (PW.pt (pw_and (pt_val (pe_call (ok_l_is_less T) (hr.mono (by decide)) rfl T.m_l_is_less T.F_l_is_less.kp T.b_l_is_less .nil passL (pa_cons (pv 7) (pa_cons (pe_tup (pa_cons (pe_ix ix_tup (pv 2) pe_int (fun _ _ => rfl)) (pa_cons pe_int pa_nil))) pa_nil)))) (pw_and1 (pt_not (pt_val (pe_call (ok_l_is_less T) (hr.mono (by decide)) rfl T.m_l_is_less T.F_l_is_less.kp T.b_l_is_less .nil passL (pa_cons (pv 7) (pa_cons (pe_ix ix_list (pv 3) pe_int (fun _ _ => rfl)) pa_nil)))))))) (pss_one (ps_asg (pe_tup (pa_cons (pv 7) (pa_cons pe_bl pa_nil))) (pg_tup (by rfl) (pgs_cons (pg_sub (pv 3) pe_int set_list) (pgs_cons (pg_sub (pv 3) pe_int set_list) pgs_nil))))) pss_nil)
      (pss_one (ps_if (PW.pt (pw_and (pt_val (pe_call (ok_l_is_less T) (hr.mono (by decide)) rfl T.m_l_is_less T.F_l_is_less.kp T.b_l_is_less .nil passL (pa_cons (pe_tup (pa_cons (pe_ix ix_tup (pv 2) pe_int (fun _ _ => rfl)) (pa_cons pe_int pa_nil))) (pa_cons (pv 7) pa_nil)))) (pw_and1 (pt_not (pt_val (pe_call (ok_l_is_less T) (hr.mono (by decide)) rfl T.m_l_is_less T.F_l_is_less.kp T.b_l_is_less .nil passL (pa_cons (pe_ix ix_list (pv 3) pe_int (fun _ _ => rfl)) (pa_cons (pv 7) pa_nil)))))))) (pss_one (ps_asg (pe_tup (pa_cons (pv 7) (pa_cons pe_bl pa_nil))) (pg_tup (by rfl) (pgs_cons (pg_sub (pv 3) pe_int set_list) (pgs_cons (pg_sub (pv 3) pe_int set_list) pgs_nil))))) pss_nil)))) pss_nil)))))
      (pss_one (ps_ret (pv 3)))))), ?_⟩
    rw [show L2.start N_l_due [v, .int (t : Int)] = [some v, some (.int (t : Int)), none, none, none, none, none, none] from rfl]
    have ht := (List.getElem?_eq_some_iff.mp hb).1
    have okb := ok.bars b (List.mem_of_getElem? hb)
    have g1 := okb.l0
    have g2 := okb.l1
    have o0 := okb.o0
    have o1 := okb.o1
    have o2 := okb.o2
    obtain ⟨tt, hd, bl, ws, hve, htt, hhd, hbl, hbs⟩ := fc_of hv
    obtain ⟨tv, htv, itb⟩ := isL_at2 hbs hb
    obtain ⟨tb, rfl, htb⟩ := bf_of itb
    refine ⟨_, rfl, tt, _, 2, _, hve, rfl, htt, at3c, _, rfl, bl, ws, (t : Int), _, rfl, rfl, hbl, atI_nat htv, ?_⟩
    simp only [List.set_cons_succ, List.set_cons_zero]
    refine ⟨by show 2 ≤ sizeLine; decide, fun ga0 hga0 => ?_⟩
    refine ⟨_, rfl, tb, _, 3, _, rfl, rfl, htb.ext (Ext.upd hga0), rfl, by show 2 ≤ sizeLine; decide, fun la0 hla0 => ?_⟩
    refine ⟨by show 4 ≤ sizeLine; decide, fun D hD => ?_⟩
    simp only [List.set_cons_succ, List.set_cons_zero]
    have f1 : Ext H (upd (upd H ga0 (.tup [.int 0, .int 1])) la0 (.tup [.int b.len, .int 1])) := (Ext.upd hga0).trans (Ext.upd hla0)
    have hD0 := f1.fresh hD
    have f2 := f1.trans (Ext.upd (o := .lst [.ref ga0, .ref la0, .bl true, .bl true]) hD)
    have q1 : SqT K (upd (upd (upd H ga0 (.tup [.int 0, .int 1])) la0 (.tup [.int b.len, .int 1])) D (.lst [.ref ga0, .ref la0, .bl true, .bl true])) ga0 [.int 0, .int 1] := ((SqT.of upd_same).ext (Ext.upd hla0)).ext (Ext.upd hD)
    have q2 : SqT K (upd (upd (upd H ga0 (.tup [.int 0, .int 1])) la0 (.tup [.int b.len, .int 1])) D (.lst [.ref ga0, .ref la0, .bl true, .bl true])) la0 [.int b.len, .int 1] := (SqT.of upd_same).ext (Ext.upd hD)
    have q3 : (upd (upd (upd H ga0 (.tup [.int 0, .int 1])) la0 (.tup [.int b.len, .int 1])) D (.lst [.ref ga0, .ref la0, .bl true, .bl true])) D = some (.lst [.ref ga0, .ref la0, .bl true, .bl true]) := upd_same
    have hbb : (brV b)[3]? = some (V.int b.len) := rfl
    generalize upd (upd (upd H ga0 (.tup [.int 0, .int 1])) la0 (.tup [.int b.len, .int 1])) D (.lst [.ref ga0, .ref la0, .bl true, .bl true]) = H2 at f2 q1 q2 q3 ⊢
    clear f1 hD
    refine ⟨_, rfl, _, rfl, v, n, hl, bs, t, b, rfl, hv.ext f2, ok, hb, fun R rs H3 hR e3 hR3 hrs hcl => ?_⟩
    have f3 := f2.trans e3
    have q13 := q1.ext e3
    have q23 := q2.ext e3
    have q33 := e3 _ _ q3
    have hRD : R ≠ D := fun z => by rw [z, q3] at hR; cases hR
    have hrl : rs.length = (rows0 bs t b).length := by rw [isL_len hrs, List.length_map]
    have fD := ext_del f3 hD0
    have hvD := hv.ext fD
    have htbD := htb.ext fD
    have hrsD := rows_del q33 hrs (fun row hr z => by have := rows0_len hr; rw [z] at this; have := ok.b1; simp at *; omega)
    have hRd : (del H3 D) R = some (.lst rs) := by rw [del_ne hRD]; exact hR3
    clear q1 q2 q3 hrs e3 f2 hv hR htb
    refine ⟨R, rfl, ⟨_, SqL.of hR3⟩, for_list (K := K) (a := R) (xs := rs) (fun i σ H' => DE D H3 H' ∧ ∃ (ga la : Addr) (v4 v5 v6 v7 : Option V), σ = [some v, some (.int (t : Int)), some (.ref tb), some (.ref D), v4, v5, v6, v7] ∧
        H' D = some (.lst [.ref ga, .ref la, .bl (wF n hl bs t b ((rows0 bs t b).take i)).fg, .bl (wF n hl bs t b ((rows0 bs t b).take i)).fl]) ∧
        SqT K H' ga [.int (wF n hl bs t b ((rows0 bs t b).take i)).g.1, .int (wF n hl bs t b ((rows0 bs t b).take i)).g.2] ∧ SqT K H' la [.int (wF n hl bs t b ((rows0 bs t b).take i)).l.1, .int (wF n hl bs t b ((rows0 bs t b).take i)).l.2])
      ⟨DE.rfl', ga0, la0, none, none, none, none, rfl, q33, q13, q23⟩ (fun i σ H' _ p => SqL.of (del_ext _ _ (p.1 _ _ hRd))) ?_ ?_⟩
    · rintro i y σ H4 hi ⟨e4, ga, la, v4, v5, v6, v7, rfl, hD4, hga, hla⟩
      obtain ⟨row, hrow, iy⟩ := isL_at' hrsD hi
      obtain ⟨ra, rfl, hra⟩ := rwI_of (iy.ext (e4.trans del_ext))
      have hrow : (rows0 bs t b)[i]? = some row := hrow
      have hm : row ∈ rows0 bs t b := List.mem_of_getElem? hrow
      have hS := wF_sm1 ok h3 hb i
      have hnx : wF n hl bs t b ((rows0 bs t b).take (i + 1)) = wSt b.lo b.hi b.len (wF n hl bs t b ((rows0 bs t b).take i)) (pB n hl bs t row) := by
        rw [List.take_add_one, hrow]
        exact wF_snoc
      have hps := pB79 ok h3 hb hm
      have hln := rows0_len hm
      have hsmr := row0_small ok.bars hb hm
      rw [hnx]
      generalize wF n hl bs t b ((rows0 bs t b).take i) = st at hS hga hla hD4 ⊢
      have hv4 := hvD.ext (e4.trans del_ext)
      have htb4 := htbD.ext (e4.trans del_ext)
      have one3 : (1 : Int).natAbs < 2 ^ 300 := Nat.lt_of_le_of_lt (by decide) p300
      have one6 : (1 : Int).natAbs < 2 ^ 6000 := (num_sm1 (z := 1) ⟨by decide, by decide⟩ |> sm1_sml).2
      have s20 : ∀ y ∈ row, y.natAbs < 2 ^ 20 := fun y hy => by have := hsmr y hy; omega
      have lrow : row.length ≤ 100 := by omega
      refine ⟨_, rfl, _, rfl, _, rfl, ra, row, t, 0, 1, rfl, hra, by omega, lrow, s20, one6, fun u H5 e5 hu hu5 => ?_⟩
      rw [mul_one_row] at hu5
      refine ⟨v, u, n, hl, bs, row.set t 0, 1, rfl, hv4.ext e5, SqL.of hu5, ok, by rw [List.length_set]; exact hln, set_small hsmr ⟨by omega, by omega⟩, one3, fun p l H6 hp hl0 e6 hp6 hl6 => ?_⟩
      refine ⟨p, _, 1, _, rfl, rfl, SqT.of hp6, rfl, ?_⟩
      simp only [List.set_cons_succ, List.set_cons_zero]
      have e46 := e5.trans e6
      refine ⟨_, rfl, _, rfl, _, rfl, _, rfl, tb, _, 3, _, rfl, rfl, htb4.ext e46, rfl, ra, row, t, b.len, 1, rfl, hra.ext e46, by omega, lrow, s20, one6, fun u2 H7 e7 hu2 hu27 => ?_⟩
      rw [mul_one_row] at hu27
      have e47 := e46.trans e7
      refine ⟨v, u2, n, hl, bs, row.set t b.len, 1, rfl, hv4.ext e47, SqL.of hu27, ok, by rw [List.length_set]; exact hln, set_small hsmr ⟨by omega, by omega⟩, one3, fun p2 l2 H8 hp2 hl02 e8 hp28 hl28 => ?_⟩
      refine ⟨p2, _, 1, _, rfl, rfl, SqT.of hp28, rfl, ?_⟩
      simp only [List.set_cons_succ, List.set_cons_zero]
      rw [det_set ok.hang hln ht, det_set ok.hang hln ht, Int.zero_mul, Int.zero_add]
      have e48 := e47.trans e8
      have d8 := e4.trans (DE.of e48)
      have hD8 := e48 _ _ hD4
      have hga8 := hga.ext e48
      have hla8 := hla.ext e48
      have htb8 := htb4.ext e48
      clear e5 e6 e7 e8 e46 e47 e48 hu hu5 hu2 hu27 hp hp6 hl0 hl6 hp2 hp28 hl02 hl28 hga hla hD4 e4 hra hv4 htb4
      obtain ⟨a0, ha0⟩ : ∃ a0, a0 = aR n hl bs t row := ⟨_, rfl⟩
      obtain ⟨b0, hb0⟩ : ∃ b0, b0 = bR n hl bs t row := ⟨_, rfl⟩
      unfold pB
      rw [← ha0, ← hb0] at hps ⊢
      clear ha0 hb0 hnx
      refine ⟨_, rfl, _, rfl, rfl, _, rfl, ite2 (fun c => ?_) (fun c => ?_)⟩
      · have hne : a0 ≠ 0 := fun z => by
          rw [z, Int.mul_zero, Int.zero_add] at c
          simp at c
        have eb : b0 - (b.len * a0 + b0) = -(b.len * a0) := by omega
        have hL0 : b.len * a0 ≠ 0 := fun z => (Int.mul_eq_zero.mp z).elim (fun z => by omega) hne
        have mm : CMulW b.len b0 := wide_mul (a := 20) (b := 79) (len20 g1 g2) hps.1 (by decide) (by decide) (by decide)
        have smp : sml (b.len * b0, -(b.len * a0)) := by
          refine sm1_sml ⟨?_, ?_⟩
          · rw [Int.natAbs_mul]
            exact Nat.lt_of_lt_of_le (Nat.mul_lt_mul'' (len20 g1 g2) hps.1) (by decide)
          · show (-(b.len * a0)).natAbs < _
            omega
        refine ⟨_, rfl, tb, _, 3, _, rfl, rfl, htb8, rfl, _, rfl, _, _, rfl, rfl, mm, _, rfl, _, rfl, _, _, rfl, rfl, by show 2 ≤ sizeLine; decide, fun w1 hw1 => ?_⟩
        dsimp only
        rw [eb]
        refine ⟨w1, (b.len * b0, -(b.len * a0)), rfl, SqT.of upd_same, by show -(b.len * a0) ≠ 0; omega, smp, fun r H9 e9 hr0 hr9 => ?_⟩
        simp only [List.set_cons_succ, List.set_cons_zero]
        obtain ⟨rr, hrr⟩ : ∃ rr, rr = lowF (rt b.len (a0, b0)) := ⟨_, rfl⟩
        have hr9' : SqT K H9 r [.int rr.1, .int rr.2] := SqT.of (by rw [hr9, hrr]; rfl)
        have sml_r : sml rr := by rw [hrr]; exact sm1_sml (low_sm1 (rt_sm1 (len20 g1 g2) hps.1 hps.2))
        have e89 := (Ext.upd (o := .tup [.int (b.len * b0), .int (-(b.len * a0))]) hw1).trans e9
        have d9 := d8.trans (DE.of e89)
        have hD9 := e89 _ _ hD8
        have hga9 := hga8.ext e89
        have hla9 := hla8.ext e89
        have htb9 := htb8.ext e89
        clear hr9 hr0 e9 hw1 e89 hD8 d8 hga8 hla8 htb8 c mm smp
        refine ⟨_, rfl, _, rfl, tb, _, 4, _, rfl, rfl, htb9, rfl, by show 2 ≤ sizeLine; decide, fun w2 hw2 => ?_⟩
        have hDX := Ext.upd (o := .tup [.int b.lo, .int 1]) hw2 _ _ hD9
        have hrX := hr9'.ext (Ext.upd (o := .tup [.int b.lo, .int 1]) hw2)
        have hgX := hga9.ext (Ext.upd (o := .tup [.int b.lo, .int 1]) hw2)
        have hlX := hla9.ext (Ext.upd (o := .tup [.int b.lo, .int 1]) hw2)
        have htbX := htb9.ext (Ext.upd (o := .tup [.int b.lo, .int 1]) hw2)
        have hwX : SqT K (upd H9 w2 (.tup [.int b.lo, .int 1])) w2 [.int b.lo, .int 1] := SqT.of upd_same
        have dX := d9.trans (DE.of (Ext.upd (o := .tup [.int b.lo, .int 1]) hw2))
        generalize upd H9 w2 (.tup [.int b.lo, .int 1]) = HX at hDX hrX hgX hlX htbX hwX dX ⊢
        clear hD9 d9 hga9 hla9 htb9 hr9' hw2
        refine ⟨r, w2, rr, (b.lo, 1), rfl, hrX, hwX, sml_r, sm1_sml (num_sm1 ⟨by omega, by omega⟩), ?_⟩
        refine ⟨_, rfl, ite2 (fun c1 => ?_) (fun c1 => ?_)⟩
        · refine ⟨_, rfl, _, rfl, D, _, 0, _, rfl, rfl, SqL.of hDX, atI_nat (j := 0) rfl, r, ga, rr, st.g, rfl, hrX, hgX, sml_r, sm1_sml hS.1, ?_⟩
          refine ⟨_, rfl, ite2 (fun c2 => ?_) (fun c2 => ?_)⟩
          · refine ⟨_, rfl, by show 2 ≤ sizeLine; decide, fun w5 hw5 => ?_⟩
            have hDV := Ext.upd (o := .tup [.ref r, .bl false]) hw5 _ _ hDX
            have hrV := hrX.ext (Ext.upd (o := .tup [.ref r, .bl false]) hw5)
            have hlV := hlX.ext (Ext.upd (o := .tup [.ref r, .bl false]) hw5)
            have htbV := htbX.ext (Ext.upd (o := .tup [.ref r, .bl false]) hw5)
            have hwV : SqT K (upd HX w5 (.tup [.ref r, .bl false])) w5 [.ref r, .bl false] := SqT.of upd_same
            have dV := dX.trans (DE.of (Ext.upd (o := .tup [.ref r, .bl false]) hw5))
            generalize upd HX w5 (.tup [.ref r, .bl false]) = HV at hDV hrV hlV htbV hwV dV ⊢
            clear hDX hrX hlX htbX hgX hwX dX hw5
            refine ⟨w5, _, rfl, hwV, rfl, _, _, rfl, _, rfl, D, _, 0, 0, rfl, rfl, hDV, rfl, _, _, rfl, _, rfl, D, _, 2, 2, rfl, rfl, upd_same, rfl, rfl, ?_⟩
            have hrX := SqT.updL (o := .lst [.ref r, .ref la, .bl false, .bl st.fl]) (SqT.updL (o := .lst [.ref r, .ref la, .bl st.fg, .bl st.fl]) hrV hDV) upd_same
            have hlX := SqT.updL (o := .lst [.ref r, .ref la, .bl false, .bl st.fl]) (SqT.updL (o := .lst [.ref r, .ref la, .bl st.fg, .bl st.fl]) hlV hDV) upd_same
            have htbX := SqT.updL (o := .lst [.ref r, .ref la, .bl false, .bl st.fl]) (SqT.updL (o := .lst [.ref r, .ref la, .bl st.fg, .bl st.fl]) htbV hDV) upd_same
            have dX := (dV.trans (DE.upd (o := .lst [.ref r, .ref la, .bl st.fg, .bl st.fl]))).trans (DE.upd (o := .lst [.ref r, .ref la, .bl false, .bl st.fl]))
            have hDX : (upd (upd HV D (.lst [.ref r, .ref la, .bl st.fg, .bl st.fl])) D (.lst [.ref r, .ref la, .bl false, .bl st.fl])) D = some (.lst [.ref r, .ref la, .bl false, .bl st.fl]) := upd_same
            simp only [List.set_cons_succ, List.set_cons_zero]
            generalize upd (upd HV D (.lst [.ref r, .ref la, .bl st.fg, .bl st.fl])) D (.lst [.ref r, .ref la, .bl false, .bl st.fl]) = HX at hDX hrX hlX htbX dX ⊢
            clear hDV hrV hlV htbV hwV dV
            refine ⟨_, rfl, tb, _, 5, _, rfl, rfl, htbX, rfl, by show 2 ≤ sizeLine; decide, fun w3 hw3 => ?_⟩
            have hDY := Ext.upd (o := .tup [.int b.hi, .int 1]) hw3 _ _ hDX
            have hrY := hrX.ext (Ext.upd (o := .tup [.int b.hi, .int 1]) hw3)
            have hgY := hrX.ext (Ext.upd (o := .tup [.int b.hi, .int 1]) hw3)
            have hlY := hlX.ext (Ext.upd (o := .tup [.int b.hi, .int 1]) hw3)
            have hwY : SqT K (upd HX w3 (.tup [.int b.hi, .int 1])) w3 [.int b.hi, .int 1] := SqT.of upd_same
            have dY := dX.trans (DE.of (Ext.upd (o := .tup [.int b.hi, .int 1]) hw3))
            generalize upd HX w3 (.tup [.int b.hi, .int 1]) = HY at hDY hrY hgY hlY hwY dY ⊢
            refine ⟨_, rfl, w3, r, (b.hi, 1), rr, rfl, hwY, hrY, sm1_sml (num_sm1 ⟨by omega, by omega⟩), sml_r, ?_⟩
            refine ⟨_, rfl, ite2 (fun c3 => ?_) (fun c3 => ?_)⟩
            · refine ⟨_, rfl, D, _, 1, _, rfl, rfl, SqL.of hDY, atI_nat (j := 1) rfl, _, rfl, la, r, st.l, rr, rfl, hlY, hrY, sm1_sml hS.2, sml_r, ?_⟩
              refine ⟨_, rfl, ite2 (fun c4 => ?_) (fun c4 => ?_)⟩
              · refine ⟨_, rfl, by show 2 ≤ sizeLine; decide, fun w4 hw4 => ?_⟩
                have hDZ := Ext.upd (o := .tup [.ref r, .bl false]) hw4 _ _ hDY
                have hrZ := hrY.ext (Ext.upd (o := .tup [.ref r, .bl false]) hw4)
                have hgZ := hgY.ext (Ext.upd (o := .tup [.ref r, .bl false]) hw4)
                have hwZ : SqT K (upd HY w4 (.tup [.ref r, .bl false])) w4 [.ref r, .bl false] := SqT.of upd_same
                have dZ := dY.trans (DE.of (Ext.upd (o := .tup [.ref r, .bl false]) hw4))
                generalize upd HY w4 (.tup [.ref r, .bl false]) = HZ at hDZ hrZ hgZ hwZ dZ ⊢
                refine ⟨w4, _, rfl, hwZ, rfl, _, _, rfl, _, rfl, D, _, 1, 1, rfl, rfl, hDZ, rfl, _, _, rfl, _, rfl, D, _, 3, 3, rfl, rfl, upd_same, rfl, rfl, ?_⟩
                rw [wSt_eq (p := (a0, b0)) hne true true (by rw [← hrr, c1, c2]; rfl) (by rw [← hrr, c3, c4]; rfl), ← hrr]
                exact ⟨(dZ.trans DE.upd).trans DE.upd, r, r, _, _, _, _, rfl, upd_same, SqT.updL (SqT.updL hgZ hDZ) upd_same, SqT.updL (SqT.updL hrZ hDZ) upd_same⟩
              · rw [wSt_eq (p := (a0, b0)) hne true false (by rw [← hrr, c1, c2]; rfl) (by rw [← hrr, c3, Bool.eq_false_iff.mpr c4]; rfl), ← hrr]
                exact ⟨dY, r, la, _, _, _, _, rfl, hDY, hgY, hlY⟩
            · refine iteF ?_
              rw [wSt_eq (p := (a0, b0)) hne true false (by rw [← hrr, c1, c2]; rfl) (by rw [← hrr, Bool.eq_false_iff.mpr c3]; rfl), ← hrr]
              exact ⟨dY, r, la, _, _, _, _, rfl, hDY, hgY, hlY⟩
          · clear hwX
            refine ⟨_, rfl, tb, _, 5, _, rfl, rfl, htbX, rfl, by show 2 ≤ sizeLine; decide, fun w3 hw3 => ?_⟩
            have hDY := Ext.upd (o := .tup [.int b.hi, .int 1]) hw3 _ _ hDX
            have hrY := hrX.ext (Ext.upd (o := .tup [.int b.hi, .int 1]) hw3)
            have hgY := hgX.ext (Ext.upd (o := .tup [.int b.hi, .int 1]) hw3)
            have hlY := hlX.ext (Ext.upd (o := .tup [.int b.hi, .int 1]) hw3)
            have hwY : SqT K (upd HX w3 (.tup [.int b.hi, .int 1])) w3 [.int b.hi, .int 1] := SqT.of upd_same
            have dY := dX.trans (DE.of (Ext.upd (o := .tup [.int b.hi, .int 1]) hw3))
            generalize upd HX w3 (.tup [.int b.hi, .int 1]) = HY at hDY hrY hgY hlY hwY dY ⊢
            refine ⟨_, rfl, w3, r, (b.hi, 1), rr, rfl, hwY, hrY, sm1_sml (num_sm1 ⟨by omega, by omega⟩), sml_r, ?_⟩
            refine ⟨_, rfl, ite2 (fun c3 => ?_) (fun c3 => ?_)⟩
            · refine ⟨_, rfl, D, _, 1, _, rfl, rfl, SqL.of hDY, atI_nat (j := 1) rfl, _, rfl, la, r, st.l, rr, rfl, hlY, hrY, sm1_sml hS.2, sml_r, ?_⟩
              refine ⟨_, rfl, ite2 (fun c4 => ?_) (fun c4 => ?_)⟩
              · refine ⟨_, rfl, by show 2 ≤ sizeLine; decide, fun w4 hw4 => ?_⟩
                have hDZ := Ext.upd (o := .tup [.ref r, .bl false]) hw4 _ _ hDY
                have hrZ := hrY.ext (Ext.upd (o := .tup [.ref r, .bl false]) hw4)
                have hgZ := hgY.ext (Ext.upd (o := .tup [.ref r, .bl false]) hw4)
                have hwZ : SqT K (upd HY w4 (.tup [.ref r, .bl false])) w4 [.ref r, .bl false] := SqT.of upd_same
                have dZ := dY.trans (DE.of (Ext.upd (o := .tup [.ref r, .bl false]) hw4))
                generalize upd HY w4 (.tup [.ref r, .bl false]) = HZ at hDZ hrZ hgZ hwZ dZ ⊢
                refine ⟨w4, _, rfl, hwZ, rfl, _, _, rfl, _, rfl, D, _, 1, 1, rfl, rfl, hDZ, rfl, _, _, rfl, _, rfl, D, _, 3, 3, rfl, rfl, upd_same, rfl, rfl, ?_⟩
                rw [wSt_eq (p := (a0, b0)) hne false true (by rw [← hrr, c1, Bool.eq_false_iff.mpr c2]; rfl) (by rw [← hrr, c3, c4]; rfl), ← hrr]
                exact ⟨(dZ.trans DE.upd).trans DE.upd, ga, r, _, _, _, _, rfl, upd_same, SqT.updL (SqT.updL hgZ hDZ) upd_same, SqT.updL (SqT.updL hrZ hDZ) upd_same⟩
              · rw [wSt_eq (p := (a0, b0)) hne false false (by rw [← hrr, c1, Bool.eq_false_iff.mpr c2]; rfl) (by rw [← hrr, c3, Bool.eq_false_iff.mpr c4]; rfl), ← hrr]
                exact ⟨dY, ga, la, _, _, _, _, rfl, hDY, hgY, hlY⟩
            · refine iteF ?_
              rw [wSt_eq (p := (a0, b0)) hne false false (by rw [← hrr, c1, Bool.eq_false_iff.mpr c2]; rfl) (by rw [← hrr, Bool.eq_false_iff.mpr c3]; rfl), ← hrr]
              exact ⟨dY, ga, la, _, _, _, _, rfl, hDY, hgY, hlY⟩
        · refine iteF ?_
          clear hwX
          refine ⟨_, rfl, tb, _, 5, _, rfl, rfl, htbX, rfl, by show 2 ≤ sizeLine; decide, fun w3 hw3 => ?_⟩
          have hDY := Ext.upd (o := .tup [.int b.hi, .int 1]) hw3 _ _ hDX
          have hrY := hrX.ext (Ext.upd (o := .tup [.int b.hi, .int 1]) hw3)
          have hgY := hgX.ext (Ext.upd (o := .tup [.int b.hi, .int 1]) hw3)
          have hlY := hlX.ext (Ext.upd (o := .tup [.int b.hi, .int 1]) hw3)
          have hwY : SqT K (upd HX w3 (.tup [.int b.hi, .int 1])) w3 [.int b.hi, .int 1] := SqT.of upd_same
          have dY := dX.trans (DE.of (Ext.upd (o := .tup [.int b.hi, .int 1]) hw3))
          generalize upd HX w3 (.tup [.int b.hi, .int 1]) = HY at hDY hrY hgY hlY hwY dY ⊢
          refine ⟨_, rfl, w3, r, (b.hi, 1), rr, rfl, hwY, hrY, sm1_sml (num_sm1 ⟨by omega, by omega⟩), sml_r, ?_⟩
          refine ⟨_, rfl, ite2 (fun c3 => ?_) (fun c3 => ?_)⟩
          · refine ⟨_, rfl, D, _, 1, _, rfl, rfl, SqL.of hDY, atI_nat (j := 1) rfl, _, rfl, la, r, st.l, rr, rfl, hlY, hrY, sm1_sml hS.2, sml_r, ?_⟩
            refine ⟨_, rfl, ite2 (fun c4 => ?_) (fun c4 => ?_)⟩
            · refine ⟨_, rfl, by show 2 ≤ sizeLine; decide, fun w4 hw4 => ?_⟩
              have hDZ := Ext.upd (o := .tup [.ref r, .bl false]) hw4 _ _ hDY
              have hrZ := hrY.ext (Ext.upd (o := .tup [.ref r, .bl false]) hw4)
              have hgZ := hgY.ext (Ext.upd (o := .tup [.ref r, .bl false]) hw4)
              have hwZ : SqT K (upd HY w4 (.tup [.ref r, .bl false])) w4 [.ref r, .bl false] := SqT.of upd_same
              have dZ := dY.trans (DE.of (Ext.upd (o := .tup [.ref r, .bl false]) hw4))
              generalize upd HY w4 (.tup [.ref r, .bl false]) = HZ at hDZ hrZ hgZ hwZ dZ ⊢
              refine ⟨w4, _, rfl, hwZ, rfl, _, _, rfl, _, rfl, D, _, 1, 1, rfl, rfl, hDZ, rfl, _, _, rfl, _, rfl, D, _, 3, 3, rfl, rfl, upd_same, rfl, rfl, ?_⟩
              rw [wSt_eq (p := (a0, b0)) hne false true (by rw [← hrr, Bool.eq_false_iff.mpr c1]; rfl) (by rw [← hrr, c3, c4]; rfl), ← hrr]
              exact ⟨(dZ.trans DE.upd).trans DE.upd, ga, r, _, _, _, _, rfl, upd_same, SqT.updL (SqT.updL hgZ hDZ) upd_same, SqT.updL (SqT.updL hrZ hDZ) upd_same⟩
            · rw [wSt_eq (p := (a0, b0)) hne false false (by rw [← hrr, Bool.eq_false_iff.mpr c1]; rfl) (by rw [← hrr, c3, Bool.eq_false_iff.mpr c4]; rfl), ← hrr]
              exact ⟨dY, ga, la, _, _, _, _, rfl, hDY, hgY, hlY⟩
          · refine iteF ?_
            rw [wSt_eq (p := (a0, b0)) hne false false (by rw [← hrr, Bool.eq_false_iff.mpr c1]; rfl) (by rw [← hrr, Bool.eq_false_iff.mpr c3]; rfl), ← hrr]
            exact ⟨dY, ga, la, _, _, _, _, rfl, hDY, hgY, hlY⟩
      · have hz : a0 = 0 := by
          have h : b0 = b.len * a0 + b0 := Decidable.byContradiction fun z => c (by
            rw [decide_eq_false (fun q => z (by injection q))]
            rfl)
          exact (Int.mul_eq_zero.mp (show b.len * a0 = 0 by omega)).resolve_left (by omega)
        rw [show wSt b.lo b.hi b.len st (a0, b0) = st from by unfold wSt; rw [if_pos hz]]
        exact ⟨d8, ga, la, _, _, _, _, rfl, hD8, hga8, hla8⟩
    · rintro σ H4 ⟨e4, ga, la, v4, v5, v6, v7, rfl, hD4, hga, hla⟩
      rw [hrl, List.take_length] at hD4 hga hla
      exact ⟨_, rfl, k D ga la H4 (fD.trans (e4.trans del_ext)) hD0 hD4 hga hla⟩
end
end K53
namespace K53
open PySem L2
/-- the first whole place within, and the last -/
def wl (s : WS) : Int := s.g.1 / s.g.2 + 1 - (if s.fg then 1 else 0)
def wg (s : WS) : Int := 0 - (0 - s.l.1) / s.l.2 - 1 + (if s.fl then 1 else 0)
section
variable {lo hi L : Int} {R : List (Int × Int)} {s : WS}
theorem wl_t (I : WInv lo hi L R s) (h : s.fg = true) : wl s = 0 := by
  unfold wl
  rw [h, (I.gt h).1]
  rfl
theorem wl_f (I : WInv lo hi L R s) (h : s.fg = false) : s.g.1 < wl s * s.g.2 ∧ (wl s - 1) * s.g.2 ≤ s.g.1 ∧ wl s ≤ lo ∧ 1 ≤ wl s := by
  have g2 := I.g2
  have g0 := I.g0
  have gf := (I.gf h).1
  unfold wl
  rw [h, if_neg (by decide)]
  have d1 := Int.ediv_mul_le s.g.1 (show s.g.2 ≠ 0 by omega)
  have d2 := Int.lt_ediv_add_one_mul_self s.g.1 (show 0 < s.g.2 by omega)
  have d3 := Int.ediv_nonneg g0 (show 0 ≤ s.g.2 by omega)
  generalize s.g.1 / s.g.2 = d at d1 d2 d3
  have d4 : d < lo := Int.lt_of_mul_lt_mul_right (a := s.g.2) (by omega) (by omega)
  refine ⟨?_, ?_, by omega, by omega⟩
  · rw [show d + 1 - 0 = d + 1 by omega]; exact d2
  · rw [show d + 1 - 0 - 1 = d by omega]; exact d1
theorem wg_t (I : WInv lo hi L R s) (h : s.fl = true) : wg s = L := by
  unfold wg
  rw [h, (I.lt h).1]
  simp only [Int.ediv_one, if_true]
  omega
theorem wg_f (I : WInv lo hi L R s) (h : s.fl = false) : wg s * s.l.2 < s.l.1 ∧ s.l.1 ≤ (wg s + 1) * s.l.2 ∧ hi ≤ wg s ∧ wg s < L := by
  have l2 := I.l2
  have l0 := I.l0
  have lf := (I.lf h).1
  unfold wg
  rw [h, if_neg (by decide)]
  have d1 := Int.ediv_mul_le (0 - s.l.1) (show s.l.2 ≠ 0 by omega)
  have d2 := Int.lt_ediv_add_one_mul_self (0 - s.l.1) (show 0 < s.l.2 by omega)
  generalize (0 - s.l.1) / s.l.2 = e at d1 d2
  have e1 : (0 - e - 1 + 0) * s.l.2 = -((e + 1) * s.l.2) := by grind
  have e2 : (0 - e - 1 + 0 + 1) * s.l.2 = -(e * s.l.2) := by grind
  have p1 : (0 - e - 1 + 0) * s.l.2 < s.l.1 := by rw [e1]; omega
  have p2 : s.l.1 ≤ (0 - e - 1 + 0 + 1) * s.l.2 := by rw [e2]; omega
  refine ⟨p1, p2, ?_, Int.lt_of_mul_lt_mul_right (a := s.l.2) (by omega) (by omega)⟩
  have : hi < 0 - e - 1 + 0 + 1 := Int.lt_of_mul_lt_mul_right (a := s.l.2) (by omega) (by omega)
  omega
theorem wl_le (I : WInv lo hi L R s) (l0 : 0 ≤ lo) : 0 ≤ wl s ∧ wl s ≤ lo := by
  cases h : s.fg with
  | true => rw [wl_t I h]; omega
  | false => have := wl_f I h; omega
theorem wg_ge (I : WInv lo hi L R s) (hh : hi ≤ L) : hi ≤ wg s ∧ wg s ≤ L := by
  cases h : s.fl with
  | true => rw [wg_t I h]; omega
  | false => have := wg_f I h; omega
theorem in_l (I : WInv lo hi L R s) {p : Int × Int} (hp : p ∈ R) (h : 0 < lo * p.1 + p.2) : 0 < wl s * p.1 + p.2 := by
  cases hf : s.fg with
  | true =>
    rw [wl_t I hf]
    have := (I.gt hf).2 p hp
    omega
  | false =>
    obtain ⟨w1, _, w3, _⟩ := wl_f I hf
    rcases Int.lt_or_le 0 p.1 with c | c
    · have m := I.gm p hp c
      have g2 := I.g2
      refine sg4 (a := s.g.2) (by omega) ?_
      have e : s.g.2 * (wl s * p.1 + p.2) = (s.g.1 * p.1 + s.g.2 * p.2) + p.1 * (wl s * s.g.2 - s.g.1) := by grind
      have := Int.mul_pos c (show 0 < wl s * s.g.2 - s.g.1 by omega)
      omega
    · have := Int.mul_nonneg_of_nonpos_of_nonpos c (show wl s - lo ≤ 0 by omega)
      have e : p.1 * (wl s - lo) = wl s * p.1 - lo * p.1 := by grind
      omega
theorem in_g (I : WInv lo hi L R s) {p : Int × Int} (hp : p ∈ R) (h : 0 < hi * p.1 + p.2) : 0 < wg s * p.1 + p.2 := by
  cases hf : s.fl with
  | true =>
    rw [wg_t I hf]
    exact (I.lt hf).2 p hp
  | false =>
    obtain ⟨w1, _, w3, _⟩ := wg_f I hf
    rcases Int.lt_or_le p.1 0 with c | c
    · have m := I.lm p hp c
      have l2 := I.l2
      refine sg4 (a := s.l.2) (by omega) ?_
      have e : s.l.2 * (wg s * p.1 + p.2) = (s.l.1 * p.1 + s.l.2 * p.2) + -p.1 * (s.l.1 - wg s * s.l.2) := by grind
      have := Int.mul_pos (show 0 < -p.1 by omega) (show 0 < s.l.1 - wg s * s.l.2 by omega)
      omega
    · have := Int.mul_nonneg c (show 0 ≤ wg s - hi by omega)
      have e : p.1 * (wg s - hi) = wg s * p.1 - hi * p.1 := by grind
      omega
theorem out_l (I : WInv lo hi L R s) (hR : ∀ p ∈ R, 0 < lo * p.1 + p.2) (h : 0 < wl s) : ∃ p ∈ R, (wl s - 1) * p.1 + p.2 ≤ 0 := by
  cases hf : s.fg with
  | true => rw [wl_t I hf] at h; omega
  | false =>
    obtain ⟨w1, w2, w3, _⟩ := wl_f I hf
    obtain ⟨gf, p, hp, hz⟩ := I.gf hf
    have g2 := I.g2
    have hl := hR p hp
    have c : 0 < p.1 := sg4 (a := lo * s.g.2 - s.g.1) (by omega) (by
      have e : (lo * s.g.2 - s.g.1) * p.1 = s.g.2 * (lo * p.1 + p.2) - (s.g.1 * p.1 + s.g.2 * p.2) := by grind
      have := Int.mul_pos (show 0 < s.g.2 by omega) hl
      omega)
    refine ⟨p, hp, ?_⟩
    refine Int.not_lt.mp fun q => ?_
    have e : s.g.2 * ((wl s - 1) * p.1 + p.2) = (s.g.1 * p.1 + s.g.2 * p.2) - p.1 * (s.g.1 - (wl s - 1) * s.g.2) := by grind
    have h1 := Int.mul_pos (show 0 < s.g.2 by omega) q
    have h2 := Int.mul_nonneg (show 0 ≤ p.1 by omega) (show 0 ≤ s.g.1 - (wl s - 1) * s.g.2 by omega)
    omega
theorem out_g (I : WInv lo hi L R s) (hR : ∀ p ∈ R, 0 < hi * p.1 + p.2) (h : wg s ≠ L) : ∃ p ∈ R, (wg s + 1) * p.1 + p.2 ≤ 0 := by
  cases hf : s.fl with
  | true => rw [wg_t I hf] at h; omega
  | false =>
    obtain ⟨w1, w2, w3, _⟩ := wg_f I hf
    obtain ⟨lf, p, hp, hz⟩ := I.lf hf
    have l2 := I.l2
    have hl := hR p hp
    have c : 0 < -p.1 := sg4 (a := s.l.1 - hi * s.l.2) (by omega) (by
      have e : (s.l.1 - hi * s.l.2) * -p.1 = s.l.2 * (hi * p.1 + p.2) - (s.l.1 * p.1 + s.l.2 * p.2) := by grind
      have := Int.mul_pos (show 0 < s.l.2 by omega) hl
      omega)
    refine ⟨p, hp, ?_⟩
    refine Int.not_lt.mp fun q => ?_
    have e : s.l.2 * ((wg s + 1) * p.1 + p.2) = (s.l.1 * p.1 + s.l.2 * p.2) - -p.1 * ((wg s + 1) * s.l.2 - s.l.1) := by grind
    have h1 := Int.mul_pos (show 0 < s.l.2 by omega) q
    have h2 := Int.mul_nonneg (show 0 ≤ -p.1 by omega) (show 0 ≤ (wg s + 1) * s.l.2 - s.l.1 by omega)
    omega
end
section
variable {n : Nat} {hl : List (Int × Int)} {bs : List BarD} {t : Nat} {b : BarD} {s : Int}
theorem sP_at (x : Int) (p : Int × Int) : x * (sP s p).1 + (sP s p).2 = s * (x * p.1 + p.2) := by
  show x * (s * p.1) + s * p.2 = _
  grind
abbrev sRows (n : Nat) (hl : List (Int × Int)) (bs : List BarD) (t : Nat) (b : BarD) (s : Int) : List (Int × Int) := (rows0 bs t b).map fun row => sP s (pB n hl bs t row)
theorem sR_lo (hs : sgnAt n hl bs t b s) : ∀ p ∈ sRows n hl bs t b s, 0 < b.lo * p.1 + p.2 := fun p hp => by
  obtain ⟨row, hr, rfl⟩ := List.mem_map.mp hp
  exact (hs.2 row hr).1
theorem sR_hi (hs : sgnAt n hl bs t b s) : ∀ p ∈ sRows n hl bs t b s, 0 < b.hi * p.1 + p.2 := fun p hp => by
  obtain ⟨row, hr, rfl⟩ := List.mem_map.mp hp
  exact (hs.2 row hr).2
theorem firm1 (ok : WebOk (n : Int) hl bs) (hb : bs[t]? = some b) (hs : sgnAt n hl bs t b s) : firmB n (hangL (n : Int) hl) (withB bs t b (wl (wB n hl bs t b)) (wg (wB n hl bs t b))) := by
  have okb := ok.bars b (List.mem_of_getElem? hb)
  have I := wB_inv okb.l0 okb.o0 okb.o1 okb.o2 hs
  refine (firm_with ok.hang hb).mpr ⟨s, hs.1, fun row hr => ?_⟩
  have hm : sP s (pB n hl bs t row) ∈ sRows n hl bs t b s := List.mem_map.mpr ⟨row, hr, rfl⟩
  have h1 := in_l I hm (sR_lo hs _ hm)
  have h2 := in_g I hm (sR_hi hs _ hm)
  rw [sP_at] at h1 h2
  exact ⟨h1, h2⟩
theorem two_signs {s s' x y : Int} (hs : s = 1 ∨ s = -1) (hs' : s' = 1 ∨ s' = -1) (h1 : s * x ≤ 0) (h2 : 0 < s * y) (h3 : 0 < s' * x) (h4 : 0 < s' * y) : False := by
  rcases hs with rfl | rfl <;> rcases hs' with rfl | rfl <;> omega
theorem firm2 (ok : WebOk (n : Int) hl bs) (hb : bs[t]? = some b) (hs : sgnAt n hl bs t b s) (h : 0 < wl (wB n hl bs t b)) : ¬ firmB n (hangL (n : Int) hl) (withB bs t b (wl (wB n hl bs t b) - 1) b.hi) := fun hf => by
  have okb := ok.bars b (List.mem_of_getElem? hb)
  have I := wB_inv okb.l0 okb.o0 okb.o1 okb.o2 hs
  obtain ⟨s', hs', hh⟩ := (firm_with ok.hang hb).mp hf
  obtain ⟨p, hp, hz⟩ := out_l I (sR_lo hs) h
  have h2 := sR_hi hs p hp
  obtain ⟨row, hr, rfl⟩ := List.mem_map.mp hp
  rw [sP_at] at hz h2
  exact two_signs hs.1 hs' hz h2 (hh row hr).1 (hh row hr).2
theorem firm3 (ok : WebOk (n : Int) hl bs) (hb : bs[t]? = some b) (hs : sgnAt n hl bs t b s) (h : wg (wB n hl bs t b) ≠ b.len) : ¬ firmB n (hangL (n : Int) hl) (withB bs t b b.lo (wg (wB n hl bs t b) + 1)) := fun hf => by
  have okb := ok.bars b (List.mem_of_getElem? hb)
  have I := wB_inv okb.l0 okb.o0 okb.o1 okb.o2 hs
  obtain ⟨s', hs', hh⟩ := (firm_with ok.hang hb).mp hf
  obtain ⟨p, hp, hz⟩ := out_g I (sR_hi hs) h
  have h2 := sR_lo hs p hp
  obtain ⟨row, hr, rfl⟩ := List.mem_map.mp hp
  rw [sP_at] at hz h2
  exact two_signs hs.1 hs' hz h2 (hh row hr).2 (hh row hr).1
def nought (n : Nat) (hl : List (Int × Int)) (bs : List BarD) (t : Nat) (b : BarD) (p : Int × Int) : Prop := ∃ row ∈ rows0 bs t b, p.1 * aR n hl bs t row + p.2 * bR n hl bs t row = 0
theorem sgn_zero {x y a c : Int} (hs : s = 1 ∨ s = -1) : x * (s * a) + y * (s * c) = 0 ↔ x * a + y * c = 0 := by
  rcases hs with rfl | rfl
  · rw [Int.one_mul, Int.one_mul]
  · rw [Int.neg_mul, Int.neg_mul, Int.one_mul, Int.one_mul, Int.mul_neg, Int.mul_neg]
    omega
theorem nought_g (ok : WebOk (n : Int) hl bs) (hb : bs[t]? = some b) (hs : sgnAt n hl bs t b s) : nought n hl bs t b (wB n hl bs t b).g ↔ (wB n hl bs t b).fg = false := by
  have okb := ok.bars b (List.mem_of_getElem? hb)
  have I := wB_inv okb.l0 okb.o0 okb.o1 okb.o2 hs
  constructor
  · rintro ⟨row, hr, hz⟩
    cases hf : (wB n hl bs t b).fg with
    | false => rfl
    | true =>
      obtain ⟨e, h⟩ := I.gt hf
      have h1 := h _ (List.mem_map.mpr ⟨row, hr, rfl⟩)
      rw [e] at hz
      have hz : 0 * aR n hl bs t row + 1 * bR n hl bs t row = 0 := hz
      have h1 : 0 < s * bR n hl bs t row := h1
      rw [show bR n hl bs t row = 0 by omega, Int.mul_zero] at h1
      omega
  · intro hf
    obtain ⟨_, p, hp, hz⟩ := I.gf hf
    obtain ⟨row, hr, rfl⟩ := List.mem_map.mp hp
    exact ⟨row, hr, (sgn_zero hs.1).mp hz⟩
theorem nought_l (ok : WebOk (n : Int) hl bs) (hb : bs[t]? = some b) (hs : sgnAt n hl bs t b s) : nought n hl bs t b (wB n hl bs t b).l ↔ (wB n hl bs t b).fl = false := by
  have okb := ok.bars b (List.mem_of_getElem? hb)
  have I := wB_inv okb.l0 okb.o0 okb.o1 okb.o2 hs
  constructor
  · rintro ⟨row, hr, hz⟩
    cases hf : (wB n hl bs t b).fl with
    | false => rfl
    | true =>
      obtain ⟨e, h⟩ := I.lt hf
      have h1 := h _ (List.mem_map.mpr ⟨row, hr, rfl⟩)
      rw [e] at hz
      have hz : b.len * aR n hl bs t row + 1 * bR n hl bs t row = 0 := hz
      rw [sP_at] at h1
      have h1 : 0 < s * (b.len * aR n hl bs t row + bR n hl bs t row) := h1
      rw [show b.len * aR n hl bs t row + bR n hl bs t row = 0 by omega, Int.mul_zero] at h1
      omega
  · intro hf
    obtain ⟨_, p, hp, hz⟩ := I.lf hf
    obtain ⟨row, hr, rfl⟩ := List.mem_map.mp hp
    exact ⟨row, hr, (sgn_zero hs.1).mp hz⟩
end
section
variable {P : Program} {w : World} {K : PySem.W.Frag} {mg : Str → Option Value} {base : Heap}
def spIsNought (K : PySem.W.Frag) : Sp := fun vs H Q _ => ∃ (v : V) (n : Nat) (hl : List (Int × Int)) (bs : List BarD) (t : Nat) (b : BarD) (u : Addr) (p : Int × Int), vs = [v, .int (t : Int), .ref u] ∧ Is K H (fcD (n : Int) hl bs) v ∧ WebOk (n : Int) hl bs ∧ bs[t]? = some b ∧ SqT K H u [.int p.1, .int p.2] ∧ sm1 p ∧ 1 ≤ p.2 ∧
  ∀ (c : Bool) H', Ext H H' → (c = true ↔ nought n hl bs t b p) → Q (.bl c) H'
theorem scaled_small {row : List Int} {q x : Int} {t : Nat} (hsm : ∀ y ∈ row, 0 ≤ y ∧ y ≤ 1000000) (hq : q.natAbs < 2 ^ 100) (hx : x.natAbs < 2 ^ 100) : ∀ y ∈ (row.map fun y => y * q).set t x, y.natAbs < 2 ^ 300 := fun y hy => by
  rcases List.mem_or_eq_of_mem_set hy with h | h
  · obtain ⟨z, hz, rfl⟩ := List.mem_map.mp h
    rw [Int.natAbs_mul]
    have := hsm z hz
    exact Nat.lt_of_lt_of_le (Nat.mul_lt_mul'' (show z.natAbs < 2 ^ 20 by omega) hq) (by decide +kernel)
  · rw [h]
    exact Nat.lt_of_lt_of_le hx (by decide +kernel)
theorem ok_l_is_nought (T : Tx K mg) : FnOk P w K mg base (L2.CX P w) 22 T.a_l_is_nought T.fd_l_is_nought ["_law_facts_here", "_law_bar_here", "_law_place"] (spIsNought K) := by
  refine T.F_l_is_nought.okX sc_l_is_nought (fun vs H Q E h => ?_) (fun cdv A outer s H vs Q E hr h => ?_)
  · obtain ⟨v, n, hl, bs, t, b, u, p, rfl, _⟩ := h
    rfl
  · obtain ⟨v, n, hl, bs, t, b, u, ⟨x, q⟩, rfl, hv, ok, hb, hu, hp, hq, k⟩ := h
    dsimp only at hu hq
    refine ⟨_, (pss_cons (ps_for (passes_of rfl) rfl (pi_list (pe_call (ok_l_beside T) (hr.mono (by decide)) rfl T.m_l_beside T.F_l_beside.kp T.b_l_beside .nil passL (pa_cons (pv 0) (pa_cons (pv 1) pa_nil)))) (pg_name (i := 3) sc_l_is_nought.nd rfl (Or.inl rfl)) (pss_one (ps_if (pt_cmpR op_eq (pe_ix ix_tup (pe_call (ok_l_tops T) (hr.mono (by decide)) rfl T.m_l_tops T.F_l_tops.kp T.b_l_tops .nil passL (pa_cons (pv 0) (pa_cons (pe_call (ok_l_at T) (hr.mono (by decide)) rfl T.m_l_at T.F_l_at.kp T.b_l_at .nil passL (pa_cons (pv 3) (pa_cons (pv 1) (pa_cons (pe_ix ix_tup (pv 2) pe_int (fun _ _ => rfl)) (pa_cons (pe_ix ix_tup (pv 2) pe_int (fun _ _ => rfl)) pa_nil))))) (pa_cons (pe_ix ix_tup (pv 2) pe_int (fun _ _ => rfl)) pa_nil)))) pe_int (fun _ _ => rfl)) pe_int (nomark _)) (pss_one (ps_ret pe_bl)) pss_nil)))
      (pss_one (ps_ret pe_bl))), ?_⟩
    have ht := (List.getElem?_eq_some_iff.mp hb).1
    have b8 := ok.b8
    refine ⟨_, rfl, _, rfl, v, n, hl, bs, t, b, rfl, hv, ok, hb, fun R rs H1 hR e1 hR1 hrs hcl => ?_⟩
    have hrl : rs.length = (rows0 bs t b).length := by rw [isL_len hrs, List.length_map]
    refine ⟨R, rfl, ⟨_, SqL.of hR1⟩, for_list (K := K) (a := R) (xs := rs) (fun i σ H' => Ext H1 H' ∧ (∀ row ∈ (rows0 bs t b).take i, x * aR n hl bs t row + q * bR n hl bs t row ≠ 0) ∧ ∃ v3 : Option V, σ = [some v, some (.int (t : Int)), some (.ref u), v3])
      ⟨Ext.rfl', (fun row h => by cases h), none, rfl⟩ (fun i σ H' _ z => SqL.of (z.1 _ _ hR1)) ?_ ?_⟩
    · rintro i y σ H2 hi ⟨e2, hno, v3, rfl⟩
      obtain ⟨row, hrow, iy⟩ := isL_at' hrs hi
      obtain ⟨ra, rfl, hra⟩ := rwI_of (iy.ext e2)
      have hrow : (rows0 bs t b)[i]? = some row := hrow
      have hm : row ∈ rows0 bs t b := List.mem_of_getElem? hrow
      have hln := rows0_len hm
      have hsmr := row0_small ok.bars hb hm
      have e02 := e1.trans e2
      have q6 : q.natAbs < 2 ^ 6000 := (sm1_sml hp).2
      have q3 : q.natAbs < 2 ^ 300 := Nat.lt_of_lt_of_le hp.2 (by decide +kernel)
      have s20 : ∀ y ∈ row, y.natAbs < 2 ^ 20 := fun y hy => by have := hsmr y hy; omega
      refine ⟨_, rfl, _, rfl, _, rfl, _, rfl, u, _, 0, _, rfl, rfl, hu.ext e02, rfl, _, rfl, u, _, 1, _, rfl, rfl, hu.ext e02, rfl, ra, row, t, x, q, rfl, hra, by omega, by omega, s20, q6, fun l H3 e3 hl3 hl4 => ?_⟩
      refine ⟨_, rfl, u, _, 1, _, rfl, rfl, hu.ext (e02.trans e3), rfl, v, l, n, hl, bs, (row.map fun y => y * q).set t x, q, rfl, hv.ext (e02.trans e3), SqL.of hl4, ok, by rw [List.length_set, List.length_map]; exact hln, scaled_small hsmr hp.2 hp.1, q3, fun o l2 H4 ho hl0 e4 ho4 hl24 => ?_⟩
      refine ⟨o, _, 1, _, rfl, rfl, SqT.of ho4, rfl, rfl, _, rfl, ite2 (fun c => ?_) (fun c => ?_)⟩
      · have c := of_decide_eq_true c
        refine k true H4 ((e02.trans e3).trans e4) ⟨fun _ => ⟨row, hm, ?_⟩, fun _ => rfl⟩
        exact (det_scaled ok.hang hln ht hq).mp (by injection c)
      · refine ⟨(e2.trans e3).trans e4, fun r hr => ?_, _, rfl⟩
        rw [List.take_add_one, hrow] at hr
        rcases List.mem_append.mp hr with h | h
        · exact hno r h
        · rw [List.mem_singleton.mp h]
          exact fun z => c (decide_eq_true (by rw [(det_scaled ok.hang hln ht hq).mpr z]))
    · rintro σ H2 ⟨e2, hno, v3, rfl⟩
      rw [hrl, List.take_length] at hno
      refine k false H2 (e1.trans e2) ⟨(fun z => by cases z), fun ⟨row, hr, hz⟩ => absurd hz (hno row hr)⟩
end
end K53
namespace K53
open PySem L2 RZ
section
variable {P : Program} {w : World} {K : PySem.W.Frag} {mg : Str → Option Value} {base : Heap}
def spWhole (K : PySem.W.Frag) : Sp := fun vs H Q _ => ∃ (v : V) (n : Nat) (hl : List (Int × Int)) (bs : List BarD) (t : Nat) (b : BarD) (D ga la : Addr) (s : Int), vs = [v, .int (t : Int), .ref D] ∧ Is K H (fcD (n : Int) hl bs) v ∧ WebOk (n : Int) hl bs ∧ bs.length ≤ 3 ∧ bs[t]? = some b ∧ sgnAt n hl bs t b s ∧
  H D = some (.lst [.ref ga, .ref la, .bl (wB n hl bs t b).fg, .bl (wB n hl bs t b).fl]) ∧ SqT K H ga [.int (wB n hl bs t b).g.1, .int (wB n hl bs t b).g.2] ∧ SqT K H la [.int (wB n hl bs t b).l.1, .int (wB n hl bs t b).l.2] ∧
  ∀ H', Ext H H' → Q (.bl true) H'
theorem ok_l_whole_right (T : Tx K mg) : FnOk P w K mg base (L2.CX P w) 24 T.a_l_whole_right T.fd_l_whole_right ["_law_facts_here", "_law_bar_here", "_law_found"] (spWhole K) := by
  refine T.F_l_whole_right.okX sc_l_whole_right (fun vs H Q E h => ?_) (fun cdv A outer s H vs Q E hr h => ?_)
  · obtain ⟨v, n, hl, bs, t, b, D, ga, la, s, rfl, _⟩ := h
    rfl
  · obtain ⟨v, n, hl, bs, t, b, D, ga, la, s, rfl, hv, ok, h3, hb, hs, hD, hga, hla, k⟩ := h
    refine ⟨_, (pss_cons (ps_set (i := 3) sc_l_whole_right.nd rfl (Or.inl rfl) (pe_ix ix_list (pe_ix ix_tup (pv 0) pe_int (fun _ _ => rfl)) (pv 1) (fun _ _ => rfl)))
      (pss_cons (ps_set (i := 4) sc_l_whole_right.nd rfl (Or.inl rfl) (pe_op op_sub (pe_op op_add (pe_op op_fdivW (pe_ix ix_tup (pe_ix ix_list (pv 2) pe_int (fun _ _ => rfl)) pe_int (fun _ _ => rfl)) (pe_ix ix_tup (pe_ix ix_list (pv 2) pe_int (fun _ _ => rfl)) pe_int (fun _ _ => rfl))) pe_int) (pe_callTy call_int1 (by rfl) T.z_int (by decide +kernel) (pa_cons (pe_ix ix_list (pv 2) pe_int (fun _ _ => rfl)) pa_nil))))
      (pss_cons (ps_set (i := 5) sc_l_whole_right.nd rfl (Or.inl rfl) (pe_op op_add (pe_op op_sub (pe_op op_sub pe_int (pe_op op_fdivW (pe_op op_sub pe_int (pe_ix ix_tup (pe_ix ix_list (pv 2) pe_int (fun _ _ => rfl)) pe_int (fun _ _ => rfl))) (pe_ix ix_tup (pe_ix ix_list (pv 2) pe_int (fun _ _ => rfl)) pe_int (fun _ _ => rfl)))) pe_int) (pe_callTy call_int1 (by rfl) T.z_int (by decide +kernel) (pa_cons (pe_ix ix_list (pv 2) pe_int (fun _ _ => rfl)) pa_nil))))
      (pss_cons (ps_if (pt_not (pt_val (pe_call (ok_l_is_sure T) (hr.mono (by decide)) rfl T.m_l_is_sure T.F_l_is_sure.kp T.b_l_is_sure .nil passL (pa_cons (pe_call (ok_l_with T) (hr.mono (by decide)) rfl T.m_l_with T.F_l_with.kp T.b_l_with .nil passL (pa_cons (pv 0) (pa_cons (pv 1) (pa_cons (pv 4) (pa_cons (pv 5) pa_nil))))) pa_nil)))) (pss_one (ps_ret pe_bl)) pss_nil)
      (pss_cons (ps_if (PW.pt (pw_and (pt_cmpR op_gt (pv 4) pe_int (nomark _)) (pw_and1 (pt_val (pe_call (ok_l_is_sure T) (hr.mono (by decide)) rfl T.m_l_is_sure T.F_l_is_sure.kp T.b_l_is_sure .nil passL (pa_cons (pe_call (ok_l_with T) (hr.mono (by decide)) rfl T.m_l_with T.F_l_with.kp T.b_l_with .nil passL (pa_cons (pv 0) (pa_cons (pv 1) (pa_cons (pe_op op_sub (pv 4) pe_int) (pa_cons (pe_ix ix_tup (pv 3) pe_int (fun _ _ => rfl)) pa_nil))))) pa_nil)))))) (pss_one (ps_ret pe_bl)) pss_nil)
      (pss_one (ps_ret (pe_or (pe_cmpR op_eq (pv 5) (pe_ix ix_tup (pv 3) pe_int (fun _ _ => rfl)) (nomark _)) (pe_one (pe_not (pe_call (ok_l_is_sure T) (hr.mono (by decide)) rfl T.m_l_is_sure T.F_l_is_sure.kp T.b_l_is_sure .nil passL (pa_cons (pe_call (ok_l_with T) (hr.mono (by decide)) rfl T.m_l_with T.F_l_with.kp T.b_l_with .nil passL (pa_cons (pv 0) (pa_cons (pv 1) (pa_cons (pe_ix ix_tup (pv 3) pe_int (fun _ _ => rfl)) (pa_cons (pe_op op_add (pv 5) pe_int) pa_nil))))) pa_nil)))))))))))), ?_⟩
    have ht := (List.getElem?_eq_some_iff.mp hb).1
    have b8 := ok.b8
    have okb := ok.bars b (List.mem_of_getElem? hb)
    have g1 := okb.l0
    have o0 := okb.o0
    have o1 := okb.o1
    have o2 := okb.o2
    have I := wB_inv g1 o0 o1 o2 hs
    have hS : sm1W (wB n hl bs t b) := by
      have z := wF_sm1 ok h3 hb (rows0 bs t b).length
      rw [List.take_length] at z
      exact z
    have F1 := firm1 ok hb hs
    have F2 := firm2 ok hb hs
    have F3 := firm3 ok hb hs
    have ll1 := wl_le I o0
    have ll2 := wg_ge I o2
    have i2 := I.g2
    have i3 := I.l2
    have dg : CDivW (wB n hl bs t b).g.1 (wB n hl bs t b).g.2 := wide_div (b := 100) (by omega) hS.1.2 (by decide) (by decide)
    have dl : CDivW (0 - (wB n hl bs t b).l.1) (wB n hl bs t b).l.2 := wide_div (b := 100) (by omega) hS.2.2 (by decide) (by decide)
    have ewl : (wB n hl bs t b).g.1 / (wB n hl bs t b).g.2 + 1 - (if (wB n hl bs t b).fg then 1 else 0) = wl (wB n hl bs t b) := rfl
    have ewg : 0 - (0 - (wB n hl bs t b).l.1) / (wB n hl bs t b).l.2 - 1 + (if (wB n hl bs t b).fl then 1 else 0) = wg (wB n hl bs t b) := rfl
    obtain ⟨tt, hd, bl, ws, hve, htt, hhd, hbl, hbs⟩ := fc_of hv
    obtain ⟨tv, htv, itb⟩ := isL_at2 hbs hb
    obtain ⟨tb, rfl, htb⟩ := bf_of itb
    generalize wB n hl bs t b = W at *
    refine ⟨_, rfl, tt, _, 2, _, hve, rfl, htt, at3c, _, rfl, bl, ws, (t : Int), _, rfl, rfl, hbl, atI_nat htv, ?_⟩
    have hDs := SqL.of (K := K) hD
    refine ⟨_, rfl, D, _, 0, _, rfl, rfl, hDs, atI_nat (j := 0) rfl, ga, _, 0, _, rfl, rfl, hga, rfl, _, rfl, D, _, 0, _, rfl, rfl, hDs, atI_nat (j := 0) rfl, ga, _, 1, _, rfl, rfl, hga, rfl, _, _, rfl, rfl, dg, ?_⟩
    refine ⟨_, _, rfl, rfl, _, rfl, D, _, 2, _, rfl, rfl, hDs, atI_nat (j := 2) rfl, .inr ⟨_, rfl, ?_⟩⟩
    refine ⟨_, _, rfl, rfl, ?_⟩
    dsimp only
    rw [ewl]
    refine ⟨_, rfl, D, _, 1, _, rfl, rfl, hDs, atI_nat (j := 1) rfl, la, _, 0, _, rfl, rfl, hla, rfl, ?_⟩
    refine ⟨_, _, rfl, rfl, _, rfl, D, _, 1, _, rfl, rfl, hDs, atI_nat (j := 1) rfl, la, _, 1, _, rfl, rfl, hla, rfl, _, _, rfl, rfl, dl, _, _, rfl, rfl, _, _, rfl, rfl, ?_⟩
    refine ⟨_, rfl, D, _, 3, _, rfl, rfl, hDs, atI_nat (j := 3) rfl, .inr ⟨_, rfl, _, _, rfl, rfl, ?_⟩⟩
    dsimp only
    rw [ewg]
    generalize wl W = l at *
    generalize wg W = g at *
    refine ⟨_, rfl, _, rfl, _, rfl, _, rfl, v, n, hl, bs, t, b, l, g, rfl, hv, b8, hb, fun u H1 e1 i1 => ?_⟩
    refine ⟨u, n, hl, withB bs t b l g, rfl, i1, with_ok ok hb (by omega) (by omega) (by omega), fun c H2 e2 hc => ?_⟩
    obtain rfl : c = true := hc.mpr F1
    have e02 := e1.trans e2
    refine ⟨_, rfl, iteF ?_⟩
    refine ⟨_, rfl, _, _, rfl, rfl, _, rfl, ?_⟩
    refine ite2 (fun c0 => ?_) (fun c0 => ?_)
    · have c0 := of_decide_eq_true c0
      refine ⟨_, rfl, _, rfl, _, rfl, _, _, rfl, rfl, _, rfl, tb, _, 5, _, rfl, rfl, htb.ext e02, rfl, v, n, hl, bs, t, b, l - 1, b.hi, rfl, hv.ext e02, b8, hb, fun u3 H3 e3 i3 => ?_⟩
      refine ⟨u3, n, hl, withB bs t b (l - 1) b.hi, rfl, i3, with_ok ok hb (by omega) (by omega) (by omega), fun c4 H4 e4 hc4 => ?_⟩
      obtain rfl : c4 = false := Bool.eq_false_iff.mpr fun z => F2 c0 (hc4.mp z)
      have e04 := (e02.trans e3).trans e4
      refine ⟨_, rfl, iteF ?_⟩
      refine ⟨_, rfl, _, rfl, tb, _, 3, _, rfl, rfl, htb.ext e04, rfl, rfl, _, rfl, ite2 (fun c2 => ?_) (fun c2 => ?_)⟩
      · exact k _ e04
      · have hgl : g ≠ b.len := fun z => c2 (decide_eq_true (by rw [z]))
        refine ⟨_, rfl, _, rfl, _, rfl, tb, _, 4, _, rfl, rfl, htb.ext e04, rfl, _, rfl, _, _, rfl, rfl, v, n, hl, bs, t, b, b.lo, g + 1, rfl, hv.ext e04, b8, hb, fun u5 H5 e5 i5 => ?_⟩
        refine ⟨u5, n, hl, withB bs t b b.lo (g + 1), rfl, i5, with_ok ok hb (by omega) (by omega) (by omega), fun c6 H6 e6 hc6 => ?_⟩
        obtain rfl : c6 = false := Bool.eq_false_iff.mpr fun z => F3 hgl (hc6.mp z)
        exact ⟨_, rfl, k _ ((e04.trans e5).trans e6)⟩
    · refine iteF ?_
      refine ⟨_, rfl, _, rfl, tb, _, 3, _, rfl, rfl, htb.ext e02, rfl, rfl, _, rfl, ite2 (fun c2 => ?_) (fun c2 => ?_)⟩
      · exact k _ e02
      · have hgl : g ≠ b.len := fun z => c2 (decide_eq_true (by rw [z]))
        refine ⟨_, rfl, _, rfl, _, rfl, tb, _, 4, _, rfl, rfl, htb.ext e02, rfl, _, rfl, _, _, rfl, rfl, v, n, hl, bs, t, b, b.lo, g + 1, rfl, hv.ext e02, b8, hb, fun u5 H5 e5 i5 => ?_⟩
        refine ⟨u5, n, hl, withB bs t b b.lo (g + 1), rfl, i5, with_ok ok hb (by omega) (by omega) (by omega), fun c6 H6 e6 hc6 => ?_⟩
        obtain rfl : c6 = false := Bool.eq_false_iff.mpr fun z => F3 hgl (hc6.mp z)
        exact ⟨_, rfl, k _ ((e02.trans e5).trans e6)⟩
end
end K53
namespace K53
open PySem L2 RZ
section
variable {P : Program} {w : World} {K : PySem.W.Frag} {mg : Str → Option Value} {base : Heap}
theorem deq2 {a b : Int × Int} : deq (.lst [frD a, frD b]) (.lst [frD a, frD b]) = true := by
  show (deq (frD a) (frD a) && (deq (frD b) (frD b) && true)) = true
  rw [fr_deq, fr_deq, decide_eq_true rfl, decide_eq_true rfl]
  rfl
theorem deqb2 {a b : Bool} : deq (.lst [.bl a, .bl b]) (.lst [.bl a, .bl b]) = true := by
  show ((a == a) && ((b == b) && true)) = true
  rw [beq_self_eq_true, beq_self_eq_true]
  rfl
def spLaw (K : PySem.W.Frag) : Sp := fun vs H Q _ => ∃ (a : Addr) (ns : List Int), vs = [.ref a] ∧ SqL K H a (ns.map V.int) ∧ ns.length ≤ 63 ∧ ∀ H', Q (.bl true) H'
theorem ok_law (T : Tx K mg) : FnOk P w K mg base (L2.CX P w) 80 T.a_law T.fd_law ["_law_script"] (spLaw K) := by
  refine T.F_law.okX sc_law (fun vs H Q E h => ?_) (fun cdv A outer s H vs Q E hr h => ?_)
  · obtain ⟨a, ns, rfl, _⟩ := h
    rfl
  · obtain ⟨a, ns, rfl, ha, hl, k⟩ := h
    refine ⟨_, (pss_cons (ps_for (passes_of rfl) rfl (pi_list (pe_op op_catL (pe_lst (pa_cons (pe_call (ok_l_cell_at T) (hr.mono (by decide)) rfl T.m_l_cell_at T.F_l_cell_at.kp T.b_l_cell_at .nil passL (pa_cons (pv 0) (pa_cons pe_int pa_nil))) pa_nil)) (pe_slice sl_list (pv 0) (po_some pe_int) (po_some pe_int)))) (pg_name (i := 1) sc_law.nd rfl (Or.inl rfl)) (pss_cons (ps_set (i := 2) sc_law.nd rfl (Or.inl rfl) (pe_call (ok_l_well T) (hr.mono (by decide)) rfl T.m_l_well T.F_l_well.kp T.b_l_well .nil passL (pa_cons (pv 1) pa_nil)))
      (pss_cons (ps_set (i := 3) sc_law.nd rfl (Or.inl rfl) (pe_call (ok_l_facts T) (hr.mono (by decide)) rfl T.m_l_facts T.F_l_facts.kp T.b_l_facts .nil passL (pa_cons (pv 2) (pa_cons (pe_call (ok_l_pick T) (hr.mono (by decide)) rfl T.m_l_pick T.F_l_pick.kp T.b_l_pick .nil passL (pa_cons (pv 2) (pa_cons (pe_lst (pa_cons pe_int (pa_cons pe_int (pa_cons pe_int pa_nil)))) pa_nil))) pa_nil))))
      (pss_one (ps_if (pt_val (pe_call (ok_l_is_sure T) (hr.mono (by decide)) rfl T.m_l_is_sure T.F_l_is_sure.kp T.b_l_is_sure .nil passL (pa_cons (pv 3) pa_nil))) (pss_one (ps_for (passes_of rfl) rfl (pi_range1 rfl T.z_range (pa_cons (pe_callB call_len_seq (by rfl) T.z_len PySem.boot_len (pa_cons (pe_ix ix_tup (pv 3) pe_int (fun _ _ => rfl)) pa_nil)) pa_nil)) (pg_name (i := 4) sc_law.nd rfl (Or.inl rfl)) (pss_cons (ps_set (i := 5) sc_law.nd rfl (Or.inl rfl) (pe_call (ok_l_due T) (hr.mono (by decide)) rfl T.m_l_due T.F_l_due.kp T.b_l_due .nil passL (pa_cons (pv 3) (pa_cons (pv 4) pa_nil))))
      (pss_cons (ps_set (i := 6) sc_law.nd rfl (Or.inl rfl) (pe_call (ok_widen T) (hr.mono (by decide)) rfl T.m_widen T.F_widen.kp T.b_widen .nil passL (pa_cons (pe_call (ok_l_made T) (hr.mono (by decide)) rfl T.m_l_made T.F_l_made.kp T.b_l_made .nil passL (pa_cons (pv 3) pa_nil)) (pa_cons (pv 4) pa_nil))))
      (pss_cons (ps_if (PW.pt (pw_or (pt_not (pt_val (pe_callB call_isi (by rfl) T.z_isinstance (by decide +kernel) (pa_cons (pv 6) (pa_cons (pe_glob (v := .ref T.C_Widening) rfl T.m_Widening rfl) pa_nil))))) (pw_or1 (pt_cmpR (op_neO pureTab pureNe hr (by decide)) (pe_lst (pa_cons (pe_fld (pv 6) rfl) (pa_cons (pe_fld (pv 6) rfl) pa_nil))) (pe_slice sl_list (pv 5) po_none (po_some pe_int)) (nomark _))))) (pss_one (ps_ret pe_bl)) pss_nil)
      (pss_cons (ps_if (PW.pt (pw_or (pt_not (pt_val (pe_callB call_isi (by rfl) T.z_isinstance (by decide +kernel) (pa_cons (pe_fld (pv 6) rfl) (pa_cons (pe_bltn (v := .ty "bool") (u := .type "bool") (by rfl) T.z_bool (by decide +kernel) rfl) pa_nil))))) (pw_or1 (pt_cmpR (op_neO pureTab pureNe hr (by decide)) (pe_lst (pa_cons (pe_fld (pv 6) rfl) (pa_cons (pe_fld (pv 6) rfl) pa_nil))) (pe_slice sl_list (pv 5) (po_some pe_int) po_none) (nomark _))))) (pss_one (ps_ret pe_bl)) pss_nil)
      (pss_cons (ps_if (pt_cmpR (op_neO (tabW T) (tabWNe T) hr (by decide)) (pv 6) (pe_make T.k_Widening (ok_Widening_init T) (hr.mono (by decide)) rfl T.m_Widening T.b_Widening_init .nil passL (pa_cons (pe_callTy call_list_of (by rfl) T.z_list (by decide +kernel) (pa_cons (pe_ix ix_list (pv 5) pe_int (fun _ _ => rfl)) pa_nil)) (pa_cons (pe_ix ix_list (pv 5) pe_int (fun _ _ => rfl)) (pa_cons (pe_ix ix_list (pv 5) pe_int (fun _ _ => rfl)) (pa_cons (pe_ix ix_list (pv 5) pe_int (fun _ _ => rfl)) pa_nil))))) (nomark _)) (pss_one (ps_ret pe_bl)) pss_nil)
      (pss_cons (ps_for (passes_of rfl) rfl (pi_list (pe_lst (pa_cons (pe_tup (pa_cons (pe_ix ix_list (pv 5) pe_int (fun _ _ => rfl)) (pa_cons (pe_ix ix_list (pv 5) pe_int (fun _ _ => rfl)) pa_nil))) (pa_cons (pe_tup (pa_cons (pe_ix ix_list (pv 5) pe_int (fun _ _ => rfl)) (pa_cons (pe_ix ix_list (pv 5) pe_int (fun _ _ => rfl)) pa_nil))) pa_nil)))) (pg_tup (by rfl) (pgs_cons (pg_name (i := 7) sc_law.nd rfl (Or.inl rfl)) (pgs_cons (pg_name (i := 8) sc_law.nd rfl (Or.inl rfl)) pgs_nil))) (pss_one (ps_if (pt_cmpR op_eq (pe_call (ok_l_is_nought T) (hr.mono (by decide)) rfl T.m_l_is_nought T.F_l_is_nought.kp T.b_l_is_nought .nil passL (pa_cons (pv 3) (pa_cons (pv 4) (pa_cons (pv 7) pa_nil)))) (pv 8) (nomark _)) (pss_one (ps_ret pe_bl)) pss_nil)))
      (pss_one (ps_if (pt_not (pt_val (pe_call (ok_l_whole_right T) (hr.mono (by decide)) rfl T.m_l_whole_right T.F_l_whole_right.kp T.b_l_whole_right .nil passL (pa_cons (pv 3) (pa_cons (pv 4) (pa_cons (pv 5) pa_nil)))))) (pss_one (ps_ret pe_bl)) pss_nil)))))))))) pss_nil)))))
      (pss_one (ps_ret pe_bl))), ?_⟩
    rw [show L2.start N_law [V.ref a] = [some (V.ref a), none, none, none, none, none, none, none, none] from rfl]
    refine ⟨_, rfl, a, ns, 0, rfl, ha, hl, by show 1 ≤ sizeLine; decide, fun A1 hA1 => ?_⟩
    refine ⟨_, rfl, 1, rfl, 3, rfl, a, _, rfl, ha.ext (Ext.upd hA1), fun A2 hA2 => ?_⟩
    have hA12 : A1 ≠ A2 := ne_of_none (H := upd H A1 (.lst [.int (ns.getD 0 0)])) upd_same hA2
    refine ⟨A1, A2, _, _, rfl, rfl, SqL.of (by rw [upd_ne hA12, upd_same]), SqL.of upd_same, ?_, fun q2 hq2 => ?_⟩
    · refine Nat.le_trans (show 1 + (cutV (ns.map V.int) (some 1) (some 3)).length ≤ 100 from ?_) (by decide)
      unfold cutV
      rw [List.length_take, List.length_drop, List.length_map]
      omega
    have hx : ∀ (i : Nat) (y : V), ([V.int (ns.getD 0 0)] ++ cutV (ns.map V.int) (some 1) (some 3))[i]? = some y → ∃ x, y = V.int x := fun i y h => by
      rcases List.mem_append.mp (List.mem_of_getElem? h) with h | h
      · exact ⟨_, List.mem_singleton.mp h⟩
      · obtain ⟨x, _, e⟩ := List.mem_map.mp (List.mem_of_mem_drop (List.mem_of_mem_take h))
        exact ⟨x, e.symm⟩
    have hq : (upd (upd (upd H A1 (.lst [.int (ns.getD 0 0)])) A2 (.lst (cutV (ns.map V.int) (some 1) (some 3)))) q2 (.lst ([V.int (ns.getD 0 0)] ++ cutV (ns.map V.int) (some 1) (some 3)))) q2 = some (.lst ([V.int (ns.getD 0 0)] ++ cutV (ns.map V.int) (some 1) (some 3))) := upd_same
    generalize upd (upd (upd H A1 (.lst [.int (ns.getD 0 0)])) A2 (.lst (cutV (ns.map V.int) (some 1) (some 3)))) q2 (.lst ([V.int (ns.getD 0 0)] ++ cutV (ns.map V.int) (some 1) (some 3))) = H0 at hq ⊢
    refine ⟨q2, rfl, ⟨_, SqL.of hq⟩, for_list (K := K) (a := q2) (xs := [V.int (ns.getD 0 0)] ++ cutV (ns.map V.int) (some 1) (some 3)) (fun i σ H' => Ext H0 H' ∧ ∃ v1 v2 v3 v4 v5 v6 v7 v8 : Option V, σ = [some (.ref a), v1, v2, v3, v4, v5, v6, v7, v8])
      ⟨Ext.rfl', none, none, none, none, none, none, none, none, rfl⟩ (fun i σ H' _ p => SqL.of (p.1 _ _ hq)) ?_ ?_⟩
    · rintro i y σ H1 hi ⟨e1, v1, v2, v3, v4, v5, v6, v7, v8, rfl⟩
      obtain ⟨x, rfl⟩ := hx i y hi
      refine ⟨_, rfl, x, rfl, fun p H2 hp e2 hw => ?_⟩
      simp only [List.set_cons_succ, List.set_cons_zero]
      refine ⟨_, rfl, _, rfl, by show 3 ≤ sizeLine; decide, fun L hL => ?_⟩
      have hLp : L ≠ p := hw.ne hL
      refine ⟨p, L, _, 1000000, rfl, (hw.le (by decide)).ext (Ext.upd hL), SqL.of (by rw [del_ne hLp]; exact upd_same), by show 0 < 3; decide, by show 3 < 1000000; decide, fun mv H3 hv e3' hw3 => ?_⟩
      obtain ⟨most, rfl, m1, m2⟩ : ∃ m : Int, mv = .int m ∧ 1 ≤ m ∧ m ≤ 1000 := by
        simp only [List.mem_cons, List.not_mem_nil, or_false] at hv
        rcases hv with rfl | rfl | rfl
        all_goals exact ⟨_, rfl, by decide, by decide⟩
      have hp0 : H0 p = none := e1.fresh hp
      have e03 : DE p H0 H3 := DE.of (DE.base e1 hp0 ((DE.of e2).trans ((DE.of (Ext.upd hL)).trans e3')))
      refine ⟨p, most, 1000, rfl, hw3.le (by decide), m1, m2, fun fv n hl' bs H4 e4 hw4 hfv ok b3 hbl => ?_⟩
      obtain ⟨n, rfl⟩ : ∃ n' : Nat, n = (n' : Int) := ⟨n.toNat, by have := ok.n3; omega⟩
      simp only [List.set_cons_succ, List.set_cons_zero]
      have e04 := e03.trans e4
      clear hw hi e3' hL hw3 hv e2 e03 e4
      have hfv4 := hfv.ext del_ext
      refine ⟨_, rfl, fv, n, hl', bs, rfl, hfv4, ok, fun b H7 e7 hb => ?_⟩
      have hfv7 := hfv4.ext e7
      have e07 : Ext H0 H7 := (DE.base Ext.rfl' hp0 e04).trans e7
      clear e7 e04 hfv4 hfv hw4
      cases b with
      | false =>
        refine ⟨false, rfl, iteF ?_⟩
        exact ⟨e07, _, _, _, _, _, _, _, _, rfl⟩
      | true =>
        have hf : firmB n (hangL (n : Int) hl') bs := hb.mp rfl
        refine ⟨true, rfl, iteT ?_⟩
        obtain ⟨tf, fhd, fbl, fws, hfve, htf, hfhd, hfbl, hfbs⟩ := fc_of hfv7
        have hful : fws.length = bs.length := by rw [isL_len hfbs, List.length_map]
        refine ⟨_, rfl, tf, _, _, _, hfve, rfl, htf, at3c, fbl, _, rfl, .inl hfbl, ?_⟩
        rw [hful]
        refine ⟨_, rfl, by omega, by omega, ?_⟩
        rw [show ((bs.length : Int)).toNat = bs.length from Int.toNat_natCast _]
        refine for_range (lo := 0) (n := bs.length) (fun t σ H' => Ext H7 H' ∧ ∃ v4 v5 v6 v7 v8 : Option V, σ = [some (.ref a), some (.int x), some (.ref p), some fv, v4, v5, v6, v7, v8])
          ⟨Ext.rfl', _, _, _, _, _, rfl⟩ ?_ ?_
        · rintro t σ H8 ht ⟨e8, u4, u5, u6, u7, u8, rfl⟩
          rw [Int.zero_add]
          have hbt : bs[t]? = some (bs[t]'ht) := List.getElem?_eq_getElem ht
          generalize bs[t]'ht = b at hbt
          have okb := ok.bars b (List.mem_of_getElem? hbt)
          obtain ⟨s, hs⟩ := firm_sgn ok.hang hbt hf
          have I := wB_inv okb.l0 okb.o0 okb.o1 okb.o2 hs
          have hS : sm1W (wB n hl' bs t b) := by
            have z := wF_sm1 ok b3 hbt (rows0 bs t b).length
            rw [List.take_length] at z
            exact z
          have Ng := nought_g ok hbt hs
          have Nl := nought_l ok hbt hs
          have i2 := I.g2
          have i3 := I.l2
          clear I
          simp only [List.set_cons_succ, List.set_cons_zero]
          have hfv8 := hfv7.ext e8
          refine ⟨_, rfl, _, rfl, fv, n, hl', bs, t, b, rfl, hfv8, ok, b3, hbt, fun D ga la H9 e9 hD hD9 hga hla => ?_⟩
          simp only [List.set_cons_succ, List.set_cons_zero]
          refine ⟨_, rfl, fv, n, hl', bs, rfl, hfv8.ext e9, ok, fun u H10 e10 hu => ?_⟩
          refine ⟨_, rfl, u, n, bs, hl', t, b, rfl, hu, ok, hbt, hf, fun f H11 e11 hfo => ?_⟩
          simp only [List.set_cons_succ, List.set_cons_zero]
          have e911 := e10.trans e11
          have e811 := e9.trans e911
          have hD11 := e911 _ _ hD9
          have hga11 := hga.ext e911
          have hla11 := hla.ext e911
          have hfv11 := hfv8.ext e811
          have e711 := e8.trans e811
          obtain ⟨W, hW⟩ : ∃ W, W = wB n hl' bs t b := ⟨_, rfl⟩
          clear e9 hD hD9 hga hla e10 hu e11 e911 e811 hfv8 e8
          rw [← hW] at hD11 hga11 hla11 hfo hS Ng Nl i2 i3
          have hDs := SqL.of (K := K) hD11
          obtain ⟨xa, dx, tl, tg, rfl, hxa, hl1, hg1⟩ := wi_fields hfo
          refine ⟨_, rfl, .ref xa, .ref T.C_Widening, .ref T.C_Widening, .ref T.C_Widening, true, rfl, ClsV.own _, TyX.base (TyOf.ins hxa T.c_Widening T.ii_Widening.cl T.ii_Widening.gn T.ii_Widening.tk T.ii_Widening.ob), kit_self, _, rfl, ?_⟩
          refine ite2 (fun hc => absurd hc (by decide)) fun _ => ?_
          refine ⟨_, rfl, xa, T.C_Widening, dx, _, _, rfl, hxa, T.c_Widening, T.nf_Widening_least, rfl, _, rfl, xa, T.C_Widening, dx, _, _, rfl, hxa, T.c_Widening, T.nf_Widening_greatest, rfl, by show 2 ≤ sizeLine; decide, fun A1 hA1 => ?_⟩
          refine ⟨_, rfl, 2, rfl, D, _, rfl, hDs.ext (Ext.upd hA1), fun A2 hA2 => ?_⟩
          have f2 := (Ext.upd (o := .lst [.ref tl, .ref tg]) hA1).trans (Ext.upd (o := .lst [.ref ga, .ref la]) hA2)
          have p1 : (upd (upd H11 A1 (.lst [.ref tl, .ref tg])) A2 (.lst [.ref ga, .ref la])) A1 = some (.lst [.ref tl, .ref tg]) := Ext.upd hA2 _ _ upd_same
          have p2 : (upd (upd H11 A1 (.lst [.ref tl, .ref tg])) A2 (.lst [.ref ga, .ref la])) A2 = some (.lst [.ref ga, .ref la]) := upd_same
          rw [show cutV [V.ref ga, V.ref la, V.bl W.fg, V.bl W.fl] none (some 2) = [V.ref ga, V.ref la] from rfl]
          generalize upd (upd H11 A1 (.lst [.ref tl, .ref tg])) A2 (.lst [.ref ga, .ref la]) = H12 at f2 p1 p2 ⊢
          refine ⟨.lst [frD W.g, frD W.l], .lst [frD W.g, frD W.l], ⟨A1, _, rfl, SqL.of p1, _, _, rfl, fr_is (hl1.ext f2), _, _, rfl, fr_is (hg1.ext f2), rfl⟩, ⟨A2, _, rfl, SqL.of p2, _, _, rfl, fr_is (hga11.ext f2), _, _, rfl, fr_is (hla11.ext f2), rfl⟩, okL_pure rfl, okL_pure rfl, by show 2 ≤ 8; decide, .inl rfl, fun H13 e13 => ⟨false, by rw [deq2]; rfl, iteF ?_⟩⟩
          have f3 := f2.trans e13
          have hxb := f3 _ _ hxa
          have hDb := hDs.ext f3
          clear p1 p2 f2 e13 hA1 hA2
          refine ⟨_, rfl, xa, T.C_Widening, dx, _, _, rfl, hxb, T.c_Widening, T.nf_Widening_is_least, rfl, .bl W.fg, .ty "bool", .type "bool", .type "bool", true, rfl, ClsV.ty _, TyX.base (TyOf.bl W.fg), kit_ty (by decide +kernel), _, rfl, ?_⟩
          refine ite2 (fun hc => absurd hc (by decide)) fun _ => ?_
          refine ⟨_, rfl, xa, T.C_Widening, dx, _, _, rfl, hxb, T.c_Widening, T.nf_Widening_is_least, rfl, _, rfl, xa, T.C_Widening, dx, _, _, rfl, hxb, T.c_Widening, T.nf_Widening_is_greatest, rfl, by show 2 ≤ sizeLine; decide, fun A3 hA3 => ?_⟩
          refine ⟨_, rfl, 2, rfl, D, _, rfl, hDb.ext (Ext.upd hA3), fun A4 hA4 => ?_⟩
          have f5 := (Ext.upd (o := .lst [.bl W.fg, .bl W.fl]) hA3).trans (Ext.upd (o := .lst [.bl W.fg, .bl W.fl]) hA4)
          have p3 : (upd (upd H13 A3 (.lst [.bl W.fg, .bl W.fl])) A4 (.lst [.bl W.fg, .bl W.fl])) A3 = some (.lst [.bl W.fg, .bl W.fl]) := Ext.upd hA4 _ _ upd_same
          have p4 : (upd (upd H13 A3 (.lst [.bl W.fg, .bl W.fl])) A4 (.lst [.bl W.fg, .bl W.fl])) A4 = some (.lst [.bl W.fg, .bl W.fl]) := upd_same
          rw [show cutV [V.ref ga, V.ref la, V.bl W.fg, V.bl W.fl] (some 2) none = [V.bl W.fg, V.bl W.fl] from rfl]
          generalize upd (upd H13 A3 (.lst [.bl W.fg, .bl W.fl])) A4 (.lst [.bl W.fg, .bl W.fl]) = H14 at f5 p3 p4 ⊢
          refine ⟨.lst [.bl W.fg, .bl W.fl], .lst [.bl W.fg, .bl W.fl], ⟨A3, _, rfl, SqL.of p3, _, _, rfl, rfl, _, _, rfl, rfl, rfl⟩, ⟨A4, _, rfl, SqL.of p4, _, _, rfl, rfl, _, _, rfl, rfl, rfl⟩, okL_pure rfl, okL_pure rfl, by show 1 ≤ 8; decide, .inl rfl, fun H15 e15 => ⟨false, by rw [deqb2]; rfl, iteF ?_⟩⟩
          have f6 := (f3.trans f5).trans e15
          have hDc := hDs.ext f6
          have hgc := hga11.ext f6
          have hlc := hla11.ext f6
          have hfc := hfo.ext f6
          clear p3 p4 f5 e15 hA3 hA4 hDb hxb f3
          refine ⟨_, rfl, _, rfl, D, _, 0, _, rfl, rfl, hDc, atI_nat (j := 0) rfl, ga, _, rfl, .inr hgc, fun L1 hL1 => ?_⟩
          have f7 : Ext H15 (upd H15 L1 (.lst [.int W.g.1, .int W.g.2])) := Ext.upd hL1
          have p5 : (upd H15 L1 (.lst [.int W.g.1, .int W.g.2])) L1 = some (.lst [.int W.g.1, .int W.g.2]) := upd_same
          generalize upd H15 L1 (.lst [.int W.g.1, .int W.g.2]) = H16 at f7 p5 ⊢
          have hDd := hDc.ext f7
          refine ⟨_, rfl, D, _, 1, _, rfl, rfl, hDd, atI_nat (j := 1) rfl, _, rfl, D, _, 2, _, rfl, rfl, hDd, atI_nat (j := 2) rfl, _, rfl, D, _, 3, _, rfl, rfl, hDd, atI_nat (j := 3) rfl, fun x2 dx2 hx2 hdx2 hne2 => ?_⟩
          refine ⟨H16, x2, dx2, L1, la, W, rfl, hx2, hdx2, hne2, rfl, .inl (SqL.of p5), .inr (hlc.ext f7), fun H17 e17 i17 => ⟨rfl, ?_⟩⟩
          have f8 := f7.trans e17
          refine ⟨wiD T.C_Widening W, wiD T.C_Widening W, hfc.ext f8, i17, wi_ok, wi_ok, wi_dep, .inl rfl, fun H18 e18 => ⟨false, by rw [wi_refl]; rfl, iteF ?_⟩⟩
          have f9 := (f6.trans f8).trans e18
          clear f8 f7 e17 e18 i17 p5 hDd hx2 hdx2 hne2 hL1 hDc hgc hlc hfc f6
          have hD18 := f9 _ _ hD11
          have hDe := hDs.ext f9
          have hge := hga11.ext f9
          have hle := hla11.ext f9
          have hfve2 := hfv11.ext f9
          have f79 := e711.trans f9
          clear f9 hDs hga11 hla11 hfv11 e711 hD11 hfo hxa hl1 hg1
          refine ⟨_, rfl, D, _, 0, _, rfl, rfl, hDe, atI_nat (j := 0) rfl, _, rfl, D, _, 2, _, rfl, rfl, hDe, atI_nat (j := 2) rfl, by show 2 ≤ sizeLine; decide, fun w1 hw1 => ?_⟩
          have g1 := Ext.upd (o := .tup [.ref ga, .bl W.fg]) hw1
          refine ⟨_, rfl, D, _, 1, _, rfl, rfl, hDe.ext g1, atI_nat (j := 1) rfl, _, rfl, D, _, 3, _, rfl, rfl, hDe.ext g1, atI_nat (j := 3) rfl, by show 2 ≤ sizeLine; decide, fun w2 hw2 => ?_⟩
          refine ⟨by show 2 ≤ sizeLine; decide, fun B hB => ?_⟩
          have g2 := Ext.upd (o := .tup [.ref la, .bl W.fl]) hw2
          have g3 := Ext.upd (o := .lst [.ref w1, .ref w2]) hB
          have g13 := (g1.trans g2).trans g3
          have r1 := g3 _ _ (g2 _ _ (upd_same (H := H18) (a := w1) (o := .tup [.ref ga, .bl W.fg])))
          have r2 := g3 _ _ (upd_same (H := upd H18 w1 (.tup [.ref ga, .bl W.fg])) (a := w2) (o := .tup [.ref la, .bl W.fl]))
          have r3 : (upd (upd (upd H18 w1 (.tup [.ref ga, .bl W.fg])) w2 (.tup [.ref la, .bl W.fl])) B (.lst [.ref w1, .ref w2])) B = some (.lst [.ref w1, .ref w2]) := upd_same
          generalize upd (upd (upd H18 w1 (.tup [.ref ga, .bl W.fg])) w2 (.tup [.ref la, .bl W.fl])) B (.lst [.ref w1, .ref w2]) = H20 at g13 r1 r2 r3 ⊢
          have hge2 := hge.ext g13
          have hle2 := hle.ext g13
          have hD20 := g13 _ _ hD18
          have hfv20 := hfve2.ext g13
          have f720 := f79.trans g13
          clear g1 g2 g3 hw1 hw2 hB g13 hge hle hD18 hfve2 f79 hDe
          refine ⟨B, rfl, ⟨_, SqL.of r3⟩, for_list (K := K) (a := B) (xs := [V.ref w1, V.ref w2]) (fun i σ H' => Ext H20 H' ∧ ∃ v7 v8 : Option V, σ = [some (.ref a), some (.int x), some (.ref p), some fv, some (.int (t : Int)), some (.ref D), some (.ref xa), v7, v8])
            ⟨Ext.rfl', _, _, rfl⟩ (fun i σ H' _ z => SqL.of (z.1 _ _ r3)) ?_ ?_⟩
          · rintro i y σ H21 hi ⟨e21, z7, z8, rfl⟩
            obtain ⟨w0, gx, pl, fl, rfl, s1, s2, s3, s4, s5⟩ : ∃ (w0 gx : Addr) (pl : Int × Int) (fl : Bool), y = .ref w0 ∧ H20 w0 = some (.tup [.ref gx, .bl fl]) ∧ SqT K H20 gx [.int pl.1, .int pl.2] ∧ sm1 pl ∧ 1 ≤ pl.2 ∧ (nought n hl' bs t b pl ↔ fl = false) := by
              match i, hi with
              | 0, hi => exact ⟨w1, ga, W.g, W.fg, (Option.some.inj hi).symm, r1, hge2, hS.1, i2, Ng⟩
              | 1, hi => exact ⟨w2, la, W.l, W.fl, (Option.some.inj hi).symm, r2, hle2, hS.2, i3, Nl⟩
              | i + 2, hi => cases hi
            refine ⟨w0, _, rfl, SqT.of (e21 _ _ s1), rfl, _, _, rfl, _, _, rfl, rfl, ?_⟩
            simp only [List.set_cons_succ, List.set_cons_zero]
            refine ⟨_, rfl, _, rfl, _, rfl, fv, n, hl', bs, t, b, gx, pl, rfl, hfv20.ext e21, ok, hbt, s2.ext e21, s3, s4, fun c H22 e22 hc => ?_⟩
            refine ⟨_, rfl, rfl, _, rfl, ite2 (fun q => ?_) (fun q => ?_)⟩
            · have q : V.bl c = V.bl fl := of_decide_eq_true q
              injection q with q
              have z := hc.trans s5
              rw [q] at z
              cases fl with
              | true => exact absurd (z.mp rfl) (by decide)
              | false => exact absurd (z.mpr rfl) (by decide)
            · exact ⟨e21.trans e22, _, _, rfl⟩
          · rintro σ H21 ⟨e21, z7, z8, rfl⟩
            refine ⟨_, rfl, _, rfl, _, rfl, fv, n, hl', bs, t, b, D, ga, la, s, rfl, hfv20.ext e21, ok, b3, hbt, hs, by rw [← hW]; exact e21 _ _ hD20, by rw [← hW]; exact hge2.ext e21, by rw [← hW]; exact hle2.ext e21, fun H22 e22 => ⟨_, rfl, iteF ?_⟩⟩
            exact ⟨(f720.trans e21).trans e22, _, _, _, _, _, rfl⟩
        · rintro σ H8 ⟨e8, u4, u5, u6, u7, u8, rfl⟩
          exact ⟨e07.trans e8, _, _, _, _, _, _, _, _, rfl⟩
    · rintro σ H1 ⟨e1, v1, v2, v3, v4, v5, v6, v7, v8, rfl⟩
      exact k _
end
end K53
namespace K53
open PySem L2
def mk_tx {K : PySem.W.Frag} {h : Heap} {mg : Str → Option Value} (X : K.In h) (G : h.Ns mainGlobals mg)
    {a_divisor : Addr} {od_divisor an_divisor : Option Addr} {sl_divisor : Array (Option Value)} {oc_divisor kV_divisor dc_divisor pm_divisor cd_divisor ct_divisor : Value} {a_lowest : Addr} {od_lowest an_lowest : Option Addr} {sl_lowest : Array (Option Value)} {oc_lowest kV_lowest dc_lowest pm_lowest cd_lowest ct_lowest : Value} {a_fraction : Addr} {od_fraction an_fraction : Option Addr} {sl_fraction : Array (Option Value)} {oc_fraction kV_fraction dc_fraction pm_fraction cd_fraction ct_fraction : Value} {a_is_less : Addr} {od_is_less an_is_less : Option Addr} {sl_is_less : Array (Option Value)} {oc_is_less kV_is_less dc_is_less pm_is_less cd_is_less ct_is_less : Value} {a_corner_rows : Addr} {od_corner_rows an_corner_rows : Option Addr} {sl_corner_rows : Array (Option Value)} {oc_corner_rows kV_corner_rows dc_corner_rows pm_corner_rows cd_corner_rows ct_corner_rows : Value} {a_ends : Addr} {od_ends an_ends : Option Addr} {sl_ends : Array (Option Value)} {oc_ends kV_ends dc_ends pm_ends cd_ends ct_ends : Value} {a_spread : Addr} {od_spread an_spread : Option Addr} {sl_spread : Array (Option Value)} {oc_spread kV_spread dc_spread pm_spread cd_spread ct_spread : Value} {a_exchanged : Addr} {od_exchanged an_exchanged : Option Addr} {sl_exchanged : Array (Option Value)} {oc_exchanged kV_exchanged dc_exchanged pm_exchanged cd_exchanged ct_exchanged : Value} {a_bar_rows : Addr} {od_bar_rows an_bar_rows : Option Addr} {sl_bar_rows : Array (Option Value)} {oc_bar_rows kV_bar_rows dc_bar_rows pm_bar_rows cd_bar_rows ct_bar_rows : Value} {a_determinant_at : Addr} {od_determinant_at an_determinant_at : Option Addr} {sl_determinant_at : Array (Option Value)} {oc_determinant_at kV_determinant_at dc_determinant_at pm_determinant_at cd_determinant_at ct_determinant_at : Value} {a_table : Addr} {od_table an_table : Option Addr} {sl_table : Array (Option Value)} {oc_table kV_table dc_table pm_table cd_table ct_table : Value} {a_cleared : Addr} {od_cleared an_cleared : Option Addr} {sl_cleared : Array (Option Value)} {oc_cleared kV_cleared dc_cleared pm_cleared cd_cleared ct_cleared : Value} {a_swapped : Addr} {od_swapped an_swapped : Option Addr} {sl_swapped : Array (Option Value)} {oc_swapped kV_swapped dc_swapped pm_swapped cd_swapped ct_swapped : Value} {a_cleared_of : Addr} {od_cleared_of an_cleared_of : Option Addr} {sl_cleared_of : Array (Option Value)} {oc_cleared_of kV_cleared_of dc_cleared_of pm_cleared_of cd_cleared_of ct_cleared_of : Value} {a_check_firm : Addr} {od_check_firm an_check_firm : Option Addr} {sl_check_firm : Array (Option Value)} {oc_check_firm kV_check_firm dc_check_firm pm_check_firm cd_check_firm ct_check_firm : Value} {a_corner_determinants : Addr} {od_corner_determinants an_corner_determinants : Option Addr} {sl_corner_determinants : Array (Option Value)} {oc_corner_determinants kV_corner_determinants dc_corner_determinants pm_corner_determinants cd_corner_determinants ct_corner_determinants : Value} {a_signs_hold : Addr} {od_signs_hold an_signs_hold : Option Addr} {sl_signs_hold : Array (Option Value)} {oc_signs_hold kV_signs_hold dc_signs_hold pm_signs_hold cd_signs_hold ct_signs_hold : Value} {a_check_has_bar : Addr} {od_check_has_bar an_check_has_bar : Option Addr} {sl_check_has_bar : Array (Option Value)} {oc_check_has_bar kV_check_has_bar dc_check_has_bar pm_check_has_bar cd_check_has_bar ct_check_has_bar : Value} {a_check_rods : Addr} {od_check_rods an_check_rods : Option Addr} {sl_check_rods : Array (Option Value)} {oc_check_rods kV_check_rods dc_check_rods pm_check_rods cd_check_rods ct_check_rods : Value} {a_check_bars : Addr} {od_check_bars an_check_bars : Option Addr} {sl_check_bars : Array (Option Value)} {oc_check_bars kV_check_bars dc_check_bars pm_check_bars cd_check_bars ct_check_bars : Value} {a_check_bar : Addr} {od_check_bar an_check_bar : Option Addr} {sl_check_bar : Array (Option Value)} {oc_check_bar kV_check_bar dc_check_bar pm_check_bar cd_check_bar ct_check_bar : Value} {a_widen : Addr} {od_widen an_widen : Option Addr} {sl_widen : Array (Option Value)} {oc_widen kV_widen dc_widen pm_widen cd_widen ct_widen : Value} {a_other_corners : Addr} {od_other_corners an_other_corners : Option Addr} {sl_other_corners : Array (Option Value)} {oc_other_corners kV_other_corners dc_other_corners pm_other_corners cd_other_corners ct_other_corners : Value} {a_firmness_along : Addr} {od_firmness_along an_firmness_along : Option Addr} {sl_firmness_along : Array (Option Value)} {oc_firmness_along kV_firmness_along dc_firmness_along pm_firmness_along cd_firmness_along ct_firmness_along : Value} {a_root : Addr} {od_root an_root : Option Addr} {sl_root : Array (Option Value)} {oc_root kV_root dc_root pm_root cd_root ct_root : Value} {a_greater : Addr} {od_greater an_greater : Option Addr} {sl_greater : Array (Option Value)} {oc_greater kV_greater dc_greater pm_greater cd_greater ct_greater : Value} {a_less : Addr} {od_less an_less : Option Addr} {sl_less : Array (Option Value)} {oc_less kV_less dc_less pm_less cd_less ct_less : Value} {a_l_cell_at : Addr} {od_l_cell_at an_l_cell_at : Option Addr} {sl_l_cell_at : Array (Option Value)} {oc_l_cell_at kV_l_cell_at dc_l_cell_at pm_l_cell_at cd_l_cell_at ct_l_cell_at : Value} {a_l_well : Addr} {od_l_well an_l_well : Option Addr} {sl_l_well : Array (Option Value)} {oc_l_well kV_l_well dc_l_well pm_l_well cd_l_well ct_l_well : Value} {a_l_draw : Addr} {od_l_draw an_l_draw : Option Addr} {sl_l_draw : Array (Option Value)} {oc_l_draw kV_l_draw dc_l_draw pm_l_draw cd_l_draw ct_l_draw : Value} {a_l_pick : Addr} {od_l_pick an_l_pick : Option Addr} {sl_l_pick : Array (Option Value)} {oc_l_pick kV_l_pick dc_l_pick pm_l_pick cd_l_pick ct_l_pick : Value} {a_l_unlike : Addr} {od_l_unlike an_l_unlike : Option Addr} {sl_l_unlike : Array (Option Value)} {oc_l_unlike kV_l_unlike dc_l_unlike pm_l_unlike cd_l_unlike ct_l_unlike : Value} {a_l_bar : Addr} {od_l_bar an_l_bar : Option Addr} {sl_l_bar : Array (Option Value)} {oc_l_bar kV_l_bar dc_l_bar pm_l_bar cd_l_bar ct_l_bar : Value} {a_l_facts : Addr} {od_l_facts an_l_facts : Option Addr} {sl_l_facts : Array (Option Value)} {oc_l_facts kV_l_facts dc_l_facts pm_l_facts cd_l_facts ct_l_facts : Value} {a_l_made : Addr} {od_l_made an_l_made : Option Addr} {sl_l_made : Array (Option Value)} {oc_l_made kV_l_made dc_l_made pm_l_made cd_l_made ct_l_made : Value} {a_l_turned : Addr} {od_l_turned an_l_turned : Option Addr} {sl_l_turned : Array (Option Value)} {oc_l_turned kV_l_turned dc_l_turned pm_l_turned cd_l_turned ct_l_turned : Value} {a_l_table : Addr} {od_l_table an_l_table : Option Addr} {sl_l_table : Array (Option Value)} {oc_l_table kV_l_table dc_l_table pm_l_table cd_l_table ct_l_table : Value} {a_l_tops : Addr} {od_l_tops an_l_tops : Option Addr} {sl_l_tops : Array (Option Value)} {oc_l_tops kV_l_tops dc_l_tops pm_l_tops cd_l_tops ct_l_tops : Value} {a_l_corners : Addr} {od_l_corners an_l_corners : Option Addr} {sl_l_corners : Array (Option Value)} {oc_l_corners kV_l_corners dc_l_corners pm_l_corners cd_l_corners ct_l_corners : Value} {a_l_is_less : Addr} {od_l_is_less an_l_is_less : Option Addr} {sl_l_is_less : Array (Option Value)} {oc_l_is_less kV_l_is_less dc_l_is_less pm_l_is_less cd_l_is_less ct_l_is_less : Value} {a_l_lowered : Addr} {od_l_lowered an_l_lowered : Option Addr} {sl_l_lowered : Array (Option Value)} {oc_l_lowered kV_l_lowered dc_l_lowered pm_l_lowered cd_l_lowered ct_l_lowered : Value} {a_l_is_sure : Addr} {od_l_is_sure an_l_is_sure : Option Addr} {sl_l_is_sure : Array (Option Value)} {oc_l_is_sure kV_l_is_sure dc_l_is_sure pm_l_is_sure cd_l_is_sure ct_l_is_sure : Value} {a_l_beside : Addr} {od_l_beside an_l_beside : Option Addr} {sl_l_beside : Array (Option Value)} {oc_l_beside kV_l_beside dc_l_beside pm_l_beside cd_l_beside ct_l_beside : Value} {a_l_at : Addr} {od_l_at an_l_at : Option Addr} {sl_l_at : Array (Option Value)} {oc_l_at kV_l_at dc_l_at pm_l_at cd_l_at ct_l_at : Value} {a_l_due : Addr} {od_l_due an_l_due : Option Addr} {sl_l_due : Array (Option Value)} {oc_l_due kV_l_due dc_l_due pm_l_due cd_l_due ct_l_due : Value} {a_l_with : Addr} {od_l_with an_l_with : Option Addr} {sl_l_with : Array (Option Value)} {oc_l_with kV_l_with dc_l_with pm_l_with cd_l_with ct_l_with : Value} {a_l_is_nought : Addr} {od_l_is_nought an_l_is_nought : Option Addr} {sl_l_is_nought : Array (Option Value)} {oc_l_is_nought kV_l_is_nought dc_l_is_nought pm_l_is_nought cd_l_is_nought ct_l_is_nought : Value} {a_l_whole_right : Addr} {od_l_whole_right an_l_whole_right : Option Addr} {sl_l_whole_right : Array (Option Value)} {oc_l_whole_right kV_l_whole_right dc_l_whole_right pm_l_whole_right cd_l_whole_right ct_l_whole_right : Value} {a_law : Addr} {od_law an_law : Option Addr} {sl_law : Array (Option Value)} {oc_law kV_law dc_law pm_law cd_law ct_law : Value} {C_Bar : Addr} {a_Bar_init : Addr} {od_Bar_init an_Bar_init : Option Addr} {sl_Bar_init : Array (Option Value)} {oc_Bar_init kV_Bar_init dc_Bar_init pm_Bar_init cd_Bar_init ct_Bar_init : Value} {a_Bar_eq : Addr} {od_Bar_eq an_Bar_eq : Option Addr} {sl_Bar_eq : Array (Option Value)} {oc_Bar_eq kV_Bar_eq dc_Bar_eq pm_Bar_eq cd_Bar_eq ct_Bar_eq : Value} {C_Web : Addr} {a_Web_init : Addr} {od_Web_init an_Web_init : Option Addr} {sl_Web_init : Array (Option Value)} {oc_Web_init kV_Web_init dc_Web_init pm_Web_init cd_Web_init ct_Web_init : Value} {a_Web_held : Addr} {od_Web_held an_Web_held : Option Addr} {sl_Web_held : Array (Option Value)} {oc_Web_held kV_Web_held dc_Web_held pm_Web_held cd_Web_held ct_Web_held : Value} {a_Web_hanging : Addr} {od_Web_hanging an_Web_hanging : Option Addr} {sl_Web_hanging : Array (Option Value)} {oc_Web_hanging kV_Web_hanging dc_Web_hanging pm_Web_hanging cd_Web_hanging ct_Web_hanging : Value} {a_Web_eq : Addr} {od_Web_eq an_Web_eq : Option Addr} {sl_Web_eq : Array (Option Value)} {oc_Web_eq kV_Web_eq dc_Web_eq pm_Web_eq cd_Web_eq ct_Web_eq : Value} {C_Widening : Addr} {a_Widening_init : Addr} {od_Widening_init an_Widening_init : Option Addr} {sl_Widening_init : Array (Option Value)} {oc_Widening_init kV_Widening_init dc_Widening_init pm_Widening_init cd_Widening_init ct_Widening_init : Value} {a_Widening_eq : Addr} {od_Widening_eq an_Widening_eq : Option Addr} {sl_Widening_eq : Array (Option Value)} {oc_Widening_eq kV_Widening_eq dc_Widening_eq pm_Widening_eq cd_Widening_eq ct_Widening_eq : Value} {C_HooksError : Addr} {C_BadCount : Addr} {nm_BadCount q_BadCount : Str} {N_BadCount : Addr} {bs_BadCount : List Value} {sn_BadCount : List Str} {sub_BadCount : List Value} {ab_BadCount : Bool} {col_BadCount : Option Bool} {dd_BadCount : Option Addr} {u0_BadCount u1_BadCount u2_BadCount u3_BadCount u5_BadCount : Option Value} {a_BadCount_init : Addr} {od_BadCount_init an_BadCount_init : Option Addr} {sl_BadCount_init : Array (Option Value)} {oc_BadCount_init kV_BadCount_init dc_BadCount_init pm_BadCount_init cd_BadCount_init ct_BadCount_init : Value} {C_NoRod : Addr} {nm_NoRod q_NoRod : Str} {N_NoRod : Addr} {bs_NoRod : List Value} {sn_NoRod : List Str} {sub_NoRod : List Value} {ab_NoRod : Bool} {col_NoRod : Option Bool} {dd_NoRod : Option Addr} {u0_NoRod u1_NoRod u2_NoRod u3_NoRod u5_NoRod : Option Value} {a_NoRod_init : Addr} {od_NoRod_init an_NoRod_init : Option Addr} {sl_NoRod_init : Array (Option Value)} {oc_NoRod_init kV_NoRod_init dc_NoRod_init pm_NoRod_init cd_NoRod_init ct_NoRod_init : Value} {C_SameRod : Addr} {nm_SameRod q_SameRod : Str} {N_SameRod : Addr} {bs_SameRod : List Value} {sn_SameRod : List Str} {sub_SameRod : List Value} {ab_SameRod : Bool} {col_SameRod : Option Bool} {dd_SameRod : Option Addr} {u0_SameRod u1_SameRod u2_SameRod u3_SameRod u5_SameRod : Option Value} {a_SameRod_init : Addr} {od_SameRod_init an_SameRod_init : Option Addr} {sl_SameRod_init : Array (Option Value)} {oc_SameRod_init kV_SameRod_init dc_SameRod_init pm_SameRod_init cd_SameRod_init ct_SameRod_init : Value} {C_BadSpan : Addr} {nm_BadSpan q_BadSpan : Str} {N_BadSpan : Addr} {bs_BadSpan : List Value} {sn_BadSpan : List Str} {sub_BadSpan : List Value} {ab_BadSpan : Bool} {col_BadSpan : Option Bool} {dd_BadSpan : Option Addr} {u0_BadSpan u1_BadSpan u2_BadSpan u3_BadSpan u5_BadSpan : Option Value} {a_BadSpan_init : Addr} {od_BadSpan_init an_BadSpan_init : Option Addr} {sl_BadSpan_init : Array (Option Value)} {oc_BadSpan_init kV_BadSpan_init dc_BadSpan_init pm_BadSpan_init cd_BadSpan_init ct_BadSpan_init : Value} {C_NotSquare : Addr} {nm_NotSquare q_NotSquare : Str} {N_NotSquare : Addr} {bs_NotSquare : List Value} {sn_NotSquare : List Str} {sub_NotSquare : List Value} {ab_NotSquare : Bool} {col_NotSquare : Option Bool} {dd_NotSquare : Option Addr} {u0_NotSquare u1_NotSquare u2_NotSquare u3_NotSquare u5_NotSquare : Option Value} {a_NotSquare_init : Addr} {od_NotSquare_init an_NotSquare_init : Option Addr} {sl_NotSquare_init : Array (Option Value)} {oc_NotSquare_init kV_NotSquare_init dc_NotSquare_init pm_NotSquare_init cd_NotSquare_init ct_NotSquare_init : Value} {C_Loose : Addr} {nm_Loose q_Loose : Str} {N_Loose : Addr} {bs_Loose : List Value} {sn_Loose : List Str} {sub_Loose : List Value} {ab_Loose : Bool} {col_Loose : Option Bool} {dd_Loose : Option Addr} {u0_Loose u1_Loose u2_Loose u3_Loose u5_Loose : Option Value} {t_LEAST_RODS : Tok} {t_MOST_RODS : Tok} {t_MOST_BARS : Tok} {t_MOST_HEIGHT : Tok} {t_MOST_LENGTH : Tok}
    (g_clsget : PySem.W.specialIn K (.builtin "object.__class__") "__get__" = some (some (.builtin "getset_descriptor.__get__")))
    (g_clstk : PySem.W.takesIn K (.builtin "object.__class__") = some true)
    (n_divisor : PySem.W.nsIn K mainGlobals "divisor" = some (some (.ref a_divisor)))
    (l_divisor : K.lookup a_divisor = some ⟨oc_divisor, od_divisor, .func (PySem.W.fnOf "divisor" "divisor" (defArgs s_divisor) (defBody s_divisor) (defScope s_divisor) .none kV_divisor dc_divisor pm_divisor an_divisor cd_divisor ct_divisor), sl_divisor⟩)
    (c_divisor : PySem.W.codeIn K cd_divisor "divisor" = true)
    (p_divisor : PySem.W.keepIn K (.ref a_divisor) = true)
    (n_lowest : PySem.W.nsIn K mainGlobals "lowest" = some (some (.ref a_lowest)))
    (l_lowest : K.lookup a_lowest = some ⟨oc_lowest, od_lowest, .func (PySem.W.fnOf "lowest" "lowest" (defArgs s_lowest) (defBody s_lowest) (defScope s_lowest) .none kV_lowest dc_lowest pm_lowest an_lowest cd_lowest ct_lowest), sl_lowest⟩)
    (c_lowest : PySem.W.codeIn K cd_lowest "lowest" = true)
    (p_lowest : PySem.W.keepIn K (.ref a_lowest) = true)
    (n_fraction : PySem.W.nsIn K mainGlobals "fraction" = some (some (.ref a_fraction)))
    (l_fraction : K.lookup a_fraction = some ⟨oc_fraction, od_fraction, .func (PySem.W.fnOf "fraction" "fraction" (defArgs s_fraction) (defBody s_fraction) (defScope s_fraction) .none kV_fraction dc_fraction pm_fraction an_fraction cd_fraction ct_fraction), sl_fraction⟩)
    (c_fraction : PySem.W.codeIn K cd_fraction "fraction" = true)
    (p_fraction : PySem.W.keepIn K (.ref a_fraction) = true)
    (n_is_less : PySem.W.nsIn K mainGlobals "is_less" = some (some (.ref a_is_less)))
    (l_is_less : K.lookup a_is_less = some ⟨oc_is_less, od_is_less, .func (PySem.W.fnOf "is_less" "is_less" (defArgs s_is_less) (defBody s_is_less) (defScope s_is_less) .none kV_is_less dc_is_less pm_is_less an_is_less cd_is_less ct_is_less), sl_is_less⟩)
    (c_is_less : PySem.W.codeIn K cd_is_less "is_less" = true)
    (p_is_less : PySem.W.keepIn K (.ref a_is_less) = true)
    (n_corner_rows : PySem.W.nsIn K mainGlobals "corner_rows" = some (some (.ref a_corner_rows)))
    (l_corner_rows : K.lookup a_corner_rows = some ⟨oc_corner_rows, od_corner_rows, .func (PySem.W.fnOf "corner_rows" "corner_rows" (defArgs s_corner_rows) (defBody s_corner_rows) (defScope s_corner_rows) .none kV_corner_rows dc_corner_rows pm_corner_rows an_corner_rows cd_corner_rows ct_corner_rows), sl_corner_rows⟩)
    (c_corner_rows : PySem.W.codeIn K cd_corner_rows "corner_rows" = true)
    (p_corner_rows : PySem.W.keepIn K (.ref a_corner_rows) = true)
    (n_ends : PySem.W.nsIn K mainGlobals "ends" = some (some (.ref a_ends)))
    (l_ends : K.lookup a_ends = some ⟨oc_ends, od_ends, .func (PySem.W.fnOf "ends" "ends" (defArgs s_ends) (defBody s_ends) (defScope s_ends) .none kV_ends dc_ends pm_ends an_ends cd_ends ct_ends), sl_ends⟩)
    (c_ends : PySem.W.codeIn K cd_ends "ends" = true)
    (p_ends : PySem.W.keepIn K (.ref a_ends) = true)
    (n_spread : PySem.W.nsIn K mainGlobals "spread" = some (some (.ref a_spread)))
    (l_spread : K.lookup a_spread = some ⟨oc_spread, od_spread, .func (PySem.W.fnOf "spread" "spread" (defArgs s_spread) (defBody s_spread) (defScope s_spread) .none kV_spread dc_spread pm_spread an_spread cd_spread ct_spread), sl_spread⟩)
    (c_spread : PySem.W.codeIn K cd_spread "spread" = true)
    (p_spread : PySem.W.keepIn K (.ref a_spread) = true)
    (n_exchanged : PySem.W.nsIn K mainGlobals "exchanged" = some (some (.ref a_exchanged)))
    (l_exchanged : K.lookup a_exchanged = some ⟨oc_exchanged, od_exchanged, .func (PySem.W.fnOf "exchanged" "exchanged" (defArgs s_exchanged) (defBody s_exchanged) (defScope s_exchanged) .none kV_exchanged dc_exchanged pm_exchanged an_exchanged cd_exchanged ct_exchanged), sl_exchanged⟩)
    (c_exchanged : PySem.W.codeIn K cd_exchanged "exchanged" = true)
    (p_exchanged : PySem.W.keepIn K (.ref a_exchanged) = true)
    (n_bar_rows : PySem.W.nsIn K mainGlobals "bar_rows" = some (some (.ref a_bar_rows)))
    (l_bar_rows : K.lookup a_bar_rows = some ⟨oc_bar_rows, od_bar_rows, .func (PySem.W.fnOf "bar_rows" "bar_rows" (defArgs s_bar_rows) (defBody s_bar_rows) (defScope s_bar_rows) .none kV_bar_rows dc_bar_rows pm_bar_rows an_bar_rows cd_bar_rows ct_bar_rows), sl_bar_rows⟩)
    (c_bar_rows : PySem.W.codeIn K cd_bar_rows "bar_rows" = true)
    (p_bar_rows : PySem.W.keepIn K (.ref a_bar_rows) = true)
    (n_determinant_at : PySem.W.nsIn K mainGlobals "determinant_at" = some (some (.ref a_determinant_at)))
    (l_determinant_at : K.lookup a_determinant_at = some ⟨oc_determinant_at, od_determinant_at, .func (PySem.W.fnOf "determinant_at" "determinant_at" (defArgs s_determinant_at) (defBody s_determinant_at) (defScope s_determinant_at) .none kV_determinant_at dc_determinant_at pm_determinant_at an_determinant_at cd_determinant_at ct_determinant_at), sl_determinant_at⟩)
    (c_determinant_at : PySem.W.codeIn K cd_determinant_at "determinant_at" = true)
    (p_determinant_at : PySem.W.keepIn K (.ref a_determinant_at) = true)
    (n_table : PySem.W.nsIn K mainGlobals "_table" = some (some (.ref a_table)))
    (l_table : K.lookup a_table = some ⟨oc_table, od_table, .func (PySem.W.fnOf "_table" "_table" (defArgs s_table) (defBody s_table) (defScope s_table) .none kV_table dc_table pm_table an_table cd_table ct_table), sl_table⟩)
    (c_table : PySem.W.codeIn K cd_table "_table" = true)
    (p_table : PySem.W.keepIn K (.ref a_table) = true)
    (n_cleared : PySem.W.nsIn K mainGlobals "_cleared" = some (some (.ref a_cleared)))
    (l_cleared : K.lookup a_cleared = some ⟨oc_cleared, od_cleared, .func (PySem.W.fnOf "_cleared" "_cleared" (defArgs s_cleared) (defBody s_cleared) (defScope s_cleared) .none kV_cleared dc_cleared pm_cleared an_cleared cd_cleared ct_cleared), sl_cleared⟩)
    (c_cleared : PySem.W.codeIn K cd_cleared "_cleared" = true)
    (p_cleared : PySem.W.keepIn K (.ref a_cleared) = true)
    (n_swapped : PySem.W.nsIn K mainGlobals "_swapped" = some (some (.ref a_swapped)))
    (l_swapped : K.lookup a_swapped = some ⟨oc_swapped, od_swapped, .func (PySem.W.fnOf "_swapped" "_swapped" (defArgs s_swapped) (defBody s_swapped) (defScope s_swapped) .none kV_swapped dc_swapped pm_swapped an_swapped cd_swapped ct_swapped), sl_swapped⟩)
    (c_swapped : PySem.W.codeIn K cd_swapped "_swapped" = true)
    (p_swapped : PySem.W.keepIn K (.ref a_swapped) = true)
    (n_cleared_of : PySem.W.nsIn K mainGlobals "_cleared_of" = some (some (.ref a_cleared_of)))
    (l_cleared_of : K.lookup a_cleared_of = some ⟨oc_cleared_of, od_cleared_of, .func (PySem.W.fnOf "_cleared_of" "_cleared_of" (defArgs s_cleared_of) (defBody s_cleared_of) (defScope s_cleared_of) .none kV_cleared_of dc_cleared_of pm_cleared_of an_cleared_of cd_cleared_of ct_cleared_of), sl_cleared_of⟩)
    (c_cleared_of : PySem.W.codeIn K cd_cleared_of "_cleared_of" = true)
    (p_cleared_of : PySem.W.keepIn K (.ref a_cleared_of) = true)
    (n_check_firm : PySem.W.nsIn K mainGlobals "check_firm" = some (some (.ref a_check_firm)))
    (l_check_firm : K.lookup a_check_firm = some ⟨oc_check_firm, od_check_firm, .func (PySem.W.fnOf "check_firm" "check_firm" (defArgs s_check_firm) (defBody s_check_firm) (defScope s_check_firm) .none kV_check_firm dc_check_firm pm_check_firm an_check_firm cd_check_firm ct_check_firm), sl_check_firm⟩)
    (c_check_firm : PySem.W.codeIn K cd_check_firm "check_firm" = true)
    (p_check_firm : PySem.W.keepIn K (.ref a_check_firm) = true)
    (n_corner_determinants : PySem.W.nsIn K mainGlobals "_corner_determinants" = some (some (.ref a_corner_determinants)))
    (l_corner_determinants : K.lookup a_corner_determinants = some ⟨oc_corner_determinants, od_corner_determinants, .func (PySem.W.fnOf "_corner_determinants" "_corner_determinants" (defArgs s_corner_determinants) (defBody s_corner_determinants) (defScope s_corner_determinants) .none kV_corner_determinants dc_corner_determinants pm_corner_determinants an_corner_determinants cd_corner_determinants ct_corner_determinants), sl_corner_determinants⟩)
    (c_corner_determinants : PySem.W.codeIn K cd_corner_determinants "_corner_determinants" = true)
    (p_corner_determinants : PySem.W.keepIn K (.ref a_corner_determinants) = true)
    (n_signs_hold : PySem.W.nsIn K mainGlobals "_signs_hold" = some (some (.ref a_signs_hold)))
    (l_signs_hold : K.lookup a_signs_hold = some ⟨oc_signs_hold, od_signs_hold, .func (PySem.W.fnOf "_signs_hold" "_signs_hold" (defArgs s_signs_hold) (defBody s_signs_hold) (defScope s_signs_hold) .none kV_signs_hold dc_signs_hold pm_signs_hold an_signs_hold cd_signs_hold ct_signs_hold), sl_signs_hold⟩)
    (c_signs_hold : PySem.W.codeIn K cd_signs_hold "_signs_hold" = true)
    (p_signs_hold : PySem.W.keepIn K (.ref a_signs_hold) = true)
    (n_check_has_bar : PySem.W.nsIn K mainGlobals "check_has_bar" = some (some (.ref a_check_has_bar)))
    (l_check_has_bar : K.lookup a_check_has_bar = some ⟨oc_check_has_bar, od_check_has_bar, .func (PySem.W.fnOf "check_has_bar" "check_has_bar" (defArgs s_check_has_bar) (defBody s_check_has_bar) (defScope s_check_has_bar) .none kV_check_has_bar dc_check_has_bar pm_check_has_bar an_check_has_bar cd_check_has_bar ct_check_has_bar), sl_check_has_bar⟩)
    (c_check_has_bar : PySem.W.codeIn K cd_check_has_bar "check_has_bar" = true)
    (p_check_has_bar : PySem.W.keepIn K (.ref a_check_has_bar) = true)
    (n_check_rods : PySem.W.nsIn K mainGlobals "_check_rods" = some (some (.ref a_check_rods)))
    (l_check_rods : K.lookup a_check_rods = some ⟨oc_check_rods, od_check_rods, .func (PySem.W.fnOf "_check_rods" "_check_rods" (defArgs s_check_rods) (defBody s_check_rods) (defScope s_check_rods) .none kV_check_rods dc_check_rods pm_check_rods an_check_rods cd_check_rods ct_check_rods), sl_check_rods⟩)
    (c_check_rods : PySem.W.codeIn K cd_check_rods "_check_rods" = true)
    (p_check_rods : PySem.W.keepIn K (.ref a_check_rods) = true)
    (n_check_bars : PySem.W.nsIn K mainGlobals "_check_bars" = some (some (.ref a_check_bars)))
    (l_check_bars : K.lookup a_check_bars = some ⟨oc_check_bars, od_check_bars, .func (PySem.W.fnOf "_check_bars" "_check_bars" (defArgs s_check_bars) (defBody s_check_bars) (defScope s_check_bars) .none kV_check_bars dc_check_bars pm_check_bars an_check_bars cd_check_bars ct_check_bars), sl_check_bars⟩)
    (c_check_bars : PySem.W.codeIn K cd_check_bars "_check_bars" = true)
    (p_check_bars : PySem.W.keepIn K (.ref a_check_bars) = true)
    (n_check_bar : PySem.W.nsIn K mainGlobals "_check_bar" = some (some (.ref a_check_bar)))
    (l_check_bar : K.lookup a_check_bar = some ⟨oc_check_bar, od_check_bar, .func (PySem.W.fnOf "_check_bar" "_check_bar" (defArgs s_check_bar) (defBody s_check_bar) (defScope s_check_bar) .none kV_check_bar dc_check_bar pm_check_bar an_check_bar cd_check_bar ct_check_bar), sl_check_bar⟩)
    (c_check_bar : PySem.W.codeIn K cd_check_bar "_check_bar" = true)
    (p_check_bar : PySem.W.keepIn K (.ref a_check_bar) = true)
    (n_widen : PySem.W.nsIn K mainGlobals "widen" = some (some (.ref a_widen)))
    (l_widen : K.lookup a_widen = some ⟨oc_widen, od_widen, .func (PySem.W.fnOf "widen" "widen" (defArgs s_widen) (defBody s_widen) (defScope s_widen) .none kV_widen dc_widen pm_widen an_widen cd_widen ct_widen), sl_widen⟩)
    (c_widen : PySem.W.codeIn K cd_widen "widen" = true)
    (p_widen : PySem.W.keepIn K (.ref a_widen) = true)
    (n_other_corners : PySem.W.nsIn K mainGlobals "_other_corners" = some (some (.ref a_other_corners)))
    (l_other_corners : K.lookup a_other_corners = some ⟨oc_other_corners, od_other_corners, .func (PySem.W.fnOf "_other_corners" "_other_corners" (defArgs s_other_corners) (defBody s_other_corners) (defScope s_other_corners) .none kV_other_corners dc_other_corners pm_other_corners an_other_corners cd_other_corners ct_other_corners), sl_other_corners⟩)
    (c_other_corners : PySem.W.codeIn K cd_other_corners "_other_corners" = true)
    (p_other_corners : PySem.W.keepIn K (.ref a_other_corners) = true)
    (n_firmness_along : PySem.W.nsIn K mainGlobals "_firmness_along" = some (some (.ref a_firmness_along)))
    (l_firmness_along : K.lookup a_firmness_along = some ⟨oc_firmness_along, od_firmness_along, .func (PySem.W.fnOf "_firmness_along" "_firmness_along" (defArgs s_firmness_along) (defBody s_firmness_along) (defScope s_firmness_along) .none kV_firmness_along dc_firmness_along pm_firmness_along an_firmness_along cd_firmness_along ct_firmness_along), sl_firmness_along⟩)
    (c_firmness_along : PySem.W.codeIn K cd_firmness_along "_firmness_along" = true)
    (p_firmness_along : PySem.W.keepIn K (.ref a_firmness_along) = true)
    (n_root : PySem.W.nsIn K mainGlobals "_root" = some (some (.ref a_root)))
    (l_root : K.lookup a_root = some ⟨oc_root, od_root, .func (PySem.W.fnOf "_root" "_root" (defArgs s_root) (defBody s_root) (defScope s_root) .none kV_root dc_root pm_root an_root cd_root ct_root), sl_root⟩)
    (c_root : PySem.W.codeIn K cd_root "_root" = true)
    (p_root : PySem.W.keepIn K (.ref a_root) = true)
    (n_greater : PySem.W.nsIn K mainGlobals "_greater" = some (some (.ref a_greater)))
    (l_greater : K.lookup a_greater = some ⟨oc_greater, od_greater, .func (PySem.W.fnOf "_greater" "_greater" (defArgs s_greater) (defBody s_greater) (defScope s_greater) .none kV_greater dc_greater pm_greater an_greater cd_greater ct_greater), sl_greater⟩)
    (c_greater : PySem.W.codeIn K cd_greater "_greater" = true)
    (p_greater : PySem.W.keepIn K (.ref a_greater) = true)
    (n_less : PySem.W.nsIn K mainGlobals "_less" = some (some (.ref a_less)))
    (l_less : K.lookup a_less = some ⟨oc_less, od_less, .func (PySem.W.fnOf "_less" "_less" (defArgs s_less) (defBody s_less) (defScope s_less) .none kV_less dc_less pm_less an_less cd_less ct_less), sl_less⟩)
    (c_less : PySem.W.codeIn K cd_less "_less" = true)
    (p_less : PySem.W.keepIn K (.ref a_less) = true)
    (n_l_cell_at : PySem.W.nsIn K mainGlobals "_law_cell_at" = some (some (.ref a_l_cell_at)))
    (l_l_cell_at : K.lookup a_l_cell_at = some ⟨oc_l_cell_at, od_l_cell_at, .func (PySem.W.fnOf "_law_cell_at" "_law_cell_at" (defArgs s_l_cell_at) (defBody s_l_cell_at) (defScope s_l_cell_at) .none kV_l_cell_at dc_l_cell_at pm_l_cell_at an_l_cell_at cd_l_cell_at ct_l_cell_at), sl_l_cell_at⟩)
    (c_l_cell_at : PySem.W.codeIn K cd_l_cell_at "_law_cell_at" = true)
    (p_l_cell_at : PySem.W.keepIn K (.ref a_l_cell_at) = true)
    (n_l_well : PySem.W.nsIn K mainGlobals "_law_well" = some (some (.ref a_l_well)))
    (l_l_well : K.lookup a_l_well = some ⟨oc_l_well, od_l_well, .func (PySem.W.fnOf "_law_well" "_law_well" (defArgs s_l_well) (defBody s_l_well) (defScope s_l_well) .none kV_l_well dc_l_well pm_l_well an_l_well cd_l_well ct_l_well), sl_l_well⟩)
    (c_l_well : PySem.W.codeIn K cd_l_well "_law_well" = true)
    (p_l_well : PySem.W.keepIn K (.ref a_l_well) = true)
    (n_l_draw : PySem.W.nsIn K mainGlobals "_law_draw" = some (some (.ref a_l_draw)))
    (l_l_draw : K.lookup a_l_draw = some ⟨oc_l_draw, od_l_draw, .func (PySem.W.fnOf "_law_draw" "_law_draw" (defArgs s_l_draw) (defBody s_l_draw) (defScope s_l_draw) .none kV_l_draw dc_l_draw pm_l_draw an_l_draw cd_l_draw ct_l_draw), sl_l_draw⟩)
    (c_l_draw : PySem.W.codeIn K cd_l_draw "_law_draw" = true)
    (p_l_draw : PySem.W.keepIn K (.ref a_l_draw) = true)
    (n_l_pick : PySem.W.nsIn K mainGlobals "_law_pick" = some (some (.ref a_l_pick)))
    (l_l_pick : K.lookup a_l_pick = some ⟨oc_l_pick, od_l_pick, .func (PySem.W.fnOf "_law_pick" "_law_pick" (defArgs s_l_pick) (defBody s_l_pick) (defScope s_l_pick) .none kV_l_pick dc_l_pick pm_l_pick an_l_pick cd_l_pick ct_l_pick), sl_l_pick⟩)
    (c_l_pick : PySem.W.codeIn K cd_l_pick "_law_pick" = true)
    (p_l_pick : PySem.W.keepIn K (.ref a_l_pick) = true)
    (n_l_unlike : PySem.W.nsIn K mainGlobals "_law_unlike" = some (some (.ref a_l_unlike)))
    (l_l_unlike : K.lookup a_l_unlike = some ⟨oc_l_unlike, od_l_unlike, .func (PySem.W.fnOf "_law_unlike" "_law_unlike" (defArgs s_l_unlike) (defBody s_l_unlike) (defScope s_l_unlike) .none kV_l_unlike dc_l_unlike pm_l_unlike an_l_unlike cd_l_unlike ct_l_unlike), sl_l_unlike⟩)
    (c_l_unlike : PySem.W.codeIn K cd_l_unlike "_law_unlike" = true)
    (p_l_unlike : PySem.W.keepIn K (.ref a_l_unlike) = true)
    (n_l_bar : PySem.W.nsIn K mainGlobals "_law_bar" = some (some (.ref a_l_bar)))
    (l_l_bar : K.lookup a_l_bar = some ⟨oc_l_bar, od_l_bar, .func (PySem.W.fnOf "_law_bar" "_law_bar" (defArgs s_l_bar) (defBody s_l_bar) (defScope s_l_bar) .none kV_l_bar dc_l_bar pm_l_bar an_l_bar cd_l_bar ct_l_bar), sl_l_bar⟩)
    (c_l_bar : PySem.W.codeIn K cd_l_bar "_law_bar" = true)
    (p_l_bar : PySem.W.keepIn K (.ref a_l_bar) = true)
    (n_l_facts : PySem.W.nsIn K mainGlobals "_law_facts" = some (some (.ref a_l_facts)))
    (l_l_facts : K.lookup a_l_facts = some ⟨oc_l_facts, od_l_facts, .func (PySem.W.fnOf "_law_facts" "_law_facts" (defArgs s_l_facts) (defBody s_l_facts) (defScope s_l_facts) .none kV_l_facts dc_l_facts pm_l_facts an_l_facts cd_l_facts ct_l_facts), sl_l_facts⟩)
    (c_l_facts : PySem.W.codeIn K cd_l_facts "_law_facts" = true)
    (p_l_facts : PySem.W.keepIn K (.ref a_l_facts) = true)
    (n_l_made : PySem.W.nsIn K mainGlobals "_law_made" = some (some (.ref a_l_made)))
    (l_l_made : K.lookup a_l_made = some ⟨oc_l_made, od_l_made, .func (PySem.W.fnOf "_law_made" "_law_made" (defArgs s_l_made) (defBody s_l_made) (defScope s_l_made) .none kV_l_made dc_l_made pm_l_made an_l_made cd_l_made ct_l_made), sl_l_made⟩)
    (c_l_made : PySem.W.codeIn K cd_l_made "_law_made" = true)
    (p_l_made : PySem.W.keepIn K (.ref a_l_made) = true)
    (n_l_turned : PySem.W.nsIn K mainGlobals "_law_turned" = some (some (.ref a_l_turned)))
    (l_l_turned : K.lookup a_l_turned = some ⟨oc_l_turned, od_l_turned, .func (PySem.W.fnOf "_law_turned" "_law_turned" (defArgs s_l_turned) (defBody s_l_turned) (defScope s_l_turned) .none kV_l_turned dc_l_turned pm_l_turned an_l_turned cd_l_turned ct_l_turned), sl_l_turned⟩)
    (c_l_turned : PySem.W.codeIn K cd_l_turned "_law_turned" = true)
    (p_l_turned : PySem.W.keepIn K (.ref a_l_turned) = true)
    (n_l_table : PySem.W.nsIn K mainGlobals "_law_table" = some (some (.ref a_l_table)))
    (l_l_table : K.lookup a_l_table = some ⟨oc_l_table, od_l_table, .func (PySem.W.fnOf "_law_table" "_law_table" (defArgs s_l_table) (defBody s_l_table) (defScope s_l_table) .none kV_l_table dc_l_table pm_l_table an_l_table cd_l_table ct_l_table), sl_l_table⟩)
    (c_l_table : PySem.W.codeIn K cd_l_table "_law_table" = true)
    (p_l_table : PySem.W.keepIn K (.ref a_l_table) = true)
    (n_l_tops : PySem.W.nsIn K mainGlobals "_law_tops" = some (some (.ref a_l_tops)))
    (l_l_tops : K.lookup a_l_tops = some ⟨oc_l_tops, od_l_tops, .func (PySem.W.fnOf "_law_tops" "_law_tops" (defArgs s_l_tops) (defBody s_l_tops) (defScope s_l_tops) .none kV_l_tops dc_l_tops pm_l_tops an_l_tops cd_l_tops ct_l_tops), sl_l_tops⟩)
    (c_l_tops : PySem.W.codeIn K cd_l_tops "_law_tops" = true)
    (p_l_tops : PySem.W.keepIn K (.ref a_l_tops) = true)
    (n_l_corners : PySem.W.nsIn K mainGlobals "_law_corners" = some (some (.ref a_l_corners)))
    (l_l_corners : K.lookup a_l_corners = some ⟨oc_l_corners, od_l_corners, .func (PySem.W.fnOf "_law_corners" "_law_corners" (defArgs s_l_corners) (defBody s_l_corners) (defScope s_l_corners) .none kV_l_corners dc_l_corners pm_l_corners an_l_corners cd_l_corners ct_l_corners), sl_l_corners⟩)
    (c_l_corners : PySem.W.codeIn K cd_l_corners "_law_corners" = true)
    (p_l_corners : PySem.W.keepIn K (.ref a_l_corners) = true)
    (n_l_is_less : PySem.W.nsIn K mainGlobals "_law_is_less" = some (some (.ref a_l_is_less)))
    (l_l_is_less : K.lookup a_l_is_less = some ⟨oc_l_is_less, od_l_is_less, .func (PySem.W.fnOf "_law_is_less" "_law_is_less" (defArgs s_l_is_less) (defBody s_l_is_less) (defScope s_l_is_less) .none kV_l_is_less dc_l_is_less pm_l_is_less an_l_is_less cd_l_is_less ct_l_is_less), sl_l_is_less⟩)
    (c_l_is_less : PySem.W.codeIn K cd_l_is_less "_law_is_less" = true)
    (p_l_is_less : PySem.W.keepIn K (.ref a_l_is_less) = true)
    (n_l_lowered : PySem.W.nsIn K mainGlobals "_law_lowered" = some (some (.ref a_l_lowered)))
    (l_l_lowered : K.lookup a_l_lowered = some ⟨oc_l_lowered, od_l_lowered, .func (PySem.W.fnOf "_law_lowered" "_law_lowered" (defArgs s_l_lowered) (defBody s_l_lowered) (defScope s_l_lowered) .none kV_l_lowered dc_l_lowered pm_l_lowered an_l_lowered cd_l_lowered ct_l_lowered), sl_l_lowered⟩)
    (c_l_lowered : PySem.W.codeIn K cd_l_lowered "_law_lowered" = true)
    (p_l_lowered : PySem.W.keepIn K (.ref a_l_lowered) = true)
    (n_l_is_sure : PySem.W.nsIn K mainGlobals "_law_is_sure" = some (some (.ref a_l_is_sure)))
    (l_l_is_sure : K.lookup a_l_is_sure = some ⟨oc_l_is_sure, od_l_is_sure, .func (PySem.W.fnOf "_law_is_sure" "_law_is_sure" (defArgs s_l_is_sure) (defBody s_l_is_sure) (defScope s_l_is_sure) .none kV_l_is_sure dc_l_is_sure pm_l_is_sure an_l_is_sure cd_l_is_sure ct_l_is_sure), sl_l_is_sure⟩)
    (c_l_is_sure : PySem.W.codeIn K cd_l_is_sure "_law_is_sure" = true)
    (p_l_is_sure : PySem.W.keepIn K (.ref a_l_is_sure) = true)
    (n_l_beside : PySem.W.nsIn K mainGlobals "_law_beside" = some (some (.ref a_l_beside)))
    (l_l_beside : K.lookup a_l_beside = some ⟨oc_l_beside, od_l_beside, .func (PySem.W.fnOf "_law_beside" "_law_beside" (defArgs s_l_beside) (defBody s_l_beside) (defScope s_l_beside) .none kV_l_beside dc_l_beside pm_l_beside an_l_beside cd_l_beside ct_l_beside), sl_l_beside⟩)
    (c_l_beside : PySem.W.codeIn K cd_l_beside "_law_beside" = true)
    (p_l_beside : PySem.W.keepIn K (.ref a_l_beside) = true)
    (n_l_at : PySem.W.nsIn K mainGlobals "_law_at" = some (some (.ref a_l_at)))
    (l_l_at : K.lookup a_l_at = some ⟨oc_l_at, od_l_at, .func (PySem.W.fnOf "_law_at" "_law_at" (defArgs s_l_at) (defBody s_l_at) (defScope s_l_at) .none kV_l_at dc_l_at pm_l_at an_l_at cd_l_at ct_l_at), sl_l_at⟩)
    (c_l_at : PySem.W.codeIn K cd_l_at "_law_at" = true)
    (p_l_at : PySem.W.keepIn K (.ref a_l_at) = true)
    (n_l_due : PySem.W.nsIn K mainGlobals "_law_due" = some (some (.ref a_l_due)))
    (l_l_due : K.lookup a_l_due = some ⟨oc_l_due, od_l_due, .func (PySem.W.fnOf "_law_due" "_law_due" (defArgs s_l_due) (defBody s_l_due) (defScope s_l_due) .none kV_l_due dc_l_due pm_l_due an_l_due cd_l_due ct_l_due), sl_l_due⟩)
    (c_l_due : PySem.W.codeIn K cd_l_due "_law_due" = true)
    (p_l_due : PySem.W.keepIn K (.ref a_l_due) = true)
    (n_l_with : PySem.W.nsIn K mainGlobals "_law_with" = some (some (.ref a_l_with)))
    (l_l_with : K.lookup a_l_with = some ⟨oc_l_with, od_l_with, .func (PySem.W.fnOf "_law_with" "_law_with" (defArgs s_l_with) (defBody s_l_with) (defScope s_l_with) .none kV_l_with dc_l_with pm_l_with an_l_with cd_l_with ct_l_with), sl_l_with⟩)
    (c_l_with : PySem.W.codeIn K cd_l_with "_law_with" = true)
    (p_l_with : PySem.W.keepIn K (.ref a_l_with) = true)
    (n_l_is_nought : PySem.W.nsIn K mainGlobals "_law_is_nought" = some (some (.ref a_l_is_nought)))
    (l_l_is_nought : K.lookup a_l_is_nought = some ⟨oc_l_is_nought, od_l_is_nought, .func (PySem.W.fnOf "_law_is_nought" "_law_is_nought" (defArgs s_l_is_nought) (defBody s_l_is_nought) (defScope s_l_is_nought) .none kV_l_is_nought dc_l_is_nought pm_l_is_nought an_l_is_nought cd_l_is_nought ct_l_is_nought), sl_l_is_nought⟩)
    (c_l_is_nought : PySem.W.codeIn K cd_l_is_nought "_law_is_nought" = true)
    (p_l_is_nought : PySem.W.keepIn K (.ref a_l_is_nought) = true)
    (n_l_whole_right : PySem.W.nsIn K mainGlobals "_law_whole_right" = some (some (.ref a_l_whole_right)))
    (l_l_whole_right : K.lookup a_l_whole_right = some ⟨oc_l_whole_right, od_l_whole_right, .func (PySem.W.fnOf "_law_whole_right" "_law_whole_right" (defArgs s_l_whole_right) (defBody s_l_whole_right) (defScope s_l_whole_right) .none kV_l_whole_right dc_l_whole_right pm_l_whole_right an_l_whole_right cd_l_whole_right ct_l_whole_right), sl_l_whole_right⟩)
    (c_l_whole_right : PySem.W.codeIn K cd_l_whole_right "_law_whole_right" = true)
    (p_l_whole_right : PySem.W.keepIn K (.ref a_l_whole_right) = true)
    (n_law : PySem.W.nsIn K mainGlobals "law" = some (some (.ref a_law)))
    (l_law : K.lookup a_law = some ⟨oc_law, od_law, .func (PySem.W.fnOf "law" "law" (defArgs s_law) (defBody s_law) (defScope s_law) .none kV_law dc_law pm_law an_law cd_law ct_law), sl_law⟩)
    (c_law : PySem.W.codeIn K cd_law "law" = true)
    (p_law : PySem.W.keepIn K (.ref a_law) = true)
    (n_Bar : PySem.W.nsIn K mainGlobals "Bar" = some (some (.ref C_Bar)))
    (pg_Bar : PySem.W.plainGet K C_Bar Str.empty = true)
    (hd_Bar : PySem.W.hasDictIn K C_Bar = true)
    (po_Bar : PySem.W.plainOver K C_Bar = true)
    (sa_Bar : PySem.W.findIn K (.ref C_Bar) "__setattr__" = some (some (.builtin "object.__setattr__")))
    (mk_Bar : PySem.W.makesIn K C_Bar = true)
    (kc_Bar : PySem.W.keepIn K (.ref C_Bar) = true)
    (nf_Bar_a : PySem.W.findIn K (.ref C_Bar) "a" = some none)
    (nf_Bar_b : PySem.W.findIn K (.ref C_Bar) "b" = some none)
    (nf_Bar_c : PySem.W.findIn K (.ref C_Bar) "c" = some none)
    (nf_Bar_length : PySem.W.findIn K (.ref C_Bar) "length" = some none)
    (nf_Bar_least : PySem.W.findIn K (.ref C_Bar) "least" = some none)
    (nf_Bar_greatest : PySem.W.findIn K (.ref C_Bar) "greatest" = some none)
    (n_Bar_init : PySem.W.findIn K (.ref C_Bar) "__init__" = some (some (.ref a_Bar_init)))
    (i_Bar_init : PySem.W.isFn K (.ref a_Bar_init) = true)
    (l_Bar_init : K.lookup a_Bar_init = some ⟨oc_Bar_init, od_Bar_init, .func (PySem.W.fnOf "__init__" "Bar.__init__" (defArgs s_Bar_init) (defBody s_Bar_init) (defScope s_Bar_init) .none kV_Bar_init dc_Bar_init pm_Bar_init an_Bar_init cd_Bar_init ct_Bar_init), sl_Bar_init⟩)
    (c_Bar_init : PySem.W.codeIn K cd_Bar_init "Bar.__init__" = true)
    (p_Bar_init : PySem.W.keepIn K (.ref a_Bar_init) = true)
    (n_Bar_eq : PySem.W.findIn K (.ref C_Bar) "__eq__" = some (some (.ref a_Bar_eq)))
    (i_Bar_eq : PySem.W.isFn K (.ref a_Bar_eq) = true)
    (l_Bar_eq : K.lookup a_Bar_eq = some ⟨oc_Bar_eq, od_Bar_eq, .func (PySem.W.fnOf "__eq__" "Bar.__eq__" (defArgs s_Bar_eq) (defBody s_Bar_eq) (defScope s_Bar_eq) .none kV_Bar_eq dc_Bar_eq pm_Bar_eq an_Bar_eq cd_Bar_eq ct_Bar_eq), sl_Bar_eq⟩)
    (c_Bar_eq : PySem.W.codeIn K cd_Bar_eq "Bar.__eq__" = true)
    (p_Bar_eq : PySem.W.keepIn K (.ref a_Bar_eq) = true)
    (ea_NoneType_Bar : PySem.W.notFirst K C_Bar (.type "NoneType") = true)
    (eb_NoneType_Bar : PySem.W.subIn K (.ref C_Bar) (.type "NoneType") = some false)
    (ea_bool_Bar : PySem.W.notFirst K C_Bar (.type "bool") = true)
    (eb_bool_Bar : PySem.W.subIn K (.ref C_Bar) (.type "bool") = some false)
    (ea_int_Bar : PySem.W.notFirst K C_Bar (.type "int") = true)
    (eb_int_Bar : PySem.W.subIn K (.ref C_Bar) (.type "int") = some false)
    (ea_str_Bar : PySem.W.notFirst K C_Bar (.type "str") = true)
    (eb_str_Bar : PySem.W.subIn K (.ref C_Bar) (.type "str") = some false)
    (ea_list_Bar : PySem.W.notFirst K C_Bar (.type "list") = true)
    (eb_list_Bar : PySem.W.subIn K (.ref C_Bar) (.type "list") = some false)
    (ea_tuple_Bar : PySem.W.notFirst K C_Bar (.type "tuple") = true)
    (eb_tuple_Bar : PySem.W.subIn K (.ref C_Bar) (.type "tuple") = some false)
    (ea_dict_Bar : PySem.W.notFirst K C_Bar (.type "dict") = true)
    (eb_dict_Bar : PySem.W.subIn K (.ref C_Bar) (.type "dict") = some false)
    (na_Bar : PySem.W.findIn K (.ref C_Bar) "__ne__" = some (some (.builtin "object.__ne__")))
    (nb_Bar : PySem.W.mroIn K C_Bar (.type "object") = some true)
    (n_Web : PySem.W.nsIn K mainGlobals "Web" = some (some (.ref C_Web)))
    (pg_Web : PySem.W.plainGet K C_Web Str.empty = true)
    (hd_Web : PySem.W.hasDictIn K C_Web = true)
    (po_Web : PySem.W.plainOver K C_Web = true)
    (sa_Web : PySem.W.findIn K (.ref C_Web) "__setattr__" = some (some (.builtin "object.__setattr__")))
    (mk_Web : PySem.W.makesIn K C_Web = true)
    (kc_Web : PySem.W.keepIn K (.ref C_Web) = true)
    (nf_Web_rods : PySem.W.findIn K (.ref C_Web) "rods" = some none)
    (nf_Web_bars : PySem.W.findIn K (.ref C_Web) "bars" = some none)
    (nf_Web_held : PySem.W.findIn K (.ref C_Web) "_held" = some none)
    (n_Web_init : PySem.W.findIn K (.ref C_Web) "__init__" = some (some (.ref a_Web_init)))
    (i_Web_init : PySem.W.isFn K (.ref a_Web_init) = true)
    (l_Web_init : K.lookup a_Web_init = some ⟨oc_Web_init, od_Web_init, .func (PySem.W.fnOf "__init__" "Web.__init__" (defArgs s_Web_init) (defBody s_Web_init) (defScope s_Web_init) .none kV_Web_init dc_Web_init pm_Web_init an_Web_init cd_Web_init ct_Web_init), sl_Web_init⟩)
    (c_Web_init : PySem.W.codeIn K cd_Web_init "Web.__init__" = true)
    (p_Web_init : PySem.W.keepIn K (.ref a_Web_init) = true)
    (n_Web_held : PySem.W.findIn K (.ref C_Web) "held" = some (some (.ref a_Web_held)))
    (i_Web_held : PySem.W.isFn K (.ref a_Web_held) = true)
    (l_Web_held : K.lookup a_Web_held = some ⟨oc_Web_held, od_Web_held, .func (PySem.W.fnOf "held" "Web.held" (defArgs s_Web_held) (defBody s_Web_held) (defScope s_Web_held) .none kV_Web_held dc_Web_held pm_Web_held an_Web_held cd_Web_held ct_Web_held), sl_Web_held⟩)
    (c_Web_held : PySem.W.codeIn K cd_Web_held "Web.held" = true)
    (p_Web_held : PySem.W.keepIn K (.ref a_Web_held) = true)
    (n_Web_hanging : PySem.W.findIn K (.ref C_Web) "hanging" = some (some (.ref a_Web_hanging)))
    (i_Web_hanging : PySem.W.isFn K (.ref a_Web_hanging) = true)
    (l_Web_hanging : K.lookup a_Web_hanging = some ⟨oc_Web_hanging, od_Web_hanging, .func (PySem.W.fnOf "hanging" "Web.hanging" (defArgs s_Web_hanging) (defBody s_Web_hanging) (defScope s_Web_hanging) .none kV_Web_hanging dc_Web_hanging pm_Web_hanging an_Web_hanging cd_Web_hanging ct_Web_hanging), sl_Web_hanging⟩)
    (c_Web_hanging : PySem.W.codeIn K cd_Web_hanging "Web.hanging" = true)
    (p_Web_hanging : PySem.W.keepIn K (.ref a_Web_hanging) = true)
    (n_Web_eq : PySem.W.findIn K (.ref C_Web) "__eq__" = some (some (.ref a_Web_eq)))
    (i_Web_eq : PySem.W.isFn K (.ref a_Web_eq) = true)
    (l_Web_eq : K.lookup a_Web_eq = some ⟨oc_Web_eq, od_Web_eq, .func (PySem.W.fnOf "__eq__" "Web.__eq__" (defArgs s_Web_eq) (defBody s_Web_eq) (defScope s_Web_eq) .none kV_Web_eq dc_Web_eq pm_Web_eq an_Web_eq cd_Web_eq ct_Web_eq), sl_Web_eq⟩)
    (c_Web_eq : PySem.W.codeIn K cd_Web_eq "Web.__eq__" = true)
    (p_Web_eq : PySem.W.keepIn K (.ref a_Web_eq) = true)
    (ea_NoneType_Web : PySem.W.notFirst K C_Web (.type "NoneType") = true)
    (eb_NoneType_Web : PySem.W.subIn K (.ref C_Web) (.type "NoneType") = some false)
    (ea_bool_Web : PySem.W.notFirst K C_Web (.type "bool") = true)
    (eb_bool_Web : PySem.W.subIn K (.ref C_Web) (.type "bool") = some false)
    (ea_int_Web : PySem.W.notFirst K C_Web (.type "int") = true)
    (eb_int_Web : PySem.W.subIn K (.ref C_Web) (.type "int") = some false)
    (ea_str_Web : PySem.W.notFirst K C_Web (.type "str") = true)
    (eb_str_Web : PySem.W.subIn K (.ref C_Web) (.type "str") = some false)
    (ea_list_Web : PySem.W.notFirst K C_Web (.type "list") = true)
    (eb_list_Web : PySem.W.subIn K (.ref C_Web) (.type "list") = some false)
    (ea_tuple_Web : PySem.W.notFirst K C_Web (.type "tuple") = true)
    (eb_tuple_Web : PySem.W.subIn K (.ref C_Web) (.type "tuple") = some false)
    (ea_dict_Web : PySem.W.notFirst K C_Web (.type "dict") = true)
    (eb_dict_Web : PySem.W.subIn K (.ref C_Web) (.type "dict") = some false)
    (na_Web : PySem.W.findIn K (.ref C_Web) "__ne__" = some (some (.builtin "object.__ne__")))
    (nb_Web : PySem.W.mroIn K C_Web (.type "object") = some true)
    (n_Widening : PySem.W.nsIn K mainGlobals "Widening" = some (some (.ref C_Widening)))
    (pg_Widening : PySem.W.plainGet K C_Widening Str.empty = true)
    (hd_Widening : PySem.W.hasDictIn K C_Widening = true)
    (po_Widening : PySem.W.plainOver K C_Widening = true)
    (sa_Widening : PySem.W.findIn K (.ref C_Widening) "__setattr__" = some (some (.builtin "object.__setattr__")))
    (mk_Widening : PySem.W.makesIn K C_Widening = true)
    (kc_Widening : PySem.W.keepIn K (.ref C_Widening) = true)
    (nf_Widening_least : PySem.W.findIn K (.ref C_Widening) "least" = some none)
    (nf_Widening_greatest : PySem.W.findIn K (.ref C_Widening) "greatest" = some none)
    (nf_Widening_is_least : PySem.W.findIn K (.ref C_Widening) "is_least" = some none)
    (nf_Widening_is_greatest : PySem.W.findIn K (.ref C_Widening) "is_greatest" = some none)
    (n_Widening_init : PySem.W.findIn K (.ref C_Widening) "__init__" = some (some (.ref a_Widening_init)))
    (i_Widening_init : PySem.W.isFn K (.ref a_Widening_init) = true)
    (l_Widening_init : K.lookup a_Widening_init = some ⟨oc_Widening_init, od_Widening_init, .func (PySem.W.fnOf "__init__" "Widening.__init__" (defArgs s_Widening_init) (defBody s_Widening_init) (defScope s_Widening_init) .none kV_Widening_init dc_Widening_init pm_Widening_init an_Widening_init cd_Widening_init ct_Widening_init), sl_Widening_init⟩)
    (c_Widening_init : PySem.W.codeIn K cd_Widening_init "Widening.__init__" = true)
    (p_Widening_init : PySem.W.keepIn K (.ref a_Widening_init) = true)
    (n_Widening_eq : PySem.W.findIn K (.ref C_Widening) "__eq__" = some (some (.ref a_Widening_eq)))
    (i_Widening_eq : PySem.W.isFn K (.ref a_Widening_eq) = true)
    (l_Widening_eq : K.lookup a_Widening_eq = some ⟨oc_Widening_eq, od_Widening_eq, .func (PySem.W.fnOf "__eq__" "Widening.__eq__" (defArgs s_Widening_eq) (defBody s_Widening_eq) (defScope s_Widening_eq) .none kV_Widening_eq dc_Widening_eq pm_Widening_eq an_Widening_eq cd_Widening_eq ct_Widening_eq), sl_Widening_eq⟩)
    (c_Widening_eq : PySem.W.codeIn K cd_Widening_eq "Widening.__eq__" = true)
    (p_Widening_eq : PySem.W.keepIn K (.ref a_Widening_eq) = true)
    (ea_NoneType_Widening : PySem.W.notFirst K C_Widening (.type "NoneType") = true)
    (eb_NoneType_Widening : PySem.W.subIn K (.ref C_Widening) (.type "NoneType") = some false)
    (ea_bool_Widening : PySem.W.notFirst K C_Widening (.type "bool") = true)
    (eb_bool_Widening : PySem.W.subIn K (.ref C_Widening) (.type "bool") = some false)
    (ea_int_Widening : PySem.W.notFirst K C_Widening (.type "int") = true)
    (eb_int_Widening : PySem.W.subIn K (.ref C_Widening) (.type "int") = some false)
    (ea_str_Widening : PySem.W.notFirst K C_Widening (.type "str") = true)
    (eb_str_Widening : PySem.W.subIn K (.ref C_Widening) (.type "str") = some false)
    (ea_list_Widening : PySem.W.notFirst K C_Widening (.type "list") = true)
    (eb_list_Widening : PySem.W.subIn K (.ref C_Widening) (.type "list") = some false)
    (ea_tuple_Widening : PySem.W.notFirst K C_Widening (.type "tuple") = true)
    (eb_tuple_Widening : PySem.W.subIn K (.ref C_Widening) (.type "tuple") = some false)
    (ea_dict_Widening : PySem.W.notFirst K C_Widening (.type "dict") = true)
    (eb_dict_Widening : PySem.W.subIn K (.ref C_Widening) (.type "dict") = some false)
    (na_Widening : PySem.W.findIn K (.ref C_Widening) "__ne__" = some (some (.builtin "object.__ne__")))
    (nb_Widening : PySem.W.mroIn K C_Widening (.type "object") = some true)
    (nfst_Bar_Bar : PySem.W.notFirst K C_Bar (.ref C_Bar) = true)
    (nfst_Bar_Web : PySem.W.notFirst K C_Bar (.ref C_Web) = true)
    (dc_Bar_Web : C_Bar ≠ C_Web)
    (nfst_Bar_Widening : PySem.W.notFirst K C_Bar (.ref C_Widening) = true)
    (dc_Bar_Widening : C_Bar ≠ C_Widening)
    (nfst_Web_Bar : PySem.W.notFirst K C_Web (.ref C_Bar) = true)
    (nfst_Web_Web : PySem.W.notFirst K C_Web (.ref C_Web) = true)
    (nfst_Web_Widening : PySem.W.notFirst K C_Web (.ref C_Widening) = true)
    (dc_Web_Widening : C_Web ≠ C_Widening)
    (nfst_Widening_Bar : PySem.W.notFirst K C_Widening (.ref C_Bar) = true)
    (nfst_Widening_Web : PySem.W.notFirst K C_Widening (.ref C_Web) = true)
    (nfst_Widening_Widening : PySem.W.notFirst K C_Widening (.ref C_Widening) = true)
    (n_HooksError : PySem.W.nsIn K mainGlobals "HooksError" = some (some (.ref C_HooksError)))
    (be_HooksError : PySem.W.subIn K (.ref C_HooksError) (.type "BaseException") = some true)
    (ty_HooksError : PySem.W.typeIn K (.ref C_HooksError) = some (.type "type"))
    (hd_HooksError : PySem.W.hasDictIn K C_HooksError = true)
    (n_BadCount : PySem.W.nsIn K mainGlobals "BadCount" = some (some (.ref C_BadCount)))
    (x_BadCount : K.lookup C_BadCount = some (excClassObj nm_BadCount q_BadCount C_BadCount N_BadCount bs_BadCount [.ref C_HooksError, .type "ValueError", .type "Exception", .type "BaseException", .type "object"] true sn_BadCount sub_BadCount ab_BadCount col_BadCount dd_BadCount u0_BadCount u1_BadCount u2_BadCount u3_BadCount u5_BadCount "ValueError.__new__"))
    (sa_BadCount : PySem.W.findIn K (.ref C_BadCount) "__setattr__" = some (some (.builtin "object.__setattr__")))
    (ga_BadCount : PySem.W.findIn K (.ref C_BadCount) "__getattribute__" = some (some (.builtin "BaseException.__getattribute__")))
    (gg_BadCount : PySem.W.findIn K (.ref C_BadCount) "__getattr__" = some none)
    (kc_BadCount : PySem.W.keepIn K (.ref C_BadCount) = true)
    (be_BadCount : PySem.W.subIn K (.ref C_BadCount) (.type "BaseException") = some true)
    (ty_BadCount : PySem.W.typeIn K (.ref C_BadCount) = some (.type "type"))
    (hd_BadCount : PySem.W.hasDictIn K C_BadCount = true)
    (cl_BadCount : PySem.W.findIn K (.ref C_BadCount) "__class__" = some (some (.builtin "object.__class__")))
    (ob_BadCount : PySem.W.mroIn K C_BadCount (.type "object") = some true)
    (sb_BadCount_HooksError : PySem.W.subIn K (.ref C_BadCount) (.ref C_HooksError) = some true)
    (n_BadCount_init : PySem.W.findIn K (.ref C_BadCount) "__init__" = some (some (.ref a_BadCount_init)))
    (t_BadCount_init : PySem.W.typeIn K (.ref a_BadCount_init) = some (.type "function"))
    (l_BadCount_init : K.lookup a_BadCount_init = some ⟨oc_BadCount_init, od_BadCount_init, .func (PySem.W.fnOf "__init__" "BadCount.__init__" (defArgs s_BadCount_init) (defBody s_BadCount_init) (defScope s_BadCount_init) .none kV_BadCount_init dc_BadCount_init pm_BadCount_init an_BadCount_init cd_BadCount_init ct_BadCount_init), sl_BadCount_init⟩)
    (c_BadCount_init : PySem.W.codeIn K cd_BadCount_init "BadCount.__init__" = true)
    (p_BadCount_init : PySem.W.keepIn K (.ref a_BadCount_init) = true)
    (nf_BadCount_what : PySem.W.findIn K (.ref C_BadCount) "what" = some none)
    (nf_BadCount_count : PySem.W.findIn K (.ref C_BadCount) "count" = some none)
    (n_NoRod : PySem.W.nsIn K mainGlobals "NoRod" = some (some (.ref C_NoRod)))
    (x_NoRod : K.lookup C_NoRod = some (excClassObj nm_NoRod q_NoRod C_NoRod N_NoRod bs_NoRod [.ref C_HooksError, .type "ValueError", .type "Exception", .type "BaseException", .type "object"] true sn_NoRod sub_NoRod ab_NoRod col_NoRod dd_NoRod u0_NoRod u1_NoRod u2_NoRod u3_NoRod u5_NoRod "ValueError.__new__"))
    (sa_NoRod : PySem.W.findIn K (.ref C_NoRod) "__setattr__" = some (some (.builtin "object.__setattr__")))
    (ga_NoRod : PySem.W.findIn K (.ref C_NoRod) "__getattribute__" = some (some (.builtin "BaseException.__getattribute__")))
    (gg_NoRod : PySem.W.findIn K (.ref C_NoRod) "__getattr__" = some none)
    (kc_NoRod : PySem.W.keepIn K (.ref C_NoRod) = true)
    (be_NoRod : PySem.W.subIn K (.ref C_NoRod) (.type "BaseException") = some true)
    (ty_NoRod : PySem.W.typeIn K (.ref C_NoRod) = some (.type "type"))
    (hd_NoRod : PySem.W.hasDictIn K C_NoRod = true)
    (cl_NoRod : PySem.W.findIn K (.ref C_NoRod) "__class__" = some (some (.builtin "object.__class__")))
    (ob_NoRod : PySem.W.mroIn K C_NoRod (.type "object") = some true)
    (sb_NoRod_HooksError : PySem.W.subIn K (.ref C_NoRod) (.ref C_HooksError) = some true)
    (n_NoRod_init : PySem.W.findIn K (.ref C_NoRod) "__init__" = some (some (.ref a_NoRod_init)))
    (t_NoRod_init : PySem.W.typeIn K (.ref a_NoRod_init) = some (.type "function"))
    (l_NoRod_init : K.lookup a_NoRod_init = some ⟨oc_NoRod_init, od_NoRod_init, .func (PySem.W.fnOf "__init__" "NoRod.__init__" (defArgs s_NoRod_init) (defBody s_NoRod_init) (defScope s_NoRod_init) .none kV_NoRod_init dc_NoRod_init pm_NoRod_init an_NoRod_init cd_NoRod_init ct_NoRod_init), sl_NoRod_init⟩)
    (c_NoRod_init : PySem.W.codeIn K cd_NoRod_init "NoRod.__init__" = true)
    (p_NoRod_init : PySem.W.keepIn K (.ref a_NoRod_init) = true)
    (nf_NoRod_rod : PySem.W.findIn K (.ref C_NoRod) "rod" = some none)
    (n_SameRod : PySem.W.nsIn K mainGlobals "SameRod" = some (some (.ref C_SameRod)))
    (x_SameRod : K.lookup C_SameRod = some (excClassObj nm_SameRod q_SameRod C_SameRod N_SameRod bs_SameRod [.ref C_HooksError, .type "ValueError", .type "Exception", .type "BaseException", .type "object"] true sn_SameRod sub_SameRod ab_SameRod col_SameRod dd_SameRod u0_SameRod u1_SameRod u2_SameRod u3_SameRod u5_SameRod "ValueError.__new__"))
    (sa_SameRod : PySem.W.findIn K (.ref C_SameRod) "__setattr__" = some (some (.builtin "object.__setattr__")))
    (ga_SameRod : PySem.W.findIn K (.ref C_SameRod) "__getattribute__" = some (some (.builtin "BaseException.__getattribute__")))
    (gg_SameRod : PySem.W.findIn K (.ref C_SameRod) "__getattr__" = some none)
    (kc_SameRod : PySem.W.keepIn K (.ref C_SameRod) = true)
    (be_SameRod : PySem.W.subIn K (.ref C_SameRod) (.type "BaseException") = some true)
    (ty_SameRod : PySem.W.typeIn K (.ref C_SameRod) = some (.type "type"))
    (hd_SameRod : PySem.W.hasDictIn K C_SameRod = true)
    (cl_SameRod : PySem.W.findIn K (.ref C_SameRod) "__class__" = some (some (.builtin "object.__class__")))
    (ob_SameRod : PySem.W.mroIn K C_SameRod (.type "object") = some true)
    (sb_SameRod_HooksError : PySem.W.subIn K (.ref C_SameRod) (.ref C_HooksError) = some true)
    (n_SameRod_init : PySem.W.findIn K (.ref C_SameRod) "__init__" = some (some (.ref a_SameRod_init)))
    (t_SameRod_init : PySem.W.typeIn K (.ref a_SameRod_init) = some (.type "function"))
    (l_SameRod_init : K.lookup a_SameRod_init = some ⟨oc_SameRod_init, od_SameRod_init, .func (PySem.W.fnOf "__init__" "SameRod.__init__" (defArgs s_SameRod_init) (defBody s_SameRod_init) (defScope s_SameRod_init) .none kV_SameRod_init dc_SameRod_init pm_SameRod_init an_SameRod_init cd_SameRod_init ct_SameRod_init), sl_SameRod_init⟩)
    (c_SameRod_init : PySem.W.codeIn K cd_SameRod_init "SameRod.__init__" = true)
    (p_SameRod_init : PySem.W.keepIn K (.ref a_SameRod_init) = true)
    (nf_SameRod_rod : PySem.W.findIn K (.ref C_SameRod) "rod" = some none)
    (n_BadSpan : PySem.W.nsIn K mainGlobals "BadSpan" = some (some (.ref C_BadSpan)))
    (x_BadSpan : K.lookup C_BadSpan = some (excClassObj nm_BadSpan q_BadSpan C_BadSpan N_BadSpan bs_BadSpan [.ref C_HooksError, .type "ValueError", .type "Exception", .type "BaseException", .type "object"] true sn_BadSpan sub_BadSpan ab_BadSpan col_BadSpan dd_BadSpan u0_BadSpan u1_BadSpan u2_BadSpan u3_BadSpan u5_BadSpan "ValueError.__new__"))
    (sa_BadSpan : PySem.W.findIn K (.ref C_BadSpan) "__setattr__" = some (some (.builtin "object.__setattr__")))
    (ga_BadSpan : PySem.W.findIn K (.ref C_BadSpan) "__getattribute__" = some (some (.builtin "BaseException.__getattribute__")))
    (gg_BadSpan : PySem.W.findIn K (.ref C_BadSpan) "__getattr__" = some none)
    (kc_BadSpan : PySem.W.keepIn K (.ref C_BadSpan) = true)
    (be_BadSpan : PySem.W.subIn K (.ref C_BadSpan) (.type "BaseException") = some true)
    (ty_BadSpan : PySem.W.typeIn K (.ref C_BadSpan) = some (.type "type"))
    (hd_BadSpan : PySem.W.hasDictIn K C_BadSpan = true)
    (cl_BadSpan : PySem.W.findIn K (.ref C_BadSpan) "__class__" = some (some (.builtin "object.__class__")))
    (ob_BadSpan : PySem.W.mroIn K C_BadSpan (.type "object") = some true)
    (sb_BadSpan_HooksError : PySem.W.subIn K (.ref C_BadSpan) (.ref C_HooksError) = some true)
    (n_BadSpan_init : PySem.W.findIn K (.ref C_BadSpan) "__init__" = some (some (.ref a_BadSpan_init)))
    (t_BadSpan_init : PySem.W.typeIn K (.ref a_BadSpan_init) = some (.type "function"))
    (l_BadSpan_init : K.lookup a_BadSpan_init = some ⟨oc_BadSpan_init, od_BadSpan_init, .func (PySem.W.fnOf "__init__" "BadSpan.__init__" (defArgs s_BadSpan_init) (defBody s_BadSpan_init) (defScope s_BadSpan_init) .none kV_BadSpan_init dc_BadSpan_init pm_BadSpan_init an_BadSpan_init cd_BadSpan_init ct_BadSpan_init), sl_BadSpan_init⟩)
    (c_BadSpan_init : PySem.W.codeIn K cd_BadSpan_init "BadSpan.__init__" = true)
    (p_BadSpan_init : PySem.W.keepIn K (.ref a_BadSpan_init) = true)
    (nf_BadSpan_bar : PySem.W.findIn K (.ref C_BadSpan) "bar" = some none)
    (n_NotSquare : PySem.W.nsIn K mainGlobals "NotSquare" = some (some (.ref C_NotSquare)))
    (x_NotSquare : K.lookup C_NotSquare = some (excClassObj nm_NotSquare q_NotSquare C_NotSquare N_NotSquare bs_NotSquare [.ref C_HooksError, .type "ValueError", .type "Exception", .type "BaseException", .type "object"] true sn_NotSquare sub_NotSquare ab_NotSquare col_NotSquare dd_NotSquare u0_NotSquare u1_NotSquare u2_NotSquare u3_NotSquare u5_NotSquare "ValueError.__new__"))
    (sa_NotSquare : PySem.W.findIn K (.ref C_NotSquare) "__setattr__" = some (some (.builtin "object.__setattr__")))
    (ga_NotSquare : PySem.W.findIn K (.ref C_NotSquare) "__getattribute__" = some (some (.builtin "BaseException.__getattribute__")))
    (gg_NotSquare : PySem.W.findIn K (.ref C_NotSquare) "__getattr__" = some none)
    (kc_NotSquare : PySem.W.keepIn K (.ref C_NotSquare) = true)
    (be_NotSquare : PySem.W.subIn K (.ref C_NotSquare) (.type "BaseException") = some true)
    (ty_NotSquare : PySem.W.typeIn K (.ref C_NotSquare) = some (.type "type"))
    (hd_NotSquare : PySem.W.hasDictIn K C_NotSquare = true)
    (cl_NotSquare : PySem.W.findIn K (.ref C_NotSquare) "__class__" = some (some (.builtin "object.__class__")))
    (ob_NotSquare : PySem.W.mroIn K C_NotSquare (.type "object") = some true)
    (sb_NotSquare_HooksError : PySem.W.subIn K (.ref C_NotSquare) (.ref C_HooksError) = some true)
    (n_NotSquare_init : PySem.W.findIn K (.ref C_NotSquare) "__init__" = some (some (.ref a_NotSquare_init)))
    (t_NotSquare_init : PySem.W.typeIn K (.ref a_NotSquare_init) = some (.type "function"))
    (l_NotSquare_init : K.lookup a_NotSquare_init = some ⟨oc_NotSquare_init, od_NotSquare_init, .func (PySem.W.fnOf "__init__" "NotSquare.__init__" (defArgs s_NotSquare_init) (defBody s_NotSquare_init) (defScope s_NotSquare_init) .none kV_NotSquare_init dc_NotSquare_init pm_NotSquare_init an_NotSquare_init cd_NotSquare_init ct_NotSquare_init), sl_NotSquare_init⟩)
    (c_NotSquare_init : PySem.W.codeIn K cd_NotSquare_init "NotSquare.__init__" = true)
    (p_NotSquare_init : PySem.W.keepIn K (.ref a_NotSquare_init) = true)
    (nf_NotSquare_bars : PySem.W.findIn K (.ref C_NotSquare) "bars" = some none)
    (nf_NotSquare_wanted : PySem.W.findIn K (.ref C_NotSquare) "wanted" = some none)
    (n_Loose : PySem.W.nsIn K mainGlobals "Loose" = some (some (.ref C_Loose)))
    (x_Loose : K.lookup C_Loose = some (excClassObj nm_Loose q_Loose C_Loose N_Loose bs_Loose [.ref C_HooksError, .type "ValueError", .type "Exception", .type "BaseException", .type "object"] true sn_Loose sub_Loose ab_Loose col_Loose dd_Loose u0_Loose u1_Loose u2_Loose u3_Loose u5_Loose "ValueError.__new__"))
    (sa_Loose : PySem.W.findIn K (.ref C_Loose) "__setattr__" = some (some (.builtin "object.__setattr__")))
    (ga_Loose : PySem.W.findIn K (.ref C_Loose) "__getattribute__" = some (some (.builtin "BaseException.__getattribute__")))
    (gg_Loose : PySem.W.findIn K (.ref C_Loose) "__getattr__" = some none)
    (kc_Loose : PySem.W.keepIn K (.ref C_Loose) = true)
    (be_Loose : PySem.W.subIn K (.ref C_Loose) (.type "BaseException") = some true)
    (ty_Loose : PySem.W.typeIn K (.ref C_Loose) = some (.type "type"))
    (hd_Loose : PySem.W.hasDictIn K C_Loose = true)
    (cl_Loose : PySem.W.findIn K (.ref C_Loose) "__class__" = some (some (.builtin "object.__class__")))
    (ob_Loose : PySem.W.mroIn K C_Loose (.type "object") = some true)
    (xi_Loose : PySem.W.excIn K C_Loose [.type "ValueError", .type "Exception", .type "BaseException", .type "object"] "ValueError.__new__" = true)
    (ss_Loose : PySem.W.subIn K (.ref C_Loose) (.ref C_Loose) = some true)
    (sb_Loose_HooksError : PySem.W.subIn K (.ref C_Loose) (.ref C_HooksError) = some true)
    (ci_Widening : PySem.W.findIn K (.ref C_Widening) "__class__" = some (some (.builtin "object.__class__")))
    (z_abs : PySem.W.nsIn K mainGlobals "abs" = some none)
    (z_len : PySem.W.nsIn K mainGlobals "len" = some none)
    (z_range : PySem.W.nsIn K mainGlobals "range" = some none)
    (z_tuple : PySem.W.nsIn K mainGlobals "tuple" = some none)
    (z_list : PySem.W.nsIn K mainGlobals "list" = some none)
    (z_dict : PySem.W.nsIn K mainGlobals "dict" = some none)
    (z_sorted : PySem.W.nsIn K mainGlobals "sorted" = some none)
    (z_enumerate : PySem.W.nsIn K mainGlobals "enumerate" = some none)
    (z_zip : PySem.W.nsIn K mainGlobals "zip" = some none)
    (z_min : PySem.W.nsIn K mainGlobals "min" = some none)
    (z_max : PySem.W.nsIn K mainGlobals "max" = some none)
    (z_all : PySem.W.nsIn K mainGlobals "all" = some none)
    (z_any : PySem.W.nsIn K mainGlobals "any" = some none)
    (z_int : PySem.W.nsIn K mainGlobals "int" = some none)
    (z_isinstance : PySem.W.nsIn K mainGlobals "isinstance" = some none)
    (z_type : PySem.W.nsIn K mainGlobals "type" = some none)
    (z_set : PySem.W.nsIn K mainGlobals "set" = some none)
    (z_sum : PySem.W.nsIn K mainGlobals "sum" = some none)
    (z_bool : PySem.W.nsIn K mainGlobals "bool" = some none)
    (v_gcd : PySem.W.nsIn K mainGlobals "gcd" = some (some (.builtin "math.gcd")))
    (v_LEAST_RODS : PySem.W.nsIn K mainGlobals "LEAST_RODS" = some (some (.int 3 t_LEAST_RODS)))
    (v_MOST_RODS : PySem.W.nsIn K mainGlobals "MOST_RODS" = some (some (.int 10 t_MOST_RODS)))
    (v_MOST_BARS : PySem.W.nsIn K mainGlobals "MOST_BARS" = some (some (.int 8 t_MOST_BARS)))
    (v_MOST_HEIGHT : PySem.W.nsIn K mainGlobals "MOST_HEIGHT" = some (some (.int 1000000 t_MOST_HEIGHT)))
    (v_MOST_LENGTH : PySem.W.nsIn K mainGlobals "MOST_LENGTH" = some (some (.int 1000000 t_MOST_LENGTH)))
    : Tx K mg := {
  a_divisor := a_divisor,
  fd_divisor := _,
  F_divisor := fun_mk (st := s_divisor) l_divisor c_divisor p_divisor,
  b_divisor := (fun_mk (st := s_divisor) l_divisor c_divisor p_divisor).binds (ps := ["numbers"]) fun _ _ _ _ _ _ us hl => match us, hl with | [_], _ => rfl,
  m_divisor := PySem.W.mg_of X G n_divisor,
  a_lowest := a_lowest,
  fd_lowest := _,
  F_lowest := fun_mk (st := s_lowest) l_lowest c_lowest p_lowest,
  b_lowest := (fun_mk (st := s_lowest) l_lowest c_lowest p_lowest).binds (ps := ["tops", "bottom"]) fun _ _ _ _ _ _ us hl => match us, hl with | [_, _], _ => rfl,
  m_lowest := PySem.W.mg_of X G n_lowest,
  a_fraction := a_fraction,
  fd_fraction := _,
  F_fraction := fun_mk (st := s_fraction) l_fraction c_fraction p_fraction,
  b_fraction := (fun_mk (st := s_fraction) l_fraction c_fraction p_fraction).binds (ps := ["top", "bottom"]) fun _ _ _ _ _ _ us hl => match us, hl with | [_, _], _ => rfl,
  m_fraction := PySem.W.mg_of X G n_fraction,
  a_is_less := a_is_less,
  fd_is_less := _,
  F_is_less := fun_mk (st := s_is_less) l_is_less c_is_less p_is_less,
  b_is_less := (fun_mk (st := s_is_less) l_is_less c_is_less p_is_less).binds (ps := ["one", "other"]) fun _ _ _ _ _ _ us hl => match us, hl with | [_, _], _ => rfl,
  m_is_less := PySem.W.mg_of X G n_is_less,
  a_corner_rows := a_corner_rows,
  fd_corner_rows := _,
  F_corner_rows := fun_mk (st := s_corner_rows) l_corner_rows c_corner_rows p_corner_rows,
  b_corner_rows := (fun_mk (st := s_corner_rows) l_corner_rows c_corner_rows p_corner_rows).binds (ps := ["web"]) fun _ _ _ _ _ _ us hl => match us, hl with | [_], _ => rfl,
  m_corner_rows := PySem.W.mg_of X G n_corner_rows,
  a_ends := a_ends,
  fd_ends := _,
  F_ends := fun_mk (st := s_ends) l_ends c_ends p_ends,
  b_ends := (fun_mk (st := s_ends) l_ends c_ends p_ends).binds (ps := ["bar"]) fun _ _ _ _ _ _ us hl => match us, hl with | [_], _ => rfl,
  m_ends := PySem.W.mg_of X G n_ends,
  a_spread := a_spread,
  fd_spread := _,
  F_spread := fun_mk (st := s_spread) l_spread c_spread p_spread,
  b_spread := (fun_mk (st := s_spread) l_spread c_spread p_spread).binds (ps := ["choices"]) fun _ _ _ _ _ _ us hl => match us, hl with | [_], _ => rfl,
  m_spread := PySem.W.mg_of X G n_spread,
  a_exchanged := a_exchanged,
  fd_exchanged := _,
  F_exchanged := fun_mk (st := s_exchanged) l_exchanged c_exchanged p_exchanged,
  b_exchanged := (fun_mk (st := s_exchanged) l_exchanged c_exchanged p_exchanged).binds (ps := ["row", "at", "number"]) fun _ _ _ _ _ _ us hl => match us, hl with | [_, _, _], _ => rfl,
  m_exchanged := PySem.W.mg_of X G n_exchanged,
  a_bar_rows := a_bar_rows,
  fd_bar_rows := _,
  F_bar_rows := fun_mk (st := s_bar_rows) l_bar_rows c_bar_rows p_bar_rows,
  b_bar_rows := (fun_mk (st := s_bar_rows) l_bar_rows c_bar_rows p_bar_rows).binds (ps := ["web", "numbers", "parts"]) fun _ _ _ _ _ _ us hl => match us, hl with | [_, _, _], _ => rfl,
  m_bar_rows := PySem.W.mg_of X G n_bar_rows,
  a_determinant_at := a_determinant_at,
  fd_determinant_at := _,
  F_determinant_at := fun_mk (st := s_determinant_at) l_determinant_at c_determinant_at p_determinant_at,
  b_determinant_at := (fun_mk (st := s_determinant_at) l_determinant_at c_determinant_at p_determinant_at).binds (ps := ["web", "numbers", "parts"]) fun _ _ _ _ _ _ us hl => match us, hl with | [_, _, _], _ => rfl,
  m_determinant_at := PySem.W.mg_of X G n_determinant_at,
  a_table := a_table,
  fd_table := _,
  F_table := fun_mk (st := s_table) l_table c_table p_table,
  b_table := (fun_mk (st := s_table) l_table c_table p_table).binds (ps := ["web", "numbers", "parts"]) fun _ _ _ _ _ _ us hl => match us, hl with | [_, _, _], _ => rfl,
  m_table := PySem.W.mg_of X G n_table,
  a_cleared := a_cleared,
  fd_cleared := _,
  F_cleared := fun_mk (st := s_cleared) l_cleared c_cleared p_cleared,
  b_cleared := (fun_mk (st := s_cleared) l_cleared c_cleared p_cleared).binds (ps := ["rows", "width"]) fun _ _ _ _ _ _ us hl => match us, hl with | [_, _], _ => rfl,
  m_cleared := PySem.W.mg_of X G n_cleared,
  a_swapped := a_swapped,
  fd_swapped := _,
  F_swapped := fun_mk (st := s_swapped) l_swapped c_swapped p_swapped,
  b_swapped := (fun_mk (st := s_swapped) l_swapped c_swapped p_swapped).binds (ps := ["rows", "at", "other"]) fun _ _ _ _ _ _ us hl => match us, hl with | [_, _, _], _ => rfl,
  m_swapped := PySem.W.mg_of X G n_swapped,
  a_cleared_of := a_cleared_of,
  fd_cleared_of := _,
  F_cleared_of := fun_mk (st := s_cleared_of) l_cleared_of c_cleared_of p_cleared_of,
  b_cleared_of := (fun_mk (st := s_cleared_of) l_cleared_of c_cleared_of p_cleared_of).binds (ps := ["rows", "at", "column", "shared"]) fun _ _ _ _ _ _ us hl => match us, hl with | [_, _, _, _], _ => rfl,
  m_cleared_of := PySem.W.mg_of X G n_cleared_of,
  a_check_firm := a_check_firm,
  fd_check_firm := _,
  F_check_firm := fun_mk (st := s_check_firm) l_check_firm c_check_firm p_check_firm,
  b_check_firm := (fun_mk (st := s_check_firm) l_check_firm c_check_firm p_check_firm).binds (ps := ["web"]) fun _ _ _ _ _ _ us hl => match us, hl with | [_], _ => rfl,
  m_check_firm := PySem.W.mg_of X G n_check_firm,
  a_corner_determinants := a_corner_determinants,
  fd_corner_determinants := _,
  F_corner_determinants := fun_mk (st := s_corner_determinants) l_corner_determinants c_corner_determinants p_corner_determinants,
  b_corner_determinants := (fun_mk (st := s_corner_determinants) l_corner_determinants c_corner_determinants p_corner_determinants).binds (ps := ["web"]) fun _ _ _ _ _ _ us hl => match us, hl with | [_], _ => rfl,
  m_corner_determinants := PySem.W.mg_of X G n_corner_determinants,
  a_signs_hold := a_signs_hold,
  fd_signs_hold := _,
  F_signs_hold := fun_mk (st := s_signs_hold) l_signs_hold c_signs_hold p_signs_hold,
  b_signs_hold := (fun_mk (st := s_signs_hold) l_signs_hold c_signs_hold p_signs_hold).binds (ps := ["numbers", "inside"]) fun _ _ _ _ _ _ us hl => match us, hl with | [_, _], _ => rfl,
  m_signs_hold := PySem.W.mg_of X G n_signs_hold,
  a_check_has_bar := a_check_has_bar,
  fd_check_has_bar := _,
  F_check_has_bar := fun_mk (st := s_check_has_bar) l_check_has_bar c_check_has_bar p_check_has_bar,
  b_check_has_bar := (fun_mk (st := s_check_has_bar) l_check_has_bar c_check_has_bar p_check_has_bar).binds (ps := ["web", "bar"]) fun _ _ _ _ _ _ us hl => match us, hl with | [_, _], _ => rfl,
  m_check_has_bar := PySem.W.mg_of X G n_check_has_bar,
  a_check_rods := a_check_rods,
  fd_check_rods := _,
  F_check_rods := fun_mk (st := s_check_rods) l_check_rods c_check_rods p_check_rods,
  b_check_rods := (fun_mk (st := s_check_rods) l_check_rods c_check_rods p_check_rods).binds (ps := ["rods", "held"]) fun _ _ _ _ _ _ us hl => match us, hl with | [_, _], _ => rfl,
  m_check_rods := PySem.W.mg_of X G n_check_rods,
  a_check_bars := a_check_bars,
  fd_check_bars := _,
  F_check_bars := fun_mk (st := s_check_bars) l_check_bars c_check_bars p_check_bars,
  b_check_bars := (fun_mk (st := s_check_bars) l_check_bars c_check_bars p_check_bars).binds (ps := ["rods", "held", "bars"]) fun _ _ _ _ _ _ us hl => match us, hl with | [_, _, _], _ => rfl,
  m_check_bars := PySem.W.mg_of X G n_check_bars,
  a_check_bar := a_check_bar,
  fd_check_bar := _,
  F_check_bar := fun_mk (st := s_check_bar) l_check_bar c_check_bar p_check_bar,
  b_check_bar := (fun_mk (st := s_check_bar) l_check_bar c_check_bar p_check_bar).binds (ps := ["rods", "number", "bar"]) fun _ _ _ _ _ _ us hl => match us, hl with | [_, _, _], _ => rfl,
  m_check_bar := PySem.W.mg_of X G n_check_bar,
  a_widen := a_widen,
  fd_widen := _,
  F_widen := fun_mk (st := s_widen) l_widen c_widen p_widen,
  b_widen := (fun_mk (st := s_widen) l_widen c_widen p_widen).binds (ps := ["web", "bar"]) fun _ _ _ _ _ _ us hl => match us, hl with | [_, _], _ => rfl,
  m_widen := PySem.W.mg_of X G n_widen,
  a_other_corners := a_other_corners,
  fd_other_corners := _,
  F_other_corners := fun_mk (st := s_other_corners) l_other_corners c_other_corners p_other_corners,
  b_other_corners := (fun_mk (st := s_other_corners) l_other_corners c_other_corners p_other_corners).binds (ps := ["web", "bar", "number"]) fun _ _ _ _ _ _ us hl => match us, hl with | [_, _, _], _ => rfl,
  m_other_corners := PySem.W.mg_of X G n_other_corners,
  a_firmness_along := a_firmness_along,
  fd_firmness_along := _,
  F_firmness_along := fun_mk (st := s_firmness_along) l_firmness_along c_firmness_along p_firmness_along,
  b_firmness_along := (fun_mk (st := s_firmness_along) l_firmness_along c_firmness_along p_firmness_along).binds (ps := ["web", "bar", "row"]) fun _ _ _ _ _ _ us hl => match us, hl with | [_, _, _], _ => rfl,
  m_firmness_along := PySem.W.mg_of X G n_firmness_along,
  a_root := a_root,
  fd_root := _,
  F_root := fun_mk (st := s_root) l_root c_root p_root,
  b_root := (fun_mk (st := s_root) l_root c_root p_root).binds (ps := ["start", "goal", "here", "there"]) fun _ _ _ _ _ _ us hl => match us, hl with | [_, _, _, _], _ => rfl,
  m_root := PySem.W.mg_of X G n_root,
  a_greater := a_greater,
  fd_greater := _,
  F_greater := fun_mk (st := s_greater) l_greater c_greater p_greater,
  b_greater := (fun_mk (st := s_greater) l_greater c_greater p_greater).binds (ps := ["one", "other"]) fun _ _ _ _ _ _ us hl => match us, hl with | [_, _], _ => rfl,
  m_greater := PySem.W.mg_of X G n_greater,
  a_less := a_less,
  fd_less := _,
  F_less := fun_mk (st := s_less) l_less c_less p_less,
  b_less := (fun_mk (st := s_less) l_less c_less p_less).binds (ps := ["one", "other"]) fun _ _ _ _ _ _ us hl => match us, hl with | [_, _], _ => rfl,
  m_less := PySem.W.mg_of X G n_less,
  a_l_cell_at := a_l_cell_at,
  fd_l_cell_at := _,
  F_l_cell_at := fun_mk (st := s_l_cell_at) l_l_cell_at c_l_cell_at p_l_cell_at,
  b_l_cell_at := (fun_mk (st := s_l_cell_at) l_l_cell_at c_l_cell_at p_l_cell_at).binds (ps := ["_law_script", "_law_k"]) fun _ _ _ _ _ _ us hl => match us, hl with | [_, _], _ => rfl,
  m_l_cell_at := PySem.W.mg_of X G n_l_cell_at,
  a_l_well := a_l_well,
  fd_l_well := _,
  F_l_well := fun_mk (st := s_l_well) l_l_well c_l_well p_l_well,
  b_l_well := (fun_mk (st := s_l_well) l_l_well c_l_well p_l_well).binds (ps := ["_law_cell"]) fun _ _ _ _ _ _ us hl => match us, hl with | [_], _ => rfl,
  m_l_well := PySem.W.mg_of X G n_l_well,
  a_l_draw := a_l_draw,
  fd_l_draw := _,
  F_l_draw := fun_mk (st := s_l_draw) l_l_draw c_l_draw p_l_draw,
  b_l_draw := (fun_mk (st := s_l_draw) l_l_draw c_l_draw p_l_draw).binds (ps := ["_law_well_here", "_law_many"]) fun _ _ _ _ _ _ us hl => match us, hl with | [_, _], _ => rfl,
  m_l_draw := PySem.W.mg_of X G n_l_draw,
  a_l_pick := a_l_pick,
  fd_l_pick := _,
  F_l_pick := fun_mk (st := s_l_pick) l_l_pick c_l_pick p_l_pick,
  b_l_pick := (fun_mk (st := s_l_pick) l_l_pick c_l_pick p_l_pick).binds (ps := ["_law_well_here", "_law_some"]) fun _ _ _ _ _ _ us hl => match us, hl with | [_, _], _ => rfl,
  m_l_pick := PySem.W.mg_of X G n_l_pick,
  a_l_unlike := a_l_unlike,
  fd_l_unlike := _,
  F_l_unlike := fun_mk (st := s_l_unlike) l_l_unlike c_l_unlike p_l_unlike,
  b_l_unlike := (fun_mk (st := s_l_unlike) l_l_unlike c_l_unlike p_l_unlike).binds (ps := ["_law_well_here", "_law_some", "_law_many"]) fun _ _ _ _ _ _ us hl => match us, hl with | [_, _, _], _ => rfl,
  m_l_unlike := PySem.W.mg_of X G n_l_unlike,
  a_l_bar := a_l_bar,
  fd_l_bar := _,
  F_l_bar := fun_mk (st := s_l_bar) l_l_bar c_l_bar p_l_bar,
  b_l_bar := (fun_mk (st := s_l_bar) l_l_bar c_l_bar p_l_bar).binds (ps := ["_law_well_here", "_law_rods", "_law_most"]) fun _ _ _ _ _ _ us hl => match us, hl with | [_, _, _], _ => rfl,
  m_l_bar := PySem.W.mg_of X G n_l_bar,
  a_l_facts := a_l_facts,
  fd_l_facts := _,
  F_l_facts := fun_mk (st := s_l_facts) l_l_facts c_l_facts p_l_facts,
  b_l_facts := (fun_mk (st := s_l_facts) l_l_facts c_l_facts p_l_facts).binds (ps := ["_law_well_here", "_law_most"]) fun _ _ _ _ _ _ us hl => match us, hl with | [_, _], _ => rfl,
  m_l_facts := PySem.W.mg_of X G n_l_facts,
  a_l_made := a_l_made,
  fd_l_made := _,
  F_l_made := fun_mk (st := s_l_made) l_l_made c_l_made p_l_made,
  b_l_made := (fun_mk (st := s_l_made) l_l_made c_l_made p_l_made).binds (ps := ["_law_facts_here"]) fun _ _ _ _ _ _ us hl => match us, hl with | [_], _ => rfl,
  m_l_made := PySem.W.mg_of X G n_l_made,
  a_l_turned := a_l_turned,
  fd_l_turned := _,
  F_l_turned := fun_mk (st := s_l_turned) l_l_turned c_l_turned p_l_turned,
  b_l_turned := (fun_mk (st := s_l_turned) l_l_turned c_l_turned p_l_turned).binds (ps := ["_law_table_here"]) fun _ _ _ _ _ _ us hl => match us, hl with | [_], _ => rfl,
  m_l_turned := PySem.W.mg_of X G n_l_turned,
  a_l_table := a_l_table,
  fd_l_table := _,
  F_l_table := fun_mk (st := s_l_table) l_l_table c_l_table p_l_table,
  b_l_table := (fun_mk (st := s_l_table) l_l_table c_l_table p_l_table).binds (ps := ["_law_facts_here", "_law_numbers", "_law_fine"]) fun _ _ _ _ _ _ us hl => match us, hl with | [_, _, _], _ => rfl,
  m_l_table := PySem.W.mg_of X G n_l_table,
  a_l_tops := a_l_tops,
  fd_l_tops := _,
  F_l_tops := fun_mk (st := s_l_tops) l_l_tops c_l_tops p_l_tops,
  b_l_tops := (fun_mk (st := s_l_tops) l_l_tops c_l_tops p_l_tops).binds (ps := ["_law_facts_here", "_law_numbers", "_law_fine"]) fun _ _ _ _ _ _ us hl => match us, hl with | [_, _, _], _ => rfl,
  m_l_tops := PySem.W.mg_of X G n_l_tops,
  a_l_corners := a_l_corners,
  fd_l_corners := _,
  F_l_corners := fun_mk (st := s_l_corners) l_l_corners c_l_corners p_l_corners,
  b_l_corners := (fun_mk (st := s_l_corners) l_l_corners c_l_corners p_l_corners).binds (ps := ["_law_facts_here"]) fun _ _ _ _ _ _ us hl => match us, hl with | [_], _ => rfl,
  m_l_corners := PySem.W.mg_of X G n_l_corners,
  a_l_is_less := a_l_is_less,
  fd_l_is_less := _,
  F_l_is_less := fun_mk (st := s_l_is_less) l_l_is_less c_l_is_less p_l_is_less,
  b_l_is_less := (fun_mk (st := s_l_is_less) l_l_is_less c_l_is_less p_l_is_less).binds (ps := ["_law_one", "_law_other"]) fun _ _ _ _ _ _ us hl => match us, hl with | [_, _], _ => rfl,
  m_l_is_less := PySem.W.mg_of X G n_l_is_less,
  a_l_lowered := a_l_lowered,
  fd_l_lowered := _,
  F_l_lowered := fun_mk (st := s_l_lowered) l_l_lowered c_l_lowered p_l_lowered,
  b_l_lowered := (fun_mk (st := s_l_lowered) l_l_lowered c_l_lowered p_l_lowered).binds (ps := ["_law_one"]) fun _ _ _ _ _ _ us hl => match us, hl with | [_], _ => rfl,
  m_l_lowered := PySem.W.mg_of X G n_l_lowered,
  a_l_is_sure := a_l_is_sure,
  fd_l_is_sure := _,
  F_l_is_sure := fun_mk (st := s_l_is_sure) l_l_is_sure c_l_is_sure p_l_is_sure,
  b_l_is_sure := (fun_mk (st := s_l_is_sure) l_l_is_sure c_l_is_sure p_l_is_sure).binds (ps := ["_law_facts_here"]) fun _ _ _ _ _ _ us hl => match us, hl with | [_], _ => rfl,
  m_l_is_sure := PySem.W.mg_of X G n_l_is_sure,
  a_l_beside := a_l_beside,
  fd_l_beside := _,
  F_l_beside := fun_mk (st := s_l_beside) l_l_beside c_l_beside p_l_beside,
  b_l_beside := (fun_mk (st := s_l_beside) l_l_beside c_l_beside p_l_beside).binds (ps := ["_law_facts_here", "_law_bar_here"]) fun _ _ _ _ _ _ us hl => match us, hl with | [_, _], _ => rfl,
  m_l_beside := PySem.W.mg_of X G n_l_beside,
  a_l_at := a_l_at,
  fd_l_at := _,
  F_l_at := fun_mk (st := s_l_at) l_l_at c_l_at p_l_at,
  b_l_at := (fun_mk (st := s_l_at) l_l_at c_l_at p_l_at).binds (ps := ["_law_row", "_law_bar_here", "_law_number", "_law_fine"]) fun _ _ _ _ _ _ us hl => match us, hl with | [_, _, _, _], _ => rfl,
  m_l_at := PySem.W.mg_of X G n_l_at,
  a_l_due := a_l_due,
  fd_l_due := _,
  F_l_due := fun_mk (st := s_l_due) l_l_due c_l_due p_l_due,
  b_l_due := (fun_mk (st := s_l_due) l_l_due c_l_due p_l_due).binds (ps := ["_law_facts_here", "_law_bar_here"]) fun _ _ _ _ _ _ us hl => match us, hl with | [_, _], _ => rfl,
  m_l_due := PySem.W.mg_of X G n_l_due,
  a_l_with := a_l_with,
  fd_l_with := _,
  F_l_with := fun_mk (st := s_l_with) l_l_with c_l_with p_l_with,
  b_l_with := (fun_mk (st := s_l_with) l_l_with c_l_with p_l_with).binds (ps := ["_law_facts_here", "_law_bar_here", "_law_least", "_law_greatest"]) fun _ _ _ _ _ _ us hl => match us, hl with | [_, _, _, _], _ => rfl,
  m_l_with := PySem.W.mg_of X G n_l_with,
  a_l_is_nought := a_l_is_nought,
  fd_l_is_nought := _,
  F_l_is_nought := fun_mk (st := s_l_is_nought) l_l_is_nought c_l_is_nought p_l_is_nought,
  b_l_is_nought := (fun_mk (st := s_l_is_nought) l_l_is_nought c_l_is_nought p_l_is_nought).binds (ps := ["_law_facts_here", "_law_bar_here", "_law_place"]) fun _ _ _ _ _ _ us hl => match us, hl with | [_, _, _], _ => rfl,
  m_l_is_nought := PySem.W.mg_of X G n_l_is_nought,
  a_l_whole_right := a_l_whole_right,
  fd_l_whole_right := _,
  F_l_whole_right := fun_mk (st := s_l_whole_right) l_l_whole_right c_l_whole_right p_l_whole_right,
  b_l_whole_right := (fun_mk (st := s_l_whole_right) l_l_whole_right c_l_whole_right p_l_whole_right).binds (ps := ["_law_facts_here", "_law_bar_here", "_law_found"]) fun _ _ _ _ _ _ us hl => match us, hl with | [_, _, _], _ => rfl,
  m_l_whole_right := PySem.W.mg_of X G n_l_whole_right,
  a_law := a_law,
  fd_law := _,
  F_law := fun_mk (st := s_law) l_law c_law p_law,
  b_law := (fun_mk (st := s_law) l_law c_law p_law).binds (ps := ["_law_script"]) fun _ _ _ _ _ _ us hl => match us, hl with | [_], _ => rfl,
  m_law := PySem.W.mg_of X G n_law,
  C_Bar := C_Bar,
  m_Bar := PySem.W.mg_of X G n_Bar,
  c_Bar := ⟨pg_Bar, hd_Bar, po_Bar, sa_Bar⟩,
  mk_Bar := mk_Bar,
  nf_Bar_a := nf_Bar_a,
  nf_Bar_b := nf_Bar_b,
  nf_Bar_c := nf_Bar_c,
  nf_Bar_length := nf_Bar_length,
  nf_Bar_least := nf_Bar_least,
  nf_Bar_greatest := nf_Bar_greatest,
  a_Bar_init := a_Bar_init,
  fd_Bar_init := _,
  F_Bar_init := fun_mk (st := s_Bar_init) l_Bar_init c_Bar_init p_Bar_init,
  b_Bar_init := (fun_mk (st := s_Bar_init) l_Bar_init c_Bar_init p_Bar_init).binds (ps := ["self", "a", "b", "c", "length", "least", "greatest"]) fun _ _ _ _ _ _ us hl => match us, hl with | [_, _, _, _, _, _, _], _ => rfl,
  k_Bar := ⟨mk_Bar, n_Bar_init, i_Bar_init, kc_Bar⟩,
  a_Bar_eq := a_Bar_eq,
  fd_Bar_eq := _,
  F_Bar_eq := fun_mk (st := s_Bar_eq) l_Bar_eq c_Bar_eq p_Bar_eq,
  b_Bar_eq := (fun_mk (st := s_Bar_eq) l_Bar_eq c_Bar_eq p_Bar_eq).binds (ps := ["self", "other"]) fun _ _ _ _ _ _ us hl => match us, hl with | [_, _], _ => rfl,
  M_Bar_eq := ⟨n_Bar_eq, i_Bar_eq, p_Bar_eq⟩,
  ef_Bar := eqFacts_mk ea_NoneType_Bar eb_NoneType_Bar ea_bool_Bar eb_bool_Bar ea_int_Bar eb_int_Bar ea_str_Bar eb_str_Bar ea_list_Bar eb_list_Bar ea_tuple_Bar eb_tuple_Bar ea_dict_Bar eb_dict_Bar,
  ne_Bar := ⟨na_Bar, nb_Bar⟩,
  C_Web := C_Web,
  m_Web := PySem.W.mg_of X G n_Web,
  c_Web := ⟨pg_Web, hd_Web, po_Web, sa_Web⟩,
  mk_Web := mk_Web,
  nf_Web_rods := nf_Web_rods,
  nf_Web_bars := nf_Web_bars,
  nf_Web_held := nf_Web_held,
  a_Web_init := a_Web_init,
  fd_Web_init := _,
  F_Web_init := fun_mk (st := s_Web_init) l_Web_init c_Web_init p_Web_init,
  b_Web_init := (fun_mk (st := s_Web_init) l_Web_init c_Web_init p_Web_init).binds (ps := ["self", "rods", "held", "bars"]) fun _ _ _ _ _ _ us hl => match us, hl with | [_, _, _, _], _ => rfl,
  k_Web := ⟨mk_Web, n_Web_init, i_Web_init, kc_Web⟩,
  a_Web_held := a_Web_held,
  fd_Web_held := _,
  F_Web_held := fun_mk (st := s_Web_held) l_Web_held c_Web_held p_Web_held,
  b_Web_held := (fun_mk (st := s_Web_held) l_Web_held c_Web_held p_Web_held).binds (ps := ["self"]) fun _ _ _ _ _ _ us hl => match us, hl with | [_], _ => rfl,
  M_Web_held := ⟨n_Web_held, i_Web_held, p_Web_held⟩,
  a_Web_hanging := a_Web_hanging,
  fd_Web_hanging := _,
  F_Web_hanging := fun_mk (st := s_Web_hanging) l_Web_hanging c_Web_hanging p_Web_hanging,
  b_Web_hanging := (fun_mk (st := s_Web_hanging) l_Web_hanging c_Web_hanging p_Web_hanging).binds (ps := ["self"]) fun _ _ _ _ _ _ us hl => match us, hl with | [_], _ => rfl,
  M_Web_hanging := ⟨n_Web_hanging, i_Web_hanging, p_Web_hanging⟩,
  a_Web_eq := a_Web_eq,
  fd_Web_eq := _,
  F_Web_eq := fun_mk (st := s_Web_eq) l_Web_eq c_Web_eq p_Web_eq,
  b_Web_eq := (fun_mk (st := s_Web_eq) l_Web_eq c_Web_eq p_Web_eq).binds (ps := ["self", "other"]) fun _ _ _ _ _ _ us hl => match us, hl with | [_, _], _ => rfl,
  M_Web_eq := ⟨n_Web_eq, i_Web_eq, p_Web_eq⟩,
  ef_Web := eqFacts_mk ea_NoneType_Web eb_NoneType_Web ea_bool_Web eb_bool_Web ea_int_Web eb_int_Web ea_str_Web eb_str_Web ea_list_Web eb_list_Web ea_tuple_Web eb_tuple_Web ea_dict_Web eb_dict_Web,
  ne_Web := ⟨na_Web, nb_Web⟩,
  C_Widening := C_Widening,
  m_Widening := PySem.W.mg_of X G n_Widening,
  c_Widening := ⟨pg_Widening, hd_Widening, po_Widening, sa_Widening⟩,
  mk_Widening := mk_Widening,
  nf_Widening_least := nf_Widening_least,
  nf_Widening_greatest := nf_Widening_greatest,
  nf_Widening_is_least := nf_Widening_is_least,
  nf_Widening_is_greatest := nf_Widening_is_greatest,
  a_Widening_init := a_Widening_init,
  fd_Widening_init := _,
  F_Widening_init := fun_mk (st := s_Widening_init) l_Widening_init c_Widening_init p_Widening_init,
  b_Widening_init := (fun_mk (st := s_Widening_init) l_Widening_init c_Widening_init p_Widening_init).binds (ps := ["self", "least", "greatest", "is_least", "is_greatest"]) fun _ _ _ _ _ _ us hl => match us, hl with | [_, _, _, _, _], _ => rfl,
  k_Widening := ⟨mk_Widening, n_Widening_init, i_Widening_init, kc_Widening⟩,
  a_Widening_eq := a_Widening_eq,
  fd_Widening_eq := _,
  F_Widening_eq := fun_mk (st := s_Widening_eq) l_Widening_eq c_Widening_eq p_Widening_eq,
  b_Widening_eq := (fun_mk (st := s_Widening_eq) l_Widening_eq c_Widening_eq p_Widening_eq).binds (ps := ["self", "other"]) fun _ _ _ _ _ _ us hl => match us, hl with | [_, _], _ => rfl,
  M_Widening_eq := ⟨n_Widening_eq, i_Widening_eq, p_Widening_eq⟩,
  ef_Widening := eqFacts_mk ea_NoneType_Widening eb_NoneType_Widening ea_bool_Widening eb_bool_Widening ea_int_Widening eb_int_Widening ea_str_Widening eb_str_Widening ea_list_Widening eb_list_Widening ea_tuple_Widening eb_tuple_Widening ea_dict_Widening eb_dict_Widening,
  ne_Widening := ⟨na_Widening, nb_Widening⟩,
  nfst_Bar_Bar := nfst_Bar_Bar,
  nfst_Bar_Web := nfst_Bar_Web,
  dc_Bar_Web := dc_Bar_Web,
  nfst_Bar_Widening := nfst_Bar_Widening,
  dc_Bar_Widening := dc_Bar_Widening,
  nfst_Web_Bar := nfst_Web_Bar,
  nfst_Web_Web := nfst_Web_Web,
  nfst_Web_Widening := nfst_Web_Widening,
  dc_Web_Widening := dc_Web_Widening,
  nfst_Widening_Bar := nfst_Widening_Bar,
  nfst_Widening_Web := nfst_Widening_Web,
  nfst_Widening_Widening := nfst_Widening_Widening,
  C_HooksError := C_HooksError,
  m_HooksError := PySem.W.mg_of X G n_HooksError,
  C_BadCount := C_BadCount,
  O_BadCount := ⟨⟨nm_BadCount, q_BadCount, N_BadCount, bs_BadCount, _, sn_BadCount, sub_BadCount, ab_BadCount, col_BadCount, dd_BadCount, u0_BadCount, u1_BadCount, u2_BadCount, u3_BadCount, u5_BadCount, x_BadCount, rfl⟩, sa_BadCount, be_BadCount, ty_BadCount, kc_BadCount⟩,
  m_BadCount := PySem.W.mg_of X G n_BadCount,
  isC_BadCount := ⟨ga_BadCount, gg_BadCount, be_BadCount, hd_BadCount, cl_BadCount, g_clsget, g_clstk, ob_BadCount⟩,
  xf_BadCount := ⟨ga_BadCount, gg_BadCount, be_BadCount, hd_BadCount⟩,
  exm_BadCount_HooksError := PySem.W.exm_ref be_HooksError hd_HooksError ty_HooksError sb_BadCount_HooksError,
  a_BadCount_init := a_BadCount_init,
  fd_BadCount_init := _,
  F_BadCount_init := fun_mk (st := s_BadCount_init) l_BadCount_init c_BadCount_init p_BadCount_init,
  b_BadCount_init := (fun_mk (st := s_BadCount_init) l_BadCount_init c_BadCount_init p_BadCount_init).binds (ps := ["self", "what", "count"]) fun _ _ _ _ _ _ us hl => match us, hl with | [_, _, _], _ => rfl,
  nf_BadCount_what := nf_BadCount_what,
  nf_BadCount_count := nf_BadCount_count,
  X_BadCount := ⟨⟨⟨nm_BadCount, q_BadCount, N_BadCount, bs_BadCount, _, sn_BadCount, sub_BadCount, ab_BadCount, col_BadCount, dd_BadCount, u0_BadCount, u1_BadCount, u2_BadCount, u3_BadCount, u5_BadCount, x_BadCount, rfl⟩, sa_BadCount, be_BadCount, ty_BadCount, kc_BadCount⟩, PySem.W.mg_of X G n_BadCount, n_BadCount_init, t_BadCount_init, (fun_mk (st := s_BadCount_init) l_BadCount_init c_BadCount_init p_BadCount_init).binds (ps := ["self", "what", "count"]) fun _ _ _ _ _ _ us hl => match us, hl with | [_, _, _], _ => rfl, ⟨ga_BadCount, gg_BadCount, be_BadCount, hd_BadCount, cl_BadCount, g_clsget, g_clstk, ob_BadCount⟩, ⟨ga_BadCount, gg_BadCount, be_BadCount, hd_BadCount⟩⟩,
  C_NoRod := C_NoRod,
  O_NoRod := ⟨⟨nm_NoRod, q_NoRod, N_NoRod, bs_NoRod, _, sn_NoRod, sub_NoRod, ab_NoRod, col_NoRod, dd_NoRod, u0_NoRod, u1_NoRod, u2_NoRod, u3_NoRod, u5_NoRod, x_NoRod, rfl⟩, sa_NoRod, be_NoRod, ty_NoRod, kc_NoRod⟩,
  m_NoRod := PySem.W.mg_of X G n_NoRod,
  isC_NoRod := ⟨ga_NoRod, gg_NoRod, be_NoRod, hd_NoRod, cl_NoRod, g_clsget, g_clstk, ob_NoRod⟩,
  xf_NoRod := ⟨ga_NoRod, gg_NoRod, be_NoRod, hd_NoRod⟩,
  exm_NoRod_HooksError := PySem.W.exm_ref be_HooksError hd_HooksError ty_HooksError sb_NoRod_HooksError,
  a_NoRod_init := a_NoRod_init,
  fd_NoRod_init := _,
  F_NoRod_init := fun_mk (st := s_NoRod_init) l_NoRod_init c_NoRod_init p_NoRod_init,
  b_NoRod_init := (fun_mk (st := s_NoRod_init) l_NoRod_init c_NoRod_init p_NoRod_init).binds (ps := ["self", "rod"]) fun _ _ _ _ _ _ us hl => match us, hl with | [_, _], _ => rfl,
  nf_NoRod_rod := nf_NoRod_rod,
  X_NoRod := ⟨⟨⟨nm_NoRod, q_NoRod, N_NoRod, bs_NoRod, _, sn_NoRod, sub_NoRod, ab_NoRod, col_NoRod, dd_NoRod, u0_NoRod, u1_NoRod, u2_NoRod, u3_NoRod, u5_NoRod, x_NoRod, rfl⟩, sa_NoRod, be_NoRod, ty_NoRod, kc_NoRod⟩, PySem.W.mg_of X G n_NoRod, n_NoRod_init, t_NoRod_init, (fun_mk (st := s_NoRod_init) l_NoRod_init c_NoRod_init p_NoRod_init).binds (ps := ["self", "rod"]) fun _ _ _ _ _ _ us hl => match us, hl with | [_, _], _ => rfl, ⟨ga_NoRod, gg_NoRod, be_NoRod, hd_NoRod, cl_NoRod, g_clsget, g_clstk, ob_NoRod⟩, ⟨ga_NoRod, gg_NoRod, be_NoRod, hd_NoRod⟩⟩,
  C_SameRod := C_SameRod,
  O_SameRod := ⟨⟨nm_SameRod, q_SameRod, N_SameRod, bs_SameRod, _, sn_SameRod, sub_SameRod, ab_SameRod, col_SameRod, dd_SameRod, u0_SameRod, u1_SameRod, u2_SameRod, u3_SameRod, u5_SameRod, x_SameRod, rfl⟩, sa_SameRod, be_SameRod, ty_SameRod, kc_SameRod⟩,
  m_SameRod := PySem.W.mg_of X G n_SameRod,
  isC_SameRod := ⟨ga_SameRod, gg_SameRod, be_SameRod, hd_SameRod, cl_SameRod, g_clsget, g_clstk, ob_SameRod⟩,
  xf_SameRod := ⟨ga_SameRod, gg_SameRod, be_SameRod, hd_SameRod⟩,
  exm_SameRod_HooksError := PySem.W.exm_ref be_HooksError hd_HooksError ty_HooksError sb_SameRod_HooksError,
  a_SameRod_init := a_SameRod_init,
  fd_SameRod_init := _,
  F_SameRod_init := fun_mk (st := s_SameRod_init) l_SameRod_init c_SameRod_init p_SameRod_init,
  b_SameRod_init := (fun_mk (st := s_SameRod_init) l_SameRod_init c_SameRod_init p_SameRod_init).binds (ps := ["self", "rod"]) fun _ _ _ _ _ _ us hl => match us, hl with | [_, _], _ => rfl,
  nf_SameRod_rod := nf_SameRod_rod,
  X_SameRod := ⟨⟨⟨nm_SameRod, q_SameRod, N_SameRod, bs_SameRod, _, sn_SameRod, sub_SameRod, ab_SameRod, col_SameRod, dd_SameRod, u0_SameRod, u1_SameRod, u2_SameRod, u3_SameRod, u5_SameRod, x_SameRod, rfl⟩, sa_SameRod, be_SameRod, ty_SameRod, kc_SameRod⟩, PySem.W.mg_of X G n_SameRod, n_SameRod_init, t_SameRod_init, (fun_mk (st := s_SameRod_init) l_SameRod_init c_SameRod_init p_SameRod_init).binds (ps := ["self", "rod"]) fun _ _ _ _ _ _ us hl => match us, hl with | [_, _], _ => rfl, ⟨ga_SameRod, gg_SameRod, be_SameRod, hd_SameRod, cl_SameRod, g_clsget, g_clstk, ob_SameRod⟩, ⟨ga_SameRod, gg_SameRod, be_SameRod, hd_SameRod⟩⟩,
  C_BadSpan := C_BadSpan,
  O_BadSpan := ⟨⟨nm_BadSpan, q_BadSpan, N_BadSpan, bs_BadSpan, _, sn_BadSpan, sub_BadSpan, ab_BadSpan, col_BadSpan, dd_BadSpan, u0_BadSpan, u1_BadSpan, u2_BadSpan, u3_BadSpan, u5_BadSpan, x_BadSpan, rfl⟩, sa_BadSpan, be_BadSpan, ty_BadSpan, kc_BadSpan⟩,
  m_BadSpan := PySem.W.mg_of X G n_BadSpan,
  isC_BadSpan := ⟨ga_BadSpan, gg_BadSpan, be_BadSpan, hd_BadSpan, cl_BadSpan, g_clsget, g_clstk, ob_BadSpan⟩,
  xf_BadSpan := ⟨ga_BadSpan, gg_BadSpan, be_BadSpan, hd_BadSpan⟩,
  exm_BadSpan_HooksError := PySem.W.exm_ref be_HooksError hd_HooksError ty_HooksError sb_BadSpan_HooksError,
  a_BadSpan_init := a_BadSpan_init,
  fd_BadSpan_init := _,
  F_BadSpan_init := fun_mk (st := s_BadSpan_init) l_BadSpan_init c_BadSpan_init p_BadSpan_init,
  b_BadSpan_init := (fun_mk (st := s_BadSpan_init) l_BadSpan_init c_BadSpan_init p_BadSpan_init).binds (ps := ["self", "bar"]) fun _ _ _ _ _ _ us hl => match us, hl with | [_, _], _ => rfl,
  nf_BadSpan_bar := nf_BadSpan_bar,
  X_BadSpan := ⟨⟨⟨nm_BadSpan, q_BadSpan, N_BadSpan, bs_BadSpan, _, sn_BadSpan, sub_BadSpan, ab_BadSpan, col_BadSpan, dd_BadSpan, u0_BadSpan, u1_BadSpan, u2_BadSpan, u3_BadSpan, u5_BadSpan, x_BadSpan, rfl⟩, sa_BadSpan, be_BadSpan, ty_BadSpan, kc_BadSpan⟩, PySem.W.mg_of X G n_BadSpan, n_BadSpan_init, t_BadSpan_init, (fun_mk (st := s_BadSpan_init) l_BadSpan_init c_BadSpan_init p_BadSpan_init).binds (ps := ["self", "bar"]) fun _ _ _ _ _ _ us hl => match us, hl with | [_, _], _ => rfl, ⟨ga_BadSpan, gg_BadSpan, be_BadSpan, hd_BadSpan, cl_BadSpan, g_clsget, g_clstk, ob_BadSpan⟩, ⟨ga_BadSpan, gg_BadSpan, be_BadSpan, hd_BadSpan⟩⟩,
  C_NotSquare := C_NotSquare,
  O_NotSquare := ⟨⟨nm_NotSquare, q_NotSquare, N_NotSquare, bs_NotSquare, _, sn_NotSquare, sub_NotSquare, ab_NotSquare, col_NotSquare, dd_NotSquare, u0_NotSquare, u1_NotSquare, u2_NotSquare, u3_NotSquare, u5_NotSquare, x_NotSquare, rfl⟩, sa_NotSquare, be_NotSquare, ty_NotSquare, kc_NotSquare⟩,
  m_NotSquare := PySem.W.mg_of X G n_NotSquare,
  isC_NotSquare := ⟨ga_NotSquare, gg_NotSquare, be_NotSquare, hd_NotSquare, cl_NotSquare, g_clsget, g_clstk, ob_NotSquare⟩,
  xf_NotSquare := ⟨ga_NotSquare, gg_NotSquare, be_NotSquare, hd_NotSquare⟩,
  exm_NotSquare_HooksError := PySem.W.exm_ref be_HooksError hd_HooksError ty_HooksError sb_NotSquare_HooksError,
  a_NotSquare_init := a_NotSquare_init,
  fd_NotSquare_init := _,
  F_NotSquare_init := fun_mk (st := s_NotSquare_init) l_NotSquare_init c_NotSquare_init p_NotSquare_init,
  b_NotSquare_init := (fun_mk (st := s_NotSquare_init) l_NotSquare_init c_NotSquare_init p_NotSquare_init).binds (ps := ["self", "bars", "wanted"]) fun _ _ _ _ _ _ us hl => match us, hl with | [_, _, _], _ => rfl,
  nf_NotSquare_bars := nf_NotSquare_bars,
  nf_NotSquare_wanted := nf_NotSquare_wanted,
  X_NotSquare := ⟨⟨⟨nm_NotSquare, q_NotSquare, N_NotSquare, bs_NotSquare, _, sn_NotSquare, sub_NotSquare, ab_NotSquare, col_NotSquare, dd_NotSquare, u0_NotSquare, u1_NotSquare, u2_NotSquare, u3_NotSquare, u5_NotSquare, x_NotSquare, rfl⟩, sa_NotSquare, be_NotSquare, ty_NotSquare, kc_NotSquare⟩, PySem.W.mg_of X G n_NotSquare, n_NotSquare_init, t_NotSquare_init, (fun_mk (st := s_NotSquare_init) l_NotSquare_init c_NotSquare_init p_NotSquare_init).binds (ps := ["self", "bars", "wanted"]) fun _ _ _ _ _ _ us hl => match us, hl with | [_, _, _], _ => rfl, ⟨ga_NotSquare, gg_NotSquare, be_NotSquare, hd_NotSquare, cl_NotSquare, g_clsget, g_clstk, ob_NotSquare⟩, ⟨ga_NotSquare, gg_NotSquare, be_NotSquare, hd_NotSquare⟩⟩,
  C_Loose := C_Loose,
  O_Loose := ⟨⟨nm_Loose, q_Loose, N_Loose, bs_Loose, _, sn_Loose, sub_Loose, ab_Loose, col_Loose, dd_Loose, u0_Loose, u1_Loose, u2_Loose, u3_Loose, u5_Loose, x_Loose, rfl⟩, sa_Loose, be_Loose, ty_Loose, kc_Loose⟩,
  m_Loose := PySem.W.mg_of X G n_Loose,
  isC_Loose := ⟨ga_Loose, gg_Loose, be_Loose, hd_Loose, cl_Loose, g_clsget, g_clstk, ob_Loose⟩,
  xi_Loose := xi_Loose,
  exs_Loose := PySem.W.exm_ref be_Loose hd_Loose ty_Loose ss_Loose,
  xf_Loose := ⟨ga_Loose, gg_Loose, be_Loose, hd_Loose⟩,
  exm_Loose_HooksError := PySem.W.exm_ref be_HooksError hd_HooksError ty_HooksError sb_Loose_HooksError,
  ii_Widening := ⟨ci_Widening, g_clsget, g_clstk, nb_Widening⟩,
  z_abs := PySem.W.mg_none_of X G z_abs,
  z_len := PySem.W.mg_none_of X G z_len,
  z_range := PySem.W.mg_none_of X G z_range,
  z_tuple := PySem.W.mg_none_of X G z_tuple,
  z_list := PySem.W.mg_none_of X G z_list,
  z_dict := PySem.W.mg_none_of X G z_dict,
  z_sorted := PySem.W.mg_none_of X G z_sorted,
  z_enumerate := PySem.W.mg_none_of X G z_enumerate,
  z_zip := PySem.W.mg_none_of X G z_zip,
  z_min := PySem.W.mg_none_of X G z_min,
  z_max := PySem.W.mg_none_of X G z_max,
  z_all := PySem.W.mg_none_of X G z_all,
  z_any := PySem.W.mg_none_of X G z_any,
  z_int := PySem.W.mg_none_of X G z_int,
  z_isinstance := PySem.W.mg_none_of X G z_isinstance,
  z_type := PySem.W.mg_none_of X G z_type,
  z_set := PySem.W.mg_none_of X G z_set,
  z_sum := PySem.W.mg_none_of X G z_sum,
  z_bool := PySem.W.mg_none_of X G z_bool,
  m_gcd := PySem.W.mg_of X G v_gcd,
  t_LEAST_RODS := t_LEAST_RODS,
  m_LEAST_RODS := PySem.W.mg_of X G v_LEAST_RODS,
  t_MOST_RODS := t_MOST_RODS,
  m_MOST_RODS := PySem.W.mg_of X G v_MOST_RODS,
  t_MOST_BARS := t_MOST_BARS,
  m_MOST_BARS := PySem.W.mg_of X G v_MOST_BARS,
  t_MOST_HEIGHT := t_MOST_HEIGHT,
  m_MOST_HEIGHT := PySem.W.mg_of X G v_MOST_HEIGHT,
  t_MOST_LENGTH := t_MOST_LENGTH,
  m_MOST_LENGTH := PySem.W.mg_of X G v_MOST_LENGTH }
theorem all_mk {P : Program} {w : World} {K : PySem.W.Frag} {mg : Str → Option Value} {fa : Addr} (hfa : mg "law" = some (.ref fa)) (T : Tx K mg) :
    ∃ fd : FuncData, (∀ (s : Shared) (v : Value), BindsTo s fd ⟨[v], []⟩ [("_law_script", v)]) ∧ ∀ base : Heap, K.In base → base.Ns mainGlobals mg → FnOk P w K mg base (L2.CX P w) 80 fa fd ["_law_script"] (spLaw K) := by
  have e := hfa.symm.trans T.m_law
  cases e
  obtain ⟨oc, od, kV, doc, pm, an, cdv, ct, osl, e, _, _⟩ := T.F_law.ex
  exact ⟨T.fd_law, fun s v => by rw [e]; exact .of_eq rfl, fun base _ _ => ok_law T⟩
theorem walk {l : PySem.W.OpenLaw} {q : Program} {loose : List Str} {XP : (Str → Option Value) → Heap → Prop} {YP : World → Heap → Prop} {d : DefRec} {K : Params → PySem.W.Frag} (hn : l.most = some 63) (hdf : d.params.defaults = [])
    (hY : ∀ (w : World) (h : Heap), YP w h → (K w.params).In h)
    (F : ∀ (w : World) (mg : Str → Option Value) (fa : Addr) (h : Heap), (K w.params).In h → h.Ns mainGlobals mg → mg d.name = some (.ref fa) →
      ∃ fd : FuncData, (∀ (s : Shared) (u : Value), BindsTo s fd ⟨[u], []⟩ [("_law_script", u)]) ∧ ∀ base : Heap, (K w.params).In base → base.Ns mainGlobals mg → FnOk l.prog w (K w.params) mg base (L2.CX l.prog w) 80 fa fd ["_law_script"] (spLaw (K w.params))) :
    PySem.W.WalkO q loose XP YP l.row.toRowW d [] (fun f vs => PySem.call f vs) :=
  L2.walk_of (n := 63) (k := 80) (x := "_law_script") (CX := fun w => L2.CX l.prog w) (sp := fun w => spLaw (K w.params)) hn (by decide) hdf ⟨rfl, by decide, by decide⟩ hY F (fun _ _ a ns hl _ hS => ⟨a, ns, rfl, hS, hl, fun _ => rfl⟩) fun _ _ _ _ _ z => by
    obtain ⟨_, _, _, _, _, _, _, _, _, _, _, _, z⟩ := z
    exact z.elim
end K53
open PySem PySem.W PyProof.Rows in
set_option maxRecDepth 100000 in
set_option maxHeartbeats 0 in
theorem PySem.Challenge.cw_hookspans_k53_how_far_a_span_may_go_holds : PySem.Challenge.rw_hookspans_k53_how_far_a_span_may_go.Holds := by
  w_on; o_law; k_head; (case hw => w_witness2)
  k_fill
  refine K53.walk (l := PySem.Challenge.rw_hookspans_k53_how_far_a_span_may_go) rfl rfl (fun w h Y => PySem.W.kIn_of Y) ?F
  case F =>
    intro w mg fa h KX G hmg
    refine' K53.all_mk hmg (K53.mk_tx KX G ?g_clsget ?g_clstk ?n_divisor ?l_divisor ?c_divisor ?p_divisor ?n_lowest ?l_lowest ?c_lowest ?p_lowest ?n_fraction ?l_fraction ?c_fraction ?p_fraction ?n_is_less ?l_is_less ?c_is_less ?p_is_less ?n_corner_rows ?l_corner_rows ?c_corner_rows ?p_corner_rows ?n_ends ?l_ends ?c_ends ?p_ends ?n_spread ?l_spread ?c_spread ?p_spread ?n_exchanged ?l_exchanged ?c_exchanged ?p_exchanged ?n_bar_rows ?l_bar_rows ?c_bar_rows ?p_bar_rows ?n_determinant_at ?l_determinant_at ?c_determinant_at ?p_determinant_at ?n_table ?l_table ?c_table ?p_table ?n_cleared ?l_cleared ?c_cleared ?p_cleared ?n_swapped ?l_swapped ?c_swapped ?p_swapped ?n_cleared_of ?l_cleared_of ?c_cleared_of ?p_cleared_of ?n_check_firm ?l_check_firm ?c_check_firm ?p_check_firm ?n_corner_determinants ?l_corner_determinants ?c_corner_determinants ?p_corner_determinants ?n_signs_hold ?l_signs_hold ?c_signs_hold ?p_signs_hold ?n_check_has_bar ?l_check_has_bar ?c_check_has_bar ?p_check_has_bar ?n_check_rods ?l_check_rods ?c_check_rods ?p_check_rods ?n_check_bars ?l_check_bars ?c_check_bars ?p_check_bars ?n_check_bar ?l_check_bar ?c_check_bar ?p_check_bar ?n_widen ?l_widen ?c_widen ?p_widen ?n_other_corners ?l_other_corners ?c_other_corners ?p_other_corners ?n_firmness_along ?l_firmness_along ?c_firmness_along ?p_firmness_along ?n_root ?l_root ?c_root ?p_root ?n_greater ?l_greater ?c_greater ?p_greater ?n_less ?l_less ?c_less ?p_less ?n_l_cell_at ?l_l_cell_at ?c_l_cell_at ?p_l_cell_at ?n_l_well ?l_l_well ?c_l_well ?p_l_well ?n_l_draw ?l_l_draw ?c_l_draw ?p_l_draw ?n_l_pick ?l_l_pick ?c_l_pick ?p_l_pick ?n_l_unlike ?l_l_unlike ?c_l_unlike ?p_l_unlike ?n_l_bar ?l_l_bar ?c_l_bar ?p_l_bar ?n_l_facts ?l_l_facts ?c_l_facts ?p_l_facts ?n_l_made ?l_l_made ?c_l_made ?p_l_made ?n_l_turned ?l_l_turned ?c_l_turned ?p_l_turned ?n_l_table ?l_l_table ?c_l_table ?p_l_table ?n_l_tops ?l_l_tops ?c_l_tops ?p_l_tops ?n_l_corners ?l_l_corners ?c_l_corners ?p_l_corners ?n_l_is_less ?l_l_is_less ?c_l_is_less ?p_l_is_less ?n_l_lowered ?l_l_lowered ?c_l_lowered ?p_l_lowered ?n_l_is_sure ?l_l_is_sure ?c_l_is_sure ?p_l_is_sure ?n_l_beside ?l_l_beside ?c_l_beside ?p_l_beside ?n_l_at ?l_l_at ?c_l_at ?p_l_at ?n_l_due ?l_l_due ?c_l_due ?p_l_due ?n_l_with ?l_l_with ?c_l_with ?p_l_with ?n_l_is_nought ?l_l_is_nought ?c_l_is_nought ?p_l_is_nought ?n_l_whole_right ?l_l_whole_right ?c_l_whole_right ?p_l_whole_right ?n_law ?l_law ?c_law ?p_law ?n_Bar ?pg_Bar ?hd_Bar ?po_Bar ?sa_Bar ?mk_Bar ?kc_Bar ?nf_Bar_a ?nf_Bar_b ?nf_Bar_c ?nf_Bar_length ?nf_Bar_least ?nf_Bar_greatest ?n_Bar_init ?i_Bar_init ?l_Bar_init ?c_Bar_init ?p_Bar_init ?n_Bar_eq ?i_Bar_eq ?l_Bar_eq ?c_Bar_eq ?p_Bar_eq ?ea_NoneType_Bar ?eb_NoneType_Bar ?ea_bool_Bar ?eb_bool_Bar ?ea_int_Bar ?eb_int_Bar ?ea_str_Bar ?eb_str_Bar ?ea_list_Bar ?eb_list_Bar ?ea_tuple_Bar ?eb_tuple_Bar ?ea_dict_Bar ?eb_dict_Bar ?na_Bar ?nb_Bar ?n_Web ?pg_Web ?hd_Web ?po_Web ?sa_Web ?mk_Web ?kc_Web ?nf_Web_rods ?nf_Web_bars ?nf_Web_held ?n_Web_init ?i_Web_init ?l_Web_init ?c_Web_init ?p_Web_init ?n_Web_held ?i_Web_held ?l_Web_held ?c_Web_held ?p_Web_held ?n_Web_hanging ?i_Web_hanging ?l_Web_hanging ?c_Web_hanging ?p_Web_hanging ?n_Web_eq ?i_Web_eq ?l_Web_eq ?c_Web_eq ?p_Web_eq ?ea_NoneType_Web ?eb_NoneType_Web ?ea_bool_Web ?eb_bool_Web ?ea_int_Web ?eb_int_Web ?ea_str_Web ?eb_str_Web ?ea_list_Web ?eb_list_Web ?ea_tuple_Web ?eb_tuple_Web ?ea_dict_Web ?eb_dict_Web ?na_Web ?nb_Web ?n_Widening ?pg_Widening ?hd_Widening ?po_Widening ?sa_Widening ?mk_Widening ?kc_Widening ?nf_Widening_least ?nf_Widening_greatest ?nf_Widening_is_least ?nf_Widening_is_greatest ?n_Widening_init ?i_Widening_init ?l_Widening_init ?c_Widening_init ?p_Widening_init ?n_Widening_eq ?i_Widening_eq ?l_Widening_eq ?c_Widening_eq ?p_Widening_eq ?ea_NoneType_Widening ?eb_NoneType_Widening ?ea_bool_Widening ?eb_bool_Widening ?ea_int_Widening ?eb_int_Widening ?ea_str_Widening ?eb_str_Widening ?ea_list_Widening ?eb_list_Widening ?ea_tuple_Widening ?eb_tuple_Widening ?ea_dict_Widening ?eb_dict_Widening ?na_Widening ?nb_Widening ?nfst_Bar_Bar ?nfst_Bar_Web ?dc_Bar_Web ?nfst_Bar_Widening ?dc_Bar_Widening ?nfst_Web_Bar ?nfst_Web_Web ?nfst_Web_Widening ?dc_Web_Widening ?nfst_Widening_Bar ?nfst_Widening_Web ?nfst_Widening_Widening ?n_HooksError ?be_HooksError ?ty_HooksError ?hd_HooksError ?n_BadCount ?x_BadCount ?sa_BadCount ?ga_BadCount ?gg_BadCount ?kc_BadCount ?be_BadCount ?ty_BadCount ?hd_BadCount ?cl_BadCount ?ob_BadCount ?sb_BadCount_HooksError ?n_BadCount_init ?t_BadCount_init ?l_BadCount_init ?c_BadCount_init ?p_BadCount_init ?nf_BadCount_what ?nf_BadCount_count ?n_NoRod ?x_NoRod ?sa_NoRod ?ga_NoRod ?gg_NoRod ?kc_NoRod ?be_NoRod ?ty_NoRod ?hd_NoRod ?cl_NoRod ?ob_NoRod ?sb_NoRod_HooksError ?n_NoRod_init ?t_NoRod_init ?l_NoRod_init ?c_NoRod_init ?p_NoRod_init ?nf_NoRod_rod ?n_SameRod ?x_SameRod ?sa_SameRod ?ga_SameRod ?gg_SameRod ?kc_SameRod ?be_SameRod ?ty_SameRod ?hd_SameRod ?cl_SameRod ?ob_SameRod ?sb_SameRod_HooksError ?n_SameRod_init ?t_SameRod_init ?l_SameRod_init ?c_SameRod_init ?p_SameRod_init ?nf_SameRod_rod ?n_BadSpan ?x_BadSpan ?sa_BadSpan ?ga_BadSpan ?gg_BadSpan ?kc_BadSpan ?be_BadSpan ?ty_BadSpan ?hd_BadSpan ?cl_BadSpan ?ob_BadSpan ?sb_BadSpan_HooksError ?n_BadSpan_init ?t_BadSpan_init ?l_BadSpan_init ?c_BadSpan_init ?p_BadSpan_init ?nf_BadSpan_bar ?n_NotSquare ?x_NotSquare ?sa_NotSquare ?ga_NotSquare ?gg_NotSquare ?kc_NotSquare ?be_NotSquare ?ty_NotSquare ?hd_NotSquare ?cl_NotSquare ?ob_NotSquare ?sb_NotSquare_HooksError ?n_NotSquare_init ?t_NotSquare_init ?l_NotSquare_init ?c_NotSquare_init ?p_NotSquare_init ?nf_NotSquare_bars ?nf_NotSquare_wanted ?n_Loose ?x_Loose ?sa_Loose ?ga_Loose ?gg_Loose ?kc_Loose ?be_Loose ?ty_Loose ?hd_Loose ?cl_Loose ?ob_Loose ?xi_Loose ?ss_Loose ?sb_Loose_HooksError ?ci_Widening ?z_abs ?z_len ?z_range ?z_tuple ?z_list ?z_dict ?z_sorted ?z_enumerate ?z_zip ?z_min ?z_max ?z_all ?z_any ?z_int ?z_isinstance ?z_type ?z_set ?z_sum ?z_bool ?v_gcd ?v_LEAST_RODS ?v_MOST_RODS ?v_MOST_BARS ?v_MOST_HEIGHT ?v_MOST_LENGTH)
    (case g_clsget => k_is)
    (case g_clstk => k_is)
    (case n_divisor => k_is)
    (case l_divisor => k_is)
    (case c_divisor => k_is)
    (case p_divisor => k_is)
    (case n_lowest => k_is)
    (case l_lowest => k_is)
    (case c_lowest => k_is)
    (case p_lowest => k_is)
    (case n_fraction => k_is)
    (case l_fraction => k_is)
    (case c_fraction => k_is)
    (case p_fraction => k_is)
    (case n_is_less => k_is)
    (case l_is_less => k_is)
    (case c_is_less => k_is)
    (case p_is_less => k_is)
    (case n_corner_rows => k_is)
    (case l_corner_rows => k_is)
    (case c_corner_rows => k_is)
    (case p_corner_rows => k_is)
    (case n_ends => k_is)
    (case l_ends => k_is)
    (case c_ends => k_is)
    (case p_ends => k_is)
    (case n_spread => k_is)
    (case l_spread => k_is)
    (case c_spread => k_is)
    (case p_spread => k_is)
    (case n_exchanged => k_is)
    (case l_exchanged => k_is)
    (case c_exchanged => k_is)
    (case p_exchanged => k_is)
    (case n_bar_rows => k_is)
    (case l_bar_rows => k_is)
    (case c_bar_rows => k_is)
    (case p_bar_rows => k_is)
    (case n_determinant_at => k_is)
    (case l_determinant_at => k_is)
    (case c_determinant_at => k_is)
    (case p_determinant_at => k_is)
    (case n_table => k_is)
    (case l_table => k_is)
    (case c_table => k_is)
    (case p_table => k_is)
    (case n_cleared => k_is)
    (case l_cleared => k_is)
    (case c_cleared => k_is)
    (case p_cleared => k_is)
    (case n_swapped => k_is)
    (case l_swapped => k_is)
    (case c_swapped => k_is)
    (case p_swapped => k_is)
    (case n_cleared_of => k_is)
    (case l_cleared_of => k_is)
    (case c_cleared_of => k_is)
    (case p_cleared_of => k_is)
    (case n_check_firm => k_is)
    (case l_check_firm => k_is)
    (case c_check_firm => k_is)
    (case p_check_firm => k_is)
    (case n_corner_determinants => k_is)
    (case l_corner_determinants => k_is)
    (case c_corner_determinants => k_is)
    (case p_corner_determinants => k_is)
    (case n_signs_hold => k_is)
    (case l_signs_hold => k_is)
    (case c_signs_hold => k_is)
    (case p_signs_hold => k_is)
    (case n_check_has_bar => k_is)
    (case l_check_has_bar => k_is)
    (case c_check_has_bar => k_is)
    (case p_check_has_bar => k_is)
    (case n_check_rods => k_is)
    (case l_check_rods => k_is)
    (case c_check_rods => k_is)
    (case p_check_rods => k_is)
    (case n_check_bars => k_is)
    (case l_check_bars => k_is)
    (case c_check_bars => k_is)
    (case p_check_bars => k_is)
    (case n_check_bar => k_is)
    (case l_check_bar => k_is)
    (case c_check_bar => k_is)
    (case p_check_bar => k_is)
    (case n_widen => k_is)
    (case l_widen => k_is)
    (case c_widen => k_is)
    (case p_widen => k_is)
    (case n_other_corners => k_is)
    (case l_other_corners => k_is)
    (case c_other_corners => k_is)
    (case p_other_corners => k_is)
    (case n_firmness_along => k_is)
    (case l_firmness_along => k_is)
    (case c_firmness_along => k_is)
    (case p_firmness_along => k_is)
    (case n_root => k_is)
    (case l_root => k_is)
    (case c_root => k_is)
    (case p_root => k_is)
    (case n_greater => k_is)
    (case l_greater => k_is)
    (case c_greater => k_is)
    (case p_greater => k_is)
    (case n_less => k_is)
    (case l_less => k_is)
    (case c_less => k_is)
    (case p_less => k_is)
    (case n_l_cell_at => k_is)
    (case l_l_cell_at => k_is)
    (case c_l_cell_at => k_is)
    (case p_l_cell_at => k_is)
    (case n_l_well => k_is)
    (case l_l_well => k_is)
    (case c_l_well => k_is)
    (case p_l_well => k_is)
    (case n_l_draw => k_is)
    (case l_l_draw => k_is)
    (case c_l_draw => k_is)
    (case p_l_draw => k_is)
    (case n_l_pick => k_is)
    (case l_l_pick => k_is)
    (case c_l_pick => k_is)
    (case p_l_pick => k_is)
    (case n_l_unlike => k_is)
    (case l_l_unlike => k_is)
    (case c_l_unlike => k_is)
    (case p_l_unlike => k_is)
    (case n_l_bar => k_is)
    (case l_l_bar => k_is)
    (case c_l_bar => k_is)
    (case p_l_bar => k_is)
    (case n_l_facts => k_is)
    (case l_l_facts => k_is)
    (case c_l_facts => k_is)
    (case p_l_facts => k_is)
    (case n_l_made => k_is)
    (case l_l_made => k_is)
    (case c_l_made => k_is)
    (case p_l_made => k_is)
    (case n_l_turned => k_is)
    (case l_l_turned => k_is)
    (case c_l_turned => k_is)
    (case p_l_turned => k_is)
    (case n_l_table => k_is)
    (case l_l_table => k_is)
    (case c_l_table => k_is)
    (case p_l_table => k_is)
    (case n_l_tops => k_is)
    (case l_l_tops => k_is)
    (case c_l_tops => k_is)
    (case p_l_tops => k_is)
    (case n_l_corners => k_is)
    (case l_l_corners => k_is)
    (case c_l_corners => k_is)
    (case p_l_corners => k_is)
    (case n_l_is_less => k_is)
    (case l_l_is_less => k_is)
    (case c_l_is_less => k_is)
    (case p_l_is_less => k_is)
    (case n_l_lowered => k_is)
    (case l_l_lowered => k_is)
    (case c_l_lowered => k_is)
    (case p_l_lowered => k_is)
    (case n_l_is_sure => k_is)
    (case l_l_is_sure => k_is)
    (case c_l_is_sure => k_is)
    (case p_l_is_sure => k_is)
    (case n_l_beside => k_is)
    (case l_l_beside => k_is)
    (case c_l_beside => k_is)
    (case p_l_beside => k_is)
    (case n_l_at => k_is)
    (case l_l_at => k_is)
    (case c_l_at => k_is)
    (case p_l_at => k_is)
    (case n_l_due => k_is)
    (case l_l_due => k_is)
    (case c_l_due => k_is)
    (case p_l_due => k_is)
    (case n_l_with => k_is)
    (case l_l_with => k_is)
    (case c_l_with => k_is)
    (case p_l_with => k_is)
    (case n_l_is_nought => k_is)
    (case l_l_is_nought => k_is)
    (case c_l_is_nought => k_is)
    (case p_l_is_nought => k_is)
    (case n_l_whole_right => k_is)
    (case l_l_whole_right => k_is)
    (case c_l_whole_right => k_is)
    (case p_l_whole_right => k_is)
    (case n_law => k_is)
    (case l_law => k_is)
    (case c_law => k_is)
    (case p_law => k_is)
    (case n_Bar => k_is)
    (case pg_Bar => k_is)
    (case hd_Bar => k_is)
    (case po_Bar => k_is)
    (case sa_Bar => k_is)
    (case mk_Bar => k_is)
    (case kc_Bar => k_is)
    (case nf_Bar_a => k_is)
    (case nf_Bar_b => k_is)
    (case nf_Bar_c => k_is)
    (case nf_Bar_length => k_is)
    (case nf_Bar_least => k_is)
    (case nf_Bar_greatest => k_is)
    (case n_Bar_init => k_is)
    (case i_Bar_init => k_is)
    (case l_Bar_init => k_is)
    (case c_Bar_init => k_is)
    (case p_Bar_init => k_is)
    (case n_Bar_eq => k_is)
    (case i_Bar_eq => k_is)
    (case l_Bar_eq => k_is)
    (case c_Bar_eq => k_is)
    (case p_Bar_eq => k_is)
    (case ea_NoneType_Bar => k_is)
    (case eb_NoneType_Bar => k_is)
    (case ea_bool_Bar => k_is)
    (case eb_bool_Bar => k_is)
    (case ea_int_Bar => k_is)
    (case eb_int_Bar => k_is)
    (case ea_str_Bar => k_is)
    (case eb_str_Bar => k_is)
    (case ea_list_Bar => k_is)
    (case eb_list_Bar => k_is)
    (case ea_tuple_Bar => k_is)
    (case eb_tuple_Bar => k_is)
    (case ea_dict_Bar => k_is)
    (case eb_dict_Bar => k_is)
    (case na_Bar => k_is)
    (case nb_Bar => k_is)
    (case n_Web => k_is)
    (case pg_Web => k_is)
    (case hd_Web => k_is)
    (case po_Web => k_is)
    (case sa_Web => k_is)
    (case mk_Web => k_is)
    (case kc_Web => k_is)
    (case nf_Web_rods => k_is)
    (case nf_Web_bars => k_is)
    (case nf_Web_held => k_is)
    (case n_Web_init => k_is)
    (case i_Web_init => k_is)
    (case l_Web_init => k_is)
    (case c_Web_init => k_is)
    (case p_Web_init => k_is)
    (case n_Web_held => k_is)
    (case i_Web_held => k_is)
    (case l_Web_held => k_is)
    (case c_Web_held => k_is)
    (case p_Web_held => k_is)
    (case n_Web_hanging => k_is)
    (case i_Web_hanging => k_is)
    (case l_Web_hanging => k_is)
    (case c_Web_hanging => k_is)
    (case p_Web_hanging => k_is)
    (case n_Web_eq => k_is)
    (case i_Web_eq => k_is)
    (case l_Web_eq => k_is)
    (case c_Web_eq => k_is)
    (case p_Web_eq => k_is)
    (case ea_NoneType_Web => k_is)
    (case eb_NoneType_Web => k_is)
    (case ea_bool_Web => k_is)
    (case eb_bool_Web => k_is)
    (case ea_int_Web => k_is)
    (case eb_int_Web => k_is)
    (case ea_str_Web => k_is)
    (case eb_str_Web => k_is)
    (case ea_list_Web => k_is)
    (case eb_list_Web => k_is)
    (case ea_tuple_Web => k_is)
    (case eb_tuple_Web => k_is)
    (case ea_dict_Web => k_is)
    (case eb_dict_Web => k_is)
    (case na_Web => k_is)
    (case nb_Web => k_is)
    (case n_Widening => k_is)
    (case pg_Widening => k_is)
    (case hd_Widening => k_is)
    (case po_Widening => k_is)
    (case sa_Widening => k_is)
    (case mk_Widening => k_is)
    (case kc_Widening => k_is)
    (case nf_Widening_least => k_is)
    (case nf_Widening_greatest => k_is)
    (case nf_Widening_is_least => k_is)
    (case nf_Widening_is_greatest => k_is)
    (case n_Widening_init => k_is)
    (case i_Widening_init => k_is)
    (case l_Widening_init => k_is)
    (case c_Widening_init => k_is)
    (case p_Widening_init => k_is)
    (case n_Widening_eq => k_is)
    (case i_Widening_eq => k_is)
    (case l_Widening_eq => k_is)
    (case c_Widening_eq => k_is)
    (case p_Widening_eq => k_is)
    (case ea_NoneType_Widening => k_is)
    (case eb_NoneType_Widening => k_is)
    (case ea_bool_Widening => k_is)
    (case eb_bool_Widening => k_is)
    (case ea_int_Widening => k_is)
    (case eb_int_Widening => k_is)
    (case ea_str_Widening => k_is)
    (case eb_str_Widening => k_is)
    (case ea_list_Widening => k_is)
    (case eb_list_Widening => k_is)
    (case ea_tuple_Widening => k_is)
    (case eb_tuple_Widening => k_is)
    (case ea_dict_Widening => k_is)
    (case eb_dict_Widening => k_is)
    (case na_Widening => k_is)
    (case nb_Widening => k_is)
    (case nfst_Bar_Bar => k_is)
    (case nfst_Bar_Web => k_is)
    (case dc_Bar_Web => decide)
    (case nfst_Bar_Widening => k_is)
    (case dc_Bar_Widening => decide)
    (case nfst_Web_Bar => k_is)
    (case nfst_Web_Web => k_is)
    (case nfst_Web_Widening => k_is)
    (case dc_Web_Widening => decide)
    (case nfst_Widening_Bar => k_is)
    (case nfst_Widening_Web => k_is)
    (case nfst_Widening_Widening => k_is)
    (case n_HooksError => k_is)
    (case be_HooksError => k_is)
    (case ty_HooksError => k_is)
    (case hd_HooksError => k_is)
    (case n_BadCount => k_is)
    (case x_BadCount => k_is)
    (case sa_BadCount => k_is)
    (case ga_BadCount => k_is)
    (case gg_BadCount => k_is)
    (case kc_BadCount => k_is)
    (case be_BadCount => k_is)
    (case ty_BadCount => k_is)
    (case hd_BadCount => k_is)
    (case cl_BadCount => k_is)
    (case ob_BadCount => k_is)
    (case sb_BadCount_HooksError => k_is)
    (case n_BadCount_init => k_is)
    (case t_BadCount_init => k_is)
    (case l_BadCount_init => k_is)
    (case c_BadCount_init => k_is)
    (case p_BadCount_init => k_is)
    (case nf_BadCount_what => k_is)
    (case nf_BadCount_count => k_is)
    (case n_NoRod => k_is)
    (case x_NoRod => k_is)
    (case sa_NoRod => k_is)
    (case ga_NoRod => k_is)
    (case gg_NoRod => k_is)
    (case kc_NoRod => k_is)
    (case be_NoRod => k_is)
    (case ty_NoRod => k_is)
    (case hd_NoRod => k_is)
    (case cl_NoRod => k_is)
    (case ob_NoRod => k_is)
    (case sb_NoRod_HooksError => k_is)
    (case n_NoRod_init => k_is)
    (case t_NoRod_init => k_is)
    (case l_NoRod_init => k_is)
    (case c_NoRod_init => k_is)
    (case p_NoRod_init => k_is)
    (case nf_NoRod_rod => k_is)
    (case n_SameRod => k_is)
    (case x_SameRod => k_is)
    (case sa_SameRod => k_is)
    (case ga_SameRod => k_is)
    (case gg_SameRod => k_is)
    (case kc_SameRod => k_is)
    (case be_SameRod => k_is)
    (case ty_SameRod => k_is)
    (case hd_SameRod => k_is)
    (case cl_SameRod => k_is)
    (case ob_SameRod => k_is)
    (case sb_SameRod_HooksError => k_is)
    (case n_SameRod_init => k_is)
    (case t_SameRod_init => k_is)
    (case l_SameRod_init => k_is)
    (case c_SameRod_init => k_is)
    (case p_SameRod_init => k_is)
    (case nf_SameRod_rod => k_is)
    (case n_BadSpan => k_is)
    (case x_BadSpan => k_is)
    (case sa_BadSpan => k_is)
    (case ga_BadSpan => k_is)
    (case gg_BadSpan => k_is)
    (case kc_BadSpan => k_is)
    (case be_BadSpan => k_is)
    (case ty_BadSpan => k_is)
    (case hd_BadSpan => k_is)
    (case cl_BadSpan => k_is)
    (case ob_BadSpan => k_is)
    (case sb_BadSpan_HooksError => k_is)
    (case n_BadSpan_init => k_is)
    (case t_BadSpan_init => k_is)
    (case l_BadSpan_init => k_is)
    (case c_BadSpan_init => k_is)
    (case p_BadSpan_init => k_is)
    (case nf_BadSpan_bar => k_is)
    (case n_NotSquare => k_is)
    (case x_NotSquare => k_is)
    (case sa_NotSquare => k_is)
    (case ga_NotSquare => k_is)
    (case gg_NotSquare => k_is)
    (case kc_NotSquare => k_is)
    (case be_NotSquare => k_is)
    (case ty_NotSquare => k_is)
    (case hd_NotSquare => k_is)
    (case cl_NotSquare => k_is)
    (case ob_NotSquare => k_is)
    (case sb_NotSquare_HooksError => k_is)
    (case n_NotSquare_init => k_is)
    (case t_NotSquare_init => k_is)
    (case l_NotSquare_init => k_is)
    (case c_NotSquare_init => k_is)
    (case p_NotSquare_init => k_is)
    (case nf_NotSquare_bars => k_is)
    (case nf_NotSquare_wanted => k_is)
    (case n_Loose => k_is)
    (case x_Loose => k_is)
    (case sa_Loose => k_is)
    (case ga_Loose => k_is)
    (case gg_Loose => k_is)
    (case kc_Loose => k_is)
    (case be_Loose => k_is)
    (case ty_Loose => k_is)
    (case hd_Loose => k_is)
    (case cl_Loose => k_is)
    (case ob_Loose => k_is)
    (case xi_Loose => k_exc)
    (case ss_Loose => k_is)
    (case sb_Loose_HooksError => k_is)
    (case ci_Widening => k_is)
    (case z_abs => k_is)
    (case z_len => k_is)
    (case z_range => k_is)
    (case z_tuple => k_is)
    (case z_list => k_is)
    (case z_dict => k_is)
    (case z_sorted => k_is)
    (case z_enumerate => k_is)
    (case z_zip => k_is)
    (case z_min => k_is)
    (case z_max => k_is)
    (case z_all => k_is)
    (case z_any => k_is)
    (case z_int => k_is)
    (case z_isinstance => k_is)
    (case z_type => k_is)
    (case z_set => k_is)
    (case z_sum => k_is)
    (case z_bool => k_is)
    (case v_gcd => k_is)
    (case v_LEAST_RODS => k_is)
    (case v_MOST_RODS => k_is)
    (case v_MOST_BARS => k_is)
    (case v_MOST_HEIGHT => k_is)
    (case v_MOST_LENGTH => k_is)
