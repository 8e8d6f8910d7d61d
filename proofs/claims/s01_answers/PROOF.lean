import PyProof.Rows.All
import Wide.All
import OpenK.AllK
import Wide.FinOn
import Open.SpecLaws
import KE.OsGo
import HandS.ForSpec
import HandS.Comp
import HandS.More
import HandS.Deep
import HandS.CallLocal
import HandS.Iter
import HandS.Walk
import PySem.Challenge.RW_cubeheaps_s01_answers
set_option Elab.async false
set_option linter.all false
set_option maxRecDepth 100000
set_option maxHeartbeats 2000000
namespace CH
open Ti03
/-! ## boxes, shapes -/
structure Good (x : Box) : Prop where
  a1 : 1 ≤ x.a
  a3 : x.a ≤ 3
  b1 : 1 ≤ x.b
  b3 : x.b ≤ 3
  c1 : 1 ≤ x.c
  c4 : x.c ≤ 4
theorem Good.cases {x : Box} (g : Good x) : (x.a = 1 ∨ x.a = 2 ∨ x.a = 3) ∧ (x.b = 1 ∨ x.b = 2 ∨ x.b = 3) ∧ (x.c = 1 ∨ x.c = 2 ∨ x.c = 3 ∨ x.c = 4) := by
  have := g.a1; have := g.a3; have := g.b1; have := g.b3; have := g.c1; have := g.c4
  omega
theorem good_isBox {a b c : Nat} : isBox a b c = true ↔ Good ⟨a, b, c⟩ := by
  unfold isBox
  simp only [Bool.and_eq_true, decide_eq_true_eq]
  exact ⟨fun ⟨h1, h2, h3, h4, h5, h6⟩ => ⟨h1, h2, h3, h4, h5, h6⟩, fun ⟨h1, h2, h3, h4, h5, h6⟩ => ⟨h1, h2, h3, h4, h5, h6⟩⟩
theorem len1 {α : Type} {l : List α} (h : l.length = 1) : ∃ x, l = [x] := match l, h with | [x], _ => ⟨x, rfl⟩
theorem len2 {α : Type} {l : List α} (h : l.length = 2) : ∃ x y, l = [x, y] := match l, h with | [x, y], _ => ⟨x, y, rfl⟩
theorem len3 {α : Type} {l : List α} (h : l.length = 3) : ∃ x y z, l = [x, y, z] := match l, h with | [x, y, z], _ => ⟨x, y, z, rfl⟩
def Shape (x : Box) (h : Heap) : Prop := h.length = x.a ∧ ∀ r ∈ h, r.length = x.b
/-- what is true of the nine floors with their heights written out is true of all -/
theorem shapes {P : Nat → Nat → Heap → Prop}
    (h11 : ∀ p, P 1 1 [[p]]) (h12 : ∀ p q, P 1 2 [[p, q]]) (h13 : ∀ p q r, P 1 3 [[p, q, r]])
    (h21 : ∀ p s, P 2 1 [[p], [s]]) (h22 : ∀ p q s t, P 2 2 [[p, q], [s, t]]) (h23 : ∀ p q r s t u, P 2 3 [[p, q, r], [s, t, u]])
    (h31 : ∀ p s v, P 3 1 [[p], [s], [v]]) (h32 : ∀ p q s t v w, P 3 2 [[p, q], [s, t], [v, w]]) (h33 : ∀ p q r s t u v w z, P 3 3 [[p, q, r], [s, t, u], [v, w, z]])
    {x : Box} (g : Good x) {h : Heap} (sh : Shape x h) : P x.a x.b h := by
  obtain ⟨ha, hb, _⟩ := g.cases
  obtain ⟨l, m⟩ := sh
  rcases ha with ha | ha | ha <;> rw [ha] at l ⊢
  · obtain ⟨r1, rfl⟩ := len1 l
    have m1 := m r1 (by simp)
    rcases hb with hb | hb | hb <;> rw [hb] at m1 ⊢
    · obtain ⟨p, rfl⟩ := len1 m1; exact h11 _
    · obtain ⟨p, q, rfl⟩ := len2 m1; exact h12 _ _
    · obtain ⟨p, q, r, rfl⟩ := len3 m1; exact h13 _ _ _
  · obtain ⟨r1, r2, rfl⟩ := len2 l
    have m1 := m r1 (by simp)
    have m2 := m r2 (by simp)
    rcases hb with hb | hb | hb <;> rw [hb] at m1 m2 ⊢
    · obtain ⟨p, rfl⟩ := len1 m1; obtain ⟨s, rfl⟩ := len1 m2; exact h21 _ _
    · obtain ⟨p, q, rfl⟩ := len2 m1; obtain ⟨s, t, rfl⟩ := len2 m2; exact h22 _ _ _ _
    · obtain ⟨p, q, r, rfl⟩ := len3 m1; obtain ⟨s, t, u, rfl⟩ := len3 m2; exact h23 _ _ _ _ _ _
  · obtain ⟨r1, r2, r3, rfl⟩ := len3 l
    have m1 := m r1 (by simp)
    have m2 := m r2 (by simp)
    have m3 := m r3 (by simp)
    rcases hb with hb | hb | hb <;> rw [hb] at m1 m2 m3 ⊢
    · obtain ⟨p, rfl⟩ := len1 m1; obtain ⟨s, rfl⟩ := len1 m2; obtain ⟨v, rfl⟩ := len1 m3; exact h31 _ _ _
    · obtain ⟨p, q, rfl⟩ := len2 m1; obtain ⟨s, t, rfl⟩ := len2 m2; obtain ⟨v, w, rfl⟩ := len2 m3; exact h32 _ _ _ _ _ _
    · obtain ⟨p, q, r, rfl⟩ := len3 m1; obtain ⟨s, t, u, rfl⟩ := len3 m2; obtain ⟨v, w, z, rfl⟩ := len3 m3; exact h33 _ _ _ _ _ _ _ _ _
theorem isHeap_shape {x : Box} {h : Heap} (e : isHeap x h = true) : Shape x h := by
  unfold isHeap at e
  simp only [Bool.and_eq_true, beq_iff_eq, List.all_eq_true] at e
  exact ⟨e.1, fun r hr => (e.2.1 r hr).1⟩
/-! ## the list of all heaps -/
def RowOk : List Nat → Nat → List Nat → Prop
  | [], _, [] => True
  | t :: l, m, v :: r => v ≤ t ∧ v ≤ m ∧ RowOk l v r
  | _, _, _ => False
theorem mem_rows : ∀ {t : List Nat} {m : Nat} {r : List Nat}, r ∈ rowsUnder t m ↔ RowOk t m r
  | [], m, [] => by simp [rowsUnder, RowOk]
  | [], m, _ :: _ => by simp [rowsUnder, RowOk]
  | t :: l, m, [] => by simp [rowsUnder, RowOk]
  | t :: l, m, v :: r => by
    unfold rowsUnder RowOk
    simp only [List.mem_flatMap, List.mem_range, List.mem_map, List.cons.injEq]
    constructor
    · rintro ⟨w, hw, r', hr, rfl, rfl⟩
      exact ⟨by omega, by omega, mem_rows.mp hr⟩
    · rintro ⟨h1, h2, h3⟩
      exact ⟨v, by omega, r, mem_rows.mpr h3, rfl, rfl⟩
def HeapOk : Nat → List Nat → Heap → Prop
  | 0, _, [] => True
  | n + 1, t, r :: h => RowOk t (t.headD 0) r ∧ HeapOk n r h
  | _, _, _ => False
theorem mem_heapsUnder : ∀ {n : Nat} {t : List Nat} {h : Heap}, h ∈ heapsUnder n t ↔ HeapOk n t h
  | 0, t, [] => by simp [heapsUnder, HeapOk]
  | 0, t, _ :: _ => by simp [heapsUnder, HeapOk]
  | n + 1, t, [] => by simp [heapsUnder, HeapOk]
  | n + 1, t, r :: h => by
    unfold heapsUnder HeapOk
    simp only [List.mem_flatMap, List.mem_map, List.cons.injEq]
    constructor
    · rintro ⟨r', hr, h', hh, rfl, rfl⟩
      exact ⟨mem_rows.mp hr, mem_heapsUnder.mp hh⟩
    · rintro ⟨h1, h2⟩
      exact ⟨r, mem_rows.mpr h1, h, mem_heapsUnder.mpr h2, rfl, rfl⟩
theorem RowOk.len : ∀ {t : List Nat} {m : Nat} {r : List Nat}, RowOk t m r → r.length = t.length
  | [], _, [], _ => rfl
  | _ :: _, _, _ :: _, ⟨_, _, h⟩ => congrArg (· + 1) h.len
theorem HeapOk.shape : ∀ {n : Nat} {t : List Nat} {h : Heap}, HeapOk n t h → h.length = n ∧ ∀ r ∈ h, r.length = t.length
  | 0, _, [], _ => ⟨rfl, fun _ m => nomatch m⟩
  | n + 1, t, r :: h, ⟨h1, h2⟩ => ⟨congrArg (· + 1) h2.shape.1, fun q m => by
      rcases List.mem_cons.mp m with rfl | m
      · exact h1.len
      · exact (h2.shape.2 q m).trans h1.len⟩
theorem isHeap_ok {x : Box} (g : Good x) {h : Heap} (sh : Shape x h) : isHeap x h = true ↔ HeapOk x.a (List.replicate x.b x.c) h := by
  obtain ⟨a, b, c⟩ := x
  refine shapes (P := fun a b h => isHeap ⟨a, b, c⟩ h = true ↔ HeapOk a (List.replicate b c) h) ?_ ?_ ?_ ?_ ?_ ?_ ?_ ?_ ?_ g sh
  all_goals
    intros
    simp [isHeap, HeapOk, RowOk, at_, List.range_succ, List.replicate]
    try omega
theorem mem_heaps {x : Box} (g : Good x) {h : Heap} : h ∈ heaps x ↔ isHeap x h = true := by
  unfold heaps
  rw [mem_heapsUnder]
  constructor
  · intro k
    have s := k.shape
    rw [List.length_replicate] at s
    exact (isHeap_ok g s).mpr k
  · intro k
    exact (isHeap_ok g (isHeap_shape k)).mp k
end CH

namespace CH
open Ti03
/-! ## flat heaps -/
theorem flat_eq {x : Box} (g : Good x) {h : Heap} (sh : Shape x h) : h.flatten = (List.range (x.a * x.b)).map fun p => at_ h (p / x.b) (p % x.b) := by
  refine shapes (P := fun a b h => h.flatten = (List.range (a * b)).map fun p => at_ h (p / b) (p % b)) ?_ ?_ ?_ ?_ ?_ ?_ ?_ ?_ ?_ g sh
  all_goals intros; rfl
theorem rowsOf_flat {x : Box} (g : Good x) {h : Heap} (sh : Shape x h) : rowsOf x.b x.a h.flatten = h := by
  refine shapes (P := fun a b h => rowsOf b a h.flatten = h) ?_ ?_ ?_ ?_ ?_ ?_ ?_ ?_ ?_ g sh
  all_goals intros; rfl
theorem flat_len {x : Box} (g : Good x) {h : Heap} (sh : Shape x h) : h.flatten.length = x.a * x.b := by
  rw [flat_eq g sh, List.length_map, List.length_range]
theorem rowsOf_shape : ∀ {a b : Nat} {l : List Nat}, l.length = a * b → (rowsOf b a l).length = a ∧ (∀ r ∈ rowsOf b a l, r.length = b) ∧ (rowsOf b a l).flatten = l
  | 0, b, l, h => by
    have : l = [] := List.length_eq_zero_iff.mp (by omega)
    subst this
    exact ⟨rfl, fun _ m => (List.not_mem_nil m).elim, rfl⟩
  | a + 1, b, l, h => by
    have e : (a + 1) * b = a * b + b := Nat.succ_mul a b
    have hd : (l.drop b).length = a * b := by rw [List.length_drop]; omega
    obtain ⟨h1, h2, h3⟩ := rowsOf_shape (a := a) (b := b) hd
    refine ⟨by simp [rowsOf, h1], fun r m => ?_, ?_⟩
    · rcases List.mem_cons.mp m with rfl | m
      · rw [List.length_take]; omega
      · exact h2 r m
    · show l.take b ++ (rowsOf b a (l.drop b)).flatten = l
      rw [h3, List.take_append_drop]
theorem heapOf_some {x : Box} (g : Good x) {l : List Nat} {h : Heap} : heapOf x l = some h ↔ isHeap x h = true ∧ l = h.flatten := by
  unfold heapOf
  constructor
  · intro e
    split at e
    · rename_i c
      cases e
      exact ⟨c.2, (rowsOf_shape c.1).2.2.symm⟩
    · cases e
  · rintro ⟨e, rfl⟩
    have sh := isHeap_shape e
    rw [rowsOf_flat g sh, if_pos ⟨flat_len g sh, e⟩]
theorem flat_inj {x : Box} (g : Good x) {h k : Heap} (sh : Shape x h) (sk : Shape x k) (e : h.flatten = k.flatten) : h = k := by
  rw [← rowsOf_flat g sh, ← rowsOf_flat g sk, e]
theorem make_shape (x : Box) (f : Nat → Nat → Nat) : Shape x (make x f) := by
  unfold Shape make
  refine ⟨by simp, fun r m => ?_⟩
  obtain ⟨i, _, rfl⟩ := List.mem_map.mp m
  simp
theorem at_make {x : Box} {f : Nat → Nat → Nat} {i j : Nat} (hi : i < x.a) (hj : j < x.b) : at_ (make x f) i j = f i j := by
  unfold at_ make
  simp [List.getD, hi, hj]
theorem make_at {x : Box} (g : Good x) {h : Heap} (sh : Shape x h) : make x (at_ h) = h := by
  obtain ⟨a, b, c⟩ := x
  refine shapes (P := fun a b h => make ⟨a, b, c⟩ (at_ h) = h) ?_ ?_ ?_ ?_ ?_ ?_ ?_ ?_ ?_ g sh
  all_goals intros; rfl
theorem floors {P : Nat → Nat → Prop} (h11 : P 1 1) (h12 : P 1 2) (h13 : P 1 3) (h21 : P 2 1) (h22 : P 2 2) (h23 : P 2 3) (h31 : P 3 1) (h32 : P 3 2) (h33 : P 3 3) {x : Box} (g : Good x) : P x.a x.b := by
  obtain ⟨ha, hb, _⟩ := g.cases
  rcases ha with ha | ha | ha <;> rcases hb with hb | hb | hb <;> rw [ha, hb] <;> assumption
theorem make_flat {x : Box} (g : Good x) (f : Nat → Nat → Nat) : (make x f).flatten = (List.range (x.a * x.b)).map fun p => f (p / x.b) (p % x.b) := by
  obtain ⟨a, b, c⟩ := x
  exact floors (P := fun a b => (make ⟨a, b, c⟩ f).flatten = (List.range (a * b)).map fun p => f (p / b) (p % b)) rfl rfl rfl rfl rfl rfl rfl rfl rfl g
theorem places_flat {x : Box} (g : Good x) : places x = (List.range (x.a * x.b)).map fun p => (p / x.b, p % x.b) := by
  obtain ⟨a, b, c⟩ := x
  exact floors (P := fun a b => places ⟨a, b, c⟩ = (List.range (a * b)).map fun p => (p / b, p % b)) rfl rfl rfl rfl rfl rfl rfl rfl rfl g
theorem total_append (l m : List Nat) : total (l ++ m) = total l + total m := by
  unfold total
  induction l with
  | nil => simp
  | cons x l ih => simp only [List.cons_append, List.foldr_cons, ih]; omega
theorem cubes_flat (h : Heap) : cubes h = total h.flatten := by
  unfold cubes
  induction h with
  | nil => rfl
  | cons r h ih => rw [List.flatten_cons, total_append, ← ih]; rfl
theorem total_sum (l : List Nat) : total l = l.sum := by
  unfold total
  induction l with
  | nil => rfl
  | cons x l ih => rw [List.foldr_cons, ih, List.sum_cons]
theorem ints_sum (l : List Nat) : (Ti03.ints l).sum = ((total l : Nat) : Int) := by
  rw [total_sum]
  unfold Ti03.ints
  induction l with
  | nil => rfl
  | cons x l ih => rw [List.map_cons, List.sum_cons, ih, List.sum_cons]; simp
theorem ints_inj : ∀ {l m : List Nat}, Ti03.ints l = Ti03.ints m → l = m
  | [], [], _ => rfl
  | x :: l, y :: m, e => by
    have e' : (x : Int) :: Ti03.ints l = (y : Int) :: Ti03.ints m := e
    obtain ⟨e1, e2⟩ := List.cons.inj e'
    rw [ints_inj e2]
    congr 1
    omega
  | [], _ :: _, e => by cases e
  | _ :: _, [], e => by cases e
/-! ## a flat list of Ti03.ints, whether it is a heap's -/
def limI (b c : Nat) (l : List Int) (p : Nat) : Int :=
  let m : Int := c
  let m := if 0 < p % b then (if l.getD (p - 1) 0 < m then l.getD (p - 1) 0 else m) else m
  if b ≤ p then (if l.getD (p - b) 0 < m then l.getD (p - b) 0 else m) else m
def okI (a b c : Nat) (l : List Int) : Bool := l.length == a * b && (List.range (a * b)).all fun p => decide (0 ≤ l.getD p 0) && decide (l.getD p 0 ≤ limI b c l p)
theorem okI_len {a b c : Nat} {l : List Int} (e : okI a b c l = true) : l.length = a * b := by
  unfold okI at e
  simp only [Bool.and_eq_true, beq_iff_eq] at e
  exact e.1
theorem okI_nonneg {a b c : Nat} {l : List Int} (e : okI a b c l = true) : ∀ z ∈ l, 0 ≤ z := by
  have hl := okI_len e
  unfold okI at e
  simp only [Bool.and_eq_true, beq_iff_eq, List.all_eq_true, List.mem_range, decide_eq_true_eq] at e
  intro z hz
  obtain ⟨i, hi, rfl⟩ := List.mem_iff_getElem.mp hz
  have := (e.2 i (by omega)).1
  rwa [List.getD_eq_getElem?_getD, List.getElem?_eq_getElem hi, Option.getD_some] at this
theorem ints_toNat : ∀ {l : List Int}, (∀ z ∈ l, 0 ≤ z) → Ti03.ints (l.map Int.toNat) = l
  | [], _ => rfl
  | x :: l, h => by
    have h1 := h x (by simp)
    have h2 := ints_toNat (l := l) fun z m => h z (by simp [m])
    show ((x.toNat : Nat) : Int) :: Ti03.ints (l.map Int.toNat) = x :: l
    rw [h2]
    congr 1
    omega
theorem le_limI {b c : Nat} {l : List Int} {p : Nat} {z : Int} : z ≤ limI b c l p ↔ z ≤ c ∧ (0 < p % b → z ≤ l.getD (p - 1) 0) ∧ (b ≤ p → z ≤ l.getD (p - b) 0) := by
  unfold limI
  dsimp only
  by_cases h1 : 0 < p % b <;> by_cases h2 : b ≤ p <;> simp only [h1, h2, if_true, if_false, true_implies, false_implies, and_true, true_and] <;> (repeat' split) <;> omega
set_option maxHeartbeats 1000000 in
theorem okI_heap {x : Box} (g : Good x) {h : Heap} (sh : Shape x h) : okI x.a x.b x.c (Ti03.ints h.flatten) = true ↔ isHeap x h = true := by
  obtain ⟨a, b, c⟩ := x
  refine shapes (P := fun a b h => okI a b c (Ti03.ints h.flatten) = true ↔ isHeap ⟨a, b, c⟩ h = true) ?_ ?_ ?_ ?_ ?_ ?_ ?_ ?_ ?_ g sh
  all_goals
    intros
    simp [isHeap, at_, List.range_succ, okI, le_limI, Ti03.ints]
    try omega
theorem okI_iff {x : Box} (g : Good x) {l : List Int} : okI x.a x.b x.c l = true ↔ ∃ h, isHeap x h = true ∧ l = Ti03.ints h.flatten := by
  constructor
  · intro e
    have en := ints_toNat (okI_nonneg e)
    have hl : (l.map Int.toNat).length = x.a * x.b := by rw [List.length_map, okI_len e]
    obtain ⟨s1, s2, s3⟩ := rowsOf_shape hl
    refine ⟨rowsOf x.b x.a (l.map Int.toNat), ?_, by rw [s3, en]⟩
    rw [← okI_heap g ⟨s1, s2⟩, s3, en]
    exact e
  · rintro ⟨h, e, rfl⟩
    exact (okI_heap g (isHeap_shape e)).mpr e
end CH

namespace CH
open Ti03
/-! ## the list that heaps_in builds -/
def lim (b c : Nat) (l : List Nat) (p : Nat) : Nat :=
  let m := c
  let m := if 0 < p % b then (if l.getD (p - 1) 0 < m then l.getD (p - 1) 0 else m) else m
  if b ≤ p then (if l.getD (p - b) 0 < m then l.getD (p - b) 0 else m) else m
theorem ints_getD (l : List Nat) (i : Nat) : (Ti03.ints l).getD i 0 = ((l.getD i 0 : Nat) : Int) := by
  unfold Ti03.ints
  rw [List.getD_eq_getElem?_getD, List.getD_eq_getElem?_getD, List.getElem?_map]
  cases l[i]? <;> rfl
theorem limI_ints (b c : Nat) (l : List Nat) (p : Nat) : limI b c (Ti03.ints l) p = ((lim b c l p : Nat) : Int) := by
  unfold limI lim
  dsimp only
  rw [ints_getD, ints_getD]
  (repeat' split) <;> omega
theorem lim_le (b c : Nat) (l : List Nat) (p : Nat) : lim b c l p ≤ c := by
  unfold lim
  dsimp only
  (repeat' split) <;> omega
def ext (b c p : Nat) (h : List Nat) : List (List Nat) := (List.range (lim b c h p + 1)).map fun v => h ++ [v]
def grow (b c : Nat) (found : List (List Nat)) (p : Nat) : List (List Nat) := found.flatMap (ext b c p)
def grown (b c : Nat) : Nat → List (List Nat)
  | 0 => [[]]
  | i + 1 => grow b c (grown b c i) i
theorem grown_len {b c : Nat} : ∀ {i : Nat} {h : List Nat}, h ∈ grown b c i → h.length = i
  | 0, h, m => by
    have : h = [] := by simpa [grown] using m
    rw [this]; rfl
  | i + 1, h, m => by
    unfold grown grow ext at m
    simp only [List.mem_flatMap, List.mem_map] at m
    obtain ⟨k, mk, v, _, rfl⟩ := m
    rw [List.length_append, grown_len mk]; rfl
theorem ext_len (b c p : Nat) (h : List Nat) : (ext b c p h).length = lim b c h p + 1 := by simp [ext]
theorem flat_le {b c p : Nat} (hc : c ≤ 4) : ∀ (l : List (List Nat)), (l.flatMap (ext b c p)).length ≤ 5 * l.length
  | [] => by simp
  | h :: l => by
    have := flat_le (b := b) (p := p) hc l
    have := lim_le b c h p
    rw [List.flatMap_cons, List.length_append, ext_len, List.length_cons]
    omega
theorem grown_le {b c : Nat} (hc : c ≤ 4) : ∀ (i : Nat), (grown b c i).length ≤ 5 ^ i
  | 0 => by simp [grown]
  | i + 1 => by
    have h1 := flat_le (b := b) (c := c) (p := i) hc (grown b c i)
    have h2 := grown_le (b := b) hc i
    unfold grown grow
    rw [Nat.pow_succ]
    omega
theorem pow5 {i : Nat} (h : i ≤ 9) : 5 ^ i ≤ 1953125 := by
  have : (5 : Nat) ^ i ≤ 5 ^ 9 := Nat.pow_le_pow_right (by decide) h
  have e : (5 : Nat) ^ 9 = 1953125 := by decide
  omega
def heapsIn (a b c : Nat) : List (List Nat) := grown b c (a * b)
set_option maxHeartbeats 4000000 in
theorem heapsIn_all : ([1, 2, 3] : List Nat).all (fun a => ([1, 2, 3] : List Nat).all fun b => ([1, 2, 3, 4] : List Nat).all fun c => heapsIn a b c == (heaps ⟨a, b, c⟩).map List.flatten) = true := by decide +kernel
theorem heapsIn_eq {x : Box} (g : Good x) : heapsIn x.a x.b x.c = (heaps x).map List.flatten := by
  obtain ⟨a, b, c⟩ := x
  obtain ⟨ha, hb, hc⟩ := g.cases
  have h := heapsIn_all
  simp only [List.all_eq_true, beq_iff_eq] at h
  exact h a (by simpa using ha) b (by simpa using hb) c (by simpa using hc)
end CH

namespace CH
open Ti03
/-! ## one place changed -/
theorem divmod_iff {b i j p : Nat} (hj : j < b) : (p / b = i ∧ p % b = j) ↔ i * b + j = p := by
  have hb : 0 < b := by omega
  constructor
  · rintro ⟨rfl, rfl⟩
    rw [Nat.mul_comm]
    exact Nat.div_add_mod p b
  · rintro rfl
    refine ⟨?_, ?_⟩
    · rw [Nat.mul_comm, Nat.mul_add_div hb, Nat.div_eq_of_lt hj, Nat.add_zero]
    · rw [Nat.mul_comm, Nat.mul_add_mod, Nat.mod_eq_of_lt hj]
theorem place_lt {a b i j : Nat} (hi : i < a) (hj : j < b) : i * b + j < a * b := by
  have : (i + 1) * b ≤ a * b := Nat.mul_le_mul_right b hi
  rw [Nat.add_mul, Nat.one_mul] at this
  omega
theorem div_lt {a b p : Nat} (hp : p < a * b) : p / b < a := by
  by_cases hb : 0 < b
  · rw [Nat.div_lt_iff_lt_mul hb]; exact hp
  · have : b = 0 := by omega
    subst this
    rw [Nat.mul_zero] at hp
    omega
theorem mod_lt {a b p : Nat} (hp : p < a * b) : p % b < b := by
  refine Nat.mod_lt _ (Nat.pos_of_ne_zero fun z => ?_)
  subst z
  rw [Nat.mul_zero] at hp
  omega
theorem changed_flat {x : Box} (g : Good x) {h : Heap} (sh : Shape x h) {i j v : Nat} (hj : j < x.b) : (changed x h i j v).flatten = h.flatten.set (i * x.b + j) v := by
  unfold changed
  rw [make_flat g, flat_eq g sh]
  refine List.ext_getElem (by simp) fun p h1 h2 => ?_
  rw [List.getElem_set]
  simp only [List.getElem_map, List.getElem_range]
  by_cases e : i * x.b + j = p
  · rw [if_pos ((divmod_iff hj).mpr e), if_pos e]
  · rw [if_neg (fun z => e ((divmod_iff hj).mp z)), if_neg e]
theorem flat_getD {x : Box} (g : Good x) {h : Heap} (sh : Shape x h) {p : Nat} (hp : p < x.a * x.b) : h.flatten.getD p 0 = at_ h (p / x.b) (p % x.b) := by
  rw [flat_eq g sh, List.getD_eq_getElem?_getD, List.getElem?_map, List.getElem?_range hp]
  rfl
theorem isHeap_le {x : Box} (g : Good x) {h : Heap} (e : isHeap x h = true) {i j : Nat} (hi : i < x.a) (hj : j < x.b) : at_ h i j ≤ x.c := by
  have sh := isHeap_shape e
  unfold isHeap at e
  simp only [Bool.and_eq_true, beq_iff_eq, List.all_eq_true, decide_eq_true_eq] at e
  have hl : i < h.length := by rw [sh.1]; exact hi
  have m : h[i] ∈ h := List.getElem_mem hl
  have hl2 : j < h[i].length := by rw [sh.2 _ m]; exact hj
  have := (e.2.1 _ m).2 _ (List.getElem_mem hl2)
  unfold at_
  rw [List.getD_eq_getElem?_getD, List.getD_eq_getElem?_getD, List.getElem?_eq_getElem hl, Option.getD_some, List.getElem?_eq_getElem hl2, Option.getD_some]
  exact this
theorem changed_shape (x : Box) (h : Heap) (i j v : Nat) : Shape x (changed x h i j v) := make_shape x _
theorem at_changed {x : Box} {h : Heap} {i j v : Nat} (hi : i < x.a) (hj : j < x.b) : at_ (changed x h i j v) i j = v := by
  unfold changed
  rw [at_make hi hj, if_pos ⟨rfl, rfl⟩]
theorem ints_set (l : List Nat) (p v : Nat) : (Ti03.ints l).set p (v : Int) = Ti03.ints (l.set p v) := by
  unfold Ti03.ints
  rw [List.map_set]
section
variable {x : Box} {h : Heap} {p : Nat}
theorem put_list (g : Good x) (sh : Shape x h) (hp : p < x.a * x.b) :
    (Ti03.ints h.flatten).set p ((Ti03.ints h.flatten).getD p 0 + 1) = Ti03.ints (changed x h (p / x.b) (p % x.b) (at_ h (p / x.b) (p % x.b) + 1)).flatten := by
  rw [changed_flat g sh (mod_lt hp), ints_getD, flat_getD g sh hp, (divmod_iff (mod_lt hp)).mp ⟨rfl, rfl⟩, ← ints_set]
  rfl
theorem take_list (g : Good x) (sh : Shape x h) (hp : p < x.a * x.b) (pos : 0 < at_ h (p / x.b) (p % x.b)) :
    (Ti03.ints h.flatten).set p ((Ti03.ints h.flatten).getD p 0 + -1) = Ti03.ints (changed x h (p / x.b) (p % x.b) (at_ h (p / x.b) (p % x.b) - 1)).flatten := by
  rw [changed_flat g sh (mod_lt hp), ints_getD, flat_getD g sh hp, (divmod_iff (mod_lt hp)).mp ⟨rfl, rfl⟩, ← ints_set]
  congr 1
  omega
theorem mayPut_eq (g : Good x) (hp : p < x.a * x.b) : mayPut x h (p / x.b) (p % x.b) = isHeap x (changed x h (p / x.b) (p % x.b) (at_ h (p / x.b) (p % x.b) + 1)) := by
  unfold mayPut
  cases e : isHeap x (changed x h (p / x.b) (p % x.b) (at_ h (p / x.b) (p % x.b) + 1)) with
  | false => rw [Bool.and_false]
  | true =>
    have := isHeap_le g e (div_lt hp) (mod_lt hp)
    rw [at_changed (div_lt hp) (mod_lt hp)] at this
    rw [decide_eq_true (by omega)]
    rfl
theorem put_ok (g : Good x) (sh : Shape x h) (hp : p < x.a * x.b) : okI x.a x.b x.c ((Ti03.ints h.flatten).set p ((Ti03.ints h.flatten).getD p 0 + 1)) = mayPut x h (p / x.b) (p % x.b) := by
  rw [put_list g sh hp, mayPut_eq g hp, Bool.eq_iff_iff]
  exact okI_heap g (changed_shape _ _ _ _ _)
theorem take_ok (g : Good x) (sh : Shape x h) (hp : p < x.a * x.b) : okI x.a x.b x.c ((Ti03.ints h.flatten).set p ((Ti03.ints h.flatten).getD p 0 + -1)) = mayTake x h (p / x.b) (p % x.b) := by
  unfold mayTake
  by_cases pos : 0 < at_ h (p / x.b) (p % x.b)
  · rw [take_list g sh hp pos, decide_eq_true pos, Bool.true_and, Bool.eq_iff_iff]
    exact okI_heap g (changed_shape _ _ _ _ _)
  · rw [decide_eq_false pos, Bool.false_and]
    refine Bool.eq_false_iff.mpr fun e => ?_
    have hl : p < (Ti03.ints h.flatten).length := by unfold Ti03.ints; rw [List.length_map, flat_len g sh]; exact hp
    have := okI_nonneg e ((Ti03.ints h.flatten).getD p 0 + -1) (List.mem_set hl _)
    rw [ints_getD, flat_getD g sh hp] at this
    omega
theorem sum_set : ∀ (l : List Nat) (p v : Nat), p < l.length → (l.set p v).sum + l.getD p 0 = l.sum + v
  | [], p, v, h => by simp at h
  | a :: l, 0, v, _ => by simp [List.getD]; omega
  | a :: l, p + 1, v, h => by
    have := sum_set l p v (by simpa using h)
    simp only [List.set_cons_succ, List.sum_cons, List.getD_cons_succ]
    omega
theorem cubes_changed (g : Good x) (sh : Shape x h) (hp : p < x.a * x.b) (v : Nat) : cubes (changed x h (p / x.b) (p % x.b) v) + at_ h (p / x.b) (p % x.b) = cubes h + v := by
  rw [cubes_flat, cubes_flat, total_sum, total_sum, changed_flat g sh (mod_lt hp), (divmod_iff (mod_lt hp)).mp ⟨rfl, rfl⟩, ← flat_getD g sh hp]
  exact sum_set _ _ _ (by rw [flat_len g sh]; exact hp)
end
/-! ## the first place of a thing in a list -/
theorem first_at {α : Type} [BEq α] [LawfulBEq α] (y : α) : ∀ (l : List α), y ∈ l → l[(l.takeWhile fun z => z != y).length]? = some y ∧ ∀ m z, m < (l.takeWhile fun z => z != y).length → l[m]? = some z → z ≠ y
  | a :: l, h => by
    by_cases e : a = y
    · subst e
      rw [List.takeWhile_cons_of_neg (by simp)]
      exact ⟨rfl, fun m z hm => by simp at hm⟩
    · rw [List.takeWhile_cons_of_pos (by simp [e])]
      have hy : y ∈ l := by
        rcases List.mem_cons.mp h with rfl | h
        · exact absurd rfl e
        · exact h
      obtain ⟨h1, h2⟩ := first_at y l hy
      refine ⟨h1, fun m z hm hz => ?_⟩
      cases m with
      | zero => cases hz; exact e
      | succ m => exact h2 m z (by simpa using hm) hz
end CH

namespace CH
open Ti03
/-! ## what the calls answer, in flat lists -/
theorem step_heap_no {d : St} (g : Good d.box) {ns : List Nat} (e : okI d.box.a d.box.b d.box.c (Ti03.ints ns) = false) : step d (.heap ns) = (d, [-1]) ∧ heapOf d.box ns = none := by
  have h : heapOf d.box ns = none := by
    cases e' : heapOf d.box ns with
    | none => rfl
    | some h =>
      obtain ⟨h1, rfl⟩ := (heapOf_some g).mp e'
      rw [(okI_heap g (isHeap_shape h1)).mpr h1] at e
      cases e
  refine ⟨?_, h⟩
  show (match heapOf d.box ns with
    | none => (d, [-1])
    | some h => ({ d with heap := h }, Ti03.ints [cubes h])) = _
  rw [h]
theorem heapOf_yes {x : Box} (g : Good x) {ns : List Nat} (e : okI x.a x.b x.c (Ti03.ints ns) = true) : ∃ h, isHeap x h = true ∧ ns = h.flatten ∧ heapOf x ns = some h := by
  obtain ⟨h, h1, h2⟩ := (okI_iff g).mp e
  exact ⟨h, h1, ints_inj h2, (heapOf_some g).mpr ⟨h1, ints_inj h2⟩⟩
theorem step_heap_yes {d : St} {ns : List Nat} {h : Heap} (e : heapOf d.box ns = some h) : step d (.heap ns) = ({ d with heap := h }, Ti03.ints [cubes h]) := by
  show (match heapOf d.box ns with
    | none => (d, [-1])
    | some h => ({ d with heap := h }, Ti03.ints [cubes h])) = _
  rw [e]
theorem step_nth_no {d : St} {n : Nat} (h : (heaps d.box).length ≤ n) : step d (.nth n) = (d, [-2]) := by
  show (match (heaps d.box)[n]? with
    | none => (d, [-2])
    | some h => ({ d with heap := h }, Ti03.ints h.flatten)) = _
  rw [List.getElem?_eq_none h]
theorem step_nth_yes {d : St} {n : Nat} {h : Heap} (e : (heaps d.box)[n]? = some h) : step d (.nth n) = ({ d with heap := h }, Ti03.ints h.flatten) := by
  show (match (heaps d.box)[n]? with
    | none => (d, [-2])
    | some h => ({ d with heap := h }, Ti03.ints h.flatten)) = _
  rw [e]
theorem sum_flat (h : Heap) : (Ti03.ints h.flatten).sum = ((cubes h : Nat) : Int) := by rw [ints_sum, cubes_flat]
/-- put (true) or take (false) -/
def sgn (b : Bool) : Int := if b then 1 else -1
def mv (b : Bool) (i j : Nat) : Call := if b then .put i j else .take i j
def mvL (b : Bool) (h : Heap) (p : Nat) : List Int := (Ti03.ints h.flatten).set p ((Ti03.ints h.flatten).getD p 0 + sgn b)
def may (b : Bool) (x : Box) (h : Heap) (i j : Nat) : Bool := if b then mayPut x h i j else mayTake x h i j
theorem mv_ok {x : Box} {h : Heap} {p : Nat} (b : Bool) (g : Good x) (sh : Shape x h) (hp : p < x.a * x.b) : okI x.a x.b x.c (mvL b h p) = may b x h (p / x.b) (p % x.b) := by
  cases b with
  | true => exact put_ok g sh hp
  | false => exact take_ok g sh hp
theorem mv_no {d : St} {i j : Nat} (b : Bool) (e : isPlace d.box i j = false) : step d (mv b i j) = (d, [-1]) := by
  cases b <;> exact if_pos e
theorem mv_not {d : St} {i j : Nat} (b : Bool) (e : isPlace d.box i j = true) (m : may b d.box d.heap (i - 1) (j - 1) = false) : step d (mv b i j) = (d, [-6]) := by
  have e' : ¬ isPlace d.box i j = false := by rw [e]; simp
  cases b
  · exact (if_neg e').trans (if_pos m)
  · exact (if_neg e').trans (if_pos m)
theorem mv_yes {d : St} {p : Nat} (b : Bool) (g : Good d.box) (sh : Shape d.box d.heap) (hp : p < d.box.a * d.box.b) (e : isPlace d.box (p / d.box.b + 1) (p % d.box.b + 1) = true) (m : may b d.box d.heap (p / d.box.b) (p % d.box.b) = true) :
    ∃ h, isHeap d.box h = true ∧ mvL b d.heap p = Ti03.ints h.flatten ∧ step d (mv b (p / d.box.b + 1) (p % d.box.b + 1)) = ({ d with heap := h }, [(mvL b d.heap p).sum]) := by
  have e' : ¬ isPlace d.box (p / d.box.b + 1) (p % d.box.b + 1) = false := by rw [e]; simp
  cases b
  · have m1 : mayTake d.box d.heap (p / d.box.b) (p % d.box.b) = true := m
    have m2 := m1
    unfold mayTake at m2
    rw [Bool.and_eq_true, decide_eq_true_eq] at m2
    have m' : ¬ mayTake d.box d.heap (p / d.box.b + 1 - 1) (p % d.box.b + 1 - 1) = false := by rw [Nat.add_sub_cancel, Nat.add_sub_cancel, m1]; simp
    have hl := take_list g sh hp m2.1
    refine ⟨_, m2.2, hl, ?_⟩
    refine ((if_neg e').trans (if_neg m')).trans ?_
    rw [Nat.add_sub_cancel, Nat.add_sub_cancel]
    show _ = ({ d with heap := _ }, [((Ti03.ints d.heap.flatten).set p ((Ti03.ints d.heap.flatten).getD p 0 + -1)).sum])
    rw [hl, sum_flat]
    have := cubes_changed g sh hp (at_ d.heap (p / d.box.b) (p % d.box.b) - 1)
    have e2 : cubes (changed d.box d.heap (p / d.box.b) (p % d.box.b) (at_ d.heap (p / d.box.b) (p % d.box.b) - 1)) = cubes d.heap - 1 := by omega
    rw [e2]
    rfl
  · have m1 : mayPut d.box d.heap (p / d.box.b) (p % d.box.b) = true := m
    have m' : ¬ mayPut d.box d.heap (p / d.box.b + 1 - 1) (p % d.box.b + 1 - 1) = false := by rw [Nat.add_sub_cancel, Nat.add_sub_cancel, m1]; simp
    have hl := put_list g sh hp
    refine ⟨_, by rw [← mayPut_eq g hp]; exact m1, hl, ?_⟩
    refine ((if_neg e').trans (if_neg m')).trans ?_
    rw [Nat.add_sub_cancel, Nat.add_sub_cancel]
    show _ = ({ d with heap := _ }, [((Ti03.ints d.heap.flatten).set p ((Ti03.ints d.heap.flatten).getD p 0 + 1)).sum])
    rw [hl, sum_flat]
    have := cubes_changed g sh hp (at_ d.heap (p / d.box.b) (p % d.box.b) + 1)
    have e2 : cubes (changed d.box d.heap (p / d.box.b) (p % d.box.b) (at_ d.heap (p / d.box.b) (p % d.box.b) + 1)) = cubes d.heap + 1 := by omega
    rw [e2]
    rfl
/-- corners, place by place -/
def told (b : Nat) (ps : List Nat) : List Int := (ps.length : Int) :: ps.flatMap fun p => [((p / b + 1 : Nat) : Int), ((p % b + 1 : Nat) : Int)]
theorem pair_l (b : Nat) : ∀ l : List Nat, Ti03.ints ((l.map fun p => (p / b, p % b)).flatMap fun p => [p.1 + 1, p.2 + 1]) = l.flatMap fun p => [((p / b + 1 : Nat) : Int), ((p % b + 1 : Nat) : Int)]
  | [] => rfl
  | p :: l => by
    rw [List.map_cons, List.flatMap_cons, List.flatMap_cons, ← pair_l b l]
    rfl
theorem pairRow_told {x : Box} (g : Good x) (f : Nat → Nat → Bool) : pairRow ((places x).filter fun p => f p.1 p.2) = told x.b ((List.range (x.a * x.b)).filter fun p => f (p / x.b) (p % x.b)) := by
  have e : ((places x).filter fun p => f p.1 p.2) = ((List.range (x.a * x.b)).filter fun p => f (p / x.b) (p % x.b)).map fun p => (p / x.b, p % x.b) := by
    rw [places_flat g, List.filter_map]
    rfl
  rw [e]
  unfold pairRow told
  rw [List.length_map, pair_l]
theorem step_corners {d : St} (g : Good d.box) (sh : Shape d.box d.heap) : step d .corners = (d, told d.box.b ((List.range (d.box.a * d.box.b)).filter fun p => okI d.box.a d.box.b d.box.c (mvL true d.heap p)) ++ told d.box.b ((List.range (d.box.a * d.box.b)).filter fun p => okI d.box.a d.box.b d.box.c (mvL false d.heap p))) := by
  show (d, pairRow ((places d.box).filter fun p => mayPut d.box d.heap p.1 p.2) ++ pairRow ((places d.box).filter fun p => mayTake d.box d.heap p.1 p.2)) = _
  rw [pairRow_told g (mayPut d.box d.heap), pairRow_told g (mayTake d.box d.heap)]
  have e : ∀ b, ((List.range (d.box.a * d.box.b)).filter fun p => okI d.box.a d.box.b d.box.c (mvL b d.heap p)) = (List.range (d.box.a * d.box.b)).filter fun p => may b d.box d.heap (p / d.box.b) (p % d.box.b) := fun b =>
    List.filter_congr fun p m => mv_ok b g sh (List.mem_range.mp m)
  rw [e true, e false]
  rfl
theorem step_volume {d : St} (g : Good d.box) (k : Nat) : step d (.volume k) = (d, [(((heapsIn d.box.a d.box.b d.box.c).filter fun l => decide ((Ti03.ints l).sum = (k : Int))).length : Int)]) := by
  show (d, Ti03.ints [((heaps d.box).filter fun h => cubes h == k).length]) = _
  rw [heapsIn_eq g, List.filter_map, List.length_map]
  have e : ((heaps d.box).filter fun h => cubes h == k) = (heaps d.box).filter ((fun l => decide ((Ti03.ints l).sum = (k : Int))) ∘ List.flatten) := List.filter_congr fun h _ => by
    show (cubes h == k) = decide ((Ti03.ints h.flatten).sum = (k : Int))
    rw [sum_flat, Bool.eq_iff_iff, beq_iff_eq, decide_eq_true_eq]
    omega
  rw [e]
  rfl
theorem step_rank {d : St} (g : Good d.box) (ok : isHeap d.box d.heap = true) : ∃ j : Nat, step d .rank = (d, [(j : Int)]) ∧ (heapsIn d.box.a d.box.b d.box.c)[j]? = some d.heap.flatten ∧ ∀ m l, m < j → (heapsIn d.box.a d.box.b d.box.c)[m]? = some l → l ≠ d.heap.flatten := by
  obtain ⟨h1, h2⟩ := first_at d.heap (heaps d.box) ((mem_heaps g).mpr ok)
  refine ⟨_, rfl, ?_, fun m l hm hl => ?_⟩
  · rw [heapsIn_eq g, List.getElem?_map, h1]
    rfl
  · rw [heapsIn_eq g, List.getElem?_map, Option.map_eq_some_iff] at hl
    obtain ⟨k, hk, rfl⟩ := hl
    intro e
    have mk : k ∈ heaps d.box := List.mem_iff_getElem?.mpr ⟨m, hk⟩
    exact h2 m k hm hk (flat_inj g (isHeap_shape ((mem_heaps g).mp mk)) (isHeap_shape ok) e)
end CH

namespace CH
/-! ## the list of calls, read from the left -/
def Rowy (p : Int) : Prop := p = 1 ∨ p = 8 ∨ p = 9 ∨ p = 10
theorem shape_cases {p : Int} {s : Nat × Nat} (h : PyTi03.shape p = some s) : s.2 = 0 ∧ ¬ Rowy p ∨ s = (0, 1) ∧ Rowy p := by
  unfold PyTi03.shape at h
  unfold Rowy
  by_cases h0 : p = 0
  · rw [if_pos h0] at h
    cases h
    exact .inl ⟨rfl, by omega⟩
  rw [if_neg h0] at h
  by_cases h1 : p = 1
  · rw [if_pos h1] at h
    cases h
    exact .inr ⟨rfl, by omega⟩
  rw [if_neg h1] at h
  by_cases h2 : p = 2
  · rw [if_pos h2] at h
    cases h
    exact .inl ⟨rfl, by omega⟩
  rw [if_neg h2] at h
  by_cases h3 : p = 3
  · rw [if_pos h3] at h
    cases h
    exact .inl ⟨rfl, by omega⟩
  rw [if_neg h3] at h
  by_cases h4 : p = 4
  · rw [if_pos h4] at h
    cases h
    exact .inl ⟨rfl, by omega⟩
  rw [if_neg h4] at h
  by_cases h5 : p = 5
  · rw [if_pos h5] at h
    cases h
    exact .inl ⟨rfl, by omega⟩
  rw [if_neg h5] at h
  by_cases h6 : p = 6
  · rw [if_pos h6] at h
    cases h
    exact .inl ⟨rfl, by omega⟩
  rw [if_neg h6] at h
  by_cases h7 : p = 7
  · rw [if_pos h7] at h
    cases h
    exact .inl ⟨rfl, by omega⟩
  rw [if_neg h7] at h
  by_cases h8 : p = 8
  · rw [if_pos h8] at h
    cases h
    exact .inr ⟨rfl, by omega⟩
  rw [if_neg h8] at h
  by_cases h9 : p = 9
  · rw [if_pos h9] at h
    cases h
    exact .inr ⟨rfl, by omega⟩
  rw [if_neg h9] at h
  by_cases h10 : p = 10
  · rw [if_pos h10] at h
    cases h
    exact .inr ⟨rfl, by omega⟩
  rw [if_neg h10] at h
  by_cases h11 : p = 11
  · rw [if_pos h11] at h
    cases h
    exact .inl ⟨rfl, by omega⟩
  rw [if_neg h11] at h
  by_cases h12 : p = 12
  · rw [if_pos h12] at h
    cases h
    exact .inl ⟨rfl, by omega⟩
  rw [if_neg h12] at h
  by_cases h13 : p = 13
  · rw [if_pos h13] at h
    cases h
    exact .inl ⟨rfl, by omega⟩
  rw [if_neg h13] at h
  by_cases h14 : p = 14
  · rw [if_pos h14] at h
    cases h
    exact .inl ⟨rfl, by omega⟩
  rw [if_neg h14] at h
  by_cases h15 : p = 15
  · rw [if_pos h15] at h
    cases h
    exact .inl ⟨rfl, by omega⟩
  rw [if_neg h15] at h
  cases h
theorem call_one {p : Int} {r : List Int} {c : List (List Int)} {t : List Int} (h : PyFlat.call PyTi03.shape (p :: r) = some (c, t)) :
    (∃ n, PyTi03.shape p = some (n, 0) ∧ n ≤ r.length ∧ c = [p :: r.take n] ∧ t = r.drop n) ∨
    (∃ m r', PyTi03.shape p = some (0, 1) ∧ r = m :: r' ∧ 0 ≤ m ∧ m.toNat ≤ r'.length ∧ c = [[p], r'.take m.toNat] ∧ t = r'.drop m.toNat) := by
  simp only [PyFlat.call] at h
  split at h
  · cases h
  · rename_i n k hs
    split at h
    · cases h
    · rename_i hn
      rcases shape_cases hs with ⟨e, _⟩ | ⟨e, _⟩
      · dsimp only at e
        subst e
        left
        unfold PyFlat.rows at h
        cases h
        exact ⟨n, hs, by omega, rfl, rfl⟩
      · obtain ⟨rfl, rfl⟩ := Prod.mk.inj e
        right
        rw [List.drop_zero] at h
        match r, h with
        | [], h => simp [PyFlat.rows, PyFlat.row] at h
        | m :: r', h =>
          unfold PyFlat.rows at h
          by_cases c1 : 0 ≤ m ∧ m.toNat ≤ r'.length
          · have e1 : PyFlat.row (m :: r') = some (r'.take m.toNat, r'.drop m.toNat) := if_pos c1
            rw [e1] at h
            simp only [PyFlat.rows, List.take_zero] at h
            cases h
            exact ⟨m, r', hs, rfl, c1.1, c1.2, rfl, rfl⟩
          · have e1 : PyFlat.row (m :: r') = none := if_neg c1
            rw [e1] at h
            cases h
theorem whole_one (l : List Int) : PyTi03.whole [l] = [l] := by
  unfold PyTi03.whole
  split <;> first | rfl | simp_all
theorem whole_row {p : Int} (h : Rowy p) (r : List Int) : PyTi03.whole [[p], r] = [p :: r] := by
  rcases h with rfl | rfl | rfl | rfl <;> rfl
theorem calls_cons {f : Nat} {p : Int} {r : List Int} {raw : List (List (List Int))} (h : PyFlat.calls PyTi03.shape f (p :: r) = some raw) :
    ∃ f' c t cs, PyFlat.call PyTi03.shape (p :: r) = some (c, t) ∧ PyFlat.calls PyTi03.shape f' t = some cs ∧ raw = c :: cs := by
  match f, h with
  | 0, h => cases h
  | f + 1, h =>
    unfold PyFlat.calls at h
    split at h
    · cases h
    · rename_i c t hc
      split at h
      · cases h
      · rename_i cs hcs
        cases h
        exact ⟨f, c, t, cs, hc, hcs, rfl⟩
theorem calls_nil {f : Nat} : PyFlat.calls PyTi03.shape f [] = some [] := by cases f <;> rfl
/-- the machine of the specification -/
def mach (s : Ti03.St) (c : List (List Int)) : Ti03.St × List Int := Ti03Neutral.step s (c.headD [])
def ask (c : List (List Int)) : Bool := Ti03Neutral.asked1 ((PyTi03.whole c).headD [])
/-- behind the first «at» numbers the box is d and «out» has been answered; what is still due comes from the rest -/
def J (ns : List Int) (at_ : Nat) (d : Ti03.St) (out : List Int) : Prop :=
  ∃ f raw, PyFlat.calls PyTi03.shape f (ns.drop at_) = some raw ∧ (∀ c ∈ raw, ask c = true) ∧ PyTi03.answers ns = out ++ PyFlat.told (PyFlat.played mach d (raw.map PyTi03.whole))
theorem J_start {ns : List Int} (h : PyTi03.answers_asked ns = true) : J ns 0 Ti03.init [] ∧ (PyTi03.answers ns).length ≤ 10000000 := by
  unfold PyTi03.answers_asked at h
  split at h
  · cases h
  · rename_i raw hr
    simp only [Bool.and_eq_true] at h
    obtain ⟨⟨⟨_, _⟩, h4⟩, h5⟩ := h
    refine ⟨⟨ns.length, raw, hr, fun c m => ?_, ?_⟩, of_decide_eq_true h5⟩
    · unfold Ti03Neutral.asked at h4
      rw [Bool.and_eq_true, List.all_eq_true] at h4
      exact h4.1 _ (List.mem_map.mpr ⟨_, List.mem_map.mpr ⟨c, m, rfl⟩, rfl⟩)
    · unfold PyTi03.answers PyTi03.calls
      rw [hr]
      rfl
theorem J_end {ns : List Int} {d : Ti03.St} {out : List Int} {i : Nat} (hi : ns.length ≤ i) (h : J ns i d out) : PyTi03.answers ns = out := by
  obtain ⟨f, raw, h1, _, h3⟩ := h
  rw [List.drop_of_length_le hi, calls_nil] at h1
  cases h1
  rw [h3]
  exact List.append_nil out
theorem ask_call {l : List Int} (h : Ti03Neutral.asked1 l = true) : (∀ z ∈ l, 0 ≤ z) ∧ ∃ c, Ti03Neutral.callIn (l.map Int.toNat) = some c ∧ ∀ s, Ti03Neutral.step s l = Ti03.step s c := by
  unfold Ti03Neutral.asked1 at h
  obtain ⟨c, hc⟩ := Option.isSome_iff_exists.mp h
  have hc' := hc
  unfold Ti03Neutral.callOf at hc
  split at hc
  · cases hc
  · rename_i hn
    refine ⟨fun z m => ?_, c, hc, fun s => ?_⟩
    · have : l.all Ti03Neutral.nat = true := by simpa using hn
      have := List.all_eq_true.mp this z m
      unfold Ti03Neutral.nat at this
      rw [Bool.and_eq_true, decide_eq_true_eq] at this
      exact this.1
    · unfold Ti03Neutral.step
      rw [hc']
/-- one call of the list -/
theorem J_step {ns : List Int} {i : Nat} {d : Ti03.St} {out : List Int} (hi : i < ns.length) (h : J ns i d out) :
    ∃ (pn : Nat) (args : List Nat) (c : Ti03.Call) (fst end_ : Nat), ns[i]? = some (pn : Int) ∧ Ti03Neutral.callIn (pn :: args) = some c ∧ fst ≤ end_ ∧ i < end_ ∧ end_ ≤ ns.length ∧ (ns.drop fst).take (end_ - fst) = Ti03.ints args ∧
      J ns end_ (Ti03.step d c).1 (out ++ ((Ti03.step d c).2.length : Int) :: (Ti03.step d c).2) ∧
      ((∃ n, PyTi03.shape pn = some (n, 0) ∧ ¬ Rowy pn ∧ fst = i + 1 ∧ end_ = i + 1 + n) ∨ (PyTi03.shape pn = some (0, 1) ∧ Rowy pn ∧ fst = i + 2 ∧ ∃ m : Nat, ns[i + 1]? = some (m : Int) ∧ end_ = i + 2 + m)) := by
  obtain ⟨f, raw, h1, h2, h3⟩ := h
  have ed : ns.drop i = ns[i] :: ns.drop (i + 1) := List.drop_eq_getElem_cons hi
  rw [ed] at h1
  obtain ⟨f', c, t, cs, hc, hcs, rfl⟩ := calls_cons h1
  have hl : (ns.drop (i + 1)).length = ns.length - (i + 1) := List.length_drop
  have key : ∀ (args : List Int) (e : Nat), (PyTi03.whole c).headD [] = ns[i] :: args → t = ns.drop e →
      ∃ (pn : Nat) (as : List Nat) (k : Ti03.Call), ns[i] = (pn : Int) ∧ args = Ti03.ints as ∧ Ti03Neutral.callIn (pn :: as) = some k ∧ J ns e (Ti03.step d k).1 (out ++ ((Ti03.step d k).2.length : Int) :: (Ti03.step d k).2) := by
    intro args e hw ht
    have ha := h2 c (by simp)
    unfold ask at ha
    rw [hw] at ha
    obtain ⟨hz, k, hk, hst⟩ := ask_call ha
    have z0 := hz ns[i] (by simp)
    refine ⟨ns[i].toNat, args.map Int.toNat, k, by omega, (ints_toNat fun z m => hz z (by simp [m])).symm, hk, f', cs, by rw [← ht]; exact hcs, fun c' m => h2 c' (by simp [m]), ?_⟩
    rw [h3, List.append_assoc]
    congr 1
    show PyFlat.told ((mach d (PyTi03.whole c)).2 :: PyFlat.played mach (mach d (PyTi03.whole c)).1 (cs.map PyTi03.whole)) = _
    have em : mach d (PyTi03.whole c) = Ti03.step d k := by
      unfold mach
      rw [hw]
      exact hst d
    rw [em]
    rfl
  rcases call_one hc with ⟨n, hs, hn, rfl, rfl⟩ | ⟨m, r', hs, hr, hm, hmr, rfl, rfl⟩
  · obtain ⟨pn, as, k, e1, e2, e3, e4⟩ := key ((ns.drop (i + 1)).take n) (i + 1 + n) (by rw [whole_one]; rfl) (by rw [List.drop_drop])
    refine ⟨pn, as, k, i + 1, i + 1 + n, by rw [List.getElem?_eq_getElem hi, e1], e3, by omega, by omega, by omega, ?_, e4, .inl ⟨n, by rw [← e1]; exact hs, ?_, rfl, rfl⟩⟩
    · rw [← e2]
      congr 1
      omega
    · rcases shape_cases hs with ⟨_, q⟩ | ⟨q, _⟩
      · rw [← e1]; exact q
      · cases q
  · have rw1 : Rowy ns[i] := by
      rcases shape_cases hs with ⟨q, _⟩ | ⟨_, q⟩
      · cases q
      · exact q
    have hi1 : i + 1 < ns.length := by
      have := congrArg List.length hr
      rw [hl, List.length_cons] at this
      omega
    have ed2 : ns.drop (i + 1) = ns[i + 1] :: ns.drop (i + 2) := List.drop_eq_getElem_cons hi1
    rw [ed2] at hr
    obtain ⟨rfl, rfl⟩ := List.cons.inj hr
    rw [List.length_drop] at hmr
    obtain ⟨pn, as, k, e1, e2, e3, e4⟩ := key ((ns.drop (i + 2)).take ns[i + 1].toNat) (i + 2 + ns[i + 1].toNat) (by rw [whole_row rw1]; rfl) (by rw [List.drop_drop])
    refine ⟨pn, as, k, i + 2, i + 2 + ns[i + 1].toNat, by rw [List.getElem?_eq_getElem hi, e1], e3, by omega, by omega, by omega, ?_, e4, .inr ⟨by rw [← e1]; exact hs, by rw [← e1]; exact rw1, rfl, ns[i + 1].toNat, ?_, rfl⟩⟩
    · rw [← e2]
      congr 1
      omega
    · rw [List.getElem?_eq_getElem hi1]
      congr 1
      omega
end CH

namespace CH
open Ti03
/-! ## heaps made of heaps -/
structure HeapF (a b c : Nat) (f : Nat → Nat → Nat) : Prop where
  top : ∀ i j, i < a → j < b → f i j ≤ c
  col : ∀ i j, i + 1 < a → j < b → f (i + 1) j ≤ f i j
  row : ∀ i j, i < a → j + 1 < b → f i (j + 1) ≤ f i j
theorem isHeap_iff {x : Box} {h : Heap} (sh : Shape x h) : isHeap x h = true ↔ HeapF x.a x.b x.c (at_ h) := by
  unfold isHeap
  simp only [Bool.and_eq_true, beq_iff_eq, List.all_eq_true, List.mem_range, Bool.or_eq_true, decide_eq_true_eq]
  constructor
  · rintro ⟨h1, h2, h3⟩
    refine ⟨fun i j hi hj => ?_, fun i j hi hj => ?_, fun i j hi hj => ?_⟩
    · have hl : i < h.length := by rw [sh.1]; exact hi
      have m : h[i] ∈ h := List.getElem_mem hl
      have hl2 : j < h[i].length := by rw [sh.2 _ m]; exact hj
      have := (h2 _ m).2 _ (List.getElem_mem hl2)
      unfold at_
      rw [List.getD_eq_getElem?_getD, List.getD_eq_getElem?_getD, List.getElem?_eq_getElem hl, Option.getD_some, List.getElem?_eq_getElem hl2, Option.getD_some]
      exact this
    · rcases (h3 i (by omega) j hj).1 with e | e
      · omega
      · exact e
    · rcases (h3 i hi j (by omega)).2 with e | e
      · omega
      · exact e
  · intro k
    refine ⟨sh.1, fun r m => ⟨sh.2 r m, fun v mv => ?_⟩, fun i hi j hj => ⟨?_, ?_⟩⟩
    · obtain ⟨i, hi, rfl⟩ := List.mem_iff_getElem.mp m
      obtain ⟨j, hj, rfl⟩ := List.mem_iff_getElem.mp mv
      have := k.top i j (by rw [← sh.1]; exact hi) (by rw [← sh.2 _ m]; exact hj)
      unfold at_ at this
      rw [List.getD_eq_getElem?_getD, List.getD_eq_getElem?_getD, List.getElem?_eq_getElem hi, Option.getD_some, List.getElem?_eq_getElem hj, Option.getD_some] at this
      exact this
    · by_cases e : i + 1 = x.a
      · exact .inl e
      · exact .inr (k.col i j (by omega) hj)
    · by_cases e : j + 1 = x.b
      · exact .inl e
      · exact .inr (k.row i j hi (by omega))
theorem isHeap_F {x : Box} {h : Heap} (e : isHeap x h = true) : HeapF x.a x.b x.c (at_ h) := (isHeap_iff (isHeap_shape e)).mp e
theorem isHeap_make {x : Box} {f : Nat → Nat → Nat} (k : HeapF x.a x.b x.c f) : isHeap x (make x f) = true := by
  refine (isHeap_iff (make_shape x f)).mpr ⟨fun i j hi hj => ?_, fun i j hi hj => ?_, fun i j hi hj => ?_⟩
  · rw [at_make hi hj]; exact k.top i j hi hj
  · rw [at_make (by omega) hj, at_make (by omega) hj]; exact k.col i j hi hj
  · rw [at_make hi (by omega), at_make hi (by omega)]; exact k.row i j hi hj
theorem over_ok {x : Box} {h k : Heap} (e1 : isHeap x h = true) (e2 : isHeap x k = true) : isHeap x (over x h k) = true := by
  have k1 := isHeap_F e1
  have k2 := isHeap_F e2
  refine isHeap_make ⟨fun i j hi hj => ?_, fun i j hi hj => ?_, fun i j hi hj => ?_⟩
  · have := k1.top i j hi hj; have := k2.top i j hi hj; omega
  · have := k1.col i j hi hj; have := k2.col i j hi hj; omega
  · have := k1.row i j hi hj; have := k2.row i j hi hj; omega
theorem under_ok {x : Box} {h k : Heap} (e1 : isHeap x h = true) (e2 : isHeap x k = true) : isHeap x (under x h k) = true := by
  have k1 := isHeap_F e1
  have k2 := isHeap_F e2
  refine isHeap_make ⟨fun i j hi hj => ?_, fun i j hi hj => ?_, fun i j hi hj => ?_⟩
  · have := k1.top i j hi hj; have := k2.top i j hi hj; omega
  · have := k1.col i j hi hj; have := k2.col i j hi hj; omega
  · have := k1.row i j hi hj; have := k2.row i j hi hj; omega
theorem turned_make (x : Box) (h : Heap) : turned x h = make ⟨x.b, x.a, x.c⟩ fun j i => at_ h i j := rfl
theorem turned_ok {x : Box} {h : Heap} (e : isHeap x h = true) : isHeap ⟨x.b, x.a, x.c⟩ (turned x h) = true := by
  have k := isHeap_F e
  rw [turned_make]
  exact isHeap_make ⟨fun i j hi hj => k.top j i hj hi, fun i j hi hj => k.row j i hj hi, fun i j hi hj => k.col j i hj hi⟩
theorem filled_ok {x : Box} {h : Heap} (e : isHeap x h = true) : isHeap x (filled x h) = true := by
  have k := isHeap_F e
  refine isHeap_make ⟨fun i j hi hj => Nat.sub_le _ _, fun i j hi hj => ?_, fun i j hi hj => ?_⟩
  · have := k.col (x.a - 1 - (i + 1)) (x.b - 1 - j) (by omega) (by omega)
    have e1 : x.a - 1 - (i + 1) + 1 = x.a - 1 - i := by omega
    rw [e1] at this
    omega
  · have := k.row (x.a - 1 - i) (x.b - 1 - (j + 1)) (by omega) (by omega)
    have e1 : x.b - 1 - (j + 1) + 1 = x.b - 1 - j := by omega
    rw [e1] at this
    omega
theorem filter_le {α : Type} {p q : α → Bool} : ∀ {l : List α}, (∀ z ∈ l, p z = true → q z = true) → (l.filter p).length ≤ (l.filter q).length
  | [], _ => Nat.le_refl _
  | z :: l, h => by
    have ih := filter_le (p := p) (q := q) (l := l) fun y m => h y (by simp [m])
    by_cases c : p z = true
    · rw [List.filter_cons_of_pos c, List.filter_cons_of_pos (h z (by simp) c)]
      simpa using ih
    · rw [List.filter_cons_of_neg c]
      by_cases c2 : q z = true
      · rw [List.filter_cons_of_pos c2, List.length_cons]; omega
      · rw [List.filter_cons_of_neg c2]; exact ih
theorem laid_make (x : Box) (h : Heap) : laid x h = make ⟨x.b, x.c, x.a⟩ fun j k => ((List.range x.a).filter fun i => decide (k < at_ h i j)).length := rfl
theorem laid_ok {x : Box} {h : Heap} (e : isHeap x h = true) : isHeap ⟨x.b, x.c, x.a⟩ (laid x h) = true := by
  have k := isHeap_F e
  rw [laid_make]
  refine isHeap_make ⟨fun j l hj hl => ?_, fun j l hj hl => ?_, fun j l hj hl => ?_⟩
  · have := List.length_filter_le (fun i => decide (l < at_ h i j)) (List.range x.a)
    rw [List.length_range] at this
    exact this
  · refine filter_le fun i m q => ?_
    have := k.row i j (List.mem_range.mp m) hj
    have := of_decide_eq_true q
    exact decide_eq_true (by omega)
  · refine filter_le fun i m q => ?_
    have := of_decide_eq_true q
    exact decide_eq_true (by omega)
theorem good_turn {x : Box} (g : Good x) : Good ⟨x.b, x.a, x.c⟩ := ⟨g.b1, g.b3, g.a1, g.a3, g.c1, g.c4⟩
theorem good_lay {x : Box} (g : Good x) (h : x.c ≤ 3) : Good ⟨x.b, x.c, x.a⟩ := ⟨g.b1, g.b3, g.c1, h, g.a1, by have := g.a3; show x.a ≤ 4; omega⟩
/-! ## the second eight calls, in flat lists -/
theorem over_flat {x : Box} (g : Good x) (h k : Heap) : (over x h k).flatten = (List.range (x.a * x.b)).map fun p => max (at_ h (p / x.b) (p % x.b)) (at_ k (p / x.b) (p % x.b)) := make_flat g _
theorem under_flat {x : Box} (g : Good x) (h k : Heap) : (under x h k).flatten = (List.range (x.a * x.b)).map fun p => min (at_ h (p / x.b) (p % x.b)) (at_ k (p / x.b) (p % x.b)) := make_flat g _
theorem turned_flat {x : Box} (g : Good x) (h : Heap) : (turned x h).flatten = (List.range (x.b * x.a)).map fun p => at_ h (p % x.a) (p / x.a) := make_flat (good_turn g) _
theorem filled_flat {x : Box} (g : Good x) (h : Heap) : (filled x h).flatten = (List.range (x.a * x.b)).map fun p => x.c - at_ h (x.a - 1 - p / x.b) (x.b - 1 - p % x.b) := make_flat g _
theorem laid_flat {x : Box} (g : Good x) (h : x.c ≤ 3) (k : Heap) : (laid x k).flatten = (List.range (x.b * x.c)).map fun p => ((List.range x.a).filter fun i => decide (p % x.c < at_ k i (p / x.c))).length := make_flat (good_lay g h) _
theorem apart_flat {x : Box} (g : Good x) {h k : Heap} : apart x h k = total ((List.range (x.a * x.b)).map fun p => (at_ h (p / x.b) (p % x.b) - at_ k (p / x.b) (p % x.b)) + (at_ k (p / x.b) (p % x.b) - at_ h (p / x.b) (p % x.b))) := by
  unfold apart
  rw [places_flat g, List.map_map]
  rfl
end CH

namespace CH
open Ti03
/-! ## the second eight calls as the program reckons them -/
theorem one_of {j : Nat} (h : j < 1) : j = 0 := by omega
theorem two_of {j : Nat} (h : j < 2) : j = 0 ∨ j = 1 := by omega
theorem three_of {j : Nat} (h : j < 3) : j = 0 ∨ j = 1 ∨ j = 2 := by omega
/-- a column -/
def colL (b j : Nat) (l : List Nat) : List Nat := ((List.range l.length).filter fun p => decide (p % b = j)).map fun p => l.getD p 0
theorem col_eq {x : Box} (g : Good x) {h : Heap} (sh : Shape x h) {j : Nat} (hj : j < x.b) : colL x.b j h.flatten = (List.range x.a).map fun i => at_ h i j := by
  refine shapes (P := fun a b h => ∀ j, j < b → colL b j h.flatten = (List.range a).map fun i => at_ h i j) ?_ ?_ ?_ ?_ ?_ ?_ ?_ ?_ ?_ g sh j hj
  · intro p j hj; obtain rfl := one_of hj; first | rfl | simp [colL, at_, List.range_succ]
  · intro p q j hj; rcases two_of hj with rfl | rfl <;> first | rfl | simp [colL, at_, List.range_succ]
  · intro p q r j hj; rcases three_of hj with rfl | rfl | rfl <;> first | rfl | simp [colL, at_, List.range_succ]
  · intro p s j hj; obtain rfl := one_of hj; first | rfl | simp [colL, at_, List.range_succ]
  · intro p q s t j hj; rcases two_of hj with rfl | rfl <;> first | rfl | simp [colL, at_, List.range_succ]
  · intro p q r s t u j hj; rcases three_of hj with rfl | rfl | rfl <;> first | rfl | simp [colL, at_, List.range_succ]
  · intro p s v j hj; obtain rfl := one_of hj; first | rfl | simp [colL, at_, List.range_succ]
  · intro p q s t v w j hj; rcases two_of hj with rfl | rfl <;> first | rfl | simp [colL, at_, List.range_succ]
  · intro p q r s t u v w z j hj; rcases three_of hj with rfl | rfl | rfl <;> first | rfl | simp [colL, at_, List.range_succ]
theorem colL_len (b j : Nat) (l : List Nat) : (colL b j l).length ≤ l.length := by
  unfold colL
  rw [List.length_map]
  have := List.length_filter_le (fun p => decide (p % b = j)) (List.range l.length)
  rw [List.length_range] at this
  exact this
theorem flatMap_eq {α β : Type} {f g : α → List β} : ∀ {l : List α}, (∀ x ∈ l, f x = g x) → l.flatMap f = l.flatMap g
  | [], _ => rfl
  | x :: l, h => by
    rw [List.flatMap_cons, List.flatMap_cons, h x (by simp), flatMap_eq fun y m => h y (by simp [m])]
theorem flatMap_le {α β : Type} {f : α → List β} {n : Nat} : ∀ {l : List α}, (∀ x ∈ l, (f x).length ≤ n) → (l.flatMap f).length ≤ n * l.length
  | [], _ => by simp
  | x :: l, h => by
    have h1 := h x (by simp)
    have h2 := flatMap_le (f := f) (n := n) (l := l) fun y m => h y (by simp [m])
    rw [List.flatMap_cons, List.length_append, List.length_cons, Nat.mul_succ]
    omega
/-- turned -/
def turnL (b : Nat) (l : List Nat) : List Nat := (List.range b).flatMap fun j => colL b j l
theorem turned_list {x : Box} (g : Good x) {h : Heap} (sh : Shape x h) : turnL x.b h.flatten = (turned x h).flatten := by
  unfold turnL turned
  rw [← List.flatMap_def]
  exact flatMap_eq fun j m => col_eq g sh (List.mem_range.mp m)
/-- laid -/
def layC (c : Nat) (s : List Nat) : List Nat := (List.range c).map fun k => (s.filter fun v => decide (k + 1 ≤ v)).length
def layL (b c : Nat) (l : List Nat) : List Nat := (List.range b).flatMap fun j => layC c (colL b j l)
theorem laid_list {x : Box} (g : Good x) {h : Heap} (sh : Shape x h) : layL x.b x.c h.flatten = (laid x h).flatten := by
  unfold layL laid layC
  rw [← List.flatMap_def]
  refine flatMap_eq fun j m => ?_
  rw [col_eq g sh (List.mem_range.mp m)]
  refine List.map_congr_left fun k _ => ?_
  rw [List.filter_map, List.length_map]
  rfl
/-- filled up -/
def fillL (c : Nat) (l : List Nat) : List Nat := l.reverse.map fun v => c - v
theorem filled_list {x : Box} (g : Good x) {h : Heap} (sh : Shape x h) : fillL x.c h.flatten = (filled x h).flatten := by
  obtain ⟨a, b, c⟩ := x
  refine shapes (P := fun a b h => fillL c h.flatten = (filled ⟨a, b, c⟩ h).flatten) ?_ ?_ ?_ ?_ ?_ ?_ ?_ ?_ ?_ g sh
  all_goals intros; rfl
/-- the path -/
def cfL (b : Nat) (l : List Nat) (k r : Nat) : Nat := (((l.drop (r * b)).take b).filter fun v => decide (k ≤ v)).length
theorem row_eq {x : Box} (g : Good x) {h : Heap} (sh : Shape x h) {r : Nat} (hr : r < x.a) : (h.flatten.drop (r * x.b)).take x.b = (List.range x.b).map fun j => at_ h r j := by
  refine shapes (P := fun a b h => ∀ r, r < a → (h.flatten.drop (r * b)).take b = (List.range b).map fun j => at_ h r j) ?_ ?_ ?_ ?_ ?_ ?_ ?_ ?_ ?_ g sh r hr
  · intro p j hj; obtain rfl := one_of hj; rfl
  · intro p q j hj; obtain rfl := one_of hj; rfl
  · intro p q r j hj; obtain rfl := one_of hj; rfl
  · intro p s j hj; rcases two_of hj with rfl | rfl <;> rfl
  · intro p q s t j hj; rcases two_of hj with rfl | rfl <;> rfl
  · intro p q r s t u j hj; rcases two_of hj with rfl | rfl <;> rfl
  · intro p s v j hj; rcases three_of hj with rfl | rfl | rfl <;> rfl
  · intro p q s t v w j hj; rcases three_of hj with rfl | rfl | rfl <;> rfl
  · intro p q r s t u v w z j hj; rcases three_of hj with rfl | rfl | rfl <;> rfl
theorem cf_eq {x : Box} (g : Good x) {h : Heap} (sh : Shape x h) (k : Nat) {r : Nat} (hr : r < x.a) : cfL x.b h.flatten k r = ((List.range x.b).filter fun j => decide (k ≤ at_ h r j)).length := by
  unfold cfL
  rw [row_eq g sh hr, List.filter_map, List.length_map]
  rfl
theorem cf_le (b : Nat) (l : List Nat) (k r : Nat) : cfL b l k r ≤ b := by
  unfold cfL
  have := List.length_filter_le (fun v => decide (k ≤ v)) ((l.drop (r * b)).take b)
  rw [List.length_take] at this
  omega
def pathB (f : Nat → Nat) (a : Nat) : Nat → Nat
  | 0 => 0
  | i + 1 => f (a - 1 - i)
def pathS (f : Nat → Nat) (a : Nat) : Nat → List Nat
  | 0 => []
  | i + 1 => pathS f a i ++ List.replicate (f (a - 1 - i) - pathB f a i) 0 ++ [1]
def pathL (a b : Nat) (f : Nat → Nat) : List Nat := pathS f a a ++ List.replicate (b - pathB f a a) 0
theorem pathS_len {f : Nat → Nat} {a : Nat} (h : ∀ r, f r ≤ 3) : ∀ i, (pathS f a i).length ≤ 4 * i
  | 0 => Nat.zero_le _
  | i + 1 => by
    have h1 := pathS_len (a := a) h i
    have h2 := h (a - 1 - i)
    unfold pathS
    rw [List.length_append, List.length_append, List.length_replicate, List.length_singleton]
    omega
theorem path_go {a b : Nat} (g : Nat → Nat) (ha : a = 1 ∨ a = 2 ∨ a = 3) :
    (((0 :: ((List.range a).map fun i => g (a - 1 - i))).zip (((List.range a).map fun i => g (a - 1 - i)) ++ [b])).zipIdx.flatMap fun p => List.replicate (p.1.2 - p.1.1) 0 ++ if p.2 < a then [1] else []) = pathL a b g := by
  rcases ha with rfl | rfl | rfl <;> simp [pathL, pathS, pathB, List.range_succ, List.zipIdx]
theorem pathL_eq {a b : Nat} {f g : Nat → Nat} (ha : a = 1 ∨ a = 2 ∨ a = 3) (h : ∀ r, r < a → f r = g r) : pathL a b f = pathL a b g := by
  rcases ha with rfl | rfl | rfl
  · have h0 := h 0 (by decide)
    simp [pathL, pathS, pathB, h0]
  · have h0 := h 0 (by decide)
    have h1 := h 1 (by decide)
    simp [pathL, pathS, pathB, h0, h1]
  · have h0 := h 0 (by decide)
    have h1 := h 1 (by decide)
    have h2 := h 2 (by decide)
    simp [pathL, pathS, pathB, h0, h1, h2]
theorem path_list {x : Box} (g : Good x) {h : Heap} (sh : Shape x h) (k : Nat) : pathL x.a x.b (cfL x.b h.flatten k) = path x h k := by
  rw [pathL_eq g.cases.1 fun r hr => cf_eq g sh k hr, ← path_go _ g.cases.1]
  rfl
/-- apart, over, under: two lists, place by place -/
def zipL (F : Nat → Nat → Nat) (n : Nat) (l m : List Nat) : List Nat := (List.range n).map fun i => F (l.getD i 0) (m.getD i 0)
theorem over_list {x : Box} (g : Good x) {h k : Heap} (sh : Shape x h) (sk : Shape x k) : zipL max (x.a * x.b) h.flatten k.flatten = (over x h k).flatten := by
  rw [over_flat g]
  refine List.map_congr_left fun p m => ?_
  rw [flat_getD g sh (List.mem_range.mp m), flat_getD g sk (List.mem_range.mp m)]
theorem under_list {x : Box} (g : Good x) {h k : Heap} (sh : Shape x h) (sk : Shape x k) : zipL min (x.a * x.b) h.flatten k.flatten = (under x h k).flatten := by
  rw [under_flat g]
  refine List.map_congr_left fun p m => ?_
  rw [flat_getD g sh (List.mem_range.mp m), flat_getD g sk (List.mem_range.mp m)]
def gap (x y : Nat) : Nat := (x - y) + (y - x)
theorem apart_list {x : Box} (g : Good x) {h k : Heap} (sh : Shape x h) (sk : Shape x k) : total (zipL gap (x.a * x.b) h.flatten k.flatten) = apart x h k := by
  rw [apart_flat g]
  congr 1
  refine List.map_congr_left fun p m => ?_
  rw [flat_getD g sh (List.mem_range.mp m), flat_getD g sk (List.mem_range.mp m)]
  rfl
theorem heap_le {x : Box} {h : Heap} (e : isHeap x h = true) : ∀ v ∈ h.flatten, v ≤ x.c := by
  intro v m
  unfold isHeap at e
  simp only [Bool.and_eq_true, List.all_eq_true, decide_eq_true_eq] at e
  obtain ⟨r, mr, mv⟩ := List.mem_flatten.mp m
  exact (e.2.1 r mr).2 v mv
/-! ## what these calls answer -/
theorem mem_heapsIn {x : Box} (g : Good x) {l : List Nat} (m : l ∈ heapsIn x.a x.b x.c) : ∃ h, isHeap x h = true ∧ l = h.flatten := by
  rw [heapsIn_eq g] at m
  obtain ⟨h, mh, rfl⟩ := List.mem_map.mp m
  exact ⟨h, (mem_heaps g).mp mh, rfl⟩
/-- so many of the box's heaps, told as lists -/
def cnt (x : Box) (f : List Nat → Bool) : Nat := ((heapsIn x.a x.b x.c).filter f).length
theorem cnt_eq {x : Box} (g : Good x) {f : List Nat → Bool} {p : Heap → Bool} (h : ∀ k, isHeap x k = true → f k.flatten = p k) : cnt x f = ((heaps x).filter p).length := by
  unfold cnt
  rw [heapsIn_eq g, List.filter_map, List.length_map]
  congr 1
  exact List.filter_congr fun k m => h k ((mem_heaps g).mp m)
theorem dec_beq {α : Type} [DecidableEq α] [BEq α] [LawfulBEq α] {p : Prop} [Decidable p] {x y : α} (h : p ↔ x = y) : decide p = (x == y) := by
  rw [Bool.eq_iff_iff, decide_eq_true_eq, beq_iff_eq]
  exact h
def alikeT (x : Box) : Nat := if x.a = x.b then cnt x fun l => decide (turnL x.b l = l) else 0
def alikeF (x : Box) : Nat := cnt x fun l => decide (fillL x.c l = l)
def alikeL (x : Box) : Nat := if x.a = x.b ∧ x.b = x.c then cnt x fun l => decide (layL x.b x.c l = l) else 0
theorem filter_no {α : Type} {p : α → Bool} {l : List α} (h : ∀ x, p x = false) : (l.filter p).length = 0 := by
  rw [List.filter_eq_nil_iff.mpr fun x _ => by rw [h x]; simp]
  rfl
theorem step_alike {d : St} (g : Good d.box) : step d .alike = (d, [(alikeT d.box : Int), (alikeF d.box : Int), (alikeL d.box : Int)]) := by
  show (d, Ti03.ints [_, _, _]) = _
  have e1 : alikeT d.box = ((heaps d.box).filter fun h => d.box.a == d.box.b && turned d.box h == h).length := by
    unfold alikeT
    by_cases c : d.box.a = d.box.b
    · rw [if_pos c]
      refine cnt_eq g fun k hk => ?_
      have sk := isHeap_shape hk
      have st := isHeap_shape (turned_ok hk)
      have ex : (⟨d.box.b, d.box.a, d.box.c⟩ : Box) = d.box := by
        cases hd : d.box with
        | mk a b c' =>
          rw [hd] at c
          dsimp only at c ⊢
          rw [c]
      rw [ex] at st
      rw [turned_list g sk, beq_iff_eq.mpr c, Bool.true_and]
      exact dec_beq ⟨fun z => flat_inj g st sk z, fun z => by rw [z]⟩
    · rw [if_neg c]
      exact (filter_no fun h => by rw [beq_eq_false_iff_ne.mpr c, Bool.false_and]).symm
  have e2 : alikeF d.box = ((heaps d.box).filter fun h => filled d.box h == h).length := by
    refine cnt_eq g fun k hk => ?_
    have sk := isHeap_shape hk
    have st := isHeap_shape (filled_ok hk)
    rw [filled_list g sk]
    exact dec_beq ⟨fun z => flat_inj g st sk z, fun z => by rw [z]⟩
  have e3 : alikeL d.box = ((heaps d.box).filter fun h => d.box.a == d.box.b && (d.box.b == d.box.c && laid d.box h == h)).length := by
    unfold alikeL
    by_cases c : d.box.a = d.box.b ∧ d.box.b = d.box.c
    · rw [if_pos c]
      refine cnt_eq g fun k hk => ?_
      have sk := isHeap_shape hk
      have st := isHeap_shape (laid_ok hk)
      have ex : (⟨d.box.b, d.box.c, d.box.a⟩ : Box) = d.box := by
        cases hd : d.box with
        | mk a b c' =>
          rw [hd] at c
          obtain ⟨c1, c2⟩ := c
          dsimp only at c1 c2 ⊢
          rw [c1, c2]
      rw [ex] at st
      rw [laid_list g sk, beq_iff_eq.mpr c.1, beq_iff_eq.mpr c.2, Bool.true_and, Bool.true_and]
      exact dec_beq ⟨fun z => flat_inj g st sk z, fun z => by rw [z]⟩
    · rw [if_neg c]
      refine (filter_no fun h => ?_).symm
      by_cases c1 : d.box.a = d.box.b
      · have c2 : ¬ d.box.b = d.box.c := fun z => c ⟨c1, z⟩
        rw [beq_eq_false_iff_ne.mpr c2, Bool.false_and, Bool.and_false]
      · rw [beq_eq_false_iff_ne.mpr c1, Bool.false_and]
  rw [e1, e2, e3]
  rfl
theorem heapOf_no {x : Box} (g : Good x) {ns : List Nat} (e : okI x.a x.b x.c (Ti03.ints ns) = false) : heapOf x ns = none := (step_heap_no (d := ⟨x, []⟩) g e).2
theorem step_apart_no {d : St} {ns : List Nat} (e : heapOf d.box ns = none) : step d (.apart ns) = (d, [-1]) := by
  show (d, match heapOf d.box ns with
    | none => [-1]
    | some h => Ti03.ints [Ti03.apart d.box d.heap h]) = _
  rw [e]
theorem step_apart_yes {d : St} {ns : List Nat} {h : Heap} (e : heapOf d.box ns = some h) : step d (.apart ns) = (d, Ti03.ints [Ti03.apart d.box d.heap h]) := by
  show (d, match heapOf d.box ns with
    | none => [-1]
    | some h => Ti03.ints [Ti03.apart d.box d.heap h]) = _
  rw [e]
theorem step_over_no {d : St} {ns : List Nat} (e : heapOf d.box ns = none) : step d (.over ns) = (d, [-1]) := by
  show (match heapOf d.box ns with
    | none => (d, [-1])
    | some h => ({ d with heap := Ti03.over d.box d.heap h }, Ti03.ints (Ti03.over d.box d.heap h).flatten)) = _
  rw [e]
theorem step_over_yes {d : St} {ns : List Nat} {h : Heap} (e : heapOf d.box ns = some h) : step d (.over ns) = ({ d with heap := Ti03.over d.box d.heap h }, Ti03.ints (Ti03.over d.box d.heap h).flatten) := by
  show (match heapOf d.box ns with
    | none => (d, [-1])
    | some h => ({ d with heap := Ti03.over d.box d.heap h }, Ti03.ints (Ti03.over d.box d.heap h).flatten)) = _
  rw [e]
theorem step_under_no {d : St} {ns : List Nat} (e : heapOf d.box ns = none) : step d (.under ns) = (d, [-1]) := by
  show (match heapOf d.box ns with
    | none => (d, [-1])
    | some h => ({ d with heap := Ti03.under d.box d.heap h }, Ti03.ints (Ti03.under d.box d.heap h).flatten)) = _
  rw [e]
theorem step_under_yes {d : St} {ns : List Nat} {h : Heap} (e : heapOf d.box ns = some h) : step d (.under ns) = ({ d with heap := Ti03.under d.box d.heap h }, Ti03.ints (Ti03.under d.box d.heap h).flatten) := by
  show (match heapOf d.box ns with
    | none => (d, [-1])
    | some h => ({ d with heap := Ti03.under d.box d.heap h }, Ti03.ints (Ti03.under d.box d.heap h).flatten)) = _
  rw [e]
theorem step_path_no {d : St} {k : Nat} (h : ¬ (1 ≤ k ∧ k ≤ d.box.c)) : step d (.path k) = (d, [-1]) := by
  show (d, if k = 0 ∨ d.box.c < k then [-1] else Ti03.ints (Ti03.path d.box d.heap k)) = _
  rw [if_pos (by omega)]
theorem step_path_yes {d : St} {k : Nat} (h : 1 ≤ k ∧ k ≤ d.box.c) : step d (.path k) = (d, Ti03.ints (Ti03.path d.box d.heap k)) := by
  show (d, if k = 0 ∨ d.box.c < k then [-1] else Ti03.ints (Ti03.path d.box d.heap k)) = _
  rw [if_neg (by omega)]
end CH

namespace CH
open PySem PySem.Spec PyProof.Rows L2
def top (i : Nat) : Stmt := PySem.Challenge.pw_cubeheaps_s01_answers.main.body.getD i (.Pass ⟨0, 0, 0, 0⟩)
abbrev sLim : Stmt := top 1
abbrev sIsH : Stmt := top 2
abbrev sHin : Stmt := top 3
abbrev sMov : Stmt := top 4
/-! ### small words -/
theorem at_int {ns : List Int} {p : Nat} (h : p < ns.length) : atI (ns.map V.int) ((p : Nat) : Int) = some (V.int (ns.getD p 0)) := by
  refine atI_nat ?_
  rw [List.getElem?_map, List.getElem?_eq_getElem h, Option.map_some, List.getD_eq_getElem?_getD, List.getElem?_eq_getElem h, Option.getD_some]
theorem at_intZ {ns : List Int} {z : Int} {p : Nat} (e : z = (p : Int)) (h : p < ns.length) : atI (ns.map V.int) z = some (V.int (ns.getD p 0)) := by
  rw [e]; exact at_int h
def okP (b c : Nat) (ns : List Int) (p : Nat) : Bool := decide (0 ≤ ns.getD p 0) && decide (ns.getD p 0 ≤ limI b c ns p)
theorem okI_no {a b c : Nat} {ns : List Int} (h : ns.length ≠ a * b) : okI a b c ns = false := by
  unfold okI
  simp [h]
theorem okI_yes {a b c : Nat} {ns : List Int} (h : ns.length = a * b) (hp : ∀ p < a * b, okP b c ns p = true) : okI a b c ns = true := by
  unfold okI
  rw [Bool.and_eq_true, beq_iff_eq, List.all_eq_true]
  exact ⟨h, fun p m => hp p (List.mem_range.mp m)⟩
theorem okI_bad {a b c : Nat} {ns : List Int} {p : Nat} (hp : p < a * b) (h : okP b c ns p = false) : okI a b c ns = false := by
  unfold okI
  have : ((List.range (a * b)).all fun p => decide (0 ≤ ns.getD p 0) && decide (ns.getD p 0 ≤ limI b c ns p)) = false := by
    rw [List.all_eq_false]
    exact ⟨p, List.mem_range.mpr hp, by have h' : (decide (0 ≤ ns.getD p 0) && decide (ns.getD p 0 ≤ limI b c ns p)) = false := h; rw [h']; simp⟩
  rw [this, Bool.and_false]
/-! ### promises -/
def spLim (K : PySem.W.Frag) : Sp := fun vs H Q _ => ∃ (q : Addr) (ns : List Int) (p b c : Nat), vs = [.ref q, .int p, .int b, .int c] ∧ SqL K H q (ns.map V.int) ∧ p ≤ ns.length ∧ 0 < b ∧ Q (.int (limI b c ns p)) H
section
variable {P : Program} {w : World} {K : PySem.W.Frag} {mg : Str → Option Value} {base : Heap}
theorem scLim : FnScope ["heights", "place", "b", "c", "limit"] ["heights", "place", "b", "c"] (defScope sLim) := ⟨rfl, rfl, rfl, by decide +kernel, rfl, by decide +kernel, by decide +kernel⟩
theorem ok_lim {f : Addr} {fd : FuncData} (F : Fun K "limit_at" "limit_at" sLim f fd) (gMin : mg "min" = none) : FnOk P w K mg base CX0 1 f fd ["heights", "place", "b", "c"] (spLim K) := by
  refine F.ok scLim (fun vs H Q E h => ?_) (fun cdv A outer s H vs Q E hr h => ?_)
  · obtain ⟨q, ns, p, b, c, rfl, _⟩ := h
    rfl
  · obtain ⟨q, ns, p, b, c, rfl, hS, hp, hb, k⟩ := h
    refine ⟨_, pss_cons (ps_set (i := 4) scLim.nd rfl (Or.inl rfl) (pv 3))
      (pss_cons (ps_if (pt_cmpR op_gt (pe_op op_mod (pv 1) (pv 2)) pe_int (nomark _))
        (pss_one (ps_set (i := 4) scLim.nd rfl (Or.inl rfl) (pe_callB (call_min2 rfl) (by rfl) gMin (by decide +kernel) (pa_cons (pv 4) (pa_cons (pe_ix ix_list (pv 0) (pe_op op_sub (pv 1) pe_int) (fun _ _ => rfl)) pa_nil))))) pss_nil)
      (pss_cons (ps_if (pt_cmpR op_ge (pv 1) (pv 2) (nomark _))
        (pss_one (ps_set (i := 4) scLim.nd rfl (Or.inl rfl) (pe_callB (call_min2 rfl) (by rfl) gMin (by decide +kernel) (pa_cons (pv 4) (pa_cons (pe_ix ix_list (pv 0) (pe_op op_sub (pv 1) (pv 2)) (fun _ _ => rfl)) pa_nil))))) pss_nil)
      (pss_one (ps_ret (pv 4))))), ?_⟩
    refine ⟨_, rfl, _, rfl, _, rfl, _, _, rfl, rfl, (by omega), _, _, rfl, rfl, _, rfl, ?_⟩
    have e1 : ((p : Int) % (b : Int)) = ((p % b : Nat) : Int) := rfl
    have two : ∀ (m : Int), (if b ≤ p then (if ns.getD (p - b) 0 < m then ns.getD (p - b) 0 else m) else m) = limI b c ns p →
        Q (.int (if b ≤ p then (if ns.getD (p - b) 0 < m then ns.getD (p - b) 0 else m) else m)) H := fun m e => by rw [e]; exact k
    refine ite2 (fun c1 => ?_) (fun c1 => ?_)
    · have c1' : 0 < p % b := by have := of_decide_eq_true c1; omega
      have p1 : 0 < p := Nat.pos_of_ne_zero fun z => by rw [z, Nat.zero_mod] at c1'; omega
      refine ⟨_, rfl, _, rfl, _, rfl, _, _, rfl, rfl, q, _, _, _, rfl, rfl, hS, at_intZ (p := p - 1) (by omega) (by omega), _, _, rfl, ?_⟩
      refine ⟨_, rfl, _, rfl, _, _, rfl, rfl, _, rfl, ?_⟩
      have two' := two (if ns.getD (p - 1) 0 < (c : Int) then ns.getD (p - 1) 0 else c) (by unfold limI; dsimp only; rw [if_pos c1'])
      refine ite2 (fun c2 => ?_) (fun c2 => ?_)
      · have c2' : b ≤ p := by have := of_decide_eq_true c2; omega
        rw [if_pos c2'] at two'
        exact ⟨_, rfl, _, rfl, _, rfl, _, rfl, _, _, rfl, rfl, q, _, _, _, rfl, rfl, hS, at_intZ (p := p - b) (by omega) (by omega), _, _, rfl, _, rfl, two'⟩
      · have c2' : ¬ b ≤ p := fun z => c2 (decide_eq_true (by omega))
        rw [if_neg c2'] at two'
        exact ⟨_, rfl, two'⟩
    · have c1' : ¬ 0 < p % b := fun z => c1 (decide_eq_true (by omega))
      refine ⟨_, rfl, _, rfl, _, _, rfl, rfl, _, rfl, ?_⟩
      have two' := two c (by unfold limI; dsimp only; rw [if_neg c1'])
      refine ite2 (fun c2 => ?_) (fun c2 => ?_)
      · have c2' : b ≤ p := by have := of_decide_eq_true c2; omega
        rw [if_pos c2'] at two'
        exact ⟨_, rfl, _, rfl, _, rfl, _, rfl, _, _, rfl, rfl, q, _, _, _, rfl, rfl, hS, at_intZ (p := p - b) (by omega) (by omega), _, _, rfl, _, rfl, two'⟩
      · have c2' : ¬ b ≤ p := fun z => c2 (decide_eq_true (by omega))
        rw [if_neg c2'] at two'
        exact ⟨_, rfl, two'⟩
/-- is_heap -/
def spIsH (K : PySem.W.Frag) : Sp := fun vs H Q _ => ∃ (q : Addr) (ns : List Int) (a b c : Nat), vs = [.ref q, .int a, .int b, .int c] ∧ SqL K H q (ns.map V.int) ∧ 0 < b ∧ a ≤ 3 ∧ b ≤ 3 ∧ Q (.bl (okI a b c ns)) H
/-- what a def's caller wants to know of it -/
structure Cal (K : PySem.W.Frag) (mg : Str → Option Value) (nm : Str) (f : Addr) (fd : FuncData) (ps : List Str) : Prop where
  g : mg nm = some (.ref f)
  kp : PySem.W.keepIn K (.ref f) = true
  b : Binds K fd ps []
theorem scIsH : FnScope ["heights", "a", "b", "c", "place"] ["heights", "a", "b", "c"] (defScope sIsH) := ⟨rfl, rfl, rfl, by decide +kernel, rfl, by decide +kernel, by decide +kernel⟩
theorem ok_isH {f fL : Addr} {fd fdL : FuncData} (F : Fun K "is_heap" "is_heap" sIsH f fd) (gLen : mg "len" = none) (gRan : mg "range" = none)
    (GL : FnOk P w K mg base CX0 1 fL fdL ["heights", "place", "b", "c"] (spLim K)) (cL : Cal K mg "limit_at" fL fdL ["heights", "place", "b", "c"]) : FnOk P w K mg base CX0 2 f fd ["heights", "a", "b", "c"] (spIsH K) := by
  refine F.ok scIsH (fun vs H Q E h => ?_) (fun cdv A outer s H vs Q E hr h => ?_)
  · obtain ⟨q, ns, a, b, c, rfl, _⟩ := h
    rfl
  · obtain ⟨q, ns, a, b, c, rfl, hS, hb, ha3, hb3, k⟩ := h
    refine ⟨_, pss_cons (ps_if (pt_cmpR op_ne (pe_callB call_len_seq (by rfl) gLen PySem.boot_len (pa_cons (pv 0) pa_nil)) (pe_op op_mul (pv 1) (pv 2)) (nomark _)) (pss_one (ps_ret pe_bl)) pss_nil)
      (pss_cons (ps_for PassesOwn.never rfl (pi_range1 rfl gRan (pa_cons (pe_op op_mul (pv 1) (pv 2)) pa_nil)) (pg_name (i := 4) scIsH.nd rfl (Or.inl rfl))
        (pss_one (ps_if (PW.pt (pw_or (pt_cmpR op_lt (pe_ix ix_list (pv 0) (pv 4) (fun _ _ => rfl)) pe_int (nomark _))
            (pw_or1 (pt_cmpR op_gt (pe_ix ix_list (pv 0) (pv 4) (fun _ _ => rfl)) (pe_call GL hr rfl cL.g cL.kp cL.b .nil pass0 (pa_cons (pv 0) (pa_cons (pv 4) (pa_cons (pv 2) (pa_cons (pv 3) pa_nil))))) (nomark _)))))
          (pss_one (ps_ret pe_bl)) pss_nil)))
      (pss_one (ps_ret pe_bl))), ?_⟩
    refine ⟨_, rfl, q, _, rfl, .inl hS, _, rfl, _, rfl, _, _, rfl, rfl, .inl ⟨by omega, by omega⟩, rfl, _, rfl, ?_⟩
    refine ite2 (fun c1 => ?_) (fun c1 => ?_)
    · have c1' : ns.length ≠ a * b := fun z => by
        rw [List.length_map, z] at c1
        simp at c1
      rw [okI_no c1'] at k
      exact k
    · have c1' : ns.length = a * b := by
        rw [List.length_map] at c1
        simp at c1
        exact_mod_cast c1
      have hab : a * b ≤ 9 := Nat.mul_le_mul ha3 hb3
      have hz : ((a : Int) * (b : Int)) = ((a * b : Nat) : Int) := by simp
      refine ⟨_, rfl, _, rfl, _, _, rfl, rfl, .inl ⟨by omega, by omega⟩, _, rfl, (by rw [hz]; omega), (by rw [hz]; omega), ?_⟩
      rw [hz]
      refine for_range (n := a * b) (fun i σ H' => ∃ v : Option V, σ = [some (.ref q), some (.int a), some (.int b), some (.int c), v] ∧ H' = H ∧ ∀ p < i, okP b c ns p = true) ⟨none, rfl, rfl, fun p hp => by omega⟩ ?_ ?_
      · rintro i σ H' hi ⟨v, rfl, rfl, hp⟩
        have zi : (0 : Int) + (i : Int) = (i : Int) := by omega
        have hin : i < ns.length := by omega
        rw [zi]
        have hno : okP b c ns i = false → Q (V.bl false) H' := fun e => by
          rw [okI_bad hi e] at k
          exact k
        refine ⟨_, rfl, _, rfl, q, _, _, _, rfl, rfl, hS, at_int hin, _, _, rfl, rfl, _, rfl, ?_⟩
        refine ite2 (fun c2 => ?_) (fun c2 => ?_)
        · refine iteT (hno ?_)
          have := of_decide_eq_true c2
          unfold okP
          rw [decide_eq_false (by omega)]
          rfl
        · refine ⟨_, rfl, _, rfl, q, _, _, _, rfl, rfl, hS, at_int hin, _, rfl, _, rfl, _, rfl, _, rfl, q, ns, i, b, c, rfl, hS, by omega, hb, _, _, rfl, rfl, _, rfl, ?_⟩
          refine ite2 (fun c3 => ?_) (fun c3 => ?_)
          · refine hno ?_
            have := of_decide_eq_true c3
            unfold okP
            rw [decide_eq_false (p := ns.getD i 0 ≤ limI b c ns i) (by omega), Bool.and_false]
          · refine ⟨_, rfl, rfl, fun p hpi => ?_⟩
            by_cases e : p < i
            · exact hp p e
            · obtain rfl : p = i := by omega
              have c2' : ¬ ns.getD p 0 < 0 := fun z => c2 (decide_eq_true z)
              have c3' : ¬ limI b c ns p < ns.getD p 0 := fun z => c3 (decide_eq_true z)
              unfold okP
              rw [decide_eq_true (p := 0 ≤ ns.getD p 0) (by omega), decide_eq_true (p := ns.getD p 0 ≤ limI b c ns p) (by omega)]
              rfl
      · rintro σ H' ⟨v, rfl, rfl, hp⟩
        rw [okI_yes c1' hp] at k
        exact k
end
end CH

namespace CH
open PySem PySem.Spec PyProof.Rows L2
/-- a row of a heap as a list of the machine -/
abbrev rowV (l : List Nat) : List V := (Ti03.ints l).map V.int
def Rows (H : Hp) : List Addr → List (List Nat) → Prop
  | [], [] => True
  | r :: rs, l :: ls => H r = some (.lst (rowV l)) ∧ Rows H rs ls
  | _, _ => False
theorem Rows.keep {H H' : Hp} : ∀ {rs : List Addr} {ls : List (List Nat)}, (∀ r ∈ rs, ∀ o, H r = some o → H' r = some o) → Rows H rs ls → Rows H' rs ls
  | [], [], _, _ => trivial
  | r :: rs, l :: ls, k, ⟨h1, h2⟩ => ⟨k r (by simp) _ h1, Rows.keep (fun q m => k q (by simp [m])) h2⟩
  | [], _ :: _, _, h => h.elim
  | _ :: _, [], _, h => h.elim
theorem Rows.snoc {H : Hp} {r : Addr} {l : List Nat} (hr : H r = some (.lst (rowV l))) : ∀ {rs : List Addr} {ls : List (List Nat)}, Rows H rs ls → Rows H (rs ++ [r]) (ls ++ [l])
  | [], [], _ => ⟨hr, trivial⟩
  | q :: rs, m :: ls, ⟨h1, h2⟩ => ⟨h1, Rows.snoc hr h2⟩
  | [], _ :: _, h => h.elim
  | _ :: _, [], h => h.elim
theorem Rows.len {H : Hp} : ∀ {rs : List Addr} {ls : List (List Nat)}, Rows H rs ls → rs.length = ls.length
  | [], [], _ => rfl
  | _ :: rs, _ :: ls, ⟨_, h⟩ => congrArg (· + 1) h.len
  | [], _ :: _, h => h.elim
  | _ :: _, [], h => h.elim
theorem Rows.get {H : Hp} : ∀ {rs : List Addr} {ls : List (List Nat)} {i : Nat} {r : Addr}, Rows H rs ls → rs[i]? = some r → ∃ l, ls[i]? = some l ∧ H r = some (.lst (rowV l))
  | r0 :: rs, l :: ls, 0, r, ⟨h, _⟩, e => ⟨l, rfl, by cases e; exact h⟩
  | _ :: rs, _ :: ls, i + 1, r, ⟨_, h⟩, e => Rows.get (rs := rs) (ls := ls) (i := i) h e
  | [], [], _, _, _, e => by simp at e
  | [], _ :: _, _, _, h, _ => h.elim
  | _ :: _, [], _, _, h, _ => h.elim
theorem Rows.mem {H : Hp} {rs : List Addr} {ls : List (List Nat)} (h : Rows H rs ls) {r : Addr} (m : r ∈ rs) : ∃ l, l ∈ ls ∧ H r = some (.lst (rowV l)) := by
  obtain ⟨i, hi⟩ := List.mem_iff_getElem?.mp m
  obtain ⟨l, e, k⟩ := h.get hi
  exact ⟨l, List.mem_iff_getElem?.mpr ⟨i, e⟩, k⟩
/-- a list of lists: at q the list of the addresses rs, at these the rows ls -/
structure LLr (H : Hp) (q : Addr) (rs : List Addr) (ls : List (List Nat)) : Prop where
  at_ : H q = some (.lst (rs.map V.ref))
  rows : Rows H rs ls
  ne : ∀ r ∈ rs, r ≠ q
/-- the same, and of the rows' addresses N is true -/
def LL (N : Addr → Prop) (H : Hp) (q : Addr) (ls : List (List Nat)) : Prop := ∃ rs, LLr H q rs ls ∧ ∀ r ∈ rs, N r
theorem LLr.same {H H' : Hp} {q : Addr} {rs : List Addr} {ls : List (List Nat)} (h : LLr H q rs ls) (s : Same H H') : LLr H' q rs ls := ⟨s _ _ h.at_, h.rows.keep fun _ _ _ e => s _ _ e, h.ne⟩
theorem LL.same {N : Addr → Prop} {H H' : Hp} {q : Addr} {ls : List (List Nat)} (h : LL N H q ls) (s : Same H H') : LL N H' q ls := by
  obtain ⟨rs, h, n⟩ := h
  exact ⟨rs, h.same s, n⟩
/-- all but what stands at q is kept -/
def But (q : Addr) (H H' : Hp) : Prop := ∀ b o, H b = some o → b ≠ q → H' b = some o
theorem Same.upd_new {H : Hp} {p : Addr} {o : HO} (h : H p = none) : Same H (upd H p o) := fun b u e => by
  rw [upd_ne (ne_of_none e h)]; exact e
/-- appending a new row -/
theorem LLr.push {H : Hp} {q r : Addr} {rs : List Addr} {ls : List (List Nat)} {l : List Nat} (h : LLr H q rs ls) (hr : H r = some (.lst (rowV l))) (ne : r ≠ q) :
    LLr (upd H q (.lst (rs.map V.ref ++ [V.ref r]))) q (rs ++ [r]) (ls ++ [l]) := by
  refine ⟨?_, ?_, fun p m => ?_⟩
  · rw [upd_same, List.map_append]; rfl
  · refine Rows.snoc (by rw [upd_ne ne]; exact hr) (h.rows.keep fun p m o e => ?_)
    rw [upd_ne (h.ne p m)]; exact e
  · rcases List.mem_append.mp m with m | m
    · exact h.ne p m
    · rw [List.mem_singleton.mp m]; exact ne
/-- heaps_in -/
def spHin : Sp := fun vs H Q _ => ∃ (a b c : Nat), vs = [.int a, .int b, .int c] ∧ 0 < b ∧ a ≤ 3 ∧ b ≤ 3 ∧ c ≤ 4 ∧
  ∀ (H' : Hp) (p : Addr), Same H H' → H p = none → LL (fun r => H r = none) H' p (heapsIn a b c) → Q (.ref p) H'
section
variable {P : Program} {w : World} {K : PySem.W.Frag} {mg : Str → Option Value} {base : Heap}
abbrev nHin : List Str := ["a", "b", "c", "found", "place", "longer", "heights", "height"]
theorem scHin : FnScope nHin ["a", "b", "c"] (defScope sHin) := ⟨rfl, rfl, rfl, by decide +kernel, rfl, by decide +kernel, by decide +kernel⟩
theorem ok_hin {f fL : Addr} {fd fdL : FuncData} (F : Fun K "heaps_in" "heaps_in" sHin f fd) (gRan : mg "range" = none)
    (GL : FnOk P w K mg base CX0 1 fL fdL ["heights", "place", "b", "c"] (spLim K)) (cL : Cal K mg "limit_at" fL fdL ["heights", "place", "b", "c"]) : FnOk P w K mg base CX0 2 f fd ["a", "b", "c"] spHin := by
  refine F.ok scHin (fun vs H Q E h => ?_) (fun cdv A outer s H vs Q E hr h => ?_)
  · obtain ⟨a, b, c, rfl, _⟩ := h
    rfl
  · obtain ⟨a, b, c, rfl, hb, ha3, hb3, hc4, k⟩ := h
    refine ⟨_, pss_cons (ps_set (i := 3) scHin.nd rfl (Or.inl rfl) (pe_lst (pa_cons (pe_lst pa_nil) pa_nil)))
      (pss_cons (ps_for PassesOwn.never rfl (pi_range1 rfl gRan (pa_cons (pe_op op_mul (pv 0) (pv 1)) pa_nil)) (pg_name (i := 4) scHin.nd rfl (Or.inl rfl))
        (pss_cons (ps_set (i := 5) scHin.nd rfl (Or.inl rfl) (pe_lst pa_nil))
        (pss_cons (ps_for PassesOwn.never rfl (pi_list (pv 3)) (pg_name (i := 6) scHin.nd rfl (Or.inl rfl))
          (pss_one (ps_for PassesOwn.never rfl (pi_range1 rfl gRan (pa_cons (pe_op op_add (pe_call GL hr rfl cL.g cL.kp cL.b .nil pass0 (pa_cons (pv 6) (pa_cons (pv 4) (pa_cons (pv 1) (pa_cons (pv 2) pa_nil))))) pe_int) pa_nil)) (pg_name (i := 7) scHin.nd rfl (Or.inl rfl))
            (pss_one (ps_expr (pe_bm PySem.F.plainAttrs_list PySem.F.slot_list_append PySem.F.type_list_append mt_append (pv 5) (pa_cons (pe_op op_cat (pv 6) (pe_lst (pa_cons (pv 7) pa_nil))) pa_nil)))))))
        (pss_one (ps_set (i := 3) scHin.nd rfl (Or.inl rfl) (pv 5))))))
      (pss_one (ps_ret (pv 3)))), ?_⟩
    have hab : a * b ≤ 9 := Nat.mul_le_mul ha3 hb3
    have hz : ((a : Int) * (b : Int)) = ((a * b : Nat) : Int) := by simp
    -- found = [[]]
    refine ⟨Nat.zero_le _, fun t ht => ⟨(by show 1 ≤ sizeLine; decide), fun p hp => ?_⟩⟩
    have ntp : t ≠ p := fun e => by rw [← e, upd_same] at hp; cases hp
    have hp0 : H p = none := by rw [upd_ne ntp.symm] at hp; exact hp
    refine ⟨_, rfl, _, rfl, _, _, rfl, rfl, .inl ⟨by omega, by omega⟩, _, rfl, (by rw [hz]; omega), (by rw [hz]; omega), ?_⟩
    rw [hz]
    refine for_range (n := a * b) (fun i σ H' => ∃ (q : Addr) (v4 v5 v6 v7 : Option V), σ = [some (.int a), some (.int b), some (.int c), some (.ref q), v4, v5, v6, v7] ∧ Same H H' ∧ H q = none ∧ LL (fun r => H r = none) H' q (grown b c i))
      ⟨p, none, none, none, none, rfl, (Same.upd_new ht).trans (Same.upd_new hp), hp0, [t], ⟨?_, ⟨?_, trivial⟩, ?_⟩, fun r m => by rw [List.mem_singleton.mp m]; exact ht⟩ ?_ ?_
    · rw [upd_same]; rfl
    · rw [upd_ne ntp, upd_same]; rfl
    · intro r m; rw [List.mem_singleton.mp m]; exact ntp
    · rintro i σ H1 hi ⟨q, v4, v5, v6, v7, rfl, s1, q0, rs, L, _⟩
      have zi : (0 : Int) + (i : Int) = (i : Int) := by omega
      rw [zi]
      have hlen := grown_le (b := b) hc4 i
      have h5 := pow5 (i := i) (by omega)
      -- longer = []
      refine ⟨Nat.zero_le _, fun u hu => ?_⟩
      have nqu : q ≠ u := ne_of_none L.at_ hu
      have s2 : Same H1 (upd H1 u (.lst [])) := Same.upd_new hu
      have L2 := L.same s2
      have hru : ∀ r ∈ rs, r ≠ u := fun r m => by
        obtain ⟨l, _, e⟩ := L.rows.mem m
        exact ne_of_none e hu
      refine ⟨_, rfl, q, rfl, ⟨_, SqL.of L2.at_⟩, for_list (K := K) (a := q) (xs := rs.map V.ref) (fun j σ H2 => ∃ (w6 w7 : Option V), σ = [some (.int a), some (.int b), some (.int c), some (.ref q), some (.int i), some (.ref u), w6, w7] ∧
          Same H1 H2 ∧ H1 u = none ∧ LL (fun r => H r = none) H2 u (((grown b c i).take j).flatMap (ext b c i))) ⟨v6, v7, rfl, s2, hu, [], ⟨?_, trivial, ?_⟩, fun r m => by cases m⟩ ?_ ?_ ?_⟩
      · rw [upd_same]; rfl
      · intro r m; cases m
      · rintro j σ H2 _ ⟨_, _, _, s3, _⟩
        exact SqL.of (s3 _ _ L.at_)
      · rintro j y σ H2 hj ⟨w6, w7, rfl, s3, _, rs2, M, MN⟩
        obtain ⟨r, hr0, rfl⟩ : ∃ r, rs[j]? = some r ∧ y = V.ref r := by
          rw [List.getElem?_map] at hj
          cases e : rs[j]? with
          | none => rw [e] at hj; cases hj
          | some r => rw [e] at hj; exact ⟨r, rfl, (Option.some.inj hj).symm⟩
        obtain ⟨l, hl, hr1⟩ := L.rows.get hr0
        have hr2 : H2 r = some (.lst (rowV l)) := s3 _ _ hr1
        have hll : l.length = i := grown_len (List.mem_iff_getElem?.mpr ⟨j, hl⟩)
        have hjl : j < (grown b c i).length := (List.getElem?_eq_some_iff.mp hl).1
        have e1 : limI b c (Ti03.ints l) i + 1 = ((lim b c l i + 1 : Nat) : Int) := by rw [limI_ints]; rfl
        have hlim := lim_le b c l i
        have nru : r ≠ u := ne_of_none hr1 hu
        refine ⟨_, rfl, _, rfl, _, rfl, _, rfl, r, Ti03.ints l, i, b, c, rfl, SqL.of hr2, by simp [Ti03.ints, hll], hb, _, _, rfl, rfl, _, rfl, (by rw [e1]; omega), (by rw [e1]; omega), ?_⟩
        rw [e1]
        have hprev := flat_le (b := b) (p := i) hc4 ((grown b c i).take j)
        have hprev2 : ((grown b c i).take j).length ≤ j := by rw [List.length_take]; omega
        refine for_range (n := lim b c l i + 1) (fun k σ H3 => ∃ (w7 : Option V), σ = [some (.int a), some (.int b), some (.int c), some (.ref q), some (.int i), some (.ref u), some (.ref r), w7] ∧
          Same H1 H3 ∧ LL (fun r => H r = none) H3 u (((grown b c i).take j).flatMap (ext b c i) ++ (ext b c i l).take k)) ⟨w7, rfl, s3, rs2, by rw [List.take_zero, List.append_nil]; exact M, MN⟩ ?_ ?_
        · rintro k σ H3 hk ⟨w7, rfl, s4, rs3, M3, MN3⟩
          have zk : (0 : Int) + (k : Int) = (k : Int) := by omega
          rw [zk]
          have hr3 : H3 r = some (.lst (rowV l)) := s4 _ _ hr1
          have M3l : rs3.length ≤ 5 * j + k := by
            rw [M3.rows.len, List.length_append, List.length_take]
            omega
          have hsz : 5 * j + k < sizeLine := by
            have : (16777216 : Nat) = sizeLine := by decide
            omega
          refine ⟨_, rfl, .inl ⟨rfl, _, SqL.of M3.at_⟩, _, rfl, _, rfl, (by show 1 ≤ sizeLine; decide), fun t ht => ?_⟩
          have ntr : r ≠ t := ne_of_none hr3 ht
          have s5 : Same H3 (upd H3 t (.lst [V.int k])) := Same.upd_new ht
          refine ⟨r, t, rowV l, _, rfl, rfl, s5 _ _ hr3, upd_same, ?_, fun v hv => ?_⟩
          · have : (16777216 : Nat) = sizeLine := by decide
            have e3 : (rowV l).length = i := by simp [rowV, Ti03.ints, hll]
            rw [e3]
            show i + 1 ≤ sizeLine
            omega
          have s6 := Same.upd_new (o := .lst (rowV l ++ [V.int k])) hv
          refine ⟨u, _, _, rfl, rfl, s6 _ _ (s5 _ _ M3.at_), (by rw [List.length_map]; omega), ?_⟩
          have M4 := (M3.same s5).same s6
          have nvu : v ≠ u := (ne_of_none (s5 _ _ M3.at_) hv).symm
          have hv2 : upd (upd H3 t (.lst [V.int k])) v (.lst (rowV l ++ [V.int k])) v = some (.lst (rowV (l ++ [k]))) := by
            rw [upd_same]
            simp [rowV, Ti03.ints]
          refine ⟨_, rfl, fun x o e => ?_, rs3 ++ [v], ?_, fun r m => ?_⟩
          · rw [upd_ne (ne_of_none e hu)]
            exact s6 _ _ (s5 _ _ (s4 _ _ e))
          · have e4 : (ext b c i l).take (k + 1) = (ext b c i l).take k ++ [l ++ [k]] := by
              have : (ext b c i l)[k]? = some (l ++ [k]) := by
                unfold ext
                rw [List.getElem?_map, List.getElem?_range hk]
                rfl
              rw [List.take_add_one, this]; rfl
            rw [e4, ← List.append_assoc]
            exact M4.push hv2 nvu
          · rcases List.mem_append.mp m with m | m
            · exact MN3 r m
            · rw [List.mem_singleton.mp m]
              exact s1.free (s4.free (s5.free hv))
        · rintro σ H3 ⟨w7, rfl, s4, M3⟩
          have e5 : (ext b c i l).take (lim b c l i + 1) = ext b c i l := List.take_of_length_le (by rw [ext_len]; omega)
          rw [e5] at M3
          refine ⟨_, _, rfl, s4, hu, ?_⟩
          have e2 : (grown b c i).take (j + 1) = (grown b c i).take j ++ [l] := by
            rw [List.take_add_one, hl]; rfl
          rw [e2, List.flatMap_append, List.flatMap_cons, List.flatMap_nil, List.append_nil]
          exact M3
      · rintro σ H2 ⟨w6, w7, rfl, s3, _, rs2, M, MN⟩
        have e3 : (grown b c i).take (rs.map V.ref).length = grown b c i := List.take_of_length_le (by rw [List.length_map, L.rows.len]; exact Nat.le_refl _)
        rw [e3] at M
        exact ⟨_, rfl, u, _, _, _, _, rfl, s1.trans s3, s1.free hu, rs2, M, MN⟩
    · rintro σ H' ⟨q, v4, v5, v6, v7, rfl, s1, q0, L⟩
      exact ⟨_, rfl, k _ _ s1 q0 L⟩
end
end CH

namespace CH
open PySem PySem.Spec PyProof.Rows L2
abbrev sInit : Stmt := inClass (top 19) 0
abbrev sRes : Stmt := inClass (top 19) 1
abbrev sFits : Stmt := inClass (top 19) 2
abbrev sWithin : Stmt := top 20
/-! ### the box in the heap -/
theorem lk_here {k : Str} {v : V} {r : List (Str × V)} : List.lookup k ((k, v) :: r) = some v := by
  have e : (k == k) = true := beq_self_eq_true k
  simp only [List.lookup, e]
theorem lk_past {k g : Str} {v : V} {r : List (Str × V)} (h : (k == g) = false) : List.lookup k ((g, v) :: r) = List.lookup k r := by
  simp only [List.lookup, h]
theorem put_here {f : Str} {v x : V} {r : List (Str × V)} : putF f v ((f, x) :: r) = (f, v) :: r := if_pos rfl
theorem put_past {f g : Str} {v x : V} {r : List (Str × V)} (h : ¬ g = f) : putF f v ((g, x) :: r) = (g, x) :: putF f v r := if_neg h
def bF (a b c : Nat) (lh lt : Addr) : List (Str × V) := [("a", .int a), ("b", .int b), ("c", .int c), ("heaps", .ref lh), ("heights", .ref lt)]
section
variable {a b c : Nat} {lh lt : Addr}
theorem bF_a : (bF a b c lh lt).lookup ("a" : Str) = some (.int a) := lk_here
theorem bF_b : (bF a b c lh lt).lookup ("b" : Str) = some (.int b) := (lk_past (by decide +kernel)).trans lk_here
theorem bF_c : (bF a b c lh lt).lookup ("c" : Str) = some (.int c) := (lk_past (by decide +kernel)).trans ((lk_past (by decide +kernel)).trans lk_here)
theorem bF_heaps : (bF a b c lh lt).lookup ("heaps" : Str) = some (.ref lh) := (lk_past (by decide +kernel)).trans ((lk_past (by decide +kernel)).trans ((lk_past (by decide +kernel)).trans lk_here))
theorem bF_heights : (bF a b c lh lt).lookup ("heights" : Str) = some (.ref lt) := (lk_past (by decide +kernel)).trans ((lk_past (by decide +kernel)).trans ((lk_past (by decide +kernel)).trans ((lk_past (by decide +kernel)).trans lk_here)))
theorem bF_no {m : Str} (h1 : (m == ("a" : Str)) = false) (h2 : (m == ("b" : Str)) = false) (h3 : (m == ("c" : Str)) = false) (h4 : (m == ("heaps" : Str)) = false) (h5 : (m == ("heights" : Str)) = false) : (bF a b c lh lt).lookup m = none :=
  (lk_past h1).trans ((lk_past h2).trans ((lk_past h3).trans ((lk_past h4).trans ((lk_past h5).trans rfl))))
theorem bF_fits : (bF a b c lh lt).lookup ("fits" : Str) = none := bF_no (by decide +kernel) (by decide +kernel) (by decide +kernel) (by decide +kernel) (by decide +kernel)
theorem bF_resize : (bF a b c lh lt).lookup ("resize" : Str) = none := bF_no (by decide +kernel) (by decide +kernel) (by decide +kernel) (by decide +kernel) (by decide +kernel)
theorem bF_put_a {a' : Nat} : putF "a" (.int a') (bF a b c lh lt) = bF a' b c lh lt := put_here
theorem bF_put_b {b' : Nat} : putF "b" (.int b') (bF a b c lh lt) = bF a b' c lh lt := (put_past (by decide +kernel)).trans (congrArg _ put_here)
theorem bF_put_c {c' : Nat} : putF "c" (.int c') (bF a b c lh lt) = bF a b c' lh lt := (put_past (by decide +kernel)).trans (congrArg _ ((put_past (by decide +kernel)).trans (congrArg _ put_here)))
theorem bF_put_heaps {lh' : Addr} : putF "heaps" (.ref lh') (bF a b c lh lt) = bF a b c lh' lt := (put_past (by decide +kernel)).trans (congrArg _ ((put_past (by decide +kernel)).trans (congrArg _ ((put_past (by decide +kernel)).trans (congrArg _ put_here)))))
theorem bF_put_heights {lt' : Addr} : putF "heights" (.ref lt') (bF a b c lh lt) = bF a b c lh lt' := (put_past (by decide +kernel)).trans (congrArg _ ((put_past (by decide +kernel)).trans (congrArg _ ((put_past (by decide +kernel)).trans (congrArg _ ((put_past (by decide +kernel)).trans (congrArg _ put_here)))))))
theorem bF_len : (bF a b c lh lt).length < 1000 := by show 5 < 1000; decide
end
/-- at p a box stands whose fields are these: the size a, b, c, all heaps of the size at lh, the heights at lt; none of its lists is one of X -/
structure BoxR (X : Addr → Prop) (C : Addr) (H : Hp) (p : Addr) (dx lh lt : Addr) (d : Ti03.St) : Prop where
  ob : H p = some (.ins C dx (bF d.box.a d.box.b d.box.c lh lt))
  hs : LL (fun r => ¬ X r) H lh (heapsIn d.box.a d.box.b d.box.c)
  ht : H lt = some (.lst (rowV d.heap.flatten))
  xh : ¬ X lh
  xt : ¬ X lt
  good : Good d.box
  ok : Ti03.isHeap d.box d.heap = true
def BoxAt (X : Addr → Prop) (C : Addr) (H : Hp) (p : Addr) (d : Ti03.St) : Prop := ∃ dx lh lt, BoxR X C H p dx lh lt d
/-- what is of X is there -/
def Alive (X : Addr → Prop) (H : Hp) : Prop := ∀ a, X a → H a ≠ none
theorem Alive.new {X : Addr → Prop} {H : Hp} {u : Addr} (a : Alive X H) (h : H u = none) : ¬ X u := fun z => a u z h
theorem LL.but {N : Addr → Prop} {H H' : Hp} {q p C dx : Addr} {fs : List (Str × V)} {ls : List (List Nat)} (h : LL N H q ls) (hp : H p = some (.ins C dx fs)) (k : But p H H') : LL N H' q ls := by
  obtain ⟨rs, h, n⟩ := h
  refine ⟨rs, ⟨k _ _ h.at_ (ne_of h.at_ hp (by intro z; cases z)), h.rows.keep fun r m o e => ?_, h.ne⟩, n⟩
  obtain ⟨l, _, e'⟩ := h.rows.mem m
  exact k _ _ e (ne_of e' hp (by intro z; cases z))
theorem LL.mono {N M : Addr → Prop} {H : Hp} {q : Addr} {ls : List (List Nat)} (h : LL N H q ls) (k : ∀ r, N r → M r) : LL M H q ls := by
  obtain ⟨rs, h, n⟩ := h
  exact ⟨rs, h, fun r m => k r (n r m)⟩
/-- the heights are given anew -/
theorem BoxR.heights {X : Addr → Prop} {C p dx lh lt lt' : Addr} {H H' : Hp} {d : Ti03.St} {h : Ti03.Heap} (B : BoxR X C H p dx lh lt d) (k : But p H H') (ob : H' p = some (.ins C dx (bF d.box.a d.box.b d.box.c lh lt'))) (ht : H' lt' = some (.lst (rowV h.flatten))) (xt : ¬ X lt') (ok : Ti03.isHeap d.box h = true) : BoxAt X C H' p { d with heap := h } :=
  ⟨dx, lh, lt', ob, B.hs.but B.ob k, ht, B.xh, xt, B.good, ok⟩
theorem BoxR.same {X : Addr → Prop} {C p dx lh lt : Addr} {H H' : Hp} {d : Ti03.St} (B : BoxR X C H p dx lh lt d) (s : Same H H') : BoxR X C H' p dx lh lt d := ⟨s _ _ B.ob, B.hs.same s, s _ _ B.ht, B.xh, B.xt, B.good, B.ok⟩
theorem BoxAt.same {X : Addr → Prop} {C p : Addr} {H H' : Hp} {d : Ti03.St} (B : BoxAt X C H p d) (s : Same H H') : BoxAt X C H' p d := by
  obtain ⟨dx, lh, lt, B⟩ := B
  exact ⟨dx, lh, lt, B.same s⟩
/-- a new address is none of the box's -/
theorem BoxAt.avoid {X : Addr → Prop} {C p t : Addr} {H : Hp} {d : Ti03.St} (B : BoxAt X C H p d) (ht : H t = none) : BoxAt (fun a => a = t) C H p d := by
  obtain ⟨dx, lh, lt, B⟩ := B
  obtain ⟨rs, L, _⟩ := B.hs
  refine ⟨dx, lh, lt, B.ob, ⟨rs, L, fun r m z => ?_⟩, B.ht, fun z => ?_, fun z => ?_, B.good, B.ok⟩
  · obtain ⟨l, _, e⟩ := L.rows.mem m
    rw [z, ht] at e
    cases e
  · have e := L.at_
    rw [z, ht] at e
    cases e
  · have e := B.ht
    rw [z, ht] at e
    cases e
/-- what is none of the box's may be written to -/
theorem BoxAt.upd {C p t : Addr} {H : Hp} {d : Ti03.St} {o : HO} (B : BoxAt (fun a => a = t) C H p d) (n : p ≠ t) : BoxAt (fun a => a = t) C (upd H t o) p d := by
  obtain ⟨dx, lh, lt, B⟩ := B
  obtain ⟨rs, L, xr⟩ := B.hs
  refine ⟨dx, lh, lt, by rw [upd_ne n]; exact B.ob, ⟨rs, ⟨by rw [upd_ne B.xh]; exact L.at_, L.rows.keep fun r m o e => ?_, L.ne⟩, xr⟩, by rw [upd_ne B.xt]; exact B.ht, B.xh, B.xt, B.good, B.ok⟩
  rw [upd_ne (xr r m)]
  exact e
theorem Same.but {H H' : Hp} {p : Addr} (s : Same H H') : But p H H' := fun b o e _ => s b o e
theorem But.refl (H : Hp) (p : Addr) : But p H H := fun _ _ e _ => e
theorem But.trans {p : Addr} {H H1 H2 : Hp} (a : But p H H1) (b : But p H1 H2) : But p H H2 := fun x o e n => b x o (a x o e n) n
theorem But.fresh {p r : Addr} {H H' : Hp} {o : HO} (k : But p H H') (hp : H' p = some o) (hr : H' r = none) : H r = none := by
  cases e : H r with
  | none => rfl
  | some u =>
    by_cases q : r = p
    · rw [q, hp] at hr; cases hr
    · rw [k r u e q] at hr; cases hr
theorem But.upd {H : Hp} {p : Addr} {o : HO} : But p H (L2.upd H p o) := fun b u e n => by rw [upd_ne n]; exact e
theorem But.seq {K : PySem.W.Frag} {p : Addr} {H H' : Hp} {q : Addr} {xs : List V} {C dx : Addr} {fs : List (Str × V)} (k : But p H H') (hp : H p = some (.ins C dx fs)) (h : H q = some (.lst xs)) : H' q = some (.lst xs) :=
  k _ _ h (ne_of h hp (by intro z; cases z))
/-- what the top has written of the class and of built-ins -/
structure Txt (K : PySem.W.Frag) (mg : Str → Option Value) (C : Addr) : Prop where
  cl : Cls K C
  na : NoAttr K C "a"
  nb : NoAttr K C "b"
  nc : NoAttr K C "c"
  nhs : NoAttr K C "heaps"
  nht : NoAttr K C "heights"
  gC : mg "Box" = some (.ref C)
  len : mg "len" = none
  range : mg "range" = none
  list : mg "list" = none
  sum : mg "sum" = none
  min : mg "min" = none
  max : mg "max" = none
  abs : mg "abs" = none
  zip : mg "zip" = none
  enum : mg "enumerate" = none
  rev : mg "reversed" = none
/-! ### moved -/
def spMov (K : PySem.W.Frag) : Sp := fun vs H Q _ => ∃ (q : Addr) (ns : List Int) (p : Nat) (z : Int), vs = [.ref q, .int p, .int z] ∧ SqL K H q (ns.map V.int) ∧ p < ns.length ∧
  ∀ (H' : Hp) (t : Addr), Same H H' → H t = none → H' t = some (.lst ((ns.set p (ns.getD p 0 + z)).map V.int)) → Q (.ref t) H'
def spWithin : Sp := fun vs H Q _ => ∃ (n m : Int), vs = [.int n, .int m] ∧ Q (.bl (decide (1 ≤ n) && decide (n ≤ m))) H
def spInit (C : Addr) : Sp := fun vs H Q _ => ∃ (p dx : Addr), vs = [.ref p] ∧ H p = some (.ins C dx []) ∧ ∀ H' : Hp, BoxAt (fun _ => False) C H' p Ti03.init → But p H H' → Q .non H'
def spRes (C : Addr) : Sp := fun vs H Q _ => ∃ (X : Addr → Prop) (p lt : Addr) (d : Ti03.St) (a b c : Nat) (h : Ti03.Heap), vs = [.ref p, .int a, .int b, .int c, .ref lt] ∧ BoxAt X C H p d ∧ Alive X H ∧ Good ⟨a, b, c⟩ ∧ Ti03.isHeap ⟨a, b, c⟩ h = true ∧ H lt = some (.lst (rowV h.flatten)) ∧ ¬ X lt ∧
  ∀ H' : Hp, BoxAt X C H' p ⟨⟨a, b, c⟩, h⟩ → But p H H' → Q .non H'
def spFits (K : PySem.W.Frag) (C : Addr) : Sp := fun vs H Q _ => ∃ (X : Addr → Prop) (p q : Addr) (d : Ti03.St) (ns : List Int), vs = [.ref p, .ref q] ∧ BoxAt X C H p d ∧ SqL K H q (ns.map V.int) ∧ Q (.bl (okI d.box.a d.box.b d.box.c ns)) H
section
variable {P : Program} {w : World} {K : PySem.W.Frag} {mg : Str → Option Value} {base : Heap} {C : Addr}
theorem scMov : FnScope ["heights", "place", "step", "after"] ["heights", "place", "step"] (defScope sMov) := ⟨rfl, rfl, rfl, by decide +kernel, rfl, by decide +kernel, by decide +kernel⟩
theorem ok_mov {f : Addr} {fd : FuncData} (F : Fun K "moved" "moved" sMov f fd) (T : Txt K mg C) : FnOk P w K mg base CX0 1 f fd ["heights", "place", "step"] (spMov K) := by
  refine F.ok scMov (fun vs H Q E h => ?_) (fun cdv A outer s H vs Q E hr h => ?_)
  · obtain ⟨q, ns, p, z, rfl, _⟩ := h
    rfl
  · obtain ⟨q, ns, p, z, rfl, hS, hp, k⟩ := h
    refine ⟨_, pss_cons (ps_set (i := 3) scMov.nd rfl (Or.inl rfl) (pe_callTy call_list_of (by rfl) T.list (by decide +kernel) (pa_cons (pv 0) pa_nil)))
      (pss_cons (ps_asg (pe_op op_add (pe_ix ix_list (pv 3) (pv 1) (fun _ _ => rfl)) (pv 2)) (pg_sub (pv 3) (pv 1) set_list))
      (pss_one (ps_ret (pv 3)))), ?_⟩
    refine ⟨_, rfl, q, _, rfl, .inl hS, fun t ht => ?_⟩
    refine ⟨_, rfl, _, rfl, t, _, _, _, rfl, rfl, SqL.of upd_same, at_int hp, _, rfl, _, _, rfl, rfl, _, rfl, _, rfl, t, _, _, p, rfl, rfl, upd_same, ?_, ?_⟩
    · unfold ixN
      rw [List.length_map, if_pos (by omega), if_pos (by omega)]
      rfl
    · refine ⟨_, rfl, k _ t ?_ ht ?_⟩
      · intro b o e
        rw [upd_ne (ne_of_none e ht), upd_ne (ne_of_none e ht)]
        exact e
      · rw [upd_same, List.map_set]
theorem scWithin : FnScope ["number", "most"] ["number", "most"] (defScope sWithin) := ⟨rfl, rfl, rfl, by decide +kernel, rfl, by decide +kernel, by decide +kernel⟩
theorem ok_within {f : Addr} {fd : FuncData} (F : Fun K "is_within" "is_within" sWithin f fd) : FnOk P w K mg base CX0 1 f fd ["number", "most"] spWithin := by
  refine F.ok scWithin (fun vs H Q E h => ?_) (fun cdv A outer s H vs Q E hr h => ?_)
  · obtain ⟨n, m, rfl, _⟩ := h
    rfl
  · obtain ⟨n, m, rfl, k⟩ := h
    refine ⟨_, pss_one (ps_ret (pe_and (pe_cmpR op_le pe_int (pv 0) (nomark _)) (pe_one (pe_cmpR op_le (pv 0) (pv 1) (nomark _))))), ?_⟩
    refine ⟨_, rfl, _, _, rfl, rfl, _, rfl, ?_⟩
    by_cases c1 : 1 ≤ n
    · rw [decide_eq_true c1] at k ⊢
      exact iteT ⟨_, rfl, _, rfl, _, _, rfl, rfl, k⟩
    · rw [decide_eq_false c1] at k ⊢
      exact iteF k
theorem scFits : FnScope ["self", "heights"] ["self", "heights"] (defScope sFits) := ⟨rfl, rfl, rfl, by decide +kernel, rfl, by decide +kernel, by decide +kernel⟩
theorem ok_fits {f fH : Addr} {fd fdH : FuncData} (F : Fun K "fits" "Box.fits" sFits f fd) (T : Txt K mg C) (GH : FnOk P w K mg base CX0 2 fH fdH ["heights", "a", "b", "c"] (spIsH K)) (cH : Cal K mg "is_heap" fH fdH ["heights", "a", "b", "c"]) :
    FnOk P w K mg base CX0 3 f fd ["self", "heights"] (spFits K C) := by
  refine F.ok scFits (fun vs H Q E h => ?_) (fun cdv A outer s H vs Q E hr h => ?_)
  · obtain ⟨X, p, q, d, ns, rfl, _⟩ := h
    rfl
  · obtain ⟨X, p, q, d, ns, rfl, ⟨dx, lh, lt, B⟩, hS, k⟩ := h
    refine ⟨_, pss_one (ps_ret (pe_call GH hr rfl cH.g cH.kp cH.b .nil pass0 (pa_cons (pv 1) (pa_cons (pe_fld (pv 0) rfl) (pa_cons (pe_fld (pv 0) rfl) (pa_cons (pe_fld (pv 0) rfl) pa_nil)))))), ?_⟩
    exact ⟨_, rfl, _, rfl, p, C, dx, _, _, rfl, B.ob, T.cl, T.na, bF_a, _, rfl, p, C, dx, _, _, rfl, B.ob, T.cl, T.nb, bF_b, _, rfl, p, C, dx, _, _, rfl, B.ob, T.cl, T.nc, bF_c,
      q, ns, _, _, _, rfl, hS, B.good.b1, B.good.a3, B.good.b3, k⟩
end
end CH

namespace CH
open PySem PySem.Spec PyProof.Rows L2
theorem empty_flat {x : Ti03.Box} (g : Good x) : (Ti03.empty x).heap.flatten = List.replicate (x.a * x.b) 0 := by
  show (Ti03.make x fun _ _ => 0).flatten = _
  rw [make_flat g]
  simp [List.map_const']
theorem empty_ok {x : Ti03.Box} (g : Good x) : Ti03.isHeap x (Ti03.empty x).heap = true := by
  obtain ⟨a, b, c⟩ := x
  exact floors (P := fun a b => Ti03.isHeap ⟨a, b, c⟩ (Ti03.empty ⟨a, b, c⟩).heap = true) (by simp [Ti03.isHeap, Ti03.empty, Ti03.make, Ti03.at_, List.range_succ]) (by simp [Ti03.isHeap, Ti03.empty, Ti03.make, Ti03.at_, List.range_succ]) (by simp [Ti03.isHeap, Ti03.empty, Ti03.make, Ti03.at_, List.range_succ])
    (by simp [Ti03.isHeap, Ti03.empty, Ti03.make, Ti03.at_, List.range_succ]) (by simp [Ti03.isHeap, Ti03.empty, Ti03.make, Ti03.at_, List.range_succ]) (by simp [Ti03.isHeap, Ti03.empty, Ti03.make, Ti03.at_, List.range_succ])
    (by simp [Ti03.isHeap, Ti03.empty, Ti03.make, Ti03.at_, List.range_succ]) (by simp [Ti03.isHeap, Ti03.empty, Ti03.make, Ti03.at_, List.range_succ]) (by simp [Ti03.isHeap, Ti03.empty, Ti03.make, Ti03.at_, List.range_succ]) g
theorem good1 : Good ⟨1, 1, 1⟩ := ⟨by decide, by decide, by decide, by decide, by decide, by decide⟩
theorem pf1 {v : V} : putF "a" v [] = [(("a" : Str), v)] := rfl
theorem pf2 {v u : V} : putF "b" v [(("a" : Str), u)] = [(("a" : Str), u), (("b" : Str), v)] := (put_past (by decide +kernel)).trans rfl
theorem pf3 {v u t : V} : putF "c" v [(("a" : Str), u), (("b" : Str), t)] = [(("a" : Str), u), (("b" : Str), t), (("c" : Str), v)] := (put_past (by decide +kernel)).trans (congrArg _ ((put_past (by decide +kernel)).trans rfl))
theorem pf4 {v u t r : V} : putF "heaps" v [(("a" : Str), u), (("b" : Str), t), (("c" : Str), r)] = [(("a" : Str), u), (("b" : Str), t), (("c" : Str), r), (("heaps" : Str), v)] := (put_past (by decide +kernel)).trans (congrArg _ ((put_past (by decide +kernel)).trans (congrArg _ ((put_past (by decide +kernel)).trans rfl))))
theorem pf5 {v u t r q : V} : putF "heights" v [(("a" : Str), u), (("b" : Str), t), (("c" : Str), r), (("heaps" : Str), q)] = [(("a" : Str), u), (("b" : Str), t), (("c" : Str), r), (("heaps" : Str), q), (("heights" : Str), v)] := (put_past (by decide +kernel)).trans (congrArg _ ((put_past (by decide +kernel)).trans (congrArg _ ((put_past (by decide +kernel)).trans (congrArg _ ((put_past (by decide +kernel)).trans rfl))))))
section
variable {P : Program} {w : World} {K : PySem.W.Frag} {mg : Str → Option Value} {base : Heap} {C : Addr}
theorem scInit : FnScope ["self"] ["self"] (defScope sInit) := ⟨rfl, rfl, rfl, by decide +kernel, rfl, by decide +kernel, by decide +kernel⟩
theorem ok_init {f fG : Addr} {fd fdG : FuncData} (F : Fun K "__init__" "Box.__init__" sInit f fd) (T : Txt K mg C) (GG : FnOk P w K mg base CX0 2 fG fdG ["a", "b", "c"] spHin) (cG : Cal K mg "heaps_in" fG fdG ["a", "b", "c"]) :
    FnOk P w K mg base CX0 3 f fd ["self"] (spInit C) := by
  refine F.ok scInit (fun vs H Q E h => ?_) (fun cdv A outer s H vs Q E hr h => ?_)
  · obtain ⟨p, dx, rfl, _⟩ := h
    rfl
  · obtain ⟨p, dx, rfl, hp, k⟩ := h
    refine ⟨_, pss_cons (ps_fld (pv 0) pe_int rfl) (pss_cons (ps_fld (pv 0) pe_int rfl) (pss_cons (ps_fld (pv 0) pe_int rfl)
      (pss_cons (ps_fld (pv 0) (pe_call GG hr rfl cG.g cG.kp cG.b .nil pass0 (pa_cons pe_int (pa_cons pe_int (pa_cons pe_int pa_nil)))) rfl)
      (pss_one (ps_fld (pv 0) (pe_lst (pa_cons pe_int pa_nil)) rfl))))), ?_⟩
    refine ⟨_, rfl, p, C, dx, [], rfl, hp, T.cl, T.na, (by show 0 < 1000; decide), ?_⟩
    rw [pf1]
    refine ⟨_, rfl, p, C, dx, _, rfl, upd_same, T.cl, T.nb, (by show 1 < 1000; decide), ?_⟩
    rw [pf2]
    refine ⟨_, rfl, p, C, dx, _, rfl, upd_same, T.cl, T.nc, (by show 2 < 1000; decide), ?_⟩
    rw [pf3]
    refine ⟨1, 1, 1, rfl, by decide, by decide, by decide, by decide, fun H1 lh s1 nlh L1 => ?_⟩
    have hp1 := s1 _ _ upd_same
    refine ⟨_, rfl, p, C, dx, _, rfl, hp1, T.cl, T.nhs, (by show 3 < 1000; decide), ?_⟩
    rw [pf4]
    refine ⟨(by show 1 ≤ sizeLine; decide), fun lt hlt => ?_⟩
    have npt : p ≠ lt := fun e => by rw [← e, upd_same] at hlt; cases hlt
    refine ⟨_, rfl, p, C, dx, _, rfl, (by rw [upd_ne npt]; exact upd_same), T.cl, T.nht, (by show 4 < 1000; decide), ?_⟩
    rw [pf5]
    have k1 : But p H H1 := (But.upd.trans (But.upd.trans But.upd)).trans (Same.but s1)
    have k2 : But p H1 (upd (upd (upd H1 p (.ins C dx [(("a" : Str), V.int 1), (("b" : Str), V.int 1), (("c" : Str), V.int 1), (("heaps" : Str), V.ref lh)])) lt (.lst [V.int 0])) p
      (.ins C dx [(("a" : Str), V.int 1), (("b" : Str), V.int 1), (("c" : Str), V.int 1), (("heaps" : Str), V.ref lh), (("heights" : Str), V.ref lt)])) := But.upd.trans ((Same.but (Same.upd_new hlt)).trans But.upd)
    refine k _ ⟨dx, lh, lt, upd_same, (L1.but hp1 k2).mono (fun _ _ z => z), ?_, fun z => z, fun z => z, good1, empty_ok good1⟩ (k1.trans k2)
    rw [upd_ne npt.symm, upd_same]
    rfl
theorem scRes : FnScope ["self", "a", "b", "c", "heights"] ["self", "a", "b", "c", "heights"] (defScope sRes) := ⟨rfl, rfl, rfl, by decide +kernel, rfl, by decide +kernel, by decide +kernel⟩
theorem ok_res {f fG : Addr} {fd fdG : FuncData} (F : Fun K "resize" "Box.resize" sRes f fd) (T : Txt K mg C) (GG : FnOk P w K mg base CX0 2 fG fdG ["a", "b", "c"] spHin) (cG : Cal K mg "heaps_in" fG fdG ["a", "b", "c"]) :
    FnOk P w K mg base CX0 3 f fd ["self", "a", "b", "c", "heights"] (spRes C) := by
  refine F.ok scRes (fun vs H Q E h => ?_) (fun cdv A outer s H vs Q E hr h => ?_)
  · obtain ⟨X, p, lt, d, a, b, c, h, rfl, _⟩ := h
    rfl
  · obtain ⟨X, p, lt, d, a, b, c, h, rfl, ⟨dx, lh0, lt0, B⟩, al, g, hok, hlt, xlt, k⟩ := h
    refine ⟨_, pss_cons (ps_fld (pv 0) (pv 1) rfl) (pss_cons (ps_fld (pv 0) (pv 2) rfl) (pss_cons (ps_fld (pv 0) (pv 3) rfl)
      (pss_cons (ps_fld (pv 0) (pe_call GG hr rfl cG.g cG.kp cG.b .nil pass0 (pa_cons (pv 1) (pa_cons (pv 2) (pa_cons (pv 3) pa_nil)))) rfl)
      (pss_one (ps_fld (pv 0) (pv 4) rfl))))), ?_⟩
    have ga := g.a3; have gb := g.b3; have gc := g.c4; have gb1 := g.b1
    dsimp only at ga gb gc gb1
    refine ⟨_, rfl, _, rfl, p, C, dx, _, rfl, B.ob, T.cl, T.na, bF_len, ?_⟩
    rw [bF_put_a]
    refine ⟨_, rfl, _, rfl, p, C, dx, _, rfl, upd_same, T.cl, T.nb, bF_len, ?_⟩
    rw [bF_put_b]
    refine ⟨_, rfl, _, rfl, p, C, dx, _, rfl, upd_same, T.cl, T.nc, bF_len, ?_⟩
    rw [bF_put_c]
    refine ⟨_, rfl, _, rfl, _, rfl, a, b, c, rfl, gb1, ga, gb, gc, fun H1 lh s1 nlh L1 => ?_⟩
    have hp1 := s1 _ _ upd_same
    refine ⟨_, rfl, p, C, dx, _, rfl, hp1, T.cl, T.nhs, bF_len, ?_⟩
    rw [bF_put_heaps]
    refine ⟨_, rfl, _, rfl, p, C, dx, _, rfl, upd_same, T.cl, T.nht, bF_len, ?_⟩
    rw [bF_put_heights]
    have k0 : But p H (upd (upd (upd H p (.ins C dx (bF a d.box.b d.box.c lh0 lt0))) p (.ins C dx (bF a b d.box.c lh0 lt0))) p (.ins C dx (bF a b c lh0 lt0))) := But.upd.trans (But.upd.trans But.upd)
    have k1 : But p H H1 := k0.trans (Same.but s1)
    have k2 := (But.upd (H := H1) (p := p) (o := .ins C dx (bF a b c lh lt0))).trans (But.upd (o := .ins C dx (bF a b c lh lt)))
    refine k _ ⟨dx, lh, lt, upd_same, (L1.but hp1 k2).mono (fun r hr0 => al.new (k0.fresh upd_same hr0)), ?_, al.new (k0.fresh upd_same nlh), xlt, g, hok⟩ (k1.trans k2)
    exact (k1.trans k2) _ _ hlt (ne_of hlt B.ob (by intro z; cases z))
end
end CH

namespace CH
open PySem PySem.Spec PyProof.Rows L2
open Ti03Neutral (callIn)
abbrev sBox : Stmt := top 21
abbrev sHeap : Stmt := top 22
abbrev sNth : Stmt := top 23
abbrev sRank : Stmt := top 24
abbrev sMove : Stmt := top 25
abbrev sPut : Stmt := top 26
abbrev sTake : Stmt := top 27
/-- what every call's def keeps: handed the box and the call's numbers, it answers as the specification says and leaves the box so -/
def spAct (K : PySem.W.Frag) (C : Addr) (n : Nat) : Sp := fun vs H Q _ => ∃ (X : Addr → Prop) (p q : Addr) (d : Ti03.St) (ns : List Nat) (c : Ti03.Call), vs = [.ref p, .ref q] ∧ BoxAt X C H p d ∧ Alive X H ∧ SqL K H q (rowV ns) ∧ callIn (n :: ns) = some c ∧
  ∀ (H' : Hp) (r : Addr), But p H H' → H r = none → BoxAt X C H' p (Ti03.step d c).1 → H' r = some (.lst ((Ti03.step d c).2.map V.int)) → Q (.ref r) H'
/-- the numbers that the top's names hold -/
structure Nums (mg : Str → Option Value) : Prop where
  nat : ∃ t, mg "NOT_AS_TOLD" = some (.int (-1) t)
  nsh : ∃ t, mg "NO_SUCH_HEAP" = some (.int (-2) t)
  mnb : ∃ t, mg "MAY_NOT_BE" = some (.int (-6) t)
  mr : ∃ t, mg "MOST_ROWS" = some (.int 3 t)
  mc : ∃ t, mg "MOST_COLUMNS" = some (.int 3 t)
  mh : ∃ t, mg "MOST_HIGH" = some (.int 4 t)
theorem in0 {ns : List Nat} {c : Ti03.Call} (h : callIn (0 :: ns) = some c) : ∃ x y z, ns = [x, y, z] ∧ c = .box x y z := by
  match ns, h with
  | [x, y, z], h => exact ⟨x, y, z, rfl, (Option.some.inj h).symm⟩
theorem in1 {ns : List Nat} {c : Ti03.Call} (h : callIn (1 :: ns) = some c) : c = .heap ns := (Option.some.inj h).symm
theorem in2 {ns : List Nat} {c : Ti03.Call} (h : callIn (2 :: ns) = some c) : ∃ x, ns = [x] ∧ c = .nth x := by
  match ns, h with
  | [x], h => exact ⟨x, rfl, (Option.some.inj h).symm⟩
theorem in3 {ns : List Nat} {c : Ti03.Call} (h : callIn (3 :: ns) = some c) : ns = [] ∧ c = .rank := by
  match ns, h with
  | [], h => exact ⟨rfl, (Option.some.inj h).symm⟩
theorem in4 {ns : List Nat} {c : Ti03.Call} (h : callIn (4 :: ns) = some c) : ∃ x y, ns = [x, y] ∧ c = .put x y := by
  match ns, h with
  | [x, y], h => exact ⟨x, y, rfl, (Option.some.inj h).symm⟩
theorem in5 {ns : List Nat} {c : Ti03.Call} (h : callIn (5 :: ns) = some c) : ∃ x y, ns = [x, y] ∧ c = .take x y := by
  match ns, h with
  | [x, y], h => exact ⟨x, y, rfl, (Option.some.inj h).symm⟩
theorem in6 {ns : List Nat} {c : Ti03.Call} (h : callIn (6 :: ns) = some c) : ns = [] ∧ c = .corners := by
  match ns, h with
  | [], h => exact ⟨rfl, (Option.some.inj h).symm⟩
theorem in7 {ns : List Nat} {c : Ti03.Call} (h : callIn (7 :: ns) = some c) : ∃ x, ns = [x] ∧ c = .volume x := by
  match ns, h with
  | [x], h => exact ⟨x, rfl, (Option.some.inj h).symm⟩
theorem LL.len {H : Hp} {q : Addr} {rs : List Addr} {ls : List (List Nat)} (h : LLr H q rs ls) : (rs.map V.ref).length = ls.length := by rw [List.length_map, h.rows.len]
theorem heapsIn_len {x : Ti03.Box} (g : Good x) : (heapsIn x.a x.b x.c).length = (Ti03.heaps x).length := by rw [heapsIn_eq g, List.length_map]
section
variable {P : Program} {w : World} {K : PySem.W.Frag} {mg : Str → Option Value} {base : Heap} {C : Addr}
theorem scBox : FnScope ["box", "numbers", "a", "b", "c"] ["box", "numbers"] (defScope sBox) := ⟨rfl, rfl, rfl, by decide +kernel, rfl, by decide +kernel, by decide +kernel⟩
theorem within_iff {n : Nat} {m : Nat} {z : Int} (e : z = m) : (decide ((1 : Int) ≤ (n : Int)) && decide ((n : Int) ≤ z)) = (decide (1 ≤ n) && decide (n ≤ m)) := by
  congr 1 <;> exact decide_eq_decide.mpr (by omega)
theorem ok_box {f fW fR : Addr} {fd fdW fdR : FuncData} (F : Fun K "call_box" "call_box" sBox f fd) (T : Txt K mg C) (N : Nums mg) (GW : FnOk P w K mg base CX0 1 fW fdW ["number", "most"] spWithin) (cW : Cal K mg "is_within" fW fdW ["number", "most"])
    (GR : FnOk P w K mg base CX0 3 fR fdR ["self", "a", "b", "c", "heights"] (spRes C)) (mR : Meth K C "resize" fR) (bR : Binds K fdR ["self", "a", "b", "c", "heights"] []) : FnOk P w K mg base CX0 4 f fd ["box", "numbers"] (spAct K C 0) := by
  obtain ⟨t1, n1⟩ := N.nat
  obtain ⟨t2, n2⟩ := N.mr
  obtain ⟨t3, n3⟩ := N.mc
  obtain ⟨t4, n4⟩ := N.mh
  refine F.ok scBox (fun vs H Q E h => ?_) (fun cdv A outer s H vs Q E hr h => ?_)
  · obtain ⟨X, p, q, d, ns, c, rfl, _⟩ := h
    rfl
  · obtain ⟨X, p, q, d, ns, c, rfl, ⟨dx, lh, lt, B⟩, al, hS, hc, k⟩ := h
    obtain ⟨x, y, z, rfl, rfl⟩ := in0 hc
    have hr1 : Room 1 _ := hr.mono (by decide)
    refine ⟨_, pss_cons (ps_set (i := 2) scBox.nd rfl (Or.inl rfl) (pe_ix ix_list (pv 1) pe_int (fun _ _ => rfl)))
      (pss_cons (ps_set (i := 3) scBox.nd rfl (Or.inl rfl) (pe_ix ix_list (pv 1) pe_int (fun _ _ => rfl)))
      (pss_cons (ps_set (i := 4) scBox.nd rfl (Or.inl rfl) (pe_ix ix_list (pv 1) pe_int (fun _ _ => rfl)))
      (pss_cons (ps_if (pt_not (PW.pt (pw_and (pt_val (pe_call GW hr1 rfl cW.g cW.kp cW.b .nil pass0 (pa_cons (pv 2) (pa_cons (pe_glob (v := .int 3) rfl n2 ⟨_, rfl⟩) pa_nil))))
          (pw_and (pt_val (pe_call GW hr1 rfl cW.g cW.kp cW.b .nil pass0 (pa_cons (pv 3) (pa_cons (pe_glob (v := .int 3) rfl n3 ⟨_, rfl⟩) pa_nil))))
          (pw_and1 (pt_val (pe_call GW hr1 rfl cW.g cW.kp cW.b .nil pass0 (pa_cons (pv 4) (pa_cons (pe_glob (v := .int 4) rfl n4 ⟨_, rfl⟩) pa_nil)))))))))
        (pss_one (ps_ret (pe_lst (pa_cons (pe_glob (v := .int (-1)) rfl n1 ⟨_, rfl⟩) pa_nil)))) pss_nil)
      (pss_cons (ps_expr (pe_meth (pv 0) T.cl mR GR hr bR .nil pass0 (pa_cons (pv 2) (pa_cons (pv 3) (pa_cons (pv 4) (pa_cons (pe_op op_rep (pe_lst (pa_cons pe_int pa_nil)) (pe_op op_mul (pv 2) (pv 3))) pa_nil))))))
      (pss_one (ps_ret (pe_lst (pa_cons (pe_callB call_len_seq (by rfl) T.len PySem.boot_len (pa_cons (pe_fld (pv 0) rfl) pa_nil)) pa_nil)))))))), ?_⟩
    refine ⟨_, rfl, q, _, _, _, rfl, rfl, hS, rfl, _, rfl, q, _, _, _, rfl, rfl, hS, rfl, _, rfl, q, _, _, _, rfl, rfl, hS, rfl, ?_⟩
    have no : Ti03.isBox x y z = false → ∀ r, H r = none → Q (.ref r) (upd H r (.lst [V.int (-1)])) := fun e r hr' => by
      have es : Ti03.step d (.box x y z) = (d, [-1]) := if_pos e
      rw [es] at k
      exact k _ r (Same.but (Same.upd_new hr')) hr' ⟨dx, lh, lt, B.same (Same.upd_new hr')⟩ upd_same
    refine ⟨_, rfl, (x : Int), 3, rfl, _, rfl, ?_⟩
    rw [within_iff (m := 3) (z := 3) rfl]
    cases e1 : (decide (1 ≤ x) && decide (x ≤ 3)) with
    | false =>
      refine iteF (iteT ⟨(by show 1 ≤ sizeLine; decide), no ?_⟩)
      unfold Ti03.isBox
      rw [← Bool.and_assoc, e1, Bool.false_and]
    | true =>
    refine iteT ⟨_, rfl, (y : Int), 3, rfl, _, rfl, ?_⟩
    rw [within_iff (m := 3) (z := 3) rfl]
    cases e2 : (decide (1 ≤ y) && decide (y ≤ 3)) with
    | false =>
      refine iteF (iteT ⟨(by show 1 ≤ sizeLine; decide), no ?_⟩)
      unfold Ti03.isBox
      rw [← Bool.and_assoc, e1, Bool.true_and, ← Bool.and_assoc, e2, Bool.false_and]
    | true =>
    refine iteT ⟨_, rfl, (z : Int), 4, rfl, _, rfl, ?_⟩
    rw [within_iff (m := 4) (z := 4) rfl]
    cases e3 : (decide (1 ≤ z) && decide (z ≤ 4)) with
    | false =>
      refine iteT ⟨(by show 1 ≤ sizeLine; decide), no ?_⟩
      unfold Ti03.isBox
      rw [← Bool.and_assoc, e1, Bool.true_and, ← Bool.and_assoc, e2, Bool.true_and, e3]
    | true =>
    have eb : Ti03.isBox x y z = true := by
      unfold Ti03.isBox
      rw [← Bool.and_assoc, e1, Bool.true_and, ← Bool.and_assoc, e2, Bool.true_and, e3]
    have g : Good ⟨x, y, z⟩ := good_isBox.mp eb
    have es : Ti03.step d (.box x y z) = (Ti03.empty ⟨x, y, z⟩, Ti03.ints [(Ti03.heaps ⟨x, y, z⟩).length]) := if_neg (by rw [eb]; simp)
    rw [es] at k
    have gx := g.a3; have gy := g.b3
    dsimp only at gx gy
    have hz : ((x : Int) * (y : Int)) = ((x * y : Nat) : Int) := by simp
    have hxy : x * y ≤ 9 := Nat.mul_le_mul gx gy
    have hsz : (16777216 : Nat) = sizeLine := by decide
    refine iteF ⟨_, rfl, p, dx, _, rfl, B.ob, bF_resize, _, rfl, _, rfl, _, rfl, (by show 1 ≤ sizeLine; decide), fun t ht => ?_⟩
    refine ⟨_, rfl, _, rfl, _, _, rfl, rfl, .inl ⟨(by show -(2 ^ 64) < (x : Int); omega), (by show (x : Int) < 2 ^ 64; omega)⟩, t, _, _, rfl, rfl, upd_same, (by show -(2 ^ 63) ≤ (x : Int) * (y : Int); rw [hz]; omega), (by show (x : Int) * (y : Int) < 2 ^ 63; rw [hz]; omega), ?_, fun u hu => ?_⟩
    · show 1 * ((x : Int) * (y : Int)).toNat ≤ sizeLine
      rw [hz]
      omega
    have s0 : Same H (upd (upd H t (.lst [V.int 0])) u (.lst (List.replicate ((x : Int) * (y : Int)).toNat [V.int 0]).flatten)) := (Same.upd_new ht).trans (Same.upd_new hu)
    have hu0 : H u = none := (Same.upd_new ht).free hu
    have hu2 : upd (upd H t (.lst [V.int 0])) u (.lst (List.replicate ((x : Int) * (y : Int)).toNat [V.int 0]).flatten) u = some (.lst (rowV (Ti03.empty ⟨x, y, z⟩).heap.flatten)) := by
      rw [upd_same, hz, empty_flat g]
      show some (HO.lst (List.replicate (x * y) [V.int 0]).flatten) = some (HO.lst (rowV (List.replicate (x * y) 0)))
      rw [List.flatten_replicate_singleton]
      simp [rowV, Ti03.ints]
    refine ⟨X, p, u, d, x, y, z, _, rfl, ⟨dx, lh, lt, B.same s0⟩, (fun a xa e => al a xa (s0.free e)), g, empty_ok g, hu2, al.new hu0, fun H1 B1 k1' => ?_⟩
    have k1 : But p H H1 := (Same.but s0).trans k1'
    obtain ⟨dx1, lh1, lt1, B1⟩ := B1
    obtain ⟨rs, L, _⟩ := id B1.hs
    refine ⟨_, rfl, p, C, dx1, _, _, rfl, B1.ob, T.cl, T.nhs, bF_heaps, lh1, _, rfl, .inl (SqL.of L.at_), (by show 1 ≤ sizeLine; decide), fun r hr' => ?_⟩
    refine k _ r (k1.trans (Same.but (Same.upd_new hr'))) (k1.fresh B1.ob hr') ⟨dx1, lh1, lt1, B1.same (Same.upd_new hr')⟩ ?_
    rw [upd_same, LL.len L]
    have := heapsIn_len g
    show some (HO.lst [V.int ((heapsIn x y z).length : Nat)]) = some (HO.lst [V.int ((Ti03.heaps ⟨x, y, z⟩).length : Nat)])
    rw [← this]
end
end CH

namespace CH
open PySem PySem.Spec PyProof.Rows L2
open Ti03Neutral (callIn)
abbrev sPlaces : Stmt := top 28
abbrev sCorners : Stmt := top 29
abbrev sVolume : Stmt := top 30
theorem row_at {ns : List Nat} {i x : Nat} (h : ns[i]? = some x) : (rowV ns)[i]? = some (V.int (x : Int)) := by
  unfold rowV Ti03.ints
  rw [List.getElem?_map, List.getElem?_map, h]
  rfl
section
variable {P : Program} {w : World} {K : PySem.W.Frag} {mg : Str → Option Value} {base : Heap} {C : Addr}
/-! ### heap -/
theorem scHeap : FnScope ["box", "numbers"] ["box", "numbers"] (defScope sHeap) := ⟨rfl, rfl, rfl, by decide +kernel, rfl, by decide +kernel, by decide +kernel⟩
theorem ok_heap {f fF : Addr} {fd fdF : FuncData} (F : Fun K "call_heap" "call_heap" sHeap f fd) (T : Txt K mg C) (N : Nums mg)
    (GF : FnOk P w K mg base CX0 3 fF fdF ["self", "heights"] (spFits K C)) (mF : Meth K C "fits" fF) (bF' : Binds K fdF ["self", "heights"] []) : FnOk P w K mg base CX0 4 f fd ["box", "numbers"] (spAct K C 1) := by
  obtain ⟨t1, n1⟩ := N.nat
  refine F.ok scHeap (fun vs H Q E h => ?_) (fun cdv A outer s H vs Q E hr h => ?_)
  · obtain ⟨X, p, q, d, ns, c, rfl, _⟩ := h
    rfl
  · obtain ⟨X, p, q, d, ns, c, rfl, ⟨dx, lh, lt, B⟩, al, hS, hc, k⟩ := h
    obtain rfl := in1 hc
    refine ⟨_, pss_cons (ps_if (pt_not (pt_val (pe_meth (pv 0) T.cl mF GF hr bF' .nil pass0 (pa_cons (pv 1) pa_nil)))) (pss_one (ps_ret (pe_lst (pa_cons (pe_glob (v := .int (-1)) rfl n1 ⟨_, rfl⟩) pa_nil)))) pss_nil)
      (pss_cons (ps_fld (pv 0) (pe_callTy call_list_of (by rfl) T.list (by decide +kernel) (pa_cons (pv 1) pa_nil)) rfl)
      (pss_one (ps_ret (pe_lst (pa_cons (pe_callB (cr_sum rfl) (by rfl) T.sum (by decide +kernel) (pa_cons (pe_fld (pv 0) rfl) pa_nil)) pa_nil))))), ?_⟩
    refine ⟨_, rfl, p, dx, _, rfl, B.ob, bF_fits, _, rfl, X, p, q, d, Ti03.ints ns, rfl, ⟨dx, lh, lt, B⟩, hS, _, rfl, ?_⟩
    cases e : okI d.box.a d.box.b d.box.c (Ti03.ints ns) with
    | false =>
      refine iteT ⟨(by show 1 ≤ sizeLine; decide), fun r hr' => ?_⟩
      rw [(step_heap_no B.good e).1] at k
      exact k _ r (Same.but (Same.upd_new hr')) hr' ⟨dx, lh, lt, B.same (Same.upd_new hr')⟩ upd_same
    | true =>
      obtain ⟨h, h1, rfl, h3⟩ := heapOf_yes B.good e
      rw [step_heap_yes h3] at k
      refine iteF ⟨_, rfl, q, _, rfl, .inl hS, fun u hu => ?_⟩
      have npu : p ≠ u := ne_of_none B.ob hu
      refine ⟨_, rfl, p, C, dx, _, rfl, (by rw [upd_ne npu]; exact B.ob), T.cl, T.nht, bF_len, ?_⟩
      rw [bF_put_heights]
      have hu2 : upd (upd H u (.lst (rowV h.flatten))) p (.ins C dx (bF d.box.a d.box.b d.box.c lh u)) u = some (.lst (rowV h.flatten)) := by rw [upd_ne npu.symm, upd_same]
      refine ⟨_, rfl, p, C, dx, _, _, rfl, upd_same, T.cl, T.nht, bF_heights, u, Ti03.ints h.flatten, rfl, SqL.of hu2, (by show 1 ≤ sizeLine; decide), fun r hr' => ?_⟩
      have k1 : But p H (upd (upd H u (.lst (rowV h.flatten))) p (.ins C dx (bF d.box.a d.box.b d.box.c lh u))) := (Same.but (Same.upd_new hu)).trans But.upd
      refine k _ r (k1.trans (Same.but (Same.upd_new hr'))) (k1.fresh upd_same hr') (BoxAt.same (B.heights k1 upd_same hu2 (al.new hu) h1) (Same.upd_new hr')) ?_
      rw [upd_same, sum_flat]
      rfl
/-! ### nth -/
theorem scNth : FnScope ["box", "numbers", "n"] ["box", "numbers"] (defScope sNth) := ⟨rfl, rfl, rfl, by decide +kernel, rfl, by decide +kernel, by decide +kernel⟩
theorem ok_nth {f : Addr} {fd : FuncData} (F : Fun K "call_nth" "call_nth" sNth f fd) (T : Txt K mg C) (N : Nums mg) : FnOk P w K mg base CX0 1 f fd ["box", "numbers"] (spAct K C 2) := by
  obtain ⟨t1, n1⟩ := N.nsh
  refine F.ok scNth (fun vs H Q E h => ?_) (fun cdv A outer s H vs Q E hr h => ?_)
  · obtain ⟨X, p, q, d, ns, c, rfl, _⟩ := h
    rfl
  · obtain ⟨X, p, q, d, ns, c, rfl, ⟨dx, lh, lt, B⟩, al, hS, hc, k⟩ := h
    obtain ⟨n, rfl, rfl⟩ := in2 hc
    obtain ⟨rs, L, _⟩ := id B.hs
    refine ⟨_, pss_cons (ps_set (i := 2) scNth.nd rfl (Or.inl rfl) (pe_ix ix_list (pv 1) pe_int (fun _ _ => rfl)))
      (pss_cons (ps_if (pt_cmpR op_ge (pv 2) (pe_callB call_len_seq (by rfl) T.len PySem.boot_len (pa_cons (pe_fld (pv 0) rfl) pa_nil)) (nomark _)) (pss_one (ps_ret (pe_lst (pa_cons (pe_glob (v := .int (-2)) rfl n1 ⟨_, rfl⟩) pa_nil)))) pss_nil)
      (pss_cons (ps_fld (pv 0) (pe_callTy call_list_of (by rfl) T.list (by decide +kernel) (pa_cons (pe_ix ix_list (pe_fld (pv 0) rfl) (pv 2) (fun _ _ => rfl)) pa_nil)) rfl)
      (pss_one (ps_ret (pe_callTy call_list_of (by rfl) T.list (by decide +kernel) (pa_cons (pe_fld (pv 0) rfl) pa_nil)))))), ?_⟩
    have hlen : (rs.map V.ref).length = (Ti03.heaps d.box).length := by rw [LL.len L, heapsIn_len B.good]
    refine ⟨_, rfl, q, _, _, _, rfl, rfl, hS, rfl, _, rfl, _, rfl, p, C, dx, _, _, rfl, B.ob, T.cl, T.nhs, bF_heaps, lh, _, rfl, .inl (SqL.of L.at_), _, _, rfl, rfl, _, rfl, ?_⟩
    refine ite2 (fun c1 => ?_) (fun c1 => ?_)
    · have c1' := of_decide_eq_true c1
      refine ⟨(by show 1 ≤ sizeLine; decide), fun r hr' => ?_⟩
      rw [step_nth_no (by rw [hlen] at c1'; exact Int.ofNat_le.mp c1')] at k
      exact k _ r (Same.but (Same.upd_new hr')) hr' ⟨dx, lh, lt, B.same (Same.upd_new hr')⟩ upd_same
    · have c1' : n < (rs.map V.ref).length := Nat.lt_of_not_le fun z => c1 (decide_eq_true (Int.ofNat_le.mpr z))
      have hn : n < rs.length := by rw [List.length_map] at c1'; exact c1'
      have e1 : rs[n]? = some rs[n] := List.getElem?_eq_getElem hn
      obtain ⟨l, hl, hr1⟩ := L.rows.get e1
      have hl' := hl
      rw [heapsIn_eq B.good, List.getElem?_map, Option.map_eq_some_iff] at hl'
      obtain ⟨h, hh, rfl⟩ := hl'
      have h1 : Ti03.isHeap d.box h = true := (mem_heaps B.good).mp (List.mem_iff_getElem?.mpr ⟨n, hh⟩)
      rw [step_nth_yes hh] at k
      refine ⟨_, rfl, p, C, dx, _, _, rfl, B.ob, T.cl, T.nhs, bF_heaps, _, rfl, lh, _, _, V.ref rs[n], rfl, rfl, SqL.of L.at_, atI_nat (by rw [List.getElem?_map, e1]; rfl), rs[n], _, rfl, .inl (SqL.of hr1), fun u hu => ?_⟩
      have npu : p ≠ u := ne_of_none B.ob hu
      refine ⟨_, rfl, p, C, dx, _, rfl, (by rw [upd_ne npu]; exact B.ob), T.cl, T.nht, bF_len, ?_⟩
      rw [bF_put_heights]
      have hu2 : upd (upd H u (.lst (rowV h.flatten))) p (.ins C dx (bF d.box.a d.box.b d.box.c lh u)) u = some (.lst (rowV h.flatten)) := by rw [upd_ne npu.symm, upd_same]
      refine ⟨_, rfl, p, C, dx, _, _, rfl, upd_same, T.cl, T.nht, bF_heights, u, _, rfl, .inl (SqL.of hu2), fun r hr' => ?_⟩
      have k1 : But p H (upd (upd H u (.lst (rowV h.flatten))) p (.ins C dx (bF d.box.a d.box.b d.box.c lh u))) := (Same.but (Same.upd_new hu)).trans But.upd
      exact k _ r (k1.trans (Same.but (Same.upd_new hr'))) (k1.fresh upd_same hr') (BoxAt.same (B.heights k1 upd_same hu2 (al.new hu) h1) (Same.upd_new hr')) upd_same
end
/-! ### data of rows -/
def rowD (l : List Nat) : PyData := .list (l.map fun (n : Nat) => PyData.int (n : Int))
theorem eqvAll_row : ∀ (l m : List Nat), PyData.eqvAll (l.map fun (n : Nat) => PyData.int (n : Int)) (m.map fun (n : Nat) => PyData.int (n : Int)) = decide (l = m)
  | [], [] => by simp [PyData.eqvAll]
  | [], _ :: _ => by simp [PyData.eqvAll]
  | _ :: _, [] => by simp [PyData.eqvAll]
  | x :: l, y :: m => by
    rw [List.map_cons, List.map_cons, PyData.eqvAll, eqvAll_row l m, PyData.eqv]
    by_cases e : x = y
    · subst e
      by_cases e2 : l = m <;> simp [e2]
    · have : ¬ (x : Int) = (y : Int) := by omega
      simp [e, this]
theorem eqv_row (l m : List Nat) : PyData.eqv (rowD l) (rowD m) = decide (l = m) := by
  unfold rowD
  rw [PyData.eqv]
  exact eqvAll_row l m
theorem row_lay (l : List Nat) : PyData.canLayAll0 (l.map fun (n : Nat) => PyData.int (n : Int)) = true := by
  induction l with
  | nil => rfl
  | cons x l ih => rw [List.map_cons, PyData.canLayAll0, ih]; rfl
theorem rows_lay (ls : List (List Nat)) : PyData.canLayAll0 (ls.map rowD) = true := by
  induction ls with
  | nil => rfl
  | cons x l ih =>
    rw [List.map_cons, PyData.canLayAll0, ih]
    unfold rowD
    rw [PyData.canLay0, row_lay]
    rfl
theorem row_depth (l : List Nat) : PyData.depthAll (l.map fun (n : Nat) => PyData.int (n : Int)) ≤ 1 := by
  induction l with
  | nil => simp [PyData.depthAll]
  | cons x l ih => rw [List.map_cons, PyData.depthAll]; simp [PyData.depth]; omega
theorem rowD_depth (l : List Nat) : (rowD l).depth ≤ 2 := by
  have := row_depth l
  unfold rowD
  rw [PyData.depth]
  omega
theorem rows_depth (ls : List (List Nat)) : PyData.depthAll (ls.map rowD) ≤ 2 := by
  induction ls with
  | nil => simp [PyData.depthAll]
  | cons x l ih =>
    have := rowD_depth x
    rw [List.map_cons, PyData.depthAll]
    omega
theorem row_shaped (l : List Nat) : SeqAt.shaped (rowD l) = true := by
  unfold SeqAt.shaped
  rw [Bool.and_eq_true, decide_eq_true_eq]
  refine ⟨?_, by have := rowD_depth l; omega⟩
  unfold rowD
  rw [PyData.canLay0, row_lay]
theorem rows_shaped (ls : List (List Nat)) : SeqAt.shaped (.list (ls.map rowD)) = true := by
  unfold SeqAt.shaped
  rw [Bool.and_eq_true, decide_eq_true_eq, PyData.canLay0, PyData.depth]
  exact ⟨rows_lay ls, by have := rows_depth ls; omega⟩
theorem dp_row {K : PySem.W.Frag} {H : Hp} {r : Addr} {l : List Nat} (h : H r = some (.lst (rowV l))) : Dp K H (.ref r) (rowD l) := by
  refine .lst (SqL.of h) ?_
  clear h
  induction l with
  | nil => exact .nil
  | cons x l ih => exact .cons (.int _) ih
theorem dp_rows {K : PySem.W.Frag} {H : Hp} : ∀ {rs : List Addr} {ls : List (List Nat)}, Rows H rs ls → DpAll K H (rs.map V.ref) (ls.map rowD)
  | [], [], _ => .nil
  | r :: rs, l :: ls, ⟨h1, h2⟩ => .cons (dp_row h1) (dp_rows h2)
  | [], _ :: _, h => h.elim
  | _ :: _, [], h => h.elim
section
variable {P : Program} {w : World} {K : PySem.W.Frag} {mg : Str → Option Value} {base : Heap} {C : Addr}
/-! ### rank -/
theorem scRank : FnScope ["box", "numbers"] ["box", "numbers"] (defScope sRank) := ⟨rfl, rfl, rfl, by decide +kernel, rfl, by decide +kernel, by decide +kernel⟩
theorem ok_rank {f : Addr} {fd : FuncData} (F : Fun K "call_rank" "call_rank" sRank f fd) (T : Txt K mg C) : FnOk P w K mg base CX0 1 f fd ["box", "numbers"] (spAct K C 3) := by
  refine F.ok scRank (fun vs H Q E h => ?_) (fun cdv A outer s H vs Q E hr h => ?_)
  · obtain ⟨X, p, q, d, ns, c, rfl, _⟩ := h
    rfl
  · obtain ⟨X, p, q, d, ns, c, rfl, ⟨dx, lh, lt, B⟩, al, hS, hc, k⟩ := h
    obtain ⟨rfl, rfl⟩ := in3 hc
    obtain ⟨rs, L, _⟩ := id B.hs
    have hu65 : (A.deeper (envOfC "call_rank" (defScope sRank) s.heap.objs.size f cdv)).units + 65 < cLine := by have := hr.un; omega
    refine ⟨_, pss_one (ps_ret (pe_lst (pa_cons (pe_bm PySem.F.plainAttrs_list PySem.F.slot_list_index PySem.F.type_list_index (mt_indexD hu65) (pe_fld (pv 0) rfl) (pa_cons (pe_fld (pv 0) rfl) pa_nil)) pa_nil))), ?_⟩
    obtain ⟨j, es, hj, hm⟩ := step_rank B.good B.ok
    rw [es] at k
    refine ⟨_, rfl, p, C, dx, _, _, rfl, B.ob, T.cl, T.nhs, bF_heaps, .inl ⟨rfl, _, SqL.of L.at_⟩, _, rfl, p, C, dx, _, _, rfl, B.ob, T.cl, T.nht, bF_heights, ?_⟩
    refine ⟨lh, V.ref lt, rowD d.heap.flatten, (heapsIn d.box.a d.box.b d.box.c).map rowD, j, rowD d.heap.flatten, rfl, rfl, .lst (SqL.of L.at_) (dp_rows L.rows), dp_row B.ht, rows_shaped _, row_shaped _, ?_, ?_, ?_, (by show 1 ≤ sizeLine; decide), fun r hr' => ?_⟩
    · rw [List.getElem?_map, hj]; rfl
    · rw [eqv_row]; simp
    · intro m z' hmj hz
      rw [List.getElem?_map, Option.map_eq_some_iff] at hz
      obtain ⟨l, hl, rfl⟩ := hz
      rw [eqv_row]
      exact decide_eq_false (hm m l hmj hl)
    · exact k _ r (Same.but (Same.upd_new hr')) hr' ⟨dx, lh, lt, B.same (Same.upd_new hr')⟩ upd_same
end
end CH

namespace CH
open PySem PySem.Spec PyProof.Rows L2
open Ti03Neutral (callIn)
def spMove (K : PySem.W.Frag) (C : Addr) : Sp := fun vs H Q _ => ∃ (X : Addr → Prop) (p q : Addr) (d : Ti03.St) (x y : Nat) (b : Bool), vs = [.ref p, .ref q, .int (sgn b)] ∧ BoxAt X C H p d ∧ Alive X H ∧ SqL K H q (rowV [x, y]) ∧
  ∀ (H' : Hp) (r : Addr), But p H H' → H r = none → BoxAt X C H' p (Ti03.step d (mv b x y)).1 → H' r = some (.lst ((Ti03.step d (mv b x y)).2.map V.int)) → Q (.ref r) H'
theorem ints_map {l : List Int} {h : Ti03.Heap} (e : l = Ti03.ints h.flatten) : l.map V.int = rowV h.flatten := by rw [e]
section
variable {P : Program} {w : World} {K : PySem.W.Frag} {mg : Str → Option Value} {base : Heap} {C : Addr}
theorem scMove : FnScope ["box", "numbers", "step", "i", "j", "after"] ["box", "numbers", "step"] (defScope sMove) := ⟨rfl, rfl, rfl, by decide +kernel, rfl, by decide +kernel, by decide +kernel⟩
theorem ok_move {f fW fF fM : Addr} {fd fdW fdF fdM : FuncData} (F : Fun K "move_cube" "move_cube" sMove f fd) (T : Txt K mg C) (N : Nums mg) (GW : FnOk P w K mg base CX0 1 fW fdW ["number", "most"] spWithin) (cW : Cal K mg "is_within" fW fdW ["number", "most"])
    (GF : FnOk P w K mg base CX0 3 fF fdF ["self", "heights"] (spFits K C)) (mF : Meth K C "fits" fF) (bF' : Binds K fdF ["self", "heights"] [])
    (GM : FnOk P w K mg base CX0 1 fM fdM ["heights", "place", "step"] (spMov K)) (cM : Cal K mg "moved" fM fdM ["heights", "place", "step"]) : FnOk P w K mg base CX0 4 f fd ["box", "numbers", "step"] (spMove K C) := by
  obtain ⟨t1, n1⟩ := N.nat
  obtain ⟨t2, n2⟩ := N.mnb
  refine F.ok scMove (fun vs H Q E h => ?_) (fun cdv A outer s H vs Q E hr h => ?_)
  · obtain ⟨X, p, q, d, x, y, b, rfl, _⟩ := h
    rfl
  · obtain ⟨X, p, q, d, x, y, b, rfl, ⟨dx, lh, lt, B⟩, al, hS, k⟩ := h
    have hr1 : Room 1 _ := hr.mono (by decide)
    refine ⟨_, pss_cons (ps_set (i := 3) scMove.nd rfl (Or.inl rfl) (pe_ix ix_list (pv 1) pe_int (fun _ _ => rfl)))
      (pss_cons (ps_set (i := 4) scMove.nd rfl (Or.inl rfl) (pe_ix ix_list (pv 1) pe_int (fun _ _ => rfl)))
      (pss_cons (ps_if (pt_not (PW.pt (pw_and (pt_val (pe_call GW hr1 rfl cW.g cW.kp cW.b .nil pass0 (pa_cons (pv 3) (pa_cons (pe_fld (pv 0) rfl) pa_nil))))
          (pw_and1 (pt_val (pe_call GW hr1 rfl cW.g cW.kp cW.b .nil pass0 (pa_cons (pv 4) (pa_cons (pe_fld (pv 0) rfl) pa_nil))))))))
        (pss_one (ps_ret (pe_lst (pa_cons (pe_glob (v := .int (-1)) rfl n1 ⟨_, rfl⟩) pa_nil)))) pss_nil)
      (pss_cons (ps_set (i := 5) scMove.nd rfl (Or.inl rfl) (pe_call GM hr1 rfl cM.g cM.kp cM.b .nil pass0 (pa_cons (pe_fld (pv 0) rfl)
          (pa_cons (pe_op op_sub (pe_op op_add (pe_op op_mul (pe_op op_sub (pv 3) pe_int) (pe_fld (pv 0) rfl)) (pv 4)) pe_int) (pa_cons (pv 2) pa_nil)))))
      (pss_cons (ps_if (pt_not (pt_val (pe_meth (pv 0) T.cl mF GF hr bF' .nil pass0 (pa_cons (pv 5) pa_nil)))) (pss_one (ps_ret (pe_lst (pa_cons (pe_glob (v := .int (-6)) rfl n2 ⟨_, rfl⟩) pa_nil)))) pss_nil)
      (pss_cons (ps_fld (pv 0) (pv 5) rfl)
      (pss_one (ps_ret (pe_lst (pa_cons (pe_callB (cr_sum rfl) (by rfl) T.sum (by decide +kernel) (pa_cons (pv 5) pa_nil)) pa_nil))))))))), ?_⟩
    have no : Ti03.isPlace d.box x y = false → ∀ r, H r = none → Q (.ref r) (upd H r (.lst [V.int (-1)])) := fun e r hr' => by
      rw [mv_no b e] at k
      exact k _ r (Same.but (Same.upd_new hr')) hr' ⟨dx, lh, lt, B.same (Same.upd_new hr')⟩ upd_same
    refine ⟨_, rfl, q, _, _, _, rfl, rfl, hS, rfl, _, rfl, q, _, _, _, rfl, rfl, hS, rfl, _, rfl, _, rfl, p, C, dx, _, _, rfl, B.ob, T.cl, T.na, bF_a, (x : Int), _, rfl, _, rfl, ?_⟩
    rw [within_iff (m := d.box.a) (z := (d.box.a : Int)) rfl]
    cases e1 : (decide (1 ≤ x) && decide (x ≤ d.box.a)) with
    | false =>
      refine iteF (iteT ⟨(by show 1 ≤ sizeLine; decide), no ?_⟩)
      unfold Ti03.isPlace
      rw [← Bool.and_assoc, e1, Bool.false_and]
    | true =>
    refine iteT ⟨_, rfl, _, rfl, p, C, dx, _, _, rfl, B.ob, T.cl, T.nb, bF_b, (y : Int), _, rfl, _, rfl, ?_⟩
    rw [within_iff (m := d.box.b) (z := (d.box.b : Int)) rfl]
    cases e2 : (decide (1 ≤ y) && decide (y ≤ d.box.b)) with
    | false =>
      refine iteT ⟨(by show 1 ≤ sizeLine; decide), no ?_⟩
      unfold Ti03.isPlace
      rw [← Bool.and_assoc, e1, Bool.true_and, e2]
    | true =>
    have pl : Ti03.isPlace d.box x y = true := by
      unfold Ti03.isPlace
      rw [← Bool.and_assoc, e1, Bool.true_and, e2]
    rw [Bool.and_eq_true, decide_eq_true_eq, decide_eq_true_eq] at e1 e2
    have ga := B.good.a3; have gb := B.good.b3; have gb1 := B.good.b1
    have sh := isHeap_shape B.ok
    obtain ⟨i, rfl⟩ : ∃ i, x = i + 1 := ⟨x - 1, by omega⟩
    obtain ⟨j, rfl⟩ : ∃ j, y = j + 1 := ⟨y - 1, by omega⟩
    have hij : i * d.box.b + j < d.box.a * d.box.b := place_lt (by omega) (by omega)
    obtain ⟨dv, md⟩ := (divmod_iff (b := d.box.b) (i := i) (j := j) (p := i * d.box.b + j) (by omega)).mpr rfl
    have ep : (((i + 1 : Nat) : Int) - 1) * (d.box.b : Int) + ((j + 1 : Nat) : Int) - 1 = ((i * d.box.b + j : Nat) : Int) := by
      have : ((i + 1 : Nat) : Int) - 1 = (i : Int) := by omega
      rw [this]
      push_cast
      omega
    refine iteF ⟨_, rfl, p, C, dx, _, _, rfl, B.ob, T.cl, T.nht, bF_heights, _, rfl, _, _, rfl, rfl, _, rfl, p, C, dx, _, _, rfl, B.ob, T.cl, T.nb, bF_b, _, _, rfl, rfl, .inl ⟨(by show -(2 ^ 64) < ((i + 1 : Nat) : Int) - 1; omega), (by show ((i + 1 : Nat) : Int) - 1 < 2 ^ 64; omega)⟩, _, rfl, _, _, rfl, rfl, _, _, rfl, rfl, _, rfl, ?_⟩
    refine ⟨lt, Ti03.ints d.heap.flatten, i * d.box.b + j, sgn b, (by show [_, V.int ((((i + 1 : Nat) : Int) - 1) * (d.box.b : Int) + ((j + 1 : Nat) : Int) - 1), _] = _; rw [ep]), SqL.of B.ht, ?_, fun H1 u s1 nu hu => ?_⟩
    · unfold Ti03.ints
      rw [List.length_map, flat_len B.good sh]
      exact hij
    have B1 := B.same s1
    refine ⟨_, rfl, p, dx, _, rfl, B1.ob, bF_fits, _, rfl, X, p, u, d, _, rfl, ⟨dx, lh, lt, B1⟩, SqL.of hu, _, rfl, ?_⟩
    have hu' : H1 u = some (.lst ((mvL b d.heap (i * d.box.b + j)).map V.int)) := hu
    have emv := mv_ok b B.good sh hij
    cases e3 : okI d.box.a d.box.b d.box.c (mvL b d.heap (i * d.box.b + j)) with
    | false =>
      rw [e3, dv, md] at emv
      rw [mv_not b pl emv.symm] at k
      have e3' : okI d.box.a d.box.b d.box.c ((Ti03.ints d.heap.flatten).set (i * d.box.b + j) ((Ti03.ints d.heap.flatten).getD (i * d.box.b + j) 0 + sgn b)) = false := e3
      rw [e3']
      refine iteT ⟨(by show 1 ≤ sizeLine; decide), fun r hr' => ?_⟩
      exact k _ r ((Same.but s1).trans (Same.but (Same.upd_new hr'))) (s1.free hr') ⟨dx, lh, lt, B1.same (Same.upd_new hr')⟩ upd_same
    | true =>
      have e3' : okI d.box.a d.box.b d.box.c ((Ti03.ints d.heap.flatten).set (i * d.box.b + j) ((Ti03.ints d.heap.flatten).getD (i * d.box.b + j) 0 + sgn b)) = true := e3
      rw [e3']
      rw [e3] at emv
      obtain ⟨h, h1, h2, h3⟩ := mv_yes b B.good sh hij (by rw [dv, md]; exact pl) emv.symm
      rw [dv, md] at h3
      rw [h3] at k
      refine iteF ⟨_, rfl, _, rfl, p, C, dx, _, rfl, B1.ob, T.cl, T.nht, bF_len, ?_⟩
      rw [bF_put_heights]
      have npu : p ≠ u := ne_of B1.ob hu (by intro z; cases z)
      have hu2 : upd H1 p (.ins C dx (bF d.box.a d.box.b d.box.c lh u)) u = some (.lst ((mvL b d.heap (i * d.box.b + j)).map V.int)) := by rw [upd_ne npu.symm]; exact hu
      refine ⟨_, rfl, u, _, rfl, SqL.of hu2, (by show 1 ≤ sizeLine; decide), fun r hr' => ?_⟩
      have k1 : But p H1 (upd H1 p (.ins C dx (bF d.box.a d.box.b d.box.c lh u))) := But.upd
      refine k _ r (((Same.but s1).trans k1).trans (Same.but (Same.upd_new hr'))) (((Same.but s1).trans k1).fresh upd_same hr') (BoxAt.same (B1.heights k1 upd_same (by rw [hu2, ints_map h2]) (al.new nu) h1) (Same.upd_new hr')) upd_same
theorem scPut : FnScope ["box", "numbers"] ["box", "numbers"] (defScope sPut) := ⟨rfl, rfl, rfl, by decide +kernel, rfl, by decide +kernel, by decide +kernel⟩
theorem ok_put {f fV : Addr} {fd fdV : FuncData} (F : Fun K "call_put" "call_put" sPut f fd) (GV : FnOk P w K mg base CX0 4 fV fdV ["box", "numbers", "step"] (spMove K C)) (cV : Cal K mg "move_cube" fV fdV ["box", "numbers", "step"]) : FnOk P w K mg base CX0 5 f fd ["box", "numbers"] (spAct K C 4) := by
  refine F.ok scPut (fun vs H Q E h => ?_) (fun cdv A outer s H vs Q E hr h => ?_)
  · obtain ⟨X, p, q, d, ns, c, rfl, _⟩ := h
    rfl
  · obtain ⟨X, p, q, d, ns, c, rfl, B, al, hS, hc, k⟩ := h
    obtain ⟨x, y, rfl, rfl⟩ := in4 hc
    refine ⟨_, pss_one (ps_ret (pe_call GV hr rfl cV.g cV.kp cV.b .nil pass0 (pa_cons (pv 0) (pa_cons (pv 1) (pa_cons pe_int pa_nil))))), ?_⟩
    exact ⟨_, rfl, _, rfl, X, p, q, d, x, y, true, rfl, B, al, hS, k⟩
theorem scTake : FnScope ["box", "numbers"] ["box", "numbers"] (defScope sTake) := ⟨rfl, rfl, rfl, by decide +kernel, rfl, by decide +kernel, by decide +kernel⟩
theorem ok_take {f fV : Addr} {fd fdV : FuncData} (F : Fun K "call_take" "call_take" sTake f fd) (GV : FnOk P w K mg base CX0 4 fV fdV ["box", "numbers", "step"] (spMove K C)) (cV : Cal K mg "move_cube" fV fdV ["box", "numbers", "step"]) : FnOk P w K mg base CX0 5 f fd ["box", "numbers"] (spAct K C 5) := by
  refine F.ok scTake (fun vs H Q E h => ?_) (fun cdv A outer s H vs Q E hr h => ?_)
  · obtain ⟨X, p, q, d, ns, c, rfl, _⟩ := h
    rfl
  · obtain ⟨X, p, q, d, ns, c, rfl, B, al, hS, hc, k⟩ := h
    obtain ⟨x, y, rfl, rfl⟩ := in5 hc
    refine ⟨_, pss_one (ps_ret (pe_call GV hr rfl cV.g cV.kp cV.b .nil pass0 (pa_cons (pv 0) (pa_cons (pv 1) (pa_cons (pe_un un_neg pe_int) pa_nil))))), ?_⟩
    exact ⟨_, rfl, _, rfl, _, rfl, X, p, q, d, x, y, false, rfl, B, al, hS, k⟩
end
end CH

namespace CH
open PySem PySem.Spec PyProof.Rows L2
open Ti03Neutral (callIn)
def fitP (b : Bool) (d : Ti03.St) (p : Nat) : Bool := okI d.box.a d.box.b d.box.c (mvL b d.heap p)
def spPl (K : PySem.W.Frag) (C : Addr) : Sp := fun vs H Q _ => ∃ (X : Addr → Prop) (p : Addr) (d : Ti03.St) (b : Bool), vs = [.ref p, .int (sgn b)] ∧ BoxAt X C H p d ∧
  ∀ (H' : Hp) (r : Addr), Same H H' → H r = none → H' r = some (.lst ((told d.box.b ((List.range (d.box.a * d.box.b)).filter (fitP b d))).map V.int)) → Q (.ref r) H'
def natV (l : List Nat) : List V := l.map fun (n : Nat) => V.int (n : Int)
def told' (b n : Nat) (ps : List Nat) : List Int := (n : Int) :: ps.flatMap fun p => [((p / b + 1 : Nat) : Int), ((p % b + 1 : Nat) : Int)]
theorem told'_len (b n : Nat) : ∀ ps : List Nat, (told' b n ps).length = 1 + 2 * ps.length
  | [] => rfl
  | p :: ps => by
    have := told'_len b n ps
    unfold told' at this ⊢
    rw [List.flatMap_cons, List.length_cons, List.length_append]
    rw [List.length_cons] at this
    simp only [List.length_cons, List.length_nil]
    omega
section
variable {P : Program} {w : World} {K : PySem.W.Frag} {mg : Str → Option Value} {base : Heap} {C : Addr}
abbrev nPl : List Str := ["box", "step", "place", "places", "told"]
theorem scPl : FnScope nPl ["box", "step"] (defScope sPlaces) := ⟨rfl, rfl, rfl, by decide +kernel, rfl, by decide +kernel, by decide +kernel⟩
theorem ok_places {f fF fM : Addr} {fd fdF fdM : FuncData} (F : Fun K "places_to_move" "places_to_move" sPlaces f fd) (T : Txt K mg C)
    (GF : FnOk P w K mg base CX0 3 fF fdF ["self", "heights"] (spFits K C)) (mF : Meth K C "fits" fF) (bF' : Binds K fdF ["self", "heights"] [])
    (GM : FnOk P w K mg base CX0 1 fM fdM ["heights", "place", "step"] (spMov K)) (cM : Cal K mg "moved" fM fdM ["heights", "place", "step"]) : FnOk P w K mg base CX0 4 f fd ["box", "step"] (spPl K C) := by
  refine F.ok scPl (fun vs H Q E h => ?_) (fun cdv A outer s H vs Q E hr h => ?_)
  · obtain ⟨X, p, d, b, rfl, _⟩ := h
    rfl
  · obtain ⟨X, p, d, b, rfl, ⟨dx, lh, lt, B⟩, k⟩ := h
    have hr1 : Room 1 _ := hr.mono (by decide)
    refine ⟨_, pss_cons (ps_setLc (i := 3) (own := [("place", 2)]) (g := gName 2) (tt := tB (tMeth C "fits" (spFits K C) [] E0 (tVar 0) (tCons (tCall (spMov K) [] E0 (tCons (tFld K (tVar 0) "heights") (tCons (tVar 2) (tCons (tVar 1) tNil)))) tNil))) (te := tVar 2) rfl scPl.nd rfl rfl (sw_true rfl rfl rfl (by decide +kernel))
        (pi_range1 rfl T.range (pa_cons (pe_op op_mul (pe_fld (pv 0) rfl) (pe_fld (pv 0) rfl)) pa_nil)) (blkOk_by (own := [("place", 2)]) (N := nPl) (sc := defScope sPlaces) (by decide +kernel))
        (fun _ _ _ _ _ => pg_name (i := 2) scPl.nd rfl (Or.inl rfl))
        (fun _ _ _ _ _ => pts_one (pt_val (pe_meth (pv 0) T.cl mF GF hr bF' .nil pass0 (pa_cons (pe_call GM hr1 rfl cM.g cM.kp cM.b .nil pass0 (pa_cons (pe_fld (pv 0) rfl) (pa_cons (pv 2) (pa_cons (pv 1) pa_nil)))) pa_nil))))
        (fun _ _ _ _ _ => pv 2))
      (pss_cons (ps_set (i := 4) scPl.nd rfl (Or.inl rfl) (pe_lst (pa_cons (pe_callB call_len_seq (by rfl) T.len PySem.boot_len (pa_cons (pv 3) pa_nil)) pa_nil)))
      (pss_cons (ps_for PassesOwn.never rfl (pi_list (pv 3)) (pg_name (i := 2) scPl.nd rfl (Or.inl rfl))
        (pss_cons (ps_expr (pe_bm PySem.F.plainAttrs_list PySem.F.slot_list_append PySem.F.type_list_append mt_append (pv 4) (pa_cons (pe_op op_add (pe_op op_fdiv (pv 2) (pe_fld (pv 0) rfl)) pe_int) pa_nil)))
        (pss_one (ps_expr (pe_bm PySem.F.plainAttrs_list PySem.F.slot_list_append PySem.F.type_list_append mt_append (pv 4) (pa_cons (pe_op op_add (pe_op op_mod (pv 2) (pe_fld (pv 0) rfl)) pe_int) pa_nil))))))
      (pss_one (ps_ret (pv 4))))), ?_⟩
    have ga := B.good.a3; have gb := B.good.b3; have gb1 := B.good.b1
    have hab : d.box.a * d.box.b ≤ 9 := Nat.mul_le_mul ga gb
    have hz : ((d.box.a : Int) * (d.box.b : Int)) = ((d.box.a * d.box.b : Nat) : Int) := by simp
    have hsz : (16777216 : Nat) = sizeLine := by decide
    have sh := isHeap_shape B.ok
    refine ⟨_, rfl, p, C, dx, _, _, rfl, B.ob, T.cl, T.na, bF_a, _, rfl, p, C, dx, _, _, rfl, B.ob, T.cl, T.nb, bF_b, _, _, rfl, rfl, .inl ⟨by omega, by omega⟩, _, rfl, (by rw [hz]; omega), (by rw [hz]; omega), ?_⟩
    rw [hz]
    intro D hD
    have npD : p ≠ D := ne_of_none B.ob hD
    refine lc_range (lo := 0) (n := d.box.a * d.box.b) (fun i H' => Same H H' ∧ H' D = some (.lst (natV ((List.range i).filter (fitP b d))))) ⟨Same.upd_new hD, by rw [upd_same]; rfl⟩ ?_ ?_
    · rintro i H1 hi ⟨s1, hD1⟩
      have zi : (0 : Int) + (i : Int) = (i : Int) := by omega
      rw [zi]
      have B1 := B.same s1
      have hflen : ((List.range i).filter (fitP b d)).length ≤ i := by
        have := List.length_filter_le (fitP b d) (List.range i)
        rw [List.length_range] at this
        exact this
      refine ⟨rfl, _, rfl, p, dx, _, rfl, B1.ob, bF_fits, _, rfl, p, C, dx, _, _, rfl, B1.ob, T.cl, T.nht, bF_heights, _, rfl, _, rfl, lt, Ti03.ints d.heap.flatten, i, sgn b, rfl, SqL.of B1.ht, ?_, fun H2 u s2 nu hu => ?_⟩
      · unfold Ti03.ints
        rw [List.length_map, flat_len B.good sh]
        exact hi
      refine ⟨X, p, u, d, _, rfl, ⟨dx, lh, lt, B1.same s2⟩, SqL.of hu, _, rfl, ?_⟩
      show if fitP b d i = true then _ else _
      refine ite2 (fun c => ?_) (fun c => ?_)
      · refine ⟨_, rfl, _, s2 _ _ hD1, (by rw [natV, List.length_map]; omega), ?_, ?_⟩
        · intro x o e
          rw [upd_ne (ne_of_none e hD)]
          exact s2 _ _ (s1 _ _ e)
        · rw [upd_same, List.range_succ, List.filter_append, List.filter_cons_of_pos c]
          simp [natV]
      · refine ⟨s1.trans s2, ?_⟩
        rw [List.range_succ, List.filter_append, List.filter_cons_of_neg c, List.filter_nil, List.append_nil]
        exact s2 _ _ hD1
    · rintro H1 ⟨s1, hD1⟩
      generalize hfl : (List.range (d.box.a * d.box.b)).filter (fitP b d) = fl at hD1 k
      have hfll : fl.length ≤ 9 := by
        rw [← hfl]
        have := List.length_filter_le (fitP b d) (List.range (d.box.a * d.box.b))
        rw [List.length_range] at this
        omega
      have B1 := B.same s1
      refine ⟨_, rfl, D, _, rfl, .inl (SqL.of hD1), (by show 1 ≤ sizeLine; decide), fun t ht => ?_⟩
      have nDt : D ≠ t := ne_of_none hD1 ht
      have s2 : Same H1 (upd H1 t (.lst [V.int ((natV fl).length : Nat)])) := Same.upd_new ht
      refine ⟨_, rfl, D, rfl, ⟨_, SqL.of (s2 _ _ hD1)⟩, for_list (K := K) (a := D) (xs := natV fl) (fun j σ H' => ∃ v : Option V, σ = [some (.ref p), some (.int (sgn b)), v, some (.ref D), some (.ref t)] ∧
          Same H1 H' ∧ H' t = some (.lst ((told' d.box.b fl.length (fl.take j)).map V.int))) ⟨none, rfl, s2, ?_⟩ (fun j σ H' _ ⟨_, _, s3, _⟩ => SqL.of (s3 _ _ hD1)) ?_ ?_⟩
      · rw [upd_same]
        simp [natV, told']
      · rintro j y σ H2 hj ⟨v, rfl, s3, ht3⟩
        obtain ⟨x, hx, rfl⟩ : ∃ x, fl[j]? = some x ∧ y = V.int ((x : Nat) : Int) := by
          rw [natV, List.getElem?_map] at hj
          cases e : fl[j]? with
          | none => rw [e] at hj; cases hj
          | some x => rw [e] at hj; exact ⟨x, rfl, (Option.some.inj hj).symm⟩
        have hjl : j < fl.length := (List.getElem?_eq_some_iff.mp hx).1
        have B2 := B1.same s3
        have npt : p ≠ t := ne_of_none B1.ob ht
        have hlen : ((told' d.box.b fl.length (fl.take j)).map V.int).length ≤ 30 := by
          rw [List.length_map, told'_len, List.length_take]
          omega
        refine ⟨_, rfl, .inl ⟨rfl, _, SqL.of ht3⟩, _, rfl, _, rfl, p, C, dx, _, _, rfl, B2.ob, T.cl, T.nb, bF_b, _, _, rfl, rfl, ⟨by omega, by omega⟩, _, _, rfl, rfl, t, _, _, rfl, rfl, ht3, by omega, ?_⟩
        have hp2 : ∀ o, upd H2 t o p = some (.ins C dx (bF d.box.a d.box.b d.box.c lh lt)) := fun o => by rw [upd_ne npt]; exact B2.ob
        refine ⟨_, rfl, .inl ⟨rfl, _, SqL.of upd_same⟩, _, rfl, _, rfl, p, C, dx, _, _, rfl, hp2 _, T.cl, T.nb, bF_b, _, _, rfl, rfl, by omega, _, _, rfl, rfl, t, _, _, rfl, rfl, upd_same, ?_, ?_⟩
        · rw [List.length_append]
          show _ + 1 < sizeLine
          omega
        · refine ⟨_, rfl, ?_, ?_⟩
          · intro z o e
            rw [upd_ne (ne_of_none e ht), upd_ne (ne_of_none e ht)]
            exact s3 _ _ e
          · rw [upd_same, List.take_add_one, hx]
            simp [told']
      · rintro σ H2 ⟨v, rfl, s3, ht3⟩
        rw [natV, List.length_map, List.take_length] at ht3
        exact ⟨_, rfl, k _ t (s1.trans s3) (s1.free ht) ht3⟩
end
end CH

namespace CH
open PySem PySem.Spec PyProof.Rows L2
open Ti03Neutral (callIn)
theorem told_eq (b : Nat) (ps : List Nat) : told b ps = told' b ps.length ps := rfl
theorem told_le {a b : Nat} {f : Nat → Bool} (h : a * b ≤ 9) : (told b ((List.range (a * b)).filter f)).length ≤ 19 := by
  rw [told_eq, told'_len]
  have := List.length_filter_le f (List.range (a * b))
  rw [List.length_range] at this
  omega
theorem heapsIn_le {x : Ti03.Box} (g : Good x) : (heapsIn x.a x.b x.c).length ≤ 1953125 := by
  have h1 := grown_le (b := x.b) g.c4 (x.a * x.b)
  have h2 : x.a * x.b ≤ 9 := Nat.mul_le_mul g.a3 g.b3
  exact Nat.le_trans h1 (pow5 h2)
section
variable {P : Program} {w : World} {K : PySem.W.Frag} {mg : Str → Option Value} {base : Heap} {C : Addr}
theorem scCorners : FnScope ["box", "numbers"] ["box", "numbers"] (defScope sCorners) := ⟨rfl, rfl, rfl, by decide +kernel, rfl, by decide +kernel, by decide +kernel⟩
theorem ok_corners {f fV : Addr} {fd fdV : FuncData} (F : Fun K "call_corners" "call_corners" sCorners f fd) (GV : FnOk P w K mg base CX0 4 fV fdV ["box", "step"] (spPl K C)) (cV : Cal K mg "places_to_move" fV fdV ["box", "step"]) : FnOk P w K mg base CX0 5 f fd ["box", "numbers"] (spAct K C 6) := by
  refine F.ok scCorners (fun vs H Q E h => ?_) (fun cdv A outer s H vs Q E hr h => ?_)
  · obtain ⟨X, p, q, d, ns, c, rfl, _⟩ := h
    rfl
  · obtain ⟨X, p, q, d, ns, c, rfl, ⟨dx, lh, lt, B⟩, al, hS, hc, k⟩ := h
    obtain ⟨rfl, rfl⟩ := in6 hc
    rw [step_corners B.good (isHeap_shape B.ok)] at k
    have hab : d.box.a * d.box.b ≤ 9 := Nat.mul_le_mul B.good.a3 B.good.b3
    have hsz : (16777216 : Nat) = sizeLine := by decide
    refine ⟨_, pss_one (ps_ret (pe_op op_cat (pe_call GV hr rfl cV.g cV.kp cV.b .nil pass0 (pa_cons (pv 0) (pa_cons pe_int pa_nil))) (pe_call GV hr rfl cV.g cV.kp cV.b .nil pass0 (pa_cons (pv 0) (pa_cons (pe_un un_neg pe_int) pa_nil))))), ?_⟩
    refine ⟨_, rfl, X, p, d, true, rfl, ⟨dx, lh, lt, B⟩, fun H1 r1 s1 n1 h1 => ?_⟩
    refine ⟨_, rfl, _, rfl, X, p, d, false, rfl, ⟨dx, lh, lt, B.same s1⟩, fun H2 r2 s2 n2 h2 => ?_⟩
    refine ⟨r1, r2, _, _, rfl, rfl, s2 _ _ h1, h2, ?_, fun r hr' => ?_⟩
    · have l1 := told_le (f := fitP true d) hab
      have l2 := told_le (f := fitP false d) hab
      rw [List.length_map, List.length_map]
      omega
    · refine k _ r (Same.but ((s1.trans s2).trans (Same.upd_new hr'))) ((s1.trans s2).free hr') ⟨dx, lh, lt, ((B.same s1).same s2).same (Same.upd_new hr')⟩ ?_
      rw [upd_same, List.map_append]
      rfl
abbrev nVol : List Str := ["box", "numbers", "k", "heights"]
theorem scVol : FnScope nVol ["box", "numbers"] (defScope sVolume) := ⟨rfl, rfl, rfl, by decide +kernel, rfl, by decide +kernel, by decide +kernel⟩
theorem ok_volume {f : Addr} {fd : FuncData} (F : Fun K "call_volume" "call_volume" sVolume f fd) (T : Txt K mg C) : FnOk P w K mg base CX0 1 f fd ["box", "numbers"] (spAct K C 7) := by
  refine F.ok scVol (fun vs H Q E h => ?_) (fun cdv A outer s H vs Q E hr h => ?_)
  · obtain ⟨X, p, q, d, ns, c, rfl, _⟩ := h
    rfl
  · obtain ⟨X, p, q, d, ns, c, rfl, ⟨dx, lh, lt, B⟩, al, hS, hc, k⟩ := h
    obtain ⟨n, rfl, rfl⟩ := in7 hc
    rw [step_volume B.good] at k
    obtain ⟨rs, L, _⟩ := id B.hs
    have hsz : (16777216 : Nat) = sizeLine := by decide
    refine ⟨_, pss_cons (ps_set (i := 2) scVol.nd rfl (Or.inr rfl) (pe_ix ix_list (pv 1) pe_int (fun _ _ => rfl)))
      (pss_one (ps_ret (pe_lst (pa_cons (pe_callB call_len_seq (by rfl) T.len PySem.boot_len (pa_cons
        (pe_lc (own := [("heights", 3)]) (g := gName 3) (tt := tTest (tOp rEq (tCB (rSum K) (tCons (tVar 3) tNil)) (tVar 2))) (te := tVar 3) rfl scVol.nd (pi_list (pe_fld (pv 0) rfl))
          (blkOk_by (own := [("heights", 3)]) (N := nVol) (sc := defScope sVolume) (by decide +kernel))
          (fun _ _ _ _ _ => pg_name (i := 3) scVol.nd rfl (Or.inl rfl))
          (fun _ _ _ _ _ => pts_one (pt_cmpR op_eq (pe_callB (cr_sum rfl) (by rfl) T.sum (by decide +kernel) (pa_cons (pv 3) pa_nil)) (pv 2) (nomark _)))
          (fun _ _ _ _ _ => pv 3)) pa_nil)) pa_nil)))), ?_⟩
    refine ⟨_, rfl, q, _, _, _, rfl, rfl, hS, rfl, _, rfl, p, C, dx, _, _, rfl, B.ob, T.cl, T.nhs, bF_heaps, lh, rfl, ⟨_, SqL.of L.at_⟩, fun D hD => ?_⟩
    refine lc_list (K := K) (a := lh) (xs := rs.map V.ref) (fun i H' => Same H H' ∧ ∃ zs, H' D = some (.lst zs) ∧ zs.length = (((heapsIn d.box.a d.box.b d.box.c).take i).filter fun l => decide ((Ti03.ints l).sum = (n : Int))).length)
      ⟨Same.upd_new hD, [], upd_same, rfl⟩ (fun i H' _ ⟨s1, _⟩ => SqL.of (s1 _ _ L.at_)) ?_ ?_
    · rintro i y H1 hi ⟨s1, zs, hD1, hl⟩
      obtain ⟨r, hr0, rfl⟩ : ∃ r, rs[i]? = some r ∧ y = V.ref r := by
        rw [List.getElem?_map] at hi
        cases e : rs[i]? with
        | none => rw [e] at hi; cases hi
        | some r => rw [e] at hi; exact ⟨r, rfl, (Option.some.inj hi).symm⟩
      obtain ⟨l, hl1, hr1⟩ := L.rows.get hr0
      have e2 : (heapsIn d.box.a d.box.b d.box.c).take (i + 1) = (heapsIn d.box.a d.box.b d.box.c).take i ++ [l] := by
        rw [List.take_add_one, hl1]; rfl
      have hz : zs.length < sizeLine := by
        have l1 := List.length_filter_le (fun l => decide ((Ti03.ints l).sum = (n : Int))) ((heapsIn d.box.a d.box.b d.box.c).take i)
        have l2 := heapsIn_le B.good
        have l3 := List.length_take_le i (heapsIn d.box.a d.box.b d.box.c)
        rw [List.length_take] at l1
        omega
      refine ⟨rfl, _, rfl, r, Ti03.ints l, rfl, SqL.of (s1 _ _ hr1), _, rfl, rfl, _, rfl, ?_⟩
      refine ite2 (fun c => ?_) (fun c => ?_)
      · have c' : (Ti03.ints l).sum = (n : Int) := V.int.inj (of_decide_eq_true c)
        refine ⟨_, rfl, zs, hD1, hz, ?_, _, upd_same, ?_⟩
        · intro x o e
          rw [upd_ne (ne_of_none e hD)]
          exact s1 _ _ e
        · have e3 : List.filter (fun l => decide ((Ti03.ints l).sum = (n : Int))) [l] = [l] := by simp [c']
          rw [e2, List.filter_append, e3, List.length_append, List.length_append, hl]
          rfl
      · have c' : ¬ (Ti03.ints l).sum = (n : Int) := fun z => c (decide_eq_true (congrArg V.int z))
        refine ⟨s1, zs, hD1, ?_⟩
        rw [e2, List.filter_append, List.filter_cons_of_neg (by simpa using c'), List.filter_nil, List.append_nil, hl]
    · rintro H1 ⟨s1, zs, hD1, hl⟩
      refine ⟨D, zs, rfl, .inl (SqL.of hD1), (by show 1 ≤ sizeLine; decide), fun r hr' => ?_⟩
      refine k _ r (Same.but (s1.trans (Same.upd_new hr'))) (s1.free hr') ⟨dx, lh, lt, (B.same s1).same (Same.upd_new hr')⟩ ?_
      rw [upd_same, hl, LL.len L, List.take_length]
      rfl
end
end CH

namespace CH
open PySem PySem.Spec PyProof.Rows L2
/-! ### a dict of the top with whole numbers as keys, read -/
def asV : Value → Option V
  | .int i _ => some (.int i)
  | .ref a => some (.ref a)
  | _ => none
theorem asV_rel {u : Value} {v : V} (h : asV u = some v) : RelV v u := by
  unfold asV at h
  split at h
  · cases h; exact ⟨_, rfl⟩
  · cases h; exact rfl
  · cases h
def intD : List DictEntry → Option (List (Int × V))
  | [] => some []
  | e :: r => match e.key, asV e.val, intD r with
    | .int k _, some v, some l => if e.hash = hashInt k then some ((k, v) :: l) else none
    | _, _, _ => none
theorem intD_cons {e : DictEntry} {r : List DictEntry} {l : List (Int × V)} (h : intD (e :: r) = some l) : ∃ k t v l', e.key = .int k t ∧ asV e.val = some v ∧ intD r = some l' ∧ e.hash = hashInt k ∧ l = (k, v) :: l' := by
  unfold intD at h
  split at h
  · rename_i k t v l' h1 h2 h3
    split at h
    · rename_i h4
      cases h
      exact ⟨k, t, v, l', h1, h2, h3, h4, rfl⟩
    · cases h
  · cases h
theorem intD_keys : ∀ {es : List DictEntry} {l : List (Int × V)}, intD es = some l → ∀ e ∈ es, ∃ k, Value.isInt k e.key = true ∧ e.hash = hashInt k
  | e :: r, l, h, x, m => by
    obtain ⟨k, t, v, l', h1, h2, h3, h4, rfl⟩ := intD_cons h
    rcases List.mem_cons.mp m with rfl | m
    · exact ⟨k, by rw [h1]; simp [Value.isInt], h4⟩
    · exact intD_keys h3 x m
theorem intD_find : ∀ {es : List DictEntry} {l : List (Int × V)} {k : Int} {v : V}, intD es = some l → l.lookup k = some v → ∃ u, (es.find? fun d => Value.isInt k d.key).map (·.val) = some u ∧ asV u = some v
  | [], l, k, v, h, e => by cases h; cases e
  | d :: r, l, k, v, h, e => by
    obtain ⟨k', t, v', l', h1, h2, h3, h4, rfl⟩ := intD_cons h
    by_cases q : k = k'
    · subst q
      have e' : v' = v := by
        rw [List.lookup_cons, beq_self_eq_true] at e
        exact Option.some.inj e
      subst e'
      exact ⟨d.val, by rw [List.find?_cons_of_pos (by rw [h1]; simp [Value.isInt])]; rfl, h2⟩
    · have e' : l'.lookup k = some v := by
        have b : (k == k') = false := by simpa using q
        rw [List.lookup_cons, b] at e
        exact e
      obtain ⟨u, hu, ru⟩ := intD_find h3 e'
      exact ⟨u, by rw [List.find?_cons_of_neg (by rw [h1]; simp [Value.isInt]; exact fun z => q z.symm)]; exact hu, ru⟩
/-- at a the top has written a dict of these pairs -/
def TabI (K : PySem.W.Frag) (a : Addr) (l : List (Int × V)) : Prop := ∃ es n, K.lookup a = some ⟨.type "dict", none, .dict es n, #[]⟩ ∧ intD es.toList = some l
def rTabI (K : PySem.W.Frag) : R2 := fun x y H Q => ∃ a k l v, x = .ref a ∧ y = .int k ∧ TabI K a l ∧ l.lookup k = some v ∧ Q v H
theorem ix_tabI {X : Cx} : IxR X (rTabI X.K) := by
  intro value slice pins s σ H x y v u Q I rx ry h hs
  obtain ⟨a, k, l, r, rfl, rfl, ⟨es, n, hl, hd⟩, e, q⟩ := h
  obtain rfl : v = Value.ref a := rx
  obtain ⟨t, rfl⟩ := ry
  obtain ⟨u0, hf, ru⟩ := intD_find hd e
  have hm : s.heap.MapOf (intKind X.prog X.w) a (fun k => findBy Value.isInt es k) :=
    ⟨_, es, n, I.kIn _ _ hl, ⟨rfl, rfl, rfl⟩, rfl, fun d m => intD_keys hd d (Array.mem_toList_iff.mpr m), fun _ => rfl⟩
  have hf' : findBy Value.isInt es k = some u0 := by
    obtain ⟨el⟩ := es
    unfold findBy
    rw [List.find?_toArray]
    first
      | exact hf
      | (cases e2 : List.find? (fun d => Value.isInt k d.key) el with
        | none => rw [e2] at hf; cases hf
        | some d => rw [e2] at hf; exact hf)
  exact tail_any hm.typeIs slot_dict_getitem.lookup (wpAny_getItem_of (intKind_is X.prog X.w k t) hm hf' ⟨r, H, I.tok _, asV_rel ru, q⟩) hs
/-! ### a call of what a local name holds -/
abbrev HeldB (X : Cx) (k : Nat) (f : Addr) (sp : Sp) : Prop := Held X.prog X.w X.K X.mg X.base k f sp
def tCallN (X : Cx) (k i : Nat) (t : TA) : TE := fun σ H Q => ∃ f sp j, σ[i]? = some (some (.ref f)) ∧ j ≤ k ∧ HeldB X j f sp ∧ t σ H fun vs H1 => sp vs H1 Q (fun _ _ _ => False)
theorem pe_callN {X : Cx} {k i : Nat} {x : Str} {p pos : Pos} {e : Expr} {es : List Expr} {t : TA} (hr : Room k X.A) (hN : X.N[i]? = some x) (hv : Vis X.env.scope x) (ha : PA X (e :: es) t)
    (h1 : (x == ("__debug__" : Str)) = false := by decide) (h2 : (x == ("__classdict__" : Str)) = false := by decide)
    (h3 : starEach (e :: es) X.env = (false, eval e X.env) :: starEach es X.env := by rfl) (h4 : (backTo pos (starEach es X.env)).any (·.1) = false := by rfl) : PE X (.Call (.Name x p) (e :: es) [] pos) (tCallN X k i t) := by
  constructor
  rintro pins s σ H Q I ⟨f, sp, j, hs, hj, hA, ht⟩
  have A : ∀ g sq, (if g = f then some sp else none) = some sq → HeldB X j g sq := fun g sq z => by
    by_cases q : g = f
    · rw [if_pos q] at z; cases z; rw [q]; exact hA
    · rw [if_neg q] at z; cases z
  exact (pe_callA (S := fun g => if g = f then some sp else none) A (hr.mono hj) hN hv ha h1 h2 h3 h4).run pins s σ H Q I ⟨f, sp, hs, if_pos rfl, ht⟩
end CH

namespace CH
open PySem PySem.Spec PyProof.Rows L2
open Ti03Neutral (callIn)
abbrev sFirst : Stmt := top 45
abbrev sEnd : Stmt := top 46
abbrev sAns : Stmt := top 47
/-- the top's tables -/
structure Tabs (P : Program) (w : World) (K : PySem.W.Frag) (mg : Str → Option Value) (base : Heap) (C : Addr) (kA : Nat) (aR aW aA : Addr) (rl : List V) (wl al : List (Int × V)) : Prop where
  gR : mg "ROW_CALLS" = some (.ref aR)
  gW : mg "WIDTHS" = some (.ref aW)
  gA : mg "ACTIONS" = some (.ref aA)
  tR : ∀ H, SqT K H aR rl
  fl : rl.all flatV = true
  tW : TabI K aW wl
  tA : TabI K aA al
  row : ∀ p s, PyTi03.shape p = some s → (inV (.int p) rl = true ↔ Rowy p)
  wid : ∀ p n, PyTi03.shape p = some (n, 0) → ¬ Rowy p → wl.lookup p = some (.int (n : Nat))
  act : ∀ (n : Nat) s, PyTi03.shape n = some s → ∃ f j, al.lookup (n : Int) = some (.ref f) ∧ j ≤ kA ∧ Held P w K mg base j f (spAct K C n)
def spFirst (K : PySem.W.Frag) : Sp := fun vs H Q _ => ∃ (q : Addr) (ns : List Int) (i pn a : Nat) (s : Nat × Nat), vs = [.ref q, .int i] ∧ SqL K H q (ns.map V.int) ∧ ns[i]? = some (pn : Int) ∧ PyTi03.shape pn = some s ∧
  (Rowy pn → a = i + 2) ∧ (¬ Rowy pn → a = i + 1) ∧ Q (.int (a : Int)) H
def spEnd (K : PySem.W.Frag) : Sp := fun vs H Q _ => ∃ (q : Addr) (ns : List Int) (i pn e : Nat), vs = [.ref q, .int i] ∧ SqL K H q (ns.map V.int) ∧ ns[i]? = some (pn : Int) ∧
  ((∃ n, PyTi03.shape pn = some (n, 0) ∧ ¬ Rowy pn ∧ e = i + 1 + n) ∨ (PyTi03.shape pn = some (0, 1) ∧ Rowy pn ∧ ∃ m : Nat, ns[i + 1]? = some (m : Int) ∧ e = i + 2 + m)) ∧ Q (.int (e : Int)) H
def spAns (K : PySem.W.Frag) : Sp := fun vs H Q _ => ∃ (q : Addr) (ns : List Int), vs = [.ref q] ∧ SqL K H q (ns.map V.int) ∧ PyTi03.answers_asked ns = true ∧
  ∀ (H' : Hp) (r : Addr), H' r = some (.lst ((PyTi03.answers ns).map V.int)) → Q (.ref r) H'
theorem at_some {ns : List Int} {i : Nat} {z : Int} (h : ns[i]? = some z) : atI (ns.map V.int) ((i : Nat) : Int) = some (V.int z) := atI_nat (by rw [List.getElem?_map, h]; rfl)
theorem at_someZ {ns : List Int} {i : Nat} {z y : Int} (e : y = (i : Int)) (h : ns[i]? = some z) : atI (ns.map V.int) y = some (V.int z) := by rw [e]; exact at_some h
theorem cut_ints (ns : List Int) {i j : Nat} (h1 : i ≤ j) (h2 : j ≤ ns.length) : cutV (ns.map V.int) (some (i : Int)) (some (j : Int)) = ((ns.drop i).take (j - i)).map V.int := by
  unfold cutV
  rw [HT.sIx_nat, HT.sIx_nat, List.length_map, Nat.min_eq_left (Nat.le_trans h1 h2), Nat.min_eq_left h2, List.map_take, List.map_drop]
section
variable {P : Program} {w : World} {K : PySem.W.Frag} {mg : Str → Option Value} {base : Heap} {C aR aW aA : Addr} {kA : Nat} {rl : List V} {wl al : List (Int × V)}
theorem scFirst : FnScope ["calls", "at"] ["calls", "at"] (defScope sFirst) := ⟨rfl, rfl, rfl, by decide +kernel, rfl, by decide +kernel, by decide +kernel⟩
theorem ok_first {f : Addr} {fd : FuncData} (F : Fun K "first_of_call" "first_of_call" sFirst f fd) (B : Tabs P w K mg base C kA aR aW aA rl wl al) : FnOk P w K mg base CX0 1 f fd ["calls", "at"] (spFirst K) := by
  refine F.ok scFirst (fun vs H Q E h => ?_) (fun cdv A outer s H vs Q E hr h => ?_)
  · obtain ⟨q, ns, i, pn, a, s, rfl, _⟩ := h
    rfl
  · obtain ⟨q, ns, i, pn, a, sh, rfl, hS, hi, hs, k1, k2, k⟩ := h
    refine ⟨_, pss_cons (ps_if (pt_cmpR op_in_seq (pe_ix ix_list (pv 0) (pv 1) (fun _ _ => rfl)) (pe_glob (v := .ref aR) rfl B.gR rfl) (by rfl)) (pss_one (ps_ret (pe_op op_add (pv 1) pe_int))) pss_nil)
      (pss_one (ps_ret (pe_op op_add (pv 1) pe_int))), ?_⟩
    refine ⟨_, rfl, _, rfl, q, _, _, _, rfl, rfl, hS, at_some hi, aR, _, rfl, .inr (B.tR _), rfl, B.fl, _, rfl, ?_⟩
    refine ite2 (fun c => ?_) (fun c => ?_)
    · rw [k1 ((B.row _ _ hs).mp c)] at k
      exact ⟨_, rfl, _, _, rfl, rfl, k⟩
    · rw [k2 (fun z => c ((B.row _ _ hs).mpr z))] at k
      exact ⟨_, rfl, _, _, rfl, rfl, k⟩
theorem scEnd : FnScope ["calls", "at"] ["calls", "at"] (defScope sEnd) := ⟨rfl, rfl, rfl, by decide +kernel, rfl, by decide +kernel, by decide +kernel⟩
theorem ok_end {f : Addr} {fd : FuncData} (F : Fun K "end_of_call" "end_of_call" sEnd f fd) (B : Tabs P w K mg base C kA aR aW aA rl wl al) : FnOk P w K mg base CX0 1 f fd ["calls", "at"] (spEnd K) := by
  refine F.ok scEnd (fun vs H Q E h => ?_) (fun cdv A outer s H vs Q E hr h => ?_)
  · obtain ⟨q, ns, i, pn, e, rfl, _⟩ := h
    rfl
  · obtain ⟨q, ns, i, pn, e, rfl, hS, hi, hk, k⟩ := h
    refine ⟨_, pss_cons (ps_if (pt_cmpR op_in_seq (pe_ix ix_list (pv 0) (pv 1) (fun _ _ => rfl)) (pe_glob (v := .ref aR) rfl B.gR rfl) (by rfl)) (pss_one (ps_ret (pe_op op_add (pe_op op_add (pv 1) pe_int) (pe_ix ix_list (pv 0) (pe_op op_add (pv 1) pe_int) (fun _ _ => rfl))))) pss_nil)
      (pss_one (ps_ret (pe_op op_add (pe_op op_add (pv 1) pe_int) (pe_ix ix_tabI (pe_glob (v := .ref aW) rfl B.gW rfl) (pe_ix ix_list (pv 0) (pv 1) (fun _ _ => rfl)) (fun _ _ => rfl))))), ?_⟩
    refine ⟨_, rfl, _, rfl, q, _, _, _, rfl, rfl, hS, at_some hi, aR, _, rfl, .inr (B.tR _), rfl, B.fl, _, rfl, ?_⟩
    refine ite2 (fun c => ?_) (fun c => ?_)
    · rcases hk with ⟨n, hs, nr, rfl⟩ | ⟨hs, yr, m, hm, rfl⟩
      · exact absurd ((B.row _ _ hs).mp c) nr
      · refine ⟨_, rfl, _, _, rfl, rfl, _, rfl, _, rfl, _, _, rfl, rfl, q, _, _, _, rfl, rfl, hS, at_someZ (by show (i : Int) + 1 = ((i + 1 : Nat) : Int); omega) hm, _, _, rfl, rfl, ?_⟩
        exact k
    · rcases hk with ⟨n, hs, nr, rfl⟩ | ⟨hs, yr, m, hm, rfl⟩
      · refine ⟨_, rfl, _, _, rfl, rfl, _, rfl, _, rfl, q, _, _, _, rfl, rfl, hS, at_some hi, aW, _, _, _, rfl, rfl, B.tW, B.wid _ _ hs nr, _, _, rfl, rfl, ?_⟩
        exact k
      · exact absurd ((B.row _ _ hs).mpr yr) c
end
end CH

namespace CH
open PySem PySem.Spec PyProof.Rows L2
open Ti03Neutral (callIn)
def slot3 : Option (Option V) → Nat
  | some (some (.int z)) => z.toNat
  | _ => 0
section
variable {P : Program} {w : World} {K : PySem.W.Frag} {mg : Str → Option Value} {base : Heap} {C aR aW aA : Addr} {rl : List V} {wl al : List (Int × V)}
abbrev nAns : List Str := ["calls", "box", "answered", "at", "end", "action", "numbers"]
theorem scAns : FnScope nAns ["calls"] (defScope sAns) := ⟨rfl, rfl, rfl, by decide +kernel, rfl, by decide +kernel, by decide +kernel⟩
theorem ok_ans {f fI fE fS : Addr} {fd fdI fdE fdS : FuncData} (F : Fun K "answers" "answers" sAns f fd) (T : Txt K mg C) (B : Tabs P w K mg base C 8 aR aW aA rl wl al) (M : Mk K C fI) (GI : FnOk P w K mg base CX0 3 fI fdI ["self"] (spInit C)) (bI : Binds K fdI ["self"] [])
    (GE : FnOk P w K mg base CX0 1 fE fdE ["calls", "at"] (spEnd K)) (cE : Cal K mg "end_of_call" fE fdE ["calls", "at"])
    (GS : FnOk P w K mg base CX0 1 fS fdS ["calls", "at"] (spFirst K)) (cS : Cal K mg "first_of_call" fS fdS ["calls", "at"]) : FnOk P w K mg base CX0 9 f fd ["calls"] (spAns K) := by
  refine F.ok scAns (fun vs H Q E h => ?_) (fun cdv A outer s H vs Q E hr h => ?_)
  · obtain ⟨q, ns, rfl, _⟩ := h
    rfl
  · obtain ⟨q, ns, rfl, hS, hask, k⟩ := h
    have hr1 : Room 1 _ := hr.mono (by decide)
    have hr4 : Room 4 _ := hr.mono (by decide)
    refine ⟨_, pss_cons (ps_set (i := 1) scAns.nd rfl (Or.inl rfl) (pe_make0 M GI hr4 rfl T.gC bI .nil pass0))
      (pss_cons (ps_set (i := 2) scAns.nd rfl (Or.inl rfl) (pe_lst pa_nil))
      (pss_cons (ps_set (i := 3) scAns.nd rfl (Or.inl rfl) pe_int)
      (pss_cons (ps_while PassesOwn.never (pt_cmpR op_lt (pv 3) (pe_callB call_len_seq (by rfl) T.len PySem.boot_len (pa_cons (pv 0) pa_nil)) (nomark _))
        (pss_cons (ps_set (i := 4) scAns.nd rfl (Or.inl rfl) (pe_call GE hr1 rfl cE.g cE.kp cE.b .nil pass0 (pa_cons (pv 0) (pa_cons (pv 3) pa_nil))))
        (pss_cons (ps_set (i := 5) scAns.nd rfl (Or.inl rfl) (pe_ix ix_tabI (pe_glob (v := .ref aA) rfl B.gA rfl) (pe_ix ix_list (pv 0) (pv 3) (fun _ _ => rfl)) (fun _ _ => rfl)))
        (pss_cons (ps_set (i := 6) scAns.nd rfl (Or.inl rfl) (pe_callN (k := 8) (i := 5) hr rfl (.inl rfl) (pa_cons (pv 1) (pa_cons (pe_slice sl_list (pv 0) (po_some (pe_call GS hr1 rfl cS.g cS.kp cS.b .nil pass0 (pa_cons (pv 0) (pa_cons (pv 3) pa_nil)))) (po_some (pv 4))) pa_nil))))
        (pss_cons (ps_expr (pe_bm PySem.F.plainAttrs_list PySem.F.slot_list_append PySem.F.type_list_append mt_append (pv 2) (pa_cons (pe_callB call_len_seq (by rfl) T.len PySem.boot_len (pa_cons (pv 6) pa_nil)) pa_nil)))
        (pss_cons (ps_expr (pe_bm PySem.F.plainAttrs_list PySem.F.slot_list_extend PySem.F.type_list_extend mt_extend (pv 2) (pa_cons (pv 6) pa_nil)))
        (pss_one (ps_set (i := 3) scAns.nd rfl (Or.inl rfl) (pv 4)))))))))
      (pss_one (ps_ret (pv 2)))))), ?_⟩
    obtain ⟨J0, hlen⟩ := J_start hask
    have hsz : (16777216 : Nat) = sizeLine := by decide
    -- box = Box()
    intro x dx nx nd ne
    refine ⟨x, dx, rfl, upd_same, fun H1 B1 k1 => ⟨rfl, ?_⟩⟩
    have s1 : Same H H1 := Same.made nx nd k1
    obtain ⟨ob, hob⟩ : ∃ o, H1 x = some o := by
      obtain ⟨_, _, _, R⟩ := B1
      exact ⟨_, R.ob⟩
    -- answered = []; at = 0
    refine ⟨Nat.zero_le _, fun pa ha => ?_⟩
    have npx : x ≠ pa := ne_of_none hob ha
    have pa0 : H pa = none := s1.free ha
    refine while_by (fun σ H' => ∃ (i : Nat) (d : Ti03.St) (out : List Int) (v4 v5 v6 : Option V), σ = [some (.ref q), some (.ref x), some (.ref pa), some (.int i), v4, v5, v6] ∧ Same H H' ∧ BoxAt (fun a => a = pa) C H' x d ∧ H' pa = some (.lst (out.map V.int)) ∧ J ns i d out ∧ i ≤ ns.length)
      (fun σ _ => ns.length - slot3 σ[3]?) ⟨0, Ti03.init, [], none, none, none, rfl, s1.trans (Same.upd_new ha), (B1.avoid ha).same (Same.upd_new ha), upd_same, J0, Nat.zero_le _⟩ ?_ ?_
    · rintro σ H2 ⟨i, d, out, v4, v5, v6, rfl, s2, B2, ha2, j2, hi⟩
      have hS2 := s2.seq hS
      refine ⟨_, rfl, _, rfl, q, _, rfl, .inl hS2, _, _, rfl, rfl, _, rfl, ?_⟩
      refine ite2 (fun c1 => ?_) (fun c1 => ?_)
      · have hi' : i < ns.length := by
          have := of_decide_eq_true c1
          rw [List.length_map] at this
          omega
        obtain ⟨pn, args, c, fst, e, hpn, hc, hfe, hie, hen, hcut, j3, hsh⟩ := J_step hi' j2
        obtain ⟨sh, hshape⟩ : ∃ sh, PyTi03.shape pn = some sh := by
          rcases hsh with ⟨n, h1, _⟩ | ⟨h1, _⟩
          · exact ⟨_, h1⟩
          · exact ⟨_, h1⟩
        obtain ⟨fa, ja, hal, hja, hheld⟩ := B.act pn sh hshape
        have hend : (∃ n, PyTi03.shape pn = some (n, 0) ∧ ¬ Rowy pn ∧ e = i + 1 + n) ∨ (PyTi03.shape pn = some (0, 1) ∧ Rowy pn ∧ ∃ m : Nat, ns[i + 1]? = some (m : Int) ∧ e = i + 2 + m) := by
          rcases hsh with ⟨n, h1, h2, _, h4⟩ | ⟨h1, h2, _, m, h4, h5⟩
          · exact .inl ⟨n, h1, h2, h4⟩
          · exact .inr ⟨h1, h2, m, h4, h5⟩
        have hf1 : Rowy pn → fst = i + 2 := fun z => by
          rcases hsh with ⟨n, h1, h2, _, h4⟩ | ⟨h1, h2, h3, _⟩
          · exact absurd z h2
          · exact h3
        have hf2 : ¬ Rowy pn → fst = i + 1 := fun z => by
          rcases hsh with ⟨n, h1, h2, h3, h4⟩ | ⟨h1, h2, h3, _⟩
          · exact h3
          · exact absurd h2 z
        -- how long the answers may become
        have hout : out.length + ((Ti03.step d c).2.length + 1) ≤ 10000000 := by
          obtain ⟨_, _, _, _, h3⟩ := j3
          rw [h3, List.length_append, List.length_append, List.length_cons] at hlen
          omega
        refine ⟨_, rfl, _, rfl, q, ns, i, pn, e, rfl, hS2, hpn, hend, ?_⟩
        refine ⟨_, rfl, _, rfl, q, _, _, _, rfl, rfl, hS2, at_some hpn, aA, _, al, _, rfl, rfl, B.tA, hal, ?_⟩
        refine ⟨fa, spAct K C pn, ja, rfl, hja, hheld, _, rfl, _, rfl, _, rfl, _, rfl, q, ns, i, pn, fst, sh, rfl, hS2, hpn, hshape, hf1, hf2, _, rfl, _, rfl, _, rfl, q, _, rfl, hS2, fun u hu => ?_⟩
        have s3 : Same H2 (upd H2 u (.lst (cutV (ns.map V.int) (some (fst : Int)) (some (e : Int))))) := Same.upd_new hu
        have hu' : upd H2 u (.lst (cutV (ns.map V.int) (some (fst : Int)) (some (e : Int)))) u = some (.lst (rowV args)) := by
          rw [upd_same, cut_ints ns hfe hen, hcut]
        refine ⟨fun a => a = pa, x, u, d, args, c, rfl, B2.same s3, (fun a z e => by rw [z, s3 _ _ ha2] at e; cases e), SqL.of hu', hc, fun H3 r k3 nr B3 hr3 => ?_⟩
        have ha3 : H3 pa = some (.lst (out.map V.int)) := k3 _ _ (s3 _ _ ha2) npx.symm
        have nra : r ≠ pa := (ne_of_none (s3 _ _ ha2) nr).symm
        have h0 : Same H H3 := fun b o eb => k3 _ _ (s3 _ _ (s2 _ _ eb)) (ne_of_none eb nx)
        refine ⟨_, rfl, .inl ⟨rfl, _, SqL.of ha3⟩, _, rfl, r, _, rfl, .inl (SqL.of hr3), pa, _, _, rfl, rfl, ha3, (by rw [List.length_map]; omega), ?_⟩
        refine ⟨_, rfl, .inl ⟨rfl, _, SqL.of upd_same⟩, _, rfl, pa, r, _, _, rfl, rfl, upd_same, (by rw [upd_ne nra]; exact hr3), ?_, ?_⟩
        · simp only [List.length_append, List.length_map, List.length_cons, List.length_nil]
          omega
        · refine ⟨_, rfl, ⟨e, _, _, _, _, _, rfl, ?_, ?_, ?_, j3, hen⟩, ?_⟩
          · intro b o eb
            rw [upd_ne (ne_of_none eb pa0), upd_ne (ne_of_none eb pa0)]
            exact h0 _ _ eb
          · exact (B3.upd npx).upd npx
          · rw [upd_same]
            simp
          · show ns.length - slot3 (some (some (V.int ((e : Nat) : Int)))) < ns.length - slot3 (some (some (V.int ((i : Nat) : Int))))
            show ns.length - ((e : Nat) : Int).toNat < ns.length - ((i : Nat) : Int).toNat
            omega
      · have hi' : ns.length ≤ i := Nat.le_of_not_lt fun z => c1 (decide_eq_true (by rw [List.length_map]; omega))
        refine ⟨_, rfl, ?_⟩
        rw [J_end hi' j2] at k
        exact k _ pa ha2
    · rintro σ H2 Q1 Q2 hq ⟨v, h1, u, h2, p1, ys, h3, h4, z1, z2, h5, h6, bb, h7, h8⟩
      exact ⟨v, h1, u, h2, p1, ys, h3, h4, z1, z2, h5, h6, bb, h7, hq _ _ h8⟩
end
end CH

namespace CH
open PySem PySem.Spec PyProof.Rows L2
open Ti03Neutral (callIn)
abbrev sCf : Stmt := top 6
abbrev sPath : Stmt := top 7
abbrev sCol : Stmt := top 8
abbrev sTurned : Stmt := top 9
abbrev sFilled : Stmt := top 10
abbrev sLaid : Stmt := top 11
abbrev sApart : Stmt := top 31
abbrev sOver : Stmt := top 32
abbrev sUnder : Stmt := top 33
abbrev sCPath : Stmt := top 34
abbrev sTurn : Stmt := top 35
abbrev sFill : Stmt := top 36
abbrev sLay : Stmt := top 37
abbrev sAT : Stmt := top 38
abbrev sAF : Stmt := top 39
abbrev sAL : Stmt := top 40
abbrev sAlike : Stmt := top 41
theorem in8 {ns : List Nat} {c : Ti03.Call} (h : callIn (8 :: ns) = some c) : c = .apart ns := (Option.some.inj h).symm
theorem in9 {ns : List Nat} {c : Ti03.Call} (h : callIn (9 :: ns) = some c) : c = .over ns := (Option.some.inj h).symm
theorem in10 {ns : List Nat} {c : Ti03.Call} (h : callIn (10 :: ns) = some c) : c = .under ns := (Option.some.inj h).symm
theorem in11 {ns : List Nat} {c : Ti03.Call} (h : callIn (11 :: ns) = some c) : ∃ x, ns = [x] ∧ c = .path x := by
  match ns, h with
  | [x], h => exact ⟨x, rfl, (Option.some.inj h).symm⟩
theorem in12 {ns : List Nat} {c : Ti03.Call} (h : callIn (12 :: ns) = some c) : ns = [] ∧ c = .turn := by
  match ns, h with
  | [], h => exact ⟨rfl, (Option.some.inj h).symm⟩
theorem in13 {ns : List Nat} {c : Ti03.Call} (h : callIn (13 :: ns) = some c) : ns = [] ∧ c = .fill := by
  match ns, h with
  | [], h => exact ⟨rfl, (Option.some.inj h).symm⟩
theorem in14 {ns : List Nat} {c : Ti03.Call} (h : callIn (14 :: ns) = some c) : ns = [] ∧ c = .lay := by
  match ns, h with
  | [], h => exact ⟨rfl, (Option.some.inj h).symm⟩
theorem in15 {ns : List Nat} {c : Ti03.Call} (h : callIn (15 :: ns) = some c) : ns = [] ∧ c = .alike := by
  match ns, h with
  | [], h => exact ⟨rfl, (Option.some.inj h).symm⟩
/-! ### rows -/
theorem rowV_len (l : List Nat) : (rowV l).length = l.length := by simp [rowV, Ti03.ints]
theorem rowV_app (l m : List Nat) : rowV (l ++ m) = rowV l ++ rowV m := by simp [rowV, Ti03.ints]
theorem rowV_snoc (l : List Nat) (n : Nat) : rowV (l ++ [n]) = rowV l ++ [V.int (n : Int)] := by simp [rowV, Ti03.ints]
theorem tYes_ite {σ : L2.St} {H : Hp} {A B : Hp → Prop} (h : A H) : tYes σ H fun b H3 => if b = true then A H3 else B H3 := iteT (A := A H) (B := B H) h
theorem row_get {l : List Nat} {i : Nat} {y : V} (h : (rowV l)[i]? = some y) : i < l.length ∧ y = V.int ((l.getD i 0 : Nat) : Int) := by
  unfold rowV Ti03.ints at h
  rw [List.getElem?_map, List.getElem?_map] at h
  cases e : l[i]? with
  | none => rw [e] at h; cases h
  | some x =>
    rw [e] at h
    refine ⟨(List.getElem?_eq_some_iff.mp e).1, ?_⟩
    rw [List.getD_eq_getElem?_getD, e]
    exact (Option.some.inj h).symm
theorem size_line : (16777216 : Nat) = sizeLine := by decide
theorem take_one {l : List Nat} {i : Nat} (h : i < l.length) : l.take (i + 1) = l.take i ++ [l.getD i 0] := by
  rw [List.take_add_one, List.getD_eq_getElem?_getD, List.getElem?_eq_getElem h]
  rfl
/-- a filter grown by one item -/
theorem filter_one_pos {α : Type} {p : α → Bool} {l : List α} {x : α} (c : p x = true) : (l ++ [x]).filter p = l.filter p ++ [x] := by
  rw [List.filter_append, List.filter_cons_of_pos c, List.filter_nil]
theorem filter_one_neg {α : Type} {p : α → Bool} {l : List α} {x : α} (c : ¬ p x = true) : (l ++ [x]).filter p = l.filter p := by
  rw [List.filter_append, List.filter_cons_of_neg c, List.filter_nil, List.append_nil]
/-- a new list D, grown: what stood before stands -/
theorem Same.grow {H H' : Hp} {D : Addr} {o : HO} (hD : H D = none) (s : Same H H') : Same H (upd H' D o) := fun b u e => by
  rw [upd_ne (ne_of_none e hD)]
  exact s _ _ e
section
variable {P : Program} {w : World} {K : PySem.W.Frag} {mg : Str → Option Value} {base : Heap} {C : Addr}
/-! ### columns_filled -/
def spCf (K : PySem.W.Frag) : Sp := fun vs H Q _ => ∃ (q : Addr) (l : List Nat) (r b k : Nat), vs = [.ref q, .int r, .int b, .int k] ∧ SqL K H q (rowV l) ∧ r ≤ 3 ∧ b ≤ 3 ∧ r * b + b ≤ l.length ∧ ∀ H' : Hp, Same H H' → Q (.int ((cfL b l k r : Nat) : Int)) H'
abbrev nCf : List Str := ["heights", "row", "b", "k", "height"]
theorem scCf : FnScope nCf ["heights", "row", "b", "k"] (defScope sCf) := ⟨rfl, rfl, rfl, by decide +kernel, rfl, by decide +kernel, by decide +kernel⟩
theorem cut_row (l : List Nat) {i j : Nat} (h1 : i ≤ j) (h2 : j ≤ l.length) : cutV (rowV l) (some (i : Int)) (some (j : Int)) = rowV ((l.drop i).take (j - i)) := by
  have hl : j ≤ (Ti03.ints l).length := by unfold Ti03.ints; rw [List.length_map]; exact h2
  rw [cut_ints (Ti03.ints l) h1 hl]
  unfold rowV Ti03.ints
  simp only [List.map_take, List.map_drop]
theorem ok_cf {f : Addr} {fd : FuncData} (F : Fun K "columns_filled" "columns_filled" sCf f fd) (T : Txt K mg C) : FnOk P w K mg base CX0 1 f fd ["heights", "row", "b", "k"] (spCf K) := by
  refine F.ok scCf (fun vs H Q E h => ?_) (fun cdv A outer s H vs Q E hr h => ?_)
  · obtain ⟨q, l, r, b, k, rfl, _⟩ := h
    rfl
  · obtain ⟨q, l, r, b, k, rfl, hS, hr3, hb3, hlen, kk⟩ := h
    refine ⟨_, pss_one (ps_ret (pe_callB call_len_seq (by rfl) T.len PySem.boot_len (pa_cons
        (pe_lc (own := [("height", 4)]) (g := gName 4) (tt := tTest (tOp (rI0 fun i j => .bl (decide (j ≤ i))) (tVar 4) (tVar 3))) (te := tVar 4) rfl scCf.nd
          (pi_list (pe_slice sl_list (pv 0) (po_some (pe_op op_mul (pv 1) (pv 2))) (po_some (pe_op op_add (pe_op op_mul (pv 1) (pv 2)) (pv 2)))))
          (blkOk_by (own := [("height", 4)]) (N := nCf) (sc := defScope sCf) (by decide +kernel))
          (fun _ _ _ _ _ => pg_name (i := 4) scCf.nd rfl (Or.inl rfl))
          (fun _ _ _ _ _ => pts_one (pt_cmpR op_ge (pv 4) (pv 3) (nomark _)))
          (fun _ _ _ _ _ => pv 4)) pa_nil))), ?_⟩
    have hz : ((r : Int) * (b : Int)) = ((r * b : Nat) : Int) := by simp
    refine ⟨_, rfl, _, rfl, _, rfl, _, _, rfl, rfl, .inl ⟨by omega, by omega⟩, _, rfl, _, rfl, _, rfl, _, _, rfl, rfl, .inl ⟨by omega, by omega⟩, _, rfl, _, _, rfl, rfl, _, rfl, q, _, rfl, hS, fun u hu => ?_⟩
    have ez : ((r : Int) * (b : Int)) + (b : Int) = ((r * b + b : Nat) : Int) := by rw [hz]; rfl
    have ecut : cutV (rowV l) (some ((r : Int) * (b : Int))) (some ((r : Int) * (b : Int) + (b : Int))) = rowV ((l.drop (r * b)).take b) := by
      rw [ez, hz, cut_row l (by omega) hlen]
      congr 2
      omega
    rw [ecut]
    generalize em : (l.drop (r * b)).take b = m
    have ecf : cfL b l k r = (m.filter fun v => decide (k ≤ v)).length := by unfold cfL; rw [em]
    have hml : m.length ≤ 3 := by rw [← em, List.length_take]; omega
    have s0 : Same H (upd H u (.lst (rowV m))) := Same.upd_new hu
    refine ⟨u, rfl, ⟨_, SqL.of upd_same⟩, fun D hD => ?_⟩
    refine lc_list (K := K) (a := u) (xs := rowV m) (fun i H' => Same (upd H u (.lst (rowV m))) H' ∧ ∃ zs, H' D = some (.lst zs) ∧ zs.length = ((m.take i).filter fun v => decide (k ≤ v)).length)
      ⟨Same.upd_new hD, [], upd_same, rfl⟩ (fun i H' _ ⟨s1, _⟩ => SqL.of (s1 _ _ upd_same)) ?_ ?_
    · rintro i y H1 hi ⟨s1, zs, hD1, hl⟩
      obtain ⟨hi', rfl⟩ := row_get hi
      have hfl := List.length_filter_le (fun v => decide (k ≤ v)) (m.take i)
      rw [List.length_take] at hfl
      have hsz := size_line
      refine ⟨rfl, _, rfl, _, rfl, _, _, rfl, rfl, _, rfl, ?_⟩
      rw [take_one hi']
      refine ite2 (fun c => ?_) (fun c => ?_)
      · have c' : k ≤ m.getD i 0 := by have := of_decide_eq_true c; omega
        refine ⟨_, rfl, zs, hD1, (by omega), Same.grow hD s1, _, upd_same, ?_⟩
        rw [filter_one_pos (p := fun v => decide (k ≤ v)) (decide_eq_true c'), List.length_append, List.length_append, hl]
        rfl
      · have c' : ¬ k ≤ m.getD i 0 := fun z => c (decide_eq_true (by omega))
        refine ⟨s1, zs, hD1, ?_⟩
        rw [filter_one_neg (p := fun v => decide (k ≤ v)) (by simpa using c'), hl]
    · rintro H1 ⟨s1, zs, hD1, hl⟩
      refine ⟨D, zs, rfl, .inl (SqL.of hD1), ?_⟩
      rw [hl, rowV_len, List.take_length, ← ecf]
      exact kk _ (s0.trans s1)
/-! ### column_of -/
def spCol (K : PySem.W.Frag) : Sp := fun vs H Q _ => ∃ (q : Addr) (l : List Nat) (j b : Nat), vs = [.ref q, .int j, .int b] ∧ SqL K H q (rowV l) ∧ 0 < b ∧ l.length ≤ 9 ∧
  ∀ (H' : Hp) (t : Addr), Same H H' → H t = none → H' t = some (.lst (rowV (colL b j l))) → Q (.ref t) H'
abbrev nCol : List Str := ["heights", "column", "b", "place", "height"]
theorem scCol : FnScope nCol ["heights", "column", "b"] (defScope sCol) := ⟨rfl, rfl, rfl, by decide +kernel, rfl, by decide +kernel, by decide +kernel⟩
def colP (b j : Nat) (l : List Nat) (i : Nat) : List Nat := ((List.range i).filter fun p => decide (p % b = j)).map fun p => l.getD p 0
theorem colP_pos {b j : Nat} {l : List Nat} {i : Nat} (c : i % b = j) : colP b j l (i + 1) = colP b j l i ++ [l.getD i 0] := by
  unfold colP
  rw [List.range_succ, filter_one_pos (p := fun p => decide (p % b = j)) (decide_eq_true c), List.map_append]
  rfl
theorem colP_neg {b j : Nat} {l : List Nat} {i : Nat} (c : ¬ i % b = j) : colP b j l (i + 1) = colP b j l i := by
  unfold colP
  rw [List.range_succ, filter_one_neg (p := fun p => decide (p % b = j)) (by simpa using c)]
theorem colP_len (b j : Nat) (l : List Nat) (i : Nat) : (colP b j l i).length ≤ i := by
  unfold colP
  rw [List.length_map]
  have := List.length_filter_le (fun p => decide (p % b = j)) (List.range i)
  rw [List.length_range] at this
  exact this
theorem ok_col {f : Addr} {fd : FuncData} (F : Fun K "column_of" "column_of" sCol f fd) (T : Txt K mg C) : FnOk P w K mg base CX0 1 f fd ["heights", "column", "b"] (spCol K) := by
  refine F.ok scCol (fun vs H Q E h => ?_) (fun cdv A outer s H vs Q E hr h => ?_)
  · obtain ⟨q, l, j, b, rfl, _⟩ := h
    rfl
  · obtain ⟨q, l, j, b, rfl, hS, hb, hlen, kk⟩ := h
    refine ⟨_, pss_one (ps_ret
        (pe_lc (own := [("place", 3), ("height", 4)]) (g := gTup K 2 (gCons (gName 3) (gCons (gName 4) gNil))) (tt := tTest (tOp rEq (tOp (rI (fun _ j => 0 < j) fun i j => .int (i % j)) (tVar 3) (tVar 2)) (tVar 1))) (te := tVar 4) rfl scCol.nd
          (pi_enum (by rfl) T.enum (pa_cons (pv 0) pa_nil))
          (blkOk_by (own := [("place", 3), ("height", 4)]) (N := nCol) (sc := defScope sCol) (by decide +kernel))
          (fun _ _ _ _ _ => pg_tup rfl (pgs_cons (pg_name (i := 3) scCol.nd rfl (Or.inl rfl)) (pgs_cons (pg_name (i := 4) scCol.nd rfl (Or.inl rfl)) pgs_nil)))
          (fun _ _ _ _ _ => pts_one (pt_cmpR op_eq (pe_op op_mod (pv 3) (pv 2)) (pv 1) (nomark _)))
          (fun _ _ _ _ _ => pv 4))), ?_⟩
    refine ⟨_, rfl, q, rowV l, rfl, hS, fun D hD => ?_⟩
    have hsz := size_line
    refine lc_it (walk_enum (K := K) (a := q) (xs := rowV l)) (fun i H' => Same H H' ∧ H' D = some (.lst (rowV (colP b j l i)))) ⟨Same.upd_new hD, upd_same⟩ (fun i H' _ ⟨s1, _⟩ => s1.seq hS) ?_ ?_
    · rintro i y H1 H2 hi ⟨s1, hD1⟩ ⟨t, x1, x2, rfl, nt, rfl, e1, e2⟩
      obtain ⟨hi', rfl⟩ := row_get e2
      obtain rfl := Option.some.inj e1
      have s2 := Same.upd_new (o := .tup [V.int ((i : Nat) : Int), V.int ((l.getD i 0 : Nat) : Int)]) nt
      have hD2 := s2 _ _ hD1
      have hcl := colP_len b j l i
      refine ⟨t, _, rfl, .inl (.inl upd_same), rfl, _, _, rfl, _, _, rfl, rfl, rfl, _, rfl, _, rfl, _, _, rfl, rfl, (by omega), _, rfl, rfl, _, rfl, ?_⟩
      refine ite2 (fun c => ?_) (fun c => ?_)
      · have c' : i % b = j := by
          have := V.int.inj (of_decide_eq_true c)
          exact_mod_cast this
        refine ⟨_, rfl, _, hD2, (by rw [rowV_len]; omega), Same.grow hD (s1.trans s2), ?_⟩
        rw [upd_same, colP_pos c', rowV_app]
        rfl
      · have c' : ¬ i % b = j := fun z => c (decide_eq_true (congrArg V.int (by exact_mod_cast z)))
        rw [colP_neg c']
        exact ⟨s1.trans s2, hD2⟩
    · rintro H1 ⟨s1, hD1⟩
      rw [rowV_len] at hD1
      exact kk _ D s1 hD hD1
end
end CH

namespace CH
open PySem PySem.Spec PyProof.Rows L2
open Ti03Neutral (callIn)
section
variable {P : Program} {w : World} {K : PySem.W.Frag} {mg : Str → Option Value} {base : Heap} {C : Addr}
/-! ### turned -/
def spTurned (K : PySem.W.Frag) : Sp := fun vs H Q _ => ∃ (q : Addr) (l : List Nat) (b : Nat), vs = [.ref q, .int b] ∧ SqL K H q (rowV l) ∧ 0 < b ∧ b ≤ 3 ∧ l.length ≤ 9 ∧
  ∀ (H' : Hp) (t : Addr), Same H H' → H t = none → H' t = some (.lst (rowV (turnL b l))) → Q (.ref t) H'
abbrev nTurned : List Str := ["heights", "b", "after", "column"]
theorem scTurned : FnScope nTurned ["heights", "b"] (defScope sTurned) := ⟨rfl, rfl, rfl, by decide +kernel, rfl, by decide +kernel, by decide +kernel⟩
theorem turnL_part (b : Nat) (l : List Nat) (i : Nat) : (List.range (i + 1)).flatMap (fun j => colL b j l) = (List.range i).flatMap (fun j => colL b j l) ++ colL b i l := by
  rw [List.range_succ, List.flatMap_append, List.flatMap_cons, List.flatMap_nil, List.append_nil]
theorem ok_turned {f fC : Addr} {fd fdC : FuncData} (F : Fun K "turned" "turned" sTurned f fd) (T : Txt K mg C) (GC : FnOk P w K mg base CX0 1 fC fdC ["heights", "column", "b"] (spCol K)) (cC : Cal K mg "column_of" fC fdC ["heights", "column", "b"]) :
    FnOk P w K mg base CX0 2 f fd ["heights", "b"] (spTurned K) := by
  refine F.ok scTurned (fun vs H Q E h => ?_) (fun cdv A outer s H vs Q E hr h => ?_)
  · obtain ⟨q, l, b, rfl, _⟩ := h
    rfl
  · obtain ⟨q, l, b, rfl, hS, hb, hb3, hlen, kk⟩ := h
    refine ⟨_, pss_cons (ps_set (i := 2) scTurned.nd rfl (Or.inl rfl) (pe_lst pa_nil))
      (pss_cons (ps_for PassesOwn.never rfl (pi_range1 rfl T.range (pa_cons (pv 1) pa_nil)) (pg_name (i := 3) scTurned.nd rfl (Or.inl rfl))
        (pss_one (ps_expr (pe_bm PySem.F.plainAttrs_list PySem.F.slot_list_extend PySem.F.type_list_extend mt_extend (pv 2) (pa_cons (pe_call GC hr rfl cC.g cC.kp cC.b .nil pass0 (pa_cons (pv 0) (pa_cons (pv 3) (pa_cons (pv 1) pa_nil)))) pa_nil)))))
      (pss_one (ps_ret (pv 2)))), ?_⟩
    have hsz := size_line
    refine ⟨Nat.zero_le _, fun t ht => ?_⟩
    refine ⟨_, rfl, _, rfl, (by omega), (by omega), ?_⟩
    refine for_range (n := b) (fun i σ H' => ∃ v : Option V, σ = [some (.ref q), some (.int b), some (.ref t), v] ∧ Same H H' ∧ H' t = some (.lst (rowV ((List.range i).flatMap fun j => colL b j l)))) ⟨none, rfl, Same.upd_new ht, upd_same⟩ ?_ ?_
    · rintro i σ H1 hi ⟨v, rfl, s1, ht1⟩
      have zi : (0 : Int) + (i : Int) = (i : Int) := by omega
      rw [zi]
      refine ⟨_, rfl, .inl ⟨rfl, _, SqL.of ht1⟩, _, rfl, _, rfl, _, rfl, q, l, i, b, rfl, s1.seq hS, hb, hlen, fun H2 u s2 nu hu => ?_⟩
      have l1 := flatMap_le (f := fun j => colL b j l) (n := 9) (l := List.range i) fun j _ => Nat.le_trans (colL_len b j l) hlen
      rw [List.length_range] at l1
      have l2 := colL_len b i l
      refine ⟨t, u, _, _, rfl, rfl, s2 _ _ ht1, hu, (by rw [rowV_len, rowV_len]; omega), _, rfl, Same.grow ht (s1.trans s2), ?_⟩
      rw [upd_same, turnL_part, rowV_app]
    · rintro σ H1 ⟨v, rfl, s1, ht1⟩
      exact ⟨_, rfl, kk _ t s1 ht ht1⟩
/-! ### filled_up -/
def spFilled (K : PySem.W.Frag) : Sp := fun vs H Q _ => ∃ (q : Addr) (l : List Nat) (c : Nat), vs = [.ref q, .int c] ∧ SqL K H q (rowV l) ∧ l.length ≤ 9 ∧ (∀ v ∈ l, v ≤ c) ∧
  ∀ (H' : Hp) (t : Addr), Same H H' → H t = none → H' t = some (.lst (rowV (fillL c l))) → Q (.ref t) H'
abbrev nFilled : List Str := ["heights", "c", "height"]
theorem scFilled : FnScope nFilled ["heights", "c"] (defScope sFilled) := ⟨rfl, rfl, rfl, by decide +kernel, rfl, by decide +kernel, by decide +kernel⟩
theorem ok_filled {f : Addr} {fd : FuncData} (F : Fun K "filled_up" "filled_up" sFilled f fd) (T : Txt K mg C) : FnOk P w K mg base CX0 1 f fd ["heights", "c"] (spFilled K) := by
  refine F.ok scFilled (fun vs H Q E h => ?_) (fun cdv A outer s H vs Q E hr h => ?_)
  · obtain ⟨q, l, c, rfl, _⟩ := h
    rfl
  · obtain ⟨q, l, c, rfl, hS, hlen, hle, kk⟩ := h
    refine ⟨_, pss_one (ps_ret
        (pe_lc (own := [("height", 2)]) (g := gName 2) (tt := tYes) (te := tOp (rI0 fun i j => .int (i - j)) (tVar 1) (tVar 2)) rfl scFilled.nd
          (pi_reversed (by rfl) T.rev (pa_cons (pv 0) pa_nil))
          (blkOk_by (own := [("height", 2)]) (N := nFilled) (sc := defScope sFilled) (by decide +kernel))
          (fun _ _ _ _ _ => pg_name (i := 2) scFilled.nd rfl (Or.inl rfl))
          (fun _ _ _ _ _ => pts_nil)
          (fun _ _ _ _ _ => pe_op op_sub (pv 1) (pv 2)))), ?_⟩
    refine ⟨_, rfl, q, rowV l, rfl, hS, fun D hD => ?_⟩
    have hsz := size_line
    refine lc_it (walk_rev (K := K) (a := q) (xs := rowV l)) (fun i H' => Same H H' ∧ H' D = some (.lst (rowV ((fillL c l).take i)))) ⟨Same.upd_new hD, upd_same⟩ (fun i H' _ ⟨s1, _⟩ => s1.seq hS) ?_ ?_
    · rintro i y H1 H2 hi ⟨s1, hD1⟩ ⟨rfl, e⟩
      rw [rowV_len] at hi e
      obtain ⟨hi', rfl⟩ := row_get e
      have hv : l.getD (l.length - 1 - i) 0 ≤ c := hle _ (by rw [List.getD_eq_getElem?_getD, List.getElem?_eq_getElem hi']; exact List.getElem_mem hi')
      have hlf : i < (fillL c l).length := by unfold fillL; rw [List.length_map, List.length_reverse]; exact hi
      have eg : (fillL c l).getD i 0 = c - l.getD (l.length - 1 - i) 0 := by
        rw [List.getD_eq_getElem?_getD, List.getElem?_eq_getElem hlf, List.getD_eq_getElem?_getD, List.getElem?_eq_getElem hi']
        simp [fillL]
      refine ⟨rfl, tYes_ite ?_⟩
      refine ⟨_, rfl, _, rfl, _, _, rfl, rfl, _, hD1, ?_, Same.grow hD s1, ?_⟩
      · rw [rowV_len, List.length_take]; omega
      · rw [upd_same, take_one hlf, rowV_app, eg]
        have ez : (c : Int) - ((l.getD (l.length - 1 - i) 0 : Nat) : Int) = ((c - l.getD (l.length - 1 - i) 0 : Nat) : Int) := by omega
        dsimp only
        rw [ez]
        rfl
    · rintro H1 ⟨s1, hD1⟩
      rw [rowV_len, List.take_of_length_le (by unfold fillL; rw [List.length_map, List.length_reverse]; exact Nat.le_refl _)] at hD1
      exact kk _ D s1 hD hD1
/-! ### laid -/
def spLaid (K : PySem.W.Frag) : Sp := fun vs H Q _ => ∃ (q : Addr) (l : List Nat) (b c : Nat), vs = [.ref q, .int b, .int c] ∧ SqL K H q (rowV l) ∧ 0 < b ∧ b ≤ 3 ∧ c ≤ 4 ∧ l.length ≤ 9 ∧
  ∀ (H' : Hp) (t : Addr), Same H H' → H t = none → H' t = some (.lst (rowV (layL b c l))) → Q (.ref t) H'
abbrev nLaid : List Str := ["heights", "b", "c", "after", "column", "stack", "k", "height"]
theorem scLaid : FnScope nLaid ["heights", "b", "c"] (defScope sLaid) := ⟨rfl, rfl, rfl, by decide +kernel, rfl, by decide +kernel, by decide +kernel⟩
theorem layL_part (b c : Nat) (l : List Nat) (i : Nat) : (List.range (i + 1)).flatMap (fun j => layC c (colL b j l)) = (List.range i).flatMap (fun j => layC c (colL b j l)) ++ layC c (colL b i l) := by
  rw [List.range_succ, List.flatMap_append, List.flatMap_cons, List.flatMap_nil, List.append_nil]
theorem layC_part (n : Nat) (s : List Nat) : layC (n + 1) s = layC n s ++ [(s.filter fun v => decide (n + 1 ≤ v)).length] := by
  unfold layC
  rw [List.range_succ, List.map_append]
  rfl
theorem layC_len (n : Nat) (s : List Nat) : (layC n s).length = n := by simp [layC]
theorem ok_laid {f fC : Addr} {fd fdC : FuncData} (F : Fun K "laid" "laid" sLaid f fd) (T : Txt K mg C) (GC : FnOk P w K mg base CX0 1 fC fdC ["heights", "column", "b"] (spCol K)) (cC : Cal K mg "column_of" fC fdC ["heights", "column", "b"]) :
    FnOk P w K mg base CX0 2 f fd ["heights", "b", "c"] (spLaid K) := by
  refine F.ok scLaid (fun vs H Q E h => ?_) (fun cdv A outer s H vs Q E hr h => ?_)
  · obtain ⟨q, l, b, c, rfl, _⟩ := h
    rfl
  · obtain ⟨q, l, b, c, rfl, hS, hb, hb3, hc4, hlen, kk⟩ := h
    refine ⟨_, pss_cons (ps_set (i := 3) scLaid.nd rfl (Or.inl rfl) (pe_lst pa_nil))
      (pss_cons (ps_for PassesOwn.never rfl (pi_range1 rfl T.range (pa_cons (pv 1) pa_nil)) (pg_name (i := 4) scLaid.nd rfl (Or.inl rfl))
        (pss_cons (ps_set (i := 5) scLaid.nd rfl (Or.inl rfl) (pe_call GC hr rfl cC.g cC.kp cC.b .nil pass0 (pa_cons (pv 0) (pa_cons (pv 4) (pa_cons (pv 1) pa_nil)))))
        (pss_one (ps_for PassesOwn.never rfl (pi_range2 (by rfl) T.range (pa_cons pe_int (pa_cons (pe_op op_add (pv 2) pe_int) pa_nil))) (pg_name (i := 6) scLaid.nd rfl (Or.inr rfl))
          (pss_one (ps_expr (pe_bm PySem.F.plainAttrs_list PySem.F.slot_list_append PySem.F.type_list_append mt_append (pv 3) (pa_cons (pe_callB call_len_seq (by rfl) T.len PySem.boot_len (pa_cons
            (pe_lc (own := [("height", 7)]) (g := gName 7) (tt := tTest (tOp (rI0 fun i j => .bl (decide (j ≤ i))) (tVar 7) (tVar 6))) (te := tVar 7) rfl scLaid.nd
              (pi_list (pv 5))
              (blkOk_by (own := [("height", 7)]) (N := nLaid) (sc := defScope sLaid) (by decide +kernel))
              (fun _ _ _ _ _ => pg_name (i := 7) scLaid.nd rfl (Or.inl rfl))
              (fun _ _ _ _ _ => pts_one (pt_cmpR op_ge (pv 7) (pv 6) (nomark _)))
              (fun _ _ _ _ _ => pv 7)) pa_nil)) pa_nil))))))))
      (pss_one (ps_ret (pv 3)))), ?_⟩
    have hsz := size_line
    refine ⟨Nat.zero_le _, fun t ht => ?_⟩
    refine ⟨_, rfl, _, rfl, (by omega), (by omega), ?_⟩
    refine for_range (n := b) (fun i σ H' => ∃ v4 v5 v6 v7 : Option V, σ = [some (.ref q), some (.int b), some (.int c), some (.ref t), v4, v5, v6, v7] ∧ Same H H' ∧ H' t = some (.lst (rowV ((List.range i).flatMap fun j => layC c (colL b j l))))) ⟨none, none, none, none, rfl, Same.upd_new ht, upd_same⟩ ?_ ?_
    · rintro i σ H1 hi ⟨v4, v5, v6, v7, rfl, s1, ht1⟩
      have zi : (0 : Int) + (i : Int) = (i : Int) := by omega
      rw [zi]
      refine ⟨_, rfl, _, rfl, _, rfl, q, l, i, b, rfl, s1.seq hS, hb, hlen, fun H2 u s2 nu hu => ?_⟩
      have l1 := flatMap_le (f := fun j => layC c (colL b j l)) (n := 4) (l := List.range i) fun j _ => by rw [layC_len]; exact hc4
      rw [List.length_range] at l1
      have l2 := colL_len b i l
      generalize em : colL b i l = m at l2 hu
      have nut : u ≠ t := (ne_of_none ht1 nu).symm
      have en : ((c : Int) + 1 - 1).toNat = c := by omega
      refine ⟨_, rfl, _, _, rfl, rfl, 1, (c : Int) + 1, rfl, ⟨by decide, by decide, by omega, by omega⟩, ?_⟩
      rw [en]
      refine for_range (lo := 1) (n := c) (fun k σ H' => ∃ v6 v7 : Option V, σ = [some (.ref q), some (.int b), some (.int c), some (.ref t), some (.int i), some (.ref u), v6, v7] ∧ Same H H' ∧ H' u = some (.lst (rowV m)) ∧ H' t = some (.lst (rowV (((List.range i).flatMap fun j => layC c (colL b j l)) ++ layC k m)))) ⟨v6, v7, rfl, s1.trans s2, hu, ?_⟩ ?_ ?_
      · show H2 t = some (.lst (rowV (((List.range i).flatMap fun j => layC c (colL b j l)) ++ [])))
        rw [List.append_nil]
        exact s2 _ _ ht1
      · rintro k σ H3 hk ⟨w6, w7, rfl, s3, hu3, ht3⟩
        have ek : (1 : Int) + (k : Int) = ((k + 1 : Nat) : Int) := by omega
        rw [ek]
        refine ⟨_, rfl, .inl ⟨rfl, _, SqL.of ht3⟩, _, rfl, u, rfl, ⟨_, SqL.of hu3⟩, fun D hD => ?_⟩
        refine lc_list (K := K) (a := u) (xs := rowV m) (fun i H' => Same H3 H' ∧ ∃ zs, H' D = some (.lst zs) ∧ zs.length = ((m.take i).filter fun v => decide (k + 1 ≤ v)).length)
          ⟨Same.upd_new hD, [], upd_same, rfl⟩ (fun i H' _ ⟨s1, _⟩ => SqL.of (s1 _ _ hu3)) ?_ ?_
        · rintro n y H4 hn ⟨s4, zs, hD4, hl⟩
          obtain ⟨hn', rfl⟩ := row_get hn
          have hfl := List.length_filter_le (fun v => decide (k + 1 ≤ v)) (m.take n)
          rw [List.length_take] at hfl
          refine ⟨rfl, _, rfl, _, rfl, _, _, rfl, rfl, _, rfl, ?_⟩
          rw [take_one hn']
          refine ite2 (fun z => ?_) (fun z => ?_)
          · have z' : k + 1 ≤ m.getD n 0 := by have := of_decide_eq_true z; omega
            refine ⟨_, rfl, zs, hD4, (by omega), Same.grow hD s4, _, upd_same, ?_⟩
            rw [filter_one_pos (p := fun v => decide (k + 1 ≤ v)) (decide_eq_true z'), List.length_append, List.length_append, hl]
            rfl
          · have z' : ¬ k + 1 ≤ m.getD n 0 := fun y => z (decide_eq_true (by omega))
            refine ⟨s4, zs, hD4, ?_⟩
            rw [filter_one_neg (p := fun v => decide (k + 1 ≤ v)) (by simpa using z'), hl]
        · rintro H4 ⟨s4, zs, hD4, hl⟩
          rw [rowV_len, List.take_length] at hl
          have hlt : (rowV (((List.range i).flatMap fun j => layC c (colL b j l)) ++ layC k m)).length < sizeLine := by
            rw [rowV_len, List.length_append, layC_len]
            omega
          refine ⟨D, zs, rfl, .inl (SqL.of hD4), t, _, _, rfl, rfl, s4 _ _ ht3, hlt, ?_⟩
          refine ⟨_, _, rfl, Same.grow ht (s3.trans s4), ?_, ?_⟩
          · rw [upd_ne nut]
            exact s4 _ _ hu3
          · rw [upd_same, layC_part, ← List.append_assoc, rowV_snoc, hl]
      · rintro σ H3 ⟨w6, w7, rfl, s3, hu3, ht3⟩
        refine ⟨_, _, _, _, rfl, s3, ?_⟩
        rw [layL_part, em]
        exact ht3
    · rintro σ H1 ⟨v4, v5, v6, v7, rfl, s1, ht1⟩
      exact ⟨_, rfl, kk _ t s1 ht ht1⟩
end
end CH

namespace CH
open PySem PySem.Spec PyProof.Rows L2
open Ti03Neutral (callIn)
theorem zeros (n : Nat) : (List.replicate n [V.int 0]).flatten = rowV (List.replicate n 0) := by
  rw [List.flatten_replicate_singleton]
  simp [rowV, Ti03.ints]
theorem pathS_succ (f : Nat → Nat) (a i : Nat) : pathS f a (i + 1) = pathS f a i ++ List.replicate (f (a - 1 - i) - pathB f a i) 0 ++ [1] := rfl
section
variable {P : Program} {w : World} {K : PySem.W.Frag} {mg : Str → Option Value} {base : Heap} {C : Addr}
/-! ### path_of -/
def spPath (K : PySem.W.Frag) : Sp := fun vs H Q _ => ∃ (q : Addr) (l : List Nat) (a b k : Nat), vs = [.ref q, .int a, .int b, .int k] ∧ SqL K H q (rowV l) ∧ a ≤ 3 ∧ b ≤ 3 ∧ l.length = a * b ∧
  ∀ (H' : Hp) (t : Addr), Same H H' → H t = none → H' t = some (.lst (rowV (pathL a b (cfL b l k)))) → Q (.ref t) H'
abbrev nPath : List Str := ["heights", "a", "b", "k", "steps", "behind", "row", "filled"]
theorem scPath : FnScope nPath ["heights", "a", "b", "k"] (defScope sPath) := ⟨rfl, rfl, rfl, by decide +kernel, rfl, by decide +kernel, by decide +kernel⟩
theorem ok_path {f fC : Addr} {fd fdC : FuncData} (F : Fun K "path_of" "path_of" sPath f fd) (T : Txt K mg C) (GC : FnOk P w K mg base CX0 1 fC fdC ["heights", "row", "b", "k"] (spCf K)) (cC : Cal K mg "columns_filled" fC fdC ["heights", "row", "b", "k"]) :
    FnOk P w K mg base CX0 2 f fd ["heights", "a", "b", "k"] (spPath K) := by
  refine F.ok scPath (fun vs H Q E h => ?_) (fun cdv A outer s H vs Q E hr h => ?_)
  · obtain ⟨q, l, a, b, k, rfl, _⟩ := h
    rfl
  · obtain ⟨q, l, a, b, k, rfl, hS, ha3, hb3, hlen, kk⟩ := h
    refine ⟨_, pss_cons (ps_set (i := 4) scPath.nd rfl (Or.inl rfl) (pe_lst pa_nil))
      (pss_cons (ps_set (i := 5) scPath.nd rfl (Or.inl rfl) pe_int)
      (pss_cons (ps_for PassesOwn.never rfl (pi_range3 (by rfl) T.range (pa_cons (pe_op op_sub (pv 1) pe_int) (pa_cons (pe_un un_neg pe_int) (pa_cons (pe_un un_neg pe_int) pa_nil)))) (pg_name (i := 6) scPath.nd rfl (Or.inl rfl))
        (pss_cons (ps_set (i := 7) scPath.nd rfl (Or.inl rfl) (pe_call GC hr rfl cC.g cC.kp cC.b .nil pass0 (pa_cons (pv 0) (pa_cons (pv 6) (pa_cons (pv 2) (pa_cons (pv 3) pa_nil))))))
        (pss_cons (ps_expr (pe_bm PySem.F.plainAttrs_list PySem.F.slot_list_extend PySem.F.type_list_extend mt_extend (pv 4) (pa_cons (pe_op op_rep (pe_lst (pa_cons pe_int pa_nil)) (pe_op op_sub (pv 7) (pv 5))) pa_nil)))
        (pss_cons (ps_expr (pe_bm PySem.F.plainAttrs_list PySem.F.slot_list_append PySem.F.type_list_append mt_append (pv 4) (pa_cons pe_int pa_nil)))
        (pss_one (ps_set (i := 5) scPath.nd rfl (Or.inl rfl) (pv 7)))))))
      (pss_cons (ps_expr (pe_bm PySem.F.plainAttrs_list PySem.F.slot_list_extend PySem.F.type_list_extend mt_extend (pv 4) (pa_cons (pe_op op_rep (pe_lst (pa_cons pe_int pa_nil)) (pe_op op_sub (pv 2) (pv 5))) pa_nil)))
      (pss_one (ps_ret (pv 4)))))), ?_⟩
    have hsz := size_line
    have hcf : ∀ r, cfL b l k r ≤ 3 := fun r => Nat.le_trans (cf_le b l k r) hb3
    have hpB : ∀ i, pathB (cfL b l k) a i ≤ 3 := fun i => by
      cases i with
      | zero => exact Nat.zero_le _
      | succ i => exact hcf _
    refine ⟨Nat.zero_le _, fun t ht => ?_⟩
    have en : ((a : Int) - 1 - -1).toNat = a := by omega
    refine ⟨_, rfl, _, _, rfl, rfl, _, rfl, _, rfl, (a : Int) - 1, -1, -1, a, rfl, ?_, ?_⟩
    · have := RgC.neg (i := (a : Int) - 1) (j := -1) (by omega) (by omega) (by omega) (by omega)
      rw [en] at this
      exact this
    refine for_rangeC (lo := (a : Int) - 1) (c := -1) (n := a) (fun i σ H' => ∃ v6 v7 : Option V, σ = [some (.ref q), some (.int a), some (.int b), some (.int k), some (.ref t), some (.int ((pathB (cfL b l k) a i : Nat) : Int)), v6, v7] ∧ Same H H' ∧ H' t = some (.lst (rowV (pathS (cfL b l k) a i)))) ⟨none, none, rfl, Same.upd_new ht, upd_same⟩ ?_ ?_
    · rintro i σ H1 hi ⟨v6, v7, rfl, s1, ht1⟩
      have ei : (a : Int) - 1 + (i : Int) * -1 = ((a - 1 - i : Nat) : Int) := by omega
      rw [ei]
      have hrow : (a - 1 - i) * b + b ≤ l.length := by
        have h1 : (a - 1 - i + 1) * b ≤ a * b := Nat.mul_le_mul_right b (by omega)
        rw [Nat.add_mul, Nat.one_mul] at h1
        omega
      have hl1 := pathS_len (a := a) hcf i
      have hc1 := hcf (a - 1 - i)
      have hb1 := hpB i
      refine ⟨_, rfl, _, rfl, _, rfl, _, rfl, q, l, a - 1 - i, b, k, rfl, s1.seq hS, by omega, hb3, hrow, fun H2 s2 => ?_⟩
      have ht2 := s2 _ _ ht1
      refine ⟨_, rfl, .inl ⟨rfl, _, SqL.of ht2⟩, (by show 1 ≤ sizeLine; decide), fun u hu => ?_⟩
      have s3 := Same.upd_new (o := .lst [V.int 0]) hu
      have eN : (((cfL b l k (a - 1 - i) : Nat) : Int) - ((pathB (cfL b l k) a i : Nat) : Int)).toNat = cfL b l k (a - 1 - i) - pathB (cfL b l k) a i := by omega
      refine ⟨_, rfl, _, rfl, _, _, rfl, rfl, u, _, _, rfl, rfl, upd_same, ?_, ?_, ?_, fun u2 hu2 => ?_⟩
      · show -(2 ^ 63) ≤ ((cfL b l k (a - 1 - i) : Nat) : Int) - ((pathB (cfL b l k) a i : Nat) : Int)
        omega
      · show ((cfL b l k (a - 1 - i) : Nat) : Int) - ((pathB (cfL b l k) a i : Nat) : Int) < 2 ^ 63
        omega
      · show 1 * (((cfL b l k (a - 1 - i) : Nat) : Int) - ((pathB (cfL b l k) a i : Nat) : Int)).toNat ≤ sizeLine
        omega
      have s4 := Same.upd_new (o := .lst (List.replicate (((cfL b l k (a - 1 - i) : Nat) : Int) - ((pathB (cfL b l k) a i : Nat) : Int)).toNat [V.int 0]).flatten) hu2
      have ht4 := s4 _ _ (s3 _ _ ht2)
      refine ⟨t, u2, _, _, rfl, rfl, ht4, upd_same, ?_, ?_⟩
      · show (rowV _).length + (List.replicate (((cfL b l k (a - 1 - i) : Nat) : Int) - ((pathB (cfL b l k) a i : Nat) : Int)).toNat [V.int 0]).flatten.length ≤ sizeLine
        rw [eN, zeros, rowV_len, rowV_len, List.length_replicate]
        omega
      refine ⟨_, rfl, .inl ⟨rfl, _, SqL.of upd_same⟩, t, _, _, rfl, rfl, upd_same, ?_, ?_⟩
      · show (rowV _ ++ (List.replicate (((cfL b l k (a - 1 - i) : Nat) : Int) - ((pathB (cfL b l k) a i : Nat) : Int)).toNat [V.int 0]).flatten).length < sizeLine
        rw [eN, zeros, List.length_append, rowV_len, rowV_len, List.length_replicate]
        omega
      refine ⟨_, rfl, _, _, rfl, Same.grow ht (Same.grow ht (((s1.trans s2).trans s3).trans s4)), ?_⟩
      show upd _ t (.lst (_ ++ (List.replicate (((cfL b l k (a - 1 - i) : Nat) : Int) - ((pathB (cfL b l k) a i : Nat) : Int)).toNat [V.int 0]).flatten ++ [V.int 1])) t = _
      rw [upd_same, eN, zeros]
      rw [pathS_succ, rowV_snoc, rowV_app]
      rfl
    · rintro σ H1 ⟨v6, v7, rfl, s1, ht1⟩
      have hl1 := pathS_len (a := a) hcf a
      have hb1 := hpB a
      refine ⟨_, rfl, .inl ⟨rfl, _, SqL.of ht1⟩, (by show 1 ≤ sizeLine; decide), fun u hu => ?_⟩
      have s3 := Same.upd_new (o := .lst [V.int 0]) hu
      have eN : ((b : Int) - ((pathB (cfL b l k) a a : Nat) : Int)).toNat = b - pathB (cfL b l k) a a := by omega
      refine ⟨_, rfl, _, rfl, _, _, rfl, rfl, u, _, _, rfl, rfl, upd_same, ?_, ?_, ?_, fun u2 hu2 => ?_⟩
      · show -(2 ^ 63) ≤ (b : Int) - ((pathB (cfL b l k) a a : Nat) : Int)
        omega
      · show (b : Int) - ((pathB (cfL b l k) a a : Nat) : Int) < 2 ^ 63
        omega
      · show 1 * ((b : Int) - ((pathB (cfL b l k) a a : Nat) : Int)).toNat ≤ sizeLine
        omega
      have s4 := Same.upd_new (o := .lst (List.replicate ((b : Int) - ((pathB (cfL b l k) a a : Nat) : Int)).toNat [V.int 0]).flatten) hu2
      have ht4 := s4 _ _ (s3 _ _ ht1)
      refine ⟨t, u2, _, _, rfl, rfl, ht4, upd_same, ?_, ?_⟩
      · show (rowV _).length + (List.replicate ((b : Int) - ((pathB (cfL b l k) a a : Nat) : Int)).toNat [V.int 0]).flatten.length ≤ sizeLine
        rw [eN, zeros, rowV_len, rowV_len, List.length_replicate]
        omega
      refine ⟨_, rfl, kk _ t (Same.grow ht ((s1.trans s3).trans s4)) ht ?_⟩
      show upd _ t (.lst (_ ++ (List.replicate ((b : Int) - ((pathB (cfL b l k) a a : Nat) : Int)).toNat [V.int 0]).flatten)) t = _
      rw [upd_same, eN, zeros]
      unfold pathL
      rw [rowV_app]
end
end CH

namespace CH
open PySem PySem.Spec PyProof.Rows L2
open Ti03Neutral (callIn)
theorem zipL_succ (F : Nat → Nat → Nat) (i : Nat) (l m : List Nat) : zipL F (i + 1) l m = zipL F i l m ++ [F (l.getD i 0) (m.getD i 0)] := by
  unfold zipL
  rw [List.range_succ, List.map_append]
  rfl
theorem zipL_len (F : Nat → Nat → Nat) (n : Nat) (l m : List Nat) : (zipL F n l m).length = n := by simp [zipL]
abbrev rAbs : List V → Hp → VK → Prop := fun xs H Q => ∃ i, xs = [.int i] ∧ Q (.int (if i < 0 then -i else i)) H
abbrev rMx : List V → Hp → VK → Prop := fun xs H Q => ∃ i j, xs = [.int i, .int j] ∧ Q (.int (if j > i then j else i)) H
abbrev rMn : List V → Hp → VK → Prop := fun xs H Q => ∃ i j, xs = [.int i, .int j] ∧ Q (.int (if j < i then j else i)) H
theorem abs_gap (x y : Nat) : (if (x : Int) - (y : Int) < 0 then -((x : Int) - (y : Int)) else (x : Int) - (y : Int)) = ((gap x y : Nat) : Int) := by
  unfold gap
  split <;> omega
theorem mx_max (x y : Nat) : (if (y : Int) > (x : Int) then (y : Int) else (x : Int)) = ((max x y : Nat) : Int) := by
  split <;> omega
theorem mn_min (x y : Nat) : (if (y : Int) < (x : Int) then (y : Int) else (x : Int)) = ((min x y : Nat) : Int) := by
  split <;> omega
section
variable {P : Program} {w : World} {K : PySem.W.Frag} {mg : Str → Option Value} {base : Heap} {C : Addr}
abbrev nZip : List Str := ["box", "numbers", "own", "other"]
theorem scApart : FnScope nZip ["box", "numbers"] (defScope sApart) := ⟨rfl, rfl, rfl, by decide +kernel, rfl, by decide +kernel, by decide +kernel⟩
/-- a comprehension over two rows of one length, item by item -/
theorem zip_lc {K : PySem.W.Frag} {H : Hp} {lt q D : Addr} {l m : List Nat} {te : TE} {σ : L2.St} {Qd : Hp → Prop} {F : Nat → Nat → Nat} (hsm : l.length ≤ 9) (hlm : l.length = m.length) (h1 : SqL K H lt (rowV l)) (h2 : SqL K H q (rowV m)) (hD : H D = none) (hσ : σ.length = 4)
    (he : ∀ (σ2 : L2.St) (H2 : Hp) (x y : Nat) (R : VK), σ2[2]? = some (some (.int (x : Int))) → σ2[3]? = some (some (.int (y : Int))) → R (.int ((F x y : Nat) : Int)) H2 → te σ2 H2 R)
    (hd : ∀ H', Same H H' → H' D = some (.lst (rowV (zipL F l.length l m))) → Qd H') :
    ∃ W : Nat → Nat → Hp → Prop, (∃ m, W 0 m (upd H D (.lst []))) ∧ ∀ i m H, W i m H →
      ((Itz K lt q).stop i H ∧ Qd H) ∨ ((Itz K lt q).go i H ∧ ∃ Nx : Hp → Prop, (∀ H', Nx H' → ∃ m', m' < m ∧ W (i + 1) m' H') ∧ ∀ x H', (Itz K lt q).yld i H x H' → gTup K 2 (gCons (gName 2) (gCons (gName 3) gNil)) x (wipe σ [2, 3]) H' fun σ2 H2 => wipe σ2 [2, 3] = wipe σ [2, 3] ∧ tYes σ2 H2 fun b H3 =>
        if b = true then te σ2 H3 fun y H4 => ∃ acc, H4 D = some (.lst acc) ∧ acc.length < sizeLine ∧ Nx (upd H4 D (.lst (acc ++ [y]))) else Nx H3) := by
  obtain ⟨a0, a1, a2, a3, rfl⟩ : ∃ a0 a1 a2 a3, σ = [a0, a1, a2, a3] := by
    match σ, hσ with
    | [a0, a1, a2, a3], _ => exact ⟨a0, a1, a2, a3, rfl⟩
  have hsz := size_line
  refine lc_it (walk_zip (K := K) (a := lt) (b := q) (xs := rowV l) (ys := rowV m) (n := l.length) (by rw [rowV_len, rowV_len, hlm, Nat.min_self])) (fun i H' => Same H H' ∧ H' D = some (.lst (rowV (zipL F i l m)))) ⟨Same.upd_new hD, upd_same⟩ (fun i H' _ ⟨s1, _⟩ => ⟨s1.seq h1, s1.seq h2⟩) ?_ ?_
  · rintro i y H1 H2 hi ⟨s1, hD1⟩ ⟨t, x1, x2, rfl, nt, rfl, e1, e2⟩
    obtain ⟨_, rfl⟩ := row_get e1
    obtain ⟨_, rfl⟩ := row_get e2
    have s2 := Same.upd_new (o := .tup [V.int ((l.getD i 0 : Nat) : Int), V.int ((m.getD i 0 : Nat) : Int)]) nt
    have hD2 := s2 _ _ hD1
    refine ⟨t, _, rfl, .inl (.inl upd_same), rfl, _, _, rfl, _, _, rfl, rfl, rfl, tYes_ite ?_⟩
    refine he _ _ (l.getD i 0) (m.getD i 0) _ rfl rfl ⟨_, hD2, ?_, Same.grow hD (s1.trans s2), ?_⟩
    · rw [rowV_len, zipL_len]; omega
    · rw [upd_same, zipL_succ, rowV_snoc]
  · rintro H1 ⟨s1, hD1⟩
    exact hd _ s1 hD1
theorem ok_apart {f fF : Addr} {fd fdF : FuncData} (F : Fun K "call_apart" "call_apart" sApart f fd) (T : Txt K mg C) (N : Nums mg)
    (GF : FnOk P w K mg base CX0 3 fF fdF ["self", "heights"] (spFits K C)) (mF : Meth K C "fits" fF) (bF' : Binds K fdF ["self", "heights"] []) : FnOk P w K mg base CX0 4 f fd ["box", "numbers"] (spAct K C 8) := by
  obtain ⟨t1, n1⟩ := N.nat
  refine F.ok scApart (fun vs H Q E h => ?_) (fun cdv A outer s H vs Q E hr h => ?_)
  · obtain ⟨X, p, q, d, ns, c, rfl, _⟩ := h
    rfl
  · obtain ⟨X, p, q, d, ns, c, rfl, ⟨dx, lh, lt, B⟩, al, hS, hc, k⟩ := h
    obtain rfl := in8 hc
    refine ⟨_, pss_cons (ps_if (pt_not (pt_val (pe_meth (pv 0) T.cl mF GF hr bF' .nil pass0 (pa_cons (pv 1) pa_nil)))) (pss_one (ps_ret (pe_lst (pa_cons (pe_glob (v := .int (-1)) rfl n1 ⟨_, rfl⟩) pa_nil)))) pss_nil)
      (pss_one (ps_ret (pe_lst (pa_cons (pe_callB (cr_sum rfl) (by rfl) T.sum (by decide +kernel) (pa_cons
        (pe_lc (own := [("own", 2), ("other", 3)]) (g := gTup K 2 (gCons (gName 2) (gCons (gName 3) gNil))) (tt := tYes) (te := tCB rAbs (tCons (tOp (rI0 fun i j => .int (i - j)) (tVar 2) (tVar 3)) tNil)) rfl scApart.nd
          (pi_zip (by rfl) T.zip (pa_cons (pe_fld (pv 0) rfl) (pa_cons (pv 1) pa_nil)))
          (blkOk_by (own := [("own", 2), ("other", 3)]) (N := nZip) (sc := defScope sApart) (by decide +kernel))
          (fun _ _ _ _ _ => pg_tup rfl (pgs_cons (pg_name (i := 2) scApart.nd rfl (Or.inl rfl)) (pgs_cons (pg_name (i := 3) scApart.nd rfl (Or.inl rfl)) pgs_nil)))
          (fun _ _ _ _ _ => pts_nil)
          (fun _ _ _ _ _ => pe_callB call_abs (by rfl) T.abs (by decide +kernel) (pa_cons (pe_op op_sub (pv 2) (pv 3)) pa_nil))) pa_nil)) pa_nil)))), ?_⟩
    refine ⟨_, rfl, p, dx, _, rfl, B.ob, bF_fits, _, rfl, X, p, q, d, Ti03.ints ns, rfl, ⟨dx, lh, lt, B⟩, hS, _, rfl, ?_⟩
    cases e : okI d.box.a d.box.b d.box.c (Ti03.ints ns) with
    | false =>
      refine iteT ⟨(by show 1 ≤ sizeLine; decide), fun r hr' => ?_⟩
      rw [step_apart_no (heapOf_no B.good e)] at k
      exact k _ r (Same.but (Same.upd_new hr')) hr' ⟨dx, lh, lt, B.same (Same.upd_new hr')⟩ upd_same
    | true =>
      obtain ⟨h, h1, rfl, h3⟩ := heapOf_yes B.good e
      rw [step_apart_yes h3] at k
      have sh := isHeap_shape B.ok
      have sk := isHeap_shape h1
      have hab : d.box.a * d.box.b ≤ 9 := Nat.mul_le_mul B.good.a3 B.good.b3
      have hl1 := flat_len B.good sh
      have hl2 := flat_len B.good sk
      refine iteF ⟨_, rfl, p, C, dx, _, _, rfl, B.ob, T.cl, T.nht, bF_heights, _, rfl, lt, q, _, _, rfl, SqL.of B.ht, hS, fun D hD => ?_⟩
      refine zip_lc (F := gap) (by omega) (by omega) (SqL.of B.ht) hS hD rfl (fun σ2 H2 x y R e1 e2 r => ?_) (fun H1 s1 hD1 => ?_)
      · refine ⟨_, e1, _, e2, _, _, rfl, rfl, _, rfl, ?_⟩
        show R (V.int (if (x : Int) - (y : Int) < 0 then -((x : Int) - (y : Int)) else (x : Int) - (y : Int))) H2
        rw [abs_gap]
        exact r
      · refine ⟨D, Ti03.ints (zipL gap d.heap.flatten.length d.heap.flatten h.flatten), rfl, SqL.of hD1, (by show 1 ≤ sizeLine; decide), fun r hr' => ?_⟩
        refine k _ r (Same.but (s1.trans (Same.upd_new hr'))) (s1.free hr') ⟨dx, lh, lt, (B.same s1).same (Same.upd_new hr')⟩ ?_
        rw [upd_same, ints_sum, hl1, apart_list B.good sh sk]
        rfl
theorem scOver : FnScope nZip ["box", "numbers"] (defScope sOver) := ⟨rfl, rfl, rfl, by decide +kernel, rfl, by decide +kernel, by decide +kernel⟩
theorem ok_over {f fF : Addr} {fd fdF : FuncData} (F : Fun K "call_over" "call_over" sOver f fd) (T : Txt K mg C) (N : Nums mg)
    (GF : FnOk P w K mg base CX0 3 fF fdF ["self", "heights"] (spFits K C)) (mF : Meth K C "fits" fF) (bF' : Binds K fdF ["self", "heights"] []) : FnOk P w K mg base CX0 4 f fd ["box", "numbers"] (spAct K C 9) := by
  obtain ⟨t1, n1⟩ := N.nat
  refine F.ok scOver (fun vs H Q E h => ?_) (fun cdv A outer s H vs Q E hr h => ?_)
  · obtain ⟨X, p, q, d, ns, c, rfl, _⟩ := h
    rfl
  · obtain ⟨X, p, q, d, ns, c, rfl, ⟨dx, lh, lt, B⟩, al, hS, hc, k⟩ := h
    obtain rfl := in9 hc
    refine ⟨_, pss_cons (ps_if (pt_not (pt_val (pe_meth (pv 0) T.cl mF GF hr bF' .nil pass0 (pa_cons (pv 1) pa_nil)))) (pss_one (ps_ret (pe_lst (pa_cons (pe_glob (v := .int (-1)) rfl n1 ⟨_, rfl⟩) pa_nil)))) pss_nil)
      (pss_cons (ps_fld (pv 0)
        (pe_lc (own := [("own", 2), ("other", 3)]) (g := gTup K 2 (gCons (gName 2) (gCons (gName 3) gNil))) (tt := tYes) (te := tCB rMx (tCons (tVar 2) (tCons (tVar 3) tNil))) rfl scOver.nd
          (pi_zip (by rfl) T.zip (pa_cons (pe_fld (pv 0) rfl) (pa_cons (pv 1) pa_nil)))
          (blkOk_by (own := [("own", 2), ("other", 3)]) (N := nZip) (sc := defScope sOver) (by decide +kernel))
          (fun _ _ _ _ _ => pg_tup rfl (pgs_cons (pg_name (i := 2) scOver.nd rfl (Or.inl rfl)) (pgs_cons (pg_name (i := 3) scOver.nd rfl (Or.inl rfl)) pgs_nil)))
          (fun _ _ _ _ _ => pts_nil)
          (fun _ _ _ _ _ => pe_callB (call_max2 rfl) (by rfl) T.max (by decide +kernel) (pa_cons (pv 2) (pa_cons (pv 3) pa_nil)))) rfl)
      (pss_one (ps_ret (pe_callTy call_list_of (by rfl) T.list (by decide +kernel) (pa_cons (pe_fld (pv 0) rfl) pa_nil))))), ?_⟩
    refine ⟨_, rfl, p, dx, _, rfl, B.ob, bF_fits, _, rfl, X, p, q, d, Ti03.ints ns, rfl, ⟨dx, lh, lt, B⟩, hS, _, rfl, ?_⟩
    cases e : okI d.box.a d.box.b d.box.c (Ti03.ints ns) with
    | false =>
      refine iteT ⟨(by show 1 ≤ sizeLine; decide), fun r hr' => ?_⟩
      rw [step_over_no (heapOf_no B.good e)] at k
      exact k _ r (Same.but (Same.upd_new hr')) hr' ⟨dx, lh, lt, B.same (Same.upd_new hr')⟩ upd_same
    | true =>
      obtain ⟨h, h1, rfl, h3⟩ := heapOf_yes B.good e
      rw [step_over_yes h3] at k
      have sh := isHeap_shape B.ok
      have sk := isHeap_shape h1
      have hab : d.box.a * d.box.b ≤ 9 := Nat.mul_le_mul B.good.a3 B.good.b3
      have hl1 := flat_len B.good sh
      have hl2 := flat_len B.good sk
      refine iteF ⟨_, rfl, p, C, dx, _, _, rfl, B.ob, T.cl, T.nht, bF_heights, _, rfl, lt, q, _, _, rfl, SqL.of B.ht, hS, fun D hD => ?_⟩
      refine zip_lc (F := max) (by omega) (by omega) (SqL.of B.ht) hS hD rfl (fun σ2 H2 x y R e1 e2 r => ?_) (fun H1 s1 hD1 => ?_)
      · refine ⟨_, e1, _, e2, _, _, rfl, ?_⟩
        show R (V.int (if (y : Int) > (x : Int) then (y : Int) else (x : Int))) H2
        rw [mx_max]
        exact r
      · rw [hl1, over_list B.good sh sk] at hD1
        have B1 := B.same s1
        have npD : p ≠ D := ne_of_none B.ob hD
        refine ⟨_, rfl, p, C, dx, _, rfl, B1.ob, T.cl, T.nht, bF_len, ?_⟩
        rw [bF_put_heights]
        have hD2 : upd H1 p (.ins C dx (bF d.box.a d.box.b d.box.c lh D)) D = some (.lst (rowV (Ti03.over d.box d.heap h).flatten)) := by rw [upd_ne npD.symm]; exact hD1
        refine ⟨_, rfl, p, C, dx, _, _, rfl, upd_same, T.cl, T.nht, bF_heights, D, _, rfl, .inl (SqL.of hD2), fun r hr' => ?_⟩
        have k1 : But p H1 (upd H1 p (.ins C dx (bF d.box.a d.box.b d.box.c lh D))) := But.upd
        exact k _ r (((Same.but s1).trans k1).trans (Same.but (Same.upd_new hr'))) (((Same.but s1).trans k1).fresh upd_same hr') (BoxAt.same (B1.heights k1 upd_same hD2 (al.new hD) (over_ok B.ok h1)) (Same.upd_new hr')) upd_same
theorem scUnder : FnScope nZip ["box", "numbers"] (defScope sUnder) := ⟨rfl, rfl, rfl, by decide +kernel, rfl, by decide +kernel, by decide +kernel⟩
theorem ok_under {f fF : Addr} {fd fdF : FuncData} (F : Fun K "call_under" "call_under" sUnder f fd) (T : Txt K mg C) (N : Nums mg)
    (GF : FnOk P w K mg base CX0 3 fF fdF ["self", "heights"] (spFits K C)) (mF : Meth K C "fits" fF) (bF' : Binds K fdF ["self", "heights"] []) : FnOk P w K mg base CX0 4 f fd ["box", "numbers"] (spAct K C 10) := by
  obtain ⟨t1, n1⟩ := N.nat
  refine F.ok scUnder (fun vs H Q E h => ?_) (fun cdv A outer s H vs Q E hr h => ?_)
  · obtain ⟨X, p, q, d, ns, c, rfl, _⟩ := h
    rfl
  · obtain ⟨X, p, q, d, ns, c, rfl, ⟨dx, lh, lt, B⟩, al, hS, hc, k⟩ := h
    obtain rfl := in10 hc
    refine ⟨_, pss_cons (ps_if (pt_not (pt_val (pe_meth (pv 0) T.cl mF GF hr bF' .nil pass0 (pa_cons (pv 1) pa_nil)))) (pss_one (ps_ret (pe_lst (pa_cons (pe_glob (v := .int (-1)) rfl n1 ⟨_, rfl⟩) pa_nil)))) pss_nil)
      (pss_cons (ps_fld (pv 0)
        (pe_lc (own := [("own", 2), ("other", 3)]) (g := gTup K 2 (gCons (gName 2) (gCons (gName 3) gNil))) (tt := tYes) (te := tCB rMn (tCons (tVar 2) (tCons (tVar 3) tNil))) rfl scUnder.nd
          (pi_zip (by rfl) T.zip (pa_cons (pe_fld (pv 0) rfl) (pa_cons (pv 1) pa_nil)))
          (blkOk_by (own := [("own", 2), ("other", 3)]) (N := nZip) (sc := defScope sUnder) (by decide +kernel))
          (fun _ _ _ _ _ => pg_tup rfl (pgs_cons (pg_name (i := 2) scUnder.nd rfl (Or.inl rfl)) (pgs_cons (pg_name (i := 3) scUnder.nd rfl (Or.inl rfl)) pgs_nil)))
          (fun _ _ _ _ _ => pts_nil)
          (fun _ _ _ _ _ => pe_callB (call_min2 rfl) (by rfl) T.min (by decide +kernel) (pa_cons (pv 2) (pa_cons (pv 3) pa_nil)))) rfl)
      (pss_one (ps_ret (pe_callTy call_list_of (by rfl) T.list (by decide +kernel) (pa_cons (pe_fld (pv 0) rfl) pa_nil))))), ?_⟩
    refine ⟨_, rfl, p, dx, _, rfl, B.ob, bF_fits, _, rfl, X, p, q, d, Ti03.ints ns, rfl, ⟨dx, lh, lt, B⟩, hS, _, rfl, ?_⟩
    cases e : okI d.box.a d.box.b d.box.c (Ti03.ints ns) with
    | false =>
      refine iteT ⟨(by show 1 ≤ sizeLine; decide), fun r hr' => ?_⟩
      rw [step_under_no (heapOf_no B.good e)] at k
      exact k _ r (Same.but (Same.upd_new hr')) hr' ⟨dx, lh, lt, B.same (Same.upd_new hr')⟩ upd_same
    | true =>
      obtain ⟨h, h1, rfl, h3⟩ := heapOf_yes B.good e
      rw [step_under_yes h3] at k
      have sh := isHeap_shape B.ok
      have sk := isHeap_shape h1
      have hab : d.box.a * d.box.b ≤ 9 := Nat.mul_le_mul B.good.a3 B.good.b3
      have hl1 := flat_len B.good sh
      have hl2 := flat_len B.good sk
      refine iteF ⟨_, rfl, p, C, dx, _, _, rfl, B.ob, T.cl, T.nht, bF_heights, _, rfl, lt, q, _, _, rfl, SqL.of B.ht, hS, fun D hD => ?_⟩
      refine zip_lc (F := min) (by omega) (by omega) (SqL.of B.ht) hS hD rfl (fun σ2 H2 x y R e1 e2 r => ?_) (fun H1 s1 hD1 => ?_)
      · refine ⟨_, e1, _, e2, _, _, rfl, ?_⟩
        show R (V.int (if (y : Int) < (x : Int) then (y : Int) else (x : Int))) H2
        rw [mn_min]
        exact r
      · rw [hl1, under_list B.good sh sk] at hD1
        have B1 := B.same s1
        have npD : p ≠ D := ne_of_none B.ob hD
        refine ⟨_, rfl, p, C, dx, _, rfl, B1.ob, T.cl, T.nht, bF_len, ?_⟩
        rw [bF_put_heights]
        have hD2 : upd H1 p (.ins C dx (bF d.box.a d.box.b d.box.c lh D)) D = some (.lst (rowV (Ti03.under d.box d.heap h).flatten)) := by rw [upd_ne npD.symm]; exact hD1
        refine ⟨_, rfl, p, C, dx, _, _, rfl, upd_same, T.cl, T.nht, bF_heights, D, _, rfl, .inl (SqL.of hD2), fun r hr' => ?_⟩
        have k1 : But p H1 (upd H1 p (.ins C dx (bF d.box.a d.box.b d.box.c lh D))) := But.upd
        exact k _ r (((Same.but s1).trans k1).trans (Same.but (Same.upd_new hr'))) (((Same.but s1).trans k1).fresh upd_same hr') (BoxAt.same (B1.heights k1 upd_same hD2 (al.new hD) (under_ok B.ok h1)) (Same.upd_new hr')) upd_same
end
end CH

namespace CH
open PySem PySem.Spec PyProof.Rows L2
open Ti03Neutral (callIn)
section
variable {P : Program} {w : World} {K : PySem.W.Frag} {mg : Str → Option Value} {base : Heap} {C : Addr}
/-! ### path -/
theorem scCPath : FnScope ["box", "numbers", "k"] ["box", "numbers"] (defScope sCPath) := ⟨rfl, rfl, rfl, by decide +kernel, rfl, by decide +kernel, by decide +kernel⟩
theorem ok_cpath {f fW fP : Addr} {fd fdW fdP : FuncData} (F : Fun K "call_path" "call_path" sCPath f fd) (T : Txt K mg C) (N : Nums mg) (GW : FnOk P w K mg base CX0 1 fW fdW ["number", "most"] spWithin) (cW : Cal K mg "is_within" fW fdW ["number", "most"])
    (GP : FnOk P w K mg base CX0 2 fP fdP ["heights", "a", "b", "k"] (spPath K)) (cP : Cal K mg "path_of" fP fdP ["heights", "a", "b", "k"]) : FnOk P w K mg base CX0 3 f fd ["box", "numbers"] (spAct K C 11) := by
  obtain ⟨t1, n1⟩ := N.nat
  refine F.ok scCPath (fun vs H Q E h => ?_) (fun cdv A outer s H vs Q E hr h => ?_)
  · obtain ⟨X, p, q, d, ns, c, rfl, _⟩ := h
    rfl
  · obtain ⟨X, p, q, d, ns, c, rfl, ⟨dx, lh, lt, B⟩, al, hS, hc, kk⟩ := h
    obtain ⟨k, rfl, rfl⟩ := in11 hc
    have hr1 : Room 1 _ := hr.mono (by decide)
    refine ⟨_, pss_cons (ps_set (i := 2) scCPath.nd rfl (Or.inl rfl) (pe_ix ix_list (pv 1) pe_int (fun _ _ => rfl)))
      (pss_cons (ps_if (pt_not (pt_val (pe_call GW hr1 rfl cW.g cW.kp cW.b .nil pass0 (pa_cons (pv 2) (pa_cons (pe_fld (pv 0) rfl) pa_nil))))) (pss_one (ps_ret (pe_lst (pa_cons (pe_glob (v := .int (-1)) rfl n1 ⟨_, rfl⟩) pa_nil)))) pss_nil)
      (pss_one (ps_ret (pe_call GP hr rfl cP.g cP.kp cP.b .nil pass0 (pa_cons (pe_fld (pv 0) rfl) (pa_cons (pe_fld (pv 0) rfl) (pa_cons (pe_fld (pv 0) rfl) (pa_cons (pv 2) pa_nil)))))))), ?_⟩
    refine ⟨_, rfl, q, _, _, _, rfl, rfl, hS, rfl, _, rfl, _, rfl, p, C, dx, _, _, rfl, B.ob, T.cl, T.nc, bF_c, (k : Int), _, rfl, _, rfl, ?_⟩
    rw [within_iff (m := d.box.c) (z := (d.box.c : Int)) rfl]
    cases e1 : (decide (1 ≤ k) && decide (k ≤ d.box.c)) with
    | false =>
      refine iteT ⟨(by show 1 ≤ sizeLine; decide), fun r hr' => ?_⟩
      rw [step_path_no (fun z => by rw [decide_eq_true z.1, decide_eq_true z.2] at e1; cases e1)] at kk
      exact kk _ r (Same.but (Same.upd_new hr')) hr' ⟨dx, lh, lt, B.same (Same.upd_new hr')⟩ upd_same
    | true =>
      rw [Bool.and_eq_true, decide_eq_true_eq, decide_eq_true_eq] at e1
      rw [step_path_yes e1] at kk
      have sh := isHeap_shape B.ok
      refine iteF ⟨_, rfl, p, C, dx, _, _, rfl, B.ob, T.cl, T.nht, bF_heights, _, rfl, p, C, dx, _, _, rfl, B.ob, T.cl, T.na, bF_a, _, rfl, p, C, dx, _, _, rfl, B.ob, T.cl, T.nb, bF_b, _, rfl,
        lt, d.heap.flatten, d.box.a, d.box.b, k, rfl, SqL.of B.ht, B.good.a3, B.good.b3, flat_len B.good sh, fun H1 r s1 nr hr1 => ?_⟩
      rw [path_list B.good sh] at hr1
      exact kk _ r (Same.but s1) nr ⟨dx, lh, lt, B.same s1⟩ hr1
/-! ### turn -/
theorem scTurn : FnScope ["box", "numbers"] ["box", "numbers"] (defScope sTurn) := ⟨rfl, rfl, rfl, by decide +kernel, rfl, by decide +kernel, by decide +kernel⟩
theorem ok_turn {f fR fT : Addr} {fd fdR fdT : FuncData} (F : Fun K "call_turn" "call_turn" sTurn f fd) (T : Txt K mg C)
    (GR : FnOk P w K mg base CX0 3 fR fdR ["self", "a", "b", "c", "heights"] (spRes C)) (mR : Meth K C "resize" fR) (bR : Binds K fdR ["self", "a", "b", "c", "heights"] [])
    (GT : FnOk P w K mg base CX0 2 fT fdT ["heights", "b"] (spTurned K)) (cT : Cal K mg "turned" fT fdT ["heights", "b"]) : FnOk P w K mg base CX0 4 f fd ["box", "numbers"] (spAct K C 12) := by
  refine F.ok scTurn (fun vs H Q E h => ?_) (fun cdv A outer s H vs Q E hr h => ?_)
  · obtain ⟨X, p, q, d, ns, c, rfl, _⟩ := h
    rfl
  · obtain ⟨X, p, q, d, ns, c, rfl, ⟨dx, lh, lt, B⟩, al, hS, hc, kk⟩ := h
    obtain ⟨rfl, rfl⟩ := in12 hc
    have hr2 : Room 2 _ := hr.mono (by decide)
    refine ⟨_, pss_cons (ps_expr (pe_meth (pv 0) T.cl mR GR hr bR .nil pass0 (pa_cons (pe_fld (pv 0) rfl) (pa_cons (pe_fld (pv 0) rfl) (pa_cons (pe_fld (pv 0) rfl) (pa_cons (pe_call GT hr2 rfl cT.g cT.kp cT.b .nil pass0 (pa_cons (pe_fld (pv 0) rfl) (pa_cons (pe_fld (pv 0) rfl) pa_nil))) pa_nil))))))
      (pss_one (ps_ret (pe_callTy call_list_of (by rfl) T.list (by decide +kernel) (pa_cons (pe_fld (pv 0) rfl) pa_nil)))), ?_⟩
    have sh := isHeap_shape B.ok
    have hab : d.box.a * d.box.b ≤ 9 := Nat.mul_le_mul B.good.a3 B.good.b3
    have hl1 := flat_len B.good sh
    refine ⟨_, rfl, p, dx, _, rfl, B.ob, bF_resize, _, rfl, p, C, dx, _, _, rfl, B.ob, T.cl, T.nb, bF_b, _, rfl, p, C, dx, _, _, rfl, B.ob, T.cl, T.na, bF_a, _, rfl, p, C, dx, _, _, rfl, B.ob, T.cl, T.nc, bF_c,
      _, rfl, p, C, dx, _, _, rfl, B.ob, T.cl, T.nht, bF_heights, _, rfl, p, C, dx, _, _, rfl, B.ob, T.cl, T.nb, bF_b, lt, d.heap.flatten, d.box.b, rfl, SqL.of B.ht, B.good.b1, B.good.b3, by omega, fun H1 t s1 nt ht => ?_⟩
    rw [turned_list B.good sh] at ht
    refine ⟨X, p, t, d, d.box.b, d.box.a, d.box.c, Ti03.turned d.box d.heap, rfl, ⟨dx, lh, lt, B.same s1⟩, (fun a xa e => al a xa (s1.free e)), good_turn B.good, turned_ok B.ok, ht, al.new nt, fun H2 B2 k2 => ?_⟩
    obtain ⟨dx2, lh2, lt2, R2⟩ := B2
    refine ⟨_, rfl, p, C, dx2, _, _, rfl, R2.ob, T.cl, T.nht, bF_heights, lt2, _, rfl, .inl (SqL.of R2.ht), fun r hr' => ?_⟩
    have k1 : But p H H2 := (Same.but s1).trans k2
    exact kk _ r (k1.trans (Same.but (Same.upd_new hr'))) (k1.fresh R2.ob hr') ⟨dx2, lh2, lt2, R2.same (Same.upd_new hr')⟩ upd_same
/-! ### fill -/
theorem scFill : FnScope ["box", "numbers"] ["box", "numbers"] (defScope sFill) := ⟨rfl, rfl, rfl, by decide +kernel, rfl, by decide +kernel, by decide +kernel⟩
theorem ok_fill {f fT : Addr} {fd fdT : FuncData} (F : Fun K "call_fill" "call_fill" sFill f fd) (T : Txt K mg C)
    (GT : FnOk P w K mg base CX0 1 fT fdT ["heights", "c"] (spFilled K)) (cT : Cal K mg "filled_up" fT fdT ["heights", "c"]) : FnOk P w K mg base CX0 2 f fd ["box", "numbers"] (spAct K C 13) := by
  refine F.ok scFill (fun vs H Q E h => ?_) (fun cdv A outer s H vs Q E hr h => ?_)
  · obtain ⟨X, p, q, d, ns, c, rfl, _⟩ := h
    rfl
  · obtain ⟨X, p, q, d, ns, c, rfl, ⟨dx, lh, lt, B⟩, al, hS, hc, kk⟩ := h
    obtain ⟨rfl, rfl⟩ := in13 hc
    refine ⟨_, pss_cons (ps_fld (pv 0) (pe_call GT hr rfl cT.g cT.kp cT.b .nil pass0 (pa_cons (pe_fld (pv 0) rfl) (pa_cons (pe_fld (pv 0) rfl) pa_nil))) rfl)
      (pss_one (ps_ret (pe_callTy call_list_of (by rfl) T.list (by decide +kernel) (pa_cons (pe_fld (pv 0) rfl) pa_nil)))), ?_⟩
    have sh := isHeap_shape B.ok
    have hab : d.box.a * d.box.b ≤ 9 := Nat.mul_le_mul B.good.a3 B.good.b3
    have hl1 := flat_len B.good sh
    refine ⟨_, rfl, p, C, dx, _, _, rfl, B.ob, T.cl, T.nht, bF_heights, _, rfl, p, C, dx, _, _, rfl, B.ob, T.cl, T.nc, bF_c, lt, d.heap.flatten, d.box.c, rfl, SqL.of B.ht, by omega, heap_le B.ok, fun H1 t s1 nt ht => ?_⟩
    rw [filled_list B.good sh] at ht
    have B1 := B.same s1
    have npt : p ≠ t := ne_of_none B.ob nt
    refine ⟨_, rfl, p, C, dx, _, rfl, B1.ob, T.cl, T.nht, bF_len, ?_⟩
    rw [bF_put_heights]
    have ht2 : upd H1 p (.ins C dx (bF d.box.a d.box.b d.box.c lh t)) t = some (.lst (rowV (Ti03.filled d.box d.heap).flatten)) := by rw [upd_ne npt.symm]; exact ht
    refine ⟨_, rfl, p, C, dx, _, _, rfl, upd_same, T.cl, T.nht, bF_heights, t, _, rfl, .inl (SqL.of ht2), fun r hr' => ?_⟩
    have k1 : But p H1 (upd H1 p (.ins C dx (bF d.box.a d.box.b d.box.c lh t))) := But.upd
    exact kk _ r (((Same.but s1).trans k1).trans (Same.but (Same.upd_new hr'))) (((Same.but s1).trans k1).fresh upd_same hr') (BoxAt.same (B1.heights k1 upd_same ht2 (al.new nt) (filled_ok B.ok)) (Same.upd_new hr')) upd_same
/-! ### lay -/
theorem scLay : FnScope ["box", "numbers"] ["box", "numbers"] (defScope sLay) := ⟨rfl, rfl, rfl, by decide +kernel, rfl, by decide +kernel, by decide +kernel⟩
theorem ok_lay {f fR fT : Addr} {fd fdR fdT : FuncData} (F : Fun K "call_lay" "call_lay" sLay f fd) (T : Txt K mg C) (N : Nums mg)
    (GR : FnOk P w K mg base CX0 3 fR fdR ["self", "a", "b", "c", "heights"] (spRes C)) (mR : Meth K C "resize" fR) (bR : Binds K fdR ["self", "a", "b", "c", "heights"] [])
    (GT : FnOk P w K mg base CX0 2 fT fdT ["heights", "b", "c"] (spLaid K)) (cT : Cal K mg "laid" fT fdT ["heights", "b", "c"]) : FnOk P w K mg base CX0 4 f fd ["box", "numbers"] (spAct K C 14) := by
  obtain ⟨t1, n1⟩ := N.mnb
  obtain ⟨t2, n2⟩ := N.mc
  refine F.ok scLay (fun vs H Q E h => ?_) (fun cdv A outer s H vs Q E hr h => ?_)
  · obtain ⟨X, p, q, d, ns, c, rfl, _⟩ := h
    rfl
  · obtain ⟨X, p, q, d, ns, c, rfl, ⟨dx, lh, lt, B⟩, al, hS, hc, kk⟩ := h
    obtain ⟨rfl, rfl⟩ := in14 hc
    have hr2 : Room 2 _ := hr.mono (by decide)
    refine ⟨_, pss_cons (ps_if (pt_cmpR op_gt (pe_fld (pv 0) rfl) (pe_glob (v := .int 3) rfl n2 ⟨_, rfl⟩) (nomark _)) (pss_one (ps_ret (pe_lst (pa_cons (pe_glob (v := .int (-6)) rfl n1 ⟨_, rfl⟩) pa_nil)))) pss_nil)
      (pss_cons (ps_expr (pe_meth (pv 0) T.cl mR GR hr bR .nil pass0 (pa_cons (pe_fld (pv 0) rfl) (pa_cons (pe_fld (pv 0) rfl) (pa_cons (pe_fld (pv 0) rfl) (pa_cons (pe_call GT hr2 rfl cT.g cT.kp cT.b .nil pass0 (pa_cons (pe_fld (pv 0) rfl) (pa_cons (pe_fld (pv 0) rfl) (pa_cons (pe_fld (pv 0) rfl) pa_nil)))) pa_nil))))))
      (pss_one (ps_ret (pe_callTy call_list_of (by rfl) T.list (by decide +kernel) (pa_cons (pe_fld (pv 0) rfl) pa_nil))))), ?_⟩
    have sh := isHeap_shape B.ok
    have hab : d.box.a * d.box.b ≤ 9 := Nat.mul_le_mul B.good.a3 B.good.b3
    have hl1 := flat_len B.good sh
    refine ⟨_, rfl, p, C, dx, _, _, rfl, B.ob, T.cl, T.nc, bF_c, _, _, rfl, rfl, _, rfl, ?_⟩
    refine ite2 (fun c1 => ?_) (fun c1 => ?_)
    · have c1' : 3 < d.box.c := by have := of_decide_eq_true c1; omega
      have es : Ti03.step d .lay = (d, [-6]) := if_pos c1'
      rw [es] at kk
      refine ⟨(by show 1 ≤ sizeLine; decide), fun r hr' => ?_⟩
      exact kk _ r (Same.but (Same.upd_new hr')) hr' ⟨dx, lh, lt, B.same (Same.upd_new hr')⟩ upd_same
    · have c1' : ¬ 3 < d.box.c := fun z => c1 (decide_eq_true (by omega))
      have es : Ti03.step d .lay = (⟨⟨d.box.b, d.box.c, d.box.a⟩, Ti03.laid d.box d.heap⟩, Ti03.ints (Ti03.laid d.box d.heap).flatten) := if_neg c1'
      rw [es] at kk
      refine ⟨_, rfl, p, dx, _, rfl, B.ob, bF_resize, _, rfl, p, C, dx, _, _, rfl, B.ob, T.cl, T.nb, bF_b, _, rfl, p, C, dx, _, _, rfl, B.ob, T.cl, T.nc, bF_c, _, rfl, p, C, dx, _, _, rfl, B.ob, T.cl, T.na, bF_a,
        _, rfl, p, C, dx, _, _, rfl, B.ob, T.cl, T.nht, bF_heights, _, rfl, p, C, dx, _, _, rfl, B.ob, T.cl, T.nb, bF_b, _, rfl, p, C, dx, _, _, rfl, B.ob, T.cl, T.nc, bF_c, lt, d.heap.flatten, d.box.b, d.box.c, rfl, SqL.of B.ht, B.good.b1, B.good.b3, B.good.c4, by omega, fun H1 t s1 nt ht => ?_⟩
      rw [laid_list B.good sh] at ht
      refine ⟨X, p, t, d, d.box.b, d.box.c, d.box.a, Ti03.laid d.box d.heap, rfl, ⟨dx, lh, lt, B.same s1⟩, (fun a xa e => al a xa (s1.free e)), good_lay B.good (by omega), laid_ok B.ok, ht, al.new nt, fun H2 B2 k2 => ?_⟩
      obtain ⟨dx2, lh2, lt2, R2⟩ := B2
      refine ⟨_, rfl, p, C, dx2, _, _, rfl, R2.ob, T.cl, T.nht, bF_heights, lt2, _, rfl, .inl (SqL.of R2.ht), fun r hr' => ?_⟩
      have k1 : But p H H2 := (Same.but s1).trans k2
      exact kk _ r (k1.trans (Same.but (Same.upd_new hr'))) (k1.fresh R2.ob hr') ⟨dx2, lh2, lt2, R2.same (Same.upd_new hr')⟩ upd_same
end
end CH

namespace CH
open PySem PySem.Spec PyProof.Rows L2
open Ti03Neutral (callIn)
/-- a comprehension that counts the lists of a list -/
theorem cnt_lc {K : PySem.W.Frag} {H : Hp} {lh D p : Addr} {v : Option V} {rs : List Addr} {ls : List (List Nat)} {tt : TT} {σ : L2.St} {Qd : Hp → Prop} {f : List Nat → Bool} (L : LLr H lh rs ls) (hsm : ls.length ≤ 1953125) (hD : H D = none) (hσ : σ = [some (.ref p), v])
    (ht : ∀ (H1 : Hp) (r : Addr) (l : List Nat) (R : Bool → Hp → Prop), Same H H1 → l ∈ ls → H1 r = some (.lst (rowV l)) → (∀ H2, Same H1 H2 → R (f l) H2) → tt [some (.ref p), some (.ref r)] H1 R)
    (hd : ∀ (H' : Hp) (zs : List V), Same H H' → H' D = some (.lst zs) → zs.length = (ls.filter f).length → Qd H') :
    ∃ W : Nat → Nat → Hp → Prop, (∃ m, W 0 m (upd H D (.lst []))) ∧ ∀ i m H, W i m H →
      ((Itl K lh).stop i H ∧ Qd H) ∨ ((Itl K lh).go i H ∧ ∃ Nx : Hp → Prop, (∀ H', Nx H' → ∃ m', m' < m ∧ W (i + 1) m' H') ∧ ∀ x H', (Itl K lh).yld i H x H' → gName 1 x (wipe σ [1]) H' fun σ2 H2 => wipe σ2 [1] = wipe σ [1] ∧ tt σ2 H2 fun b H3 =>
        if b = true then tVar 1 σ2 H3 fun y H4 => ∃ acc, H4 D = some (.lst acc) ∧ acc.length < sizeLine ∧ Nx (upd H4 D (.lst (acc ++ [y]))) else Nx H3) := by
  subst hσ
  have hsz := size_line
  refine lc_list (K := K) (a := lh) (xs := rs.map V.ref) (fun i H' => Same H H' ∧ ∃ zs, H' D = some (.lst zs) ∧ zs.length = ((ls.take i).filter f).length)
      ⟨Same.upd_new hD, [], upd_same, rfl⟩ (fun i H' _ ⟨s1, _⟩ => SqL.of (s1 _ _ L.at_)) ?_ ?_
  · rintro i y H1 hi ⟨s1, zs, hD1, hl⟩
    obtain ⟨r, hr0, rfl⟩ : ∃ r, rs[i]? = some r ∧ y = V.ref r := by
      rw [List.getElem?_map] at hi
      cases e : rs[i]? with
      | none => rw [e] at hi; cases hi
      | some r => rw [e] at hi; exact ⟨r, rfl, (Option.some.inj hi).symm⟩
    obtain ⟨l, hl1, hr1⟩ := L.rows.get hr0
    have ml : l ∈ ls := List.mem_iff_getElem?.mpr ⟨i, hl1⟩
    have e2 : ls.take (i + 1) = ls.take i ++ [l] := by
      rw [List.take_add_one, hl1]; rfl
    have hz : zs.length < sizeLine := by
      have l1 := List.length_filter_le f (ls.take i)
      rw [List.length_take] at l1
      omega
    refine ⟨rfl, ht H1 r l _ s1 ml (s1 _ _ hr1) fun H2 s2 => ?_⟩
    refine ite2 (fun c => ?_) (fun c => ?_)
    · refine ⟨_, rfl, zs, s2 _ _ hD1, hz, Same.grow hD (s1.trans s2), _, upd_same, ?_⟩
      rw [e2, filter_one_pos (p := f) c, List.length_append, List.length_append, hl]
      rfl
    · refine ⟨s1.trans s2, zs, s2 _ _ hD1, ?_⟩
      rw [e2, filter_one_neg (p := f) c, hl]
  · rintro H1 ⟨s1, zs, hD1, hl⟩
    rw [List.length_map, L.rows.len, List.take_length] at hl
    exact hd H1 zs s1 hD1 hl
def spCnt (C : Addr) (g : Ti03.Box → Nat) : Sp := fun vs H Q _ => ∃ (X : Addr → Prop) (p : Addr) (d : Ti03.St), vs = [.ref p] ∧ BoxAt X C H p d ∧ ∀ H' : Hp, Same H H' → Q (.int ((g d.box : Nat) : Int)) H'
section
variable {P : Program} {w : World} {K : PySem.W.Frag} {mg : Str → Option Value} {base : Heap} {C : Addr}
abbrev nAl : List Str := ["box", "heights"]
theorem scAT : FnScope nAl ["box"] (defScope sAT) := ⟨rfl, rfl, rfl, by decide +kernel, rfl, by decide +kernel, by decide +kernel⟩
theorem ok_at {f fT : Addr} {fd fdT : FuncData} (F : Fun K "alike_turned" "alike_turned" sAT f fd) (T : Txt K mg C)
    (GT : FnOk P w K mg base CX0 2 fT fdT ["heights", "b"] (spTurned K)) (cT : Cal K mg "turned" fT fdT ["heights", "b"]) : FnOk P w K mg base CX0 3 f fd ["box"] (spCnt C alikeT) := by
  refine F.ok scAT (fun vs H Q E h => ?_) (fun cdv A outer s H vs Q E hr h => ?_)
  · obtain ⟨X, p, d, rfl, _⟩ := h
    rfl
  · obtain ⟨X, p, d, rfl, ⟨dx, lh, lt, B⟩, kk⟩ := h
    refine ⟨_, pss_cons (ps_if (pt_cmpR op_ne (pe_fld (pv 0) rfl) (pe_fld (pv 0) rfl) (nomark _)) (pss_one (ps_ret pe_int)) pss_nil)
      (pss_one (ps_ret (pe_callB call_len_seq (by rfl) T.len PySem.boot_len (pa_cons
        (pe_lc (own := [("heights", 1)]) (g := gName 1) (tt := tTest (tOp (rEqD K) (tCall (spTurned K) [] E0 (tCons (tVar 1) (tCons (tFld K (tVar 0) "b") tNil))) (tVar 1))) (te := tVar 1) rfl scAT.nd
          (pi_list (pe_fld (pv 0) rfl))
          (blkOk_by (own := [("heights", 1)]) (N := nAl) (sc := defScope sAT) (by decide +kernel))
          (fun _ _ _ _ _ => pg_name (i := 1) scAT.nd rfl (Or.inl rfl))
          (fun _ _ _ _ _ => pts_one (pt_cmpR (op_eqD hr.units) (pe_call GT hr rfl cT.g cT.kp cT.b .nil pass0 (pa_cons (pv 1) (pa_cons (pe_fld (pv 0) rfl) pa_nil))) (pv 1) (nomark _)))
          (fun _ _ _ _ _ => pv 1)) pa_nil)))), ?_⟩
    refine ⟨_, rfl, p, C, dx, _, _, rfl, B.ob, T.cl, T.na, bF_a, _, rfl, p, C, dx, _, _, rfl, B.ob, T.cl, T.nb, bF_b, rfl, _, rfl, ?_⟩
    by_cases c1 : d.box.a = d.box.b
    · have c1' : V.int (d.box.a : Int) = V.int (d.box.b : Int) := by rw [c1]
      refine iteNS c1' ?_
      obtain ⟨rs, L, _⟩ := id B.hs
      refine ⟨_, rfl, p, C, dx, _, _, rfl, B.ob, T.cl, T.nhs, bF_heaps, lh, rfl, ⟨_, SqL.of L.at_⟩, fun D hD => ?_⟩
      refine cnt_lc (p := p) (f := fun l => decide (turnL d.box.b l = l)) L (heapsIn_le B.good) hD rfl (fun H1 r l R s1 ml hr1 kR => ?_) (fun H1 zs s1 hD1 hl => ?_)
      · obtain ⟨h, hh, rfl⟩ := mem_heapsIn B.good ml
        have hab : d.box.a * d.box.b ≤ 9 := Nat.mul_le_mul B.good.a3 B.good.b3
        have hl1 := flat_len B.good (isHeap_shape hh)
        have B1 := B.same s1
        refine ⟨_, rfl, _, rfl, p, C, dx, _, _, rfl, B1.ob, T.cl, T.nb, bF_b, r, h.flatten, d.box.b, rfl, SqL.of hr1, B.good.b1, B.good.b3, by omega, fun H2 t s2 nt ht => ?_⟩
        refine ⟨_, rfl, _, _, dp_row ht, dp_row (s2 _ _ hr1), row_shaped _, row_shaped _, _, rfl, ?_⟩
        rw [eqv_row]
        exact kR _ s2
      · refine ⟨D, zs, rfl, .inl (SqL.of hD1), ?_⟩
        rw [hl]
        have e : alikeT d.box = ((heapsIn d.box.a d.box.b d.box.c).filter fun l => decide (turnL d.box.b l = l)).length := if_pos c1
        rw [← e]
        exact kk _ s1
    · have c1' : ¬ V.int (d.box.a : Int) = V.int (d.box.b : Int) := fun z => c1 (by have := V.int.inj z; omega)
      have e : alikeT d.box = 0 := if_neg c1
      have := kk H (Same.refl H)
      rw [e] at this
      rw [decide_eq_false c1']
      exact iteT this
theorem scAF : FnScope nAl ["box"] (defScope sAF) := ⟨rfl, rfl, rfl, by decide +kernel, rfl, by decide +kernel, by decide +kernel⟩
theorem ok_af {f fT : Addr} {fd fdT : FuncData} (F : Fun K "alike_filled_up" "alike_filled_up" sAF f fd) (T : Txt K mg C)
    (GT : FnOk P w K mg base CX0 1 fT fdT ["heights", "c"] (spFilled K)) (cT : Cal K mg "filled_up" fT fdT ["heights", "c"]) : FnOk P w K mg base CX0 2 f fd ["box"] (spCnt C alikeF) := by
  refine F.ok scAF (fun vs H Q E h => ?_) (fun cdv A outer s H vs Q E hr h => ?_)
  · obtain ⟨X, p, d, rfl, _⟩ := h
    rfl
  · obtain ⟨X, p, d, rfl, ⟨dx, lh, lt, B⟩, kk⟩ := h
    refine ⟨_, (pss_one (ps_ret (pe_callB call_len_seq (by rfl) T.len PySem.boot_len (pa_cons
        (pe_lc (own := [("heights", 1)]) (g := gName 1) (tt := tTest (tOp (rEqD K) (tCall (spFilled K) [] E0 (tCons (tVar 1) (tCons (tFld K (tVar 0) "c") tNil))) (tVar 1))) (te := tVar 1) rfl scAF.nd
          (pi_list (pe_fld (pv 0) rfl))
          (blkOk_by (own := [("heights", 1)]) (N := nAl) (sc := defScope sAF) (by decide +kernel))
          (fun _ _ _ _ _ => pg_name (i := 1) scAF.nd rfl (Or.inl rfl))
          (fun _ _ _ _ _ => pts_one (pt_cmpR (op_eqD hr.units) (pe_call GT hr rfl cT.g cT.kp cT.b .nil pass0 (pa_cons (pv 1) (pa_cons (pe_fld (pv 0) rfl) pa_nil))) (pv 1) (nomark _)))
          (fun _ _ _ _ _ => pv 1)) pa_nil)))), ?_⟩
    obtain ⟨rs, L, _⟩ := id B.hs
    refine ⟨_, rfl, p, C, dx, _, _, rfl, B.ob, T.cl, T.nhs, bF_heaps, lh, rfl, ⟨_, SqL.of L.at_⟩, fun D hD => ?_⟩
    refine cnt_lc (p := p) (f := fun l => decide (fillL d.box.c l = l)) L (heapsIn_le B.good) hD rfl (fun H1 r l R s1 ml hr1 kR => ?_) (fun H1 zs s1 hD1 hl => ?_)
    · obtain ⟨h, hh, rfl⟩ := mem_heapsIn B.good ml
      have hab : d.box.a * d.box.b ≤ 9 := Nat.mul_le_mul B.good.a3 B.good.b3
      have hl1 := flat_len B.good (isHeap_shape hh)
      have B1 := B.same s1
      refine ⟨_, rfl, _, rfl, p, C, dx, _, _, rfl, B1.ob, T.cl, T.nc, bF_c, r, h.flatten, d.box.c, rfl, SqL.of hr1, by omega, heap_le hh, fun H2 t s2 nt ht => ?_⟩
      refine ⟨_, rfl, _, _, dp_row ht, dp_row (s2 _ _ hr1), row_shaped _, row_shaped _, _, rfl, ?_⟩
      rw [eqv_row]
      exact kR _ s2
    · refine ⟨D, zs, rfl, .inl (SqL.of hD1), ?_⟩
      rw [hl]
      exact kk _ s1
theorem scAL : FnScope nAl ["box"] (defScope sAL) := ⟨rfl, rfl, rfl, by decide +kernel, rfl, by decide +kernel, by decide +kernel⟩
theorem ok_al {f fT : Addr} {fd fdT : FuncData} (F : Fun K "alike_laid" "alike_laid" sAL f fd) (T : Txt K mg C)
    (GT : FnOk P w K mg base CX0 2 fT fdT ["heights", "b", "c"] (spLaid K)) (cT : Cal K mg "laid" fT fdT ["heights", "b", "c"]) : FnOk P w K mg base CX0 3 f fd ["box"] (spCnt C alikeL) := by
  refine F.ok scAL (fun vs H Q E h => ?_) (fun cdv A outer s H vs Q E hr h => ?_)
  · obtain ⟨X, p, d, rfl, _⟩ := h
    rfl
  · obtain ⟨X, p, d, rfl, ⟨dx, lh, lt, B⟩, kk⟩ := h
    refine ⟨_, pss_cons (ps_if (PW.pt (pw_or (pt_cmpR op_ne (pe_fld (pv 0) rfl) (pe_fld (pv 0) rfl) (nomark _)) (pw_or1 (pt_cmpR op_ne (pe_fld (pv 0) rfl) (pe_fld (pv 0) rfl) (nomark _))))) (pss_one (ps_ret pe_int)) pss_nil)
      (pss_one (ps_ret (pe_callB call_len_seq (by rfl) T.len PySem.boot_len (pa_cons
        (pe_lc (own := [("heights", 1)]) (g := gName 1) (tt := tTest (tOp (rEqD K) (tCall (spLaid K) [] E0 (tCons (tVar 1) (tCons (tFld K (tVar 0) "b") (tCons (tFld K (tVar 0) "c") tNil)))) (tVar 1))) (te := tVar 1) rfl scAL.nd
          (pi_list (pe_fld (pv 0) rfl))
          (blkOk_by (own := [("heights", 1)]) (N := nAl) (sc := defScope sAL) (by decide +kernel))
          (fun _ _ _ _ _ => pg_name (i := 1) scAL.nd rfl (Or.inl rfl))
          (fun _ _ _ _ _ => pts_one (pt_cmpR (op_eqD hr.units) (pe_call GT hr rfl cT.g cT.kp cT.b .nil pass0 (pa_cons (pv 1) (pa_cons (pe_fld (pv 0) rfl) (pa_cons (pe_fld (pv 0) rfl) pa_nil)))) (pv 1) (nomark _)))
          (fun _ _ _ _ _ => pv 1)) pa_nil)))), ?_⟩
    have no : ¬ (d.box.a = d.box.b ∧ d.box.b = d.box.c) → Q (V.int 0) H := fun z => by
      have e : alikeL d.box = 0 := if_neg z
      have := kk H (Same.refl H)
      rw [e] at this
      exact this
    refine ⟨_, rfl, p, C, dx, _, _, rfl, B.ob, T.cl, T.na, bF_a, _, rfl, p, C, dx, _, _, rfl, B.ob, T.cl, T.nb, bF_b, rfl, _, rfl, ?_⟩
    by_cases c1 : d.box.a = d.box.b
    · have c1' : V.int (d.box.a : Int) = V.int (d.box.b : Int) := by rw [c1]
      refine iteNS c1' ?_
      refine ⟨_, rfl, p, C, dx, _, _, rfl, B.ob, T.cl, T.nb, bF_b, _, rfl, p, C, dx, _, _, rfl, B.ob, T.cl, T.nc, bF_c, rfl, _, rfl, ?_⟩
      by_cases c2 : d.box.b = d.box.c
      · have c2' : V.int (d.box.b : Int) = V.int (d.box.c : Int) := by rw [c2]
        refine iteNS c2' ?_
        obtain ⟨rs, L, _⟩ := id B.hs
        refine ⟨_, rfl, p, C, dx, _, _, rfl, B.ob, T.cl, T.nhs, bF_heaps, lh, rfl, ⟨_, SqL.of L.at_⟩, fun D hD => ?_⟩
        refine cnt_lc (p := p) (f := fun l => decide (layL d.box.b d.box.c l = l)) L (heapsIn_le B.good) hD rfl (fun H1 r l R s1 ml hr1 kR => ?_) (fun H1 zs s1 hD1 hl => ?_)
        · obtain ⟨h, hh, rfl⟩ := mem_heapsIn B.good ml
          have hab : d.box.a * d.box.b ≤ 9 := Nat.mul_le_mul B.good.a3 B.good.b3
          have hl1 := flat_len B.good (isHeap_shape hh)
          have B1 := B.same s1
          refine ⟨_, rfl, _, rfl, p, C, dx, _, _, rfl, B1.ob, T.cl, T.nb, bF_b, _, rfl, p, C, dx, _, _, rfl, B1.ob, T.cl, T.nc, bF_c, r, h.flatten, d.box.b, d.box.c, rfl, SqL.of hr1, B.good.b1, B.good.b3, B.good.c4, by omega, fun H2 t s2 nt ht => ?_⟩
          refine ⟨_, rfl, _, _, dp_row ht, dp_row (s2 _ _ hr1), row_shaped _, row_shaped _, _, rfl, ?_⟩
          rw [eqv_row]
          exact kR _ s2
        · refine ⟨D, zs, rfl, .inl (SqL.of hD1), ?_⟩
          rw [hl]
          have e : alikeL d.box = ((heapsIn d.box.a d.box.b d.box.c).filter fun l => decide (layL d.box.b d.box.c l = l)).length := if_pos ⟨c1, c2⟩
          rw [← e]
          exact kk _ s1
      · have c2' : ¬ V.int (d.box.b : Int) = V.int (d.box.c : Int) := fun z => c2 (by have := V.int.inj z; omega)
        rw [decide_eq_false c2']
        exact iteT (no fun z => c2 z.2)
    · have c1' : ¬ V.int (d.box.a : Int) = V.int (d.box.b : Int) := fun z => c1 (by have := V.int.inj z; omega)
      rw [decide_eq_false c1']
      exact iteT (iteT (no fun z => c1 z.1))
/-! ### alike -/
theorem scAlike : FnScope ["box", "numbers"] ["box", "numbers"] (defScope sAlike) := ⟨rfl, rfl, rfl, by decide +kernel, rfl, by decide +kernel, by decide +kernel⟩
theorem ok_alike {f fT fF fL : Addr} {fd fdT fdF fdL : FuncData} (F : Fun K "call_alike" "call_alike" sAlike f fd)
    (GT : FnOk P w K mg base CX0 3 fT fdT ["box"] (spCnt C alikeT)) (cT : Cal K mg "alike_turned" fT fdT ["box"])
    (GF : FnOk P w K mg base CX0 2 fF fdF ["box"] (spCnt C alikeF)) (cF : Cal K mg "alike_filled_up" fF fdF ["box"])
    (GL : FnOk P w K mg base CX0 3 fL fdL ["box"] (spCnt C alikeL)) (cL : Cal K mg "alike_laid" fL fdL ["box"]) : FnOk P w K mg base CX0 4 f fd ["box", "numbers"] (spAct K C 15) := by
  refine F.ok scAlike (fun vs H Q E h => ?_) (fun cdv A outer s H vs Q E hr h => ?_)
  · obtain ⟨X, p, q, d, ns, c, rfl, _⟩ := h
    rfl
  · obtain ⟨X, p, q, d, ns, c, rfl, ⟨dx, lh, lt, B⟩, al, hS, hc, kk⟩ := h
    obtain ⟨rfl, rfl⟩ := in15 hc
    rw [step_alike B.good] at kk
    have hr2 : Room 2 _ := hr.mono (by decide)
    refine ⟨_, pss_one (ps_ret (pe_lst (pa_cons (pe_call GT hr rfl cT.g cT.kp cT.b .nil pass0 (pa_cons (pv 0) pa_nil)) (pa_cons (pe_call GF hr2 rfl cF.g cF.kp cF.b .nil pass0 (pa_cons (pv 0) pa_nil)) (pa_cons (pe_call GL hr rfl cL.g cL.kp cL.b .nil pass0 (pa_cons (pv 0) pa_nil)) pa_nil))))), ?_⟩
    refine ⟨_, rfl, X, p, d, rfl, ⟨dx, lh, lt, B⟩, fun H1 s1 => ?_⟩
    refine ⟨_, rfl, X, p, d, rfl, ⟨dx, lh, lt, B.same s1⟩, fun H2 s2 => ?_⟩
    refine ⟨_, rfl, X, p, d, rfl, ⟨dx, lh, lt, (B.same s1).same s2⟩, fun H3 s3 => ?_⟩
    have s := (s1.trans s2).trans s3
    refine ⟨(by show 3 ≤ sizeLine; decide), fun r hr' => ?_⟩
    exact kk _ r (Same.but (s.trans (Same.upd_new hr'))) (s.free hr') ⟨dx, lh, lt, (B.same s).same (Same.upd_new hr')⟩ upd_same
end
end CH

namespace CH
open PySem PySem.Spec PyProof.Rows L2
theorem shape_num {p : Int} {s : Nat × Nat} (h : PyTi03.shape p = some s) : ∃ n : Nat, n < 16 ∧ p = (n : Int) := by
  by_cases h0 : 0 ≤ p ∧ p ≤ 15
  · exact ⟨p.toNat, by omega, by omega⟩
  · exfalso
    unfold PyTi03.shape at h
    rw [if_neg (show ¬ p = 0 by omega), if_neg (show ¬ p = 1 by omega), if_neg (show ¬ p = 2 by omega), if_neg (show ¬ p = 3 by omega), if_neg (show ¬ p = 4 by omega), if_neg (show ¬ p = 5 by omega), if_neg (show ¬ p = 6 by omega), if_neg (show ¬ p = 7 by omega),
      if_neg (show ¬ p = 8 by omega), if_neg (show ¬ p = 9 by omega), if_neg (show ¬ p = 10 by omega), if_neg (show ¬ p = 11 by omega), if_neg (show ¬ p = 12 by omega), if_neg (show ¬ p = 13 by omega), if_neg (show ¬ p = 14 by omega), if_neg (show ¬ p = 15 by omega)] at h
    cases h
theorem tab_row (p : Int) : inV (.int p) [V.int 1, V.int 8, V.int 9, V.int 10] = true ↔ Rowy p := by
  unfold inV Rowy
  simp only [List.any_cons, List.any_nil, eqV, Bool.or_eq_true, beq_iff_eq, Bool.or_false]
  omega
theorem tab_wid {p : Int} {n : Nat} (h : PyTi03.shape p = some (n, 0)) (nr : ¬ Rowy p) :
    ([(0, V.int 3), (2, V.int 1), (3, V.int 0), (4, V.int 2), (5, V.int 2), (6, V.int 0), (7, V.int 1), (11, V.int 1), (12, V.int 0), (13, V.int 0), (14, V.int 0), (15, V.int 0)] : List (Int × V)).lookup p = some (V.int (n : Nat)) := by
  obtain ⟨m, hm, rfl⟩ := shape_num h
  match m, hm, h, nr with
  | 0, _, h, _ => have e : PyTi03.shape ((0 : Nat) : Int) = some (3, 0) := rfl; rw [e] at h; cases h; rfl
  | 1, _, _, nr => exact absurd (.inl rfl) nr
  | 2, _, h, _ => have e : PyTi03.shape ((2 : Nat) : Int) = some (1, 0) := rfl; rw [e] at h; cases h; rfl
  | 3, _, h, _ => have e : PyTi03.shape ((3 : Nat) : Int) = some (0, 0) := rfl; rw [e] at h; cases h; rfl
  | 4, _, h, _ => have e : PyTi03.shape ((4 : Nat) : Int) = some (2, 0) := rfl; rw [e] at h; cases h; rfl
  | 5, _, h, _ => have e : PyTi03.shape ((5 : Nat) : Int) = some (2, 0) := rfl; rw [e] at h; cases h; rfl
  | 6, _, h, _ => have e : PyTi03.shape ((6 : Nat) : Int) = some (0, 0) := rfl; rw [e] at h; cases h; rfl
  | 7, _, h, _ => have e : PyTi03.shape ((7 : Nat) : Int) = some (1, 0) := rfl; rw [e] at h; cases h; rfl
  | 8, _, _, nr => exact absurd (.inr (.inl rfl)) nr
  | 9, _, _, nr => exact absurd (.inr (.inr (.inl rfl))) nr
  | 10, _, _, nr => exact absurd (.inr (.inr (.inr rfl))) nr
  | 11, _, h, _ => have e : PyTi03.shape ((11 : Nat) : Int) = some (1, 0) := rfl; rw [e] at h; cases h; rfl
  | 12, _, h, _ => have e : PyTi03.shape ((12 : Nat) : Int) = some (0, 0) := rfl; rw [e] at h; cases h; rfl
  | 13, _, h, _ => have e : PyTi03.shape ((13 : Nat) : Int) = some (0, 0) := rfl; rw [e] at h; cases h; rfl
  | 14, _, h, _ => have e : PyTi03.shape ((14 : Nat) : Int) = some (0, 0) := rfl; rw [e] at h; cases h; rfl
  | 15, _, h, _ => have e : PyTi03.shape ((15 : Nat) : Int) = some (0, 0) := rfl; rw [e] at h; cases h; rfl
  | m + 16, hm, _, _ => exact absurd hm (by omega)
end CH

namespace CH
open PySem PySem.Spec PyProof.Rows L2
def rowI : List Value → Option (List V)
  | [] => some []
  | u :: r => match asV u, rowI r with
    | some v, some l => some (v :: l)
    | _, _ => none
theorem rowI_vals : ∀ {us : List Value} {l : List V}, rowI us = some l → Vals l us
  | [], l, h => by cases h; exact .nil
  | u :: r, l, h => by
    unfold rowI at h
    split at h
    · rename_i v l' h1 h2
      cases h
      exact .cons (asV_rel h1) (rowI_vals h2)
    · cases h
theorem all_mk {P : Program} {w : World} {K : PySem.W.Frag} {h : Heap} {mg : Str → Option Value} {fa C aR aW aA fLim fIsH fHin fMov fCf fPath fCol fTrd fFld fLad fInit fRes fFits fWit fBox fHeap fNth fRank fMove fPut fTake fPl fCor fVol fApa fOve fUnd fCPa fTur fFil fLay fAT fAF fAL fAli fFst fEnd fAns : Addr} (X : K.In h) (G : h.Ns mainGlobals mg) (hfa : mg "answers" = some (.ref fa))
    {odLim anLim odIsH anIsH odHin anHin odMov anMov odCf anCf odPath anPath odCol anCol odTrd anTrd odFld anFld odLad anLad odInit anInit odRes anRes odFits anFits odWit anWit odBox anBox odHeap anHeap odNth anNth odRank anRank odMove anMove odPut anPut odTake anTake odPl anPl odCor anCor odVol anVol odApa anApa odOve anOve odUnd anUnd odCPa anCPa odTur anTur odFil anFil odLay anLay odAT anAT odAF anAF odAL anAL odAli anAli odFst anFst odEnd anEnd odAns anAns : Option Addr} {slLim slIsH slHin slMov slCf slPath slCol slTrd slFld slLad slInit slRes slFits slWit slBox slHeap slNth slRank slMove slPut slTake slPl slCor slVol slApa slOve slUnd slCPa slTur slFil slLay slAT slAF slAL slAli slFst slEnd slAns : Array (Option Value)} {ocLim kVLim dcLim pmLim cdLim ctLim ocIsH kVIsH dcIsH pmIsH cdIsH ctIsH ocHin kVHin dcHin pmHin cdHin ctHin ocMov kVMov dcMov pmMov cdMov ctMov ocCf kVCf dcCf pmCf cdCf ctCf ocPath kVPath dcPath pmPath cdPath ctPath ocCol kVCol dcCol pmCol cdCol ctCol ocTrd kVTrd dcTrd pmTrd cdTrd ctTrd ocFld kVFld dcFld pmFld cdFld ctFld ocLad kVLad dcLad pmLad cdLad ctLad ocInit kVInit dcInit pmInit cdInit ctInit ocRes kVRes dcRes pmRes cdRes ctRes ocFits kVFits dcFits pmFits cdFits ctFits ocWit kVWit dcWit pmWit cdWit ctWit ocBox kVBox dcBox pmBox cdBox ctBox ocHeap kVHeap dcHeap pmHeap cdHeap ctHeap ocNth kVNth dcNth pmNth cdNth ctNth ocRank kVRank dcRank pmRank cdRank ctRank ocMove kVMove dcMove pmMove cdMove ctMove ocPut kVPut dcPut pmPut cdPut ctPut ocTake kVTake dcTake pmTake cdTake ctTake ocPl kVPl dcPl pmPl cdPl ctPl ocCor kVCor dcCor pmCor cdCor ctCor ocVol kVVol dcVol pmVol cdVol ctVol ocApa kVApa dcApa pmApa cdApa ctApa ocOve kVOve dcOve pmOve cdOve ctOve ocUnd kVUnd dcUnd pmUnd cdUnd ctUnd ocCPa kVCPa dcCPa pmCPa cdCPa ctCPa ocTur kVTur dcTur pmTur cdTur ctTur ocFil kVFil dcFil pmFil cdFil ctFil ocLay kVLay dcLay pmLay cdLay ctLay ocAT kVAT dcAT pmAT cdAT ctAT ocAF kVAF dcAF pmAF cdAF ctAF ocAL kVAL dcAL pmAL cdAL ctAL ocAli kVAli dcAli pmAli cdAli ctAli ocFst kVFst dcFst pmFst cdFst ctFst ocEnd kVEnd dcEnd pmEnd cdEnd ctEnd ocAns kVAns dcAns pmAns cdAns ctAns : Value}
    {t_nat t_nsh t_mnb t_mr t_mc t_mh : Tok} {odR : Option Addr} {itR : Array Value} {nR : Nat} {slR : Array (Option Value)} {esW esA : Array DictEntry} {nW nA : Nat}
    (aC : PySem.W.nsIn K mainGlobals "Box" = some (some (.ref C)))
    (aLim : PySem.W.nsIn K mainGlobals "limit_at" = some (some (.ref fLim)))
    (lLim : K.lookup fLim = some ⟨ocLim, odLim, .func (PySem.W.fnOf "limit_at" "limit_at" (defArgs sLim) (defBody sLim) (defScope sLim) .none kVLim dcLim pmLim anLim cdLim ctLim), slLim⟩) (cLim : PySem.W.codeIn K cdLim "limit_at" = true) (kLim : PySem.W.keepIn K (.ref fLim) = true)
    (aIsH : PySem.W.nsIn K mainGlobals "is_heap" = some (some (.ref fIsH)))
    (lIsH : K.lookup fIsH = some ⟨ocIsH, odIsH, .func (PySem.W.fnOf "is_heap" "is_heap" (defArgs sIsH) (defBody sIsH) (defScope sIsH) .none kVIsH dcIsH pmIsH anIsH cdIsH ctIsH), slIsH⟩) (cIsH : PySem.W.codeIn K cdIsH "is_heap" = true) (kIsH : PySem.W.keepIn K (.ref fIsH) = true)
    (aHin : PySem.W.nsIn K mainGlobals "heaps_in" = some (some (.ref fHin)))
    (lHin : K.lookup fHin = some ⟨ocHin, odHin, .func (PySem.W.fnOf "heaps_in" "heaps_in" (defArgs sHin) (defBody sHin) (defScope sHin) .none kVHin dcHin pmHin anHin cdHin ctHin), slHin⟩) (cHin : PySem.W.codeIn K cdHin "heaps_in" = true) (kHin : PySem.W.keepIn K (.ref fHin) = true)
    (aMov : PySem.W.nsIn K mainGlobals "moved" = some (some (.ref fMov)))
    (lMov : K.lookup fMov = some ⟨ocMov, odMov, .func (PySem.W.fnOf "moved" "moved" (defArgs sMov) (defBody sMov) (defScope sMov) .none kVMov dcMov pmMov anMov cdMov ctMov), slMov⟩) (cMov : PySem.W.codeIn K cdMov "moved" = true) (kMov : PySem.W.keepIn K (.ref fMov) = true)
    (aCf : PySem.W.nsIn K mainGlobals "columns_filled" = some (some (.ref fCf)))
    (lCf : K.lookup fCf = some ⟨ocCf, odCf, .func (PySem.W.fnOf "columns_filled" "columns_filled" (defArgs sCf) (defBody sCf) (defScope sCf) .none kVCf dcCf pmCf anCf cdCf ctCf), slCf⟩) (cCf : PySem.W.codeIn K cdCf "columns_filled" = true) (kCf : PySem.W.keepIn K (.ref fCf) = true)
    (aPath : PySem.W.nsIn K mainGlobals "path_of" = some (some (.ref fPath)))
    (lPath : K.lookup fPath = some ⟨ocPath, odPath, .func (PySem.W.fnOf "path_of" "path_of" (defArgs sPath) (defBody sPath) (defScope sPath) .none kVPath dcPath pmPath anPath cdPath ctPath), slPath⟩) (cPath : PySem.W.codeIn K cdPath "path_of" = true) (kPath : PySem.W.keepIn K (.ref fPath) = true)
    (aCol : PySem.W.nsIn K mainGlobals "column_of" = some (some (.ref fCol)))
    (lCol : K.lookup fCol = some ⟨ocCol, odCol, .func (PySem.W.fnOf "column_of" "column_of" (defArgs sCol) (defBody sCol) (defScope sCol) .none kVCol dcCol pmCol anCol cdCol ctCol), slCol⟩) (cCol : PySem.W.codeIn K cdCol "column_of" = true) (kCol : PySem.W.keepIn K (.ref fCol) = true)
    (aTrd : PySem.W.nsIn K mainGlobals "turned" = some (some (.ref fTrd)))
    (lTrd : K.lookup fTrd = some ⟨ocTrd, odTrd, .func (PySem.W.fnOf "turned" "turned" (defArgs sTurned) (defBody sTurned) (defScope sTurned) .none kVTrd dcTrd pmTrd anTrd cdTrd ctTrd), slTrd⟩) (cTrd : PySem.W.codeIn K cdTrd "turned" = true) (kTrd : PySem.W.keepIn K (.ref fTrd) = true)
    (aFld : PySem.W.nsIn K mainGlobals "filled_up" = some (some (.ref fFld)))
    (lFld : K.lookup fFld = some ⟨ocFld, odFld, .func (PySem.W.fnOf "filled_up" "filled_up" (defArgs sFilled) (defBody sFilled) (defScope sFilled) .none kVFld dcFld pmFld anFld cdFld ctFld), slFld⟩) (cFld : PySem.W.codeIn K cdFld "filled_up" = true) (kFld : PySem.W.keepIn K (.ref fFld) = true)
    (aLad : PySem.W.nsIn K mainGlobals "laid" = some (some (.ref fLad)))
    (lLad : K.lookup fLad = some ⟨ocLad, odLad, .func (PySem.W.fnOf "laid" "laid" (defArgs sLaid) (defBody sLaid) (defScope sLaid) .none kVLad dcLad pmLad anLad cdLad ctLad), slLad⟩) (cLad : PySem.W.codeIn K cdLad "laid" = true) (kLad : PySem.W.keepIn K (.ref fLad) = true)
    (aInit : PySem.W.findIn K (.ref C) "__init__" = some (some (.ref fInit))) (iInit : PySem.W.isFn K (.ref fInit) = true)
    (lInit : K.lookup fInit = some ⟨ocInit, odInit, .func (PySem.W.fnOf "__init__" "Box.__init__" (defArgs sInit) (defBody sInit) (defScope sInit) .none kVInit dcInit pmInit anInit cdInit ctInit), slInit⟩) (cInit : PySem.W.codeIn K cdInit "Box.__init__" = true) (kInit : PySem.W.keepIn K (.ref fInit) = true)
    (aRes : PySem.W.findIn K (.ref C) "resize" = some (some (.ref fRes))) (iRes : PySem.W.isFn K (.ref fRes) = true)
    (lRes : K.lookup fRes = some ⟨ocRes, odRes, .func (PySem.W.fnOf "resize" "Box.resize" (defArgs sRes) (defBody sRes) (defScope sRes) .none kVRes dcRes pmRes anRes cdRes ctRes), slRes⟩) (cRes : PySem.W.codeIn K cdRes "Box.resize" = true) (kRes : PySem.W.keepIn K (.ref fRes) = true)
    (aFits : PySem.W.findIn K (.ref C) "fits" = some (some (.ref fFits))) (iFits : PySem.W.isFn K (.ref fFits) = true)
    (lFits : K.lookup fFits = some ⟨ocFits, odFits, .func (PySem.W.fnOf "fits" "Box.fits" (defArgs sFits) (defBody sFits) (defScope sFits) .none kVFits dcFits pmFits anFits cdFits ctFits), slFits⟩) (cFits : PySem.W.codeIn K cdFits "Box.fits" = true) (kFits : PySem.W.keepIn K (.ref fFits) = true)
    (aWit : PySem.W.nsIn K mainGlobals "is_within" = some (some (.ref fWit)))
    (lWit : K.lookup fWit = some ⟨ocWit, odWit, .func (PySem.W.fnOf "is_within" "is_within" (defArgs sWithin) (defBody sWithin) (defScope sWithin) .none kVWit dcWit pmWit anWit cdWit ctWit), slWit⟩) (cWit : PySem.W.codeIn K cdWit "is_within" = true) (kWit : PySem.W.keepIn K (.ref fWit) = true)
    (aBox : PySem.W.nsIn K mainGlobals "call_box" = some (some (.ref fBox)))
    (lBox : K.lookup fBox = some ⟨ocBox, odBox, .func (PySem.W.fnOf "call_box" "call_box" (defArgs sBox) (defBody sBox) (defScope sBox) .none kVBox dcBox pmBox anBox cdBox ctBox), slBox⟩) (cBox : PySem.W.codeIn K cdBox "call_box" = true) (kBox : PySem.W.keepIn K (.ref fBox) = true)
    (aHeap : PySem.W.nsIn K mainGlobals "call_heap" = some (some (.ref fHeap)))
    (lHeap : K.lookup fHeap = some ⟨ocHeap, odHeap, .func (PySem.W.fnOf "call_heap" "call_heap" (defArgs sHeap) (defBody sHeap) (defScope sHeap) .none kVHeap dcHeap pmHeap anHeap cdHeap ctHeap), slHeap⟩) (cHeap : PySem.W.codeIn K cdHeap "call_heap" = true) (kHeap : PySem.W.keepIn K (.ref fHeap) = true)
    (aNth : PySem.W.nsIn K mainGlobals "call_nth" = some (some (.ref fNth)))
    (lNth : K.lookup fNth = some ⟨ocNth, odNth, .func (PySem.W.fnOf "call_nth" "call_nth" (defArgs sNth) (defBody sNth) (defScope sNth) .none kVNth dcNth pmNth anNth cdNth ctNth), slNth⟩) (cNth : PySem.W.codeIn K cdNth "call_nth" = true) (kNth : PySem.W.keepIn K (.ref fNth) = true)
    (aRank : PySem.W.nsIn K mainGlobals "call_rank" = some (some (.ref fRank)))
    (lRank : K.lookup fRank = some ⟨ocRank, odRank, .func (PySem.W.fnOf "call_rank" "call_rank" (defArgs sRank) (defBody sRank) (defScope sRank) .none kVRank dcRank pmRank anRank cdRank ctRank), slRank⟩) (cRank : PySem.W.codeIn K cdRank "call_rank" = true) (kRank : PySem.W.keepIn K (.ref fRank) = true)
    (aMove : PySem.W.nsIn K mainGlobals "move_cube" = some (some (.ref fMove)))
    (lMove : K.lookup fMove = some ⟨ocMove, odMove, .func (PySem.W.fnOf "move_cube" "move_cube" (defArgs sMove) (defBody sMove) (defScope sMove) .none kVMove dcMove pmMove anMove cdMove ctMove), slMove⟩) (cMove : PySem.W.codeIn K cdMove "move_cube" = true) (kMove : PySem.W.keepIn K (.ref fMove) = true)
    (aPut : PySem.W.nsIn K mainGlobals "call_put" = some (some (.ref fPut)))
    (lPut : K.lookup fPut = some ⟨ocPut, odPut, .func (PySem.W.fnOf "call_put" "call_put" (defArgs sPut) (defBody sPut) (defScope sPut) .none kVPut dcPut pmPut anPut cdPut ctPut), slPut⟩) (cPut : PySem.W.codeIn K cdPut "call_put" = true) (kPut : PySem.W.keepIn K (.ref fPut) = true)
    (aTake : PySem.W.nsIn K mainGlobals "call_take" = some (some (.ref fTake)))
    (lTake : K.lookup fTake = some ⟨ocTake, odTake, .func (PySem.W.fnOf "call_take" "call_take" (defArgs sTake) (defBody sTake) (defScope sTake) .none kVTake dcTake pmTake anTake cdTake ctTake), slTake⟩) (cTake : PySem.W.codeIn K cdTake "call_take" = true) (kTake : PySem.W.keepIn K (.ref fTake) = true)
    (aPl : PySem.W.nsIn K mainGlobals "places_to_move" = some (some (.ref fPl)))
    (lPl : K.lookup fPl = some ⟨ocPl, odPl, .func (PySem.W.fnOf "places_to_move" "places_to_move" (defArgs sPlaces) (defBody sPlaces) (defScope sPlaces) .none kVPl dcPl pmPl anPl cdPl ctPl), slPl⟩) (cPl : PySem.W.codeIn K cdPl "places_to_move" = true) (kPl : PySem.W.keepIn K (.ref fPl) = true)
    (aCor : PySem.W.nsIn K mainGlobals "call_corners" = some (some (.ref fCor)))
    (lCor : K.lookup fCor = some ⟨ocCor, odCor, .func (PySem.W.fnOf "call_corners" "call_corners" (defArgs sCorners) (defBody sCorners) (defScope sCorners) .none kVCor dcCor pmCor anCor cdCor ctCor), slCor⟩) (cCor : PySem.W.codeIn K cdCor "call_corners" = true) (kCor : PySem.W.keepIn K (.ref fCor) = true)
    (aVol : PySem.W.nsIn K mainGlobals "call_volume" = some (some (.ref fVol)))
    (lVol : K.lookup fVol = some ⟨ocVol, odVol, .func (PySem.W.fnOf "call_volume" "call_volume" (defArgs sVolume) (defBody sVolume) (defScope sVolume) .none kVVol dcVol pmVol anVol cdVol ctVol), slVol⟩) (cVol : PySem.W.codeIn K cdVol "call_volume" = true) (kVol : PySem.W.keepIn K (.ref fVol) = true)
    (aApa : PySem.W.nsIn K mainGlobals "call_apart" = some (some (.ref fApa)))
    (lApa : K.lookup fApa = some ⟨ocApa, odApa, .func (PySem.W.fnOf "call_apart" "call_apart" (defArgs sApart) (defBody sApart) (defScope sApart) .none kVApa dcApa pmApa anApa cdApa ctApa), slApa⟩) (cApa : PySem.W.codeIn K cdApa "call_apart" = true) (kApa : PySem.W.keepIn K (.ref fApa) = true)
    (aOve : PySem.W.nsIn K mainGlobals "call_over" = some (some (.ref fOve)))
    (lOve : K.lookup fOve = some ⟨ocOve, odOve, .func (PySem.W.fnOf "call_over" "call_over" (defArgs sOver) (defBody sOver) (defScope sOver) .none kVOve dcOve pmOve anOve cdOve ctOve), slOve⟩) (cOve : PySem.W.codeIn K cdOve "call_over" = true) (kOve : PySem.W.keepIn K (.ref fOve) = true)
    (aUnd : PySem.W.nsIn K mainGlobals "call_under" = some (some (.ref fUnd)))
    (lUnd : K.lookup fUnd = some ⟨ocUnd, odUnd, .func (PySem.W.fnOf "call_under" "call_under" (defArgs sUnder) (defBody sUnder) (defScope sUnder) .none kVUnd dcUnd pmUnd anUnd cdUnd ctUnd), slUnd⟩) (cUnd : PySem.W.codeIn K cdUnd "call_under" = true) (kUnd : PySem.W.keepIn K (.ref fUnd) = true)
    (aCPa : PySem.W.nsIn K mainGlobals "call_path" = some (some (.ref fCPa)))
    (lCPa : K.lookup fCPa = some ⟨ocCPa, odCPa, .func (PySem.W.fnOf "call_path" "call_path" (defArgs sCPath) (defBody sCPath) (defScope sCPath) .none kVCPa dcCPa pmCPa anCPa cdCPa ctCPa), slCPa⟩) (cCPa : PySem.W.codeIn K cdCPa "call_path" = true) (kCPa : PySem.W.keepIn K (.ref fCPa) = true)
    (aTur : PySem.W.nsIn K mainGlobals "call_turn" = some (some (.ref fTur)))
    (lTur : K.lookup fTur = some ⟨ocTur, odTur, .func (PySem.W.fnOf "call_turn" "call_turn" (defArgs sTurn) (defBody sTurn) (defScope sTurn) .none kVTur dcTur pmTur anTur cdTur ctTur), slTur⟩) (cTur : PySem.W.codeIn K cdTur "call_turn" = true) (kTur : PySem.W.keepIn K (.ref fTur) = true)
    (aFil : PySem.W.nsIn K mainGlobals "call_fill" = some (some (.ref fFil)))
    (lFil : K.lookup fFil = some ⟨ocFil, odFil, .func (PySem.W.fnOf "call_fill" "call_fill" (defArgs sFill) (defBody sFill) (defScope sFill) .none kVFil dcFil pmFil anFil cdFil ctFil), slFil⟩) (cFil : PySem.W.codeIn K cdFil "call_fill" = true) (kFil : PySem.W.keepIn K (.ref fFil) = true)
    (aLay : PySem.W.nsIn K mainGlobals "call_lay" = some (some (.ref fLay)))
    (lLay : K.lookup fLay = some ⟨ocLay, odLay, .func (PySem.W.fnOf "call_lay" "call_lay" (defArgs sLay) (defBody sLay) (defScope sLay) .none kVLay dcLay pmLay anLay cdLay ctLay), slLay⟩) (cLay : PySem.W.codeIn K cdLay "call_lay" = true) (kLay : PySem.W.keepIn K (.ref fLay) = true)
    (aAT : PySem.W.nsIn K mainGlobals "alike_turned" = some (some (.ref fAT)))
    (lAT : K.lookup fAT = some ⟨ocAT, odAT, .func (PySem.W.fnOf "alike_turned" "alike_turned" (defArgs sAT) (defBody sAT) (defScope sAT) .none kVAT dcAT pmAT anAT cdAT ctAT), slAT⟩) (cAT : PySem.W.codeIn K cdAT "alike_turned" = true) (kAT : PySem.W.keepIn K (.ref fAT) = true)
    (aAF : PySem.W.nsIn K mainGlobals "alike_filled_up" = some (some (.ref fAF)))
    (lAF : K.lookup fAF = some ⟨ocAF, odAF, .func (PySem.W.fnOf "alike_filled_up" "alike_filled_up" (defArgs sAF) (defBody sAF) (defScope sAF) .none kVAF dcAF pmAF anAF cdAF ctAF), slAF⟩) (cAF : PySem.W.codeIn K cdAF "alike_filled_up" = true) (kAF : PySem.W.keepIn K (.ref fAF) = true)
    (aAL : PySem.W.nsIn K mainGlobals "alike_laid" = some (some (.ref fAL)))
    (lAL : K.lookup fAL = some ⟨ocAL, odAL, .func (PySem.W.fnOf "alike_laid" "alike_laid" (defArgs sAL) (defBody sAL) (defScope sAL) .none kVAL dcAL pmAL anAL cdAL ctAL), slAL⟩) (cAL : PySem.W.codeIn K cdAL "alike_laid" = true) (kAL : PySem.W.keepIn K (.ref fAL) = true)
    (aAli : PySem.W.nsIn K mainGlobals "call_alike" = some (some (.ref fAli)))
    (lAli : K.lookup fAli = some ⟨ocAli, odAli, .func (PySem.W.fnOf "call_alike" "call_alike" (defArgs sAlike) (defBody sAlike) (defScope sAlike) .none kVAli dcAli pmAli anAli cdAli ctAli), slAli⟩) (cAli : PySem.W.codeIn K cdAli "call_alike" = true) (kAli : PySem.W.keepIn K (.ref fAli) = true)
    (aFst : PySem.W.nsIn K mainGlobals "first_of_call" = some (some (.ref fFst)))
    (lFst : K.lookup fFst = some ⟨ocFst, odFst, .func (PySem.W.fnOf "first_of_call" "first_of_call" (defArgs sFirst) (defBody sFirst) (defScope sFirst) .none kVFst dcFst pmFst anFst cdFst ctFst), slFst⟩) (cFst : PySem.W.codeIn K cdFst "first_of_call" = true) (kFst : PySem.W.keepIn K (.ref fFst) = true)
    (aEnd : PySem.W.nsIn K mainGlobals "end_of_call" = some (some (.ref fEnd)))
    (lEnd : K.lookup fEnd = some ⟨ocEnd, odEnd, .func (PySem.W.fnOf "end_of_call" "end_of_call" (defArgs sEnd) (defBody sEnd) (defScope sEnd) .none kVEnd dcEnd pmEnd anEnd cdEnd ctEnd), slEnd⟩) (cEnd : PySem.W.codeIn K cdEnd "end_of_call" = true) (kEnd : PySem.W.keepIn K (.ref fEnd) = true)
    (aAns : PySem.W.nsIn K mainGlobals "answers" = some (some (.ref fAns)))
    (lAns : K.lookup fAns = some ⟨ocAns, odAns, .func (PySem.W.fnOf "answers" "answers" (defArgs sAns) (defBody sAns) (defScope sAns) .none kVAns dcAns pmAns anAns cdAns ctAns), slAns⟩) (cAns : PySem.W.codeIn K cdAns "answers" = true) (kAns : PySem.W.keepIn K (.ref fAns) = true)
    (pg : PySem.W.plainGet K C Str.empty = true) (hd : PySem.W.hasDictIn K C = true) (po : PySem.W.plainOver K C = true) (sa : PySem.W.findIn K (.ref C) "__setattr__" = some (some (.builtin "object.__setattr__"))) (mk : PySem.W.makesIn K C = true) (kc : PySem.W.keepIn K (.ref C) = true)
    (n_a : PySem.W.findIn K (.ref C) "a" = some none)
    (n_b : PySem.W.findIn K (.ref C) "b" = some none)
    (n_c : PySem.W.findIn K (.ref C) "c" = some none)
    (n_heaps : PySem.W.findIn K (.ref C) "heaps" = some none)
    (n_heights : PySem.W.findIn K (.ref C) "heights" = some none)
    (z_len : PySem.W.nsIn K mainGlobals "len" = some none)
    (z_range : PySem.W.nsIn K mainGlobals "range" = some none)
    (z_list : PySem.W.nsIn K mainGlobals "list" = some none)
    (z_sum : PySem.W.nsIn K mainGlobals "sum" = some none)
    (z_min : PySem.W.nsIn K mainGlobals "min" = some none)
    (z_max : PySem.W.nsIn K mainGlobals "max" = some none)
    (z_abs : PySem.W.nsIn K mainGlobals "abs" = some none)
    (z_zip : PySem.W.nsIn K mainGlobals "zip" = some none)
    (z_enumerate : PySem.W.nsIn K mainGlobals "enumerate" = some none)
    (z_reversed : PySem.W.nsIn K mainGlobals "reversed" = some none)
    (v_nat : PySem.W.nsIn K mainGlobals "NOT_AS_TOLD" = some (some (.int (-1) t_nat)))
    (v_nsh : PySem.W.nsIn K mainGlobals "NO_SUCH_HEAP" = some (some (.int (-2) t_nsh)))
    (v_mnb : PySem.W.nsIn K mainGlobals "MAY_NOT_BE" = some (some (.int (-6) t_mnb)))
    (v_mr : PySem.W.nsIn K mainGlobals "MOST_ROWS" = some (some (.int (3) t_mr)))
    (v_mc : PySem.W.nsIn K mainGlobals "MOST_COLUMNS" = some (some (.int (3) t_mc)))
    (v_mh : PySem.W.nsIn K mainGlobals "MOST_HIGH" = some (some (.int (4) t_mh)))
    (aR_ : PySem.W.nsIn K mainGlobals "ROW_CALLS" = some (some (.ref aR))) (lR : K.lookup aR = some ⟨.type "tuple", odR, .seq itR nR, slR⟩) (xR : rowI itR.toList = some [V.int 1, V.int 8, V.int 9, V.int 10]) (yR : itR.size ≤ 16777216)
    (aW_ : PySem.W.nsIn K mainGlobals "WIDTHS" = some (some (.ref aW))) (lW : K.lookup aW = some ⟨.type "dict", none, .dict esW nW, #[]⟩) (xW : intD esW.toList = some [(0, V.int 3), (2, V.int 1), (3, V.int 0), (4, V.int 2), (5, V.int 2), (6, V.int 0), (7, V.int 1), (11, V.int 1), (12, V.int 0), (13, V.int 0), (14, V.int 0), (15, V.int 0)])
    (aA_ : PySem.W.nsIn K mainGlobals "ACTIONS" = some (some (.ref aA))) (lA : K.lookup aA = some ⟨.type "dict", none, .dict esA nA, #[]⟩) (xA : intD esA.toList = some [(0, V.ref fBox), (1, V.ref fHeap), (2, V.ref fNth), (3, V.ref fRank), (4, V.ref fPut), (5, V.ref fTake), (6, V.ref fCor), (7, V.ref fVol), (8, V.ref fApa), (9, V.ref fOve), (10, V.ref fUnd), (11, V.ref fCPa), (12, V.ref fTur), (13, V.ref fFil), (14, V.ref fLay), (15, V.ref fAli)]) :
    ∃ fd : FuncData, (∀ (s : Shared) (us : List Value), us.length = (["calls"] : List Str).length → BindsTo s fd ⟨us, []⟩ ((["calls"] : List Str).zip us)) ∧ ∀ base : Heap, K.In base → base.Ns mainGlobals mg → FnOk P w K mg base CX0 9 fa fd ["calls"] (spAns K) := by
  have e := hfa.symm.trans (PySem.W.mg_of X G aAns)
  cases e
  have T : Txt K mg C := ⟨⟨pg, hd, po, sa⟩, n_a, n_b, n_c, n_heaps, n_heights, PySem.W.mg_of X G aC, PySem.W.mg_none_of X G z_len, PySem.W.mg_none_of X G z_range, PySem.W.mg_none_of X G z_list, PySem.W.mg_none_of X G z_sum, PySem.W.mg_none_of X G z_min, PySem.W.mg_none_of X G z_max, PySem.W.mg_none_of X G z_abs, PySem.W.mg_none_of X G z_zip, PySem.W.mg_none_of X G z_enumerate, PySem.W.mg_none_of X G z_reversed⟩
  have N : Nums mg := ⟨⟨_, PySem.W.mg_of X G v_nat⟩, ⟨_, PySem.W.mg_of X G v_nsh⟩, ⟨_, PySem.W.mg_of X G v_mnb⟩, ⟨_, PySem.W.mg_of X G v_mr⟩, ⟨_, PySem.W.mg_of X G v_mc⟩, ⟨_, PySem.W.mg_of X G v_mh⟩⟩
  have FLim := fun_mk (st := sLim) lLim cLim kLim
  have bLim := FLim.binds (ps := ["heights", "place", "b", "c"]) fun _ _ _ _ _ _ us hl => match us, hl with | [_, _, _, _], _ => rfl
  have qLim : Cal K mg "limit_at" fLim _ ["heights", "place", "b", "c"] := ⟨PySem.W.mg_of X G aLim, kLim, bLim⟩
  have FIsH := fun_mk (st := sIsH) lIsH cIsH kIsH
  have bIsH := FIsH.binds (ps := ["heights", "a", "b", "c"]) fun _ _ _ _ _ _ us hl => match us, hl with | [_, _, _, _], _ => rfl
  have qIsH : Cal K mg "is_heap" fIsH _ ["heights", "a", "b", "c"] := ⟨PySem.W.mg_of X G aIsH, kIsH, bIsH⟩
  have FHin := fun_mk (st := sHin) lHin cHin kHin
  have bHin := FHin.binds (ps := ["a", "b", "c"]) fun _ _ _ _ _ _ us hl => match us, hl with | [_, _, _], _ => rfl
  have qHin : Cal K mg "heaps_in" fHin _ ["a", "b", "c"] := ⟨PySem.W.mg_of X G aHin, kHin, bHin⟩
  have FMov := fun_mk (st := sMov) lMov cMov kMov
  have bMov := FMov.binds (ps := ["heights", "place", "step"]) fun _ _ _ _ _ _ us hl => match us, hl with | [_, _, _], _ => rfl
  have qMov : Cal K mg "moved" fMov _ ["heights", "place", "step"] := ⟨PySem.W.mg_of X G aMov, kMov, bMov⟩
  have FCf := fun_mk (st := sCf) lCf cCf kCf
  have bCf := FCf.binds (ps := ["heights", "row", "b", "k"]) fun _ _ _ _ _ _ us hl => match us, hl with | [_, _, _, _], _ => rfl
  have qCf : Cal K mg "columns_filled" fCf _ ["heights", "row", "b", "k"] := ⟨PySem.W.mg_of X G aCf, kCf, bCf⟩
  have FPath := fun_mk (st := sPath) lPath cPath kPath
  have bPath := FPath.binds (ps := ["heights", "a", "b", "k"]) fun _ _ _ _ _ _ us hl => match us, hl with | [_, _, _, _], _ => rfl
  have qPath : Cal K mg "path_of" fPath _ ["heights", "a", "b", "k"] := ⟨PySem.W.mg_of X G aPath, kPath, bPath⟩
  have FCol := fun_mk (st := sCol) lCol cCol kCol
  have bCol := FCol.binds (ps := ["heights", "column", "b"]) fun _ _ _ _ _ _ us hl => match us, hl with | [_, _, _], _ => rfl
  have qCol : Cal K mg "column_of" fCol _ ["heights", "column", "b"] := ⟨PySem.W.mg_of X G aCol, kCol, bCol⟩
  have FTrd := fun_mk (st := sTurned) lTrd cTrd kTrd
  have bTrd := FTrd.binds (ps := ["heights", "b"]) fun _ _ _ _ _ _ us hl => match us, hl with | [_, _], _ => rfl
  have qTrd : Cal K mg "turned" fTrd _ ["heights", "b"] := ⟨PySem.W.mg_of X G aTrd, kTrd, bTrd⟩
  have FFld := fun_mk (st := sFilled) lFld cFld kFld
  have bFld := FFld.binds (ps := ["heights", "c"]) fun _ _ _ _ _ _ us hl => match us, hl with | [_, _], _ => rfl
  have qFld : Cal K mg "filled_up" fFld _ ["heights", "c"] := ⟨PySem.W.mg_of X G aFld, kFld, bFld⟩
  have FLad := fun_mk (st := sLaid) lLad cLad kLad
  have bLad := FLad.binds (ps := ["heights", "b", "c"]) fun _ _ _ _ _ _ us hl => match us, hl with | [_, _, _], _ => rfl
  have qLad : Cal K mg "laid" fLad _ ["heights", "b", "c"] := ⟨PySem.W.mg_of X G aLad, kLad, bLad⟩
  have FInit := fun_mk (st := sInit) lInit cInit kInit
  have bInit := FInit.binds (ps := ["self"]) fun _ _ _ _ _ _ us hl => match us, hl with | [_], _ => rfl
  have FRes := fun_mk (st := sRes) lRes cRes kRes
  have bRes := FRes.binds (ps := ["self", "a", "b", "c", "heights"]) fun _ _ _ _ _ _ us hl => match us, hl with | [_, _, _, _, _], _ => rfl
  have FFits := fun_mk (st := sFits) lFits cFits kFits
  have bFits := FFits.binds (ps := ["self", "heights"]) fun _ _ _ _ _ _ us hl => match us, hl with | [_, _], _ => rfl
  have FWit := fun_mk (st := sWithin) lWit cWit kWit
  have bWit := FWit.binds (ps := ["number", "most"]) fun _ _ _ _ _ _ us hl => match us, hl with | [_, _], _ => rfl
  have qWit : Cal K mg "is_within" fWit _ ["number", "most"] := ⟨PySem.W.mg_of X G aWit, kWit, bWit⟩
  have FBox := fun_mk (st := sBox) lBox cBox kBox
  have bBox := FBox.binds (ps := ["box", "numbers"]) fun _ _ _ _ _ _ us hl => match us, hl with | [_, _], _ => rfl
  have qBox : Cal K mg "call_box" fBox _ ["box", "numbers"] := ⟨PySem.W.mg_of X G aBox, kBox, bBox⟩
  have FHeap := fun_mk (st := sHeap) lHeap cHeap kHeap
  have bHeap := FHeap.binds (ps := ["box", "numbers"]) fun _ _ _ _ _ _ us hl => match us, hl with | [_, _], _ => rfl
  have qHeap : Cal K mg "call_heap" fHeap _ ["box", "numbers"] := ⟨PySem.W.mg_of X G aHeap, kHeap, bHeap⟩
  have FNth := fun_mk (st := sNth) lNth cNth kNth
  have bNth := FNth.binds (ps := ["box", "numbers"]) fun _ _ _ _ _ _ us hl => match us, hl with | [_, _], _ => rfl
  have qNth : Cal K mg "call_nth" fNth _ ["box", "numbers"] := ⟨PySem.W.mg_of X G aNth, kNth, bNth⟩
  have FRank := fun_mk (st := sRank) lRank cRank kRank
  have bRank := FRank.binds (ps := ["box", "numbers"]) fun _ _ _ _ _ _ us hl => match us, hl with | [_, _], _ => rfl
  have qRank : Cal K mg "call_rank" fRank _ ["box", "numbers"] := ⟨PySem.W.mg_of X G aRank, kRank, bRank⟩
  have FMove := fun_mk (st := sMove) lMove cMove kMove
  have bMove := FMove.binds (ps := ["box", "numbers", "step"]) fun _ _ _ _ _ _ us hl => match us, hl with | [_, _, _], _ => rfl
  have qMove : Cal K mg "move_cube" fMove _ ["box", "numbers", "step"] := ⟨PySem.W.mg_of X G aMove, kMove, bMove⟩
  have FPut := fun_mk (st := sPut) lPut cPut kPut
  have bPut := FPut.binds (ps := ["box", "numbers"]) fun _ _ _ _ _ _ us hl => match us, hl with | [_, _], _ => rfl
  have qPut : Cal K mg "call_put" fPut _ ["box", "numbers"] := ⟨PySem.W.mg_of X G aPut, kPut, bPut⟩
  have FTake := fun_mk (st := sTake) lTake cTake kTake
  have bTake := FTake.binds (ps := ["box", "numbers"]) fun _ _ _ _ _ _ us hl => match us, hl with | [_, _], _ => rfl
  have qTake : Cal K mg "call_take" fTake _ ["box", "numbers"] := ⟨PySem.W.mg_of X G aTake, kTake, bTake⟩
  have FPl := fun_mk (st := sPlaces) lPl cPl kPl
  have bPl := FPl.binds (ps := ["box", "step"]) fun _ _ _ _ _ _ us hl => match us, hl with | [_, _], _ => rfl
  have qPl : Cal K mg "places_to_move" fPl _ ["box", "step"] := ⟨PySem.W.mg_of X G aPl, kPl, bPl⟩
  have FCor := fun_mk (st := sCorners) lCor cCor kCor
  have bCor := FCor.binds (ps := ["box", "numbers"]) fun _ _ _ _ _ _ us hl => match us, hl with | [_, _], _ => rfl
  have qCor : Cal K mg "call_corners" fCor _ ["box", "numbers"] := ⟨PySem.W.mg_of X G aCor, kCor, bCor⟩
  have FVol := fun_mk (st := sVolume) lVol cVol kVol
  have bVol := FVol.binds (ps := ["box", "numbers"]) fun _ _ _ _ _ _ us hl => match us, hl with | [_, _], _ => rfl
  have qVol : Cal K mg "call_volume" fVol _ ["box", "numbers"] := ⟨PySem.W.mg_of X G aVol, kVol, bVol⟩
  have FApa := fun_mk (st := sApart) lApa cApa kApa
  have bApa := FApa.binds (ps := ["box", "numbers"]) fun _ _ _ _ _ _ us hl => match us, hl with | [_, _], _ => rfl
  have qApa : Cal K mg "call_apart" fApa _ ["box", "numbers"] := ⟨PySem.W.mg_of X G aApa, kApa, bApa⟩
  have FOve := fun_mk (st := sOver) lOve cOve kOve
  have bOve := FOve.binds (ps := ["box", "numbers"]) fun _ _ _ _ _ _ us hl => match us, hl with | [_, _], _ => rfl
  have qOve : Cal K mg "call_over" fOve _ ["box", "numbers"] := ⟨PySem.W.mg_of X G aOve, kOve, bOve⟩
  have FUnd := fun_mk (st := sUnder) lUnd cUnd kUnd
  have bUnd := FUnd.binds (ps := ["box", "numbers"]) fun _ _ _ _ _ _ us hl => match us, hl with | [_, _], _ => rfl
  have qUnd : Cal K mg "call_under" fUnd _ ["box", "numbers"] := ⟨PySem.W.mg_of X G aUnd, kUnd, bUnd⟩
  have FCPa := fun_mk (st := sCPath) lCPa cCPa kCPa
  have bCPa := FCPa.binds (ps := ["box", "numbers"]) fun _ _ _ _ _ _ us hl => match us, hl with | [_, _], _ => rfl
  have qCPa : Cal K mg "call_path" fCPa _ ["box", "numbers"] := ⟨PySem.W.mg_of X G aCPa, kCPa, bCPa⟩
  have FTur := fun_mk (st := sTurn) lTur cTur kTur
  have bTur := FTur.binds (ps := ["box", "numbers"]) fun _ _ _ _ _ _ us hl => match us, hl with | [_, _], _ => rfl
  have qTur : Cal K mg "call_turn" fTur _ ["box", "numbers"] := ⟨PySem.W.mg_of X G aTur, kTur, bTur⟩
  have FFil := fun_mk (st := sFill) lFil cFil kFil
  have bFil := FFil.binds (ps := ["box", "numbers"]) fun _ _ _ _ _ _ us hl => match us, hl with | [_, _], _ => rfl
  have qFil : Cal K mg "call_fill" fFil _ ["box", "numbers"] := ⟨PySem.W.mg_of X G aFil, kFil, bFil⟩
  have FLay := fun_mk (st := sLay) lLay cLay kLay
  have bLay := FLay.binds (ps := ["box", "numbers"]) fun _ _ _ _ _ _ us hl => match us, hl with | [_, _], _ => rfl
  have qLay : Cal K mg "call_lay" fLay _ ["box", "numbers"] := ⟨PySem.W.mg_of X G aLay, kLay, bLay⟩
  have FAT := fun_mk (st := sAT) lAT cAT kAT
  have bAT := FAT.binds (ps := ["box"]) fun _ _ _ _ _ _ us hl => match us, hl with | [_], _ => rfl
  have qAT : Cal K mg "alike_turned" fAT _ ["box"] := ⟨PySem.W.mg_of X G aAT, kAT, bAT⟩
  have FAF := fun_mk (st := sAF) lAF cAF kAF
  have bAF := FAF.binds (ps := ["box"]) fun _ _ _ _ _ _ us hl => match us, hl with | [_], _ => rfl
  have qAF : Cal K mg "alike_filled_up" fAF _ ["box"] := ⟨PySem.W.mg_of X G aAF, kAF, bAF⟩
  have FAL := fun_mk (st := sAL) lAL cAL kAL
  have bAL := FAL.binds (ps := ["box"]) fun _ _ _ _ _ _ us hl => match us, hl with | [_], _ => rfl
  have qAL : Cal K mg "alike_laid" fAL _ ["box"] := ⟨PySem.W.mg_of X G aAL, kAL, bAL⟩
  have FAli := fun_mk (st := sAlike) lAli cAli kAli
  have bAli := FAli.binds (ps := ["box", "numbers"]) fun _ _ _ _ _ _ us hl => match us, hl with | [_, _], _ => rfl
  have qAli : Cal K mg "call_alike" fAli _ ["box", "numbers"] := ⟨PySem.W.mg_of X G aAli, kAli, bAli⟩
  have FFst := fun_mk (st := sFirst) lFst cFst kFst
  have bFst := FFst.binds (ps := ["calls", "at"]) fun _ _ _ _ _ _ us hl => match us, hl with | [_, _], _ => rfl
  have qFst : Cal K mg "first_of_call" fFst _ ["calls", "at"] := ⟨PySem.W.mg_of X G aFst, kFst, bFst⟩
  have FEnd := fun_mk (st := sEnd) lEnd cEnd kEnd
  have bEnd := FEnd.binds (ps := ["calls", "at"]) fun _ _ _ _ _ _ us hl => match us, hl with | [_, _], _ => rfl
  have qEnd : Cal K mg "end_of_call" fEnd _ ["calls", "at"] := ⟨PySem.W.mg_of X G aEnd, kEnd, bEnd⟩
  have FAns := fun_mk (st := sAns) lAns cAns kAns
  refine ⟨PySem.W.fnOf "answers" "answers" (defArgs sAns) (defBody sAns) (defScope sAns) .none kVAns dcAns pmAns anAns cdAns ctAns, fun s us hu => match us, hu with | [_], _ => .of_eq rfl, fun base hK hG => ?_⟩
  have GLim : FnOk P w K mg base CX0 1 fLim _ _ (spLim K) := ok_lim FLim T.min
  have GIsH : FnOk P w K mg base CX0 2 fIsH _ _ (spIsH K) := ok_isH FIsH T.len T.range GLim qLim
  have GHin : FnOk P w K mg base CX0 2 fHin _ _ spHin := ok_hin FHin T.range GLim qLim
  have GMov : FnOk P w K mg base CX0 1 fMov _ _ (spMov K) := ok_mov FMov T
  have GInit : FnOk P w K mg base CX0 3 fInit _ _ (spInit C) := ok_init FInit T GHin qHin
  have GRes : FnOk P w K mg base CX0 3 fRes _ _ (spRes C) := ok_res FRes T GHin qHin
  have GFits : FnOk P w K mg base CX0 3 fFits _ _ (spFits K C) := ok_fits FFits T GIsH qIsH
  have GWit : FnOk P w K mg base CX0 1 fWit _ _ spWithin := ok_within FWit
  have GBox : FnOk P w K mg base CX0 4 fBox _ _ (spAct K C 0) := ok_box FBox T N GWit qWit GRes ⟨aRes, iRes, kRes⟩ bRes
  have GHeap : FnOk P w K mg base CX0 4 fHeap _ _ (spAct K C 1) := ok_heap FHeap T N GFits ⟨aFits, iFits, kFits⟩ bFits
  have GNth : FnOk P w K mg base CX0 1 fNth _ _ (spAct K C 2) := ok_nth FNth T N
  have GRank : FnOk P w K mg base CX0 1 fRank _ _ (spAct K C 3) := ok_rank FRank T
  have GMove : FnOk P w K mg base CX0 4 fMove _ _ (spMove K C) := ok_move FMove T N GWit qWit GFits ⟨aFits, iFits, kFits⟩ bFits GMov qMov
  have GPut : FnOk P w K mg base CX0 5 fPut _ _ (spAct K C 4) := ok_put FPut GMove qMove
  have GTake : FnOk P w K mg base CX0 5 fTake _ _ (spAct K C 5) := ok_take FTake GMove qMove
  have GPl : FnOk P w K mg base CX0 4 fPl _ _ (spPl K C) := ok_places FPl T GFits ⟨aFits, iFits, kFits⟩ bFits GMov qMov
  have GCor : FnOk P w K mg base CX0 5 fCor _ _ (spAct K C 6) := ok_corners FCor GPl qPl
  have GVol : FnOk P w K mg base CX0 1 fVol _ _ (spAct K C 7) := ok_volume FVol T
  have GCf : FnOk P w K mg base CX0 1 fCf _ _ (spCf K) := ok_cf FCf T
  have GPath : FnOk P w K mg base CX0 2 fPath _ _ (spPath K) := ok_path FPath T GCf qCf
  have GCol : FnOk P w K mg base CX0 1 fCol _ _ (spCol K) := ok_col FCol T
  have GTrd : FnOk P w K mg base CX0 2 fTrd _ _ (spTurned K) := ok_turned FTrd T GCol qCol
  have GFld : FnOk P w K mg base CX0 1 fFld _ _ (spFilled K) := ok_filled FFld T
  have GLad : FnOk P w K mg base CX0 2 fLad _ _ (spLaid K) := ok_laid FLad T GCol qCol
  have GApa : FnOk P w K mg base CX0 4 fApa _ _ (spAct K C 8) := ok_apart FApa T N GFits ⟨aFits, iFits, kFits⟩ bFits
  have GOve : FnOk P w K mg base CX0 4 fOve _ _ (spAct K C 9) := ok_over FOve T N GFits ⟨aFits, iFits, kFits⟩ bFits
  have GUnd : FnOk P w K mg base CX0 4 fUnd _ _ (spAct K C 10) := ok_under FUnd T N GFits ⟨aFits, iFits, kFits⟩ bFits
  have GCPa : FnOk P w K mg base CX0 3 fCPa _ _ (spAct K C 11) := ok_cpath FCPa T N GWit qWit GPath qPath
  have GTur : FnOk P w K mg base CX0 4 fTur _ _ (spAct K C 12) := ok_turn FTur T GRes ⟨aRes, iRes, kRes⟩ bRes GTrd qTrd
  have GFil : FnOk P w K mg base CX0 2 fFil _ _ (spAct K C 13) := ok_fill FFil T GFld qFld
  have GLay : FnOk P w K mg base CX0 4 fLay _ _ (spAct K C 14) := ok_lay FLay T N GRes ⟨aRes, iRes, kRes⟩ bRes GLad qLad
  have GAT : FnOk P w K mg base CX0 3 fAT _ _ (spCnt C alikeT) := ok_at FAT T GTrd qTrd
  have GAF : FnOk P w K mg base CX0 2 fAF _ _ (spCnt C alikeF) := ok_af FAF T GFld qFld
  have GAL : FnOk P w K mg base CX0 3 fAL _ _ (spCnt C alikeL) := ok_al FAL T GLad qLad
  have GAli : FnOk P w K mg base CX0 4 fAli _ _ (spAct K C 15) := ok_alike FAli GAT qAT GAF qAF GAL qAL
  have B : Tabs P w K mg base C 8 aR aW aA [V.int 1, V.int 8, V.int 9, V.int 10] [(0, V.int 3), (2, V.int 1), (3, V.int 0), (4, V.int 2), (5, V.int 2), (6, V.int 0), (7, V.int 1), (11, V.int 1), (12, V.int 0), (13, V.int 0), (14, V.int 0), (15, V.int 0)] [(0, V.ref fBox), (1, V.ref fHeap), (2, V.ref fNth), (3, V.ref fRank), (4, V.ref fPut), (5, V.ref fTake), (6, V.ref fCor), (7, V.ref fVol), (8, V.ref fApa), (9, V.ref fOve), (10, V.ref fUnd), (11, V.ref fCPa), (12, V.ref fTur), (13, V.ref fFil), (14, V.ref fLay), (15, V.ref fAli)] :=
    { gR := PySem.W.mg_of X G aR_, gW := PySem.W.mg_of X G aW_, gA := PySem.W.mg_of X G aA_,
      tR := fun H => .inr ⟨_, itR, nR, lR, rfl, rfl, (by rw [sizeLine_eq]; exact yR), rowI_vals xR⟩,
      fl := rfl, tW := ⟨_, _, lW, xW⟩, tA := ⟨_, _, lA, xA⟩,
      row := fun p _ _ => tab_row p, wid := fun p n h nr => tab_wid h nr,
      act := fun n s h => by
        obtain ⟨m, hm, e⟩ := shape_num h
        obtain rfl : n = m := by omega
        match n, hm with
        | 0, _ => exact ⟨fBox, 4, rfl, by decide, ⟨⟨_, _, GBox, kBox, bBox⟩⟩⟩
        | 1, _ => exact ⟨fHeap, 4, rfl, by decide, ⟨⟨_, _, GHeap, kHeap, bHeap⟩⟩⟩
        | 2, _ => exact ⟨fNth, 1, rfl, by decide, ⟨⟨_, _, GNth, kNth, bNth⟩⟩⟩
        | 3, _ => exact ⟨fRank, 1, rfl, by decide, ⟨⟨_, _, GRank, kRank, bRank⟩⟩⟩
        | 4, _ => exact ⟨fPut, 5, rfl, by decide, ⟨⟨_, _, GPut, kPut, bPut⟩⟩⟩
        | 5, _ => exact ⟨fTake, 5, rfl, by decide, ⟨⟨_, _, GTake, kTake, bTake⟩⟩⟩
        | 6, _ => exact ⟨fCor, 5, rfl, by decide, ⟨⟨_, _, GCor, kCor, bCor⟩⟩⟩
        | 7, _ => exact ⟨fVol, 1, rfl, by decide, ⟨⟨_, _, GVol, kVol, bVol⟩⟩⟩
        | 8, _ => exact ⟨fApa, 4, rfl, by decide, ⟨⟨_, _, GApa, kApa, bApa⟩⟩⟩
        | 9, _ => exact ⟨fOve, 4, rfl, by decide, ⟨⟨_, _, GOve, kOve, bOve⟩⟩⟩
        | 10, _ => exact ⟨fUnd, 4, rfl, by decide, ⟨⟨_, _, GUnd, kUnd, bUnd⟩⟩⟩
        | 11, _ => exact ⟨fCPa, 3, rfl, by decide, ⟨⟨_, _, GCPa, kCPa, bCPa⟩⟩⟩
        | 12, _ => exact ⟨fTur, 4, rfl, by decide, ⟨⟨_, _, GTur, kTur, bTur⟩⟩⟩
        | 13, _ => exact ⟨fFil, 2, rfl, by decide, ⟨⟨_, _, GFil, kFil, bFil⟩⟩⟩
        | 14, _ => exact ⟨fLay, 4, rfl, by decide, ⟨⟨_, _, GLay, kLay, bLay⟩⟩⟩
        | 15, _ => exact ⟨fAli, 4, rfl, by decide, ⟨⟨_, _, GAli, kAli, bAli⟩⟩⟩
        | n + 16, hm => exact absurd hm (by omega) }
  exact ok_ans FAns T B ⟨mk, aInit, iInit, kc⟩ GInit bInit (ok_end FEnd B) qEnd (ok_first FFst B) qFst
end CH
open PySem PySem.W PyProof.Rows
set_option maxRecDepth 100000 in
set_option maxHeartbeats 0 in
theorem PySem.Challenge.cw_cubeheaps_s01_answers_holds : PySem.Challenge.rw_cubeheaps_s01_answers.Holds := by
  w_on; k_headS; (case hw => exact ⟨[.list [.int 3]], by decide +kernel, by decide +kernel⟩)
  k_fillS
  refine L2.walk_specK (r := PySem.Challenge.rw_cubeheaps_s01_answers) (k := 9) (CX := L2.CX0) (ps := ["calls"]) (sp := CH.spAns) (by decide +kernel) rfl rfl ⟨rfl, by decide, by decide⟩ (fun w h Y => PySem.W.kIn_of Y) ?F ?S (fun _ _ _ _ z => z)
  case F =>
    intro w mg fa h Y KX G hmg
    refine' CH.all_mk KX G hmg ?aC ?aLim ?lLim ?cLim ?kLim ?aIsH ?lIsH ?cIsH ?kIsH ?aHin ?lHin ?cHin ?kHin ?aMov ?lMov ?cMov ?kMov ?aCf ?lCf ?cCf ?kCf ?aPath ?lPath ?cPath ?kPath ?aCol ?lCol ?cCol ?kCol ?aTrd ?lTrd ?cTrd ?kTrd ?aFld ?lFld ?cFld ?kFld ?aLad ?lLad ?cLad ?kLad ?aInit ?iInit ?lInit ?cInit ?kInit ?aRes ?iRes ?lRes ?cRes ?kRes ?aFits ?iFits ?lFits ?cFits ?kFits ?aWit ?lWit ?cWit ?kWit ?aBox ?lBox ?cBox ?kBox ?aHeap ?lHeap ?cHeap ?kHeap ?aNth ?lNth ?cNth ?kNth ?aRank ?lRank ?cRank ?kRank ?aMove ?lMove ?cMove ?kMove ?aPut ?lPut ?cPut ?kPut ?aTake ?lTake ?cTake ?kTake ?aPl ?lPl ?cPl ?kPl ?aCor ?lCor ?cCor ?kCor ?aVol ?lVol ?cVol ?kVol ?aApa ?lApa ?cApa ?kApa ?aOve ?lOve ?cOve ?kOve ?aUnd ?lUnd ?cUnd ?kUnd ?aCPa ?lCPa ?cCPa ?kCPa ?aTur ?lTur ?cTur ?kTur ?aFil ?lFil ?cFil ?kFil ?aLay ?lLay ?cLay ?kLay ?aAT ?lAT ?cAT ?kAT ?aAF ?lAF ?cAF ?kAF ?aAL ?lAL ?cAL ?kAL ?aAli ?lAli ?cAli ?kAli ?aFst ?lFst ?cFst ?kFst ?aEnd ?lEnd ?cEnd ?kEnd ?aAns ?lAns ?cAns ?kAns ?pg ?hd ?po ?sa ?mk ?kc ?n_a ?n_b ?n_c ?n_heaps ?n_heights ?z_len ?z_range ?z_list ?z_sum ?z_min ?z_max ?z_abs ?z_zip ?z_enumerate ?z_reversed ?v_nat ?v_nsh ?v_mnb ?v_mr ?v_mc ?v_mh ?aR_ ?lR ?xR ?yR ?aW_ ?lW ?xW ?aA_ ?lA ?xA
    (case aC => k_is)
    (case aLim => k_is)
    (case lLim => k_is)
    (case cLim => k_is)
    (case kLim => k_is)
    (case aIsH => k_is)
    (case lIsH => k_is)
    (case cIsH => k_is)
    (case kIsH => k_is)
    (case aHin => k_is)
    (case lHin => k_is)
    (case cHin => k_is)
    (case kHin => k_is)
    (case aMov => k_is)
    (case lMov => k_is)
    (case cMov => k_is)
    (case kMov => k_is)
    (case aCf => k_is)
    (case lCf => k_is)
    (case cCf => k_is)
    (case kCf => k_is)
    (case aPath => k_is)
    (case lPath => k_is)
    (case cPath => k_is)
    (case kPath => k_is)
    (case aCol => k_is)
    (case lCol => k_is)
    (case cCol => k_is)
    (case kCol => k_is)
    (case aTrd => k_is)
    (case lTrd => k_is)
    (case cTrd => k_is)
    (case kTrd => k_is)
    (case aFld => k_is)
    (case lFld => k_is)
    (case cFld => k_is)
    (case kFld => k_is)
    (case aLad => k_is)
    (case lLad => k_is)
    (case cLad => k_is)
    (case kLad => k_is)
    (case aInit => k_is)
    (case iInit => k_is)
    (case lInit => k_is)
    (case cInit => k_is)
    (case kInit => k_is)
    (case aRes => k_is)
    (case iRes => k_is)
    (case lRes => k_is)
    (case cRes => k_is)
    (case kRes => k_is)
    (case aFits => k_is)
    (case iFits => k_is)
    (case lFits => k_is)
    (case cFits => k_is)
    (case kFits => k_is)
    (case aWit => k_is)
    (case lWit => k_is)
    (case cWit => k_is)
    (case kWit => k_is)
    (case aBox => k_is)
    (case lBox => k_is)
    (case cBox => k_is)
    (case kBox => k_is)
    (case aHeap => k_is)
    (case lHeap => k_is)
    (case cHeap => k_is)
    (case kHeap => k_is)
    (case aNth => k_is)
    (case lNth => k_is)
    (case cNth => k_is)
    (case kNth => k_is)
    (case aRank => k_is)
    (case lRank => k_is)
    (case cRank => k_is)
    (case kRank => k_is)
    (case aMove => k_is)
    (case lMove => k_is)
    (case cMove => k_is)
    (case kMove => k_is)
    (case aPut => k_is)
    (case lPut => k_is)
    (case cPut => k_is)
    (case kPut => k_is)
    (case aTake => k_is)
    (case lTake => k_is)
    (case cTake => k_is)
    (case kTake => k_is)
    (case aPl => k_is)
    (case lPl => k_is)
    (case cPl => k_is)
    (case kPl => k_is)
    (case aCor => k_is)
    (case lCor => k_is)
    (case cCor => k_is)
    (case kCor => k_is)
    (case aVol => k_is)
    (case lVol => k_is)
    (case cVol => k_is)
    (case kVol => k_is)
    (case aApa => k_is)
    (case lApa => k_is)
    (case cApa => k_is)
    (case kApa => k_is)
    (case aOve => k_is)
    (case lOve => k_is)
    (case cOve => k_is)
    (case kOve => k_is)
    (case aUnd => k_is)
    (case lUnd => k_is)
    (case cUnd => k_is)
    (case kUnd => k_is)
    (case aCPa => k_is)
    (case lCPa => k_is)
    (case cCPa => k_is)
    (case kCPa => k_is)
    (case aTur => k_is)
    (case lTur => k_is)
    (case cTur => k_is)
    (case kTur => k_is)
    (case aFil => k_is)
    (case lFil => k_is)
    (case cFil => k_is)
    (case kFil => k_is)
    (case aLay => k_is)
    (case lLay => k_is)
    (case cLay => k_is)
    (case kLay => k_is)
    (case aAT => k_is)
    (case lAT => k_is)
    (case cAT => k_is)
    (case kAT => k_is)
    (case aAF => k_is)
    (case lAF => k_is)
    (case cAF => k_is)
    (case kAF => k_is)
    (case aAL => k_is)
    (case lAL => k_is)
    (case cAL => k_is)
    (case kAL => k_is)
    (case aAli => k_is)
    (case lAli => k_is)
    (case cAli => k_is)
    (case kAli => k_is)
    (case aFst => k_is)
    (case lFst => k_is)
    (case cFst => k_is)
    (case kFst => k_is)
    (case aEnd => k_is)
    (case lEnd => k_is)
    (case cEnd => k_is)
    (case kEnd => k_is)
    (case aAns => k_is)
    (case lAns => k_is)
    (case cAns => k_is)
    (case kAns => k_is)
    (case pg => k_is)
    (case hd => k_is)
    (case po => k_is)
    (case sa => k_is)
    (case mk => k_is)
    (case kc => k_is)
    (case n_a => k_is)
    (case n_b => k_is)
    (case n_c => k_is)
    (case n_heaps => k_is)
    (case n_heights => k_is)
    (case z_len => k_is)
    (case z_range => k_is)
    (case z_list => k_is)
    (case z_sum => k_is)
    (case z_min => k_is)
    (case z_max => k_is)
    (case z_abs => k_is)
    (case z_zip => k_is)
    (case z_enumerate => k_is)
    (case z_reversed => k_is)
    (case v_nat => k_is)
    (case v_nsh => k_is)
    (case v_mnb => k_is)
    (case v_mr => k_is)
    (case v_mc => k_is)
    (case v_mh => k_is)
    (case aR_ => k_is)
    (case lR => k_is)
    (case xR => first | rfl | decide +kernel)
    (case yR => first | rfl | decide +kernel)
    (case aW_ => k_is)
    (case lW => k_is)
    (case xW => first | rfl | decide +kernel)
    (case aA_ => k_is)
    (case lA => k_is)
    (case xA => first | rfl | decide +kernel)
  case S =>
    intro K H xs a hO hwi hask hx
    cases hx with
    | cons h1 h2 =>
      cases h2
      cases h1 with
      | lst hs ha =>
        have e := L2.ints_dw a.1 _ ha
        subst e
        exact ⟨_, a.1, rfl, hs, hask, fun H' p hp => .lst (L2.SqL.of hp) (L2.dw_ints _)⟩
#print axioms PySem.Challenge.cw_cubeheaps_s01_answers_holds

