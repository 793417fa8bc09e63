import PyProof.Rows.All
import Wide.All
import OpenK.AllK
import Wide.FinOn
import HandS.List
import KE.SortKeyHeap
import KE.SortData
import KE.KLam
import HandS.Lambda
import HandS.Nested
import HandS.SortKw
import HandS.Words
import Open.SpecLaws
import KE.OsHead
import KE.KNest
import HandS.Spec
import KE.OsGo
import HandS.WordsList
import HandS.Comp
import HandS.SortRule
import HandS.Dict
import HandS.WordsDict
import PySem.Challenge.RW_skymatch_s03_tm_choose
set_option Elab.async false
set_option linter.all false
set_option maxRecDepth 100000
set_option maxHeartbeats 4000000
namespace Tm
open Sh68 Sh68Neutral

/-! ### the pictures' numbers -/
def at_ (ns : List Int) (i : Nat) : Int := ns.getD i 0
def dst (ns : List Int) (i j : Nat) : Int :=
  (at_ ns (2 * i) - at_ ns (2 * j)) * (at_ ns (2 * i) - at_ ns (2 * j)) + (at_ ns (2 * i + 1) - at_ ns (2 * j + 1)) * (at_ ns (2 * i + 1) - at_ ns (2 * j + 1))
def trn (ns : List Int) (a b c : Nat) : Int :=
  (at_ ns (2 * b) - at_ ns (2 * a)) * (at_ ns (2 * c + 1) - at_ ns (2 * a + 1)) - (at_ ns (2 * b + 1) - at_ ns (2 * a + 1)) * (at_ ns (2 * c) - at_ ns (2 * a))
/-- the stars of a picture -/
def stars (ns : List Int) : List Pt := ptsOf (nats ns)

theorem nats_len (ns : List Int) : (nats ns).length = ns.length := by unfold nats; rw [List.length_map]
theorem stars_len (ns : List Int) : (stars ns).length = ns.length / 2 := by
  unfold stars ptsOf; rw [List.length_map, List.length_range, nats_len]
theorem at_get {ns : List Int} {i : Nat} (h : i < ns.length) : at_ ns i = ns[i] := by
  unfold at_; rw [List.getD_eq_getElem?_getD, List.getElem?_eq_getElem h]; rfl
theorem num_at {ns : List Int} (hp : ∀ x ∈ ns, 0 ≤ x) {i : Nat} (h : i < ns.length) : ((num (nats ns) i : Nat) : Int) = at_ ns i := by
  rw [at_get h]
  unfold num nats
  rw [List.getD_eq_getElem?_getD, List.getElem?_map, List.getElem?_eq_getElem h]
  show ((ns[i].toNat : Nat) : Int) = ns[i]
  exact Int.toNat_of_nonneg (hp _ (List.getElem_mem h))
theorem pt_stars {ns : List Int} (hp : ∀ x ∈ ns, 0 ≤ x) {i : Nat} (h : 2 * i + 1 < ns.length) : pt (stars ns) i = (at_ ns (2 * i), at_ ns (2 * i + 1)) := by
  have hi : i < ns.length / 2 := by omega
  unfold pt stars ptsOf
  rw [List.getD_eq_getElem?_getD, List.getElem?_map, List.getElem?_range (by rw [nats_len]; exact hi)]
  show ((((num (nats ns) (2 * i) : Nat) : Int)), (((num (nats ns) (2 * i + 1) : Nat) : Int))) = _
  rw [num_at hp (by omega), num_at hp h]
theorem square_is (z : Int) : ((square z : Nat) : Int) = z * z := by
  unfold square
  refine Int.toNat_of_nonneg ?_
  rcases Int.le_total 0 z with h | h
  · exact Int.mul_nonneg h h
  · exact Int.mul_nonneg_of_nonpos_of_nonpos h h
theorem dist_is {ns : List Int} (hp : ∀ x ∈ ns, 0 ≤ x) {i j : Nat} (hi : 2 * i + 1 < ns.length) (hj : 2 * j + 1 < ns.length) : ((dist2 (pt (stars ns) i) (pt (stars ns) j) : Nat) : Int) = dst ns i j := by
  rw [pt_stars hp hi, pt_stars hp hj]
  show ((square (at_ ns (2 * i) - at_ ns (2 * j)) + square (at_ ns (2 * i + 1) - at_ ns (2 * j + 1)) : Nat) : Int) = _
  rw [Int.natCast_add, square_is, square_is]
  rfl
theorem turn_is {ns : List Int} (hp : ∀ x ∈ ns, 0 ≤ x) {a b c : Nat} (ha : 2 * a + 1 < ns.length) (hb : 2 * b + 1 < ns.length) (hc : 2 * c + 1 < ns.length) : turn (pt (stars ns) a) (pt (stars ns) b) (pt (stars ns) c) = trn ns a b c := by
  rw [pt_stars hp ha, pt_stars hp hb, pt_stars hp hc]
  rfl
/-! ### one triangle, by its sides in order -/
theorem two_same (a b : List Int) (h : a.Perm b) (ha : a.Pairwise (fun x y => y ≤ x)) (hb : b.Pairwise (fun x y => y ≤ x)) : a = b :=
  h.eq_of_pairwise (fun x y _ _ h1 h2 => Int.le_antisymm h2 h1) ha hb
def ci (p : Nat × Nat) : Int × Int := ((p.1 : Int), (p.2 : Int))
def sidesOf (s : List Pt) (i j k : Nat) : List (Nat × Nat) := [(dist2 (pt s j) (pt s k), i), (dist2 (pt s i) (pt s k), j), (dist2 (pt s i) (pt s j), k)]
theorem three {α : Type} {l : List α} (h : l.length = 3) : ∃ x y z, l = [x, y, z] := by
  rcases l with _ | ⟨x, _ | ⟨y, _ | ⟨z, _ | ⟨u, t⟩⟩⟩⟩ <;> simp at h
  exact ⟨x, y, z, rfl⟩
theorem sorted_is (s : List Pt) (i j k : Nat) : ∃ x y z, (sidesOf s i j k).mergeSort (fun x y => decide (y.1 ≤ x.1)) = [x, y, z] ∧ y.1 ≤ x.1 ∧ z.1 ≤ y.1 ∧ [x, y, z].Perm (sidesOf s i j k) := by
  have hp := List.mergeSort_perm (sidesOf s i j k) (fun x y => decide (y.1 ≤ x.1))
  obtain ⟨x, y, z, e⟩ := three (l := (sidesOf s i j k).mergeSort (fun x y => decide (y.1 ≤ x.1))) (by rw [List.length_mergeSort]; rfl)
  have hs := List.pairwise_mergeSort (le := fun x y : Nat × Nat => decide (y.1 ≤ x.1)) (by intro a b c h1 h2; simp only [decide_eq_true_eq] at *; omega) (by intro a b; simp only [Bool.or_eq_true, decide_eq_true_eq]; omega) (sidesOf s i j k)
  rw [e] at hs hp
  refine ⟨x, y, z, e, ?_, ?_, hp⟩
  · have := (List.pairwise_cons.mp hs).1 y (by simp)
    simpa using this
  · have := (List.pairwise_cons.mp (List.pairwise_cons.mp hs).2).1 z (by simp)
    simpa using this
theorem tri_is {s : List Pt} {i j k : Nat} {q0 q1 q2 : Int × Int} (hq : [q0, q1, q2].Perm ((sidesOf s i j k).map ci)) (h01 : q0.1 ≤ q1.1) (h12 : q1.1 ≤ q2.1) :
    (q0.1 = q1.1 ∨ q1.1 = q2.1 → triOf s i j k = none) ∧
    (q0.1 ≠ q1.1 → q1.1 ≠ q2.1 → ∃ x y z : Nat × Nat, q2 = ci x ∧ q1 = ci y ∧ q0 = ci z ∧ (x ∈ sidesOf s i j k ∧ y ∈ sidesOf s i j k ∧ z ∈ sidesOf s i j k) ∧
      triOf s i j k = if turn (pt s x.2) (pt s y.2) (pt s z.2) = 0 then none else some ⟨x.2, y.2, z.2, 65536 * y.1 / x.1, 65536 * z.1 / x.1, decide (0 < turn (pt s x.2) (pt s y.2) (pt s z.2))⟩) := by
  obtain ⟨x, y, z, e, hyx, hzy, hp⟩ := sorted_is s i j k
  have ht : triOf s i j k = if x.1 = y.1 ∨ y.1 = z.1 ∨ turn (pt s x.2) (pt s y.2) (pt s z.2) = 0 then none else some ⟨x.2, y.2, z.2, 65536 * y.1 / x.1, 65536 * z.1 / x.1, decide (0 < turn (pt s x.2) (pt s y.2) (pt s z.2))⟩ := by
    unfold triOf
    show (match (sidesOf s i j k).mergeSort (fun x y => decide (y.1 ≤ x.1)) with
      | [x, y, z] => _
      | _ => none) = _
    rw [e]
  have hp2 : [q2, q1, q0].Perm ([x, y, z].map ci) := by
    have r : [q2, q1, q0] = [q0, q1, q2].reverse := rfl
    rw [r]
    exact (List.reverse_perm _).trans (hq.trans (hp.map ci).symm)
  have hf : [q2.1, q1.1, q0.1] = [(x.1 : Int), (y.1 : Int), (z.1 : Int)] := by
    refine two_same _ _ (hp2.map (f := fun p : Int × Int => p.1)) ?_ ?_
    · simp; omega
    · simp; omega
  simp only [List.cons.injEq, and_true] at hf
  obtain ⟨e2, e1, e0⟩ := hf
  refine ⟨fun h => ?_, fun n01 n12 => ?_⟩
  · rw [ht, if_pos]
    rcases h with h | h
    · exact .inr (.inl (by omega))
    · exact .inl (by omega)
  · have hx : q2 = ci x := by
      have m : q2 ∈ [x, y, z].map ci := hp2.subset (by simp)
      simp only [List.map_cons, List.map_nil, List.mem_cons, List.not_mem_nil, or_false] at m
      rcases m with m | m | m
      · exact m
      · exact absurd (congrArg Prod.fst m) (by show q2.1 ≠ (y.1 : Int); omega)
      · exact absurd (congrArg Prod.fst m) (by show q2.1 ≠ (z.1 : Int); omega)
    have hy : q1 = ci y := by
      have m : q1 ∈ [x, y, z].map ci := hp2.subset (by simp)
      simp only [List.map_cons, List.map_nil, List.mem_cons, List.not_mem_nil, or_false] at m
      rcases m with m | m | m
      · exact absurd (congrArg Prod.fst m) (by show q1.1 ≠ (x.1 : Int); omega)
      · exact m
      · exact absurd (congrArg Prod.fst m) (by show q1.1 ≠ (z.1 : Int); omega)
    have hz : q0 = ci z := by
      have m : q0 ∈ [x, y, z].map ci := hp2.subset (by simp)
      simp only [List.map_cons, List.map_nil, List.mem_cons, List.not_mem_nil, or_false] at m
      rcases m with m | m | m
      · exact absurd (congrArg Prod.fst m) (by show q0.1 ≠ (x.1 : Int); omega)
      · exact absurd (congrArg Prod.fst m) (by show q0.1 ≠ (y.1 : Int); omega)
      · exact m
    refine ⟨x, y, z, hx, hy, hz, ⟨hp.subset (by simp), hp.subset (by simp), hp.subset (by simp)⟩, ?_⟩
    rw [ht]
    have a1 : ¬ x.1 = y.1 := by omega
    have a2 : ¬ y.1 = z.1 := by omega
    simp only [a1, a2, false_or]
/-! ### all triangles, as the loops find them -/
def row3 (s : List Pt) (n i j : Nat) : List Tri := (List.range (n - (j + 1))).filterMap fun k => triOf s i j (j + 1 + k)
def row2 (s : List Pt) (n i : Nat) : List Tri := (List.range (n - (i + 1))).flatMap fun j => row3 s n i (i + 1 + j)
def row1 (s : List Pt) (n : Nat) : List Tri := (List.range n).flatMap fun i => row2 s n i
theorem range_split {n i : Nat} (h : i < n) : List.range n = List.range (i + 1) ++ (List.range (n - (i + 1))).map fun j => i + 1 + j := by
  have e : n = (i + 1) + (n - (i + 1)) := by omega
  conv => lhs; rw [e]
  rw [List.range_add]
theorem flat_above {α : Type} {n i : Nat} (F : Nat → List α) (h : i < n) : ((List.range n).flatMap fun j => if j ≤ i then [] else F j) = (List.range (n - (i + 1))).flatMap fun j => F (i + 1 + j) := by
  rw [range_split h, List.flatMap_append, List.flatMap_map]
  have e : ((List.range (i + 1)).flatMap fun j => if j ≤ i then [] else F j) = [] := by
    rw [List.flatMap_eq_nil_iff]
    intro j hj
    rw [if_pos (by have := List.mem_range.mp hj; omega)]
  rw [e, List.nil_append]
  congr 1
  funext j
  exact if_neg (by omega)
theorem filt_above {α : Type} {n i : Nat} (F : Nat → Option α) (h : i < n) : ((List.range n).filterMap fun j => if j ≤ i then none else F j) = (List.range (n - (i + 1))).filterMap fun j => F (i + 1 + j) := by
  rw [range_split h, List.filterMap_append, List.filterMap_map]
  have e : ((List.range (i + 1)).filterMap fun j => if j ≤ i then none else F j) = [] := by
    rw [List.filterMap_eq_nil_iff]
    intro j hj
    rw [if_pos (by have := List.mem_range.mp hj; omega)]
  rw [e, List.nil_append]
  congr 1
  funext j
  exact if_neg (by show ¬ i + 1 + j ≤ i; omega)
theorem flat_congr {α β : Type} : ∀ {l : List α} {f g : α → List β}, (∀ x ∈ l, f x = g x) → l.flatMap f = l.flatMap g
  | [], _, _, _ => rfl
  | x :: r, f, g, h => by
    rw [List.flatMap_cons, List.flatMap_cons, h x List.mem_cons_self, flat_congr fun y hy => h y (List.mem_cons_of_mem _ hy)]
theorem rows_are (s : List Pt) : triangles s = row1 s s.length := by
  unfold triangles row1
  refine flat_congr fun i hi => ?_
  have hi' := List.mem_range.mp hi
  rw [flat_above _ hi']
  unfold row2
  refine flat_congr fun j hj => ?_
  have hj' := List.mem_range.mp hj
  exact filt_above _ (by omega)
theorem flat_more {α : Type} (F : Nat → List α) (i : Nat) : (List.range (i + 1)).flatMap F = (List.range i).flatMap F ++ F i := by
  rw [List.range_succ, List.flatMap_append, List.flatMap_cons, List.flatMap_nil, List.append_nil]
theorem filt_more {α : Type} (F : Nat → Option α) (i : Nat) : (List.range (i + 1)).filterMap F = (List.range i).filterMap F ++ (F i).toList := by
  rw [List.range_succ, List.filterMap_append, List.filterMap_cons, List.filterMap_nil]
  cases F i <;> rfl
/-- how many there are at most -/
theorem flat_len {α : Type} {F : Nat → List α} {m : Nat} (h : ∀ i, (F i).length ≤ m) : ∀ n, ((List.range n).flatMap F).length ≤ n * m
  | 0 => by simp
  | n + 1 => by
    rw [flat_more, List.length_append]
    have := flat_len h n
    have := h n
    rw [Nat.succ_mul]
    omega
theorem row3_len (s : List Pt) (n i j : Nat) : (row3 s n i j).length ≤ n := by
  unfold row3
  refine Nat.le_trans (List.length_filterMap_le _ _) ?_
  rw [List.length_range]; omega
theorem row2_len (s : List Pt) (n i : Nat) : (row2 s n i).length ≤ n * n := by
  unfold row2
  refine Nat.le_trans (flat_len (fun j => row3_len s n i (i + 1 + j)) _) ?_
  exact Nat.mul_le_mul_right _ (by omega)
end Tm
namespace Tm
open Sh68 Sh68Neutral
/-! ### what is due -/
def ti (m : Tri) : List Int := [(m.a : Int), (m.b : Int), (m.c : Int), (m.u : Int), (m.v : Int), ((bit m.left : Nat) : Int)]
theorem small_is {ns : List Int} (hp : ∀ x ∈ ns, 0 ≤ x) : small (nats ns) = !(ns.any fun x => decide (8192 ≤ x)) := by
  unfold small nats
  rw [List.all_map, List.not_any_eq_all_not]
  have h : ∀ (l : List Int), (∀ x ∈ l, 0 ≤ x) → l.all ((fun a => decide (a < 8192)) ∘ fun z => z.toNat) = l.all fun x => !decide (8192 ≤ x) := by
    intro l
    induction l with
    | nil => intro _; rfl
    | cons x r ih =>
      intro h
      rw [List.all_cons, List.all_cons, ih fun y hy => h y (List.mem_cons_of_mem _ hy)]
      congr 1
      have hx := h x List.mem_cons_self
      show decide (x.toNat < 8192) = !decide (8192 ≤ x)
      by_cases c : 8192 ≤ x
      · rw [decide_eq_true c, decide_eq_false (by omega)]; rfl
      · rw [decide_eq_false c, decide_eq_true (by omega)]; rfl
  exact h ns hp
theorem few_is (ns : List Int) : few ((nats ns).length / 2) = decide (ns.length / 2 ≤ 24) := by
  rw [nats_len]; rfl
theorem ints_flat (L : List Tri) : Sh68Neutral.ints (L.flatMap triTold) = L.flatMap ti := by
  unfold Sh68Neutral.ints
  rw [List.map_flatMap]
  rfl
theorem tri_bad {ns : List Int} (h : ¬ ns.length / 2 ≤ 24) : PySh68.tm_triangles ns = [-2] := by
  show Sh68Neutral.told (answer (if few ((nats ns).length / 2) = true then Sh68.Call.triangles (nats ns) else Sh68.Call.bad)) = [-2]
  rw [few_is, decide_eq_false h]
  rfl
theorem tri_off {ns : List Int} (hp : ∀ x ∈ ns, 0 ≤ x) (h : ns.length / 2 ≤ 24) (ho : (ns.any fun x => decide (8192 ≤ x)) = true) : PySh68.tm_triangles ns = [-3] := by
  show Sh68Neutral.told (answer (if few ((nats ns).length / 2) = true then Sh68.Call.triangles (nats ns) else Sh68.Call.bad)) = [-3]
  rw [few_is, decide_eq_true h, if_pos rfl]
  show Sh68Neutral.told (if small (nats ns) = false then _ else _) = _
  rw [small_is hp, ho, if_pos (by decide)]
  rfl
theorem tri_due {ns : List Int} (hp : ∀ x ∈ ns, 0 ≤ x) (h : ns.length / 2 ≤ 24) (ho : (ns.any fun x => decide (8192 ≤ x)) = false) : PySh68.tm_triangles ns = ((triangles (stars ns)).length : Int) :: (triangles (stars ns)).flatMap ti := by
  show Sh68Neutral.told (answer (if few ((nats ns).length / 2) = true then Sh68.Call.triangles (nats ns) else Sh68.Call.bad)) = _
  rw [few_is, decide_eq_true h, if_pos rfl]
  show Sh68Neutral.told (if small (nats ns) = false then fail (-3) else many (triangles (stars ns)).length [(triangles (stars ns)).flatMap triTold]) = _
  rw [small_is hp, ho, if_neg (by decide)]
  show ((triangles (stars ns)).length : Int) :: Sh68Neutral.ints ((triangles (stars ns)).flatMap triTold) = _
  rw [ints_flat]
end Tm

namespace Tm
open Sh68 Sh68Neutral
/-! ### a triangle's corners -/
theorem tri_corners {s : List Pt} {i j k : Nat} {m : Tri} (h : triOf s i j k = some m) : [m.a, m.b, m.c].Perm [i, j, k] := by
  obtain ⟨x, y, z, e, hyx, hzy, hp⟩ := sorted_is s i j k
  have ht : triOf s i j k = if x.1 = y.1 ∨ y.1 = z.1 ∨ turn (pt s x.2) (pt s y.2) (pt s z.2) = 0 then none else some ⟨x.2, y.2, z.2, 65536 * y.1 / x.1, 65536 * z.1 / x.1, decide (0 < turn (pt s x.2) (pt s y.2) (pt s z.2))⟩ := by
    unfold triOf
    show (match (sidesOf s i j k).mergeSort (fun x y => decide (y.1 ≤ x.1)) with
      | [x, y, z] => _
      | _ => none) = _
    rw [e]
  rw [ht] at h
  split at h
  · cases h
  · cases h
    exact hp.map (f := fun p : Nat × Nat => p.2)
structure Corners (n : Nat) (m : Tri) : Prop where
  a : m.a < n
  b : m.b < n
  c : m.c < n
  ab : m.a ≠ m.b
  ac : m.a ≠ m.c
  bc : m.b ≠ m.c
theorem corners {s : List Pt} {m : Tri} (h : m ∈ triangles s) : Corners s.length m := by
  unfold triangles at h
  obtain ⟨i, hi, h⟩ := List.mem_flatMap.mp h
  obtain ⟨j, hj, h⟩ := List.mem_flatMap.mp h
  have hi := List.mem_range.mp hi
  have hj := List.mem_range.mp hj
  by_cases c : j ≤ i
  · rw [if_pos c] at h
    cases h
  rw [if_neg c] at h
  obtain ⟨k, hk, h⟩ := List.mem_filterMap.mp h
  have hk := List.mem_range.mp hk
  by_cases c2 : k ≤ j
  · rw [if_pos c2] at h
    cases h
  rw [if_neg c2] at h
  have hp := tri_corners h
  have nd : [m.a, m.b, m.c].Nodup := hp.symm.nodup (by simp; omega)
  have lt : ∀ v ∈ [m.a, m.b, m.c], v < s.length := fun v hv => by
    have z := hp.subset hv
    simp only [List.mem_cons, List.not_mem_nil, or_false] at z
    omega
  simp only [List.nodup_cons, List.mem_cons, List.not_mem_nil, or_false, not_or] at nd
  exact ⟨lt _ (by simp), lt _ (by simp), lt _ (by simp), nd.1.1, nd.1.2, nd.2.1⟩
/-! ### alike, as the program asks -/
def absI (i : Int) : Int := if i < 0 then -i else i
theorem bit_is (x y : Bool) : decide (((bit y : Nat) : Int) = ((bit x : Nat) : Int)) = (x == y) := by
  cases x <;> cases y <;> rfl
theorem apart_is (e : Int) (he : 0 ≤ e) (a b : Nat) : decide (absI ((b : Int) - (a : Int)) ≤ e) = decide (apart a b ≤ e.toNat) := by
  unfold absI apart
  have h : ((if (b : Int) - (a : Int) < 0 then -((b : Int) - (a : Int)) else (b : Int) - (a : Int)) ≤ e) ↔ (max a b - min a b ≤ e.toNat) := by
    split <;> omega
  by_cases c : max a b - min a b ≤ e.toNat
  · rw [decide_eq_true c, decide_eq_true (h.mpr c)]
  · rw [decide_eq_false c, decide_eq_false (fun z => c (h.mp z))]
theorem alike_is {e : Int} (he : 0 ≤ e) (x y : Tri) : alike e.toNat x y = (decide (((bit y.left : Nat) : Int) = ((bit x.left : Nat) : Int)) && (decide (absI ((y.u : Int) - (x.u : Int)) ≤ e) && decide (absI ((y.v : Int) - (x.v : Int)) ≤ e))) := by
  rw [bit_is, apart_is e he, apart_is e he]
  rfl
/-! ### votes, as they are counted -/
def cells (w : Nat) (x y : Tri) : List Nat := [x.a * w + y.a, x.b * w + y.b, x.c * w + y.c]
def hitsIn (w e : Nat) (q : List Tri) (x : Tri) : List Nat := (q.filter fun y => alike e x y).flatMap fun y => cells w x y
def hitsOf (w e : Nat) (p q : List Tri) : List Nat := p.flatMap fun x => hitsIn w e q x
def tally (n : Nat) (h : List Nat) : List Int := (List.range n).map fun k => ((h.count k : Nat) : Int)
theorem tally_len (n : Nat) (h : List Nat) : (tally n h).length = n := by
  unfold tally; rw [List.length_map, List.length_range]
theorem tally_get {n k : Nat} (h : List Nat) (hk : k < n) : (tally n h)[k]? = some ((h.count k : Nat) : Int) := by
  unfold tally
  rw [List.getElem?_map, List.getElem?_range hk]
  rfl
theorem tally_set {n k : Nat} (h : List Nat) (hk : k < n) : (tally n h).set k (((h.count k : Nat) : Int) + 1) = tally n (h ++ [k]) := by
  refine List.ext_getElem? fun i => ?_
  rw [List.getElem?_set, tally_len]
  by_cases c : k = i
  · subst c
    rw [if_pos rfl, if_pos hk, tally_get _ hk, List.count_append, List.count_singleton_self]
    rfl
  · rw [if_neg c]
    by_cases hi : i < n
    · rw [tally_get _ hi, tally_get _ hi, List.count_append]
      have z : List.count i [k] = 0 := by
        rw [List.count_eq_zero]
        simp; omega
      rw [z, Nat.add_zero]
    · rw [List.getElem?_eq_none (by rw [tally_len]; omega), List.getElem?_eq_none (by rw [tally_len]; omega)]
theorem tally_nil (n : Nat) : tally n [] = List.replicate n 0 := by
  unfold tally
  refine List.eq_replicate_iff.mpr ⟨by rw [List.length_map, List.length_range], fun b hb => ?_⟩
  obtain ⟨k, _, rfl⟩ := List.mem_map.mp hb
  rfl
theorem range_rows {α : Type} (f : Nat → α) (m : Nat) : ∀ n, (List.range (n * m)).map f = (List.range n).flatMap fun i => (List.range m).map fun j => f (i * m + j)
  | 0 => by simp
  | n + 1 => by
    rw [Nat.succ_mul, List.range_add, List.map_append, range_rows f m n, flat_more, List.map_map]
    rfl
theorem count_if {α : Type} (P : α → Bool) : ∀ l : List α, (l.map fun y => if P y = true then 1 else 0).sum = (l.filter P).length
  | [] => rfl
  | y :: r => by
    rw [List.map_cons, List.sum_cons, count_if P r, List.filter_cons]
    by_cases c : P y = true
    · rw [if_pos c, if_pos c, List.length_cons, Nat.add_comm]
    · rw [if_neg c, if_neg c, Nat.zero_add]
theorem ix_inj {w a b i j : Nat} (hb : b < w) (hj : j < w) : a * w + b = i * w + j ↔ a = i ∧ b = j := by
  constructor
  · intro h
    have h1 : (a * w + b) / w = (i * w + j) / w := by rw [h]
    have hw : 0 < w := by omega
    rw [Nat.mul_comm a w, Nat.mul_comm i w, Nat.mul_add_div hw, Nat.mul_add_div hw, Nat.div_eq_of_lt hb, Nat.div_eq_of_lt hj, Nat.add_zero, Nat.add_zero] at h1
    subst h1
    omega
  · rintro ⟨rfl, rfl⟩
    rfl
def same3 (i j : Nat) (x y : Tri) : Bool := (x.a == i && y.a == j) || ((x.b == i && y.b == j) || (x.c == i && y.c == j))
theorem cells_count {n m i j : Nat} {x y : Tri} (hx : Corners n x) (hy : Corners m y) (hj : j < m) : (cells m x y).count (i * m + j) = if same3 i j x y = true then 1 else 0 := by
  unfold cells same3
  simp only [List.count_cons, List.count_nil, beq_iff_eq, ix_inj hy.a hj, ix_inj hy.b hj, ix_inj hy.c hj, Bool.or_eq_true, Bool.and_eq_true]
  have h1 := hx.ab
  have h2 := hx.ac
  have h3 := hx.bc
  by_cases ca : x.a = i ∧ y.a = j
  · have cb : ¬ (x.b = i ∧ y.b = j) := fun z => h1 (ca.1.trans z.1.symm)
    have cc : ¬ (x.c = i ∧ y.c = j) := fun z => h2 (ca.1.trans z.1.symm)
    rw [if_neg cc, if_neg cb, if_pos ca, if_pos (.inl ca)]
  · by_cases cb : x.b = i ∧ y.b = j
    · have cc : ¬ (x.c = i ∧ y.c = j) := fun z => h3 (cb.1.trans z.1.symm)
      rw [if_neg cc, if_pos cb, if_neg ca, if_pos (.inr (.inl cb))]
    · by_cases cc : x.c = i ∧ y.c = j
      · rw [if_pos cc, if_neg cb, if_neg ca, if_pos (.inr (.inr cc))]
      · rw [if_neg cc, if_neg cb, if_neg ca, if_neg (fun z => z.elim ca fun z => z.elim cb cc)]
theorem sum_congr {α : Type} {f g : α → Nat} : ∀ {l : List α}, (∀ x ∈ l, f x = g x) → (l.map f).sum = (l.map g).sum := fun {l} h => by
  rw [List.map_congr_left h]
theorem votes_is {e n m : Nat} {p q : List Tri} (hp : ∀ x ∈ p, Corners n x) (hq : ∀ y ∈ q, Corners m y) : tally (n * m) (hitsOf m e p q) = Sh68Neutral.ints (votes e n m p q) := by
  unfold tally Sh68Neutral.ints votes
  rw [range_rows, List.map_flatMap]
  refine flat_congr fun i hi => ?_
  rw [List.map_map]
  refine List.map_congr_left fun j hj => ?_
  have hj := List.mem_range.mp hj
  show (((hitsOf m e p q).count (i * m + j) : Nat) : Int) = (((p.map fun x => (q.filter fun y => alike e x y && same3 i j x y).length).sum : Nat) : Int)
  congr 1
  unfold hitsOf
  rw [List.count_flatMap]
  refine sum_congr fun x hx => ?_
  show (hitsIn m e q x).count (i * m + j) = _
  unfold hitsIn
  rw [List.count_flatMap]
  have z : ((q.filter fun y => alike e x y).map (List.count (i * m + j) ∘ fun y => cells m x y)).sum = ((q.filter fun y => alike e x y).map fun y => if same3 i j x y = true then 1 else 0).sum :=
    sum_congr fun y hy => cells_count (hp x hx) (hq y (List.mem_filter.mp hy).1) hj
  rw [z, count_if (fun y => same3 i j x y), List.filter_filter]
  congr 2
  funext y
  exact Bool.and_comm _ _
/-! ### what is due -/
theorem votes_bad {e : Int} {ns ms : List Int} (h : ¬ (ns.length / 2 ≤ 24 ∧ ms.length / 2 ≤ 24 ∧ e.toNat ≤ 65536)) : PySh68.tm_votes e ns ms = [-2] := by
  show Sh68Neutral.told (answer (if (few ((nats ns).length / 2) && (few ((nats ms).length / 2) && decide (e.toNat ≤ 65536))) = true then Sh68.Call.votes e.toNat (nats ns) (nats ms) else Sh68.Call.bad)) = [-2]
  rw [few_is, few_is, if_neg (by simp only [Bool.and_eq_true, decide_eq_true_eq]; exact h)]
  rfl
theorem votes_off {e : Int} {ns ms : List Int} (hp : ∀ x ∈ ns, 0 ≤ x) (hq : ∀ x ∈ ms, 0 ≤ x) (h : ns.length / 2 ≤ 24 ∧ ms.length / 2 ≤ 24 ∧ e.toNat ≤ 65536)
    (ho : (ns.any fun x => decide (8192 ≤ x)) = true ∨ (ms.any fun x => decide (8192 ≤ x)) = true) : PySh68.tm_votes e ns ms = [-3] := by
  show Sh68Neutral.told (answer (if (few ((nats ns).length / 2) && (few ((nats ms).length / 2) && decide (e.toNat ≤ 65536))) = true then Sh68.Call.votes e.toNat (nats ns) (nats ms) else Sh68.Call.bad)) = [-3]
  rw [few_is, few_is, if_pos (by simp only [Bool.and_eq_true, decide_eq_true_eq]; exact h)]
  show Sh68Neutral.told (if small (nats ns) = false ∨ small (nats ms) = false then _ else _) = _
  rw [small_is hp, small_is hq, if_pos (by rcases ho with z | z <;> rw [z] <;> simp)]
  rfl
theorem votes_due {e : Int} {ns ms : List Int} (hp : ∀ x ∈ ns, 0 ≤ x) (hq : ∀ x ∈ ms, 0 ≤ x) (h : ns.length / 2 ≤ 24 ∧ ms.length / 2 ≤ 24 ∧ e.toNat ≤ 65536)
    (h1 : (ns.any fun x => decide (8192 ≤ x)) = false) (h2 : (ms.any fun x => decide (8192 ≤ x)) = false) :
    PySh68.tm_votes e ns ms = 0 :: tally (ns.length / 2 * (ms.length / 2)) (hitsOf (ms.length / 2) e.toNat (triangles (stars ns)) (triangles (stars ms))) := by
  show Sh68Neutral.told (answer (if (few ((nats ns).length / 2) && (few ((nats ms).length / 2) && decide (e.toNat ≤ 65536))) = true then Sh68.Call.votes e.toNat (nats ns) (nats ms) else Sh68.Call.bad)) = _
  rw [few_is, few_is, if_pos (by simp only [Bool.and_eq_true, decide_eq_true_eq]; exact h)]
  show Sh68Neutral.told (if small (nats ns) = false ∨ small (nats ms) = false then fail (-3) else done [votes e.toNat ((nats ns).length / 2) ((nats ms).length / 2) (triangles (stars ns)) (triangles (stars ms))]) = _
  rw [small_is hp, small_is hq, h1, h2, if_neg (by simp), nats_len, nats_len]
  rw [votes_is (fun x hx => by rw [← stars_len]; exact corners hx) (fun y hy => by rw [← stars_len]; exact corners hy)]
  rfl
end Tm

namespace Tm
open Sh68 Sh68Neutral
/-! ### what is due, call by call -/
abbrev off (ns : List Int) : Bool := ns.any fun x => decide (8192 ≤ x)
/-- the pairs of a list -/
def prs (ps : List Int) : List (Pt × Pt) := pairsOf (nats ps)
theorem prs_len (ps : List Int) : (prs ps).length = ps.length / 4 := by
  unfold prs pairsOf
  rw [List.length_map, List.length_range, nats_len]
theorem prs_get {ps : List Int} (hp : ∀ x ∈ ps, 0 ≤ x) {i : Nat} (h : 4 * i + 3 < ps.length) : (prs ps)[i]? = some ((at_ ps (4 * i), at_ ps (4 * i + 1)), (at_ ps (4 * i + 2), at_ ps (4 * i + 3))) := by
  unfold prs pairsOf
  rw [List.getElem?_map, List.getElem?_range (by rw [nats_len]; omega)]
  show some ((((num (nats ps) (4 * i) : Nat) : Int), ((num (nats ps) (4 * i + 1) : Nat) : Int)), (((num (nats ps) (4 * i + 2) : Nat) : Int), ((num (nats ps) (4 * i + 3) : Nat) : Int))) = _
  rw [num_at hp (by omega), num_at hp (by omega), num_at hp (by omega), num_at hp h]
theorem stars_get {ns : List Int} (hp : ∀ x ∈ ns, 0 ≤ x) {i : Nat} (h : 2 * i + 1 < ns.length) : (stars ns)[i]? = some (at_ ns (2 * i), at_ ns (2 * i + 1)) := by
  unfold stars ptsOf
  rw [List.getElem?_map, List.getElem?_range (by rw [nats_len]; omega)]
  show some (((num (nats ns) (2 * i) : Nat) : Int), ((num (nats ns) (2 * i + 1) : Nat) : Int)) = _
  rw [num_at hp (by omega), num_at hp h]
theorem sum_is (l : List Int) : Sh68.sum l = l.sum := rfl
theorem sum_more {α : Type} {f : α → Int} {l : List α} {i : Nat} {x : α} (h : l[i]? = some x) : ((l.take (i + 1)).map f).sum = ((l.take i).map f).sum + f x := by
  rw [List.take_add_one, h, List.map_append, List.sum_append]
  show _ + (f x + 0) = _
  omega
/-! tm_choose -/
theorem choose_bad {n least : Int} {l : List Int} (h : ¬ ((1 ≤ n.toNat ∧ n.toNat ≤ 64) ∧ (1 ≤ l.length / n.toNat ∧ l.length / n.toNat ≤ 64))) : PySh68.tm_choose n least l = [-2] := by
  show Sh68Neutral.told (answer (if (among n.toNat 1 64 && among ((nats l).length / n.toNat) 1 64) = true then Sh68.Call.choose least.toNat n.toNat ((nats l).length / n.toNat) (nats l) else Sh68.Call.bad)) = [-2]
  rw [nats_len, if_neg (by unfold among; simp only [Bool.and_eq_true, decide_eq_true_eq]; exact h)]
  rfl
def toldPairs (r : List (Nat × Nat)) : List Int := (r.length : Int) :: r.flatMap fun p => [(p.1 : Int), (p.2 : Int)]
theorem ints_pairs (r : List (Nat × Nat)) : Sh68Neutral.ints (pairTold r) = r.flatMap fun p => [(p.1 : Int), (p.2 : Int)] := by
  unfold Sh68Neutral.ints pairTold
  rw [List.map_flatMap]
  rfl
theorem told_pairs (r : List (Nat × Nat)) : Sh68Neutral.told (many r.length [pairTold r]) = toldPairs r := by
  show ((r.length : Nat) : Int) :: Sh68Neutral.ints (pairTold r) = _
  rw [ints_pairs]
  rfl
theorem choose_due {n least : Int} {l : List Int} (h : (1 ≤ n.toNat ∧ n.toNat ≤ 64) ∧ (1 ≤ l.length / n.toNat ∧ l.length / n.toNat ≤ 64)) : PySh68.tm_choose n least l = toldPairs (chosen n.toNat (l.length / n.toNat) least.toNat (nats l)) := by
  show Sh68Neutral.told (answer (if (among n.toNat 1 64 && among ((nats l).length / n.toNat) 1 64) = true then Sh68.Call.choose least.toNat n.toNat ((nats l).length / n.toNat) (nats l) else Sh68.Call.bad)) = _
  rw [nats_len, if_pos (by unfold among; simp only [Bool.and_eq_true, decide_eq_true_eq]; exact h)]
  exact told_pairs _
/-! tm_match -/
theorem match_bad {e least : Int} {ns ms : List Int} (h : ¬ (ns.length / 2 ≤ 24 ∧ ms.length / 2 ≤ 24 ∧ e.toNat ≤ 65536)) : PySh68.tm_match e least ns ms = [-2] := by
  show Sh68Neutral.told (answer (if (few ((nats ns).length / 2) && (few ((nats ms).length / 2) && decide (e.toNat ≤ 65536))) = true then Sh68.Call.match_ e.toNat least.toNat (nats ns) (nats ms) else Sh68.Call.bad)) = [-2]
  rw [few_is, few_is, if_neg (by simp only [Bool.and_eq_true, decide_eq_true_eq]; exact h)]
  rfl
theorem match_off {e least : Int} {ns ms : List Int} (hp : ∀ x ∈ ns, 0 ≤ x) (hq : ∀ x ∈ ms, 0 ≤ x) (h : ns.length / 2 ≤ 24 ∧ ms.length / 2 ≤ 24 ∧ e.toNat ≤ 65536) (ho : off ns = true ∨ off ms = true) : PySh68.tm_match e least ns ms = [-3] := by
  show Sh68Neutral.told (answer (if (few ((nats ns).length / 2) && (few ((nats ms).length / 2) && decide (e.toNat ≤ 65536))) = true then Sh68.Call.match_ e.toNat least.toNat (nats ns) (nats ms) else Sh68.Call.bad)) = [-3]
  rw [few_is, few_is, if_pos (by simp only [Bool.and_eq_true, decide_eq_true_eq]; exact h)]
  show Sh68Neutral.told (if small (nats ns) = false ∨ small (nats ms) = false then _ else _) = _
  rw [small_is hp, small_is hq, if_pos (by rcases ho with z | z <;> unfold off at z <;> rw [z] <;> simp)]
  rfl
theorem match_due {e least : Int} {ns ms : List Int} (hp : ∀ x ∈ ns, 0 ≤ x) (hq : ∀ x ∈ ms, 0 ≤ x) (h : ns.length / 2 ≤ 24 ∧ ms.length / 2 ≤ 24 ∧ e.toNat ≤ 65536) (h1 : off ns = false) (h2 : off ms = false) :
    PySh68.tm_match e least ns ms = toldPairs (chosen (ns.length / 2) (ms.length / 2) least.toNat (votes e.toNat (ns.length / 2) (ms.length / 2) (triangles (stars ns)) (triangles (stars ms)))) := by
  show Sh68Neutral.told (answer (if (few ((nats ns).length / 2) && (few ((nats ms).length / 2) && decide (e.toNat ≤ 65536))) = true then Sh68.Call.match_ e.toNat least.toNat (nats ns) (nats ms) else Sh68.Call.bad)) = _
  rw [few_is, few_is, if_pos (by simp only [Bool.and_eq_true, decide_eq_true_eq]; exact h)]
  unfold off at h1 h2
  show Sh68Neutral.told (if small (nats ns) = false ∨ small (nats ms) = false then fail (-3) else many (chosen ((nats ns).length / 2) ((nats ms).length / 2) least.toNat (votes e.toNat ((nats ns).length / 2) ((nats ms).length / 2) (triangles (stars ns)) (triangles (stars ms)))).length [pairTold (chosen ((nats ns).length / 2) ((nats ms).length / 2) least.toNat (votes e.toNat ((nats ns).length / 2) ((nats ms).length / 2) (triangles (stars ns)) (triangles (stars ms))))]) = _
  rw [small_is hp, small_is hq, h1, h2, if_neg (by simp), nats_len, nats_len]
  exact told_pairs _
/-! tm_fit -/
theorem pairs_few (ps : List Int) : pairsFew ((nats ps).length / 4) = decide (ps.length / 4 ≤ 32) := by
  rw [nats_len]; rfl
theorem fit_bad {ps : List Int} (h : ¬ ps.length / 4 ≤ 32) : PySh68.tm_fit ps = [-2] := by
  show Sh68Neutral.told (answer (if pairsFew ((nats ps).length / 4) = true then Sh68.Call.fit (nats ps) else Sh68.Call.bad)) = [-2]
  rw [pairs_few, decide_eq_false h]
  rfl
theorem fit_off {ps : List Int} (hp : ∀ x ∈ ps, 0 ≤ x) (h : ps.length / 4 ≤ 32) (ho : off ps = true) : PySh68.tm_fit ps = [-3] := by
  show Sh68Neutral.told (answer (if pairsFew ((nats ps).length / 4) = true then Sh68.Call.fit (nats ps) else Sh68.Call.bad)) = [-3]
  rw [pairs_few, decide_eq_true h, if_pos rfl]
  show Sh68Neutral.told (if small (nats ps) = false then _ else _) = _
  unfold off at ho
  rw [small_is hp, ho, if_pos (by decide)]
  rfl
theorem fit_none {ps : List Int} (hp : ∀ x ∈ ps, 0 ≤ x) (h : ps.length / 4 ≤ 32) (ho : off ps = false) (hf : fit (prs ps) = none) : PySh68.tm_fit ps = [-4] := by
  show Sh68Neutral.told (answer (if pairsFew ((nats ps).length / 4) = true then Sh68.Call.fit (nats ps) else Sh68.Call.bad)) = [-4]
  rw [pairs_few, decide_eq_true h, if_pos rfl]
  show Sh68Neutral.told (if small (nats ps) = false then fail (-3) else (match fit (prs ps) with
    | none => fail (-4)
    | some f => done [(Sh68.told f).map wordOf, (prs ps).map fun p => miss f p])) = _
  unfold off at ho
  rw [small_is hp, ho, if_neg (by decide), hf]
  rfl
theorem fit_due {ps : List Int} (hp : ∀ x ∈ ps, 0 ≤ x) (h : ps.length / 4 ≤ 32) (ho : off ps = false) {f : Fit} (hf : fit (prs ps) = some f) :
    PySh68.tm_fit ps = 0 :: 4 :: ((Sh68.told f).map fun z => ((wordOf z : Nat) : Int)) ++ ((ps.length / 4 : Nat) : Int) :: (prs ps).map fun p => ((miss f p : Nat) : Int) := by
  show Sh68Neutral.told (answer (if pairsFew ((nats ps).length / 4) = true then Sh68.Call.fit (nats ps) else Sh68.Call.bad)) = _
  rw [pairs_few, decide_eq_true h, if_pos rfl]
  show Sh68Neutral.told (if small (nats ps) = false then fail (-3) else (match fit (prs ps) with
    | none => fail (-4)
    | some f => done [(Sh68.told f).map wordOf, (prs ps).map fun p => miss f p])) = _
  unfold off at ho
  rw [small_is hp, ho, if_neg (by decide), hf]
  have e : ((prs ps).map fun p => miss f p).length = ps.length / 4 := by rw [List.length_map, prs_len]
  show (0 : Int) :: ([(Sh68.told f).map wordOf, (prs ps).map fun p => miss f p].flatMap fun l => ((l.length : Nat) : Int) :: Sh68Neutral.ints l) = _
  simp only [List.flatMap_cons, List.flatMap_nil, List.append_nil, e]
  unfold Sh68Neutral.ints
  rw [List.map_map, List.map_map]
  rfl
/-! tm_carry -/
theorem carry_bad {ps xy : List Int} (h : ¬ (ps.length / 4 ≤ 32 ∧ xy.length / 2 ≤ 4096)) : PySh68.tm_carry ps xy = [-2] := by
  show Sh68Neutral.told (answer (if (pairsFew ((nats ps).length / 4) && decide ((nats xy).length / 2 ≤ 4096)) = true then Sh68.Call.carry (nats ps) (nats xy) else Sh68.Call.bad)) = [-2]
  rw [pairs_few, nats_len xy, if_neg (by simp only [Bool.and_eq_true, decide_eq_true_eq]; exact h)]
  rfl
theorem carry_off {ps xy : List Int} (hp : ∀ x ∈ ps, 0 ≤ x) (hq : ∀ x ∈ xy, 0 ≤ x) (h : ps.length / 4 ≤ 32 ∧ xy.length / 2 ≤ 4096) (ho : off ps = true ∨ off xy = true) : PySh68.tm_carry ps xy = [-3] := by
  show Sh68Neutral.told (answer (if (pairsFew ((nats ps).length / 4) && decide ((nats xy).length / 2 ≤ 4096)) = true then Sh68.Call.carry (nats ps) (nats xy) else Sh68.Call.bad)) = [-3]
  rw [pairs_few, nats_len xy, if_pos (by simp only [Bool.and_eq_true, decide_eq_true_eq]; exact h)]
  show Sh68Neutral.told (if small (nats ps) = false ∨ small (nats xy) = false then _ else _) = _
  rw [small_is hp, small_is hq, if_pos (by rcases ho with z | z <;> unfold off at z <;> rw [z] <;> simp)]
  rfl
theorem carry_none {ps xy : List Int} (hp : ∀ x ∈ ps, 0 ≤ x) (hq : ∀ x ∈ xy, 0 ≤ x) (h : ps.length / 4 ≤ 32 ∧ xy.length / 2 ≤ 4096) (h1 : off ps = false) (h2 : off xy = false) (hf : fit (prs ps) = none) : PySh68.tm_carry ps xy = [-4] := by
  show Sh68Neutral.told (answer (if (pairsFew ((nats ps).length / 4) && decide ((nats xy).length / 2 ≤ 4096)) = true then Sh68.Call.carry (nats ps) (nats xy) else Sh68.Call.bad)) = [-4]
  rw [pairs_few, nats_len xy, if_pos (by simp only [Bool.and_eq_true, decide_eq_true_eq]; exact h)]
  show Sh68Neutral.told (if small (nats ps) = false ∨ small (nats xy) = false then fail (-3) else (match fit (prs ps) with
    | none => fail (-4)
    | some f => done [(stars xy).flatMap fun p => [wordOf (carried f p).1, wordOf (carried f p).2]])) = _
  unfold off at h1 h2
  rw [small_is hp, small_is hq, h1, h2, if_neg (by simp), hf]
  rfl
theorem carry_due {ps xy : List Int} (hp : ∀ x ∈ ps, 0 ≤ x) (hq : ∀ x ∈ xy, 0 ≤ x) (h : ps.length / 4 ≤ 32 ∧ xy.length / 2 ≤ 4096) (h1 : off ps = false) (h2 : off xy = false) {f : Fit} (hf : fit (prs ps) = some f) :
    PySh68.tm_carry ps xy = 0 :: (stars xy).flatMap fun p => [((wordOf (carried f p).1 : Nat) : Int), ((wordOf (carried f p).2 : Nat) : Int)] := by
  show Sh68Neutral.told (answer (if (pairsFew ((nats ps).length / 4) && decide ((nats xy).length / 2 ≤ 4096)) = true then Sh68.Call.carry (nats ps) (nats xy) else Sh68.Call.bad)) = _
  rw [pairs_few, nats_len xy, if_pos (by simp only [Bool.and_eq_true, decide_eq_true_eq]; exact h)]
  show Sh68Neutral.told (if small (nats ps) = false ∨ small (nats xy) = false then fail (-3) else (match fit (prs ps) with
    | none => fail (-4)
    | some f => done [(stars xy).flatMap fun p => [wordOf (carried f p).1, wordOf (carried f p).2]])) = _
  unfold off at h1 h2
  rw [small_is hp, small_is hq, h1, h2, if_neg (by simp), hf]
  show (0 : Int) :: Sh68Neutral.ints _ = _
  unfold Sh68Neutral.ints
  rw [List.map_flatMap]
  rfl
/-! tm_far -/
theorem far_bad {p q : List Int} (h : ¬ p.length / 2 ≤ 4096) : PySh68.tm_far p q = [-2] := by
  show Sh68Neutral.told (answer (if decide ((nats p).length / 2 ≤ 4096) = true then Sh68.Call.far (nats p) (nats q) else Sh68.Call.bad)) = [-2]
  rw [nats_len, if_neg (by simp only [decide_eq_true_eq]; exact h)]
  rfl
theorem far_due {p q : List Int} (h : p.length / 2 ≤ 4096) : PySh68.tm_far p q = 0 :: (((stars p).zip (stars q)).map fun x => ((dist2 x.1 x.2 : Nat) : Int)) := by
  show Sh68Neutral.told (answer (if decide ((nats p).length / 2 ≤ 4096) = true then Sh68.Call.far (nats p) (nats q) else Sh68.Call.bad)) = _
  rw [nats_len, if_pos (by simp only [decide_eq_true_eq]; exact h)]
  show (0 : Int) :: Sh68Neutral.ints (((stars p).zip (stars q)).map fun x => dist2 x.1 x.2) = _
  unfold Sh68Neutral.ints
  rw [List.map_map]
  rfl
/-! tm_clean -/
theorem clean_bad {r : Int} {ps : List Int} (h : ¬ (ps.length / 4 ≤ 32 ∧ r.toNat ≤ 65535)) : PySh68.tm_clean r ps = [-2] := by
  show Sh68Neutral.told (answer (if (pairsFew ((nats ps).length / 4) && decide (r.toNat ≤ 65535)) = true then Sh68.Call.clean r.toNat (nats ps) else Sh68.Call.bad)) = [-2]
  rw [pairs_few, if_neg (by simp only [Bool.and_eq_true, decide_eq_true_eq]; exact h)]
  rfl
theorem clean_off {r : Int} {ps : List Int} (hp : ∀ x ∈ ps, 0 ≤ x) (h : ps.length / 4 ≤ 32 ∧ r.toNat ≤ 65535) (ho : off ps = true) : PySh68.tm_clean r ps = [-3] := by
  show Sh68Neutral.told (answer (if (pairsFew ((nats ps).length / 4) && decide (r.toNat ≤ 65535)) = true then Sh68.Call.clean r.toNat (nats ps) else Sh68.Call.bad)) = [-3]
  rw [pairs_few, if_pos (by simp only [Bool.and_eq_true, decide_eq_true_eq]; exact h)]
  show Sh68Neutral.told (if small (nats ps) = false then _ else _) = _
  unfold off at ho
  rw [small_is hp, ho, if_pos (by decide)]
  rfl
theorem clean_due {r : Int} {ps : List Int} (hp : ∀ x ∈ ps, 0 ≤ x) (h : ps.length / 4 ≤ 32 ∧ r.toNat ≤ 65535) (ho : off ps = false) :
    PySh68.tm_clean r ps = ((cleaned r.toNat (ps.length / 4) (prs ps)).length : Int) :: (cleaned r.toNat (ps.length / 4) (prs ps)).flatMap fun p => [((p.1.1.toNat : Nat) : Int), ((p.1.2.toNat : Nat) : Int), ((p.2.1.toNat : Nat) : Int), ((p.2.2.toNat : Nat) : Int)] := by
  show Sh68Neutral.told (answer (if (pairsFew ((nats ps).length / 4) && decide (r.toNat ≤ 65535)) = true then Sh68.Call.clean r.toNat (nats ps) else Sh68.Call.bad)) = _
  rw [pairs_few, if_pos (by simp only [Bool.and_eq_true, decide_eq_true_eq]; exact h)]
  show Sh68Neutral.told (if small (nats ps) = false then fail (-3) else many (cleaned r.toNat ((nats ps).length / 4) (prs ps)).length [flat (cleaned r.toNat ((nats ps).length / 4) (prs ps))]) = _
  unfold off at ho
  rw [small_is hp, ho, if_neg (by decide), nats_len]
  show ((cleaned r.toNat (ps.length / 4) (prs ps)).length : Int) :: Sh68Neutral.ints (flat (cleaned r.toNat (ps.length / 4) (prs ps))) = _
  unfold Sh68Neutral.ints flat
  rw [List.map_flatMap]
  rfl
/-! tm_grow -/
abbrev growOk (r : Int) (ps ns ms : List Int) : Prop := ps.length / 4 ≤ 32 ∧ ns.length / 2 ≤ 64 ∧ ms.length / 2 ≤ 64 ∧ r.toNat ≤ 65535
theorem grow_bad {r : Int} {ps ns ms : List Int} (h : ¬ growOk r ps ns ms) : PySh68.tm_grow r ps ns ms = [-2] := by
  show Sh68Neutral.told (answer (if (pairsFew ((nats ps).length / 4) && (decide ((nats ns).length / 2 ≤ 64) && (decide ((nats ms).length / 2 ≤ 64) && decide (r.toNat ≤ 65535)))) = true then Sh68.Call.grow r.toNat (nats ps) (nats ns) (nats ms) else Sh68.Call.bad)) = [-2]
  rw [pairs_few, nats_len ns, nats_len ms, if_neg (by simp only [Bool.and_eq_true, decide_eq_true_eq]; exact h)]
  rfl
theorem grow_off {r : Int} {ps ns ms : List Int} (hp : ∀ x ∈ ps, 0 ≤ x) (hq : ∀ x ∈ ns, 0 ≤ x) (ht : ∀ x ∈ ms, 0 ≤ x) (h : growOk r ps ns ms) (ho : off ps = true ∨ off ns = true ∨ off ms = true) : PySh68.tm_grow r ps ns ms = [-3] := by
  show Sh68Neutral.told (answer (if (pairsFew ((nats ps).length / 4) && (decide ((nats ns).length / 2 ≤ 64) && (decide ((nats ms).length / 2 ≤ 64) && decide (r.toNat ≤ 65535)))) = true then Sh68.Call.grow r.toNat (nats ps) (nats ns) (nats ms) else Sh68.Call.bad)) = [-3]
  rw [pairs_few, nats_len ns, nats_len ms, if_pos (by simp only [Bool.and_eq_true, decide_eq_true_eq]; exact h)]
  show Sh68Neutral.told (if small (nats ps) = false ∨ (small (nats ns) = false ∨ small (nats ms) = false) then _ else _) = _
  rw [small_is hp, small_is hq, small_is ht, if_pos (by rcases ho with z | z | z <;> unfold off at z <;> rw [z] <;> simp)]
  rfl
theorem grow_none {r : Int} {ps ns ms : List Int} (hp : ∀ x ∈ ps, 0 ≤ x) (hq : ∀ x ∈ ns, 0 ≤ x) (ht : ∀ x ∈ ms, 0 ≤ x) (h : growOk r ps ns ms) (h1 : off ps = false) (h2 : off ns = false) (h3 : off ms = false) (hf : fit (prs ps) = none) : PySh68.tm_grow r ps ns ms = [-4] := by
  show Sh68Neutral.told (answer (if (pairsFew ((nats ps).length / 4) && (decide ((nats ns).length / 2 ≤ 64) && (decide ((nats ms).length / 2 ≤ 64) && decide (r.toNat ≤ 65535)))) = true then Sh68.Call.grow r.toNat (nats ps) (nats ns) (nats ms) else Sh68.Call.bad)) = [-4]
  rw [pairs_few, nats_len ns, nats_len ms, if_pos (by simp only [Bool.and_eq_true, decide_eq_true_eq]; exact h)]
  show Sh68Neutral.told (if small (nats ps) = false ∨ (small (nats ns) = false ∨ small (nats ms) = false) then fail (-3) else (match fit (prs ps) with
    | none => fail (-4)
    | some f => many (grown f r.toNat (stars ns) (stars ms)).length [pairTold (grown f r.toNat (stars ns) (stars ms))])) = _
  unfold off at h1 h2 h3
  rw [small_is hp, small_is hq, small_is ht, h1, h2, h3, if_neg (by simp), hf]
  rfl
theorem grow_due {r : Int} {ps ns ms : List Int} (hp : ∀ x ∈ ps, 0 ≤ x) (hq : ∀ x ∈ ns, 0 ≤ x) (ht : ∀ x ∈ ms, 0 ≤ x) (h : growOk r ps ns ms) (h1 : off ps = false) (h2 : off ns = false) (h3 : off ms = false) {f : Fit} (hf : fit (prs ps) = some f) : PySh68.tm_grow r ps ns ms = toldPairs (grown f r.toNat (stars ns) (stars ms)) := by
  show Sh68Neutral.told (answer (if (pairsFew ((nats ps).length / 4) && (decide ((nats ns).length / 2 ≤ 64) && (decide ((nats ms).length / 2 ≤ 64) && decide (r.toNat ≤ 65535)))) = true then Sh68.Call.grow r.toNat (nats ps) (nats ns) (nats ms) else Sh68.Call.bad)) = _
  rw [pairs_few, nats_len ns, nats_len ms, if_pos (by simp only [Bool.and_eq_true, decide_eq_true_eq]; exact h)]
  show Sh68Neutral.told (if small (nats ps) = false ∨ (small (nats ns) = false ∨ small (nats ms) = false) then fail (-3) else (match fit (prs ps) with
    | none => fail (-4)
    | some f => many (grown f r.toNat (stars ns) (stars ms)).length [pairTold (grown f r.toNat (stars ns) (stars ms))])) = _
  unfold off at h1 h2 h3
  rw [small_is hp, small_is hq, small_is ht, h1, h2, h3, if_neg (by simp), hf]
  exact told_pairs _
end Tm

namespace Tm
open Sh68 Sh68Neutral
/-! ### the first of the greatest -/
def topBy (w : Nat → Nat) (n : Nat) : Nat := (List.range n).foldl (fun (b : Nat) (i : Nat) => if w b < w i then i else b) 0
theorem topBy_is (w : Nat → Nat) : ∀ n, (0 < n → topBy w n < n) ∧ (∀ k < n, w k ≤ w (topBy w n)) ∧ (∀ k < topBy w n, w k < w (topBy w n))
  | 0 => ⟨fun h => absurd h (Nat.lt_irrefl 0), fun k hk => absurd hk (Nat.not_lt_zero k), fun k hk => absurd hk (Nat.not_lt_zero k)⟩
  | n + 1 => by
    obtain ⟨h1, h2, h3⟩ := topBy_is w n
    have e : topBy w (n + 1) = if w (topBy w n) < w n then n else topBy w n := by
      unfold topBy
      rw [List.range_succ, List.foldl_append]
      rfl
    rw [e]
    by_cases h : w (topBy w n) < w n
    · rw [if_pos h]
      refine ⟨fun _ => Nat.lt_succ_self n, fun k hk => ?_, fun k hk => ?_⟩
      · by_cases hn : k = n
        · rw [hn]
          exact Nat.le_refl _
        · have := h2 k (by omega)
          omega
      · have := h2 k hk
        omega
    · rw [if_neg h]
      refine ⟨fun _ => ?_, fun k hk => ?_, h3⟩
      · by_cases hn : n = 0
        · subst hn
          show (0 : Nat) < 1
          omega
        · have := h1 (by omega)
          omega
      · by_cases hn : k = n
        · rw [hn]
          omega
        · exact h2 k (by omega)
/-! ### pairs chosen, cell by cell -/
/-- a comes ahead of b: more votes, of as many the first -/
def Ahead (v : Nat → Nat) (a b : Nat) : Prop := v b < v a ∨ (v a = v b ∧ a < b)
def stp (m : Nat) (acc : List (Nat × Nat)) (k : Nat) : List (Nat × Nat) := if k / m ∉ acc.map (·.1) ∧ k % m ∉ acc.map (·.2) then acc ++ [(k / m, k % m)] else acc
def Fuel (n m f : Nat) (acc : List (Nat × Nat)) : Prop :=
  (∃ Rs : List Nat, Rs.length ≤ f ∧ ∀ i < n, i ∉ acc.map (·.1) → i ∈ Rs) ∨ (∃ Cs : List Nat, Cs.length ≤ f ∧ ∀ j < m, j ∉ acc.map (·.2) → j ∈ Cs)
theorem run_is {n m least : Nat} (hm : 0 < m) (v : Nat → Nat) : ∀ (L : List Nat) (f : Nat) (acc : List (Nat × Nat)) (l : List Nat),
    (∀ k < n * m, num l k = if k / m ∈ acc.map (·.1) ∨ k % m ∈ acc.map (·.2) then 0 else v k) →
    (∀ k < n * m, max 1 least ≤ v k → k / m ∉ acc.map (·.1) → k % m ∉ acc.map (·.2) → k ∈ L) → (∀ k ∈ L, k < n * m ∧ max 1 least ≤ v k) → L.Pairwise (Ahead v) → Fuel n m f acc → 0 < n →
    L.foldl (stp m) acc = acc ++ chosenBy n m least f l
  | [], f, acc, l, hl, hL, _, _, _, hn => by
    rw [List.foldl_nil]
    have e : chosenBy n m least f l = [] := by
      cases f with
      | zero => rfl
      | succ f =>
        show (if num l (topBy (num l) (n * m)) < max 1 least then [] else _) = []
        rw [if_pos]
        have hN : 0 < n * m := Nat.mul_pos hn hm
        have hb := (topBy_is (num l) (n * m)).1 hN
        rw [hl _ hb]
        split
        · omega
        · rename_i h
          have h1 : ¬ topBy (num l) (n * m) / m ∈ acc.map (·.1) := fun z => h (.inl z)
          have h2 : ¬ topBy (num l) (n * m) % m ∈ acc.map (·.2) := fun z => h (.inr z)
          have z := hL _ hb
          exact Nat.lt_of_not_le fun y => absurd (z y h1 h2) (by simp)
    rw [e, List.append_nil]
  | k :: t, f, acc, l, hl, hL, hS, hP, hF, hn => by
    rw [List.foldl_cons]
    have hk := hS k List.mem_cons_self
    have hPt := List.pairwise_cons.mp hP
    by_cases hfree : k / m ∉ acc.map (·.1) ∧ k % m ∉ acc.map (·.2)
    · have e1 : stp m acc k = acc ++ [(k / m, k % m)] := if_pos hfree
      rw [e1]
      have hi : k / m < n := Nat.div_lt_of_lt_mul (by rw [Nat.mul_comm]; exact hk.1)
      have hj : k % m < m := Nat.mod_lt _ hm
      have hN : 0 < n * m := Nat.mul_pos hn hm
      obtain ⟨b1, b2, b3⟩ := topBy_is (num l) (n * m)
      have b1 := b1 hN
      have vk : num l k = v k := by
        rw [hl k hk.1, if_neg]
        rintro (z | z)
        · exact hfree.1 z
        · exact hfree.2 z
      have hbest : topBy (num l) (n * m) = k := by
        have g1 := b2 k hk.1
        have vb := hl _ b1
        by_cases hz : topBy (num l) (n * m) / m ∈ acc.map (·.1) ∨ topBy (num l) (n * m) % m ∈ acc.map (·.2)
        · rw [if_pos hz] at vb
          have := hk.2
          omega
        · rw [if_neg hz] at vb
          have hmem := hL _ b1 (by have := hk.2; omega) (fun z => hz (.inl z)) (fun z => hz (.inr z))
          rcases List.mem_cons.mp hmem with e | e
          · exact e
          · rcases hPt.1 _ e with g | ⟨g, g'⟩
            · omega
            · have := b3 k g'
              omega
      -- the fuel
      obtain ⟨f', rfl, hF'⟩ : ∃ f', f = f' + 1 ∧ Fuel n m f' (acc ++ [(k / m, k % m)]) := by
        rcases hF with ⟨Rs, h1, h2⟩ | ⟨Cs, h1, h2⟩
        · have hmem := h2 _ hi hfree.1
          have hpos : 0 < Rs.length := List.length_pos_of_mem hmem
          refine ⟨f - 1, by omega, .inl ⟨Rs.erase (k / m), by rw [List.length_erase_of_mem hmem]; omega, fun i hi' hni => ?_⟩⟩
          rw [List.map_append, List.mem_append] at hni
          have n1 : i ∉ acc.map (·.1) := fun z => hni (.inl z)
          have n2 : i ≠ k / m := fun z => hni (.inr (by rw [z]; simp))
          exact (List.mem_erase_of_ne n2).mpr (h2 i hi' n1)
        · have hmem := h2 _ hj hfree.2
          have hpos : 0 < Cs.length := List.length_pos_of_mem hmem
          refine ⟨f - 1, by omega, .inr ⟨Cs.erase (k % m), by rw [List.length_erase_of_mem hmem]; omega, fun i hi' hni => ?_⟩⟩
          rw [List.map_append, List.mem_append] at hni
          have n1 : i ∉ acc.map (·.2) := fun z => hni (.inl z)
          have n2 : i ≠ k % m := fun z => hni (.inr (by rw [z]; simp))
          exact (List.mem_erase_of_ne n2).mpr (h2 i hi' n1)
      have e2 : chosenBy n m least (f' + 1) l = (k / m, k % m) :: chosenBy n m least f' ((List.range (n * m)).map fun x => if x / m = k / m ∨ x % m = k % m then 0 else num l x) := by
        show (if num l (topBy (num l) (n * m)) < max 1 least then [] else (topBy (num l) (n * m) / m, topBy (num l) (n * m) % m) :: chosenBy n m least f' ((List.range (n * m)).map fun x => if x / m = topBy (num l) (n * m) / m ∨ x % m = topBy (num l) (n * m) % m then 0 else num l x)) = _
        rw [hbest, if_neg (by have := hk.2; omega)]
      rw [e2, run_is hm v t f' (acc ++ [(k / m, k % m)]) _ (fun x hx => ?_) (fun x hx hv n1 n2 => ?_) (fun x hx => hS x (List.mem_cons_of_mem _ hx)) hPt.2 hF' hn, List.append_assoc]
      · rfl
      · have e3 : num ((List.range (n * m)).map fun x => if x / m = k / m ∨ x % m = k % m then 0 else num l x) x = if x / m = k / m ∨ x % m = k % m then 0 else num l x := by
          unfold num
          rw [List.getD_eq_getElem?_getD, List.getElem?_map, List.getElem?_range hx]
          rfl
        rw [e3, hl x hx]
        simp only [List.map_append, List.mem_append, List.map_cons, List.map_nil, List.mem_singleton]
        by_cases c1 : x / m = k / m <;> by_cases c2 : x % m = k % m <;> by_cases c3 : x / m ∈ acc.map (·.1) <;> by_cases c4 : x % m ∈ acc.map (·.2) <;> simp [c1, c2, c3, c4]
      · rw [List.map_append, List.mem_append] at n1 n2
        have m1 : x / m ∉ acc.map (·.1) := fun z => n1 (.inl z)
        have m2 : x % m ∉ acc.map (·.2) := fun z => n2 (.inl z)
        rcases List.mem_cons.mp (hL x hx hv m1 m2) with e | e
        · exact absurd (.inr (by rw [e]; simp)) n1
        · exact e
    · have e1 : stp m acc k = acc := if_neg hfree
      rw [e1]
      refine run_is hm v t f acc l hl (fun x hx hv n1 n2 => ?_) (fun x hx => hS x (List.mem_cons_of_mem _ hx)) hPt.2 hF hn
      rcases List.mem_cons.mp (hL x hx hv n1 n2) with e | e
      · subst e
        exact absurd ⟨n1, n2⟩ hfree
      · exact e
theorem chosen_is {n m least : Nat} (hn : 0 < n) (hm : 0 < m) {l L : List Nat} (h1 : ∀ k, k ∈ L ↔ k < n * m ∧ max 1 least ≤ num l k) (hP : L.Pairwise (Ahead (num l))) : L.foldl (stp m) [] = chosen n m least l := by
  unfold chosen
  rw [run_is hm (num l) L (min n m) [] l (fun k _ => by simp) (fun k hk hv _ _ => (h1 k).mpr ⟨hk, hv⟩) (fun k hk => (h1 k).mp hk) hP ?_ hn, List.nil_append]
  by_cases h : n ≤ m
  · exact .inl ⟨List.range n, by rw [List.length_range]; omega, fun i hi _ => List.mem_range.mpr hi⟩
  · exact .inr ⟨List.range m, by rw [List.length_range]; omega, fun i hi _ => List.mem_range.mpr hi⟩
theorem chosenBy_len {n m least : Nat} : ∀ (f : Nat) (l : List Nat), (chosenBy n m least f l).length ≤ f
  | 0, _ => Nat.le_refl 0
  | f + 1, l => by
    show (if num l (topBy (num l) (n * m)) < max 1 least then [] else (topBy (num l) (n * m) / m, topBy (num l) (n * m) % m) :: chosenBy n m least f _ : List (Nat × Nat)).length ≤ f + 1
    split
    · exact Nat.zero_le _
    · rw [List.length_cons]
      exact Nat.succ_le_succ (chosenBy_len f _)
theorem chosen_len {n m least : Nat} {l : List Nat} : (chosen n m least l).length ≤ min n m := chosenBy_len _ _
/-! ### sorted, as great ones in their order -/
theorem two_sub {a b : Nat} : ∀ {l : List Nat}, a ∈ l → b ∈ l → a ≠ b → [a, b].Sublist l ∨ [b, a].Sublist l
  | [], h, _, _ => absurd h (by simp)
  | x :: t, ha, hb, hne => by
    rcases List.mem_cons.mp ha with e1 | e1 <;> rcases List.mem_cons.mp hb with e2 | e2
    · exact absurd (e1.trans e2.symm) hne
    · left
      rw [e1]
      exact List.Sublist.cons_cons _ (List.singleton_sublist.mpr e2)
    · right
      rw [e2]
      exact List.Sublist.cons_cons _ (List.singleton_sublist.mpr e1)
    · rcases two_sub e1 e2 hne with z | z
      · exact .inl (z.cons _)
      · exact .inr (z.cons _)
theorem no_both {a b : Nat} : ∀ {l : List Nat}, l.Nodup → [a, b].Sublist l → ¬ [b, a].Sublist l
  | [], _, h, _ => by cases h
  | x :: t, hnd, h1, h2 => by
    obtain ⟨n1, n2⟩ := List.nodup_cons.mp hnd
    cases h1 with
    | cons _ h1 =>
      cases h2 with
      | cons _ h2 => exact no_both n2 h1 h2
      | cons_cons _ h2 => exact n1 (h1.subset (by simp))
    | cons_cons _ h1 =>
      cases h2 with
      | cons _ h2 => exact n1 (h2.subset (by simp))
      | cons_cons _ h2 => exact n1 (h1.subset (by simp))
theorem sort_ahead {v : Nat → Nat} {cs : List Nat} (hc : cs.Pairwise (· < ·)) : (cs.mergeSort fun i j => decide (v j ≤ v i)).Pairwise (Ahead v) := by
  have tr : ∀ a b c : Nat, decide (v b ≤ v a) = true → decide (v c ≤ v b) = true → decide (v c ≤ v a) = true := fun a b c h1 h2 => by
    have h1 := of_decide_eq_true h1
    have h2 := of_decide_eq_true h2
    exact decide_eq_true (Nat.le_trans h2 h1)
  have to : ∀ a b : Nat, (decide (v b ≤ v a) || decide (v a ≤ v b)) = true := fun a b => by
    rcases Nat.le_total (v b) (v a) with h | h
    · rw [decide_eq_true h]; rfl
    · rw [decide_eq_true h, Bool.or_true]
  have hs := List.pairwise_mergeSort (le := fun i j => decide (v j ≤ v i)) tr to cs
  have hperm := List.mergeSort_perm cs (fun i j => decide (v j ≤ v i))
  have hnd0 : cs.Nodup := hc.imp fun h => Nat.ne_of_lt h
  have hnd : (cs.mergeSort fun i j => decide (v j ≤ v i)).Nodup := hperm.nodup_iff.mpr hnd0
  refine List.pairwise_iff_forall_sublist.mpr fun {a b} hab => ?_
  have hle : v b ≤ v a := of_decide_eq_true (List.pairwise_iff_forall_sublist.mp hs hab)
  rcases Nat.lt_or_ge (v b) (v a) with h | h
  · exact .inl h
  have heq : v a = v b := Nat.le_antisymm h hle
  have hne : a ≠ b := fun z => by
    have := hnd.sublist hab
    simp [z] at this
  refine .inr ⟨heq, ?_⟩
  have ma : a ∈ cs := hperm.mem_iff.mp (hab.subset (by simp))
  have mb : b ∈ cs := hperm.mem_iff.mp (hab.subset (by simp))
  rcases two_sub ma mb hne with z | z
  · exact List.pairwise_iff_forall_sublist.mp hc z
  · exact absurd (List.pair_sublist_mergeSort tr to (decide_eq_true (by omega)) z) (no_both hnd hab)
end Tm
namespace Tm
open Sh68 Sh68Neutral
theorem nats_back {ns : List Int} (h : ∀ x ∈ ns, 0 ≤ x) : (nats ns).map (fun x => ((x : Nat) : Int)) = ns := by
  unfold nats
  rw [List.map_map]
  have e : ∀ x ∈ ns, ((fun x : Nat => ((x : Nat) : Int)) ∘ Int.toNat) x = id x := fun x hx => Int.toNat_of_nonneg (h x hx)
  rw [List.map_congr_left e, List.map_id]
theorem choose_asked {n least : Int} {l : List Int} (h : PySh68.tm_choose_asked n least l = true) : l.length = n.toNat * (l.length / n.toNat) := by
  have h1 := (Bool.and_eq_true_iff.mp h).1
  have h2 : (natural n 32 && (natural least 32 && (l.all (fun (z : Int) => natural z 32) && ((if (Sh68.among ((n.toNat)) 1 64 && Sh68.among (((nats l).length / n.toNat)) 1 64) = true then l.length == ((n.toNat) * (((nats l).length / n.toNat))) else (l.isEmpty) || (l.length == ((n.toNat) * (((nats l).length / n.toNat))))))))) = true := h1
  have h3 := (Bool.and_eq_true_iff.mp (Bool.and_eq_true_iff.mp (Bool.and_eq_true_iff.mp h2).2).2).2
  rw [nats_len] at h3
  split at h3
  · exact beq_iff_eq.mp h3
  · rcases Bool.or_eq_true_iff.mp h3 with z | z
    · rw [List.isEmpty_iff.mp z]
      simp
    · exact beq_iff_eq.mp z
end Tm

namespace Tm
open PySem PySem.Spec PyProof.Rows L2 PySem.AutoSeq1
/-- list.extend with a tuple's object, whatever dict and slots it bears -/
theorem extend_tuple (a t : Addr) (us ws : Array Value) (n m : Nat) (td : Option Addr) (ts : Array (Option Value)) (short : Builtin.List.listTooLong (us.size + ws.size) = false) (h1 : us.size ≤ sizeLine) (h2 : us.size + ws.size ≤ sizeLine + 1) :
    Meets (Builtin.«list.extend» ⟨[.ref a, .ref t], []⟩) fun _ R s => s.heap.get? a = some { cls := .type "list", dict := none, data := .seq us n, slots := #[] } ∧ s.heap.get? t = some { cls := .type "tuple", dict := td, data := .seq ws m, slots := ts } ∧
      R (.ok (.ret Value.none)) { s with heap := s.heap.update a (Obj.mapSeq fun x => x ++ ws), toks := s.toks } := by
  refine .of_wp fun prog w A R s => ?_
  rintro ⟨ea, et, done⟩
  have nolong : ¬(!us.isEmpty && Builtin.List.listTooLong (us.size + ws.size)) = true := by simp [short]
  have both : (us ++ ws).size ≤ sizeLine + 1 := Array.size_append ▸ h2
  obtain ⟨heap, gens, drawn, toks, os⟩ := s
  have k1 := idx_int
  have k2 := AutoSeq1.sub_tuple_tuple
  have k3 := AutoSeq1.sub_list_list
  have k4 := AutoSeq1.sub_tuple_list
  have k5 := AutoSeq1.sub_list_tuple
  wp_walk using (wpAny_updateSeq ea rfl (hz := h1) (_hz' := both)), wpAny_loadPart' ea, wpAny_loadPart' et
  exact ⟨_, rfl, done⟩
section
variable {X : Cx}
/-- xs.extend(t), t a tuple -/
def rExtendT : V → List V → Hp → VK → Prop := fun x vs H Q => ∃ l b xs zs, x = .ref l ∧ vs = [.ref b] ∧ H l = some (.lst xs) ∧ H b = some (.tup zs) ∧ xs.length + zs.length ≤ sizeLine ∧ Q .non (upd H l (.lst (xs ++ zs)))
theorem mt_extendT : MtM X "list.extend" rExtendT := by
  rintro pins s σ H _ _ v us Q I rx rv ⟨l, b, xs, zs, rfl, rfl, atL, atT, fits, done⟩
  obtain rfl : v = Value.ref l := rx
  obtain rfl := Vals.ref1 rv
  obtain ⟨-, ls, n, vL, lenL, objL⟩ := I.lstM atL
  obtain ⟨ts, vT, ⟨⟨_, td, _, tsl⟩, objT, rfl, m, rfl⟩, -⟩ := I.tuple (SqT.of atT)
  have lenT := vT.length
  have both : ls.toArray.size + ts.toArray.size ≤ sizeLine := by
    simp only [List.size_toArray]
    omega
  have meets := extend_tuple l b ls.toArray ts.toArray n m td tsl (notLongL both) (Nat.le_trans (Nat.le_add_right _ _) both) (Nat.le_succ_of_le both)
  refine call_meets F.slot_list_extend ⟨_, objL, rfl⟩ F.entry_list_extend (F.args_list_extend_2 _ _) meets ⟨objL, objT, .non, _, ?_, rfl, done⟩
  exact I.lset (its' := ls ++ ts) atL objL (by simp) (vL.append vT) (by rw [List.length_append]; exact fits)
/-- a statement, then the rest, the slots written out between them -/
def tSeqN (t u : TS) : TS := fun D σ H => t { D with nx := fun σ1 H1 => ∃ σ', σ1 = σ' ∧ u D σ' H1 } σ H
theorem pss_consN {st : Stmt} {rest : List Stmt} {t u : TS} (h1 : PS X st t) (h2 : PSs X rest u) : PSs X (st :: rest) (tSeqN t u) := by
  refine ⟨fun pins s σ H D I h => ?_⟩
  refine wpAny_execs_cons (thn (h1.run pins s σ H { D with nx := fun σ1 H1 => ∃ σ', σ1 = σ' ∧ u D σ' H1 } I h) fun f s1 q => ?_)
  cases f with
  | next =>
    obtain ⟨σ1, H', I', σ', e, q⟩ := q
    subst e
    exact h2.run pins s1 _ H' D I' q
  | ret v => exact q
  | brk => exact q
  | cont => exact q
/-- xs[i] read ahead of xs[i] op= e, i from 0 on -/
def rGetL (K : PySem.W.Frag) : R2 := fun x y H Q => ∃ (p : Addr) (xs : List V) (i : Int) (j : Nat) (v : V), x = .ref p ∧ y = .int i ∧ SqL K H p xs ∧ i = (j : Int) ∧ xs[j]? = some v ∧ Q v H
theorem get_list : PGet X (rGetL X.K) := by
  rintro pins s σ H _ _ ov iv Q I ro ri ⟨p, xs, _, j, v, rfl, rfl, hs, rfl, hv, done⟩
  obtain ⟨t, rfl⟩ := ri
  obtain rfl : ov = Value.ref p := ro
  obtain ⟨us, vals, plain, size⟩ := I.list hs
  obtain ⟨u, hu, ru⟩ := vals.get hv
  have small : j < xs.length := (List.getElem?_eq_some_iff.mp hv).1
  have line := line63
  exact wpAny_getItem_list plain.isList (Int.natCast_nonneg j) (by omega) (by simpa using hu) ⟨v, H, I, ru, done⟩
end
end Tm

namespace Tm
open PySem PySem.Spec PyProof.Rows L2 LamX
/-! ### sorted(xs, key=lambda x: -y[x]) -/
abbrev negBody (x y : Str) (p1 p2 p3 p4 : Pos) : Expr := .UnaryOp .USub (.Subscript (.Name y p1) (.Name x p2) p3) p4
/-- the key's one call, over the very heap -/
theorem neg_turn {prog : Program} {w : World} {A : Around} {s : Shared} {f c' c a : Addr} {qual x y : Str} {params : Arguments} {scope : Scope} {cl : List (Str × Addr)} {pm ctv : Value} {p1 p2 p3 p4 : Pos} {items : Array Value} {j n : Int} {t t' : Tok}
    (ho : s.heap.get? f = some (PySem.W.kla_obj "<lambda>" qual params (negBody x y p1 p2 p3 p4) scope cl pm c' ctv)) (hcd : s.heap.CodeRec (.ref c') qual) (hlim : s.heap.NoLimit) (hroom : A.depth < recursionLimit)
    (hkd : scope.kind = .function) (hco : scope.isCoroutine = false) (hgen : scope.isGenerator = false) (hnc : ∀ z ∈ scope.names, z.2 ≠ .cell) (hx : scope.names.lookup x = some .local) (hy : scope.names.lookup y = some .free)
    (hbind : bindArgs (PySem.W.kla_fn "<lambda>" qual params (negBody x y p1 p2 p3 p4) scope cl pm (.ref c') ctv) ⟨[.int j t], []⟩ = pure [(x, .int j t)])
    (hc : cl.lookup y = some c) (hcell : s.heap.IsCell c (some (.ref a))) (hl : s.heap.IsList a items) (h0 : 0 ≤ j) (hj : j < 2 ^ 63) (hi : items[j.toNat]? = some (.int n t'))
    (hd1 : (x == ("__debug__" : Str)) = false) (hd2 : (y == ("__debug__" : Str)) = false) (hd3 : (y == ("__classdict__" : Str)) = false) :
    wpAny (model prog w) A (call (.ref f) [.int j t]) (PySem.W.KeyPure (.int (-n)) s) (fun _ _ => False) s := by
  refine wpAny_call ?_
  refine PySem.W.kla_callFunE hroom ho rfl hco hgen rfl hcd ?_
  rw [hbind]
  refine wpAny_pure (wpAny_newFunctionEnv hnc (fun z hz => by rw [List.mem_singleton.mp hz]; exact hx) (fun h₁ hns hsb => ⟨hlim.fresh _ hsb, ?_⟩) hkd)
  have kp : ∀ b o, s.heap.get? b = some o → h₁.get? b = some o := fun b o e => hsb.extBut b o (Nat.ne_of_lt (Heap.lt_size e)) (Heap.get?_push_of_some _ e)
  refine PySem.W.kla_codeExpr ?_
  have hcell1 : h₁.IsCell c (some (.ref a)) := let ⟨o, e, d⟩ := hcell; ⟨o, kp _ _ e, d⟩
  have hl1 : h₁.IsList a items := let ⟨o, e, d⟩ := hl; ⟨o, kp _ _ e, d⟩
  refine UnaryOp_ (Subscript_ ?_)
  refine wpAny_Name (wpAny_loadName_free (c := c) (v := .ref a) hkd hy hc hcell1 ?_ hd3) hd2
  refine wpAny_Name (wpAny_loadName_local (v := .int j t) hkd hx hns (by simp [List.lookup]) ?_) hd1
  refine item_listR (x := .int n t') hl1 h0 hj hi ?_ (by with_unfolding_all rfl)
  refine neg_int ?_
  exact ⟨h₁, _, rfl, kp, .int _ _⟩
theorem vals_each : ∀ {cs : List Int} {us : List Value}, Vals (cs.map V.int) us → PySem.W.EachIs (fun v (x : Int) => ∃ t, v = .int x t) us cs
  | [], _, .nil => .nil
  | _ :: _, _, .cons h r => .cons h (vals_each r)
theorem each_vals : ∀ {cs : List Int} {us : List Value}, PySem.W.EachIs (fun v (x : Int) => ∃ t, v = .int x t) us cs → Vals (cs.map V.int) us
  | [], _, .nil => .nil
  | _ :: _, _, .cons h r => .cons h (each_vals r)
theorem extN_seq {K : PySem.W.Frag} {H H' : Hp} {a : Addr} {xs : List V} (e : ExtN H H') (h : SqL K H a xs) : SqL K H' a xs := by
  rcases h with (h | ⟨o, h⟩) | h
  · exact .inl (.inl (e _ _ h fun ps z => by cases z))
  · exact .inl (.inr ⟨o, e _ _ h fun ps z => by cases z⟩)
  · exact .inr h
def keyAt (ns : List Int) (j : Int) : Int := -(ns.getD j.toNat 0)
def sortedBy (ns cs : List Int) : List Int := cs.mergeSort fun i j => decide (keyAt ns i ≤ keyAt ns j)
def rSortNeg (K : PySem.W.Frag) (P : Addr) (q : Str) (iy : Nat) (Q : VK) (σ : L2.St) : V → Hp → Prop := fun v H1 =>
  ∃ (l a : Addr) (cs ns : List Int), v = .ref l ∧ σ[iy]? = some (some (.ref a)) ∧ SqL K H1 l (cs.map V.int) ∧ SqL K H1 a (ns.map V.int) ∧ (∀ j ∈ cs, 0 ≤ j ∧ j.toNat < ns.length) ∧ TabS H1 P q ∧
    ∀ H2 r, ExtN H1 H2 → (∀ o, H1 r = some o → ∃ ps, o = .tbl ps) → H2 r = some (.lst ((sortedBy ns cs).map V.int)) → Q (.ref r) H2
def tSortNeg (K : PySem.W.Frag) (P : Addr) (q : Str) (iy : Nat) (te : TE) : TE := fun σ H Q => te σ H (rSortNeg K P q iy Q σ)
theorem pe_sortNeg {X : Cx} {c P : Addr} {params : Arguments} {scope : Scope} {x y : Str} {iy k : Nat} {e : Expr} {te : TE} {p p1 p2 p3 p4 lpos kpos pos : Pos}
    (hg : Gl X "sorted") (hm : X.mg "sorted" = none) (TB : TabB X.base X.mg c P) (hcode : X.env.code = .ref c) (hr : Room (k + 1) X.A)
    (hN : X.N[iy]? = some y) (hyc : X.env.scope.names.lookup y = some .cell) (hkd : scope.kind = .function) (hco : scope.isCoroutine = false) (hgen : scope.isGenerator = false) (hnc : ∀ z ∈ scope.names, z.2 ≠ .cell)
    (hx : scope.names.lookup x = some .local) (hy : scope.names.lookup y = some .free) (hfr : ∀ z ∈ scope.names, z.2 = .free → z.1 = y) (hdef : defaultsOf params X.env = ([], []))
    (hbind : ∀ (q : Str) (cl : List (Str × Addr)) (pm cv ctv v : Value), bindArgs (PySem.W.kla_fn "<lambda>" q params (negBody x y p1 p2 p3 p4) scope cl pm cv ctv) ⟨[v], []⟩ = pure [(x, v)]) (he : PE X e te)
    (hd1 : (x == ("__debug__" : Str)) = false := by decide) (hd2 : (y == ("__debug__" : Str)) = false := by decide) (hd3 : (y == ("__classdict__" : Str)) = false := by decide)
    (hs0 : starEach [e] X.env = (false, eval e X.env) :: starEach [] X.env := by rfl) (hs : backTo pos (starEach [e] X.env) = (false, eval e X.env) :: backTo pos (starEach [] X.env) := by rfl) (hpl : (backTo pos (starEach [e] X.env)).any (·.1) = false := by rfl) :
    PE X (.Call (.Name "sorted" p) [e] [⟨some "key", .Lambda params (negBody x y p1 p2 p3 p4) scope lpos, kpos⟩] pos) (tSortNeg X.K P (X.env.qual ++ "<lambda>") iy te) := by
  refine ⟨fun pins s σ H Q I h => ?_⟩
  refine wpAny_Call_Name_kw (ld_blt (u := .builtin "sorted") I hg hm (by decide +kernel) ?_)
  refine PyProof.Rows.callWith_kw (thn ((pa_cons he pa_nil hs0).run pos pins s σ H (fun vs H1 => match vs with | [v] => rSortNeg X.K P (X.env.qual ++ "<lambda>") iy Q σ v H1 | _ => False) I h) fun us s1 ⟨vs, H1, I1, r1, q1⟩ => ?_) hs hpl
  obtain ⟨v, rfl⟩ : ∃ v, vs = [v] := by
    match vs, q1 with
    | [v], _ => exact ⟨v, rfl⟩
  obtain ⟨l, a, cs, ns, rfl, hσ, hl, ha, hcs, hT, q⟩ := q1
  obtain rfl := Vals.ref1 r1
  refine PyProof.Rows.kwAll_cons ?_
  have hfree : ∀ z ∈ scope.names, z.2 = .free → ∃ c, X.env.cells.lookup z.1 = some c := fun z hz ez => by
    rw [hfr z hz ez]
    exact I1.ok.has _ (.inl hyc)
  refine lam_make2 (T := [(P, X.env.qual ++ "<lambda>")]) I1 TB hcode (List.mem_singleton.mpr rfl) (fun p hp _ => by rw [List.mem_singleton.mp hp]) (fun p hp => by rw [List.mem_singleton.mp hp]; exact hT) hdef hfree fun f c' pm ctv H2 s2 I2 eN T2 hf hfn hfrs hcO => ?_
  refine PyProof.Rows.kwAll_nil ?_
  obtain ⟨its, rv, hil, hz⟩ := I2.list (extN_seq eN hl)
  obtain ⟨its2, rv2, hil2, hz2⟩ := I2.list (extN_seq eN ha)
  have hcr : s2.heap.CodeRec (.ref c') (X.env.qual ++ "<lambda>") := NdefX.codeO_at I2.hok hcO
  -- the cell
  obtain ⟨m, hn, hloc⟩ := I2.loc
  obtain ⟨u, ru, lk⟩ := hloc iy y _ hN hσ (.inr (.inl hyc))
  obtain rfl : u = Value.ref a := ru
  obtain ⟨cc, hcc, hcell⟩ : ∃ cc, X.env.cells.lookup y = some cc ∧ s2.heap.IsCell cc (some (.ref a)) := by
    rcases lk with ⟨hk, _⟩ | ⟨_, cc, hcc, hcell⟩
    · have hk : X.env.scope.names.lookup y = some .local := hk
      rw [hyc] at hk
      cases hk
    · exact ⟨cc, hcc, hcell⟩
  have hcl : (cloFrom X.env.cells scope.names []).lookup y = some cc := NdefX.clo_has hfree (PySem.mem_of_lookup hy) hcc
  have hlen := rv.length
  have hlen2 := rv2.length
  rw [List.length_map] at hlen hlen2 hz hz2
  have hun := hr.un
  refine PySem.W.sorted_key_data (b := false) (f := .ref f) (fun j => .int (keyAt ns j)) hil.isList (vals_each rv) ?_ (.inr fun d hd => ?_) hz (fun j _ => ?_) (PyProof.Rows.ksk_s1 _ _) (fun _ => PyProof.Rows.ksk_l1 _ _) (fun z => PyProof.Rows.ksk_t1 f z) (fun v j hv hj h tk kp => ?_) fun out c2 h' tk kp hfr2 hget hol hout => ?_
  · intro d hd d' hd'
    obtain ⟨j, _, rfl⟩ := List.mem_map.mp hd
    obtain ⟨j', _, rfl⟩ := List.mem_map.mp hd'
    rfl
  · obtain ⟨j, _, rfl⟩ := List.mem_map.mp hd
    exact ⟨(fun z => by cases z), (fun xs z => by cases z)⟩
  · show X.A.units + 2 + 0 < cLine
    omega
  · obtain ⟨t, rfl⟩ := hv
    obtain ⟨j0, jl⟩ := hcs j hj
    have hv2 : (ns.map V.int)[j.toNat]? = some (.int ns[j.toNat]) := by rw [List.getElem?_map, List.getElem?_eq_getElem jl]; rfl
    obtain ⟨u, hu, ru⟩ := rv2.get hv2
    obtain ⟨t', rfl⟩ := ru
    have ek : keyAt ns j = -(ns[j.toNat]) := by
      unfold keyAt
      rw [List.getD_eq_getElem?_getD, List.getElem?_eq_getElem jl]
      rfl
    have hbig : j < 2 ^ 63 := by
      have : sizeLine = 16777216 := by decide
      omega
    rw [ek]
    exact neg_turn (s := { s2 with heap := h, toks := tk }) (kp _ _ hf) (hcr.keeps kp) (I2.nolimit.keeps kp) (by have := hr.dp; show X.A.depth < _; omega) hkd hco hgen hnc hx hy (hbind _ _ _ _ _ _) hcl
      (let ⟨o, e, d⟩ := hcell; ⟨o, kp _ _ e, d⟩) (let ⟨o, e, d⟩ := hil2.isList; ⟨o, kp _ _ e, d⟩) j0 hbig (by simpa using hu) hd1 hd2 hd3
  · rw [PySem.W.dataLe_int] at hout
    have hv : Vals ((sortedBy ns cs).map V.int) out := each_vals hout
    have nR : H2 (s2.heap.objs.size + 1) = none := I2.hok.fresh (Nat.le_succ _)
    refine ⟨.ref _, upd H2 (s2.heap.objs.size + 1) (.lst ((sortedBy ns cs).map V.int)), I2.laid (t' := tk) kp (Nat.le_succ _) ⟨?_, out, c2, hv, hget⟩, rfl, q _ _ (fun b o eb no => ?_) (fun o eo => ?_) upd_same⟩
    · unfold sortedBy
      rw [List.length_map, List.length_mergeSort]
      exact hz
    · have e2 := eN b o eb no
      rw [upd_ne (ne_of_none e2 nR)]
      exact e2
    · cases o with
      | tbl ps => exact ⟨ps, rfl⟩
      | _ =>
        have e2 := eN _ _ eo (fun ps z => by cases z)
        rw [nR] at e2
        cases e2
end Tm
namespace Tm
open PySem PySem.Spec PyProof.Rows L2 LamX
/-- a def whose code object is known -/
theorem fun_okC {P : Program} {w : World} {K : PySem.W.Frag} {mg : Str → Option Value} {base : Heap} {x qual : Str} {st : Stmt} {f c : Addr} {fd : FuncData} {N ps : List Str} {k : Nat} {sp : Sp} (F : Fun K x qual st f fd) (hc : fd.code = .ref c) (S : FnScope N ps (defScope st)) (len : ∀ vs H Q E, sp vs H Q E → vs.length = ps.length)
    (hbody : ∀ (A : Around) (outer : List Env) (s : Shared) (H : Hp) (vs : List V) (Q : VK) (E : XK), Room k (A.deeper (envOfC qual (defScope st) s.heap.objs.size f (.ref c))) → sp vs H Q E →
      ∃ t, PSs (cxOf CX0 P w K mg base N qual (defScope st) f (.ref c) A outer s H E).nox (defBody st) t ∧ t { nx := fun _ H' => Q .non H', rt := Q } (start N vs) H) : FnOk P w K mg base CX0 (k + 1) f fd ps sp := by
  obtain ⟨oc, od, kV, doc, pm, an, cdv, ct, osl, rfl, lk, hcd⟩ := F.ex
  obtain rfl : cdv = .ref c := hc
  refine fn_of lk hcd S len fun A outer s H vs Q E hr hsp => ?_
  obtain ⟨t, h, q⟩ := hbody A outer s H vs Q E hr hsp
  exact ⟨t, h.nox, q⟩
end Tm

/-! The end of a Spec row of which one def makes a lambda: the table of that def's code object is tracked, too. -/
namespace Tm
open PySem PySem.Spec PyProof.Rows L2 LamX
open PySem.W (WData Codec OpenSpec WellAll ReadsW)
mutual
theorem dw_same {K : PySem.W.Frag} {H H' : Hp} (s : Same H H') : ∀ (d : WData) (v : V), Dw K H v d → Dw K H' v d
  | .none, _, x => by
    cases x
    exact .non
  | .bool b, _, x => by
    cases x
    exact .bl b
  | .int i, _, x => by
    cases x
    exact .int i
  | .str z, _, x => by
    cases x
    exact .str z
  | .bytes b, _, x => by
    cases x
    exact Dw.byt _
  | .list ds, _, x => by
    cases x with
    | lst h1 h2 => exact .lst (s.seq h1) (dw_sames s ds _ h2)
  | .tuple ds, _, x => by
    cases x with
    | tup h1 h2 =>
      refine .tup ?_ (dw_sames s ds _ h2)
      rcases h1 with (h | ⟨o, h⟩) | h
      · exact .inl (.inl (s _ _ h))
      · exact .inl (.inr ⟨o, s _ _ h⟩)
      · exact .inr h
  | .float _, _, x => by cases x
  | .dict _, _, x => by cases x
  | .bytearray _, _, x => by cases x
  | .set _, _, x => by cases x
  | .frozenset _, _, x => by cases x
  | .obj _ _, _, x => by cases x
theorem dw_sames {K : PySem.W.Frag} {H H' : Hp} (s : Same H H') : ∀ (ds : List WData) (vs : List V), DwAll K H vs ds → DwAll K H' vs ds
  | [], _, x => by
    cases x
    exact .nil
  | d :: ds, _, x => by
    cases x with
    | cons h1 h2 => exact .cons (dw_same s d _ h1) (dw_sames s ds _ h2)
end
/-! ### what is tracked when the row's def is entered -/
/-- the arguments' objects, and the table at tp -/
def entryH (K : PySem.W.Frag) (h : Heap) (as : List Addr) (tp : Addr) : Hp := upd (argH K h as) tp (.tbl #[])
/-- a namespace, a module, a code object: nothing that is tracked -/
def Solid (o : Obj) : Prop := (∃ es ep, o.data = .dict es ep) ∨ o.data = .plain ∨ ∃ us x, o.data = .fields us ∧ us[11]? = some x
theorem Solid.noSeq {o : Obj} (z : Solid o) {us : Array Value} {n : Nat} (e : o.data = .seq us n) : False := by
  rcases z with ⟨_, _, z⟩ | z | ⟨_, _, z, _⟩ <;> rw [e] at z <;> cases z
theorem Solid.noTab {o : Obj} (z : Solid o) (e : o.data = .fields #[]) : False := by
  rcases z with ⟨_, _, z⟩ | z | ⟨us, x, z, y⟩
  · rw [e] at z; cases z
  · rw [e] at z; cases z
  · rw [e] at z
    cases z
    simp at y
structure Entry (P : Program) (w : World) (K : PySem.W.Frag) (h : Heap) (tp : Addr) (H : Hp) : Prop where
  tab : H tp = some (.tbl #[])
  rest : ∀ b u, b ≠ tp → H b = some u → ∃ ob x, u = .frz ob x
  away : ∀ b u, H b = some u → K.lookup b = none
  solid : ∀ b o, h.get? b = some o → Solid o → H b = none
  ok : HOk P w H h
section
variable {P : Program} {w : World} {K : PySem.W.Frag} {h : Heap} {as : List Addr} {tp : Addr}
theorem seq_of_arg (ar : ∀ a ∈ as, ArgOb h as a) {b : Addr} {u : HO} (e : argH K h as b = some u) : ∃ o us n, h.get? b = some o ∧ o.data = .seq us n := by
  obtain ⟨-, us, -, -, y⟩ := argH_is ar e
  exact y.elim (fun y => ⟨_, _, _, y.1, rfl⟩) fun y => ⟨_, _, _, y.1, rfl⟩
theorem entry_of (ar : ∀ a ∈ as, ArgOb h as a) (ht : h.get? tp = some { cls := .none, data := .fields #[] }) (nt : K.lookup tp = none) : Same (argH K h as) (entryH K h as tp) ∧ Entry P w K h tp (entryH K h as tp) := by
  have none_tp : argH K h as tp = none := Option.eq_none_iff_forall_ne_some.mpr fun u e => by
    obtain ⟨o, us, n, e1, e2⟩ := seq_of_arg ar e
    rw [ht] at e1
    cases e1
    cases e2
  have back : ∀ {b u}, b ≠ tp → entryH K h as tp b = some u → argH K h as b = some u := fun {b u} nb e => by
    unfold entryH at e
    rw [upd_ne nb] at e
    exact e
  refine ⟨fun b u e => (upd_ne (ne_of_none e none_tp)).trans e, upd_same, fun b u nb e => ?_, fun b u e => ?_, fun b o e z => Option.eq_none_iff_forall_ne_some.mpr fun u q => ?_, fun b u e => ?_⟩
  · rcases argH_only ar b with y | ⟨ob, x, y⟩
    · rw [back nb e] at y; cases y
    · rw [back nb e] at y
      exact ⟨ob, x, Option.some.inj y⟩
  · by_cases hb : b = tp
    · exact hb ▸ nt
    · exact (argH_is ar (back hb e)).1
  · by_cases hb : b = tp
    · subst hb
      rw [ht] at e
      cases e
      exact z.noTab rfl
    · obtain ⟨o', us, n, e1, e2⟩ := seq_of_arg ar (back hb q)
      rw [e1] at e
      cases e
      exact z.noSeq e2
  · by_cases hb : b = tp
    · subst hb
      unfold entryH at e
      rw [upd_same] at e
      cases e
      exact ht
    · have y := argH_ok (P := P) (w := w) ar b u (back hb e)
      obtain ⟨_, _, _, _, ⟨_, rfl⟩ | ⟨_, rfl⟩⟩ := argH_is ar (back hb e)
      · exact y
      · exact y
end
namespace Entry
variable {P : Program} {w : World} {K : PySem.W.Frag} {h : Heap} {tp : Addr} {H : Hp} {mg mb : Str → Option Value}
theorem hid (E : Entry P w K h tp H) {b : Addr} {o : Obj} (e : h.get? b = some o) (z : Solid o) : (hidT h H).get? b = some o := hidT_get e (E.solid b o e z)
theorem ns (E : Entry P w K h tp H) {a : Addr} {f : Str → Option Value} : h.Ns a f → (hidT h H).Ns a f := by
  rintro ⟨o, es, ep, e1, e2, y⟩
  exact ⟨o, es, ep, E.hid e1 (.inl ⟨es, ep, e2⟩), e2, y⟩
theorem kin (E : Entry P w K h tp H) (X : K.In h) : K.In (hidT h H) := fun a o e => hidT_get (X a o e) (Option.eq_none_iff_forall_ne_some.mpr fun u q => by rw [E.away a u q] at e; cases e)
theorem modl (E : Entry P w K h tp H) (X : K.In h) (g : h.Ns mainGlobals mg) (bl : h.Ns builtinsNs mb) (bb : ∀ x : Str, x ≠ "__name__" → mb x = bootBuiltins x) (lim : h.NoLimit) : Mod K mg (hidT h H) where
  kin := E.kin X
  glob := E.ns g
  blt := ⟨mb, E.ns bl, bb⟩
  nolimit := by
    obtain ⟨f, y, z⟩ := lim
    exact ⟨f, E.ns y, z⟩
theorem tabB (E : Entry P w K h tp H) {c : Addr} (ht : h.get? tp = some { cls := .none, data := .fields #[] }) (C : PySem.W.CodeHd h c tp) (g : h.Ns mainGlobals mg)
    (bm : ∃ (m : Addr) (o : Obj), mg "__builtins__" = some (.ref m) ∧ m ≠ builtinsNs ∧ h.get? m = some o ∧ o.cls = .type "module" ∧ o.dict = some builtinsNs ∧ o.data = .plain) : TabB (hidT h H) mg c tp := by
  obtain ⟨og, _, _, eg, dg, -⟩ := g
  obtain ⟨m, om, m1, m2, em, m4, m5, dm⟩ := bm
  obtain ⟨oc, us, a1, a2, a3, a4, a5, a6, a7, ec, c1, dc, c3, y⟩ := C
  refine ⟨⟨oc, us, a1, a2, a3, a4, a5, a6, a7, E.hid ec (.inr (.inr ⟨us, _, dc, c3⟩)), c1, dc, c3, y⟩, ⟨m, om, m1, m2, ?_, ?_, E.hid em (.inr (.inl dm)), m4, m5, dm⟩, ?_⟩
  · rintro rfl
    rw [em] at eg
    cases eg
    rw [dm] at dg
    cases dg
  · rintro rfl
    rw [ht] at em
    cases em
    cases dm
  · intro z
    rw [z, ht] at eg
    cases eg
    cases dg
end Entry
/-- the row's def called: its answer, and what became of all that stood before -/
theorem spec_callT {P : Program} {w : World} {K : PySem.W.Frag} {mg mb : Str → Option Value} {k : Nat} {fa c tp : Addr} {fd : FuncData} {ps : List Str} {sp : Sp} {s : Shared} {vals : List Value} {ds : List WData} {R : PySem.W.WRecords} {cl : Str → Option Addr} {due : WData}
    (X : K.In s.heap) (g : s.heap.Ns mainGlobals mg) (bl : s.heap.Ns builtinsNs mb) (bb : ∀ x : Str, x ≠ "__name__" → mb x = bootBuiltins x) (lim : s.heap.NoLimit) (ng : s.gens = #[])
    (ht : s.heap.get? tp = some { cls := .none, data := .fields #[] }) (nt : K.lookup tp = none) (C : PySem.W.CodeHd s.heap c tp)
    (bm : ∃ (m : Addr) (o : Obj), mg "__builtins__" = some (.ref m) ∧ m ≠ builtinsNs ∧ s.heap.get? m = some o ∧ o.cls = .type "module" ∧ o.dict = some builtinsNs ∧ o.data = .plain)
    (wl : WellAll w.params s.heap vals ds) (pl : plWs ds = true) (wt : ∀ d ∈ ds, d.weight ≤ 1048576) (room : Room k callerA)
    (F : ∀ base : Heap, K.In base → base.Ns mainGlobals mg → TabB base mg c tp → FnOk P w K mg base CX0 k fa fd ps sp) (bind : ∀ (s : Shared) (us : List Value), us.length = ps.length → BindsTo s fd ⟨us, []⟩ (ps.zip us)) (len : ds.length = ps.length)
    (hsp : ∀ (H : Hp) (xs : List V), H tp = some (.tbl #[]) → DwAll K H xs ds → sp xs H (fun v H' => Dw K H' v due) fun _ _ _ => False) :
    codeAny (model P w) callerA (.call (.ref fa) ⟨vals, []⟩) (fun r s' => ∃ u as, r = .ok (.ret u) ∧ ReadsW R cl s'.heap u due as ∧ OldK s.heap s'.heap ∧ s'.os = s.os ∧ AllBare s'.gens) s := by
  obtain ⟨as, okA, ar⟩ := area_all ds vals wl pl wt
  obtain ⟨sm, E⟩ := entry_of (P := P) (w := w) (K := K) ar ht nt
  have args := dw_sames sm _ _ (dw_all X ar ds vals wl pl okA)
  generalize entryH K s.heap as tp = H at E args
  have env : Env0 P w K mg (hidT s.heap H) callerA [] s H :=
    { frames := rfl, mod := E.modl X g bl bb lim, bs := fun b o e => of_hidT e, bsz := Nat.le_of_eq (hidT_size _ _), funs := trivial, frf := (fun b hb => by cases hb), hok := E.ok, bare := .of_eq ng }
  have run := (F _ (E.kin X) (E.ns g) (E.tabB ht C g bm)).run callerA [] s H ⟨vals, []⟩ vals (vals.map toV) _ _ room env (bind s vals ((wellAll_len wl).trans len)) (vals_toV okA) (hsp H _ E.tab args)
  refine codeAny_mono run fun res s' y => ?_
  match res, y with
  | .ok (.ret u), ⟨v, H', y1, y2, un, ok', rel, ans⟩ =>
    -- all but the table is as it was
    have same : ∀ b o, b ≠ tp → s.heap.get? b = some o → s'.heap.get? b = some o := fun b o nb e => by
      rcases hq : H b with _ | u0
      · exact un.keep b o e hq (fun z => by cases z) (fun z => by cases z)
      · obtain ⟨ob, x, rfl⟩ := E.rest b u0 nb hq
        have z1 : s.heap.get? b = some ob := (E.ok b _ hq).1
        have z2 : s'.heap.get? b = some ob := (ok' b _ (un.frzs b ob x hq)).1
        rw [z2, ← z1]
        exact e
    -- the table has grown
    obtain ⟨more, hm⟩ := un.tbls tp #[] E.tab
    have grown : s'.heap.get? tp = some { cls := .none, data := .fields (#[] ++ more) } := ok' tp _ hm
    have X' : K.In s'.heap := fun b o e => same b o (fun z => by subst z; rw [nt] at e; cases e) (X b o e)
    obtain ⟨bs, rd⟩ := Dw.reads (R := R) (cl := cl) ok' X' due v u ans rel
    refine ⟨u, bs, rfl, rd, { old := fun b o e => ?_, there := fun b o e => ?_ }, y1, y2⟩
    · by_cases nb : b = tp
      · subst nb
        rw [ht] at e
        cases e
        exact .inr (.inl ⟨(C.tab ht).isCodeTable, rfl, #[], more, rfl, grown⟩)
      · exact .inl (same b o nb e)
    · by_cases nb : b = tp
      · exact ⟨_, nb ▸ grown⟩
      · exact ⟨o, same b o nb e⟩
/-- the row, by the promise of its def: x is the def that makes the lambda -/
theorem walk_specT {r : OpenSpec} {k : Nat} {q : Program} {loose : List Str} {XP : (Str → Option Value) → Heap → Prop} {YP : World → Heap → Prop} {d dx : DefRec} {x : Str} {K : Params → PySem.W.Frag} {ps : List Str} {sp : PySem.W.Frag → Addr → Sp}
    (said : r.wellSaid = true) (plain : d.params.defaults = []) (len : r.args.length = ps.length) (room : Room k callerA) (rec : (recsOf q).find? (fun e => e.name == x) = some dx) (KY : ∀ (w : World) (h : Heap), YP w h → (K w.params).In h)
    (F : ∀ (w : World) (mg : Str → Option Value) (fa : Addr) (h : Heap), YP w h → (K w.params).In h → h.Ns mainGlobals mg → mg d.name = some (.ref fa) → ∃ (fd : FuncData) (c tp : Addr), PySem.W.tabIn (K w.params) x = some (c, tp) ∧ (K w.params).lookup tp = none ∧
        (∀ (s : Shared) (us : List Value), us.length = ps.length → BindsTo s fd ⟨us, []⟩ (ps.zip us)) ∧ ∀ base : Heap, (K w.params).In base → base.Ns mainGlobals mg → TabB base mg c tp → FnOk r.prog w (K w.params) mg base CX0 k fa fd ps (sp (K w.params) tp))
    (S : ∀ (K : PySem.W.Frag) (tp : Addr) (H : Hp) (xs : List V) (a : Codec.denoteAll r.args), H tp = some (.tbl #[]) → Codec.withinAll r.args a = true → Codec.app r.args r.asked a = true → DwAll K H xs (Codec.encAll r.args a) → sp K tp xs H (fun v H' => Dw K H' v (r.ret.enc (Codec.app r.args r.f a))) fun _ _ _ => False) :
    PySem.W.WalkOS q loose XP YP r d [] (fun f vs => PySem.call f vs) := by
  intro w s0 s mg mb G Y fa _ _ _ _ _ _ _ _ _ _ nm ng args vals _ pre lay _ wl _
  obtain ⟨a, dec, ask⟩ := PySem.W.os_pre_some pre
  obtain ⟨rfl, within⟩ := Codec.encAll_of_decAll r.args args a dec
  have X := KY w _ Y
  obtain ⟨fd, c, tp, tab, nt, bind, ok⟩ := F w mg fa _ Y X G.T.g nm
  have T := PySem.W.tab_of G.T X rec tab
  have call := spec_callT (R := []) (cl := classAt s0.heap) (due := r.ret.enc (Codec.app r.args r.f a)) X G.T.g G.T.b G.T.builtins G.T.nolimit ng T.2 nt T.1 G.T.bmain wl (pl_encAll _ _) (layable_weight lay) room ok bind ((encAll_len _ _).trans len) fun H xs h0 h1 => S _ tp H xs a h0 within ask h1
  refine PySem.W.enter_call (codeAny_mono call ?_)
  rintro _ s' ⟨u, bs, rfl, rd, old, os, bare⟩
  refine ⟨.inl ⟨u, _, bs, rfl, fun _ => rfl, rd, ?_, fun z => by cases z⟩, old, os, bare⟩
  exact (OpenSpec.post_iff said within _ _).mpr rfl
theorem tab_in {K : PySem.W.Frag} {x : Str} {f c tp : Addr} {oc cc : Value} {od cd : Option Addr} {fd : FuncData} {sl csl : Array (Option Value)} {vs : Array Value} (h1 : PySem.W.nsIn K mainGlobals x = some (some (.ref f))) (h2 : K.lookup f = some ⟨oc, od, .func fd, sl⟩) (h3 : fd.code = .ref c)
    (h4 : K.lookup c = some ⟨cc, cd, .fields vs, csl⟩) (h5 : vs[11]? = some (.ref tp)) : PySem.W.tabIn K x = some (c, tp) := by
  unfold PySem.W.tabIn
  rw [h1]
  dsimp only
  rw [h2]
  dsimp only
  rw [h3]
  dsimp only
  rw [h4]
  dsimp only
  rw [h5]
end Tm

namespace Tm
open PySem PySem.Spec PyProof.Rows L2
open PySem.W (Codec)
def topS (i : Nat) : Stmt := PySem.Challenge.pw_skymatch_s03_tm_choose.main.body.getD i (.Pass ⟨0, 0, 0, 0⟩)
/-! ### heaps -/
theorem same_upd {H : Hp} {p : Addr} {o : HO} (h : H p = none) : Same H (upd H p o) := fun b x e => by
  rw [upd_ne (ne_of_none e h)]
  exact e
theorem at_map {ns : List Int} {z : Int} {i : Nat} (e : z = (i : Int)) (h : i < ns.length) : atI (ns.map V.int) z = some (V.int (at_ ns i)) := by
  rw [e]
  refine atI_nat ?_
  rw [List.getElem?_map, List.getElem?_eq_getElem h, at_get h]
  rfl
def Up (B : Int) (ns : List Int) : Prop := ∀ x ∈ ns, 0 ≤ x ∧ x < B
theorem Up.at {B : Int} {ns : List Int} (h : Up B ns) {i : Nat} (hi : i < ns.length) : 0 ≤ at_ ns i ∧ at_ ns i < B := by
  rw [at_get hi]
  exact h _ (List.getElem_mem hi)
theorem sq_bd {d : Int} (h1 : -8192 < d) (h2 : d < 8192) : d * d < 67108864 := by
  rcases Int.le_total 0 d with h | h
  · have := Int.mul_le_mul_of_nonneg_right (show d ≤ 8191 by omega) h
    omega
  · have e : -d * -d = d * d := Int.neg_mul_neg d d
    have := Int.mul_le_mul_of_nonneg_right (show -d ≤ 8191 by omega) (show 0 ≤ -d by omega)
    omega
theorem Up.wide {ns : List Int} (h : Up 8192 ns) : Up 65536 ns := fun x hx => by
  have := h x hx
  omega
theorem Up.pos {B : Int} {ns : List Int} (h : Up B ns) : ∀ x ∈ ns, 0 ≤ x := fun x hx => (h x hx).1
theorem Up.low {ns : List Int} (hU : Up 65536 ns) (ho : (ns.any fun x => decide (8192 ≤ x)) = false) : Up 8192 ns := fun x hx => ⟨(hU x hx).1, by
  have z := List.any_eq_false.mp ho x hx
  have z2 : ¬ (8192 ≤ x) := fun y => z (decide_eq_true y)
  omega⟩
def KeepBut (v : Addr) (H H' : Hp) : Prop := ∀ b x, H b = some x → b ≠ v → H' b = some x
theorem KeepBut.trans {v : Addr} {H H1 H2 : Hp} (a : KeepBut v H H1) (b : KeepBut v H1 H2) : KeepBut v H H2 := fun c x h n => b c x (a c x h n) n
theorem Same.keep {v : Addr} {H H' : Hp} (s : Same H H') : KeepBut v H H' := fun b x h _ => s b x h
theorem keep_upd {v : Addr} {H : Hp} {o : HO} : KeepBut v H (upd H v o) := fun b x h n => by
  rw [upd_ne n]
  exact h
theorem flat_one {α β : Type} {f : α → List β} {l : List α} {i : Nat} {x : α} (h : l[i]? = some x) : (l.take (i + 1)).flatMap f = (l.take i).flatMap f ++ f x := by
  rw [List.take_add_one, h, List.flatMap_append]
  show _ ++ List.flatMap _ [x] = _
  rw [List.flatMap_cons, List.flatMap_nil, List.append_nil]
def pv2 (p : Nat × Nat) : List V := [V.int ((p.1 : Nat) : Int), V.int ((p.2 : Nat) : Int)]
end Tm

namespace Tm
open PySem PySem.Spec PyProof.Rows L2
open PySem.W (Codec)
abbrev sCounted : Stmt := topS 4
theorem scCounted : FnScope ["found", "answer", "one"] ["found"] (defScope sCounted) := ⟨rfl, rfl, rfl, by decide +kernel, rfl, by decide +kernel, by decide +kernel⟩
section
variable {P : Program} {w : World} {K : PySem.W.Frag} {mg : Str → Option Value} {base : Heap}
/-! ### counted -/
def spCounted : Sp := fun vs H Q _ => ∃ (o : Addr) (tm : List (Addr × List V)), vs = [.ref o] ∧ H o = some (.lst (tm.map fun q => V.ref q.1)) ∧ (∀ q ∈ tm, H q.1 = some (.tup q.2)) ∧ (tm.flatMap (·.2)).length < sizeLine ∧
  ∀ H' p, Same H H' → H p = none → H' p = some (.lst (.int (tm.length : Int) :: tm.flatMap (·.2))) → Q (.ref p) H'
theorem ok_counted {f : Addr} {fd : FuncData} {k : Nat} (F : Fun K "counted" "counted" sCounted f fd) (ml : mg "len" = none) : FnOk P w K mg base CX0 (k + 1) f fd ["found"] spCounted := by
  refine F.ok scCounted (fun vs H Q E h => ?_) (fun cdv A outer s H vs Q E hr h => ?_)
  · obtain ⟨o, tm, rfl, _⟩ := h
    rfl
  · obtain ⟨o, tm, rfl, h1, h2, hz, q⟩ := h
    refine ⟨_, pss_cons (ps_set (i := 1) scCounted.nd rfl (.inl rfl) (pe_lst (pa_cons (pe_callB call_len_seq (by rfl) ml PySem.boot_len (pa_cons (pv 0) pa_nil)) pa_nil)))
      (pss_cons (ps_for PassesOwn.never rfl (pi_list (pv 0)) (pg_name (i := 2) scCounted.nd rfl (.inl rfl))
        (pss_one (ps_expr (pe_bm PySem.F.plainAttrs_list PySem.F.slot_list_extend PySem.F.type_list_extend mt_extendT (pv 1) (pa_cons (pv 2) pa_nil)))))
      (pss_one (ps_ret (pv 1)))), ?_⟩
    refine ⟨_, rfl, o, _, rfl, .inl (SqL.of h1), (by show 1 ≤ sizeLine; decide), fun r nr => ?_⟩
    have s3 : Same H _ := same_upd (o := .lst [.int ((tm.map fun q => V.ref q.1).length : Int)]) nr
    refine ⟨_, rfl, o, rfl, ⟨_, SqL.of (s3 _ _ h1)⟩, for_list (K := K) (a := o) (xs := tm.map fun q => V.ref q.1) (fun i σ H' => ∃ v : Option V, σ = [some (.ref o), some (.ref r), v] ∧ Same H H' ∧ H' r = some (.lst (.int ((tm.map fun q => V.ref q.1).length : Int) :: (tm.take i).flatMap (·.2))))
      ⟨none, rfl, s3, upd_same⟩ (fun i σ H' _ ⟨_, _, s5, _⟩ => SqL.of (s5 _ _ h1)) ?_ ?_⟩
    · rintro i y σ H' hi ⟨v, rfl, s5, h5⟩
      rw [List.getElem?_map] at hi
      obtain ⟨z, hz', rfl⟩ := Option.map_eq_some_iff.mp hi
      have hm : z ∈ tm := List.mem_of_getElem? hz'
      have ht := s5 _ _ (h2 z hm)
      have e1 : ((tm.take (i + 1)).flatMap (·.2)) = ((tm.take i).flatMap (·.2)) ++ z.2 := flat_one hz'
      have hlen : ((tm.take (i + 1)).flatMap (·.2)).length ≤ (tm.flatMap (·.2)).length := by
        have e2 : tm.flatMap (·.2) = (tm.take (i + 1)).flatMap (·.2) ++ (tm.drop (i + 1)).flatMap (·.2) := by rw [← List.flatMap_append, List.take_append_drop]
        rw [e2, List.length_append]
        exact Nat.le_add_right _ _
      refine ⟨.ref r, rfl, .inl ⟨rfl, _, SqL.of h5⟩, _, rfl, r, z.1, _, _, rfl, rfl, h5, ht, ?_, ?_⟩
      · rw [e1, List.length_append] at hlen
        rw [List.length_cons]
        omega
      · refine ⟨_, rfl, fun b x e => ?_, ?_⟩
        · rw [upd_ne (ne_of_none e nr)]
          exact s5 _ _ e
        · rw [upd_same, e1]
          rfl
    · rintro σ H' ⟨v, rfl, s5, h5⟩
      refine ⟨_, rfl, q _ r s5 nr ?_⟩
      rw [h5, List.length_map, List.take_length]
end
end Tm

namespace Tm
open PySem PySem.Spec PyProof.Rows L2
open PySem.W (Codec)
abbrev sChosen : Stmt := topS 5
theorem scChosen : FnScope ["votes", "width", "least", "enough", "cells", "rows_out", "columns_out", "pairs", "cell", "row", "column"] ["votes", "width", "least"] (defScope sChosen) := ⟨rfl, rfl, rfl, by decide +kernel, rfl, by decide +kernel, by decide +kernel⟩
def dk (xs : List Nat) : List (Key × V) := xs.map fun i => (Sum.inl ((i : Nat) : Int), V.bl true)
theorem dk_val (k : Nat) : ∀ xs : List Nat, (valV (dk xs) (Sum.inl ((k : Nat) : Int))).isSome = decide (k ∈ xs)
  | [] => rfl
  | x :: r => by
    show (valV ((Sum.inl ((x : Nat) : Int), V.bl true) :: dk r) (Sum.inl ((k : Nat) : Int))).isSome = _
    by_cases h : x = k
    · rw [valV_pos (by rw [h]), decide_eq_true (by rw [h]; exact List.mem_cons_self)]
      rfl
    · rw [valV_neg (fun z => h (Int.ofNat.inj (Sum.inl.inj z))), dk_val k r]
      have : (k ∈ x :: r) ↔ k ∈ r := by
        rw [List.mem_cons]
        exact ⟨fun z => z.elim (fun y => absurd y.symm h) id, .inr⟩
      exact decide_eq_decide.mpr this.symm
theorem dk_has (k : Nat) (xs : List Nat) : (!(valV (dk xs) (Sum.inl ((k : Nat) : Int))).isSome) = !decide (k ∈ xs) := by rw [dk_val]
theorem dk_put {k : Nat} {xs : List Nat} (h : k ∉ xs) : putK (dk xs) (Sum.inl ((k : Nat) : Int)) (V.bl true) = dk (xs ++ [k]) := by
  unfold putK
  rw [valV_any, dk_val, decide_eq_false h, if_neg (by decide)]
  unfold dk
  rw [List.map_append]
  rfl
theorem stp_len (m : Nat) : ∀ (L : List Nat) (acc : List (Nat × Nat)), (L.foldl (stp m) acc).length ≤ acc.length + L.length
  | [], acc => Nat.le_refl _
  | k :: t, acc => by
    rw [List.foldl_cons, List.length_cons]
    refine Nat.le_trans (stp_len m t _) ?_
    unfold stp
    split
    · rw [List.length_append]
      show acc.length + 1 + t.length ≤ _
      omega
    · omega
theorem sortedBy_nat {l cs : List Nat} : sortedBy (l.map fun x => ((x : Nat) : Int)) (cs.map fun k => ((k : Nat) : Int)) = (cs.mergeSort fun i j => decide (Sh68.num l j ≤ Sh68.num l i)).map fun k => ((k : Nat) : Int) := by
  unfold sortedBy
  refine (List.map_mergeSort fun a _ b _ => ?_).symm
  have e : ∀ k : Nat, keyAt (l.map fun x => ((x : Nat) : Int)) ((k : Nat) : Int) = -((Sh68.num l k : Nat) : Int) := fun k => by
    unfold keyAt Sh68.num
    rw [Int.toNat_natCast, List.getD_eq_getElem?_getD, List.getD_eq_getElem?_getD, List.getElem?_map]
    cases l[k]? <;> rfl
  rw [e, e]
  exact decide_eq_decide.mpr (by omega)
section
variable {P : Program} {w : World} {K : PySem.W.Frag} {mg : Str → Option Value} {base : Heap}
/-! ### pairs_chosen -/
def spChosen (K : PySem.W.Frag) (tp : Addr) : Sp := fun vs H Q _ => ∃ (a : Addr) (l : List Nat) (n m : Nat) (least : Int), vs = [.ref a, .int m, .int least] ∧ SqL K H a ((l.map fun x => ((x : Nat) : Int)).map V.int) ∧ l.length = n * m ∧ n * m ≤ 5000 ∧ m ≤ 64 ∧ 0 ≤ least ∧ H tp = some (.tbl #[]) ∧
  ∀ H' o (tm : List (Addr × List V)), H' o = some (.lst (tm.map fun q => V.ref q.1)) → (∀ q ∈ tm, H' q.1 = some (.tup q.2)) → tm.map (·.2) = (Sh68.chosen n m least.toNat l).map pv2 → Q (.ref o) H'
theorem ok_chosen {f c tp : Addr} {fd : FuncData} {k : Nat} (F : Fun K "pairs_chosen" "pairs_chosen" sChosen f fd) (hc : fd.code = .ref c) (TB : LamX.TabB base mg c tp)
    (mx : mg "max" = none) (ml : mg "len" = none) (mr : mg "range" = none) (ms : mg "sorted" = none) : FnOk P w K mg base CX0 (k + 2) f fd ["votes", "width", "least"] (spChosen K tp) := by
  refine fun_okC F hc scChosen (fun vs H Q E h => ?_) (fun A outer s H vs Q E hr h => ?_)
  · obtain ⟨a, l, n, m, least, rfl, _⟩ := h
    rfl
  · obtain ⟨a, l, n, m, least, rfl, hS, hl, hN, hm, hle, hT, q⟩ := h
    refine ⟨_, pss_consN (ps_set (i := 3) scChosen.nd rfl (.inr rfl) (pe_callB (call_max2 rfl) (by rfl) mx (by decide +kernel) (pa_cons (pv 2) (pa_cons pe_int pa_nil))))
      (pss_consN (ps_setLc (i := 4) (own := [("cell", 8)]) (g := gName 8) (by rfl) scChosen.nd rfl rfl (sw_true rfl rfl rfl (by decide +kernel)) (pi_range1 (by rfl) mr (pa_cons (pe_callB call_len_seq (by rfl) ml PySem.boot_len (pa_cons (pv 0) pa_nil)) pa_nil))
          (blkOk_by (own := [("cell", 8)]) (N := ["votes", "width", "least", "enough", "cells", "rows_out", "columns_out", "pairs", "cell", "row", "column"]) (sc := defScope sChosen) (by decide +kernel))
          (fun _ _ _ _ _ => pg_name (i := 8) scChosen.nd rfl (Or.inl rfl)) (fun _ _ _ _ _ => pts_one (pt_cmpR op_ge (pe_ix (r := rIxL K) ix_list (pv 0) (pv 8) (fun _ _ => rfl)) (pv 3) (nomark _)))
          (fun _ _ _ _ _ => pv 8))
      (pss_consN (ps_set (i := 5) scChosen.nd rfl (.inl rfl) pe_dnewK)
      (pss_consN (ps_set (i := 6) scChosen.nd rfl (.inl rfl) pe_dnewK)
      (pss_consN (ps_set (i := 7) scChosen.nd rfl (.inl rfl) (pe_lst pa_nil))
      (pss_cons (ps_for PassesOwn.never rfl (pi_list (pe_sortNeg (x := "one") (y := "votes") (iy := 0) (k := k) (by rfl) ms TB rfl hr rfl rfl rfl rfl rfl (by decide +kernel) rfl rfl (by decide +kernel) rfl (fun _ _ _ _ _ _ => rfl) (pv 4))) (pg_name (i := 8) scChosen.nd rfl (.inl rfl))
        (pss_consN (ps_set (i := 9) scChosen.nd rfl (.inl rfl) (pe_op op_fdiv (pv 8) (pv 1)))
        (pss_consN (ps_set (i := 10) scChosen.nd rfl (.inl rfl) (pe_op op_mod (pv 8) (pv 1)))
        (pss_one (ps_if (PW.pt (pw_and (pt_cmp (pc_dnotin (hu_of hr) (pv 9) (pv 5))) (pw_and1 (pt_cmp (pc_dnotin (hu_of hr) (pv 10) (pv 6))))))
          (pss_cons (ps_dput (hu_of hr) (pv 5) (pv 9) pe_bl rfl)
          (pss_cons (ps_dput (hu_of hr) (pv 6) (pv 10) pe_bl rfl)
          (pss_one (ps_expr (pe_bm PySem.F.plainAttrs_list PySem.F.slot_list_append PySem.F.type_list_append mt_append (pv 7) (pa_cons (pe_tup (pa_cons (pv 9) (pa_cons (pv 10) pa_nil))) pa_nil)))))) pss_nil)))))
      (pss_one (ps_ret (pv 7)))))))), ?_⟩
    have een : (if (1 : Int) > least then 1 else least) = ((max 1 least.toNat : Nat) : Int) := by split <;> omega
    refine ⟨_, rfl, least, 1, rfl, ?_⟩
    refine ⟨[some (.ref a), some (.int m), some (.int least), some (.int ((max 1 least.toNat : Nat) : Int)), none, none, none, none, none, none, none], by rw [een]; rfl, ?_⟩
    generalize een2 : max 1 least.toNat = en at *
    have lenV : ((l.map fun x => ((x : Nat) : Int)).map V.int).length = l.length := by rw [List.length_map, List.length_map]
    have atl : ∀ {z : Int} {i : Nat}, z = (i : Int) → i < l.length → atI ((l.map fun x => ((x : Nat) : Int)).map V.int) z = some (V.int ((Sh68.num l i : Nat) : Int)) := fun {z i} e h => by
      rw [e]
      refine atI_nat ?_
      rw [List.map_map, List.getElem?_map, List.getElem?_eq_getElem h]
      unfold Sh68.num
      rw [List.getD_eq_getElem?_getD, List.getElem?_eq_getElem h]
      rfl
    -- cells
    refine ⟨_, rfl, a, _, rfl, .inl hS, ((l.length : Nat) : Int), by rw [lenV], by omega, by omega, fun D nD => ?_⟩
    refine lc_range (lo := 0) (n := ((l.length : Nat) : Int).toNat) (fun i H' => Same H H' ∧ H' D = some (.lst (((List.range i).filter fun k => decide (en ≤ Sh68.num l k)).map fun k => V.int ((k : Nat) : Int)))) ⟨same_upd nD, upd_same⟩ (fun i H' hi h => ?_) (fun H1 h => ?_)
    · obtain ⟨sm, hD⟩ := h
      have hi' : i < l.length := by omega
      refine ⟨rfl, ?_⟩
      refine ⟨_, rfl, _, rfl, a, _, _, _, rfl, rfl, sm.seq hS, atl (i := i) (by omega) hi', _, rfl, _, _, rfl, rfl, _, rfl, ite2 (fun e => ?_) (fun e => ?_)⟩
      · have e := of_decide_eq_true e
        refine ⟨_, rfl, _, hD, ?_, ?_, ?_⟩
        · rw [List.length_map]
          refine Nat.lt_of_le_of_lt (List.length_filter_le _ _) ?_
          rw [List.length_range]
          exact Nat.lt_of_lt_of_le hi' (Nat.le_trans (by omega) (show 5000 ≤ sizeLine by decide))
        · intro b o e
          rw [upd_ne (ne_of_none e nD)]
          exact sm b o e
        · rw [upd_same, List.range_succ, List.filter_append, List.filter_cons, if_pos (decide_eq_true (by omega)), List.map_append, Int.zero_add]
          rfl
      · have e : ¬ en ≤ Sh68.num l i := fun z => e (decide_eq_true (by omega))
        refine ⟨sm, ?_⟩
        rw [hD, List.range_succ, List.filter_append, List.filter_cons, if_neg (by rw [decide_eq_true_eq]; exact e), List.filter_nil, List.append_nil]
    obtain ⟨s1, hD⟩ := h
    rw [Int.toNat_natCast, hl] at hD
    refine ⟨[some (.ref a), some (.int m), some (.int least), some (.int (en : Int)), some (.ref D), none, none, none, none, none, none], rfl, ?_⟩
    -- rows_out, columns_out, pairs
    refine fun ro nro => ⟨_, by dsimp only [List.set_cons_succ, List.set_cons_zero], ?_⟩
    have s2 := same_upd (o := .dK []) nro
    have hro : upd H1 ro (.dK []) ro = some (.dK []) := upd_same
    have hD := s2 _ _ hD
    have s2 := s1.trans s2
    generalize upd H1 ro (.dK []) = H2 at *
    refine fun co nco => ⟨_, by dsimp only [List.set_cons_succ, List.set_cons_zero], ?_⟩
    have s3 := same_upd (o := .dK []) nco
    have hco : upd H2 co (.dK []) co = some (.dK []) := upd_same
    have hroco : ro ≠ co := ne_of_none hro nco
    have hD := s3 _ _ hD
    have hro := s3 _ _ hro
    have s3 := s2.trans s3
    generalize upd H2 co (.dK []) = H3 at *
    refine ⟨Nat.zero_le _, fun pr npr => ⟨_, by dsimp only [List.set_cons_succ, List.set_cons_zero], ?_⟩⟩
    have s4 := same_upd (o := .lst []) npr
    have hpr : upd H3 pr (.lst []) pr = some (.lst []) := upd_same
    have hD := s4 _ _ hD
    have hro := s4 _ _ hro
    have hco := s4 _ _ hco
    have s4 := s3.trans s4
    generalize upd H3 pr (.lst []) = H4 at *
    -- sorted
    have ecs : ((List.range (n * m)).filter fun k => decide (en ≤ Sh68.num l k)).map (fun k => V.int ((k : Nat) : Int)) = (((List.range (n * m)).filter fun k => decide (en ≤ Sh68.num l k)).map fun k => ((k : Nat) : Int)).map V.int := by
      rw [List.map_map]
      rfl
    rw [ecs] at hD
    refine ⟨_, rfl, D, a, _, _, rfl, rfl, SqL.of hD, s4.seq hS, fun j hj => ?_, .nil (s4 _ _ hT), fun H5 r eN nr hr5 => ?_⟩
    · obtain ⟨k, hk, rfl⟩ := List.mem_map.mp hj
      have hk' := List.mem_range.mp (List.mem_filter.mp hk).1
      rw [List.length_map]
      omega
    have est := sortedBy_nat (l := l) (cs := (List.range (n * m)).filter fun k => decide (en ≤ Sh68.num l k))
    have hmemL : ∀ k, k ∈ ((List.range (n * m)).filter fun k => decide (en ≤ Sh68.num l k)).mergeSort (fun i j => decide (Sh68.num l j ≤ Sh68.num l i)) ↔ k < n * m ∧ en ≤ Sh68.num l k := fun k => by
      rw [List.mem_mergeSort, List.mem_filter, List.mem_range, decide_eq_true_eq]
    have hpw : (((List.range (n * m)).filter fun k => decide (en ≤ Sh68.num l k)).mergeSort (fun i j => decide (Sh68.num l j ≤ Sh68.num l i))).Pairwise (Ahead (Sh68.num l)) := sort_ahead (List.pairwise_lt_range.filter _)
    have hlenL : (((List.range (n * m)).filter fun k => decide (en ≤ Sh68.num l k)).mergeSort (fun i j => decide (Sh68.num l j ≤ Sh68.num l i))).length ≤ 5000 := by
      rw [List.length_mergeSort]
      refine Nat.le_trans (List.length_filter_le _ _) ?_
      rw [List.length_range]
      exact hN
    rw [est, List.map_map] at hr5
    have hd5 : ∀ {b o}, H4 b = some o → (∀ ps, o ≠ .tbl ps) → H5 b = some o := fun e n => eN _ _ e n
    have hro := hd5 hro (fun ps z => by cases z)
    have hco := hd5 hco (fun ps z => by cases z)
    have rpr : r ≠ pr := fun z => by
      obtain ⟨ps, e⟩ := nr _ (by rw [z]; exact hpr)
      cases e
    have hpr := hd5 hpr (fun ps z => by cases z)
    clear hd5 eN nr hD est ecs
    generalize ((List.range (n * m)).filter fun k => decide (en ≤ Sh68.num l k)).mergeSort (fun i j => decide (Sh68.num l j ≤ Sh68.num l i)) = L at *
    have hr5 : H5 r = some (.lst (L.map fun k => V.int ((k : Nat) : Int))) := hr5
    refine ⟨r, rfl, ⟨_, SqL.of hr5⟩, for_list (K := K) (a := r) (xs := L.map fun k => V.int ((k : Nat) : Int)) (fun i σ H' => ∃ (v8 v9 v10 : Option V) (tm : List (Addr × List V)), σ = [some (.ref a), some (.int m), some (.int least), some (.int (en : Int)), some (.ref D), some (.ref ro), some (.ref co), some (.ref pr), v8, v9, v10] ∧
        H' r = some (.lst (L.map fun k => V.int ((k : Nat) : Int))) ∧ H' ro = some (.dK (dk (((L.take i).foldl (stp m) []).map (·.1)))) ∧ H' co = some (.dK (dk (((L.take i).foldl (stp m) []).map (·.2)))) ∧
        H' pr = some (.lst (tm.map fun q => V.ref q.1)) ∧ (∀ q ∈ tm, H' q.1 = some (.tup q.2)) ∧ tm.map (·.2) = ((L.take i).foldl (stp m) []).map pv2)
      ⟨none, none, none, [], rfl, hr5, hro, hco, hpr, (fun q hq => by cases hq), rfl⟩ (fun i σ H' _ ⟨_, _, _, _, _, h, _⟩ => SqL.of h) ?_ ?_⟩
    · rintro i y σ H6 hi ⟨v8, v9, v10, tm, rfl, g1, g2, g3, g4, g5, g6⟩
      rw [List.getElem?_map] at hi
      obtain ⟨x, hx, rfl⟩ := Option.map_eq_some_iff.mp hi
      have hxL := (hmemL x).mp (List.mem_of_getElem? hx)
      have hiL : i < L.length := (List.getElem?_eq_some_iff.mp hx).1
      have hm0 : 0 < m := by
        rcases Nat.eq_zero_or_pos m with z | z
        · rw [z, Nat.mul_zero] at hxL
          omega
        · exact z
      have estp : (L.take (i + 1)).foldl (stp m) [] = stp m ((L.take i).foldl (stp m) []) x := by
        rw [List.take_add_one, hx, List.foldl_append]
        rfl
      have alen := stp_len m (L.take i) []
      rw [List.length_take] at alen
      have alen : ((L.take i).foldl (stp m) []).length ≤ 5000 := Nat.le_trans alen (by show 0 + min i L.length ≤ 5000; omega)
      rw [estp]
      generalize (L.take i).foldl (stp m) [] = acc at *
      have ed : ((x : Nat) : Int) / (m : Int) = ((x / m : Nat) : Int) := (Int.natCast_ediv x m).symm
      have em : ((x : Nat) : Int) % (m : Int) = ((x % m : Nat) : Int) := (Int.natCast_emod x m).symm
      refine ⟨_, rfl, _, rfl, _, _, rfl, rfl, ⟨by omega, by omega⟩, [some (.ref a), some (.int m), some (.int least), some (.int (en : Int)), some (.ref D), some (.ref ro), some (.ref co), some (.ref pr), some (.int ((x : Nat) : Int)), some (.int ((x / m : Nat) : Int)), v10], by rw [← ed]; rfl, ?_⟩
      refine ⟨_, rfl, _, rfl, _, _, rfl, rfl, (by show (0 : Int) < (m : Int); omega), [some (.ref a), some (.int m), some (.int least), some (.int (en : Int)), some (.ref D), some (.ref ro), some (.ref co), some (.ref pr), some (.int ((x : Nat) : Int)), some (.int ((x / m : Nat) : Int)), some (.int ((x % m : Nat) : Int))], by rw [← em]; rfl, ?_⟩
      have skip : ¬ (x / m ∉ acc.map (·.1) ∧ x % m ∉ acc.map (·.2)) → stp m acc x = acc := fun z => if_neg z
      refine ⟨_, rfl, _, rfl, ro, _, rfl, DGet.k (k := Sum.inl ((x / m : Nat) : Int)) g2, _, rfl, ite2 (fun e1 => ?_) (fun e1 => ?_)⟩
      · have f1 : x / m ∉ acc.map (·.1) := fun z => by
          rw [dk_has, decide_eq_true z] at e1
          exact absurd e1 (by decide)
        refine ⟨_, rfl, _, rfl, co, _, rfl, DGet.k (k := Sum.inl ((x % m : Nat) : Int)) g3, _, rfl, ite2 (fun e2 => ?_) (fun e2 => ?_)⟩
        · have f2 : x % m ∉ acc.map (·.2) := fun z => by
            rw [dk_has, decide_eq_true z] at e2
            exact absurd e2 (by decide)
          have es : stp m acc x = acc ++ [(x / m, x % m)] := if_pos ⟨f1, f2⟩
          rw [es, List.map_append, List.map_append, List.map_append]
          refine ⟨_, rfl, _, rfl, ro, _, rfl, DPut.k (k := Sum.inl ((x / m : Nat) : Int)) g2 ?_, ?_⟩
          · unfold dk
            rw [List.length_map, List.length_map]
            exact Nat.lt_of_le_of_lt alen (by decide)
          rw [dk_put f1]
          have n1 : co ≠ ro := fun z => hroco z.symm
          have n2 : pr ≠ ro := ne_of g4 g2 (by intro z; cases z)
          have n3 : r ≠ ro := ne_of g1 g2 (by intro z; cases z)
          refine ⟨_, rfl, _, rfl, co, _, rfl, DPut.k (k := Sum.inl ((x % m : Nat) : Int)) ((upd_ne n1).trans g3) ?_, ?_⟩
          · unfold dk
            rw [List.length_map, List.length_map]
            exact Nat.lt_of_le_of_lt alen (by decide)
          rw [dk_put f2]
          have n4 : pr ≠ co := ne_of g4 g3 (by intro z; cases z)
          have n5 : r ≠ co := ne_of g1 g3 (by intro z; cases z)
          have k1 : upd (upd H6 ro (.dK (dk (acc.map (·.1) ++ [x / m])))) co (.dK (dk (acc.map (·.2) ++ [x % m]))) ro = some (.dK (dk (acc.map (·.1) ++ [x / m]))) := (upd_ne hroco).trans upd_same
          have k2 : upd (upd H6 ro (.dK (dk (acc.map (·.1) ++ [x / m])))) co (.dK (dk (acc.map (·.2) ++ [x % m]))) co = some (.dK (dk (acc.map (·.2) ++ [x % m]))) := upd_same
          have k3 : upd (upd H6 ro (.dK (dk (acc.map (·.1) ++ [x / m])))) co (.dK (dk (acc.map (·.2) ++ [x % m]))) pr = some (.lst (tm.map fun q => V.ref q.1)) := (upd_ne n4).trans ((upd_ne n2).trans g4)
          have k4 : upd (upd H6 ro (.dK (dk (acc.map (·.1) ++ [x / m])))) co (.dK (dk (acc.map (·.2) ++ [x % m]))) r = some (.lst (L.map fun k => V.int ((k : Nat) : Int))) := (upd_ne n5).trans ((upd_ne n3).trans g1)
          have k5 : ∀ q ∈ tm, upd (upd H6 ro (.dK (dk (acc.map (·.1) ++ [x / m])))) co (.dK (dk (acc.map (·.2) ++ [x % m]))) q.1 = some (.tup q.2) := fun q hq =>
            (upd_ne (ne_of (g5 q hq) g3 (by intro z; cases z))).trans ((upd_ne (ne_of (g5 q hq) g2 (by intro z; cases z))).trans (g5 q hq))
          generalize upd (upd H6 ro (.dK (dk (acc.map (·.1) ++ [x / m])))) co (.dK (dk (acc.map (·.2) ++ [x % m]))) = H7 at *
          have tlen : tm.length = acc.length := by
            have z := congrArg List.length g6
            rw [List.length_map, List.length_map] at z
            exact z
          refine ⟨.ref pr, rfl, .inl ⟨rfl, _, SqL.of k3⟩, _, rfl, _, rfl, (by show 2 ≤ sizeLine; decide), fun t nt => ?_⟩
          have st := same_upd (o := .tup [.int ((x / m : Nat) : Int), .int ((x % m : Nat) : Int)]) nt
          refine ⟨pr, _, _, rfl, rfl, st _ _ k3, ?_, ?_⟩
          · rw [List.length_map, tlen]
            exact Nat.lt_of_le_of_lt alen (by decide)
          · have ht : upd H7 t (.tup [.int ((x / m : Nat) : Int), .int ((x % m : Nat) : Int)]) t = some (.tup [.int ((x / m : Nat) : Int), .int ((x % m : Nat) : Int)]) := upd_same
            have hp8 := st _ _ k3
            refine ⟨_, _, _, tm ++ [(t, [.int ((x / m : Nat) : Int), .int ((x % m : Nat) : Int)])], rfl, ?_, ?_, ?_, ?_, fun q hq => ?_, ?_⟩
            · rw [upd_ne rpr]
              exact st _ _ k4
            · rw [upd_ne (ne_of k1 k3 (by intro z; cases z))]
              exact st _ _ k1
            · rw [upd_ne (ne_of k2 k3 (by intro z; cases z))]
              exact st _ _ k2
            · rw [upd_same, List.map_append]
              rfl
            · rcases List.mem_append.mp hq with hq | hq
              · have z := st _ _ (k5 q hq)
                rw [upd_ne (ne_of z hp8 (by intro z; cases z))]
                exact z
              · rw [List.mem_singleton.mp hq]
                rw [upd_ne (ne_of ht hp8 (by intro z; cases z))]
                exact ht
            · rw [List.map_append, g6]
              rfl
        · rw [dk_has] at e2
          have f2 : x % m ∈ acc.map (·.2) := by
            by_cases z : x % m ∈ acc.map (·.2)
            · exact z
            · exact absurd (by rw [decide_eq_false z]; rfl) e2
          rw [skip fun z => z.2 f2]
          exact ⟨_, _, _, tm, rfl, g1, g2, g3, g4, g5, g6⟩
      · rw [dk_has] at e1
        have f1 : x / m ∈ acc.map (·.1) := by
          by_cases z : x / m ∈ acc.map (·.1)
          · exact z
          · exact absurd (by rw [decide_eq_false z]; rfl) e1
        rw [skip fun z => z.1 f1]
        exact ⟨_, _, _, tm, rfl, g1, g2, g3, g4, g5, g6⟩
    · rintro σ H6 ⟨v8, v9, v10, tm, rfl, g1, g2, g3, g4, g5, g6⟩
      refine ⟨_, rfl, q _ pr tm g4 g5 ?_⟩
      rw [g6, List.length_map, List.take_length]
      by_cases hz : 0 < n ∧ 0 < m
      · rw [chosen_is hz.1 hz.2 (by rw [een2]; exact hmemL) hpw]
      · have hz0 : n * m = 0 := by
          rcases Nat.eq_zero_or_pos n with z | z
          · rw [z, Nat.zero_mul]
          · rcases Nat.eq_zero_or_pos m with y | y
            · rw [y, Nat.mul_zero]
            · exact absurd ⟨z, y⟩ hz
        have e1 : L = [] := by
          cases L with
          | nil => rfl
          | cons k t =>
            have := (hmemL k).mp List.mem_cons_self
            omega
        have e2 : min n m = 0 := by
          by_cases h1 : 0 < n
          · have : ¬ 0 < m := fun y => hz ⟨h1, y⟩
            omega
          · omega
        rw [e1]
        unfold Sh68.chosen
        rw [e2]
        rfl
end
end Tm

namespace Tm
open PySem PySem.Spec PyProof.Rows L2
open PySem.W (Codec)
theorem told_of {tm : List (Addr × List V)} {r : List (Nat × Nat)} (h : tm.map (·.2) = r.map pv2) : (V.int (tm.length : Int) :: tm.flatMap (·.2)) = (toldPairs r).map V.int := by
  have e1 : tm.length = r.length := by
    have z := congrArg List.length h
    rw [List.length_map, List.length_map] at z
    exact z
  have e2 : tm.flatMap (·.2) = (r.flatMap fun p => [(p.1 : Int), (p.2 : Int)]).map V.int := by
    rw [List.map_flatMap, List.flatMap_def, h, ← List.flatMap_def]
    rfl
  unfold toldPairs
  rw [e1, e2, List.map_cons]
theorem told_len {tm : List (Addr × List V)} {r : List (Nat × Nat)} (h : tm.map (·.2) = r.map pv2) : (tm.flatMap (·.2)).length = 2 * r.length := by
  rw [List.flatMap_def, h, ← List.flatMap_def]
  clear h
  induction r with
  | nil => rfl
  | cons p t ih =>
    rw [List.flatMap_cons, List.length_append, ih, List.length_cons]
    show 2 + 2 * t.length = _
    omega
end Tm

namespace Tm
open PySem PySem.Spec PyProof.Rows L2
open PySem.W (Codec)
abbrev sMain : Stmt := topS 3
theorem scMain : FnScope ["n", "least", "l", "width"] ["n", "least", "l"] (defScope sMain) := ⟨rfl, rfl, rfl, by decide +kernel, rfl, by decide +kernel, by decide +kernel⟩
section
variable {P : Program} {w : World} {K : PySem.W.Frag} {mg : Str → Option Value} {base : Heap}
/-! ### tm_choose -/
def spMain (K : PySem.W.Frag) (tp : Addr) : Sp := fun vs H Q _ => ∃ (n least : Int) (a : Addr) (ns : List Int), vs = [.int n, .int least, .ref a] ∧ SqL K H a (ns.map V.int) ∧ (∀ x ∈ ns, 0 ≤ x) ∧ ns.length ≤ 5000 ∧ 0 ≤ n ∧ 0 ≤ least ∧ ns.length = n.toNat * (ns.length / n.toNat) ∧ H tp = some (.tbl #[]) ∧
  ∀ H' v, H' v = some (.lst ((PySh68.tm_choose n least ns).map V.int)) → Q (.ref v) H'
theorem ok_main {f fC fN tp : Addr} {fd fdC fdN : FuncData} {k : Nat} {t1 t2 : Tok} (F : Fun K "tm_choose" "tm_choose" sMain f fd)
    (FC : Fun K "pairs_chosen" "pairs_chosen" sChosen fC fdC) (bC : Binds K fdC ["votes", "width", "least"] []) (gC : mg "pairs_chosen" = some (.ref fC)) (GC : FnOk P w K mg base CX0 (k + 2) fC fdC ["votes", "width", "least"] (spChosen K tp))
    (FN : Fun K "counted" "counted" sCounted fN fdN) (bN : Binds K fdN ["found"] []) (gN : mg "counted" = some (.ref fN)) (GN : FnOk P w K mg base CX0 1 fN fdN ["found"] spCounted)
    (ml : mg "len" = none) (mM : mg "MOST_ROWS" = some (.int 64 t1)) (mR : mg "OUT_OF_RANGE" = some (.int (-2) t2)) :
    FnOk P w K mg base CX0 (k + 3) f fd ["n", "least", "l"] (spMain K tp) := by
  refine F.ok scMain (fun vs H Q E h => ?_) (fun cdv A outer s H vs Q E hr h => ?_)
  · obtain ⟨n, least, a, ns, rfl, _⟩ := h
    rfl
  · obtain ⟨n, least, a, ns, rfl, hS, hp, hl, hn, hle, hlen, hT, q⟩ := h
    have hr1 : Room 1 _ := hr.mono (by omega)
    refine ⟨_, pss_cons (ps_if (PW.pt (pw_or (pt_cmpR op_lt (pv 0) pe_int (nomark _)) (pw_or1 (pt_cmpR op_gt (pv 0) (pe_glob (v := .int 64) (by rfl) mM ⟨_, rfl⟩) (nomark _)))))
        (pss_one (ps_ret (pe_lst (pa_cons (pe_glob (v := .int (-2)) (by rfl) mR ⟨_, rfl⟩) pa_nil)))) pss_nil)
      (pss_cons (ps_set (i := 3) scMain.nd rfl (.inl rfl) (pe_op op_fdiv (pe_callB call_len_seq (by rfl) ml PySem.boot_len (pa_cons (pv 2) pa_nil)) (pv 0)))
      (pss_cons (ps_if (PW.pt (pw_or (pt_cmpR op_lt (pv 3) pe_int (nomark _)) (pw_or1 (pt_cmpR op_gt (pv 3) (pe_glob (v := .int 64) (by rfl) mM ⟨_, rfl⟩) (nomark _)))))
        (pss_one (ps_ret (pe_lst (pa_cons (pe_glob (v := .int (-2)) (by rfl) mR ⟨_, rfl⟩) pa_nil)))) pss_nil)
      (pss_one (ps_ret (pe_call GN hr1 (by rfl) gN FN.kp bN .nil pass0 (pa_cons (pe_call GC hr (by rfl) gC FC.kp bC .nil pass0 (pa_cons (pv 2) (pa_cons (pv 3) (pa_cons (pv 1) pa_nil)))) pa_nil)))))), ?_⟩
    have bad : ¬ ((1 ≤ n.toNat ∧ n.toNat ≤ 64) ∧ (1 ≤ ns.length / n.toNat ∧ ns.length / n.toNat ≤ 64)) → 1 ≤ sizeLine ∧ ∀ v, H v = none → Q (.ref v) (upd H v (.lst [.int (-2)])) := fun c => ⟨by decide, fun v nv => q _ v (by rw [upd_same, choose_bad c]; rfl)⟩
    refine ⟨_, rfl, _, _, rfl, rfl, _, rfl, ite2 (fun c => ?_) (fun c1 => ?_)⟩
    · have c := of_decide_eq_true c
      exact bad (by omega)
    have c1 : ¬ n < 1 := fun z => c1 (decide_eq_true z)
    refine ⟨_, rfl, _, _, rfl, rfl, _, rfl, ite2 (fun c => ?_) (fun c2 => ?_)⟩
    · have c := of_decide_eq_true c
      exact bad (by omega)
    have c2 : ¬ (64 : Int) < n := fun z => c2 (decide_eq_true z)
    have ew : (((ns.map V.int).length : Nat) : Int) / n = ((ns.length / n.toNat : Nat) : Int) := by
      rw [List.length_map, Int.natCast_ediv, Int.toNat_of_nonneg hn]
    refine ⟨_, rfl, a, _, rfl, .inl hS, _, rfl, _, _, rfl, rfl, ⟨by omega, by omega⟩, ?_⟩
    dsimp only
    rw [ew]
    generalize emw : ns.length / n.toNat = mw at *
    refine ⟨_, rfl, _, _, rfl, rfl, _, rfl, ite2 (fun c => ?_) (fun c3 => ?_)⟩
    · have c := of_decide_eq_true c
      exact bad (by omega)
    have c3 : ¬ (mw : Int) < 1 := fun z => c3 (decide_eq_true z)
    refine ⟨_, rfl, _, _, rfl, rfl, _, rfl, ite2 (fun c => ?_) (fun c4 => ?_)⟩
    · have c := of_decide_eq_true c
      exact bad (by omega)
    have c4 : ¬ (64 : Int) < (mw : Int) := fun z => c4 (decide_eq_true z)
    have ok : (1 ≤ n.toNat ∧ n.toNat ≤ 64) ∧ (1 ≤ ns.length / n.toNat ∧ ns.length / n.toNat ≤ 64) := by rw [emw]; omega
    have due := choose_due (least := least) ok
    rw [emw] at due
    clear bad
    have hS' : SqL K H a (((Sh68Neutral.nats ns).map fun x => ((x : Nat) : Int)).map V.int) := by rw [nats_back hp]; exact hS
    refine ⟨_, rfl, _, rfl, _, rfl, a, Sh68Neutral.nats ns, n.toNat, mw, least, rfl, hS', by rw [nats_len]; exact hlen, by rw [← hlen]; exact hl, by omega, hle, hT, fun H1 o tm g1 g2 g3 => ?_⟩
    refine ⟨o, tm, rfl, g1, g2, ?_, fun H2 v s2 nv hv => q _ v ?_⟩
    · rw [told_len g3]
      have z := chosen_len (n := n.toNat) (m := mw) (least := least.toNat) (l := Sh68Neutral.nats ns)
      have : 2 * (Sh68.chosen n.toNat mw least.toNat (Sh68Neutral.nats ns)).length ≤ 200 := by omega
      exact Nat.lt_of_le_of_lt this (by decide)
    · rw [hv, told_of g3, due]
end
/-! ### what the top has written -/
theorem all_mk {P : Program} {w : World} {K : PySem.W.Frag} {h : Heap} {mg : Str → Option Value} {fa f0 f1 f2 : Addr} (X : K.In h) (G : h.Ns mainGlobals mg) (hfa : mg "tm_choose" = some (.ref fa))
    {od0 an0 od1 an1 od2 an2 : Option Addr} {sl0 sl1 sl2 : Array (Option Value)} {oc0 kV0 dc0 pm0 cd0 ct0 oc1 kV1 dc1 pm1 cd1 ct1 oc2 kV2 dc2 pm2 ct2 : Value} {t0 t1 : Tok} {cc tp : Addr} {occ : Value} {odc : Option Addr} {vsc : Array Value} {slc : Array (Option Value)}
    (a0 : PySem.W.nsIn K mainGlobals "tm_choose" = some (some (.ref f0))) (l0 : K.lookup f0 = some ⟨oc0, od0, .func (PySem.W.fnOf "tm_choose" "tm_choose" (defArgs sMain) (defBody sMain) (defScope sMain) .none kV0 dc0 pm0 an0 cd0 ct0), sl0⟩) (c0 : PySem.W.codeIn K cd0 "tm_choose" = true) (k0 : PySem.W.keepIn K (.ref f0) = true)
    (a1 : PySem.W.nsIn K mainGlobals "counted" = some (some (.ref f1))) (l1 : K.lookup f1 = some ⟨oc1, od1, .func (PySem.W.fnOf "counted" "counted" (defArgs sCounted) (defBody sCounted) (defScope sCounted) .none kV1 dc1 pm1 an1 cd1 ct1), sl1⟩) (c1 : PySem.W.codeIn K cd1 "counted" = true) (k1 : PySem.W.keepIn K (.ref f1) = true)
    (a2 : PySem.W.nsIn K mainGlobals "pairs_chosen" = some (some (.ref f2))) (l2 : K.lookup f2 = some ⟨oc2, od2, .func (PySem.W.fnOf "pairs_chosen" "pairs_chosen" (defArgs sChosen) (defBody sChosen) (defScope sChosen) .none kV2 dc2 pm2 an2 (.ref cc) ct2), sl2⟩) (c2 : PySem.W.codeIn K (.ref cc) "pairs_chosen" = true) (k2 : PySem.W.keepIn K (.ref f2) = true)
    (z0 : PySem.W.nsIn K mainGlobals "len" = some none)
    (z1 : PySem.W.nsIn K mainGlobals "range" = some none)
    (z2 : PySem.W.nsIn K mainGlobals "sorted" = some none)
    (z3 : PySem.W.nsIn K mainGlobals "max" = some none)
    (y0 : PySem.W.nsIn K mainGlobals "MOST_ROWS" = some (some (.int 64 t0)))
    (y1 : PySem.W.nsIn K mainGlobals "OUT_OF_RANGE" = some (some (.int (-2) t1)))
    (lc : K.lookup cc = some ⟨occ, odc, .fields vsc, slc⟩) (hv : vsc[11]? = some (.ref tp)) (np : K.lookup tp = none) :
    ∃ (fd : FuncData) (c tp : Addr), PySem.W.tabIn K "pairs_chosen" = some (c, tp) ∧ K.lookup tp = none ∧ (∀ (s : Shared) (us : List Value), us.length = (["n", "least", "l"] : List Str).length → BindsTo s fd ⟨us, []⟩ ((["n", "least", "l"] : List Str).zip us)) ∧ ∀ base : Heap, K.In base → base.Ns mainGlobals mg → LamX.TabB base mg c tp → FnOk P w K mg base CX0 3 fa fd ["n", "least", "l"] (spMain K tp) := by
  have e := hfa.symm.trans (PySem.W.mg_of X G a0)
  cases e
  have F0 := fun_mk (st := sMain) l0 c0 k0
  have F1 := fun_mk (st := sCounted) l1 c1 k1
  have F2 := fun_mk (st := sChosen) l2 c2 k2
  have b1 := F1.binds (ps := ["found"]) fun _ _ _ _ _ _ us hl => match us, hl with | [_], _ => rfl
  have g1 := PySem.W.mg_of X G a1
  have b2 := F2.binds (ps := ["votes", "width", "least"]) fun _ _ _ _ _ _ us hl => match us, hl with | [_, _, _], _ => rfl
  have g2 := PySem.W.mg_of X G a2
  have m_len := PySem.W.mg_none_of X G z0
  have m_range := PySem.W.mg_none_of X G z1
  have m_sorted := PySem.W.mg_none_of X G z2
  have m_max := PySem.W.mg_none_of X G z3
  have m_MOST_ROWS := PySem.W.mg_of X G y0
  have m_OUT_OF_RANGE := PySem.W.mg_of X G y1
  have htab := tab_in a2 l2 rfl lc hv
  refine ⟨PySem.W.fnOf "tm_choose" "tm_choose" (defArgs sMain) (defBody sMain) (defScope sMain) .none kV0 dc0 pm0 an0 cd0 ct0, cc, tp, htab, np, fun s us hu => match us, hu with | [_, _, _], _ => .of_eq rfl, fun base _ _ TB => ?_⟩
  have GN : FnOk P w K mg base CX0 1 _ _ ["found"] spCounted := ok_counted F1 m_len
  have GC : FnOk P w K mg base CX0 2 _ _ ["votes", "width", "least"] (spChosen K tp) := ok_chosen (k := 0) F2 rfl TB m_max m_len m_range m_sorted
  exact ok_main (k := 0) F0 F2 b2 g2 GC F1 b1 g1 GN m_len m_MOST_ROWS m_OUT_OF_RANGE
end Tm
open PySem PySem.W PyProof.Rows
set_option maxRecDepth 100000 in
set_option maxHeartbeats 8000000 in
theorem PySem.Challenge.cw_skymatch_s03_tm_choose_holds : PySem.Challenge.rw_skymatch_s03_tm_choose.Holds := by
  w_on; k_headS; (case hw => exact ⟨[.int 1, .int 0, .list [.int 1]], by decide +kernel, by decide +kernel⟩)
  k_fillS
  refine Tm.walk_specT (r := PySem.Challenge.rw_skymatch_s03_tm_choose) (k := 3) (ps := ["n", "least", "l"]) (sp := Tm.spMain) (x := "pairs_chosen") (by decide +kernel) rfl rfl ⟨rfl, by decide, by decide⟩ rfl (fun w h Y => PySem.W.kIn_of Y) ?F ?S
  case F =>
    intro w mg fa h Y KX G hmg
    refine' Tm.all_mk KX G hmg ?a0 ?l0 ?c0 ?k0 ?a1 ?l1 ?c1 ?k1 ?a2 ?l2 ?c2 ?k2 ?z0 ?z1 ?z2 ?z3 ?y0 ?y1 ?lc ?hv ?np
    (case a0 => k_is)
    (case l0 => k_is)
    (case c0 => k_is)
    (case k0 => k_is)
    (case a1 => k_is)
    (case l1 => k_is)
    (case c1 => k_is)
    (case k1 => k_is)
    (case a2 => k_is)
    (case l2 => k_is)
    (case c2 => k_is)
    (case k2 => k_is)
    (case z0 => k_is)
    (case z1 => k_is)
    (case z2 => k_is)
    (case z3 => k_is)
    (case y0 => k_is)
    (case y1 => k_is)
    (case lc => k_is)
    (case hv => rfl)
    (case np => rfl)
  case S =>
    intro K tp H xs a hO hwi hask hx
    obtain ⟨n, least, ns, u⟩ := a
    cases hx with
    | cons h0 hx =>
      cases h0
      cases hx with
      | cons h1 hx =>
        cases h1
        cases hx with
        | cons h2 hx =>
          cases hx
          cases h2 with
          | lst hs ha =>
            have e1 := L2.ints_dw ns _ ha
            subst e1
            have q : (Codec.inInt 0 4294967295 n && (Codec.inInt 0 4294967295 least && ((Codec.inLen 0 5000 ns && ns.all (Codec.inInt 0 4294967295)) && true))) = true := hwi
            simp only [Bool.and_eq_true] at q
            obtain ⟨q0, q1, ⟨q2, q3⟩, _⟩ := q
            refine ⟨n, least, _, ns, rfl, hs, fun x hx => (Codec.inInt_iff.mp (List.all_eq_true.mp q3 x hx)).1, (Codec.inNat_iff.mp q2).2, (Codec.inInt_iff.mp q0).1, (Codec.inInt_iff.mp q1).1, Tm.choose_asked hask, hO, fun H' p hp => .lst (L2.SqL.of hp) (L2.dw_ints _)⟩

