import PyProof.Rows.All
import Wide.All
import OpenK.AllK
import Wide.FinOn
import HandS.List
import HandS.Iter
import HandS.Comp
import Open.SpecLaws
import KE.OsGo
import HandS.Spec
import HandS.WordsList
import HandS.SortRule
import PySem.Challenge.RW_skymatch_s09_tm_far
set_option Elab.async false
set_option linter.all false
set_option maxRecDepth 100000
set_option maxHeartbeats 4000000
namespace Tm
open Sh68 Sh68Neutral

/-! ### the pictures' numbers -/
def at_ (ns : List Int) (i : Nat) : Int := ns.getD i 0
def dst (ns : List Int) (i j : Nat) : Int :=
  (at_ ns (2 * i) - at_ ns (2 * j)) * (at_ ns (2 * i) - at_ ns (2 * j)) + (at_ ns (2 * i + 1) - at_ ns (2 * j + 1)) * (at_ ns (2 * i + 1) - at_ ns (2 * j + 1))
def trn (ns : List Int) (a b c : Nat) : Int :=
  (at_ ns (2 * b) - at_ ns (2 * a)) * (at_ ns (2 * c + 1) - at_ ns (2 * a + 1)) - (at_ ns (2 * b + 1) - at_ ns (2 * a + 1)) * (at_ ns (2 * c) - at_ ns (2 * a))
/-- the stars of a picture -/
def stars (ns : List Int) : List Pt := ptsOf (nats ns)

theorem nats_len (ns : List Int) : (nats ns).length = ns.length := by unfold nats; rw [List.length_map]
theorem stars_len (ns : List Int) : (stars ns).length = ns.length / 2 := by
  unfold stars ptsOf; rw [List.length_map, List.length_range, nats_len]
theorem at_get {ns : List Int} {i : Nat} (h : i < ns.length) : at_ ns i = ns[i] := by
  unfold at_; rw [List.getD_eq_getElem?_getD, List.getElem?_eq_getElem h]; rfl
theorem num_at {ns : List Int} (hp : ∀ x ∈ ns, 0 ≤ x) {i : Nat} (h : i < ns.length) : ((num (nats ns) i : Nat) : Int) = at_ ns i := by
  rw [at_get h]
  unfold num nats
  rw [List.getD_eq_getElem?_getD, List.getElem?_map, List.getElem?_eq_getElem h]
  show ((ns[i].toNat : Nat) : Int) = ns[i]
  exact Int.toNat_of_nonneg (hp _ (List.getElem_mem h))
theorem pt_stars {ns : List Int} (hp : ∀ x ∈ ns, 0 ≤ x) {i : Nat} (h : 2 * i + 1 < ns.length) : pt (stars ns) i = (at_ ns (2 * i), at_ ns (2 * i + 1)) := by
  have hi : i < ns.length / 2 := by omega
  unfold pt stars ptsOf
  rw [List.getD_eq_getElem?_getD, List.getElem?_map, List.getElem?_range (by rw [nats_len]; exact hi)]
  show ((((num (nats ns) (2 * i) : Nat) : Int)), (((num (nats ns) (2 * i + 1) : Nat) : Int))) = _
  rw [num_at hp (by omega), num_at hp h]
theorem square_is (z : Int) : ((square z : Nat) : Int) = z * z := by
  unfold square
  refine Int.toNat_of_nonneg ?_
  rcases Int.le_total 0 z with h | h
  · exact Int.mul_nonneg h h
  · exact Int.mul_nonneg_of_nonpos_of_nonpos h h
theorem dist_is {ns : List Int} (hp : ∀ x ∈ ns, 0 ≤ x) {i j : Nat} (hi : 2 * i + 1 < ns.length) (hj : 2 * j + 1 < ns.length) : ((dist2 (pt (stars ns) i) (pt (stars ns) j) : Nat) : Int) = dst ns i j := by
  rw [pt_stars hp hi, pt_stars hp hj]
  show ((square (at_ ns (2 * i) - at_ ns (2 * j)) + square (at_ ns (2 * i + 1) - at_ ns (2 * j + 1)) : Nat) : Int) = _
  rw [Int.natCast_add, square_is, square_is]
  rfl
theorem turn_is {ns : List Int} (hp : ∀ x ∈ ns, 0 ≤ x) {a b c : Nat} (ha : 2 * a + 1 < ns.length) (hb : 2 * b + 1 < ns.length) (hc : 2 * c + 1 < ns.length) : turn (pt (stars ns) a) (pt (stars ns) b) (pt (stars ns) c) = trn ns a b c := by
  rw [pt_stars hp ha, pt_stars hp hb, pt_stars hp hc]
  rfl
/-! ### one triangle, by its sides in order -/
theorem two_same (a b : List Int) (h : a.Perm b) (ha : a.Pairwise (fun x y => y ≤ x)) (hb : b.Pairwise (fun x y => y ≤ x)) : a = b :=
  h.eq_of_pairwise (fun x y _ _ h1 h2 => Int.le_antisymm h2 h1) ha hb
def ci (p : Nat × Nat) : Int × Int := ((p.1 : Int), (p.2 : Int))
def sidesOf (s : List Pt) (i j k : Nat) : List (Nat × Nat) := [(dist2 (pt s j) (pt s k), i), (dist2 (pt s i) (pt s k), j), (dist2 (pt s i) (pt s j), k)]
theorem three {α : Type} {l : List α} (h : l.length = 3) : ∃ x y z, l = [x, y, z] := by
  rcases l with _ | ⟨x, _ | ⟨y, _ | ⟨z, _ | ⟨u, t⟩⟩⟩⟩ <;> simp at h
  exact ⟨x, y, z, rfl⟩
theorem sorted_is (s : List Pt) (i j k : Nat) : ∃ x y z, (sidesOf s i j k).mergeSort (fun x y => decide (y.1 ≤ x.1)) = [x, y, z] ∧ y.1 ≤ x.1 ∧ z.1 ≤ y.1 ∧ [x, y, z].Perm (sidesOf s i j k) := by
  have hp := List.mergeSort_perm (sidesOf s i j k) (fun x y => decide (y.1 ≤ x.1))
  obtain ⟨x, y, z, e⟩ := three (l := (sidesOf s i j k).mergeSort (fun x y => decide (y.1 ≤ x.1))) (by rw [List.length_mergeSort]; rfl)
  have hs := List.pairwise_mergeSort (le := fun x y : Nat × Nat => decide (y.1 ≤ x.1)) (by intro a b c h1 h2; simp only [decide_eq_true_eq] at *; omega) (by intro a b; simp only [Bool.or_eq_true, decide_eq_true_eq]; omega) (sidesOf s i j k)
  rw [e] at hs hp
  refine ⟨x, y, z, e, ?_, ?_, hp⟩
  · have := (List.pairwise_cons.mp hs).1 y (by simp)
    simpa using this
  · have := (List.pairwise_cons.mp (List.pairwise_cons.mp hs).2).1 z (by simp)
    simpa using this
theorem tri_is {s : List Pt} {i j k : Nat} {q0 q1 q2 : Int × Int} (hq : [q0, q1, q2].Perm ((sidesOf s i j k).map ci)) (h01 : q0.1 ≤ q1.1) (h12 : q1.1 ≤ q2.1) :
    (q0.1 = q1.1 ∨ q1.1 = q2.1 → triOf s i j k = none) ∧
    (q0.1 ≠ q1.1 → q1.1 ≠ q2.1 → ∃ x y z : Nat × Nat, q2 = ci x ∧ q1 = ci y ∧ q0 = ci z ∧ (x ∈ sidesOf s i j k ∧ y ∈ sidesOf s i j k ∧ z ∈ sidesOf s i j k) ∧
      triOf s i j k = if turn (pt s x.2) (pt s y.2) (pt s z.2) = 0 then none else some ⟨x.2, y.2, z.2, 65536 * y.1 / x.1, 65536 * z.1 / x.1, decide (0 < turn (pt s x.2) (pt s y.2) (pt s z.2))⟩) := by
  obtain ⟨x, y, z, e, hyx, hzy, hp⟩ := sorted_is s i j k
  have ht : triOf s i j k = if x.1 = y.1 ∨ y.1 = z.1 ∨ turn (pt s x.2) (pt s y.2) (pt s z.2) = 0 then none else some ⟨x.2, y.2, z.2, 65536 * y.1 / x.1, 65536 * z.1 / x.1, decide (0 < turn (pt s x.2) (pt s y.2) (pt s z.2))⟩ := by
    unfold triOf
    show (match (sidesOf s i j k).mergeSort (fun x y => decide (y.1 ≤ x.1)) with
      | [x, y, z] => _
      | _ => none) = _
    rw [e]
  have hp2 : [q2, q1, q0].Perm ([x, y, z].map ci) := by
    have r : [q2, q1, q0] = [q0, q1, q2].reverse := rfl
    rw [r]
    exact (List.reverse_perm _).trans (hq.trans (hp.map ci).symm)
  have hf : [q2.1, q1.1, q0.1] = [(x.1 : Int), (y.1 : Int), (z.1 : Int)] := by
    refine two_same _ _ (hp2.map (f := fun p : Int × Int => p.1)) ?_ ?_
    · simp; omega
    · simp; omega
  simp only [List.cons.injEq, and_true] at hf
  obtain ⟨e2, e1, e0⟩ := hf
  refine ⟨fun h => ?_, fun n01 n12 => ?_⟩
  · rw [ht, if_pos]
    rcases h with h | h
    · exact .inr (.inl (by omega))
    · exact .inl (by omega)
  · have hx : q2 = ci x := by
      have m : q2 ∈ [x, y, z].map ci := hp2.subset (by simp)
      simp only [List.map_cons, List.map_nil, List.mem_cons, List.not_mem_nil, or_false] at m
      rcases m with m | m | m
      · exact m
      · exact absurd (congrArg Prod.fst m) (by show q2.1 ≠ (y.1 : Int); omega)
      · exact absurd (congrArg Prod.fst m) (by show q2.1 ≠ (z.1 : Int); omega)
    have hy : q1 = ci y := by
      have m : q1 ∈ [x, y, z].map ci := hp2.subset (by simp)
      simp only [List.map_cons, List.map_nil, List.mem_cons, List.not_mem_nil, or_false] at m
      rcases m with m | m | m
      · exact absurd (congrArg Prod.fst m) (by show q1.1 ≠ (x.1 : Int); omega)
      · exact m
      · exact absurd (congrArg Prod.fst m) (by show q1.1 ≠ (z.1 : Int); omega)
    have hz : q0 = ci z := by
      have m : q0 ∈ [x, y, z].map ci := hp2.subset (by simp)
      simp only [List.map_cons, List.map_nil, List.mem_cons, List.not_mem_nil, or_false] at m
      rcases m with m | m | m
      · exact absurd (congrArg Prod.fst m) (by show q0.1 ≠ (x.1 : Int); omega)
      · exact absurd (congrArg Prod.fst m) (by show q0.1 ≠ (y.1 : Int); omega)
      · exact m
    refine ⟨x, y, z, hx, hy, hz, ⟨hp.subset (by simp), hp.subset (by simp), hp.subset (by simp)⟩, ?_⟩
    rw [ht]
    have a1 : ¬ x.1 = y.1 := by omega
    have a2 : ¬ y.1 = z.1 := by omega
    simp only [a1, a2, false_or]
/-! ### all triangles, as the loops find them -/
def row3 (s : List Pt) (n i j : Nat) : List Tri := (List.range (n - (j + 1))).filterMap fun k => triOf s i j (j + 1 + k)
def row2 (s : List Pt) (n i : Nat) : List Tri := (List.range (n - (i + 1))).flatMap fun j => row3 s n i (i + 1 + j)
def row1 (s : List Pt) (n : Nat) : List Tri := (List.range n).flatMap fun i => row2 s n i
theorem range_split {n i : Nat} (h : i < n) : List.range n = List.range (i + 1) ++ (List.range (n - (i + 1))).map fun j => i + 1 + j := by
  have e : n = (i + 1) + (n - (i + 1)) := by omega
  conv => lhs; rw [e]
  rw [List.range_add]
theorem flat_above {α : Type} {n i : Nat} (F : Nat → List α) (h : i < n) : ((List.range n).flatMap fun j => if j ≤ i then [] else F j) = (List.range (n - (i + 1))).flatMap fun j => F (i + 1 + j) := by
  rw [range_split h, List.flatMap_append, List.flatMap_map]
  have e : ((List.range (i + 1)).flatMap fun j => if j ≤ i then [] else F j) = [] := by
    rw [List.flatMap_eq_nil_iff]
    intro j hj
    rw [if_pos (by have := List.mem_range.mp hj; omega)]
  rw [e, List.nil_append]
  congr 1
  funext j
  exact if_neg (by omega)
theorem filt_above {α : Type} {n i : Nat} (F : Nat → Option α) (h : i < n) : ((List.range n).filterMap fun j => if j ≤ i then none else F j) = (List.range (n - (i + 1))).filterMap fun j => F (i + 1 + j) := by
  rw [range_split h, List.filterMap_append, List.filterMap_map]
  have e : ((List.range (i + 1)).filterMap fun j => if j ≤ i then none else F j) = [] := by
    rw [List.filterMap_eq_nil_iff]
    intro j hj
    rw [if_pos (by have := List.mem_range.mp hj; omega)]
  rw [e, List.nil_append]
  congr 1
  funext j
  exact if_neg (by show ¬ i + 1 + j ≤ i; omega)
theorem flat_congr {α β : Type} : ∀ {l : List α} {f g : α → List β}, (∀ x ∈ l, f x = g x) → l.flatMap f = l.flatMap g
  | [], _, _, _ => rfl
  | x :: r, f, g, h => by
    rw [List.flatMap_cons, List.flatMap_cons, h x List.mem_cons_self, flat_congr fun y hy => h y (List.mem_cons_of_mem _ hy)]
theorem rows_are (s : List Pt) : triangles s = row1 s s.length := by
  unfold triangles row1
  refine flat_congr fun i hi => ?_
  have hi' := List.mem_range.mp hi
  rw [flat_above _ hi']
  unfold row2
  refine flat_congr fun j hj => ?_
  have hj' := List.mem_range.mp hj
  exact filt_above _ (by omega)
theorem flat_more {α : Type} (F : Nat → List α) (i : Nat) : (List.range (i + 1)).flatMap F = (List.range i).flatMap F ++ F i := by
  rw [List.range_succ, List.flatMap_append, List.flatMap_cons, List.flatMap_nil, List.append_nil]
theorem filt_more {α : Type} (F : Nat → Option α) (i : Nat) : (List.range (i + 1)).filterMap F = (List.range i).filterMap F ++ (F i).toList := by
  rw [List.range_succ, List.filterMap_append, List.filterMap_cons, List.filterMap_nil]
  cases F i <;> rfl
/-- how many there are at most -/
theorem flat_len {α : Type} {F : Nat → List α} {m : Nat} (h : ∀ i, (F i).length ≤ m) : ∀ n, ((List.range n).flatMap F).length ≤ n * m
  | 0 => by simp
  | n + 1 => by
    rw [flat_more, List.length_append]
    have := flat_len h n
    have := h n
    rw [Nat.succ_mul]
    omega
theorem row3_len (s : List Pt) (n i j : Nat) : (row3 s n i j).length ≤ n := by
  unfold row3
  refine Nat.le_trans (List.length_filterMap_le _ _) ?_
  rw [List.length_range]; omega
theorem row2_len (s : List Pt) (n i : Nat) : (row2 s n i).length ≤ n * n := by
  unfold row2
  refine Nat.le_trans (flat_len (fun j => row3_len s n i (i + 1 + j)) _) ?_
  exact Nat.mul_le_mul_right _ (by omega)
end Tm
namespace Tm
open Sh68 Sh68Neutral
/-! ### what is due -/
def ti (m : Tri) : List Int := [(m.a : Int), (m.b : Int), (m.c : Int), (m.u : Int), (m.v : Int), ((bit m.left : Nat) : Int)]
theorem small_is {ns : List Int} (hp : ∀ x ∈ ns, 0 ≤ x) : small (nats ns) = !(ns.any fun x => decide (8192 ≤ x)) := by
  unfold small nats
  rw [List.all_map, List.not_any_eq_all_not]
  have h : ∀ (l : List Int), (∀ x ∈ l, 0 ≤ x) → l.all ((fun a => decide (a < 8192)) ∘ fun z => z.toNat) = l.all fun x => !decide (8192 ≤ x) := by
    intro l
    induction l with
    | nil => intro _; rfl
    | cons x r ih =>
      intro h
      rw [List.all_cons, List.all_cons, ih fun y hy => h y (List.mem_cons_of_mem _ hy)]
      congr 1
      have hx := h x List.mem_cons_self
      show decide (x.toNat < 8192) = !decide (8192 ≤ x)
      by_cases c : 8192 ≤ x
      · rw [decide_eq_true c, decide_eq_false (by omega)]; rfl
      · rw [decide_eq_false c, decide_eq_true (by omega)]; rfl
  exact h ns hp
theorem few_is (ns : List Int) : few ((nats ns).length / 2) = decide (ns.length / 2 ≤ 24) := by
  rw [nats_len]; rfl
theorem ints_flat (L : List Tri) : Sh68Neutral.ints (L.flatMap triTold) = L.flatMap ti := by
  unfold Sh68Neutral.ints
  rw [List.map_flatMap]
  rfl
theorem tri_bad {ns : List Int} (h : ¬ ns.length / 2 ≤ 24) : PySh68.tm_triangles ns = [-2] := by
  show Sh68Neutral.told (answer (if few ((nats ns).length / 2) = true then Sh68.Call.triangles (nats ns) else Sh68.Call.bad)) = [-2]
  rw [few_is, decide_eq_false h]
  rfl
theorem tri_off {ns : List Int} (hp : ∀ x ∈ ns, 0 ≤ x) (h : ns.length / 2 ≤ 24) (ho : (ns.any fun x => decide (8192 ≤ x)) = true) : PySh68.tm_triangles ns = [-3] := by
  show Sh68Neutral.told (answer (if few ((nats ns).length / 2) = true then Sh68.Call.triangles (nats ns) else Sh68.Call.bad)) = [-3]
  rw [few_is, decide_eq_true h, if_pos rfl]
  show Sh68Neutral.told (if small (nats ns) = false then _ else _) = _
  rw [small_is hp, ho, if_pos (by decide)]
  rfl
theorem tri_due {ns : List Int} (hp : ∀ x ∈ ns, 0 ≤ x) (h : ns.length / 2 ≤ 24) (ho : (ns.any fun x => decide (8192 ≤ x)) = false) : PySh68.tm_triangles ns = ((triangles (stars ns)).length : Int) :: (triangles (stars ns)).flatMap ti := by
  show Sh68Neutral.told (answer (if few ((nats ns).length / 2) = true then Sh68.Call.triangles (nats ns) else Sh68.Call.bad)) = _
  rw [few_is, decide_eq_true h, if_pos rfl]
  show Sh68Neutral.told (if small (nats ns) = false then fail (-3) else many (triangles (stars ns)).length [(triangles (stars ns)).flatMap triTold]) = _
  rw [small_is hp, ho, if_neg (by decide)]
  show ((triangles (stars ns)).length : Int) :: Sh68Neutral.ints ((triangles (stars ns)).flatMap triTold) = _
  rw [ints_flat]
end Tm

namespace Tm
open Sh68 Sh68Neutral
/-! ### a triangle's corners -/
theorem tri_corners {s : List Pt} {i j k : Nat} {m : Tri} (h : triOf s i j k = some m) : [m.a, m.b, m.c].Perm [i, j, k] := by
  obtain ⟨x, y, z, e, hyx, hzy, hp⟩ := sorted_is s i j k
  have ht : triOf s i j k = if x.1 = y.1 ∨ y.1 = z.1 ∨ turn (pt s x.2) (pt s y.2) (pt s z.2) = 0 then none else some ⟨x.2, y.2, z.2, 65536 * y.1 / x.1, 65536 * z.1 / x.1, decide (0 < turn (pt s x.2) (pt s y.2) (pt s z.2))⟩ := by
    unfold triOf
    show (match (sidesOf s i j k).mergeSort (fun x y => decide (y.1 ≤ x.1)) with
      | [x, y, z] => _
      | _ => none) = _
    rw [e]
  rw [ht] at h
  split at h
  · cases h
  · cases h
    exact hp.map (f := fun p : Nat × Nat => p.2)
structure Corners (n : Nat) (m : Tri) : Prop where
  a : m.a < n
  b : m.b < n
  c : m.c < n
  ab : m.a ≠ m.b
  ac : m.a ≠ m.c
  bc : m.b ≠ m.c
theorem corners {s : List Pt} {m : Tri} (h : m ∈ triangles s) : Corners s.length m := by
  unfold triangles at h
  obtain ⟨i, hi, h⟩ := List.mem_flatMap.mp h
  obtain ⟨j, hj, h⟩ := List.mem_flatMap.mp h
  have hi := List.mem_range.mp hi
  have hj := List.mem_range.mp hj
  by_cases c : j ≤ i
  · rw [if_pos c] at h
    cases h
  rw [if_neg c] at h
  obtain ⟨k, hk, h⟩ := List.mem_filterMap.mp h
  have hk := List.mem_range.mp hk
  by_cases c2 : k ≤ j
  · rw [if_pos c2] at h
    cases h
  rw [if_neg c2] at h
  have hp := tri_corners h
  have nd : [m.a, m.b, m.c].Nodup := hp.symm.nodup (by simp; omega)
  have lt : ∀ v ∈ [m.a, m.b, m.c], v < s.length := fun v hv => by
    have z := hp.subset hv
    simp only [List.mem_cons, List.not_mem_nil, or_false] at z
    omega
  simp only [List.nodup_cons, List.mem_cons, List.not_mem_nil, or_false, not_or] at nd
  exact ⟨lt _ (by simp), lt _ (by simp), lt _ (by simp), nd.1.1, nd.1.2, nd.2.1⟩
/-! ### alike, as the program asks -/
def absI (i : Int) : Int := if i < 0 then -i else i
theorem bit_is (x y : Bool) : decide (((bit y : Nat) : Int) = ((bit x : Nat) : Int)) = (x == y) := by
  cases x <;> cases y <;> rfl
theorem apart_is (e : Int) (he : 0 ≤ e) (a b : Nat) : decide (absI ((b : Int) - (a : Int)) ≤ e) = decide (apart a b ≤ e.toNat) := by
  unfold absI apart
  have h : ((if (b : Int) - (a : Int) < 0 then -((b : Int) - (a : Int)) else (b : Int) - (a : Int)) ≤ e) ↔ (max a b - min a b ≤ e.toNat) := by
    split <;> omega
  by_cases c : max a b - min a b ≤ e.toNat
  · rw [decide_eq_true c, decide_eq_true (h.mpr c)]
  · rw [decide_eq_false c, decide_eq_false (fun z => c (h.mp z))]
theorem alike_is {e : Int} (he : 0 ≤ e) (x y : Tri) : alike e.toNat x y = (decide (((bit y.left : Nat) : Int) = ((bit x.left : Nat) : Int)) && (decide (absI ((y.u : Int) - (x.u : Int)) ≤ e) && decide (absI ((y.v : Int) - (x.v : Int)) ≤ e))) := by
  rw [bit_is, apart_is e he, apart_is e he]
  rfl
/-! ### votes, as they are counted -/
def cells (w : Nat) (x y : Tri) : List Nat := [x.a * w + y.a, x.b * w + y.b, x.c * w + y.c]
def hitsIn (w e : Nat) (q : List Tri) (x : Tri) : List Nat := (q.filter fun y => alike e x y).flatMap fun y => cells w x y
def hitsOf (w e : Nat) (p q : List Tri) : List Nat := p.flatMap fun x => hitsIn w e q x
def tally (n : Nat) (h : List Nat) : List Int := (List.range n).map fun k => ((h.count k : Nat) : Int)
theorem tally_len (n : Nat) (h : List Nat) : (tally n h).length = n := by
  unfold tally; rw [List.length_map, List.length_range]
theorem tally_get {n k : Nat} (h : List Nat) (hk : k < n) : (tally n h)[k]? = some ((h.count k : Nat) : Int) := by
  unfold tally
  rw [List.getElem?_map, List.getElem?_range hk]
  rfl
theorem tally_set {n k : Nat} (h : List Nat) (hk : k < n) : (tally n h).set k (((h.count k : Nat) : Int) + 1) = tally n (h ++ [k]) := by
  refine List.ext_getElem? fun i => ?_
  rw [List.getElem?_set, tally_len]
  by_cases c : k = i
  · subst c
    rw [if_pos rfl, if_pos hk, tally_get _ hk, List.count_append, List.count_singleton_self]
    rfl
  · rw [if_neg c]
    by_cases hi : i < n
    · rw [tally_get _ hi, tally_get _ hi, List.count_append]
      have z : List.count i [k] = 0 := by
        rw [List.count_eq_zero]
        simp; omega
      rw [z, Nat.add_zero]
    · rw [List.getElem?_eq_none (by rw [tally_len]; omega), List.getElem?_eq_none (by rw [tally_len]; omega)]
theorem tally_nil (n : Nat) : tally n [] = List.replicate n 0 := by
  unfold tally
  refine List.eq_replicate_iff.mpr ⟨by rw [List.length_map, List.length_range], fun b hb => ?_⟩
  obtain ⟨k, _, rfl⟩ := List.mem_map.mp hb
  rfl
theorem range_rows {α : Type} (f : Nat → α) (m : Nat) : ∀ n, (List.range (n * m)).map f = (List.range n).flatMap fun i => (List.range m).map fun j => f (i * m + j)
  | 0 => by simp
  | n + 1 => by
    rw [Nat.succ_mul, List.range_add, List.map_append, range_rows f m n, flat_more, List.map_map]
    rfl
theorem count_if {α : Type} (P : α → Bool) : ∀ l : List α, (l.map fun y => if P y = true then 1 else 0).sum = (l.filter P).length
  | [] => rfl
  | y :: r => by
    rw [List.map_cons, List.sum_cons, count_if P r, List.filter_cons]
    by_cases c : P y = true
    · rw [if_pos c, if_pos c, List.length_cons, Nat.add_comm]
    · rw [if_neg c, if_neg c, Nat.zero_add]
theorem ix_inj {w a b i j : Nat} (hb : b < w) (hj : j < w) : a * w + b = i * w + j ↔ a = i ∧ b = j := by
  constructor
  · intro h
    have h1 : (a * w + b) / w = (i * w + j) / w := by rw [h]
    have hw : 0 < w := by omega
    rw [Nat.mul_comm a w, Nat.mul_comm i w, Nat.mul_add_div hw, Nat.mul_add_div hw, Nat.div_eq_of_lt hb, Nat.div_eq_of_lt hj, Nat.add_zero, Nat.add_zero] at h1
    subst h1
    omega
  · rintro ⟨rfl, rfl⟩
    rfl
def same3 (i j : Nat) (x y : Tri) : Bool := (x.a == i && y.a == j) || ((x.b == i && y.b == j) || (x.c == i && y.c == j))
theorem cells_count {n m i j : Nat} {x y : Tri} (hx : Corners n x) (hy : Corners m y) (hj : j < m) : (cells m x y).count (i * m + j) = if same3 i j x y = true then 1 else 0 := by
  unfold cells same3
  simp only [List.count_cons, List.count_nil, beq_iff_eq, ix_inj hy.a hj, ix_inj hy.b hj, ix_inj hy.c hj, Bool.or_eq_true, Bool.and_eq_true]
  have h1 := hx.ab
  have h2 := hx.ac
  have h3 := hx.bc
  by_cases ca : x.a = i ∧ y.a = j
  · have cb : ¬ (x.b = i ∧ y.b = j) := fun z => h1 (ca.1.trans z.1.symm)
    have cc : ¬ (x.c = i ∧ y.c = j) := fun z => h2 (ca.1.trans z.1.symm)
    rw [if_neg cc, if_neg cb, if_pos ca, if_pos (.inl ca)]
  · by_cases cb : x.b = i ∧ y.b = j
    · have cc : ¬ (x.c = i ∧ y.c = j) := fun z => h3 (cb.1.trans z.1.symm)
      rw [if_neg cc, if_pos cb, if_neg ca, if_pos (.inr (.inl cb))]
    · by_cases cc : x.c = i ∧ y.c = j
      · rw [if_pos cc, if_neg cb, if_neg ca, if_pos (.inr (.inr cc))]
      · rw [if_neg cc, if_neg cb, if_neg ca, if_neg (fun z => z.elim ca fun z => z.elim cb cc)]
theorem sum_congr {α : Type} {f g : α → Nat} : ∀ {l : List α}, (∀ x ∈ l, f x = g x) → (l.map f).sum = (l.map g).sum := fun {l} h => by
  rw [List.map_congr_left h]
theorem votes_is {e n m : Nat} {p q : List Tri} (hp : ∀ x ∈ p, Corners n x) (hq : ∀ y ∈ q, Corners m y) : tally (n * m) (hitsOf m e p q) = Sh68Neutral.ints (votes e n m p q) := by
  unfold tally Sh68Neutral.ints votes
  rw [range_rows, List.map_flatMap]
  refine flat_congr fun i hi => ?_
  rw [List.map_map]
  refine List.map_congr_left fun j hj => ?_
  have hj := List.mem_range.mp hj
  show (((hitsOf m e p q).count (i * m + j) : Nat) : Int) = (((p.map fun x => (q.filter fun y => alike e x y && same3 i j x y).length).sum : Nat) : Int)
  congr 1
  unfold hitsOf
  rw [List.count_flatMap]
  refine sum_congr fun x hx => ?_
  show (hitsIn m e q x).count (i * m + j) = _
  unfold hitsIn
  rw [List.count_flatMap]
  have z : ((q.filter fun y => alike e x y).map (List.count (i * m + j) ∘ fun y => cells m x y)).sum = ((q.filter fun y => alike e x y).map fun y => if same3 i j x y = true then 1 else 0).sum :=
    sum_congr fun y hy => cells_count (hp x hx) (hq y (List.mem_filter.mp hy).1) hj
  rw [z, count_if (fun y => same3 i j x y), List.filter_filter]
  congr 2
  funext y
  exact Bool.and_comm _ _
/-! ### what is due -/
theorem votes_bad {e : Int} {ns ms : List Int} (h : ¬ (ns.length / 2 ≤ 24 ∧ ms.length / 2 ≤ 24 ∧ e.toNat ≤ 65536)) : PySh68.tm_votes e ns ms = [-2] := by
  show Sh68Neutral.told (answer (if (few ((nats ns).length / 2) && (few ((nats ms).length / 2) && decide (e.toNat ≤ 65536))) = true then Sh68.Call.votes e.toNat (nats ns) (nats ms) else Sh68.Call.bad)) = [-2]
  rw [few_is, few_is, if_neg (by simp only [Bool.and_eq_true, decide_eq_true_eq]; exact h)]
  rfl
theorem votes_off {e : Int} {ns ms : List Int} (hp : ∀ x ∈ ns, 0 ≤ x) (hq : ∀ x ∈ ms, 0 ≤ x) (h : ns.length / 2 ≤ 24 ∧ ms.length / 2 ≤ 24 ∧ e.toNat ≤ 65536)
    (ho : (ns.any fun x => decide (8192 ≤ x)) = true ∨ (ms.any fun x => decide (8192 ≤ x)) = true) : PySh68.tm_votes e ns ms = [-3] := by
  show Sh68Neutral.told (answer (if (few ((nats ns).length / 2) && (few ((nats ms).length / 2) && decide (e.toNat ≤ 65536))) = true then Sh68.Call.votes e.toNat (nats ns) (nats ms) else Sh68.Call.bad)) = [-3]
  rw [few_is, few_is, if_pos (by simp only [Bool.and_eq_true, decide_eq_true_eq]; exact h)]
  show Sh68Neutral.told (if small (nats ns) = false ∨ small (nats ms) = false then _ else _) = _
  rw [small_is hp, small_is hq, if_pos (by rcases ho with z | z <;> rw [z] <;> simp)]
  rfl
theorem votes_due {e : Int} {ns ms : List Int} (hp : ∀ x ∈ ns, 0 ≤ x) (hq : ∀ x ∈ ms, 0 ≤ x) (h : ns.length / 2 ≤ 24 ∧ ms.length / 2 ≤ 24 ∧ e.toNat ≤ 65536)
    (h1 : (ns.any fun x => decide (8192 ≤ x)) = false) (h2 : (ms.any fun x => decide (8192 ≤ x)) = false) :
    PySh68.tm_votes e ns ms = 0 :: tally (ns.length / 2 * (ms.length / 2)) (hitsOf (ms.length / 2) e.toNat (triangles (stars ns)) (triangles (stars ms))) := by
  show Sh68Neutral.told (answer (if (few ((nats ns).length / 2) && (few ((nats ms).length / 2) && decide (e.toNat ≤ 65536))) = true then Sh68.Call.votes e.toNat (nats ns) (nats ms) else Sh68.Call.bad)) = _
  rw [few_is, few_is, if_pos (by simp only [Bool.and_eq_true, decide_eq_true_eq]; exact h)]
  show Sh68Neutral.told (if small (nats ns) = false ∨ small (nats ms) = false then fail (-3) else done [votes e.toNat ((nats ns).length / 2) ((nats ms).length / 2) (triangles (stars ns)) (triangles (stars ms))]) = _
  rw [small_is hp, small_is hq, h1, h2, if_neg (by simp), nats_len, nats_len]
  rw [votes_is (fun x hx => by rw [← stars_len]; exact corners hx) (fun y hy => by rw [← stars_len]; exact corners hy)]
  rfl
end Tm

namespace Tm
open Sh68 Sh68Neutral
/-! ### what is due, call by call -/
abbrev off (ns : List Int) : Bool := ns.any fun x => decide (8192 ≤ x)
/-- the pairs of a list -/
def prs (ps : List Int) : List (Pt × Pt) := pairsOf (nats ps)
theorem prs_len (ps : List Int) : (prs ps).length = ps.length / 4 := by
  unfold prs pairsOf
  rw [List.length_map, List.length_range, nats_len]
theorem prs_get {ps : List Int} (hp : ∀ x ∈ ps, 0 ≤ x) {i : Nat} (h : 4 * i + 3 < ps.length) : (prs ps)[i]? = some ((at_ ps (4 * i), at_ ps (4 * i + 1)), (at_ ps (4 * i + 2), at_ ps (4 * i + 3))) := by
  unfold prs pairsOf
  rw [List.getElem?_map, List.getElem?_range (by rw [nats_len]; omega)]
  show some ((((num (nats ps) (4 * i) : Nat) : Int), ((num (nats ps) (4 * i + 1) : Nat) : Int)), (((num (nats ps) (4 * i + 2) : Nat) : Int), ((num (nats ps) (4 * i + 3) : Nat) : Int))) = _
  rw [num_at hp (by omega), num_at hp (by omega), num_at hp (by omega), num_at hp h]
theorem stars_get {ns : List Int} (hp : ∀ x ∈ ns, 0 ≤ x) {i : Nat} (h : 2 * i + 1 < ns.length) : (stars ns)[i]? = some (at_ ns (2 * i), at_ ns (2 * i + 1)) := by
  unfold stars ptsOf
  rw [List.getElem?_map, List.getElem?_range (by rw [nats_len]; omega)]
  show some (((num (nats ns) (2 * i) : Nat) : Int), ((num (nats ns) (2 * i + 1) : Nat) : Int)) = _
  rw [num_at hp (by omega), num_at hp h]
theorem sum_is (l : List Int) : Sh68.sum l = l.sum := rfl
theorem sum_more {α : Type} {f : α → Int} {l : List α} {i : Nat} {x : α} (h : l[i]? = some x) : ((l.take (i + 1)).map f).sum = ((l.take i).map f).sum + f x := by
  rw [List.take_add_one, h, List.map_append, List.sum_append]
  show _ + (f x + 0) = _
  omega
/-! tm_choose -/
theorem choose_bad {n least : Int} {l : List Int} (h : ¬ ((1 ≤ n.toNat ∧ n.toNat ≤ 64) ∧ (1 ≤ l.length / n.toNat ∧ l.length / n.toNat ≤ 64))) : PySh68.tm_choose n least l = [-2] := by
  show Sh68Neutral.told (answer (if (among n.toNat 1 64 && among ((nats l).length / n.toNat) 1 64) = true then Sh68.Call.choose least.toNat n.toNat ((nats l).length / n.toNat) (nats l) else Sh68.Call.bad)) = [-2]
  rw [nats_len, if_neg (by unfold among; simp only [Bool.and_eq_true, decide_eq_true_eq]; exact h)]
  rfl
def toldPairs (r : List (Nat × Nat)) : List Int := (r.length : Int) :: r.flatMap fun p => [(p.1 : Int), (p.2 : Int)]
theorem ints_pairs (r : List (Nat × Nat)) : Sh68Neutral.ints (pairTold r) = r.flatMap fun p => [(p.1 : Int), (p.2 : Int)] := by
  unfold Sh68Neutral.ints pairTold
  rw [List.map_flatMap]
  rfl
theorem told_pairs (r : List (Nat × Nat)) : Sh68Neutral.told (many r.length [pairTold r]) = toldPairs r := by
  show ((r.length : Nat) : Int) :: Sh68Neutral.ints (pairTold r) = _
  rw [ints_pairs]
  rfl
theorem choose_due {n least : Int} {l : List Int} (h : (1 ≤ n.toNat ∧ n.toNat ≤ 64) ∧ (1 ≤ l.length / n.toNat ∧ l.length / n.toNat ≤ 64)) : PySh68.tm_choose n least l = toldPairs (chosen n.toNat (l.length / n.toNat) least.toNat (nats l)) := by
  show Sh68Neutral.told (answer (if (among n.toNat 1 64 && among ((nats l).length / n.toNat) 1 64) = true then Sh68.Call.choose least.toNat n.toNat ((nats l).length / n.toNat) (nats l) else Sh68.Call.bad)) = _
  rw [nats_len, if_pos (by unfold among; simp only [Bool.and_eq_true, decide_eq_true_eq]; exact h)]
  exact told_pairs _
/-! tm_match -/
theorem match_bad {e least : Int} {ns ms : List Int} (h : ¬ (ns.length / 2 ≤ 24 ∧ ms.length / 2 ≤ 24 ∧ e.toNat ≤ 65536)) : PySh68.tm_match e least ns ms = [-2] := by
  show Sh68Neutral.told (answer (if (few ((nats ns).length / 2) && (few ((nats ms).length / 2) && decide (e.toNat ≤ 65536))) = true then Sh68.Call.match_ e.toNat least.toNat (nats ns) (nats ms) else Sh68.Call.bad)) = [-2]
  rw [few_is, few_is, if_neg (by simp only [Bool.and_eq_true, decide_eq_true_eq]; exact h)]
  rfl
theorem match_off {e least : Int} {ns ms : List Int} (hp : ∀ x ∈ ns, 0 ≤ x) (hq : ∀ x ∈ ms, 0 ≤ x) (h : ns.length / 2 ≤ 24 ∧ ms.length / 2 ≤ 24 ∧ e.toNat ≤ 65536) (ho : off ns = true ∨ off ms = true) : PySh68.tm_match e least ns ms = [-3] := by
  show Sh68Neutral.told (answer (if (few ((nats ns).length / 2) && (few ((nats ms).length / 2) && decide (e.toNat ≤ 65536))) = true then Sh68.Call.match_ e.toNat least.toNat (nats ns) (nats ms) else Sh68.Call.bad)) = [-3]
  rw [few_is, few_is, if_pos (by simp only [Bool.and_eq_true, decide_eq_true_eq]; exact h)]
  show Sh68Neutral.told (if small (nats ns) = false ∨ small (nats ms) = false then _ else _) = _
  rw [small_is hp, small_is hq, if_pos (by rcases ho with z | z <;> unfold off at z <;> rw [z] <;> simp)]
  rfl
theorem match_due {e least : Int} {ns ms : List Int} (hp : ∀ x ∈ ns, 0 ≤ x) (hq : ∀ x ∈ ms, 0 ≤ x) (h : ns.length / 2 ≤ 24 ∧ ms.length / 2 ≤ 24 ∧ e.toNat ≤ 65536) (h1 : off ns = false) (h2 : off ms = false) :
    PySh68.tm_match e least ns ms = toldPairs (chosen (ns.length / 2) (ms.length / 2) least.toNat (votes e.toNat (ns.length / 2) (ms.length / 2) (triangles (stars ns)) (triangles (stars ms)))) := by
  show Sh68Neutral.told (answer (if (few ((nats ns).length / 2) && (few ((nats ms).length / 2) && decide (e.toNat ≤ 65536))) = true then Sh68.Call.match_ e.toNat least.toNat (nats ns) (nats ms) else Sh68.Call.bad)) = _
  rw [few_is, few_is, if_pos (by simp only [Bool.and_eq_true, decide_eq_true_eq]; exact h)]
  unfold off at h1 h2
  show Sh68Neutral.told (if small (nats ns) = false ∨ small (nats ms) = false then fail (-3) else many (chosen ((nats ns).length / 2) ((nats ms).length / 2) least.toNat (votes e.toNat ((nats ns).length / 2) ((nats ms).length / 2) (triangles (stars ns)) (triangles (stars ms)))).length [pairTold (chosen ((nats ns).length / 2) ((nats ms).length / 2) least.toNat (votes e.toNat ((nats ns).length / 2) ((nats ms).length / 2) (triangles (stars ns)) (triangles (stars ms))))]) = _
  rw [small_is hp, small_is hq, h1, h2, if_neg (by simp), nats_len, nats_len]
  exact told_pairs _
/-! tm_fit -/
theorem pairs_few (ps : List Int) : pairsFew ((nats ps).length / 4) = decide (ps.length / 4 ≤ 32) := by
  rw [nats_len]; rfl
theorem fit_bad {ps : List Int} (h : ¬ ps.length / 4 ≤ 32) : PySh68.tm_fit ps = [-2] := by
  show Sh68Neutral.told (answer (if pairsFew ((nats ps).length / 4) = true then Sh68.Call.fit (nats ps) else Sh68.Call.bad)) = [-2]
  rw [pairs_few, decide_eq_false h]
  rfl
theorem fit_off {ps : List Int} (hp : ∀ x ∈ ps, 0 ≤ x) (h : ps.length / 4 ≤ 32) (ho : off ps = true) : PySh68.tm_fit ps = [-3] := by
  show Sh68Neutral.told (answer (if pairsFew ((nats ps).length / 4) = true then Sh68.Call.fit (nats ps) else Sh68.Call.bad)) = [-3]
  rw [pairs_few, decide_eq_true h, if_pos rfl]
  show Sh68Neutral.told (if small (nats ps) = false then _ else _) = _
  unfold off at ho
  rw [small_is hp, ho, if_pos (by decide)]
  rfl
theorem fit_none {ps : List Int} (hp : ∀ x ∈ ps, 0 ≤ x) (h : ps.length / 4 ≤ 32) (ho : off ps = false) (hf : fit (prs ps) = none) : PySh68.tm_fit ps = [-4] := by
  show Sh68Neutral.told (answer (if pairsFew ((nats ps).length / 4) = true then Sh68.Call.fit (nats ps) else Sh68.Call.bad)) = [-4]
  rw [pairs_few, decide_eq_true h, if_pos rfl]
  show Sh68Neutral.told (if small (nats ps) = false then fail (-3) else (match fit (prs ps) with
    | none => fail (-4)
    | some f => done [(Sh68.told f).map wordOf, (prs ps).map fun p => miss f p])) = _
  unfold off at ho
  rw [small_is hp, ho, if_neg (by decide), hf]
  rfl
theorem fit_due {ps : List Int} (hp : ∀ x ∈ ps, 0 ≤ x) (h : ps.length / 4 ≤ 32) (ho : off ps = false) {f : Fit} (hf : fit (prs ps) = some f) :
    PySh68.tm_fit ps = 0 :: 4 :: ((Sh68.told f).map fun z => ((wordOf z : Nat) : Int)) ++ ((ps.length / 4 : Nat) : Int) :: (prs ps).map fun p => ((miss f p : Nat) : Int) := by
  show Sh68Neutral.told (answer (if pairsFew ((nats ps).length / 4) = true then Sh68.Call.fit (nats ps) else Sh68.Call.bad)) = _
  rw [pairs_few, decide_eq_true h, if_pos rfl]
  show Sh68Neutral.told (if small (nats ps) = false then fail (-3) else (match fit (prs ps) with
    | none => fail (-4)
    | some f => done [(Sh68.told f).map wordOf, (prs ps).map fun p => miss f p])) = _
  unfold off at ho
  rw [small_is hp, ho, if_neg (by decide), hf]
  have e : ((prs ps).map fun p => miss f p).length = ps.length / 4 := by rw [List.length_map, prs_len]
  show (0 : Int) :: ([(Sh68.told f).map wordOf, (prs ps).map fun p => miss f p].flatMap fun l => ((l.length : Nat) : Int) :: Sh68Neutral.ints l) = _
  simp only [List.flatMap_cons, List.flatMap_nil, List.append_nil, e]
  unfold Sh68Neutral.ints
  rw [List.map_map, List.map_map]
  rfl
/-! tm_carry -/
theorem carry_bad {ps xy : List Int} (h : ¬ (ps.length / 4 ≤ 32 ∧ xy.length / 2 ≤ 4096)) : PySh68.tm_carry ps xy = [-2] := by
  show Sh68Neutral.told (answer (if (pairsFew ((nats ps).length / 4) && decide ((nats xy).length / 2 ≤ 4096)) = true then Sh68.Call.carry (nats ps) (nats xy) else Sh68.Call.bad)) = [-2]
  rw [pairs_few, nats_len xy, if_neg (by simp only [Bool.and_eq_true, decide_eq_true_eq]; exact h)]
  rfl
theorem carry_off {ps xy : List Int} (hp : ∀ x ∈ ps, 0 ≤ x) (hq : ∀ x ∈ xy, 0 ≤ x) (h : ps.length / 4 ≤ 32 ∧ xy.length / 2 ≤ 4096) (ho : off ps = true ∨ off xy = true) : PySh68.tm_carry ps xy = [-3] := by
  show Sh68Neutral.told (answer (if (pairsFew ((nats ps).length / 4) && decide ((nats xy).length / 2 ≤ 4096)) = true then Sh68.Call.carry (nats ps) (nats xy) else Sh68.Call.bad)) = [-3]
  rw [pairs_few, nats_len xy, if_pos (by simp only [Bool.and_eq_true, decide_eq_true_eq]; exact h)]
  show Sh68Neutral.told (if small (nats ps) = false ∨ small (nats xy) = false then _ else _) = _
  rw [small_is hp, small_is hq, if_pos (by rcases ho with z | z <;> unfold off at z <;> rw [z] <;> simp)]
  rfl
theorem carry_none {ps xy : List Int} (hp : ∀ x ∈ ps, 0 ≤ x) (hq : ∀ x ∈ xy, 0 ≤ x) (h : ps.length / 4 ≤ 32 ∧ xy.length / 2 ≤ 4096) (h1 : off ps = false) (h2 : off xy = false) (hf : fit (prs ps) = none) : PySh68.tm_carry ps xy = [-4] := by
  show Sh68Neutral.told (answer (if (pairsFew ((nats ps).length / 4) && decide ((nats xy).length / 2 ≤ 4096)) = true then Sh68.Call.carry (nats ps) (nats xy) else Sh68.Call.bad)) = [-4]
  rw [pairs_few, nats_len xy, if_pos (by simp only [Bool.and_eq_true, decide_eq_true_eq]; exact h)]
  show Sh68Neutral.told (if small (nats ps) = false ∨ small (nats xy) = false then fail (-3) else (match fit (prs ps) with
    | none => fail (-4)
    | some f => done [(stars xy).flatMap fun p => [wordOf (carried f p).1, wordOf (carried f p).2]])) = _
  unfold off at h1 h2
  rw [small_is hp, small_is hq, h1, h2, if_neg (by simp), hf]
  rfl
theorem carry_due {ps xy : List Int} (hp : ∀ x ∈ ps, 0 ≤ x) (hq : ∀ x ∈ xy, 0 ≤ x) (h : ps.length / 4 ≤ 32 ∧ xy.length / 2 ≤ 4096) (h1 : off ps = false) (h2 : off xy = false) {f : Fit} (hf : fit (prs ps) = some f) :
    PySh68.tm_carry ps xy = 0 :: (stars xy).flatMap fun p => [((wordOf (carried f p).1 : Nat) : Int), ((wordOf (carried f p).2 : Nat) : Int)] := by
  show Sh68Neutral.told (answer (if (pairsFew ((nats ps).length / 4) && decide ((nats xy).length / 2 ≤ 4096)) = true then Sh68.Call.carry (nats ps) (nats xy) else Sh68.Call.bad)) = _
  rw [pairs_few, nats_len xy, if_pos (by simp only [Bool.and_eq_true, decide_eq_true_eq]; exact h)]
  show Sh68Neutral.told (if small (nats ps) = false ∨ small (nats xy) = false then fail (-3) else (match fit (prs ps) with
    | none => fail (-4)
    | some f => done [(stars xy).flatMap fun p => [wordOf (carried f p).1, wordOf (carried f p).2]])) = _
  unfold off at h1 h2
  rw [small_is hp, small_is hq, h1, h2, if_neg (by simp), hf]
  show (0 : Int) :: Sh68Neutral.ints _ = _
  unfold Sh68Neutral.ints
  rw [List.map_flatMap]
  rfl
/-! tm_far -/
theorem far_bad {p q : List Int} (h : ¬ p.length / 2 ≤ 4096) : PySh68.tm_far p q = [-2] := by
  show Sh68Neutral.told (answer (if decide ((nats p).length / 2 ≤ 4096) = true then Sh68.Call.far (nats p) (nats q) else Sh68.Call.bad)) = [-2]
  rw [nats_len, if_neg (by simp only [decide_eq_true_eq]; exact h)]
  rfl
theorem far_due {p q : List Int} (h : p.length / 2 ≤ 4096) : PySh68.tm_far p q = 0 :: (((stars p).zip (stars q)).map fun x => ((dist2 x.1 x.2 : Nat) : Int)) := by
  show Sh68Neutral.told (answer (if decide ((nats p).length / 2 ≤ 4096) = true then Sh68.Call.far (nats p) (nats q) else Sh68.Call.bad)) = _
  rw [nats_len, if_pos (by simp only [decide_eq_true_eq]; exact h)]
  show (0 : Int) :: Sh68Neutral.ints (((stars p).zip (stars q)).map fun x => dist2 x.1 x.2) = _
  unfold Sh68Neutral.ints
  rw [List.map_map]
  rfl
/-! tm_clean -/
theorem clean_bad {r : Int} {ps : List Int} (h : ¬ (ps.length / 4 ≤ 32 ∧ r.toNat ≤ 65535)) : PySh68.tm_clean r ps = [-2] := by
  show Sh68Neutral.told (answer (if (pairsFew ((nats ps).length / 4) && decide (r.toNat ≤ 65535)) = true then Sh68.Call.clean r.toNat (nats ps) else Sh68.Call.bad)) = [-2]
  rw [pairs_few, if_neg (by simp only [Bool.and_eq_true, decide_eq_true_eq]; exact h)]
  rfl
theorem clean_off {r : Int} {ps : List Int} (hp : ∀ x ∈ ps, 0 ≤ x) (h : ps.length / 4 ≤ 32 ∧ r.toNat ≤ 65535) (ho : off ps = true) : PySh68.tm_clean r ps = [-3] := by
  show Sh68Neutral.told (answer (if (pairsFew ((nats ps).length / 4) && decide (r.toNat ≤ 65535)) = true then Sh68.Call.clean r.toNat (nats ps) else Sh68.Call.bad)) = [-3]
  rw [pairs_few, if_pos (by simp only [Bool.and_eq_true, decide_eq_true_eq]; exact h)]
  show Sh68Neutral.told (if small (nats ps) = false then _ else _) = _
  unfold off at ho
  rw [small_is hp, ho, if_pos (by decide)]
  rfl
theorem clean_due {r : Int} {ps : List Int} (hp : ∀ x ∈ ps, 0 ≤ x) (h : ps.length / 4 ≤ 32 ∧ r.toNat ≤ 65535) (ho : off ps = false) :
    PySh68.tm_clean r ps = ((cleaned r.toNat (ps.length / 4) (prs ps)).length : Int) :: (cleaned r.toNat (ps.length / 4) (prs ps)).flatMap fun p => [((p.1.1.toNat : Nat) : Int), ((p.1.2.toNat : Nat) : Int), ((p.2.1.toNat : Nat) : Int), ((p.2.2.toNat : Nat) : Int)] := by
  show Sh68Neutral.told (answer (if (pairsFew ((nats ps).length / 4) && decide (r.toNat ≤ 65535)) = true then Sh68.Call.clean r.toNat (nats ps) else Sh68.Call.bad)) = _
  rw [pairs_few, if_pos (by simp only [Bool.and_eq_true, decide_eq_true_eq]; exact h)]
  show Sh68Neutral.told (if small (nats ps) = false then fail (-3) else many (cleaned r.toNat ((nats ps).length / 4) (prs ps)).length [flat (cleaned r.toNat ((nats ps).length / 4) (prs ps))]) = _
  unfold off at ho
  rw [small_is hp, ho, if_neg (by decide), nats_len]
  show ((cleaned r.toNat (ps.length / 4) (prs ps)).length : Int) :: Sh68Neutral.ints (flat (cleaned r.toNat (ps.length / 4) (prs ps))) = _
  unfold Sh68Neutral.ints flat
  rw [List.map_flatMap]
  rfl
/-! tm_grow -/
abbrev growOk (r : Int) (ps ns ms : List Int) : Prop := ps.length / 4 ≤ 32 ∧ ns.length / 2 ≤ 64 ∧ ms.length / 2 ≤ 64 ∧ r.toNat ≤ 65535
theorem grow_bad {r : Int} {ps ns ms : List Int} (h : ¬ growOk r ps ns ms) : PySh68.tm_grow r ps ns ms = [-2] := by
  show Sh68Neutral.told (answer (if (pairsFew ((nats ps).length / 4) && (decide ((nats ns).length / 2 ≤ 64) && (decide ((nats ms).length / 2 ≤ 64) && decide (r.toNat ≤ 65535)))) = true then Sh68.Call.grow r.toNat (nats ps) (nats ns) (nats ms) else Sh68.Call.bad)) = [-2]
  rw [pairs_few, nats_len ns, nats_len ms, if_neg (by simp only [Bool.and_eq_true, decide_eq_true_eq]; exact h)]
  rfl
theorem grow_off {r : Int} {ps ns ms : List Int} (hp : ∀ x ∈ ps, 0 ≤ x) (hq : ∀ x ∈ ns, 0 ≤ x) (ht : ∀ x ∈ ms, 0 ≤ x) (h : growOk r ps ns ms) (ho : off ps = true ∨ off ns = true ∨ off ms = true) : PySh68.tm_grow r ps ns ms = [-3] := by
  show Sh68Neutral.told (answer (if (pairsFew ((nats ps).length / 4) && (decide ((nats ns).length / 2 ≤ 64) && (decide ((nats ms).length / 2 ≤ 64) && decide (r.toNat ≤ 65535)))) = true then Sh68.Call.grow r.toNat (nats ps) (nats ns) (nats ms) else Sh68.Call.bad)) = [-3]
  rw [pairs_few, nats_len ns, nats_len ms, if_pos (by simp only [Bool.and_eq_true, decide_eq_true_eq]; exact h)]
  show Sh68Neutral.told (if small (nats ps) = false ∨ (small (nats ns) = false ∨ small (nats ms) = false) then _ else _) = _
  rw [small_is hp, small_is hq, small_is ht, if_pos (by rcases ho with z | z | z <;> unfold off at z <;> rw [z] <;> simp)]
  rfl
theorem grow_none {r : Int} {ps ns ms : List Int} (hp : ∀ x ∈ ps, 0 ≤ x) (hq : ∀ x ∈ ns, 0 ≤ x) (ht : ∀ x ∈ ms, 0 ≤ x) (h : growOk r ps ns ms) (h1 : off ps = false) (h2 : off ns = false) (h3 : off ms = false) (hf : fit (prs ps) = none) : PySh68.tm_grow r ps ns ms = [-4] := by
  show Sh68Neutral.told (answer (if (pairsFew ((nats ps).length / 4) && (decide ((nats ns).length / 2 ≤ 64) && (decide ((nats ms).length / 2 ≤ 64) && decide (r.toNat ≤ 65535)))) = true then Sh68.Call.grow r.toNat (nats ps) (nats ns) (nats ms) else Sh68.Call.bad)) = [-4]
  rw [pairs_few, nats_len ns, nats_len ms, if_pos (by simp only [Bool.and_eq_true, decide_eq_true_eq]; exact h)]
  show Sh68Neutral.told (if small (nats ps) = false ∨ (small (nats ns) = false ∨ small (nats ms) = false) then fail (-3) else (match fit (prs ps) with
    | none => fail (-4)
    | some f => many (grown f r.toNat (stars ns) (stars ms)).length [pairTold (grown f r.toNat (stars ns) (stars ms))])) = _
  unfold off at h1 h2 h3
  rw [small_is hp, small_is hq, small_is ht, h1, h2, h3, if_neg (by simp), hf]
  rfl
theorem grow_due {r : Int} {ps ns ms : List Int} (hp : ∀ x ∈ ps, 0 ≤ x) (hq : ∀ x ∈ ns, 0 ≤ x) (ht : ∀ x ∈ ms, 0 ≤ x) (h : growOk r ps ns ms) (h1 : off ps = false) (h2 : off ns = false) (h3 : off ms = false) {f : Fit} (hf : fit (prs ps) = some f) : PySh68.tm_grow r ps ns ms = toldPairs (grown f r.toNat (stars ns) (stars ms)) := by
  show Sh68Neutral.told (answer (if (pairsFew ((nats ps).length / 4) && (decide ((nats ns).length / 2 ≤ 64) && (decide ((nats ms).length / 2 ≤ 64) && decide (r.toNat ≤ 65535)))) = true then Sh68.Call.grow r.toNat (nats ps) (nats ns) (nats ms) else Sh68.Call.bad)) = _
  rw [pairs_few, nats_len ns, nats_len ms, if_pos (by simp only [Bool.and_eq_true, decide_eq_true_eq]; exact h)]
  show Sh68Neutral.told (if small (nats ps) = false ∨ (small (nats ns) = false ∨ small (nats ms) = false) then fail (-3) else (match fit (prs ps) with
    | none => fail (-4)
    | some f => many (grown f r.toNat (stars ns) (stars ms)).length [pairTold (grown f r.toNat (stars ns) (stars ms))])) = _
  unfold off at h1 h2 h3
  rw [small_is hp, small_is hq, small_is ht, h1, h2, h3, if_neg (by simp), hf]
  exact told_pairs _
end Tm

namespace Tm
open Sh68 Sh68Neutral
/-! ### how great the fit's numbers are -/
theorem nb_add {a b : Int} {A B : Nat} (ha : a.natAbs ≤ A) (hb : b.natAbs ≤ B) : (a + b).natAbs ≤ A + B := by omega
theorem nb_sub {a b : Int} {A B : Nat} (ha : a.natAbs ≤ A) (hb : b.natAbs ≤ B) : (a - b).natAbs ≤ A + B := by omega
theorem nb_mul {a b : Int} {A B : Nat} (ha : a.natAbs ≤ A) (hb : b.natAbs ≤ B) : (a * b).natAbs ≤ A * B := by
  rw [Int.natAbs_mul]
  exact Nat.mul_le_mul ha hb
theorem nb_sum {α : Type} {f : α → Int} {B : Nat} : ∀ {l : List α}, (∀ x ∈ l, (f x).natAbs ≤ B) → ((l.map f).sum).natAbs ≤ l.length * B
  | [], _ => by simp
  | x :: r, h => by
    rw [List.map_cons, List.sum_cons, List.length_cons, Nat.succ_mul]
    have h1 := nb_sum fun y hy => h y (List.mem_cons_of_mem _ hy)
    have h2 := h x List.mem_cons_self
    omega
theorem nb_le {a : Int} {A B : Nat} (h : a.natAbs ≤ A) (hab : A ≤ B) : a.natAbs ≤ B := Nat.le_trans h hab
/-- a pair of four numbers of 13 bits -/
def Pair13 (p : Pt × Pt) : Prop := (p.1.1.natAbs ≤ 8192 ∧ p.1.2.natAbs ≤ 8192) ∧ (p.2.1.natAbs ≤ 8192 ∧ p.2.2.natAbs ≤ 8192)
def fitN (ps : List (Pt × Pt)) : Int := ((ps.length : Nat) : Int)
def fitSx (ps : List (Pt × Pt)) : Int := (ps.map fun p => p.1.1).sum
def fitSy (ps : List (Pt × Pt)) : Int := (ps.map fun p => p.1.2).sum
def fitSu (ps : List (Pt × Pt)) : Int := (ps.map fun p => p.2.1).sum
def fitSv (ps : List (Pt × Pt)) : Int := (ps.map fun p => p.2.2).sum
def fitXX (ps : List (Pt × Pt)) : Int := (ps.map fun p => p.1.1 * p.1.1 + p.1.2 * p.1.2).sum
def fitXU (ps : List (Pt × Pt)) : Int := (ps.map fun p => p.1.1 * p.2.1 + p.1.2 * p.2.2).sum
def fitXV (ps : List (Pt × Pt)) : Int := (ps.map fun p => p.1.1 * p.2.2 - p.1.2 * p.2.1).sum
def fitG (ps : List (Pt × Pt)) : Int := fitN ps * fitXX ps - (fitSx ps * fitSx ps + fitSy ps * fitSy ps)
def fitA (ps : List (Pt × Pt)) : Int := fitN ps * fitXU ps - (fitSx ps * fitSu ps + fitSy ps * fitSv ps)
def fitB (ps : List (Pt × Pt)) : Int := fitN ps * fitXV ps - (fitSx ps * fitSv ps - fitSy ps * fitSu ps)
def fitC (ps : List (Pt × Pt)) : Int := fitSu ps * fitG ps - (fitA ps * fitSx ps - fitB ps * fitSy ps)
def fitD (ps : List (Pt × Pt)) : Int := fitSv ps * fitG ps - (fitB ps * fitSx ps + fitA ps * fitSy ps)
def fitOf (ps : List (Pt × Pt)) : Fit := ⟨fitN ps * fitA ps, fitN ps * fitB ps, fitC ps, fitD ps, fitN ps * fitG ps⟩
theorem fit_is (ps : List (Pt × Pt)) : fit ps = if fitG ps ≤ 0 then none else some (fitOf ps) := rfl
structure FitBd (ps : List (Pt × Pt)) : Prop where
  sx : (fitSx ps).natAbs ≤ 2 ^ 18
  sy : (fitSy ps).natAbs ≤ 2 ^ 18
  su : (fitSu ps).natAbs ≤ 2 ^ 18
  sv : (fitSv ps).natAbs ≤ 2 ^ 18
  xx : (fitXX ps).natAbs ≤ 2 ^ 32
  xu : (fitXU ps).natAbs ≤ 2 ^ 32
  xv : (fitXV ps).natAbs ≤ 2 ^ 32
  n : (fitN ps).natAbs ≤ 2 ^ 5
  g : (fitG ps).natAbs ≤ 2 ^ 38
  a : (fitA ps).natAbs ≤ 2 ^ 38
  b : (fitB ps).natAbs ≤ 2 ^ 38
  c : (fitC ps).natAbs ≤ 2 ^ 58
  d : (fitD ps).natAbs ≤ 2 ^ 58
theorem fit_bd {ps : List (Pt × Pt)} (h : ∀ p ∈ ps, Pair13 p) (hn : ps.length ≤ 32) : FitBd ps := by
  have n : (fitN ps).natAbs ≤ 2 ^ 5 := by unfold fitN; omega
  have s1 : ∀ {f : Pt × Pt → Int}, (∀ p ∈ ps, (f p).natAbs ≤ 8192) → ((ps.map f).sum).natAbs ≤ 2 ^ 18 := fun hf =>
    nb_le (nb_sum hf) (Nat.le_trans (Nat.mul_le_mul_right 8192 hn) (by decide))
  have s2 : ∀ {f : Pt × Pt → Int}, (∀ p ∈ ps, (f p).natAbs ≤ 8192 * 8192 + 8192 * 8192) → ((ps.map f).sum).natAbs ≤ 2 ^ 32 := fun hf =>
    nb_le (nb_sum hf) (Nat.le_trans (Nat.mul_le_mul_right _ hn) (by decide))
  have sx : (fitSx ps).natAbs ≤ 2 ^ 18 := s1 fun p hp => (h p hp).1.1
  have sy : (fitSy ps).natAbs ≤ 2 ^ 18 := s1 fun p hp => (h p hp).1.2
  have su : (fitSu ps).natAbs ≤ 2 ^ 18 := s1 fun p hp => (h p hp).2.1
  have sv : (fitSv ps).natAbs ≤ 2 ^ 18 := s1 fun p hp => (h p hp).2.2
  have xx : (fitXX ps).natAbs ≤ 2 ^ 32 := s2 fun p hp => nb_add (nb_mul (h p hp).1.1 (h p hp).1.1) (nb_mul (h p hp).1.2 (h p hp).1.2)
  have xu : (fitXU ps).natAbs ≤ 2 ^ 32 := s2 fun p hp => nb_add (nb_mul (h p hp).1.1 (h p hp).2.1) (nb_mul (h p hp).1.2 (h p hp).2.2)
  have xv : (fitXV ps).natAbs ≤ 2 ^ 32 := s2 fun p hp => nb_sub (nb_mul (h p hp).1.1 (h p hp).2.2) (nb_mul (h p hp).1.2 (h p hp).2.1)
  have g : (fitG ps).natAbs ≤ 2 ^ 38 := nb_le (nb_sub (nb_mul n xx) (nb_add (nb_mul sx sx) (nb_mul sy sy))) (by decide)
  have a : (fitA ps).natAbs ≤ 2 ^ 38 := nb_le (nb_sub (nb_mul n xu) (nb_add (nb_mul sx su) (nb_mul sy sv))) (by decide)
  have b : (fitB ps).natAbs ≤ 2 ^ 38 := nb_le (nb_sub (nb_mul n xv) (nb_sub (nb_mul sx sv) (nb_mul sy su))) (by decide)
  exact ⟨sx, sy, su, sv, xx, xu, xv, n, g, a, b, nb_le (nb_sub (nb_mul su g) (nb_sub (nb_mul a sx) (nb_mul b sy))) (by decide), nb_le (nb_sub (nb_mul sv g) (nb_add (nb_mul b sx) (nb_mul a sy))) (by decide)⟩
theorem word_is (z : Int) : ((wordOf z : Nat) : Int) = z % 4294967296 := by
  unfold wordOf
  exact Int.toNat_of_nonneg (Int.emod_nonneg _ (by decide))
theorem miss_is (f : Fit) (p : Pt × Pt) : ((miss f p : Nat) : Int) = ((carried f p.1).1 - p.2.1) * ((carried f p.1).1 - p.2.1) + ((carried f p.1).2 - p.2.2) * ((carried f p.1).2 - p.2.2) := by
  show ((square _ + square _ : Nat) : Int) = _
  rw [Int.natCast_add, square_is, square_is]
/-! g is never below 0 -/
theorem sq_off (a : Int) : ∀ l : List Int, 0 ≤ (l.map fun x => x * x).sum - 2 * (a * l.sum) + (l.length : Int) * (a * a)
  | [] => by simp
  | x :: r => by
    have ih := sq_off a r
    have e : 0 ≤ (x - a) * (x - a) := by
      rw [← square_is]
      exact Int.natCast_nonneg _
    have e2 : (x - a) * (x - a) = x * x - 2 * (a * x) + a * a := by
      rw [Int.sub_mul, Int.mul_sub, Int.mul_sub, Int.mul_comm x a]
      omega
    rw [List.map_cons, List.sum_cons, List.sum_cons, List.length_cons, Int.natCast_add, Int.add_mul, Int.mul_add]
    show 0 ≤ x * x + (r.map fun x => x * x).sum - 2 * (a * x + a * r.sum) + ((r.length : Int) * (a * a) + 1 * (a * a))
    omega
theorem sq_sum : ∀ l : List Int, l.sum * l.sum ≤ (l.length : Int) * (l.map fun x => x * x).sum
  | [] => by simp
  | a :: r => by
    have ih := sq_sum r
    have h := sq_off a r
    rw [List.map_cons, List.sum_cons, List.sum_cons, List.length_cons, Int.natCast_add, Int.add_mul, Int.mul_add, Int.mul_add, Int.add_mul, Int.mul_add, Int.mul_comm r.sum a]
    show a * a + a * r.sum + (a * r.sum + r.sum * r.sum) ≤ (r.length : Int) * (a * a) + (r.length : Int) * (r.map fun x => x * x).sum + 1 * (a * a + (r.map fun x => x * x).sum)
    omega
theorem sum_pair {α : Type} {f g : α → Int} : ∀ {l : List α}, (l.map fun p => f p + g p).sum = (l.map f).sum + (l.map g).sum
  | [] => rfl
  | x :: r => by
    rw [List.map_cons, List.map_cons, List.map_cons, List.sum_cons, List.sum_cons, List.sum_cons, sum_pair (l := r)]
    omega
theorem fitG_nonneg (ps : List (Pt × Pt)) : 0 ≤ fitG ps := by
  have h1 := sq_sum (ps.map fun p => p.1.1)
  have h2 := sq_sum (ps.map fun p => p.1.2)
  rw [List.length_map, List.map_map] at h1 h2
  unfold fitG fitXX
  rw [sum_pair, Int.mul_add]
  unfold fitN fitSx fitSy
  have h1' : (ps.map fun p => p.1.1).sum * (ps.map fun p => p.1.1).sum ≤ (ps.length : Int) * (ps.map fun p => p.1.1 * p.1.1).sum := h1
  have h2' : (ps.map fun p => p.1.2).sum * (ps.map fun p => p.1.2).sum ≤ (ps.length : Int) * (ps.map fun p => p.1.2 * p.1.2).sum := h2
  omega
theorem fit_zero {ps : List (Pt × Pt)} (h : fitG ps = 0) : fit ps = none := by
  rw [fit_is, if_pos (by omega)]
theorem fit_some {ps : List (Pt × Pt)} (h : fitG ps ≠ 0) : fit ps = some (fitOf ps) := by
  have := fitG_nonneg ps
  rw [fit_is, if_neg (by omega)]
theorem prs_13 {ps : List Int} (hp : ∀ x ∈ ps, 0 ≤ x ∧ x < 8192) : ∀ p ∈ prs ps, Pair13 p := fun p hm => by
  obtain ⟨i, hi⟩ := List.getElem?_of_mem hm
  have hl : i < (prs ps).length := (List.getElem?_eq_some_iff.mp hi).1
  rw [prs_len] at hl
  have e := prs_get (fun x hx => (hp x hx).1) (i := i) (by omega)
  rw [hi] at e
  cases e
  have h0 := hp _ (List.getElem_mem (show 4 * i < ps.length by omega))
  have h1 := hp _ (List.getElem_mem (show 4 * i + 1 < ps.length by omega))
  have h2 := hp _ (List.getElem_mem (show 4 * i + 2 < ps.length by omega))
  have h3 := hp _ (List.getElem_mem (show 4 * i + 3 < ps.length by omega))
  rw [← at_get] at h0 h1 h2 h3
  refine ⟨⟨?_, ?_⟩, ⟨?_, ?_⟩⟩
  · show (at_ ps (4 * i)).natAbs ≤ 8192; omega
  · show (at_ ps (4 * i + 1)).natAbs ≤ 8192; omega
  · show (at_ ps (4 * i + 2)).natAbs ≤ 8192; omega
  · show (at_ ps (4 * i + 3)).natAbs ≤ 8192; omega
end Tm

namespace Tm
open Sh68 Sh68Neutral
/-! ### the fit as the program tells it: by columns -/
def col (ps : List Int) (j m : Nat) : List Int := (List.range m).map fun k => at_ ps (4 * k + j)
theorem col_len (ps : List Int) (j m : Nat) : (col ps j m).length = m := by
  unfold col
  rw [List.length_map, List.length_range]
theorem col_at (ps : List Int) (j : Nat) {m k : Nat} (h : k < m) : at_ (col ps j m) k = at_ ps (4 * k + j) := by
  unfold col
  show ((List.range m).map fun k => at_ ps (4 * k + j)).getD k 0 = _
  rw [List.getD_eq_getElem?_getD, List.getElem?_map, List.getElem?_range h]
  rfl
def dot (ns ms : List Int) : Int := ((List.range ns.length).map fun k => at_ ns k * at_ ms k).sum
theorem dot_col (ps : List Int) (i j m : Nat) : dot (col ps i m) (col ps j m) = ((List.range m).map fun k => at_ ps (4 * k + i) * at_ ps (4 * k + j)).sum := by
  unfold dot
  rw [col_len]
  congr 1
  refine List.map_congr_left fun k hk => ?_
  have h := List.mem_range.mp hk
  rw [col_at ps i h, col_at ps j h]
theorem prs_range {ps : List Int} {m : Nat} (hp : ∀ x ∈ ps, 0 ≤ x) (hl : ps.length = 4 * m) : prs ps = (List.range m).map fun i => ((at_ ps (4 * i), at_ ps (4 * i + 1)), (at_ ps (4 * i + 2), at_ ps (4 * i + 3))) := by
  refine List.ext_getElem? fun i => ?_
  by_cases h : i < m
  · rw [prs_get hp (by omega), List.getElem?_map, List.getElem?_range h]
    rfl
  · rw [List.getElem?_eq_none (by rw [prs_len]; omega), List.getElem?_eq_none (by rw [List.length_map, List.length_range]; omega)]
theorem sum_sub {α : Type} {f g : α → Int} : ∀ {l : List α}, (l.map fun p => f p - g p).sum = (l.map f).sum - (l.map g).sum
  | [] => rfl
  | x :: r => by
    rw [List.map_cons, List.map_cons, List.map_cons, List.sum_cons, List.sum_cons, List.sum_cons, sum_sub (l := r)]
    omega
section
variable {ps : List Int} {m : Nat} (hp : ∀ x ∈ ps, 0 ≤ x) (hl : ps.length = 4 * m)
include hp hl
theorem n_col : fitN (prs ps) = (m : Int) := by
  unfold fitN
  rw [prs_len, hl]
  omega
theorem sx_col : fitSx (prs ps) = (col ps 0 m).sum := by
  unfold fitSx col
  rw [prs_range hp hl, List.map_map]
  rfl
theorem sy_col : fitSy (prs ps) = (col ps 1 m).sum := by
  unfold fitSy col
  rw [prs_range hp hl, List.map_map]
  rfl
theorem su_col : fitSu (prs ps) = (col ps 2 m).sum := by
  unfold fitSu col
  rw [prs_range hp hl, List.map_map]
  rfl
theorem sv_col : fitSv (prs ps) = (col ps 3 m).sum := by
  unfold fitSv col
  rw [prs_range hp hl, List.map_map]
  rfl
theorem xx_col : fitXX (prs ps) = dot (col ps 0 m) (col ps 0 m) + dot (col ps 1 m) (col ps 1 m) := by
  unfold fitXX
  rw [sum_pair, prs_range hp hl, List.map_map, List.map_map, dot_col, dot_col]
  rfl
theorem xu_col : fitXU (prs ps) = dot (col ps 0 m) (col ps 2 m) + dot (col ps 1 m) (col ps 3 m) := by
  unfold fitXU
  rw [sum_pair, prs_range hp hl, List.map_map, List.map_map, dot_col, dot_col]
  rfl
theorem xv_col : fitXV (prs ps) = dot (col ps 0 m) (col ps 3 m) - dot (col ps 1 m) (col ps 2 m) := by
  unfold fitXV
  rw [sum_sub, prs_range hp hl, List.map_map, List.map_map, dot_col, dot_col]
  rfl
end
theorem col_up {ps : List Int} {B : Int} (h : ∀ x ∈ ps, 0 ≤ x ∧ x < B) {j m : Nat} (hj : j < 4) (hl : ps.length = 4 * m) : ∀ x ∈ col ps j m, 0 ≤ x ∧ x < B := fun x hx => by
  unfold col at hx
  obtain ⟨k, hk, rfl⟩ := List.mem_map.mp hx
  have hk' := List.mem_range.mp hk
  rw [at_get (by omega)]
  exact h _ (List.getElem_mem _)
/-! ### how great a fit's numbers are -/
structure FitSz (f : Fit) : Prop where
  a : f.a.natAbs ≤ 2 ^ 43
  b : f.b.natAbs ≤ 2 ^ 43
  c : f.c.natAbs ≤ 2 ^ 58
  d : f.d.natAbs ≤ 2 ^ 58
  over : f.over.natAbs ≤ 2 ^ 43
  pos : 0 < f.over
theorem fit_sz {ps : List (Pt × Pt)} (B : FitBd ps) (h : fitG ps ≠ 0) : FitSz (fitOf ps) := by
  have g0 := fitG_nonneg ps
  have hg : 0 < fitG ps := by omega
  have hn : 0 < fitN ps := by
    have h1 : 0 ≤ fitN ps := Int.natCast_nonneg _
    have h2 : fitN ps ≠ 0 := fun z => by
      have e : ps = [] := List.length_eq_zero_iff.mp (Int.ofNat.inj z)
      subst e
      exact h rfl
    omega
  exact ⟨nb_le (nb_mul B.n B.a) (by decide), nb_le (nb_mul B.n B.b) (by decide), B.c, B.d, nb_le (nb_mul B.n B.g) (by decide), Int.mul_pos hn hg⟩
theorem near_bd {x y : Int} {A : Nat} (hy : 0 < y) (hx : x.natAbs ≤ A) : (near x y).natAbs ≤ A + 1 := by
  unfold near
  have h2 : (0 : Int) < 2 * y := by omega
  have hA : x ≤ (A : Int) ∧ -(A : Int) ≤ x := by omega
  have up : (2 * x + y) / (2 * y) < (A : Int) + 1 + 1 := by
    apply Int.ediv_lt_of_lt_mul h2
    have e : ((A : Int) + 1 + 1) * (2 * y) = 2 * ((A : Int) * y) + 4 * y := by rw [Int.add_mul, Int.add_mul, Int.mul_left_comm]; omega
    have : (A : Int) * 1 ≤ (A : Int) * y := Int.mul_le_mul_of_nonneg_left (by omega) (by omega)
    rw [e]
    omega
  have dn : -((A : Int) + 1) ≤ (2 * x + y) / (2 * y) := by
    apply Int.le_ediv_of_mul_le h2
    have e : -((A : Int) + 1) * (2 * y) = -(2 * ((A : Int) * y)) - 2 * y := by rw [Int.neg_mul, Int.add_mul, Int.mul_left_comm]; omega
    have : (A : Int) * 1 ≤ (A : Int) * y := Int.mul_le_mul_of_nonneg_left (by omega) (by omega)
    rw [e]
    omega
  omega
theorem carried_bd {f : Fit} (S : FitSz f) {p : Pt} (h1 : p.1.natAbs ≤ 8192) (h2 : p.2.natAbs ≤ 8192) : (carried f p).1.natAbs ≤ 2 ^ 60 ∧ (carried f p).2.natAbs ≤ 2 ^ 60 := by
  unfold carried
  have c1 := near_bd (y := f.over) S.pos (nb_add (nb_sub (nb_mul S.a h1) (nb_mul S.b h2)) S.c)
  have c2 := near_bd (y := f.over) S.pos (nb_add (nb_add (nb_mul S.b h1) (nb_mul S.a h2)) S.d)
  exact ⟨nb_le c1 (by decide), nb_le c2 (by decide)⟩
end Tm
namespace Tm
open Sh68 Sh68Neutral
/-! ### what is asked of lengths -/
theorem len_ask {b : Prop} [Decidable b] {l : List Int} {c : Nat} (h : (if b then l.length == c * ((nats l).length / c) else l.isEmpty || l.length == c * ((nats l).length / c)) = true) : l.length = c * (l.length / c) := by
  rw [nats_len] at h
  split at h
  · exact beq_iff_eq.mp h
  · rcases Bool.or_eq_true_iff.mp h with z | z
    · rw [List.isEmpty_iff.mp z]
      simp
    · exact beq_iff_eq.mp z
theorem fit_asked {ps : List Int} (h : PySh68.tm_fit_asked ps = true) : ps.length = 4 * (ps.length / 4) := by
  have h1 := (Bool.and_eq_true_iff.mp h).1
  have h2 : (ps.all (fun (z : Int) => natural z 16) && ((if (Sh68.pairsFew (((nats ps).length / 4))) = true then ps.length == (4 * (((nats ps).length / 4))) else (ps.isEmpty) || (ps.length == (4 * (((nats ps).length / 4))))))) = true := h1
  exact len_ask (Bool.and_eq_true_iff.mp h2).2
end Tm
namespace Tm
open Sh68 Sh68Neutral
theorem carry_asked {ps xy : List Int} (h : PySh68.tm_carry_asked ps xy = true) : ps.length = 4 * (ps.length / 4) := by
  have h1 := (Bool.and_eq_true_iff.mp h).1
  have h2 : (ps.all (fun (z : Int) => natural z 16) && (xy.all (fun (z : Int) => natural z 16) && ((if (Sh68.pairsFew (((nats ps).length / 4)) && decide (((nats xy).length / 2) ≤ 4096)) = true then ps.length == (4 * (((nats ps).length / 4))) && xy.length == (2 * (((nats xy).length / 2))) else (ps.isEmpty && xy.isEmpty) || (ps.length == (4 * (((nats ps).length / 4))) && xy.length == (2 * (((nats xy).length / 2)))))))) = true := h1
  have h3 := (Bool.and_eq_true_iff.mp (Bool.and_eq_true_iff.mp h2).2).2
  rw [nats_len] at h3
  split at h3
  · exact beq_iff_eq.mp (Bool.and_eq_true_iff.mp h3).1
  · rcases Bool.or_eq_true_iff.mp h3 with z | z
    · rw [List.isEmpty_iff.mp (Bool.and_eq_true_iff.mp z).1]
      simp
    · exact beq_iff_eq.mp (Bool.and_eq_true_iff.mp z).1
end Tm

namespace Tm
open Sh68 Sh68Neutral
/-! ### the first of the greatest -/
def topBy (w : Nat → Nat) (n : Nat) : Nat := (List.range n).foldl (fun (b : Nat) (i : Nat) => if w b < w i then i else b) 0
theorem topBy_is (w : Nat → Nat) : ∀ n, (0 < n → topBy w n < n) ∧ (∀ k < n, w k ≤ w (topBy w n)) ∧ (∀ k < topBy w n, w k < w (topBy w n))
  | 0 => ⟨fun h => absurd h (Nat.lt_irrefl 0), fun k hk => absurd hk (Nat.not_lt_zero k), fun k hk => absurd hk (Nat.not_lt_zero k)⟩
  | n + 1 => by
    obtain ⟨h1, h2, h3⟩ := topBy_is w n
    have e : topBy w (n + 1) = if w (topBy w n) < w n then n else topBy w n := by
      unfold topBy
      rw [List.range_succ, List.foldl_append]
      rfl
    rw [e]
    by_cases h : w (topBy w n) < w n
    · rw [if_pos h]
      refine ⟨fun _ => Nat.lt_succ_self n, fun k hk => ?_, fun k hk => ?_⟩
      · by_cases hn : k = n
        · rw [hn]
          exact Nat.le_refl _
        · have := h2 k (by omega)
          omega
      · have := h2 k hk
        omega
    · rw [if_neg h]
      refine ⟨fun _ => ?_, fun k hk => ?_, h3⟩
      · by_cases hn : n = 0
        · subst hn
          show (0 : Nat) < 1
          omega
        · have := h1 (by omega)
          omega
      · by_cases hn : k = n
        · rw [hn]
          omega
        · exact h2 k (by omega)
/-! ### pairs chosen, cell by cell -/
/-- a comes ahead of b: more votes, of as many the first -/
def Ahead (v : Nat → Nat) (a b : Nat) : Prop := v b < v a ∨ (v a = v b ∧ a < b)
def stp (m : Nat) (acc : List (Nat × Nat)) (k : Nat) : List (Nat × Nat) := if k / m ∉ acc.map (·.1) ∧ k % m ∉ acc.map (·.2) then acc ++ [(k / m, k % m)] else acc
def Fuel (n m f : Nat) (acc : List (Nat × Nat)) : Prop :=
  (∃ Rs : List Nat, Rs.length ≤ f ∧ ∀ i < n, i ∉ acc.map (·.1) → i ∈ Rs) ∨ (∃ Cs : List Nat, Cs.length ≤ f ∧ ∀ j < m, j ∉ acc.map (·.2) → j ∈ Cs)
theorem run_is {n m least : Nat} (hm : 0 < m) (v : Nat → Nat) : ∀ (L : List Nat) (f : Nat) (acc : List (Nat × Nat)) (l : List Nat),
    (∀ k < n * m, num l k = if k / m ∈ acc.map (·.1) ∨ k % m ∈ acc.map (·.2) then 0 else v k) →
    (∀ k < n * m, max 1 least ≤ v k → k / m ∉ acc.map (·.1) → k % m ∉ acc.map (·.2) → k ∈ L) → (∀ k ∈ L, k < n * m ∧ max 1 least ≤ v k) → L.Pairwise (Ahead v) → Fuel n m f acc → 0 < n →
    L.foldl (stp m) acc = acc ++ chosenBy n m least f l
  | [], f, acc, l, hl, hL, _, _, _, hn => by
    rw [List.foldl_nil]
    have e : chosenBy n m least f l = [] := by
      cases f with
      | zero => rfl
      | succ f =>
        show (if num l (topBy (num l) (n * m)) < max 1 least then [] else _) = []
        rw [if_pos]
        have hN : 0 < n * m := Nat.mul_pos hn hm
        have hb := (topBy_is (num l) (n * m)).1 hN
        rw [hl _ hb]
        split
        · omega
        · rename_i h
          have h1 : ¬ topBy (num l) (n * m) / m ∈ acc.map (·.1) := fun z => h (.inl z)
          have h2 : ¬ topBy (num l) (n * m) % m ∈ acc.map (·.2) := fun z => h (.inr z)
          have z := hL _ hb
          exact Nat.lt_of_not_le fun y => absurd (z y h1 h2) (by simp)
    rw [e, List.append_nil]
  | k :: t, f, acc, l, hl, hL, hS, hP, hF, hn => by
    rw [List.foldl_cons]
    have hk := hS k List.mem_cons_self
    have hPt := List.pairwise_cons.mp hP
    by_cases hfree : k / m ∉ acc.map (·.1) ∧ k % m ∉ acc.map (·.2)
    · have e1 : stp m acc k = acc ++ [(k / m, k % m)] := if_pos hfree
      rw [e1]
      have hi : k / m < n := Nat.div_lt_of_lt_mul (by rw [Nat.mul_comm]; exact hk.1)
      have hj : k % m < m := Nat.mod_lt _ hm
      have hN : 0 < n * m := Nat.mul_pos hn hm
      obtain ⟨b1, b2, b3⟩ := topBy_is (num l) (n * m)
      have b1 := b1 hN
      have vk : num l k = v k := by
        rw [hl k hk.1, if_neg]
        rintro (z | z)
        · exact hfree.1 z
        · exact hfree.2 z
      have hbest : topBy (num l) (n * m) = k := by
        have g1 := b2 k hk.1
        have vb := hl _ b1
        by_cases hz : topBy (num l) (n * m) / m ∈ acc.map (·.1) ∨ topBy (num l) (n * m) % m ∈ acc.map (·.2)
        · rw [if_pos hz] at vb
          have := hk.2
          omega
        · rw [if_neg hz] at vb
          have hmem := hL _ b1 (by have := hk.2; omega) (fun z => hz (.inl z)) (fun z => hz (.inr z))
          rcases List.mem_cons.mp hmem with e | e
          · exact e
          · rcases hPt.1 _ e with g | ⟨g, g'⟩
            · omega
            · have := b3 k g'
              omega
      -- the fuel
      obtain ⟨f', rfl, hF'⟩ : ∃ f', f = f' + 1 ∧ Fuel n m f' (acc ++ [(k / m, k % m)]) := by
        rcases hF with ⟨Rs, h1, h2⟩ | ⟨Cs, h1, h2⟩
        · have hmem := h2 _ hi hfree.1
          have hpos : 0 < Rs.length := List.length_pos_of_mem hmem
          refine ⟨f - 1, by omega, .inl ⟨Rs.erase (k / m), by rw [List.length_erase_of_mem hmem]; omega, fun i hi' hni => ?_⟩⟩
          rw [List.map_append, List.mem_append] at hni
          have n1 : i ∉ acc.map (·.1) := fun z => hni (.inl z)
          have n2 : i ≠ k / m := fun z => hni (.inr (by rw [z]; simp))
          exact (List.mem_erase_of_ne n2).mpr (h2 i hi' n1)
        · have hmem := h2 _ hj hfree.2
          have hpos : 0 < Cs.length := List.length_pos_of_mem hmem
          refine ⟨f - 1, by omega, .inr ⟨Cs.erase (k % m), by rw [List.length_erase_of_mem hmem]; omega, fun i hi' hni => ?_⟩⟩
          rw [List.map_append, List.mem_append] at hni
          have n1 : i ∉ acc.map (·.2) := fun z => hni (.inl z)
          have n2 : i ≠ k % m := fun z => hni (.inr (by rw [z]; simp))
          exact (List.mem_erase_of_ne n2).mpr (h2 i hi' n1)
      have e2 : chosenBy n m least (f' + 1) l = (k / m, k % m) :: chosenBy n m least f' ((List.range (n * m)).map fun x => if x / m = k / m ∨ x % m = k % m then 0 else num l x) := by
        show (if num l (topBy (num l) (n * m)) < max 1 least then [] else (topBy (num l) (n * m) / m, topBy (num l) (n * m) % m) :: chosenBy n m least f' ((List.range (n * m)).map fun x => if x / m = topBy (num l) (n * m) / m ∨ x % m = topBy (num l) (n * m) % m then 0 else num l x)) = _
        rw [hbest, if_neg (by have := hk.2; omega)]
      rw [e2, run_is hm v t f' (acc ++ [(k / m, k % m)]) _ (fun x hx => ?_) (fun x hx hv n1 n2 => ?_) (fun x hx => hS x (List.mem_cons_of_mem _ hx)) hPt.2 hF' hn, List.append_assoc]
      · rfl
      · have e3 : num ((List.range (n * m)).map fun x => if x / m = k / m ∨ x % m = k % m then 0 else num l x) x = if x / m = k / m ∨ x % m = k % m then 0 else num l x := by
          unfold num
          rw [List.getD_eq_getElem?_getD, List.getElem?_map, List.getElem?_range hx]
          rfl
        rw [e3, hl x hx]
        simp only [List.map_append, List.mem_append, List.map_cons, List.map_nil, List.mem_singleton]
        by_cases c1 : x / m = k / m <;> by_cases c2 : x % m = k % m <;> by_cases c3 : x / m ∈ acc.map (·.1) <;> by_cases c4 : x % m ∈ acc.map (·.2) <;> simp [c1, c2, c3, c4]
      · rw [List.map_append, List.mem_append] at n1 n2
        have m1 : x / m ∉ acc.map (·.1) := fun z => n1 (.inl z)
        have m2 : x % m ∉ acc.map (·.2) := fun z => n2 (.inl z)
        rcases List.mem_cons.mp (hL x hx hv m1 m2) with e | e
        · exact absurd (.inr (by rw [e]; simp)) n1
        · exact e
    · have e1 : stp m acc k = acc := if_neg hfree
      rw [e1]
      refine run_is hm v t f acc l hl (fun x hx hv n1 n2 => ?_) (fun x hx => hS x (List.mem_cons_of_mem _ hx)) hPt.2 hF hn
      rcases List.mem_cons.mp (hL x hx hv n1 n2) with e | e
      · subst e
        exact absurd ⟨n1, n2⟩ hfree
      · exact e
theorem chosen_is {n m least : Nat} (hn : 0 < n) (hm : 0 < m) {l L : List Nat} (h1 : ∀ k, k ∈ L ↔ k < n * m ∧ max 1 least ≤ num l k) (hP : L.Pairwise (Ahead (num l))) : L.foldl (stp m) [] = chosen n m least l := by
  unfold chosen
  rw [run_is hm (num l) L (min n m) [] l (fun k _ => by simp) (fun k hk hv _ _ => (h1 k).mpr ⟨hk, hv⟩) (fun k hk => (h1 k).mp hk) hP ?_ hn, List.nil_append]
  by_cases h : n ≤ m
  · exact .inl ⟨List.range n, by rw [List.length_range]; omega, fun i hi _ => List.mem_range.mpr hi⟩
  · exact .inr ⟨List.range m, by rw [List.length_range]; omega, fun i hi _ => List.mem_range.mpr hi⟩
theorem chosenBy_len {n m least : Nat} : ∀ (f : Nat) (l : List Nat), (chosenBy n m least f l).length ≤ f
  | 0, _ => Nat.le_refl 0
  | f + 1, l => by
    show (if num l (topBy (num l) (n * m)) < max 1 least then [] else (topBy (num l) (n * m) / m, topBy (num l) (n * m) % m) :: chosenBy n m least f _ : List (Nat × Nat)).length ≤ f + 1
    split
    · exact Nat.zero_le _
    · rw [List.length_cons]
      exact Nat.succ_le_succ (chosenBy_len f _)
theorem chosen_len {n m least : Nat} {l : List Nat} : (chosen n m least l).length ≤ min n m := chosenBy_len _ _
/-! ### sorted, as great ones in their order -/
theorem two_sub {a b : Nat} : ∀ {l : List Nat}, a ∈ l → b ∈ l → a ≠ b → [a, b].Sublist l ∨ [b, a].Sublist l
  | [], h, _, _ => absurd h (by simp)
  | x :: t, ha, hb, hne => by
    rcases List.mem_cons.mp ha with e1 | e1 <;> rcases List.mem_cons.mp hb with e2 | e2
    · exact absurd (e1.trans e2.symm) hne
    · left
      rw [e1]
      exact List.Sublist.cons_cons _ (List.singleton_sublist.mpr e2)
    · right
      rw [e2]
      exact List.Sublist.cons_cons _ (List.singleton_sublist.mpr e1)
    · rcases two_sub e1 e2 hne with z | z
      · exact .inl (z.cons _)
      · exact .inr (z.cons _)
theorem no_both {a b : Nat} : ∀ {l : List Nat}, l.Nodup → [a, b].Sublist l → ¬ [b, a].Sublist l
  | [], _, h, _ => by cases h
  | x :: t, hnd, h1, h2 => by
    obtain ⟨n1, n2⟩ := List.nodup_cons.mp hnd
    cases h1 with
    | cons _ h1 =>
      cases h2 with
      | cons _ h2 => exact no_both n2 h1 h2
      | cons_cons _ h2 => exact n1 (h1.subset (by simp))
    | cons_cons _ h1 =>
      cases h2 with
      | cons _ h2 => exact n1 (h2.subset (by simp))
      | cons_cons _ h2 => exact n1 (h1.subset (by simp))
theorem sort_ahead {v : Nat → Nat} {cs : List Nat} (hc : cs.Pairwise (· < ·)) : (cs.mergeSort fun i j => decide (v j ≤ v i)).Pairwise (Ahead v) := by
  have tr : ∀ a b c : Nat, decide (v b ≤ v a) = true → decide (v c ≤ v b) = true → decide (v c ≤ v a) = true := fun a b c h1 h2 => by
    have h1 := of_decide_eq_true h1
    have h2 := of_decide_eq_true h2
    exact decide_eq_true (Nat.le_trans h2 h1)
  have to : ∀ a b : Nat, (decide (v b ≤ v a) || decide (v a ≤ v b)) = true := fun a b => by
    rcases Nat.le_total (v b) (v a) with h | h
    · rw [decide_eq_true h]; rfl
    · rw [decide_eq_true h, Bool.or_true]
  have hs := List.pairwise_mergeSort (le := fun i j => decide (v j ≤ v i)) tr to cs
  have hperm := List.mergeSort_perm cs (fun i j => decide (v j ≤ v i))
  have hnd0 : cs.Nodup := hc.imp fun h => Nat.ne_of_lt h
  have hnd : (cs.mergeSort fun i j => decide (v j ≤ v i)).Nodup := hperm.nodup_iff.mpr hnd0
  refine List.pairwise_iff_forall_sublist.mpr fun {a b} hab => ?_
  have hle : v b ≤ v a := of_decide_eq_true (List.pairwise_iff_forall_sublist.mp hs hab)
  rcases Nat.lt_or_ge (v b) (v a) with h | h
  · exact .inl h
  have heq : v a = v b := Nat.le_antisymm h hle
  have hne : a ≠ b := fun z => by
    have := hnd.sublist hab
    simp [z] at this
  refine .inr ⟨heq, ?_⟩
  have ma : a ∈ cs := hperm.mem_iff.mp (hab.subset (by simp))
  have mb : b ∈ cs := hperm.mem_iff.mp (hab.subset (by simp))
  rcases two_sub ma mb hne with z | z
  · exact List.pairwise_iff_forall_sublist.mp hc z
  · exact absurd (List.pair_sublist_mergeSort tr to (decide_eq_true (by omega)) z) (no_both hnd hab)
end Tm
namespace Tm
open Sh68 Sh68Neutral
theorem nats_back {ns : List Int} (h : ∀ x ∈ ns, 0 ≤ x) : (nats ns).map (fun x => ((x : Nat) : Int)) = ns := by
  unfold nats
  rw [List.map_map]
  have e : ∀ x ∈ ns, ((fun x : Nat => ((x : Nat) : Int)) ∘ Int.toNat) x = id x := fun x hx => Int.toNat_of_nonneg (h x hx)
  rw [List.map_congr_left e, List.map_id]
theorem choose_asked {n least : Int} {l : List Int} (h : PySh68.tm_choose_asked n least l = true) : l.length = n.toNat * (l.length / n.toNat) := by
  have h1 := (Bool.and_eq_true_iff.mp h).1
  have h2 : (natural n 32 && (natural least 32 && (l.all (fun (z : Int) => natural z 32) && ((if (Sh68.among ((n.toNat)) 1 64 && Sh68.among (((nats l).length / n.toNat)) 1 64) = true then l.length == ((n.toNat) * (((nats l).length / n.toNat))) else (l.isEmpty) || (l.length == ((n.toNat) * (((nats l).length / n.toNat))))))))) = true := h1
  have h3 := (Bool.and_eq_true_iff.mp (Bool.and_eq_true_iff.mp (Bool.and_eq_true_iff.mp h2).2).2).2
  rw [nats_len] at h3
  split at h3
  · exact beq_iff_eq.mp h3
  · rcases Bool.or_eq_true_iff.mp h3 with z | z
    · rw [List.isEmpty_iff.mp z]
      simp
    · exact beq_iff_eq.mp z
end Tm

namespace Tm
open Sh68 Sh68Neutral
/-! ### the first of the least -/
def lowBy (w : Nat → Nat) (n : Nat) : Nat := (List.range n).foldl (fun (b : Nat) (i : Nat) => if w i < w b then i else b) 0
theorem lowBy_is (w : Nat → Nat) : ∀ n, (0 < n → lowBy w n < n) ∧ (∀ k < n, w (lowBy w n) ≤ w k) ∧ (∀ k < lowBy w n, w (lowBy w n) < w k)
  | 0 => ⟨fun h => absurd h (Nat.lt_irrefl 0), fun k hk => absurd hk (Nat.not_lt_zero k), fun k hk => absurd hk (Nat.not_lt_zero k)⟩
  | n + 1 => by
    obtain ⟨h1, h2, h3⟩ := lowBy_is w n
    have e : lowBy w (n + 1) = if w n < w (lowBy w n) then n else lowBy w n := by
      unfold lowBy
      rw [List.range_succ, List.foldl_append]
      rfl
    rw [e]
    by_cases h : w n < w (lowBy w n)
    · rw [if_pos h]
      refine ⟨fun _ => Nat.lt_succ_self n, fun k hk => ?_, fun k hk => ?_⟩
      · by_cases hn : k = n
        · rw [hn]
          exact Nat.le_refl _
        · have := h2 k (by omega)
          omega
      · have := h2 k hk
        omega
    · rw [if_neg h]
      refine ⟨fun _ => ?_, fun k hk => ?_, h3⟩
      · by_cases hn : n = 0
        · subst hn
          show (0 : Nat) < 1
          omega
        · have := h1 (by omega)
          omega
      · by_cases hn : k = n
        · rw [hn]
          omega
        · exact h2 k (by omega)
/-- numbers by their places -/
def told_ (w : Nat → Nat) (n : Nat) : List Int := (List.range n).map fun k => ((w k : Nat) : Int)
theorem told_get {w : Nat → Nat} {n k : Nat} (h : k < n) : (told_ w n)[k]? = some ((w k : Nat) : Int) := by
  unfold told_
  rw [List.getElem?_map, List.getElem?_range h]
  rfl
theorem told_len_ (w : Nat → Nat) (n : Nat) : (told_ w n).length = n := by
  unfold told_
  rw [List.length_map, List.length_range]
theorem told_mem {w : Nat → Nat} {n k : Nat} (h : k < n) : ((w k : Nat) : Int) ∈ told_ w n := List.mem_of_getElem? (told_get h)
theorem least_at {w : Nat → Nat} {n : Nat} {m : Int} (h : 0 < n) (hm : m ∈ told_ w n) (hl : ∀ y ∈ told_ w n, m ≤ y) : m = ((w (lowBy w n) : Nat) : Int) ∧ ∀ k < lowBy w n, ((w k : Nat) : Int) ≠ m := by
  obtain ⟨h1, h2, h3⟩ := lowBy_is w n
  obtain ⟨i, hi⟩ := List.getElem?_of_mem hm
  have hin : i < n := by
    have := (List.getElem?_eq_some_iff.mp hi).1
    rwa [told_len_] at this
  rw [told_get hin] at hi
  have e := Option.some.inj hi
  have a := hl _ (told_mem (h1 h))
  have b := h2 i hin
  refine ⟨by omega, fun k hk => ?_⟩
  have c := h3 k hk
  omega
theorem most_at {w : Nat → Nat} {n : Nat} {m : Int} (h : 0 < n) (hm : m ∈ told_ w n) (hl : ∀ y ∈ told_ w n, y ≤ m) : m = ((w (topBy w n) : Nat) : Int) ∧ ∀ k < topBy w n, ((w k : Nat) : Int) ≠ m := by
  obtain ⟨h1, h2, h3⟩ := topBy_is w n
  obtain ⟨i, hi⟩ := List.getElem?_of_mem hm
  have hin : i < n := by
    have := (List.getElem?_eq_some_iff.mp hi).1
    rwa [told_len_] at this
  rw [told_get hin] at hi
  have e := Option.some.inj hi
  have a := hl _ (told_mem (h1 h))
  have b := h2 i hin
  refine ⟨by omega, fun k hk => ?_⟩
  have c := h3 k hk
  omega
/-! ### places whose numbers may be below 0 -/
def ptsI (ns : List Int) : List Pt := (List.range (ns.length / 2)).map fun i => (at_ ns (2 * i), at_ ns (2 * i + 1))
theorem ptsI_len (ns : List Int) : (ptsI ns).length = ns.length / 2 := by
  unfold ptsI
  rw [List.length_map, List.length_range]
theorem ptsI_get {ns : List Int} {i : Nat} (h : i < ns.length / 2) : (ptsI ns)[i]? = some (at_ ns (2 * i), at_ ns (2 * i + 1)) := by
  unfold ptsI
  rw [List.getElem?_map, List.getElem?_range h]
  rfl
theorem ptsI_at {ns : List Int} {i : Nat} (h : i < ns.length / 2) : pt (ptsI ns) i = (at_ ns (2 * i), at_ ns (2 * i + 1)) := by
  unfold pt
  rw [List.getD_eq_getElem?_getD, ptsI_get h]
  rfl
theorem stars_I {ns : List Int} (hp : ∀ x ∈ ns, 0 ≤ x) : stars ns = ptsI ns := by
  refine List.ext_getElem? fun i => ?_
  by_cases h : i < ns.length / 2
  · rw [stars_get hp (by omega), ptsI_get h]
  · rw [List.getElem?_eq_none (by rw [stars_len]; omega), List.getElem?_eq_none (by rw [ptsI_len]; omega)]
theorem sq_sym (a b : Int) : (a - b) * (a - b) = (b - a) * (b - a) := by
  rw [← Int.neg_sub b a, Int.neg_mul_neg]
theorem dist_at {ns : List Int} {x y : Int} {k : Nat} (h : k < ns.length / 2) : ((dist2 (x, y) (pt (ptsI ns) k) : Nat) : Int) = (at_ ns (2 * k) - x) * (at_ ns (2 * k) - x) + (at_ ns (2 * k + 1) - y) * (at_ ns (2 * k + 1) - y) := by
  rw [ptsI_at h]
  show ((square (x - at_ ns (2 * k)) + square (y - at_ ns (2 * k + 1)) : Nat) : Int) = _
  rw [Int.natCast_add, square_is, square_is, sq_sym x, sq_sym y]
theorem dist_pts {x y u v : Int} : ((dist2 (x, y) (u, v) : Nat) : Int) = (x - u) * (x - u) + (y - v) * (y - v) := by
  show ((square (x - u) + square (y - v) : Nat) : Int) = _
  rw [Int.natCast_add, square_is, square_is]
theorem nearest_is (p : Pt) (l : List Pt) : nearest p l = lowBy (fun i => dist2 p (pt l i)) l.length := rfl
theorem nearest_lt {p : Pt} {l : List Pt} (h : 0 < l.length) : nearest p l < l.length := (lowBy_is _ _).1 h
/-! ### places carried, in one list -/
def lying (f : Fit) (l : List Pt) : List Int := l.flatMap fun p => [(carried f p).1, (carried f p).2]
theorem lying_len (f : Fit) : ∀ l : List Pt, (lying f l).length = 2 * l.length
  | [] => rfl
  | q :: r => by
    show ((carried f q).1 :: (carried f q).2 :: lying f r).length = _
    rw [List.length_cons, List.length_cons, lying_len f r, List.length_cons]
    omega
theorem lying_at (f : Fit) : ∀ (l : List Pt) {i : Nat} {p : Pt}, l[i]? = some p → at_ (lying f l) (2 * i) = (carried f p).1 ∧ at_ (lying f l) (2 * i + 1) = (carried f p).2
  | [], i, p, h => by simp at h
  | q :: r, 0, p, h => by
    have e : q = p := by simpa using h
    subst e
    exact ⟨rfl, rfl⟩
  | q :: r, i + 1, p, h => by
    have h' : r[i]? = some p := by simpa using h
    have ih := lying_at f r h'
    show at_ ((carried f q).1 :: (carried f q).2 :: lying f r) (2 * i + 2) = _ ∧ at_ ((carried f q).1 :: (carried f q).2 :: lying f r) (2 * i + 1 + 2) = _
    exact ih
theorem lying_pts (f : Fit) (l : List Pt) : ptsI (lying f l) = l.map (carried f) := by
  have hl : (lying f l).length / 2 = l.length := by rw [lying_len]; omega
  refine List.ext_getElem? fun i => ?_
  by_cases h : i < l.length
  · have e := lying_at f l (List.getElem?_eq_getElem h)
    rw [ptsI_get (by omega), List.getElem?_map, List.getElem?_eq_getElem h, e.1, e.2]
    rfl
  · rw [List.getElem?_eq_none (by rw [ptsI_len]; omega), List.getElem?_eq_none (by rw [List.length_map]; omega)]
def Bd60 (ns : List Int) : Prop := ∀ x ∈ ns, x.natAbs ≤ 2 ^ 60
theorem lying_bd {f : Fit} (S : FitSz f) {l : List Pt} (h : ∀ p ∈ l, p.1.natAbs ≤ 8192 ∧ p.2.natAbs ≤ 8192) : Bd60 (lying f l) := fun x hx => by
  obtain ⟨p, hp, hx⟩ := List.mem_flatMap.mp hx
  have b := carried_bd S (h p hp).1 (h p hp).2
  rcases List.mem_cons.mp hx with e | e
  · rw [e]; exact b.1
  · rw [List.mem_singleton.mp e]; exact b.2
theorem Bd60.at {ns : List Int} (h : Bd60 ns) {i : Nat} (hi : i < ns.length) : (at_ ns i).natAbs ≤ 2 ^ 60 := by
  rw [at_get hi]
  exact h _ (List.getElem_mem hi)
theorem stars_bd {ns : List Int} (h : ∀ x ∈ ns, 0 ≤ x ∧ x < 8192) : ∀ p ∈ stars ns, p.1.natAbs ≤ 8192 ∧ p.2.natAbs ≤ 8192 := fun p hm => by
  obtain ⟨i, hi⟩ := List.getElem?_of_mem hm
  have hl : i < (stars ns).length := (List.getElem?_eq_some_iff.mp hi).1
  rw [stars_len] at hl
  have e := stars_get (fun x hx => (h x hx).1) (i := i) (by omega)
  rw [hi] at e
  cases e
  have h0 := h _ (List.getElem_mem (show 2 * i < ns.length by omega))
  have h1 := h _ (List.getElem_mem (show 2 * i + 1 < ns.length by omega))
  rw [← at_get] at h0 h1
  exact ⟨by show (at_ ns (2 * i)).natAbs ≤ 8192; omega, by show (at_ ns (2 * i + 1)).natAbs ≤ 8192; omega⟩
/-! ### pairs grown -/
def growAt (f : Fit) (r : Nat) (c q : List Pt) (i : Nat) : Option (Nat × Nat) :=
  if dist2 (pt c i) (pt q (nearest (pt c i) q)) ≤ r * r ∧ nearest (pt q (nearest (pt c i) q)) c = i then some (i, nearest (pt c i) q) else none
theorem filt_congr {α β : Type} {f g : α → Option β} : ∀ {l : List α}, (∀ x ∈ l, f x = g x) → l.filterMap f = l.filterMap g
  | [], _ => rfl
  | x :: r, h => by
    rw [List.filterMap_cons, List.filterMap_cons, h x List.mem_cons_self, filt_congr fun y hy => h y (List.mem_cons_of_mem _ hy)]
theorem grown_is {f : Fit} {r : Nat} {p q : List Pt} (h : q ≠ []) : grown f r p q = (List.range p.length).filterMap (growAt f r (p.map (carried f)) q) := by
  unfold grown
  refine filt_congr fun i _ => ?_
  rw [if_neg h]
  rfl
theorem grown_none {f : Fit} {r : Nat} {p q : List Pt} (h : p = [] ∨ q = []) : grown f r p q = [] := by
  unfold grown
  rcases h with h | h
  · subst h
    rfl
  · subst h
    show (List.range p.length).filterMap (fun i => if ([] : List Pt) = [] then none else _) = []
    refine List.filterMap_eq_nil_iff.mpr fun i _ => ?_
    rw [if_pos rfl]
theorem grown_len {f : Fit} {r : Nat} {p q : List Pt} : (grown f r p q).length ≤ p.length := by
  unfold grown
  refine Nat.le_trans (List.length_filterMap_le _ _) ?_
  rw [List.length_range]
  exact Nat.le_refl _
end Tm

namespace Tm
open Sh68 Sh68Neutral
/-! ### pairs cleaned -/
abbrev pr0 : Pt × Pt := ((0, 0), (0, 0))
def missAt (f : Fit) (l : List (Pt × Pt)) (i : Nat) : Nat := miss f (l.getD i pr0)
def worst (f : Fit) (l : List (Pt × Pt)) : Nat := topBy (missAt f l) l.length
theorem worst_lt {f : Fit} {l : List (Pt × Pt)} (h : 0 < l.length) : worst f l < l.length := (topBy_is _ _).1 h
theorem cleaned_some {r n : Nat} {l : List (Pt × Pt)} {f : Fit} (h : fit l = some f) : cleaned r (n + 1) l = if l.length ≤ 2 ∨ missAt f l (worst f l) ≤ r * r then l else cleaned r n (l.eraseIdx (worst f l)) := by
  rw [cleaned, h]
  rfl
theorem cleaned_none {r n : Nat} {l : List (Pt × Pt)} (h : fit l = none) : cleaned r n l = l := by
  cases n with
  | zero => rfl
  | succ n => rw [cleaned, h]
theorem cleaned_two {r n : Nat} {l : List (Pt × Pt)} (h : l.length ≤ 2) : cleaned r n l = l := by
  cases n with
  | zero => rfl
  | succ n =>
    cases e : fit l with
    | none => exact cleaned_none e
    | some f => rw [cleaned_some e, if_pos (.inl h)]
theorem cleaned_stay {r n : Nat} {l : List (Pt × Pt)} {f : Fit} (e : fit l = some f) (h : missAt f l (worst f l) ≤ r * r) : cleaned r n l = l := by
  cases n with
  | zero => rfl
  | succ n => rw [cleaned_some e, if_pos (.inr h)]
theorem cleaned_go {r n : Nat} {l : List (Pt × Pt)} {f : Fit} (e : fit l = some f) (h2 : 2 < l.length) (h : r * r < missAt f l (worst f l)) : cleaned r (n + 1) l = cleaned r n (l.eraseIdx (worst f l)) := by
  rw [cleaned_some e, if_neg]
  rintro (z | z) <;> omega
/-- a pair taken out of the flat list -/
def cut4 (ls : List Int) (j : Nat) : List Int := ls.take (4 * j) ++ ls.drop (4 * j + 4)
theorem cut4_len {ls : List Int} {m j : Nat} (hl : ls.length = 4 * (m + 1)) (hj : j < m + 1) : (cut4 ls j).length = 4 * m := by
  unfold cut4
  rw [List.length_append, List.length_take, List.length_drop]
  omega
theorem cut4_mem {ls : List Int} {j : Nat} {x : Int} (h : x ∈ cut4 ls j) : x ∈ ls := by
  rcases List.mem_append.mp h with z | z
  · exact List.mem_of_mem_take z
  · exact List.mem_of_mem_drop z
theorem cut4_lo {ls : List Int} {j i : Nat} (hj : 4 * j ≤ ls.length) (h : i < 4 * j) : at_ (cut4 ls j) i = at_ ls i := by
  unfold cut4 at_
  rw [List.getD_eq_getElem?_getD, List.getD_eq_getElem?_getD, List.getElem?_append_left (by rw [List.length_take]; omega), List.getElem?_take_of_lt h]
theorem cut4_hi {ls : List Int} {j i : Nat} (hj : 4 * j ≤ ls.length) (h : 4 * j ≤ i) : at_ (cut4 ls j) i = at_ ls (i + 4) := by
  unfold cut4 at_
  rw [List.getD_eq_getElem?_getD, List.getD_eq_getElem?_getD, List.getElem?_append_right (by rw [List.length_take]; omega), List.getElem?_drop, List.length_take]
  congr 2
  omega
theorem cut4_prs {ls : List Int} {m j : Nat} (hp : ∀ x ∈ ls, 0 ≤ x) (hl : ls.length = 4 * (m + 1)) (hj : j < m + 1) : prs (cut4 ls j) = (prs ls).eraseIdx j := by
  have hc := cut4_len hl hj
  have hq : ∀ x ∈ cut4 ls j, 0 ≤ x := fun x hx => hp x (cut4_mem hx)
  refine List.ext_getElem? fun i => ?_
  rw [List.getElem?_eraseIdx]
  by_cases h : i < m
  · rw [prs_get hq (by omega)]
    split
    · rename_i h'
      rw [prs_get hp (by omega), cut4_lo (by omega) (by omega), cut4_lo (by omega) (by omega), cut4_lo (by omega) (by omega), cut4_lo (by omega) (by omega)]
    · rename_i h'
      rw [prs_get hp (by omega), cut4_hi (by omega) (by omega), cut4_hi (by omega) (by omega), cut4_hi (by omega) (by omega), cut4_hi (by omega) (by omega)]
      have e : 4 * (i + 1) = 4 * i + 4 := by omega
      rw [e, show 4 * i + 4 + 1 = 4 * i + 1 + 4 by omega, show 4 * i + 4 + 2 = 4 * i + 2 + 4 by omega, show 4 * i + 4 + 3 = 4 * i + 3 + 4 by omega]
  · rw [List.getElem?_eq_none (by rw [prs_len]; omega)]
    split
    · omega
    · rw [List.getElem?_eq_none (by rw [prs_len]; omega)]
/-- the flat list told back -/
def flatI (l : List (Pt × Pt)) : List Int := l.flatMap fun p => [((p.1.1.toNat : Nat) : Int), ((p.1.2.toNat : Nat) : Int), ((p.2.1.toNat : Nat) : Int), ((p.2.2.toNat : Nat) : Int)]
theorem flat_range (ls : List Int) (hp : ∀ x ∈ ls, 0 ≤ x) : ∀ m, 4 * m ≤ ls.length → ((List.range m).flatMap fun i => [(((at_ ls (4 * i)).toNat : Nat) : Int), (((at_ ls (4 * i + 1)).toNat : Nat) : Int), (((at_ ls (4 * i + 2)).toNat : Nat) : Int), (((at_ ls (4 * i + 3)).toNat : Nat) : Int)]) = ls.take (4 * m)
  | 0, _ => rfl
  | m + 1, h => by
    have ih := flat_range ls hp m (by omega)
    rw [flat_more, ih]
    have g : ∀ k, k < ls.length → (((at_ ls k).toNat : Nat) : Int) = at_ ls k := fun k hk => Int.toNat_of_nonneg (by rw [at_get hk]; exact hp _ (List.getElem_mem hk))
    have t : ∀ k, k < ls.length → ls.take (k + 1) = ls.take k ++ [at_ ls k] := fun k hk => by
      rw [List.take_add_one, List.getElem?_eq_getElem hk, at_get hk]
      rfl
    rw [g _ (by omega), g _ (by omega), g _ (by omega), g _ (by omega)]
    rw [show 4 * (m + 1) = 4 * m + 1 + 1 + 1 + 1 by omega, t _ (by omega), t _ (by omega), t _ (by omega), t _ (by omega)]
    simp only [List.append_assoc, List.cons_append, List.nil_append]
theorem flat_prs {ls : List Int} {m : Nat} (hp : ∀ x ∈ ls, 0 ≤ x) (hl : ls.length = 4 * m) : flatI (prs ls) = ls := by
  unfold flatI
  rw [prs_range hp hl, List.flatMap_map]
  have e := flat_range ls hp m (by omega)
  rw [← hl, List.take_length] at e
  exact e
theorem clean_told {r : Int} {ps ls : List Int} {m : Nat} (hp : ∀ x ∈ ps, 0 ≤ x) (h : ps.length / 4 ≤ 32 ∧ r.toNat ≤ 65535) (ho : off ps = false) (hq : ∀ x ∈ ls, 0 ≤ x) (hl : ls.length = 4 * m) (e : cleaned r.toNat (ps.length / 4) (prs ps) = prs ls) : PySh68.tm_clean r ps = ((m : Nat) : Int) :: ls := by
  rw [clean_due hp h ho, e, prs_len, hl]
  have f := flat_prs hq hl
  unfold flatI at f
  rw [f, show 4 * m / 4 = m by omega]
theorem miss_get {f : Fit} {ls : List Int} (hp : ∀ x ∈ ls, 0 ≤ x) {i : Nat} (h : 4 * i + 3 < ls.length) : missAt f (prs ls) i = miss f ((at_ ls (4 * i), at_ ls (4 * i + 1)), (at_ ls (4 * i + 2), at_ ls (4 * i + 3))) := by
  unfold missAt
  rw [List.getD_eq_getElem?_getD, prs_get hp h]
  rfl
theorem told_miss (f : Fit) (l : List (Pt × Pt)) : (l.map fun p => ((miss f p : Nat) : Int)) = told_ (missAt f l) l.length := by
  refine List.ext_getElem? fun i => ?_
  by_cases h : i < l.length
  · rw [told_get h, List.getElem?_map, List.getElem?_eq_getElem h]
    unfold missAt
    rw [List.getD_eq_getElem?_getD, List.getElem?_eq_getElem h]
    rfl
  · rw [List.getElem?_eq_none (by rw [List.length_map]; omega), List.getElem?_eq_none (by rw [told_len_]; omega)]
/-! ### what is asked of lengths -/
theorem clean_asked {r : Int} {ps : List Int} (h : PySh68.tm_clean_asked r ps = true) : ps.length = 4 * (ps.length / 4) := by
  have h1 := (Bool.and_eq_true_iff.mp h).1
  have h2 : (natural r 32 && (ps.all (fun (z : Int) => natural z 16) && ((if (Sh68.pairsFew (((nats ps).length / 4)) && decide ((r.toNat) ≤ 65535)) = true then ps.length == (4 * (((nats ps).length / 4))) else (ps.isEmpty) || (ps.length == (4 * (((nats ps).length / 4)))))))) = true := h1
  exact len_ask (Bool.and_eq_true_iff.mp (Bool.and_eq_true_iff.mp h2).2).2
theorem empty_len {l : List Int} {c : Nat} (h : l.isEmpty = true) : l.length = c * (l.length / c) := by
  rw [List.isEmpty_iff.mp h]
  simp
theorem grow_asked {r : Int} {ps ns ms : List Int} (h : PySh68.tm_grow_asked r ps ns ms = true) : ps.length = 4 * (ps.length / 4) ∧ ns.length = 2 * (ns.length / 2) ∧ ms.length = 2 * (ms.length / 2) := by
  have h1 := (Bool.and_eq_true_iff.mp h).1
  have h2 : (natural r 32 && (ps.all (fun (z : Int) => natural z 16) && (ns.all (fun (z : Int) => natural z 16) && (ms.all (fun (z : Int) => natural z 16) && ((if (Sh68.pairsFew (((nats ps).length / 4)) && (decide (((nats ns).length / 2) ≤ 64) && (decide (((nats ms).length / 2) ≤ 64) && decide ((r.toNat) ≤ 65535)))) = true then ps.length == (4 * (((nats ps).length / 4))) && ns.length == (2 * (((nats ns).length / 2))) && ms.length == (2 * (((nats ms).length / 2))) else (ps.isEmpty && ns.isEmpty && ms.isEmpty) || (ps.length == (4 * (((nats ps).length / 4))) && ns.length == (2 * (((nats ns).length / 2))) && ms.length == (2 * (((nats ms).length / 2)))))))))) = true := h1
  have h3 := (Bool.and_eq_true_iff.mp (Bool.and_eq_true_iff.mp (Bool.and_eq_true_iff.mp (Bool.and_eq_true_iff.mp h2).2).2).2).2
  rw [nats_len, nats_len, nats_len] at h3
  split at h3
  · obtain ⟨a, c⟩ := Bool.and_eq_true_iff.mp h3
    obtain ⟨a, b⟩ := Bool.and_eq_true_iff.mp a
    exact ⟨beq_iff_eq.mp a, beq_iff_eq.mp b, beq_iff_eq.mp c⟩
  · rcases Bool.or_eq_true_iff.mp h3 with z | z
    · obtain ⟨a, c⟩ := Bool.and_eq_true_iff.mp z
      obtain ⟨a, b⟩ := Bool.and_eq_true_iff.mp a
      exact ⟨empty_len a, empty_len b, empty_len c⟩
    · obtain ⟨a, c⟩ := Bool.and_eq_true_iff.mp z
      obtain ⟨a, b⟩ := Bool.and_eq_true_iff.mp a
      exact ⟨beq_iff_eq.mp a, beq_iff_eq.mp b, beq_iff_eq.mp c⟩
theorem far_asked {p q : List Int} (h : PySh68.tm_far_asked p q = true) : p.length = 2 * (p.length / 2) ∧ q.length = 2 * (p.length / 2) := by
  have h1 := (Bool.and_eq_true_iff.mp h).1
  have h2 : (p.all (fun (z : Int) => natural z 16) && (q.all (fun (z : Int) => natural z 16) && ((if (decide (((nats p).length / 2) ≤ 4096)) = true then p.length == (2 * (((nats p).length / 2))) && q.length == (2 * (((nats p).length / 2))) else (p.isEmpty && q.isEmpty) || (p.length == (2 * (((nats p).length / 2))) && q.length == (2 * (((nats p).length / 2)))))))) = true := h1
  have h3 := (Bool.and_eq_true_iff.mp (Bool.and_eq_true_iff.mp h2).2).2
  rw [nats_len] at h3
  split at h3
  · obtain ⟨a, b⟩ := Bool.and_eq_true_iff.mp h3
    exact ⟨beq_iff_eq.mp a, beq_iff_eq.mp b⟩
  · rcases Bool.or_eq_true_iff.mp h3 with z | z
    · obtain ⟨a, b⟩ := Bool.and_eq_true_iff.mp z
      rw [List.isEmpty_iff.mp a, List.isEmpty_iff.mp b]
      exact ⟨rfl, rfl⟩
    · obtain ⟨a, b⟩ := Bool.and_eq_true_iff.mp z
      exact ⟨beq_iff_eq.mp a, beq_iff_eq.mp b⟩
/-! ### how far places are -/
def farAt (p q : List Int) (k : Nat) : Int := (at_ p (2 * k) - at_ q (2 * k)) * (at_ p (2 * k) - at_ q (2 * k)) + (at_ p (2 * k + 1) - at_ q (2 * k + 1)) * (at_ p (2 * k + 1) - at_ q (2 * k + 1))
theorem far_told {p q : List Int} (hp : ∀ x ∈ p, 0 ≤ x) (hq : ∀ x ∈ q, 0 ≤ x) (h1 : p.length = 2 * (p.length / 2)) (h2 : q.length = 2 * (p.length / 2)) (h : p.length / 2 ≤ 4096) : PySh68.tm_far p q = 0 :: (List.range (p.length / 2)).map (farAt p q) := by
  rw [far_due h]
  congr 1
  refine List.ext_getElem? fun i => ?_
  by_cases hi : i < p.length / 2
  · have e : ((stars p).zip (stars q))[i]? = some ((at_ p (2 * i), at_ p (2 * i + 1)), (at_ q (2 * i), at_ q (2 * i + 1))) := List.getElem?_zip_eq_some.mpr ⟨stars_get hp (by omega), stars_get hq (by omega)⟩
    rw [List.getElem?_map, List.getElem?_map, List.getElem?_range hi, e]
    show some ((dist2 (at_ p (2 * i), at_ p (2 * i + 1)) (at_ q (2 * i), at_ q (2 * i + 1)) : Nat) : Int) = some _
    rw [dist_pts]
    rfl
  · rw [List.getElem?_eq_none (by rw [List.length_map, List.length_zip, stars_len, stars_len]; omega), List.getElem?_eq_none (by rw [List.length_map, List.length_range]; omega)]
end Tm

namespace Tm
open PySem PySem.Spec PyProof.Rows L2 PySem.AutoSeq1
/-- list.extend with a tuple's object, whatever dict and slots it bears -/
theorem extend_tuple (a t : Addr) (us ws : Array Value) (n m : Nat) (td : Option Addr) (ts : Array (Option Value)) (short : Builtin.List.listTooLong (us.size + ws.size) = false) (h1 : us.size ≤ sizeLine) (h2 : us.size + ws.size ≤ sizeLine + 1) :
    Meets (Builtin.«list.extend» ⟨[.ref a, .ref t], []⟩) fun _ R s => s.heap.get? a = some { cls := .type "list", dict := none, data := .seq us n, slots := #[] } ∧ s.heap.get? t = some { cls := .type "tuple", dict := td, data := .seq ws m, slots := ts } ∧
      R (.ok (.ret Value.none)) { s with heap := s.heap.update a (Obj.mapSeq fun x => x ++ ws), toks := s.toks } := by
  refine .of_wp fun prog w A R s => ?_
  rintro ⟨ea, et, done⟩
  have nolong : ¬(!us.isEmpty && Builtin.List.listTooLong (us.size + ws.size)) = true := by simp [short]
  have both : (us ++ ws).size ≤ sizeLine + 1 := Array.size_append ▸ h2
  obtain ⟨heap, gens, drawn, toks, os⟩ := s
  have k1 := idx_int
  have k2 := AutoSeq1.sub_tuple_tuple
  have k3 := AutoSeq1.sub_list_list
  have k4 := AutoSeq1.sub_tuple_list
  have k5 := AutoSeq1.sub_list_tuple
  wp_walk using (wpAny_updateSeq ea rfl (hz := h1) (_hz' := both)), wpAny_loadPart' ea, wpAny_loadPart' et
  exact ⟨_, rfl, done⟩
section
variable {X : Cx}
/-- xs.extend(t), t a tuple -/
def rExtendT : V → List V → Hp → VK → Prop := fun x vs H Q => ∃ l b xs zs, x = .ref l ∧ vs = [.ref b] ∧ H l = some (.lst xs) ∧ H b = some (.tup zs) ∧ xs.length + zs.length ≤ sizeLine ∧ Q .non (upd H l (.lst (xs ++ zs)))
theorem mt_extendT : MtM X "list.extend" rExtendT := by
  rintro pins s σ H _ _ v us Q I rx rv ⟨l, b, xs, zs, rfl, rfl, atL, atT, fits, done⟩
  obtain rfl : v = Value.ref l := rx
  obtain rfl := Vals.ref1 rv
  obtain ⟨-, ls, n, vL, lenL, objL⟩ := I.lstM atL
  obtain ⟨ts, vT, ⟨⟨_, td, _, tsl⟩, objT, rfl, m, rfl⟩, -⟩ := I.tuple (SqT.of atT)
  have lenT := vT.length
  have both : ls.toArray.size + ts.toArray.size ≤ sizeLine := by
    simp only [List.size_toArray]
    omega
  have meets := extend_tuple l b ls.toArray ts.toArray n m td tsl (notLongL both) (Nat.le_trans (Nat.le_add_right _ _) both) (Nat.le_succ_of_le both)
  refine call_meets F.slot_list_extend ⟨_, objL, rfl⟩ F.entry_list_extend (F.args_list_extend_2 _ _) meets ⟨objL, objT, .non, _, ?_, rfl, done⟩
  exact I.lset (its' := ls ++ ts) atL objL (by simp) (vL.append vT) (by rw [List.length_append]; exact fits)
/-- a statement, then the rest, the slots written out between them -/
def tSeqN (t u : TS) : TS := fun D σ H => t { D with nx := fun σ1 H1 => ∃ σ', σ1 = σ' ∧ u D σ' H1 } σ H
theorem pss_consN {st : Stmt} {rest : List Stmt} {t u : TS} (h1 : PS X st t) (h2 : PSs X rest u) : PSs X (st :: rest) (tSeqN t u) := by
  refine ⟨fun pins s σ H D I h => ?_⟩
  refine wpAny_execs_cons (thn (h1.run pins s σ H { D with nx := fun σ1 H1 => ∃ σ', σ1 = σ' ∧ u D σ' H1 } I h) fun f s1 q => ?_)
  cases f with
  | next =>
    obtain ⟨σ1, H', I', σ', e, q⟩ := q
    subst e
    exact h2.run pins s1 _ H' D I' q
  | ret v => exact q
  | brk => exact q
  | cont => exact q
/-- xs[i] read ahead of xs[i] op= e, i from 0 on -/
def rGetL (K : PySem.W.Frag) : R2 := fun x y H Q => ∃ (p : Addr) (xs : List V) (i : Int) (j : Nat) (v : V), x = .ref p ∧ y = .int i ∧ SqL K H p xs ∧ i = (j : Int) ∧ xs[j]? = some v ∧ Q v H
theorem get_list : PGet X (rGetL X.K) := by
  rintro pins s σ H _ _ ov iv Q I ro ri ⟨p, xs, _, j, v, rfl, rfl, hs, rfl, hv, done⟩
  obtain ⟨t, rfl⟩ := ri
  obtain rfl : ov = Value.ref p := ro
  obtain ⟨us, vals, plain, size⟩ := I.list hs
  obtain ⟨u, hu, ru⟩ := vals.get hv
  have small : j < xs.length := (List.getElem?_eq_some_iff.mp hv).1
  have line := line63
  exact wpAny_getItem_list plain.isList (Int.natCast_nonneg j) (by omega) (by simpa using hu) ⟨v, H, I, ru, done⟩
end
end Tm

namespace Tm
open PySem PySem.Spec PyProof.Rows L2
/-! ### [e for k in range(a, b, c)] -/
theorem lc_span {start by_ : Int} {turns : Nat} {tgt : TG} {tst : TT} {item : TE} {own : List Nat} {sl : L2.St} {G : Hp} {new : Addr} {After : Hp → Prop} (J : Nat → Hp → Prop) (begin_ : J 0 (upd G new (.lst [])))
    (turn : ∀ t G1, t < turns → J t G1 → tgt (.int (start + (t : Nat) * by_)) (wipe sl own) G1 fun sl2 G2 => wipe sl2 own = wipe sl own ∧ tst sl2 G2 fun yes G3 =>
      if yes = true then item sl2 G3 fun v G4 => ∃ old, G4 new = some (.lst old) ∧ old.length < sizeLine ∧ J (t + 1) (upd G4 new (.lst (old ++ [v]))) else J (t + 1) G3) (finish : ∀ G1, J turns G1 → After G1) :
    ∃ W : Nat → Nat → Hp → Prop, (∃ left, W 0 left (upd G new (.lst []))) ∧ ∀ t left G1, W t left G1 →
      ((Itc start by_ turns).stop t G1 ∧ After G1) ∨ ((Itc start by_ turns).go t G1 ∧ ∃ Then : Hp → Prop, (∀ G2, Then G2 → ∃ less, less < left ∧ W (t + 1) less G2) ∧ ∀ x G2, (Itc start by_ turns).yld t G1 x G2 → tgt x (wipe sl own) G2 fun sl2 G3 => wipe sl2 own = wipe sl own ∧ tst sl2 G3 fun yes G4 =>
        if yes = true then item sl2 G4 fun v G5 => ∃ old, G5 new = some (.lst old) ∧ old.length < sizeLine ∧ Then (upd G5 new (.lst (old ++ [v]))) else Then G4) := by
  refine ⟨fun t left G1 => left + t = turns ∧ J t G1, ⟨turns, Nat.add_zero turns, begin_⟩, ?_⟩
  rintro t left G1 ⟨hl, hj⟩
  cases left with
  | zero =>
    have e : t = turns := by omega
    subst e
    exact .inl ⟨Nat.le_refl t, finish G1 hj⟩
  | succ left =>
    have ht : t < turns := by omega
    refine .inr ⟨ht, J (t + 1), fun G2 h => ⟨left, Nat.lt_succ_self left, by omega, h⟩, ?_⟩
    rintro x G2 ⟨rfl, rfl⟩
    exact turn t _ ht hj
/-- range(0, 2 n, 2) -/
theorem fits_long {x : Int} (h1 : -(2 ^ 63) ≤ x) (h2 : x < 2 ^ 63) : Builtin.Range.rangeFitsLong x = true := Bool.and_eq_true_iff.mpr ⟨decide_eq_true h1, decide_eq_true h2⟩
theorem two_span {m : Int} {n : Nat} (e : m = 2 * (n : Int)) (h : n ≤ 10000) : RgC 0 m 2 n := by
  subst e
  have sz : Builtin.Range.rangeSize 0 (2 * (n : Int)) 2 = (n : Int) := by
    unfold Builtin.Range.rangeSize
    rw [if_pos (by decide)]
    split <;> omega
  refine ⟨by decide, by decide, ?_, sz⟩
  unfold Builtin.Range.small
  rw [sz, if_pos (by decide), fits_long (by decide) (by decide), fits_long (by omega) (by omega), fits_long (by decide) (by decide), fits_long (by omega) (by omega), fits_long (by omega) (by omega), Bool.or_true]
  rfl
end Tm

namespace Tm
open PySem PySem.Spec PyProof.Rows L2
open PySem.W (Codec)
def topS (i : Nat) : Stmt := PySem.Challenge.pw_skymatch_s09_tm_far.main.body.getD i (.Pass ⟨0, 0, 0, 0⟩)
/-! ### heaps -/
theorem same_upd {H : Hp} {p : Addr} {o : HO} (h : H p = none) : Same H (upd H p o) := fun b x e => by
  rw [upd_ne (ne_of_none e h)]
  exact e
theorem at_map {ns : List Int} {z : Int} {i : Nat} (e : z = (i : Int)) (h : i < ns.length) : atI (ns.map V.int) z = some (V.int (at_ ns i)) := by
  rw [e]
  refine atI_nat ?_
  rw [List.getElem?_map, List.getElem?_eq_getElem h, at_get h]
  rfl
def Up (B : Int) (ns : List Int) : Prop := ∀ x ∈ ns, 0 ≤ x ∧ x < B
theorem Up.at {B : Int} {ns : List Int} (h : Up B ns) {i : Nat} (hi : i < ns.length) : 0 ≤ at_ ns i ∧ at_ ns i < B := by
  rw [at_get hi]
  exact h _ (List.getElem_mem hi)
theorem sq_bd {d : Int} (h1 : -8192 < d) (h2 : d < 8192) : d * d < 67108864 := by
  rcases Int.le_total 0 d with h | h
  · have := Int.mul_le_mul_of_nonneg_right (show d ≤ 8191 by omega) h
    omega
  · have e : -d * -d = d * d := Int.neg_mul_neg d d
    have := Int.mul_le_mul_of_nonneg_right (show -d ≤ 8191 by omega) (show 0 ≤ -d by omega)
    omega
theorem Up.wide {ns : List Int} (h : Up 8192 ns) : Up 65536 ns := fun x hx => by
  have := h x hx
  omega
theorem Up.pos {B : Int} {ns : List Int} (h : Up B ns) : ∀ x ∈ ns, 0 ≤ x := fun x hx => (h x hx).1
theorem Up.low {ns : List Int} (hU : Up 65536 ns) (ho : (ns.any fun x => decide (8192 ≤ x)) = false) : Up 8192 ns := fun x hx => ⟨(hU x hx).1, by
  have z := List.any_eq_false.mp ho x hx
  have z2 : ¬ (8192 ≤ x) := fun y => z (decide_eq_true y)
  omega⟩
def KeepBut (v : Addr) (H H' : Hp) : Prop := ∀ b x, H b = some x → b ≠ v → H' b = some x
theorem KeepBut.trans {v : Addr} {H H1 H2 : Hp} (a : KeepBut v H H1) (b : KeepBut v H1 H2) : KeepBut v H H2 := fun c x h n => b c x (a c x h n) n
theorem Same.keep {v : Addr} {H H' : Hp} (s : Same H H') : KeepBut v H H' := fun b x h _ => s b x h
theorem keep_upd {v : Addr} {H : Hp} {o : HO} : KeepBut v H (upd H v o) := fun b x h n => by
  rw [upd_ne n]
  exact h
theorem flat_one {α β : Type} {f : α → List β} {l : List α} {i : Nat} {x : α} (h : l[i]? = some x) : (l.take (i + 1)).flatMap f = (l.take i).flatMap f ++ f x := by
  rw [List.take_add_one, h, List.flatMap_append]
  show _ ++ List.flatMap _ [x] = _
  rw [List.flatMap_cons, List.flatMap_nil, List.append_nil]
def pv2 (p : Nat × Nat) : List V := [V.int ((p.1 : Nat) : Int), V.int ((p.2 : Nat) : Int)]
end Tm

namespace Tm
open PySem PySem.Spec PyProof.Rows L2
open PySem.W (Codec)
abbrev sCount : Stmt := topS 5
theorem scCount : FnScope ["places"] ["places"] (defScope sCount) := ⟨rfl, rfl, rfl, by decide +kernel, rfl, by decide +kernel, by decide +kernel⟩
section
variable {P : Program} {w : World} {K : PySem.W.Frag} {mg : Str → Option Value} {base : Heap}
/-! ### place_count -/
def spCount (K : PySem.W.Frag) : Sp := fun vs H Q _ => ∃ (a : Addr) (ns : List Int), vs = [.ref a] ∧ SqL K H a (ns.map V.int) ∧ Q (.int ((ns.length / 2 : Nat) : Int)) H
theorem ok_count {f : Addr} {fd : FuncData} {k : Nat} (F : Fun K "place_count" "place_count" sCount f fd) (ml : mg "len" = none) : FnOk P w K mg base CX0 (k + 1) f fd ["places"] (spCount K) := by
  refine F.ok scCount (fun vs H Q E h => ?_) (fun cdv A outer s H vs Q E hr h => ?_)
  · obtain ⟨a, ns, rfl, _⟩ := h
    rfl
  · obtain ⟨a, ns, rfl, hS, q⟩ := h
    refine ⟨_, pss_one (ps_ret (pe_op op_fdiv (pe_callB call_len_seq (by rfl) ml PySem.boot_len (pa_cons (pv 0) pa_nil)) pe_int)), ?_⟩
    refine ⟨_, rfl, a, _, rfl, .inl hS, _, _, rfl, rfl, ⟨by decide, by decide⟩, ?_⟩
    have e : ((ns.map V.int).length : Int) / 2 = ((ns.length / 2 : Nat) : Int) := by
      rw [List.length_map]
      omega
    show Q (.int (((ns.map V.int).length : Int) / 2)) H
    rw [e]
    exact q
end
end Tm

namespace Tm
open PySem PySem.Spec PyProof.Rows L2
open PySem.W (Codec)
abbrev sAny : Stmt := topS 6
theorem scAny : FnScope ["numbers", "bound", "number"] ["numbers", "bound"] (defScope sAny) := ⟨rfl, rfl, rfl, by decide +kernel, rfl, by decide +kernel, by decide +kernel⟩
section
variable {P : Program} {w : World} {K : PySem.W.Frag} {mg : Str → Option Value} {base : Heap}
/-! ### any_from -/
def spAny (K : PySem.W.Frag) : Sp := fun vs H Q _ => ∃ (a : Addr) (ns : List Int) (b : Int), vs = [.ref a, .int b] ∧ SqL K H a (ns.map V.int) ∧ ns.length ≤ 10000 ∧ ∀ H', Same H H' → Q (.bl (ns.any fun x => decide (b ≤ x))) H'
theorem ok_any {f : Addr} {fd : FuncData} {k : Nat} (F : Fun K "any_from" "any_from" sAny f fd) (ma : mg "any" = none) : FnOk P w K mg base CX0 (k + 1) f fd ["numbers", "bound"] (spAny K) := by
  refine F.ok scAny (fun vs H Q E h => ?_) (fun cdv A outer s H vs Q E hr h => ?_)
  · obtain ⟨a, ns, b, rfl, _⟩ := h
    rfl
  · obtain ⟨a, ns, b, rfl, hS, hn, q⟩ := h
    refine ⟨_, pss_one (ps_ret (pe_callB (cr_any rfl) (by rfl) ma (by decide +kernel) (pa_cons
      (pe_lc (own := [("number", 2)]) (g := gName 2) (tt := tYes) (by rfl) scAny.nd (pi_list (pv 0)) (blkOk_by (own := [("number", 2)]) (N := ["numbers", "bound", "number"]) (sc := defScope sAny) (by decide +kernel))
        (fun _ _ _ _ _ => pg_name (i := 2) scAny.nd rfl (Or.inl rfl)) (fun _ _ _ _ _ => pts_nil)
        (fun _ _ _ _ _ => pe_cmpR op_ge (pv 2) (pv 1) (nomark _))) pa_nil))), ?_⟩
    refine ⟨_, rfl, a, rfl, ⟨_, hS⟩, fun D nD => ?_⟩
    refine lc_list (K := K) (a := a) (xs := ns.map V.int) (fun i H' => Same H H' ∧ H' D = some (.lst (((ns.take i).map fun x => decide (b ≤ x)).map V.bl))) ⟨same_upd nD, upd_same⟩ (fun i H' _ h => h.1.seq hS) (fun i x H' hx h => ?_) (fun H' h => ?_)
    · obtain ⟨sm, hD⟩ := h
      rw [List.getElem?_map] at hx
      obtain ⟨z, hz, rfl⟩ := Option.map_eq_some_iff.mp hx
      refine ⟨rfl, ?_⟩
      refine ⟨_, rfl, _, rfl, _, _, rfl, rfl, _, hD, ?_, ?_, ?_⟩
      · rw [List.length_map, List.length_map, List.length_take]
        exact Nat.lt_of_le_of_lt (Nat.min_le_right _ _) (Nat.lt_of_le_of_lt hn (by decide))
      · intro b o e
        rw [upd_ne (ne_of_none e nD)]
        exact sm b o e
      · rw [upd_same, List.take_add_one, hz, List.map_append, List.map_append]
        rfl
    · obtain ⟨sm, hD⟩ := h
      rw [List.length_map, List.take_length] at hD
      refine ⟨D, ns.map fun x => decide (b ≤ x), rfl, SqL.of hD, ?_⟩
      have e : (ns.map fun x => decide (b ≤ x)).any id = ns.any fun x => decide (b ≤ x) := by
        rw [List.any_map]
        rfl
      rw [e]
      exact q _ sm
end
end Tm

namespace Tm
open PySem PySem.Spec PyProof.Rows L2
open PySem.W (Codec)
abbrev sFar : Stmt := topS 7
theorem scFar : FnScope ["x", "y", "u", "v"] ["x", "y", "u", "v"] (defScope sFar) := ⟨rfl, rfl, rfl, by decide +kernel, rfl, by decide +kernel, by decide +kernel⟩
section
variable {P : Program} {w : World} {K : PySem.W.Frag} {mg : Str → Option Value} {base : Heap}
/-! ### how_far -/
def spFar : Sp := fun vs H Q _ => ∃ (x y u v : Int), vs = [.int x, .int y, .int u, .int v] ∧ (-18446744073709551616 < x - u ∧ x - u < 18446744073709551616) ∧ (-18446744073709551616 < y - v ∧ y - v < 18446744073709551616) ∧ Q (.int ((x - u) * (x - u) + (y - v) * (y - v))) H
theorem ok_far {f : Addr} {fd : FuncData} {k : Nat} (F : Fun K "how_far" "how_far" sFar f fd) : FnOk P w K mg base CX0 (k + 1) f fd ["x", "y", "u", "v"] spFar := by
  refine F.ok scFar (fun vs H Q E h => ?_) (fun cdv A outer s H vs Q E hr h => ?_)
  · obtain ⟨x, y, u, v, rfl, _⟩ := h
    rfl
  · obtain ⟨x, y, u, v, rfl, h1, h2, q⟩ := h
    refine ⟨_, pss_one (ps_ret (pe_op op_add (pe_op op_mul (pe_op op_sub (pv 0) (pv 2)) (pe_op op_sub (pv 0) (pv 2))) (pe_op op_mul (pe_op op_sub (pv 1) (pv 3)) (pe_op op_sub (pv 1) (pv 3))))), ?_⟩
    refine ⟨_, rfl, _, rfl, _, _, rfl, rfl, _, rfl, _, rfl, _, _, rfl, rfl, _, _, rfl, rfl, .inl h1, _, rfl, _, rfl, _, _, rfl, rfl, _, rfl, _, rfl, _, _, rfl, rfl, _, _, rfl, rfl, .inl h2, _, _, rfl, rfl, ?_⟩
    exact q
end
end Tm

namespace Tm
open PySem PySem.Spec PyProof.Rows L2
open PySem.W (Codec)
abbrev sMain : Stmt := topS 4
theorem scMain : FnScope ["p", "q", "k"] ["p", "q"] (defScope sMain) := ⟨rfl, rfl, rfl, by decide +kernel, rfl, by decide +kernel, by decide +kernel⟩
section
variable {P : Program} {w : World} {K : PySem.W.Frag} {mg : Str → Option Value} {base : Heap}
/-! ### tm_far -/
def spMain (K : PySem.W.Frag) : Sp := fun vs H Q _ => ∃ (p r : Addr) (ns ms : List Int), vs = [.ref p, .ref r] ∧ SqL K H p (ns.map V.int) ∧ SqL K H r (ms.map V.int) ∧ Up 65536 ns ∧ Up 65536 ms ∧ ns.length ≤ 8300 ∧ ms.length ≤ 8300 ∧ ns.length = 2 * (ns.length / 2) ∧ ms.length = 2 * (ns.length / 2) ∧
  ∀ H' v, H' v = some (.lst ((PySh68.tm_far ns ms).map V.int)) → Q (.ref v) H'
theorem ok_main {f fC fY fH : Addr} {fd fdC fdY fdH : FuncData} {k : Nat} {t1 t2 t3 : Tok} (F : Fun K "tm_far" "tm_far" sMain f fd)
    (FC : Fun K "place_count" "place_count" sCount fC fdC) (bC : Binds K fdC ["places"] []) (gC : mg "place_count" = some (.ref fC)) (GC : FnOk P w K mg base CX0 (k + 1) fC fdC ["places"] (spCount K))
    (FY : Fun K "any_from" "any_from" sAny fY fdY) (bY : Binds K fdY ["numbers", "bound"] []) (gY : mg "any_from" = some (.ref fY)) (GY : FnOk P w K mg base CX0 (k + 1) fY fdY ["numbers", "bound"] (spAny K))
    (FH : Fun K "how_far" "how_far" sFar fH fdH) (bH : Binds K fdH ["x", "y", "u", "v"] []) (gH : mg "how_far" = some (.ref fH)) (GH : FnOk P w K mg base CX0 (k + 1) fH fdH ["x", "y", "u", "v"] spFar)
    (ml : mg "len" = none) (mr : mg "range" = none) (mM : mg "MOST_FAR" = some (.int 4096 t1)) (mR : mg "OUT_OF_RANGE" = some (.int (-2) t2)) (mB : mg "FAR_PLACES_BELOW" = some (.int 65536 t3)) :
    FnOk P w K mg base CX0 (k + 2) f fd ["p", "q"] (spMain K) := by
  refine F.ok scMain (fun vs H Q E h => ?_) (fun cdv A outer s H vs Q E hr h => ?_)
  · obtain ⟨p, r, ns, ms, rfl, _⟩ := h
    rfl
  · obtain ⟨p, r, ns, ms, rfl, hS, hT, hU, hV, hn, hm, h2, h3, q⟩ := h
    refine ⟨_, pss_cons (ps_if (PW.pt (pw_or (pt_cmpR op_gt (pe_call GC hr (by rfl) gC FC.kp bC .nil pass0 (pa_cons (pv 0) pa_nil)) (pe_glob (v := .int 4096) (by rfl) mM ⟨_, rfl⟩) (nomark _))
          (pw_or (pt_val (pe_call GY hr (by rfl) gY FY.kp bY .nil pass0 (pa_cons (pv 0) (pa_cons (pe_glob (v := .int 65536) (by rfl) mB ⟨_, rfl⟩) pa_nil))))
          (pw_or1 (pt_val (pe_call GY hr (by rfl) gY FY.kp bY .nil pass0 (pa_cons (pv 1) (pa_cons (pe_glob (v := .int 65536) (by rfl) mB ⟨_, rfl⟩) pa_nil))))))))
        (pss_one (ps_ret (pe_lst (pa_cons (pe_glob (v := .int (-2)) (by rfl) mR ⟨_, rfl⟩) pa_nil)))) pss_nil)
      (pss_one (ps_ret (pe_op op_cat (pe_lst (pa_cons pe_int pa_nil))
        (pe_lc (own := [("k", 2)]) (g := gName 2) (tt := tYes) (by rfl) scMain.nd (pi_range3 (by rfl) mr (pa_cons pe_int (pa_cons (pe_callB call_len_seq (by rfl) ml PySem.boot_len (pa_cons (pv 0) pa_nil)) (pa_cons pe_int pa_nil))))
          (blkOk_by (own := [("k", 2)]) (N := ["p", "q", "k"]) (sc := defScope sMain) (by decide +kernel))
          (fun _ _ _ _ _ => pg_name (i := 2) scMain.nd rfl (Or.inl rfl)) (fun _ _ _ _ _ => pts_nil)
          (fun _ _ _ _ _ => pe_call GH hr (by rfl) gH FH.kp bH .nil pass0 (pa_cons (pe_ix (r := rIxL K) ix_list (pv 0) (pv 2) (fun _ _ => rfl)) (pa_cons (pe_ix (r := rIxL K) ix_list (pv 0) (pe_op op_add (pv 2) pe_int) (fun _ _ => rfl))
            (pa_cons (pe_ix (r := rIxL K) ix_list (pv 1) (pv 2) (fun _ _ => rfl)) (pa_cons (pe_ix (r := rIxL K) ix_list (pv 1) (pe_op op_add (pv 2) pe_int) (fun _ _ => rfl)) pa_nil))))))))), ?_⟩
    refine ⟨_, rfl, p, ns, rfl, hS, _, _, rfl, rfl, _, rfl, ite2 (fun c => ?_) (fun c1 => ?_)⟩
    · have c := of_decide_eq_true c
      exact ⟨by show 1 ≤ sizeLine; decide, fun v nv => q _ v (by rw [upd_same, far_bad (by omega)]; rfl)⟩
    have c1 : ¬ (4096 : Int) < ((ns.length / 2 : Nat) : Int) := fun z => c1 (decide_eq_true z)
    have no : ∀ {l : List Int}, Up 65536 l → ¬ (l.any fun x => decide (65536 ≤ x)) = true := fun u z => by
      obtain ⟨x, hx, hz⟩ := List.any_eq_true.mp z
      have := of_decide_eq_true hz
      have := u x hx
      omega
    refine ⟨_, rfl, p, ns, 65536, rfl, hS, by omega, fun H1 s1 => ⟨_, rfl, ite2 (fun c => absurd c (no hU)) (fun _ => ?_)⟩⟩
    refine ⟨_, rfl, r, ms, 65536, rfl, s1.seq hT, by omega, fun H2 s2' => ⟨_, rfl, ite2 (fun c => absurd c (no hV)) (fun _ => ?_)⟩⟩
    have s2 := s1.trans s2'
    have due := far_told hU.pos hV.pos h2 h3 (by omega)
    refine ⟨by show 1 ≤ sizeLine; decide, fun l nl => ?_⟩
    have s3 := s2.trans (same_upd (o := .lst [.int 0]) nl)
    have hl : upd H2 l (.lst [.int 0]) l = some (.lst [.int 0]) := upd_same
    generalize upd H2 l (.lst [.int 0]) = H3 at *
    refine ⟨_, rfl, p, _, rfl, .inl (s3.seq hS), 0, ((ns.length : Nat) : Int), 2, ns.length / 2, by rw [List.length_map], two_span (by omega) (by omega), fun D nD => ?_⟩
    refine lc_span (start := 0) (by_ := 2) (turns := ns.length / 2) (fun i H' => Same H3 H' ∧ H' D = some (.lst (((List.range i).map (farAt ns ms)).map V.int))) ⟨same_upd nD, upd_same⟩ (fun i H' hi h => ?_) (fun H' h => ?_)
    · obtain ⟨sm, hD⟩ := h
      have b0 := hU.at (i := 2 * i) (by omega)
      have b1 := hU.at (i := 2 * i + 1) (by omega)
      have b2 := hV.at (i := 2 * i) (by omega)
      have b3 := hV.at (i := 2 * i + 1) (by omega)
      have sP := (s3.trans sm).seq hS
      have sR := (s3.trans sm).seq hT
      refine ⟨rfl, ?_⟩
      refine ⟨_, rfl, _, rfl, p, _, _, _, rfl, rfl, sP, at_map (i := 2 * i) (by omega) (by omega), ?_⟩
      refine ⟨_, rfl, _, rfl, _, _, rfl, rfl, p, _, _, _, rfl, rfl, sP, at_map (i := 2 * i + 1) (by omega) (by omega), ?_⟩
      refine ⟨_, rfl, _, rfl, r, _, _, _, rfl, rfl, sR, at_map (i := 2 * i) (by omega) (by omega), ?_⟩
      refine ⟨_, rfl, _, rfl, _, _, rfl, rfl, r, _, _, _, rfl, rfl, sR, at_map (i := 2 * i + 1) (by omega) (by omega), ?_⟩
      refine ⟨_, _, _, _, rfl, ⟨by omega, by omega⟩, ⟨by omega, by omega⟩, _, hD, ?_, ?_, ?_⟩
      · rw [List.length_map, List.length_map, List.length_range]
        exact Nat.lt_of_lt_of_le hi (Nat.le_trans (show ns.length / 2 ≤ 4150 by omega) (by decide))
      · intro b o e
        rw [upd_ne (ne_of_none e nD)]
        exact sm b o e
      · rw [upd_same, List.range_succ, List.map_append, List.map_append]
        rfl
    · obtain ⟨sm, hD⟩ := h
      refine ⟨l, D, _, _, rfl, rfl, sm _ _ hl, hD, ?_, fun v nv => q _ v ?_⟩
      · rw [List.length_map, List.length_map, List.length_range]
        show 1 + ns.length / 2 ≤ 16777216
        omega
      · rw [upd_same, due]
        rfl
end
/-! ### what the top has written -/
theorem all_mk {P : Program} {w : World} {K : PySem.W.Frag} {h : Heap} {mg : Str → Option Value} {fa f0 f1 f2 f3 : Addr} (X : K.In h) (G : h.Ns mainGlobals mg) (hfa : mg "tm_far" = some (.ref fa))
    {od0 an0 od1 an1 od2 an2 od3 an3 : Option Addr} {sl0 sl1 sl2 sl3 : Array (Option Value)} {oc0 kV0 dc0 pm0 cd0 ct0 oc1 kV1 dc1 pm1 cd1 ct1 oc2 kV2 dc2 pm2 cd2 ct2 oc3 kV3 dc3 pm3 cd3 ct3 : Value} {t0 t1 t2 : Tok}
    (a0 : PySem.W.nsIn K mainGlobals "tm_far" = some (some (.ref f0))) (l0 : K.lookup f0 = some ⟨oc0, od0, .func (PySem.W.fnOf "tm_far" "tm_far" (defArgs sMain) (defBody sMain) (defScope sMain) .none kV0 dc0 pm0 an0 cd0 ct0), sl0⟩) (c0 : PySem.W.codeIn K cd0 "tm_far" = true) (k0 : PySem.W.keepIn K (.ref f0) = true)
    (a1 : PySem.W.nsIn K mainGlobals "place_count" = some (some (.ref f1))) (l1 : K.lookup f1 = some ⟨oc1, od1, .func (PySem.W.fnOf "place_count" "place_count" (defArgs sCount) (defBody sCount) (defScope sCount) .none kV1 dc1 pm1 an1 cd1 ct1), sl1⟩) (c1 : PySem.W.codeIn K cd1 "place_count" = true) (k1 : PySem.W.keepIn K (.ref f1) = true)
    (a2 : PySem.W.nsIn K mainGlobals "any_from" = some (some (.ref f2))) (l2 : K.lookup f2 = some ⟨oc2, od2, .func (PySem.W.fnOf "any_from" "any_from" (defArgs sAny) (defBody sAny) (defScope sAny) .none kV2 dc2 pm2 an2 cd2 ct2), sl2⟩) (c2 : PySem.W.codeIn K cd2 "any_from" = true) (k2 : PySem.W.keepIn K (.ref f2) = true)
    (a3 : PySem.W.nsIn K mainGlobals "how_far" = some (some (.ref f3))) (l3 : K.lookup f3 = some ⟨oc3, od3, .func (PySem.W.fnOf "how_far" "how_far" (defArgs sFar) (defBody sFar) (defScope sFar) .none kV3 dc3 pm3 an3 cd3 ct3), sl3⟩) (c3 : PySem.W.codeIn K cd3 "how_far" = true) (k3 : PySem.W.keepIn K (.ref f3) = true)
    (z0 : PySem.W.nsIn K mainGlobals "len" = some none)
    (z1 : PySem.W.nsIn K mainGlobals "any" = some none)
    (z2 : PySem.W.nsIn K mainGlobals "range" = some none)
    (y0 : PySem.W.nsIn K mainGlobals "FAR_PLACES_BELOW" = some (some (.int 65536 t0)))
    (y1 : PySem.W.nsIn K mainGlobals "MOST_FAR" = some (some (.int 4096 t1)))
    (y2 : PySem.W.nsIn K mainGlobals "OUT_OF_RANGE" = some (some (.int (-2) t2))) :
    ∃ fd : FuncData, (∀ (s : Shared) (us : List Value), us.length = (["p", "q"] : List Str).length → BindsTo s fd ⟨us, []⟩ ((["p", "q"] : List Str).zip us)) ∧ ∀ base : Heap, K.In base → base.Ns mainGlobals mg → FnOk P w K mg base CX0 2 fa fd ["p", "q"] (spMain K) := by
  have e := hfa.symm.trans (PySem.W.mg_of X G a0)
  cases e
  have F0 := fun_mk (st := sMain) l0 c0 k0
  have F1 := fun_mk (st := sCount) l1 c1 k1
  have F2 := fun_mk (st := sAny) l2 c2 k2
  have F3 := fun_mk (st := sFar) l3 c3 k3
  have b1 := F1.binds (ps := ["places"]) fun _ _ _ _ _ _ us hl => match us, hl with | [_], _ => rfl
  have g1 := PySem.W.mg_of X G a1
  have b2 := F2.binds (ps := ["numbers", "bound"]) fun _ _ _ _ _ _ us hl => match us, hl with | [_, _], _ => rfl
  have g2 := PySem.W.mg_of X G a2
  have b3 := F3.binds (ps := ["x", "y", "u", "v"]) fun _ _ _ _ _ _ us hl => match us, hl with | [_, _, _, _], _ => rfl
  have g3 := PySem.W.mg_of X G a3
  have m_len := PySem.W.mg_none_of X G z0
  have m_any := PySem.W.mg_none_of X G z1
  have m_range := PySem.W.mg_none_of X G z2
  have m_FAR_PLACES_BELOW := PySem.W.mg_of X G y0
  have m_MOST_FAR := PySem.W.mg_of X G y1
  have m_OUT_OF_RANGE := PySem.W.mg_of X G y2
  refine ⟨PySem.W.fnOf "tm_far" "tm_far" (defArgs sMain) (defBody sMain) (defScope sMain) .none kV0 dc0 pm0 an0 cd0 ct0, fun s us hu => match us, hu with | [_, _], _ => .of_eq rfl, fun base _ _ => ?_⟩
  have GN : FnOk P w K mg base CX0 1 _ _ ["places"] (spCount K) := ok_count F1 m_len
  have GY : FnOk P w K mg base CX0 1 _ _ ["numbers", "bound"] (spAny K) := ok_any F2 m_any
  have GH : FnOk P w K mg base CX0 1 _ _ ["x", "y", "u", "v"] spFar := ok_far F3
  exact ok_main (k := 0) F0 F1 b1 g1 GN F2 b2 g2 GY F3 b3 g3 GH m_len m_range m_MOST_FAR m_OUT_OF_RANGE m_FAR_PLACES_BELOW
end Tm
open PySem PySem.W PyProof.Rows
set_option maxRecDepth 100000 in
set_option maxHeartbeats 8000000 in
theorem PySem.Challenge.cw_skymatch_s09_tm_far_holds : PySem.Challenge.rw_skymatch_s09_tm_far.Holds := by
  w_on; k_headS; (case hw => exact ⟨[.list [], .list []], by decide +kernel, by decide +kernel⟩)
  k_fillS
  refine L2.walk_specK (r := PySem.Challenge.rw_skymatch_s09_tm_far) (k := 2) (CX := L2.CX0) (ps := ["p", "q"]) (sp := Tm.spMain) (by decide +kernel) rfl rfl ⟨rfl, by decide, by decide⟩ (fun w h Y => PySem.W.kIn_of Y) ?F ?S (fun _ _ _ _ z => z)
  case F =>
    intro w mg fa h Y KX G hmg
    refine' Tm.all_mk KX G hmg ?a0 ?l0 ?c0 ?k0 ?a1 ?l1 ?c1 ?k1 ?a2 ?l2 ?c2 ?k2 ?a3 ?l3 ?c3 ?k3 ?z0 ?z1 ?z2 ?y0 ?y1 ?y2
    (case a0 => k_is)
    (case l0 => k_is)
    (case c0 => k_is)
    (case k0 => k_is)
    (case a1 => k_is)
    (case l1 => k_is)
    (case c1 => k_is)
    (case k1 => k_is)
    (case a2 => k_is)
    (case l2 => k_is)
    (case c2 => k_is)
    (case k2 => k_is)
    (case a3 => k_is)
    (case l3 => k_is)
    (case c3 => k_is)
    (case k3 => k_is)
    (case z0 => k_is)
    (case z1 => k_is)
    (case z2 => k_is)
    (case y0 => k_is)
    (case y1 => k_is)
    (case y2 => k_is)
  case S =>
    intro K H xs a hO hwi hask hx
    obtain ⟨ns, ms, u⟩ := a
    cases hx with
    | cons h1 hx =>
      cases hx with
      | cons h2 hx =>
        cases hx
        cases h1 with
        | lst hs ha =>
          cases h2 with
          | lst ht hb =>
            have e1 := L2.ints_dw ns _ ha
            have e2 := L2.ints_dw ms _ hb
            subst e1 e2
            have q : ((Codec.inLen 0 8300 ns && ns.all (Codec.inInt 0 65535)) && ((Codec.inLen 0 8300 ms && ms.all (Codec.inInt 0 65535)) && true)) = true := hwi
            simp only [Bool.and_eq_true] at q
            obtain ⟨⟨q1, q2⟩, ⟨q3, q4⟩, _⟩ := q
            have ask := Tm.far_asked hask
            refine ⟨_, _, ns, ms, rfl, hs, ht, fun x hx => ?_, fun x hx => ?_, (Codec.inNat_iff.mp q1).2, (Codec.inNat_iff.mp q3).2, ask.1, ask.2, fun H' p hp => .lst (L2.SqL.of hp) (L2.dw_ints _)⟩
            · have z := Codec.inInt_iff.mp (List.all_eq_true.mp q2 x hx)
              omega
            · have z := Codec.inInt_iff.mp (List.all_eq_true.mp q4 x hx)
              omega

