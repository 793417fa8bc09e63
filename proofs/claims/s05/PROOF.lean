import PyProof.Rows.All
import Wide.All
import OpenK.AllK
import Wide.FinOn
import HandS.List
import PyProof.SliceList
import Open.SpecLaws
import KE.OsGo
import HandS.Spec
import HandS.WordsList
import HandS.Comp
import HandS.SortRule
import HandS.Wide
import PySem.Challenge.RW_skymatch_s05_tm_fit
set_option Elab.async false
set_option linter.all false
set_option maxRecDepth 100000
set_option maxHeartbeats 4000000
namespace Tm
open Sh68 Sh68Neutral

/-! ### the pictures' numbers -/
def at_ (ns : List Int) (i : Nat) : Int := ns.getD i 0
def dst (ns : List Int) (i j : Nat) : Int :=
  (at_ ns (2 * i) - at_ ns (2 * j)) * (at_ ns (2 * i) - at_ ns (2 * j)) + (at_ ns (2 * i + 1) - at_ ns (2 * j + 1)) * (at_ ns (2 * i + 1) - at_ ns (2 * j + 1))
def trn (ns : List Int) (a b c : Nat) : Int :=
  (at_ ns (2 * b) - at_ ns (2 * a)) * (at_ ns (2 * c + 1) - at_ ns (2 * a + 1)) - (at_ ns (2 * b + 1) - at_ ns (2 * a + 1)) * (at_ ns (2 * c) - at_ ns (2 * a))
/-- the stars of a picture -/
def stars (ns : List Int) : List Pt := ptsOf (nats ns)

theorem nats_len (ns : List Int) : (nats ns).length = ns.length := by unfold nats; rw [List.length_map]
theorem stars_len (ns : List Int) : (stars ns).length = ns.length / 2 := by
  unfold stars ptsOf; rw [List.length_map, List.length_range, nats_len]
theorem at_get {ns : List Int} {i : Nat} (h : i < ns.length) : at_ ns i = ns[i] := by
  unfold at_; rw [List.getD_eq_getElem?_getD, List.getElem?_eq_getElem h]; rfl
theorem num_at {ns : List Int} (hp : ∀ x ∈ ns, 0 ≤ x) {i : Nat} (h : i < ns.length) : ((num (nats ns) i : Nat) : Int) = at_ ns i := by
  rw [at_get h]
  unfold num nats
  rw [List.getD_eq_getElem?_getD, List.getElem?_map, List.getElem?_eq_getElem h]
  show ((ns[i].toNat : Nat) : Int) = ns[i]
  exact Int.toNat_of_nonneg (hp _ (List.getElem_mem h))
theorem pt_stars {ns : List Int} (hp : ∀ x ∈ ns, 0 ≤ x) {i : Nat} (h : 2 * i + 1 < ns.length) : pt (stars ns) i = (at_ ns (2 * i), at_ ns (2 * i + 1)) := by
  have hi : i < ns.length / 2 := by omega
  unfold pt stars ptsOf
  rw [List.getD_eq_getElem?_getD, List.getElem?_map, List.getElem?_range (by rw [nats_len]; exact hi)]
  show ((((num (nats ns) (2 * i) : Nat) : Int)), (((num (nats ns) (2 * i + 1) : Nat) : Int))) = _
  rw [num_at hp (by omega), num_at hp h]
theorem square_is (z : Int) : ((square z : Nat) : Int) = z * z := by
  unfold square
  refine Int.toNat_of_nonneg ?_
  rcases Int.le_total 0 z with h | h
  · exact Int.mul_nonneg h h
  · exact Int.mul_nonneg_of_nonpos_of_nonpos h h
theorem dist_is {ns : List Int} (hp : ∀ x ∈ ns, 0 ≤ x) {i j : Nat} (hi : 2 * i + 1 < ns.length) (hj : 2 * j + 1 < ns.length) : ((dist2 (pt (stars ns) i) (pt (stars ns) j) : Nat) : Int) = dst ns i j := by
  rw [pt_stars hp hi, pt_stars hp hj]
  show ((square (at_ ns (2 * i) - at_ ns (2 * j)) + square (at_ ns (2 * i + 1) - at_ ns (2 * j + 1)) : Nat) : Int) = _
  rw [Int.natCast_add, square_is, square_is]
  rfl
theorem turn_is {ns : List Int} (hp : ∀ x ∈ ns, 0 ≤ x) {a b c : Nat} (ha : 2 * a + 1 < ns.length) (hb : 2 * b + 1 < ns.length) (hc : 2 * c + 1 < ns.length) : turn (pt (stars ns) a) (pt (stars ns) b) (pt (stars ns) c) = trn ns a b c := by
  rw [pt_stars hp ha, pt_stars hp hb, pt_stars hp hc]
  rfl
/-! ### one triangle, by its sides in order -/
theorem two_same (a b : List Int) (h : a.Perm b) (ha : a.Pairwise (fun x y => y ≤ x)) (hb : b.Pairwise (fun x y => y ≤ x)) : a = b :=
  h.eq_of_pairwise (fun x y _ _ h1 h2 => Int.le_antisymm h2 h1) ha hb
def ci (p : Nat × Nat) : Int × Int := ((p.1 : Int), (p.2 : Int))
def sidesOf (s : List Pt) (i j k : Nat) : List (Nat × Nat) := [(dist2 (pt s j) (pt s k), i), (dist2 (pt s i) (pt s k), j), (dist2 (pt s i) (pt s j), k)]
theorem three {α : Type} {l : List α} (h : l.length = 3) : ∃ x y z, l = [x, y, z] := by
  rcases l with _ | ⟨x, _ | ⟨y, _ | ⟨z, _ | ⟨u, t⟩⟩⟩⟩ <;> simp at h
  exact ⟨x, y, z, rfl⟩
theorem sorted_is (s : List Pt) (i j k : Nat) : ∃ x y z, (sidesOf s i j k).mergeSort (fun x y => decide (y.1 ≤ x.1)) = [x, y, z] ∧ y.1 ≤ x.1 ∧ z.1 ≤ y.1 ∧ [x, y, z].Perm (sidesOf s i j k) := by
  have hp := List.mergeSort_perm (sidesOf s i j k) (fun x y => decide (y.1 ≤ x.1))
  obtain ⟨x, y, z, e⟩ := three (l := (sidesOf s i j k).mergeSort (fun x y => decide (y.1 ≤ x.1))) (by rw [List.length_mergeSort]; rfl)
  have hs := List.pairwise_mergeSort (le := fun x y : Nat × Nat => decide (y.1 ≤ x.1)) (by intro a b c h1 h2; simp only [decide_eq_true_eq] at *; omega) (by intro a b; simp only [Bool.or_eq_true, decide_eq_true_eq]; omega) (sidesOf s i j k)
  rw [e] at hs hp
  refine ⟨x, y, z, e, ?_, ?_, hp⟩
  · have := (List.pairwise_cons.mp hs).1 y (by simp)
    simpa using this
  · have := (List.pairwise_cons.mp (List.pairwise_cons.mp hs).2).1 z (by simp)
    simpa using this
theorem tri_is {s : List Pt} {i j k : Nat} {q0 q1 q2 : Int × Int} (hq : [q0, q1, q2].Perm ((sidesOf s i j k).map ci)) (h01 : q0.1 ≤ q1.1) (h12 : q1.1 ≤ q2.1) :
    (q0.1 = q1.1 ∨ q1.1 = q2.1 → triOf s i j k = none) ∧
    (q0.1 ≠ q1.1 → q1.1 ≠ q2.1 → ∃ x y z : Nat × Nat, q2 = ci x ∧ q1 = ci y ∧ q0 = ci z ∧ (x ∈ sidesOf s i j k ∧ y ∈ sidesOf s i j k ∧ z ∈ sidesOf s i j k) ∧
      triOf s i j k = if turn (pt s x.2) (pt s y.2) (pt s z.2) = 0 then none else some ⟨x.2, y.2, z.2, 65536 * y.1 / x.1, 65536 * z.1 / x.1, decide (0 < turn (pt s x.2) (pt s y.2) (pt s z.2))⟩) := by
  obtain ⟨x, y, z, e, hyx, hzy, hp⟩ := sorted_is s i j k
  have ht : triOf s i j k = if x.1 = y.1 ∨ y.1 = z.1 ∨ turn (pt s x.2) (pt s y.2) (pt s z.2) = 0 then none else some ⟨x.2, y.2, z.2, 65536 * y.1 / x.1, 65536 * z.1 / x.1, decide (0 < turn (pt s x.2) (pt s y.2) (pt s z.2))⟩ := by
    unfold triOf
    show (match (sidesOf s i j k).mergeSort (fun x y => decide (y.1 ≤ x.1)) with
      | [x, y, z] => _
      | _ => none) = _
    rw [e]
  have hp2 : [q2, q1, q0].Perm ([x, y, z].map ci) := by
    have r : [q2, q1, q0] = [q0, q1, q2].reverse := rfl
    rw [r]
    exact (List.reverse_perm _).trans (hq.trans (hp.map ci).symm)
  have hf : [q2.1, q1.1, q0.1] = [(x.1 : Int), (y.1 : Int), (z.1 : Int)] := by
    refine two_same _ _ (hp2.map (f := fun p : Int × Int => p.1)) ?_ ?_
    · simp; omega
    · simp; omega
  simp only [List.cons.injEq, and_true] at hf
  obtain ⟨e2, e1, e0⟩ := hf
  refine ⟨fun h => ?_, fun n01 n12 => ?_⟩
  · rw [ht, if_pos]
    rcases h with h | h
    · exact .inr (.inl (by omega))
    · exact .inl (by omega)
  · have hx : q2 = ci x := by
      have m : q2 ∈ [x, y, z].map ci := hp2.subset (by simp)
      simp only [List.map_cons, List.map_nil, List.mem_cons, List.not_mem_nil, or_false] at m
      rcases m with m | m | m
      · exact m
      · exact absurd (congrArg Prod.fst m) (by show q2.1 ≠ (y.1 : Int); omega)
      · exact absurd (congrArg Prod.fst m) (by show q2.1 ≠ (z.1 : Int); omega)
    have hy : q1 = ci y := by
      have m : q1 ∈ [x, y, z].map ci := hp2.subset (by simp)
      simp only [List.map_cons, List.map_nil, List.mem_cons, List.not_mem_nil, or_false] at m
      rcases m with m | m | m
      · exact absurd (congrArg Prod.fst m) (by show q1.1 ≠ (x.1 : Int); omega)
      · exact m
      · exact absurd (congrArg Prod.fst m) (by show q1.1 ≠ (z.1 : Int); omega)
    have hz : q0 = ci z := by
      have m : q0 ∈ [x, y, z].map ci := hp2.subset (by simp)
      simp only [List.map_cons, List.map_nil, List.mem_cons, List.not_mem_nil, or_false] at m
      rcases m with m | m | m
      · exact absurd (congrArg Prod.fst m) (by show q0.1 ≠ (x.1 : Int); omega)
      · exact absurd (congrArg Prod.fst m) (by show q0.1 ≠ (y.1 : Int); omega)
      · exact m
    refine ⟨x, y, z, hx, hy, hz, ⟨hp.subset (by simp), hp.subset (by simp), hp.subset (by simp)⟩, ?_⟩
    rw [ht]
    have a1 : ¬ x.1 = y.1 := by omega
    have a2 : ¬ y.1 = z.1 := by omega
    simp only [a1, a2, false_or]
/-! ### all triangles, as the loops find them -/
def row3 (s : List Pt) (n i j : Nat) : List Tri := (List.range (n - (j + 1))).filterMap fun k => triOf s i j (j + 1 + k)
def row2 (s : List Pt) (n i : Nat) : List Tri := (List.range (n - (i + 1))).flatMap fun j => row3 s n i (i + 1 + j)
def row1 (s : List Pt) (n : Nat) : List Tri := (List.range n).flatMap fun i => row2 s n i
theorem range_split {n i : Nat} (h : i < n) : List.range n = List.range (i + 1) ++ (List.range (n - (i + 1))).map fun j => i + 1 + j := by
  have e : n = (i + 1) + (n - (i + 1)) := by omega
  conv => lhs; rw [e]
  rw [List.range_add]
theorem flat_above {α : Type} {n i : Nat} (F : Nat → List α) (h : i < n) : ((List.range n).flatMap fun j => if j ≤ i then [] else F j) = (List.range (n - (i + 1))).flatMap fun j => F (i + 1 + j) := by
  rw [range_split h, List.flatMap_append, List.flatMap_map]
  have e : ((List.range (i + 1)).flatMap fun j => if j ≤ i then [] else F j) = [] := by
    rw [List.flatMap_eq_nil_iff]
    intro j hj
    rw [if_pos (by have := List.mem_range.mp hj; omega)]
  rw [e, List.nil_append]
  congr 1
  funext j
  exact if_neg (by omega)
theorem filt_above {α : Type} {n i : Nat} (F : Nat → Option α) (h : i < n) : ((List.range n).filterMap fun j => if j ≤ i then none else F j) = (List.range (n - (i + 1))).filterMap fun j => F (i + 1 + j) := by
  rw [range_split h, List.filterMap_append, List.filterMap_map]
  have e : ((List.range (i + 1)).filterMap fun j => if j ≤ i then none else F j) = [] := by
    rw [List.filterMap_eq_nil_iff]
    intro j hj
    rw [if_pos (by have := List.mem_range.mp hj; omega)]
  rw [e, List.nil_append]
  congr 1
  funext j
  exact if_neg (by show ¬ i + 1 + j ≤ i; omega)
theorem flat_congr {α β : Type} : ∀ {l : List α} {f g : α → List β}, (∀ x ∈ l, f x = g x) → l.flatMap f = l.flatMap g
  | [], _, _, _ => rfl
  | x :: r, f, g, h => by
    rw [List.flatMap_cons, List.flatMap_cons, h x List.mem_cons_self, flat_congr fun y hy => h y (List.mem_cons_of_mem _ hy)]
theorem rows_are (s : List Pt) : triangles s = row1 s s.length := by
  unfold triangles row1
  refine flat_congr fun i hi => ?_
  have hi' := List.mem_range.mp hi
  rw [flat_above _ hi']
  unfold row2
  refine flat_congr fun j hj => ?_
  have hj' := List.mem_range.mp hj
  exact filt_above _ (by omega)
theorem flat_more {α : Type} (F : Nat → List α) (i : Nat) : (List.range (i + 1)).flatMap F = (List.range i).flatMap F ++ F i := by
  rw [List.range_succ, List.flatMap_append, List.flatMap_cons, List.flatMap_nil, List.append_nil]
theorem filt_more {α : Type} (F : Nat → Option α) (i : Nat) : (List.range (i + 1)).filterMap F = (List.range i).filterMap F ++ (F i).toList := by
  rw [List.range_succ, List.filterMap_append, List.filterMap_cons, List.filterMap_nil]
  cases F i <;> rfl
/-- how many there are at most -/
theorem flat_len {α : Type} {F : Nat → List α} {m : Nat} (h : ∀ i, (F i).length ≤ m) : ∀ n, ((List.range n).flatMap F).length ≤ n * m
  | 0 => by simp
  | n + 1 => by
    rw [flat_more, List.length_append]
    have := flat_len h n
    have := h n
    rw [Nat.succ_mul]
    omega
theorem row3_len (s : List Pt) (n i j : Nat) : (row3 s n i j).length ≤ n := by
  unfold row3
  refine Nat.le_trans (List.length_filterMap_le _ _) ?_
  rw [List.length_range]; omega
theorem row2_len (s : List Pt) (n i : Nat) : (row2 s n i).length ≤ n * n := by
  unfold row2
  refine Nat.le_trans (flat_len (fun j => row3_len s n i (i + 1 + j)) _) ?_
  exact Nat.mul_le_mul_right _ (by omega)
end Tm
namespace Tm
open Sh68 Sh68Neutral
/-! ### what is due -/
def ti (m : Tri) : List Int := [(m.a : Int), (m.b : Int), (m.c : Int), (m.u : Int), (m.v : Int), ((bit m.left : Nat) : Int)]
theorem small_is {ns : List Int} (hp : ∀ x ∈ ns, 0 ≤ x) : small (nats ns) = !(ns.any fun x => decide (8192 ≤ x)) := by
  unfold small nats
  rw [List.all_map, List.not_any_eq_all_not]
  have h : ∀ (l : List Int), (∀ x ∈ l, 0 ≤ x) → l.all ((fun a => decide (a < 8192)) ∘ fun z => z.toNat) = l.all fun x => !decide (8192 ≤ x) := by
    intro l
    induction l with
    | nil => intro _; rfl
    | cons x r ih =>
      intro h
      rw [List.all_cons, List.all_cons, ih fun y hy => h y (List.mem_cons_of_mem _ hy)]
      congr 1
      have hx := h x List.mem_cons_self
      show decide (x.toNat < 8192) = !decide (8192 ≤ x)
      by_cases c : 8192 ≤ x
      · rw [decide_eq_true c, decide_eq_false (by omega)]; rfl
      · rw [decide_eq_false c, decide_eq_true (by omega)]; rfl
  exact h ns hp
theorem few_is (ns : List Int) : few ((nats ns).length / 2) = decide (ns.length / 2 ≤ 24) := by
  rw [nats_len]; rfl
theorem ints_flat (L : List Tri) : Sh68Neutral.ints (L.flatMap triTold) = L.flatMap ti := by
  unfold Sh68Neutral.ints
  rw [List.map_flatMap]
  rfl
theorem tri_bad {ns : List Int} (h : ¬ ns.length / 2 ≤ 24) : PySh68.tm_triangles ns = [-2] := by
  show Sh68Neutral.told (answer (if few ((nats ns).length / 2) = true then Sh68.Call.triangles (nats ns) else Sh68.Call.bad)) = [-2]
  rw [few_is, decide_eq_false h]
  rfl
theorem tri_off {ns : List Int} (hp : ∀ x ∈ ns, 0 ≤ x) (h : ns.length / 2 ≤ 24) (ho : (ns.any fun x => decide (8192 ≤ x)) = true) : PySh68.tm_triangles ns = [-3] := by
  show Sh68Neutral.told (answer (if few ((nats ns).length / 2) = true then Sh68.Call.triangles (nats ns) else Sh68.Call.bad)) = [-3]
  rw [few_is, decide_eq_true h, if_pos rfl]
  show Sh68Neutral.told (if small (nats ns) = false then _ else _) = _
  rw [small_is hp, ho, if_pos (by decide)]
  rfl
theorem tri_due {ns : List Int} (hp : ∀ x ∈ ns, 0 ≤ x) (h : ns.length / 2 ≤ 24) (ho : (ns.any fun x => decide (8192 ≤ x)) = false) : PySh68.tm_triangles ns = ((triangles (stars ns)).length : Int) :: (triangles (stars ns)).flatMap ti := by
  show Sh68Neutral.told (answer (if few ((nats ns).length / 2) = true then Sh68.Call.triangles (nats ns) else Sh68.Call.bad)) = _
  rw [few_is, decide_eq_true h, if_pos rfl]
  show Sh68Neutral.told (if small (nats ns) = false then fail (-3) else many (triangles (stars ns)).length [(triangles (stars ns)).flatMap triTold]) = _
  rw [small_is hp, ho, if_neg (by decide)]
  show ((triangles (stars ns)).length : Int) :: Sh68Neutral.ints ((triangles (stars ns)).flatMap triTold) = _
  rw [ints_flat]
end Tm

namespace Tm
open Sh68 Sh68Neutral
/-! ### a triangle's corners -/
theorem tri_corners {s : List Pt} {i j k : Nat} {m : Tri} (h : triOf s i j k = some m) : [m.a, m.b, m.c].Perm [i, j, k] := by
  obtain ⟨x, y, z, e, hyx, hzy, hp⟩ := sorted_is s i j k
  have ht : triOf s i j k = if x.1 = y.1 ∨ y.1 = z.1 ∨ turn (pt s x.2) (pt s y.2) (pt s z.2) = 0 then none else some ⟨x.2, y.2, z.2, 65536 * y.1 / x.1, 65536 * z.1 / x.1, decide (0 < turn (pt s x.2) (pt s y.2) (pt s z.2))⟩ := by
    unfold triOf
    show (match (sidesOf s i j k).mergeSort (fun x y => decide (y.1 ≤ x.1)) with
      | [x, y, z] => _
      | _ => none) = _
    rw [e]
  rw [ht] at h
  split at h
  · cases h
  · cases h
    exact hp.map (f := fun p : Nat × Nat => p.2)
structure Corners (n : Nat) (m : Tri) : Prop where
  a : m.a < n
  b : m.b < n
  c : m.c < n
  ab : m.a ≠ m.b
  ac : m.a ≠ m.c
  bc : m.b ≠ m.c
theorem corners {s : List Pt} {m : Tri} (h : m ∈ triangles s) : Corners s.length m := by
  unfold triangles at h
  obtain ⟨i, hi, h⟩ := List.mem_flatMap.mp h
  obtain ⟨j, hj, h⟩ := List.mem_flatMap.mp h
  have hi := List.mem_range.mp hi
  have hj := List.mem_range.mp hj
  by_cases c : j ≤ i
  · rw [if_pos c] at h
    cases h
  rw [if_neg c] at h
  obtain ⟨k, hk, h⟩ := List.mem_filterMap.mp h
  have hk := List.mem_range.mp hk
  by_cases c2 : k ≤ j
  · rw [if_pos c2] at h
    cases h
  rw [if_neg c2] at h
  have hp := tri_corners h
  have nd : [m.a, m.b, m.c].Nodup := hp.symm.nodup (by simp; omega)
  have lt : ∀ v ∈ [m.a, m.b, m.c], v < s.length := fun v hv => by
    have z := hp.subset hv
    simp only [List.mem_cons, List.not_mem_nil, or_false] at z
    omega
  simp only [List.nodup_cons, List.mem_cons, List.not_mem_nil, or_false, not_or] at nd
  exact ⟨lt _ (by simp), lt _ (by simp), lt _ (by simp), nd.1.1, nd.1.2, nd.2.1⟩
/-! ### alike, as the program asks -/
def absI (i : Int) : Int := if i < 0 then -i else i
theorem bit_is (x y : Bool) : decide (((bit y : Nat) : Int) = ((bit x : Nat) : Int)) = (x == y) := by
  cases x <;> cases y <;> rfl
theorem apart_is (e : Int) (he : 0 ≤ e) (a b : Nat) : decide (absI ((b : Int) - (a : Int)) ≤ e) = decide (apart a b ≤ e.toNat) := by
  unfold absI apart
  have h : ((if (b : Int) - (a : Int) < 0 then -((b : Int) - (a : Int)) else (b : Int) - (a : Int)) ≤ e) ↔ (max a b - min a b ≤ e.toNat) := by
    split <;> omega
  by_cases c : max a b - min a b ≤ e.toNat
  · rw [decide_eq_true c, decide_eq_true (h.mpr c)]
  · rw [decide_eq_false c, decide_eq_false (fun z => c (h.mp z))]
theorem alike_is {e : Int} (he : 0 ≤ e) (x y : Tri) : alike e.toNat x y = (decide (((bit y.left : Nat) : Int) = ((bit x.left : Nat) : Int)) && (decide (absI ((y.u : Int) - (x.u : Int)) ≤ e) && decide (absI ((y.v : Int) - (x.v : Int)) ≤ e))) := by
  rw [bit_is, apart_is e he, apart_is e he]
  rfl
/-! ### votes, as they are counted -/
def cells (w : Nat) (x y : Tri) : List Nat := [x.a * w + y.a, x.b * w + y.b, x.c * w + y.c]
def hitsIn (w e : Nat) (q : List Tri) (x : Tri) : List Nat := (q.filter fun y => alike e x y).flatMap fun y => cells w x y
def hitsOf (w e : Nat) (p q : List Tri) : List Nat := p.flatMap fun x => hitsIn w e q x
def tally (n : Nat) (h : List Nat) : List Int := (List.range n).map fun k => ((h.count k : Nat) : Int)
theorem tally_len (n : Nat) (h : List Nat) : (tally n h).length = n := by
  unfold tally; rw [List.length_map, List.length_range]
theorem tally_get {n k : Nat} (h : List Nat) (hk : k < n) : (tally n h)[k]? = some ((h.count k : Nat) : Int) := by
  unfold tally
  rw [List.getElem?_map, List.getElem?_range hk]
  rfl
theorem tally_set {n k : Nat} (h : List Nat) (hk : k < n) : (tally n h).set k (((h.count k : Nat) : Int) + 1) = tally n (h ++ [k]) := by
  refine List.ext_getElem? fun i => ?_
  rw [List.getElem?_set, tally_len]
  by_cases c : k = i
  · subst c
    rw [if_pos rfl, if_pos hk, tally_get _ hk, List.count_append, List.count_singleton_self]
    rfl
  · rw [if_neg c]
    by_cases hi : i < n
    · rw [tally_get _ hi, tally_get _ hi, List.count_append]
      have z : List.count i [k] = 0 := by
        rw [List.count_eq_zero]
        simp; omega
      rw [z, Nat.add_zero]
    · rw [List.getElem?_eq_none (by rw [tally_len]; omega), List.getElem?_eq_none (by rw [tally_len]; omega)]
theorem tally_nil (n : Nat) : tally n [] = List.replicate n 0 := by
  unfold tally
  refine List.eq_replicate_iff.mpr ⟨by rw [List.length_map, List.length_range], fun b hb => ?_⟩
  obtain ⟨k, _, rfl⟩ := List.mem_map.mp hb
  rfl
theorem range_rows {α : Type} (f : Nat → α) (m : Nat) : ∀ n, (List.range (n * m)).map f = (List.range n).flatMap fun i => (List.range m).map fun j => f (i * m + j)
  | 0 => by simp
  | n + 1 => by
    rw [Nat.succ_mul, List.range_add, List.map_append, range_rows f m n, flat_more, List.map_map]
    rfl
theorem count_if {α : Type} (P : α → Bool) : ∀ l : List α, (l.map fun y => if P y = true then 1 else 0).sum = (l.filter P).length
  | [] => rfl
  | y :: r => by
    rw [List.map_cons, List.sum_cons, count_if P r, List.filter_cons]
    by_cases c : P y = true
    · rw [if_pos c, if_pos c, List.length_cons, Nat.add_comm]
    · rw [if_neg c, if_neg c, Nat.zero_add]
theorem ix_inj {w a b i j : Nat} (hb : b < w) (hj : j < w) : a * w + b = i * w + j ↔ a = i ∧ b = j := by
  constructor
  · intro h
    have h1 : (a * w + b) / w = (i * w + j) / w := by rw [h]
    have hw : 0 < w := by omega
    rw [Nat.mul_comm a w, Nat.mul_comm i w, Nat.mul_add_div hw, Nat.mul_add_div hw, Nat.div_eq_of_lt hb, Nat.div_eq_of_lt hj, Nat.add_zero, Nat.add_zero] at h1
    subst h1
    omega
  · rintro ⟨rfl, rfl⟩
    rfl
def same3 (i j : Nat) (x y : Tri) : Bool := (x.a == i && y.a == j) || ((x.b == i && y.b == j) || (x.c == i && y.c == j))
theorem cells_count {n m i j : Nat} {x y : Tri} (hx : Corners n x) (hy : Corners m y) (hj : j < m) : (cells m x y).count (i * m + j) = if same3 i j x y = true then 1 else 0 := by
  unfold cells same3
  simp only [List.count_cons, List.count_nil, beq_iff_eq, ix_inj hy.a hj, ix_inj hy.b hj, ix_inj hy.c hj, Bool.or_eq_true, Bool.and_eq_true]
  have h1 := hx.ab
  have h2 := hx.ac
  have h3 := hx.bc
  by_cases ca : x.a = i ∧ y.a = j
  · have cb : ¬ (x.b = i ∧ y.b = j) := fun z => h1 (ca.1.trans z.1.symm)
    have cc : ¬ (x.c = i ∧ y.c = j) := fun z => h2 (ca.1.trans z.1.symm)
    rw [if_neg cc, if_neg cb, if_pos ca, if_pos (.inl ca)]
  · by_cases cb : x.b = i ∧ y.b = j
    · have cc : ¬ (x.c = i ∧ y.c = j) := fun z => h3 (cb.1.trans z.1.symm)
      rw [if_neg cc, if_pos cb, if_neg ca, if_pos (.inr (.inl cb))]
    · by_cases cc : x.c = i ∧ y.c = j
      · rw [if_pos cc, if_neg cb, if_neg ca, if_pos (.inr (.inr cc))]
      · rw [if_neg cc, if_neg cb, if_neg ca, if_neg (fun z => z.elim ca fun z => z.elim cb cc)]
theorem sum_congr {α : Type} {f g : α → Nat} : ∀ {l : List α}, (∀ x ∈ l, f x = g x) → (l.map f).sum = (l.map g).sum := fun {l} h => by
  rw [List.map_congr_left h]
theorem votes_is {e n m : Nat} {p q : List Tri} (hp : ∀ x ∈ p, Corners n x) (hq : ∀ y ∈ q, Corners m y) : tally (n * m) (hitsOf m e p q) = Sh68Neutral.ints (votes e n m p q) := by
  unfold tally Sh68Neutral.ints votes
  rw [range_rows, List.map_flatMap]
  refine flat_congr fun i hi => ?_
  rw [List.map_map]
  refine List.map_congr_left fun j hj => ?_
  have hj := List.mem_range.mp hj
  show (((hitsOf m e p q).count (i * m + j) : Nat) : Int) = (((p.map fun x => (q.filter fun y => alike e x y && same3 i j x y).length).sum : Nat) : Int)
  congr 1
  unfold hitsOf
  rw [List.count_flatMap]
  refine sum_congr fun x hx => ?_
  show (hitsIn m e q x).count (i * m + j) = _
  unfold hitsIn
  rw [List.count_flatMap]
  have z : ((q.filter fun y => alike e x y).map (List.count (i * m + j) ∘ fun y => cells m x y)).sum = ((q.filter fun y => alike e x y).map fun y => if same3 i j x y = true then 1 else 0).sum :=
    sum_congr fun y hy => cells_count (hp x hx) (hq y (List.mem_filter.mp hy).1) hj
  rw [z, count_if (fun y => same3 i j x y), List.filter_filter]
  congr 2
  funext y
  exact Bool.and_comm _ _
/-! ### what is due -/
theorem votes_bad {e : Int} {ns ms : List Int} (h : ¬ (ns.length / 2 ≤ 24 ∧ ms.length / 2 ≤ 24 ∧ e.toNat ≤ 65536)) : PySh68.tm_votes e ns ms = [-2] := by
  show Sh68Neutral.told (answer (if (few ((nats ns).length / 2) && (few ((nats ms).length / 2) && decide (e.toNat ≤ 65536))) = true then Sh68.Call.votes e.toNat (nats ns) (nats ms) else Sh68.Call.bad)) = [-2]
  rw [few_is, few_is, if_neg (by simp only [Bool.and_eq_true, decide_eq_true_eq]; exact h)]
  rfl
theorem votes_off {e : Int} {ns ms : List Int} (hp : ∀ x ∈ ns, 0 ≤ x) (hq : ∀ x ∈ ms, 0 ≤ x) (h : ns.length / 2 ≤ 24 ∧ ms.length / 2 ≤ 24 ∧ e.toNat ≤ 65536)
    (ho : (ns.any fun x => decide (8192 ≤ x)) = true ∨ (ms.any fun x => decide (8192 ≤ x)) = true) : PySh68.tm_votes e ns ms = [-3] := by
  show Sh68Neutral.told (answer (if (few ((nats ns).length / 2) && (few ((nats ms).length / 2) && decide (e.toNat ≤ 65536))) = true then Sh68.Call.votes e.toNat (nats ns) (nats ms) else Sh68.Call.bad)) = [-3]
  rw [few_is, few_is, if_pos (by simp only [Bool.and_eq_true, decide_eq_true_eq]; exact h)]
  show Sh68Neutral.told (if small (nats ns) = false ∨ small (nats ms) = false then _ else _) = _
  rw [small_is hp, small_is hq, if_pos (by rcases ho with z | z <;> rw [z] <;> simp)]
  rfl
theorem votes_due {e : Int} {ns ms : List Int} (hp : ∀ x ∈ ns, 0 ≤ x) (hq : ∀ x ∈ ms, 0 ≤ x) (h : ns.length / 2 ≤ 24 ∧ ms.length / 2 ≤ 24 ∧ e.toNat ≤ 65536)
    (h1 : (ns.any fun x => decide (8192 ≤ x)) = false) (h2 : (ms.any fun x => decide (8192 ≤ x)) = false) :
    PySh68.tm_votes e ns ms = 0 :: tally (ns.length / 2 * (ms.length / 2)) (hitsOf (ms.length / 2) e.toNat (triangles (stars ns)) (triangles (stars ms))) := by
  show Sh68Neutral.told (answer (if (few ((nats ns).length / 2) && (few ((nats ms).length / 2) && decide (e.toNat ≤ 65536))) = true then Sh68.Call.votes e.toNat (nats ns) (nats ms) else Sh68.Call.bad)) = _
  rw [few_is, few_is, if_pos (by simp only [Bool.and_eq_true, decide_eq_true_eq]; exact h)]
  show Sh68Neutral.told (if small (nats ns) = false ∨ small (nats ms) = false then fail (-3) else done [votes e.toNat ((nats ns).length / 2) ((nats ms).length / 2) (triangles (stars ns)) (triangles (stars ms))]) = _
  rw [small_is hp, small_is hq, h1, h2, if_neg (by simp), nats_len, nats_len]
  rw [votes_is (fun x hx => by rw [← stars_len]; exact corners hx) (fun y hy => by rw [← stars_len]; exact corners hy)]
  rfl
end Tm

namespace Tm
open Sh68 Sh68Neutral
/-! ### what is due, call by call -/
abbrev off (ns : List Int) : Bool := ns.any fun x => decide (8192 ≤ x)
/-- the pairs of a list -/
def prs (ps : List Int) : List (Pt × Pt) := pairsOf (nats ps)
theorem prs_len (ps : List Int) : (prs ps).length = ps.length / 4 := by
  unfold prs pairsOf
  rw [List.length_map, List.length_range, nats_len]
theorem prs_get {ps : List Int} (hp : ∀ x ∈ ps, 0 ≤ x) {i : Nat} (h : 4 * i + 3 < ps.length) : (prs ps)[i]? = some ((at_ ps (4 * i), at_ ps (4 * i + 1)), (at_ ps (4 * i + 2), at_ ps (4 * i + 3))) := by
  unfold prs pairsOf
  rw [List.getElem?_map, List.getElem?_range (by rw [nats_len]; omega)]
  show some ((((num (nats ps) (4 * i) : Nat) : Int), ((num (nats ps) (4 * i + 1) : Nat) : Int)), (((num (nats ps) (4 * i + 2) : Nat) : Int), ((num (nats ps) (4 * i + 3) : Nat) : Int))) = _
  rw [num_at hp (by omega), num_at hp (by omega), num_at hp (by omega), num_at hp h]
theorem stars_get {ns : List Int} (hp : ∀ x ∈ ns, 0 ≤ x) {i : Nat} (h : 2 * i + 1 < ns.length) : (stars ns)[i]? = some (at_ ns (2 * i), at_ ns (2 * i + 1)) := by
  unfold stars ptsOf
  rw [List.getElem?_map, List.getElem?_range (by rw [nats_len]; omega)]
  show some (((num (nats ns) (2 * i) : Nat) : Int), ((num (nats ns) (2 * i + 1) : Nat) : Int)) = _
  rw [num_at hp (by omega), num_at hp h]
theorem sum_is (l : List Int) : Sh68.sum l = l.sum := rfl
theorem sum_more {α : Type} {f : α → Int} {l : List α} {i : Nat} {x : α} (h : l[i]? = some x) : ((l.take (i + 1)).map f).sum = ((l.take i).map f).sum + f x := by
  rw [List.take_add_one, h, List.map_append, List.sum_append]
  show _ + (f x + 0) = _
  omega
/-! tm_choose -/
theorem choose_bad {n least : Int} {l : List Int} (h : ¬ ((1 ≤ n.toNat ∧ n.toNat ≤ 64) ∧ (1 ≤ l.length / n.toNat ∧ l.length / n.toNat ≤ 64))) : PySh68.tm_choose n least l = [-2] := by
  show Sh68Neutral.told (answer (if (among n.toNat 1 64 && among ((nats l).length / n.toNat) 1 64) = true then Sh68.Call.choose least.toNat n.toNat ((nats l).length / n.toNat) (nats l) else Sh68.Call.bad)) = [-2]
  rw [nats_len, if_neg (by unfold among; simp only [Bool.and_eq_true, decide_eq_true_eq]; exact h)]
  rfl
def toldPairs (r : List (Nat × Nat)) : List Int := (r.length : Int) :: r.flatMap fun p => [(p.1 : Int), (p.2 : Int)]
theorem ints_pairs (r : List (Nat × Nat)) : Sh68Neutral.ints (pairTold r) = r.flatMap fun p => [(p.1 : Int), (p.2 : Int)] := by
  unfold Sh68Neutral.ints pairTold
  rw [List.map_flatMap]
  rfl
theorem told_pairs (r : List (Nat × Nat)) : Sh68Neutral.told (many r.length [pairTold r]) = toldPairs r := by
  show ((r.length : Nat) : Int) :: Sh68Neutral.ints (pairTold r) = _
  rw [ints_pairs]
  rfl
theorem choose_due {n least : Int} {l : List Int} (h : (1 ≤ n.toNat ∧ n.toNat ≤ 64) ∧ (1 ≤ l.length / n.toNat ∧ l.length / n.toNat ≤ 64)) : PySh68.tm_choose n least l = toldPairs (chosen n.toNat (l.length / n.toNat) least.toNat (nats l)) := by
  show Sh68Neutral.told (answer (if (among n.toNat 1 64 && among ((nats l).length / n.toNat) 1 64) = true then Sh68.Call.choose least.toNat n.toNat ((nats l).length / n.toNat) (nats l) else Sh68.Call.bad)) = _
  rw [nats_len, if_pos (by unfold among; simp only [Bool.and_eq_true, decide_eq_true_eq]; exact h)]
  exact told_pairs _
/-! tm_match -/
theorem match_bad {e least : Int} {ns ms : List Int} (h : ¬ (ns.length / 2 ≤ 24 ∧ ms.length / 2 ≤ 24 ∧ e.toNat ≤ 65536)) : PySh68.tm_match e least ns ms = [-2] := by
  show Sh68Neutral.told (answer (if (few ((nats ns).length / 2) && (few ((nats ms).length / 2) && decide (e.toNat ≤ 65536))) = true then Sh68.Call.match_ e.toNat least.toNat (nats ns) (nats ms) else Sh68.Call.bad)) = [-2]
  rw [few_is, few_is, if_neg (by simp only [Bool.and_eq_true, decide_eq_true_eq]; exact h)]
  rfl
theorem match_off {e least : Int} {ns ms : List Int} (hp : ∀ x ∈ ns, 0 ≤ x) (hq : ∀ x ∈ ms, 0 ≤ x) (h : ns.length / 2 ≤ 24 ∧ ms.length / 2 ≤ 24 ∧ e.toNat ≤ 65536) (ho : off ns = true ∨ off ms = true) : PySh68.tm_match e least ns ms = [-3] := by
  show Sh68Neutral.told (answer (if (few ((nats ns).length / 2) && (few ((nats ms).length / 2) && decide (e.toNat ≤ 65536))) = true then Sh68.Call.match_ e.toNat least.toNat (nats ns) (nats ms) else Sh68.Call.bad)) = [-3]
  rw [few_is, few_is, if_pos (by simp only [Bool.and_eq_true, decide_eq_true_eq]; exact h)]
  show Sh68Neutral.told (if small (nats ns) = false ∨ small (nats ms) = false then _ else _) = _
  rw [small_is hp, small_is hq, if_pos (by rcases ho with z | z <;> unfold off at z <;> rw [z] <;> simp)]
  rfl
theorem match_due {e least : Int} {ns ms : List Int} (hp : ∀ x ∈ ns, 0 ≤ x) (hq : ∀ x ∈ ms, 0 ≤ x) (h : ns.length / 2 ≤ 24 ∧ ms.length / 2 ≤ 24 ∧ e.toNat ≤ 65536) (h1 : off ns = false) (h2 : off ms = false) :
    PySh68.tm_match e least ns ms = toldPairs (chosen (ns.length / 2) (ms.length / 2) least.toNat (votes e.toNat (ns.length / 2) (ms.length / 2) (triangles (stars ns)) (triangles (stars ms)))) := by
  show Sh68Neutral.told (answer (if (few ((nats ns).length / 2) && (few ((nats ms).length / 2) && decide (e.toNat ≤ 65536))) = true then Sh68.Call.match_ e.toNat least.toNat (nats ns) (nats ms) else Sh68.Call.bad)) = _
  rw [few_is, few_is, if_pos (by simp only [Bool.and_eq_true, decide_eq_true_eq]; exact h)]
  unfold off at h1 h2
  show Sh68Neutral.told (if small (nats ns) = false ∨ small (nats ms) = false then fail (-3) else many (chosen ((nats ns).length / 2) ((nats ms).length / 2) least.toNat (votes e.toNat ((nats ns).length / 2) ((nats ms).length / 2) (triangles (stars ns)) (triangles (stars ms)))).length [pairTold (chosen ((nats ns).length / 2) ((nats ms).length / 2) least.toNat (votes e.toNat ((nats ns).length / 2) ((nats ms).length / 2) (triangles (stars ns)) (triangles (stars ms))))]) = _
  rw [small_is hp, small_is hq, h1, h2, if_neg (by simp), nats_len, nats_len]
  exact told_pairs _
/-! tm_fit -/
theorem pairs_few (ps : List Int) : pairsFew ((nats ps).length / 4) = decide (ps.length / 4 ≤ 32) := by
  rw [nats_len]; rfl
theorem fit_bad {ps : List Int} (h : ¬ ps.length / 4 ≤ 32) : PySh68.tm_fit ps = [-2] := by
  show Sh68Neutral.told (answer (if pairsFew ((nats ps).length / 4) = true then Sh68.Call.fit (nats ps) else Sh68.Call.bad)) = [-2]
  rw [pairs_few, decide_eq_false h]
  rfl
theorem fit_off {ps : List Int} (hp : ∀ x ∈ ps, 0 ≤ x) (h : ps.length / 4 ≤ 32) (ho : off ps = true) : PySh68.tm_fit ps = [-3] := by
  show Sh68Neutral.told (answer (if pairsFew ((nats ps).length / 4) = true then Sh68.Call.fit (nats ps) else Sh68.Call.bad)) = [-3]
  rw [pairs_few, decide_eq_true h, if_pos rfl]
  show Sh68Neutral.told (if small (nats ps) = false then _ else _) = _
  unfold off at ho
  rw [small_is hp, ho, if_pos (by decide)]
  rfl
theorem fit_none {ps : List Int} (hp : ∀ x ∈ ps, 0 ≤ x) (h : ps.length / 4 ≤ 32) (ho : off ps = false) (hf : fit (prs ps) = none) : PySh68.tm_fit ps = [-4] := by
  show Sh68Neutral.told (answer (if pairsFew ((nats ps).length / 4) = true then Sh68.Call.fit (nats ps) else Sh68.Call.bad)) = [-4]
  rw [pairs_few, decide_eq_true h, if_pos rfl]
  show Sh68Neutral.told (if small (nats ps) = false then fail (-3) else (match fit (prs ps) with
    | none => fail (-4)
    | some f => done [(Sh68.told f).map wordOf, (prs ps).map fun p => miss f p])) = _
  unfold off at ho
  rw [small_is hp, ho, if_neg (by decide), hf]
  rfl
theorem fit_due {ps : List Int} (hp : ∀ x ∈ ps, 0 ≤ x) (h : ps.length / 4 ≤ 32) (ho : off ps = false) {f : Fit} (hf : fit (prs ps) = some f) :
    PySh68.tm_fit ps = 0 :: 4 :: ((Sh68.told f).map fun z => ((wordOf z : Nat) : Int)) ++ ((ps.length / 4 : Nat) : Int) :: (prs ps).map fun p => ((miss f p : Nat) : Int) := by
  show Sh68Neutral.told (answer (if pairsFew ((nats ps).length / 4) = true then Sh68.Call.fit (nats ps) else Sh68.Call.bad)) = _
  rw [pairs_few, decide_eq_true h, if_pos rfl]
  show Sh68Neutral.told (if small (nats ps) = false then fail (-3) else (match fit (prs ps) with
    | none => fail (-4)
    | some f => done [(Sh68.told f).map wordOf, (prs ps).map fun p => miss f p])) = _
  unfold off at ho
  rw [small_is hp, ho, if_neg (by decide), hf]
  have e : ((prs ps).map fun p => miss f p).length = ps.length / 4 := by rw [List.length_map, prs_len]
  show (0 : Int) :: ([(Sh68.told f).map wordOf, (prs ps).map fun p => miss f p].flatMap fun l => ((l.length : Nat) : Int) :: Sh68Neutral.ints l) = _
  simp only [List.flatMap_cons, List.flatMap_nil, List.append_nil, e]
  unfold Sh68Neutral.ints
  rw [List.map_map, List.map_map]
  rfl
/-! tm_carry -/
theorem carry_bad {ps xy : List Int} (h : ¬ (ps.length / 4 ≤ 32 ∧ xy.length / 2 ≤ 4096)) : PySh68.tm_carry ps xy = [-2] := by
  show Sh68Neutral.told (answer (if (pairsFew ((nats ps).length / 4) && decide ((nats xy).length / 2 ≤ 4096)) = true then Sh68.Call.carry (nats ps) (nats xy) else Sh68.Call.bad)) = [-2]
  rw [pairs_few, nats_len xy, if_neg (by simp only [Bool.and_eq_true, decide_eq_true_eq]; exact h)]
  rfl
theorem carry_off {ps xy : List Int} (hp : ∀ x ∈ ps, 0 ≤ x) (hq : ∀ x ∈ xy, 0 ≤ x) (h : ps.length / 4 ≤ 32 ∧ xy.length / 2 ≤ 4096) (ho : off ps = true ∨ off xy = true) : PySh68.tm_carry ps xy = [-3] := by
  show Sh68Neutral.told (answer (if (pairsFew ((nats ps).length / 4) && decide ((nats xy).length / 2 ≤ 4096)) = true then Sh68.Call.carry (nats ps) (nats xy) else Sh68.Call.bad)) = [-3]
  rw [pairs_few, nats_len xy, if_pos (by simp only [Bool.and_eq_true, decide_eq_true_eq]; exact h)]
  show Sh68Neutral.told (if small (nats ps) = false ∨ small (nats xy) = false then _ else _) = _
  rw [small_is hp, small_is hq, if_pos (by rcases ho with z | z <;> unfold off at z <;> rw [z] <;> simp)]
  rfl
theorem carry_none {ps xy : List Int} (hp : ∀ x ∈ ps, 0 ≤ x) (hq : ∀ x ∈ xy, 0 ≤ x) (h : ps.length / 4 ≤ 32 ∧ xy.length / 2 ≤ 4096) (h1 : off ps = false) (h2 : off xy = false) (hf : fit (prs ps) = none) : PySh68.tm_carry ps xy = [-4] := by
  show Sh68Neutral.told (answer (if (pairsFew ((nats ps).length / 4) && decide ((nats xy).length / 2 ≤ 4096)) = true then Sh68.Call.carry (nats ps) (nats xy) else Sh68.Call.bad)) = [-4]
  rw [pairs_few, nats_len xy, if_pos (by simp only [Bool.and_eq_true, decide_eq_true_eq]; exact h)]
  show Sh68Neutral.told (if small (nats ps) = false ∨ small (nats xy) = false then fail (-3) else (match fit (prs ps) with
    | none => fail (-4)
    | some f => done [(stars xy).flatMap fun p => [wordOf (carried f p).1, wordOf (carried f p).2]])) = _
  unfold off at h1 h2
  rw [small_is hp, small_is hq, h1, h2, if_neg (by simp), hf]
  rfl
theorem carry_due {ps xy : List Int} (hp : ∀ x ∈ ps, 0 ≤ x) (hq : ∀ x ∈ xy, 0 ≤ x) (h : ps.length / 4 ≤ 32 ∧ xy.length / 2 ≤ 4096) (h1 : off ps = false) (h2 : off xy = false) {f : Fit} (hf : fit (prs ps) = some f) :
    PySh68.tm_carry ps xy = 0 :: (stars xy).flatMap fun p => [((wordOf (carried f p).1 : Nat) : Int), ((wordOf (carried f p).2 : Nat) : Int)] := by
  show Sh68Neutral.told (answer (if (pairsFew ((nats ps).length / 4) && decide ((nats xy).length / 2 ≤ 4096)) = true then Sh68.Call.carry (nats ps) (nats xy) else Sh68.Call.bad)) = _
  rw [pairs_few, nats_len xy, if_pos (by simp only [Bool.and_eq_true, decide_eq_true_eq]; exact h)]
  show Sh68Neutral.told (if small (nats ps) = false ∨ small (nats xy) = false then fail (-3) else (match fit (prs ps) with
    | none => fail (-4)
    | some f => done [(stars xy).flatMap fun p => [wordOf (carried f p).1, wordOf (carried f p).2]])) = _
  unfold off at h1 h2
  rw [small_is hp, small_is hq, h1, h2, if_neg (by simp), hf]
  show (0 : Int) :: Sh68Neutral.ints _ = _
  unfold Sh68Neutral.ints
  rw [List.map_flatMap]
  rfl
/-! tm_far -/
theorem far_bad {p q : List Int} (h : ¬ p.length / 2 ≤ 4096) : PySh68.tm_far p q = [-2] := by
  show Sh68Neutral.told (answer (if decide ((nats p).length / 2 ≤ 4096) = true then Sh68.Call.far (nats p) (nats q) else Sh68.Call.bad)) = [-2]
  rw [nats_len, if_neg (by simp only [decide_eq_true_eq]; exact h)]
  rfl
theorem far_due {p q : List Int} (h : p.length / 2 ≤ 4096) : PySh68.tm_far p q = 0 :: (((stars p).zip (stars q)).map fun x => ((dist2 x.1 x.2 : Nat) : Int)) := by
  show Sh68Neutral.told (answer (if decide ((nats p).length / 2 ≤ 4096) = true then Sh68.Call.far (nats p) (nats q) else Sh68.Call.bad)) = _
  rw [nats_len, if_pos (by simp only [decide_eq_true_eq]; exact h)]
  show (0 : Int) :: Sh68Neutral.ints (((stars p).zip (stars q)).map fun x => dist2 x.1 x.2) = _
  unfold Sh68Neutral.ints
  rw [List.map_map]
  rfl
/-! tm_clean -/
theorem clean_bad {r : Int} {ps : List Int} (h : ¬ (ps.length / 4 ≤ 32 ∧ r.toNat ≤ 65535)) : PySh68.tm_clean r ps = [-2] := by
  show Sh68Neutral.told (answer (if (pairsFew ((nats ps).length / 4) && decide (r.toNat ≤ 65535)) = true then Sh68.Call.clean r.toNat (nats ps) else Sh68.Call.bad)) = [-2]
  rw [pairs_few, if_neg (by simp only [Bool.and_eq_true, decide_eq_true_eq]; exact h)]
  rfl
theorem clean_off {r : Int} {ps : List Int} (hp : ∀ x ∈ ps, 0 ≤ x) (h : ps.length / 4 ≤ 32 ∧ r.toNat ≤ 65535) (ho : off ps = true) : PySh68.tm_clean r ps = [-3] := by
  show Sh68Neutral.told (answer (if (pairsFew ((nats ps).length / 4) && decide (r.toNat ≤ 65535)) = true then Sh68.Call.clean r.toNat (nats ps) else Sh68.Call.bad)) = [-3]
  rw [pairs_few, if_pos (by simp only [Bool.and_eq_true, decide_eq_true_eq]; exact h)]
  show Sh68Neutral.told (if small (nats ps) = false then _ else _) = _
  unfold off at ho
  rw [small_is hp, ho, if_pos (by decide)]
  rfl
theorem clean_due {r : Int} {ps : List Int} (hp : ∀ x ∈ ps, 0 ≤ x) (h : ps.length / 4 ≤ 32 ∧ r.toNat ≤ 65535) (ho : off ps = false) :
    PySh68.tm_clean r ps = ((cleaned r.toNat (ps.length / 4) (prs ps)).length : Int) :: (cleaned r.toNat (ps.length / 4) (prs ps)).flatMap fun p => [((p.1.1.toNat : Nat) : Int), ((p.1.2.toNat : Nat) : Int), ((p.2.1.toNat : Nat) : Int), ((p.2.2.toNat : Nat) : Int)] := by
  show Sh68Neutral.told (answer (if (pairsFew ((nats ps).length / 4) && decide (r.toNat ≤ 65535)) = true then Sh68.Call.clean r.toNat (nats ps) else Sh68.Call.bad)) = _
  rw [pairs_few, if_pos (by simp only [Bool.and_eq_true, decide_eq_true_eq]; exact h)]
  show Sh68Neutral.told (if small (nats ps) = false then fail (-3) else many (cleaned r.toNat ((nats ps).length / 4) (prs ps)).length [flat (cleaned r.toNat ((nats ps).length / 4) (prs ps))]) = _
  unfold off at ho
  rw [small_is hp, ho, if_neg (by decide), nats_len]
  show ((cleaned r.toNat (ps.length / 4) (prs ps)).length : Int) :: Sh68Neutral.ints (flat (cleaned r.toNat (ps.length / 4) (prs ps))) = _
  unfold Sh68Neutral.ints flat
  rw [List.map_flatMap]
  rfl
/-! tm_grow -/
abbrev growOk (r : Int) (ps ns ms : List Int) : Prop := ps.length / 4 ≤ 32 ∧ ns.length / 2 ≤ 64 ∧ ms.length / 2 ≤ 64 ∧ r.toNat ≤ 65535
theorem grow_bad {r : Int} {ps ns ms : List Int} (h : ¬ growOk r ps ns ms) : PySh68.tm_grow r ps ns ms = [-2] := by
  show Sh68Neutral.told (answer (if (pairsFew ((nats ps).length / 4) && (decide ((nats ns).length / 2 ≤ 64) && (decide ((nats ms).length / 2 ≤ 64) && decide (r.toNat ≤ 65535)))) = true then Sh68.Call.grow r.toNat (nats ps) (nats ns) (nats ms) else Sh68.Call.bad)) = [-2]
  rw [pairs_few, nats_len ns, nats_len ms, if_neg (by simp only [Bool.and_eq_true, decide_eq_true_eq]; exact h)]
  rfl
theorem grow_off {r : Int} {ps ns ms : List Int} (hp : ∀ x ∈ ps, 0 ≤ x) (hq : ∀ x ∈ ns, 0 ≤ x) (ht : ∀ x ∈ ms, 0 ≤ x) (h : growOk r ps ns ms) (ho : off ps = true ∨ off ns = true ∨ off ms = true) : PySh68.tm_grow r ps ns ms = [-3] := by
  show Sh68Neutral.told (answer (if (pairsFew ((nats ps).length / 4) && (decide ((nats ns).length / 2 ≤ 64) && (decide ((nats ms).length / 2 ≤ 64) && decide (r.toNat ≤ 65535)))) = true then Sh68.Call.grow r.toNat (nats ps) (nats ns) (nats ms) else Sh68.Call.bad)) = [-3]
  rw [pairs_few, nats_len ns, nats_len ms, if_pos (by simp only [Bool.and_eq_true, decide_eq_true_eq]; exact h)]
  show Sh68Neutral.told (if small (nats ps) = false ∨ (small (nats ns) = false ∨ small (nats ms) = false) then _ else _) = _
  rw [small_is hp, small_is hq, small_is ht, if_pos (by rcases ho with z | z | z <;> unfold off at z <;> rw [z] <;> simp)]
  rfl
theorem grow_none {r : Int} {ps ns ms : List Int} (hp : ∀ x ∈ ps, 0 ≤ x) (hq : ∀ x ∈ ns, 0 ≤ x) (ht : ∀ x ∈ ms, 0 ≤ x) (h : growOk r ps ns ms) (h1 : off ps = false) (h2 : off ns = false) (h3 : off ms = false) (hf : fit (prs ps) = none) : PySh68.tm_grow r ps ns ms = [-4] := by
  show Sh68Neutral.told (answer (if (pairsFew ((nats ps).length / 4) && (decide ((nats ns).length / 2 ≤ 64) && (decide ((nats ms).length / 2 ≤ 64) && decide (r.toNat ≤ 65535)))) = true then Sh68.Call.grow r.toNat (nats ps) (nats ns) (nats ms) else Sh68.Call.bad)) = [-4]
  rw [pairs_few, nats_len ns, nats_len ms, if_pos (by simp only [Bool.and_eq_true, decide_eq_true_eq]; exact h)]
  show Sh68Neutral.told (if small (nats ps) = false ∨ (small (nats ns) = false ∨ small (nats ms) = false) then fail (-3) else (match fit (prs ps) with
    | none => fail (-4)
    | some f => many (grown f r.toNat (stars ns) (stars ms)).length [pairTold (grown f r.toNat (stars ns) (stars ms))])) = _
  unfold off at h1 h2 h3
  rw [small_is hp, small_is hq, small_is ht, h1, h2, h3, if_neg (by simp), hf]
  rfl
theorem grow_due {r : Int} {ps ns ms : List Int} (hp : ∀ x ∈ ps, 0 ≤ x) (hq : ∀ x ∈ ns, 0 ≤ x) (ht : ∀ x ∈ ms, 0 ≤ x) (h : growOk r ps ns ms) (h1 : off ps = false) (h2 : off ns = false) (h3 : off ms = false) {f : Fit} (hf : fit (prs ps) = some f) : PySh68.tm_grow r ps ns ms = toldPairs (grown f r.toNat (stars ns) (stars ms)) := by
  show Sh68Neutral.told (answer (if (pairsFew ((nats ps).length / 4) && (decide ((nats ns).length / 2 ≤ 64) && (decide ((nats ms).length / 2 ≤ 64) && decide (r.toNat ≤ 65535)))) = true then Sh68.Call.grow r.toNat (nats ps) (nats ns) (nats ms) else Sh68.Call.bad)) = _
  rw [pairs_few, nats_len ns, nats_len ms, if_pos (by simp only [Bool.and_eq_true, decide_eq_true_eq]; exact h)]
  show Sh68Neutral.told (if small (nats ps) = false ∨ (small (nats ns) = false ∨ small (nats ms) = false) then fail (-3) else (match fit (prs ps) with
    | none => fail (-4)
    | some f => many (grown f r.toNat (stars ns) (stars ms)).length [pairTold (grown f r.toNat (stars ns) (stars ms))])) = _
  unfold off at h1 h2 h3
  rw [small_is hp, small_is hq, small_is ht, h1, h2, h3, if_neg (by simp), hf]
  exact told_pairs _
end Tm

namespace Tm
open Sh68 Sh68Neutral
/-! ### how great the fit's numbers are -/
theorem nb_add {a b : Int} {A B : Nat} (ha : a.natAbs ≤ A) (hb : b.natAbs ≤ B) : (a + b).natAbs ≤ A + B := by omega
theorem nb_sub {a b : Int} {A B : Nat} (ha : a.natAbs ≤ A) (hb : b.natAbs ≤ B) : (a - b).natAbs ≤ A + B := by omega
theorem nb_mul {a b : Int} {A B : Nat} (ha : a.natAbs ≤ A) (hb : b.natAbs ≤ B) : (a * b).natAbs ≤ A * B := by
  rw [Int.natAbs_mul]
  exact Nat.mul_le_mul ha hb
theorem nb_sum {α : Type} {f : α → Int} {B : Nat} : ∀ {l : List α}, (∀ x ∈ l, (f x).natAbs ≤ B) → ((l.map f).sum).natAbs ≤ l.length * B
  | [], _ => by simp
  | x :: r, h => by
    rw [List.map_cons, List.sum_cons, List.length_cons, Nat.succ_mul]
    have h1 := nb_sum fun y hy => h y (List.mem_cons_of_mem _ hy)
    have h2 := h x List.mem_cons_self
    omega
theorem nb_le {a : Int} {A B : Nat} (h : a.natAbs ≤ A) (hab : A ≤ B) : a.natAbs ≤ B := Nat.le_trans h hab
/-- a pair of four numbers of 13 bits -/
def Pair13 (p : Pt × Pt) : Prop := (p.1.1.natAbs ≤ 8192 ∧ p.1.2.natAbs ≤ 8192) ∧ (p.2.1.natAbs ≤ 8192 ∧ p.2.2.natAbs ≤ 8192)
def fitN (ps : List (Pt × Pt)) : Int := ((ps.length : Nat) : Int)
def fitSx (ps : List (Pt × Pt)) : Int := (ps.map fun p => p.1.1).sum
def fitSy (ps : List (Pt × Pt)) : Int := (ps.map fun p => p.1.2).sum
def fitSu (ps : List (Pt × Pt)) : Int := (ps.map fun p => p.2.1).sum
def fitSv (ps : List (Pt × Pt)) : Int := (ps.map fun p => p.2.2).sum
def fitXX (ps : List (Pt × Pt)) : Int := (ps.map fun p => p.1.1 * p.1.1 + p.1.2 * p.1.2).sum
def fitXU (ps : List (Pt × Pt)) : Int := (ps.map fun p => p.1.1 * p.2.1 + p.1.2 * p.2.2).sum
def fitXV (ps : List (Pt × Pt)) : Int := (ps.map fun p => p.1.1 * p.2.2 - p.1.2 * p.2.1).sum
def fitG (ps : List (Pt × Pt)) : Int := fitN ps * fitXX ps - (fitSx ps * fitSx ps + fitSy ps * fitSy ps)
def fitA (ps : List (Pt × Pt)) : Int := fitN ps * fitXU ps - (fitSx ps * fitSu ps + fitSy ps * fitSv ps)
def fitB (ps : List (Pt × Pt)) : Int := fitN ps * fitXV ps - (fitSx ps * fitSv ps - fitSy ps * fitSu ps)
def fitC (ps : List (Pt × Pt)) : Int := fitSu ps * fitG ps - (fitA ps * fitSx ps - fitB ps * fitSy ps)
def fitD (ps : List (Pt × Pt)) : Int := fitSv ps * fitG ps - (fitB ps * fitSx ps + fitA ps * fitSy ps)
def fitOf (ps : List (Pt × Pt)) : Fit := ⟨fitN ps * fitA ps, fitN ps * fitB ps, fitC ps, fitD ps, fitN ps * fitG ps⟩
theorem fit_is (ps : List (Pt × Pt)) : fit ps = if fitG ps ≤ 0 then none else some (fitOf ps) := rfl
structure FitBd (ps : List (Pt × Pt)) : Prop where
  sx : (fitSx ps).natAbs ≤ 2 ^ 18
  sy : (fitSy ps).natAbs ≤ 2 ^ 18
  su : (fitSu ps).natAbs ≤ 2 ^ 18
  sv : (fitSv ps).natAbs ≤ 2 ^ 18
  xx : (fitXX ps).natAbs ≤ 2 ^ 32
  xu : (fitXU ps).natAbs ≤ 2 ^ 32
  xv : (fitXV ps).natAbs ≤ 2 ^ 32
  n : (fitN ps).natAbs ≤ 2 ^ 5
  g : (fitG ps).natAbs ≤ 2 ^ 38
  a : (fitA ps).natAbs ≤ 2 ^ 38
  b : (fitB ps).natAbs ≤ 2 ^ 38
  c : (fitC ps).natAbs ≤ 2 ^ 58
  d : (fitD ps).natAbs ≤ 2 ^ 58
theorem fit_bd {ps : List (Pt × Pt)} (h : ∀ p ∈ ps, Pair13 p) (hn : ps.length ≤ 32) : FitBd ps := by
  have n : (fitN ps).natAbs ≤ 2 ^ 5 := by unfold fitN; omega
  have s1 : ∀ {f : Pt × Pt → Int}, (∀ p ∈ ps, (f p).natAbs ≤ 8192) → ((ps.map f).sum).natAbs ≤ 2 ^ 18 := fun hf =>
    nb_le (nb_sum hf) (Nat.le_trans (Nat.mul_le_mul_right 8192 hn) (by decide))
  have s2 : ∀ {f : Pt × Pt → Int}, (∀ p ∈ ps, (f p).natAbs ≤ 8192 * 8192 + 8192 * 8192) → ((ps.map f).sum).natAbs ≤ 2 ^ 32 := fun hf =>
    nb_le (nb_sum hf) (Nat.le_trans (Nat.mul_le_mul_right _ hn) (by decide))
  have sx : (fitSx ps).natAbs ≤ 2 ^ 18 := s1 fun p hp => (h p hp).1.1
  have sy : (fitSy ps).natAbs ≤ 2 ^ 18 := s1 fun p hp => (h p hp).1.2
  have su : (fitSu ps).natAbs ≤ 2 ^ 18 := s1 fun p hp => (h p hp).2.1
  have sv : (fitSv ps).natAbs ≤ 2 ^ 18 := s1 fun p hp => (h p hp).2.2
  have xx : (fitXX ps).natAbs ≤ 2 ^ 32 := s2 fun p hp => nb_add (nb_mul (h p hp).1.1 (h p hp).1.1) (nb_mul (h p hp).1.2 (h p hp).1.2)
  have xu : (fitXU ps).natAbs ≤ 2 ^ 32 := s2 fun p hp => nb_add (nb_mul (h p hp).1.1 (h p hp).2.1) (nb_mul (h p hp).1.2 (h p hp).2.2)
  have xv : (fitXV ps).natAbs ≤ 2 ^ 32 := s2 fun p hp => nb_sub (nb_mul (h p hp).1.1 (h p hp).2.2) (nb_mul (h p hp).1.2 (h p hp).2.1)
  have g : (fitG ps).natAbs ≤ 2 ^ 38 := nb_le (nb_sub (nb_mul n xx) (nb_add (nb_mul sx sx) (nb_mul sy sy))) (by decide)
  have a : (fitA ps).natAbs ≤ 2 ^ 38 := nb_le (nb_sub (nb_mul n xu) (nb_add (nb_mul sx su) (nb_mul sy sv))) (by decide)
  have b : (fitB ps).natAbs ≤ 2 ^ 38 := nb_le (nb_sub (nb_mul n xv) (nb_sub (nb_mul sx sv) (nb_mul sy su))) (by decide)
  exact ⟨sx, sy, su, sv, xx, xu, xv, n, g, a, b, nb_le (nb_sub (nb_mul su g) (nb_sub (nb_mul a sx) (nb_mul b sy))) (by decide), nb_le (nb_sub (nb_mul sv g) (nb_add (nb_mul b sx) (nb_mul a sy))) (by decide)⟩
theorem word_is (z : Int) : ((wordOf z : Nat) : Int) = z % 4294967296 := by
  unfold wordOf
  exact Int.toNat_of_nonneg (Int.emod_nonneg _ (by decide))
theorem miss_is (f : Fit) (p : Pt × Pt) : ((miss f p : Nat) : Int) = ((carried f p.1).1 - p.2.1) * ((carried f p.1).1 - p.2.1) + ((carried f p.1).2 - p.2.2) * ((carried f p.1).2 - p.2.2) := by
  show ((square _ + square _ : Nat) : Int) = _
  rw [Int.natCast_add, square_is, square_is]
/-! g is never below 0 -/
theorem sq_off (a : Int) : ∀ l : List Int, 0 ≤ (l.map fun x => x * x).sum - 2 * (a * l.sum) + (l.length : Int) * (a * a)
  | [] => by simp
  | x :: r => by
    have ih := sq_off a r
    have e : 0 ≤ (x - a) * (x - a) := by
      rw [← square_is]
      exact Int.natCast_nonneg _
    have e2 : (x - a) * (x - a) = x * x - 2 * (a * x) + a * a := by
      rw [Int.sub_mul, Int.mul_sub, Int.mul_sub, Int.mul_comm x a]
      omega
    rw [List.map_cons, List.sum_cons, List.sum_cons, List.length_cons, Int.natCast_add, Int.add_mul, Int.mul_add]
    show 0 ≤ x * x + (r.map fun x => x * x).sum - 2 * (a * x + a * r.sum) + ((r.length : Int) * (a * a) + 1 * (a * a))
    omega
theorem sq_sum : ∀ l : List Int, l.sum * l.sum ≤ (l.length : Int) * (l.map fun x => x * x).sum
  | [] => by simp
  | a :: r => by
    have ih := sq_sum r
    have h := sq_off a r
    rw [List.map_cons, List.sum_cons, List.sum_cons, List.length_cons, Int.natCast_add, Int.add_mul, Int.mul_add, Int.mul_add, Int.add_mul, Int.mul_add, Int.mul_comm r.sum a]
    show a * a + a * r.sum + (a * r.sum + r.sum * r.sum) ≤ (r.length : Int) * (a * a) + (r.length : Int) * (r.map fun x => x * x).sum + 1 * (a * a + (r.map fun x => x * x).sum)
    omega
theorem sum_pair {α : Type} {f g : α → Int} : ∀ {l : List α}, (l.map fun p => f p + g p).sum = (l.map f).sum + (l.map g).sum
  | [] => rfl
  | x :: r => by
    rw [List.map_cons, List.map_cons, List.map_cons, List.sum_cons, List.sum_cons, List.sum_cons, sum_pair (l := r)]
    omega
theorem fitG_nonneg (ps : List (Pt × Pt)) : 0 ≤ fitG ps := by
  have h1 := sq_sum (ps.map fun p => p.1.1)
  have h2 := sq_sum (ps.map fun p => p.1.2)
  rw [List.length_map, List.map_map] at h1 h2
  unfold fitG fitXX
  rw [sum_pair, Int.mul_add]
  unfold fitN fitSx fitSy
  have h1' : (ps.map fun p => p.1.1).sum * (ps.map fun p => p.1.1).sum ≤ (ps.length : Int) * (ps.map fun p => p.1.1 * p.1.1).sum := h1
  have h2' : (ps.map fun p => p.1.2).sum * (ps.map fun p => p.1.2).sum ≤ (ps.length : Int) * (ps.map fun p => p.1.2 * p.1.2).sum := h2
  omega
theorem fit_zero {ps : List (Pt × Pt)} (h : fitG ps = 0) : fit ps = none := by
  rw [fit_is, if_pos (by omega)]
theorem fit_some {ps : List (Pt × Pt)} (h : fitG ps ≠ 0) : fit ps = some (fitOf ps) := by
  have := fitG_nonneg ps
  rw [fit_is, if_neg (by omega)]
theorem prs_13 {ps : List Int} (hp : ∀ x ∈ ps, 0 ≤ x ∧ x < 8192) : ∀ p ∈ prs ps, Pair13 p := fun p hm => by
  obtain ⟨i, hi⟩ := List.getElem?_of_mem hm
  have hl : i < (prs ps).length := (List.getElem?_eq_some_iff.mp hi).1
  rw [prs_len] at hl
  have e := prs_get (fun x hx => (hp x hx).1) (i := i) (by omega)
  rw [hi] at e
  cases e
  have h0 := hp _ (List.getElem_mem (show 4 * i < ps.length by omega))
  have h1 := hp _ (List.getElem_mem (show 4 * i + 1 < ps.length by omega))
  have h2 := hp _ (List.getElem_mem (show 4 * i + 2 < ps.length by omega))
  have h3 := hp _ (List.getElem_mem (show 4 * i + 3 < ps.length by omega))
  rw [← at_get] at h0 h1 h2 h3
  refine ⟨⟨?_, ?_⟩, ⟨?_, ?_⟩⟩
  · show (at_ ps (4 * i)).natAbs ≤ 8192; omega
  · show (at_ ps (4 * i + 1)).natAbs ≤ 8192; omega
  · show (at_ ps (4 * i + 2)).natAbs ≤ 8192; omega
  · show (at_ ps (4 * i + 3)).natAbs ≤ 8192; omega
end Tm

namespace Tm
open Sh68 Sh68Neutral
/-! ### the fit as the program tells it: by columns -/
def col (ps : List Int) (j m : Nat) : List Int := (List.range m).map fun k => at_ ps (4 * k + j)
theorem col_len (ps : List Int) (j m : Nat) : (col ps j m).length = m := by
  unfold col
  rw [List.length_map, List.length_range]
theorem col_at (ps : List Int) (j : Nat) {m k : Nat} (h : k < m) : at_ (col ps j m) k = at_ ps (4 * k + j) := by
  unfold col
  show ((List.range m).map fun k => at_ ps (4 * k + j)).getD k 0 = _
  rw [List.getD_eq_getElem?_getD, List.getElem?_map, List.getElem?_range h]
  rfl
def dot (ns ms : List Int) : Int := ((List.range ns.length).map fun k => at_ ns k * at_ ms k).sum
theorem dot_col (ps : List Int) (i j m : Nat) : dot (col ps i m) (col ps j m) = ((List.range m).map fun k => at_ ps (4 * k + i) * at_ ps (4 * k + j)).sum := by
  unfold dot
  rw [col_len]
  congr 1
  refine List.map_congr_left fun k hk => ?_
  have h := List.mem_range.mp hk
  rw [col_at ps i h, col_at ps j h]
theorem prs_range {ps : List Int} {m : Nat} (hp : ∀ x ∈ ps, 0 ≤ x) (hl : ps.length = 4 * m) : prs ps = (List.range m).map fun i => ((at_ ps (4 * i), at_ ps (4 * i + 1)), (at_ ps (4 * i + 2), at_ ps (4 * i + 3))) := by
  refine List.ext_getElem? fun i => ?_
  by_cases h : i < m
  · rw [prs_get hp (by omega), List.getElem?_map, List.getElem?_range h]
    rfl
  · rw [List.getElem?_eq_none (by rw [prs_len]; omega), List.getElem?_eq_none (by rw [List.length_map, List.length_range]; omega)]
theorem sum_sub {α : Type} {f g : α → Int} : ∀ {l : List α}, (l.map fun p => f p - g p).sum = (l.map f).sum - (l.map g).sum
  | [] => rfl
  | x :: r => by
    rw [List.map_cons, List.map_cons, List.map_cons, List.sum_cons, List.sum_cons, List.sum_cons, sum_sub (l := r)]
    omega
section
variable {ps : List Int} {m : Nat} (hp : ∀ x ∈ ps, 0 ≤ x) (hl : ps.length = 4 * m)
include hp hl
theorem n_col : fitN (prs ps) = (m : Int) := by
  unfold fitN
  rw [prs_len, hl]
  omega
theorem sx_col : fitSx (prs ps) = (col ps 0 m).sum := by
  unfold fitSx col
  rw [prs_range hp hl, List.map_map]
  rfl
theorem sy_col : fitSy (prs ps) = (col ps 1 m).sum := by
  unfold fitSy col
  rw [prs_range hp hl, List.map_map]
  rfl
theorem su_col : fitSu (prs ps) = (col ps 2 m).sum := by
  unfold fitSu col
  rw [prs_range hp hl, List.map_map]
  rfl
theorem sv_col : fitSv (prs ps) = (col ps 3 m).sum := by
  unfold fitSv col
  rw [prs_range hp hl, List.map_map]
  rfl
theorem xx_col : fitXX (prs ps) = dot (col ps 0 m) (col ps 0 m) + dot (col ps 1 m) (col ps 1 m) := by
  unfold fitXX
  rw [sum_pair, prs_range hp hl, List.map_map, List.map_map, dot_col, dot_col]
  rfl
theorem xu_col : fitXU (prs ps) = dot (col ps 0 m) (col ps 2 m) + dot (col ps 1 m) (col ps 3 m) := by
  unfold fitXU
  rw [sum_pair, prs_range hp hl, List.map_map, List.map_map, dot_col, dot_col]
  rfl
theorem xv_col : fitXV (prs ps) = dot (col ps 0 m) (col ps 3 m) - dot (col ps 1 m) (col ps 2 m) := by
  unfold fitXV
  rw [sum_sub, prs_range hp hl, List.map_map, List.map_map, dot_col, dot_col]
  rfl
end
theorem col_up {ps : List Int} {B : Int} (h : ∀ x ∈ ps, 0 ≤ x ∧ x < B) {j m : Nat} (hj : j < 4) (hl : ps.length = 4 * m) : ∀ x ∈ col ps j m, 0 ≤ x ∧ x < B := fun x hx => by
  unfold col at hx
  obtain ⟨k, hk, rfl⟩ := List.mem_map.mp hx
  have hk' := List.mem_range.mp hk
  rw [at_get (by omega)]
  exact h _ (List.getElem_mem _)
/-! ### how great a fit's numbers are -/
structure FitSz (f : Fit) : Prop where
  a : f.a.natAbs ≤ 2 ^ 43
  b : f.b.natAbs ≤ 2 ^ 43
  c : f.c.natAbs ≤ 2 ^ 58
  d : f.d.natAbs ≤ 2 ^ 58
  over : f.over.natAbs ≤ 2 ^ 43
  pos : 0 < f.over
theorem fit_sz {ps : List (Pt × Pt)} (B : FitBd ps) (h : fitG ps ≠ 0) : FitSz (fitOf ps) := by
  have g0 := fitG_nonneg ps
  have hg : 0 < fitG ps := by omega
  have hn : 0 < fitN ps := by
    have h1 : 0 ≤ fitN ps := Int.natCast_nonneg _
    have h2 : fitN ps ≠ 0 := fun z => by
      have e : ps = [] := List.length_eq_zero_iff.mp (Int.ofNat.inj z)
      subst e
      exact h rfl
    omega
  exact ⟨nb_le (nb_mul B.n B.a) (by decide), nb_le (nb_mul B.n B.b) (by decide), B.c, B.d, nb_le (nb_mul B.n B.g) (by decide), Int.mul_pos hn hg⟩
theorem near_bd {x y : Int} {A : Nat} (hy : 0 < y) (hx : x.natAbs ≤ A) : (near x y).natAbs ≤ A + 1 := by
  unfold near
  have h2 : (0 : Int) < 2 * y := by omega
  have hA : x ≤ (A : Int) ∧ -(A : Int) ≤ x := by omega
  have up : (2 * x + y) / (2 * y) < (A : Int) + 1 + 1 := by
    apply Int.ediv_lt_of_lt_mul h2
    have e : ((A : Int) + 1 + 1) * (2 * y) = 2 * ((A : Int) * y) + 4 * y := by rw [Int.add_mul, Int.add_mul, Int.mul_left_comm]; omega
    have : (A : Int) * 1 ≤ (A : Int) * y := Int.mul_le_mul_of_nonneg_left (by omega) (by omega)
    rw [e]
    omega
  have dn : -((A : Int) + 1) ≤ (2 * x + y) / (2 * y) := by
    apply Int.le_ediv_of_mul_le h2
    have e : -((A : Int) + 1) * (2 * y) = -(2 * ((A : Int) * y)) - 2 * y := by rw [Int.neg_mul, Int.add_mul, Int.mul_left_comm]; omega
    have : (A : Int) * 1 ≤ (A : Int) * y := Int.mul_le_mul_of_nonneg_left (by omega) (by omega)
    rw [e]
    omega
  omega
theorem carried_bd {f : Fit} (S : FitSz f) {p : Pt} (h1 : p.1.natAbs ≤ 8192) (h2 : p.2.natAbs ≤ 8192) : (carried f p).1.natAbs ≤ 2 ^ 60 ∧ (carried f p).2.natAbs ≤ 2 ^ 60 := by
  unfold carried
  have c1 := near_bd (y := f.over) S.pos (nb_add (nb_sub (nb_mul S.a h1) (nb_mul S.b h2)) S.c)
  have c2 := near_bd (y := f.over) S.pos (nb_add (nb_add (nb_mul S.b h1) (nb_mul S.a h2)) S.d)
  exact ⟨nb_le c1 (by decide), nb_le c2 (by decide)⟩
end Tm
namespace Tm
open Sh68 Sh68Neutral
/-! ### what is asked of lengths -/
theorem len_ask {b : Prop} [Decidable b] {l : List Int} {c : Nat} (h : (if b then l.length == c * ((nats l).length / c) else l.isEmpty || l.length == c * ((nats l).length / c)) = true) : l.length = c * (l.length / c) := by
  rw [nats_len] at h
  split at h
  · exact beq_iff_eq.mp h
  · rcases Bool.or_eq_true_iff.mp h with z | z
    · rw [List.isEmpty_iff.mp z]
      simp
    · exact beq_iff_eq.mp z
theorem fit_asked {ps : List Int} (h : PySh68.tm_fit_asked ps = true) : ps.length = 4 * (ps.length / 4) := by
  have h1 := (Bool.and_eq_true_iff.mp h).1
  have h2 : (ps.all (fun (z : Int) => natural z 16) && ((if (Sh68.pairsFew (((nats ps).length / 4))) = true then ps.length == (4 * (((nats ps).length / 4))) else (ps.isEmpty) || (ps.length == (4 * (((nats ps).length / 4))))))) = true := h1
  exact len_ask (Bool.and_eq_true_iff.mp h2).2
end Tm
namespace Tm
open Sh68 Sh68Neutral
theorem carry_asked {ps xy : List Int} (h : PySh68.tm_carry_asked ps xy = true) : ps.length = 4 * (ps.length / 4) := by
  have h1 := (Bool.and_eq_true_iff.mp h).1
  have h2 : (ps.all (fun (z : Int) => natural z 16) && (xy.all (fun (z : Int) => natural z 16) && ((if (Sh68.pairsFew (((nats ps).length / 4)) && decide (((nats xy).length / 2) ≤ 4096)) = true then ps.length == (4 * (((nats ps).length / 4))) && xy.length == (2 * (((nats xy).length / 2))) else (ps.isEmpty && xy.isEmpty) || (ps.length == (4 * (((nats ps).length / 4))) && xy.length == (2 * (((nats xy).length / 2)))))))) = true := h1
  have h3 := (Bool.and_eq_true_iff.mp (Bool.and_eq_true_iff.mp h2).2).2
  rw [nats_len] at h3
  split at h3
  · exact beq_iff_eq.mp (Bool.and_eq_true_iff.mp h3).1
  · rcases Bool.or_eq_true_iff.mp h3 with z | z
    · rw [List.isEmpty_iff.mp (Bool.and_eq_true_iff.mp z).1]
      simp
    · exact beq_iff_eq.mp (Bool.and_eq_true_iff.mp z).1
end Tm

namespace Tm
open PySem PySem.Spec PyProof.Rows L2 PySem.AutoSeq1
/-- list.extend with a tuple's object, whatever dict and slots it bears -/
theorem extend_tuple (a t : Addr) (us ws : Array Value) (n m : Nat) (td : Option Addr) (ts : Array (Option Value)) (short : Builtin.List.listTooLong (us.size + ws.size) = false) (h1 : us.size ≤ sizeLine) (h2 : us.size + ws.size ≤ sizeLine + 1) :
    Meets (Builtin.«list.extend» ⟨[.ref a, .ref t], []⟩) fun _ R s => s.heap.get? a = some { cls := .type "list", dict := none, data := .seq us n, slots := #[] } ∧ s.heap.get? t = some { cls := .type "tuple", dict := td, data := .seq ws m, slots := ts } ∧
      R (.ok (.ret Value.none)) { s with heap := s.heap.update a (Obj.mapSeq fun x => x ++ ws), toks := s.toks } := by
  refine .of_wp fun prog w A R s => ?_
  rintro ⟨ea, et, done⟩
  have nolong : ¬(!us.isEmpty && Builtin.List.listTooLong (us.size + ws.size)) = true := by simp [short]
  have both : (us ++ ws).size ≤ sizeLine + 1 := Array.size_append ▸ h2
  obtain ⟨heap, gens, drawn, toks, os⟩ := s
  have k1 := idx_int
  have k2 := AutoSeq1.sub_tuple_tuple
  have k3 := AutoSeq1.sub_list_list
  have k4 := AutoSeq1.sub_tuple_list
  have k5 := AutoSeq1.sub_list_tuple
  wp_walk using (wpAny_updateSeq ea rfl (hz := h1) (_hz' := both)), wpAny_loadPart' ea, wpAny_loadPart' et
  exact ⟨_, rfl, done⟩
section
variable {X : Cx}
/-- xs.extend(t), t a tuple -/
def rExtendT : V → List V → Hp → VK → Prop := fun x vs H Q => ∃ l b xs zs, x = .ref l ∧ vs = [.ref b] ∧ H l = some (.lst xs) ∧ H b = some (.tup zs) ∧ xs.length + zs.length ≤ sizeLine ∧ Q .non (upd H l (.lst (xs ++ zs)))
theorem mt_extendT : MtM X "list.extend" rExtendT := by
  rintro pins s σ H _ _ v us Q I rx rv ⟨l, b, xs, zs, rfl, rfl, atL, atT, fits, done⟩
  obtain rfl : v = Value.ref l := rx
  obtain rfl := Vals.ref1 rv
  obtain ⟨-, ls, n, vL, lenL, objL⟩ := I.lstM atL
  obtain ⟨ts, vT, ⟨⟨_, td, _, tsl⟩, objT, rfl, m, rfl⟩, -⟩ := I.tuple (SqT.of atT)
  have lenT := vT.length
  have both : ls.toArray.size + ts.toArray.size ≤ sizeLine := by
    simp only [List.size_toArray]
    omega
  have meets := extend_tuple l b ls.toArray ts.toArray n m td tsl (notLongL both) (Nat.le_trans (Nat.le_add_right _ _) both) (Nat.le_succ_of_le both)
  refine call_meets F.slot_list_extend ⟨_, objL, rfl⟩ F.entry_list_extend (F.args_list_extend_2 _ _) meets ⟨objL, objT, .non, _, ?_, rfl, done⟩
  exact I.lset (its' := ls ++ ts) atL objL (by simp) (vL.append vT) (by rw [List.length_append]; exact fits)
/-- a statement, then the rest, the slots written out between them -/
def tSeqN (t u : TS) : TS := fun D σ H => t { D with nx := fun σ1 H1 => ∃ σ', σ1 = σ' ∧ u D σ' H1 } σ H
theorem pss_consN {st : Stmt} {rest : List Stmt} {t u : TS} (h1 : PS X st t) (h2 : PSs X rest u) : PSs X (st :: rest) (tSeqN t u) := by
  refine ⟨fun pins s σ H D I h => ?_⟩
  refine wpAny_execs_cons (thn (h1.run pins s σ H { D with nx := fun σ1 H1 => ∃ σ', σ1 = σ' ∧ u D σ' H1 } I h) fun f s1 q => ?_)
  cases f with
  | next =>
    obtain ⟨σ1, H', I', σ', e, q⟩ := q
    subst e
    exact h2.run pins s1 _ H' D I' q
  | ret v => exact q
  | brk => exact q
  | cont => exact q
/-- xs[i] read ahead of xs[i] op= e, i from 0 on -/
def rGetL (K : PySem.W.Frag) : R2 := fun x y H Q => ∃ (p : Addr) (xs : List V) (i : Int) (j : Nat) (v : V), x = .ref p ∧ y = .int i ∧ SqL K H p xs ∧ i = (j : Int) ∧ xs[j]? = some v ∧ Q v H
theorem get_list : PGet X (rGetL X.K) := by
  rintro pins s σ H _ _ ov iv Q I ro ri ⟨p, xs, _, j, v, rfl, rfl, hs, rfl, hv, done⟩
  obtain ⟨t, rfl⟩ := ri
  obtain rfl : ov = Value.ref p := ro
  obtain ⟨us, vals, plain, size⟩ := I.list hs
  obtain ⟨u, hu, ru⟩ := vals.get hv
  have small : j < xs.length := (List.getElem?_eq_some_iff.mp hv).1
  have line := line63
  exact wpAny_getItem_list plain.isList (Int.natCast_nonneg j) (by omega) (by simpa using hu) ⟨v, H, I, ru, done⟩
end
end Tm

namespace Tm
open PySem PySem.Spec PyProof.Rows L2
/-! ### xs[i::c], i and c written -/
/-- the items at i, i + c, i + 2 c .. -/
def pick {α : Type} (xs : List α) (i c : Nat) : List α := (sliceRange (max 0 (min (i : Int) (xs.length : Int))) (xs.length : Int) (c : Int)).filterMap (xs[·]?)
theorem vals_pick {xs : List V} {us : List Value} (r : Vals xs us) : ∀ idx : List Nat, Vals (idx.filterMap (xs[·]?)) (idx.filterMap (us[·]?))
  | [] => .nil
  | j :: rest => by
    rw [List.filterMap_cons, List.filterMap_cons]
    cases h : xs[j]? with
    | none =>
      rw [r.none_of h]
      exact vals_pick r rest
    | some x =>
      obtain ⟨u, hu, ru⟩ := r.get h
      rw [hu]
      exact .cons ru (vals_pick r rest)
theorem pick_is {xs : List V} {us : List Value} (r : Vals xs us) {i c : Nat} (hc : 0 < c) : Vals (pick xs i c) (slicePick us.toArray (some (i : Int)) none (some (c : Int))).toList := by
  have hl := r.length
  have e : (slicePick us.toArray (some (i : Int)) none (some (c : Int))).toList = (sliceRange (max 0 (min (i : Int) (xs.length : Int))) (xs.length : Int) (c : Int)).filterMap (us[·]?) := by
    unfold slicePick sliceBounds
    have h1 : (c : Int) > 0 := by omega
    have h2 : ¬ ((i : Int) < 0) := by omega
    simp only [Option.getD_some, h1, if_true, h2, if_false, List.size_toArray, hl, List.toList_toArray]
    simp
  rw [e]
  exact vals_pick r _
theorem pick_len {α : Type} (xs : List α) (i c : Nat) (hc : 0 < c) : (pick xs i c).length ≤ xs.length := by
  unfold pick
  exact Nat.le_trans (List.length_filterMap_le _ _) (sliceRange_length_le _ _ _ _ (fun _ => ⟨by omega, Int.le_refl _⟩) fun z => absurd (show (c : Int) > 0 by omega) z)
def tStep (K : PySem.W.Frag) (i c : Nat) (te : TE) : TE := fun σ H Q => te σ H fun x H1 => ∃ a xs, x = .ref a ∧ SqL K H1 a xs ∧ ∀ p, H1 p = none → Q (.ref p) (upd H1 p (.lst (pick xs i c)))
section
variable {X : Cx}
/-- a written number as a part of a slice -/
theorem part_int {i : Int} {k : Nat} {p : Pos} {pins : List (Addr × Obj)} {s : Shared} {σ : L2.St} {H : Hp} (I : Inv X pins σ H s) {R : Value → Shared → Prop} (h : ∀ (v : Value) (s' : Shared), Inv X pins σ H s' → IsPart v (some i) → R v s') :
    wpAny (model X.prog X.w) X.A (evalPart (some (.Constant (.int i) k p)) X.env) R X.xe s := by
  have part : PO X (some (.Constant (.int i) k p)) (tPart (tC (.int i))) := po_some pe_int
  refine thn (part.run pins s σ H (fun o H' => o = some i ∧ H' = H) I ⟨i, rfl, rfl, rfl⟩) ?_
  rintro v s' ⟨_, _, I', isp, rfl, rfl⟩
  exact h v s' I' isp
theorem pe_step {e : Expr} {te : TE} {i c k1 k2 : Nat} {p1 p2 p3 pos : Pos} (hc : 0 < c) (he : PE X e te) : PE X (.Subscript e (.Slice (some (.Constant (.int (i : Int)) k1 p1)) none (some (.Constant (.int (c : Int)) k2 p2)) p3) pos) (tStep X.K i c te) := by
  constructor
  intro pins s σ H Q I h
  refine Subscript_ (thn (he.run pins s σ H _ I h) ?_)
  rintro v s1 ⟨_, H1, I1, r1, a, xs, rfl, hx, q⟩
  obtain rfl : v = Value.ref a := r1
  refine wpAny_Slice (part_int I1 fun lo s2 I2 isLo => ?_)
  refine thn (po_none.run pins s2 σ H1 (fun o H' => o = none ∧ H' = H1) I2 ⟨rfl, rfl⟩) ?_
  rintro up s3 ⟨_, _, I3, isUp, rfl, rfl⟩
  refine part_int I3 fun st s4 I4 isSt => ?_
  -- the slice's own object is new
  have I5 := I4.kept (h' := s4.heap.push { cls := .type "slice", data := .fields #[lo, up, st] }) (t' := s4.toks) fun b o => Heap.get?_push_of_some _
  obtain ⟨us, vals, plain, size⟩ := I5.list hx
  have len := vals.length
  refine tail_any (ops := [.ref a, .ref s4.heap.objs.size]) plain.isList.typeIs PySem.slot_list_getitem.lookup ?_ (by with_unfolding_all rfl)
  refine wpAny_getItem_list_slice plain.isList (Heap.IsSliceOf.new _ lo up st) isLo isUp isSt (fun z => by have := Option.some.inj z; omega) ?_ (by rw [List.size_toArray]; omega)
  have laid := I5.laid (a := (s4.heap.push { cls := .type "slice", data := .fields #[lo, up, st] }).objs.size) (o := .lst (pick xs i c)) (t' := s4.toks) (h' := (s4.heap.push { cls := .type "slice", data := .fields #[lo, up, st] }).push { cls := .type "list", data := .seq (slicePick us.toArray (some (i : Int)) none (some (c : Int))) })
    (fun b o => Heap.get?_push_of_some _) (Nat.le_refl _) ⟨Nat.le_trans (pick_len xs i c hc) size, _, 0, pick_is vals hc, Heap.get?_push_size _ rfl⟩
  exact ⟨.ref _, _, laid, rfl, q _ (I5.hok.fresh (Nat.le_refl _))⟩
end
theorem filt_map {α β : Type} {f : α → Option β} {g : α → β} : ∀ {l : List α}, (∀ k ∈ l, f k = some (g k)) → l.filterMap f = l.map g
  | [], _ => rfl
  | x :: r, h => by
    rw [List.filterMap_cons, h x List.mem_cons_self, List.map_cons, filt_map fun k hk => h k (List.mem_cons_of_mem _ hk)]
/-- of a list of ints whose length is n c, i below c -/
theorem pick_ints {ns : List Int} {i c m : Nat} (hc : i < c) (hl : ns.length = c * m) : pick (ns.map V.int) i c = (List.range m).map fun k => V.int (ns.getD (c * k + i) 0) := by
  unfold pick sliceRange
  rw [List.length_map, hl]
  have h1 : (c : Int) > 0 := by omega
  have hcm : ((c * m : Nat) : Int) = (c : Int) * (m : Int) := Int.natCast_mul c m
  simp only [h1, if_true]
  by_cases hm : m = 0
  · subst hm
    simp
    omega
  have h2 : c ≤ c * m := Nat.le_mul_of_pos_right c (by omega)
  have e1 : max 0 (min (i : Int) ((c * m : Nat) : Int)) = (i : Int) := by omega
  rw [e1, if_pos (by omega)]
  have e2 : ((((c * m : Nat) : Int) - (i : Int) + (c : Int) - 1) / (c : Int)).toNat = m := by
    have : (((c * m : Nat) : Int) - (i : Int) + (c : Int) - 1) = (c : Int) * (m : Int) + ((c : Int) - 1 - (i : Int)) := by rw [hcm]; omega
    rw [this, Int.add_comm, Int.add_mul_ediv_left _ _ (by omega), Int.ediv_eq_zero_of_lt (by omega) (by omega)]
    omega
  rw [e2, List.filterMap_map]
  have e3 : ∀ k ∈ List.range m, ((fun x => (ns.map V.int)[x]?) ∘ fun (k : Nat) => ((i : Int) + (c : Int) * (k : Int)).toNat) k = some (V.int (ns.getD (c * k + i) 0)) := fun k hk => by
    have hk' := List.mem_range.mp hk
    have hlt : c * k + i < ns.length := by
      rw [hl]
      have : c * (k + 1) ≤ c * m := Nat.mul_le_mul_left c hk'
      rw [Nat.mul_add] at this
      omega
    have e4 : ((i : Int) + (c : Int) * (k : Int)).toNat = c * k + i := by
      have : (i : Int) + (c : Int) * (k : Int) = ((c * k + i : Nat) : Int) := by rw [Int.natCast_add, Int.natCast_mul]; omega
      rw [this, Int.toNat_natCast]
    show (ns.map V.int)[((i : Int) + (c : Int) * (k : Int)).toNat]? = _
    rw [e4, List.getElem?_map, List.getElem?_eq_getElem hlt, List.getD_eq_getElem?_getD, List.getElem?_eq_getElem hlt]
    rfl
  exact filt_map e3
end Tm

namespace Tm
open PySem PySem.Spec PyProof.Rows L2
open PySem.W (Codec)
def topS (i : Nat) : Stmt := PySem.Challenge.pw_skymatch_s05_tm_fit.main.body.getD i (.Pass ⟨0, 0, 0, 0⟩)
/-! ### heaps -/
theorem same_upd {H : Hp} {p : Addr} {o : HO} (h : H p = none) : Same H (upd H p o) := fun b x e => by
  rw [upd_ne (ne_of_none e h)]
  exact e
theorem at_map {ns : List Int} {z : Int} {i : Nat} (e : z = (i : Int)) (h : i < ns.length) : atI (ns.map V.int) z = some (V.int (at_ ns i)) := by
  rw [e]
  refine atI_nat ?_
  rw [List.getElem?_map, List.getElem?_eq_getElem h, at_get h]
  rfl
def Up (B : Int) (ns : List Int) : Prop := ∀ x ∈ ns, 0 ≤ x ∧ x < B
theorem Up.at {B : Int} {ns : List Int} (h : Up B ns) {i : Nat} (hi : i < ns.length) : 0 ≤ at_ ns i ∧ at_ ns i < B := by
  rw [at_get hi]
  exact h _ (List.getElem_mem hi)
theorem sq_bd {d : Int} (h1 : -8192 < d) (h2 : d < 8192) : d * d < 67108864 := by
  rcases Int.le_total 0 d with h | h
  · have := Int.mul_le_mul_of_nonneg_right (show d ≤ 8191 by omega) h
    omega
  · have e : -d * -d = d * d := Int.neg_mul_neg d d
    have := Int.mul_le_mul_of_nonneg_right (show -d ≤ 8191 by omega) (show 0 ≤ -d by omega)
    omega
theorem Up.wide {ns : List Int} (h : Up 8192 ns) : Up 65536 ns := fun x hx => by
  have := h x hx
  omega
theorem Up.pos {B : Int} {ns : List Int} (h : Up B ns) : ∀ x ∈ ns, 0 ≤ x := fun x hx => (h x hx).1
theorem Up.low {ns : List Int} (hU : Up 65536 ns) (ho : (ns.any fun x => decide (8192 ≤ x)) = false) : Up 8192 ns := fun x hx => ⟨(hU x hx).1, by
  have z := List.any_eq_false.mp ho x hx
  have z2 : ¬ (8192 ≤ x) := fun y => z (decide_eq_true y)
  omega⟩
def KeepBut (v : Addr) (H H' : Hp) : Prop := ∀ b x, H b = some x → b ≠ v → H' b = some x
theorem KeepBut.trans {v : Addr} {H H1 H2 : Hp} (a : KeepBut v H H1) (b : KeepBut v H1 H2) : KeepBut v H H2 := fun c x h n => b c x (a c x h n) n
theorem Same.keep {v : Addr} {H H' : Hp} (s : Same H H') : KeepBut v H H' := fun b x h _ => s b x h
theorem keep_upd {v : Addr} {H : Hp} {o : HO} : KeepBut v H (upd H v o) := fun b x h n => by
  rw [upd_ne n]
  exact h
theorem flat_one {α β : Type} {f : α → List β} {l : List α} {i : Nat} {x : α} (h : l[i]? = some x) : (l.take (i + 1)).flatMap f = (l.take i).flatMap f ++ f x := by
  rw [List.take_add_one, h, List.flatMap_append]
  show _ ++ List.flatMap _ [x] = _
  rw [List.flatMap_cons, List.flatMap_nil, List.append_nil]
def pv2 (p : Nat × Nat) : List V := [V.int ((p.1 : Nat) : Int), V.int ((p.2 : Nat) : Int)]
end Tm

namespace Tm
open PySem PySem.Spec PyProof.Rows L2
open PySem.W (Codec)
abbrev sPCount : Stmt := topS 14
theorem scPCount : FnScope ["pairs"] ["pairs"] (defScope sPCount) := ⟨rfl, rfl, rfl, by decide +kernel, rfl, by decide +kernel, by decide +kernel⟩
section
variable {P : Program} {w : World} {K : PySem.W.Frag} {mg : Str → Option Value} {base : Heap}
/-! ### pair_count -/
def spPCount (K : PySem.W.Frag) : Sp := fun vs H Q _ => ∃ (a : Addr) (ns : List Int), vs = [.ref a] ∧ SqL K H a (ns.map V.int) ∧ Q (.int ((ns.length / 4 : Nat) : Int)) H
theorem ok_pcount {f : Addr} {fd : FuncData} {k : Nat} (F : Fun K "pair_count" "pair_count" sPCount f fd) (ml : mg "len" = none) : FnOk P w K mg base CX0 (k + 1) f fd ["pairs"] (spPCount K) := by
  refine F.ok scPCount (fun vs H Q E h => ?_) (fun cdv A outer s H vs Q E hr h => ?_)
  · obtain ⟨a, ns, rfl, _⟩ := h
    rfl
  · obtain ⟨a, ns, rfl, hS, q⟩ := h
    refine ⟨_, pss_one (ps_ret (pe_op op_fdiv (pe_callB call_len_seq (by rfl) ml PySem.boot_len (pa_cons (pv 0) pa_nil)) pe_int)), ?_⟩
    refine ⟨_, rfl, a, _, rfl, .inl hS, _, _, rfl, rfl, ⟨by decide, by decide⟩, ?_⟩
    have e : ((ns.map V.int).length : Int) / 4 = ((ns.length / 4 : Nat) : Int) := by
      rw [List.length_map]
      omega
    show Q (.int (((ns.map V.int).length : Int) / 4)) H
    rw [e]
    exact q
end
end Tm

namespace Tm
open PySem PySem.Spec PyProof.Rows L2
open PySem.W (Codec)
abbrev sAny : Stmt := topS 15
theorem scAny : FnScope ["numbers", "bound", "number"] ["numbers", "bound"] (defScope sAny) := ⟨rfl, rfl, rfl, by decide +kernel, rfl, by decide +kernel, by decide +kernel⟩
section
variable {P : Program} {w : World} {K : PySem.W.Frag} {mg : Str → Option Value} {base : Heap}
/-! ### any_from -/
def spAny (K : PySem.W.Frag) : Sp := fun vs H Q _ => ∃ (a : Addr) (ns : List Int) (b : Int), vs = [.ref a, .int b] ∧ SqL K H a (ns.map V.int) ∧ ns.length ≤ 10000 ∧ ∀ H', Same H H' → Q (.bl (ns.any fun x => decide (b ≤ x))) H'
theorem ok_any {f : Addr} {fd : FuncData} {k : Nat} (F : Fun K "any_from" "any_from" sAny f fd) (ma : mg "any" = none) : FnOk P w K mg base CX0 (k + 1) f fd ["numbers", "bound"] (spAny K) := by
  refine F.ok scAny (fun vs H Q E h => ?_) (fun cdv A outer s H vs Q E hr h => ?_)
  · obtain ⟨a, ns, b, rfl, _⟩ := h
    rfl
  · obtain ⟨a, ns, b, rfl, hS, hn, q⟩ := h
    refine ⟨_, pss_one (ps_ret (pe_callB (cr_any rfl) (by rfl) ma (by decide +kernel) (pa_cons
      (pe_lc (own := [("number", 2)]) (g := gName 2) (tt := tYes) (by rfl) scAny.nd (pi_list (pv 0)) (blkOk_by (own := [("number", 2)]) (N := ["numbers", "bound", "number"]) (sc := defScope sAny) (by decide +kernel))
        (fun _ _ _ _ _ => pg_name (i := 2) scAny.nd rfl (Or.inl rfl)) (fun _ _ _ _ _ => pts_nil)
        (fun _ _ _ _ _ => pe_cmpR op_ge (pv 2) (pv 1) (nomark _))) pa_nil))), ?_⟩
    refine ⟨_, rfl, a, rfl, ⟨_, hS⟩, fun D nD => ?_⟩
    refine lc_list (K := K) (a := a) (xs := ns.map V.int) (fun i H' => Same H H' ∧ H' D = some (.lst (((ns.take i).map fun x => decide (b ≤ x)).map V.bl))) ⟨same_upd nD, upd_same⟩ (fun i H' _ h => h.1.seq hS) (fun i x H' hx h => ?_) (fun H' h => ?_)
    · obtain ⟨sm, hD⟩ := h
      rw [List.getElem?_map] at hx
      obtain ⟨z, hz, rfl⟩ := Option.map_eq_some_iff.mp hx
      refine ⟨rfl, ?_⟩
      refine ⟨_, rfl, _, rfl, _, _, rfl, rfl, _, hD, ?_, ?_, ?_⟩
      · rw [List.length_map, List.length_map, List.length_take]
        exact Nat.lt_of_le_of_lt (Nat.min_le_right _ _) (Nat.lt_of_le_of_lt hn (by decide))
      · intro b o e
        rw [upd_ne (ne_of_none e nD)]
        exact sm b o e
      · rw [upd_same, List.take_add_one, hz, List.map_append, List.map_append]
        rfl
    · obtain ⟨sm, hD⟩ := h
      rw [List.length_map, List.take_length] at hD
      refine ⟨D, ns.map fun x => decide (b ≤ x), rfl, SqL.of hD, ?_⟩
      have e : (ns.map fun x => decide (b ≤ x)).any id = ns.any fun x => decide (b ≤ x) := by
        rw [List.any_map]
        rfl
      rw [e]
      exact q _ sm
end
end Tm

namespace Tm
open PySem PySem.Spec PyProof.Rows L2
open PySem.W (Codec)
abbrev sOff : Stmt := topS 16
theorem scOff : FnScope ["numbers"] ["numbers"] (defScope sOff) := ⟨rfl, rfl, rfl, by decide +kernel, rfl, by decide +kernel, by decide +kernel⟩
section
variable {P : Program} {w : World} {K : PySem.W.Frag} {mg : Str → Option Value} {base : Heap}
/-! ### off_the_chip -/
def spOff (K : PySem.W.Frag) : Sp := fun vs H Q _ => ∃ (a : Addr) (ns : List Int), vs = [.ref a] ∧ SqL K H a (ns.map V.int) ∧ ns.length ≤ 10000 ∧ ∀ H', Same H H' → Q (.bl (ns.any fun x => decide (8192 ≤ x))) H'
theorem ok_off {f fA : Addr} {fd fdA : FuncData} {k : Nat} {t0 : Tok} (F : Fun K "off_the_chip" "off_the_chip" sOff f fd) (FA : Fun K "any_from" "any_from" sAny fA fdA) (bA : Binds K fdA ["numbers", "bound"] []) (gA : mg "any_from" = some (.ref fA)) (ma : mg "any" = none) (mb : mg "PLACES_BELOW" = some (.int 8192 t0)) : FnOk P w K mg base CX0 (k + 2) f fd ["numbers"] (spOff K) := by
  have GA : FnOk P w K mg base CX0 (k + 1) fA fdA ["numbers", "bound"] (spAny K) := ok_any FA ma
  refine F.ok scOff (fun vs H Q E h => ?_) (fun cdv A outer s H vs Q E hr h => ?_)
  · obtain ⟨a, ns, rfl, _⟩ := h
    rfl
  · obtain ⟨a, ns, rfl, hS, hn, q⟩ := h
    refine ⟨_, pss_one (ps_ret (pe_call GA hr (by rfl) gA FA.kp bA .nil pass0 (pa_cons (pv 0) (pa_cons (pe_glob (v := .int 8192) (by rfl) mb ⟨_, rfl⟩) pa_nil)))), ?_⟩
    exact ⟨_, rfl, a, ns, 8192, rfl, hS, hn, q⟩
end
end Tm

namespace Tm
open PySem PySem.Spec PyProof.Rows L2
open PySem.W (Codec)
abbrev sFar : Stmt := topS 17
theorem scFar : FnScope ["x", "y", "u", "v"] ["x", "y", "u", "v"] (defScope sFar) := ⟨rfl, rfl, rfl, by decide +kernel, rfl, by decide +kernel, by decide +kernel⟩
section
variable {P : Program} {w : World} {K : PySem.W.Frag} {mg : Str → Option Value} {base : Heap}
/-! ### how_far -/
def spFar : Sp := fun vs H Q _ => ∃ (x y u v : Int), vs = [.int x, .int y, .int u, .int v] ∧ (-18446744073709551616 < x - u ∧ x - u < 18446744073709551616) ∧ (-18446744073709551616 < y - v ∧ y - v < 18446744073709551616) ∧ Q (.int ((x - u) * (x - u) + (y - v) * (y - v))) H
theorem ok_far {f : Addr} {fd : FuncData} {k : Nat} (F : Fun K "how_far" "how_far" sFar f fd) : FnOk P w K mg base CX0 (k + 1) f fd ["x", "y", "u", "v"] spFar := by
  refine F.ok scFar (fun vs H Q E h => ?_) (fun cdv A outer s H vs Q E hr h => ?_)
  · obtain ⟨x, y, u, v, rfl, _⟩ := h
    rfl
  · obtain ⟨x, y, u, v, rfl, h1, h2, q⟩ := h
    refine ⟨_, pss_one (ps_ret (pe_op op_add (pe_op op_mul (pe_op op_sub (pv 0) (pv 2)) (pe_op op_sub (pv 0) (pv 2))) (pe_op op_mul (pe_op op_sub (pv 1) (pv 3)) (pe_op op_sub (pv 1) (pv 3))))), ?_⟩
    refine ⟨_, rfl, _, rfl, _, _, rfl, rfl, _, rfl, _, rfl, _, _, rfl, rfl, _, _, rfl, rfl, .inl h1, _, rfl, _, rfl, _, _, rfl, rfl, _, rfl, _, rfl, _, _, rfl, rfl, _, _, rfl, rfl, .inl h2, _, _, rfl, rfl, ?_⟩
    exact q
end
end Tm

namespace Tm
open PySem PySem.Spec PyProof.Rows L2
open PySem.W (Codec)
abbrev sRound : Stmt := topS 18
theorem scRound : FnScope ["above", "below"] ["above", "below"] (defScope sRound) := ⟨rfl, rfl, rfl, by decide +kernel, rfl, by decide +kernel, by decide +kernel⟩
section
variable {P : Program} {w : World} {K : PySem.W.Frag} {mg : Str → Option Value} {base : Heap}
/-! ### rounded -/
def spRound : Sp := fun vs H Q _ => ∃ (x y : Int), vs = [.int x, .int y] ∧ 0 < y ∧ y.natAbs ≤ 2 ^ 64 ∧ Q (.int (Sh68.near x y)) H
theorem ok_round {f : Addr} {fd : FuncData} {k : Nat} (F : Fun K "rounded" "rounded" sRound f fd) : FnOk P w K mg base CX0 (k + 1) f fd ["above", "below"] spRound := by
  refine F.ok scRound (fun vs H Q E h => ?_) (fun cdv A outer s H vs Q E hr h => ?_)
  · obtain ⟨x, y, rfl, _⟩ := h
    rfl
  · obtain ⟨x, y, rfl, h1, h2, q⟩ := h
    refine ⟨_, pss_one (ps_ret (pe_op op_fdivW (pe_op op_add (pe_op op_mul pe_int (pv 0)) (pv 1)) (pe_op op_mul pe_int (pv 1)))), ?_⟩
    have hb : (2 * y).natAbs < 2 ^ 66 := by omega
    refine ⟨_, rfl, _, _, rfl, rfl, .inl ⟨by decide, by decide⟩, _, rfl, _, _, rfl, rfl, _, rfl, _, _, rfl, rfl, .inl ⟨by decide, by decide⟩, _, _, rfl, rfl, wide_div (by omega) hb (by decide) (by decide), ?_⟩
    exact q
end
end Tm

namespace Tm
open PySem PySem.Spec PyProof.Rows L2
open PySem.W (Codec)
abbrev sWord : Stmt := topS 19
theorem scWord : FnScope ["number"] ["number"] (defScope sWord) := ⟨rfl, rfl, rfl, by decide +kernel, rfl, by decide +kernel, by decide +kernel⟩
section
variable {P : Program} {w : World} {K : PySem.W.Frag} {mg : Str → Option Value} {base : Heap}
/-! ### word -/
def spWord : Sp := fun vs H Q _ => ∃ (x : Int), vs = [.int x] ∧ Q (.int ((Sh68.wordOf x : Nat) : Int)) H
theorem ok_word {f : Addr} {fd : FuncData} {k : Nat} {t : Tok} (F : Fun K "word" "word" sWord f fd) (mW : mg "WORDS" = some (.int 4294967296 t)) : FnOk P w K mg base CX0 (k + 1) f fd ["number"] spWord := by
  refine F.ok scWord (fun vs H Q E h => ?_) (fun cdv A outer s H vs Q E hr h => ?_)
  · obtain ⟨x, rfl, _⟩ := h
    rfl
  · obtain ⟨x, rfl, q⟩ := h
    refine ⟨_, pss_one (ps_ret (pe_op op_mod (pv 0) (pe_glob (v := .int 4294967296) (by rfl) mW ⟨_, rfl⟩))), ?_⟩
    refine ⟨_, rfl, _, _, rfl, rfl, (by show (0 : Int) < 4294967296; decide), ?_⟩
    rw [word_is] at q
    exact q
end
end Tm

namespace Tm
open PySem PySem.Spec PyProof.Rows L2
open PySem.W (Codec)
abbrev sProd : Stmt := topS 20
theorem scProd : FnScope ["these", "those", "k"] ["these", "those"] (defScope sProd) := ⟨rfl, rfl, rfl, by decide +kernel, rfl, by decide +kernel, by decide +kernel⟩
section
variable {P : Program} {w : World} {K : PySem.W.Frag} {mg : Str → Option Value} {base : Heap}
/-! ### products -/
def spProd (K : PySem.W.Frag) : Sp := fun vs H Q _ => ∃ (a b : Addr) (ns ms : List Int), vs = [.ref a, .ref b] ∧ SqL K H a (ns.map V.int) ∧ SqL K H b (ms.map V.int) ∧ Up 8192 ns ∧ ns.length = ms.length ∧ ns.length ≤ 1000 ∧ ∀ H', Same H H' → Q (.int (dot ns ms)) H'
theorem ok_prod {f : Addr} {fd : FuncData} {k : Nat} (F : Fun K "products" "products" sProd f fd) (ms : mg "sum" = none) (mr : mg "range" = none) (ml : mg "len" = none) : FnOk P w K mg base CX0 (k + 1) f fd ["these", "those"] (spProd K) := by
  refine F.ok scProd (fun vs H Q E h => ?_) (fun cdv A outer s H vs Q E hr h => ?_)
  · obtain ⟨a, b, ns, ms, rfl, _⟩ := h
    rfl
  · obtain ⟨a, b, ns, zs, rfl, hS, hT, hU, hl, hn, q⟩ := h
    refine ⟨_, pss_one (ps_ret (pe_callB (cr_sum rfl) (by rfl) ms (by decide +kernel) (pa_cons
      (pe_lc (own := [("k", 2)]) (g := gName 2) (tt := tYes) (by rfl) scProd.nd (pi_range1 (by rfl) mr (pa_cons (pe_callB call_len_seq (by rfl) ml PySem.boot_len (pa_cons (pv 0) pa_nil)) pa_nil)) (blkOk_by (own := [("k", 2)]) (N := ["these", "those", "k"]) (sc := defScope sProd) (by decide +kernel))
        (fun _ _ _ _ _ => pg_name (i := 2) scProd.nd rfl (Or.inl rfl)) (fun _ _ _ _ _ => pts_nil)
        (fun _ _ _ _ _ => pe_op op_mul (pe_ix (r := rIxL K) ix_list (pv 0) (pv 2) (fun _ _ => rfl)) (pe_ix (r := rIxL K) ix_list (pv 1) (pv 2) (fun _ _ => rfl)))) pa_nil))), ?_⟩
    refine ⟨_, rfl, a, _, rfl, .inl hS, ((ns.length : Nat) : Int), by rw [List.length_map], by omega, by omega, fun D nD => ?_⟩
    refine lc_range (lo := 0) (n := ((ns.length : Nat) : Int).toNat) (fun i H' => Same H H' ∧ H' D = some (.lst (((List.range i).map fun k => at_ ns k * at_ zs k).map V.int))) ⟨same_upd nD, upd_same⟩ (fun i H' hi h => ?_) (fun H' h => ?_)
    · obtain ⟨sm, hD⟩ := h
      have hi' : i < ns.length := by omega
      have b1 := hU.at hi'
      refine ⟨rfl, ?_⟩
      refine ⟨_, rfl, _, rfl, a, _, _, _, rfl, rfl, sm.seq hS, at_map (i := i) (by omega) hi', _, rfl, _, rfl, b, _, _, _, rfl, rfl, sm.seq hT, at_map (i := i) (by omega) (by omega), _, _, rfl, rfl, .inl ⟨by omega, by omega⟩, _, hD, ?_, ?_, ?_⟩
      · rw [List.length_map, List.length_map, List.length_range]
        exact Nat.lt_of_lt_of_le hi' (Nat.le_trans hn (by decide))
      · intro b o e
        rw [upd_ne (ne_of_none e nD)]
        exact sm b o e
      · rw [upd_same, List.range_succ, List.map_append, List.map_append]
        rfl
    · obtain ⟨sm, hD⟩ := h
      rw [Int.toNat_natCast] at hD
      exact ⟨D, _, rfl, SqL.of hD, q _ sm⟩
end
end Tm

namespace Tm
open PySem PySem.Spec PyProof.Rows L2
open PySem.W (Codec)
abbrev sFit : Stmt := topS 21
theorem scFit : FnScope ["pairs", "xs", "ys", "us", "vs", "n", "x", "y", "u", "v", "g", "a", "b", "c", "d"] ["pairs"] (defScope sFit) := ⟨rfl, rfl, rfl, by decide +kernel, rfl, by decide +kernel, by decide +kernel⟩
section
variable {P : Program} {w : World} {K : PySem.W.Frag} {mg : Str → Option Value} {base : Heap}
/-! ### fit_of -/
theorem big_of {x : Int} {A : Nat} (h : x.natAbs ≤ A) (hA : A < 18446744073709551616) : -18446744073709551616 < x ∧ x < 18446744073709551616 := by omega
def ft (f : Sh68.Fit) : List V := [.int f.a, .int f.b, .int f.c, .int f.d, .int f.over]
def spFit (K : PySem.W.Frag) : Sp := fun vs H Q _ => ∃ (p : Addr) (ps : List Int) (m : Nat), vs = [.ref p] ∧ SqL K H p (ps.map V.int) ∧ Up 8192 ps ∧ ps.length = 4 * m ∧ m ≤ 32 ∧
  (fitG (prs ps) = 0 → ∀ H', Same H H' → Q .non H') ∧ (fitG (prs ps) ≠ 0 → ∀ H' t, Same H H' → H t = none → H' t = some (.tup (ft (fitOf (prs ps)))) → Q (.ref t) H')
theorem ok_fit {f fP : Addr} {fd fdP : FuncData} {k : Nat} (F : Fun K "fit_of" "fit_of" sFit f fd) (FP : Fun K "products" "products" sProd fP fdP) (bP : Binds K fdP ["these", "those"] []) (gP : mg "products" = some (.ref fP)) (GP : FnOk P w K mg base CX0 (k + 1) fP fdP ["these", "those"] (spProd K))
    (ml : mg "len" = none) (ms : mg "sum" = none) : FnOk P w K mg base CX0 (k + 2) f fd ["pairs"] (spFit K) := by
  refine F.ok scFit (fun vs H Q E h => ?_) (fun cdv A outer s H vs Q E hr h => ?_)
  · obtain ⟨p, ps, m, rfl, _⟩ := h
    rfl
  · obtain ⟨p, ps, m, rfl, hS, hU, hl, hm, q0, q1⟩ := h
    have nd := scFit.nd
    refine ⟨_, pss_consN (ps_set (i := 1) scFit.nd rfl (.inl rfl) (pe_step (i := 0) (c := 4) (by decide) (pv 0)))
      (pss_consN (ps_set (i := 2) scFit.nd rfl (.inl rfl) (pe_step (i := 1) (c := 4) (by decide) (pv 0)))
      (pss_consN (ps_set (i := 3) scFit.nd rfl (.inl rfl) (pe_step (i := 2) (c := 4) (by decide) (pv 0)))
      (pss_consN (ps_set (i := 4) scFit.nd rfl (.inl rfl) (pe_step (i := 3) (c := 4) (by decide) (pv 0)))
      (pss_consN (ps_set (i := 5) scFit.nd rfl (.inl rfl) (pe_callB call_len_seq (by rfl) ml PySem.boot_len (pa_cons (pv 1) pa_nil)))
      (pss_consN (ps_set (i := 6) scFit.nd rfl (.inl rfl) (pe_callB (cr_sum rfl) (by rfl) ms (by decide +kernel) (pa_cons (pv 1) pa_nil)))
      (pss_consN (ps_set (i := 7) scFit.nd rfl (.inl rfl) (pe_callB (cr_sum rfl) (by rfl) ms (by decide +kernel) (pa_cons (pv 2) pa_nil)))
      (pss_consN (ps_set (i := 8) scFit.nd rfl (.inl rfl) (pe_callB (cr_sum rfl) (by rfl) ms (by decide +kernel) (pa_cons (pv 3) pa_nil)))
      (pss_consN (ps_set (i := 9) scFit.nd rfl (.inl rfl) (pe_callB (cr_sum rfl) (by rfl) ms (by decide +kernel) (pa_cons (pv 4) pa_nil)))
      (pss_consN (ps_set (i := 10) scFit.nd rfl (.inl rfl) (pe_op op_sub (pe_op op_sub (pe_op op_mul (pv 5) (pe_op op_add (pe_call GP hr (by rfl) gP FP.kp bP .nil pass0 (pa_cons (pv 1) (pa_cons (pv 1) pa_nil))) (pe_call GP hr (by rfl) gP FP.kp bP .nil pass0 (pa_cons (pv 2) (pa_cons (pv 2) pa_nil))))) (pe_op op_mul (pv 6) (pv 6))) (pe_op op_mul (pv 7) (pv 7))))
      (pss_cons (ps_if (pt_cmpR op_eq (pv 10) pe_int (nomark _)) (pss_one (ps_ret pe_non)) pss_nil)
      (pss_consN (ps_set (i := 11) scFit.nd rfl (.inl rfl) (pe_op op_sub (pe_op op_sub (pe_op op_mul (pv 5) (pe_op op_add (pe_call GP hr (by rfl) gP FP.kp bP .nil pass0 (pa_cons (pv 1) (pa_cons (pv 3) pa_nil))) (pe_call GP hr (by rfl) gP FP.kp bP .nil pass0 (pa_cons (pv 2) (pa_cons (pv 4) pa_nil))))) (pe_op op_mul (pv 6) (pv 8))) (pe_op op_mul (pv 7) (pv 9))))
      (pss_consN (ps_set (i := 12) scFit.nd rfl (.inl rfl) (pe_op op_add (pe_op op_sub (pe_op op_mul (pv 5) (pe_op op_sub (pe_call GP hr (by rfl) gP FP.kp bP .nil pass0 (pa_cons (pv 1) (pa_cons (pv 4) pa_nil))) (pe_call GP hr (by rfl) gP FP.kp bP .nil pass0 (pa_cons (pv 2) (pa_cons (pv 3) pa_nil))))) (pe_op op_mul (pv 6) (pv 9))) (pe_op op_mul (pv 7) (pv 8))))
      (pss_consN (ps_set (i := 13) scFit.nd rfl (.inl rfl) (pe_op op_sub (pe_op op_mul (pv 8) (pv 10)) (pe_op op_sub (pe_op op_mul (pv 11) (pv 6)) (pe_op op_mul (pv 12) (pv 7)))))
      (pss_consN (ps_set (i := 14) scFit.nd rfl (.inl rfl) (pe_op op_sub (pe_op op_mul (pv 9) (pv 10)) (pe_op op_add (pe_op op_mul (pv 12) (pv 6)) (pe_op op_mul (pv 11) (pv 7)))))
      (pss_one (ps_ret (pe_tup (pa_cons (pe_op op_mul (pv 5) (pv 11)) (pa_cons (pe_op op_mul (pv 5) (pv 12)) (pa_cons (pv 13) (pa_cons (pv 14) (pa_cons (pe_op op_mul (pv 5) (pv 10)) pa_nil)))))))))))))))))))))), ?_⟩
    have hp := hU.pos
    have B : FitBd (prs ps) := fit_bd (prs_13 hU) (by rw [prs_len]; omega)
    have u0 := col_up hU (j := 0) (m := m) (by decide) hl
    have u1 := col_up hU (j := 1) (m := m) (by decide) hl
    have l0 := col_len ps 0 m
    have hm1 : (col ps 0 m).length ≤ 1000 := by rw [l0]; omega
    have hm2 : (col ps 1 m).length ≤ 1000 := by rw [col_len]; omega
    have l1 := col_len ps 1 m
    have l2 := col_len ps 2 m
    have l3 := col_len ps 3 m
    have k0 : pick (ps.map V.int) 0 4 = (col ps 0 m).map V.int := (pick_ints (by decide) hl).trans (by unfold col; rw [List.map_map]; rfl)
    have k1 : pick (ps.map V.int) 1 4 = (col ps 1 m).map V.int := (pick_ints (by decide) hl).trans (by unfold col; rw [List.map_map]; rfl)
    have k2 : pick (ps.map V.int) 2 4 = (col ps 2 m).map V.int := (pick_ints (by decide) hl).trans (by unfold col; rw [List.map_map]; rfl)
    have k3 : pick (ps.map V.int) 3 4 = (col ps 3 m).map V.int := (pick_ints (by decide) hl).trans (by unfold col; rw [List.map_map]; rfl)
    have en := n_col hp hl
    have ex := sx_col hp hl
    have ey := sy_col hp hl
    have eu := su_col hp hl
    have ev := sv_col hp hl
    have exx := xx_col hp hl
    have exu := xu_col hp hl
    have exv := xv_col hp hl
    generalize hD : prs ps = D at *
    refine ⟨_, rfl, p, _, rfl, hS, fun a0 n0 => ⟨[some (.ref p), some (.ref a0), none, none, none, none, none, none, none, none, none, none, none, none, none], rfl, ?_⟩⟩
    rw [k0]
    have s0 := same_upd (o := .lst ((col ps 0 m).map V.int)) n0
    have a0h : upd H a0 (.lst ((col ps 0 m).map V.int)) a0 = some (.lst ((col ps 0 m).map V.int)) := upd_same
    generalize upd H a0 (.lst ((col ps 0 m).map V.int)) = H0 at *
    refine ⟨_, rfl, p, _, rfl, s0.seq hS, fun a1 n1 => ?_⟩
    refine ⟨_, by dsimp only [List.set_cons_succ, List.set_cons_zero], ?_⟩
    rw [k1]
    have s1' := same_upd (o := .lst ((col ps 1 m).map V.int)) n1
    have s1 := s0.trans s1'
    have a0h := s1' _ _ a0h
    have a1h : upd H0 a1 (.lst ((col ps 1 m).map V.int)) a1 = some (.lst ((col ps 1 m).map V.int)) := upd_same
    clear s1'
    generalize upd H0 a1 (.lst ((col ps 1 m).map V.int)) = H1 at *
    refine ⟨_, rfl, p, _, rfl, s1.seq hS, fun a2 n2 => ?_⟩
    refine ⟨_, by dsimp only [List.set_cons_succ, List.set_cons_zero], ?_⟩
    rw [k2]
    have s2' := same_upd (o := .lst ((col ps 2 m).map V.int)) n2
    have s2 := s1.trans s2'
    have a0h := s2' _ _ a0h
    have a1h := s2' _ _ a1h
    have a2h : upd H1 a2 (.lst ((col ps 2 m).map V.int)) a2 = some (.lst ((col ps 2 m).map V.int)) := upd_same
    clear s2'
    generalize upd H1 a2 (.lst ((col ps 2 m).map V.int)) = H2 at *
    refine ⟨_, rfl, p, _, rfl, s2.seq hS, fun a3 n3 => ?_⟩
    refine ⟨_, by dsimp only [List.set_cons_succ, List.set_cons_zero], ?_⟩
    rw [k3]
    have s3' := same_upd (o := .lst ((col ps 3 m).map V.int)) n3
    have s3 := s2.trans s3'
    have a0h := s3' _ _ a0h
    have a1h := s3' _ _ a1h
    have a2h := s3' _ _ a2h
    have a3h : upd H2 a3 (.lst ((col ps 3 m).map V.int)) a3 = some (.lst ((col ps 3 m).map V.int)) := upd_same
    clear s3'
    generalize upd H2 a3 (.lst ((col ps 3 m).map V.int)) = H3 at *
    have en' : (((col ps 0 m).map V.int).length : Int) = fitN D := by rw [List.length_map, l0, en]
    -- n, x, y, u, v
    refine ⟨_, rfl, a0, _, rfl, .inl (SqL.of a0h), ?_⟩
    refine ⟨_, by dsimp only [List.set_cons_succ, List.set_cons_zero], ?_⟩
    rw [en']
    refine ⟨_, rfl, a0, _, rfl, SqL.of a0h, ?_⟩
    refine ⟨_, by dsimp only [List.set_cons_succ, List.set_cons_zero], ?_⟩
    refine ⟨_, rfl, a1, _, rfl, SqL.of a1h, ?_⟩
    refine ⟨_, by dsimp only [List.set_cons_succ, List.set_cons_zero], ?_⟩
    refine ⟨_, rfl, a2, _, rfl, SqL.of a2h, ?_⟩
    refine ⟨_, by dsimp only [List.set_cons_succ, List.set_cons_zero], ?_⟩
    refine ⟨_, rfl, a3, _, rfl, SqL.of a3h, ?_⟩
    refine ⟨_, by dsimp only [List.set_cons_succ, List.set_cons_zero], ?_⟩
    rw [← ex, ← ey, ← eu, ← ev]
    have bn := big_of B.n (by decide)
    have bx := big_of B.sx (by decide)
    have by_ := big_of B.sy (by decide)
    have bu := big_of B.su (by decide)
    have bv := big_of B.sv (by decide)
    clear en en' ex ey eu ev
    -- g
    refine ⟨_, rfl, _, rfl, _, rfl, a0, a0, _, _, rfl, SqL.of a0h, SqL.of a0h, u0, rfl, hm1, fun H4 s4 => ?_⟩
    refine ⟨_, rfl, _, rfl, a1, a1, _, _, rfl, SqL.of (s4 _ _ a1h), SqL.of (s4 _ _ a1h), u1, rfl, hm2, fun H5 s5 => ?_⟩
    have t5 := s4.trans s5
    refine ⟨_, _, rfl, rfl, _, _, rfl, rfl, .inl bn, _, rfl, _, rfl, _, _, rfl, rfl, .inl bx, _, _, rfl, rfl, _, rfl, _, rfl, _, _, rfl, rfl, .inl by_, _, _, rfl, rfl, ?_⟩
    refine ⟨_, by dsimp only [List.set_cons_succ, List.set_cons_zero], ?_⟩
    rw [← exx]
    have eg : fitN D * fitXX D - fitSx D * fitSx D - fitSy D * fitSy D = fitG D := by unfold fitG; omega
    rw [eg]
    refine ⟨_, rfl, rfl, _, rfl, ite2 (fun e => ?_) (fun e => ?_)⟩
    · exact q0 (V.int.inj (of_decide_eq_true e)) _ (s3.trans t5)
    have hg : fitG D ≠ 0 := fun z => e (decide_eq_true (by rw [z]))
    clear e
    -- a
    refine ⟨_, rfl, _, rfl, _, rfl, a0, a2, _, _, rfl, SqL.of (t5 _ _ a0h), SqL.of (t5 _ _ a2h), u0, by rw [l0, l2], hm1, fun H6 s6 => ?_⟩
    have t6 := t5.trans s6
    refine ⟨_, rfl, _, rfl, a1, a3, _, _, rfl, SqL.of (t6 _ _ a1h), SqL.of (t6 _ _ a3h), u1, by rw [l1, l3], hm2, fun H7 s7 => ?_⟩
    have t7 := t6.trans s7
    refine ⟨_, _, rfl, rfl, _, _, rfl, rfl, .inl bn, _, rfl, _, rfl, _, _, rfl, rfl, .inl bx, _, _, rfl, rfl, _, rfl, _, rfl, _, _, rfl, rfl, .inl by_, _, _, rfl, rfl, ?_⟩
    refine ⟨_, by dsimp only [List.set_cons_succ, List.set_cons_zero], ?_⟩
    rw [← exu]
    have ea : fitN D * fitXU D - fitSx D * fitSu D - fitSy D * fitSv D = fitA D := by unfold fitA; omega
    rw [ea]
    -- b
    refine ⟨_, rfl, _, rfl, _, rfl, a0, a3, _, _, rfl, SqL.of (t7 _ _ a0h), SqL.of (t7 _ _ a3h), u0, by rw [l0, l3], hm1, fun H8 s8 => ?_⟩
    have t8 := t7.trans s8
    refine ⟨_, rfl, _, rfl, a1, a2, _, _, rfl, SqL.of (t8 _ _ a1h), SqL.of (t8 _ _ a2h), u1, by rw [l1, l2], hm2, fun H9 s9 => ?_⟩
    have t9 := t8.trans s9
    refine ⟨_, _, rfl, rfl, _, _, rfl, rfl, .inl bn, _, rfl, _, rfl, _, _, rfl, rfl, .inl bx, _, _, rfl, rfl, _, rfl, _, rfl, _, _, rfl, rfl, .inl by_, _, _, rfl, rfl, ?_⟩
    refine ⟨_, by dsimp only [List.set_cons_succ, List.set_cons_zero], ?_⟩
    rw [← exv]
    have eb : fitN D * fitXV D - fitSx D * fitSv D + fitSy D * fitSu D = fitB D := by unfold fitB; omega
    rw [eb]
    -- c, d
    refine ⟨_, rfl, _, rfl, _, _, rfl, rfl, .inl bu, _, rfl, _, rfl, _, _, rfl, rfl, .inr bx, _, rfl, _, rfl, _, _, rfl, rfl, .inr by_, _, _, rfl, rfl, _, _, rfl, rfl, ?_⟩
    refine ⟨_, by dsimp only [List.set_cons_succ, List.set_cons_zero], ?_⟩
    refine ⟨_, rfl, _, rfl, _, _, rfl, rfl, .inl bv, _, rfl, _, rfl, _, _, rfl, rfl, .inr bx, _, rfl, _, rfl, _, _, rfl, rfl, .inr by_, _, _, rfl, rfl, _, _, rfl, rfl, ?_⟩
    refine ⟨_, by dsimp only [List.set_cons_succ, List.set_cons_zero], ?_⟩
    refine ⟨_, rfl, _, rfl, _, _, rfl, rfl, .inl bn, ?_⟩
    refine ⟨_, rfl, _, rfl, _, _, rfl, rfl, .inl bn, ?_⟩
    refine ⟨_, rfl, ?_⟩
    refine ⟨_, rfl, ?_⟩
    refine ⟨_, rfl, _, rfl, ?_⟩
    refine ⟨_, _, rfl, rfl, .inl bn, ?_⟩
    refine ⟨(by show 5 ≤ sizeLine; decide), fun t nt => ?_⟩
    have sA := s3.trans t9
    exact q1 hg _ t (sA.trans (same_upd nt)) (sA.free nt) upd_same
end
end Tm

namespace Tm
open PySem PySem.Spec PyProof.Rows L2
open PySem.W (Codec)
abbrev sCarried : Stmt := topS 23
theorem scCarried : FnScope ["fit", "x", "y", "across", "along"] ["fit", "x", "y"] (defScope sCarried) := ⟨rfl, rfl, rfl, by decide +kernel, rfl, by decide +kernel, by decide +kernel⟩
section
variable {P : Program} {w : World} {K : PySem.W.Frag} {mg : Str → Option Value} {base : Heap}
/-! ### carried -/
def spCarried (K : PySem.W.Frag) : Sp := fun vs H Q _ => ∃ (t : Addr) (f : Sh68.Fit) (x y : Int), vs = [.ref t, .int x, .int y] ∧ H t = some (.tup (ft f)) ∧ FitSz f ∧ x.natAbs ≤ 8192 ∧ y.natAbs ≤ 8192 ∧
  ∀ H' r, Same H H' → H r = none → H' r = some (.tup [.int (Sh68.carried f (x, y)).1, .int (Sh68.carried f (x, y)).2]) → Q (.ref r) H'
theorem ok_carried {f fR : Addr} {fd fdR : FuncData} {k : Nat} {t1 t2 t3 t4 t5 : Tok} (F : Fun K "carried" "carried" sCarried f fd) (FR : Fun K "rounded" "rounded" sRound fR fdR) (bR : Binds K fdR ["above", "below"] []) (gR : mg "rounded" = some (.ref fR)) (GR : FnOk P w K mg base CX0 (k + 1) fR fdR ["above", "below"] spRound)
    (m1 : mg "NA" = some (.int 0 t1)) (m2 : mg "NB" = some (.int 1 t2)) (m3 : mg "C" = some (.int 2 t3)) (m4 : mg "D" = some (.int 3 t4)) (m5 : mg "NG" = some (.int 4 t5)) : FnOk P w K mg base CX0 (k + 2) f fd ["fit", "x", "y"] (spCarried K) := by
  refine F.ok scCarried (fun vs H Q E h => ?_) (fun cdv A outer s H vs Q E hr h => ?_)
  · obtain ⟨t, f, x, y, rfl, _⟩ := h
    rfl
  · obtain ⟨t, f, x, y, rfl, ht, S, hx, hy, q⟩ := h
    refine ⟨_, pss_cons (ps_set (i := 3) scCarried.nd rfl (.inl rfl) (pe_op op_add (pe_op op_sub (pe_op op_mul (pe_ix ix_tup (pv 0) (pe_glob (v := .int 0) (by rfl) m1 ⟨_, rfl⟩) (fun _ _ => rfl)) (pv 1)) (pe_op op_mul (pe_ix ix_tup (pv 0) (pe_glob (v := .int 1) (by rfl) m2 ⟨_, rfl⟩) (fun _ _ => rfl)) (pv 2))) (pe_ix ix_tup (pv 0) (pe_glob (v := .int 2) (by rfl) m3 ⟨_, rfl⟩) (fun _ _ => rfl))))
      (pss_cons (ps_set (i := 4) scCarried.nd rfl (.inl rfl) (pe_op op_add (pe_op op_add (pe_op op_mul (pe_ix ix_tup (pv 0) (pe_glob (v := .int 1) (by rfl) m2 ⟨_, rfl⟩) (fun _ _ => rfl)) (pv 1)) (pe_op op_mul (pe_ix ix_tup (pv 0) (pe_glob (v := .int 0) (by rfl) m1 ⟨_, rfl⟩) (fun _ _ => rfl)) (pv 2))) (pe_ix ix_tup (pv 0) (pe_glob (v := .int 3) (by rfl) m4 ⟨_, rfl⟩) (fun _ _ => rfl))))
      (pss_one (ps_ret (pe_tup (pa_cons (pe_call GR hr (by rfl) gR FR.kp bR .nil pass0 (pa_cons (pv 3) (pa_cons (pe_ix ix_tup (pv 0) (pe_glob (v := .int 4) (by rfl) m5 ⟨_, rfl⟩) (fun _ _ => rfl)) pa_nil)))
        (pa_cons (pe_call GR hr (by rfl) gR FR.kp bR .nil pass0 (pa_cons (pv 4) (pa_cons (pe_ix ix_tup (pv 0) (pe_glob (v := .int 4) (by rfl) m5 ⟨_, rfl⟩) (fun _ _ => rfl)) pa_nil))) pa_nil)))))), ?_⟩
    have S1 := S.a
    have S2 := S.b
    have S5 := S.over
    have tt := SqT.of (K := K) ht
    refine ⟨_, rfl, t, _, _, _, rfl, rfl, tt, atI_nat (j := 0) rfl, _, rfl, _, _, rfl, rfl, .inl ⟨by omega, by omega⟩, _, rfl, t, _, _, _, rfl, rfl, tt, atI_nat (j := 1) rfl, _, rfl, _, _, rfl, rfl, .inl ⟨by omega, by omega⟩, _, _, rfl, rfl, _, rfl, t, _, _, _, rfl, rfl, tt, atI_nat (j := 2) rfl, _, _, rfl, rfl, ?_⟩
    refine ⟨_, rfl, t, _, _, _, rfl, rfl, tt, atI_nat (j := 1) rfl, _, rfl, _, _, rfl, rfl, .inl ⟨by omega, by omega⟩, _, rfl, t, _, _, _, rfl, rfl, tt, atI_nat (j := 0) rfl, _, rfl, _, _, rfl, rfl, .inl ⟨by omega, by omega⟩, _, _, rfl, rfl, _, rfl, t, _, _, _, rfl, rfl, tt, atI_nat (j := 3) rfl, _, _, rfl, rfl, ?_⟩
    refine ⟨_, rfl, _, rfl, t, _, _, _, rfl, rfl, tt, atI_nat (j := 4) rfl, _, _, rfl, S.pos, by omega, ?_⟩
    refine ⟨_, rfl, _, rfl, t, _, _, _, rfl, rfl, tt, atI_nat (j := 4) rfl, _, _, rfl, S.pos, by omega, (by show 2 ≤ sizeLine; decide), fun r nr => ?_⟩
    exact q _ r (same_upd nr) nr upd_same
end
end Tm

namespace Tm
open PySem PySem.Spec PyProof.Rows L2
open PySem.W (Codec)
abbrev sWords : Stmt := topS 22
theorem scWords : FnScope ["fit", "ng"] ["fit"] (defScope sWords) := ⟨rfl, rfl, rfl, by decide +kernel, rfl, by decide +kernel, by decide +kernel⟩
section
variable {P : Program} {w : World} {K : PySem.W.Frag} {mg : Str → Option Value} {base : Heap}
/-! ### words_of_fit -/
def toldW (f : Sh68.Fit) : List V := ((Sh68.told f).map fun z => ((Sh68.wordOf z : Nat) : Int)).map V.int
def spWords : Sp := fun vs H Q _ => ∃ (t : Addr) (f : Sh68.Fit), vs = [.ref t] ∧ H t = some (.tup (ft f)) ∧ FitSz f ∧
  ∀ H' r, Same H H' → H r = none → H' r = some (.lst (toldW f)) → Q (.ref r) H'
theorem ok_words {f fR fW : Addr} {fd fdR fdW : FuncData} {k : Nat} {t1 t2 t3 t4 t5 t6 : Tok} (F : Fun K "words_of_fit" "words_of_fit" sWords f fd) (FR : Fun K "rounded" "rounded" sRound fR fdR) (bR : Binds K fdR ["above", "below"] []) (gR : mg "rounded" = some (.ref fR)) (GR : FnOk P w K mg base CX0 (k + 1) fR fdR ["above", "below"] spRound)
    (FW : Fun K "word" "word" sWord fW fdW) (bW : Binds K fdW ["number"] []) (gW : mg "word" = some (.ref fW)) (GW : FnOk P w K mg base CX0 (k + 1) fW fdW ["number"] spWord)
    (m1 : mg "NA" = some (.int 0 t1)) (m2 : mg "NB" = some (.int 1 t2)) (m3 : mg "C" = some (.int 2 t3)) (m4 : mg "D" = some (.int 3 t4)) (m5 : mg "NG" = some (.int 4 t5)) (m6 : mg "FIT_SCALE" = some (.int 16384 t6)) : FnOk P w K mg base CX0 (k + 2) f fd ["fit"] spWords := by
  refine F.ok scWords (fun vs H Q E h => ?_) (fun cdv A outer s H vs Q E hr h => ?_)
  · obtain ⟨t, f, rfl, _⟩ := h
    rfl
  · obtain ⟨t, f, rfl, ht, S, q⟩ := h
    refine ⟨_, pss_cons (ps_set (i := 1) scWords.nd rfl (.inl rfl) (pe_ix ix_tup (pv 0) (pe_glob (v := .int 4) (by rfl) m5 ⟨_, rfl⟩) (fun _ _ => rfl)))
      (pss_one (ps_ret (pe_lst
        (pa_cons (pe_call GW hr (by rfl) gW FW.kp bW .nil pass0 (pa_cons (pe_call GR hr (by rfl) gR FR.kp bR .nil pass0 (pa_cons (pe_op op_mul (pe_glob (v := .int 16384) (by rfl) m6 ⟨_, rfl⟩) (pe_ix ix_tup (pv 0) (pe_glob (v := .int 0) (by rfl) m1 ⟨_, rfl⟩) (fun _ _ => rfl))) (pa_cons (pv 1) pa_nil))) pa_nil))
        (pa_cons (pe_call GW hr (by rfl) gW FW.kp bW .nil pass0 (pa_cons (pe_call GR hr (by rfl) gR FR.kp bR .nil pass0 (pa_cons (pe_op op_mul (pe_glob (v := .int 16384) (by rfl) m6 ⟨_, rfl⟩) (pe_ix ix_tup (pv 0) (pe_glob (v := .int 1) (by rfl) m2 ⟨_, rfl⟩) (fun _ _ => rfl))) (pa_cons (pv 1) pa_nil))) pa_nil))
        (pa_cons (pe_call GW hr (by rfl) gW FW.kp bW .nil pass0 (pa_cons (pe_call GR hr (by rfl) gR FR.kp bR .nil pass0 (pa_cons (pe_ix ix_tup (pv 0) (pe_glob (v := .int 2) (by rfl) m3 ⟨_, rfl⟩) (fun _ _ => rfl)) (pa_cons (pv 1) pa_nil))) pa_nil))
        (pa_cons (pe_call GW hr (by rfl) gW FW.kp bW .nil pass0 (pa_cons (pe_call GR hr (by rfl) gR FR.kp bR .nil pass0 (pa_cons (pe_ix ix_tup (pv 0) (pe_glob (v := .int 3) (by rfl) m4 ⟨_, rfl⟩) (fun _ _ => rfl)) (pa_cons (pv 1) pa_nil))) pa_nil)) pa_nil))))))), ?_⟩
    have tt := SqT.of (K := K) ht
    have bo : f.over.natAbs ≤ 2 ^ 64 := Nat.le_trans S.over (by decide)
    refine ⟨_, rfl, t, _, _, _, rfl, rfl, tt, atI_nat (j := 4) rfl, ?_⟩
    refine ⟨_, rfl, t, _, _, _, rfl, rfl, tt, atI_nat (j := 0) rfl, _, _, rfl, rfl, .inl ⟨by decide, by decide⟩, _, rfl, _, _, rfl, S.pos, bo, _, rfl, ?_⟩
    refine ⟨_, rfl, t, _, _, _, rfl, rfl, tt, atI_nat (j := 1) rfl, _, _, rfl, rfl, .inl ⟨by decide, by decide⟩, _, rfl, _, _, rfl, S.pos, bo, _, rfl, ?_⟩
    refine ⟨_, rfl, t, _, _, _, rfl, rfl, tt, atI_nat (j := 2) rfl, _, rfl, _, _, rfl, S.pos, bo, _, rfl, ?_⟩
    refine ⟨_, rfl, t, _, _, _, rfl, rfl, tt, atI_nat (j := 3) rfl, _, rfl, _, _, rfl, S.pos, bo, _, rfl, (by show 4 ≤ sizeLine; decide), fun r nr => ?_⟩
    exact q _ r (same_upd nr) nr upd_same
end
end Tm

namespace Tm
open PySem PySem.Spec PyProof.Rows L2
open PySem.W (Codec)
abbrev sFarOff : Stmt := topS 24
theorem scFarOff : FnScope ["fit", "pairs", "pair", "to"] ["fit", "pairs", "pair"] (defScope sFarOff) := ⟨rfl, rfl, rfl, by decide +kernel, rfl, by decide +kernel, by decide +kernel⟩
theorem off_of {x u : Int} (h : x.natAbs ≤ 2 ^ 60) (hu : 0 ≤ u ∧ u < 8192) : -18446744073709551616 < x - u ∧ x - u < 18446744073709551616 := by omega
section
variable {P : Program} {w : World} {K : PySem.W.Frag} {mg : Str → Option Value} {base : Heap}
/-! ### how_far_off -/
def spFarOff (K : PySem.W.Frag) : Sp := fun vs H Q _ => ∃ (t p : Addr) (f : Sh68.Fit) (ps : List Int) (i : Nat), vs = [.ref t, .ref p, .int i] ∧ H t = some (.tup (ft f)) ∧ FitSz f ∧ SqL K H p (ps.map V.int) ∧ Up 8192 ps ∧ 4 * i + 3 < ps.length ∧
  ∀ H', Same H H' → Q (.int ((Sh68.miss f ((at_ ps (4 * i), at_ ps (4 * i + 1)), (at_ ps (4 * i + 2), at_ ps (4 * i + 3))) : Nat) : Int)) H'
theorem ok_faroff {f fC fH : Addr} {fd fdC fdH : FuncData} {k : Nat} (F : Fun K "how_far_off" "how_far_off" sFarOff f fd) (FC : Fun K "carried" "carried" sCarried fC fdC) (bC : Binds K fdC ["fit", "x", "y"] []) (gC : mg "carried" = some (.ref fC)) (GC : FnOk P w K mg base CX0 (k + 2) fC fdC ["fit", "x", "y"] (spCarried K))
    (FH : Fun K "how_far" "how_far" sFar fH fdH) (bH : Binds K fdH ["x", "y", "u", "v"] []) (gH : mg "how_far" = some (.ref fH)) (GH : FnOk P w K mg base CX0 (k + 2) fH fdH ["x", "y", "u", "v"] spFar) : FnOk P w K mg base CX0 (k + 3) f fd ["fit", "pairs", "pair"] (spFarOff K) := by
  refine F.ok scFarOff (fun vs H Q E h => ?_) (fun cdv A outer s H vs Q E hr h => ?_)
  · obtain ⟨t, p, f, ps, i, rfl, _⟩ := h
    rfl
  · obtain ⟨t, p, f, ps, i, rfl, ht, S, hS, hU, hi, q⟩ := h
    refine ⟨_, pss_cons (ps_set (i := 3) scFarOff.nd rfl (.inl rfl) (pe_call GC hr (by rfl) gC FC.kp bC .nil pass0 (pa_cons (pv 0) (pa_cons (pe_ix ix_list (pv 1) (pe_op op_mul pe_int (pv 2)) (fun _ _ => rfl)) (pa_cons (pe_ix ix_list (pv 1) (pe_op op_add (pe_op op_mul pe_int (pv 2)) pe_int) (fun _ _ => rfl)) pa_nil)))))
      (pss_one (ps_ret (pe_call GH hr (by rfl) gH FH.kp bH .nil pass0 (pa_cons (pe_ix ix_tup (pv 3) pe_int (fun _ _ => rfl)) (pa_cons (pe_ix ix_tup (pv 3) pe_int (fun _ _ => rfl))
        (pa_cons (pe_ix ix_list (pv 1) (pe_op op_add (pe_op op_mul pe_int (pv 2)) pe_int) (fun _ _ => rfl)) (pa_cons (pe_ix ix_list (pv 1) (pe_op op_add (pe_op op_mul pe_int (pv 2)) pe_int) (fun _ _ => rfl)) pa_nil))))))), ?_⟩
    have b0 := hU.at (i := 4 * i) (by omega)
    have b1 := hU.at (i := 4 * i + 1) (by omega)
    have b2 := hU.at (i := 4 * i + 2) (by omega)
    have b3 := hU.at hi
    refine ⟨_, rfl, _, rfl, _, rfl, _, _, rfl, rfl, .inl ⟨by decide, by decide⟩, p, _, _, _, rfl, rfl, hS, at_map (i := 4 * i) (by omega) (by omega), ?_⟩
    refine ⟨_, rfl, _, rfl, _, _, rfl, rfl, .inl ⟨by decide, by decide⟩, _, _, rfl, rfl, p, _, _, _, rfl, rfl, hS, at_map (i := 4 * i + 1) (by omega) (by omega), ?_⟩
    refine ⟨t, f, _, _, rfl, ht, S, by omega, by omega, fun H1 r s1 nr hr' => ?_⟩
    have bd := carried_bd S (p := (at_ ps (4 * i), at_ ps (4 * i + 1))) (show (at_ ps (4 * i)).natAbs ≤ 8192 by omega) (show (at_ ps (4 * i + 1)).natAbs ≤ 8192 by omega)
    have mi := miss_is f ((at_ ps (4 * i), at_ ps (4 * i + 1)), (at_ ps (4 * i + 2), at_ ps (4 * i + 3)))
    refine ⟨_, rfl, r, _, _, _, rfl, rfl, SqT.of hr', atI_nat (j := 0) rfl, ?_⟩
    refine ⟨_, rfl, r, _, _, _, rfl, rfl, SqT.of hr', atI_nat (j := 1) rfl, ?_⟩
    refine ⟨_, rfl, _, rfl, _, _, rfl, rfl, .inl ⟨by decide, by decide⟩, _, _, rfl, rfl, p, _, _, _, rfl, rfl, s1.seq hS, at_map (i := 4 * i + 2) (by omega) (by omega), ?_⟩
    refine ⟨_, rfl, _, rfl, _, _, rfl, rfl, .inl ⟨by decide, by decide⟩, _, _, rfl, rfl, p, _, _, _, rfl, rfl, s1.seq hS, at_map (i := 4 * i + 3) (by omega) (by omega), ?_⟩
    have q' := q H1 s1
    rw [mi] at q'
    have c1 := off_of bd.1 b2
    have c2 := off_of bd.2 b3
    exact ⟨_, _, _, _, rfl, c1, c2, q'⟩
end
end Tm

namespace Tm
open PySem PySem.Spec PyProof.Rows L2
open PySem.W (Codec)
abbrev sAllOff : Stmt := topS 25
theorem scAllOff : FnScope ["fit", "pairs", "pair"] ["fit", "pairs"] (defScope sAllOff) := ⟨rfl, rfl, rfl, by decide +kernel, rfl, by decide +kernel, by decide +kernel⟩
section
variable {P : Program} {w : World} {K : PySem.W.Frag} {mg : Str → Option Value} {base : Heap}
/-! ### all_far_off -/
theorem args3 {a b : V} {x y : Int} (h : x = y) : [a, b, V.int x] = [a, b, V.int y] := by rw [h]
def spAllOff (K : PySem.W.Frag) : Sp := fun vs H Q _ => ∃ (t p : Addr) (f : Sh68.Fit) (ps : List Int), vs = [.ref t, .ref p] ∧ H t = some (.tup (ft f)) ∧ FitSz f ∧ SqL K H p (ps.map V.int) ∧ Up 8192 ps ∧ ps.length ≤ 160 ∧
  ∀ H' D, Same H H' → H D = none → H' D = some (.lst (((prs ps).map fun x => ((Sh68.miss f x : Nat) : Int)).map V.int)) → Q (.ref D) H'
theorem ok_alloff {f fC fX : Addr} {fd fdC fdX : FuncData} {k : Nat} (F : Fun K "all_far_off" "all_far_off" sAllOff f fd) (FC : Fun K "pair_count" "pair_count" sPCount fC fdC) (bC : Binds K fdC ["pairs"] []) (gC : mg "pair_count" = some (.ref fC)) (GC : FnOk P w K mg base CX0 1 fC fdC ["pairs"] (spPCount K))
    (FX : Fun K "how_far_off" "how_far_off" sFarOff fX fdX) (bX : Binds K fdX ["fit", "pairs", "pair"] []) (gX : mg "how_far_off" = some (.ref fX)) (GX : FnOk P w K mg base CX0 (k + 3) fX fdX ["fit", "pairs", "pair"] (spFarOff K)) (mr : mg "range" = none) : FnOk P w K mg base CX0 (k + 4) f fd ["fit", "pairs"] (spAllOff K) := by
  refine F.ok scAllOff (fun vs H Q E h => ?_) (fun cdv A outer s H vs Q E hr h => ?_)
  · obtain ⟨t, p, f, ps, rfl, _⟩ := h
    rfl
  · obtain ⟨t, p, ff, ps, rfl, ht, S, hS, hU, hn, q⟩ := h
    have hr1 : Room 1 _ := hr.mono (by omega)
    refine ⟨_, pss_one (ps_ret (pe_lc (own := [("pair", 2)]) (g := gName 2) (tt := tYes) (by rfl) scAllOff.nd (pi_range1 (by rfl) mr (pa_cons (pe_call GC hr1 (by rfl) gC FC.kp bC .nil pass0 (pa_cons (pv 1) pa_nil)) pa_nil))
          (blkOk_by (own := [("pair", 2)]) (N := ["fit", "pairs", "pair"]) (sc := defScope sAllOff) (by decide +kernel))
          (fun _ _ _ _ _ => pg_name (i := 2) scAllOff.nd rfl (Or.inl rfl)) (fun _ _ _ _ _ => pts_nil)
          (fun _ _ _ _ _ => pe_call GX hr (by rfl) gX FX.kp bX .nil pass0 (pa_cons (pv 0) (pa_cons (pv 1) (pa_cons (pv 2) pa_nil)))))), ?_⟩
    refine ⟨_, rfl, p, ps, rfl, hS, ((ps.length / 4 : Nat) : Int), rfl, by omega, by omega, fun D nD => ?_⟩
    refine lc_range (lo := 0) (n := ((ps.length / 4 : Nat) : Int).toNat) (fun i H' => Same H H' ∧ H' D = some (.lst ((((prs ps).take i).map fun x => ((Sh68.miss ff x : Nat) : Int)).map V.int))) ⟨same_upd nD, upd_same⟩ (fun i H' hi h => ?_) (fun H' h => ?_)
    · obtain ⟨sm, hD⟩ := h
      have hi' : i < ps.length / 4 := by omega
      have pg := prs_get hU.pos (i := i) (by omega)
      refine ⟨rfl, ?_⟩
      refine ⟨_, rfl, _, rfl, _, rfl, t, p, ff, ps, i, args3 (by omega), sm _ _ ht, S, sm.seq hS, hU, by omega, fun H4 s4 => ?_⟩
      refine ⟨_, s4 _ _ hD, ?_, ?_, ?_⟩
      · rw [List.length_map, List.length_map, List.length_take]
        exact Nat.lt_of_le_of_lt (Nat.min_le_left _ _) (Nat.lt_of_lt_of_le hi' (Nat.le_trans (show ps.length / 4 ≤ 40 by omega) (by decide)))
      · intro b o e
        rw [upd_ne (ne_of_none e nD)]
        exact s4 _ _ (sm b o e)
      · rw [upd_same, List.take_add_one, pg, List.map_append, List.map_append]
        rfl
    · obtain ⟨sm, hD⟩ := h
      rw [Int.toNat_natCast, ← prs_len, List.take_length] at hD
      exact q _ D sm nD hD
end
end Tm

namespace Tm
open PySem PySem.Spec PyProof.Rows L2
open PySem.W (Codec)
abbrev sMain : Stmt := topS 13
theorem scMain : FnScope ["ps", "fit", "words", "far_off"] ["ps"] (defScope sMain) := ⟨rfl, rfl, rfl, by decide +kernel, rfl, by decide +kernel, by decide +kernel⟩
section
variable {P : Program} {w : World} {K : PySem.W.Frag} {mg : Str → Option Value} {base : Heap}
/-! ### tm_fit -/
def spMain (K : PySem.W.Frag) : Sp := fun vs H Q _ => ∃ (p : Addr) (ps : List Int), vs = [.ref p] ∧ SqL K H p (ps.map V.int) ∧ Up 65536 ps ∧ ps.length ≤ 160 ∧ ps.length = 4 * (ps.length / 4) ∧
  ∀ H' v, H' v = some (.lst ((PySh68.tm_fit ps).map V.int)) → Q (.ref v) H'
theorem ok_main {f fC fO fF fW fX : Addr} {fd fdC fdO fdF fdW fdX : FuncData} {k : Nat} {t1 t2 t3 t4 : Tok} (F : Fun K "tm_fit" "tm_fit" sMain f fd)
    (FC : Fun K "pair_count" "pair_count" sPCount fC fdC) (bC : Binds K fdC ["pairs"] []) (gC : mg "pair_count" = some (.ref fC)) (GC : FnOk P w K mg base CX0 1 fC fdC ["pairs"] (spPCount K))
    (FO : Fun K "off_the_chip" "off_the_chip" sOff fO fdO) (bO : Binds K fdO ["numbers"] []) (gO : mg "off_the_chip" = some (.ref fO)) (GO : FnOk P w K mg base CX0 2 fO fdO ["numbers"] (spOff K))
    (FF : Fun K "fit_of" "fit_of" sFit fF fdF) (bF : Binds K fdF ["pairs"] []) (gF : mg "fit_of" = some (.ref fF)) (GF : FnOk P w K mg base CX0 2 fF fdF ["pairs"] (spFit K))
    (FW : Fun K "words_of_fit" "words_of_fit" sWords fW fdW) (bW : Binds K fdW ["fit"] []) (gW : mg "words_of_fit" = some (.ref fW)) (GW : FnOk P w K mg base CX0 2 fW fdW ["fit"] spWords)
    (FX : Fun K "all_far_off" "all_far_off" sAllOff fX fdX) (bX : Binds K fdX ["fit", "pairs"] []) (gX : mg "all_far_off" = some (.ref fX)) (GX : FnOk P w K mg base CX0 (k + 4) fX fdX ["fit", "pairs"] (spAllOff K))
    (ml : mg "len" = none) (mM : mg "MOST_PAIRS" = some (.int 32 t1)) (mR : mg "OUT_OF_RANGE" = some (.int (-2) t2)) (mF : mg "OFF_THE_CHIP" = some (.int (-3) t3)) (mN : mg "NO_FIT" = some (.int (-4) t4)) :
    FnOk P w K mg base CX0 (k + 5) f fd ["ps"] (spMain K) := by
  refine F.ok scMain (fun vs H Q E h => ?_) (fun cdv A outer s H vs Q E hr h => ?_)
  · obtain ⟨p, ps, rfl, _⟩ := h
    rfl
  · obtain ⟨p, ps, rfl, hS, hU, hn, h4, q⟩ := h
    have hr1 : Room 1 _ := hr.mono (by omega)
    have hr2 : Room 2 _ := hr.mono (by omega)
    refine ⟨_, pss_cons (ps_if (pt_cmpR op_gt (pe_call GC hr1 (by rfl) gC FC.kp bC .nil pass0 (pa_cons (pv 0) pa_nil)) (pe_glob (v := .int 32) (by rfl) mM ⟨_, rfl⟩) (nomark _))
        (pss_one (ps_ret (pe_lst (pa_cons (pe_glob (v := .int (-2)) (by rfl) mR ⟨_, rfl⟩) pa_nil)))) pss_nil)
      (pss_cons (ps_if (pt_val (pe_call GO hr2 (by rfl) gO FO.kp bO .nil pass0 (pa_cons (pv 0) pa_nil)))
        (pss_one (ps_ret (pe_lst (pa_cons (pe_glob (v := .int (-3)) (by rfl) mF ⟨_, rfl⟩) pa_nil)))) pss_nil)
      (pss_cons (ps_set (i := 1) scMain.nd rfl (.inl rfl) (pe_call GF hr2 (by rfl) gF FF.kp bF .nil pass0 (pa_cons (pv 0) pa_nil)))
      (pss_cons (ps_if (pt_cmpR op_isN (pv 1) pe_non (nomark _)) (pss_one (ps_ret (pe_lst (pa_cons (pe_glob (v := .int (-4)) (by rfl) mN ⟨_, rfl⟩) pa_nil)))) pss_nil)
      (pss_cons (ps_set (i := 2) scMain.nd rfl (.inl rfl) (pe_call GW hr2 (by rfl) gW FW.kp bW .nil pass0 (pa_cons (pv 1) pa_nil)))
      (pss_cons (ps_set (i := 3) scMain.nd rfl (.inl rfl) (pe_call GX hr (by rfl) gX FX.kp bX .nil pass0 (pa_cons (pv 1) (pa_cons (pv 0) pa_nil))))
      (pss_one (ps_ret (pe_op op_cat (pe_op op_cat (pe_op op_cat (pe_lst (pa_cons pe_int (pa_cons (pe_callB call_len_seq (by rfl) ml PySem.boot_len (pa_cons (pv 2) pa_nil)) pa_nil))) (pv 2)) (pe_lst (pa_cons (pe_callB call_len_seq (by rfl) ml PySem.boot_len (pa_cons (pv 3) pa_nil)) pa_nil))) (pv 3))))))))), ?_⟩
    refine ⟨_, rfl, p, ps, rfl, hS, _, _, rfl, rfl, _, rfl, ite2 (fun e => ?_) (fun e => ?_)⟩
    · have e := of_decide_eq_true e
      exact ⟨(by show 1 ≤ sizeLine; decide), fun v nv => q _ v (by rw [upd_same, fit_bad (by omega)]; rfl)⟩
    have h32 : ps.length / 4 ≤ 32 := by
      have e : ¬ (32 : Int) < ((ps.length / 4 : Nat) : Int) := fun z => e (decide_eq_true z)
      omega
    clear e
    refine ⟨_, rfl, p, ps, rfl, hS, by omega, fun H1 s1 => ⟨_, rfl, ite2 (fun e => ?_) (fun e => ?_)⟩⟩
    · exact ⟨(by show 1 ≤ sizeLine; decide), fun v nv => q _ v (by rw [upd_same, fit_off hU.pos h32 e]; rfl)⟩
    have ho := eq_false_of_ne_true e
    clear e
    have hV : Up 8192 ps := hU.low ho
    refine ⟨_, rfl, p, ps, ps.length / 4, rfl, s1.seq hS, hV, h4, h32, fun hg H2 s2 => ?_, fun hg H2 t s2 nt ht => ?_⟩
    · refine ⟨_, rfl, rfl, _, rfl, ite2 (fun _ => ?_) (fun z => absurd (by decide) z)⟩
      exact ⟨(by show 1 ≤ sizeLine; decide), fun v nv => q _ v (by rw [upd_same, fit_none hU.pos h32 ho (fit_zero hg)]; rfl)⟩
    refine ⟨_, rfl, rfl, _, rfl, ite2 (fun z => absurd z (by simp)) (fun _ => ?_)⟩
    have S : FitSz (fitOf (prs ps)) := fit_sz (fit_bd (prs_13 hV) (by rw [prs_len]; exact h32)) hg
    have due := fit_due hU.pos h32 ho (fit_some hg)
    generalize hf : fitOf (prs ps) = ff at *
    refine ⟨_, rfl, t, ff, rfl, ht, S, fun H3 wl s3 nw hw => ?_⟩
    have s03 := (s1.trans s2).trans s3
    have ht3 := s3 _ _ ht
    refine ⟨_, rfl, _, rfl, t, p, ff, ps, rfl, ht3, S, s03.seq hS, hV, by omega, fun H4 D sm nD hD => ?_⟩
    · have hw4 := sm _ _ hw
      refine ⟨_, rfl, wl, _, rfl, .inl (SqL.of hw4), (by show 2 ≤ sizeLine; decide), fun l1 n1 => ?_⟩
      have hw5 := same_upd (o := .lst [.int 0, .int ((toldW ff).length : Int)]) n1 _ _ hw4
      have hD5 := same_upd (o := .lst [.int 0, .int ((toldW ff).length : Int)]) n1 _ _ hD
      refine ⟨_, rfl, l1, wl, _, _, rfl, rfl, upd_same, hw5, (by show 2 + 4 ≤ sizeLine; decide), fun l2 n2 => ?_⟩
      have hD6 := same_upd (o := .lst ([.int 0, .int ((toldW ff).length : Int)] ++ toldW ff)) n2 _ _ hD5
      refine ⟨_, rfl, D, _, rfl, .inl (SqL.of hD6), (by show 1 ≤ sizeLine; decide), fun l3 n3 => ?_⟩
      refine ⟨l2, l3, _, _, rfl, rfl, (upd_ne (ne_of_none (upd_same (o := .lst ([.int 0, .int ((toldW ff).length : Int)] ++ toldW ff))) n3)).trans upd_same, upd_same, (by show 6 + 1 ≤ sizeLine; decide), fun l4 n4 => ?_⟩
      refine ⟨_, rfl, l4, D, _, _, rfl, rfl, upd_same, same_upd n4 _ _ (same_upd n3 _ _ hD6), ?_, fun l5 n5 => q _ l5 ?_⟩
      · rw [List.length_map, List.length_map, prs_len]
        show 7 + ps.length / 4 ≤ 16777216
        omega
      · rw [upd_same, due, List.length_map, List.length_map, prs_len]
        unfold toldW
        simp only [List.map_append, List.map_cons, List.cons_append, List.nil_append, List.append_assoc, List.map_nil, List.length_map]
        rfl
end
/-! ### what the top has written -/
theorem all_mk {P : Program} {w : World} {K : PySem.W.Frag} {h : Heap} {mg : Str → Option Value} {fa f0 f1 f2 f3 f4 f5 f6 f7 f8 f9 f10 f11 f12 : Addr} (X : K.In h) (G : h.Ns mainGlobals mg) (hfa : mg "tm_fit" = some (.ref fa))
    {od0 an0 od1 an1 od2 an2 od3 an3 od4 an4 od5 an5 od6 an6 od7 an7 od8 an8 od9 an9 od10 an10 od11 an11 od12 an12 : Option Addr} {sl0 sl1 sl2 sl3 sl4 sl5 sl6 sl7 sl8 sl9 sl10 sl11 sl12 : Array (Option Value)} {oc0 kV0 dc0 pm0 cd0 ct0 oc1 kV1 dc1 pm1 cd1 ct1 oc2 kV2 dc2 pm2 cd2 ct2 oc3 kV3 dc3 pm3 cd3 ct3 oc4 kV4 dc4 pm4 cd4 ct4 oc5 kV5 dc5 pm5 cd5 ct5 oc6 kV6 dc6 pm6 cd6 ct6 oc7 kV7 dc7 pm7 cd7 ct7 oc8 kV8 dc8 pm8 cd8 ct8 oc9 kV9 dc9 pm9 cd9 ct9 oc10 kV10 dc10 pm10 cd10 ct10 oc11 kV11 dc11 pm11 cd11 ct11 oc12 kV12 dc12 pm12 cd12 ct12 : Value} {t0 t1 t2 t3 t4 t5 t6 t7 t8 t9 t10 t11 : Tok}
    (a0 : PySem.W.nsIn K mainGlobals "tm_fit" = some (some (.ref f0))) (l0 : K.lookup f0 = some ⟨oc0, od0, .func (PySem.W.fnOf "tm_fit" "tm_fit" (defArgs sMain) (defBody sMain) (defScope sMain) .none kV0 dc0 pm0 an0 cd0 ct0), sl0⟩) (c0 : PySem.W.codeIn K cd0 "tm_fit" = true) (k0 : PySem.W.keepIn K (.ref f0) = true)
    (a1 : PySem.W.nsIn K mainGlobals "pair_count" = some (some (.ref f1))) (l1 : K.lookup f1 = some ⟨oc1, od1, .func (PySem.W.fnOf "pair_count" "pair_count" (defArgs sPCount) (defBody sPCount) (defScope sPCount) .none kV1 dc1 pm1 an1 cd1 ct1), sl1⟩) (c1 : PySem.W.codeIn K cd1 "pair_count" = true) (k1 : PySem.W.keepIn K (.ref f1) = true)
    (a2 : PySem.W.nsIn K mainGlobals "any_from" = some (some (.ref f2))) (l2 : K.lookup f2 = some ⟨oc2, od2, .func (PySem.W.fnOf "any_from" "any_from" (defArgs sAny) (defBody sAny) (defScope sAny) .none kV2 dc2 pm2 an2 cd2 ct2), sl2⟩) (c2 : PySem.W.codeIn K cd2 "any_from" = true) (k2 : PySem.W.keepIn K (.ref f2) = true)
    (a3 : PySem.W.nsIn K mainGlobals "off_the_chip" = some (some (.ref f3))) (l3 : K.lookup f3 = some ⟨oc3, od3, .func (PySem.W.fnOf "off_the_chip" "off_the_chip" (defArgs sOff) (defBody sOff) (defScope sOff) .none kV3 dc3 pm3 an3 cd3 ct3), sl3⟩) (c3 : PySem.W.codeIn K cd3 "off_the_chip" = true) (k3 : PySem.W.keepIn K (.ref f3) = true)
    (a4 : PySem.W.nsIn K mainGlobals "how_far" = some (some (.ref f4))) (l4 : K.lookup f4 = some ⟨oc4, od4, .func (PySem.W.fnOf "how_far" "how_far" (defArgs sFar) (defBody sFar) (defScope sFar) .none kV4 dc4 pm4 an4 cd4 ct4), sl4⟩) (c4 : PySem.W.codeIn K cd4 "how_far" = true) (k4 : PySem.W.keepIn K (.ref f4) = true)
    (a5 : PySem.W.nsIn K mainGlobals "rounded" = some (some (.ref f5))) (l5 : K.lookup f5 = some ⟨oc5, od5, .func (PySem.W.fnOf "rounded" "rounded" (defArgs sRound) (defBody sRound) (defScope sRound) .none kV5 dc5 pm5 an5 cd5 ct5), sl5⟩) (c5 : PySem.W.codeIn K cd5 "rounded" = true) (k5 : PySem.W.keepIn K (.ref f5) = true)
    (a6 : PySem.W.nsIn K mainGlobals "word" = some (some (.ref f6))) (l6 : K.lookup f6 = some ⟨oc6, od6, .func (PySem.W.fnOf "word" "word" (defArgs sWord) (defBody sWord) (defScope sWord) .none kV6 dc6 pm6 an6 cd6 ct6), sl6⟩) (c6 : PySem.W.codeIn K cd6 "word" = true) (k6 : PySem.W.keepIn K (.ref f6) = true)
    (a7 : PySem.W.nsIn K mainGlobals "products" = some (some (.ref f7))) (l7 : K.lookup f7 = some ⟨oc7, od7, .func (PySem.W.fnOf "products" "products" (defArgs sProd) (defBody sProd) (defScope sProd) .none kV7 dc7 pm7 an7 cd7 ct7), sl7⟩) (c7 : PySem.W.codeIn K cd7 "products" = true) (k7 : PySem.W.keepIn K (.ref f7) = true)
    (a8 : PySem.W.nsIn K mainGlobals "fit_of" = some (some (.ref f8))) (l8 : K.lookup f8 = some ⟨oc8, od8, .func (PySem.W.fnOf "fit_of" "fit_of" (defArgs sFit) (defBody sFit) (defScope sFit) .none kV8 dc8 pm8 an8 cd8 ct8), sl8⟩) (c8 : PySem.W.codeIn K cd8 "fit_of" = true) (k8 : PySem.W.keepIn K (.ref f8) = true)
    (a9 : PySem.W.nsIn K mainGlobals "words_of_fit" = some (some (.ref f9))) (l9 : K.lookup f9 = some ⟨oc9, od9, .func (PySem.W.fnOf "words_of_fit" "words_of_fit" (defArgs sWords) (defBody sWords) (defScope sWords) .none kV9 dc9 pm9 an9 cd9 ct9), sl9⟩) (c9 : PySem.W.codeIn K cd9 "words_of_fit" = true) (k9 : PySem.W.keepIn K (.ref f9) = true)
    (a10 : PySem.W.nsIn K mainGlobals "carried" = some (some (.ref f10))) (l10 : K.lookup f10 = some ⟨oc10, od10, .func (PySem.W.fnOf "carried" "carried" (defArgs sCarried) (defBody sCarried) (defScope sCarried) .none kV10 dc10 pm10 an10 cd10 ct10), sl10⟩) (c10 : PySem.W.codeIn K cd10 "carried" = true) (k10 : PySem.W.keepIn K (.ref f10) = true)
    (a11 : PySem.W.nsIn K mainGlobals "how_far_off" = some (some (.ref f11))) (l11 : K.lookup f11 = some ⟨oc11, od11, .func (PySem.W.fnOf "how_far_off" "how_far_off" (defArgs sFarOff) (defBody sFarOff) (defScope sFarOff) .none kV11 dc11 pm11 an11 cd11 ct11), sl11⟩) (c11 : PySem.W.codeIn K cd11 "how_far_off" = true) (k11 : PySem.W.keepIn K (.ref f11) = true)
    (a12 : PySem.W.nsIn K mainGlobals "all_far_off" = some (some (.ref f12))) (l12 : K.lookup f12 = some ⟨oc12, od12, .func (PySem.W.fnOf "all_far_off" "all_far_off" (defArgs sAllOff) (defBody sAllOff) (defScope sAllOff) .none kV12 dc12 pm12 an12 cd12 ct12), sl12⟩) (c12 : PySem.W.codeIn K cd12 "all_far_off" = true) (k12 : PySem.W.keepIn K (.ref f12) = true)
    (z0 : PySem.W.nsIn K mainGlobals "len" = some none)
    (z1 : PySem.W.nsIn K mainGlobals "any" = some none)
    (z2 : PySem.W.nsIn K mainGlobals "range" = some none)
    (z3 : PySem.W.nsIn K mainGlobals "sum" = some none)
    (y0 : PySem.W.nsIn K mainGlobals "PLACES_BELOW" = some (some (.int 8192 t0)))
    (y1 : PySem.W.nsIn K mainGlobals "MOST_PAIRS" = some (some (.int 32 t1)))
    (y2 : PySem.W.nsIn K mainGlobals "OUT_OF_RANGE" = some (some (.int (-2) t2)))
    (y3 : PySem.W.nsIn K mainGlobals "OFF_THE_CHIP" = some (some (.int (-3) t3)))
    (y4 : PySem.W.nsIn K mainGlobals "NO_FIT" = some (some (.int (-4) t4)))
    (y5 : PySem.W.nsIn K mainGlobals "FIT_SCALE" = some (some (.int 16384 t5)))
    (y6 : PySem.W.nsIn K mainGlobals "WORDS" = some (some (.int 4294967296 t6)))
    (y7 : PySem.W.nsIn K mainGlobals "NA" = some (some (.int 0 t7)))
    (y8 : PySem.W.nsIn K mainGlobals "NB" = some (some (.int 1 t8)))
    (y9 : PySem.W.nsIn K mainGlobals "C" = some (some (.int 2 t9)))
    (y10 : PySem.W.nsIn K mainGlobals "D" = some (some (.int 3 t10)))
    (y11 : PySem.W.nsIn K mainGlobals "NG" = some (some (.int 4 t11))) :
    ∃ fd : FuncData, (∀ (s : Shared) (us : List Value), us.length = (["ps"] : List Str).length → BindsTo s fd ⟨us, []⟩ ((["ps"] : List Str).zip us)) ∧ ∀ base : Heap, K.In base → base.Ns mainGlobals mg → FnOk P w K mg base CX0 5 fa fd ["ps"] (spMain K) := by
  have e := hfa.symm.trans (PySem.W.mg_of X G a0)
  cases e
  have F0 := fun_mk (st := sMain) l0 c0 k0
  have F1 := fun_mk (st := sPCount) l1 c1 k1
  have F2 := fun_mk (st := sAny) l2 c2 k2
  have F3 := fun_mk (st := sOff) l3 c3 k3
  have F4 := fun_mk (st := sFar) l4 c4 k4
  have F5 := fun_mk (st := sRound) l5 c5 k5
  have F6 := fun_mk (st := sWord) l6 c6 k6
  have F7 := fun_mk (st := sProd) l7 c7 k7
  have F8 := fun_mk (st := sFit) l8 c8 k8
  have F9 := fun_mk (st := sWords) l9 c9 k9
  have F10 := fun_mk (st := sCarried) l10 c10 k10
  have F11 := fun_mk (st := sFarOff) l11 c11 k11
  have F12 := fun_mk (st := sAllOff) l12 c12 k12
  have b1 := F1.binds (ps := ["pairs"]) fun _ _ _ _ _ _ us hl => match us, hl with | [_], _ => rfl
  have g1 := PySem.W.mg_of X G a1
  have b2 := F2.binds (ps := ["numbers", "bound"]) fun _ _ _ _ _ _ us hl => match us, hl with | [_, _], _ => rfl
  have g2 := PySem.W.mg_of X G a2
  have b3 := F3.binds (ps := ["numbers"]) fun _ _ _ _ _ _ us hl => match us, hl with | [_], _ => rfl
  have g3 := PySem.W.mg_of X G a3
  have b4 := F4.binds (ps := ["x", "y", "u", "v"]) fun _ _ _ _ _ _ us hl => match us, hl with | [_, _, _, _], _ => rfl
  have g4 := PySem.W.mg_of X G a4
  have b5 := F5.binds (ps := ["above", "below"]) fun _ _ _ _ _ _ us hl => match us, hl with | [_, _], _ => rfl
  have g5 := PySem.W.mg_of X G a5
  have b6 := F6.binds (ps := ["number"]) fun _ _ _ _ _ _ us hl => match us, hl with | [_], _ => rfl
  have g6 := PySem.W.mg_of X G a6
  have b7 := F7.binds (ps := ["these", "those"]) fun _ _ _ _ _ _ us hl => match us, hl with | [_, _], _ => rfl
  have g7 := PySem.W.mg_of X G a7
  have b8 := F8.binds (ps := ["pairs"]) fun _ _ _ _ _ _ us hl => match us, hl with | [_], _ => rfl
  have g8 := PySem.W.mg_of X G a8
  have b9 := F9.binds (ps := ["fit"]) fun _ _ _ _ _ _ us hl => match us, hl with | [_], _ => rfl
  have g9 := PySem.W.mg_of X G a9
  have b10 := F10.binds (ps := ["fit", "x", "y"]) fun _ _ _ _ _ _ us hl => match us, hl with | [_, _, _], _ => rfl
  have g10 := PySem.W.mg_of X G a10
  have b11 := F11.binds (ps := ["fit", "pairs", "pair"]) fun _ _ _ _ _ _ us hl => match us, hl with | [_, _, _], _ => rfl
  have g11 := PySem.W.mg_of X G a11
  have b12 := F12.binds (ps := ["fit", "pairs"]) fun _ _ _ _ _ _ us hl => match us, hl with | [_, _], _ => rfl
  have g12 := PySem.W.mg_of X G a12
  have m_len := PySem.W.mg_none_of X G z0
  have m_any := PySem.W.mg_none_of X G z1
  have m_range := PySem.W.mg_none_of X G z2
  have m_sum := PySem.W.mg_none_of X G z3
  have m_PLACES_BELOW := PySem.W.mg_of X G y0
  have m_MOST_PAIRS := PySem.W.mg_of X G y1
  have m_OUT_OF_RANGE := PySem.W.mg_of X G y2
  have m_OFF_THE_CHIP := PySem.W.mg_of X G y3
  have m_NO_FIT := PySem.W.mg_of X G y4
  have m_FIT_SCALE := PySem.W.mg_of X G y5
  have m_WORDS := PySem.W.mg_of X G y6
  have m_NA := PySem.W.mg_of X G y7
  have m_NB := PySem.W.mg_of X G y8
  have m_C := PySem.W.mg_of X G y9
  have m_D := PySem.W.mg_of X G y10
  have m_NG := PySem.W.mg_of X G y11
  refine ⟨PySem.W.fnOf "tm_fit" "tm_fit" (defArgs sMain) (defBody sMain) (defScope sMain) .none kV0 dc0 pm0 an0 cd0 ct0, fun s us hu => match us, hu with | [_], _ => .of_eq rfl, fun base _ _ => ?_⟩
  have GC : FnOk P w K mg base CX0 1 _ _ ["pairs"] (spPCount K) := ok_pcount F1 m_len
  have GO : FnOk P w K mg base CX0 2 _ _ ["numbers"] (spOff K) := ok_off (k := 0) F3 F2 b2 g2 m_any m_PLACES_BELOW
  have GR : FnOk P w K mg base CX0 1 _ _ ["above", "below"] spRound := ok_round F5
  have GW : FnOk P w K mg base CX0 1 _ _ ["number"] spWord := ok_word F6 m_WORDS
  have GP : FnOk P w K mg base CX0 1 _ _ ["these", "those"] (spProd K) := ok_prod F7 m_sum m_range m_len
  have GF : FnOk P w K mg base CX0 2 _ _ ["pairs"] (spFit K) := ok_fit (k := 0) F8 F7 b7 g7 GP m_len m_sum
  have GT : FnOk P w K mg base CX0 2 _ _ ["fit"] spWords := ok_words (k := 0) F9 F5 b5 g5 GR F6 b6 g6 GW m_NA m_NB m_C m_D m_NG m_FIT_SCALE
  have GA : FnOk P w K mg base CX0 2 _ _ ["fit", "x", "y"] (spCarried K) := ok_carried (k := 0) F10 F5 b5 g5 GR m_NA m_NB m_C m_D m_NG
  have GH : FnOk P w K mg base CX0 2 _ _ ["x", "y", "u", "v"] spFar := ok_far F4
  have GX : FnOk P w K mg base CX0 3 _ _ ["fit", "pairs", "pair"] (spFarOff K) := ok_faroff (k := 0) F11 F10 b10 g10 GA F4 b4 g4 GH
  have GZ : FnOk P w K mg base CX0 4 _ _ ["fit", "pairs"] (spAllOff K) := ok_alloff (k := 0) F12 F1 b1 g1 GC F11 b11 g11 GX m_range
  exact ok_main (k := 0) F0 F1 b1 g1 GC F3 b3 g3 GO F8 b8 g8 GF F9 b9 g9 GT F12 b12 g12 GZ m_len m_MOST_PAIRS m_OUT_OF_RANGE m_OFF_THE_CHIP m_NO_FIT
end Tm
open PySem PySem.W PyProof.Rows
set_option maxRecDepth 100000 in
set_option maxHeartbeats 8000000 in
theorem PySem.Challenge.cw_skymatch_s05_tm_fit_holds : PySem.Challenge.rw_skymatch_s05_tm_fit.Holds := by
  w_on; k_headS; (case hw => exact ⟨[.list []], by decide +kernel, by decide +kernel⟩)
  k_fillS
  refine L2.walk_specK (r := PySem.Challenge.rw_skymatch_s05_tm_fit) (k := 5) (CX := L2.CX0) (ps := ["ps"]) (sp := Tm.spMain) (by decide +kernel) rfl rfl ⟨rfl, by decide, by decide⟩ (fun w h Y => PySem.W.kIn_of Y) ?F ?S (fun _ _ _ _ z => z)
  case F =>
    intro w mg fa h Y KX G hmg
    refine' Tm.all_mk KX G hmg ?a0 ?l0 ?c0 ?k0 ?a1 ?l1 ?c1 ?k1 ?a2 ?l2 ?c2 ?k2 ?a3 ?l3 ?c3 ?k3 ?a4 ?l4 ?c4 ?k4 ?a5 ?l5 ?c5 ?k5 ?a6 ?l6 ?c6 ?k6 ?a7 ?l7 ?c7 ?k7 ?a8 ?l8 ?c8 ?k8 ?a9 ?l9 ?c9 ?k9 ?a10 ?l10 ?c10 ?k10 ?a11 ?l11 ?c11 ?k11 ?a12 ?l12 ?c12 ?k12 ?z0 ?z1 ?z2 ?z3 ?y0 ?y1 ?y2 ?y3 ?y4 ?y5 ?y6 ?y7 ?y8 ?y9 ?y10 ?y11
    (case a0 => k_is)
    (case l0 => k_is)
    (case c0 => k_is)
    (case k0 => k_is)
    (case a1 => k_is)
    (case l1 => k_is)
    (case c1 => k_is)
    (case k1 => k_is)
    (case a2 => k_is)
    (case l2 => k_is)
    (case c2 => k_is)
    (case k2 => k_is)
    (case a3 => k_is)
    (case l3 => k_is)
    (case c3 => k_is)
    (case k3 => k_is)
    (case a4 => k_is)
    (case l4 => k_is)
    (case c4 => k_is)
    (case k4 => k_is)
    (case a5 => k_is)
    (case l5 => k_is)
    (case c5 => k_is)
    (case k5 => k_is)
    (case a6 => k_is)
    (case l6 => k_is)
    (case c6 => k_is)
    (case k6 => k_is)
    (case a7 => k_is)
    (case l7 => k_is)
    (case c7 => k_is)
    (case k7 => k_is)
    (case a8 => k_is)
    (case l8 => k_is)
    (case c8 => k_is)
    (case k8 => k_is)
    (case a9 => k_is)
    (case l9 => k_is)
    (case c9 => k_is)
    (case k9 => k_is)
    (case a10 => k_is)
    (case l10 => k_is)
    (case c10 => k_is)
    (case k10 => k_is)
    (case a11 => k_is)
    (case l11 => k_is)
    (case c11 => k_is)
    (case k11 => k_is)
    (case a12 => k_is)
    (case l12 => k_is)
    (case c12 => k_is)
    (case k12 => k_is)
    (case z0 => k_is)
    (case z1 => k_is)
    (case z2 => k_is)
    (case z3 => k_is)
    (case y0 => k_is)
    (case y1 => k_is)
    (case y2 => k_is)
    (case y3 => k_is)
    (case y4 => k_is)
    (case y5 => k_is)
    (case y6 => k_is)
    (case y7 => k_is)
    (case y8 => k_is)
    (case y9 => k_is)
    (case y10 => k_is)
    (case y11 => k_is)
  case S =>
    intro K H xs a hO hwi hask hx
    cases hx with
    | cons h1 h2 =>
      cases h2
      cases h1 with
      | lst hs ha =>
        have e := L2.ints_dw a.1 _ ha
        subst e
        have q : ((Codec.inLen 0 160 a.1 && a.1.all (Codec.inInt 0 65535)) && true) = true := hwi
        rw [Bool.and_eq_true, Bool.and_eq_true] at q
        refine ⟨_, a.1, rfl, hs, fun x hx => ?_, (Codec.inNat_iff.mp q.1.1).2, Tm.fit_asked hask, fun H' p hp => .lst (L2.SqL.of hp) (L2.dw_ints _)⟩
        have z := Codec.inInt_iff.mp (List.all_eq_true.mp q.1.2 x hx)
        omega

