import PyProof.Rows.All
import Wide.All
import OpenK.AllK
import Wide.FinOn
import HandS.List
import Open.SpecLaws
import KE.OsGo
import HandS.Spec
import HandS.WordsList
import HandS.Comp
import HandS.SortRule
import PySem.Challenge.RW_skymatch_s01_tm_triangles
set_option Elab.async false
set_option linter.all false
set_option maxRecDepth 100000
set_option maxHeartbeats 4000000
namespace Tm
open Sh68 Sh68Neutral

/-! ### the pictures' numbers -/
def at_ (ns : List Int) (i : Nat) : Int := ns.getD i 0
def dst (ns : List Int) (i j : Nat) : Int :=
  (at_ ns (2 * i) - at_ ns (2 * j)) * (at_ ns (2 * i) - at_ ns (2 * j)) + (at_ ns (2 * i + 1) - at_ ns (2 * j + 1)) * (at_ ns (2 * i + 1) - at_ ns (2 * j + 1))
def trn (ns : List Int) (a b c : Nat) : Int :=
  (at_ ns (2 * b) - at_ ns (2 * a)) * (at_ ns (2 * c + 1) - at_ ns (2 * a + 1)) - (at_ ns (2 * b + 1) - at_ ns (2 * a + 1)) * (at_ ns (2 * c) - at_ ns (2 * a))
/-- the stars of a picture -/
def stars (ns : List Int) : List Pt := ptsOf (nats ns)

theorem nats_len (ns : List Int) : (nats ns).length = ns.length := by unfold nats; rw [List.length_map]
theorem stars_len (ns : List Int) : (stars ns).length = ns.length / 2 := by
  unfold stars ptsOf; rw [List.length_map, List.length_range, nats_len]
theorem at_get {ns : List Int} {i : Nat} (h : i < ns.length) : at_ ns i = ns[i] := by
  unfold at_; rw [List.getD_eq_getElem?_getD, List.getElem?_eq_getElem h]; rfl
theorem num_at {ns : List Int} (hp : ∀ x ∈ ns, 0 ≤ x) {i : Nat} (h : i < ns.length) : ((num (nats ns) i : Nat) : Int) = at_ ns i := by
  rw [at_get h]
  unfold num nats
  rw [List.getD_eq_getElem?_getD, List.getElem?_map, List.getElem?_eq_getElem h]
  show ((ns[i].toNat : Nat) : Int) = ns[i]
  exact Int.toNat_of_nonneg (hp _ (List.getElem_mem h))
theorem pt_stars {ns : List Int} (hp : ∀ x ∈ ns, 0 ≤ x) {i : Nat} (h : 2 * i + 1 < ns.length) : pt (stars ns) i = (at_ ns (2 * i), at_ ns (2 * i + 1)) := by
  have hi : i < ns.length / 2 := by omega
  unfold pt stars ptsOf
  rw [List.getD_eq_getElem?_getD, List.getElem?_map, List.getElem?_range (by rw [nats_len]; exact hi)]
  show ((((num (nats ns) (2 * i) : Nat) : Int)), (((num (nats ns) (2 * i + 1) : Nat) : Int))) = _
  rw [num_at hp (by omega), num_at hp h]
theorem square_is (z : Int) : ((square z : Nat) : Int) = z * z := by
  unfold square
  refine Int.toNat_of_nonneg ?_
  rcases Int.le_total 0 z with h | h
  · exact Int.mul_nonneg h h
  · exact Int.mul_nonneg_of_nonpos_of_nonpos h h
theorem dist_is {ns : List Int} (hp : ∀ x ∈ ns, 0 ≤ x) {i j : Nat} (hi : 2 * i + 1 < ns.length) (hj : 2 * j + 1 < ns.length) : ((dist2 (pt (stars ns) i) (pt (stars ns) j) : Nat) : Int) = dst ns i j := by
  rw [pt_stars hp hi, pt_stars hp hj]
  show ((square (at_ ns (2 * i) - at_ ns (2 * j)) + square (at_ ns (2 * i + 1) - at_ ns (2 * j + 1)) : Nat) : Int) = _
  rw [Int.natCast_add, square_is, square_is]
  rfl
theorem turn_is {ns : List Int} (hp : ∀ x ∈ ns, 0 ≤ x) {a b c : Nat} (ha : 2 * a + 1 < ns.length) (hb : 2 * b + 1 < ns.length) (hc : 2 * c + 1 < ns.length) : turn (pt (stars ns) a) (pt (stars ns) b) (pt (stars ns) c) = trn ns a b c := by
  rw [pt_stars hp ha, pt_stars hp hb, pt_stars hp hc]
  rfl
/-! ### one triangle, by its sides in order -/
theorem two_same (a b : List Int) (h : a.Perm b) (ha : a.Pairwise (fun x y => y ≤ x)) (hb : b.Pairwise (fun x y => y ≤ x)) : a = b :=
  h.eq_of_pairwise (fun x y _ _ h1 h2 => Int.le_antisymm h2 h1) ha hb
def ci (p : Nat × Nat) : Int × Int := ((p.1 : Int), (p.2 : Int))
def sidesOf (s : List Pt) (i j k : Nat) : List (Nat × Nat) := [(dist2 (pt s j) (pt s k), i), (dist2 (pt s i) (pt s k), j), (dist2 (pt s i) (pt s j), k)]
theorem three {α : Type} {l : List α} (h : l.length = 3) : ∃ x y z, l = [x, y, z] := by
  rcases l with _ | ⟨x, _ | ⟨y, _ | ⟨z, _ | ⟨u, t⟩⟩⟩⟩ <;> simp at h
  exact ⟨x, y, z, rfl⟩
theorem sorted_is (s : List Pt) (i j k : Nat) : ∃ x y z, (sidesOf s i j k).mergeSort (fun x y => decide (y.1 ≤ x.1)) = [x, y, z] ∧ y.1 ≤ x.1 ∧ z.1 ≤ y.1 ∧ [x, y, z].Perm (sidesOf s i j k) := by
  have hp := List.mergeSort_perm (sidesOf s i j k) (fun x y => decide (y.1 ≤ x.1))
  obtain ⟨x, y, z, e⟩ := three (l := (sidesOf s i j k).mergeSort (fun x y => decide (y.1 ≤ x.1))) (by rw [List.length_mergeSort]; rfl)
  have hs := List.pairwise_mergeSort (le := fun x y : Nat × Nat => decide (y.1 ≤ x.1)) (by intro a b c h1 h2; simp only [decide_eq_true_eq] at *; omega) (by intro a b; simp only [Bool.or_eq_true, decide_eq_true_eq]; omega) (sidesOf s i j k)
  rw [e] at hs hp
  refine ⟨x, y, z, e, ?_, ?_, hp⟩
  · have := (List.pairwise_cons.mp hs).1 y (by simp)
    simpa using this
  · have := (List.pairwise_cons.mp (List.pairwise_cons.mp hs).2).1 z (by simp)
    simpa using this
theorem tri_is {s : List Pt} {i j k : Nat} {q0 q1 q2 : Int × Int} (hq : [q0, q1, q2].Perm ((sidesOf s i j k).map ci)) (h01 : q0.1 ≤ q1.1) (h12 : q1.1 ≤ q2.1) :
    (q0.1 = q1.1 ∨ q1.1 = q2.1 → triOf s i j k = none) ∧
    (q0.1 ≠ q1.1 → q1.1 ≠ q2.1 → ∃ x y z : Nat × Nat, q2 = ci x ∧ q1 = ci y ∧ q0 = ci z ∧ (x ∈ sidesOf s i j k ∧ y ∈ sidesOf s i j k ∧ z ∈ sidesOf s i j k) ∧
      triOf s i j k = if turn (pt s x.2) (pt s y.2) (pt s z.2) = 0 then none else some ⟨x.2, y.2, z.2, 65536 * y.1 / x.1, 65536 * z.1 / x.1, decide (0 < turn (pt s x.2) (pt s y.2) (pt s z.2))⟩) := by
  obtain ⟨x, y, z, e, hyx, hzy, hp⟩ := sorted_is s i j k
  have ht : triOf s i j k = if x.1 = y.1 ∨ y.1 = z.1 ∨ turn (pt s x.2) (pt s y.2) (pt s z.2) = 0 then none else some ⟨x.2, y.2, z.2, 65536 * y.1 / x.1, 65536 * z.1 / x.1, decide (0 < turn (pt s x.2) (pt s y.2) (pt s z.2))⟩ := by
    unfold triOf
    show (match (sidesOf s i j k).mergeSort (fun x y => decide (y.1 ≤ x.1)) with
      | [x, y, z] => _
      | _ => none) = _
    rw [e]
  have hp2 : [q2, q1, q0].Perm ([x, y, z].map ci) := by
    have r : [q2, q1, q0] = [q0, q1, q2].reverse := rfl
    rw [r]
    exact (List.reverse_perm _).trans (hq.trans (hp.map ci).symm)
  have hf : [q2.1, q1.1, q0.1] = [(x.1 : Int), (y.1 : Int), (z.1 : Int)] := by
    refine two_same _ _ (hp2.map (f := fun p : Int × Int => p.1)) ?_ ?_
    · simp; omega
    · simp; omega
  simp only [List.cons.injEq, and_true] at hf
  obtain ⟨e2, e1, e0⟩ := hf
  refine ⟨fun h => ?_, fun n01 n12 => ?_⟩
  · rw [ht, if_pos]
    rcases h with h | h
    · exact .inr (.inl (by omega))
    · exact .inl (by omega)
  · have hx : q2 = ci x := by
      have m : q2 ∈ [x, y, z].map ci := hp2.subset (by simp)
      simp only [List.map_cons, List.map_nil, List.mem_cons, List.not_mem_nil, or_false] at m
      rcases m with m | m | m
      · exact m
      · exact absurd (congrArg Prod.fst m) (by show q2.1 ≠ (y.1 : Int); omega)
      · exact absurd (congrArg Prod.fst m) (by show q2.1 ≠ (z.1 : Int); omega)
    have hy : q1 = ci y := by
      have m : q1 ∈ [x, y, z].map ci := hp2.subset (by simp)
      simp only [List.map_cons, List.map_nil, List.mem_cons, List.not_mem_nil, or_false] at m
      rcases m with m | m | m
      · exact absurd (congrArg Prod.fst m) (by show q1.1 ≠ (x.1 : Int); omega)
      · exact m
      · exact absurd (congrArg Prod.fst m) (by show q1.1 ≠ (z.1 : Int); omega)
    have hz : q0 = ci z := by
      have m : q0 ∈ [x, y, z].map ci := hp2.subset (by simp)
      simp only [List.map_cons, List.map_nil, List.mem_cons, List.not_mem_nil, or_false] at m
      rcases m with m | m | m
      · exact absurd (congrArg Prod.fst m) (by show q0.1 ≠ (x.1 : Int); omega)
      · exact absurd (congrArg Prod.fst m) (by show q0.1 ≠ (y.1 : Int); omega)
      · exact m
    refine ⟨x, y, z, hx, hy, hz, ⟨hp.subset (by simp), hp.subset (by simp), hp.subset (by simp)⟩, ?_⟩
    rw [ht]
    have a1 : ¬ x.1 = y.1 := by omega
    have a2 : ¬ y.1 = z.1 := by omega
    simp only [a1, a2, false_or]
/-! ### all triangles, as the loops find them -/
def row3 (s : List Pt) (n i j : Nat) : List Tri := (List.range (n - (j + 1))).filterMap fun k => triOf s i j (j + 1 + k)
def row2 (s : List Pt) (n i : Nat) : List Tri := (List.range (n - (i + 1))).flatMap fun j => row3 s n i (i + 1 + j)
def row1 (s : List Pt) (n : Nat) : List Tri := (List.range n).flatMap fun i => row2 s n i
theorem range_split {n i : Nat} (h : i < n) : List.range n = List.range (i + 1) ++ (List.range (n - (i + 1))).map fun j => i + 1 + j := by
  have e : n = (i + 1) + (n - (i + 1)) := by omega
  conv => lhs; rw [e]
  rw [List.range_add]
theorem flat_above {α : Type} {n i : Nat} (F : Nat → List α) (h : i < n) : ((List.range n).flatMap fun j => if j ≤ i then [] else F j) = (List.range (n - (i + 1))).flatMap fun j => F (i + 1 + j) := by
  rw [range_split h, List.flatMap_append, List.flatMap_map]
  have e : ((List.range (i + 1)).flatMap fun j => if j ≤ i then [] else F j) = [] := by
    rw [List.flatMap_eq_nil_iff]
    intro j hj
    rw [if_pos (by have := List.mem_range.mp hj; omega)]
  rw [e, List.nil_append]
  congr 1
  funext j
  exact if_neg (by omega)
theorem filt_above {α : Type} {n i : Nat} (F : Nat → Option α) (h : i < n) : ((List.range n).filterMap fun j => if j ≤ i then none else F j) = (List.range (n - (i + 1))).filterMap fun j => F (i + 1 + j) := by
  rw [range_split h, List.filterMap_append, List.filterMap_map]
  have e : ((List.range (i + 1)).filterMap fun j => if j ≤ i then none else F j) = [] := by
    rw [List.filterMap_eq_nil_iff]
    intro j hj
    rw [if_pos (by have := List.mem_range.mp hj; omega)]
  rw [e, List.nil_append]
  congr 1
  funext j
  exact if_neg (by show ¬ i + 1 + j ≤ i; omega)
theorem flat_congr {α β : Type} : ∀ {l : List α} {f g : α → List β}, (∀ x ∈ l, f x = g x) → l.flatMap f = l.flatMap g
  | [], _, _, _ => rfl
  | x :: r, f, g, h => by
    rw [List.flatMap_cons, List.flatMap_cons, h x List.mem_cons_self, flat_congr fun y hy => h y (List.mem_cons_of_mem _ hy)]
theorem rows_are (s : List Pt) : triangles s = row1 s s.length := by
  unfold triangles row1
  refine flat_congr fun i hi => ?_
  have hi' := List.mem_range.mp hi
  rw [flat_above _ hi']
  unfold row2
  refine flat_congr fun j hj => ?_
  have hj' := List.mem_range.mp hj
  exact filt_above _ (by omega)
theorem flat_more {α : Type} (F : Nat → List α) (i : Nat) : (List.range (i + 1)).flatMap F = (List.range i).flatMap F ++ F i := by
  rw [List.range_succ, List.flatMap_append, List.flatMap_cons, List.flatMap_nil, List.append_nil]
theorem filt_more {α : Type} (F : Nat → Option α) (i : Nat) : (List.range (i + 1)).filterMap F = (List.range i).filterMap F ++ (F i).toList := by
  rw [List.range_succ, List.filterMap_append, List.filterMap_cons, List.filterMap_nil]
  cases F i <;> rfl
/-- how many there are at most -/
theorem flat_len {α : Type} {F : Nat → List α} {m : Nat} (h : ∀ i, (F i).length ≤ m) : ∀ n, ((List.range n).flatMap F).length ≤ n * m
  | 0 => by simp
  | n + 1 => by
    rw [flat_more, List.length_append]
    have := flat_len h n
    have := h n
    rw [Nat.succ_mul]
    omega
theorem row3_len (s : List Pt) (n i j : Nat) : (row3 s n i j).length ≤ n := by
  unfold row3
  refine Nat.le_trans (List.length_filterMap_le _ _) ?_
  rw [List.length_range]; omega
theorem row2_len (s : List Pt) (n i : Nat) : (row2 s n i).length ≤ n * n := by
  unfold row2
  refine Nat.le_trans (flat_len (fun j => row3_len s n i (i + 1 + j)) _) ?_
  exact Nat.mul_le_mul_right _ (by omega)
end Tm
namespace Tm
open Sh68 Sh68Neutral
/-! ### what is due -/
def ti (m : Tri) : List Int := [(m.a : Int), (m.b : Int), (m.c : Int), (m.u : Int), (m.v : Int), ((bit m.left : Nat) : Int)]
theorem small_is {ns : List Int} (hp : ∀ x ∈ ns, 0 ≤ x) : small (nats ns) = !(ns.any fun x => decide (8192 ≤ x)) := by
  unfold small nats
  rw [List.all_map, List.not_any_eq_all_not]
  have h : ∀ (l : List Int), (∀ x ∈ l, 0 ≤ x) → l.all ((fun a => decide (a < 8192)) ∘ fun z => z.toNat) = l.all fun x => !decide (8192 ≤ x) := by
    intro l
    induction l with
    | nil => intro _; rfl
    | cons x r ih =>
      intro h
      rw [List.all_cons, List.all_cons, ih fun y hy => h y (List.mem_cons_of_mem _ hy)]
      congr 1
      have hx := h x List.mem_cons_self
      show decide (x.toNat < 8192) = !decide (8192 ≤ x)
      by_cases c : 8192 ≤ x
      · rw [decide_eq_true c, decide_eq_false (by omega)]; rfl
      · rw [decide_eq_false c, decide_eq_true (by omega)]; rfl
  exact h ns hp
theorem few_is (ns : List Int) : few ((nats ns).length / 2) = decide (ns.length / 2 ≤ 24) := by
  rw [nats_len]; rfl
theorem ints_flat (L : List Tri) : Sh68Neutral.ints (L.flatMap triTold) = L.flatMap ti := by
  unfold Sh68Neutral.ints
  rw [List.map_flatMap]
  rfl
theorem tri_bad {ns : List Int} (h : ¬ ns.length / 2 ≤ 24) : PySh68.tm_triangles ns = [-2] := by
  show Sh68Neutral.told (answer (if few ((nats ns).length / 2) = true then Sh68.Call.triangles (nats ns) else Sh68.Call.bad)) = [-2]
  rw [few_is, decide_eq_false h]
  rfl
theorem tri_off {ns : List Int} (hp : ∀ x ∈ ns, 0 ≤ x) (h : ns.length / 2 ≤ 24) (ho : (ns.any fun x => decide (8192 ≤ x)) = true) : PySh68.tm_triangles ns = [-3] := by
  show Sh68Neutral.told (answer (if few ((nats ns).length / 2) = true then Sh68.Call.triangles (nats ns) else Sh68.Call.bad)) = [-3]
  rw [few_is, decide_eq_true h, if_pos rfl]
  show Sh68Neutral.told (if small (nats ns) = false then _ else _) = _
  rw [small_is hp, ho, if_pos (by decide)]
  rfl
theorem tri_due {ns : List Int} (hp : ∀ x ∈ ns, 0 ≤ x) (h : ns.length / 2 ≤ 24) (ho : (ns.any fun x => decide (8192 ≤ x)) = false) : PySh68.tm_triangles ns = ((triangles (stars ns)).length : Int) :: (triangles (stars ns)).flatMap ti := by
  show Sh68Neutral.told (answer (if few ((nats ns).length / 2) = true then Sh68.Call.triangles (nats ns) else Sh68.Call.bad)) = _
  rw [few_is, decide_eq_true h, if_pos rfl]
  show Sh68Neutral.told (if small (nats ns) = false then fail (-3) else many (triangles (stars ns)).length [(triangles (stars ns)).flatMap triTold]) = _
  rw [small_is hp, ho, if_neg (by decide)]
  show ((triangles (stars ns)).length : Int) :: Sh68Neutral.ints ((triangles (stars ns)).flatMap triTold) = _
  rw [ints_flat]
end Tm

namespace Tm
open PySem PySem.Spec PyProof.Rows L2 PySem.AutoSeq1
/-- list.extend with a tuple's object, whatever dict and slots it bears -/
theorem extend_tuple (a t : Addr) (us ws : Array Value) (n m : Nat) (td : Option Addr) (ts : Array (Option Value)) (short : Builtin.List.listTooLong (us.size + ws.size) = false) (h1 : us.size ≤ sizeLine) (h2 : us.size + ws.size ≤ sizeLine + 1) :
    Meets (Builtin.«list.extend» ⟨[.ref a, .ref t], []⟩) fun _ R s => s.heap.get? a = some { cls := .type "list", dict := none, data := .seq us n, slots := #[] } ∧ s.heap.get? t = some { cls := .type "tuple", dict := td, data := .seq ws m, slots := ts } ∧
      R (.ok (.ret Value.none)) { s with heap := s.heap.update a (Obj.mapSeq fun x => x ++ ws), toks := s.toks } := by
  refine .of_wp fun prog w A R s => ?_
  rintro ⟨ea, et, done⟩
  have nolong : ¬(!us.isEmpty && Builtin.List.listTooLong (us.size + ws.size)) = true := by simp [short]
  have both : (us ++ ws).size ≤ sizeLine + 1 := Array.size_append ▸ h2
  obtain ⟨heap, gens, drawn, toks, os⟩ := s
  have k1 := idx_int
  have k2 := AutoSeq1.sub_tuple_tuple
  have k3 := AutoSeq1.sub_list_list
  have k4 := AutoSeq1.sub_tuple_list
  have k5 := AutoSeq1.sub_list_tuple
  wp_walk using (wpAny_updateSeq ea rfl (hz := h1) (_hz' := both)), wpAny_loadPart' ea, wpAny_loadPart' et
  exact ⟨_, rfl, done⟩
section
variable {X : Cx}
/-- xs.extend(t), t a tuple -/
def rExtendT : V → List V → Hp → VK → Prop := fun x vs H Q => ∃ l b xs zs, x = .ref l ∧ vs = [.ref b] ∧ H l = some (.lst xs) ∧ H b = some (.tup zs) ∧ xs.length + zs.length ≤ sizeLine ∧ Q .non (upd H l (.lst (xs ++ zs)))
theorem mt_extendT : MtM X "list.extend" rExtendT := by
  rintro pins s σ H _ _ v us Q I rx rv ⟨l, b, xs, zs, rfl, rfl, atL, atT, fits, done⟩
  obtain rfl : v = Value.ref l := rx
  obtain rfl := Vals.ref1 rv
  obtain ⟨-, ls, n, vL, lenL, objL⟩ := I.lstM atL
  obtain ⟨ts, vT, ⟨⟨_, td, _, tsl⟩, objT, rfl, m, rfl⟩, -⟩ := I.tuple (SqT.of atT)
  have lenT := vT.length
  have both : ls.toArray.size + ts.toArray.size ≤ sizeLine := by
    simp only [List.size_toArray]
    omega
  have meets := extend_tuple l b ls.toArray ts.toArray n m td tsl (notLongL both) (Nat.le_trans (Nat.le_add_right _ _) both) (Nat.le_succ_of_le both)
  refine call_meets F.slot_list_extend ⟨_, objL, rfl⟩ F.entry_list_extend (F.args_list_extend_2 _ _) meets ⟨objL, objT, .non, _, ?_, rfl, done⟩
  exact I.lset (its' := ls ++ ts) atL objL (by simp) (vL.append vT) (by rw [List.length_append]; exact fits)
/-- a statement, then the rest, the slots written out between them -/
def tSeqN (t u : TS) : TS := fun D σ H => t { D with nx := fun σ1 H1 => ∃ σ', σ1 = σ' ∧ u D σ' H1 } σ H
theorem pss_consN {st : Stmt} {rest : List Stmt} {t u : TS} (h1 : PS X st t) (h2 : PSs X rest u) : PSs X (st :: rest) (tSeqN t u) := by
  refine ⟨fun pins s σ H D I h => ?_⟩
  refine wpAny_execs_cons (thn (h1.run pins s σ H { D with nx := fun σ1 H1 => ∃ σ', σ1 = σ' ∧ u D σ' H1 } I h) fun f s1 q => ?_)
  cases f with
  | next =>
    obtain ⟨σ1, H', I', σ', e, q⟩ := q
    subst e
    exact h2.run pins s1 _ H' D I' q
  | ret v => exact q
  | brk => exact q
  | cont => exact q
/-- xs[i] read ahead of xs[i] op= e, i from 0 on -/
def rGetL (K : PySem.W.Frag) : R2 := fun x y H Q => ∃ (p : Addr) (xs : List V) (i : Int) (j : Nat) (v : V), x = .ref p ∧ y = .int i ∧ SqL K H p xs ∧ i = (j : Int) ∧ xs[j]? = some v ∧ Q v H
theorem get_list : PGet X (rGetL X.K) := by
  rintro pins s σ H _ _ ov iv Q I ro ri ⟨p, xs, _, j, v, rfl, rfl, hs, rfl, hv, done⟩
  obtain ⟨t, rfl⟩ := ri
  obtain rfl : ov = Value.ref p := ro
  obtain ⟨us, vals, plain, size⟩ := I.list hs
  obtain ⟨u, hu, ru⟩ := vals.get hv
  have small : j < xs.length := (List.getElem?_eq_some_iff.mp hv).1
  have line := line63
  exact wpAny_getItem_list plain.isList (Int.natCast_nonneg j) (by omega) (by simpa using hu) ⟨v, H, I, ru, done⟩
end
end Tm

namespace Tm
open PySem PySem.Spec PyProof.Rows L2
open PySem.W (Codec)
def topS (i : Nat) : Stmt := PySem.Challenge.pw_skymatch_s01_tm_triangles.main.body.getD i (.Pass ⟨0, 0, 0, 0⟩)
/-! ### heaps -/
theorem same_upd {H : Hp} {p : Addr} {o : HO} (h : H p = none) : Same H (upd H p o) := fun b x e => by
  rw [upd_ne (ne_of_none e h)]
  exact e
theorem at_map {ns : List Int} {z : Int} {i : Nat} (e : z = (i : Int)) (h : i < ns.length) : atI (ns.map V.int) z = some (V.int (at_ ns i)) := by
  rw [e]
  refine atI_nat ?_
  rw [List.getElem?_map, List.getElem?_eq_getElem h, at_get h]
  rfl
def Up (B : Int) (ns : List Int) : Prop := ∀ x ∈ ns, 0 ≤ x ∧ x < B
theorem Up.at {B : Int} {ns : List Int} (h : Up B ns) {i : Nat} (hi : i < ns.length) : 0 ≤ at_ ns i ∧ at_ ns i < B := by
  rw [at_get hi]
  exact h _ (List.getElem_mem hi)
theorem sq_bd {d : Int} (h1 : -8192 < d) (h2 : d < 8192) : d * d < 67108864 := by
  rcases Int.le_total 0 d with h | h
  · have := Int.mul_le_mul_of_nonneg_right (show d ≤ 8191 by omega) h
    omega
  · have e : -d * -d = d * d := Int.neg_mul_neg d d
    have := Int.mul_le_mul_of_nonneg_right (show -d ≤ 8191 by omega) (show 0 ≤ -d by omega)
    omega
theorem Up.wide {ns : List Int} (h : Up 8192 ns) : Up 65536 ns := fun x hx => by
  have := h x hx
  omega
theorem Up.pos {B : Int} {ns : List Int} (h : Up B ns) : ∀ x ∈ ns, 0 ≤ x := fun x hx => (h x hx).1
theorem Up.low {ns : List Int} (hU : Up 65536 ns) (ho : (ns.any fun x => decide (8192 ≤ x)) = false) : Up 8192 ns := fun x hx => ⟨(hU x hx).1, by
  have z := List.any_eq_false.mp ho x hx
  have z2 : ¬ (8192 ≤ x) := fun y => z (decide_eq_true y)
  omega⟩
def KeepBut (v : Addr) (H H' : Hp) : Prop := ∀ b x, H b = some x → b ≠ v → H' b = some x
theorem KeepBut.trans {v : Addr} {H H1 H2 : Hp} (a : KeepBut v H H1) (b : KeepBut v H1 H2) : KeepBut v H H2 := fun c x h n => b c x (a c x h n) n
theorem Same.keep {v : Addr} {H H' : Hp} (s : Same H H') : KeepBut v H H' := fun b x h _ => s b x h
theorem keep_upd {v : Addr} {H : Hp} {o : HO} : KeepBut v H (upd H v o) := fun b x h n => by
  rw [upd_ne n]
  exact h
theorem flat_one {α β : Type} {f : α → List β} {l : List α} {i : Nat} {x : α} (h : l[i]? = some x) : (l.take (i + 1)).flatMap f = (l.take i).flatMap f ++ f x := by
  rw [List.take_add_one, h, List.flatMap_append]
  show _ ++ List.flatMap _ [x] = _
  rw [List.flatMap_cons, List.flatMap_nil, List.append_nil]
def pv2 (p : Nat × Nat) : List V := [V.int ((p.1 : Nat) : Int), V.int ((p.2 : Nat) : Int)]
end Tm

namespace Tm
open PySem PySem.Spec PyProof.Rows L2
open PySem.W (Codec)
abbrev sCount : Stmt := topS 8
theorem scCount : FnScope ["places"] ["places"] (defScope sCount) := ⟨rfl, rfl, rfl, by decide +kernel, rfl, by decide +kernel, by decide +kernel⟩
section
variable {P : Program} {w : World} {K : PySem.W.Frag} {mg : Str → Option Value} {base : Heap}
/-! ### place_count -/
def spCount (K : PySem.W.Frag) : Sp := fun vs H Q _ => ∃ (a : Addr) (ns : List Int), vs = [.ref a] ∧ SqL K H a (ns.map V.int) ∧ Q (.int ((ns.length / 2 : Nat) : Int)) H
theorem ok_count {f : Addr} {fd : FuncData} {k : Nat} (F : Fun K "place_count" "place_count" sCount f fd) (ml : mg "len" = none) : FnOk P w K mg base CX0 (k + 1) f fd ["places"] (spCount K) := by
  refine F.ok scCount (fun vs H Q E h => ?_) (fun cdv A outer s H vs Q E hr h => ?_)
  · obtain ⟨a, ns, rfl, _⟩ := h
    rfl
  · obtain ⟨a, ns, rfl, hS, q⟩ := h
    refine ⟨_, pss_one (ps_ret (pe_op op_fdiv (pe_callB call_len_seq (by rfl) ml PySem.boot_len (pa_cons (pv 0) pa_nil)) pe_int)), ?_⟩
    refine ⟨_, rfl, a, _, rfl, .inl hS, _, _, rfl, rfl, ⟨by decide, by decide⟩, ?_⟩
    have e : ((ns.map V.int).length : Int) / 2 = ((ns.length / 2 : Nat) : Int) := by
      rw [List.length_map]
      omega
    show Q (.int (((ns.map V.int).length : Int) / 2)) H
    rw [e]
    exact q
end
end Tm

namespace Tm
open PySem PySem.Spec PyProof.Rows L2
open PySem.W (Codec)
abbrev sAny : Stmt := topS 9
theorem scAny : FnScope ["numbers", "bound", "number"] ["numbers", "bound"] (defScope sAny) := ⟨rfl, rfl, rfl, by decide +kernel, rfl, by decide +kernel, by decide +kernel⟩
section
variable {P : Program} {w : World} {K : PySem.W.Frag} {mg : Str → Option Value} {base : Heap}
/-! ### any_from -/
def spAny (K : PySem.W.Frag) : Sp := fun vs H Q _ => ∃ (a : Addr) (ns : List Int) (b : Int), vs = [.ref a, .int b] ∧ SqL K H a (ns.map V.int) ∧ ns.length ≤ 10000 ∧ ∀ H', Same H H' → Q (.bl (ns.any fun x => decide (b ≤ x))) H'
theorem ok_any {f : Addr} {fd : FuncData} {k : Nat} (F : Fun K "any_from" "any_from" sAny f fd) (ma : mg "any" = none) : FnOk P w K mg base CX0 (k + 1) f fd ["numbers", "bound"] (spAny K) := by
  refine F.ok scAny (fun vs H Q E h => ?_) (fun cdv A outer s H vs Q E hr h => ?_)
  · obtain ⟨a, ns, b, rfl, _⟩ := h
    rfl
  · obtain ⟨a, ns, b, rfl, hS, hn, q⟩ := h
    refine ⟨_, pss_one (ps_ret (pe_callB (cr_any rfl) (by rfl) ma (by decide +kernel) (pa_cons
      (pe_lc (own := [("number", 2)]) (g := gName 2) (tt := tYes) (by rfl) scAny.nd (pi_list (pv 0)) (blkOk_by (own := [("number", 2)]) (N := ["numbers", "bound", "number"]) (sc := defScope sAny) (by decide +kernel))
        (fun _ _ _ _ _ => pg_name (i := 2) scAny.nd rfl (Or.inl rfl)) (fun _ _ _ _ _ => pts_nil)
        (fun _ _ _ _ _ => pe_cmpR op_ge (pv 2) (pv 1) (nomark _))) pa_nil))), ?_⟩
    refine ⟨_, rfl, a, rfl, ⟨_, hS⟩, fun D nD => ?_⟩
    refine lc_list (K := K) (a := a) (xs := ns.map V.int) (fun i H' => Same H H' ∧ H' D = some (.lst (((ns.take i).map fun x => decide (b ≤ x)).map V.bl))) ⟨same_upd nD, upd_same⟩ (fun i H' _ h => h.1.seq hS) (fun i x H' hx h => ?_) (fun H' h => ?_)
    · obtain ⟨sm, hD⟩ := h
      rw [List.getElem?_map] at hx
      obtain ⟨z, hz, rfl⟩ := Option.map_eq_some_iff.mp hx
      refine ⟨rfl, ?_⟩
      refine ⟨_, rfl, _, rfl, _, _, rfl, rfl, _, hD, ?_, ?_, ?_⟩
      · rw [List.length_map, List.length_map, List.length_take]
        exact Nat.lt_of_le_of_lt (Nat.min_le_right _ _) (Nat.lt_of_le_of_lt hn (by decide))
      · intro b o e
        rw [upd_ne (ne_of_none e nD)]
        exact sm b o e
      · rw [upd_same, List.take_add_one, hz, List.map_append, List.map_append]
        rfl
    · obtain ⟨sm, hD⟩ := h
      rw [List.length_map, List.take_length] at hD
      refine ⟨D, ns.map fun x => decide (b ≤ x), rfl, SqL.of hD, ?_⟩
      have e : (ns.map fun x => decide (b ≤ x)).any id = ns.any fun x => decide (b ≤ x) := by
        rw [List.any_map]
        rfl
      rw [e]
      exact q _ sm
end
end Tm

namespace Tm
open PySem PySem.Spec PyProof.Rows L2
open PySem.W (Codec)
abbrev sOff : Stmt := topS 10
theorem scOff : FnScope ["numbers"] ["numbers"] (defScope sOff) := ⟨rfl, rfl, rfl, by decide +kernel, rfl, by decide +kernel, by decide +kernel⟩
section
variable {P : Program} {w : World} {K : PySem.W.Frag} {mg : Str → Option Value} {base : Heap}
/-! ### off_the_chip -/
def spOff (K : PySem.W.Frag) : Sp := fun vs H Q _ => ∃ (a : Addr) (ns : List Int), vs = [.ref a] ∧ SqL K H a (ns.map V.int) ∧ ns.length ≤ 10000 ∧ ∀ H', Same H H' → Q (.bl (ns.any fun x => decide (8192 ≤ x))) H'
theorem ok_off {f fA : Addr} {fd fdA : FuncData} {k : Nat} {t0 : Tok} (F : Fun K "off_the_chip" "off_the_chip" sOff f fd) (FA : Fun K "any_from" "any_from" sAny fA fdA) (bA : Binds K fdA ["numbers", "bound"] []) (gA : mg "any_from" = some (.ref fA)) (ma : mg "any" = none) (mb : mg "PLACES_BELOW" = some (.int 8192 t0)) : FnOk P w K mg base CX0 (k + 2) f fd ["numbers"] (spOff K) := by
  have GA : FnOk P w K mg base CX0 (k + 1) fA fdA ["numbers", "bound"] (spAny K) := ok_any FA ma
  refine F.ok scOff (fun vs H Q E h => ?_) (fun cdv A outer s H vs Q E hr h => ?_)
  · obtain ⟨a, ns, rfl, _⟩ := h
    rfl
  · obtain ⟨a, ns, rfl, hS, hn, q⟩ := h
    refine ⟨_, pss_one (ps_ret (pe_call GA hr (by rfl) gA FA.kp bA .nil pass0 (pa_cons (pv 0) (pa_cons (pe_glob (v := .int 8192) (by rfl) mb ⟨_, rfl⟩) pa_nil)))), ?_⟩
    exact ⟨_, rfl, a, ns, 8192, rfl, hS, hn, q⟩
end
end Tm

namespace Tm
open PySem PySem.Spec PyProof.Rows L2
open PySem.W (Codec)
abbrev sFar : Stmt := topS 11
theorem scFar : FnScope ["x", "y", "u", "v"] ["x", "y", "u", "v"] (defScope sFar) := ⟨rfl, rfl, rfl, by decide +kernel, rfl, by decide +kernel, by decide +kernel⟩
section
variable {P : Program} {w : World} {K : PySem.W.Frag} {mg : Str → Option Value} {base : Heap}
/-! ### how_far -/
def spFar : Sp := fun vs H Q _ => ∃ (x y u v : Int), vs = [.int x, .int y, .int u, .int v] ∧ (-18446744073709551616 < x - u ∧ x - u < 18446744073709551616) ∧ (-18446744073709551616 < y - v ∧ y - v < 18446744073709551616) ∧ Q (.int ((x - u) * (x - u) + (y - v) * (y - v))) H
theorem ok_far {f : Addr} {fd : FuncData} {k : Nat} (F : Fun K "how_far" "how_far" sFar f fd) : FnOk P w K mg base CX0 (k + 1) f fd ["x", "y", "u", "v"] spFar := by
  refine F.ok scFar (fun vs H Q E h => ?_) (fun cdv A outer s H vs Q E hr h => ?_)
  · obtain ⟨x, y, u, v, rfl, _⟩ := h
    rfl
  · obtain ⟨x, y, u, v, rfl, h1, h2, q⟩ := h
    refine ⟨_, pss_one (ps_ret (pe_op op_add (pe_op op_mul (pe_op op_sub (pv 0) (pv 2)) (pe_op op_sub (pv 0) (pv 2))) (pe_op op_mul (pe_op op_sub (pv 1) (pv 3)) (pe_op op_sub (pv 1) (pv 3))))), ?_⟩
    refine ⟨_, rfl, _, rfl, _, _, rfl, rfl, _, rfl, _, rfl, _, _, rfl, rfl, _, _, rfl, rfl, .inl h1, _, rfl, _, rfl, _, _, rfl, rfl, _, rfl, _, rfl, _, _, rfl, rfl, _, _, rfl, rfl, .inl h2, _, _, rfl, rfl, ?_⟩
    exact q
end
end Tm

namespace Tm
open PySem PySem.Spec PyProof.Rows L2
open PySem.W (Codec)
abbrev sDist : Stmt := topS 12
theorem scDist : FnScope ["places", "i", "j"] ["places", "i", "j"] (defScope sDist) := ⟨rfl, rfl, rfl, by decide +kernel, rfl, by decide +kernel, by decide +kernel⟩
section
variable {P : Program} {w : World} {K : PySem.W.Frag} {mg : Str → Option Value} {base : Heap}
/-! ### side_of -/
def spDist (K : PySem.W.Frag) : Sp := fun vs H Q _ => ∃ (a : Addr) (ns : List Int) (i j : Nat), vs = [.ref a, .int i, .int j] ∧ SqL K H a (ns.map V.int) ∧ Up 65536 ns ∧ 2 * i + 1 < ns.length ∧ 2 * j + 1 < ns.length ∧ Q (.int (dst ns i j)) H
theorem ok_dist {f fH : Addr} {fd fdH : FuncData} {k : Nat} (F : Fun K "side_of" "side_of" sDist f fd) (FH : Fun K "how_far" "how_far" sFar fH fdH) (bH : Binds K fdH ["x", "y", "u", "v"] []) (gH : mg "how_far" = some (.ref fH)) : FnOk P w K mg base CX0 (k + 2) f fd ["places", "i", "j"] (spDist K) := by
  have GH : FnOk P w K mg base CX0 (k + 1) fH fdH ["x", "y", "u", "v"] spFar := ok_far FH
  refine F.ok scDist (fun vs H Q E h => ?_) (fun cdv A outer s H vs Q E hr h => ?_)
  · obtain ⟨a, ns, i, j, rfl, _⟩ := h
    rfl
  · obtain ⟨a, ns, i, j, rfl, hS, hU, hi, hj, q⟩ := h
    refine ⟨_, pss_one (ps_ret (pe_call GH hr (by rfl) gH FH.kp bH .nil pass0 (pa_cons (pe_ix ix_list (pv 0) (pe_op op_mul pe_int (pv 1)) (fun _ _ => rfl)) (pa_cons (pe_ix ix_list (pv 0) (pe_op op_add (pe_op op_mul pe_int (pv 1)) pe_int) (fun _ _ => rfl))
      (pa_cons (pe_ix ix_list (pv 0) (pe_op op_mul pe_int (pv 2)) (fun _ _ => rfl)) (pa_cons (pe_ix ix_list (pv 0) (pe_op op_add (pe_op op_mul pe_int (pv 2)) pe_int) (fun _ _ => rfl)) pa_nil)))))), ?_⟩
    have b1 := hU.at (i := 2 * i) (by omega)
    have b2 := hU.at (i := 2 * j) (by omega)
    have b3 := hU.at hi
    have b4 := hU.at hj
    refine ⟨_, rfl, _, rfl, _, _, rfl, rfl, .inl ⟨by decide, by decide⟩, a, _, _, _, rfl, rfl, hS, at_map (i := 2 * i) (by omega) (by omega), ?_⟩
    refine ⟨_, rfl, _, rfl, _, _, rfl, rfl, .inl ⟨by decide, by decide⟩, _, _, rfl, rfl, a, _, _, _, rfl, rfl, hS, at_map (i := 2 * i + 1) (by omega) (by omega), ?_⟩
    refine ⟨_, rfl, _, rfl, _, _, rfl, rfl, .inl ⟨by decide, by decide⟩, a, _, _, _, rfl, rfl, hS, at_map (i := 2 * j) (by omega) (by omega), ?_⟩
    refine ⟨_, rfl, _, rfl, _, _, rfl, rfl, .inl ⟨by decide, by decide⟩, _, _, rfl, rfl, a, _, _, _, rfl, rfl, hS, at_map (i := 2 * j + 1) (by omega) (by omega), ?_⟩
    exact ⟨_, _, _, _, rfl, ⟨by omega, by omega⟩, ⟨by omega, by omega⟩, q⟩
end
end Tm

namespace Tm
open PySem PySem.Spec PyProof.Rows L2
open PySem.W (Codec)
abbrev sTurn : Stmt := topS 13
theorem scTurn : FnScope ["places", "a", "b", "c", "ax", "ay", "bx", "by", "cx", "cy"] ["places", "a", "b", "c"] (defScope sTurn) := ⟨rfl, rfl, rfl, by decide +kernel, rfl, by decide +kernel, by decide +kernel⟩
section
variable {P : Program} {w : World} {K : PySem.W.Frag} {mg : Str → Option Value} {base : Heap}
/-! ### turning -/
def spTurn (K : PySem.W.Frag) : Sp := fun vs H Q _ => ∃ (p : Addr) (ns : List Int) (a b c : Nat), vs = [.ref p, .int a, .int b, .int c] ∧ SqL K H p (ns.map V.int) ∧ Up 65536 ns ∧ 2 * a + 1 < ns.length ∧ 2 * b + 1 < ns.length ∧ 2 * c + 1 < ns.length ∧ Q (.int (trn ns a b c)) H
theorem ok_turn {f : Addr} {fd : FuncData} {k : Nat} (F : Fun K "turning" "turning" sTurn f fd) : FnOk P w K mg base CX0 (k + 1) f fd ["places", "a", "b", "c"] (spTurn K) := by
  refine F.ok scTurn (fun vs H Q E h => ?_) (fun cdv A outer s H vs Q E hr h => ?_)
  · obtain ⟨p, ns, a, b, c, rfl, _⟩ := h
    rfl
  · obtain ⟨p, ns, a, b, c, rfl, hS, hU, ha, hb, hc, q⟩ := h
    refine ⟨_, pss_cons (ps_set (i := 4) scTurn.nd rfl (.inl rfl) (pe_ix ix_list (pv 0) (pe_op op_mul pe_int (pv 1)) (fun _ _ => rfl)))
      (pss_cons (ps_set (i := 5) scTurn.nd rfl (.inl rfl) (pe_ix ix_list (pv 0) (pe_op op_add (pe_op op_mul pe_int (pv 1)) pe_int) (fun _ _ => rfl)))
      (pss_cons (ps_set (i := 6) scTurn.nd rfl (.inl rfl) (pe_ix ix_list (pv 0) (pe_op op_mul pe_int (pv 2)) (fun _ _ => rfl)))
      (pss_cons (ps_set (i := 7) scTurn.nd rfl (.inl rfl) (pe_ix ix_list (pv 0) (pe_op op_add (pe_op op_mul pe_int (pv 2)) pe_int) (fun _ _ => rfl)))
      (pss_cons (ps_set (i := 8) scTurn.nd rfl (.inl rfl) (pe_ix ix_list (pv 0) (pe_op op_mul pe_int (pv 3)) (fun _ _ => rfl)))
      (pss_cons (ps_set (i := 9) scTurn.nd rfl (.inl rfl) (pe_ix ix_list (pv 0) (pe_op op_add (pe_op op_mul pe_int (pv 3)) pe_int) (fun _ _ => rfl)))
      (pss_one (ps_ret (pe_op op_sub (pe_op op_mul (pe_op op_sub (pv 6) (pv 4)) (pe_op op_sub (pv 9) (pv 5))) (pe_op op_mul (pe_op op_sub (pv 7) (pv 5)) (pe_op op_sub (pv 8) (pv 4))))))))))), ?_⟩
    have b1 := hU.at (i := 2 * a) (by omega)
    have b2 := hU.at (i := 2 * b) (by omega)
    have b3 := hU.at (i := 2 * c) (by omega)
    have b4 := hU.at ha
    have b5 := hU.at hb
    have b6 := hU.at hc
    refine ⟨_, rfl, _, rfl, _, _, rfl, rfl, .inl ⟨by decide, by decide⟩, p, _, _, _, rfl, rfl, hS, at_map (i := 2 * a) (by omega) (by omega), ?_⟩
    refine ⟨_, rfl, _, rfl, _, _, rfl, rfl, .inl ⟨by decide, by decide⟩, _, _, rfl, rfl, p, _, _, _, rfl, rfl, hS, at_map (i := 2 * a + 1) (by omega) (by omega), ?_⟩
    refine ⟨_, rfl, _, rfl, _, _, rfl, rfl, .inl ⟨by decide, by decide⟩, p, _, _, _, rfl, rfl, hS, at_map (i := 2 * b) (by omega) (by omega), ?_⟩
    refine ⟨_, rfl, _, rfl, _, _, rfl, rfl, .inl ⟨by decide, by decide⟩, _, _, rfl, rfl, p, _, _, _, rfl, rfl, hS, at_map (i := 2 * b + 1) (by omega) (by omega), ?_⟩
    refine ⟨_, rfl, _, rfl, _, _, rfl, rfl, .inl ⟨by decide, by decide⟩, p, _, _, _, rfl, rfl, hS, at_map (i := 2 * c) (by omega) (by omega), ?_⟩
    refine ⟨_, rfl, _, rfl, _, _, rfl, rfl, .inl ⟨by decide, by decide⟩, _, _, rfl, rfl, p, _, _, _, rfl, rfl, hS, at_map (i := 2 * c + 1) (by omega) (by omega), ?_⟩
    refine ⟨_, rfl, _, rfl, _, _, rfl, rfl, _, rfl, _, rfl, _, _, rfl, rfl, _, _, rfl, rfl, .inl ⟨by omega, by omega⟩, _, rfl, _, rfl, _, _, rfl, rfl, _, rfl, _, rfl, _, _, rfl, rfl, _, _, rfl, rfl, .inl ⟨by omega, by omega⟩, _, _, rfl, rfl, ?_⟩
    exact q
end
end Tm

namespace Tm
open PySem PySem.Spec PyProof.Rows L2
open PySem.W (Codec)
abbrev sTri : Stmt := topS 14
theorem scTri : FnScope ["places", "i", "j", "k", "sides", "shortest", "middle", "longest", "a", "b", "c", "turn"] ["places", "i", "j", "k"] (defScope sTri) := ⟨rfl, rfl, rfl, by decide +kernel, rfl, by decide +kernel, by decide +kernel⟩
theorem dst_bd {ns : List Int} (h : Up 8192 ns) {i j : Nat} (hi : 2 * i + 1 < ns.length) (hj : 2 * j + 1 < ns.length) : dst ns i j < 1073741824 := by
  have b1 := h.at (i := 2 * i) (by omega)
  have b2 := h.at (i := 2 * j) (by omega)
  have b3 := h.at hi
  have b4 := h.at hj
  have c1 := sq_bd (d := at_ ns (2 * i) - at_ ns (2 * j)) (by omega) (by omega)
  have c2 := sq_bd (d := at_ ns (2 * i + 1) - at_ ns (2 * j + 1)) (by omega) (by omega)
  unfold dst
  omega
/-- a triangle as a tuple -/
def tv (m : Sh68.Tri) : List V := [.int (m.a : Int), .int (m.b : Int), .int (m.c : Int), .int (m.u : Int), .int (m.v : Int), .int ((Sh68.bit m.left : Nat) : Int)]
/-- two ints read off a tuple -/
def rd (H : Hp) (v : V) : Int × Int := match v with
  | .ref t => (match H t with
    | some (.tup [.int i, .int j]) => (i, j)
    | _ => (0, 0))
  | _ => (0, 0)
theorem rd_is {H : Hp} {t : Addr} {i j : Int} (h : H t = some (.tup [.int i, .int j])) : rd H (.ref t) = (i, j) := by
  show (match H t with
    | some (.tup [.int i, .int j]) => (i, j)
    | _ => (0, 0)) = (i, j)
  rw [h]
section
variable {P : Program} {w : World} {K : PySem.W.Frag} {mg : Str → Option Value} {base : Heap}
/-! ### triangle_of -/
def spTri (K : PySem.W.Frag) : Sp := fun vs H Q _ => ∃ (p : Addr) (ns : List Int) (i j k : Nat), vs = [.ref p, .int i, .int j, .int k] ∧ SqL K H p (ns.map V.int) ∧ Up 8192 ns ∧ 2 * i + 1 < ns.length ∧ 2 * j + 1 < ns.length ∧ 2 * k + 1 < ns.length ∧
  (Sh68.triOf (stars ns) i j k = none → ∀ H', Same H H' → Q .non H') ∧ (∀ m, Sh68.triOf (stars ns) i j k = some m → ∀ H' t, Same H H' → H t = none → H' t = some (.tup (tv m)) → Q (.ref t) H')
theorem ok_tri {f fD fT : Addr} {fd fdD fdT : FuncData} {k : Nat} {t0 : Tok} (F : Fun K "triangle_of" "triangle_of" sTri f fd) (FD : Fun K "side_of" "side_of" sDist fD fdD) (bD : Binds K fdD ["places", "i", "j"] []) (gD : mg "side_of" = some (.ref fD)) (GD : FnOk P w K mg base CX0 (k + 2) fD fdD ["places", "i", "j"] (spDist K))
    (FT : Fun K "turning" "turning" sTurn fT fdT) (bT : Binds K fdT ["places", "a", "b", "c"] []) (gT : mg "turning" = some (.ref fT)) (ms : mg "sorted" = none) (mS : mg "SCALE" = some (.int 65536 t0)) : FnOk P w K mg base CX0 (k + 3) f fd ["places", "i", "j", "k"] (spTri K) := by
  have GT : FnOk P w K mg base CX0 (k + 2) fT fdT ["places", "a", "b", "c"] (spTurn K) := ok_turn FT
  refine F.ok scTri (fun vs H Q E h => ?_) (fun cdv A outer s H vs Q E hr h => ?_)
  · obtain ⟨p, ns, i, j, k, rfl, _⟩ := h
    rfl
  · obtain ⟨p, ns, i, j, k, rfl, hS, hU, hi, hj, hk, qN, qS⟩ := h
    refine ⟨_, pss_cons (ps_set (i := 4) scTri.nd rfl (.inl rfl) (pe_callB cr_sortedPO (by rfl) ms (by decide +kernel) (pa_cons (pe_lst
          (pa_cons (pe_tup (pa_cons (pe_call GD hr (by rfl) gD FD.kp bD .nil pass0 (pa_cons (pv 0) (pa_cons (pv 2) (pa_cons (pv 3) pa_nil)))) (pa_cons (pv 1) pa_nil)))
          (pa_cons (pe_tup (pa_cons (pe_call GD hr (by rfl) gD FD.kp bD .nil pass0 (pa_cons (pv 0) (pa_cons (pv 1) (pa_cons (pv 3) pa_nil)))) (pa_cons (pv 2) pa_nil)))
          (pa_cons (pe_tup (pa_cons (pe_call GD hr (by rfl) gD FD.kp bD .nil pass0 (pa_cons (pv 0) (pa_cons (pv 1) (pa_cons (pv 2) pa_nil)))) (pa_cons (pv 3) pa_nil))) pa_nil)))) pa_nil)))
      (pss_cons (ps_set (i := 5) scTri.nd rfl (.inl rfl) (pe_ix ix_tup (pe_ix ix_list (pv 4) pe_int (fun _ _ => rfl)) pe_int (fun _ _ => rfl)))
      (pss_cons (ps_set (i := 6) scTri.nd rfl (.inl rfl) (pe_ix ix_tup (pe_ix ix_list (pv 4) pe_int (fun _ _ => rfl)) pe_int (fun _ _ => rfl)))
      (pss_cons (ps_set (i := 7) scTri.nd rfl (.inl rfl) (pe_ix ix_tup (pe_ix ix_list (pv 4) pe_int (fun _ _ => rfl)) pe_int (fun _ _ => rfl)))
      (pss_cons (ps_if (PW.pt (pw_or (pt_cmpR op_eq (pv 5) (pv 6) (nomark _)) (pw_or1 (pt_cmpR op_eq (pv 6) (pv 7) (nomark _))))) (pss_one (ps_ret pe_non)) pss_nil)
      (pss_cons (ps_set (i := 8) scTri.nd rfl (.inl rfl) (pe_ix ix_tup (pe_ix ix_list (pv 4) pe_int (fun _ _ => rfl)) pe_int (fun _ _ => rfl)))
      (pss_cons (ps_set (i := 9) scTri.nd rfl (.inl rfl) (pe_ix ix_tup (pe_ix ix_list (pv 4) pe_int (fun _ _ => rfl)) pe_int (fun _ _ => rfl)))
      (pss_cons (ps_set (i := 10) scTri.nd rfl (.inl rfl) (pe_ix ix_tup (pe_ix ix_list (pv 4) pe_int (fun _ _ => rfl)) pe_int (fun _ _ => rfl)))
      (pss_cons (ps_set (i := 11) scTri.nd rfl (.inl rfl) (pe_call GT hr (by rfl) gT FT.kp bT .nil pass0 (pa_cons (pv 0) (pa_cons (pv 8) (pa_cons (pv 9) (pa_cons (pv 10) pa_nil))))))
      (pss_cons (ps_if (pt_cmpR op_eq (pv 11) pe_int (nomark _)) (pss_one (ps_ret pe_non)) pss_nil)
      (pss_one (ps_ret (pe_tup (pa_cons (pv 8) (pa_cons (pv 9) (pa_cons (pv 10) (pa_cons (pe_op op_fdiv (pe_op op_mul (pe_glob (v := .int 65536) (by rfl) mS ⟨_, rfl⟩) (pv 6)) (pv 7))
        (pa_cons (pe_op op_fdiv (pe_op op_mul (pe_glob (v := .int 65536) (by rfl) mS ⟨_, rfl⟩) (pv 5)) (pv 7)) (pa_cons (pe_ifExp (pt_cmpR op_gt (pv 11) pe_int (nomark _)) pe_int pe_int) pa_nil)))))))))))))))))), ?_⟩
    have hW := hU.wide
    refine ⟨_, rfl, _, rfl, _, rfl, p, ns, j, k, rfl, hS, hW, hj, hk, _, rfl, (by show 2 ≤ sizeLine; decide), fun t1 n1 => ?_⟩
    have s1 : Same H _ := same_upd (o := .tup [.int (dst ns j k), .int (i : Int)]) n1
    refine ⟨_, rfl, _, rfl, _, rfl, p, ns, i, k, rfl, s1.seq hS, hW, hi, hk, _, rfl, (by show 2 ≤ sizeLine; decide), fun t2 n2 => ?_⟩
    have s2 := s1.trans (same_upd (o := .tup [.int (dst ns i k), .int (j : Int)]) n2)
    refine ⟨_, rfl, _, rfl, _, rfl, p, ns, i, j, rfl, s2.seq hS, hW, hi, hj, _, rfl, (by show 2 ≤ sizeLine; decide), fun t3 n3 => ?_⟩
    have s3 := s2.trans (same_upd (o := .tup [.int (dst ns i j), .int (k : Int)]) n3)
    refine ⟨(by show 3 ≤ sizeLine; decide), fun l nl => ?_⟩
    have s4 := s3.trans (same_upd (o := .lst [.ref t1, .ref t2, .ref t3]) nl)
    generalize hH3 : upd (upd (upd H t1 (.tup [.int (dst ns j k), .int (i : Int)])) t2 (.tup [.int (dst ns i k), .int (j : Int)])) t3 (.tup [.int (dst ns i j), .int (k : Int)]) = H3 at *
    have e3 : H3 t3 = some (.tup [.int (dst ns i j), .int (k : Int)]) := by rw [← hH3, upd_same]
    have e2 : H3 t2 = some (.tup [.int (dst ns i k), .int (j : Int)]) := by rw [← hH3]; exact same_upd n3 _ _ upd_same
    have e1 : H3 t1 = some (.tup [.int (dst ns j k), .int (i : Int)]) := by rw [← hH3]; exact same_upd n3 _ _ (same_upd n2 _ _ upd_same)
    have f1 := same_upd (o := .lst [.ref t1, .ref t2, .ref t3]) nl _ _ e1
    have f2 := same_upd (o := .lst [.ref t1, .ref t2, .ref t3]) nl _ _ e2
    have f3 := same_upd (o := .lst [.ref t1, .ref t2, .ref t3]) nl _ _ e3
    have fl : upd H3 l (.lst [.ref t1, .ref t2, .ref t3]) l = some (.lst [.ref t1, .ref t2, .ref t3]) := upd_same
    generalize upd H3 l (.lst [.ref t1, .ref t2, .ref t3]) = H4 at *
    have hx : ∀ x ∈ [V.ref t1, V.ref t2, V.ref t3], ∃ t, x = V.ref t ∧ H4 t = some (.tup [.int (rd H4 x).1, .int (rd H4 x).2]) := by
      intro x hx
      simp only [List.mem_cons, List.not_mem_nil, or_false] at hx
      rcases hx with rfl | rfl | rfl
      · exact ⟨t1, rfl, by rw [rd_is f1]; exact f1⟩
      · exact ⟨t2, rfl, by rw [rd_is f2]; exact f2⟩
      · exact ⟨t3, rfl, by rw [rd_is f3]; exact f3⟩
    refine ⟨l, _, rd H4, rfl, SqL.of fl, hx, fun ys q srt stb nq => ?_⟩
    have s5 := s4.trans (same_upd (o := .lst ys) nq)
    obtain ⟨y0, y1, y2, rfl⟩ := three (l := ys) (by rw [stb.perm.length_eq]; rfl)
    have hp : [rd H4 y0, rd H4 y1, rd H4 y2].Perm ((sidesOf (stars ns) i j k).map ci) := by
      have h := stb.perm.map (rd H4)
      have e : [V.ref t1, V.ref t2, V.ref t3].map (rd H4) = (sidesOf (stars ns) i j k).map ci := by
        show [rd H4 (.ref t1), rd H4 (.ref t2), rd H4 (.ref t3)] = [(((Sh68.dist2 (Sh68.pt (stars ns) j) (Sh68.pt (stars ns) k) : Nat) : Int), (i : Int)), (((Sh68.dist2 (Sh68.pt (stars ns) i) (Sh68.pt (stars ns) k) : Nat) : Int), (j : Int)), (((Sh68.dist2 (Sh68.pt (stars ns) i) (Sh68.pt (stars ns) j) : Nat) : Int), (k : Int))]
        rw [rd_is f1, rd_is f2, rd_is f3, dist_is hU.pos hj hk, dist_is hU.pos hi hk, dist_is hU.pos hi hj]
      rw [e] at h
      exact h
    have l01 : (rd H4 y0).1 ≤ (rd H4 y1).1 := by
      have h := SrtO.lexB_no.mp ((List.pairwise_cons.mp srt).1 y1 (by simp))
      omega
    have l12 : (rd H4 y1).1 ≤ (rd H4 y2).1 := by
      have h := SrtO.lexB_no.mp ((List.pairwise_cons.mp (List.pairwise_cons.mp srt).2).1 y2 (by simp))
      omega
    obtain ⟨hno, hyes⟩ := tri_is hp l01 l12
    obtain ⟨u0, rfl, g0⟩ := hx y0 (stb.perm.subset (by simp))
    obtain ⟨u1, rfl, g1⟩ := hx y1 (stb.perm.subset (by simp))
    obtain ⟨u2, rfl, g2⟩ := hx y2 (stb.perm.subset (by simp))
    have g0' := same_upd (o := .lst [.ref u0, .ref u1, .ref u2]) nq _ _ g0
    have g1' := same_upd (o := .lst [.ref u0, .ref u1, .ref u2]) nq _ _ g1
    have g2' := same_upd (o := .lst [.ref u0, .ref u1, .ref u2]) nq _ _ g2
    have gq : upd H4 q (.lst [.ref u0, .ref u1, .ref u2]) q = some (.lst [.ref u0, .ref u1, .ref u2]) := upd_same
    have hS5 := s5.seq hS
    generalize hH5 : upd H4 q (.lst [.ref u0, .ref u1, .ref u2]) = H5 at *
    clear hx srt stb hp f1 f2 f3 fl
    generalize rd H4 (.ref u0) = q0 at *
    generalize rd H4 (.ref u1) = q1 at *
    generalize rd H4 (.ref u2) = q2 at *
    -- shortest, middle, longest
    refine ⟨_, rfl, q, _, _, _, rfl, rfl, SqL.of gq, atI_nat (j := 0) rfl, u0, _, _, _, rfl, rfl, SqT.of g0', atI_nat (j := 0) rfl, ?_⟩
    refine ⟨_, rfl, q, _, _, _, rfl, rfl, SqL.of gq, atI_nat (j := 1) rfl, u1, _, _, _, rfl, rfl, SqT.of g1', atI_nat (j := 0) rfl, ?_⟩
    refine ⟨_, rfl, q, _, _, _, rfl, rfl, SqL.of gq, atI_nat (j := 2) rfl, u2, _, _, _, rfl, rfl, SqT.of g2', atI_nat (j := 0) rfl, ?_⟩
    refine ⟨_, rfl, _, rfl, rfl, _, rfl, ite2 (fun e => ?_) (fun e => ?_)⟩
    · exact qN (hno (.inl (V.int.inj (of_decide_eq_true e)))) _ s5
    have n01 : q0.1 ≠ q1.1 := fun z => e (decide_eq_true (by rw [z]))
    refine ⟨_, rfl, _, rfl, rfl, _, rfl, ite2 (fun e' => ?_) (fun e' => ?_)⟩
    · exact qN (hno (.inr (V.int.inj (of_decide_eq_true e')))) _ s5
    have n12 : q1.1 ≠ q2.1 := fun z => e' (decide_eq_true (by rw [z]))
    clear e e'
    obtain ⟨x, y, z, rfl, rfl, rfl, ⟨mx, my, mz⟩, ht⟩ := hyes n01 n12
    have ix : ∀ v ∈ sidesOf (stars ns) i j k, 2 * v.2 + 1 < ns.length ∧ ((v.1 : Nat) : Int) < 1073741824 := fun v hv => by
      unfold sidesOf at hv
      simp only [List.mem_cons, List.not_mem_nil, or_false] at hv
      rcases hv with rfl | rfl | rfl
      · exact ⟨hi, by rw [dist_is hU.pos hj hk]; exact dst_bd hU hj hk⟩
      · exact ⟨hj, by rw [dist_is hU.pos hi hk]; exact dst_bd hU hi hk⟩
      · exact ⟨hk, by rw [dist_is hU.pos hi hj]; exact dst_bd hU hi hj⟩
    have hx2 := ix x mx
    have hy2 := ix y my
    have hz2 := ix z mz
    have px : (0 : Int) < (x.1 : Int) := by
      have a1 : ((y.1 : Nat) : Int) ≤ ((x.1 : Nat) : Int) := l12
      have a2 : ((y.1 : Nat) : Int) ≠ ((x.1 : Nat) : Int) := n12
      omega
    rw [turn_is hU.pos hx2.1 hy2.1 hz2.1] at ht
    -- a, b, c
    refine ⟨_, rfl, q, _, _, _, rfl, rfl, SqL.of gq, atI_nat (j := 2) rfl, u2, _, _, _, rfl, rfl, SqT.of g2', atI_nat (j := 1) rfl, ?_⟩
    refine ⟨_, rfl, q, _, _, _, rfl, rfl, SqL.of gq, atI_nat (j := 1) rfl, u1, _, _, _, rfl, rfl, SqT.of g1', atI_nat (j := 1) rfl, ?_⟩
    refine ⟨_, rfl, q, _, _, _, rfl, rfl, SqL.of gq, atI_nat (j := 0) rfl, u0, _, _, _, rfl, rfl, SqT.of g0', atI_nat (j := 1) rfl, ?_⟩
    refine ⟨_, rfl, _, rfl, _, rfl, _, rfl, p, ns, x.2, y.2, z.2, rfl, hS5, hW, hx2.1, hy2.1, hz2.1, ?_⟩
    refine ⟨_, rfl, rfl, _, rfl, ite2 (fun e => ?_) (fun e => ?_)⟩
    · rw [if_pos (V.int.inj (of_decide_eq_true e))] at ht
      exact qN ht _ s5
    rw [if_neg (fun z => e (decide_eq_true (by rw [z])))] at ht
    clear e
    refine ⟨_, rfl, _, rfl, _, rfl, _, rfl, _, _, rfl, rfl, .inl ⟨by decide, by decide⟩, _, rfl, _, _, rfl, rfl, ⟨px, hx2.2⟩, _, rfl, _, _, rfl, rfl, .inl ⟨by decide, by decide⟩, _, rfl, _, _, rfl, rfl, ⟨px, hx2.2⟩, _, rfl, _, _, rfl, rfl, _, rfl, ite2 (fun e => ?_) (fun e => ?_)⟩
    · refine ⟨(by show 6 ≤ sizeLine; decide), fun t nt => ?_⟩
      refine qS _ ht _ t (s5.trans (same_upd nt)) (s5.free nt) ?_
      rw [upd_same]
      unfold tv
      dsimp only
      rw [e, Int.natCast_ediv, Int.natCast_ediv, Int.natCast_mul, Int.natCast_mul]
      rfl
    · refine ⟨(by show 6 ≤ sizeLine; decide), fun t nt => ?_⟩
      refine qS _ ht _ t (s5.trans (same_upd nt)) (s5.free nt) ?_
      rw [upd_same]
      unfold tv
      dsimp only
      rw [eq_false_of_ne_true e, Int.natCast_ediv, Int.natCast_ediv, Int.natCast_mul, Int.natCast_mul]
      rfl
end
end Tm

namespace Tm
open PySem PySem.Spec PyProof.Rows L2
open PySem.W (Codec)
abbrev sTris : Stmt := topS 15
theorem scTris : FnScope ["places", "count", "found", "i", "j", "k", "triangle"] ["places"] (defScope sTris) := ⟨rfl, rfl, rfl, by decide +kernel, rfl, by decide +kernel, by decide +kernel⟩
theorem args4 {p : Addr} {a b c a' b' c' : Int} (h1 : a = a') (h2 : b = b') (h3 : c = c') : [V.ref p, V.int a, V.int b, V.int c] = [V.ref p, V.int a', V.int b', V.int c'] := by
  subst h1 h2 h3
  rfl
/-- a list of triangles: where its tuples stand, and what they are -/
def FoundAt (H : Hp) (o : Addr) (L : List Sh68.Tri) : Prop := ∃ tm : List (Addr × Sh68.Tri), H o = some (.lst (tm.map fun q => V.ref q.1)) ∧ (∀ q ∈ tm, H q.1 = some (.tup (tv q.2))) ∧ tm.map (·.2) = L
def part3 (s : List Sh68.Pt) (n i j k : Nat) : List Sh68.Tri := (List.range i).flatMap (row2 s n) ++ ((List.range j).flatMap (fun j => row3 s n i (i + 1 + j)) ++ (List.range k).filterMap fun k => Sh68.triOf s i (i + 1 + j) (i + 1 + j + 1 + k))
theorem part3_len (s : List Sh68.Pt) {n i j k : Nat} (hn : n ≤ 24) (hi : i ≤ n) (hj : j ≤ n) (hk : k ≤ n) : (part3 s n i j k).length ≤ 15000 := by
  unfold part3
  rw [List.length_append, List.length_append]
  have a1 := flat_len (row2_len s n) i
  have a2 := flat_len (fun j => row3_len s n i (i + 1 + j)) j
  have a3 : ((List.range k).filterMap fun k => Sh68.triOf s i (i + 1 + j) (i + 1 + j + 1 + k)).length ≤ k := by
    refine Nat.le_trans (List.length_filterMap_le _ _) ?_
    rw [List.length_range]
    exact Nat.le_refl _
  have b0 : n * n ≤ 24 * 24 := Nat.mul_le_mul hn hn
  have b1 : i * (n * n) ≤ 24 * (24 * 24) := Nat.mul_le_mul (by omega) b0
  have b2 : j * n ≤ 24 * 24 := Nat.mul_le_mul (by omega) hn
  omega
theorem part3_more (s : List Sh68.Pt) (n i j k : Nat) : part3 s n i j (k + 1) = part3 s n i j k ++ (Sh68.triOf s i (i + 1 + j) (i + 1 + j + 1 + k)).toList := by
  unfold part3
  rw [filt_more, List.append_assoc, List.append_assoc]
theorem part3_row (s : List Sh68.Pt) (n i j : Nat) : part3 s n i j (n - (i + 1 + j + 1)) = part3 s n i (j + 1) 0 := by
  unfold part3
  rw [flat_more, List.range_zero, List.filterMap_nil, List.append_nil]
  rfl
theorem part3_col (s : List Sh68.Pt) (n i : Nat) : part3 s n i (n - (i + 1)) 0 = part3 s n (i + 1) 0 0 := by
  unfold part3
  simp only [flat_more, List.range_zero, List.filterMap_nil, List.append_nil, List.flatMap_nil]
  rfl
theorem part3_all (s : List Sh68.Pt) : part3 s s.length s.length 0 0 = Sh68.triangles s := by
  unfold part3
  rw [List.range_zero, List.filterMap_nil, List.flatMap_nil, List.append_nil, List.append_nil, rows_are]
  rfl
theorem tris_len {ns : List Int} (h : ns.length / 2 ≤ 24) : (Sh68.triangles (stars ns)).length ≤ 15000 := by
  rw [← part3_all]
  have e := stars_len ns
  exact part3_len _ (by omega) (Nat.le_refl _) (by omega) (by omega)
abbrev refs (tm : List (Addr × Sh68.Tri)) : List V := tm.map fun q => V.ref q.1
section
variable {P : Program} {w : World} {K : PySem.W.Frag} {mg : Str → Option Value} {base : Heap}
/-! ### triangles_of -/
def spTris (K : PySem.W.Frag) : Sp := fun vs H Q _ => ∃ (p : Addr) (ns : List Int), vs = [.ref p] ∧ SqL K H p (ns.map V.int) ∧ Up 8192 ns ∧ ns.length / 2 ≤ 24 ∧
  ∀ H' o, Same H H' → H o = none → FoundAt H' o (Sh68.triangles (stars ns)) → Q (.ref o) H'
theorem ok_tris {f fC f1 : Addr} {fd fdC fd1 : FuncData} {k : Nat} (F : Fun K "triangles_of" "triangles_of" sTris f fd) (FC : Fun K "place_count" "place_count" sCount fC fdC) (bC : Binds K fdC ["places"] []) (gC : mg "place_count" = some (.ref fC))
    (ml : mg "len" = none) (mr : mg "range" = none) (F1 : Fun K "triangle_of" "triangle_of" sTri f1 fd1) (b1 : Binds K fd1 ["places", "i", "j", "k"] []) (g1 : mg "triangle_of" = some (.ref f1))
    (G1 : FnOk P w K mg base CX0 (k + 3) f1 fd1 ["places", "i", "j", "k"] (spTri K)) : FnOk P w K mg base CX0 (k + 4) f fd ["places"] (spTris K) := by
  have GC : FnOk P w K mg base CX0 1 fC fdC ["places"] (spCount K) := ok_count FC ml
  refine F.ok scTris (fun vs H Q E h => ?_) (fun cdv A outer s H vs Q E hr h => ?_)
  · obtain ⟨p, ns, rfl, _⟩ := h
    rfl
  · obtain ⟨p, ns, rfl, hS, hU, hn, q⟩ := h
    have hr1 : Room 1 _ := hr.mono (by omega)
    refine ⟨_, pss_cons (ps_set (i := 1) scTris.nd rfl (.inl rfl) (pe_call GC hr1 (by rfl) gC FC.kp bC .nil pass0 (pa_cons (pv 0) pa_nil)))
      (pss_cons (ps_set (i := 2) scTris.nd rfl (.inl rfl) (pe_lst pa_nil))
      (pss_cons (ps_for PassesOwn.never rfl (pi_range1 (by rfl) mr (pa_cons (pv 1) pa_nil)) (pg_name (i := 3) scTris.nd rfl (.inl rfl))
        (pss_one (ps_for PassesOwn.never rfl (pi_range2 (by rfl) mr (pa_cons (pe_op op_add (pv 3) pe_int) (pa_cons (pv 1) pa_nil))) (pg_name (i := 4) scTris.nd rfl (.inl rfl))
          (pss_one (ps_for PassesOwn.never rfl (pi_range2 (by rfl) mr (pa_cons (pe_op op_add (pv 4) pe_int) (pa_cons (pv 1) pa_nil))) (pg_name (i := 5) scTris.nd rfl (.inl rfl))
            (pss_cons (ps_set (i := 6) scTris.nd rfl (.inl rfl) (pe_call G1 hr (by rfl) g1 F1.kp b1 .nil pass0 (pa_cons (pv 0) (pa_cons (pv 3) (pa_cons (pv 4) (pa_cons (pv 5) pa_nil))))))
            (pss_one (ps_if (pt_cmpR op_notN (pv 6) pe_non (nomark _))
              (pss_one (ps_expr (pe_bm PySem.F.plainAttrs_list PySem.F.slot_list_append PySem.F.type_list_append mt_append (pv 2) (pa_cons (pv 6) pa_nil)))) pss_nil))))))))
      (pss_one (ps_ret (pv 2))))), ?_⟩
    refine ⟨_, rfl, p, ns, rfl, hS, ?_⟩
    refine ⟨Nat.zero_le _, fun o no => ?_⟩
    have s0 : Same H (upd H o (.lst [])) := same_upd no
    have hlen : (stars ns).length = ns.length / 2 := stars_len ns
    generalize en : ns.length / 2 = n at *
    refine ⟨_, rfl, (n : Int), rfl, by omega, by omega, ?_⟩
    have start : FoundAt (upd H o (.lst [])) o (part3 (stars ns) n 0 0 0) := ⟨[], upd_same, (fun q hq => by cases hq), rfl⟩
    refine for_range (lo := 0) (n := (n : Int).toNat) (fun i σ H' => ∃ v3 v4 v5 v6, σ = [some (.ref p), some (.int (n : Int)), some (.ref o), v3, v4, v5, v6] ∧ Same H H' ∧ FoundAt H' o (part3 (stars ns) n i 0 0))
      ⟨none, none, none, none, rfl, s0, start⟩ ?_ ?_
    · rintro i σ H1 hi ⟨v3, v4, v5, v6, rfl, s1, L1⟩
      have hi' : i < n := by omega
      refine ⟨_, rfl, _, _, rfl, rfl, _, rfl, _, _, rfl, ⟨by omega, by omega, by omega, by omega⟩, ?_⟩
      refine for_range (lo := 0 + (i : Int) + 1) (n := ((n : Int) - (0 + (i : Int) + 1)).toNat) (fun j σ H' => ∃ v4 v5 v6, σ = [some (.ref p), some (.int (n : Int)), some (.ref o), some (.int (0 + (i : Int))), v4, v5, v6] ∧ Same H H' ∧ FoundAt H' o (part3 (stars ns) n i j 0))
        ⟨v4, v5, v6, rfl, s1, L1⟩ ?_ ?_
      · rintro j σ H2 hj ⟨v4, v5, v6, rfl, s2, L2⟩
        refine ⟨_, rfl, _, _, rfl, rfl, _, rfl, _, _, rfl, ⟨by omega, by omega, by omega, by omega⟩, ?_⟩
        refine for_range (lo := 0 + (i : Int) + 1 + (j : Int) + 1) (n := ((n : Int) - (0 + (i : Int) + 1 + (j : Int) + 1)).toNat) (fun k σ H' => ∃ v5 v6, σ = [some (.ref p), some (.int (n : Int)), some (.ref o), some (.int (0 + (i : Int))), some (.int (0 + (i : Int) + 1 + (j : Int))), v5, v6] ∧ Same H H' ∧ FoundAt H' o (part3 (stars ns) n i j k))
          ⟨v5, v6, rfl, s2, L2⟩ ?_ ?_
        · rintro k σ H3 hk ⟨v5, v6, rfl, s3, L3⟩
          have more := part3_more (stars ns) n i j k
          have size := part3_len (stars ns) (n := n) (i := i) (j := j) (k := k) hn (by omega) (by omega) (by omega)
          refine ⟨_, rfl, _, rfl, _, rfl, _, rfl, p, ns, i, i + 1 + j, i + 1 + j + 1 + k, args4 (by omega) (by omega) (by omega), s3.seq hS, hU, by omega, by omega, by omega, fun hN H4 s4 => ?_, fun m hm H4 t s4 nt ht => ?_⟩
          · rw [hN] at more
            refine ⟨_, rfl, rfl, _, rfl, ite2 (fun e => absurd e (by simp)) (fun _ => ?_)⟩
            refine ⟨_, _, rfl, s3.trans s4, ?_⟩
            rw [more]
            obtain ⟨tm, h1, h2, h3⟩ := L3
            exact ⟨tm, s4 _ _ h1, fun q hq => s4 _ _ (h2 q hq), by rw [h3]; exact (List.append_nil _).symm⟩
          · rw [hm] at more
            refine ⟨_, rfl, rfl, _, rfl, ite2 (fun _ => ?_) (fun e => absurd (by simp) e)⟩
            obtain ⟨tm, h1, h2, h3⟩ := L3
            have h1' := s4 _ _ h1
            have hz : (tm.map fun q => V.ref q.1).length < sizeLine := by
              rw [List.length_map, ← List.length_map (f := (·.2)), h3]
              exact Nat.lt_of_le_of_lt size (by decide)
            refine ⟨.ref o, rfl, .inl ⟨rfl, _, SqL.of h1'⟩, _, rfl, o, _, _, rfl, rfl, h1', hz, ?_⟩
            refine ⟨_, _, rfl, fun b x e => ?_, ?_⟩
            · rw [upd_ne (ne_of_none e no)]
              exact s4 _ _ (s3 _ _ e)
            · rw [more]
              refine ⟨tm ++ [(t, m)], ?_, fun q hq => ?_, ?_⟩
              · rw [upd_same, List.map_append]
                rfl
              · rcases List.mem_append.mp hq with hq | hq
                · have z := s4 _ _ (h2 q hq)
                  rw [upd_ne (ne_of z h1' (by intro z; cases z))]
                  exact z
                · rw [List.mem_singleton.mp hq]
                  rw [upd_ne (ne_of ht h1' (by intro z; cases z))]
                  exact ht
              · rw [List.map_append, h3]
                rfl
        · rintro σ H3 ⟨v5, v6, rfl, s3, L3⟩
          have e : ((n : Int) - (0 + (i : Int) + 1 + (j : Int) + 1)).toNat = n - (i + 1 + j + 1) := by omega
          rw [e, part3_row] at L3
          exact ⟨_, _, _, rfl, s3, L3⟩
      · rintro σ H2 ⟨v4, v5, v6, rfl, s2, L2⟩
        have e : ((n : Int) - (0 + (i : Int) + 1)).toNat = n - (i + 1) := by omega
        rw [e, part3_col] at L2
        exact ⟨_, _, _, _, rfl, s2, L2⟩
    · rintro σ H1 ⟨v3, v4, v5, v6, rfl, s1, L1⟩
      have e : (n : Int).toNat = (stars ns).length := by omega
      have e2 : n = (stars ns).length := by omega
      rw [e, e2, part3_all] at L1
      exact ⟨_, rfl, q _ _ s1 no L1⟩
end
end Tm

namespace Tm
open PySem PySem.Spec PyProof.Rows L2
open PySem.W (Codec)
abbrev sCounted : Stmt := topS 7
theorem scCounted : FnScope ["found", "answer", "one"] ["found"] (defScope sCounted) := ⟨rfl, rfl, rfl, by decide +kernel, rfl, by decide +kernel, by decide +kernel⟩
section
variable {P : Program} {w : World} {K : PySem.W.Frag} {mg : Str → Option Value} {base : Heap}
/-! ### counted -/
def spCounted : Sp := fun vs H Q _ => ∃ (o : Addr) (tm : List (Addr × List V)), vs = [.ref o] ∧ H o = some (.lst (tm.map fun q => V.ref q.1)) ∧ (∀ q ∈ tm, H q.1 = some (.tup q.2)) ∧ (tm.flatMap (·.2)).length < sizeLine ∧
  ∀ H' p, Same H H' → H p = none → H' p = some (.lst (.int (tm.length : Int) :: tm.flatMap (·.2))) → Q (.ref p) H'
theorem ok_counted {f : Addr} {fd : FuncData} {k : Nat} (F : Fun K "counted" "counted" sCounted f fd) (ml : mg "len" = none) : FnOk P w K mg base CX0 (k + 1) f fd ["found"] spCounted := by
  refine F.ok scCounted (fun vs H Q E h => ?_) (fun cdv A outer s H vs Q E hr h => ?_)
  · obtain ⟨o, tm, rfl, _⟩ := h
    rfl
  · obtain ⟨o, tm, rfl, h1, h2, hz, q⟩ := h
    refine ⟨_, pss_cons (ps_set (i := 1) scCounted.nd rfl (.inl rfl) (pe_lst (pa_cons (pe_callB call_len_seq (by rfl) ml PySem.boot_len (pa_cons (pv 0) pa_nil)) pa_nil)))
      (pss_cons (ps_for PassesOwn.never rfl (pi_list (pv 0)) (pg_name (i := 2) scCounted.nd rfl (.inl rfl))
        (pss_one (ps_expr (pe_bm PySem.F.plainAttrs_list PySem.F.slot_list_extend PySem.F.type_list_extend mt_extendT (pv 1) (pa_cons (pv 2) pa_nil)))))
      (pss_one (ps_ret (pv 1)))), ?_⟩
    refine ⟨_, rfl, o, _, rfl, .inl (SqL.of h1), (by show 1 ≤ sizeLine; decide), fun r nr => ?_⟩
    have s3 : Same H _ := same_upd (o := .lst [.int ((tm.map fun q => V.ref q.1).length : Int)]) nr
    refine ⟨_, rfl, o, rfl, ⟨_, SqL.of (s3 _ _ h1)⟩, for_list (K := K) (a := o) (xs := tm.map fun q => V.ref q.1) (fun i σ H' => ∃ v : Option V, σ = [some (.ref o), some (.ref r), v] ∧ Same H H' ∧ H' r = some (.lst (.int ((tm.map fun q => V.ref q.1).length : Int) :: (tm.take i).flatMap (·.2))))
      ⟨none, rfl, s3, upd_same⟩ (fun i σ H' _ ⟨_, _, s5, _⟩ => SqL.of (s5 _ _ h1)) ?_ ?_⟩
    · rintro i y σ H' hi ⟨v, rfl, s5, h5⟩
      rw [List.getElem?_map] at hi
      obtain ⟨z, hz', rfl⟩ := Option.map_eq_some_iff.mp hi
      have hm : z ∈ tm := List.mem_of_getElem? hz'
      have ht := s5 _ _ (h2 z hm)
      have e1 : ((tm.take (i + 1)).flatMap (·.2)) = ((tm.take i).flatMap (·.2)) ++ z.2 := flat_one hz'
      have hlen : ((tm.take (i + 1)).flatMap (·.2)).length ≤ (tm.flatMap (·.2)).length := by
        have e2 : tm.flatMap (·.2) = (tm.take (i + 1)).flatMap (·.2) ++ (tm.drop (i + 1)).flatMap (·.2) := by rw [← List.flatMap_append, List.take_append_drop]
        rw [e2, List.length_append]
        exact Nat.le_add_right _ _
      refine ⟨.ref r, rfl, .inl ⟨rfl, _, SqL.of h5⟩, _, rfl, r, z.1, _, _, rfl, rfl, h5, ht, ?_, ?_⟩
      · rw [e1, List.length_append] at hlen
        rw [List.length_cons]
        omega
      · refine ⟨_, rfl, fun b x e => ?_, ?_⟩
        · rw [upd_ne (ne_of_none e nr)]
          exact s5 _ _ e
        · rw [upd_same, e1]
          rfl
    · rintro σ H' ⟨v, rfl, s5, h5⟩
      refine ⟨_, rfl, q _ r s5 nr ?_⟩
      rw [h5, List.length_map, List.take_length]
end
end Tm

namespace Tm
open PySem PySem.Spec PyProof.Rows L2
open PySem.W (Codec)
abbrev sMain : Stmt := topS 6
theorem scMain : FnScope ["s"] ["s"] (defScope sMain) := ⟨rfl, rfl, rfl, by decide +kernel, rfl, by decide +kernel, by decide +kernel⟩
theorem flat_tv (tm : List (Addr × Sh68.Tri)) : ((tm.map fun q => (q.1, tv q.2)).flatMap (·.2)) = ((tm.map (·.2)).flatMap ti).map V.int := by
  rw [List.map_flatMap, List.flatMap_map, List.flatMap_map]
  rfl
theorem flat_tv_len : ∀ (tm : List (Addr × Sh68.Tri)), ((tm.map fun q => (q.1, tv q.2)).flatMap (·.2)).length = 6 * tm.length
  | [] => rfl
  | q :: r => by
    rw [List.map_cons, List.flatMap_cons, List.length_append, flat_tv_len r, List.length_cons]
    show 6 + 6 * r.length = 6 * (r.length + 1)
    omega
section
variable {P : Program} {w : World} {K : PySem.W.Frag} {mg : Str → Option Value} {base : Heap}
/-! ### tm_triangles -/
def spMain (K : PySem.W.Frag) : Sp := fun vs H Q _ => ∃ (a : Addr) (ns : List Int), vs = [.ref a] ∧ SqL K H a (ns.map V.int) ∧ Up 65536 ns ∧ ns.length ≤ 60 ∧
  ∀ H' p, H' p = some (.lst ((PySh68.tm_triangles ns).map V.int)) → Q (.ref p) H'
theorem ok_main {f fC fO fT fN : Addr} {fd fdC fdO fdT fdN : FuncData} {k : Nat} {t2 t3 t4 : Tok} (F : Fun K "tm_triangles" "tm_triangles" sMain f fd) (FC : Fun K "place_count" "place_count" sCount fC fdC) (bC : Binds K fdC ["places"] []) (gC : mg "place_count" = some (.ref fC)) (GC : FnOk P w K mg base CX0 1 fC fdC ["places"] (spCount K))
    (FO : Fun K "off_the_chip" "off_the_chip" sOff fO fdO) (bO : Binds K fdO ["numbers"] []) (gO : mg "off_the_chip" = some (.ref fO)) (GO : FnOk P w K mg base CX0 2 fO fdO ["numbers"] (spOff K))
    (FT : Fun K "triangles_of" "triangles_of" sTris fT fdT) (bT : Binds K fdT ["places"] []) (gT : mg "triangles_of" = some (.ref fT)) (GT : FnOk P w K mg base CX0 (k + 4) fT fdT ["places"] (spTris K))
    (FN : Fun K "counted" "counted" sCounted fN fdN) (bN : Binds K fdN ["found"] []) (gN : mg "counted" = some (.ref fN)) (GN : FnOk P w K mg base CX0 1 fN fdN ["found"] spCounted)
    (mM : mg "MOST_STARS" = some (.int 24 t2)) (mR : mg "OUT_OF_RANGE" = some (.int (-2) t3)) (mF : mg "OFF_THE_CHIP" = some (.int (-3) t4)) :
    FnOk P w K mg base CX0 (k + 5) f fd ["s"] (spMain K) := by
  refine F.ok scMain (fun vs H Q E h => ?_) (fun cdv A outer s H vs Q E hr h => ?_)
  · obtain ⟨a, ns, rfl, _⟩ := h
    rfl
  · obtain ⟨a, ns, rfl, hS, hU, hn, q⟩ := h
    have hr1 : Room 1 _ := hr.mono (by omega)
    have hr2 : Room 2 _ := hr.mono (by omega)
    refine ⟨_, pss_cons (ps_if (pt_cmpR op_gt (pe_call GC hr1 (by rfl) gC FC.kp bC .nil pass0 (pa_cons (pv 0) pa_nil)) (pe_glob (v := .int 24) (by rfl) mM ⟨_, rfl⟩) (nomark _))
        (pss_one (ps_ret (pe_lst (pa_cons (pe_glob (v := .int (-2)) (by rfl) mR ⟨_, rfl⟩) pa_nil)))) pss_nil)
      (pss_cons (ps_if (pt_val (pe_call GO hr2 (by rfl) gO FO.kp bO .nil pass0 (pa_cons (pv 0) pa_nil)))
        (pss_one (ps_ret (pe_lst (pa_cons (pe_glob (v := .int (-3)) (by rfl) mF ⟨_, rfl⟩) pa_nil)))) pss_nil)
      (pss_one (ps_ret (pe_call GN hr1 (by rfl) gN FN.kp bN .nil pass0 (pa_cons (pe_call GT hr (by rfl) gT FT.kp bT .nil pass0 (pa_cons (pv 0) pa_nil)) pa_nil))))), ?_⟩
    refine ⟨_, rfl, a, ns, rfl, hS, _, _, rfl, rfl, _, rfl, ite2 (fun e => ?_) (fun e => ?_)⟩
    · have e := of_decide_eq_true e
      refine ⟨(by show 1 ≤ sizeLine; decide), fun p np => q _ p ?_⟩
      rw [upd_same, tri_bad (by omega)]
      rfl
    have h24 : ns.length / 2 ≤ 24 := by
      have e : ¬ (24 : Int) < ((ns.length / 2 : Nat) : Int) := fun z => e (decide_eq_true z)
      omega
    clear e
    refine ⟨_, rfl, a, ns, rfl, hS, by omega, fun H1 s1 => ⟨_, rfl, ite2 (fun e => ?_) (fun e => ?_)⟩⟩
    · refine ⟨(by show 1 ≤ sizeLine; decide), fun p np => q _ p ?_⟩
      rw [upd_same, tri_off hU.pos h24 e]
      rfl
    have ho := eq_false_of_ne_true e
    clear e
    have hV : Up 8192 ns := hU.low ho
    refine ⟨_, rfl, a, ns, rfl, s1.seq hS, hV, h24, fun H2 o s2 no L2 => ?_⟩
    obtain ⟨tm, h1, h2, h3⟩ := L2
    have hlen : tm.length ≤ 15000 := by
      have z := tris_len h24
      rw [← h3, List.length_map] at z
      exact z
    refine ⟨o, tm.map fun q => (q.1, tv q.2), rfl, ?_, fun x hx => ?_, ?_, fun H3 p s3 np hp => q _ p ?_⟩
    · rw [h1, List.map_map]
      rfl
    · obtain ⟨z, hz, rfl⟩ := List.mem_map.mp hx
      exact h2 z hz
    · rw [flat_tv_len]
      exact Nat.lt_of_le_of_lt (Nat.mul_le_mul_left 6 hlen) (by decide)
    · rw [hp, flat_tv, tri_due hU.pos h24 ho, h3, ← h3, List.length_map, List.length_map]
      rfl
end
/-! ### what the top has written -/
theorem all_mk {P : Program} {w : World} {K : PySem.W.Frag} {h : Heap} {mg : Str → Option Value} {fa f0 f1 f2 f3 f4 f5 f6 f7 f8 f9 : Addr} (X : K.In h) (G : h.Ns mainGlobals mg) (hfa : mg "tm_triangles" = some (.ref fa))
    {od0 an0 od1 an1 od2 an2 od3 an3 od4 an4 od5 an5 od6 an6 od7 an7 od8 an8 od9 an9 : Option Addr} {sl0 sl1 sl2 sl3 sl4 sl5 sl6 sl7 sl8 sl9 : Array (Option Value)} {oc0 kV0 dc0 pm0 cd0 ct0 oc1 kV1 dc1 pm1 cd1 ct1 oc2 kV2 dc2 pm2 cd2 ct2 oc3 kV3 dc3 pm3 cd3 ct3 oc4 kV4 dc4 pm4 cd4 ct4 oc5 kV5 dc5 pm5 cd5 ct5 oc6 kV6 dc6 pm6 cd6 ct6 oc7 kV7 dc7 pm7 cd7 ct7 oc8 kV8 dc8 pm8 cd8 ct8 oc9 kV9 dc9 pm9 cd9 ct9 : Value} {t0 t1 t2 t3 t4 : Tok}
    (a0 : PySem.W.nsIn K mainGlobals "tm_triangles" = some (some (.ref f0))) (l0 : K.lookup f0 = some ⟨oc0, od0, .func (PySem.W.fnOf "tm_triangles" "tm_triangles" (defArgs sMain) (defBody sMain) (defScope sMain) .none kV0 dc0 pm0 an0 cd0 ct0), sl0⟩) (c0 : PySem.W.codeIn K cd0 "tm_triangles" = true) (k0 : PySem.W.keepIn K (.ref f0) = true)
    (a1 : PySem.W.nsIn K mainGlobals "place_count" = some (some (.ref f1))) (l1 : K.lookup f1 = some ⟨oc1, od1, .func (PySem.W.fnOf "place_count" "place_count" (defArgs sCount) (defBody sCount) (defScope sCount) .none kV1 dc1 pm1 an1 cd1 ct1), sl1⟩) (c1 : PySem.W.codeIn K cd1 "place_count" = true) (k1 : PySem.W.keepIn K (.ref f1) = true)
    (a2 : PySem.W.nsIn K mainGlobals "any_from" = some (some (.ref f2))) (l2 : K.lookup f2 = some ⟨oc2, od2, .func (PySem.W.fnOf "any_from" "any_from" (defArgs sAny) (defBody sAny) (defScope sAny) .none kV2 dc2 pm2 an2 cd2 ct2), sl2⟩) (c2 : PySem.W.codeIn K cd2 "any_from" = true) (k2 : PySem.W.keepIn K (.ref f2) = true)
    (a3 : PySem.W.nsIn K mainGlobals "off_the_chip" = some (some (.ref f3))) (l3 : K.lookup f3 = some ⟨oc3, od3, .func (PySem.W.fnOf "off_the_chip" "off_the_chip" (defArgs sOff) (defBody sOff) (defScope sOff) .none kV3 dc3 pm3 an3 cd3 ct3), sl3⟩) (c3 : PySem.W.codeIn K cd3 "off_the_chip" = true) (k3 : PySem.W.keepIn K (.ref f3) = true)
    (a4 : PySem.W.nsIn K mainGlobals "how_far" = some (some (.ref f4))) (l4 : K.lookup f4 = some ⟨oc4, od4, .func (PySem.W.fnOf "how_far" "how_far" (defArgs sFar) (defBody sFar) (defScope sFar) .none kV4 dc4 pm4 an4 cd4 ct4), sl4⟩) (c4 : PySem.W.codeIn K cd4 "how_far" = true) (k4 : PySem.W.keepIn K (.ref f4) = true)
    (a5 : PySem.W.nsIn K mainGlobals "side_of" = some (some (.ref f5))) (l5 : K.lookup f5 = some ⟨oc5, od5, .func (PySem.W.fnOf "side_of" "side_of" (defArgs sDist) (defBody sDist) (defScope sDist) .none kV5 dc5 pm5 an5 cd5 ct5), sl5⟩) (c5 : PySem.W.codeIn K cd5 "side_of" = true) (k5 : PySem.W.keepIn K (.ref f5) = true)
    (a6 : PySem.W.nsIn K mainGlobals "turning" = some (some (.ref f6))) (l6 : K.lookup f6 = some ⟨oc6, od6, .func (PySem.W.fnOf "turning" "turning" (defArgs sTurn) (defBody sTurn) (defScope sTurn) .none kV6 dc6 pm6 an6 cd6 ct6), sl6⟩) (c6 : PySem.W.codeIn K cd6 "turning" = true) (k6 : PySem.W.keepIn K (.ref f6) = true)
    (a7 : PySem.W.nsIn K mainGlobals "triangle_of" = some (some (.ref f7))) (l7 : K.lookup f7 = some ⟨oc7, od7, .func (PySem.W.fnOf "triangle_of" "triangle_of" (defArgs sTri) (defBody sTri) (defScope sTri) .none kV7 dc7 pm7 an7 cd7 ct7), sl7⟩) (c7 : PySem.W.codeIn K cd7 "triangle_of" = true) (k7 : PySem.W.keepIn K (.ref f7) = true)
    (a8 : PySem.W.nsIn K mainGlobals "triangles_of" = some (some (.ref f8))) (l8 : K.lookup f8 = some ⟨oc8, od8, .func (PySem.W.fnOf "triangles_of" "triangles_of" (defArgs sTris) (defBody sTris) (defScope sTris) .none kV8 dc8 pm8 an8 cd8 ct8), sl8⟩) (c8 : PySem.W.codeIn K cd8 "triangles_of" = true) (k8 : PySem.W.keepIn K (.ref f8) = true)
    (a9 : PySem.W.nsIn K mainGlobals "counted" = some (some (.ref f9))) (l9 : K.lookup f9 = some ⟨oc9, od9, .func (PySem.W.fnOf "counted" "counted" (defArgs sCounted) (defBody sCounted) (defScope sCounted) .none kV9 dc9 pm9 an9 cd9 ct9), sl9⟩) (c9 : PySem.W.codeIn K cd9 "counted" = true) (k9 : PySem.W.keepIn K (.ref f9) = true)
    (z0 : PySem.W.nsIn K mainGlobals "len" = some none)
    (z1 : PySem.W.nsIn K mainGlobals "any" = some none)
    (z2 : PySem.W.nsIn K mainGlobals "range" = some none)
    (z3 : PySem.W.nsIn K mainGlobals "sorted" = some none)
    (y0 : PySem.W.nsIn K mainGlobals "PLACES_BELOW" = some (some (.int 8192 t0)))
    (y1 : PySem.W.nsIn K mainGlobals "MOST_STARS" = some (some (.int 24 t1)))
    (y2 : PySem.W.nsIn K mainGlobals "OUT_OF_RANGE" = some (some (.int (-2) t2)))
    (y3 : PySem.W.nsIn K mainGlobals "OFF_THE_CHIP" = some (some (.int (-3) t3)))
    (y4 : PySem.W.nsIn K mainGlobals "SCALE" = some (some (.int 65536 t4))) :
    ∃ fd : FuncData, (∀ (s : Shared) (us : List Value), us.length = (["s"] : List Str).length → BindsTo s fd ⟨us, []⟩ ((["s"] : List Str).zip us)) ∧ ∀ base : Heap, K.In base → base.Ns mainGlobals mg → FnOk P w K mg base CX0 5 fa fd ["s"] (spMain K) := by
  have e := hfa.symm.trans (PySem.W.mg_of X G a0)
  cases e
  have F0 := fun_mk (st := sMain) l0 c0 k0
  have F1 := fun_mk (st := sCount) l1 c1 k1
  have F2 := fun_mk (st := sAny) l2 c2 k2
  have F3 := fun_mk (st := sOff) l3 c3 k3
  have F4 := fun_mk (st := sFar) l4 c4 k4
  have F5 := fun_mk (st := sDist) l5 c5 k5
  have F6 := fun_mk (st := sTurn) l6 c6 k6
  have F7 := fun_mk (st := sTri) l7 c7 k7
  have F8 := fun_mk (st := sTris) l8 c8 k8
  have F9 := fun_mk (st := sCounted) l9 c9 k9
  have b1 := F1.binds (ps := ["places"]) fun _ _ _ _ _ _ us hl => match us, hl with | [_], _ => rfl
  have g1 := PySem.W.mg_of X G a1
  have b2 := F2.binds (ps := ["numbers", "bound"]) fun _ _ _ _ _ _ us hl => match us, hl with | [_, _], _ => rfl
  have g2 := PySem.W.mg_of X G a2
  have b3 := F3.binds (ps := ["numbers"]) fun _ _ _ _ _ _ us hl => match us, hl with | [_], _ => rfl
  have g3 := PySem.W.mg_of X G a3
  have b4 := F4.binds (ps := ["x", "y", "u", "v"]) fun _ _ _ _ _ _ us hl => match us, hl with | [_, _, _, _], _ => rfl
  have g4 := PySem.W.mg_of X G a4
  have b5 := F5.binds (ps := ["places", "i", "j"]) fun _ _ _ _ _ _ us hl => match us, hl with | [_, _, _], _ => rfl
  have g5 := PySem.W.mg_of X G a5
  have b6 := F6.binds (ps := ["places", "a", "b", "c"]) fun _ _ _ _ _ _ us hl => match us, hl with | [_, _, _, _], _ => rfl
  have g6 := PySem.W.mg_of X G a6
  have b7 := F7.binds (ps := ["places", "i", "j", "k"]) fun _ _ _ _ _ _ us hl => match us, hl with | [_, _, _, _], _ => rfl
  have g7 := PySem.W.mg_of X G a7
  have b8 := F8.binds (ps := ["places"]) fun _ _ _ _ _ _ us hl => match us, hl with | [_], _ => rfl
  have g8 := PySem.W.mg_of X G a8
  have b9 := F9.binds (ps := ["found"]) fun _ _ _ _ _ _ us hl => match us, hl with | [_], _ => rfl
  have g9 := PySem.W.mg_of X G a9
  have m_len := PySem.W.mg_none_of X G z0
  have m_any := PySem.W.mg_none_of X G z1
  have m_range := PySem.W.mg_none_of X G z2
  have m_sorted := PySem.W.mg_none_of X G z3
  have m_PLACES_BELOW := PySem.W.mg_of X G y0
  have m_MOST_STARS := PySem.W.mg_of X G y1
  have m_OUT_OF_RANGE := PySem.W.mg_of X G y2
  have m_OFF_THE_CHIP := PySem.W.mg_of X G y3
  have m_SCALE := PySem.W.mg_of X G y4
  refine ⟨PySem.W.fnOf "tm_triangles" "tm_triangles" (defArgs sMain) (defBody sMain) (defScope sMain) .none kV0 dc0 pm0 an0 cd0 ct0, fun s us hu => match us, hu with | [_], _ => .of_eq rfl, fun base _ _ => ?_⟩
  have GC : FnOk P w K mg base CX0 1 _ _ ["places"] (spCount K) := ok_count F1 m_len
  have GO : FnOk P w K mg base CX0 2 _ _ ["numbers"] (spOff K) := ok_off (k := 0) F3 F2 b2 g2 m_any m_PLACES_BELOW
  have GN : FnOk P w K mg base CX0 1 _ _ ["found"] spCounted := ok_counted F9 m_len
  have GD : FnOk P w K mg base CX0 2 _ _ ["places", "i", "j"] (spDist K) := ok_dist (k := 0) F5 F4 b4 g4
  have G1 : FnOk P w K mg base CX0 3 _ _ ["places", "i", "j", "k"] (spTri K) := ok_tri (k := 0) F7 F5 b5 g5 GD F6 b6 g6 m_sorted m_SCALE
  have G2 : FnOk P w K mg base CX0 4 _ _ ["places"] (spTris K) := ok_tris (k := 0) F8 F1 b1 g1 m_len m_range F7 b7 g7 G1
  exact ok_main (k := 0) F0 F1 b1 g1 GC F3 b3 g3 GO F8 b8 g8 G2 F9 b9 g9 GN m_MOST_STARS m_OUT_OF_RANGE m_OFF_THE_CHIP
end Tm
open PySem PySem.W PyProof.Rows
set_option maxRecDepth 100000 in
set_option maxHeartbeats 8000000 in
theorem PySem.Challenge.cw_skymatch_s01_tm_triangles_holds : PySem.Challenge.rw_skymatch_s01_tm_triangles.Holds := by
  w_on; k_headS; (case hw => exact ⟨[.list []], by decide +kernel, by decide +kernel⟩)
  k_fillS
  refine L2.walk_specK (r := PySem.Challenge.rw_skymatch_s01_tm_triangles) (k := 5) (CX := L2.CX0) (ps := ["s"]) (sp := Tm.spMain) (by decide +kernel) rfl rfl ⟨rfl, by decide, by decide⟩ (fun w h Y => PySem.W.kIn_of Y) ?F ?S (fun _ _ _ _ z => z)
  case F =>
    intro w mg fa h Y KX G hmg
    refine' Tm.all_mk KX G hmg ?a0 ?l0 ?c0 ?k0 ?a1 ?l1 ?c1 ?k1 ?a2 ?l2 ?c2 ?k2 ?a3 ?l3 ?c3 ?k3 ?a4 ?l4 ?c4 ?k4 ?a5 ?l5 ?c5 ?k5 ?a6 ?l6 ?c6 ?k6 ?a7 ?l7 ?c7 ?k7 ?a8 ?l8 ?c8 ?k8 ?a9 ?l9 ?c9 ?k9 ?z0 ?z1 ?z2 ?z3 ?y0 ?y1 ?y2 ?y3 ?y4
    (case a0 => k_is)
    (case l0 => k_is)
    (case c0 => k_is)
    (case k0 => k_is)
    (case a1 => k_is)
    (case l1 => k_is)
    (case c1 => k_is)
    (case k1 => k_is)
    (case a2 => k_is)
    (case l2 => k_is)
    (case c2 => k_is)
    (case k2 => k_is)
    (case a3 => k_is)
    (case l3 => k_is)
    (case c3 => k_is)
    (case k3 => k_is)
    (case a4 => k_is)
    (case l4 => k_is)
    (case c4 => k_is)
    (case k4 => k_is)
    (case a5 => k_is)
    (case l5 => k_is)
    (case c5 => k_is)
    (case k5 => k_is)
    (case a6 => k_is)
    (case l6 => k_is)
    (case c6 => k_is)
    (case k6 => k_is)
    (case a7 => k_is)
    (case l7 => k_is)
    (case c7 => k_is)
    (case k7 => k_is)
    (case a8 => k_is)
    (case l8 => k_is)
    (case c8 => k_is)
    (case k8 => k_is)
    (case a9 => k_is)
    (case l9 => k_is)
    (case c9 => k_is)
    (case k9 => k_is)
    (case z0 => k_is)
    (case z1 => k_is)
    (case z2 => k_is)
    (case z3 => k_is)
    (case y0 => k_is)
    (case y1 => k_is)
    (case y2 => k_is)
    (case y3 => k_is)
    (case y4 => k_is)
  case S =>
    intro K H xs a hO hwi hask hx
    cases hx with
    | cons h1 h2 =>
      cases h2
      cases h1 with
      | lst hs ha =>
        have e := L2.ints_dw a.1 _ ha
        subst e
        have q : ((Codec.inLen 0 60 a.1 && a.1.all (Codec.inInt 0 65535)) && true) = true := hwi
        rw [Bool.and_eq_true, Bool.and_eq_true] at q
        refine ⟨_, a.1, rfl, hs, fun x hx => ?_, (Codec.inNat_iff.mp q.1.1).2, fun H' p hp => .lst (L2.SqL.of hp) (L2.dw_ints _)⟩
        have z := Codec.inInt_iff.mp (List.all_eq_true.mp q.1.2 x hx)
        omega

