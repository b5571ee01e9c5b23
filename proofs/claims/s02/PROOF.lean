import PyProof.Rows.All
import Wide.All
import OpenK.AllK
import Wide.FinOn
import Open.SpecLaws
import KE.OsGo
import KE.SortKeyHeap
import HandS.ForSpec
import HandS.Comp
import HandS.Conv
import HandS.Iter
import HandS.Lambda
import HandS.Nested
import PySem.Challenge.RW_truckfill_s02_first_fit_decreasing
set_option Elab.async false
set_option maxRecDepth 100000
set_option maxHeartbeats 2000000
namespace TF
/-! ### the mirror of the loading -/
/-- the first truck with space, or the next new one -/
def fit (c : Nat) (ld : List Nat) (l : Nat) : Nat := (ld.findIdx? fun u => decide (u + l ≤ c)).getD ld.length
/-- the loads when a pallet is put there -/
def put (c : Nat) (ld : List Nat) (l : Nat) : List Nat := if fit c ld l = ld.length then ld ++ [l] else ld.set (fit c ld l) (ld.getD (fit c ld l) 0 + l)
/-- one turn of the loading: the loads, the assignment -/
def turn (c : Nat) (ls : List Nat) (s : List Nat × List Nat) (p : Nat) : List Nat × List Nat := (put c s.1 (ls.getD p 0), s.2.set p (fit c s.1 (ls.getD p 0)))
def run (c : Nat) (ls order : List Nat) : List Nat × List Nat := order.foldl (turn c ls) ([], List.replicate ls.length 0)
/-- what the loading hands back -/
def loaded (c : Nat) (ls order : List Nat) : List Nat := (run c ls order).1.length :: (run c ls order).2

theorem fit_le (c : Nat) (ld : List Nat) (l : Nat) : fit c ld l ≤ ld.length := by
  unfold fit
  cases e : ld.findIdx? fun u => decide (u + l ≤ c) with
  | none => exact Nat.le_refl _
  | some i =>
    obtain ⟨h, _⟩ := List.findIdx?_eq_some_iff_getElem.mp e
    exact Nat.le_of_lt h
theorem put_len (c : Nat) (ld : List Nat) (l : Nat) : (put c ld l).length = if fit c ld l = ld.length then ld.length + 1 else ld.length := by
  unfold put
  split
  · simp
  · simp
/-- the specification, one pallet at a time -/
theorem ff_cons (c : Nat) (ld : List Nat) (l : Nat) (r : List Nat) : Kbe6.firstFitFrom c ld (l :: r) = fit c ld l :: Kbe6.firstFitFrom c (put c ld l) r := by
  rw [Kbe6.firstFitFrom]
  unfold put fit
  cases e : ld.findIdx? fun u => decide (u + l ≤ c) with
  | none => simp
  | some i =>
    obtain ⟨h, _⟩ := List.findIdx?_eq_some_iff_getElem.mp e
    have h' : i ≠ ld.length := Nat.ne_of_lt h
    simp [h']
theorem ff_len (c : Nat) : ∀ (xs ld : List Nat), (Kbe6.firstFitFrom c ld xs).length = xs.length
  | [], _ => rfl
  | x :: r, ld => by
    rw [ff_cons, List.length_cons, ff_len c r, List.length_cons]
/-- the greatest truck used and the number of loads -/
theorem ff_max (c : Nat) : ∀ (xs ld : List Nat) (m : Nat), ld.length = m + 1 → (Kbe6.firstFitFrom c ld xs).foldl max m + 1 = (xs.foldl (put c) ld).length
  | [], ld, m, h => h.symm
  | x :: r, ld, m, h => by
    rw [ff_cons, List.foldl_cons, List.foldl_cons]
    have hl := fit_le c ld x
    have hp := put_len c ld x
    by_cases e : fit c ld x = ld.length
    · rw [if_pos e] at hp
      have em : max m (fit c ld x) = m + 1 := by omega
      rw [em]
      exact ff_max c r _ _ (by omega)
    · rw [if_neg e] at hp
      have em : max m (fit c ld x) = m := by omega
      rw [em]
      exact ff_max c r _ _ (by omega)
theorem ff_count (c : Nat) (xs : List Nat) : Kbe6.truckCount (Kbe6.firstFit c xs) = (xs.foldl (put c) []).length := by
  unfold Kbe6.truckCount Kbe6.firstFit
  cases xs with
  | nil => rfl
  | cons x r =>
    rw [ff_cons]
    have f0 : fit c [] x = 0 := rfl
    have p0 : put c [] x = [x] := rfl
    rw [f0, p0]
    show List.foldl max (max 0 0) _ + 1 = _
    exact ff_max c r [x] 0 rfl
/-! ### lists of naturals: the greatest -/
theorem le_max : ∀ (l : List Nat) (a : Nat), a ≤ l.foldl max a ∧ ∀ x ∈ l, x ≤ l.foldl max a
  | [], a => ⟨Nat.le_refl _, fun x h => absurd h (by simp)⟩
  | y :: r, a => by
    obtain ⟨h1, h2⟩ := le_max r (max a y)
    rw [List.foldl_cons]
    refine ⟨by omega, fun x hx => ?_⟩
    rcases List.mem_cons.mp hx with e | m
    · omega
    · exact h2 x m
theorem max_mem : ∀ (l : List Nat) (a : Nat), l.foldl max a = a ∨ l.foldl max a ∈ l
  | [], a => .inl rfl
  | y :: r, a => by
    rw [List.foldl_cons]
    rcases max_mem r (max a y) with e | m
    · rw [e]
      by_cases h : a ≤ y
      · right
        rw [Nat.max_eq_right h]
        exact List.mem_cons_self ..
      · left
        omega
    · exact .inr (List.mem_cons_of_mem _ m)
theorem max_same {l k : List Nat} (h : ∀ x, x ∈ l ↔ x ∈ k) : l.foldl max 0 = k.foldl max 0 := by
  have a := le_max l 0
  have b := le_max k 0
  have h1 : l.foldl max 0 ≤ k.foldl max 0 := by
    rcases max_mem l 0 with e | m
    · omega
    · exact b.2 _ ((h _).mp m)
  have h2 : k.foldl max 0 ≤ l.foldl max 0 := by
    rcases max_mem k 0 with e | m
    · omega
    · exact a.2 _ ((h _).mpr m)
  omega
theorem count_same {l k : List Nat} (h : ∀ x, x ∈ l ↔ x ∈ k) : Kbe6.truckCount l = Kbe6.truckCount k := by
  unfold Kbe6.truckCount
  cases l with
  | nil =>
    cases k with
    | nil => rfl
    | cons y r => exact absurd ((h y).mpr (List.mem_cons_self ..)) (by simp)
  | cons x q =>
    cases k with
    | nil => exact absurd ((h x).mp (List.mem_cons_self ..)) (by simp)
    | cons y r =>
      rw [max_same h]
      rfl
/-! ### the fold of the turns -/
theorem run_loads (c : Nat) (ls : List Nat) : ∀ (order : List Nat) (s : List Nat × List Nat), (order.foldl (turn c ls) s).1 = (order.map fun p => ls.getD p 0).foldl (put c) s.1
  | [], _ => rfl
  | p :: r, s => by
    rw [List.foldl_cons, List.map_cons, List.foldl_cons, run_loads c ls r]
    rfl
theorem run_len (c : Nat) (ls : List Nat) : ∀ (order : List Nat) (s : List Nat × List Nat), (order.foldl (turn c ls) s).2.length = s.2.length
  | [], _ => rfl
  | p :: r, s => by
    rw [List.foldl_cons, run_len c ls r]
    show (s.2.set p _).length = _
    exact List.length_set
/-- a place that no later turn writes -/
theorem run_skip (c : Nat) (ls : List Nat) : ∀ (order : List Nat) (s : List Nat × List Nat) (i : Nat), i ∉ order → (order.foldl (turn c ls) s).2[i]? = s.2[i]?
  | [], _, _, _ => rfl
  | p :: r, s, i, h => by
    rw [List.foldl_cons, run_skip c ls r _ i (fun z => h (List.mem_cons_of_mem _ z))]
    show (s.2.set p _)[i]? = _
    exact List.getElem?_set_ne (fun e => h (by rw [e]; exact List.mem_cons_self ..))
theorem run_at (c : Nat) (ls : List Nat) : ∀ (order : List Nat) (s : List Nat × List Nat) (k i : Nat), order.Nodup → order[k]? = some i → i < s.2.length → (order.foldl (turn c ls) s).2[i]? = (Kbe6.firstFitFrom c s.1 (order.map fun p => ls.getD p 0))[k]?
  | [], _, _, _, _, h, _ => by simp at h
  | p :: r, s, 0, i, hn, h, hi => by
    have e : p = i := Option.some.inj h
    subst e
    rw [List.foldl_cons, run_skip c ls r _ p (List.nodup_cons.mp hn).1, List.map_cons, ff_cons]
    show (s.2.set p _)[p]? = some _
    exact List.getElem?_set_self hi
  | p :: r, s, k + 1, i, hn, h, hi => by
    rw [List.foldl_cons, List.map_cons, ff_cons]
    show _ = (Kbe6.firstFitFrom c (put c s.1 (ls.getD p 0)) (r.map fun p => ls.getD p 0))[k]?
    refine run_at c ls r (turn c ls s p) k i (List.nodup_cons.mp hn).2 h ?_
    show i < (s.2.set p _).length
    rw [List.length_set]
    exact hi
/-- the assignment, pallet by pallet -/
theorem run_spec (c : Nat) (ls order : List Nat) (hp : order.Perm (List.range ls.length)) :
    (run c ls order).2 = (List.range ls.length).map fun i => (Kbe6.firstFit c (order.map fun p => ls.getD p 0)).getD ((order.findIdx? (· == i)).getD 0) 0 := by
  have hn : order.Nodup := hp.nodup_iff.mpr List.nodup_range
  have hl : order.length = ls.length := by rw [hp.length_eq, List.length_range]
  refine List.ext_getElem? fun i => ?_
  have len1 : (run c ls order).2.length = ls.length := by
    unfold run
    rw [run_len, List.length_replicate]
  by_cases hi : i < ls.length
  · have hm : i ∈ order := hp.mem_iff.mpr (List.mem_range.mpr hi)
    obtain ⟨k, hk, e⟩ : ∃ k, ∃ _ : k < order.length, order.findIdx? (· == i) = some k := by
      cases e : order.findIdx? (· == i) with
      | none =>
        have := List.findIdx?_eq_none_iff.mp e i hm
        simp at this
      | some k =>
        obtain ⟨h, _⟩ := List.findIdx?_eq_some_iff_getElem.mp e
        exact ⟨k, h, rfl⟩
    obtain ⟨_, h2, _⟩ := List.findIdx?_eq_some_iff_getElem.mp e
    have ek : order[k]? = some i := by
      rw [List.getElem?_eq_getElem hk]
      exact congrArg some (by simpa using h2)
    have q := run_at c ls order ([], List.replicate ls.length 0) k i hn ek (by rw [List.length_replicate]; exact hi)
    show (run c ls order).2[i]? = _
    rw [List.getElem?_map, List.getElem?_range hi]
    show _ = some ((Kbe6.firstFit c _).getD ((order.findIdx? (· == i)).getD 0) 0)
    rw [e]
    show _ = some ((Kbe6.firstFit c _).getD k 0)
    have hk2 : k < (Kbe6.firstFit c (order.map fun p => ls.getD p 0)).length := by
      unfold Kbe6.firstFit
      rw [ff_len, List.length_map]
      exact hk
    rw [List.getD_eq_getElem?_getD, List.getElem?_eq_getElem hk2, Option.getD_some, ← List.getElem?_eq_getElem hk2]
    exact q
  · rw [List.getElem?_eq_none (by omega), List.getElem?_eq_none (by rw [List.length_map, List.length_range]; omega)]
theorem run_count (c : Nat) (ls order : List Nat) (hp : order.Perm (List.range ls.length)) : Kbe6.truckCount (run c ls order).2 = (run c ls order).1.length := by
  have hn : order.Nodup := hp.nodup_iff.mpr List.nodup_range
  have hl : order.length = ls.length := by rw [hp.length_eq, List.length_range]
  have e1 : (run c ls order).1.length = Kbe6.truckCount (Kbe6.firstFit c (order.map fun p => ls.getD p 0)) := by
    rw [ff_count]
    unfold run
    rw [run_loads]
  rw [e1]
  have len1 : (run c ls order).2.length = ls.length := by
    unfold run
    rw [run_len, List.length_replicate]
  have at_ : ∀ k i, order[k]? = some i → (run c ls order).2[i]? = (Kbe6.firstFit c (order.map fun p => ls.getD p 0))[k]? := fun k i e =>
    run_at c ls order ([], List.replicate ls.length 0) k i hn e (by
      rw [List.length_replicate]
      exact List.mem_range.mp (hp.mem_iff.mp (List.mem_of_getElem? e)))
  refine count_same fun x => ⟨fun hx => ?_, fun hx => ?_⟩
  · obtain ⟨i, hi⟩ := List.getElem?_of_mem hx
    have hlt : i < ls.length := by
      obtain ⟨h, _⟩ := List.getElem?_eq_some_iff.mp hi
      omega
    obtain ⟨k, hk⟩ := List.getElem?_of_mem (hp.mem_iff.mpr (List.mem_range.mpr hlt))
    rw [at_ k i hk] at hi
    exact List.mem_of_getElem? hi
  · obtain ⟨k, hk⟩ := List.getElem?_of_mem hx
    have hlt : k < order.length := by
      obtain ⟨h, _⟩ := List.getElem?_eq_some_iff.mp hk
      unfold Kbe6.firstFit at h
      rw [ff_len, List.length_map] at h
      exact h
    have q := at_ k _ (List.getElem?_eq_getElem hlt)
    rw [hk] at q
    exact List.mem_of_getElem? q
/-- the loading in the order of the numbers -/
theorem run_first (c : Nat) (ls : List Nat) : (run c ls (List.range ls.length)).2 = Kbe6.firstFit c ls := by
  have e0 : (List.range ls.length).map (fun p => ls.getD p 0) = ls := by
    refine List.ext_getElem? fun i => ?_
    rw [List.getElem?_map]
    by_cases hi : i < ls.length
    · rw [List.getElem?_range hi, Option.map_some, List.getD_eq_getElem?_getD, List.getElem?_eq_getElem hi, Option.getD_some]
    · rw [List.getElem?_eq_none (by rw [List.length_range]; omega), List.getElem?_eq_none (by omega)]
      rfl
  refine List.ext_getElem? fun i => ?_
  have len1 : (run c ls (List.range ls.length)).2.length = ls.length := by
    unfold run
    rw [run_len, List.length_replicate]
  by_cases hi : i < ls.length
  · have q := run_at c ls (List.range ls.length) ([], List.replicate ls.length 0) i i List.nodup_range (List.getElem?_range hi) (by rw [List.length_replicate]; exact hi)
    rw [e0] at q
    exact q
  · have l2 : (Kbe6.firstFit c ls).length = ls.length := by
      unfold Kbe6.firstFit
      rw [ff_len]
    rw [List.getElem?_eq_none (by omega), List.getElem?_eq_none (by omega)]
/-! ### the errors -/
def okLen (n : Int) : Bool := decide (1 ≤ n) && decide (n ≤ 100)
def okLens (ns : List Int) : Bool := decide (ns.length ≤ 7) && ns.all okLen
def okCap (c : Int) : Bool := decide (1 ≤ c) && decide (c ≤ 100)
/-- the code of the error that is due, or 0 -/
def err (c : Int) (ns : List Int) : Int := if (okCap c && okLens ns) = true then (if (ns.any fun n => decide (c < n)) = true then -33 else 0) else -22
theorem toNat_len {n : Int} (h : 0 ≤ n) : (decide (1 ≤ n.toNat) && decide (n.toNat ≤ 100)) = okLen n := by
  unfold okLen
  congr 1
  · exact decide_eq_decide.mpr (by omega)
  · exact decide_eq_decide.mpr (by omega)
theorem valid_is {ns : List Int} (h : ∀ n ∈ ns, 0 ≤ n) : Kbe6.validLengths (ns.map Int.toNat) = okLens ns := by
  unfold Kbe6.validLengths okLens
  rw [List.length_map, List.all_map]
  congr 1
  induction ns with
  | nil => rfl
  | cons n r ih =>
    rw [List.all_cons, List.all_cons, ih fun x hx => h x (List.mem_cons_of_mem _ hx)]
    rw [← toNat_len (h n (List.mem_cons_self ..))]
    rfl
theorem any_is {c : Int} {ns : List Int} (hc : 0 ≤ c) (h : ∀ n ∈ ns, 0 ≤ n) : ((ns.map Int.toNat).any fun l => decide (c.toNat < l)) = ns.any fun n => decide (c < n) := by
  rw [List.any_map]
  induction ns with
  | nil => rfl
  | cons n r ih =>
    rw [List.any_cons, List.any_cons, ih fun x hx => h x (List.mem_cons_of_mem _ hx)]
    congr 1
    have := h n (List.mem_cons_self ..)
    exact decide_eq_decide.mpr (by omega)
/-- what is answered of a response -/
def answer (r : Kbe6.Response) : List Int := r.head :: r.tail
theorem req_is {c : Int} {ns : List Int} (hc : 0 ≤ c) (h : ∀ n ∈ ns, 0 ≤ n) (r : Kbe6.Response) :
    answer (Kbe6.requireCapacity c.toNat (ns.map Int.toNat) r) = if err c ns ≠ 0 then [err c ns] else answer r := by
  unfold Kbe6.requireCapacity err
  rw [valid_is h, any_is hc h]
  by_cases h1 : (okCap c && okLens ns) = true
  · rw [if_pos h1]
    obtain ⟨a, b⟩ := Bool.and_eq_true_iff.mp h1
    unfold okCap at a
    simp only [Bool.and_eq_true, decide_eq_true_eq] at a
    rw [if_neg (by rw [b]; intro z; rcases z with z | z | z; · cases z
                   · omega
                   · omega)]
    by_cases h2 : (ns.any fun n => decide (c < n)) = true
    · rw [if_pos h2, if_pos h2, if_pos (by decide)]
      rfl
    · rw [if_neg h2, if_neg h2, if_neg (by decide)]
  · rw [if_neg h1, if_pos (show (-22 : Int) ≠ 0 by decide)]
    rw [if_pos]
    · rfl
    · unfold okCap at h1
      by_cases hl : okLens ns = true
      · rw [hl] at h1
        simp only [Bool.and_true, Bool.and_eq_true, decide_eq_true_eq] at h1
        right
        omega
      · left
        simpa using hl
theorem err_zero {c : Int} {ns : List Int} (h : err c ns = 0) : (1 ≤ c ∧ c ≤ 100) ∧ ns.length ≤ 7 ∧ (∀ n ∈ ns, 1 ≤ n ∧ n ≤ 100) ∧ ∀ n ∈ ns, n ≤ c := by
  unfold err at h
  split at h
  · rename_i h1
    split at h
    · omega
    · rename_i h2
      unfold okCap okLens at h1
      simp only [Bool.and_eq_true, decide_eq_true_eq, List.all_eq_true] at h1
      simp only [Bool.not_eq_true, List.any_eq_false, decide_eq_true_eq] at h2
      refine ⟨h1.1, h1.2.1, fun n hn => ?_, fun n hn => ?_⟩
      · have q := h1.2.2 n hn
        unfold okLen at q
        simp only [Bool.and_eq_true, decide_eq_true_eq] at q
        exact q
      · have := h2 n hn
        omega
  · omega
/-- naturals as whole numbers -/
def asInts (l : List Nat) : List Int := l.map fun (x : Nat) => (x : Int)
theorem ints_back {ns : List Int} (h : ∀ n ∈ ns, 0 ≤ n) : ns = asInts (ns.map Int.toNat) := by
  unfold asInts
  rw [List.map_map]
  induction ns with
  | nil => rfl
  | cons n r ih =>
    rw [List.map_cons, ← ih fun x hx => h x (List.mem_cons_of_mem _ hx)]
    have := h n (List.mem_cons_self ..)
    show n :: r = ((n.toNat : Nat) : Int) :: r
    rw [Int.toNat_of_nonneg this]
theorem first_fit_is {c : Int} {ns : List Int} (hc : 0 ≤ c) (h : ∀ n ∈ ns, 0 ≤ n) :
    PyKbe6.first_fit c ns = if err c ns ≠ 0 then [err c ns] else asInts (loaded c.toNat (ns.map Int.toNat) (List.range ns.length)) := by
  show answer (Kbe6.requireCapacity c.toNat (ns.map Int.toNat) (Kbe6.encodeAssignment (Kbe6.firstFit c.toNat (ns.map Int.toNat)))) = _
  rw [req_is hc h]
  congr 1
  have e : ns.length = (ns.map Int.toNat).length := by rw [List.length_map]
  unfold loaded
  rw [e, ← run_count _ _ _ (List.Perm.refl _), run_first]
  rfl
theorem first_fit_decreasing_is {c : Int} {ns : List Int} (hc : 0 ≤ c) (h : ∀ n ∈ ns, 0 ≤ n) (order : List Nat) (ho : order = Kbe6.decreasingOrder (ns.map Int.toNat)) (hp : order.Perm (List.range ns.length)) :
    PyKbe6.first_fit_decreasing c ns = if err c ns ≠ 0 then [err c ns] else asInts (loaded c.toNat (ns.map Int.toNat) order) := by
  show answer (Kbe6.requireCapacity c.toNat (ns.map Int.toNat) (Kbe6.encodeAssignment (Kbe6.firstFitDecreasing c.toNat (ns.map Int.toNat)))) = _
  rw [req_is hc h]
  congr 1
  have e : ns.length = (ns.map Int.toNat).length := by rw [List.length_map]
  rw [e] at hp
  unfold loaded
  rw [← run_count _ _ _ hp, run_spec _ _ _ hp, ho]
  rfl
/-! ### sums -/
theorem sum_from : ∀ (l : List Nat) (a : Nat), l.foldl (· + ·) a = a + l.foldl (· + ·) 0
  | [], _ => rfl
  | x :: r, a => by
    rw [List.foldl_cons, List.foldl_cons, sum_from r (a + x), sum_from r (0 + x)]
    omega
theorem sumOf_cons (x : Nat) (l : List Nat) : Kbe6.sumOf (x :: l) = x + Kbe6.sumOf l := by
  unfold Kbe6.sumOf
  rw [List.foldl_cons, sum_from, Nat.zero_add]
end TF
namespace TF
/-! ### the order of the pallets, the longest first -/
/-- p comes before q, or is it -/
def ahead (ls : List Nat) (p q : Nat) : Bool := decide (-((ls.getD p 0 : Nat) : Int) < -((ls.getD q 0 : Nat) : Int) ∨ (-((ls.getD p 0 : Nat) : Int) = -((ls.getD q 0 : Nat) : Int) ∧ ((p : Nat) : Int) ≤ ((q : Nat) : Int)))
def sortedOrder (ls : List Nat) : List Nat := (List.range ls.length).mergeSort (ahead ls)
theorem ahead_iff (ls : List Nat) (p q : Nat) : ahead ls p q = true ↔ ls.getD q 0 < ls.getD p 0 ∨ (ls.getD p 0 = ls.getD q 0 ∧ p ≤ q) := by
  unfold ahead
  rw [decide_eq_true_iff]
  omega
theorem ahead_trans (ls : List Nat) (p q r : Nat) (h1 : ahead ls p q = true) (h2 : ahead ls q r = true) : ahead ls p r = true := by
  rw [ahead_iff] at h1 h2 ⊢
  omega
theorem ahead_total (ls : List Nat) (p q : Nat) : (ahead ls p q || ahead ls q p) = true := by
  rw [Bool.or_eq_true, ahead_iff, ahead_iff]
  omega
theorem ahead_anti (ls : List Nat) (p q : Nat) (h1 : ahead ls p q = true) (h2 : ahead ls q p = true) : p = q := by
  rw [ahead_iff] at h1 h2
  omega
theorem sorted_perm (ls : List Nat) : (sortedOrder ls).Perm (List.range ls.length) := List.mergeSort_perm _ _
/-- one pallet is put in its place -/
def putIn (ls acc : List Nat) (i : Nat) : List Nat := (acc.filter fun o => decide (ls.getD i 0 ≤ ls.getD o 0)) ++ i :: acc.filter fun o => decide (ls.getD o 0 < ls.getD i 0)
theorem putIn_perm (ls acc : List Nat) (i : Nat) : (putIn ls acc i).Perm (i :: acc) := by
  unfold putIn
  refine List.perm_middle.trans (List.Perm.cons i ?_)
  have h := List.filter_append_perm (fun o => decide (ls.getD i 0 ≤ ls.getD o 0)) acc
  have e : (fun x => !decide (ls.getD i 0 ≤ ls.getD x 0)) = fun o => decide (ls.getD o 0 < ls.getD i 0) := by
    funext o
    by_cases c : ls.getD i 0 ≤ ls.getD o 0
    · rw [decide_eq_true c, decide_eq_false (by omega)]
      rfl
    · rw [decide_eq_false c, decide_eq_true (by omega)]
      rfl
  rw [e] at h
  exact h
theorem putIn_sorted (ls acc : List Nat) (i : Nat) (hs : acc.Pairwise fun p q => ahead ls p q = true) (hl : ∀ p ∈ acc, p < i) : (putIn ls acc i).Pairwise fun p q => ahead ls p q = true := by
  unfold putIn
  refine List.pairwise_append.mpr ⟨hs.filter _, List.pairwise_cons.mpr ⟨fun q hq => ?_, hs.filter _⟩, fun p hp q hq => ?_⟩
  · have h1 := of_decide_eq_true (List.mem_filter.mp hq).2
    rw [ahead_iff]
    omega
  · have h1 := of_decide_eq_true (List.mem_filter.mp hp).2
    have h2 := hl p (List.mem_filter.mp hp).1
    rcases List.mem_cons.mp hq with e | hq
    · rw [e, ahead_iff]
      omega
    · have h3 := of_decide_eq_true (List.mem_filter.mp hq).2
      rw [ahead_iff]
      omega
theorem fold_in (ls : List Nat) : ∀ (l acc : List Nat), (∀ p ∈ acc, ∀ q ∈ l, p < q) → l.Pairwise (· < ·) → acc.Pairwise (fun p q => ahead ls p q = true) →
    (l.foldl (putIn ls) acc).Perm (acc ++ l) ∧ (l.foldl (putIn ls) acc).Pairwise fun p q => ahead ls p q = true
  | [], acc, _, _, hs => ⟨by rw [List.append_nil]; exact List.Perm.refl _, hs⟩
  | i :: r, acc, h1, h2, hs => by
    have hp := putIn_perm ls acc i
    obtain ⟨k1, k2⟩ := fold_in ls r (putIn ls acc i) (fun p hp' q hq => by
        rcases List.mem_cons.mp (hp.mem_iff.mp hp') with e | m
        · rw [e]
          exact (List.pairwise_cons.mp h2).1 q hq
        · exact h1 p m q (List.mem_cons_of_mem _ hq)) (List.pairwise_cons.mp h2).2 (putIn_sorted ls acc i hs fun p m => h1 p m i (List.mem_cons_self ..))
    refine ⟨k1.trans ?_, k2⟩
    exact (hp.append_right r).trans (List.perm_middle.symm)
theorem order_is (ls : List Nat) : Kbe6.decreasingOrder ls = sortedOrder ls := by
  obtain ⟨k1, k2⟩ := fold_in ls (List.range ls.length) [] (fun p m => absurd m (by simp)) List.pairwise_lt_range List.Pairwise.nil
  have e : Kbe6.decreasingOrder ls = (List.range ls.length).foldl (putIn ls) [] := rfl
  rw [e]
  exact List.Perm.eq_of_pairwise (fun a b _ _ h1 h2 => ahead_anti ls a b h1 h2) k2 (List.pairwise_mergeSort (ahead_trans ls) (ahead_total ls) _) (k1.trans (sorted_perm ls).symm)
end TF
/-! ### the end of a row whose defs make functions: the tables of code objects are followed -/
namespace TF
open PySem PySem.Spec PyProof.Rows L2
open PySem.W (WData Codec OpenSpec)
open PySem.W (Well WellAll ReadsW ReadsAllW)
section
variable {K : PySem.W.Frag} {H H' : Hp}
theorem sqL_up (e : ∀ b u, H b = some u → H' b = some u) {a : Addr} {xs : List V} (h : SqL K H a xs) : SqL K H' a xs := by
  rcases h with (h | ⟨ob, h⟩) | h
  · exact .inl (.inl (e _ _ h))
  · exact .inl (.inr ⟨ob, e _ _ h⟩)
  · exact .inr h
theorem sqT_up (e : ∀ b u, H b = some u → H' b = some u) {a : Addr} {xs : List V} (h : SqT K H a xs) : SqT K H' a xs := by
  rcases h with (h | ⟨ob, h⟩) | h
  · exact .inl (.inl (e _ _ h))
  · exact .inl (.inr ⟨ob, e _ _ h⟩)
  · exact .inr h
mutual
theorem dw_up (e : ∀ b u, H b = some u → H' b = some u) : ∀ (d : WData) (v : V), Dw K H v d → Dw K H' v d
  | .none, _, x => by
    cases x
    exact .non
  | .bool b, _, x => by
    cases x
    exact .bl b
  | .int i, _, x => by
    cases x
    exact .int i
  | .str s, _, x => by
    cases x
    exact .str s
  | .bytes b, _, x => by
    cases x
    exact .byt _
  | .list ds, _, x => by
    cases x with
    | lst hs ha => exact .lst (sqL_up e hs) (dw_upAll e ds _ ha)
  | .tuple ds, _, x => by
    cases x with
    | tup hs ha => exact .tup (sqT_up e hs) (dw_upAll e ds _ ha)
  | .float _, _, x => by cases x
  | .dict _, _, x => by cases x
  | .bytearray _, _, x => by cases x
  | .set _, _, x => by cases x
  | .frozenset _, _, x => by cases x
  | .obj _ _, _, x => by cases x
theorem dw_upAll (e : ∀ b u, H b = some u → H' b = some u) : ∀ (ds : List WData) (vs : List V), DwAll K H vs ds → DwAll K H' vs ds
  | [], _, x => by
    cases x
    exact .nil
  | d :: ds, _, x => by
    cases x with
    | cons h1 h2 => exact .cons (dw_up e d _ h1) (dw_upAll e ds _ h2)
end
end
/-- an empty table of code objects -/
abbrev noCode : Obj := { cls := .none, data := .fields #[] }
/-- what stands when the row's def is called -/
structure Stands (K : PySem.W.Frag) (mg mb : Str → Option Value) (st : Shared) : Prop where
  text : K.In st.heap
  names : st.heap.Ns mainGlobals mg
  own : st.heap.Ns builtinsNs mb
  boot : ∀ x : Str, x ≠ "__name__" → mb x = bootBuiltins x
  wide : st.heap.NoLimit
  still : st.gens = #[]
  home : ∃ (m : Addr) (om : Obj), mg "__builtins__" = some (.ref m) ∧ m ≠ builtinsNs ∧ st.heap.get? m = some om ∧ om.cls = .type "module" ∧ om.dict = some builtinsNs ∧ om.data = .plain
/-- code objects and their tables, all still empty, none of them written text -/
structure Codes (K : PySem.W.Frag) (st : Shared) (cs : List (Addr × Addr)) : Prop where
  void : ∀ p ∈ cs, st.heap.get? p.2 = some noCode
  apart : ∀ p ∈ cs, K.lookup p.2 = none
  head : ∀ p ∈ cs, PySem.W.CodeHd st.heap p.1 p.2
/-- what is followed: the arguments' lists and tuples, locked, and the tables -/
structure Follows (P : Program) (w : World) (K : PySem.W.Frag) (st : Shared) (cs : List (Addr × Addr)) (H : Hp) : Prop where
  tabs : ∀ p ∈ cs, H p.2 = some (.tbl #[])
  true_ : HOk P w H st.heap
  kinds : ∀ b u, H b = some u → (∃ p ∈ cs, p.2 = b) ∨ ((∀ p ∈ cs, p.2 ≠ b) ∧ (∃ o v, u = .frz o v) ∧ ∃ (c : Value) (vs : Array Value), st.heap.get? b = some { cls := c, data := .seq vs })
  text : ∀ b u, H b = some u → K.lookup b = none
section
variable {P : Program} {w : World} {K : PySem.W.Frag} {mg mb : Str → Option Value} {st : Shared} {cs : List (Addr × Addr)} {H : Hp}
/-- neither a list or tuple nor an empty table: it is not followed -/
theorem Follows.free (f : Follows P w K st cs H) (k : Codes K st cs) {b : Addr} {x : Obj} (hx : st.heap.get? b = some x) (n1 : ∀ vs n, x.data = .seq vs n → False) (n2 : x.data = .fields #[] → False) : H b = none := by
  match q : H b with
  | none => rfl
  | some u =>
    rcases f.kinds b u q with ⟨p, hp, rfl⟩ | ⟨_, _, c, vs, z⟩
    · rw [k.void p hp] at hx
      exact (n2 (by rw [← Option.some.inj hx])).elim
    · rw [z] at hx
      exact (n1 vs _ (by rw [← Option.some.inj hx])).elim
theorem Follows.dict (f : Follows P w K st cs H) (k : Codes K st cs) {b : Addr} {m : Str → Option Value} (h : st.heap.Ns b m) : (hidT st.heap H).Ns b m := by
  obtain ⟨x, es, n, hx, hd, rest⟩ := h
  exact ⟨x, es, n, hidT_get hx (f.free k hx (fun vs i z => by rw [hd] at z; cases z) fun z => by rw [hd] at z; cases z), hd, rest⟩
theorem Follows.frag (f : Follows P w K st cs H) (g : Stands K mg mb st) : K.In (hidT st.heap H) := by
  intro b x hx
  refine hidT_get (g.text b x hx) ?_
  match q : H b with
  | none => rfl
  | some u =>
    have z := f.text b u q
    rw [hx] at z
    cases z
theorem Follows.mod (f : Follows P w K st cs H) (g : Stands K mg mb st) (k : Codes K st cs) : Mod K mg (hidT st.heap H) := by
  obtain ⟨m, hm, z⟩ := g.wide
  exact ⟨f.frag g, f.dict k g.names, ⟨mb, f.dict k g.own, g.boot⟩, ⟨m, f.dict k hm, z⟩⟩
theorem Follows.made (f : Follows P w K st cs H) (g : Stands K mg mb st) (k : Codes K st cs) (p : Addr × Addr) (hp : p ∈ cs) : LamX.TabB (hidT st.heap H) mg p.1 p.2 := by
  have void := k.void p hp
  have names := g.names
  have notG : ∀ a x, st.heap.get? a = some x → (∀ es n, x.data = .dict es n → False) → a ≠ mainGlobals := by
    rintro a x hx nd rfl
    obtain ⟨y, es, n, hy, hd, _⟩ := names
    rw [hy] at hx
    exact nd es n (by rw [← Option.some.inj hx, hd])
  constructor
  · obtain ⟨x, us, b1, b2, b3, b4, b5, b6, b7, hx, hc, hd, h11, more⟩ := k.head p hp
    refine ⟨x, us, b1, b2, b3, b4, b5, b6, b7, hidT_get hx (f.free k hx (fun vs n z => ?_) fun z => ?_), hc, hd, h11, more⟩
    · rw [hd] at z
      cases z
    · rw [hd] at z
      injection z with z
      subst z
      simp at h11
  · obtain ⟨m, x, hm, hne, hx, hc, hd, hp'⟩ := g.home
    refine ⟨m, x, hm, hne, notG m x hx (fun es n z => ?_), ?_, hidT_get hx (f.free k hx (fun vs n z => ?_) fun z => ?_), hc, hd, hp'⟩
    · rw [hp'] at z
      cases z
    · rintro rfl
      rw [void] at hx
      rw [← Option.some.inj hx] at hp'
      cases hp'
    · rw [hp'] at z
      cases z
    · rw [hp'] at z
      cases z
  · exact (notG p.2 noCode void (fun es n z => by cases z)).symm
/-- behind the call: all stands as it was, but the tables, which grew -/
theorem Follows.after (f : Follows P w K st cs H) (g : Stands K mg mb st) (k : Codes K st cs) {H' : Hp} {st' : Shared} (un : Un [] [] H H' st.heap st'.heap) (ok : HOk P w H' st'.heap) : K.In st'.heap ∧ OldK st.heap st'.heap := by
  have same : ∀ b x, (∀ p ∈ cs, p.2 ≠ b) → st.heap.get? b = some x → st'.heap.get? b = some x := by
    intro b x nb hx
    match q : H b with
    | none => exact un.keep b x hx q (fun z => nomatch z) (fun z => nomatch z)
    | some u =>
      rcases f.kinds b u q with ⟨p, hp, e⟩ | ⟨_, ⟨o, v, rfl⟩, _⟩
      · exact (nb p hp e).elim
      · have z1 := (f.true_ b _ q).1
        have z2 := (ok b _ (un.frzs b o v q)).1
        rw [← hx, z1]
        exact z2
  have grew : ∀ p ∈ cs, ∃ ps : Array Value, st'.heap.get? p.2 = some { cls := .none, data := .fields ps } := by
    intro p hp
    obtain ⟨ps, z⟩ := un.tbls p.2 #[] (f.tabs p hp)
    exact ⟨#[] ++ ps, ok p.2 _ z⟩
  refine ⟨fun b x hx => same b x (fun p hp e => ?_) (g.text b x hx), fun b x hx => ?_, fun b x hx => ?_⟩
  · rw [← e, k.apart p hp] at hx
    cases hx
  · by_cases hb : ∃ p ∈ cs, p.2 = b
    · obtain ⟨p, hp, rfl⟩ := hb
      obtain ⟨ps, z⟩ := grew p hp
      have e : x = noCode := Option.some.inj (hx.symm.trans (k.void p hp))
      subst e
      exact Or.inr (Or.inl ⟨((k.head p hp).tab (k.void p hp)).isCodeTable, rfl, #[], ps, rfl, z.trans (by rw [Array.empty_append])⟩)
    · exact Or.inl (same b x (fun p hp e => hb ⟨p, hp, e⟩) hx)
  · by_cases hb : ∃ p ∈ cs, p.2 = b
    · obtain ⟨p, hp, rfl⟩ := hb
      obtain ⟨ps, z⟩ := grew p hp
      exact ⟨_, z⟩
    · exact ⟨x, same b x (fun p hp e => hb ⟨p, hp, e⟩) hx⟩
/-- the arguments as they were handed in, and the tables beside them, can be followed -/
theorem follow {ds : List WData} {vals : List Value} (g : Stands K mg mb st) (k : Codes K st cs) (well : WellAll w.params st.heap vals ds) (plain : plWs ds = true) (light : ∀ d ∈ ds, d.weight ≤ 1048576) :
    ∃ (H : Hp) (xs : List V), Follows P w K st cs H ∧ DwAll K H xs ds ∧ Vals xs vals := by
  obtain ⟨as, inA, areA⟩ := area_all ds vals well plain light
  have data := dw_all g.text areA ds vals well plain inA
  have seqs : ∀ b u, argH K st.heap as b = some u → K.lookup b = none ∧ (∃ o v, u = .frz o v) ∧ ∃ (c : Value) (vs : Array Value), st.heap.get? b = some { cls := c, data := .seq vs } := by
    intro b u q
    obtain ⟨z, vs, _, _, ⟨e, rfl⟩ | ⟨e, rfl⟩⟩ := argH_is areA q
    · exact ⟨z, ⟨_, _, rfl⟩, _, _, e⟩
    · exact ⟨z, ⟨_, _, rfl⟩, _, _, e⟩
  have good : HOk P w (argH K st.heap as) st.heap := argH_ok areA
  revert data seqs good
  generalize argH K st.heap as = H0
  intro data seqs good
  classical
  have none0 : ∀ p ∈ cs, H0 p.2 = none := by
    intro p hp
    match q : H0 p.2 with
    | none => rfl
    | some u =>
      obtain ⟨_, _, c, vs, e⟩ := seqs _ u q
      rw [k.void p hp] at e
      cases Option.some.inj e
  let H : Hp := fun b => if ∃ p ∈ cs, p.2 = b then some (.tbl #[]) else H0 b
  have yes : ∀ p ∈ cs, H p.2 = some (.tbl #[]) := fun p hp => if_pos ⟨p, hp, rfl⟩
  have no : ∀ b, (∀ p ∈ cs, p.2 ≠ b) → H b = H0 b := fun b nb => if_neg fun ⟨p, hp, e⟩ => nb p hp e
  have more : ∀ b u, H0 b = some u → H b = some u := by
    intro b u q
    rw [no b (fun p hp e => by rw [← e, none0 p hp] at q; cases q)]
    exact q
  refine ⟨H, vals.map toV, ⟨yes, fun b u q => ?_, fun b u q => ?_, fun b u q => ?_⟩, dw_upAll more ds _ data, vals_toV inA⟩
  · by_cases hb : ∃ p ∈ cs, p.2 = b
    · obtain ⟨p, hp, rfl⟩ := hb
      rw [yes p hp] at q
      cases q
      exact k.void p hp
    · rw [no b fun p hp e => hb ⟨p, hp, e⟩] at q
      obtain ⟨_, ⟨o, v, rfl⟩, _⟩ := seqs b u q
      have z := good b _ q
      exact ⟨z.1, z.2.stay (fun _ _ _ e => e) (fun _ e => more _ _ e) fun _ _ e => more _ _ e⟩
  · by_cases hb : ∃ p ∈ cs, p.2 = b
    · exact Or.inl hb
    · have nb : ∀ p ∈ cs, p.2 ≠ b := fun p hp e => hb ⟨p, hp, e⟩
      rw [no b nb] at q
      exact Or.inr ⟨nb, (seqs b u q).2⟩
  · by_cases hb : ∃ p ∈ cs, p.2 = b
    · obtain ⟨p, hp, rfl⟩ := hb
      exact k.apart p hp
    · rw [no b fun p hp e => hb ⟨p, hp, e⟩] at q
      exact (seqs b u q).1
/-- the def's call, from its promise -/
theorem called {k : Nat} {fa : Addr} {fd : FuncData} {ps : List Str} {sp : Sp} {vals : List Value} {ds : List WData} {R : PySem.W.WRecords} {cl : Str → Option Addr} {due : WData} (g : Stands K mg mb st) (kc : Codes K st cs) (well : WellAll w.params st.heap vals ds) (plain : plWs ds = true) (light : ∀ d ∈ ds, d.weight ≤ 1048576) (room : Room k callerA)
    (keeps : ∀ base : Heap, K.In base → base.Ns mainGlobals mg → (∀ p ∈ cs, LamX.TabB base mg p.1 p.2) → FnOk P w K mg base CX0 k fa fd ps sp) (binds : ∀ (s : Shared) (us : List Value), us.length = ps.length → BindsTo s fd ⟨us, []⟩ (ps.zip us)) (many : vals.length = ps.length)
    (asks : ∀ (H : Hp) (xs : List V), (∀ p ∈ cs, H p.2 = some (.tbl #[])) → DwAll K H xs ds → sp xs H (fun v H' => Dw K H' v due) E0) :
    codeAny (model P w) callerA (.call (.ref fa) ⟨vals, []⟩) (fun r st' => ∃ u bs, r = .ok (.ret u) ∧ ReadsW R cl st'.heap u due bs ∧ OldK st.heap st'.heap ∧ st'.os = st.os ∧ AllBare st'.gens) st := by
  obtain ⟨H, xs, f, data, rel⟩ := follow (P := P) g kc well plain light
  have nobody : ∀ b ∈ frs [], H b = none := by
    intro b z
    exact absurd (show b ∈ ([] : List Addr) from z) List.not_mem_nil
  have env : Env0 P w K mg (hidT st.heap H) callerA [] st H :=
    { frames := rfl, mod := f.mod g kc, bs := fun _ _ e => of_hidT e, bsz := Nat.le_of_eq (hidT_size _ _), funs := trivial, frf := nobody, hok := f.true_, bare := .of_eq g.still }
  have run := (keeps _ (f.frag g) (f.dict kc g.names) (f.made g kc)).run callerA [] st H ⟨vals, []⟩ vals xs _ E0 room env (binds st vals many) rel (asks H xs f.tabs data)
  refine codeAny_mono run fun r st' x => ?_
  match r, x with
  | .ok (.ret u), x =>
    obtain ⟨v, H', os, bare, un, ok, rv, dv⟩ := x
    obtain ⟨kin, old⟩ := f.after g kc un ok
    obtain ⟨bs, reads⟩ := Dw.reads (R := R) (cl := cl) ok kin due v u dv rv
    exact ⟨u, bs, rfl, reads, old, os, bare⟩
end
/-- what the head tells of the defs' code objects and their tables -/
def TabsOf (q : Program) (mg : Str → Option Value) (h : Heap) : Prop := ∀ d ∈ recsOf q, ∃ a o fd c P, mg d.name = some (.ref a) ∧ h.get? a = some o ∧ o.data = .func fd ∧ fd.code = .ref c ∧ h.IsCode c P #[] ∧ h.TableAt c P #[]
/-- a row whose def, or a def that it calls, makes functions: the head's last goal, from the promise of the row's def; cs: the code objects and tables that F names -/
theorem walk_specT {r : OpenSpec} {k : Nat} {q : Program} {loose : List Str} {XP : (Str → Option Value) → Heap → Prop} {YP : World → Heap → Prop} {d : DefRec} {K : Params → PySem.W.Frag} {ps : List Str} {sp : PySem.W.Frag → List (Addr × Addr) → Sp}
    (said : r.wellSaid = true) (many : r.args.length = ps.length) (room : Room k callerA) (text : ∀ (w : World) (h : Heap), YP w h → (K w.params).In h)
    (F : ∀ (w : World) (mg : Str → Option Value) (fa : Addr) (h : Heap), YP w h → (K w.params).In h → h.Ns mainGlobals mg → mg d.name = some (.ref fa) → TabsOf q mg h →
      ∃ (fd : FuncData) (cs : List (Addr × Addr)), (∀ p ∈ cs, h.get? p.2 = some noCode ∧ (K w.params).lookup p.2 = none ∧ PySem.W.CodeHd h p.1 p.2) ∧
        (∀ (s : Shared) (us : List Value), us.length = ps.length → BindsTo s fd ⟨us, []⟩ (ps.zip us)) ∧
        ∀ base : Heap, (K w.params).In base → base.Ns mainGlobals mg → (∀ p ∈ cs, LamX.TabB base mg p.1 p.2) → FnOk r.prog w (K w.params) mg base CX0 k fa fd ps (sp (K w.params) cs))
    (S : ∀ (K : PySem.W.Frag) (cs : List (Addr × Addr)) (H : Hp) (xs : List V) (a : Codec.denoteAll r.args), (∀ p ∈ cs, H p.2 = some (.tbl #[])) → Codec.withinAll r.args a = true → Codec.app r.args r.asked a = true → DwAll K H xs (Codec.encAll r.args a) →
      sp K cs xs H (fun v H' => Dw K H' v (r.ret.enc (Codec.app r.args r.f a))) E0) : PySem.W.WalkOS q loose XP YP r d [] (fun f vs => PySem.call f vs) := by
  intro w before st mg mb G Y fa _ _ _ _ _ _ _ _ _ _ hmg still args vals _ allowed lay _ well _
  obtain ⟨a, dec, ask⟩ := PySem.W.os_pre_some allowed
  obtain ⟨rfl, within⟩ := Codec.encAll_of_decAll r.args args a dec
  have g : Stands (K w.params) mg mb st := ⟨text w _ Y, G.T.g, G.T.b, G.T.builtins, G.T.nolimit, still, G.T.bmain⟩
  obtain ⟨fd, cs, told, binds, keeps⟩ := F w mg fa _ Y g.text G.T.g hmg G.T.tab
  have kc : Codes (K w.params) st cs := ⟨fun p hp => (told p hp).1, fun p hp => (told p hp).2.1, fun p hp => (told p hp).2.2⟩
  have done := called (P := r.prog) (R := []) (cl := classAt before.heap) (due := r.ret.enc (Codec.app r.args r.f a)) g kc well (pl_encAll _ _) (layable_weight lay) room keeps binds (by rw [wellAll_len well, encAll_len]; exact many) fun H xs tabs data => S _ cs H xs a tabs within ask data
  refine PySem.W.enter_call (codeAny_mono done ?_)
  rintro _ st' ⟨u, bs, rfl, reads, old, os, bare⟩
  refine ⟨Or.inl ⟨u, _, bs, rfl, fun _ => rfl, reads, ?_, fun z => ?_⟩, old, os, bare⟩
  · exact (OpenSpec.post_iff said within _ _).mpr rfl
  · cases (show false = true from z)
/-- the code object and the table of a def -/
theorem tab_at {q : Program} {K : PySem.W.Frag} {mg : Str → Option Value} {h : Heap} {x : Str} {f : Addr} {oc : Value} {od : Option Addr} {fd : FuncData} {osl : Array (Option Value)} (X : K.In h) (T : TabsOf q mg h) (hq : ((recsOf q).any fun d => d.name == x) = true) (hm : mg x = some (.ref f))
    (l : K.lookup f = some ⟨oc, od, .func fd, osl⟩) (hK : PySem.W.noTabs K = true) :
    ∃ c P, fd.code = .ref c ∧ h.get? P = some { cls := .none, data := .fields #[] } ∧ K.lookup P = none ∧ PySem.W.CodeHd h c P := by
  obtain ⟨d, hd, hn⟩ := List.any_eq_true.mp hq
  have hn' : d.name = x := beq_iff_eq.mp hn
  obtain ⟨a, o, fd', c, P, h1, h2, h3, h4, h5, h6⟩ := T d hd
  rw [hn', hm] at h1
  cases h1
  have e := X _ _ l
  rw [h2] at e
  cases e
  cases h3
  have hC := PySem.W.CodeHd.of h5 h6
  obtain ⟨_, hP⟩ := h6
  have hP' : h.get? P = some { cls := .none, data := .fields #[] } := hP
  refine ⟨c, P, h4, hP', ?_, hC⟩
  cases hk : K.lookup P with
  | none => rfl
  | some o =>
    have e2 := X _ _ hk
    rw [hP'] at e2
    cases e2
    have z := List.all_eq_true.mp hK _ (PySem.W.mem_of_lookupK hk)
    exact absurd (show false = true from z) Bool.false_ne_true
end TF
namespace TF
open PySem PySem.Spec PyProof.Rows L2
/-! ### words over heaps and lists -/
theorem same_upd {H : Hp} {p : Addr} {o : HO} (free : H p = none) : Same H (upd H p o) := by
  intro b x there
  rw [upd_ne (ne_of_none there free)]
  exact there
/-- a list of naturals as values -/
abbrev vN (l : List Nat) : List V := (asInts l).map V.int
theorem vN_get {l : List Nat} {i : Nat} {x : Nat} (h : l[i]? = some x) : (vN l)[i]? = some (V.int (x : Int)) := by
  unfold vN asInts
  rw [List.getElem?_map, List.getElem?_map, h]
  rfl
theorem vN_len (l : List Nat) : (vN l).length = l.length := by
  unfold vN asInts
  rw [List.length_map, List.length_map]
theorem vN_set (l : List Nat) (i x : Nat) : (vN l).set i (V.int (x : Int)) = vN (l.set i x) := by
  unfold vN asInts
  rw [List.map_set, List.map_set]
theorem vN_app (l : List Nat) (x : Nat) : vN l ++ [V.int (x : Int)] = vN (l ++ [x]) := by
  unfold vN asInts
  rw [List.map_append, List.map_append]
  rfl
theorem vN_cons (l : List Nat) (x : Nat) : V.int (x : Int) :: vN l = vN (x :: l) := rfl
theorem int_at {ns : List Int} {i : Nat} {y : V} (h : (ns.map V.int)[i]? = some y) : ∃ z, ns[i]? = some z ∧ y = V.int z := by
  rw [List.getElem?_map] at h
  cases e : ns[i]? with
  | none =>
    rw [e] at h
    cases h
  | some z =>
    rw [e] at h
    exact ⟨z, rfl, (Option.some.inj h).symm⟩
theorem vN_at {l : List Nat} {i : Nat} {y : V} (h : (vN l)[i]? = some y) : ∃ z, l[i]? = some z ∧ y = V.int (z : Nat) := by
  obtain ⟨z, hz, rfl⟩ := int_at h
  unfold asInts at hz
  rw [List.getElem?_map] at hz
  cases e : l[i]? with
  | none =>
    rw [e] at hz
    cases hz
  | some x =>
    rw [e] at hz
    exact ⟨x, rfl, congrArg V.int (Option.some.inj hz).symm⟩
theorem ixN_nat {n j : Nat} (h : j < n) : ixN n (j : Int) = some j := by
  unfold ixN
  rw [if_pos (by omega), if_pos (by omega)]
  exact congrArg some (by omega)
theorem small {n : Nat} (h : n ≤ 100000) : n ≤ sizeLine := Nat.le_trans h (by decide)
theorem smallL {n : Nat} (h : n ≤ 100000) : n < sizeLine := Nat.lt_of_le_of_lt h (by decide)
/-- one item more -/
theorem take_more {α : Type} {l : List α} {i : Nat} {x : α} (h : l[i]? = some x) : l.take (i + 1) = l.take i ++ [x] := by
  rw [List.take_add_one, h]
  rfl
theorem getD_get {l : List Nat} {i : Nat} (h : i < l.length) : l[i]? = some (l.getD i 0) := by
  rw [List.getD_eq_getElem?_getD, List.getElem?_eq_getElem h]
  rfl
/-- the i-th statement of the program -/
def top (i : Nat) : Stmt := PySem.Challenge.pw_truckfill_s02_first_fit_decreasing.main.body.getD i (.Pass ⟨0, 0, 0, 0⟩)
/-! ### lengths_in_range -/
abbrev sLens : Stmt := top 11
theorem scLens : FnScope ["lengths", "length"] ["lengths"] (defScope sLens) := ⟨rfl, rfl, rfl, by decide +kernel, rfl, by decide +kernel, by decide +kernel⟩
def spLens (K : PySem.W.Frag) : Sp := fun vs H Q _ => ∃ (a : Addr) (ns : List Int), vs = [.ref a] ∧ SqL K H a (ns.map V.int) ∧ Q (.bl (okLens ns)) H
section
variable {K : PySem.W.Frag} {base : Heap} {mg : Str → Option Value} {P : Program} {w : World}
theorem ok_lens {f : Addr} {fd : FuncData} {t1 t2 : Tok} (F : Fun K "lengths_in_range" "lengths_in_range" sLens f fd) (gP : mg "MAX_PALLETS" = some (.int 7 t1)) (gM : mg "MAX_LENGTH" = some (.int 100 t2)) (ml : mg "len" = none) :
    FnOk P w K mg base CX0 1 f fd ["lengths"] (spLens K) := by
  refine F.ok scLens (fun vs H Q E h => ?_) (fun cdv A outer s H vs Q E hr h => ?_)
  · obtain ⟨a, ns, rfl, _⟩ := h
    rfl
  · obtain ⟨a, ns, rfl, hS, q⟩ := h
    refine ⟨_, pss_cons (ps_if (pt_cmpR op_gt (pe_callB call_len_seq (by rfl) ml PySem.boot_len (pa_cons (pv 0) pa_nil)) (pe_glob (v := .int 7) rfl gP ⟨_, rfl⟩) (nomark _)) (pss_one (ps_ret pe_bl)) pss_nil)
      (pss_cons (ps_for PassesOwn.never rfl (pi_list (pv 0)) (pg_name (i := 1) scLens.nd rfl (.inl rfl))
        (pss_one (ps_if (PW.pt (pw_or (pt_cmpR op_lt (pv 1) pe_int (nomark _)) (pw_or1 (pt_cmpR op_gt (pv 1) (pe_glob (v := .int 100) rfl gM ⟨_, rfl⟩) (nomark _))))) (pss_one (ps_ret pe_bl)) pss_nil)))
      (pss_one (ps_ret pe_bl))), ?_⟩
    refine ⟨.ref a, rfl, a, ns.map V.int, rfl, .inl hS, _, _, rfl, rfl, _, rfl, ite2 (fun e => ?_) (fun e => ?_)⟩
    · have e0 : (7 : Int) < ((ns.map V.int).length : Nat) := of_decide_eq_true e
      rw [List.length_map] at e0
      have e1 : okLens ns = false := by
        unfold okLens
        rw [decide_eq_false (by omega)]
        rfl
      rw [e1] at q
      exact q
    · have e0 : ¬ (7 : Int) < ((ns.map V.int).length : Nat) := fun z => e (decide_eq_true z)
      rw [List.length_map] at e0
      have e1 : okLens ns = ns.all okLen := by
        unfold okLens
        rw [decide_eq_true (by omega)]
        rfl
      rw [e1] at q
      refine ⟨.ref a, rfl, a, rfl, ⟨_, hS⟩, for_list (K := K) (a := a) (xs := ns.map V.int) (fun i σ H' => H' = H ∧ (∃ v : Option V, σ = [some (.ref a), v]) ∧ (ns.take i).all okLen = true)
        ⟨rfl, ⟨none, rfl⟩, rfl⟩ (fun i σ H' _ ⟨e, _, _⟩ => by rw [e]; exact hS) ?_ ?_⟩
      · rintro i y σ H' hi ⟨rfl, ⟨v, rfl⟩, hall⟩
        obtain ⟨z, hz, rfl⟩ := int_at hi
        have out : okLen z = false → Q (.bl false) H' := fun hb => by
          have e2 : ns.all okLen = false := by
            rw [List.all_eq_false]
            exact ⟨z, List.mem_of_getElem? hz, by rw [hb]; exact Bool.false_ne_true⟩
          rw [e2] at q
          exact q
        refine ⟨_, rfl, _, _, rfl, rfl, _, rfl, ite2 (fun e => ?_) (fun e => ?_)⟩
        · refine iteT (out ?_)
          have e0 : z < 1 := of_decide_eq_true e
          unfold okLen
          rw [decide_eq_false (by omega)]
          rfl
        · have e0 : ¬ z < 1 := fun w => e (decide_eq_true w)
          refine ⟨_, rfl, _, _, rfl, rfl, _, rfl, ite2 (fun e2 => ?_) (fun e2 => ?_)⟩
          · refine out ?_
            have e3 : (100 : Int) < z := of_decide_eq_true e2
            unfold okLen
            rw [decide_eq_false (show ¬ z ≤ 100 by omega), Bool.and_false]
          · have e3 : ¬ (100 : Int) < z := fun w => e2 (decide_eq_true w)
            refine ⟨rfl, ⟨_, rfl⟩, ?_⟩
            rw [take_more hz, List.all_append, hall, List.all_cons]
            unfold okLen
            rw [decide_eq_true (show 1 ≤ z by omega), decide_eq_true (show z ≤ 100 by omega)]
            rfl
      · rintro σ H' ⟨rfl, ⟨v, rfl⟩, hall⟩
        rw [List.length_map, List.take_length] at hall
        rw [hall] at q
        exact q
end
/-! ### capacity_in_range, loading_error -/
abbrev sCap : Stmt := top 10
abbrev sErr : Stmt := top 9
theorem scCap : FnScope ["capacity"] ["capacity"] (defScope sCap) := ⟨rfl, rfl, rfl, by decide +kernel, rfl, by decide +kernel, by decide +kernel⟩
theorem scErr : FnScope ["capacity", "lengths", "length"] ["capacity", "lengths"] (defScope sErr) := ⟨rfl, rfl, rfl, by decide +kernel, rfl, by decide +kernel, by decide +kernel⟩
def spCap : Sp := fun vs H Q _ => ∃ c : Int, vs = [.int c] ∧ Q (.bl (okCap c)) H
def spErr (K : PySem.W.Frag) : Sp := fun vs H Q _ => ∃ (c : Int) (a : Addr) (ns : List Int), vs = [.int c, .ref a] ∧ SqL K H a (ns.map V.int) ∧ Q (.int (err c ns)) H
section
variable {K : PySem.W.Frag} {base : Heap} {mg : Str → Option Value} {P : Program} {w : World}
theorem ok_cap {f : Addr} {fd : FuncData} {t0 t1 : Tok} (F : Fun K "capacity_in_range" "capacity_in_range" sCap f fd) (g0 : mg "MIN_CAPACITY" = some (.int 1 t0)) (gM : mg "MAX_CAPACITY" = some (.int 100 t1)) : FnOk P w K mg base CX0 1 f fd ["capacity"] spCap := by
  refine F.ok scCap (fun vs H Q E h => ?_) (fun cdv A outer s H vs Q E hr h => ?_)
  · obtain ⟨c, rfl, _⟩ := h
    rfl
  · obtain ⟨c, rfl, q⟩ := h
    refine ⟨_, pss_one (ps_ret (pe_and (pe_cmpR op_ge (pv 0) (pe_glob (v := .int 1) rfl g0 ⟨_, rfl⟩) (nomark _)) (pe_one (pe_cmpR op_le (pv 0) (pe_glob (v := .int 100) rfl gM ⟨_, rfl⟩) (nomark _))))), ?_⟩
    refine ⟨_, rfl, _, _, rfl, rfl, _, rfl, ite2 (fun e => ?_) (fun e => ?_)⟩
    · refine ⟨_, rfl, _, _, rfl, rfl, ?_⟩
      have e1 : okCap c = decide (c ≤ 100) := by
        unfold okCap
        rw [e]
        rfl
      rw [e1] at q
      exact q
    · have e1 : okCap c = false := by
        unfold okCap
        rw [Bool.eq_false_iff.mpr e]
        rfl
      rw [e1] at q
      exact q
theorem ok_err {f fC fL : Addr} {fd fdC fdL : FuncData} {t0 t1 t2 t3 t4 t5 t6 : Tok} (F : Fun K "loading_error" "loading_error" sErr f fd) (FC : Fun K "capacity_in_range" "capacity_in_range" sCap fC fdC) (FL : Fun K "lengths_in_range" "lengths_in_range" sLens fL fdL)
    (bC : Binds K fdC ["capacity"] []) (bL : Binds K fdL ["lengths"] []) (gC : mg "capacity_in_range" = some (.ref fC)) (gL : mg "lengths_in_range" = some (.ref fL))
    (g0 : mg "MIN_CAPACITY" = some (.int 1 t0)) (g1 : mg "MAX_CAPACITY" = some (.int 100 t1)) (g2 : mg "MAX_PALLETS" = some (.int 7 t2)) (g3 : mg "MAX_LENGTH" = some (.int 100 t3)) (g4 : mg "OUT_OF_RANGE" = some (.int (-22) t4)) (g5 : mg "TOO_LONG" = some (.int (-33) t5)) (g6 : mg "NO_ERROR" = some (.int 0 t6)) (ml : mg "len" = none) :
    FnOk P w K mg base CX0 2 f fd ["capacity", "lengths"] (spErr K) := by
  have GC : FnOk P w K mg base CX0 1 fC fdC ["capacity"] spCap := ok_cap FC g0 g1
  have GL : FnOk P w K mg base CX0 1 fL fdL ["lengths"] (spLens K) := ok_lens FL g2 g3 ml
  refine F.ok scErr (fun vs H Q E h => ?_) (fun cdv A outer s H vs Q E hr h => ?_)
  · obtain ⟨c, a, ns, rfl, _⟩ := h
    rfl
  · obtain ⟨c, a, ns, rfl, hS, q⟩ := h
    refine ⟨_, pss_cons (ps_if (PW.pt (pw_or (pt_not (pt_val (pe_call GC hr (by rfl) gC FC.kp bC .nil pass0 (pa_cons (pv 0) pa_nil)))) (pw_or1 (pt_not (pt_val (pe_call GL hr (by rfl) gL FL.kp bL .nil pass0 (pa_cons (pv 1) pa_nil)))))))
        (pss_one (ps_ret (pe_glob (v := .int (-22)) rfl g4 ⟨_, rfl⟩))) pss_nil)
      (pss_cons (ps_for PassesOwn.never rfl (pi_list (pv 1)) (pg_name (i := 2) scErr.nd rfl (.inl rfl))
        (pss_one (ps_if (pt_cmpR op_gt (pv 2) (pv 0) (nomark _)) (pss_one (ps_ret (pe_glob (v := .int (-33)) rfl g5 ⟨_, rfl⟩))) pss_nil)))
      (pss_one (ps_ret (pe_glob (v := .int 0) rfl g6 ⟨_, rfl⟩)))), ?_⟩
    have bad : (okCap c && okLens ns) = false → Q (.int (-22)) H := fun e => by
      unfold err at q
      rw [e, if_neg Bool.false_ne_true] at q
      exact q
    refine ⟨_, rfl, c, rfl, _, rfl, ?_⟩
    cases e1 : okCap c with
    | false =>
      refine iteT (iteT (bad ?_))
      rw [e1]
      rfl
    | true =>
      refine iteF ⟨_, rfl, a, ns, rfl, hS, _, rfl, ?_⟩
      cases e2 : okLens ns with
      | false =>
        refine iteT (bad ?_)
        rw [e1, e2]
        rfl
      | true =>
        refine iteF ?_
        have e3 : err c ns = if (ns.any fun n => decide (c < n)) = true then -33 else 0 := by
          unfold err
          rw [e1, e2]
          exact if_pos rfl
        rw [e3] at q
        refine ⟨.ref a, rfl, a, rfl, ⟨_, hS⟩, for_list (K := K) (a := a) (xs := ns.map V.int) (fun i σ H' => H' = H ∧ (∃ v : Option V, σ = [some (.int c), some (.ref a), v]) ∧ ((ns.take i).any fun n => decide (c < n)) = false)
          ⟨rfl, ⟨none, rfl⟩, rfl⟩ (fun i σ H' _ ⟨e, _, _⟩ => by rw [e]; exact hS) ?_ ?_⟩
        · rintro i y σ H' hi ⟨rfl, ⟨v, rfl⟩, hall⟩
          obtain ⟨z, hz, rfl⟩ := int_at hi
          refine ⟨_, rfl, _, rfl, _, _, rfl, rfl, _, rfl, ite2 (fun e => ?_) (fun e => ?_)⟩
          · have e4 : (ns.any fun n => decide (c < n)) = true := List.any_eq_true.mpr ⟨z, List.mem_of_getElem? hz, e⟩
            rw [if_pos e4] at q
            exact q
          · refine ⟨rfl, ⟨_, rfl⟩, ?_⟩
            rw [take_more hz, List.any_append, hall, List.any_cons, Bool.eq_false_iff.mpr e]
            rfl
        · rintro σ H' ⟨rfl, ⟨v, rfl⟩, hall⟩
          rw [List.length_map, List.take_length] at hall
          rw [hall, if_neg Bool.false_ne_true] at q
          exact q
end
/-! ### trucks_with_space, loads_with_pallet -/
abbrev sSpc : Stmt := top 14
abbrev sWit : Stmt := top 15
theorem scSpc : FnScope ["capacity", "loads", "length", "trucks", "truck", "load"] ["capacity", "loads", "length"] (defScope sSpc) := ⟨rfl, rfl, rfl, by decide +kernel, rfl, by decide +kernel, by decide +kernel⟩
theorem scWit : FnScope ["loads", "truck", "length", "fuller"] ["loads", "truck", "length"] (defScope sWit) := ⟨rfl, rfl, rfl, by decide +kernel, rfl, by decide +kernel, by decide +kernel⟩
/-- the pallet fits on this truck -/
def fits (c : Nat) (ld : List Nat) (l : Nat) : Nat → Bool := fun t => decide (ld.getD t 0 + l ≤ c)
/-- the trucks on which the pallet fits, and the next new one -/
def space (c : Nat) (ld : List Nat) (l : Nat) : List Nat := (List.range ld.length).filter (fits c ld l) ++ [ld.length]
/-- the loads with the pallet on that truck -/
def into (ld : List Nat) (t l : Nat) : List Nat := if t = ld.length then ld ++ [l] else ld.set t (ld.getD t 0 + l)
def spSpc (K : PySem.W.Frag) : Sp := fun vs H Q _ => ∃ (c : Nat) (a : Addr) (ld : List Nat) (l : Nat), vs = [.int (c : Int), .ref a, .int (l : Int)] ∧ SqL K H a (vN ld) ∧ ld.length ≤ 1000 ∧
  ∀ H' p, Same H H' → H p = none → H' p = some (.lst (vN (space c ld l))) → Q (.ref p) H'
def spWit (K : PySem.W.Frag) : Sp := fun vs H Q _ => ∃ (a : Addr) (ld : List Nat) (t l : Nat), vs = [.ref a, .int (t : Int), .int (l : Int)] ∧ SqL K H a (vN ld) ∧ ld.length ≤ 1000 ∧ t ≤ ld.length ∧
  ∀ H' p, Same H H' → H p = none → H' p = some (.lst (vN (into ld t l))) → Q (.ref p) H'
theorem vN_join (l k : List Nat) : vN l ++ vN k = vN (l ++ k) := by
  unfold vN asInts
  rw [List.map_append, List.map_append]
theorem into_new {ld : List Nat} {t l : Nat} (h : t = ld.length) : (ld ++ [0]).set t ((ld ++ [0]).getD t 0 + l) = into ld t l := by
  unfold into
  rw [if_pos h, h, List.set_append_right _ _ (Nat.le_refl _), Nat.sub_self, List.getD_eq_getElem?_getD, List.getElem?_append_right (Nat.le_refl _), Nat.sub_self]
  show ld ++ [0 + l] = ld ++ [l]
  rw [Nat.zero_add]
theorem into_old {ld : List Nat} {t l : Nat} (h : ¬ t = ld.length) : ld.set t (ld.getD t 0 + l) = into ld t l := by
  unfold into
  rw [if_neg h]
theorem into_len (ld : List Nat) (t l : Nat) : (into ld t l).length = if t = ld.length then ld.length + 1 else ld.length := by
  unfold into
  split
  · simp
  · simp
section
variable {K : PySem.W.Frag} {base : Heap} {mg : Str → Option Value} {P : Program} {w : World}
theorem ok_spc {f : Addr} {fd : FuncData} (F : Fun K "trucks_with_space" "trucks_with_space" sSpc f fd) (me : mg "enumerate" = none) (ml : mg "len" = none) : FnOk P w K mg base CX0 1 f fd ["capacity", "loads", "length"] (spSpc K) := by
  refine F.ok scSpc (fun vs H Q E h => ?_) (fun cdv A outer s H vs Q E hr h => ?_)
  · obtain ⟨c, a, ld, l, rfl, _⟩ := h
    rfl
  · obtain ⟨c, a, ld, l, rfl, hS, hn, q⟩ := h
    refine ⟨_, pss_cons (ps_setLc (i := 3) (own := [("truck", 4), ("load", 5)]) (g := gTup K 2 (gCons (gName 4) (gCons (gName 5) gNil))) rfl scSpc.nd rfl rfl (sw_true rfl rfl rfl (by decide +kernel)) (pi_enum (by rfl) me (pa_cons (pv 1) pa_nil))
          (blkOk_by (own := [("truck", 4), ("load", 5)]) (N := ["capacity", "loads", "length", "trucks", "truck", "load"]) (sc := defScope sSpc) (by decide +kernel))
          (fun _ _ _ _ _ => pg_tup rfl (pgs_cons (pg_name (i := 4) scSpc.nd rfl (.inl rfl)) (pgs_cons (pg_name (i := 5) scSpc.nd rfl (.inl rfl)) pgs_nil)))
          (fun _ _ _ _ _ => pts_one (pt_cmpR op_le (pe_op op_add (pv 5) (pv 2)) (pv 0) (nomark _))) (fun _ _ _ _ _ => pv 4))
      (pss_one (ps_ret (pe_op op_cat (pv 3) (pe_lst (pa_cons (pe_callB call_len_seq (by rfl) ml PySem.boot_len (pa_cons (pv 1) pa_nil)) pa_nil))))), ?_⟩
    refine ⟨.ref a, rfl, a, _, rfl, hS, fun D nD => ⟨fun i m G => i + m = ld.length ∧ Same H G ∧ G D = some (.lst (vN ((List.range i).filter (fits c ld l)))), ⟨ld.length, Nat.zero_add _, same_upd nD, upd_same⟩, ?_⟩⟩
    rintro i m G ⟨em, sm, eD⟩
    have hA : SqL K G a (vN ld) := sm.seq hS
    by_cases hi : i < ld.length
    · have g1 := getD_get hi
      refine .inr ⟨⟨_, _, hA, vN_get g1⟩, fun G' => Same H G' ∧ G' D = some (.lst (vN ((List.range (i + 1)).filter (fits c ld l)))), fun G' ⟨sm', e'⟩ => ⟨m - 1, by omega, by omega, sm', e'⟩, fun x G' hy => ?_⟩
      obtain ⟨T, x2, rfl, nT, rfl, f1⟩ := hy
      have ex : x2 = .int ((ld.getD i 0 : Nat) : Int) := Option.some.inj ((f1 _ hA).symm.trans (vN_get g1))
      subst ex
      have smT : Same H (upd G T (.tup [.int (i : Nat), .int ((ld.getD i 0 : Nat) : Int)])) := sm.trans (same_upd nT)
      have eT : (upd G T (.tup [.int (i : Nat), .int ((ld.getD i 0 : Nat) : Int)])) D = some (.lst (vN ((List.range i).filter (fits c ld l)))) := same_upd nT _ _ eD
      refine ⟨T, _, rfl, .inl (.inl upd_same), rfl, _, _, rfl, _, [], rfl, rfl, ?_⟩
      refine ⟨rfl, _, rfl, _, rfl, _, _, rfl, rfl, _, rfl, _, _, rfl, rfl, _, rfl, ?_⟩
      have er : (List.range (i + 1)).filter (fits c ld l) = (List.range i).filter (fits c ld l) ++ (if fits c ld l i = true then [i] else []) := by
        rw [List.range_succ, List.filter_append, List.filter_cons, List.filter_nil]
      rw [show decide (((ld.getD i 0 : Nat) : Int) + (l : Int) ≤ (c : Int)) = fits c ld l i from decide_eq_decide.mpr (by omega)]
      rw [er]
      cases e : fits c ld l i with
      | true =>
        rw [if_pos rfl]
        refine iteT ⟨_, rfl, _, eT, smallL ?_, ?_, ?_⟩
        · rw [vN_len]
          refine Nat.le_trans (List.length_filter_le ..) ?_
          rw [List.length_range]
          omega
        · intro b o z
          rw [upd_ne (ne_of_none z nD)]
          exact smT b o z
        · rw [upd_same, vN_app]
      | false =>
        rw [if_neg Bool.false_ne_true, List.append_nil]
        exact iteF ⟨smT, eT⟩
    · refine .inl ⟨⟨_, hA, by rw [vN_len]; omega⟩, ?_⟩
      have ei : i = ld.length := by omega
      subst ei
      refine ⟨.ref D, rfl, .ref a, rfl, a, _, rfl, .inl hA, small (by show 1 ≤ _; omega), fun p1 n1 => ?_⟩
      have e1 := same_upd (o := .lst [V.int ((vN ld).length : Nat)]) n1 _ _ eD
      refine ⟨_, _, _, _, rfl, rfl, e1, upd_same, small ?_, fun p2 n2 => ?_⟩
      · rw [vN_len]
        have z := List.length_filter_le (fits c ld l) (List.range ld.length)
        rw [List.length_range] at z
        show _ + 1 ≤ _
        omega
      · have n2' : H p2 = none := (sm.trans (same_upd n1)).free n2
        refine q _ p2 (sm.trans ((same_upd n1).trans (same_upd n2))) n2' ?_
        rw [upd_same, vN_len]
        exact congrArg (fun z => some (HO.lst z)) (vN_app _ _)
theorem ok_wit {f : Addr} {fd : FuncData} (F : Fun K "loads_with_pallet" "loads_with_pallet" sWit f fd) (mli : mg "list" = none) (ml : mg "len" = none) : FnOk P w K mg base CX0 1 f fd ["loads", "truck", "length"] (spWit K) := by
  refine F.ok scWit (fun vs H Q E h => ?_) (fun cdv A outer s H vs Q E hr h => ?_)
  · obtain ⟨a, ld, t, l, rfl, _⟩ := h
    rfl
  · obtain ⟨a, ld, t, l, rfl, hS, hn, ht, q⟩ := h
    refine ⟨_, pss_cons (ps_set (i := 3) scWit.nd rfl (.inl rfl) (pe_callTy call_list_of (by rfl) mli (by decide +kernel) (pa_cons (pv 0) pa_nil)))
      (pss_cons (ps_if (pt_cmpR op_eq (pv 1) (pe_callB call_len_seq (by rfl) ml PySem.boot_len (pa_cons (pv 3) pa_nil)) (nomark _))
          (pss_one (ps_expr (pe_bm PySem.F.plainAttrs_list PySem.F.slot_list_append PySem.F.type_list_append mt_append (pv 3) (pa_cons pe_int pa_nil)))) pss_nil)
      (pss_cons (ps_asg (pe_op op_add (pe_ix ix_list (pv 3) (pv 1) (fun _ _ => rfl)) (pv 2)) (pg_sub (pv 3) (pv 1) set_list))
      (pss_one (ps_ret (pv 3))))), ?_⟩
    refine ⟨.ref a, rfl, a, _, rfl, .inl hS, fun p np => ?_⟩
    have sm : Same H (upd H p (.lst (vN ld))) := same_upd np
    have last : ∀ (G : Hp) (k : List Nat), (∀ b o, H b = some o → G b = some o) → G p = some (.lst (vN k)) → t < k.length → k.set t (k.getD t 0 + l) = into ld t l → 
        Q (.ref p) (upd G p (.lst ((vN k).set t (.int (((k.getD t 0 : Nat) : Int) + (l : Int)))))) := fun G k sG eG hk hi => by
      refine q _ p (fun b o z => ?_) np ?_
      · rw [upd_ne (ne_of_none z np)]
        exact sG b o z
      · rw [upd_same]
        refine congrArg (fun z => some (HO.lst z)) ?_
        have := vN_set k t (k.getD t 0 + l)
        rw [hi] at this
        exact this
    refine ⟨_, rfl, .ref p, rfl, p, _, rfl, .inl (.inl (.inl upd_same)), rfl, _, rfl, ite2 (fun e => ?_) (fun e => ?_)⟩
    · have e0 : t = ld.length := by
        have z : V.int (t : Int) = V.int ((vN ld).length : Nat) := of_decide_eq_true e
        rw [vN_len] at z
        exact Int.ofNat.inj (V.int.inj z)
      refine ⟨.ref p, rfl, .inl ⟨rfl, _, .inl (.inl upd_same)⟩, p, _, _, rfl, rfl, upd_same, smallL (by rw [vN_len]; omega), ?_⟩
      have e5 : (upd (upd H p (.lst (vN ld))) p (.lst (vN ld ++ [V.int 0]))) p = some (.lst (vN (ld ++ [0]))) := by
        rw [upd_same]
        exact congrArg (fun z => some (HO.lst z)) (vN_app ld 0)
      have s5 : ∀ b o, H b = some o → (upd (upd H p (.lst (vN ld))) p (.lst (vN ld ++ [V.int 0]))) b = some o := fun b o z => by
        rw [upd_ne (ne_of_none z np)]
        exact sm b o z
      have hlt : t < (ld ++ [0]).length := by
        rw [List.length_append, e0]
        exact Nat.lt_succ_self _
      generalize upd (upd H p (.lst (vN ld))) p (.lst (vN ld ++ [V.int 0])) = G at s5 e5
      refine ⟨.ref p, rfl, _, rfl, p, _, _, _, rfl, rfl, .inl (.inl e5), atI_nat (vN_get (getD_get hlt)), _, rfl, _, _, rfl, rfl, .ref p, rfl, _, rfl, p, _, _, _, rfl, rfl, e5, ixN_nat (by rw [vN_len]; exact hlt), ?_⟩
      exact ⟨_, rfl, last G _ s5 e5 hlt (into_new e0)⟩
    · have e0 : ¬ t = ld.length := fun z => e (decide_eq_true (by rw [vN_len, z]))
      have hlt : t < ld.length := by omega
      have e5 : (upd H p (.lst (vN ld))) p = some (.lst (vN ld)) := upd_same
      generalize upd H p (.lst (vN ld)) = G at sm e5
      refine ⟨.ref p, rfl, _, rfl, p, _, _, _, rfl, rfl, .inl (.inl e5), atI_nat (vN_get (getD_get hlt)), _, rfl, _, _, rfl, rfl, .ref p, rfl, _, rfl, p, _, _, _, rfl, rfl, e5, ixN_nat (by rw [vN_len]; exact hlt), ?_⟩
      exact ⟨_, rfl, last G _ sm e5 hlt (into_old e0)⟩
end
/-! ### load_in_order -/
abbrev sLoad : Stmt := top 13
theorem scLoad : FnScope ["capacity", "lengths", "order", "loads", "assignment", "pallet", "truck"] ["capacity", "lengths", "order"] (defScope sLoad) := ⟨rfl, rfl, rfl, by decide +kernel, rfl, by decide +kernel, by decide +kernel⟩
def spLoad (K : PySem.W.Frag) : Sp := fun vs H Q _ => ∃ (c : Nat) (a : Addr) (ls : List Nat) (o : Addr) (order : List Nat), vs = [.int (c : Int), .ref a, .ref o] ∧ SqL K H a (vN ls) ∧ SqL K H o (vN order) ∧ ls.length ≤ 12 ∧ order.length ≤ 12 ∧ (∀ p ∈ order, p < ls.length) ∧
  ∀ H' p, Same H H' → H p = none → H' p = some (.lst (vN (loaded c ls order))) → Q (.ref p) H'
/-- the first truck with space -/
theorem fit_first (c : Nat) (ld : List Nat) (l : Nat) : (space c ld l)[0]? = some (fit c ld l) := by
  unfold space fit
  have same : ∀ (r k : List Nat), (∀ i, i < r.length → r[i]? = (k ++ r)[k.length + i]?) := fun r k i _ => by
    rw [List.getElem?_append_right (Nat.le_add_right ..), Nat.add_sub_cancel_left]
  cases e : ld.findIdx? fun u => decide (u + l ≤ c) with
  | none =>
    have z : (List.range ld.length).filter (fits c ld l) = [] := List.filter_eq_nil_iff.mpr fun t ht => by
      have h1 := List.mem_range.mp ht
      have h2 := List.findIdx?_eq_none_iff.mp e _ (List.mem_of_getElem? (getD_get h1))
      unfold fits
      rw [h2]
      exact Bool.false_ne_true
    rw [z]
    rfl
  | some i =>
    obtain ⟨h, h1, h2⟩ := List.findIdx?_eq_some_iff_getElem.mp e
    have sp : List.range ld.length = List.range i ++ (i :: (List.range (ld.length - i - 1)).map (fun x => i + 1 + x)) := by
      refine List.ext_getElem? fun j => ?_
      by_cases j1 : j < i
      · rw [List.getElem?_range (by omega), List.getElem?_append_left (by rw [List.length_range]; exact j1), List.getElem?_range j1]
      · rw [List.getElem?_append_right (by rw [List.length_range]; omega), List.length_range]
        by_cases j2 : j = i
        · subst j2
          rw [List.getElem?_range h, Nat.sub_self]
          rfl
        · obtain ⟨d, rfl⟩ : ∃ d, j = i + 1 + d := ⟨j - (i + 1), by omega⟩
          rw [show i + 1 + d - i = d + 1 by omega, List.getElem?_cons_succ, List.getElem?_map]
          by_cases j3 : i + 1 + d < ld.length
          · rw [List.getElem?_range j3, List.getElem?_range (by omega)]
            rfl
          · rw [List.getElem?_eq_none (by rw [List.length_range]; omega), List.getElem?_eq_none (by rw [List.length_range]; omega)]
            rfl
    have z : (List.range i).filter (fits c ld l) = [] := List.filter_eq_nil_iff.mpr fun t ht => by
      have t1 := List.mem_range.mp ht
      have t2 := h2 t t1
      unfold fits
      rw [List.getD_eq_getElem?_getD, List.getElem?_eq_getElem (Nat.lt_trans t1 h)]
      exact t2
    have y : fits c ld l i = true := by
      unfold fits
      rw [List.getD_eq_getElem?_getD, List.getElem?_eq_getElem h]
      exact h1
    rw [sp, List.filter_append, z, List.nil_append, List.filter_cons, if_pos y]
    rfl
theorem put_into (c : Nat) (ld : List Nat) (l : Nat) : into ld (fit c ld l) l = put c ld l := rfl
theorem zeros_are (n : Nat) : (List.replicate n [V.int 0]).flatten = vN (List.replicate n 0) := by
  unfold vN asInts
  rw [List.map_replicate, List.map_replicate]
  induction n with
  | zero => rfl
  | succ n ih =>
    rw [List.replicate_succ, List.flatten_cons, ih, List.replicate_succ]
    rfl
theorem run_lens (c : Nat) (ls : List Nat) : ∀ (order : List Nat) (s : List Nat × List Nat), (order.foldl (turn c ls) s).1.length ≤ s.1.length + order.length
  | [], _ => Nat.le_refl _
  | p :: r, s => by
    rw [List.foldl_cons, List.length_cons]
    have h := run_lens c ls r (turn c ls s p)
    have h2 : (turn c ls s p).1.length ≤ s.1.length + 1 := by
      show (put c s.1 _).length ≤ _
      rw [put_len]
      split <;> omega
    omega
section
variable {K : PySem.W.Frag} {base : Heap} {mg : Str → Option Value} {P : Program} {w : World}
theorem ok_load {f fT fW : Addr} {fd fdT fdW : FuncData} (F : Fun K "load_in_order" "load_in_order" sLoad f fd) (FT : Fun K "trucks_with_space" "trucks_with_space" sSpc fT fdT) (FW : Fun K "loads_with_pallet" "loads_with_pallet" sWit fW fdW)
    (bT : Binds K fdT ["capacity", "loads", "length"] []) (bW : Binds K fdW ["loads", "truck", "length"] []) (gT : mg "trucks_with_space" = some (.ref fT)) (gW : mg "loads_with_pallet" = some (.ref fW))
    (me : mg "enumerate" = none) (ml : mg "len" = none) (mli : mg "list" = none) : FnOk P w K mg base CX0 2 f fd ["capacity", "lengths", "order"] (spLoad K) := by
  have GT : FnOk P w K mg base CX0 1 fT fdT ["capacity", "loads", "length"] (spSpc K) := ok_spc FT me ml
  have GW : FnOk P w K mg base CX0 1 fW fdW ["loads", "truck", "length"] (spWit K) := ok_wit FW mli ml
  refine F.ok scLoad (fun vs H Q E h => ?_) (fun cdv A outer s H vs Q E hr h => ?_)
  · obtain ⟨c, a, ls, o, order, rfl, _⟩ := h
    rfl
  · obtain ⟨c, a, ls, o, order, rfl, hA, hO, hl, ho, hin, q⟩ := h
    refine ⟨_, pss_cons (ps_set (i := 3) scLoad.nd rfl (.inl rfl) (pe_lst pa_nil))
      (pss_cons (ps_set (i := 4) scLoad.nd rfl (.inl rfl) (pe_op op_rep (pe_lst (pa_cons pe_int pa_nil)) (pe_callB call_len_seq (by rfl) ml PySem.boot_len (pa_cons (pv 1) pa_nil))))
      (pss_cons (ps_for PassesOwn.never rfl (pi_list (pv 2)) (pg_name (i := 5) scLoad.nd rfl (.inl rfl))
        (pss_cons (ps_set (i := 6) scLoad.nd rfl (.inl rfl) (pe_ix ix_list (pe_call GT hr (by rfl) gT FT.kp bT .nil pass0 (pa_cons (pv 0) (pa_cons (pv 3) (pa_cons (pe_ix ix_list (pv 1) (pv 5) (fun _ _ => rfl)) pa_nil)))) pe_int (fun _ _ => rfl)))
        (pss_cons (ps_set (i := 3) scLoad.nd rfl (.inl rfl) (pe_call GW hr (by rfl) gW FW.kp bW .nil pass0 (pa_cons (pv 3) (pa_cons (pv 6) (pa_cons (pe_ix ix_list (pv 1) (pv 5) (fun _ _ => rfl)) pa_nil)))))
        (pss_one (ps_asg (pv 6) (pg_sub (pv 4) (pv 5) set_list))))))
      (pss_one (ps_ret (pe_op op_cat (pe_lst (pa_cons (pe_callB call_len_seq (by rfl) ml PySem.boot_len (pa_cons (pv 3) pa_nil)) pa_nil)) (pv 4)))))), ?_⟩
    -- loads = []
    refine ⟨small (by decide), fun pl npl => ?_⟩
    have s1 : Same H (upd H pl (.lst [])) := same_upd npl
    -- assignment = [0] * len(lengths)
    refine ⟨small (by decide), fun pz npz => ?_⟩
    have s2 : Same (upd H pl (.lst [])) (upd (upd H pl (.lst [])) pz (.lst [V.int 0])) := same_upd npz
    refine ⟨.ref a, rfl, a, _, rfl, .inl (s2.seq (s1.seq hA)), ?_⟩
    rw [vN_len]
    refine ⟨pz, (ls.length : Int), [V.int 0], rfl, rfl, upd_same, by omega, by omega, (by rw [Int.toNat_natCast]; exact small (by simp; omega)), fun pa npa => ?_⟩
    rw [Int.toNat_natCast, zeros_are]
    have s3 : Same (upd (upd H pl (.lst [])) pz (.lst [V.int 0])) (upd (upd (upd H pl (.lst [])) pz (.lst [V.int 0])) pa (.lst (vN (List.replicate ls.length 0)))) := same_upd npa
    have s4 := s1.trans (s2.trans s3)
    have ha0 : H pa = none := (s1.trans s2).free npa
    have npl2 : pl ≠ pa := ne_of_none (s2 _ _ upd_same) npa
    -- the loop
    have lens : ∀ i, ((order.take i).foldl (turn c ls) ([], List.replicate ls.length 0)).1.length ≤ 12 := fun i => by
      have h := run_lens c ls (order.take i) ([], List.replicate ls.length 0)
      rw [List.length_take] at h
      have h2 : (([] : List Nat), List.replicate ls.length 0).1.length = 0 := rfl
      omega
    have lenA : ∀ i, ((order.take i).foldl (turn c ls) ([], List.replicate ls.length 0)).2.length = ls.length := fun i => by
      rw [run_len]
      exact List.length_replicate
    refine ⟨.ref o, rfl, o, rfl, ⟨_, s4.seq hO⟩, for_list (K := K) (a := o) (xs := vN order) (fun i σ G => ∃ (p3 : Addr) (v5 v6 : Option V), σ = [some (.int (c : Int)), some (.ref a), some (.ref o), some (.ref p3), some (.ref pa), v5, v6] ∧ p3 ≠ pa ∧ Same H G ∧
        G p3 = some (.lst (vN ((order.take i).foldl (turn c ls) ([], List.replicate ls.length 0)).1)) ∧ G pa = some (.lst (vN ((order.take i).foldl (turn c ls) ([], List.replicate ls.length 0)).2)))
      ⟨pl, none, none, rfl, npl2, s4, (s2.trans s3) _ _ upd_same, upd_same⟩ (fun i σ G _ ⟨_, _, _, _, _, sm, _⟩ => sm.seq hO) ?_ ?_⟩
    · rintro i y σ G hi ⟨p3, v5, v6, rfl, n3, sm, el, ea⟩
      obtain ⟨p, hp, rfl⟩ := vN_at hi
      have hpl : p < ls.length := hin p (List.mem_of_getElem? hp)
      have gl : ls[p]? = some (ls.getD p 0) := getD_get hpl
      have step : (order.take (i + 1)).foldl (turn c ls) ([], List.replicate ls.length 0) = turn c ls ((order.take i).foldl (turn c ls) ([], List.replicate ls.length 0)) p := by
        rw [take_more hp, List.foldl_append]
        rfl
      have ln := lens i
      have la := lenA i
      rw [step]
      generalize (order.take i).foldl (turn c ls) ([], List.replicate ls.length 0) = st at el ea ln la
      -- truck = trucks_with_space(capacity, loads, lengths[pallet])[0]
      refine ⟨_, rfl, .ref p3, rfl, .ref a, rfl, .int (p : Int), rfl, a, _, _, _, rfl, rfl, sm.seq hA, atI_nat (vN_get gl), c, p3, st.1, ls.getD p 0, rfl, .inl (.inl el), by omega, fun G2 ps sm2 _ es => ?_⟩
      refine ⟨ps, _, 0, _, rfl, rfl, .inl (.inl es), atI_nat (j := 0) (vN_get (fit_first c st.1 (ls.getD p 0))), ?_⟩
      have el2 := sm2 _ _ el
      have ea2 := sm2 _ _ ea
      have sm3 : Same H G2 := sm.trans sm2
      -- loads = loads_with_pallet(loads, truck, lengths[pallet])
      refine ⟨.ref p3, rfl, _, rfl, .ref a, rfl, .int (p : Int), rfl, a, _, _, _, rfl, rfl, sm3.seq hA, atI_nat (vN_get gl), p3, st.1, _, _, rfl, .inl (.inl el2), by omega, fit_le c st.1 (ls.getD p 0), fun G3 p4 sm4 n4 e4 => ?_⟩
      rw [put_into] at e4
      have ea3 := sm4 _ _ ea2
      have n5 : p4 ≠ pa := fun z => by
        rw [z, ea2] at n4
        cases n4
      -- assignment[pallet] = truck
      refine ⟨_, rfl, .ref pa, rfl, _, rfl, pa, vN st.2, _, p, rfl, rfl, ea3, ixN_nat (by rw [vN_len, la]; exact hpl), ?_⟩
      refine ⟨p4, _, _, rfl, n5, fun b x z => ?_, ?_, ?_⟩
      · rw [upd_ne (ne_of_none z ha0)]
        exact sm4 _ _ (sm3 b x z)
      · rw [upd_ne n5]
        exact e4
      · rw [upd_same]
        exact congrArg (fun z => some (HO.lst z)) (vN_set st.2 p _)
    · rintro σ G ⟨p3, v5, v6, rfl, n3, sm, el, ea⟩
      rw [vN_len, List.take_length] at el ea
      -- return [len(loads)] + assignment
      refine ⟨.ref p3, rfl, p3, _, rfl, .inl (.inl (.inl el)), small (by show 1 ≤ _; omega), fun p1 n1 => ?_⟩
      have ea1 : (upd G p1 (.lst [V.int ((vN ((order.foldl (turn c ls) ([], List.replicate ls.length 0))).1).length : Nat)])) pa = some (.lst (vN (order.foldl (turn c ls) ([], List.replicate ls.length 0)).2)) := same_upd n1 _ _ ea
      refine ⟨.ref pa, rfl, p1, pa, _, _, rfl, rfl, upd_same, ea1, small (by show 1 + (vN _).length ≤ _; rw [vN_len, run_len, List.length_replicate]; omega), fun p2 n2 => ?_⟩
      have h2 : H p2 = none := (sm.trans (same_upd n1)).free n2
      refine q _ p2 (sm.trans ((same_upd n1).trans (same_upd n2))) h2 ?_
      rw [upd_same, vN_len]
      rfl
end
end TF
/-! ### sorted(range(n), key=lambda y: (-x[y], y)), x a captured list -/
namespace TF
open PySem PySem.Spec PyProof.Rows L2
section
variable {prog : Program} {w : World}
variable {A : Around} {s : Shared}
/-- the lambda called on a place of the list: the pair of the negated item and the place; all that stood stands -/
theorem key_call {f a c : Addr} {c' : Addr} {qual : Str} {params : Arguments} {scope : Scope} {cl : List (Str × Addr)} {pm ctv : Value} {its : List Value} {ls : List Nat} {i : Nat} {t : Tok} {x y : Str} {p1 p2 p3 p4 p5 p6 : Pos} {kk : Nat}
    (ho : s.heap.get? f = some (PySem.W.kla_obj "<lambda>" qual params (.Tuple [.UnaryOp .USub (.Subscript (.Name x p1) (.Name y p2) p3) p4, .Name y p5] kk p6) scope cl pm c' ctv))
    (hcd : s.heap.CodeRec (.ref c') qual) (hroom : A.depth < recursionLimit) (lim : s.heap.NoLimit)
    (hb : ∀ v : Value, bindArgs (PySem.W.kla_fn "<lambda>" qual params (.Tuple [.UnaryOp .USub (.Subscript (.Name x p1) (.Name y p2) p3) p4, .Name y p5] kk p6) scope cl pm (.ref c') ctv) ⟨[v], []⟩ = pure [(y, v)])
    (hco : scope.isCoroutine = false) (hgen : scope.isGenerator = false) (hk : scope.kind = .function) (hcell : ∀ z ∈ scope.names, z.2 ≠ .cell)
    (hy : scope.names.lookup y = some .local) (hx : scope.names.lookup x = some .free) (hc : cl.lookup x = some c) (cell : s.heap.IsCell c (some (.ref a))) (hl : s.heap.IsList a its.toArray) (rv : Vals (vN ls) its) (hi : i < ls.length) (hn : ls.length ≤ 1000)
    (hdx : (x == ("__debug__" : Str)) = false) (hcx : (x == ("__classdict__" : Str)) = false) (hdy : (y == ("__debug__" : Str)) = false) :
    wpAny (model prog w) A (call (.ref f) [.int (i : Int) t]) (PySem.W.KeyPure (.tuple [.int (-((ls.getD i 0 : Nat) : Int)), .int (i : Int)]) s) (fun _ _ => False) s := by
  refine wpAny_call (PySem.W.kla_callFunE hroom ho rfl hco hgen rfl hcd ?_)
  rw [hb]
  refine wpAny_pure (wpAny_newFunctionEnv hcell (fun z hz => ?_) (fun h₁ hns hsb => ⟨lim.fresh _ hsb, ?_⟩) hk)
  · have e : z = (y, _) := List.mem_singleton.mp hz
    rw [e]
    exact hy
  have kp : ∀ z ob, s.heap.get? z = some ob → h₁.get? z = some ob := fun z ob q => hsb.extBut z ob (Nat.ne_of_lt (Heap.lt_size q)) (Heap.get?_push_of_some _ q)
  have cell1 : h₁.IsCell c (some (.ref a)) := by
    obtain ⟨o, q1, q2⟩ := cell
    exact ⟨o, kp _ _ q1, q2⟩
  have list1 : h₁.IsList a its.toArray := by
    obtain ⟨o, q1, q2⟩ := hl
    exact ⟨o, kp _ _ q1, q2⟩
  have gl : ls[i]? = some (ls.getD i 0) := getD_get hi
  obtain ⟨u, hu, tu, ru⟩ := rv.get (vN_get gl)
  refine PySem.W.kla_codeExpr ?_
  refine wpAny_Tuple_spliced ?_
  have hloc : ∀ {v : Value}, (fun z => ([(y, v)] : List (Str × Value)).reverse.lookup z) y = some v := fun {v} => by
    show List.lookup y [(y, v)] = some v
    simp only [List.lookup, beq_self_eq_true]
  refine Calls.spliced_cons (UnaryOp_ (Subscript_ (wpAny_Name (wpAny_loadName_free hk hx hc cell1 ?_ hcx) hdx)))
  refine wpAny_Name (wpAny_loadName_local hk hy hns hloc ?_) hdy
  refine item_listR (x := u) list1 (by omega) (by omega) (by rw [Int.toNat_natCast]; simpa using hu) ?_ (by with_unfolding_all rfl)
  rw [ru]
  refine neg_int ?_
  refine Calls.spliced_cons ?_
  refine wpAny_Name (wpAny_loadName_local hk hy hns hloc ?_) hdy
  refine Calls.spliced_nil ⟨small (by show 2 ≤ _; decide), ?_⟩
  refine ⟨_, _, rfl, fun b o e => Heap.get?_push_of_some _ (kp b o e), ?_⟩
  exact .tuple (Heap.get?_push_size _ rfl) rfl rfl (.cons (bs := []) (.int _ _) (.cons (bs := []) (.int _ _) .nil))
/-- sorted(range(n), key=f) -/
theorem sorted_range_key {E : Value → Shared → Prop} {r f : Addr} {n : Nat} {t u v : Tok} {k : Nat → PyData} {Q : Value → Shared → Prop}
    (hh : A.handled = none) (hr : IsRange s.heap r 0 (n : Int) 1 t u v) (hn : n ≤ 1000) (hal : PySem.W.AllAlike ((List.range n).map k)) (hk : PySem.W.Sortable ((List.range n).map k)) (hu : ∀ d, d ∈ (List.range n).map k → A.units + 2 + d.depth < cLine)
    (turn : ∀ (i : Nat) (t : Tok), i < n → ∀ (h : Heap) (tk : Nat), (∀ b o, s.heap.get? b = some o → h.get? b = some o) →
      wpAny (model prog w) A.in1.in1 (call (.ref f) [.int (i : Int) t]) (PySem.W.KeyPure (k i) { s with heap := h, toks := tk }) (fun _ _ => False) { s with heap := h, toks := tk })
    (h : ∀ (out : List Value) (c : Nat) (h1 h' : Heap) (tk : Nat), (∀ b o, s.heap.get? b = some o → h1.get? b = some o) → (∀ b o, h1.get? b = some o → h'.get? b = some o) → h'.get? h1.objs.size = some (seqObj "list" (List.toArray out) c) →
      PySem.W.EachIs (fun (v : Value) (i : Nat) => ∃ t, v = .int (i : Int) t) out ((List.range n).mergeSort (PySem.W.dataLe false k)) → Q (.ref h1.objs.size) { s with heap := h', toks := tk }) :
    wpAny (model prog w) A (call (.builtin "sorted") [.ref r] [(Str.ofString "key", .ref f)]) Q E s := by
  refine call_function_entry_kw kind_sorted plain_sorted entry_sorted (ksk_s1 _ _) ?_
  unfold Builtin.«sorted»
  refine wpAny_bind (m := checkCount "sorted" 1 1 _) ?_
  refine wpAny_pure ?_
  refine wpAny_bind (collect_range (A := A.in1) (n := n) hh hr (small_one (by omega) (by omega) (by omega) (by omega)) (by rw [rangeSize_nat, Int.sub_zero, Int.toNat_natCast]) (by omega) fun h1 tk acc hkeep hi => ?_)
  have hsz : acc.toList.length = n := by
    rw [Array.length_toList]
    exact hi.1
  refine wpAny_bind (wpAny_newList ?_ (by rw [hsz]; exact small (by omega)))
  have at_ : (h1.push (seqObj "list" acc.toList.toArray 0)).get? h1.objs.size = some (seqObj "list" acc.toList.toArray 0) := Heap.get?_push_size _ rfl
  have old : ∀ b o, s.heap.get? b = some o → b ≠ h1.objs.size ∧ (h1.push (seqObj "list" acc.toList.toArray 0)).get? b = some o := fun b o e =>
    ⟨Nat.ne_of_lt (Heap.lt_size (hkeep b o e)), Heap.get?_push_of_some _ (hkeep b o e)⟩
  have each : PySem.W.EachIs (fun (v : Value) (i : Nat) => ∃ t, v = .int (i : Int) t) acc.toList (List.range n) := by
    refine PySem.W.EachIs.of_zip (by rw [hsz, List.length_range]) fun p hp => ?_
    obtain ⟨j, hj⟩ := List.getElem?_of_mem hp
    obtain ⟨left, right⟩ := List.getElem?_zip_eq_some.mp hj
    obtain ⟨t, e⟩ := hi.2 j p.1 (by rw [← left, Array.getElem?_toList])
    have e2 : p.2 = j := by
      obtain ⟨q1, q2⟩ := List.getElem?_eq_some_iff.mp right
      rw [← q2, List.getElem_range]
    refine ⟨t, ?_⟩
    rw [e, e2]
    congr 1
    omega
  refine wpAny_bind (wpAny_holding (wpAny_call_entry_kw slot_list_sort ⟨_, at_, rfl⟩ entry_list_sort ?_ (ksk_l1 _ _)))
  rw [ksk_t1]
  refine PySem.W.keyH_tree (kz := (List.range n).map k) (b := false) (vs := acc.toList) (n := 0) at_ (by rw [List.length_map, List.length_range, hsz]) (by rw [hsz]; exact small (by omega)) hal hk (fun d hd => hu d hd)
    (fun i v d hv hd h2 tk2 kp => ?_) (fun h' tk2 out c kp hD ko => ⟨_, rfl, wpAny_pure ⟨_, rfl, ?_⟩⟩)
  · have hlt : i < n := by
      obtain ⟨q, _⟩ := List.getElem?_eq_some_iff.mp hv
      omega
    obtain ⟨t, e⟩ := hi.2 i v (by rw [← hv, Array.getElem?_toList])
    have e1 : v = .int (i : Int) t := by
      rw [e]
      congr 1
      omega
    rw [List.getElem?_map, List.getElem?_range hlt] at hd
    have e2 : k i = d := Option.some.inj hd
    rw [e1, ← e2]
    exact turn i t hlt h2 tk2 fun b o e => kp b o (old b o e).1 (old b o e).2
  · exact h out c h1 h' tk2 hkeep (fun b o e => kp b o (Nat.ne_of_lt (Heap.lt_size e)) (Heap.get?_push_of_some _ e)) hD (PySem.W.keyedOut_each k ko each)
end
theorem ext_seq {K : PySem.W.Frag} {H H' : Hp} {a : Addr} {xs : List V} (e : LamX.ExtN H H') (h : SqL K H a xs) : SqL K H' a xs := by
  rcases h with (h | ⟨ob, h⟩) | h
  · exact .inl (.inl (e _ _ h (fun ps z => by cases z)))
  · exact .inl (.inr ⟨ob, e _ _ h (fun ps z => by cases z)⟩)
  · exact .inr h
/-- range(n) as a value -/
theorem cr_range1 {X : Cx} : CallR X (.type "range") (fun vs H Q => ∃ j, vs = [V.int j] ∧ ∀ p, H p = none → Q (.ref p) (upd H p (.rng 0 j))) := by
  intro pinned s σ H vs us Q I r h
  obtain ⟨j, rfl, q⟩ := h
  obtain ⟨u1, rfl, t, rfl⟩ := vals1 r
  refine call_range_1 ⟨.ref s.heap.objs.size, upd H s.heap.objs.size (.rng 0 j), I.laid (fun b o e => Heap.get?_push_of_some _ e) (Nat.le_refl _) ?_, rfl, q _ (I.hok.fresh (Nat.le_refl _))⟩
  exact ⟨_, t, _, Heap.get?_push_size _ rfl⟩
def keyOf (ls : List Nat) (i : Nat) : PyData := .tuple [.int (-((ls.getD i 0 : Nat) : Int)), .int (i : Int)]
theorem keys_alike (ls : List Nat) (l : List Nat) : PySem.W.AllAlike (l.map (keyOf ls)) := fun d hd d' hd' => by
  obtain ⟨i, _, rfl⟩ := List.mem_map.mp hd
  obtain ⟨j, _, rfl⟩ := List.mem_map.mp hd'
  rfl
theorem keys_sortable (ls : List Nat) (l : List Nat) : PySem.W.Sortable (l.map (keyOf ls)) := .inl fun d hd => by
  obtain ⟨i, _, rfl⟩ := List.mem_map.mp hd
  exact ⟨_, _, rfl⟩
theorem keys_depth (ls : List Nat) (i : Nat) : (keyOf ls i).depth ≤ 10 := by
  show PyData.depth (.tuple [.int _, .int _]) ≤ 10
  simp [PyData.depth, PyData.depthAll]
theorem keys_order (ls : List Nat) : PySem.W.dataLe false (keyOf ls) = ahead ls := PySem.W.dataLe_ii (fun i => -((ls.getD i 0 : Nat) : Int)) (fun i => (i : Int))
theorem each_vals : ∀ {out : List Value} {l : List Nat}, PySem.W.EachIs (fun (v : Value) (i : Nat) => ∃ t, v = .int (i : Int) t) out l → Vals (vN l) out
  | _, _, .nil => .nil
  | _, _, .cons a b => .cons a (each_vals b)
/-- what the expression asks: ta: the range; iL: the slot of the captured list -/
def tSortLam (K : PySem.W.Frag) (T : List (Addr × Str)) (iL : Nat) (ta : TA) : TE := fun σ H Q => ta σ H fun vs H1 => ∃ (r a : Addr) (ls : List Nat), vs = [.ref r] ∧ H1 r = some (.rng 0 (ls.length : Int)) ∧ LamX.Tabs T H1 ∧
  σ[iL]? = some (some (.ref a)) ∧ SqL K H1 a (vN ls) ∧ ls.length ≤ 12 ∧ ∀ H2 p, LamX.ExtN H1 H2 → H2 p = none → Q (.ref p) (upd H2 p (.lst (vN (sortedOrder ls))))
theorem pe_sortLam {X : Cx} {T : List (Addr × Str)} {iL k : Nat} {c P : Addr} {arg : Expr} {ta : TA} {params : Arguments} {scope : Scope} {x y : Str} {p p1 p2 p3 p4 p5 p6 lpos kpos pos : Pos} {kk : Nat}
    (hcalm : X.calm = true) (hr : Room k X.A) (hg : Gl X "sorted") (hm : X.mg "sorted" = none) (ha : PA X [arg] ta)
    (TB : LamX.TabB X.base X.mg c P) (hcode : X.env.code = .ref c) (hmT : (P, X.env.qual ++ "<lambda>") ∈ T) (huT : ∀ p ∈ T, p.1 = P → p.2 = X.env.qual ++ "<lambda>")
    (hdef : defaultsOf params X.env = ([], [])) (hfr : ∀ z ∈ scope.names, z.2 = .free → X.env.scope.names.lookup z.1 = some .cell ∨ X.env.scope.names.lookup z.1 = some .free)
    (hb : ∀ (qual : Str) (cl : List (Str × Addr)) (pm cv ctv v : Value), bindArgs (PySem.W.kla_fn "<lambda>" qual params (.Tuple [.UnaryOp .USub (.Subscript (.Name x p1) (.Name y p2) p3) p4, .Name y p5] kk p6) scope cl pm cv ctv) ⟨[v], []⟩ = pure [(y, v)])
    (hco : scope.isCoroutine = false) (hgen : scope.isGenerator = false) (hk : scope.kind = .function) (hcell : ∀ z ∈ scope.names, z.2 ≠ .cell)
    (hy : scope.names.lookup y = some .local) (hx : scope.names.lookup x = some .free) (hN : X.N[iL]? = some x) (hxc : X.env.scope.names.lookup x = some .cell)
    (hdx : (x == ("__debug__" : Str)) = false) (hcx : (x == ("__classdict__" : Str)) = false) (hdy : (y == ("__debug__" : Str)) = false)
    (he : backTo pos (starEach [arg] X.env) = (false, eval arg X.env) :: backTo pos (starEach [] X.env) := by rfl) (hpl : (backTo pos (starEach [arg] X.env)).any (·.1) = false := by rfl) :
    PE X (.Call (.Name "sorted" p) [arg] [⟨some "key", .Lambda params (.Tuple [.UnaryOp .USub (.Subscript (.Name x p1) (.Name y p2) p3) p4, .Name y p5] kk p6) scope lpos, kpos⟩] pos) (tSortLam X.K T iL ta) := by
  refine ⟨fun pinned s σ H Q I h => ?_⟩
  refine wpAny_Call_Name_kw (ld_blt I hg hm boot_sorted ?_)
  refine PyProof.Rows.callWith_kw (thn (ha.run pos pinned s σ H _ I h) fun us s1 ⟨vs, H1, I1, r1, r, a, ls, e1, hR, hT, hS, hL, hn, q⟩ => ?_) he hpl rfl rfl
  subst e1
  obtain rfl := Vals.ref1 r1
  refine wpAny_evalAll_cons (wpAny_bind (LamX.lam_make2 I1 TB hcode hmT huT hT hdef (fun z hz e => (hfr z hz e).elim (fun q => I1.ok.has _ (.inl q)) fun q => I1.ok.has _ (.inr q)) fun f c' pm ctv H2 s2 I2 eN T2 hof hfn hfs hcO => wpAny_bind (wpAny_standAt (wpAny_pure ?_))))
  refine wpAny_evalAll_nil ?_
  have hfree : ∀ z ∈ scope.names, z.2 = .free → ∃ c, X.env.cells.lookup z.1 = some c := fun z hz e => (hfr z hz e).elim (fun q => I1.ok.has _ (.inl q)) fun q => I1.ok.has _ (.inr q)
  have hR2 : H2 r = some (.rng 0 (ls.length : Int)) := eN _ _ hR (fun ps z => by cases z)
  have hL2 : SqL X.K H2 a (vN ls) := ext_seq eN hL
  obtain ⟨t1, t2, t3, hrng⟩ := I2.hok r _ hR2
  obtain ⟨its, rv, pl, _⟩ := I2.list hL2
  obtain ⟨m, hns, hloc⟩ := I2.loc
  obtain ⟨u, ru, lk⟩ := hloc iL x (.ref a) hN hS (.inr (.inl hxc))
  have eu : u = Value.ref a := ru
  subst eu
  obtain ⟨cc, hcc, hcel⟩ : ∃ cc, X.env.cells.lookup x = some cc ∧ s2.heap.IsCell cc (some (.ref a)) := by
    rcases lk with ⟨z, _⟩ | ⟨_, cc, z1, z2⟩
    · have z' : X.env.scope.names.lookup x = some .local := z
      rw [hxc] at z'
      cases z'
    · exact ⟨cc, z1, z2⟩
  have hclo := NdefX.clo_has hfree (mem_of_lookup hx) hcc
  have hCR := NdefX.codeO_at I2.hok hcO
  refine sorted_range_key (k := keyOf ls) (n := ls.length) (I2.ok.hd hcalm) hrng (by omega) (keys_alike ls _) (keys_sortable ls _) (fun d hd => ?_) (fun i t hi h tk kp => ?_) (fun out c3 h1 h' tk k1 kp hD ko => ?_)
  · obtain ⟨i, _, rfl⟩ := List.mem_map.mp hd
    have h1 := keys_depth ls i
    have h2 := hr.un
    omega
  · refine key_call (a := a) (s := { s2 with heap := h, toks := tk }) (kp _ _ hof) (hCR.keeps kp) ?_ (I2.nolimit.keeps kp) (hb _ _ _ _ _) hco hgen hk hcell hy hx hclo ?_ ?_ rv hi (by omega) hdx hcx hdy
    · have h2 := hr.dp
      show X.A.depth < recursionLimit
      omega
    · obtain ⟨o, q1, q2⟩ := hcel
      exact ⟨o, kp _ _ q1, q2⟩
    · obtain ⟨o, q1, q2⟩ := pl.isList
      exact ⟨o, kp _ _ q1, q2⟩
  · rw [keys_order] at ko
    have hv := each_vals ko
    have I3 : Inv X pinned σ H2 { s2 with heap := h1, toks := tk } := I2.kept k1
    refine ⟨.ref h1.objs.size, upd H2 h1.objs.size (.lst (vN (sortedOrder ls))), I3.laid (t' := tk) kp (Nat.le_refl _) ⟨?_, out, c3, hv, hD⟩, rfl, q H2 _ eN (I3.hok.fresh (Nat.le_refl _))⟩
    rw [vN_len, (sorted_perm ls).length_eq, List.length_range]
    exact small (by omega)
/-! ### decreasing_order -/
abbrev sDec : Stmt := top 12
theorem scDec : FnScope ["lengths"] ["lengths"] (defScope sDec) := ⟨rfl, rfl, rfl, by decide +kernel, rfl, by decide +kernel, by decide +kernel⟩
def spDec (K : PySem.W.Frag) (P : Addr) : Sp := fun vs H Q _ => ∃ (a : Addr) (ls : List Nat), vs = [.ref a] ∧ SqL K H a (vN ls) ∧ ls.length ≤ 12 ∧ H P = some (.tbl #[]) ∧
  ∀ H' p, LamX.ExtN H H' → H' p = some (.lst (vN (sortedOrder ls))) → Q (.ref p) H'
theorem lamFree : ∀ z ∈ ([(("pallet" : Str), NameKind.local), (("lengths" : Str), NameKind.free)] : List (Str × NameKind)), z.2 = .free → (defScope sDec).names.lookup z.1 = some .cell ∨ (defScope sDec).names.lookup z.1 = some .free := by decide +kernel
theorem lenCell : (defScope sDec).names.lookup ("lengths" : Str) = some .cell := by decide +kernel
section
variable {K : PySem.W.Frag} {base : Heap} {mg : Str → Option Value} {P : Program} {w : World}
theorem ok_dec {f c tb : Addr} {oc : Value} {od an : Option Addr} {osl : Array (Option Value)} {kV doc pm ct : Value} (lk : K.lookup f = some ⟨oc, od, .func (PySem.W.fnOf "decreasing_order" "decreasing_order" (defArgs sDec) (defBody sDec) (defScope sDec) .none kV doc pm an (.ref c) ct), osl⟩)
    (hcd : PySem.W.codeIn K (.ref c) "decreasing_order" = true) (TB : LamX.TabB base mg c tb) (ms : mg "sorted" = none) (mr : mg "range" = none) (ml : mg "len" = none) :
    FnOk P w K mg base CX0 1 f (PySem.W.fnOf "decreasing_order" "decreasing_order" (defArgs sDec) (defBody sDec) (defScope sDec) .none kV doc pm an (.ref c) ct) ["lengths"] (spDec K tb) := by
  refine fn_of lk hcd scDec (fun vs H Q E h => ?_) (fun A outer s H vs Q E hr h => ?_)
  · obtain ⟨a, ls, rfl, _⟩ := h
    rfl
  · obtain ⟨a, ls, rfl, hS, hn, hP, q⟩ := h
    refine ⟨_, pss_one (ps_ret (pe_sortLam (T := [(tb, (envOfC "decreasing_order" (defScope sDec) s.heap.objs.size f (.ref c)).qual ++ "<lambda>")]) (iL := 0) rfl hr (by rfl) ms
      (pa_cons (pe_callTy cr_range1 (by rfl) mr boot_range (pa_cons (pe_callB call_len_seq (by rfl) ml PySem.boot_len (pa_cons (pv 0) pa_nil)) pa_nil)) pa_nil)
      TB rfl (List.mem_singleton.mpr rfl) (fun z hz _ => by rw [List.mem_singleton.mp hz]; rfl) rfl lamFree (fun _ _ _ _ _ _ => rfl) rfl rfl rfl (by decide +kernel) (by decide +kernel) (by decide +kernel) rfl lenCell (by decide) (by decide) (by decide))), ?_⟩
    refine ⟨.ref a, rfl, a, _, rfl, .inl hS, _, rfl, fun r nr => ?_⟩
    have sr : Same H (upd H r (.rng 0 ((vN ls).length : Nat))) := same_upd nr
    refine ⟨r, a, ls, rfl, ?_, fun z hz => ?_, rfl, sr.seq hS, hn, fun H2 p e2 n2 => ?_⟩
    · rw [upd_same, vN_len]
    · rw [List.mem_singleton.mp hz]
      exact LamX.TabS.nil (sr _ _ hP)
    · refine q _ p (fun b o e no => ?_) upd_same
      have e3 := e2 b o (sr _ _ e) no
      rw [upd_ne (ne_of_none e3 n2)]
      exact e3
end
/-! ### first_fit_decreasing -/
abbrev sFD : Stmt := top 8
theorem scFD : FnScope ["capacity", "lengths", "error"] ["capacity", "lengths"] (defScope sFD) := ⟨rfl, rfl, rfl, by decide +kernel, rfl, by decide +kernel, by decide +kernel⟩
def spFD (K : PySem.W.Frag) (cs : List (Addr × Addr)) : Sp := fun vs H Q _ => ∃ (c : Int) (a : Addr) (ns : List Int), vs = [.int c, .ref a] ∧ SqL K H a (ns.map V.int) ∧ 0 ≤ c ∧ (∀ n ∈ ns, 0 ≤ n) ∧ ns.length ≤ 12 ∧ (∀ p ∈ cs, H p.2 = some (.tbl #[])) ∧
  ∀ H' p, H' p = some (.lst ((PyKbe6.first_fit_decreasing c ns).map V.int)) → Q (.ref p) H'
section
variable {K : PySem.W.Frag} {base : Heap} {mg : Str → Option Value} {P : Program} {w : World}
theorem ok_fd {f fE fL fD c' tb : Addr} {fd fdE fdL fdD : FuncData} {t6 : Tok} (F : Fun K "first_fit_decreasing" "first_fit_decreasing" sFD f fd) (FE : Fun K "loading_error" "loading_error" sErr fE fdE) (FL : Fun K "load_in_order" "load_in_order" sLoad fL fdL) (FD : Fun K "decreasing_order" "decreasing_order" sDec fD fdD)
    (bE : Binds K fdE ["capacity", "lengths"] []) (bL : Binds K fdL ["capacity", "lengths", "order"] []) (bD : Binds K fdD ["lengths"] []) (gE : mg "loading_error" = some (.ref fE)) (gL : mg "load_in_order" = some (.ref fL)) (gD : mg "decreasing_order" = some (.ref fD)) (g6 : mg "NO_ERROR" = some (.int 0 t6))
    (GE : FnOk P w K mg base CX0 2 fE fdE ["capacity", "lengths"] (spErr K)) (GL : FnOk P w K mg base CX0 2 fL fdL ["capacity", "lengths", "order"] (spLoad K)) (GD : FnOk P w K mg base CX0 1 fD fdD ["lengths"] (spDec K tb)) :
    FnOk P w K mg base CX0 3 f fd ["capacity", "lengths"] (spFD K [(c', tb)]) := by
  refine F.ok scFD (fun vs H Q E h => ?_) (fun cdv A outer s H vs Q E hr h => ?_)
  · obtain ⟨c, a, ns, rfl, _⟩ := h
    rfl
  · obtain ⟨c, a, ns, rfl, hS, hc, hn, hl, hT, q⟩ := h
    refine ⟨_, pss_cons (ps_set (i := 2) scFD.nd rfl (.inl rfl) (pe_call GE hr (by rfl) gE FE.kp bE .nil pass0 (pa_cons (pv 0) (pa_cons (pv 1) pa_nil))))
      (pss_cons (ps_if (pt_cmpR op_ne (pv 2) (pe_glob (v := .int 0) rfl g6 ⟨_, rfl⟩) (nomark _)) (pss_one (ps_ret (pe_lst (pa_cons (pv 2) pa_nil)))) pss_nil)
      (pss_one (ps_ret (pe_call GL hr (by rfl) gL FL.kp bL .nil pass0 (pa_cons (pv 0) (pa_cons (pv 1) (pa_cons (pe_call GD (hr.mono (by decide)) (by rfl) gD FD.kp bD .nil pass0 (pa_cons (pv 1) pa_nil)) pa_nil))))))), ?_⟩
    refine ⟨_, rfl, .ref a, rfl, c, a, ns, rfl, hS, ?_⟩
    refine ⟨_, rfl, rfl, _, rfl, ?_⟩
    have hp : (sortedOrder (ns.map Int.toNat)).Perm (List.range ns.length) := by
      have z := sorted_perm (ns.map Int.toNat)
      rw [List.length_map] at z
      exact z
    have main := first_fit_decreasing_is hc hn _ (order_is (ns.map Int.toNat)).symm hp
    by_cases e : err c ns = 0
    · rw [show (!decide (V.int (err c ns) = V.int 0)) = false by rw [e]; rfl]
      refine iteF ?_
      rw [if_neg (by rw [e]; exact fun z => z rfl)] at main
      have eb := ints_back hn
      have ec : c = ((c.toNat : Nat) : Int) := (Int.toNat_of_nonneg hc).symm
      have hS2 : SqL K H a (vN (ns.map Int.toNat)) := by
        show SqL K H a ((asInts (ns.map Int.toNat)).map V.int)
        rw [← eb]
        exact hS
      refine ⟨_, rfl, .ref a, rfl, .ref a, rfl, a, ns.map Int.toNat, rfl, hS2, by rw [List.length_map]; exact hl, hT _ (List.mem_singleton.mpr rfl), fun H1 o eN ho => ?_⟩
      refine ⟨c.toNat, a, ns.map Int.toNat, o, sortedOrder (ns.map Int.toNat), ?_, ext_seq eN hS2, .inl (.inl ho), by rw [List.length_map]; exact hl, by rw [hp.length_eq, List.length_range]; exact hl, fun p hm => by rw [List.length_map]; exact List.mem_range.mp (hp.mem_iff.mp hm), fun H' p sm np hq => ?_⟩
      · rw [← ec]
        rfl
      · refine q H' p ?_
        rw [main]
        exact hq
    · rw [show (!decide (V.int (err c ns) = V.int 0)) = true by rw [decide_eq_false (fun z => e (V.int.inj z))]; rfl]
      refine iteT ⟨_, rfl, small (by show 1 ≤ _; omega), fun p hp => ?_⟩
      rw [if_pos e] at main
      refine q _ p ?_
      rw [main, upd_same]
      rfl
end
/-! ### the end -/
theorem all_mk {P : Program} {w : World} {K : PySem.W.Frag} {h : Heap} {mg : Str → Option Value} {q : Program} {fa f1 f2 f3 f4 f5 f6 f7 f8 : Addr} (X : K.In h) (G : h.Ns mainGlobals mg) (hfa : mg "first_fit_decreasing" = some (.ref fa)) (TT : TabsOf q mg h) (hq : ((recsOf q).any fun d => d.name == ("decreasing_order" : Str)) = true) (hK : PySem.W.noTabs K = true)
    {od1 an1 od2 an2 od3 an3 od4 an4 od5 an5 od6 an6 od7 an7 od8 an8 : Option Addr} {sl1 sl2 sl3 sl4 sl5 sl6 sl7 sl8 : Array (Option Value)} {oc1 kV1 dc1 pm1 cd1 ct1 oc2 kV2 dc2 pm2 cd2 ct2 oc3 kV3 dc3 pm3 cd3 ct3 oc4 kV4 dc4 pm4 cd4 ct4 oc5 kV5 dc5 pm5 cd5 ct5 oc6 kV6 dc6 pm6 cd6 ct6 oc7 kV7 dc7 pm7 cd7 ct7 oc8 kV8 dc8 pm8 cd8 ct8 : Value} {t1 t2 t3 t4 t5 t6 t7 : Tok}
    (a1 : PySem.W.nsIn K mainGlobals "first_fit_decreasing" = some (some (.ref f1))) (l1 : K.lookup f1 = some ⟨oc1, od1, .func (PySem.W.fnOf "first_fit_decreasing" "first_fit_decreasing" (defArgs sFD) (defBody sFD) (defScope sFD) .none kV1 dc1 pm1 an1 cd1 ct1), sl1⟩) (c1 : PySem.W.codeIn K cd1 "first_fit_decreasing" = true) (k1 : PySem.W.keepIn K (.ref f1) = true)
    (a2 : PySem.W.nsIn K mainGlobals "loading_error" = some (some (.ref f2))) (l2 : K.lookup f2 = some ⟨oc2, od2, .func (PySem.W.fnOf "loading_error" "loading_error" (defArgs sErr) (defBody sErr) (defScope sErr) .none kV2 dc2 pm2 an2 cd2 ct2), sl2⟩) (c2 : PySem.W.codeIn K cd2 "loading_error" = true) (k2 : PySem.W.keepIn K (.ref f2) = true)
    (a3 : PySem.W.nsIn K mainGlobals "capacity_in_range" = some (some (.ref f3))) (l3 : K.lookup f3 = some ⟨oc3, od3, .func (PySem.W.fnOf "capacity_in_range" "capacity_in_range" (defArgs sCap) (defBody sCap) (defScope sCap) .none kV3 dc3 pm3 an3 cd3 ct3), sl3⟩) (c3 : PySem.W.codeIn K cd3 "capacity_in_range" = true) (k3 : PySem.W.keepIn K (.ref f3) = true)
    (a4 : PySem.W.nsIn K mainGlobals "lengths_in_range" = some (some (.ref f4))) (l4 : K.lookup f4 = some ⟨oc4, od4, .func (PySem.W.fnOf "lengths_in_range" "lengths_in_range" (defArgs sLens) (defBody sLens) (defScope sLens) .none kV4 dc4 pm4 an4 cd4 ct4), sl4⟩) (c4 : PySem.W.codeIn K cd4 "lengths_in_range" = true) (k4 : PySem.W.keepIn K (.ref f4) = true)
    (a5 : PySem.W.nsIn K mainGlobals "load_in_order" = some (some (.ref f5))) (l5 : K.lookup f5 = some ⟨oc5, od5, .func (PySem.W.fnOf "load_in_order" "load_in_order" (defArgs sLoad) (defBody sLoad) (defScope sLoad) .none kV5 dc5 pm5 an5 cd5 ct5), sl5⟩) (c5 : PySem.W.codeIn K cd5 "load_in_order" = true) (k5 : PySem.W.keepIn K (.ref f5) = true)
    (a6 : PySem.W.nsIn K mainGlobals "trucks_with_space" = some (some (.ref f6))) (l6 : K.lookup f6 = some ⟨oc6, od6, .func (PySem.W.fnOf "trucks_with_space" "trucks_with_space" (defArgs sSpc) (defBody sSpc) (defScope sSpc) .none kV6 dc6 pm6 an6 cd6 ct6), sl6⟩) (c6 : PySem.W.codeIn K cd6 "trucks_with_space" = true) (k6 : PySem.W.keepIn K (.ref f6) = true)
    (a7 : PySem.W.nsIn K mainGlobals "loads_with_pallet" = some (some (.ref f7))) (l7 : K.lookup f7 = some ⟨oc7, od7, .func (PySem.W.fnOf "loads_with_pallet" "loads_with_pallet" (defArgs sWit) (defBody sWit) (defScope sWit) .none kV7 dc7 pm7 an7 cd7 ct7), sl7⟩) (c7 : PySem.W.codeIn K cd7 "loads_with_pallet" = true) (k7 : PySem.W.keepIn K (.ref f7) = true)
    (a8 : PySem.W.nsIn K mainGlobals "decreasing_order" = some (some (.ref f8))) (l8 : K.lookup f8 = some ⟨oc8, od8, .func (PySem.W.fnOf "decreasing_order" "decreasing_order" (defArgs sDec) (defBody sDec) (defScope sDec) .none kV8 dc8 pm8 an8 cd8 ct8), sl8⟩) (c8 : PySem.W.codeIn K cd8 "decreasing_order" = true) (k8 : PySem.W.keepIn K (.ref f8) = true)
    (g1 : PySem.W.nsIn K mainGlobals "MIN_CAPACITY" = some (some (.int (1) t1)))
    (g2 : PySem.W.nsIn K mainGlobals "MAX_CAPACITY" = some (some (.int (100) t2)))
    (g3 : PySem.W.nsIn K mainGlobals "MAX_PALLETS" = some (some (.int (7) t3)))
    (g4 : PySem.W.nsIn K mainGlobals "MAX_LENGTH" = some (some (.int (100) t4)))
    (g5 : PySem.W.nsIn K mainGlobals "OUT_OF_RANGE" = some (some (.int (-22) t5)))
    (g6 : PySem.W.nsIn K mainGlobals "TOO_LONG" = some (some (.int (-33) t6)))
    (g7 : PySem.W.nsIn K mainGlobals "NO_ERROR" = some (some (.int (0) t7)))
    (m1 : PySem.W.nsIn K mainGlobals "len" = some none)
    (m2 : PySem.W.nsIn K mainGlobals "range" = some none)
    (m3 : PySem.W.nsIn K mainGlobals "list" = some none)
    (m4 : PySem.W.nsIn K mainGlobals "enumerate" = some none)
    (m5 : PySem.W.nsIn K mainGlobals "sorted" = some none)
    : ∃ (fd : FuncData) (cs : List (Addr × Addr)), (∀ p ∈ cs, h.get? p.2 = some { cls := .none, data := .fields #[] } ∧ K.lookup p.2 = none ∧ PySem.W.CodeHd h p.1 p.2) ∧
      (∀ (s : Shared) (us : List Value), us.length = (["capacity", "lengths"] : List Str).length → BindsTo s fd ⟨us, []⟩ ((["capacity", "lengths"] : List Str).zip us)) ∧
      ∀ base : Heap, K.In base → base.Ns mainGlobals mg → (∀ p ∈ cs, LamX.TabB base mg p.1 p.2) → FnOk P w K mg base CX0 3 fa fd ["capacity", "lengths"] (spFD K cs) := by
  have e := hfa.symm.trans (PySem.W.mg_of X G a1)
  cases e
  obtain ⟨c, tb, ec, hP, nP, hC⟩ := tab_at X TT hq (PySem.W.mg_of X G a8) l8 hK
  have ec' : cd8 = .ref c := ec
  subst ec'
  have F_first_fit_decreasing := fun_mk (st := sFD) l1 c1 k1
  have F_loading_error := fun_mk (st := sErr) l2 c2 k2
  have b_loading_error := F_loading_error.binds (ps := ["capacity", "lengths"]) fun _ _ _ _ _ _ us hl => match us, hl with | [_, _], _ => rfl
  have g_loading_error := PySem.W.mg_of X G a2
  have F_capacity_in_range := fun_mk (st := sCap) l3 c3 k3
  have b_capacity_in_range := F_capacity_in_range.binds (ps := ["capacity"]) fun _ _ _ _ _ _ us hl => match us, hl with | [_], _ => rfl
  have g_capacity_in_range := PySem.W.mg_of X G a3
  have F_lengths_in_range := fun_mk (st := sLens) l4 c4 k4
  have b_lengths_in_range := F_lengths_in_range.binds (ps := ["lengths"]) fun _ _ _ _ _ _ us hl => match us, hl with | [_], _ => rfl
  have g_lengths_in_range := PySem.W.mg_of X G a4
  have F_load_in_order := fun_mk (st := sLoad) l5 c5 k5
  have b_load_in_order := F_load_in_order.binds (ps := ["capacity", "lengths", "order"]) fun _ _ _ _ _ _ us hl => match us, hl with | [_, _, _], _ => rfl
  have g_load_in_order := PySem.W.mg_of X G a5
  have F_trucks_with_space := fun_mk (st := sSpc) l6 c6 k6
  have b_trucks_with_space := F_trucks_with_space.binds (ps := ["capacity", "loads", "length"]) fun _ _ _ _ _ _ us hl => match us, hl with | [_, _, _], _ => rfl
  have g_trucks_with_space := PySem.W.mg_of X G a6
  have F_loads_with_pallet := fun_mk (st := sWit) l7 c7 k7
  have b_loads_with_pallet := F_loads_with_pallet.binds (ps := ["loads", "truck", "length"]) fun _ _ _ _ _ _ us hl => match us, hl with | [_, _, _], _ => rfl
  have g_loads_with_pallet := PySem.W.mg_of X G a7
  have F_decreasing_order := fun_mk (st := sDec) l8 c8 k8
  have b_decreasing_order := F_decreasing_order.binds (ps := ["lengths"]) fun _ _ _ _ _ _ us hl => match us, hl with | [_], _ => rfl
  have g_decreasing_order := PySem.W.mg_of X G a8
  have k_MIN_CAPACITY := PySem.W.mg_of X G g1
  have k_MAX_CAPACITY := PySem.W.mg_of X G g2
  have k_MAX_PALLETS := PySem.W.mg_of X G g3
  have k_MAX_LENGTH := PySem.W.mg_of X G g4
  have k_OUT_OF_RANGE := PySem.W.mg_of X G g5
  have k_TOO_LONG := PySem.W.mg_of X G g6
  have k_NO_ERROR := PySem.W.mg_of X G g7
  have n_len := PySem.W.ns_none_of X G m1
  have n_range := PySem.W.ns_none_of X G m2
  have n_list := PySem.W.ns_none_of X G m3
  have n_enumerate := PySem.W.ns_none_of X G m4
  have n_sorted := PySem.W.ns_none_of X G m5
  refine ⟨PySem.W.fnOf "first_fit_decreasing" "first_fit_decreasing" (defArgs sFD) (defBody sFD) (defScope sFD) .none kV1 dc1 pm1 an1 cd1 ct1, [(c, tb)], fun p hp => ?_, fun s us hu => match us, hu with | [_, _], _ => .of_eq rfl, fun base _ _ hTB => ?_⟩
  · rw [List.mem_singleton.mp hp]
    exact ⟨hP, nP, hC⟩
  have T_decreasing_order := hTB _ (List.mem_singleton.mpr rfl)
  have l_decreasing_order := l8
  have c_decreasing_order := c8
  exact ok_fd F_first_fit_decreasing F_loading_error F_load_in_order F_decreasing_order b_loading_error b_load_in_order b_decreasing_order g_loading_error g_load_in_order g_decreasing_order k_NO_ERROR (ok_err F_loading_error F_capacity_in_range F_lengths_in_range b_capacity_in_range b_lengths_in_range g_capacity_in_range g_lengths_in_range k_MIN_CAPACITY k_MAX_CAPACITY k_MAX_PALLETS k_MAX_LENGTH k_OUT_OF_RANGE k_TOO_LONG k_NO_ERROR n_len) (ok_load F_load_in_order F_trucks_with_space F_loads_with_pallet b_trucks_with_space b_loads_with_pallet g_trucks_with_space g_loads_with_pallet n_enumerate n_len n_list) (ok_dec l_decreasing_order c_decreasing_order T_decreasing_order n_sorted n_range n_len)
end TF
open PySem PySem.W PyProof.Rows
set_option maxRecDepth 100000 in
set_option maxHeartbeats 8000000 in
theorem PySem.Challenge.cw_truckfill_s02_first_fit_decreasing_holds : PySem.Challenge.rw_truckfill_s02_first_fit_decreasing.Holds := by
  w_on; k_headS; (case hw => exact ⟨[.int 0, .list []], by decide +kernel, by decide +kernel⟩)
  k_fillS
  refine TF.walk_specT (r := PySem.Challenge.rw_truckfill_s02_first_fit_decreasing) (k := 3) (ps := ["capacity", "lengths"]) (sp := TF.spFD) (by decide +kernel) rfl ⟨rfl, by decide, by decide⟩ (fun w h Y => PySem.W.kIn_of Y) ?F ?S
  case F =>
    intro w mg fa h Y KX G hmg TT
    refine' TF.all_mk KX G hmg TT ?hq ?hK ?a1 ?l1 ?c1 ?k1 ?a2 ?l2 ?c2 ?k2 ?a3 ?l3 ?c3 ?k3 ?a4 ?l4 ?c4 ?k4 ?a5 ?l5 ?c5 ?k5 ?a6 ?l6 ?c6 ?k6 ?a7 ?l7 ?c7 ?k7 ?a8 ?l8 ?c8 ?k8 ?g1 ?g2 ?g3 ?g4 ?g5 ?g6 ?g7 ?m1 ?m2 ?m3 ?m4 ?m5
    (case hq => kernel_rfl); (case hK => kernel_rfl)
    (case a1 => k_is); (case l1 => k_is); (case c1 => k_is); (case k1 => k_is)
    (case a2 => k_is); (case l2 => k_is); (case c2 => k_is); (case k2 => k_is)
    (case a3 => k_is); (case l3 => k_is); (case c3 => k_is); (case k3 => k_is)
    (case a4 => k_is); (case l4 => k_is); (case c4 => k_is); (case k4 => k_is)
    (case a5 => k_is); (case l5 => k_is); (case c5 => k_is); (case k5 => k_is)
    (case a6 => k_is); (case l6 => k_is); (case c6 => k_is); (case k6 => k_is)
    (case a7 => k_is); (case l7 => k_is); (case c7 => k_is); (case k7 => k_is)
    (case a8 => k_is); (case l8 => k_is); (case c8 => k_is); (case k8 => k_is)
    (case g1 => k_is); (case g2 => k_is); (case g3 => k_is); (case g4 => k_is); (case g5 => k_is); (case g6 => k_is); (case g7 => k_is); (case m1 => k_is); (case m2 => k_is); (case m3 => k_is); (case m4 => k_is); (case m5 => k_is)
  case S =>
    intro K cs H xs a hT hwi hask hx
    obtain ⟨c, ns, u⟩ := a
    cases hx with
    | cons h1 h2 =>
      cases h1
      cases h2 with
      | cons h3 h4 =>
        cases h4
        cases h3 with
        | lst hs ha =>
          have e := L2.ints_dw ns _ ha
          subst e
          have q : (Codec.inInt 0 4294967295 c && ((Codec.inLen 0 12 ns && ns.all (Codec.inInt 0 4294967295)) && true)) = true := hwi
          rw [Bool.and_eq_true, Bool.and_eq_true, Bool.and_eq_true] at q
          refine ⟨c, _, ns, rfl, hs, (Codec.inInt_iff.mp q.1).1, fun n hn => (Codec.inInt_iff.mp (List.all_eq_true.mp q.2.1.2 n hn)).1, (Codec.inNat_iff.mp q.2.1.1).2, hT, fun H' p hp => .lst (L2.SqL.of hp) (L2.dw_ints _)⟩
#print axioms PySem.Challenge.cw_truckfill_s02_first_fit_decreasing_holds
