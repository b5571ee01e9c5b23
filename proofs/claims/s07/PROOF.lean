import PyProof.Rows.All
import Wide.All
import OpenK.AllK
import Wide.FinOn
import Open.SpecLaws
import KE.OsGo
import KE.DatumOrd
import HandS.ForSpec
import HandS.Comp
import HandS.Conv
import HandS.Iter
import HandS.SortKw
import PySem.Challenge.RW_truckfill_s07_min_capacity
set_option Elab.async false
set_option maxRecDepth 100000
set_option maxHeartbeats 2000000
namespace TF
/-! ### the mirror of the loading -/
/-- the first truck with space, or the next new one -/
def fit (c : Nat) (ld : List Nat) (l : Nat) : Nat := (ld.findIdx? fun u => decide (u + l ≤ c)).getD ld.length
/-- the loads when a pallet is put there -/
def put (c : Nat) (ld : List Nat) (l : Nat) : List Nat := if fit c ld l = ld.length then ld ++ [l] else ld.set (fit c ld l) (ld.getD (fit c ld l) 0 + l)
/-- one turn of the loading: the loads, the assignment -/
def turn (c : Nat) (ls : List Nat) (s : List Nat × List Nat) (p : Nat) : List Nat × List Nat := (put c s.1 (ls.getD p 0), s.2.set p (fit c s.1 (ls.getD p 0)))
def run (c : Nat) (ls order : List Nat) : List Nat × List Nat := order.foldl (turn c ls) ([], List.replicate ls.length 0)
/-- what the loading hands back -/
def loaded (c : Nat) (ls order : List Nat) : List Nat := (run c ls order).1.length :: (run c ls order).2

theorem fit_le (c : Nat) (ld : List Nat) (l : Nat) : fit c ld l ≤ ld.length := by
  unfold fit
  cases e : ld.findIdx? fun u => decide (u + l ≤ c) with
  | none => exact Nat.le_refl _
  | some i =>
    obtain ⟨h, _⟩ := List.findIdx?_eq_some_iff_getElem.mp e
    exact Nat.le_of_lt h
theorem put_len (c : Nat) (ld : List Nat) (l : Nat) : (put c ld l).length = if fit c ld l = ld.length then ld.length + 1 else ld.length := by
  unfold put
  split
  · simp
  · simp
/-- the specification, one pallet at a time -/
theorem ff_cons (c : Nat) (ld : List Nat) (l : Nat) (r : List Nat) : Kbe6.firstFitFrom c ld (l :: r) = fit c ld l :: Kbe6.firstFitFrom c (put c ld l) r := by
  rw [Kbe6.firstFitFrom]
  unfold put fit
  cases e : ld.findIdx? fun u => decide (u + l ≤ c) with
  | none => simp
  | some i =>
    obtain ⟨h, _⟩ := List.findIdx?_eq_some_iff_getElem.mp e
    have h' : i ≠ ld.length := Nat.ne_of_lt h
    simp [h']
theorem ff_len (c : Nat) : ∀ (xs ld : List Nat), (Kbe6.firstFitFrom c ld xs).length = xs.length
  | [], _ => rfl
  | x :: r, ld => by
    rw [ff_cons, List.length_cons, ff_len c r, List.length_cons]
/-- the greatest truck used and the number of loads -/
theorem ff_max (c : Nat) : ∀ (xs ld : List Nat) (m : Nat), ld.length = m + 1 → (Kbe6.firstFitFrom c ld xs).foldl max m + 1 = (xs.foldl (put c) ld).length
  | [], ld, m, h => h.symm
  | x :: r, ld, m, h => by
    rw [ff_cons, List.foldl_cons, List.foldl_cons]
    have hl := fit_le c ld x
    have hp := put_len c ld x
    by_cases e : fit c ld x = ld.length
    · rw [if_pos e] at hp
      have em : max m (fit c ld x) = m + 1 := by omega
      rw [em]
      exact ff_max c r _ _ (by omega)
    · rw [if_neg e] at hp
      have em : max m (fit c ld x) = m := by omega
      rw [em]
      exact ff_max c r _ _ (by omega)
theorem ff_count (c : Nat) (xs : List Nat) : Kbe6.truckCount (Kbe6.firstFit c xs) = (xs.foldl (put c) []).length := by
  unfold Kbe6.truckCount Kbe6.firstFit
  cases xs with
  | nil => rfl
  | cons x r =>
    rw [ff_cons]
    have f0 : fit c [] x = 0 := rfl
    have p0 : put c [] x = [x] := rfl
    rw [f0, p0]
    show List.foldl max (max 0 0) _ + 1 = _
    exact ff_max c r [x] 0 rfl
/-! ### lists of naturals: the greatest -/
theorem le_max : ∀ (l : List Nat) (a : Nat), a ≤ l.foldl max a ∧ ∀ x ∈ l, x ≤ l.foldl max a
  | [], a => ⟨Nat.le_refl _, fun x h => absurd h (by simp)⟩
  | y :: r, a => by
    obtain ⟨h1, h2⟩ := le_max r (max a y)
    rw [List.foldl_cons]
    refine ⟨by omega, fun x hx => ?_⟩
    rcases List.mem_cons.mp hx with e | m
    · omega
    · exact h2 x m
theorem max_mem : ∀ (l : List Nat) (a : Nat), l.foldl max a = a ∨ l.foldl max a ∈ l
  | [], a => .inl rfl
  | y :: r, a => by
    rw [List.foldl_cons]
    rcases max_mem r (max a y) with e | m
    · rw [e]
      by_cases h : a ≤ y
      · right
        rw [Nat.max_eq_right h]
        exact List.mem_cons_self ..
      · left
        omega
    · exact .inr (List.mem_cons_of_mem _ m)
theorem max_same {l k : List Nat} (h : ∀ x, x ∈ l ↔ x ∈ k) : l.foldl max 0 = k.foldl max 0 := by
  have a := le_max l 0
  have b := le_max k 0
  have h1 : l.foldl max 0 ≤ k.foldl max 0 := by
    rcases max_mem l 0 with e | m
    · omega
    · exact b.2 _ ((h _).mp m)
  have h2 : k.foldl max 0 ≤ l.foldl max 0 := by
    rcases max_mem k 0 with e | m
    · omega
    · exact a.2 _ ((h _).mpr m)
  omega
theorem count_same {l k : List Nat} (h : ∀ x, x ∈ l ↔ x ∈ k) : Kbe6.truckCount l = Kbe6.truckCount k := by
  unfold Kbe6.truckCount
  cases l with
  | nil =>
    cases k with
    | nil => rfl
    | cons y r => exact absurd ((h y).mpr (List.mem_cons_self ..)) (by simp)
  | cons x q =>
    cases k with
    | nil => exact absurd ((h x).mp (List.mem_cons_self ..)) (by simp)
    | cons y r =>
      rw [max_same h]
      rfl
/-! ### the fold of the turns -/
theorem run_loads (c : Nat) (ls : List Nat) : ∀ (order : List Nat) (s : List Nat × List Nat), (order.foldl (turn c ls) s).1 = (order.map fun p => ls.getD p 0).foldl (put c) s.1
  | [], _ => rfl
  | p :: r, s => by
    rw [List.foldl_cons, List.map_cons, List.foldl_cons, run_loads c ls r]
    rfl
theorem run_len (c : Nat) (ls : List Nat) : ∀ (order : List Nat) (s : List Nat × List Nat), (order.foldl (turn c ls) s).2.length = s.2.length
  | [], _ => rfl
  | p :: r, s => by
    rw [List.foldl_cons, run_len c ls r]
    show (s.2.set p _).length = _
    exact List.length_set
/-- a place that no later turn writes -/
theorem run_skip (c : Nat) (ls : List Nat) : ∀ (order : List Nat) (s : List Nat × List Nat) (i : Nat), i ∉ order → (order.foldl (turn c ls) s).2[i]? = s.2[i]?
  | [], _, _, _ => rfl
  | p :: r, s, i, h => by
    rw [List.foldl_cons, run_skip c ls r _ i (fun z => h (List.mem_cons_of_mem _ z))]
    show (s.2.set p _)[i]? = _
    exact List.getElem?_set_ne (fun e => h (by rw [e]; exact List.mem_cons_self ..))
theorem run_at (c : Nat) (ls : List Nat) : ∀ (order : List Nat) (s : List Nat × List Nat) (k i : Nat), order.Nodup → order[k]? = some i → i < s.2.length → (order.foldl (turn c ls) s).2[i]? = (Kbe6.firstFitFrom c s.1 (order.map fun p => ls.getD p 0))[k]?
  | [], _, _, _, _, h, _ => by simp at h
  | p :: r, s, 0, i, hn, h, hi => by
    have e : p = i := Option.some.inj h
    subst e
    rw [List.foldl_cons, run_skip c ls r _ p (List.nodup_cons.mp hn).1, List.map_cons, ff_cons]
    show (s.2.set p _)[p]? = some _
    exact List.getElem?_set_self hi
  | p :: r, s, k + 1, i, hn, h, hi => by
    rw [List.foldl_cons, List.map_cons, ff_cons]
    show _ = (Kbe6.firstFitFrom c (put c s.1 (ls.getD p 0)) (r.map fun p => ls.getD p 0))[k]?
    refine run_at c ls r (turn c ls s p) k i (List.nodup_cons.mp hn).2 h ?_
    show i < (s.2.set p _).length
    rw [List.length_set]
    exact hi
/-- the assignment, pallet by pallet -/
theorem run_spec (c : Nat) (ls order : List Nat) (hp : order.Perm (List.range ls.length)) :
    (run c ls order).2 = (List.range ls.length).map fun i => (Kbe6.firstFit c (order.map fun p => ls.getD p 0)).getD ((order.findIdx? (· == i)).getD 0) 0 := by
  have hn : order.Nodup := hp.nodup_iff.mpr List.nodup_range
  have hl : order.length = ls.length := by rw [hp.length_eq, List.length_range]
  refine List.ext_getElem? fun i => ?_
  have len1 : (run c ls order).2.length = ls.length := by
    unfold run
    rw [run_len, List.length_replicate]
  by_cases hi : i < ls.length
  · have hm : i ∈ order := hp.mem_iff.mpr (List.mem_range.mpr hi)
    obtain ⟨k, hk, e⟩ : ∃ k, ∃ _ : k < order.length, order.findIdx? (· == i) = some k := by
      cases e : order.findIdx? (· == i) with
      | none =>
        have := List.findIdx?_eq_none_iff.mp e i hm
        simp at this
      | some k =>
        obtain ⟨h, _⟩ := List.findIdx?_eq_some_iff_getElem.mp e
        exact ⟨k, h, rfl⟩
    obtain ⟨_, h2, _⟩ := List.findIdx?_eq_some_iff_getElem.mp e
    have ek : order[k]? = some i := by
      rw [List.getElem?_eq_getElem hk]
      exact congrArg some (by simpa using h2)
    have q := run_at c ls order ([], List.replicate ls.length 0) k i hn ek (by rw [List.length_replicate]; exact hi)
    show (run c ls order).2[i]? = _
    rw [List.getElem?_map, List.getElem?_range hi]
    show _ = some ((Kbe6.firstFit c _).getD ((order.findIdx? (· == i)).getD 0) 0)
    rw [e]
    show _ = some ((Kbe6.firstFit c _).getD k 0)
    have hk2 : k < (Kbe6.firstFit c (order.map fun p => ls.getD p 0)).length := by
      unfold Kbe6.firstFit
      rw [ff_len, List.length_map]
      exact hk
    rw [List.getD_eq_getElem?_getD, List.getElem?_eq_getElem hk2, Option.getD_some, ← List.getElem?_eq_getElem hk2]
    exact q
  · rw [List.getElem?_eq_none (by omega), List.getElem?_eq_none (by rw [List.length_map, List.length_range]; omega)]
theorem run_count (c : Nat) (ls order : List Nat) (hp : order.Perm (List.range ls.length)) : Kbe6.truckCount (run c ls order).2 = (run c ls order).1.length := by
  have hn : order.Nodup := hp.nodup_iff.mpr List.nodup_range
  have hl : order.length = ls.length := by rw [hp.length_eq, List.length_range]
  have e1 : (run c ls order).1.length = Kbe6.truckCount (Kbe6.firstFit c (order.map fun p => ls.getD p 0)) := by
    rw [ff_count]
    unfold run
    rw [run_loads]
  rw [e1]
  have len1 : (run c ls order).2.length = ls.length := by
    unfold run
    rw [run_len, List.length_replicate]
  have at_ : ∀ k i, order[k]? = some i → (run c ls order).2[i]? = (Kbe6.firstFit c (order.map fun p => ls.getD p 0))[k]? := fun k i e =>
    run_at c ls order ([], List.replicate ls.length 0) k i hn e (by
      rw [List.length_replicate]
      exact List.mem_range.mp (hp.mem_iff.mp (List.mem_of_getElem? e)))
  refine count_same fun x => ⟨fun hx => ?_, fun hx => ?_⟩
  · obtain ⟨i, hi⟩ := List.getElem?_of_mem hx
    have hlt : i < ls.length := by
      obtain ⟨h, _⟩ := List.getElem?_eq_some_iff.mp hi
      omega
    obtain ⟨k, hk⟩ := List.getElem?_of_mem (hp.mem_iff.mpr (List.mem_range.mpr hlt))
    rw [at_ k i hk] at hi
    exact List.mem_of_getElem? hi
  · obtain ⟨k, hk⟩ := List.getElem?_of_mem hx
    have hlt : k < order.length := by
      obtain ⟨h, _⟩ := List.getElem?_eq_some_iff.mp hk
      unfold Kbe6.firstFit at h
      rw [ff_len, List.length_map] at h
      exact h
    have q := at_ k _ (List.getElem?_eq_getElem hlt)
    rw [hk] at q
    exact List.mem_of_getElem? q
/-- the loading in the order of the numbers -/
theorem run_first (c : Nat) (ls : List Nat) : (run c ls (List.range ls.length)).2 = Kbe6.firstFit c ls := by
  have e0 : (List.range ls.length).map (fun p => ls.getD p 0) = ls := by
    refine List.ext_getElem? fun i => ?_
    rw [List.getElem?_map]
    by_cases hi : i < ls.length
    · rw [List.getElem?_range hi, Option.map_some, List.getD_eq_getElem?_getD, List.getElem?_eq_getElem hi, Option.getD_some]
    · rw [List.getElem?_eq_none (by rw [List.length_range]; omega), List.getElem?_eq_none (by omega)]
      rfl
  refine List.ext_getElem? fun i => ?_
  have len1 : (run c ls (List.range ls.length)).2.length = ls.length := by
    unfold run
    rw [run_len, List.length_replicate]
  by_cases hi : i < ls.length
  · have q := run_at c ls (List.range ls.length) ([], List.replicate ls.length 0) i i List.nodup_range (List.getElem?_range hi) (by rw [List.length_replicate]; exact hi)
    rw [e0] at q
    exact q
  · have l2 : (Kbe6.firstFit c ls).length = ls.length := by
      unfold Kbe6.firstFit
      rw [ff_len]
    rw [List.getElem?_eq_none (by omega), List.getElem?_eq_none (by omega)]
/-! ### the errors -/
def okLen (n : Int) : Bool := decide (1 ≤ n) && decide (n ≤ 100)
def okLens (ns : List Int) : Bool := decide (ns.length ≤ 7) && ns.all okLen
def okCap (c : Int) : Bool := decide (1 ≤ c) && decide (c ≤ 100)
/-- the code of the error that is due, or 0 -/
def err (c : Int) (ns : List Int) : Int := if (okCap c && okLens ns) = true then (if (ns.any fun n => decide (c < n)) = true then -33 else 0) else -22
theorem toNat_len {n : Int} (h : 0 ≤ n) : (decide (1 ≤ n.toNat) && decide (n.toNat ≤ 100)) = okLen n := by
  unfold okLen
  congr 1
  · exact decide_eq_decide.mpr (by omega)
  · exact decide_eq_decide.mpr (by omega)
theorem valid_is {ns : List Int} (h : ∀ n ∈ ns, 0 ≤ n) : Kbe6.validLengths (ns.map Int.toNat) = okLens ns := by
  unfold Kbe6.validLengths okLens
  rw [List.length_map, List.all_map]
  congr 1
  induction ns with
  | nil => rfl
  | cons n r ih =>
    rw [List.all_cons, List.all_cons, ih fun x hx => h x (List.mem_cons_of_mem _ hx)]
    rw [← toNat_len (h n (List.mem_cons_self ..))]
    rfl
theorem any_is {c : Int} {ns : List Int} (hc : 0 ≤ c) (h : ∀ n ∈ ns, 0 ≤ n) : ((ns.map Int.toNat).any fun l => decide (c.toNat < l)) = ns.any fun n => decide (c < n) := by
  rw [List.any_map]
  induction ns with
  | nil => rfl
  | cons n r ih =>
    rw [List.any_cons, List.any_cons, ih fun x hx => h x (List.mem_cons_of_mem _ hx)]
    congr 1
    have := h n (List.mem_cons_self ..)
    exact decide_eq_decide.mpr (by omega)
/-- what is answered of a response -/
def answer (r : Kbe6.Response) : List Int := r.head :: r.tail
theorem req_is {c : Int} {ns : List Int} (hc : 0 ≤ c) (h : ∀ n ∈ ns, 0 ≤ n) (r : Kbe6.Response) :
    answer (Kbe6.requireCapacity c.toNat (ns.map Int.toNat) r) = if err c ns ≠ 0 then [err c ns] else answer r := by
  unfold Kbe6.requireCapacity err
  rw [valid_is h, any_is hc h]
  by_cases h1 : (okCap c && okLens ns) = true
  · rw [if_pos h1]
    obtain ⟨a, b⟩ := Bool.and_eq_true_iff.mp h1
    unfold okCap at a
    simp only [Bool.and_eq_true, decide_eq_true_eq] at a
    rw [if_neg (by rw [b]; intro z; rcases z with z | z | z; · cases z
                   · omega
                   · omega)]
    by_cases h2 : (ns.any fun n => decide (c < n)) = true
    · rw [if_pos h2, if_pos h2, if_pos (by decide)]
      rfl
    · rw [if_neg h2, if_neg h2, if_neg (by decide)]
  · rw [if_neg h1, if_pos (show (-22 : Int) ≠ 0 by decide)]
    rw [if_pos]
    · rfl
    · unfold okCap at h1
      by_cases hl : okLens ns = true
      · rw [hl] at h1
        simp only [Bool.and_true, Bool.and_eq_true, decide_eq_true_eq] at h1
        right
        omega
      · left
        simpa using hl
theorem err_zero {c : Int} {ns : List Int} (h : err c ns = 0) : (1 ≤ c ∧ c ≤ 100) ∧ ns.length ≤ 7 ∧ (∀ n ∈ ns, 1 ≤ n ∧ n ≤ 100) ∧ ∀ n ∈ ns, n ≤ c := by
  unfold err at h
  split at h
  · rename_i h1
    split at h
    · omega
    · rename_i h2
      unfold okCap okLens at h1
      simp only [Bool.and_eq_true, decide_eq_true_eq, List.all_eq_true] at h1
      simp only [Bool.not_eq_true, List.any_eq_false, decide_eq_true_eq] at h2
      refine ⟨h1.1, h1.2.1, fun n hn => ?_, fun n hn => ?_⟩
      · have q := h1.2.2 n hn
        unfold okLen at q
        simp only [Bool.and_eq_true, decide_eq_true_eq] at q
        exact q
      · have := h2 n hn
        omega
  · omega
/-- naturals as whole numbers -/
def asInts (l : List Nat) : List Int := l.map fun (x : Nat) => (x : Int)
theorem ints_back {ns : List Int} (h : ∀ n ∈ ns, 0 ≤ n) : ns = asInts (ns.map Int.toNat) := by
  unfold asInts
  rw [List.map_map]
  induction ns with
  | nil => rfl
  | cons n r ih =>
    rw [List.map_cons, ← ih fun x hx => h x (List.mem_cons_of_mem _ hx)]
    have := h n (List.mem_cons_self ..)
    show n :: r = ((n.toNat : Nat) : Int) :: r
    rw [Int.toNat_of_nonneg this]
theorem first_fit_is {c : Int} {ns : List Int} (hc : 0 ≤ c) (h : ∀ n ∈ ns, 0 ≤ n) :
    PyKbe6.first_fit c ns = if err c ns ≠ 0 then [err c ns] else asInts (loaded c.toNat (ns.map Int.toNat) (List.range ns.length)) := by
  show answer (Kbe6.requireCapacity c.toNat (ns.map Int.toNat) (Kbe6.encodeAssignment (Kbe6.firstFit c.toNat (ns.map Int.toNat)))) = _
  rw [req_is hc h]
  congr 1
  have e : ns.length = (ns.map Int.toNat).length := by rw [List.length_map]
  unfold loaded
  rw [e, ← run_count _ _ _ (List.Perm.refl _), run_first]
  rfl
theorem first_fit_decreasing_is {c : Int} {ns : List Int} (hc : 0 ≤ c) (h : ∀ n ∈ ns, 0 ≤ n) (order : List Nat) (ho : order = Kbe6.decreasingOrder (ns.map Int.toNat)) (hp : order.Perm (List.range ns.length)) :
    PyKbe6.first_fit_decreasing c ns = if err c ns ≠ 0 then [err c ns] else asInts (loaded c.toNat (ns.map Int.toNat) order) := by
  show answer (Kbe6.requireCapacity c.toNat (ns.map Int.toNat) (Kbe6.encodeAssignment (Kbe6.firstFitDecreasing c.toNat (ns.map Int.toNat)))) = _
  rw [req_is hc h]
  congr 1
  have e : ns.length = (ns.map Int.toNat).length := by rw [List.length_map]
  rw [e] at hp
  unfold loaded
  rw [← run_count _ _ _ hp, run_spec _ _ _ hp, ho]
  rfl
/-! ### sums -/
theorem sum_from : ∀ (l : List Nat) (a : Nat), l.foldl (· + ·) a = a + l.foldl (· + ·) 0
  | [], _ => rfl
  | x :: r, a => by
    rw [List.foldl_cons, List.foldl_cons, sum_from r (a + x), sum_from r (0 + x)]
    omega
theorem sumOf_cons (x : Nat) (l : List Nat) : Kbe6.sumOf (x :: l) = x + Kbe6.sumOf l := by
  unfold Kbe6.sumOf
  rw [List.foldl_cons, sum_from, Nat.zero_add]
end TF
namespace TF
open PySem PySem.Spec PyProof.Rows L2
/-! ### words over heaps and lists -/
theorem same_upd {H : Hp} {p : Addr} {o : HO} (free : H p = none) : Same H (upd H p o) := by
  intro b x there
  rw [upd_ne (ne_of_none there free)]
  exact there
/-- a list of naturals as values -/
abbrev vN (l : List Nat) : List V := (asInts l).map V.int
theorem vN_get {l : List Nat} {i : Nat} {x : Nat} (h : l[i]? = some x) : (vN l)[i]? = some (V.int (x : Int)) := by
  unfold vN asInts
  rw [List.getElem?_map, List.getElem?_map, h]
  rfl
theorem vN_len (l : List Nat) : (vN l).length = l.length := by
  unfold vN asInts
  rw [List.length_map, List.length_map]
theorem vN_set (l : List Nat) (i x : Nat) : (vN l).set i (V.int (x : Int)) = vN (l.set i x) := by
  unfold vN asInts
  rw [List.map_set, List.map_set]
theorem vN_app (l : List Nat) (x : Nat) : vN l ++ [V.int (x : Int)] = vN (l ++ [x]) := by
  unfold vN asInts
  rw [List.map_append, List.map_append]
  rfl
theorem vN_cons (l : List Nat) (x : Nat) : V.int (x : Int) :: vN l = vN (x :: l) := rfl
theorem int_at {ns : List Int} {i : Nat} {y : V} (h : (ns.map V.int)[i]? = some y) : ∃ z, ns[i]? = some z ∧ y = V.int z := by
  rw [List.getElem?_map] at h
  cases e : ns[i]? with
  | none =>
    rw [e] at h
    cases h
  | some z =>
    rw [e] at h
    exact ⟨z, rfl, (Option.some.inj h).symm⟩
theorem vN_at {l : List Nat} {i : Nat} {y : V} (h : (vN l)[i]? = some y) : ∃ z, l[i]? = some z ∧ y = V.int (z : Nat) := by
  obtain ⟨z, hz, rfl⟩ := int_at h
  unfold asInts at hz
  rw [List.getElem?_map] at hz
  cases e : l[i]? with
  | none =>
    rw [e] at hz
    cases hz
  | some x =>
    rw [e] at hz
    exact ⟨x, rfl, congrArg V.int (Option.some.inj hz).symm⟩
theorem ixN_nat {n j : Nat} (h : j < n) : ixN n (j : Int) = some j := by
  unfold ixN
  rw [if_pos (by omega), if_pos (by omega)]
  exact congrArg some (by omega)
theorem small {n : Nat} (h : n ≤ 100000) : n ≤ sizeLine := Nat.le_trans h (by decide)
theorem smallL {n : Nat} (h : n ≤ 100000) : n < sizeLine := Nat.lt_of_le_of_lt h (by decide)
/-- one item more -/
theorem take_more {α : Type} {l : List α} {i : Nat} {x : α} (h : l[i]? = some x) : l.take (i + 1) = l.take i ++ [x] := by
  rw [List.take_add_one, h]
  rfl
theorem getD_get {l : List Nat} {i : Nat} (h : i < l.length) : l[i]? = some (l.getD i 0) := by
  rw [List.getD_eq_getElem?_getD, List.getElem?_eq_getElem h]
  rfl
/-- the i-th statement of the program -/
def top (i : Nat) : Stmt := PySem.Challenge.pw_truckfill_s07_min_capacity.main.body.getD i (.Pass ⟨0, 0, 0, 0⟩)
/-! ### lengths_in_range -/
abbrev sLens : Stmt := top 8
theorem scLens : FnScope ["lengths", "length"] ["lengths"] (defScope sLens) := ⟨rfl, rfl, rfl, by decide +kernel, rfl, by decide +kernel, by decide +kernel⟩
def spLens (K : PySem.W.Frag) : Sp := fun vs H Q _ => ∃ (a : Addr) (ns : List Int), vs = [.ref a] ∧ SqL K H a (ns.map V.int) ∧ Q (.bl (okLens ns)) H
section
variable {K : PySem.W.Frag} {base : Heap} {mg : Str → Option Value} {P : Program} {w : World}
theorem ok_lens {f : Addr} {fd : FuncData} {t1 t2 : Tok} (F : Fun K "lengths_in_range" "lengths_in_range" sLens f fd) (gP : mg "MAX_PALLETS" = some (.int 7 t1)) (gM : mg "MAX_LENGTH" = some (.int 100 t2)) (ml : mg "len" = none) :
    FnOk P w K mg base CX0 1 f fd ["lengths"] (spLens K) := by
  refine F.ok scLens (fun vs H Q E h => ?_) (fun cdv A outer s H vs Q E hr h => ?_)
  · obtain ⟨a, ns, rfl, _⟩ := h
    rfl
  · obtain ⟨a, ns, rfl, hS, q⟩ := h
    refine ⟨_, pss_cons (ps_if (pt_cmpR op_gt (pe_callB call_len_seq (by rfl) ml PySem.boot_len (pa_cons (pv 0) pa_nil)) (pe_glob (v := .int 7) rfl gP ⟨_, rfl⟩) (nomark _)) (pss_one (ps_ret pe_bl)) pss_nil)
      (pss_cons (ps_for PassesOwn.never rfl (pi_list (pv 0)) (pg_name (i := 1) scLens.nd rfl (.inl rfl))
        (pss_one (ps_if (PW.pt (pw_or (pt_cmpR op_lt (pv 1) pe_int (nomark _)) (pw_or1 (pt_cmpR op_gt (pv 1) (pe_glob (v := .int 100) rfl gM ⟨_, rfl⟩) (nomark _))))) (pss_one (ps_ret pe_bl)) pss_nil)))
      (pss_one (ps_ret pe_bl))), ?_⟩
    refine ⟨.ref a, rfl, a, ns.map V.int, rfl, .inl hS, _, _, rfl, rfl, _, rfl, ite2 (fun e => ?_) (fun e => ?_)⟩
    · have e0 : (7 : Int) < ((ns.map V.int).length : Nat) := of_decide_eq_true e
      rw [List.length_map] at e0
      have e1 : okLens ns = false := by
        unfold okLens
        rw [decide_eq_false (by omega)]
        rfl
      rw [e1] at q
      exact q
    · have e0 : ¬ (7 : Int) < ((ns.map V.int).length : Nat) := fun z => e (decide_eq_true z)
      rw [List.length_map] at e0
      have e1 : okLens ns = ns.all okLen := by
        unfold okLens
        rw [decide_eq_true (by omega)]
        rfl
      rw [e1] at q
      refine ⟨.ref a, rfl, a, rfl, ⟨_, hS⟩, for_list (K := K) (a := a) (xs := ns.map V.int) (fun i σ H' => H' = H ∧ (∃ v : Option V, σ = [some (.ref a), v]) ∧ (ns.take i).all okLen = true)
        ⟨rfl, ⟨none, rfl⟩, rfl⟩ (fun i σ H' _ ⟨e, _, _⟩ => by rw [e]; exact hS) ?_ ?_⟩
      · rintro i y σ H' hi ⟨rfl, ⟨v, rfl⟩, hall⟩
        obtain ⟨z, hz, rfl⟩ := int_at hi
        have out : okLen z = false → Q (.bl false) H' := fun hb => by
          have e2 : ns.all okLen = false := by
            rw [List.all_eq_false]
            exact ⟨z, List.mem_of_getElem? hz, by rw [hb]; exact Bool.false_ne_true⟩
          rw [e2] at q
          exact q
        refine ⟨_, rfl, _, _, rfl, rfl, _, rfl, ite2 (fun e => ?_) (fun e => ?_)⟩
        · refine iteT (out ?_)
          have e0 : z < 1 := of_decide_eq_true e
          unfold okLen
          rw [decide_eq_false (by omega)]
          rfl
        · have e0 : ¬ z < 1 := fun w => e (decide_eq_true w)
          refine ⟨_, rfl, _, _, rfl, rfl, _, rfl, ite2 (fun e2 => ?_) (fun e2 => ?_)⟩
          · refine out ?_
            have e3 : (100 : Int) < z := of_decide_eq_true e2
            unfold okLen
            rw [decide_eq_false (show ¬ z ≤ 100 by omega), Bool.and_false]
          · have e3 : ¬ (100 : Int) < z := fun w => e2 (decide_eq_true w)
            refine ⟨rfl, ⟨_, rfl⟩, ?_⟩
            rw [take_more hz, List.all_append, hall, List.all_cons]
            unfold okLen
            rw [decide_eq_true (show 1 ≤ z by omega), decide_eq_true (show z ≤ 100 by omega)]
            rfl
      · rintro σ H' ⟨rfl, ⟨v, rfl⟩, hall⟩
        rw [List.length_map, List.take_length] at hall
        rw [hall] at q
        exact q
end
/-! ### trucks_with_space, loads_with_pallet -/
abbrev sSpc : Stmt := top 10
abbrev sWit : Stmt := top 11
theorem scSpc : FnScope ["capacity", "loads", "length", "trucks", "truck", "load"] ["capacity", "loads", "length"] (defScope sSpc) := ⟨rfl, rfl, rfl, by decide +kernel, rfl, by decide +kernel, by decide +kernel⟩
theorem scWit : FnScope ["loads", "truck", "length", "fuller"] ["loads", "truck", "length"] (defScope sWit) := ⟨rfl, rfl, rfl, by decide +kernel, rfl, by decide +kernel, by decide +kernel⟩
/-- the pallet fits on this truck -/
def fits (c : Nat) (ld : List Nat) (l : Nat) : Nat → Bool := fun t => decide (ld.getD t 0 + l ≤ c)
/-- the trucks on which the pallet fits, and the next new one -/
def space (c : Nat) (ld : List Nat) (l : Nat) : List Nat := (List.range ld.length).filter (fits c ld l) ++ [ld.length]
/-- the loads with the pallet on that truck -/
def into (ld : List Nat) (t l : Nat) : List Nat := if t = ld.length then ld ++ [l] else ld.set t (ld.getD t 0 + l)
def spSpc (K : PySem.W.Frag) : Sp := fun vs H Q _ => ∃ (c : Nat) (a : Addr) (ld : List Nat) (l : Nat), vs = [.int (c : Int), .ref a, .int (l : Int)] ∧ SqL K H a (vN ld) ∧ ld.length ≤ 1000 ∧
  ∀ H' p, Same H H' → H p = none → H' p = some (.lst (vN (space c ld l))) → Q (.ref p) H'
def spWit (K : PySem.W.Frag) : Sp := fun vs H Q _ => ∃ (a : Addr) (ld : List Nat) (t l : Nat), vs = [.ref a, .int (t : Int), .int (l : Int)] ∧ SqL K H a (vN ld) ∧ ld.length ≤ 1000 ∧ t ≤ ld.length ∧
  ∀ H' p, Same H H' → H p = none → H' p = some (.lst (vN (into ld t l))) → Q (.ref p) H'
theorem vN_join (l k : List Nat) : vN l ++ vN k = vN (l ++ k) := by
  unfold vN asInts
  rw [List.map_append, List.map_append]
theorem into_new {ld : List Nat} {t l : Nat} (h : t = ld.length) : (ld ++ [0]).set t ((ld ++ [0]).getD t 0 + l) = into ld t l := by
  unfold into
  rw [if_pos h, h, List.set_append_right _ _ (Nat.le_refl _), Nat.sub_self, List.getD_eq_getElem?_getD, List.getElem?_append_right (Nat.le_refl _), Nat.sub_self]
  show ld ++ [0 + l] = ld ++ [l]
  rw [Nat.zero_add]
theorem into_old {ld : List Nat} {t l : Nat} (h : ¬ t = ld.length) : ld.set t (ld.getD t 0 + l) = into ld t l := by
  unfold into
  rw [if_neg h]
theorem into_len (ld : List Nat) (t l : Nat) : (into ld t l).length = if t = ld.length then ld.length + 1 else ld.length := by
  unfold into
  split
  · simp
  · simp
section
variable {K : PySem.W.Frag} {base : Heap} {mg : Str → Option Value} {P : Program} {w : World}
theorem ok_spc {f : Addr} {fd : FuncData} (F : Fun K "trucks_with_space" "trucks_with_space" sSpc f fd) (me : mg "enumerate" = none) (ml : mg "len" = none) : FnOk P w K mg base CX0 1 f fd ["capacity", "loads", "length"] (spSpc K) := by
  refine F.ok scSpc (fun vs H Q E h => ?_) (fun cdv A outer s H vs Q E hr h => ?_)
  · obtain ⟨c, a, ld, l, rfl, _⟩ := h
    rfl
  · obtain ⟨c, a, ld, l, rfl, hS, hn, q⟩ := h
    refine ⟨_, pss_cons (ps_setLc (i := 3) (own := [("truck", 4), ("load", 5)]) (g := gTup K 2 (gCons (gName 4) (gCons (gName 5) gNil))) rfl scSpc.nd rfl rfl (sw_true rfl rfl rfl (by decide +kernel)) (pi_enum (by rfl) me (pa_cons (pv 1) pa_nil))
          (blkOk_by (own := [("truck", 4), ("load", 5)]) (N := ["capacity", "loads", "length", "trucks", "truck", "load"]) (sc := defScope sSpc) (by decide +kernel))
          (fun _ _ _ _ _ => pg_tup rfl (pgs_cons (pg_name (i := 4) scSpc.nd rfl (.inl rfl)) (pgs_cons (pg_name (i := 5) scSpc.nd rfl (.inl rfl)) pgs_nil)))
          (fun _ _ _ _ _ => pts_one (pt_cmpR op_le (pe_op op_add (pv 5) (pv 2)) (pv 0) (nomark _))) (fun _ _ _ _ _ => pv 4))
      (pss_one (ps_ret (pe_op op_cat (pv 3) (pe_lst (pa_cons (pe_callB call_len_seq (by rfl) ml PySem.boot_len (pa_cons (pv 1) pa_nil)) pa_nil))))), ?_⟩
    refine ⟨.ref a, rfl, a, _, rfl, hS, fun D nD => ⟨fun i m G => i + m = ld.length ∧ Same H G ∧ G D = some (.lst (vN ((List.range i).filter (fits c ld l)))), ⟨ld.length, Nat.zero_add _, same_upd nD, upd_same⟩, ?_⟩⟩
    rintro i m G ⟨em, sm, eD⟩
    have hA : SqL K G a (vN ld) := sm.seq hS
    by_cases hi : i < ld.length
    · have g1 := getD_get hi
      refine .inr ⟨⟨_, _, hA, vN_get g1⟩, fun G' => Same H G' ∧ G' D = some (.lst (vN ((List.range (i + 1)).filter (fits c ld l)))), fun G' ⟨sm', e'⟩ => ⟨m - 1, by omega, by omega, sm', e'⟩, fun x G' hy => ?_⟩
      obtain ⟨T, x2, rfl, nT, rfl, f1⟩ := hy
      have ex : x2 = .int ((ld.getD i 0 : Nat) : Int) := Option.some.inj ((f1 _ hA).symm.trans (vN_get g1))
      subst ex
      have smT : Same H (upd G T (.tup [.int (i : Nat), .int ((ld.getD i 0 : Nat) : Int)])) := sm.trans (same_upd nT)
      have eT : (upd G T (.tup [.int (i : Nat), .int ((ld.getD i 0 : Nat) : Int)])) D = some (.lst (vN ((List.range i).filter (fits c ld l)))) := same_upd nT _ _ eD
      refine ⟨T, _, rfl, .inl (.inl upd_same), rfl, _, _, rfl, _, [], rfl, rfl, ?_⟩
      refine ⟨rfl, _, rfl, _, rfl, _, _, rfl, rfl, _, rfl, _, _, rfl, rfl, _, rfl, ?_⟩
      have er : (List.range (i + 1)).filter (fits c ld l) = (List.range i).filter (fits c ld l) ++ (if fits c ld l i = true then [i] else []) := by
        rw [List.range_succ, List.filter_append, List.filter_cons, List.filter_nil]
      rw [show decide (((ld.getD i 0 : Nat) : Int) + (l : Int) ≤ (c : Int)) = fits c ld l i from decide_eq_decide.mpr (by omega)]
      rw [er]
      cases e : fits c ld l i with
      | true =>
        rw [if_pos rfl]
        refine iteT ⟨_, rfl, _, eT, smallL ?_, ?_, ?_⟩
        · rw [vN_len]
          refine Nat.le_trans (List.length_filter_le ..) ?_
          rw [List.length_range]
          omega
        · intro b o z
          rw [upd_ne (ne_of_none z nD)]
          exact smT b o z
        · rw [upd_same, vN_app]
      | false =>
        rw [if_neg Bool.false_ne_true, List.append_nil]
        exact iteF ⟨smT, eT⟩
    · refine .inl ⟨⟨_, hA, by rw [vN_len]; omega⟩, ?_⟩
      have ei : i = ld.length := by omega
      subst ei
      refine ⟨.ref D, rfl, .ref a, rfl, a, _, rfl, .inl hA, small (by show 1 ≤ _; omega), fun p1 n1 => ?_⟩
      have e1 := same_upd (o := .lst [V.int ((vN ld).length : Nat)]) n1 _ _ eD
      refine ⟨_, _, _, _, rfl, rfl, e1, upd_same, small ?_, fun p2 n2 => ?_⟩
      · rw [vN_len]
        have z := List.length_filter_le (fits c ld l) (List.range ld.length)
        rw [List.length_range] at z
        show _ + 1 ≤ _
        omega
      · have n2' : H p2 = none := (sm.trans (same_upd n1)).free n2
        refine q _ p2 (sm.trans ((same_upd n1).trans (same_upd n2))) n2' ?_
        rw [upd_same, vN_len]
        exact congrArg (fun z => some (HO.lst z)) (vN_app _ _)
theorem ok_wit {f : Addr} {fd : FuncData} (F : Fun K "loads_with_pallet" "loads_with_pallet" sWit f fd) (mli : mg "list" = none) (ml : mg "len" = none) : FnOk P w K mg base CX0 1 f fd ["loads", "truck", "length"] (spWit K) := by
  refine F.ok scWit (fun vs H Q E h => ?_) (fun cdv A outer s H vs Q E hr h => ?_)
  · obtain ⟨a, ld, t, l, rfl, _⟩ := h
    rfl
  · obtain ⟨a, ld, t, l, rfl, hS, hn, ht, q⟩ := h
    refine ⟨_, pss_cons (ps_set (i := 3) scWit.nd rfl (.inl rfl) (pe_callTy call_list_of (by rfl) mli (by decide +kernel) (pa_cons (pv 0) pa_nil)))
      (pss_cons (ps_if (pt_cmpR op_eq (pv 1) (pe_callB call_len_seq (by rfl) ml PySem.boot_len (pa_cons (pv 3) pa_nil)) (nomark _))
          (pss_one (ps_expr (pe_bm PySem.F.plainAttrs_list PySem.F.slot_list_append PySem.F.type_list_append mt_append (pv 3) (pa_cons pe_int pa_nil)))) pss_nil)
      (pss_cons (ps_asg (pe_op op_add (pe_ix ix_list (pv 3) (pv 1) (fun _ _ => rfl)) (pv 2)) (pg_sub (pv 3) (pv 1) set_list))
      (pss_one (ps_ret (pv 3))))), ?_⟩
    refine ⟨.ref a, rfl, a, _, rfl, .inl hS, fun p np => ?_⟩
    have sm : Same H (upd H p (.lst (vN ld))) := same_upd np
    have last : ∀ (G : Hp) (k : List Nat), (∀ b o, H b = some o → G b = some o) → G p = some (.lst (vN k)) → t < k.length → k.set t (k.getD t 0 + l) = into ld t l → 
        Q (.ref p) (upd G p (.lst ((vN k).set t (.int (((k.getD t 0 : Nat) : Int) + (l : Int)))))) := fun G k sG eG hk hi => by
      refine q _ p (fun b o z => ?_) np ?_
      · rw [upd_ne (ne_of_none z np)]
        exact sG b o z
      · rw [upd_same]
        refine congrArg (fun z => some (HO.lst z)) ?_
        have := vN_set k t (k.getD t 0 + l)
        rw [hi] at this
        exact this
    refine ⟨_, rfl, .ref p, rfl, p, _, rfl, .inl (.inl (.inl upd_same)), rfl, _, rfl, ite2 (fun e => ?_) (fun e => ?_)⟩
    · have e0 : t = ld.length := by
        have z : V.int (t : Int) = V.int ((vN ld).length : Nat) := of_decide_eq_true e
        rw [vN_len] at z
        exact Int.ofNat.inj (V.int.inj z)
      refine ⟨.ref p, rfl, .inl ⟨rfl, _, .inl (.inl upd_same)⟩, p, _, _, rfl, rfl, upd_same, smallL (by rw [vN_len]; omega), ?_⟩
      have e5 : (upd (upd H p (.lst (vN ld))) p (.lst (vN ld ++ [V.int 0]))) p = some (.lst (vN (ld ++ [0]))) := by
        rw [upd_same]
        exact congrArg (fun z => some (HO.lst z)) (vN_app ld 0)
      have s5 : ∀ b o, H b = some o → (upd (upd H p (.lst (vN ld))) p (.lst (vN ld ++ [V.int 0]))) b = some o := fun b o z => by
        rw [upd_ne (ne_of_none z np)]
        exact sm b o z
      have hlt : t < (ld ++ [0]).length := by
        rw [List.length_append, e0]
        exact Nat.lt_succ_self _
      generalize upd (upd H p (.lst (vN ld))) p (.lst (vN ld ++ [V.int 0])) = G at s5 e5
      refine ⟨.ref p, rfl, _, rfl, p, _, _, _, rfl, rfl, .inl (.inl e5), atI_nat (vN_get (getD_get hlt)), _, rfl, _, _, rfl, rfl, .ref p, rfl, _, rfl, p, _, _, _, rfl, rfl, e5, ixN_nat (by rw [vN_len]; exact hlt), ?_⟩
      exact ⟨_, rfl, last G _ s5 e5 hlt (into_new e0)⟩
    · have e0 : ¬ t = ld.length := fun z => e (decide_eq_true (by rw [vN_len, z]))
      have hlt : t < ld.length := by omega
      have e5 : (upd H p (.lst (vN ld))) p = some (.lst (vN ld)) := upd_same
      generalize upd H p (.lst (vN ld)) = G at sm e5
      refine ⟨.ref p, rfl, _, rfl, p, _, _, _, rfl, rfl, .inl (.inl e5), atI_nat (vN_get (getD_get hlt)), _, rfl, _, _, rfl, rfl, .ref p, rfl, _, rfl, p, _, _, _, rfl, rfl, e5, ixN_nat (by rw [vN_len]; exact hlt), ?_⟩
      exact ⟨_, rfl, last G _ sm e5 hlt (into_old e0)⟩
end
/-! ### the loads of an assignment -/
theorem load_cons (l : Nat) (r : List Nat) (t : Nat) (a : List Nat) (k : Nat) : Kbe6.loadOf (l :: r) (t :: a) k = (if t = k then l else 0) + Kbe6.loadOf r a k := by
  unfold Kbe6.loadOf
  rw [List.zip_cons_cons, List.filterMap_cons]
  by_cases e : t = k
  · rw [if_pos e, if_pos e, sumOf_cons]
  · rw [if_neg e, if_neg e, Nat.zero_add]
theorem load_none : ∀ (ls a : List Nat) (k : Nat), k ∉ a → Kbe6.loadOf ls a k = 0
  | [], _, _, _ => rfl
  | _ :: _, [], _, _ => rfl
  | l :: r, t :: a, k, h => by
    rw [load_cons, if_neg (fun e => h (by rw [e]; exact List.mem_cons_self ..)), load_none r a k fun z => h (List.mem_cons_of_mem _ z)]
theorem lt_count {a : List Nat} {t : Nat} (h : t ∈ a) : t < Kbe6.truckCount a := by
  unfold Kbe6.truckCount
  cases a with
  | nil => cases h
  | cons x r =>
    have := (le_max (x :: r) 0).2 t h
    show t < List.foldl max 0 (x :: r) + 1
    omega
/-! ### all loadings -/
/-- the loadings of further pallets, when these loads are on the trucks: the loads in the end, and the trucks -/
def gen (c : Nat) : List Nat → List Nat → List (List Nat × List Nat)
  | ld, [] => [(ld, [])]
  | ld, l :: r => (space c ld l).flatMap fun t => (gen c (into ld t l) r).map fun d => (d.1, t :: d.2)
/-- one pallet more -/
def grow (c : Nat) (S : List (List Nat × List Nat)) (l : Nat) : List (List Nat × List Nat) := S.flatMap fun s => (space c s.1 l).map fun t => (into s.1 t l, s.2 ++ [t])
def loadings (c : Nat) (ls : List Nat) : List (List Nat × List Nat) := ls.foldl (grow c) [([], [])]
/-- these pallets can go where the assignment says -/
def feas (c : Nat) : List Nat → List Nat → List Nat → Bool
  | ld, l :: r, t :: a => fits c ld l t && feas c (into ld t l) r a
  | _, _, _ => true
theorem grow_gen (c : Nat) : ∀ (ls : List Nat) (S : List (List Nat × List Nat)), ls.foldl (grow c) S = S.flatMap fun s => (gen c s.1 ls).map fun d => (d.1, s.2 ++ d.2)
  | [], S => by
    rw [List.foldl_nil]
    have e : (fun s : List Nat × List Nat => (gen c s.1 []).map fun d => (d.1, s.2 ++ d.2)) = fun s => [s] := by
      funext s
      show [(s.1, s.2 ++ [])] = [s]
      rw [List.append_nil]
    rw [e]
    exact (List.flatMap_singleton' S).symm
  | l :: r, S => by
    rw [List.foldl_cons, grow_gen c r]
    unfold grow
    rw [List.flatMap_assoc]
    congr 1
    funext s
    show List.flatMap _ (List.map _ _) = List.map _ (List.flatMap _ _)
    rw [List.map_flatMap, List.flatMap_map]
    congr 1
    funext t
    rw [List.map_map]
    refine List.map_congr_left fun d _ => ?_
    show (d.1, (s.2 ++ [t]) ++ d.2) = (d.1, s.2 ++ t :: d.2)
    rw [List.append_assoc]
    rfl
theorem loadings_gen (c : Nat) (ls : List Nat) : loadings c ls = gen c [] ls := by
  unfold loadings
  rw [grow_gen]
  show List.map _ _ ++ [] = _
  rw [List.append_nil]
  exact List.map_id' _
/-- a new truck takes any pallet that is no longer than it -/
theorem space_is {c : Nat} (ld : List Nat) {l : Nat} (h : l ≤ c) : space c ld l = (List.range (ld.length + 1)).filter (fits c ld l) := by
  unfold space
  rw [List.range_succ, List.filter_append]
  congr 1
  have e : fits c ld l ld.length = true := by
    unfold fits
    rw [List.getD_eq_getElem?_getD, List.getElem?_eq_none (Nat.le_refl _)]
    exact decide_eq_true (by show 0 + l ≤ c; omega)
  rw [List.filter_cons, if_pos e]
  rfl
theorem flat_filter {α β : Type} (p : α → Bool) (f : α → List β) : ∀ l : List α, (l.filter p).flatMap f = l.flatMap fun x => if p x = true then f x else []
  | [] => rfl
  | x :: r => by
    rw [List.filter_cons, List.flatMap_cons, ← flat_filter p f r]
    split
    · rw [List.flatMap_cons]
    · rfl
theorem gen_canon (c : Nat) : ∀ (ls ld : List Nat), (∀ l ∈ ls, l ≤ c) → (gen c ld ls).map Prod.snd = (Kbe6.canonicalAssignments ls.length ld.length).filter (feas c ld ls)
  | [], ld, _ => rfl
  | l :: r, ld, h => by
    show List.map Prod.snd (List.flatMap _ _) = List.filter _ (List.flatMap _ _)
    rw [List.map_flatMap, space_is ld (h l (List.mem_cons_self ..)), flat_filter, List.filter_flatMap]
    congr 1
    funext t
    rw [List.map_map, List.filter_map]
    have ih := gen_canon c r (into ld t l) fun x hx => h x (List.mem_cons_of_mem _ hx)
    rw [into_len] at ih
    cases e : fits c ld l t with
    | true =>
      rw [if_pos rfl]
      have e1 : (feas c ld (l :: r) ∘ fun a => t :: a) = feas c (into ld t l) r := by
        funext a
        show (fits c ld l t && feas c (into ld t l) r a) = _
        rw [e, Bool.true_and]
      rw [e1, ← ih, List.map_map]
      rfl
    | false =>
      rw [if_neg Bool.false_ne_true]
      have e1 : (feas c ld (l :: r) ∘ fun a => t :: a) = fun _ => false := by
        funext a
        show (fits c ld l t && feas c (into ld t l) r a) = _
        rw [e, Bool.false_and]
      rw [e1, List.filter_eq_nil_iff.mpr (fun _ _ => Bool.false_ne_true)]
      rfl
/-! ### what such an assignment keeps -/
theorem into_at {ld : List Nat} {t : Nat} (l : Nat) (h : t ≤ ld.length) (k : Nat) : (into ld t l).getD k 0 = ld.getD k 0 + if t = k then l else 0 := by
  unfold into
  by_cases e : t = ld.length
  · rw [if_pos e]
    by_cases k1 : k < ld.length
    · rw [List.getD_eq_getElem?_getD, List.getElem?_append_left k1, if_neg (by omega)]
      rw [List.getD_eq_getElem?_getD]
      rfl
    · rw [List.getD_eq_getElem?_getD, List.getD_eq_getElem?_getD, List.getElem?_append_right (by omega), List.getElem?_eq_none (l := ld) (by omega)]
      by_cases k2 : t = k
      · rw [if_pos k2, show k - ld.length = 0 by omega]
        show l = 0 + l
        rw [Nat.zero_add]
      · rw [if_neg k2, List.getElem?_eq_none (by show 1 ≤ _; omega)]
        rfl
  · rw [if_neg e]
    by_cases k2 : t = k
    · subst k2
      rw [if_pos rfl, List.getD_eq_getElem?_getD, List.getElem?_set_self (by omega)]
      rfl
    · rw [if_neg k2, List.getD_eq_getElem?_getD, List.getElem?_set_ne k2, List.getD_eq_getElem?_getD]
      rfl
theorem canon_cons {n u : Nat} {A : List Nat} (h : A ∈ Kbe6.canonicalAssignments (n + 1) u) : ∃ t a, A = t :: a ∧ t ≤ u ∧ a ∈ Kbe6.canonicalAssignments n (if t = u then u + 1 else u) := by
  have h' : A ∈ (List.range (u + 1)).flatMap fun truck => (Kbe6.canonicalAssignments n (if truck = u then u + 1 else u)).map fun assignment => truck :: assignment := h
  obtain ⟨t, h1, h2⟩ := List.mem_flatMap.mp h'
  obtain ⟨a, h3, rfl⟩ := List.mem_map.mp h2
  have := List.mem_range.mp h1
  exact ⟨t, a, rfl, by omega, h3⟩
theorem feas_is (c : Nat) : ∀ (ls ld A : List Nat), A ∈ Kbe6.canonicalAssignments ls.length ld.length → (∀ k, ld.getD k 0 ≤ c) → (feas c ld ls A = true ↔ ∀ k, ld.getD k 0 + Kbe6.loadOf ls A k ≤ c)
  | [], ld, A, _, hl => by
    have e : feas c ld [] A = true := rfl
    rw [e]
    exact ⟨fun _ k => hl k, fun _ => rfl⟩
  | l :: r, ld, A, hA, hl => by
    obtain ⟨t, a, rfl, ht, ha⟩ := canon_cons hA
    have sum : ∀ k, ld.getD k 0 + Kbe6.loadOf (l :: r) (t :: a) k = (into ld t l).getD k 0 + Kbe6.loadOf r a k := fun k => by
      rw [load_cons, into_at l ht]
      omega
    have ec : feas c ld (l :: r) (t :: a) = (fits c ld l t && feas c (into ld t l) r a) := rfl
    rw [ec]
    cases e : fits c ld l t with
    | true =>
      have e1 : ld.getD t 0 + l ≤ c := of_decide_eq_true e
      rw [Bool.true_and, feas_is c r (into ld t l) a (by rw [into_len]; exact ha) (fun k => by
        rw [into_at l ht]
        by_cases z : t = k
        · rw [if_pos z, ← z]
          exact e1
        · rw [if_neg z]
          exact hl k)]
      exact ⟨fun h k => by rw [sum]; exact h k, fun h k => by rw [← sum]; exact h k⟩
    | false =>
      have e1 : ¬ ld.getD t 0 + l ≤ c := of_decide_eq_false e
      rw [Bool.false_and]
      refine ⟨fun z => (Bool.false_ne_true z).elim, fun h => ?_⟩
      have h2 := h t
      rw [load_cons, if_pos rfl] at h2
      omega
theorem feasible_is {c : Nat} {ls A : List Nat} (h : A ∈ Kbe6.canonicalAssignments ls.length 0) : Kbe6.isFeasible c ls A = feas c [] ls A := by
  refine Bool.eq_iff_iff.mpr ?_
  rw [feas_is c ls [] A h (fun k => Nat.zero_le _)]
  unfold Kbe6.isFeasible
  rw [List.all_eq_true]
  refine ⟨fun z k => ?_, fun z k hk => decide_eq_true ?_⟩
  · show 0 + _ ≤ c
    by_cases m : k ∈ A
    · have := of_decide_eq_true (z k (List.mem_range.mpr (lt_count m)))
      omega
    · rw [load_none ls A k m]
      omega
  · have h2 : 0 + Kbe6.loadOf ls A k ≤ c := z k
    omega
/-- the feasible canonical assignments, in their order -/
def good (c : Nat) (ls : List Nat) : List (List Nat) := (Kbe6.canonicalAssignments ls.length 0).filter (Kbe6.isFeasible c ls)
theorem good_is {c : Nat} {ls : List Nat} (h : ∀ l ∈ ls, l ≤ c) : (loadings c ls).map Prod.snd = good c ls := by
  rw [loadings_gen, gen_canon c ls [] h]
  exact List.filter_congr fun A hA => (feasible_is hA).symm
/-! ### how many trucks -/
def up (m t : Nat) : Nat := max m (t + 1)
theorem gen_count (c : Nat) : ∀ (ls ld : List Nat) (d : List Nat × List Nat), d ∈ gen c ld ls → d.1.length = d.2.foldl up ld.length
  | [], ld, d, h => by
    rw [List.mem_singleton.mp (show d ∈ [(ld, [])] from h)]
    rfl
  | l :: r, ld, d, h => by
    have h' : d ∈ (space c ld l).flatMap fun t => (gen c (into ld t l) r).map fun d => (d.1, t :: d.2) := h
    obtain ⟨t, h1, h2⟩ := List.mem_flatMap.mp h'
    obtain ⟨e, h3, rfl⟩ := List.mem_map.mp h2
    have q := gen_count c r (into ld t l) e h3
    have ht : t ≤ ld.length := by
      unfold space at h1
      rcases List.mem_append.mp h1 with m | m
      · exact Nat.le_of_lt (List.mem_range.mp (List.mem_filter.mp m).1)
      · exact Nat.le_of_eq (List.mem_singleton.mp m)
    show e.1.length = (t :: e.2).foldl up ld.length
    rw [q, List.foldl_cons, into_len]
    congr 1
    unfold up
    split <;> omega
theorem up_fold : ∀ (a : List Nat) (m : Nat), a.foldl up (m + 1) = a.foldl max m + 1
  | [], _ => rfl
  | t :: a, m => by
    rw [List.foldl_cons, List.foldl_cons, ← up_fold a]
    congr 1
    unfold up
    omega
theorem count_up (a : List Nat) : Kbe6.truckCount a = a.foldl up 0 := by
  unfold Kbe6.truckCount
  cases a with
  | nil => rfl
  | cons t a =>
    show List.foldl max 0 (t :: a) + 1 = _
    have e : up 0 t = max 0 t + 1 := by
      unfold up
      omega
    rw [List.foldl_cons, List.foldl_cons, ← up_fold a, e]
def key (A : List Nat) : List Nat := Kbe6.truckCount A :: A
theorem keys_are {c : Nat} {ls : List Nat} (h : ∀ l ∈ ls, l ≤ c) : (loadings c ls).map (fun d => d.1.length :: d.2) = (good c ls).map key := by
  rw [← good_is h, List.map_map]
  refine List.map_congr_left fun d hd => ?_
  rw [loadings_gen] at hd
  show _ = Kbe6.truckCount d.2 :: d.2
  rw [count_up, gen_count c ls [] d hd]
  rfl
/-! ### the order of the assignments -/
/-- the first difference decides -/
def lexN : List Nat → List Nat → Bool
  | [], [] => false
  | [], _ :: _ => true
  | _ :: _, [] => false
  | x :: xs, y :: ys => if x = y then lexN xs ys else decide (x < y)
theorem lexN_asym : ∀ a b : List Nat, lexN a b = true → lexN b a = false
  | [], [], _ => rfl
  | [], _ :: _, _ => rfl
  | _ :: _, [], h => by cases h
  | x :: xs, y :: ys, h => by
    unfold lexN at h ⊢
    by_cases e : x = y
    · rw [if_pos e] at h
      rw [if_pos e.symm]
      exact lexN_asym xs ys h
    · rw [if_neg e] at h
      rw [if_neg (fun z => e z.symm)]
      have := of_decide_eq_true h
      exact decide_eq_false (by omega)
theorem canon_order : ∀ n u : Nat, (Kbe6.canonicalAssignments n u).Pairwise fun a b => lexN a b = true
  | 0, u => List.pairwise_singleton _ _
  | n + 1, u => by
    show List.Pairwise _ (List.flatMap _ _)
    rw [List.pairwise_flatMap]
    refine ⟨fun t _ => ?_, ?_⟩
    · rw [List.pairwise_map]
      refine (canon_order n _).imp fun {a b} h => ?_
      show (if t = t then lexN a b else _) = true
      rw [if_pos rfl]
      exact h
    · refine List.pairwise_lt_range.imp fun {t k} h a ha b hb => ?_
      obtain ⟨a', _, rfl⟩ := List.mem_map.mp ha
      obtain ⟨b', _, rfl⟩ := List.mem_map.mp hb
      show (if t = k then lexN a' b' else decide (t < k)) = true
      rw [if_neg (Nat.ne_of_lt h)]
      exact decide_eq_true h
theorem good_order (c : Nat) (ls : List Nat) : (good c ls).Pairwise fun a b => lexN a b = true := (canon_order _ _).filter _
/-- the least of the keys is the first with the fewest trucks -/
def leastN (x : List Nat) (xs : List (List Nat)) : List Nat := xs.foldl (fun b y => if lexN y b = true then y else b) x
def pick (b a : List Nat) : List Nat := if Kbe6.truckCount a < Kbe6.truckCount b then a else b
theorem least_is : ∀ (xs : List (List Nat)) (x : List Nat), (x :: xs).Pairwise (fun a b => lexN a b = true) → leastN (key x) (xs.map key) = key (xs.foldl pick x)
  | [], _, _ => rfl
  | y :: r, x, h => by
    obtain ⟨h1, h2⟩ := List.pairwise_cons.mp h
    obtain ⟨_, h3⟩ := List.pairwise_cons.mp h2
    have lx := lexN_asym _ _ (h1 y (List.mem_cons_self ..))
    have e : (if lexN (key y) (key x) = true then key y else key x) = key (pick x y) := by
      unfold pick key
      show (if (if Kbe6.truckCount y = Kbe6.truckCount x then lexN y x else decide (Kbe6.truckCount y < Kbe6.truckCount x)) = true then _ else _) = _
      rw [lx]
      by_cases z : Kbe6.truckCount y < Kbe6.truckCount x
      · rw [if_neg (Nat.ne_of_lt z), decide_eq_true z, if_pos rfl, if_pos z]
      · rw [if_neg z]
        by_cases z2 : Kbe6.truckCount y = Kbe6.truckCount x
        · rw [if_pos z2, if_neg Bool.false_ne_true]
        · rw [if_neg z2, decide_eq_false z, if_neg Bool.false_ne_true]
    unfold leastN
    rw [List.map_cons, List.foldl_cons, List.foldl_cons]
    show List.foldl _ (if lexN (key y) (key x) = true then key y else key x) _ = _
    rw [e]
    refine least_is r (pick x y) (List.pairwise_cons.mpr ⟨fun a ha => ?_, h3⟩)
    unfold pick
    split
    · exact (List.pairwise_cons.mp h2).1 a ha
    · exact h1 a (List.mem_cons_of_mem _ ha)
theorem fold_some : ∀ (xs : List (List Nat)) (x : List Nat), xs.foldl (fun (best : Option (List Nat)) assignment => match best with
      | none => some assignment
      | some previous => if Kbe6.truckCount assignment < Kbe6.truckCount previous then some assignment else best) (some x) = some (xs.foldl pick x)
  | [], _ => rfl
  | y :: r, x => by
    rw [List.foldl_cons, List.foldl_cons, ← fold_some r]
    congr 1
    show (if Kbe6.truckCount y < Kbe6.truckCount x then some y else some x) = some (pick x y)
    unfold pick
    split <;> rfl
theorem minimal_is {c : Nat} {ls x : List Nat} {xs : List (List Nat)} (h : good c ls = x :: xs) : Kbe6.minimalAssignment c ls = some (xs.foldl pick x) ∧ leastN (key x) (xs.map key) = key (xs.foldl pick x) := by
  refine ⟨?_, least_is xs x (by rw [← h]; exact good_order c ls)⟩
  unfold Kbe6.minimalAssignment
  have e : (Kbe6.canonicalAssignments ls.length 0).filter (Kbe6.isFeasible c ls) = x :: xs := h
  rw [e, List.foldl_cons]
  exact fold_some xs x
/-! ### there is one, and they are not too many -/
theorem gen_some (c : Nat) : ∀ ls ld : List Nat, gen c ld ls ≠ []
  | [], ld => by
    intro h
    cases h
  | l :: r, ld => by
    intro h
    have h' : (space c ld l).flatMap (fun t => (gen c (into ld t l) r).map fun d => (d.1, t :: d.2)) = [] := h
    have h2 := List.flatMap_eq_nil_iff.mp h' ld.length (by unfold space; exact List.mem_append_right _ (List.mem_singleton.mpr rfl))
    exact gen_some c r _ (List.map_eq_nil_iff.mp h2)
theorem space_len (c : Nat) (ld : List Nat) (l : Nat) : (space c ld l).length ≤ ld.length + 1 := by
  unfold space
  rw [List.length_append]
  have h := List.length_filter_le (fits c ld l) (List.range ld.length)
  rw [List.length_range] at h
  show _ + 1 ≤ _
  omega
theorem space_le {c : Nat} {ld : List Nat} {l t : Nat} (h : t ∈ space c ld l) : t ≤ ld.length := by
  unfold space at h
  rcases List.mem_append.mp h with m | m
  · exact Nat.le_of_lt (List.mem_range.mp (List.mem_filter.mp m).1)
  · exact Nat.le_of_eq (List.mem_singleton.mp m)
theorem flat_len {α β : Type} (f : α → List β) (k : Nat) : ∀ l : List α, (∀ x ∈ l, (f x).length ≤ k) → (l.flatMap f).length ≤ k * l.length
  | [], _ => Nat.zero_le _
  | x :: r, h => by
    rw [List.flatMap_cons, List.length_append, List.length_cons, Nat.mul_succ]
    have h1 := h x (List.mem_cons_self ..)
    have h2 := flat_len f k r fun y hy => h y (List.mem_cons_of_mem _ hy)
    omega
/-- the loads and the trucks of a loading of so many pallets -/
theorem grow_mem {c l : Nat} {S : List (List Nat × List Nat)} {m : Nat} (h : ∀ s ∈ S, s.1.length ≤ m ∧ s.2.length = m) : ∀ s ∈ grow c S l, s.1.length ≤ m + 1 ∧ s.2.length = m + 1 := by
  intro s hs
  unfold grow at hs
  obtain ⟨s0, h1, h2⟩ := List.mem_flatMap.mp hs
  obtain ⟨t, h3, rfl⟩ := List.mem_map.mp h2
  obtain ⟨a, b⟩ := h s0 h1
  refine ⟨?_, ?_⟩
  · show (into s0.1 t l).length ≤ m + 1
    rw [into_len]
    split <;> omega
  · show (s0.2 ++ [t]).length = m + 1
    rw [List.length_append, b]
    rfl
theorem loadings_mem (c : Nat) (ls : List Nat) : ∀ i, i ≤ ls.length → ∀ s ∈ loadings c (ls.take i), s.1.length ≤ i ∧ s.2.length = i
  | 0, _ => fun s hs => by
    rw [List.mem_singleton.mp (show s ∈ [([], [])] from hs)]
    exact ⟨Nat.le_refl _, rfl⟩
  | i + 1, h => by
    obtain ⟨x, hx⟩ : ∃ x, ls[i]? = some x := ⟨_, List.getElem?_eq_getElem (by omega)⟩
    have e : loadings c (ls.take (i + 1)) = grow c (loadings c (ls.take i)) x := by
      unfold loadings
      rw [List.take_add_one, hx, List.foldl_append]
      rfl
    rw [e]
    exact grow_mem (loadings_mem c ls i (by omega))
theorem loadings_next {c : Nat} {ls : List Nat} {i x : Nat} (hx : ls[i]? = some x) : loadings c (ls.take (i + 1)) = grow c (loadings c (ls.take i)) x := by
  unfold loadings
  rw [List.take_add_one, hx, List.foldl_append]
  rfl
theorem loadings_len (c : Nat) {ls : List Nat} (hl : ls.length ≤ 7) : ∀ i, i ≤ ls.length → (loadings c (ls.take i)).length ≤ 7 ^ i
  | 0, _ => Nat.le_refl _
  | i + 1, h => by
    obtain ⟨x, hx⟩ : ∃ x, ls[i]? = some x := ⟨_, List.getElem?_eq_getElem (by omega)⟩
    rw [loadings_next hx, Nat.pow_succ, Nat.mul_comm]
    unfold grow
    refine Nat.le_trans (flat_len _ 7 _ fun s hs => ?_) (Nat.mul_le_mul_left 7 (loadings_len c hl i (by omega)))
    rw [List.length_map]
    have h1 := space_len c s.1 x
    have h2 := (loadings_mem c ls i (by omega) s hs).1
    omega
/-! ### what is due of min_capacity -/
/-- the fewest trucks: no loading has fewer, and one has so few -/
theorem fewest_is {c : Nat} {ls : List Nat} (h : ∀ l ∈ ls, l ≤ c) : ∃ A, Kbe6.minimalAssignment c ls = some A ∧ (∀ d ∈ loadings c ls, Kbe6.truckCount A ≤ d.1.length) ∧ ∃ d ∈ loadings c ls, d.1.length = Kbe6.truckCount A := by
  have g0 : good c ls ≠ [] := by
    rw [← good_is h, loadings_gen]
    exact fun z => gen_some _ _ _ (List.map_eq_nil_iff.mp z)
  obtain ⟨x, xs, hg⟩ := List.exists_cons_of_ne_nil g0
  have pick_le : ∀ (xs : List (List Nat)) (x : List Nat), Kbe6.truckCount (xs.foldl pick x) ≤ Kbe6.truckCount x ∧ (∀ a ∈ xs, Kbe6.truckCount (xs.foldl pick x) ≤ Kbe6.truckCount a) ∧ xs.foldl pick x ∈ x :: xs := by
    intro xs
    induction xs with
    | nil => exact fun x => ⟨Nat.le_refl _, fun a ha => absurd ha (by simp), List.mem_cons_self ..⟩
    | cons y r ih =>
      intro x
      obtain ⟨h1, h2, h3⟩ := ih (pick x y)
      have hp : Kbe6.truckCount (pick x y) ≤ Kbe6.truckCount x ∧ Kbe6.truckCount (pick x y) ≤ Kbe6.truckCount y := by
        unfold pick
        split <;> omega
      rw [List.foldl_cons]
      refine ⟨by omega, fun a ha => ?_, ?_⟩
      · rcases List.mem_cons.mp ha with e | m
        · rw [e]
          omega
        · exact h2 a m
      · rcases List.mem_cons.mp h3 with e | m
        · rw [e]
          unfold pick
          split
          · exact List.mem_cons_of_mem _ (List.mem_cons_self ..)
          · exact List.mem_cons_self ..
        · exact List.mem_cons_of_mem _ (List.mem_cons_of_mem _ m)
  obtain ⟨h1, h2, h3⟩ := pick_le xs x
  refine ⟨_, (minimal_is hg).1, ?_⟩
  generalize xs.foldl pick x = A at h1 h2 h3
  have hk := keys_are h
  rw [hg] at hk
  refine ⟨fun d hd => ?_, ?_⟩
  · have m : (d.1.length :: d.2) ∈ (loadings c ls).map (fun d => d.1.length :: d.2) := List.mem_map.mpr ⟨d, hd, rfl⟩
    rw [hk] at m
    obtain ⟨a, ha, e⟩ := List.mem_map.mp m
    have e1 : Kbe6.truckCount a = d.1.length := (List.cons.inj e).1
    rw [← e1]
    rcases List.mem_cons.mp ha with z | z
    · rw [z]
      exact h1
    · exact h2 a z
  · have m : key A ∈ (x :: xs).map key := List.mem_map.mpr ⟨A, h3, rfl⟩
    rw [← hk] at m
    obtain ⟨d, hd, e⟩ := List.mem_map.mp m
    exact ⟨d, hd, (List.cons.inj e).1⟩
/-- a capacity that is enough -/
def enough (m : Nat) (ls : List Nat) (c : Nat) : Bool := (ls.all fun l => decide (l ≤ c)) && (match Kbe6.minimalAssignment c ls with
  | some A => decide (Kbe6.truckCount A ≤ m)
  | none => false)
theorem min_capacity_is {m : Int} {ns : List Int} (h : ∀ n ∈ ns, 0 ≤ n) :
    PyKbe6.min_capacity m ns = if okLens ns = false then [-22] else match ((List.range 100).map (· + 1)).find? (enough m.toNat (ns.map Int.toNat)) with
      | some c => [(c : Int)]
      | none => [-33] := by
  show answer (if Kbe6.validLengths (ns.map Int.toNat) = false then Kbe6.single Kbe6.invalidArgument else match ((List.range 100).map (· + 1)).find? (enough m.toNat (ns.map Int.toNat)) with
      | some capacity => Kbe6.single (capacity : Nat)
      | none => Kbe6.single Kbe6.noSolution) = _
  rw [valid_is h]
  split
  · rfl
  · cases ((List.range 100).map (· + 1)).find? (enough m.toNat (ns.map Int.toNat)) <;> rfl
/-- with m trucks, whatever the loadings say -/
theorem enough_is {m c : Nat} {ls : List Nat} (h : ∀ l ∈ ls, l ≤ c) : enough m ls c = true ↔ ∃ d ∈ loadings c ls, d.1.length ≤ m := by
  obtain ⟨A, e, h1, d, hd, h2⟩ := fewest_is h
  have ha : (ls.all fun l => decide (l ≤ c)) = true := List.all_eq_true.mpr fun l hl => decide_eq_true (h l hl)
  unfold enough
  rw [ha, e, Bool.true_and]
  show decide (Kbe6.truckCount A ≤ m) = true ↔ _
  rw [decide_eq_true_eq]
  refine ⟨fun z => ⟨d, hd, by omega⟩, fun ⟨d', hd', z⟩ => ?_⟩
  have := h1 d' hd'
  omega
/-! ### one capacity and a greater one -/
theorem gen_grows (c : Nat) : ∀ (ls ld : List Nat) (d : List Nat × List Nat), d ∈ gen c ld ls → ∀ k, ld.getD k 0 ≤ d.1.getD k 0
  | [], ld, d, h => by
    rw [List.mem_singleton.mp (show d ∈ [(ld, [])] from h)]
    exact fun _ => Nat.le_refl _
  | l :: r, ld, d, h => by
    have h' : d ∈ (space c ld l).flatMap fun t => (gen c (into ld t l) r).map fun d => (d.1, t :: d.2) := h
    obtain ⟨t, h1, h2⟩ := List.mem_flatMap.mp h'
    obtain ⟨e, h3, rfl⟩ := List.mem_map.mp h2
    intro k
    have q := gen_grows c r (into ld t l) e h3 k
    rw [into_at l (space_le h1)] at q
    show _ ≤ e.1.getD k 0
    omega
/-- what is loaded within a smaller capacity is a loading of the greater one -/
theorem gen_up {b c : Nat} (hb : c ≤ b) : ∀ (ls ld : List Nat) (d : List Nat × List Nat), (∀ l ∈ ls, l ≤ c) → (∀ k, ld.getD k 0 ≤ c) → d ∈ gen c ld ls → d ∈ gen b ld ls ∧ ∀ k, d.1.getD k 0 ≤ c
  | [], ld, d, _, hl, h => by
    rw [List.mem_singleton.mp (show d ∈ [(ld, [])] from h)]
    exact ⟨List.mem_singleton.mpr rfl, hl⟩
  | l :: r, ld, d, hc, hl, h => by
    have h' : d ∈ (space c ld l).flatMap fun t => (gen c (into ld t l) r).map fun d => (d.1, t :: d.2) := h
    obtain ⟨t, h1, h2⟩ := List.mem_flatMap.mp h'
    obtain ⟨e, h3, rfl⟩ := List.mem_map.mp h2
    have ht := space_le h1
    have hl0 := hc l (List.mem_cons_self ..)
    have fit : ld.getD t 0 + l ≤ c := by
      unfold space at h1
      rcases List.mem_append.mp h1 with m | m
      · exact of_decide_eq_true (List.mem_filter.mp m).2
      · rw [List.mem_singleton.mp m, List.getD_eq_getElem?_getD, List.getElem?_eq_none (Nat.le_refl _)]
        show 0 + l ≤ c
        omega
    obtain ⟨q1, q2⟩ := gen_up hb r (into ld t l) e (fun x hx => hc x (List.mem_cons_of_mem _ hx)) (fun k => by
      rw [into_at l ht]
      by_cases z : t = k
      · rw [if_pos z, ← z]
        exact fit
      · rw [if_neg z]
        exact hl k) h3
    refine ⟨?_, q2⟩
    show _ ∈ (space b ld l).flatMap fun t => (gen b (into ld t l) r).map fun d => (d.1, t :: d.2)
    refine List.mem_flatMap.mpr ⟨t, ?_, List.mem_map.mpr ⟨e, q1, rfl⟩⟩
    unfold space at h1 ⊢
    rcases List.mem_append.mp h1 with m | m
    · refine List.mem_append_left _ (List.mem_filter.mpr ⟨(List.mem_filter.mp m).1, decide_eq_true ?_⟩)
      omega
    · exact List.mem_append_right _ m
/-- a loading whose loads are within a smaller capacity is a loading of that -/
theorem gen_down {b c : Nat} : ∀ (ls ld : List Nat) (d : List Nat × List Nat), (∀ k, d.1.getD k 0 ≤ c) → d ∈ gen b ld ls → d ∈ gen c ld ls ∧ ∀ l ∈ ls, l ≤ c
  | [], ld, d, _, h => ⟨h, fun _ z => absurd z (by simp)⟩
  | l :: r, ld, d, hd, h => by
    have h' : d ∈ (space b ld l).flatMap fun t => (gen b (into ld t l) r).map fun d => (d.1, t :: d.2) := h
    obtain ⟨t, h1, h2⟩ := List.mem_flatMap.mp h'
    obtain ⟨e, h3, rfl⟩ := List.mem_map.mp h2
    have ht := space_le h1
    have g := gen_grows b r (into ld t l) e h3 t
    rw [into_at l ht, if_pos rfl] at g
    have g2 : e.1.getD t 0 ≤ c := hd t
    obtain ⟨q1, q2⟩ := gen_down r (into ld t l) e hd h3
    refine ⟨?_, fun x hx => ?_⟩
    · show _ ∈ (space c ld l).flatMap fun t => (gen c (into ld t l) r).map fun d => (d.1, t :: d.2)
      refine List.mem_flatMap.mpr ⟨t, ?_, List.mem_map.mpr ⟨e, q1, rfl⟩⟩
      unfold space at h1 ⊢
      rcases List.mem_append.mp h1 with m | m
      · refine List.mem_append_left _ (List.mem_filter.mpr ⟨(List.mem_filter.mp m).1, decide_eq_true ?_⟩)
        omega
      · exact List.mem_append_right _ m
    · rcases List.mem_cons.mp hx with z | z
      · rw [z]
        omega
      · exact q2 x z
theorem into_pos {ld : List Nat} {t l : Nat} (hl : 1 ≤ l) (h : ∀ x ∈ ld, 1 ≤ x) : ∀ x ∈ into ld t l, 1 ≤ x := by
  intro x hx
  unfold into at hx
  split at hx
  · rcases List.mem_append.mp hx with m | m
    · exact h x m
    · rw [List.mem_singleton.mp m]
      exact hl
  · rcases List.mem_or_eq_of_mem_set hx with m | m
    · exact h x m
    · omega
/-- no truck of a loading is empty -/
theorem gen_pos (c : Nat) : ∀ (ls ld : List Nat) (d : List Nat × List Nat), (∀ l ∈ ls, 1 ≤ l) → (∀ x ∈ ld, 1 ≤ x) → d ∈ gen c ld ls → ∀ x ∈ d.1, 1 ≤ x
  | [], ld, d, _, hl, h => by
    rw [List.mem_singleton.mp (show d ∈ [(ld, [])] from h)]
    exact hl
  | l :: r, ld, d, hc, hl, h => by
    have h' : d ∈ (space c ld l).flatMap fun t => (gen c (into ld t l) r).map fun d => (d.1, t :: d.2) := h
    obtain ⟨t, h1, h2⟩ := List.mem_flatMap.mp h'
    obtain ⟨e, h3, rfl⟩ := List.mem_map.mp h2
    exact gen_pos c r (into ld t l) e (fun x hx => hc x (List.mem_cons_of_mem _ hx)) (into_pos (hc l (List.mem_cons_self ..)) hl) h3
theorem getD_all {l : List Nat} {c : Nat} : (∀ k, l.getD k 0 ≤ c) ↔ ∀ x ∈ l, x ≤ c := by
  refine ⟨fun h x hx => ?_, fun h k => ?_⟩
  · obtain ⟨k, hk⟩ := List.getElem?_of_mem hx
    have := h k
    rw [List.getD_eq_getElem?_getD, hk] at this
    exact this
  · rw [List.getD_eq_getElem?_getD]
    cases e : l[k]? with
    | none => exact Nat.zero_le _
    | some x => exact h x (List.mem_of_getElem? e)
/-- the fullest truck; without trucks 1 -/
def fullest (ld : List Nat) : Nat := if ld = [] then 1 else ld.foldl max 0
theorem fullest_le {ld : List Nat} {c : Nat} (hc : 1 ≤ c) : fullest ld ≤ c ↔ ∀ x ∈ ld, x ≤ c := by
  unfold fullest
  by_cases e : ld = []
  · rw [if_pos e, e]
    exact ⟨fun _ x z => absurd z (by simp), fun _ => hc⟩
  · rw [if_neg e]
    have a := (le_max ld 0).2
    refine ⟨fun z x hx => Nat.le_trans (a x hx) z, fun z => ?_⟩
    rcases max_mem ld 0 with m | m
    · omega
    · exact z _ m
/-- the capacities of the loadings on so many trucks -/
def caps (m : Nat) (ls : List Nat) : List Nat := ((loadings 100 ls).filter fun d => decide (d.1.length ≤ m)).map fun d => fullest d.1
theorem caps_range {m : Nat} {ls : List Nat} (h : ∀ l ∈ ls, 1 ≤ l ∧ l ≤ 100) : ∀ v ∈ caps m ls, 1 ≤ v ∧ v ≤ 100 := by
  intro v hv
  unfold caps at hv
  obtain ⟨d, hd, rfl⟩ := List.mem_map.mp hv
  have hd := (List.mem_filter.mp hd).1
  rw [loadings_gen] at hd
  have p := gen_pos 100 ls [] d (fun l hl => (h l hl).1) (fun x z => absurd z (by simp)) hd
  have q := (gen_up (Nat.le_refl 100) ls [] d (fun l hl => (h l hl).2) (fun k => Nat.zero_le _) hd).2
  refine ⟨?_, (fullest_le (by omega)).mpr (getD_all.mp q)⟩
  unfold fullest
  split
  · exact Nat.le_refl _
  · rename_i e
    obtain ⟨x, r, e2⟩ := List.exists_cons_of_ne_nil e
    have hx : x ∈ d.1 := by rw [e2]; exact List.mem_cons_self ..
    exact Nat.le_trans (p x hx) ((le_max d.1 0).2 x hx)
theorem enough_caps {m c : Nat} {ls : List Nat} (hc : 1 ≤ c) (h100 : c ≤ 100) (_h : ∀ l ∈ ls, 1 ≤ l ∧ l ≤ 100) : enough m ls c = true ↔ ∃ v ∈ caps m ls, v ≤ c := by
  by_cases hl : ∀ l ∈ ls, l ≤ c
  · rw [enough_is hl]
    refine ⟨fun ⟨d, hd, z⟩ => ?_, fun ⟨v, hv, z⟩ => ?_⟩
    · rw [loadings_gen] at hd
      obtain ⟨q1, q2⟩ := gen_up h100 ls [] d hl (fun k => Nat.zero_le _) hd
      rw [← loadings_gen] at q1
      exact ⟨_, List.mem_map.mpr ⟨d, List.mem_filter.mpr ⟨q1, decide_eq_true z⟩, rfl⟩, (fullest_le hc).mpr (getD_all.mp q2)⟩
    · unfold caps at hv
      obtain ⟨d, hd, rfl⟩ := List.mem_map.mp hv
      obtain ⟨d1, d2⟩ := List.mem_filter.mp hd
      rw [loadings_gen] at d1
      have q := (gen_down ls [] d (getD_all.mpr ((fullest_le hc).mp z)) d1).1
      rw [← loadings_gen] at q
      exact ⟨d, q, of_decide_eq_true d2⟩
  · refine ⟨fun z => ?_, fun ⟨v, hv, z⟩ => ?_⟩
    · unfold enough at z
      exact absurd (fun l hx => of_decide_eq_true (List.all_eq_true.mp (Bool.and_eq_true_iff.mp z).1 l hx)) hl
    · unfold caps at hv
      obtain ⟨d, hd, rfl⟩ := List.mem_map.mp hv
      have d1 := (List.mem_filter.mp hd).1
      rw [loadings_gen] at d1
      exact absurd (gen_down ls [] d (getD_all.mpr ((fullest_le hc).mp z)) d1).2 hl
/-- the least of the capacities is the first that is enough -/
theorem find_caps {m v : Nat} {ls : List Nat} (h : ∀ l ∈ ls, 1 ≤ l ∧ l ≤ 100) (h1 : v ∈ caps m ls) (h2 : ∀ y ∈ caps m ls, v ≤ y) : ((List.range 100).map (· + 1)).find? (enough m ls) = some v := by
  obtain ⟨r1, r2⟩ := caps_range h v h1
  rw [List.find?_map]
  have e : (List.range 100).find? (enough m ls ∘ (· + 1)) = some (v - 1) := by
    rw [List.find?_range_eq_some]
    refine ⟨?_, List.mem_range.mpr (by omega), fun j hj => ?_⟩
    · show enough m ls (v - 1 + 1) = true
      rw [Nat.sub_add_cancel r1]
      exact (enough_caps r1 r2 h).mpr ⟨v, h1, Nat.le_refl _⟩
    · show (!enough m ls (j + 1)) = true
      rw [Bool.not_eq_true', ← Bool.not_eq_true]
      intro z
      obtain ⟨y, hy, z2⟩ := (enough_caps (by omega) (by omega) h).mp z
      have := h2 y hy
      omega
  rw [e]
  show some (v - 1 + 1) = some v
  rw [Nat.sub_add_cancel r1]
theorem find_none {m : Nat} {ls : List Nat} (h : ∀ l ∈ ls, 1 ≤ l ∧ l ≤ 100) (h1 : caps m ls = []) : ((List.range 100).map (· + 1)).find? (enough m ls) = none := by
  rw [List.find?_eq_none]
  intro c hc z
  obtain ⟨j, hj, rfl⟩ := List.mem_map.mp hc
  have := List.mem_range.mp hj
  obtain ⟨y, hy, _⟩ := (enough_caps (by omega) (by omega) h).mp z
  rw [h1] at hy
  cases hy
/-- what is due of min_capacity, by the capacities -/
theorem okLens_all {ns : List Int} (h : okLens ns = true) : ns.length ≤ 7 ∧ ∀ n ∈ ns, 1 ≤ n ∧ n ≤ 100 := by
  unfold okLens at h
  rw [Bool.and_eq_true, decide_eq_true_eq, List.all_eq_true] at h
  refine ⟨h.1, fun n hn => ?_⟩
  have q := h.2 n hn
  unfold okLen at q
  rw [Bool.and_eq_true, decide_eq_true_eq, decide_eq_true_eq] at q
  exact q
theorem toNat_range {ns : List Int} (h : okLens ns = true) : ∀ l ∈ ns.map Int.toNat, 1 ≤ l ∧ l ≤ 100 := by
  intro l hl
  obtain ⟨n, hn, rfl⟩ := List.mem_map.mp hl
  have := (okLens_all h).2 n hn
  omega
theorem min_capacity_some {m : Int} {ns : List Int} {v : Nat} (h : ∀ n ∈ ns, 0 ≤ n) (ho : okLens ns = true) (h1 : v ∈ caps m.toNat (ns.map Int.toNat)) (h2 : ∀ y ∈ caps m.toNat (ns.map Int.toNat), v ≤ y) : PyKbe6.min_capacity m ns = [(v : Int)] := by
  rw [min_capacity_is h, if_neg (by rw [ho]; exact fun z => Bool.noConfusion z), find_caps (toNat_range ho) h1 h2]
theorem min_capacity_none {m : Int} {ns : List Int} (h : ∀ n ∈ ns, 0 ≤ n) (ho : okLens ns = true) (h1 : caps m.toNat (ns.map Int.toNat) = []) : PyKbe6.min_capacity m ns = [-33] := by
  rw [min_capacity_is h, if_neg (by rw [ho]; exact fun z => Bool.noConfusion z), find_none (toNat_range ho) h1]
/-! ### item by item -/
/-- item by item -/
inductive Pw {α : Type} (R : V → α → Prop) : List V → List α → Prop
  | nil : Pw R [] []
  | cons {v : V} {s : α} {vs : List V} {S : List α} : R v s → Pw R vs S → Pw R (v :: vs) (s :: S)
theorem Pw.mono {α : Type} {R R' : V → α → Prop} (h : ∀ v s, R v s → R' v s) {vs : List V} {S : List α} (p : Pw R vs S) : Pw R' vs S := by
  induction p with
  | nil => exact .nil
  | cons r _ ih => exact .cons (h _ _ r) ih
theorem Pw.len {α : Type} {R : V → α → Prop} {vs : List V} {S : List α} (p : Pw R vs S) : vs.length = S.length := by
  induction p with
  | nil => rfl
  | cons _ _ ih =>
    rw [List.length_cons, ih]
    rfl
theorem Pw.at_ {α : Type} {R : V → α → Prop} {vs : List V} {S : List α} (p : Pw R vs S) : ∀ {i : Nat} {v : V}, vs[i]? = some v → ∃ s, S[i]? = some s ∧ R v s := by
  induction p with
  | nil =>
    intro i v h
    simp at h
  | cons r _ ih =>
    intro i v h
    cases i with
    | zero => exact ⟨_, rfl, by rw [← Option.some.inj (show some _ = some v from h)]; exact r⟩
    | succ i => exact ih (by simpa using h)
theorem Pw.app {α : Type} {R : V → α → Prop} {vs : List V} {S : List α} (p : Pw R vs S) {v : V} {s : α} (r : R v s) : Pw R (vs ++ [v]) (S ++ [s]) := by
  induction p with
  | nil => exact .cons r .nil
  | cons r' _ ih => exact .cons r' ih
/-- len, its words by K alone -/
def rHow (K : PySem.W.Frag) : List V → Hp → VK → Prop := fun vs H Q => ∃ (a : Addr) (ys : List V), vs = [V.ref a] ∧ (SqL K H a ys ∨ SqT K H a ys) ∧ Q (.int (ys.length : Nat)) H
/-! ### max(xs, default=d), min(xs, default=d) of a list of whole numbers -/
section
variable {pr : Program} {wd : World} {Ar : Around} {Er : Value → Shared → Prop} {sh : Shared} {la : Addr} {items : List Value} {nums : List Int} {d : Value} {Goal : Value → Shared → Prop}
theorem max_dflt (hh : Ar.handled = none) (hl : sh.heap.IsList la items.toArray) (hi : IntsAre items nums)
    (none_ : nums = [] → ∀ h' tk, (∀ b o, sh.heap.get? b = some o → h'.get? b = some o) → Goal d { sh with heap := h', toks := tk })
    (some_ : ∀ h' tk M t', (∀ b o, sh.heap.get? b = some o → h'.get? b = some o) → M ∈ nums → (∀ a, a ∈ nums → a ≤ M) → Goal (.int M t') { sh with heap := h', toks := tk }) :
    wpAny (model pr wd) Ar (call (.builtin "max") [.ref la] [(Str.ofString "default", d)]) Goal Er sh := by
  obtain ⟨pairs, ep⟩ := hi.allInts.items
  have en : numsOf (intItems pairs).toList = nums := ep ▸ hi.numsOf
  rw [nums_intItems] at en
  subst en
  rw [ep] at hl
  have el : (intItems pairs).size = pairs.size := Array.size_map ..
  refine PySem.call_max_walkD (PySem.W.iter_listW (A := Ar.in1) hh hl fun s2 e2 W st hfp hw hk => ?_)
  refine ⟨_, _, _, _, _, _, _, sh.heap, fun i j => decide (numAt pairs i > numAt pairs j), rfl, W, st, hfp, hw, hk, fun z s' m => ?_, fun z => ⟨fun i j vi vj s Q E _ p1 p2 q => CmpOf.ints_gt (numAt pairs) (fun _ _ => intItems_at) i j vi vj s Q E p1 p2 q, fun v s' at_ m => ?_⟩⟩
  · obtain ⟨h', tk, rfl, kept⟩ := PySem.W.moved_old e2 rfl m
    refine none_ ?_ h' tk kept
    exact List.eq_nil_of_length_eq_zero (by rw [List.length_map, Array.length_toList]; omega)
  · obtain ⟨h', tk, rfl, kept⟩ := PySem.W.moved_old e2 rfl m
    have at_ : (intItems pairs)[argBest (fun i j => decide (numAt pairs i > numAt pairs j)) ((intItems pairs).size - 1)]? = some v := at_
    obtain ⟨t, rfl⟩ := intItems_at at_
    rw [el]
    have best := argBest_gt (numAt pairs) (pairs.size - 1)
    refine some_ h' tk _ t kept ?_ fun a ha => ?_
    · rw [numAt_eq]
      exact PySem.getD_mem (by rw [List.length_map, Array.length_toList]; have := best.1; omega)
    · obtain ⟨j, lj, rfl⟩ := mem_getD ha
      rw [List.length_map, Array.length_toList] at lj
      rw [← numAt_eq]
      exact best.2 j (by omega)
theorem min_dflt (hh : Ar.handled = none) (hl : sh.heap.IsList la items.toArray) (hi : IntsAre items nums)
    (none_ : nums = [] → ∀ h' tk, (∀ b o, sh.heap.get? b = some o → h'.get? b = some o) → Goal d { sh with heap := h', toks := tk })
    (some_ : ∀ h' tk M t', (∀ b o, sh.heap.get? b = some o → h'.get? b = some o) → M ∈ nums → (∀ a, a ∈ nums → M ≤ a) → Goal (.int M t') { sh with heap := h', toks := tk }) :
    wpAny (model pr wd) Ar (call (.builtin "min") [.ref la] [(Str.ofString "default", d)]) Goal Er sh := by
  obtain ⟨pairs, ep⟩ := hi.allInts.items
  have en : numsOf (intItems pairs).toList = nums := ep ▸ hi.numsOf
  rw [nums_intItems] at en
  subst en
  rw [ep] at hl
  have el : (intItems pairs).size = pairs.size := Array.size_map ..
  refine PySem.call_min_walkD (PySem.W.iter_listW (A := Ar.in1) hh hl fun s2 e2 W st hfp hw hk => ?_)
  refine ⟨_, _, _, _, _, _, _, sh.heap, fun i j => decide (numAt pairs i < numAt pairs j), rfl, W, st, hfp, hw, hk, fun z s' m => ?_, fun z => ⟨fun i j vi vj s Q E _ p1 p2 q => CmpOf.ints_lt (numAt pairs) (fun _ _ => intItems_at) i j vi vj s Q E p1 p2 q, fun v s' at_ m => ?_⟩⟩
  · obtain ⟨h', tk, rfl, kept⟩ := PySem.W.moved_old e2 rfl m
    refine none_ ?_ h' tk kept
    exact List.eq_nil_of_length_eq_zero (by rw [List.length_map, Array.length_toList]; omega)
  · obtain ⟨h', tk, rfl, kept⟩ := PySem.W.moved_old e2 rfl m
    have at_ : (intItems pairs)[argBest (fun i j => decide (numAt pairs i < numAt pairs j)) ((intItems pairs).size - 1)]? = some v := at_
    obtain ⟨t, rfl⟩ := intItems_at at_
    rw [el]
    have best := argBest_lt (numAt pairs) (pairs.size - 1)
    refine some_ h' tk _ t kept ?_ fun a ha => ?_
    · rw [numAt_eq]
      exact PySem.getD_mem (by rw [List.length_map, Array.length_toList]; have := best.1; omega)
    · obtain ⟨j, lj, rfl⟩ := mem_getD ha
      rw [List.length_map, Array.length_toList] at lj
      rw [← numAt_eq]
      exact best.2 j (by omega)
end
def rMaxDf (K : PySem.W.Frag) : List V → List V → Hp → VK → Prop := fun vs zs H Q => ∃ (a : Addr) (ns : List Int) (d : V), vs = [V.ref a] ∧ zs = [d] ∧ SqL K H a (ns.map V.int) ∧ (ns = [] → Q d H) ∧ ∀ m, m ∈ ns → (∀ y, y ∈ ns → y ≤ m) → Q (.int m) H
def rMinDf (K : PySem.W.Frag) : List V → List V → Hp → VK → Prop := fun vs zs H Q => ∃ (a : Addr) (ns : List Int) (d : V), vs = [V.ref a] ∧ zs = [d] ∧ SqL K H a (ns.map V.int) ∧ (ns = [] → Q d H) ∧ ∀ m, m ∈ ns → (∀ y, y ∈ ns → m ≤ y) → Q (.int m) H
theorem cr_maxDf {X : Cx} (hc : X.calm = true) : CallRK X (.builtin "max") [Str.ofString "default"] (rMaxDf X.K) := by
  intro pinned s σ H vs given us ws Q I r rz h
  obtain ⟨a, ns, d, rfl, rfl, hs, q0, q⟩ := h
  obtain rfl := Vals.ref1 r
  obtain ⟨wd, rfl, ed⟩ := vals1 rz
  obtain ⟨things, rv, hl, _⟩ := I.list hs
  exact max_dflt (I.ok.hd hc) hl.isList rv.ints (fun e h' tk hk => ⟨d, H, I.kept hk, ed, q0 e⟩) fun h' tk m t' hk h1 h2 => ⟨.int _, H, I.kept hk, ⟨_, rfl⟩, q m h1 h2⟩
theorem cr_minDf {X : Cx} (hc : X.calm = true) : CallRK X (.builtin "min") [Str.ofString "default"] (rMinDf X.K) := by
  intro pinned s σ H vs given us ws Q I r rz h
  obtain ⟨a, ns, d, rfl, rfl, hs, q0, q⟩ := h
  obtain rfl := Vals.ref1 r
  obtain ⟨wd, rfl, ed⟩ := vals1 rz
  obtain ⟨things, rv, hl, _⟩ := I.list hs
  exact min_dflt (I.ok.hd hc) hl.isList rv.ints (fun e h' tk hk => ⟨d, H, I.kept hk, ed, q0 e⟩) fun h' tk m t' hk h1 h2 => ⟨.int _, H, I.kept hk, ⟨_, rfl⟩, q m h1 h2⟩
/-! ### feasible_loadings -/
abbrev sFl : Stmt := top 9
theorem scFl : FnScope ["capacity", "lengths", "loadings", "length", "longer", "loads", "assignment", "truck"] ["capacity", "lengths"] (defScope sFl) := ⟨rfl, rfl, rfl, by decide +kernel, rfl, by decide +kernel, by decide +kernel⟩
/-- a loading there: a tuple of the loads and the trucks -/
def LdAt (ok : Addr → Prop) (G : Hp) (v : V) (s : List Nat × List Nat) : Prop := ∃ T a b : Addr, v = .ref T ∧ (ok T ∧ ok a ∧ ok b) ∧ G T = some (.tup [.ref a, .ref b]) ∧ G a = some (.lst (vN s.1)) ∧ G b = some (.lst (vN s.2))
theorem LdAt.mono {ok ok' : Addr → Prop} {G G' : Hp} (h : ∀ b o, ok b → G b = some o → ok' b ∧ G' b = some o) (v : V) (s : List Nat × List Nat) (r : LdAt ok G v s) : LdAt ok' G' v s := by
  obtain ⟨T, a, b, rfl, ⟨o1, o2, o3⟩, e1, e2, e3⟩ := r
  exact ⟨T, a, b, rfl, ⟨(h _ _ o1 e1).1, (h _ _ o2 e2).1, (h _ _ o3 e3).1⟩, (h _ _ o1 e1).2, (h _ _ o2 e2).2, (h _ _ o3 e3).2⟩
def spFl (K : PySem.W.Frag) : Sp := fun vs H Q _ => ∃ (c : Nat) (a : Addr) (ls : List Nat), vs = [.int (c : Int), .ref a] ∧ SqL K H a (vN ls) ∧ ls.length ≤ 7 ∧
  ∀ H' p us, Same H H' → H' p = some (.lst us) → Pw (LdAt (fun _ => True) H') us (loadings c ls) → Q (.ref p) H'
/-- the growth of the loadings, one after the other -/
def child (x : Nat) (s : List Nat × List Nat) (t : Nat) : List Nat × List Nat := (into s.1 t x, s.2 ++ [t])
theorem grow_more {c x : Nat} {S : List (List Nat × List Nat)} {j : Nat} {s : List Nat × List Nat} (h : S[j]? = some s) : grow c (S.take (j + 1)) x = grow c (S.take j) x ++ (space c s.1 x).map (child x s) := by
  rw [take_more h]
  unfold grow
  rw [List.flatMap_append, List.flatMap_cons, List.flatMap_nil, List.append_nil]
  rfl
theorem grow_small {c x : Nat} {S : List (List Nat × List Nat)} {j k : Nat} {s : List Nat × List Nat} (h : S[j]? = some s) (hS : ∀ s ∈ S, s.1.length ≤ 6) (hn : S.length ≤ 117649) : (grow c (S.take j) x ++ ((space c s.1 x).take k).map (child x s)).length ≤ 1000000 := by
  have hj : j < S.length := (List.getElem?_eq_some_iff.mp h).1
  have h1 : (grow c (S.take j) x).length ≤ 7 * (S.take j).length := by
    unfold grow
    refine flat_len _ 7 _ fun s hs => ?_
    rw [List.length_map]
    have a := space_len c s.1 x
    have b := hS s (List.mem_of_mem_take hs)
    omega
  have h2 : ((space c s.1 x).take k).length ≤ 7 := by
    have a := space_len c s.1 x
    have b := hS s (List.mem_of_getElem? h)
    rw [List.length_take]
    omega
  rw [List.length_take] at h1
  rw [List.length_append, List.length_map]
  omega
theorem million {n : Nat} (h : n ≤ 1000000) : n < sizeLine := Nat.lt_of_le_of_lt h (by decide)
section
variable {K : PySem.W.Frag} {base : Heap} {mg : Str → Option Value} {P : Program} {w : World}
theorem ok_fl {f fT fW : Addr} {fd fdT fdW : FuncData} (F : Fun K "feasible_loadings" "feasible_loadings" sFl f fd) (FT : Fun K "trucks_with_space" "trucks_with_space" sSpc fT fdT) (FW : Fun K "loads_with_pallet" "loads_with_pallet" sWit fW fdW)
    (bT : Binds K fdT ["capacity", "loads", "length"] []) (bW : Binds K fdW ["loads", "truck", "length"] []) (gT : mg "trucks_with_space" = some (.ref fT)) (gW : mg "loads_with_pallet" = some (.ref fW))
    (me : mg "enumerate" = none) (ml : mg "len" = none) (mli : mg "list" = none) : FnOk P w K mg base CX0 2 f fd ["capacity", "lengths"] (spFl K) := by
  have GT : FnOk P w K mg base CX0 1 fT fdT ["capacity", "loads", "length"] (spSpc K) := ok_spc FT me ml
  have GW : FnOk P w K mg base CX0 1 fW fdW ["loads", "truck", "length"] (spWit K) := ok_wit FW mli ml
  refine F.ok scFl (fun vs H Q E h => ?_) (fun cdv A outer s H vs Q E hr h => ?_)
  · obtain ⟨c, a, ls, rfl, _⟩ := h
    rfl
  · obtain ⟨c, a, ls, rfl, hA, hl, q⟩ := h
    refine ⟨_, pss_cons (ps_set (i := 2) scFl.nd rfl (.inl rfl) (pe_lst (pa_cons (pe_tup (pa_cons (pe_lst pa_nil) (pa_cons (pe_lst pa_nil) pa_nil))) pa_nil)))
      (pss_cons (ps_for PassesOwn.never rfl (pi_list (pv 1)) (pg_name (i := 3) scFl.nd rfl (.inl rfl))
        (pss_cons (ps_set (i := 4) scFl.nd rfl (.inl rfl) (pe_lst pa_nil))
        (pss_cons (ps_for PassesOwn.never rfl (pi_list (pv 2)) (g := gTup K 2 (gCons (gName 5) (gCons (gName 6) gNil))) (pg_tup rfl (pgs_cons (pg_name (i := 5) scFl.nd rfl (.inl rfl)) (pgs_cons (pg_name (i := 6) scFl.nd rfl (.inl rfl)) pgs_nil)))
          (pss_one (ps_for PassesOwn.never rfl (pi_list (pe_call GT hr (by rfl) gT FT.kp bT .nil pass0 (pa_cons (pv 0) (pa_cons (pv 5) (pa_cons (pv 3) pa_nil))))) (pg_name (i := 7) scFl.nd rfl (.inl rfl))
            (pss_one (ps_expr (pe_bm PySem.F.plainAttrs_list PySem.F.slot_list_append PySem.F.type_list_append mt_append (pv 4)
              (pa_cons (pe_tup (pa_cons (pe_call GW hr (by rfl) gW FW.kp bW .nil pass0 (pa_cons (pv 5) (pa_cons (pv 7) (pa_cons (pv 3) pa_nil)))) (pa_cons (pe_op op_cat (pv 6) (pe_lst (pa_cons (pv 7) pa_nil))) pa_nil))) pa_nil)))))))
        (pss_one (ps_set (i := 2) scFl.nd rfl (.inl rfl) (pv 4))))))
      (pss_one (ps_ret (pv 2)))), ?_⟩
    -- loadings = [([], [])]
    refine ⟨small (by show 0 ≤ _; omega), fun p1 n1 => ⟨small (by show 0 ≤ _; omega), fun p2 n2 => ⟨small (by show 2 ≤ _; omega), fun p3 n3 => ⟨small (by show 1 ≤ _; omega), fun p4 n4 => ?_⟩⟩⟩⟩
    have s1 : Same H (upd H p1 (.lst [])) := same_upd n1
    generalize e1 : upd H p1 (.lst []) = G1 at *
    have s2 : Same G1 (upd G1 p2 (.lst [])) := same_upd n2
    generalize e2 : upd G1 p2 (.lst []) = G2 at *
    have s3 : Same G2 (upd G2 p3 (.tup [.ref p1, .ref p2])) := same_upd n3
    generalize e3 : upd G2 p3 (.tup [.ref p1, .ref p2]) = G3 at *
    have s4 : Same G3 (upd G3 p4 (.lst [.ref p3])) := same_upd n4
    have x1 : G1 p1 = some (.lst []) := by rw [← e1]; exact upd_same
    have x2 : G2 p2 = some (.lst []) := by rw [← e2]; exact upd_same
    have x3 : G3 p3 = some (.tup [.ref p1, .ref p2]) := by rw [← e3]; exact upd_same
    have sm0 : Same H (upd G3 p4 (.lst [.ref p3])) := s1.trans (s2.trans (s3.trans s4))
    refine ⟨.ref a, rfl, a, rfl, ⟨_, sm0.seq hA⟩, for_list (K := K) (a := a) (xs := vN ls) (fun i σ G => ∃ (S0 : Addr) (v3 v4 v5 v6 v7 : Option V) (us : List V), σ = [some (.int (c : Int)), some (.ref a), some (.ref S0), v3, v4, v5, v6, v7] ∧ Same H G ∧
        G S0 = some (.lst us) ∧ Pw (LdAt (fun _ => True) G) us (loadings c (ls.take i)))
      ⟨p4, none, none, none, none, none, _, rfl, sm0, upd_same, .cons ⟨p3, p1, p2, rfl, ⟨trivial, trivial, trivial⟩, s4 _ _ x3, s4 _ _ (s3 _ _ (s2 _ _ x1)), s4 _ _ (s3 _ _ x2)⟩ .nil⟩ (fun i σ G _ ⟨_, _, _, _, _, _, _, _, sm, _⟩ => sm.seq hA) ?_ ?_⟩
    · rintro i y σ G hi ⟨S0, v3, v4, v5, v6, v7, us, rfl, sm, eS, al⟩
      obtain ⟨x, hx, rfl⟩ := vN_at hi
      have hil : i < ls.length := (List.getElem?_eq_some_iff.mp hx).1
      have next := loadings_next (c := c) hx
      have mem := loadings_mem c ls i (by omega)
      have len := Nat.le_trans (loadings_len c hl i (by omega)) (Nat.pow_le_pow_right (n := 7) (by decide) (show i ≤ 6 by omega))
      generalize loadings c (ls.take i) = S at al next mem len
      have mem1 : ∀ s ∈ S, s.1.length ≤ 6 := fun s hs => Nat.le_trans (mem s hs).1 (by omega)
      rw [next]
      -- longer = []
      refine ⟨small (by show 0 ≤ _; omega), fun L nL => ?_⟩
      have sL : Same G (upd G L (.lst [])) := same_upd nL
      -- the loadings, one after the other
      refine ⟨.ref S0, rfl, S0, rfl, ⟨_, .inl (.inl (sL _ _ eS))⟩, for_list (K := K) (a := S0) (xs := us) (fun j τ G2 => ∃ (w5 w6 w7 : Option V) (made : List V), τ = [some (.int (c : Int)), some (.ref a), some (.ref S0), some (.int (x : Int)), some (.ref L), w5, w6, w7] ∧ Same G G2 ∧
          G2 L = some (.lst made) ∧ Pw (LdAt (fun b => b ≠ L) G2) made (grow c (S.take j) x))
        ⟨_, _, _, [], rfl, sL, upd_same, .nil⟩ (fun j τ G2 _ ⟨_, _, _, _, _, sm2, _⟩ => .inl (.inl (sm2 _ _ eS))) ?_ ?_⟩
      · rintro j v τ G2 hj ⟨w5, w6, w7, made, rfl, sm2, eL, am⟩
        obtain ⟨s, hs, T, la, lb, rfl, _, eT, ea, eb⟩ := al.at_ hj
        have s6 : s.1.length ≤ 6 := mem1 s (List.mem_of_getElem? hs)
        have s7 : s.2.length ≤ 7 := by
          have := (mem s (List.mem_of_getElem? hs)).2
          omega
        refine ⟨T, _, rfl, .inl (.inl (sm2 _ _ eT)), rfl, _, _, rfl, _, [], rfl, rfl, ?_⟩
        -- trucks_with_space
        refine ⟨_, rfl, .ref la, rfl, .int (x : Int), rfl, c, la, s.1, x, rfl, .inl (.inl (sm2 _ _ ea)), by omega, fun G3 ps sm3 np eP => ?_⟩
        have nLp : ps ≠ L := fun z => by
          rw [z, eL] at np
          cases np
        refine ⟨ps, rfl, ⟨_, .inl (.inl eP)⟩, for_list (K := K) (a := ps) (xs := vN (space c s.1 x)) (fun k ρ G4 => ∃ (z7 : Option V) (more : List V), ρ = [some (.int (c : Int)), some (.ref a), some (.ref S0), some (.int (x : Int)), some (.ref L), some (.ref la), some (.ref lb), z7] ∧ Same G G4 ∧
            G4 ps = some (.lst (vN (space c s.1 x))) ∧ G4 L = some (.lst more) ∧ Pw (LdAt (fun b => b ≠ L) G4) more (grow c (S.take j) x ++ ((space c s.1 x).take k).map (child x s)))
          ⟨_, made, rfl, sm2.trans sm3, eP, sm3 _ _ eL, ?_⟩ (fun k ρ G4 _ ⟨_, _, _, _, e, _⟩ => .inl (.inl e)) ?_ ?_⟩
        · rw [List.take_zero, List.map_nil, List.append_nil]
          exact am.mono (LdAt.mono fun b o h1 h2 => ⟨h1, sm3 _ _ h2⟩)
        · rintro k y ρ G4 hk ⟨z7, more, rfl, sm4, eP4, eL4, am4⟩
          obtain ⟨t, ht, rfl⟩ := vN_at hk
          have ml4 := am4.len
          have sz := grow_small (c := c) (x := x) (k := k) hs mem1 len
          rw [← ml4] at sz
          -- longer.append((.., ..))
          refine ⟨.ref L, rfl, .inl ⟨rfl, _, .inl (.inl eL4)⟩, .ref la, rfl, _, rfl, .int (x : Int), rfl, la, s.1, t, x, rfl, .inl (.inl (sm4 _ _ ea)), by omega, space_le (List.mem_of_getElem? ht), fun G5 pw sm5 n5 e5 => ?_⟩
          refine ⟨.ref lb, rfl, _, rfl, small (by show 1 ≤ _; omega), fun p6 n6 => ?_⟩
          have s6' : Same G5 (upd G5 p6 (.lst [V.int (t : Int)])) := same_upd n6
          refine ⟨lb, p6, _, _, rfl, rfl, s6' _ _ (sm5 _ _ (sm4 _ _ eb)), upd_same, small (by rw [vN_len]; show _ + 1 ≤ _; omega), fun p7 n7 => ?_⟩
          have s7' := same_upd (o := .lst (vN s.2 ++ [V.int (t : Int)])) n7
          refine ⟨small (by show 2 ≤ _; omega), fun p8 n8 => ?_⟩
          have s8' := same_upd (o := .tup [.ref pw, .ref p7]) n8
          have sA : Same G4 (upd (upd (upd G5 p6 (.lst [V.int (t : Int)])) p7 (.lst (vN s.2 ++ [V.int (t : Int)]))) p8 (.tup [.ref pw, .ref p7])) := sm5.trans (s6'.trans (s7'.trans s8'))
          have y1 := s8' _ _ (s7' _ _ (s6' _ _ e5))
          have y2 := s8' _ _ (upd_same (H := upd G5 p6 (.lst [V.int (t : Int)])) (a := p7) (o := .lst (vN s.2 ++ [V.int (t : Int)])))
          have y3 := upd_same (H := upd (upd G5 p6 (.lst [V.int (t : Int)])) p7 (.lst (vN s.2 ++ [V.int (t : Int)]))) (a := p8) (o := .tup [.ref pw, .ref p7])
          have d5 : pw ≠ L := fun z => by
            rw [z, eL4] at n5
            cases n5
          have d7 : p7 ≠ L := fun z => by
            rw [z, (s6' _ _ (sm5 _ _ eL4))] at n7
            cases n7
          have d8 : p8 ≠ L := fun z => by
            rw [z, s7' _ _ (s6' _ _ (sm5 _ _ eL4))] at n8
            cases n8
          generalize upd (upd (upd G5 p6 (.lst [V.int (t : Int)])) p7 (.lst (vN s.2 ++ [V.int (t : Int)]))) p8 (.tup [.ref pw, .ref p7]) = G8 at *
          refine ⟨L, _, _, rfl, rfl, sA _ _ eL4, million sz, ?_⟩
          have off : ∀ (b : Addr) (o : HO), b ≠ L → G4 b = some o → b ≠ L ∧ (upd G8 L (.lst (more ++ [V.ref p8]))) b = some o := fun b o h1 h2 => ⟨h1, by rw [upd_ne h1]; exact sA _ _ h2⟩
          refine ⟨_, more ++ [V.ref p8], rfl, fun b o z => ?_, (off ps _ nLp eP4).2, upd_same, ?_⟩
          · rw [upd_ne (ne_of_none z nL)]
            exact sA _ _ (sm4 _ _ z)
          · rw [take_more ht, List.map_append, ← List.append_assoc]
            refine (am4.mono (LdAt.mono off)).app ⟨p8, pw, p7, rfl, ⟨d8, d5, d7⟩, ?_, ?_, ?_⟩
            · rw [upd_ne d8]
              exact y3
            · rw [upd_ne d5]
              exact y1
            · rw [upd_ne d7, y2, vN_app]
              rfl
        · rintro ρ G4 ⟨z7, more, rfl, sm4, _, eL4, am4⟩
          rw [vN_len, List.take_length, ← grow_more hs] at am4
          exact ⟨_, _, _, more, rfl, sm4, eL4, am4⟩
      · rintro τ G2 ⟨w5, w6, w7, made, rfl, sm2, eL, am⟩
        rw [al.len, List.take_length] at am
        -- loadings = longer
        exact ⟨.ref L, rfl, L, _, _, _, _, _, made, rfl, sm.trans sm2, eL, am.mono (LdAt.mono fun b o _ h => ⟨trivial, h⟩)⟩
    · rintro σ G ⟨S0, v3, v4, v5, v6, v7, us, rfl, sm, eS, al⟩
      rw [vN_len, List.take_length] at al
      exact ⟨.ref S0, rfl, q G S0 us sm eS al⟩
end
/-! ### min_capacity -/
abbrev sMc : Stmt := top 7
theorem scMc : FnScope ["truck_limit", "lengths", "loadings", "capacities", "loads", "assignment"] ["truck_limit", "lengths"] (defScope sMc) := ⟨rfl, rfl, rfl, by decide +kernel, rfl, by decide +kernel, by decide +kernel⟩
def spMc (K : PySem.W.Frag) : Sp := fun vs H Q _ => ∃ (m : Int) (a : Addr) (ns : List Int), vs = [.int m, .ref a] ∧ SqL K H a (ns.map V.int) ∧ 0 ≤ m ∧ (∀ n ∈ ns, 0 ≤ n) ∧ ns.length ≤ 12 ∧
  ∀ H' p, H' p = some (.lst ((PyKbe6.min_capacity m ns).map V.int)) → Q (.ref p) H'
theorem fullest_is {m : Int} {ld : List Nat} (h1 : m ∈ asInts ld) (h2 : ∀ y, y ∈ asInts ld → y ≤ m) : m = ((fullest ld : Nat) : Int) := by
  obtain ⟨x, hx, rfl⟩ := List.mem_map.mp h1
  have e : ld ≠ [] := fun z => by
    rw [z] at hx
    cases hx
  unfold fullest
  rw [if_neg e]
  have a := (le_max ld 0).2 x hx
  show ((x : Nat) : Int) = _
  rcases max_mem ld 0 with z | z
  · omega
  · have b := h2 _ (List.mem_map.mpr ⟨_, z, rfl⟩)
    omega
theorem asInts_nil {l : List Nat} (h : asInts l = []) : l = [] := List.map_eq_nil_iff.mp h
/-- the capacities that are taken of the first loadings -/
def capsOf (m : Nat) (S : List (List Nat × List Nat)) : List Nat := (S.filter fun d => decide (d.1.length ≤ m)).map fun d => fullest d.1
theorem capsOf_next {m i : Nat} {S : List (List Nat × List Nat)} {s : List Nat × List Nat} (h : S[i]? = some s) : capsOf m (S.take (i + 1)) = capsOf m (S.take i) ++ if s.1.length ≤ m then [fullest s.1] else [] := by
  unfold capsOf
  rw [take_more h, List.filter_append, List.map_append, List.filter_cons, List.filter_nil]
  by_cases z : s.1.length ≤ m
  · rw [if_pos (decide_eq_true z), if_pos z]
    rfl
  · rw [if_neg (fun y => z (of_decide_eq_true y)), if_neg z]
    rfl
theorem capsOf_len (m i : Nat) (S : List (List Nat × List Nat)) : (capsOf m (S.take i)).length ≤ S.length := by
  unfold capsOf
  rw [List.length_map]
  exact Nat.le_trans (List.length_filter_le ..) (by rw [List.length_take]; omega)
section
variable {K : PySem.W.Frag} {base : Heap} {mg : Str → Option Value} {P : Program} {w : World}
theorem ok_mc {f fN fL : Addr} {fd fdN fdL : FuncData} {t0 t1 t4 t7 : Tok} (F : Fun K "min_capacity" "min_capacity" sMc f fd) (FN : Fun K "lengths_in_range" "lengths_in_range" sLens fN fdN) (FL : Fun K "feasible_loadings" "feasible_loadings" sFl fL fdL)
    (bN : Binds K fdN ["lengths"] []) (bL : Binds K fdL ["capacity", "lengths"] []) (gN : mg "lengths_in_range" = some (.ref fN)) (gL : mg "feasible_loadings" = some (.ref fL))
    (g0 : mg "MIN_CAPACITY" = some (.int 1 t0)) (g1 : mg "MAX_CAPACITY" = some (.int 100 t1)) (g4 : mg "OUT_OF_RANGE" = some (.int (-22) t4)) (g7 : mg "NO_SUCH_CAPACITY" = some (.int (-33) t7))
    (GN : FnOk P w K mg base CX0 1 fN fdN ["lengths"] (spLens K)) (GL : FnOk P w K mg base CX0 2 fL fdL ["capacity", "lengths"] (spFl K)) (ml : mg "len" = none) (mx : mg "max" = none) (mn : mg "min" = none) :
    FnOk P w K mg base CX0 3 f fd ["truck_limit", "lengths"] (spMc K) := by
  refine F.ok scMc (fun vs H Q E h => ?_) (fun cdv A outer s H vs Q E hr h => ?_)
  · obtain ⟨m, a, ns, rfl, _⟩ := h
    rfl
  · obtain ⟨m, a, ns, rfl, hS, hm, hn, hl, q⟩ := h
    refine ⟨_, pss_cons (ps_if (pt_not (pt_val (pe_call GN (hr.mono (by decide)) (by rfl) gN FN.kp bN .nil pass0 (pa_cons (pv 1) pa_nil)))) (pss_one (ps_ret (pe_lst (pa_cons (pe_glob (v := .int (-22)) rfl g4 ⟨_, rfl⟩) pa_nil)))) pss_nil)
      (pss_cons (ps_set (i := 2) scMc.nd rfl (.inl rfl) (pe_call GL hr (by rfl) gL FL.kp bL .nil pass0 (pa_cons (pe_glob (v := .int 100) rfl g1 ⟨_, rfl⟩) (pa_cons (pv 1) pa_nil))))
      (pss_cons (ps_setLc (i := 3) (own := [("loads", 4), ("assignment", 5)]) (g := gTup K 2 (gCons (gName 4) (gCons (gName 5) gNil))) rfl scMc.nd rfl rfl (sw_true rfl rfl rfl (by decide +kernel)) (pi_list (pv 2))
          (blkOk_by (own := [("loads", 4), ("assignment", 5)]) (N := ["truck_limit", "lengths", "loadings", "capacities", "loads", "assignment"]) (sc := defScope sMc) (by decide +kernel))
          (fun _ _ _ _ _ => pg_tup rfl (pgs_cons (pg_name (i := 4) scMc.nd rfl (.inl rfl)) (pgs_cons (pg_name (i := 5) scMc.nd rfl (.inl rfl)) pgs_nil)))
          (fun _ _ _ _ _ => pts_one (pt_cmpR op_le (pe_callB (r := rHow K) call_len_seq (by rfl) ml PySem.boot_len (pa_cons (pv 4) pa_nil)) (pv 0) (nomark _)))
          (fun _ _ _ _ _ => pe_callBK (r := rMaxDf K) (cr_maxDf rfl) (by rfl) mx (by decide +kernel) (pa_cons (pv 4) pa_nil) (pk_cons (pe_glob (v := .int 1) rfl g0 ⟨_, rfl⟩) pk_nil)))
      (pss_one (ps_ret (pe_lst (pa_cons (pe_callBK (cr_minDf rfl) (by rfl) mn (by decide +kernel) (pa_cons (pv 3) pa_nil) (pk_cons (pe_glob (v := .int (-33)) rfl g7 ⟨_, rfl⟩) pk_nil)) pa_nil)))))), ?_⟩
    refine ⟨.ref a, rfl, a, ns, rfl, hS, _, rfl, ?_⟩
    cases eo : okLens ns with
    | false =>
      have main := min_capacity_is (m := m) hn
      rw [if_pos eo] at main
      refine iteT ⟨small (by show 1 ≤ _; omega), fun p hp => q _ p ?_⟩
      rw [main, upd_same]
      rfl
    | true =>
      obtain ⟨l7, _⟩ := okLens_all eo
      have yes := fun v => min_capacity_some (m := m) (v := v) hn eo
      have no := min_capacity_none (m := m) hn eo
      have eb := ints_back hn
      have el : (ns.map Int.toNat).length ≤ 7 := by rw [List.length_map]; exact l7
      generalize ns.map Int.toNat = ls at yes no eb el
      subst eb
      obtain ⟨k, rfl⟩ : ∃ k : Nat, m = (k : Int) := ⟨m.toNat, (Int.toNat_of_nonneg hm).symm⟩
      rw [Int.toNat_natCast] at yes no
      have lenS := Nat.le_trans (loadings_len 100 el _ (Nat.le_refl _)) (Nat.pow_le_pow_right (n := 7) (by decide) el)
      rw [List.take_length] at lenS
      have ec : caps k ls = capsOf k (loadings 100 ls) := rfl
      rw [ec] at yes no
      -- feasible_loadings
      refine iteF ⟨.ref a, rfl, 100, a, ls, rfl, hS, el, fun H1 p us sm1 eP al => ?_⟩
      generalize loadings 100 ls = S at al yes no lenS
      -- capacities
      refine ⟨.ref p, rfl, p, rfl, ⟨_, .inl (.inl eP)⟩, fun D nD => lc_list (K := K) (a := p) (xs := us) (fun i G => Same H1 G ∧ G D = some (.lst (vN (capsOf k (S.take i)))))
        ⟨same_upd nD, upd_same⟩ (fun i G _ ⟨sm, _⟩ => .inl (.inl (sm _ _ eP))) ?_ ?_⟩
      · rintro i y G hi ⟨sm, eD⟩
        obtain ⟨s, hs, T, la, lb, rfl, _, eT, ea, _⟩ := al.at_ hi
        have next := capsOf_next (m := k) hs
        have short := capsOf_len k i S
        refine ⟨T, _, rfl, .inl (.inl (sm _ _ eT)), rfl, _, _, rfl, _, [], rfl, rfl, ?_⟩
        refine ⟨rfl, .ref la, rfl, la, _, rfl, .inl (.inl (.inl (sm _ _ ea))), _, rfl, _, _, rfl, rfl, _, rfl, ?_⟩
        rw [vN_len]
        have keep : ∀ v : Int, v = ((fullest s.1 : Nat) : Int) → s.1.length ≤ k → ∃ made, G D = some (.lst made) ∧ made.length < sizeLine ∧ (Same H1 (upd G D (.lst (made ++ [V.int v]))) ∧ (upd G D (.lst (made ++ [V.int v]))) D = some (.lst (vN (capsOf k (S.take (i + 1)))))) := by
          intro v ev z
          refine ⟨_, eD, million (by rw [vN_len]; omega), fun b o e => ?_, ?_⟩
          · rw [upd_ne (ne_of_none e nD)]
            exact sm _ _ e
          · rw [upd_same, next, if_pos z, ev, vN_app]
        by_cases z : s.1.length ≤ k
        · rw [decide_eq_true (show ((s.1.length : Nat) : Int) ≤ (k : Int) by omega)]
          refine iteT ⟨.ref la, rfl, la, asInts s.1, .int 1, rfl, rfl, .inl (.inl (sm _ _ ea)), fun e => keep 1 ?_ z, fun v v1 v2 => keep v (fullest_is v1 v2) z⟩
          rw [asInts_nil e]
          rfl
        · rw [decide_eq_false (show ¬ ((s.1.length : Nat) : Int) ≤ (k : Int) by omega)]
          refine iteF ⟨sm, ?_⟩
          rw [next, if_neg z, List.append_nil]
          exact eD
      · rintro G ⟨sm, eD⟩
        rw [al.len, List.take_length] at eD
        refine ⟨.ref D, rfl, D, asInts (capsOf k S), .int (-33), rfl, rfl, .inl (.inl eD), fun e => ⟨small (by show 1 ≤ _; omega), fun p2 hp => q _ p2 ?_⟩, fun v v1 v2 => ⟨small (by show 1 ≤ _; omega), fun p2 hp => q _ p2 ?_⟩⟩
        · rw [no (asInts_nil e), upd_same]
          rfl
        · obtain ⟨x, hx, rfl⟩ := List.mem_map.mp v1
          rw [yes x hx (fun y hy => by
            have := v2 (y : Int) (List.mem_map.mpr ⟨y, hy, rfl⟩)
            have this : ((x : Nat) : Int) ≤ (y : Int) := this
            omega), upd_same]
          rfl
end
/-! ### the end -/
theorem all_mk {P : Program} {w : World} {K : PySem.W.Frag} {h : Heap} {mg : Str → Option Value} {fa f1 f2 f3 f4 f5 : Addr} (X : K.In h) (G : h.Ns mainGlobals mg) (hfa : mg "min_capacity" = some (.ref fa))
    {od1 an1 od2 an2 od3 an3 od4 an4 od5 an5 : Option Addr} {sl1 sl2 sl3 sl4 sl5 : Array (Option Value)} {oc1 kV1 dc1 pm1 cd1 ct1 oc2 kV2 dc2 pm2 cd2 ct2 oc3 kV3 dc3 pm3 cd3 ct3 oc4 kV4 dc4 pm4 cd4 ct4 oc5 kV5 dc5 pm5 cd5 ct5 : Value} {t1 t2 t3 t4 t5 t6 : Tok}
    (a1 : PySem.W.nsIn K mainGlobals "min_capacity" = some (some (.ref f1))) (l1 : K.lookup f1 = some ⟨oc1, od1, .func (PySem.W.fnOf "min_capacity" "min_capacity" (defArgs sMc) (defBody sMc) (defScope sMc) .none kV1 dc1 pm1 an1 cd1 ct1), sl1⟩) (c1 : PySem.W.codeIn K cd1 "min_capacity" = true) (k1 : PySem.W.keepIn K (.ref f1) = true)
    (a2 : PySem.W.nsIn K mainGlobals "lengths_in_range" = some (some (.ref f2))) (l2 : K.lookup f2 = some ⟨oc2, od2, .func (PySem.W.fnOf "lengths_in_range" "lengths_in_range" (defArgs sLens) (defBody sLens) (defScope sLens) .none kV2 dc2 pm2 an2 cd2 ct2), sl2⟩) (c2 : PySem.W.codeIn K cd2 "lengths_in_range" = true) (k2 : PySem.W.keepIn K (.ref f2) = true)
    (a3 : PySem.W.nsIn K mainGlobals "feasible_loadings" = some (some (.ref f3))) (l3 : K.lookup f3 = some ⟨oc3, od3, .func (PySem.W.fnOf "feasible_loadings" "feasible_loadings" (defArgs sFl) (defBody sFl) (defScope sFl) .none kV3 dc3 pm3 an3 cd3 ct3), sl3⟩) (c3 : PySem.W.codeIn K cd3 "feasible_loadings" = true) (k3 : PySem.W.keepIn K (.ref f3) = true)
    (a4 : PySem.W.nsIn K mainGlobals "trucks_with_space" = some (some (.ref f4))) (l4 : K.lookup f4 = some ⟨oc4, od4, .func (PySem.W.fnOf "trucks_with_space" "trucks_with_space" (defArgs sSpc) (defBody sSpc) (defScope sSpc) .none kV4 dc4 pm4 an4 cd4 ct4), sl4⟩) (c4 : PySem.W.codeIn K cd4 "trucks_with_space" = true) (k4 : PySem.W.keepIn K (.ref f4) = true)
    (a5 : PySem.W.nsIn K mainGlobals "loads_with_pallet" = some (some (.ref f5))) (l5 : K.lookup f5 = some ⟨oc5, od5, .func (PySem.W.fnOf "loads_with_pallet" "loads_with_pallet" (defArgs sWit) (defBody sWit) (defScope sWit) .none kV5 dc5 pm5 an5 cd5 ct5), sl5⟩) (c5 : PySem.W.codeIn K cd5 "loads_with_pallet" = true) (k5 : PySem.W.keepIn K (.ref f5) = true)
    (g1 : PySem.W.nsIn K mainGlobals "MIN_CAPACITY" = some (some (.int (1) t1)))
    (g2 : PySem.W.nsIn K mainGlobals "MAX_CAPACITY" = some (some (.int (100) t2)))
    (g3 : PySem.W.nsIn K mainGlobals "MAX_PALLETS" = some (some (.int (7) t3)))
    (g4 : PySem.W.nsIn K mainGlobals "MAX_LENGTH" = some (some (.int (100) t4)))
    (g5 : PySem.W.nsIn K mainGlobals "OUT_OF_RANGE" = some (some (.int (-22) t5)))
    (g6 : PySem.W.nsIn K mainGlobals "NO_SUCH_CAPACITY" = some (some (.int (-33) t6)))
    (m1 : PySem.W.nsIn K mainGlobals "len" = some none)
    (m2 : PySem.W.nsIn K mainGlobals "list" = some none)
    (m3 : PySem.W.nsIn K mainGlobals "enumerate" = some none)
    (m4 : PySem.W.nsIn K mainGlobals "min" = some none)
    (m5 : PySem.W.nsIn K mainGlobals "max" = some none)
    : ∃ fd : FuncData, (∀ (s : Shared) (us : List Value), us.length = (["truck_limit", "lengths"] : List Str).length → BindsTo s fd ⟨us, []⟩ ((["truck_limit", "lengths"] : List Str).zip us)) ∧ ∀ base : Heap, K.In base → base.Ns mainGlobals mg → FnOk P w K mg base CX0 3 fa fd ["truck_limit", "lengths"] (spMc K) := by
  have e := hfa.symm.trans (PySem.W.mg_of X G a1)
  cases e
  have F_min_capacity := fun_mk (st := sMc) l1 c1 k1
  have F_lengths_in_range := fun_mk (st := sLens) l2 c2 k2
  have b_lengths_in_range := F_lengths_in_range.binds (ps := ["lengths"]) fun _ _ _ _ _ _ us hl => match us, hl with | [_], _ => rfl
  have g_lengths_in_range := PySem.W.mg_of X G a2
  have F_feasible_loadings := fun_mk (st := sFl) l3 c3 k3
  have b_feasible_loadings := F_feasible_loadings.binds (ps := ["capacity", "lengths"]) fun _ _ _ _ _ _ us hl => match us, hl with | [_, _], _ => rfl
  have g_feasible_loadings := PySem.W.mg_of X G a3
  have F_trucks_with_space := fun_mk (st := sSpc) l4 c4 k4
  have b_trucks_with_space := F_trucks_with_space.binds (ps := ["capacity", "loads", "length"]) fun _ _ _ _ _ _ us hl => match us, hl with | [_, _, _], _ => rfl
  have g_trucks_with_space := PySem.W.mg_of X G a4
  have F_loads_with_pallet := fun_mk (st := sWit) l5 c5 k5
  have b_loads_with_pallet := F_loads_with_pallet.binds (ps := ["loads", "truck", "length"]) fun _ _ _ _ _ _ us hl => match us, hl with | [_, _, _], _ => rfl
  have g_loads_with_pallet := PySem.W.mg_of X G a5
  have k_MIN_CAPACITY := PySem.W.mg_of X G g1
  have k_MAX_CAPACITY := PySem.W.mg_of X G g2
  have k_MAX_PALLETS := PySem.W.mg_of X G g3
  have k_MAX_LENGTH := PySem.W.mg_of X G g4
  have k_OUT_OF_RANGE := PySem.W.mg_of X G g5
  have k_NO_SUCH_CAPACITY := PySem.W.mg_of X G g6
  have n_len := PySem.W.ns_none_of X G m1
  have n_list := PySem.W.ns_none_of X G m2
  have n_enumerate := PySem.W.ns_none_of X G m3
  have n_min := PySem.W.ns_none_of X G m4
  have n_max := PySem.W.ns_none_of X G m5
  refine ⟨PySem.W.fnOf "min_capacity" "min_capacity" (defArgs sMc) (defBody sMc) (defScope sMc) .none kV1 dc1 pm1 an1 cd1 ct1, fun s us hu => match us, hu with | [_, _], _ => .of_eq rfl, fun base _ _ => ?_⟩
  exact ok_mc F_min_capacity F_lengths_in_range F_feasible_loadings b_lengths_in_range b_feasible_loadings g_lengths_in_range g_feasible_loadings k_MIN_CAPACITY k_MAX_CAPACITY k_OUT_OF_RANGE k_NO_SUCH_CAPACITY (ok_lens F_lengths_in_range k_MAX_PALLETS k_MAX_LENGTH n_len) (ok_fl F_feasible_loadings F_trucks_with_space F_loads_with_pallet b_trucks_with_space b_loads_with_pallet g_trucks_with_space g_loads_with_pallet n_enumerate n_len n_list) n_len n_max n_min
end TF
open PySem PySem.W PyProof.Rows
set_option maxRecDepth 100000 in
set_option maxHeartbeats 8000000 in
theorem PySem.Challenge.cw_truckfill_s07_min_capacity_holds : PySem.Challenge.rw_truckfill_s07_min_capacity.Holds := by
  w_on; k_headS; (case hw => exact ⟨[.int 0, .list []], by decide +kernel, by decide +kernel⟩)
  k_fillS
  refine L2.walk_specK (r := PySem.Challenge.rw_truckfill_s07_min_capacity) (k := 3) (CX := L2.CX0) (ps := ["truck_limit", "lengths"]) (sp := TF.spMc) (by decide +kernel) rfl rfl ⟨rfl, by decide, by decide⟩ (fun w h Y => PySem.W.kIn_of Y) ?F ?S (fun _ _ _ _ z => z)
  case F =>
    intro w mg fa h Y KX G hmg
    refine' TF.all_mk KX G hmg ?a1 ?l1 ?c1 ?k1 ?a2 ?l2 ?c2 ?k2 ?a3 ?l3 ?c3 ?k3 ?a4 ?l4 ?c4 ?k4 ?a5 ?l5 ?c5 ?k5 ?g1 ?g2 ?g3 ?g4 ?g5 ?g6 ?m1 ?m2 ?m3 ?m4 ?m5
    (case a1 => k_is); (case l1 => k_is); (case c1 => k_is); (case k1 => k_is)
    (case a2 => k_is); (case l2 => k_is); (case c2 => k_is); (case k2 => k_is)
    (case a3 => k_is); (case l3 => k_is); (case c3 => k_is); (case k3 => k_is)
    (case a4 => k_is); (case l4 => k_is); (case c4 => k_is); (case k4 => k_is)
    (case a5 => k_is); (case l5 => k_is); (case c5 => k_is); (case k5 => k_is)
    (case g1 => k_is); (case g2 => k_is); (case g3 => k_is); (case g4 => k_is); (case g5 => k_is); (case g6 => k_is); (case m1 => k_is); (case m2 => k_is); (case m3 => k_is); (case m4 => k_is); (case m5 => k_is)
  case S =>
    intro K H xs a hO hwi hask hx
    obtain ⟨m, ns, u⟩ := a
    cases hx with
    | cons h1 h2 =>
      cases h1
      cases h2 with
      | cons h3 h4 =>
        cases h4
        cases h3 with
        | lst hs ha =>
          have e := L2.ints_dw ns _ ha
          subst e
          have q : (Codec.inInt 0 4294967295 m && ((Codec.inLen 0 12 ns && ns.all (Codec.inInt 0 4294967295)) && true)) = true := hwi
          rw [Bool.and_eq_true, Bool.and_eq_true, Bool.and_eq_true] at q
          refine ⟨m, _, ns, rfl, hs, (Codec.inInt_iff.mp q.1).1, fun n hn => (Codec.inInt_iff.mp (List.all_eq_true.mp q.2.1.2 n hn)).1, (Codec.inNat_iff.mp q.2.1.1).2, fun H' p hp => .lst (L2.SqL.of hp) (L2.dw_ints _)⟩
#print axioms PySem.Challenge.cw_truckfill_s07_min_capacity_holds
