import PyProof.Rows.All
import Wide.All
import OpenK.AllK
import Wide.FinOn
import Open.SpecLaws
import KE.OsGo
import KE.DatumOrd
import HandS.ForSpec
import HandS.Comp
import HandS.Conv
import HandS.Iter
import PySem.Challenge.RW_truckfill_s05_threshold_bound
set_option Elab.async false
set_option maxRecDepth 100000
set_option maxHeartbeats 2000000
namespace TF
/-! ### the mirror of the loading -/
/-- the first truck with space, or the next new one -/
def fit (c : Nat) (ld : List Nat) (l : Nat) : Nat := (ld.findIdx? fun u => decide (u + l ≤ c)).getD ld.length
/-- the loads when a pallet is put there -/
def put (c : Nat) (ld : List Nat) (l : Nat) : List Nat := if fit c ld l = ld.length then ld ++ [l] else ld.set (fit c ld l) (ld.getD (fit c ld l) 0 + l)
/-- one turn of the loading: the loads, the assignment -/
def turn (c : Nat) (ls : List Nat) (s : List Nat × List Nat) (p : Nat) : List Nat × List Nat := (put c s.1 (ls.getD p 0), s.2.set p (fit c s.1 (ls.getD p 0)))
def run (c : Nat) (ls order : List Nat) : List Nat × List Nat := order.foldl (turn c ls) ([], List.replicate ls.length 0)
/-- what the loading hands back -/
def loaded (c : Nat) (ls order : List Nat) : List Nat := (run c ls order).1.length :: (run c ls order).2

theorem fit_le (c : Nat) (ld : List Nat) (l : Nat) : fit c ld l ≤ ld.length := by
  unfold fit
  cases e : ld.findIdx? fun u => decide (u + l ≤ c) with
  | none => exact Nat.le_refl _
  | some i =>
    obtain ⟨h, _⟩ := List.findIdx?_eq_some_iff_getElem.mp e
    exact Nat.le_of_lt h
theorem put_len (c : Nat) (ld : List Nat) (l : Nat) : (put c ld l).length = if fit c ld l = ld.length then ld.length + 1 else ld.length := by
  unfold put
  split
  · simp
  · simp
/-- the specification, one pallet at a time -/
theorem ff_cons (c : Nat) (ld : List Nat) (l : Nat) (r : List Nat) : Kbe6.firstFitFrom c ld (l :: r) = fit c ld l :: Kbe6.firstFitFrom c (put c ld l) r := by
  rw [Kbe6.firstFitFrom]
  unfold put fit
  cases e : ld.findIdx? fun u => decide (u + l ≤ c) with
  | none => simp
  | some i =>
    obtain ⟨h, _⟩ := List.findIdx?_eq_some_iff_getElem.mp e
    have h' : i ≠ ld.length := Nat.ne_of_lt h
    simp [h']
theorem ff_len (c : Nat) : ∀ (xs ld : List Nat), (Kbe6.firstFitFrom c ld xs).length = xs.length
  | [], _ => rfl
  | x :: r, ld => by
    rw [ff_cons, List.length_cons, ff_len c r, List.length_cons]
/-- the greatest truck used and the number of loads -/
theorem ff_max (c : Nat) : ∀ (xs ld : List Nat) (m : Nat), ld.length = m + 1 → (Kbe6.firstFitFrom c ld xs).foldl max m + 1 = (xs.foldl (put c) ld).length
  | [], ld, m, h => h.symm
  | x :: r, ld, m, h => by
    rw [ff_cons, List.foldl_cons, List.foldl_cons]
    have hl := fit_le c ld x
    have hp := put_len c ld x
    by_cases e : fit c ld x = ld.length
    · rw [if_pos e] at hp
      have em : max m (fit c ld x) = m + 1 := by omega
      rw [em]
      exact ff_max c r _ _ (by omega)
    · rw [if_neg e] at hp
      have em : max m (fit c ld x) = m := by omega
      rw [em]
      exact ff_max c r _ _ (by omega)
theorem ff_count (c : Nat) (xs : List Nat) : Kbe6.truckCount (Kbe6.firstFit c xs) = (xs.foldl (put c) []).length := by
  unfold Kbe6.truckCount Kbe6.firstFit
  cases xs with
  | nil => rfl
  | cons x r =>
    rw [ff_cons]
    have f0 : fit c [] x = 0 := rfl
    have p0 : put c [] x = [x] := rfl
    rw [f0, p0]
    show List.foldl max (max 0 0) _ + 1 = _
    exact ff_max c r [x] 0 rfl
/-! ### lists of naturals: the greatest -/
theorem le_max : ∀ (l : List Nat) (a : Nat), a ≤ l.foldl max a ∧ ∀ x ∈ l, x ≤ l.foldl max a
  | [], a => ⟨Nat.le_refl _, fun x h => absurd h (by simp)⟩
  | y :: r, a => by
    obtain ⟨h1, h2⟩ := le_max r (max a y)
    rw [List.foldl_cons]
    refine ⟨by omega, fun x hx => ?_⟩
    rcases List.mem_cons.mp hx with e | m
    · omega
    · exact h2 x m
theorem max_mem : ∀ (l : List Nat) (a : Nat), l.foldl max a = a ∨ l.foldl max a ∈ l
  | [], a => .inl rfl
  | y :: r, a => by
    rw [List.foldl_cons]
    rcases max_mem r (max a y) with e | m
    · rw [e]
      by_cases h : a ≤ y
      · right
        rw [Nat.max_eq_right h]
        exact List.mem_cons_self ..
      · left
        omega
    · exact .inr (List.mem_cons_of_mem _ m)
theorem max_same {l k : List Nat} (h : ∀ x, x ∈ l ↔ x ∈ k) : l.foldl max 0 = k.foldl max 0 := by
  have a := le_max l 0
  have b := le_max k 0
  have h1 : l.foldl max 0 ≤ k.foldl max 0 := by
    rcases max_mem l 0 with e | m
    · omega
    · exact b.2 _ ((h _).mp m)
  have h2 : k.foldl max 0 ≤ l.foldl max 0 := by
    rcases max_mem k 0 with e | m
    · omega
    · exact a.2 _ ((h _).mpr m)
  omega
theorem count_same {l k : List Nat} (h : ∀ x, x ∈ l ↔ x ∈ k) : Kbe6.truckCount l = Kbe6.truckCount k := by
  unfold Kbe6.truckCount
  cases l with
  | nil =>
    cases k with
    | nil => rfl
    | cons y r => exact absurd ((h y).mpr (List.mem_cons_self ..)) (by simp)
  | cons x q =>
    cases k with
    | nil => exact absurd ((h x).mp (List.mem_cons_self ..)) (by simp)
    | cons y r =>
      rw [max_same h]
      rfl
/-! ### the fold of the turns -/
theorem run_loads (c : Nat) (ls : List Nat) : ∀ (order : List Nat) (s : List Nat × List Nat), (order.foldl (turn c ls) s).1 = (order.map fun p => ls.getD p 0).foldl (put c) s.1
  | [], _ => rfl
  | p :: r, s => by
    rw [List.foldl_cons, List.map_cons, List.foldl_cons, run_loads c ls r]
    rfl
theorem run_len (c : Nat) (ls : List Nat) : ∀ (order : List Nat) (s : List Nat × List Nat), (order.foldl (turn c ls) s).2.length = s.2.length
  | [], _ => rfl
  | p :: r, s => by
    rw [List.foldl_cons, run_len c ls r]
    show (s.2.set p _).length = _
    exact List.length_set
/-- a place that no later turn writes -/
theorem run_skip (c : Nat) (ls : List Nat) : ∀ (order : List Nat) (s : List Nat × List Nat) (i : Nat), i ∉ order → (order.foldl (turn c ls) s).2[i]? = s.2[i]?
  | [], _, _, _ => rfl
  | p :: r, s, i, h => by
    rw [List.foldl_cons, run_skip c ls r _ i (fun z => h (List.mem_cons_of_mem _ z))]
    show (s.2.set p _)[i]? = _
    exact List.getElem?_set_ne (fun e => h (by rw [e]; exact List.mem_cons_self ..))
theorem run_at (c : Nat) (ls : List Nat) : ∀ (order : List Nat) (s : List Nat × List Nat) (k i : Nat), order.Nodup → order[k]? = some i → i < s.2.length → (order.foldl (turn c ls) s).2[i]? = (Kbe6.firstFitFrom c s.1 (order.map fun p => ls.getD p 0))[k]?
  | [], _, _, _, _, h, _ => by simp at h
  | p :: r, s, 0, i, hn, h, hi => by
    have e : p = i := Option.some.inj h
    subst e
    rw [List.foldl_cons, run_skip c ls r _ p (List.nodup_cons.mp hn).1, List.map_cons, ff_cons]
    show (s.2.set p _)[p]? = some _
    exact List.getElem?_set_self hi
  | p :: r, s, k + 1, i, hn, h, hi => by
    rw [List.foldl_cons, List.map_cons, ff_cons]
    show _ = (Kbe6.firstFitFrom c (put c s.1 (ls.getD p 0)) (r.map fun p => ls.getD p 0))[k]?
    refine run_at c ls r (turn c ls s p) k i (List.nodup_cons.mp hn).2 h ?_
    show i < (s.2.set p _).length
    rw [List.length_set]
    exact hi
/-- the assignment, pallet by pallet -/
theorem run_spec (c : Nat) (ls order : List Nat) (hp : order.Perm (List.range ls.length)) :
    (run c ls order).2 = (List.range ls.length).map fun i => (Kbe6.firstFit c (order.map fun p => ls.getD p 0)).getD ((order.findIdx? (· == i)).getD 0) 0 := by
  have hn : order.Nodup := hp.nodup_iff.mpr List.nodup_range
  have hl : order.length = ls.length := by rw [hp.length_eq, List.length_range]
  refine List.ext_getElem? fun i => ?_
  have len1 : (run c ls order).2.length = ls.length := by
    unfold run
    rw [run_len, List.length_replicate]
  by_cases hi : i < ls.length
  · have hm : i ∈ order := hp.mem_iff.mpr (List.mem_range.mpr hi)
    obtain ⟨k, hk, e⟩ : ∃ k, ∃ _ : k < order.length, order.findIdx? (· == i) = some k := by
      cases e : order.findIdx? (· == i) with
      | none =>
        have := List.findIdx?_eq_none_iff.mp e i hm
        simp at this
      | some k =>
        obtain ⟨h, _⟩ := List.findIdx?_eq_some_iff_getElem.mp e
        exact ⟨k, h, rfl⟩
    obtain ⟨_, h2, _⟩ := List.findIdx?_eq_some_iff_getElem.mp e
    have ek : order[k]? = some i := by
      rw [List.getElem?_eq_getElem hk]
      exact congrArg some (by simpa using h2)
    have q := run_at c ls order ([], List.replicate ls.length 0) k i hn ek (by rw [List.length_replicate]; exact hi)
    show (run c ls order).2[i]? = _
    rw [List.getElem?_map, List.getElem?_range hi]
    show _ = some ((Kbe6.firstFit c _).getD ((order.findIdx? (· == i)).getD 0) 0)
    rw [e]
    show _ = some ((Kbe6.firstFit c _).getD k 0)
    have hk2 : k < (Kbe6.firstFit c (order.map fun p => ls.getD p 0)).length := by
      unfold Kbe6.firstFit
      rw [ff_len, List.length_map]
      exact hk
    rw [List.getD_eq_getElem?_getD, List.getElem?_eq_getElem hk2, Option.getD_some, ← List.getElem?_eq_getElem hk2]
    exact q
  · rw [List.getElem?_eq_none (by omega), List.getElem?_eq_none (by rw [List.length_map, List.length_range]; omega)]
theorem run_count (c : Nat) (ls order : List Nat) (hp : order.Perm (List.range ls.length)) : Kbe6.truckCount (run c ls order).2 = (run c ls order).1.length := by
  have hn : order.Nodup := hp.nodup_iff.mpr List.nodup_range
  have hl : order.length = ls.length := by rw [hp.length_eq, List.length_range]
  have e1 : (run c ls order).1.length = Kbe6.truckCount (Kbe6.firstFit c (order.map fun p => ls.getD p 0)) := by
    rw [ff_count]
    unfold run
    rw [run_loads]
  rw [e1]
  have len1 : (run c ls order).2.length = ls.length := by
    unfold run
    rw [run_len, List.length_replicate]
  have at_ : ∀ k i, order[k]? = some i → (run c ls order).2[i]? = (Kbe6.firstFit c (order.map fun p => ls.getD p 0))[k]? := fun k i e =>
    run_at c ls order ([], List.replicate ls.length 0) k i hn e (by
      rw [List.length_replicate]
      exact List.mem_range.mp (hp.mem_iff.mp (List.mem_of_getElem? e)))
  refine count_same fun x => ⟨fun hx => ?_, fun hx => ?_⟩
  · obtain ⟨i, hi⟩ := List.getElem?_of_mem hx
    have hlt : i < ls.length := by
      obtain ⟨h, _⟩ := List.getElem?_eq_some_iff.mp hi
      omega
    obtain ⟨k, hk⟩ := List.getElem?_of_mem (hp.mem_iff.mpr (List.mem_range.mpr hlt))
    rw [at_ k i hk] at hi
    exact List.mem_of_getElem? hi
  · obtain ⟨k, hk⟩ := List.getElem?_of_mem hx
    have hlt : k < order.length := by
      obtain ⟨h, _⟩ := List.getElem?_eq_some_iff.mp hk
      unfold Kbe6.firstFit at h
      rw [ff_len, List.length_map] at h
      exact h
    have q := at_ k _ (List.getElem?_eq_getElem hlt)
    rw [hk] at q
    exact List.mem_of_getElem? q
/-- the loading in the order of the numbers -/
theorem run_first (c : Nat) (ls : List Nat) : (run c ls (List.range ls.length)).2 = Kbe6.firstFit c ls := by
  have e0 : (List.range ls.length).map (fun p => ls.getD p 0) = ls := by
    refine List.ext_getElem? fun i => ?_
    rw [List.getElem?_map]
    by_cases hi : i < ls.length
    · rw [List.getElem?_range hi, Option.map_some, List.getD_eq_getElem?_getD, List.getElem?_eq_getElem hi, Option.getD_some]
    · rw [List.getElem?_eq_none (by rw [List.length_range]; omega), List.getElem?_eq_none (by omega)]
      rfl
  refine List.ext_getElem? fun i => ?_
  have len1 : (run c ls (List.range ls.length)).2.length = ls.length := by
    unfold run
    rw [run_len, List.length_replicate]
  by_cases hi : i < ls.length
  · have q := run_at c ls (List.range ls.length) ([], List.replicate ls.length 0) i i List.nodup_range (List.getElem?_range hi) (by rw [List.length_replicate]; exact hi)
    rw [e0] at q
    exact q
  · have l2 : (Kbe6.firstFit c ls).length = ls.length := by
      unfold Kbe6.firstFit
      rw [ff_len]
    rw [List.getElem?_eq_none (by omega), List.getElem?_eq_none (by omega)]
/-! ### the errors -/
def okLen (n : Int) : Bool := decide (1 ≤ n) && decide (n ≤ 100)
def okLens (ns : List Int) : Bool := decide (ns.length ≤ 7) && ns.all okLen
def okCap (c : Int) : Bool := decide (1 ≤ c) && decide (c ≤ 100)
/-- the code of the error that is due, or 0 -/
def err (c : Int) (ns : List Int) : Int := if (okCap c && okLens ns) = true then (if (ns.any fun n => decide (c < n)) = true then -33 else 0) else -22
theorem toNat_len {n : Int} (h : 0 ≤ n) : (decide (1 ≤ n.toNat) && decide (n.toNat ≤ 100)) = okLen n := by
  unfold okLen
  congr 1
  · exact decide_eq_decide.mpr (by omega)
  · exact decide_eq_decide.mpr (by omega)
theorem valid_is {ns : List Int} (h : ∀ n ∈ ns, 0 ≤ n) : Kbe6.validLengths (ns.map Int.toNat) = okLens ns := by
  unfold Kbe6.validLengths okLens
  rw [List.length_map, List.all_map]
  congr 1
  induction ns with
  | nil => rfl
  | cons n r ih =>
    rw [List.all_cons, List.all_cons, ih fun x hx => h x (List.mem_cons_of_mem _ hx)]
    rw [← toNat_len (h n (List.mem_cons_self ..))]
    rfl
theorem any_is {c : Int} {ns : List Int} (hc : 0 ≤ c) (h : ∀ n ∈ ns, 0 ≤ n) : ((ns.map Int.toNat).any fun l => decide (c.toNat < l)) = ns.any fun n => decide (c < n) := by
  rw [List.any_map]
  induction ns with
  | nil => rfl
  | cons n r ih =>
    rw [List.any_cons, List.any_cons, ih fun x hx => h x (List.mem_cons_of_mem _ hx)]
    congr 1
    have := h n (List.mem_cons_self ..)
    exact decide_eq_decide.mpr (by omega)
/-- what is answered of a response -/
def answer (r : Kbe6.Response) : List Int := r.head :: r.tail
theorem req_is {c : Int} {ns : List Int} (hc : 0 ≤ c) (h : ∀ n ∈ ns, 0 ≤ n) (r : Kbe6.Response) :
    answer (Kbe6.requireCapacity c.toNat (ns.map Int.toNat) r) = if err c ns ≠ 0 then [err c ns] else answer r := by
  unfold Kbe6.requireCapacity err
  rw [valid_is h, any_is hc h]
  by_cases h1 : (okCap c && okLens ns) = true
  · rw [if_pos h1]
    obtain ⟨a, b⟩ := Bool.and_eq_true_iff.mp h1
    unfold okCap at a
    simp only [Bool.and_eq_true, decide_eq_true_eq] at a
    rw [if_neg (by rw [b]; intro z; rcases z with z | z | z; · cases z
                   · omega
                   · omega)]
    by_cases h2 : (ns.any fun n => decide (c < n)) = true
    · rw [if_pos h2, if_pos h2, if_pos (by decide)]
      rfl
    · rw [if_neg h2, if_neg h2, if_neg (by decide)]
  · rw [if_neg h1, if_pos (show (-22 : Int) ≠ 0 by decide)]
    rw [if_pos]
    · rfl
    · unfold okCap at h1
      by_cases hl : okLens ns = true
      · rw [hl] at h1
        simp only [Bool.and_true, Bool.and_eq_true, decide_eq_true_eq] at h1
        right
        omega
      · left
        simpa using hl
theorem err_zero {c : Int} {ns : List Int} (h : err c ns = 0) : (1 ≤ c ∧ c ≤ 100) ∧ ns.length ≤ 7 ∧ (∀ n ∈ ns, 1 ≤ n ∧ n ≤ 100) ∧ ∀ n ∈ ns, n ≤ c := by
  unfold err at h
  split at h
  · rename_i h1
    split at h
    · omega
    · rename_i h2
      unfold okCap okLens at h1
      simp only [Bool.and_eq_true, decide_eq_true_eq, List.all_eq_true] at h1
      simp only [Bool.not_eq_true, List.any_eq_false, decide_eq_true_eq] at h2
      refine ⟨h1.1, h1.2.1, fun n hn => ?_, fun n hn => ?_⟩
      · have q := h1.2.2 n hn
        unfold okLen at q
        simp only [Bool.and_eq_true, decide_eq_true_eq] at q
        exact q
      · have := h2 n hn
        omega
  · omega
/-- naturals as whole numbers -/
def asInts (l : List Nat) : List Int := l.map fun (x : Nat) => (x : Int)
theorem ints_back {ns : List Int} (h : ∀ n ∈ ns, 0 ≤ n) : ns = asInts (ns.map Int.toNat) := by
  unfold asInts
  rw [List.map_map]
  induction ns with
  | nil => rfl
  | cons n r ih =>
    rw [List.map_cons, ← ih fun x hx => h x (List.mem_cons_of_mem _ hx)]
    have := h n (List.mem_cons_self ..)
    show n :: r = ((n.toNat : Nat) : Int) :: r
    rw [Int.toNat_of_nonneg this]
theorem first_fit_is {c : Int} {ns : List Int} (hc : 0 ≤ c) (h : ∀ n ∈ ns, 0 ≤ n) :
    PyKbe6.first_fit c ns = if err c ns ≠ 0 then [err c ns] else asInts (loaded c.toNat (ns.map Int.toNat) (List.range ns.length)) := by
  show answer (Kbe6.requireCapacity c.toNat (ns.map Int.toNat) (Kbe6.encodeAssignment (Kbe6.firstFit c.toNat (ns.map Int.toNat)))) = _
  rw [req_is hc h]
  congr 1
  have e : ns.length = (ns.map Int.toNat).length := by rw [List.length_map]
  unfold loaded
  rw [e, ← run_count _ _ _ (List.Perm.refl _), run_first]
  rfl
theorem first_fit_decreasing_is {c : Int} {ns : List Int} (hc : 0 ≤ c) (h : ∀ n ∈ ns, 0 ≤ n) (order : List Nat) (ho : order = Kbe6.decreasingOrder (ns.map Int.toNat)) (hp : order.Perm (List.range ns.length)) :
    PyKbe6.first_fit_decreasing c ns = if err c ns ≠ 0 then [err c ns] else asInts (loaded c.toNat (ns.map Int.toNat) order) := by
  show answer (Kbe6.requireCapacity c.toNat (ns.map Int.toNat) (Kbe6.encodeAssignment (Kbe6.firstFitDecreasing c.toNat (ns.map Int.toNat)))) = _
  rw [req_is hc h]
  congr 1
  have e : ns.length = (ns.map Int.toNat).length := by rw [List.length_map]
  rw [e] at hp
  unfold loaded
  rw [← run_count _ _ _ hp, run_spec _ _ _ hp, ho]
  rfl
/-! ### sums -/
theorem sum_from : ∀ (l : List Nat) (a : Nat), l.foldl (· + ·) a = a + l.foldl (· + ·) 0
  | [], _ => rfl
  | x :: r, a => by
    rw [List.foldl_cons, List.foldl_cons, sum_from r (a + x), sum_from r (0 + x)]
    omega
theorem sumOf_cons (x : Nat) (l : List Nat) : Kbe6.sumOf (x :: l) = x + Kbe6.sumOf l := by
  unfold Kbe6.sumOf
  rw [List.foldl_cons, sum_from, Nat.zero_add]
end TF
namespace TF
open PySem PySem.Spec PyProof.Rows L2
/-! ### words over heaps and lists -/
theorem same_upd {H : Hp} {p : Addr} {o : HO} (free : H p = none) : Same H (upd H p o) := by
  intro b x there
  rw [upd_ne (ne_of_none there free)]
  exact there
/-- a list of naturals as values -/
abbrev vN (l : List Nat) : List V := (asInts l).map V.int
theorem vN_get {l : List Nat} {i : Nat} {x : Nat} (h : l[i]? = some x) : (vN l)[i]? = some (V.int (x : Int)) := by
  unfold vN asInts
  rw [List.getElem?_map, List.getElem?_map, h]
  rfl
theorem vN_len (l : List Nat) : (vN l).length = l.length := by
  unfold vN asInts
  rw [List.length_map, List.length_map]
theorem vN_set (l : List Nat) (i x : Nat) : (vN l).set i (V.int (x : Int)) = vN (l.set i x) := by
  unfold vN asInts
  rw [List.map_set, List.map_set]
theorem vN_app (l : List Nat) (x : Nat) : vN l ++ [V.int (x : Int)] = vN (l ++ [x]) := by
  unfold vN asInts
  rw [List.map_append, List.map_append]
  rfl
theorem vN_cons (l : List Nat) (x : Nat) : V.int (x : Int) :: vN l = vN (x :: l) := rfl
theorem int_at {ns : List Int} {i : Nat} {y : V} (h : (ns.map V.int)[i]? = some y) : ∃ z, ns[i]? = some z ∧ y = V.int z := by
  rw [List.getElem?_map] at h
  cases e : ns[i]? with
  | none =>
    rw [e] at h
    cases h
  | some z =>
    rw [e] at h
    exact ⟨z, rfl, (Option.some.inj h).symm⟩
theorem vN_at {l : List Nat} {i : Nat} {y : V} (h : (vN l)[i]? = some y) : ∃ z, l[i]? = some z ∧ y = V.int (z : Nat) := by
  obtain ⟨z, hz, rfl⟩ := int_at h
  unfold asInts at hz
  rw [List.getElem?_map] at hz
  cases e : l[i]? with
  | none =>
    rw [e] at hz
    cases hz
  | some x =>
    rw [e] at hz
    exact ⟨x, rfl, congrArg V.int (Option.some.inj hz).symm⟩
theorem ixN_nat {n j : Nat} (h : j < n) : ixN n (j : Int) = some j := by
  unfold ixN
  rw [if_pos (by omega), if_pos (by omega)]
  exact congrArg some (by omega)
theorem small {n : Nat} (h : n ≤ 100000) : n ≤ sizeLine := Nat.le_trans h (by decide)
theorem smallL {n : Nat} (h : n ≤ 100000) : n < sizeLine := Nat.lt_of_le_of_lt h (by decide)
/-- one item more -/
theorem take_more {α : Type} {l : List α} {i : Nat} {x : α} (h : l[i]? = some x) : l.take (i + 1) = l.take i ++ [x] := by
  rw [List.take_add_one, h]
  rfl
theorem getD_get {l : List Nat} {i : Nat} (h : i < l.length) : l[i]? = some (l.getD i 0) := by
  rw [List.getD_eq_getElem?_getD, List.getElem?_eq_getElem h]
  rfl
/-- the i-th statement of the program -/
def top (i : Nat) : Stmt := PySem.Challenge.pw_truckfill_s05_threshold_bound.main.body.getD i (.Pass ⟨0, 0, 0, 0⟩)
/-! ### lengths_in_range -/
abbrev sLens : Stmt := top 12
theorem scLens : FnScope ["lengths", "length"] ["lengths"] (defScope sLens) := ⟨rfl, rfl, rfl, by decide +kernel, rfl, by decide +kernel, by decide +kernel⟩
def spLens (K : PySem.W.Frag) : Sp := fun vs H Q _ => ∃ (a : Addr) (ns : List Int), vs = [.ref a] ∧ SqL K H a (ns.map V.int) ∧ Q (.bl (okLens ns)) H
section
variable {K : PySem.W.Frag} {base : Heap} {mg : Str → Option Value} {P : Program} {w : World}
theorem ok_lens {f : Addr} {fd : FuncData} {t1 t2 : Tok} (F : Fun K "lengths_in_range" "lengths_in_range" sLens f fd) (gP : mg "MAX_PALLETS" = some (.int 7 t1)) (gM : mg "MAX_LENGTH" = some (.int 100 t2)) (ml : mg "len" = none) :
    FnOk P w K mg base CX0 1 f fd ["lengths"] (spLens K) := by
  refine F.ok scLens (fun vs H Q E h => ?_) (fun cdv A outer s H vs Q E hr h => ?_)
  · obtain ⟨a, ns, rfl, _⟩ := h
    rfl
  · obtain ⟨a, ns, rfl, hS, q⟩ := h
    refine ⟨_, pss_cons (ps_if (pt_cmpR op_gt (pe_callB call_len_seq (by rfl) ml PySem.boot_len (pa_cons (pv 0) pa_nil)) (pe_glob (v := .int 7) rfl gP ⟨_, rfl⟩) (nomark _)) (pss_one (ps_ret pe_bl)) pss_nil)
      (pss_cons (ps_for PassesOwn.never rfl (pi_list (pv 0)) (pg_name (i := 1) scLens.nd rfl (.inl rfl))
        (pss_one (ps_if (PW.pt (pw_or (pt_cmpR op_lt (pv 1) pe_int (nomark _)) (pw_or1 (pt_cmpR op_gt (pv 1) (pe_glob (v := .int 100) rfl gM ⟨_, rfl⟩) (nomark _))))) (pss_one (ps_ret pe_bl)) pss_nil)))
      (pss_one (ps_ret pe_bl))), ?_⟩
    refine ⟨.ref a, rfl, a, ns.map V.int, rfl, .inl hS, _, _, rfl, rfl, _, rfl, ite2 (fun e => ?_) (fun e => ?_)⟩
    · have e0 : (7 : Int) < ((ns.map V.int).length : Nat) := of_decide_eq_true e
      rw [List.length_map] at e0
      have e1 : okLens ns = false := by
        unfold okLens
        rw [decide_eq_false (by omega)]
        rfl
      rw [e1] at q
      exact q
    · have e0 : ¬ (7 : Int) < ((ns.map V.int).length : Nat) := fun z => e (decide_eq_true z)
      rw [List.length_map] at e0
      have e1 : okLens ns = ns.all okLen := by
        unfold okLens
        rw [decide_eq_true (by omega)]
        rfl
      rw [e1] at q
      refine ⟨.ref a, rfl, a, rfl, ⟨_, hS⟩, for_list (K := K) (a := a) (xs := ns.map V.int) (fun i σ H' => H' = H ∧ (∃ v : Option V, σ = [some (.ref a), v]) ∧ (ns.take i).all okLen = true)
        ⟨rfl, ⟨none, rfl⟩, rfl⟩ (fun i σ H' _ ⟨e, _, _⟩ => by rw [e]; exact hS) ?_ ?_⟩
      · rintro i y σ H' hi ⟨rfl, ⟨v, rfl⟩, hall⟩
        obtain ⟨z, hz, rfl⟩ := int_at hi
        have out : okLen z = false → Q (.bl false) H' := fun hb => by
          have e2 : ns.all okLen = false := by
            rw [List.all_eq_false]
            exact ⟨z, List.mem_of_getElem? hz, by rw [hb]; exact Bool.false_ne_true⟩
          rw [e2] at q
          exact q
        refine ⟨_, rfl, _, _, rfl, rfl, _, rfl, ite2 (fun e => ?_) (fun e => ?_)⟩
        · refine iteT (out ?_)
          have e0 : z < 1 := of_decide_eq_true e
          unfold okLen
          rw [decide_eq_false (by omega)]
          rfl
        · have e0 : ¬ z < 1 := fun w => e (decide_eq_true w)
          refine ⟨_, rfl, _, _, rfl, rfl, _, rfl, ite2 (fun e2 => ?_) (fun e2 => ?_)⟩
          · refine out ?_
            have e3 : (100 : Int) < z := of_decide_eq_true e2
            unfold okLen
            rw [decide_eq_false (show ¬ z ≤ 100 by omega), Bool.and_false]
          · have e3 : ¬ (100 : Int) < z := fun w => e2 (decide_eq_true w)
            refine ⟨rfl, ⟨_, rfl⟩, ?_⟩
            rw [take_more hz, List.all_append, hall, List.all_cons]
            unfold okLen
            rw [decide_eq_true (show 1 ≤ z by omega), decide_eq_true (show z ≤ 100 by omega)]
            rfl
      · rintro σ H' ⟨rfl, ⟨v, rfl⟩, hall⟩
        rw [List.length_map, List.take_length] at hall
        rw [hall] at q
        exact q
end
/-! ### capacity_in_range, loading_error -/
abbrev sCap : Stmt := top 11
abbrev sErr : Stmt := top 10
theorem scCap : FnScope ["capacity"] ["capacity"] (defScope sCap) := ⟨rfl, rfl, rfl, by decide +kernel, rfl, by decide +kernel, by decide +kernel⟩
theorem scErr : FnScope ["capacity", "lengths", "length"] ["capacity", "lengths"] (defScope sErr) := ⟨rfl, rfl, rfl, by decide +kernel, rfl, by decide +kernel, by decide +kernel⟩
def spCap : Sp := fun vs H Q _ => ∃ c : Int, vs = [.int c] ∧ Q (.bl (okCap c)) H
def spErr (K : PySem.W.Frag) : Sp := fun vs H Q _ => ∃ (c : Int) (a : Addr) (ns : List Int), vs = [.int c, .ref a] ∧ SqL K H a (ns.map V.int) ∧ Q (.int (err c ns)) H
section
variable {K : PySem.W.Frag} {base : Heap} {mg : Str → Option Value} {P : Program} {w : World}
theorem ok_cap {f : Addr} {fd : FuncData} {t0 t1 : Tok} (F : Fun K "capacity_in_range" "capacity_in_range" sCap f fd) (g0 : mg "MIN_CAPACITY" = some (.int 1 t0)) (gM : mg "MAX_CAPACITY" = some (.int 100 t1)) : FnOk P w K mg base CX0 1 f fd ["capacity"] spCap := by
  refine F.ok scCap (fun vs H Q E h => ?_) (fun cdv A outer s H vs Q E hr h => ?_)
  · obtain ⟨c, rfl, _⟩ := h
    rfl
  · obtain ⟨c, rfl, q⟩ := h
    refine ⟨_, pss_one (ps_ret (pe_and (pe_cmpR op_ge (pv 0) (pe_glob (v := .int 1) rfl g0 ⟨_, rfl⟩) (nomark _)) (pe_one (pe_cmpR op_le (pv 0) (pe_glob (v := .int 100) rfl gM ⟨_, rfl⟩) (nomark _))))), ?_⟩
    refine ⟨_, rfl, _, _, rfl, rfl, _, rfl, ite2 (fun e => ?_) (fun e => ?_)⟩
    · refine ⟨_, rfl, _, _, rfl, rfl, ?_⟩
      have e1 : okCap c = decide (c ≤ 100) := by
        unfold okCap
        rw [e]
        rfl
      rw [e1] at q
      exact q
    · have e1 : okCap c = false := by
        unfold okCap
        rw [Bool.eq_false_iff.mpr e]
        rfl
      rw [e1] at q
      exact q
theorem ok_err {f fC fL : Addr} {fd fdC fdL : FuncData} {t0 t1 t2 t3 t4 t5 t6 : Tok} (F : Fun K "loading_error" "loading_error" sErr f fd) (FC : Fun K "capacity_in_range" "capacity_in_range" sCap fC fdC) (FL : Fun K "lengths_in_range" "lengths_in_range" sLens fL fdL)
    (bC : Binds K fdC ["capacity"] []) (bL : Binds K fdL ["lengths"] []) (gC : mg "capacity_in_range" = some (.ref fC)) (gL : mg "lengths_in_range" = some (.ref fL))
    (g0 : mg "MIN_CAPACITY" = some (.int 1 t0)) (g1 : mg "MAX_CAPACITY" = some (.int 100 t1)) (g2 : mg "MAX_PALLETS" = some (.int 7 t2)) (g3 : mg "MAX_LENGTH" = some (.int 100 t3)) (g4 : mg "OUT_OF_RANGE" = some (.int (-22) t4)) (g5 : mg "TOO_LONG" = some (.int (-33) t5)) (g6 : mg "NO_ERROR" = some (.int 0 t6)) (ml : mg "len" = none) :
    FnOk P w K mg base CX0 2 f fd ["capacity", "lengths"] (spErr K) := by
  have GC : FnOk P w K mg base CX0 1 fC fdC ["capacity"] spCap := ok_cap FC g0 g1
  have GL : FnOk P w K mg base CX0 1 fL fdL ["lengths"] (spLens K) := ok_lens FL g2 g3 ml
  refine F.ok scErr (fun vs H Q E h => ?_) (fun cdv A outer s H vs Q E hr h => ?_)
  · obtain ⟨c, a, ns, rfl, _⟩ := h
    rfl
  · obtain ⟨c, a, ns, rfl, hS, q⟩ := h
    refine ⟨_, pss_cons (ps_if (PW.pt (pw_or (pt_not (pt_val (pe_call GC hr (by rfl) gC FC.kp bC .nil pass0 (pa_cons (pv 0) pa_nil)))) (pw_or1 (pt_not (pt_val (pe_call GL hr (by rfl) gL FL.kp bL .nil pass0 (pa_cons (pv 1) pa_nil)))))))
        (pss_one (ps_ret (pe_glob (v := .int (-22)) rfl g4 ⟨_, rfl⟩))) pss_nil)
      (pss_cons (ps_for PassesOwn.never rfl (pi_list (pv 1)) (pg_name (i := 2) scErr.nd rfl (.inl rfl))
        (pss_one (ps_if (pt_cmpR op_gt (pv 2) (pv 0) (nomark _)) (pss_one (ps_ret (pe_glob (v := .int (-33)) rfl g5 ⟨_, rfl⟩))) pss_nil)))
      (pss_one (ps_ret (pe_glob (v := .int 0) rfl g6 ⟨_, rfl⟩)))), ?_⟩
    have bad : (okCap c && okLens ns) = false → Q (.int (-22)) H := fun e => by
      unfold err at q
      rw [e, if_neg Bool.false_ne_true] at q
      exact q
    refine ⟨_, rfl, c, rfl, _, rfl, ?_⟩
    cases e1 : okCap c with
    | false =>
      refine iteT (iteT (bad ?_))
      rw [e1]
      rfl
    | true =>
      refine iteF ⟨_, rfl, a, ns, rfl, hS, _, rfl, ?_⟩
      cases e2 : okLens ns with
      | false =>
        refine iteT (bad ?_)
        rw [e1, e2]
        rfl
      | true =>
        refine iteF ?_
        have e3 : err c ns = if (ns.any fun n => decide (c < n)) = true then -33 else 0 := by
          unfold err
          rw [e1, e2]
          exact if_pos rfl
        rw [e3] at q
        refine ⟨.ref a, rfl, a, rfl, ⟨_, hS⟩, for_list (K := K) (a := a) (xs := ns.map V.int) (fun i σ H' => H' = H ∧ (∃ v : Option V, σ = [some (.int c), some (.ref a), v]) ∧ ((ns.take i).any fun n => decide (c < n)) = false)
          ⟨rfl, ⟨none, rfl⟩, rfl⟩ (fun i σ H' _ ⟨e, _, _⟩ => by rw [e]; exact hS) ?_ ?_⟩
        · rintro i y σ H' hi ⟨rfl, ⟨v, rfl⟩, hall⟩
          obtain ⟨z, hz, rfl⟩ := int_at hi
          refine ⟨_, rfl, _, rfl, _, _, rfl, rfl, _, rfl, ite2 (fun e => ?_) (fun e => ?_)⟩
          · have e4 : (ns.any fun n => decide (c < n)) = true := List.any_eq_true.mpr ⟨z, List.mem_of_getElem? hz, e⟩
            rw [if_pos e4] at q
            exact q
          · refine ⟨rfl, ⟨_, rfl⟩, ?_⟩
            rw [take_more hz, List.any_append, hall, List.any_cons, Bool.eq_false_iff.mpr e]
            rfl
        · rintro σ H' ⟨rfl, ⟨v, rfl⟩, hall⟩
          rw [List.length_map, List.take_length] at hall
          rw [hall, if_neg Bool.false_ne_true] at q
          exact q
end
/-! ### trucks_for_length, bound_at_threshold -/
abbrev sTfl : Stmt := top 14
abbrev sBd : Stmt := top 13
theorem scTfl : FnScope ["length", "capacity"] ["length", "capacity"] (defScope sTfl) := ⟨rfl, rfl, rfl, by decide +kernel, rfl, by decide +kernel, by decide +kernel⟩
theorem scBd : FnScope ["capacity", "threshold", "lengths", "large", "medium", "small", "space", "length"] ["capacity", "threshold", "lengths"] (defScope sBd) := ⟨rfl, rfl, rfl, by decide +kernel, rfl, by decide +kernel, by decide +kernel⟩
def spTfl : Sp := fun vs H Q _ => ∃ l c : Int, vs = [.int l, .int c] ∧ 0 < c ∧ c < 1073741824 ∧ Q (.int ((l + c - 1) / c)) H
def spBd (K : PySem.W.Frag) : Sp := fun vs H Q _ => ∃ (c t : Nat) (a : Addr) (ls : List Nat), vs = [.int (c : Int), .int (t : Int), .ref a] ∧ SqL K H a (vN ls) ∧ 0 < c ∧ c ≤ 100 ∧ ls.length ≤ 12 ∧
  ∀ H', Same H H' → Q (.int (Kbe6.thresholdBound c ls t : Nat)) H'
/-- a comprehension that picks items of a list of naturals -/
theorem lc_pick {K : PySem.W.Frag} {a D : Addr} {ls : List Nat} {i : Nat} {tt : TT} {te : TE} {σ : L2.St} {H1 : Hp} {Qd : Hp → Prop} (p : Nat → Bool) (hS : SqL K H1 a (vN ls)) (hD : H1 D = none) (hn : ls.length ≤ 100000)
    (ht : ∀ (x : Nat) (H2 : Hp) (Q : Bool → Hp → Prop), Q (p x) H2 → tt ((wipe σ [i]).set i (some (.int (x : Int)))) H2 Q)
    (he : ∀ (x : Nat) (H2 : Hp) (Q : VK), Q (.int (x : Int)) H2 → te ((wipe σ [i]).set i (some (.int (x : Int)))) H2 Q)
    (hd : ∀ H', Same H1 H' → H' D = some (.lst (vN (ls.filter p))) → Qd H') :
    ∃ J : Nat → Nat → Hp → Prop, (∃ m, J 0 m (upd H1 D (.lst []))) ∧ ∀ k m G, J k m G →
      ((Itl K a).stop k G ∧ Qd G) ∨ ((Itl K a).go k G ∧ ∃ N : Hp → Prop, (∀ G', N G' → ∃ m', m' < m ∧ J (k + 1) m' G') ∧ ∀ v G', (Itl K a).yld k G v G' → gName i v (wipe σ [i]) G' fun τ G2 => wipe τ [i] = wipe σ [i] ∧
        tt τ G2 fun b G3 => if b = true then (te τ G3 fun r G4 => ∃ made, G4 D = some (.lst made) ∧ made.length < sizeLine ∧ N (upd G4 D (.lst (made ++ [r])))) else N G3) := by
  refine lc_list (K := K) (a := a) (xs := vN ls) (fun j H' => Same H1 H' ∧ H' D = some (.lst (vN ((ls.take j).filter p)))) ⟨same_upd hD, upd_same⟩ (fun j H' _ h => h.1.seq hS) ?_ ?_
  · rintro j y H' hj ⟨sm, eD⟩
    obtain ⟨x, hx, rfl⟩ := vN_at hj
    refine ⟨by simp [wipe], ht x H' _ ?_⟩
    have more := take_more hx
    cases hp : p x with
    | true =>
      rw [if_pos rfl]
      refine he x H' _ ⟨_, eD, smallL ?_, ?_, ?_⟩
      · rw [vN_len]
        exact Nat.le_trans (Nat.le_trans (List.length_filter_le ..) (List.length_take_le ..)) (Nat.le_trans (Nat.le_of_lt (List.getElem?_eq_some_iff.mp hx).1) hn)
      · intro b o e
        rw [upd_ne (ne_of_none e hD)]
        exact sm b o e
      · rw [upd_same, more, List.filter_append, vN_app]
        simp [hp]
    | false =>
      rw [if_neg Bool.false_ne_true]
      refine ⟨sm, ?_⟩
      rw [more, List.filter_append]
      simp [hp, eD]
  · rintro H' ⟨sm, eD⟩
    rw [vN_len, List.take_length] at eD
    exact hd H' sm eD
theorem sum_ints : ∀ l : List Nat, (asInts l).sum = ((Kbe6.sumOf l : Nat) : Int)
  | [] => rfl
  | x :: r => by
    rw [sumOf_cons]
    have h := sum_ints r
    unfold asInts at h ⊢
    rw [List.map_cons, List.sum_cons, h]
    omega
theorem sum_bound (c : Nat) : ∀ l : List Nat, (∀ x ∈ l, x ≤ c) → Kbe6.sumOf l ≤ l.length * c
  | [], _ => Nat.zero_le _
  | x :: r, h => by
    rw [sumOf_cons, List.length_cons, Nat.succ_mul]
    have h1 := sum_bound c r fun y hy => h y (List.mem_cons_of_mem _ hy)
    have h2 := h x (List.mem_cons_self ..)
    omega
theorem up_is {l c : Nat} (hc : 0 < c) : ((l : Int) + (c : Int) - 1) / (c : Int) = (((l + c - 1) / c : Nat) : Int) := by
  rw [show (l : Int) + (c : Int) - 1 = ((l + c - 1 : Nat) : Int) by omega]
  exact (Int.natCast_ediv ..).symm
def pLarge (c t : Nat) : Nat → Bool := fun l => decide (c < l + t)
def pMedium (c t : Nat) : Nat → Bool := fun l => decide (l + t ≤ c) && decide (c < 2 * l)
def pSmall (c t : Nat) : Nat → Bool := fun l => decide (2 * l ≤ c) && decide (t ≤ l)
theorem bound_is {c t : Nat} (hc : 0 < c) (ls : List Nat) : ((ls.filter (pLarge c t)).length : Int) + ((ls.filter (pMedium c t)).length : Int) +
      ((if ((Kbe6.sumOf (ls.filter (pSmall c t)) : Nat) : Int) - (((ls.filter (pMedium c t)).length : Int) * (c : Int) - ((Kbe6.sumOf (ls.filter (pMedium c t)) : Nat) : Int)) > 0 then
        ((Kbe6.sumOf (ls.filter (pSmall c t)) : Nat) : Int) - (((ls.filter (pMedium c t)).length : Int) * (c : Int) - ((Kbe6.sumOf (ls.filter (pMedium c t)) : Nat) : Int)) else 0) + (c : Int) - 1) / (c : Int) = ((Kbe6.thresholdBound c ls t : Nat) : Int) := by
  have hm : Kbe6.sumOf (ls.filter (pMedium c t)) ≤ (ls.filter (pMedium c t)).length * c := sum_bound c _ fun x hx => by
    have h := (List.mem_filter.mp hx).2
    unfold pMedium at h
    rw [Bool.and_eq_true, decide_eq_true_eq] at h
    omega
  show _ = (((ls.filter (pLarge c t)).length + (ls.filter (pMedium c t)).length + (if c = 0 then 0 else (Kbe6.sumOf (ls.filter (pSmall c t)) - ((ls.filter (pMedium c t)).length * c - Kbe6.sumOf (ls.filter (pMedium c t))) + c - 1) / c) : Nat) : Int)
  rw [if_neg (Nat.ne_of_gt hc)]
  generalize Kbe6.sumOf (ls.filter (pSmall c t)) = s at *
  generalize Kbe6.sumOf (ls.filter (pMedium c t)) = m at *
  generalize (ls.filter (pMedium c t)).length = k at *
  have ek : (k : Int) * (c : Int) = ((k * c : Nat) : Int) := (Int.natCast_mul ..).symm
  rw [ek]
  generalize k * c = kc at *
  have e : (if (s : Int) - ((kc : Int) - (m : Int)) > 0 then (s : Int) - ((kc : Int) - (m : Int)) else 0) = ((s - (kc - m) : Nat) : Int) := by
    split <;> omega
  rw [e, up_is hc]
  omega
section
variable {K : PySem.W.Frag} {base : Heap} {mg : Str → Option Value} {P : Program} {w : World}
theorem ok_tfl {f : Addr} {fd : FuncData} (F : Fun K "trucks_for_length" "trucks_for_length" sTfl f fd) : FnOk P w K mg base CX0 1 f fd ["length", "capacity"] spTfl := by
  refine F.ok scTfl (fun vs H Q E h => ?_) (fun cdv A outer s H vs Q E hr h => ?_)
  · obtain ⟨l, c, rfl, _⟩ := h
    rfl
  · obtain ⟨l, c, rfl, h0, h1, q⟩ := h
    refine ⟨_, pss_one (ps_ret (pe_op op_fdiv (pe_op op_sub (pe_op op_add (pv 0) (pv 1)) pe_int) (pv 1))), ?_⟩
    exact ⟨_, rfl, _, rfl, _, _, rfl, rfl, _, _, rfl, rfl, _, rfl, _, _, rfl, rfl, ⟨h0, h1⟩, q⟩
theorem ok_bd {f fT : Addr} {fd fdT : FuncData} (F : Fun K "bound_at_threshold" "bound_at_threshold" sBd f fd) (FT : Fun K "trucks_for_length" "trucks_for_length" sTfl fT fdT) (bT : Binds K fdT ["length", "capacity"] []) (gT : mg "trucks_for_length" = some (.ref fT))
    (ml : mg "len" = none) (ms : mg "sum" = none) (mx : mg "max" = none) : FnOk P w K mg base CX0 2 f fd ["capacity", "threshold", "lengths"] (spBd K) := by
  have GT : FnOk P w K mg base CX0 1 fT fdT ["length", "capacity"] spTfl := ok_tfl FT
  refine F.ok scBd (fun vs H Q E h => ?_) (fun cdv A outer s H vs Q E hr h => ?_)
  · obtain ⟨c, t, a, ls, rfl, _⟩ := h
    rfl
  · obtain ⟨c, t, a, ls, rfl, hS, h0, h1, hl, q⟩ := h
    refine ⟨_, pss_cons (ps_setLc (i := 3) (own := [("length", 7)]) (g := gName 7) rfl scBd.nd rfl rfl (sw_true rfl rfl rfl (by decide +kernel)) (pi_list (pv 2)) (blkOk_by (own := [("length", 7)]) (N := ["capacity", "threshold", "lengths", "large", "medium", "small", "space", "length"]) (sc := defScope sBd) (by decide +kernel))
          (fun _ _ _ _ _ => pg_name (i := 7) scBd.nd rfl (.inl rfl)) (fun _ _ _ _ _ => pts_one (pt_cmpR op_gt (pv 7) (pe_op op_sub (pv 0) (pv 1)) (nomark _))) (fun _ _ _ _ _ => pv 7))
      (pss_cons (ps_setLc (i := 4) (own := [("length", 7)]) (g := gName 7) rfl scBd.nd rfl rfl (sw_true rfl rfl rfl (by decide +kernel)) (pi_list (pv 2)) (blkOk_by (own := [("length", 7)]) (N := ["capacity", "threshold", "lengths", "large", "medium", "small", "space", "length"]) (sc := defScope sBd) (by decide +kernel))
          (fun _ _ _ _ _ => pg_name (i := 7) scBd.nd rfl (.inl rfl)) (fun _ _ _ _ _ => pts_one (PW.pt (pw_and (pt_cmpR op_le (pv 7) (pe_op op_sub (pv 0) (pv 1)) (nomark _)) (pw_and1 (pt_cmpR op_gt (pe_op op_mul pe_int (pv 7)) (pv 0) (nomark _)))))) (fun _ _ _ _ _ => pv 7))
      (pss_cons (ps_setLc (i := 5) (own := [("length", 7)]) (g := gName 7) rfl scBd.nd rfl rfl (sw_true rfl rfl rfl (by decide +kernel)) (pi_list (pv 2)) (blkOk_by (own := [("length", 7)]) (N := ["capacity", "threshold", "lengths", "large", "medium", "small", "space", "length"]) (sc := defScope sBd) (by decide +kernel))
          (fun _ _ _ _ _ => pg_name (i := 7) scBd.nd rfl (.inl rfl)) (fun _ _ _ _ _ => pts_one (PW.pt (pw_and (pt_cmpR op_le (pv 1) (pv 7) (nomark _)) (pw_and1 (pt_cmpR op_le (pe_op op_mul pe_int (pv 7)) (pv 0) (nomark _)))))) (fun _ _ _ _ _ => pv 7))
      (pss_cons (ps_set (i := 6) scBd.nd rfl (.inl rfl) (pe_op op_sub (pe_op op_mul (pe_callB call_len_seq (by rfl) ml PySem.boot_len (pa_cons (pv 4) pa_nil)) (pv 0)) (pe_callB (cr_sum rfl) (by rfl) ms (by decide +kernel) (pa_cons (pv 4) pa_nil))))
      (pss_one (ps_ret (pe_op op_add (pe_op op_add (pe_callB call_len_seq (by rfl) ml PySem.boot_len (pa_cons (pv 3) pa_nil)) (pe_callB call_len_seq (by rfl) ml PySem.boot_len (pa_cons (pv 4) pa_nil)))
        (pe_call GT hr (by rfl) gT FT.kp bT .nil pass0 (pa_cons (pe_callB (call_max2 rfl) (by rfl) mx (by decide +kernel) (pa_cons pe_int (pa_cons (pe_op op_sub (pe_callB (cr_sum rfl) (by rfl) ms (by decide +kernel) (pa_cons (pv 5) pa_nil)) (pv 6)) pa_nil))) (pa_cons (pv 0) pa_nil))))))))), ?_⟩
    have two : ∀ {x : Nat}, (-(2 ^ 64) < (2 : Int) ∧ (2 : Int) < 2 ^ 64) := fun {_} => ⟨by decide, by decide⟩
    -- large
    refine ⟨.ref a, rfl, a, rfl, ⟨_, hS⟩, fun D1 n1 => lc_pick (pLarge c t) hS n1 (by omega) (fun x H2 Q2 q2 => ?_) (fun x H2 Q2 q2 => ⟨_, rfl, q2⟩) fun H2 sm2 e2 => ?_⟩
    · refine ⟨_, rfl, _, rfl, _, rfl, _, _, rfl, rfl, _, _, rfl, rfl, _, rfl, ?_⟩
      rw [show decide ((c : Int) - (t : Int) < (x : Int)) = pLarge c t x from decide_eq_decide.mpr (by omega)]
      exact q2
    -- medium
    refine ⟨.ref a, rfl, a, rfl, ⟨_, sm2.seq hS⟩, fun D2 n2 => lc_pick (pMedium c t) (sm2.seq hS) n2 (by omega) (fun x H3 Q2 q2 => ?_) (fun x H3 Q2 q2 => ⟨_, rfl, q2⟩) fun H3 sm3 e3 => ?_⟩
    · refine ⟨_, rfl, _, rfl, _, rfl, _, _, rfl, rfl, _, _, rfl, rfl, _, rfl, ?_⟩
      have ep : pMedium c t x = (decide ((x : Int) ≤ (c : Int) - (t : Int)) && decide ((c : Int) < 2 * (x : Int))) := by
        unfold pMedium
        congr 1
        · exact decide_eq_decide.mpr (by omega)
        · exact decide_eq_decide.mpr (by omega)
      rw [ep] at q2
      cases e : decide ((x : Int) ≤ (c : Int) - (t : Int)) with
      | false =>
        rw [e] at q2
        exact iteF q2
      | true =>
        rw [e, Bool.true_and] at q2
        refine iteT ⟨_, rfl, _, _, rfl, rfl, .inl ⟨by decide, by decide⟩, _, rfl, _, _, rfl, rfl, _, rfl, ?_⟩
        exact q2
    -- small
    refine ⟨.ref a, rfl, a, rfl, ⟨_, (sm2.trans sm3).seq hS⟩, fun D3 n3 => lc_pick (pSmall c t) ((sm2.trans sm3).seq hS) n3 (by omega) (fun x H4 Q2 q2 => ?_) (fun x H4 Q2 q2 => ⟨_, rfl, q2⟩) fun H4 sm4 e4 => ?_⟩
    · refine ⟨_, rfl, _, rfl, _, _, rfl, rfl, _, rfl, ?_⟩
      have ep : pSmall c t x = (decide ((t : Int) ≤ (x : Int)) && decide (2 * (x : Int) ≤ (c : Int))) := by
        unfold pSmall
        rw [Bool.and_comm]
        congr 1
        · exact decide_eq_decide.mpr (by omega)
        · exact decide_eq_decide.mpr (by omega)
      rw [ep] at q2
      cases e : decide ((t : Int) ≤ (x : Int)) with
      | false =>
        rw [e] at q2
        exact iteF q2
      | true =>
        rw [e, Bool.true_and] at q2
        refine iteT ⟨_, rfl, _, _, rfl, rfl, .inl ⟨by decide, by decide⟩, _, rfl, _, _, rfl, rfl, _, rfl, ?_⟩
        exact q2
    -- the sums
    have e3' := sm4 _ _ e3
    have e2' := sm4 _ _ (sm3 _ _ e2)
    have hk : (vN (ls.filter (pMedium c t))).length ≤ 12 := by
      rw [vN_len]
      exact Nat.le_trans (List.length_filter_le ..) hl
    refine ⟨.ref D2, rfl, D2, _, rfl, .inl (.inl (.inl e3')), _, rfl, _, _, rfl, rfl, .inl ⟨by omega, by omega⟩, .ref D2, rfl, D2, _, rfl, .inl (.inl e3'), _, _, rfl, rfl, ?_⟩
    refine ⟨.ref D1, rfl, D1, _, rfl, .inl (.inl (.inl e2')), .ref D2, rfl, D2, _, rfl, .inl (.inl (.inl e3')), _, _, rfl, rfl, .ref D3, rfl, D3, _, rfl, .inl (.inl e4), _, rfl, _, _, rfl, rfl, _, _, rfl, _, rfl, _, _, rfl, by omega, by omega, _, _, rfl, rfl, ?_⟩
    have q3 := q H4 (sm2.trans (sm3.trans sm4))
    rw [← bound_is h0 ls] at q3
    rw [vN_len, vN_len, sum_ints, sum_ints]
    exact q3
end
/-! ### what is due of threshold_bound -/
theorem threshold_bound_is {c t : Int} {ns : List Int} (hc : 0 ≤ c) (ht : 0 ≤ t) (h : ∀ n ∈ ns, 0 ≤ n) :
    PyKbe6.threshold_bound c t ns = if err c ns ≠ 0 then [err c ns] else if c < 2 * t then [-2] else asInts [Kbe6.thresholdBound c.toNat (ns.map Int.toNat) t.toNat] := by
  show answer (Kbe6.requireCapacity c.toNat (ns.map Int.toNat) (if c.toNat < 2 * t.toNat then Kbe6.single Kbe6.notFound else Kbe6.single (Kbe6.thresholdBound c.toNat (ns.map Int.toNat) t.toNat : Nat))) = _
  rw [req_is hc h]
  congr 1
  by_cases z : c < 2 * t
  · rw [if_pos z, if_pos (by omega)]
    rfl
  · rw [if_neg z, if_neg (by omega)]
    rfl
/-! ### threshold_bound -/
abbrev sTB : Stmt := top 9
theorem scTB : FnScope ["capacity", "threshold", "lengths", "error"] ["capacity", "threshold", "lengths"] (defScope sTB) := ⟨rfl, rfl, rfl, by decide +kernel, rfl, by decide +kernel, by decide +kernel⟩
def spTB (K : PySem.W.Frag) : Sp := fun vs H Q _ => ∃ (c t : Int) (a : Addr) (ns : List Int), vs = [.int c, .int t, .ref a] ∧ SqL K H a (ns.map V.int) ∧ 0 ≤ c ∧ 0 ≤ t ∧ (∀ n ∈ ns, 0 ≤ n) ∧ ns.length ≤ 12 ∧
  ∀ H' p, H' p = some (.lst ((PyKbe6.threshold_bound c t ns).map V.int)) → Q (.ref p) H'
section
variable {K : PySem.W.Frag} {base : Heap} {mg : Str → Option Value} {P : Program} {w : World}
theorem ok_tb {f fE fB : Addr} {fd fdE fdB : FuncData} {t6 t7 : Tok} (F : Fun K "threshold_bound" "threshold_bound" sTB f fd) (FE : Fun K "loading_error" "loading_error" sErr fE fdE) (FB : Fun K "bound_at_threshold" "bound_at_threshold" sBd fB fdB)
    (bE : Binds K fdE ["capacity", "lengths"] []) (bB : Binds K fdB ["capacity", "threshold", "lengths"] []) (gE : mg "loading_error" = some (.ref fE)) (gB : mg "bound_at_threshold" = some (.ref fB)) (g6 : mg "NO_ERROR" = some (.int 0 t6)) (g7 : mg "THRESHOLD_TOO_LARGE" = some (.int (-2) t7))
    (GE : FnOk P w K mg base CX0 2 fE fdE ["capacity", "lengths"] (spErr K)) (GB : FnOk P w K mg base CX0 2 fB fdB ["capacity", "threshold", "lengths"] (spBd K)) :
    FnOk P w K mg base CX0 3 f fd ["capacity", "threshold", "lengths"] (spTB K) := by
  refine F.ok scTB (fun vs H Q E h => ?_) (fun cdv A outer s H vs Q E hr h => ?_)
  · obtain ⟨c, t, a, ns, rfl, _⟩ := h
    rfl
  · obtain ⟨c, t, a, ns, rfl, hS, hc, ht, hn, hl, q⟩ := h
    refine ⟨_, pss_cons (ps_set (i := 3) scTB.nd rfl (.inl rfl) (pe_call GE hr (by rfl) gE FE.kp bE .nil pass0 (pa_cons (pv 0) (pa_cons (pv 2) pa_nil))))
      (pss_cons (ps_if (pt_cmpR op_ne (pv 3) (pe_glob (v := .int 0) rfl g6 ⟨_, rfl⟩) (nomark _)) (pss_one (ps_ret (pe_lst (pa_cons (pv 3) pa_nil)))) pss_nil)
      (pss_cons (ps_if (pt_cmpR op_gt (pe_op op_mul pe_int (pv 1)) (pv 0) (nomark _)) (pss_one (ps_ret (pe_lst (pa_cons (pe_glob (v := .int (-2)) rfl g7 ⟨_, rfl⟩) pa_nil)))) pss_nil)
      (pss_one (ps_ret (pe_lst (pa_cons (pe_call GB hr (by rfl) gB FB.kp bB .nil pass0 (pa_cons (pv 0) (pa_cons (pv 1) (pa_cons (pv 2) pa_nil)))) pa_nil)))))), ?_⟩
    refine ⟨_, rfl, .ref a, rfl, c, a, ns, rfl, hS, ?_⟩
    refine ⟨_, rfl, rfl, _, rfl, ?_⟩
    have main := threshold_bound_is hc ht hn
    by_cases e : err c ns = 0
    · rw [show (!decide (V.int (err c ns) = V.int 0)) = false by rw [e]; rfl]
      refine iteF ?_
      rw [if_neg (by rw [e]; exact fun z => z rfl)] at main
      obtain ⟨⟨c1, c2⟩, _, _, _⟩ := err_zero e
      refine ⟨_, rfl, _, _, rfl, rfl, .inl ⟨by decide, by decide⟩, _, rfl, _, _, rfl, rfl, _, rfl, ite2 (fun z => ?_) (fun z => ?_)⟩
      · have z' : c < 2 * t := of_decide_eq_true z
        rw [if_pos z'] at main
        refine ⟨small (by show 1 ≤ _; omega), fun p hp => q _ p ?_⟩
        rw [main, upd_same]
        rfl
      · have z' : ¬ c < 2 * t := fun y => z (decide_eq_true y)
        rw [if_neg z'] at main
        have eb := ints_back hn
        have el : (ns.map Int.toNat).length ≤ 12 := by rw [List.length_map]; exact hl
        generalize ns.map Int.toNat = ls at main eb el
        subst eb
        obtain ⟨k, rfl⟩ : ∃ k : Nat, c = (k : Int) := ⟨c.toNat, (Int.toNat_of_nonneg hc).symm⟩
        obtain ⟨j, rfl⟩ : ∃ j : Nat, t = (j : Int) := ⟨t.toNat, (Int.toNat_of_nonneg ht).symm⟩
        rw [Int.toNat_natCast, Int.toNat_natCast] at main
        refine ⟨_, rfl, _, rfl, .ref a, rfl, k, j, a, ls, rfl, hS, by omega, by omega, el, fun H2 sm2 => ⟨small (by show 1 ≤ _; omega), fun p hp => q _ p ?_⟩⟩
        rw [main, upd_same]
        rfl
    · rw [show (!decide (V.int (err c ns) = V.int 0)) = true by rw [decide_eq_false (fun z => e (V.int.inj z))]; rfl]
      refine iteT ⟨_, rfl, small (by show 1 ≤ _; omega), fun p hp => ?_⟩
      rw [if_pos e] at main
      refine q _ p ?_
      rw [main, upd_same]
      rfl
end
/-! ### the end -/
theorem all_mk {P : Program} {w : World} {K : PySem.W.Frag} {h : Heap} {mg : Str → Option Value} {fa f1 f2 f3 f4 f5 f6 : Addr} (X : K.In h) (G : h.Ns mainGlobals mg) (hfa : mg "threshold_bound" = some (.ref fa))
    {od1 an1 od2 an2 od3 an3 od4 an4 od5 an5 od6 an6 : Option Addr} {sl1 sl2 sl3 sl4 sl5 sl6 : Array (Option Value)} {oc1 kV1 dc1 pm1 cd1 ct1 oc2 kV2 dc2 pm2 cd2 ct2 oc3 kV3 dc3 pm3 cd3 ct3 oc4 kV4 dc4 pm4 cd4 ct4 oc5 kV5 dc5 pm5 cd5 ct5 oc6 kV6 dc6 pm6 cd6 ct6 : Value} {t1 t2 t3 t4 t5 t6 t7 t8 : Tok}
    (a1 : PySem.W.nsIn K mainGlobals "threshold_bound" = some (some (.ref f1))) (l1 : K.lookup f1 = some ⟨oc1, od1, .func (PySem.W.fnOf "threshold_bound" "threshold_bound" (defArgs sTB) (defBody sTB) (defScope sTB) .none kV1 dc1 pm1 an1 cd1 ct1), sl1⟩) (c1 : PySem.W.codeIn K cd1 "threshold_bound" = true) (k1 : PySem.W.keepIn K (.ref f1) = true)
    (a2 : PySem.W.nsIn K mainGlobals "loading_error" = some (some (.ref f2))) (l2 : K.lookup f2 = some ⟨oc2, od2, .func (PySem.W.fnOf "loading_error" "loading_error" (defArgs sErr) (defBody sErr) (defScope sErr) .none kV2 dc2 pm2 an2 cd2 ct2), sl2⟩) (c2 : PySem.W.codeIn K cd2 "loading_error" = true) (k2 : PySem.W.keepIn K (.ref f2) = true)
    (a3 : PySem.W.nsIn K mainGlobals "capacity_in_range" = some (some (.ref f3))) (l3 : K.lookup f3 = some ⟨oc3, od3, .func (PySem.W.fnOf "capacity_in_range" "capacity_in_range" (defArgs sCap) (defBody sCap) (defScope sCap) .none kV3 dc3 pm3 an3 cd3 ct3), sl3⟩) (c3 : PySem.W.codeIn K cd3 "capacity_in_range" = true) (k3 : PySem.W.keepIn K (.ref f3) = true)
    (a4 : PySem.W.nsIn K mainGlobals "lengths_in_range" = some (some (.ref f4))) (l4 : K.lookup f4 = some ⟨oc4, od4, .func (PySem.W.fnOf "lengths_in_range" "lengths_in_range" (defArgs sLens) (defBody sLens) (defScope sLens) .none kV4 dc4 pm4 an4 cd4 ct4), sl4⟩) (c4 : PySem.W.codeIn K cd4 "lengths_in_range" = true) (k4 : PySem.W.keepIn K (.ref f4) = true)
    (a5 : PySem.W.nsIn K mainGlobals "bound_at_threshold" = some (some (.ref f5))) (l5 : K.lookup f5 = some ⟨oc5, od5, .func (PySem.W.fnOf "bound_at_threshold" "bound_at_threshold" (defArgs sBd) (defBody sBd) (defScope sBd) .none kV5 dc5 pm5 an5 cd5 ct5), sl5⟩) (c5 : PySem.W.codeIn K cd5 "bound_at_threshold" = true) (k5 : PySem.W.keepIn K (.ref f5) = true)
    (a6 : PySem.W.nsIn K mainGlobals "trucks_for_length" = some (some (.ref f6))) (l6 : K.lookup f6 = some ⟨oc6, od6, .func (PySem.W.fnOf "trucks_for_length" "trucks_for_length" (defArgs sTfl) (defBody sTfl) (defScope sTfl) .none kV6 dc6 pm6 an6 cd6 ct6), sl6⟩) (c6 : PySem.W.codeIn K cd6 "trucks_for_length" = true) (k6 : PySem.W.keepIn K (.ref f6) = true)
    (g1 : PySem.W.nsIn K mainGlobals "MIN_CAPACITY" = some (some (.int (1) t1)))
    (g2 : PySem.W.nsIn K mainGlobals "MAX_CAPACITY" = some (some (.int (100) t2)))
    (g3 : PySem.W.nsIn K mainGlobals "MAX_PALLETS" = some (some (.int (7) t3)))
    (g4 : PySem.W.nsIn K mainGlobals "MAX_LENGTH" = some (some (.int (100) t4)))
    (g5 : PySem.W.nsIn K mainGlobals "OUT_OF_RANGE" = some (some (.int (-22) t5)))
    (g6 : PySem.W.nsIn K mainGlobals "TOO_LONG" = some (some (.int (-33) t6)))
    (g7 : PySem.W.nsIn K mainGlobals "NO_ERROR" = some (some (.int (0) t7)))
    (g8 : PySem.W.nsIn K mainGlobals "THRESHOLD_TOO_LARGE" = some (some (.int (-2) t8)))
    (m1 : PySem.W.nsIn K mainGlobals "len" = some none)
    (m2 : PySem.W.nsIn K mainGlobals "sum" = some none)
    (m3 : PySem.W.nsIn K mainGlobals "max" = some none)
    : ∃ fd : FuncData, (∀ (s : Shared) (us : List Value), us.length = (["capacity", "threshold", "lengths"] : List Str).length → BindsTo s fd ⟨us, []⟩ ((["capacity", "threshold", "lengths"] : List Str).zip us)) ∧ ∀ base : Heap, K.In base → base.Ns mainGlobals mg → FnOk P w K mg base CX0 3 fa fd ["capacity", "threshold", "lengths"] (spTB K) := by
  have e := hfa.symm.trans (PySem.W.mg_of X G a1)
  cases e
  have F_threshold_bound := fun_mk (st := sTB) l1 c1 k1
  have F_loading_error := fun_mk (st := sErr) l2 c2 k2
  have b_loading_error := F_loading_error.binds (ps := ["capacity", "lengths"]) fun _ _ _ _ _ _ us hl => match us, hl with | [_, _], _ => rfl
  have g_loading_error := PySem.W.mg_of X G a2
  have F_capacity_in_range := fun_mk (st := sCap) l3 c3 k3
  have b_capacity_in_range := F_capacity_in_range.binds (ps := ["capacity"]) fun _ _ _ _ _ _ us hl => match us, hl with | [_], _ => rfl
  have g_capacity_in_range := PySem.W.mg_of X G a3
  have F_lengths_in_range := fun_mk (st := sLens) l4 c4 k4
  have b_lengths_in_range := F_lengths_in_range.binds (ps := ["lengths"]) fun _ _ _ _ _ _ us hl => match us, hl with | [_], _ => rfl
  have g_lengths_in_range := PySem.W.mg_of X G a4
  have F_bound_at_threshold := fun_mk (st := sBd) l5 c5 k5
  have b_bound_at_threshold := F_bound_at_threshold.binds (ps := ["capacity", "threshold", "lengths"]) fun _ _ _ _ _ _ us hl => match us, hl with | [_, _, _], _ => rfl
  have g_bound_at_threshold := PySem.W.mg_of X G a5
  have F_trucks_for_length := fun_mk (st := sTfl) l6 c6 k6
  have b_trucks_for_length := F_trucks_for_length.binds (ps := ["length", "capacity"]) fun _ _ _ _ _ _ us hl => match us, hl with | [_, _], _ => rfl
  have g_trucks_for_length := PySem.W.mg_of X G a6
  have k_MIN_CAPACITY := PySem.W.mg_of X G g1
  have k_MAX_CAPACITY := PySem.W.mg_of X G g2
  have k_MAX_PALLETS := PySem.W.mg_of X G g3
  have k_MAX_LENGTH := PySem.W.mg_of X G g4
  have k_OUT_OF_RANGE := PySem.W.mg_of X G g5
  have k_TOO_LONG := PySem.W.mg_of X G g6
  have k_NO_ERROR := PySem.W.mg_of X G g7
  have k_THRESHOLD_TOO_LARGE := PySem.W.mg_of X G g8
  have n_len := PySem.W.ns_none_of X G m1
  have n_sum := PySem.W.ns_none_of X G m2
  have n_max := PySem.W.ns_none_of X G m3
  refine ⟨PySem.W.fnOf "threshold_bound" "threshold_bound" (defArgs sTB) (defBody sTB) (defScope sTB) .none kV1 dc1 pm1 an1 cd1 ct1, fun s us hu => match us, hu with | [_, _, _], _ => .of_eq rfl, fun base _ _ => ?_⟩
  exact ok_tb F_threshold_bound F_loading_error F_bound_at_threshold b_loading_error b_bound_at_threshold g_loading_error g_bound_at_threshold k_NO_ERROR k_THRESHOLD_TOO_LARGE (ok_err F_loading_error F_capacity_in_range F_lengths_in_range b_capacity_in_range b_lengths_in_range g_capacity_in_range g_lengths_in_range k_MIN_CAPACITY k_MAX_CAPACITY k_MAX_PALLETS k_MAX_LENGTH k_OUT_OF_RANGE k_TOO_LONG k_NO_ERROR n_len) (ok_bd F_bound_at_threshold F_trucks_for_length b_trucks_for_length g_trucks_for_length n_len n_sum n_max)
end TF
open PySem PySem.W PyProof.Rows
set_option maxRecDepth 100000 in
set_option maxHeartbeats 8000000 in
theorem PySem.Challenge.cw_truckfill_s05_threshold_bound_holds : PySem.Challenge.rw_truckfill_s05_threshold_bound.Holds := by
  w_on; k_headS; (case hw => exact ⟨[.int 0, .int 0, .list []], by decide +kernel, by decide +kernel⟩)
  k_fillS
  refine L2.walk_specK (r := PySem.Challenge.rw_truckfill_s05_threshold_bound) (k := 3) (CX := L2.CX0) (ps := ["capacity", "threshold", "lengths"]) (sp := TF.spTB) (by decide +kernel) rfl rfl ⟨rfl, by decide, by decide⟩ (fun w h Y => PySem.W.kIn_of Y) ?F ?S (fun _ _ _ _ z => z)
  case F =>
    intro w mg fa h Y KX G hmg
    refine' TF.all_mk KX G hmg ?a1 ?l1 ?c1 ?k1 ?a2 ?l2 ?c2 ?k2 ?a3 ?l3 ?c3 ?k3 ?a4 ?l4 ?c4 ?k4 ?a5 ?l5 ?c5 ?k5 ?a6 ?l6 ?c6 ?k6 ?g1 ?g2 ?g3 ?g4 ?g5 ?g6 ?g7 ?g8 ?m1 ?m2 ?m3
    (case a1 => k_is); (case l1 => k_is); (case c1 => k_is); (case k1 => k_is)
    (case a2 => k_is); (case l2 => k_is); (case c2 => k_is); (case k2 => k_is)
    (case a3 => k_is); (case l3 => k_is); (case c3 => k_is); (case k3 => k_is)
    (case a4 => k_is); (case l4 => k_is); (case c4 => k_is); (case k4 => k_is)
    (case a5 => k_is); (case l5 => k_is); (case c5 => k_is); (case k5 => k_is)
    (case a6 => k_is); (case l6 => k_is); (case c6 => k_is); (case k6 => k_is)
    (case g1 => k_is); (case g2 => k_is); (case g3 => k_is); (case g4 => k_is); (case g5 => k_is); (case g6 => k_is); (case g7 => k_is); (case g8 => k_is); (case m1 => k_is); (case m2 => k_is); (case m3 => k_is)
  case S =>
    intro K H xs a hO hwi hask hx
    obtain ⟨c, t, ns, u⟩ := a
    cases hx with
    | cons h1 h2 =>
      cases h1
      cases h2 with
      | cons h5 h6 =>
        cases h5
        cases h6 with
        | cons h3 h4 =>
          cases h4
          cases h3 with
          | lst hs ha =>
            have e := L2.ints_dw ns _ ha
            subst e
            have q : (Codec.inInt 0 4294967295 c && (Codec.inInt 0 4294967295 t && ((Codec.inLen 0 12 ns && ns.all (Codec.inInt 0 4294967295)) && true))) = true := hwi
            rw [Bool.and_eq_true, Bool.and_eq_true, Bool.and_eq_true, Bool.and_eq_true] at q
            refine ⟨c, t, _, ns, rfl, hs, (Codec.inInt_iff.mp q.1).1, (Codec.inInt_iff.mp q.2.1).1, fun n hn => (Codec.inInt_iff.mp (List.all_eq_true.mp q.2.2.1.2 n hn)).1, (Codec.inNat_iff.mp q.2.2.1.1).2, fun H' p hp => .lst (L2.SqL.of hp) (L2.dw_ints _)⟩
#print axioms PySem.Challenge.cw_truckfill_s05_threshold_bound_holds
