import PyProof.Rows.All
import Wide.All
import OpenK.AllK
import Wide.FinOn
import Open.SpecLaws
import KE.OsGo
import KE.DatumOrd
import HandS.ForSpec
import HandS.Comp
import HandS.Conv
import HandS.Iter
import PySem.Challenge.RW_truckfill_s06_is_feasible
set_option Elab.async false
set_option maxRecDepth 100000
set_option maxHeartbeats 2000000
namespace TF
/-! ### the mirror of the loading -/
/-- the first truck with space, or the next new one -/
def fit (c : Nat) (ld : List Nat) (l : Nat) : Nat := (ld.findIdx? fun u => decide (u + l ≤ c)).getD ld.length
/-- the loads when a pallet is put there -/
def put (c : Nat) (ld : List Nat) (l : Nat) : List Nat := if fit c ld l = ld.length then ld ++ [l] else ld.set (fit c ld l) (ld.getD (fit c ld l) 0 + l)
/-- one turn of the loading: the loads, the assignment -/
def turn (c : Nat) (ls : List Nat) (s : List Nat × List Nat) (p : Nat) : List Nat × List Nat := (put c s.1 (ls.getD p 0), s.2.set p (fit c s.1 (ls.getD p 0)))
def run (c : Nat) (ls order : List Nat) : List Nat × List Nat := order.foldl (turn c ls) ([], List.replicate ls.length 0)
/-- what the loading hands back -/
def loaded (c : Nat) (ls order : List Nat) : List Nat := (run c ls order).1.length :: (run c ls order).2

theorem fit_le (c : Nat) (ld : List Nat) (l : Nat) : fit c ld l ≤ ld.length := by
  unfold fit
  cases e : ld.findIdx? fun u => decide (u + l ≤ c) with
  | none => exact Nat.le_refl _
  | some i =>
    obtain ⟨h, _⟩ := List.findIdx?_eq_some_iff_getElem.mp e
    exact Nat.le_of_lt h
theorem put_len (c : Nat) (ld : List Nat) (l : Nat) : (put c ld l).length = if fit c ld l = ld.length then ld.length + 1 else ld.length := by
  unfold put
  split
  · simp
  · simp
/-- the specification, one pallet at a time -/
theorem ff_cons (c : Nat) (ld : List Nat) (l : Nat) (r : List Nat) : Kbe6.firstFitFrom c ld (l :: r) = fit c ld l :: Kbe6.firstFitFrom c (put c ld l) r := by
  rw [Kbe6.firstFitFrom]
  unfold put fit
  cases e : ld.findIdx? fun u => decide (u + l ≤ c) with
  | none => simp
  | some i =>
    obtain ⟨h, _⟩ := List.findIdx?_eq_some_iff_getElem.mp e
    have h' : i ≠ ld.length := Nat.ne_of_lt h
    simp [h']
theorem ff_len (c : Nat) : ∀ (xs ld : List Nat), (Kbe6.firstFitFrom c ld xs).length = xs.length
  | [], _ => rfl
  | x :: r, ld => by
    rw [ff_cons, List.length_cons, ff_len c r, List.length_cons]
/-- the greatest truck used and the number of loads -/
theorem ff_max (c : Nat) : ∀ (xs ld : List Nat) (m : Nat), ld.length = m + 1 → (Kbe6.firstFitFrom c ld xs).foldl max m + 1 = (xs.foldl (put c) ld).length
  | [], ld, m, h => h.symm
  | x :: r, ld, m, h => by
    rw [ff_cons, List.foldl_cons, List.foldl_cons]
    have hl := fit_le c ld x
    have hp := put_len c ld x
    by_cases e : fit c ld x = ld.length
    · rw [if_pos e] at hp
      have em : max m (fit c ld x) = m + 1 := by omega
      rw [em]
      exact ff_max c r _ _ (by omega)
    · rw [if_neg e] at hp
      have em : max m (fit c ld x) = m := by omega
      rw [em]
      exact ff_max c r _ _ (by omega)
theorem ff_count (c : Nat) (xs : List Nat) : Kbe6.truckCount (Kbe6.firstFit c xs) = (xs.foldl (put c) []).length := by
  unfold Kbe6.truckCount Kbe6.firstFit
  cases xs with
  | nil => rfl
  | cons x r =>
    rw [ff_cons]
    have f0 : fit c [] x = 0 := rfl
    have p0 : put c [] x = [x] := rfl
    rw [f0, p0]
    show List.foldl max (max 0 0) _ + 1 = _
    exact ff_max c r [x] 0 rfl
/-! ### lists of naturals: the greatest -/
theorem le_max : ∀ (l : List Nat) (a : Nat), a ≤ l.foldl max a ∧ ∀ x ∈ l, x ≤ l.foldl max a
  | [], a => ⟨Nat.le_refl _, fun x h => absurd h (by simp)⟩
  | y :: r, a => by
    obtain ⟨h1, h2⟩ := le_max r (max a y)
    rw [List.foldl_cons]
    refine ⟨by omega, fun x hx => ?_⟩
    rcases List.mem_cons.mp hx with e | m
    · omega
    · exact h2 x m
theorem max_mem : ∀ (l : List Nat) (a : Nat), l.foldl max a = a ∨ l.foldl max a ∈ l
  | [], a => .inl rfl
  | y :: r, a => by
    rw [List.foldl_cons]
    rcases max_mem r (max a y) with e | m
    · rw [e]
      by_cases h : a ≤ y
      · right
        rw [Nat.max_eq_right h]
        exact List.mem_cons_self ..
      · left
        omega
    · exact .inr (List.mem_cons_of_mem _ m)
theorem max_same {l k : List Nat} (h : ∀ x, x ∈ l ↔ x ∈ k) : l.foldl max 0 = k.foldl max 0 := by
  have a := le_max l 0
  have b := le_max k 0
  have h1 : l.foldl max 0 ≤ k.foldl max 0 := by
    rcases max_mem l 0 with e | m
    · omega
    · exact b.2 _ ((h _).mp m)
  have h2 : k.foldl max 0 ≤ l.foldl max 0 := by
    rcases max_mem k 0 with e | m
    · omega
    · exact a.2 _ ((h _).mpr m)
  omega
theorem count_same {l k : List Nat} (h : ∀ x, x ∈ l ↔ x ∈ k) : Kbe6.truckCount l = Kbe6.truckCount k := by
  unfold Kbe6.truckCount
  cases l with
  | nil =>
    cases k with
    | nil => rfl
    | cons y r => exact absurd ((h y).mpr (List.mem_cons_self ..)) (by simp)
  | cons x q =>
    cases k with
    | nil => exact absurd ((h x).mp (List.mem_cons_self ..)) (by simp)
    | cons y r =>
      rw [max_same h]
      rfl
/-! ### the fold of the turns -/
theorem run_loads (c : Nat) (ls : List Nat) : ∀ (order : List Nat) (s : List Nat × List Nat), (order.foldl (turn c ls) s).1 = (order.map fun p => ls.getD p 0).foldl (put c) s.1
  | [], _ => rfl
  | p :: r, s => by
    rw [List.foldl_cons, List.map_cons, List.foldl_cons, run_loads c ls r]
    rfl
theorem run_len (c : Nat) (ls : List Nat) : ∀ (order : List Nat) (s : List Nat × List Nat), (order.foldl (turn c ls) s).2.length = s.2.length
  | [], _ => rfl
  | p :: r, s => by
    rw [List.foldl_cons, run_len c ls r]
    show (s.2.set p _).length = _
    exact List.length_set
/-- a place that no later turn writes -/
theorem run_skip (c : Nat) (ls : List Nat) : ∀ (order : List Nat) (s : List Nat × List Nat) (i : Nat), i ∉ order → (order.foldl (turn c ls) s).2[i]? = s.2[i]?
  | [], _, _, _ => rfl
  | p :: r, s, i, h => by
    rw [List.foldl_cons, run_skip c ls r _ i (fun z => h (List.mem_cons_of_mem _ z))]
    show (s.2.set p _)[i]? = _
    exact List.getElem?_set_ne (fun e => h (by rw [e]; exact List.mem_cons_self ..))
theorem run_at (c : Nat) (ls : List Nat) : ∀ (order : List Nat) (s : List Nat × List Nat) (k i : Nat), order.Nodup → order[k]? = some i → i < s.2.length → (order.foldl (turn c ls) s).2[i]? = (Kbe6.firstFitFrom c s.1 (order.map fun p => ls.getD p 0))[k]?
  | [], _, _, _, _, h, _ => by simp at h
  | p :: r, s, 0, i, hn, h, hi => by
    have e : p = i := Option.some.inj h
    subst e
    rw [List.foldl_cons, run_skip c ls r _ p (List.nodup_cons.mp hn).1, List.map_cons, ff_cons]
    show (s.2.set p _)[p]? = some _
    exact List.getElem?_set_self hi
  | p :: r, s, k + 1, i, hn, h, hi => by
    rw [List.foldl_cons, List.map_cons, ff_cons]
    show _ = (Kbe6.firstFitFrom c (put c s.1 (ls.getD p 0)) (r.map fun p => ls.getD p 0))[k]?
    refine run_at c ls r (turn c ls s p) k i (List.nodup_cons.mp hn).2 h ?_
    show i < (s.2.set p _).length
    rw [List.length_set]
    exact hi
/-- the assignment, pallet by pallet -/
theorem run_spec (c : Nat) (ls order : List Nat) (hp : order.Perm (List.range ls.length)) :
    (run c ls order).2 = (List.range ls.length).map fun i => (Kbe6.firstFit c (order.map fun p => ls.getD p 0)).getD ((order.findIdx? (· == i)).getD 0) 0 := by
  have hn : order.Nodup := hp.nodup_iff.mpr List.nodup_range
  have hl : order.length = ls.length := by rw [hp.length_eq, List.length_range]
  refine List.ext_getElem? fun i => ?_
  have len1 : (run c ls order).2.length = ls.length := by
    unfold run
    rw [run_len, List.length_replicate]
  by_cases hi : i < ls.length
  · have hm : i ∈ order := hp.mem_iff.mpr (List.mem_range.mpr hi)
    obtain ⟨k, hk, e⟩ : ∃ k, ∃ _ : k < order.length, order.findIdx? (· == i) = some k := by
      cases e : order.findIdx? (· == i) with
      | none =>
        have := List.findIdx?_eq_none_iff.mp e i hm
        simp at this
      | some k =>
        obtain ⟨h, _⟩ := List.findIdx?_eq_some_iff_getElem.mp e
        exact ⟨k, h, rfl⟩
    obtain ⟨_, h2, _⟩ := List.findIdx?_eq_some_iff_getElem.mp e
    have ek : order[k]? = some i := by
      rw [List.getElem?_eq_getElem hk]
      exact congrArg some (by simpa using h2)
    have q := run_at c ls order ([], List.replicate ls.length 0) k i hn ek (by rw [List.length_replicate]; exact hi)
    show (run c ls order).2[i]? = _
    rw [List.getElem?_map, List.getElem?_range hi]
    show _ = some ((Kbe6.firstFit c _).getD ((order.findIdx? (· == i)).getD 0) 0)
    rw [e]
    show _ = some ((Kbe6.firstFit c _).getD k 0)
    have hk2 : k < (Kbe6.firstFit c (order.map fun p => ls.getD p 0)).length := by
      unfold Kbe6.firstFit
      rw [ff_len, List.length_map]
      exact hk
    rw [List.getD_eq_getElem?_getD, List.getElem?_eq_getElem hk2, Option.getD_some, ← List.getElem?_eq_getElem hk2]
    exact q
  · rw [List.getElem?_eq_none (by omega), List.getElem?_eq_none (by rw [List.length_map, List.length_range]; omega)]
theorem run_count (c : Nat) (ls order : List Nat) (hp : order.Perm (List.range ls.length)) : Kbe6.truckCount (run c ls order).2 = (run c ls order).1.length := by
  have hn : order.Nodup := hp.nodup_iff.mpr List.nodup_range
  have hl : order.length = ls.length := by rw [hp.length_eq, List.length_range]
  have e1 : (run c ls order).1.length = Kbe6.truckCount (Kbe6.firstFit c (order.map fun p => ls.getD p 0)) := by
    rw [ff_count]
    unfold run
    rw [run_loads]
  rw [e1]
  have len1 : (run c ls order).2.length = ls.length := by
    unfold run
    rw [run_len, List.length_replicate]
  have at_ : ∀ k i, order[k]? = some i → (run c ls order).2[i]? = (Kbe6.firstFit c (order.map fun p => ls.getD p 0))[k]? := fun k i e =>
    run_at c ls order ([], List.replicate ls.length 0) k i hn e (by
      rw [List.length_replicate]
      exact List.mem_range.mp (hp.mem_iff.mp (List.mem_of_getElem? e)))
  refine count_same fun x => ⟨fun hx => ?_, fun hx => ?_⟩
  · obtain ⟨i, hi⟩ := List.getElem?_of_mem hx
    have hlt : i < ls.length := by
      obtain ⟨h, _⟩ := List.getElem?_eq_some_iff.mp hi
      omega
    obtain ⟨k, hk⟩ := List.getElem?_of_mem (hp.mem_iff.mpr (List.mem_range.mpr hlt))
    rw [at_ k i hk] at hi
    exact List.mem_of_getElem? hi
  · obtain ⟨k, hk⟩ := List.getElem?_of_mem hx
    have hlt : k < order.length := by
      obtain ⟨h, _⟩ := List.getElem?_eq_some_iff.mp hk
      unfold Kbe6.firstFit at h
      rw [ff_len, List.length_map] at h
      exact h
    have q := at_ k _ (List.getElem?_eq_getElem hlt)
    rw [hk] at q
    exact List.mem_of_getElem? q
/-- the loading in the order of the numbers -/
theorem run_first (c : Nat) (ls : List Nat) : (run c ls (List.range ls.length)).2 = Kbe6.firstFit c ls := by
  have e0 : (List.range ls.length).map (fun p => ls.getD p 0) = ls := by
    refine List.ext_getElem? fun i => ?_
    rw [List.getElem?_map]
    by_cases hi : i < ls.length
    · rw [List.getElem?_range hi, Option.map_some, List.getD_eq_getElem?_getD, List.getElem?_eq_getElem hi, Option.getD_some]
    · rw [List.getElem?_eq_none (by rw [List.length_range]; omega), List.getElem?_eq_none (by omega)]
      rfl
  refine List.ext_getElem? fun i => ?_
  have len1 : (run c ls (List.range ls.length)).2.length = ls.length := by
    unfold run
    rw [run_len, List.length_replicate]
  by_cases hi : i < ls.length
  · have q := run_at c ls (List.range ls.length) ([], List.replicate ls.length 0) i i List.nodup_range (List.getElem?_range hi) (by rw [List.length_replicate]; exact hi)
    rw [e0] at q
    exact q
  · have l2 : (Kbe6.firstFit c ls).length = ls.length := by
      unfold Kbe6.firstFit
      rw [ff_len]
    rw [List.getElem?_eq_none (by omega), List.getElem?_eq_none (by omega)]
/-! ### the errors -/
def okLen (n : Int) : Bool := decide (1 ≤ n) && decide (n ≤ 100)
def okLens (ns : List Int) : Bool := decide (ns.length ≤ 7) && ns.all okLen
def okCap (c : Int) : Bool := decide (1 ≤ c) && decide (c ≤ 100)
/-- the code of the error that is due, or 0 -/
def err (c : Int) (ns : List Int) : Int := if (okCap c && okLens ns) = true then (if (ns.any fun n => decide (c < n)) = true then -33 else 0) else -22
theorem toNat_len {n : Int} (h : 0 ≤ n) : (decide (1 ≤ n.toNat) && decide (n.toNat ≤ 100)) = okLen n := by
  unfold okLen
  congr 1
  · exact decide_eq_decide.mpr (by omega)
  · exact decide_eq_decide.mpr (by omega)
theorem valid_is {ns : List Int} (h : ∀ n ∈ ns, 0 ≤ n) : Kbe6.validLengths (ns.map Int.toNat) = okLens ns := by
  unfold Kbe6.validLengths okLens
  rw [List.length_map, List.all_map]
  congr 1
  induction ns with
  | nil => rfl
  | cons n r ih =>
    rw [List.all_cons, List.all_cons, ih fun x hx => h x (List.mem_cons_of_mem _ hx)]
    rw [← toNat_len (h n (List.mem_cons_self ..))]
    rfl
theorem any_is {c : Int} {ns : List Int} (hc : 0 ≤ c) (h : ∀ n ∈ ns, 0 ≤ n) : ((ns.map Int.toNat).any fun l => decide (c.toNat < l)) = ns.any fun n => decide (c < n) := by
  rw [List.any_map]
  induction ns with
  | nil => rfl
  | cons n r ih =>
    rw [List.any_cons, List.any_cons, ih fun x hx => h x (List.mem_cons_of_mem _ hx)]
    congr 1
    have := h n (List.mem_cons_self ..)
    exact decide_eq_decide.mpr (by omega)
/-- what is answered of a response -/
def answer (r : Kbe6.Response) : List Int := r.head :: r.tail
theorem req_is {c : Int} {ns : List Int} (hc : 0 ≤ c) (h : ∀ n ∈ ns, 0 ≤ n) (r : Kbe6.Response) :
    answer (Kbe6.requireCapacity c.toNat (ns.map Int.toNat) r) = if err c ns ≠ 0 then [err c ns] else answer r := by
  unfold Kbe6.requireCapacity err
  rw [valid_is h, any_is hc h]
  by_cases h1 : (okCap c && okLens ns) = true
  · rw [if_pos h1]
    obtain ⟨a, b⟩ := Bool.and_eq_true_iff.mp h1
    unfold okCap at a
    simp only [Bool.and_eq_true, decide_eq_true_eq] at a
    rw [if_neg (by rw [b]; intro z; rcases z with z | z | z; · cases z
                   · omega
                   · omega)]
    by_cases h2 : (ns.any fun n => decide (c < n)) = true
    · rw [if_pos h2, if_pos h2, if_pos (by decide)]
      rfl
    · rw [if_neg h2, if_neg h2, if_neg (by decide)]
  · rw [if_neg h1, if_pos (show (-22 : Int) ≠ 0 by decide)]
    rw [if_pos]
    · rfl
    · unfold okCap at h1
      by_cases hl : okLens ns = true
      · rw [hl] at h1
        simp only [Bool.and_true, Bool.and_eq_true, decide_eq_true_eq] at h1
        right
        omega
      · left
        simpa using hl
theorem err_zero {c : Int} {ns : List Int} (h : err c ns = 0) : (1 ≤ c ∧ c ≤ 100) ∧ ns.length ≤ 7 ∧ (∀ n ∈ ns, 1 ≤ n ∧ n ≤ 100) ∧ ∀ n ∈ ns, n ≤ c := by
  unfold err at h
  split at h
  · rename_i h1
    split at h
    · omega
    · rename_i h2
      unfold okCap okLens at h1
      simp only [Bool.and_eq_true, decide_eq_true_eq, List.all_eq_true] at h1
      simp only [Bool.not_eq_true, List.any_eq_false, decide_eq_true_eq] at h2
      refine ⟨h1.1, h1.2.1, fun n hn => ?_, fun n hn => ?_⟩
      · have q := h1.2.2 n hn
        unfold okLen at q
        simp only [Bool.and_eq_true, decide_eq_true_eq] at q
        exact q
      · have := h2 n hn
        omega
  · omega
/-- naturals as whole numbers -/
def asInts (l : List Nat) : List Int := l.map fun (x : Nat) => (x : Int)
theorem ints_back {ns : List Int} (h : ∀ n ∈ ns, 0 ≤ n) : ns = asInts (ns.map Int.toNat) := by
  unfold asInts
  rw [List.map_map]
  induction ns with
  | nil => rfl
  | cons n r ih =>
    rw [List.map_cons, ← ih fun x hx => h x (List.mem_cons_of_mem _ hx)]
    have := h n (List.mem_cons_self ..)
    show n :: r = ((n.toNat : Nat) : Int) :: r
    rw [Int.toNat_of_nonneg this]
theorem first_fit_is {c : Int} {ns : List Int} (hc : 0 ≤ c) (h : ∀ n ∈ ns, 0 ≤ n) :
    PyKbe6.first_fit c ns = if err c ns ≠ 0 then [err c ns] else asInts (loaded c.toNat (ns.map Int.toNat) (List.range ns.length)) := by
  show answer (Kbe6.requireCapacity c.toNat (ns.map Int.toNat) (Kbe6.encodeAssignment (Kbe6.firstFit c.toNat (ns.map Int.toNat)))) = _
  rw [req_is hc h]
  congr 1
  have e : ns.length = (ns.map Int.toNat).length := by rw [List.length_map]
  unfold loaded
  rw [e, ← run_count _ _ _ (List.Perm.refl _), run_first]
  rfl
theorem first_fit_decreasing_is {c : Int} {ns : List Int} (hc : 0 ≤ c) (h : ∀ n ∈ ns, 0 ≤ n) (order : List Nat) (ho : order = Kbe6.decreasingOrder (ns.map Int.toNat)) (hp : order.Perm (List.range ns.length)) :
    PyKbe6.first_fit_decreasing c ns = if err c ns ≠ 0 then [err c ns] else asInts (loaded c.toNat (ns.map Int.toNat) order) := by
  show answer (Kbe6.requireCapacity c.toNat (ns.map Int.toNat) (Kbe6.encodeAssignment (Kbe6.firstFitDecreasing c.toNat (ns.map Int.toNat)))) = _
  rw [req_is hc h]
  congr 1
  have e : ns.length = (ns.map Int.toNat).length := by rw [List.length_map]
  rw [e] at hp
  unfold loaded
  rw [← run_count _ _ _ hp, run_spec _ _ _ hp, ho]
  rfl
/-! ### sums -/
theorem sum_from : ∀ (l : List Nat) (a : Nat), l.foldl (· + ·) a = a + l.foldl (· + ·) 0
  | [], _ => rfl
  | x :: r, a => by
    rw [List.foldl_cons, List.foldl_cons, sum_from r (a + x), sum_from r (0 + x)]
    omega
theorem sumOf_cons (x : Nat) (l : List Nat) : Kbe6.sumOf (x :: l) = x + Kbe6.sumOf l := by
  unfold Kbe6.sumOf
  rw [List.foldl_cons, sum_from, Nat.zero_add]
end TF
namespace TF
open PySem PySem.Spec PyProof.Rows L2
/-! ### words over heaps and lists -/
theorem same_upd {H : Hp} {p : Addr} {o : HO} (free : H p = none) : Same H (upd H p o) := by
  intro b x there
  rw [upd_ne (ne_of_none there free)]
  exact there
/-- a list of naturals as values -/
abbrev vN (l : List Nat) : List V := (asInts l).map V.int
theorem vN_get {l : List Nat} {i : Nat} {x : Nat} (h : l[i]? = some x) : (vN l)[i]? = some (V.int (x : Int)) := by
  unfold vN asInts
  rw [List.getElem?_map, List.getElem?_map, h]
  rfl
theorem vN_len (l : List Nat) : (vN l).length = l.length := by
  unfold vN asInts
  rw [List.length_map, List.length_map]
theorem vN_set (l : List Nat) (i x : Nat) : (vN l).set i (V.int (x : Int)) = vN (l.set i x) := by
  unfold vN asInts
  rw [List.map_set, List.map_set]
theorem vN_app (l : List Nat) (x : Nat) : vN l ++ [V.int (x : Int)] = vN (l ++ [x]) := by
  unfold vN asInts
  rw [List.map_append, List.map_append]
  rfl
theorem vN_cons (l : List Nat) (x : Nat) : V.int (x : Int) :: vN l = vN (x :: l) := rfl
theorem int_at {ns : List Int} {i : Nat} {y : V} (h : (ns.map V.int)[i]? = some y) : ∃ z, ns[i]? = some z ∧ y = V.int z := by
  rw [List.getElem?_map] at h
  cases e : ns[i]? with
  | none =>
    rw [e] at h
    cases h
  | some z =>
    rw [e] at h
    exact ⟨z, rfl, (Option.some.inj h).symm⟩
theorem vN_at {l : List Nat} {i : Nat} {y : V} (h : (vN l)[i]? = some y) : ∃ z, l[i]? = some z ∧ y = V.int (z : Nat) := by
  obtain ⟨z, hz, rfl⟩ := int_at h
  unfold asInts at hz
  rw [List.getElem?_map] at hz
  cases e : l[i]? with
  | none =>
    rw [e] at hz
    cases hz
  | some x =>
    rw [e] at hz
    exact ⟨x, rfl, congrArg V.int (Option.some.inj hz).symm⟩
theorem ixN_nat {n j : Nat} (h : j < n) : ixN n (j : Int) = some j := by
  unfold ixN
  rw [if_pos (by omega), if_pos (by omega)]
  exact congrArg some (by omega)
theorem small {n : Nat} (h : n ≤ 100000) : n ≤ sizeLine := Nat.le_trans h (by decide)
theorem smallL {n : Nat} (h : n ≤ 100000) : n < sizeLine := Nat.lt_of_le_of_lt h (by decide)
/-- one item more -/
theorem take_more {α : Type} {l : List α} {i : Nat} {x : α} (h : l[i]? = some x) : l.take (i + 1) = l.take i ++ [x] := by
  rw [List.take_add_one, h]
  rfl
theorem getD_get {l : List Nat} {i : Nat} (h : i < l.length) : l[i]? = some (l.getD i 0) := by
  rw [List.getD_eq_getElem?_getD, List.getElem?_eq_getElem h]
  rfl
/-- the i-th statement of the program -/
def top (i : Nat) : Stmt := PySem.Challenge.pw_truckfill_s06_is_feasible.main.body.getD i (.Pass ⟨0, 0, 0, 0⟩)
/-! ### lengths_in_range -/
abbrev sLens : Stmt := top 12
theorem scLens : FnScope ["lengths", "length"] ["lengths"] (defScope sLens) := ⟨rfl, rfl, rfl, by decide +kernel, rfl, by decide +kernel, by decide +kernel⟩
def spLens (K : PySem.W.Frag) : Sp := fun vs H Q _ => ∃ (a : Addr) (ns : List Int), vs = [.ref a] ∧ SqL K H a (ns.map V.int) ∧ Q (.bl (okLens ns)) H
section
variable {K : PySem.W.Frag} {base : Heap} {mg : Str → Option Value} {P : Program} {w : World}
theorem ok_lens {f : Addr} {fd : FuncData} {t1 t2 : Tok} (F : Fun K "lengths_in_range" "lengths_in_range" sLens f fd) (gP : mg "MAX_PALLETS" = some (.int 7 t1)) (gM : mg "MAX_LENGTH" = some (.int 100 t2)) (ml : mg "len" = none) :
    FnOk P w K mg base CX0 1 f fd ["lengths"] (spLens K) := by
  refine F.ok scLens (fun vs H Q E h => ?_) (fun cdv A outer s H vs Q E hr h => ?_)
  · obtain ⟨a, ns, rfl, _⟩ := h
    rfl
  · obtain ⟨a, ns, rfl, hS, q⟩ := h
    refine ⟨_, pss_cons (ps_if (pt_cmpR op_gt (pe_callB call_len_seq (by rfl) ml PySem.boot_len (pa_cons (pv 0) pa_nil)) (pe_glob (v := .int 7) rfl gP ⟨_, rfl⟩) (nomark _)) (pss_one (ps_ret pe_bl)) pss_nil)
      (pss_cons (ps_for PassesOwn.never rfl (pi_list (pv 0)) (pg_name (i := 1) scLens.nd rfl (.inl rfl))
        (pss_one (ps_if (PW.pt (pw_or (pt_cmpR op_lt (pv 1) pe_int (nomark _)) (pw_or1 (pt_cmpR op_gt (pv 1) (pe_glob (v := .int 100) rfl gM ⟨_, rfl⟩) (nomark _))))) (pss_one (ps_ret pe_bl)) pss_nil)))
      (pss_one (ps_ret pe_bl))), ?_⟩
    refine ⟨.ref a, rfl, a, ns.map V.int, rfl, .inl hS, _, _, rfl, rfl, _, rfl, ite2 (fun e => ?_) (fun e => ?_)⟩
    · have e0 : (7 : Int) < ((ns.map V.int).length : Nat) := of_decide_eq_true e
      rw [List.length_map] at e0
      have e1 : okLens ns = false := by
        unfold okLens
        rw [decide_eq_false (by omega)]
        rfl
      rw [e1] at q
      exact q
    · have e0 : ¬ (7 : Int) < ((ns.map V.int).length : Nat) := fun z => e (decide_eq_true z)
      rw [List.length_map] at e0
      have e1 : okLens ns = ns.all okLen := by
        unfold okLens
        rw [decide_eq_true (by omega)]
        rfl
      rw [e1] at q
      refine ⟨.ref a, rfl, a, rfl, ⟨_, hS⟩, for_list (K := K) (a := a) (xs := ns.map V.int) (fun i σ H' => H' = H ∧ (∃ v : Option V, σ = [some (.ref a), v]) ∧ (ns.take i).all okLen = true)
        ⟨rfl, ⟨none, rfl⟩, rfl⟩ (fun i σ H' _ ⟨e, _, _⟩ => by rw [e]; exact hS) ?_ ?_⟩
      · rintro i y σ H' hi ⟨rfl, ⟨v, rfl⟩, hall⟩
        obtain ⟨z, hz, rfl⟩ := int_at hi
        have out : okLen z = false → Q (.bl false) H' := fun hb => by
          have e2 : ns.all okLen = false := by
            rw [List.all_eq_false]
            exact ⟨z, List.mem_of_getElem? hz, by rw [hb]; exact Bool.false_ne_true⟩
          rw [e2] at q
          exact q
        refine ⟨_, rfl, _, _, rfl, rfl, _, rfl, ite2 (fun e => ?_) (fun e => ?_)⟩
        · refine iteT (out ?_)
          have e0 : z < 1 := of_decide_eq_true e
          unfold okLen
          rw [decide_eq_false (by omega)]
          rfl
        · have e0 : ¬ z < 1 := fun w => e (decide_eq_true w)
          refine ⟨_, rfl, _, _, rfl, rfl, _, rfl, ite2 (fun e2 => ?_) (fun e2 => ?_)⟩
          · refine out ?_
            have e3 : (100 : Int) < z := of_decide_eq_true e2
            unfold okLen
            rw [decide_eq_false (show ¬ z ≤ 100 by omega), Bool.and_false]
          · have e3 : ¬ (100 : Int) < z := fun w => e2 (decide_eq_true w)
            refine ⟨rfl, ⟨_, rfl⟩, ?_⟩
            rw [take_more hz, List.all_append, hall, List.all_cons]
            unfold okLen
            rw [decide_eq_true (show 1 ≤ z by omega), decide_eq_true (show z ≤ 100 by omega)]
            rfl
      · rintro σ H' ⟨rfl, ⟨v, rfl⟩, hall⟩
        rw [List.length_map, List.take_length] at hall
        rw [hall] at q
        exact q
end
/-! ### capacity_in_range, loading_error -/
abbrev sCap : Stmt := top 11
abbrev sErr : Stmt := top 10
theorem scCap : FnScope ["capacity"] ["capacity"] (defScope sCap) := ⟨rfl, rfl, rfl, by decide +kernel, rfl, by decide +kernel, by decide +kernel⟩
theorem scErr : FnScope ["capacity", "lengths", "length"] ["capacity", "lengths"] (defScope sErr) := ⟨rfl, rfl, rfl, by decide +kernel, rfl, by decide +kernel, by decide +kernel⟩
def spCap : Sp := fun vs H Q _ => ∃ c : Int, vs = [.int c] ∧ Q (.bl (okCap c)) H
def spErr (K : PySem.W.Frag) : Sp := fun vs H Q _ => ∃ (c : Int) (a : Addr) (ns : List Int), vs = [.int c, .ref a] ∧ SqL K H a (ns.map V.int) ∧ Q (.int (err c ns)) H
section
variable {K : PySem.W.Frag} {base : Heap} {mg : Str → Option Value} {P : Program} {w : World}
theorem ok_cap {f : Addr} {fd : FuncData} {t0 t1 : Tok} (F : Fun K "capacity_in_range" "capacity_in_range" sCap f fd) (g0 : mg "MIN_CAPACITY" = some (.int 1 t0)) (gM : mg "MAX_CAPACITY" = some (.int 100 t1)) : FnOk P w K mg base CX0 1 f fd ["capacity"] spCap := by
  refine F.ok scCap (fun vs H Q E h => ?_) (fun cdv A outer s H vs Q E hr h => ?_)
  · obtain ⟨c, rfl, _⟩ := h
    rfl
  · obtain ⟨c, rfl, q⟩ := h
    refine ⟨_, pss_one (ps_ret (pe_and (pe_cmpR op_ge (pv 0) (pe_glob (v := .int 1) rfl g0 ⟨_, rfl⟩) (nomark _)) (pe_one (pe_cmpR op_le (pv 0) (pe_glob (v := .int 100) rfl gM ⟨_, rfl⟩) (nomark _))))), ?_⟩
    refine ⟨_, rfl, _, _, rfl, rfl, _, rfl, ite2 (fun e => ?_) (fun e => ?_)⟩
    · refine ⟨_, rfl, _, _, rfl, rfl, ?_⟩
      have e1 : okCap c = decide (c ≤ 100) := by
        unfold okCap
        rw [e]
        rfl
      rw [e1] at q
      exact q
    · have e1 : okCap c = false := by
        unfold okCap
        rw [Bool.eq_false_iff.mpr e]
        rfl
      rw [e1] at q
      exact q
theorem ok_err {f fC fL : Addr} {fd fdC fdL : FuncData} {t0 t1 t2 t3 t4 t5 t6 : Tok} (F : Fun K "loading_error" "loading_error" sErr f fd) (FC : Fun K "capacity_in_range" "capacity_in_range" sCap fC fdC) (FL : Fun K "lengths_in_range" "lengths_in_range" sLens fL fdL)
    (bC : Binds K fdC ["capacity"] []) (bL : Binds K fdL ["lengths"] []) (gC : mg "capacity_in_range" = some (.ref fC)) (gL : mg "lengths_in_range" = some (.ref fL))
    (g0 : mg "MIN_CAPACITY" = some (.int 1 t0)) (g1 : mg "MAX_CAPACITY" = some (.int 100 t1)) (g2 : mg "MAX_PALLETS" = some (.int 7 t2)) (g3 : mg "MAX_LENGTH" = some (.int 100 t3)) (g4 : mg "OUT_OF_RANGE" = some (.int (-22) t4)) (g5 : mg "TOO_LONG" = some (.int (-33) t5)) (g6 : mg "NO_ERROR" = some (.int 0 t6)) (ml : mg "len" = none) :
    FnOk P w K mg base CX0 2 f fd ["capacity", "lengths"] (spErr K) := by
  have GC : FnOk P w K mg base CX0 1 fC fdC ["capacity"] spCap := ok_cap FC g0 g1
  have GL : FnOk P w K mg base CX0 1 fL fdL ["lengths"] (spLens K) := ok_lens FL g2 g3 ml
  refine F.ok scErr (fun vs H Q E h => ?_) (fun cdv A outer s H vs Q E hr h => ?_)
  · obtain ⟨c, a, ns, rfl, _⟩ := h
    rfl
  · obtain ⟨c, a, ns, rfl, hS, q⟩ := h
    refine ⟨_, pss_cons (ps_if (PW.pt (pw_or (pt_not (pt_val (pe_call GC hr (by rfl) gC FC.kp bC .nil pass0 (pa_cons (pv 0) pa_nil)))) (pw_or1 (pt_not (pt_val (pe_call GL hr (by rfl) gL FL.kp bL .nil pass0 (pa_cons (pv 1) pa_nil)))))))
        (pss_one (ps_ret (pe_glob (v := .int (-22)) rfl g4 ⟨_, rfl⟩))) pss_nil)
      (pss_cons (ps_for PassesOwn.never rfl (pi_list (pv 1)) (pg_name (i := 2) scErr.nd rfl (.inl rfl))
        (pss_one (ps_if (pt_cmpR op_gt (pv 2) (pv 0) (nomark _)) (pss_one (ps_ret (pe_glob (v := .int (-33)) rfl g5 ⟨_, rfl⟩))) pss_nil)))
      (pss_one (ps_ret (pe_glob (v := .int 0) rfl g6 ⟨_, rfl⟩)))), ?_⟩
    have bad : (okCap c && okLens ns) = false → Q (.int (-22)) H := fun e => by
      unfold err at q
      rw [e, if_neg Bool.false_ne_true] at q
      exact q
    refine ⟨_, rfl, c, rfl, _, rfl, ?_⟩
    cases e1 : okCap c with
    | false =>
      refine iteT (iteT (bad ?_))
      rw [e1]
      rfl
    | true =>
      refine iteF ⟨_, rfl, a, ns, rfl, hS, _, rfl, ?_⟩
      cases e2 : okLens ns with
      | false =>
        refine iteT (bad ?_)
        rw [e1, e2]
        rfl
      | true =>
        refine iteF ?_
        have e3 : err c ns = if (ns.any fun n => decide (c < n)) = true then -33 else 0 := by
          unfold err
          rw [e1, e2]
          exact if_pos rfl
        rw [e3] at q
        refine ⟨.ref a, rfl, a, rfl, ⟨_, hS⟩, for_list (K := K) (a := a) (xs := ns.map V.int) (fun i σ H' => H' = H ∧ (∃ v : Option V, σ = [some (.int c), some (.ref a), v]) ∧ ((ns.take i).any fun n => decide (c < n)) = false)
          ⟨rfl, ⟨none, rfl⟩, rfl⟩ (fun i σ H' _ ⟨e, _, _⟩ => by rw [e]; exact hS) ?_ ?_⟩
        · rintro i y σ H' hi ⟨rfl, ⟨v, rfl⟩, hall⟩
          obtain ⟨z, hz, rfl⟩ := int_at hi
          refine ⟨_, rfl, _, rfl, _, _, rfl, rfl, _, rfl, ite2 (fun e => ?_) (fun e => ?_)⟩
          · have e4 : (ns.any fun n => decide (c < n)) = true := List.any_eq_true.mpr ⟨z, List.mem_of_getElem? hz, e⟩
            rw [if_pos e4] at q
            exact q
          · refine ⟨rfl, ⟨_, rfl⟩, ?_⟩
            rw [take_more hz, List.any_append, hall, List.any_cons, Bool.eq_false_iff.mpr e]
            rfl
        · rintro σ H' ⟨rfl, ⟨v, rfl⟩, hall⟩
          rw [List.length_map, List.take_length] at hall
          rw [hall, if_neg Bool.false_ne_true] at q
          exact q
end
/-! ### the loads of an assignment -/
theorem load_cons (l : Nat) (r : List Nat) (t : Nat) (a : List Nat) (k : Nat) : Kbe6.loadOf (l :: r) (t :: a) k = (if t = k then l else 0) + Kbe6.loadOf r a k := by
  unfold Kbe6.loadOf
  rw [List.zip_cons_cons, List.filterMap_cons]
  by_cases e : t = k
  · rw [if_pos e, if_pos e, sumOf_cons]
  · rw [if_neg e, if_neg e, Nat.zero_add]
theorem load_none : ∀ (ls a : List Nat) (k : Nat), k ∉ a → Kbe6.loadOf ls a k = 0
  | [], _, _, _ => rfl
  | _ :: _, [], _, _ => rfl
  | l :: r, t :: a, k, h => by
    rw [load_cons, if_neg (fun e => h (by rw [e]; exact List.mem_cons_self ..)), load_none r a k fun z => h (List.mem_cons_of_mem _ z)]
theorem lt_count {a : List Nat} {t : Nat} (h : t ∈ a) : t < Kbe6.truckCount a := by
  unfold Kbe6.truckCount
  cases a with
  | nil => cases h
  | cons x r =>
    have := (le_max (x :: r) 0).2 t h
    show t < List.foldl max 0 (x :: r) + 1
    omega
/-! ### what is due of is_feasible -/
/-- the trucks of an assignment are no greater than 99 -/
def okTrucks (ks : List Int) : Bool := ks.all fun k => decide (k ≤ 99)
theorem trucks_is {ks : List Int} (h : ∀ k ∈ ks, 0 ≤ k) : ((ks.map Int.toNat).any fun truck => decide (99 < truck)) = !okTrucks ks := by
  unfold okTrucks
  rw [List.any_map]
  induction ks with
  | nil => rfl
  | cons k r ih =>
    rw [List.any_cons, List.all_cons, ih fun x hx => h x (List.mem_cons_of_mem _ hx), Bool.not_and]
    congr 1
    have := h k (List.mem_cons_self ..)
    show decide (99 < k.toNat) = !decide (k ≤ 99)
    rw [← decide_not]
    exact decide_eq_decide.mpr (by omega)
theorem is_feasible_is {c : Int} {ns ks : List Int} (hc : 0 ≤ c) (h : ∀ n ∈ ns, 0 ≤ n) (hk : ∀ k ∈ ks, 0 ≤ k) :
    PyKbe6.is_feasible c ns ks = if err c ns ≠ 0 then [err c ns] else if ks.length ≠ ns.length ∨ okTrucks ks = false then [-22] else [if Kbe6.isFeasible c.toNat (ns.map Int.toNat) (ks.map Int.toNat) = true then 1 else 0] := by
  show answer (Kbe6.requireCapacity c.toNat (ns.map Int.toNat) (if (ks.map Int.toNat).length ≠ (ns.map Int.toNat).length ∨ ((ks.map Int.toNat).any fun truck => decide (99 < truck)) = true then Kbe6.single Kbe6.invalidArgument else Kbe6.single (if Kbe6.isFeasible c.toNat (ns.map Int.toNat) (ks.map Int.toNat) then 1 else 0))) = _
  rw [req_is hc h, trucks_is hk, List.length_map, List.length_map]
  congr 1
  by_cases z : ks.length ≠ ns.length ∨ okTrucks ks = false
  · rw [if_pos z, if_pos (by rcases z with z | z; · exact .inl z
                             · exact .inr (by rw [z]; rfl))]
    rfl
  · rw [if_neg z, if_neg (fun y => z (by rcases y with y | y; · exact .inl y
                                         · exact .inr (by simpa using y)))]
    rfl
/-- no truck at all is too full -/
theorem feasible_all (c : Nat) (ls A : List Nat) : Kbe6.isFeasible c ls A = true ↔ ∀ k, Kbe6.loadOf ls A k ≤ c := by
  unfold Kbe6.isFeasible
  rw [List.all_eq_true]
  refine ⟨fun z k => ?_, fun z k _ => decide_eq_true (z k)⟩
  by_cases m : k ∈ A
  · exact of_decide_eq_true (z k (List.mem_range.mpr (lt_count m)))
  · rw [load_none ls A k m]
    exact Nat.zero_le _
/-! ### the load of each truck that may be named -/
def loadsTo (ls A : List Nat) : List Nat := (List.range 100).map (Kbe6.loadOf ls A)
theorem loadsTo_len (ls A : List Nat) : (loadsTo ls A).length = 100 := by
  unfold loadsTo
  rw [List.length_map, List.length_range]
theorem loadsTo_at (ls A : List Nat) {k : Nat} (h : k < 100) : (loadsTo ls A)[k]? = some (Kbe6.loadOf ls A k) := by
  unfold loadsTo
  rw [List.getElem?_map, List.getElem?_range h]
  rfl
theorem loadsTo_nil : loadsTo [] [] = List.replicate 100 0 := rfl
theorem load_snoc : ∀ (ls A : List Nat) (x t k : Nat), ls.length = A.length → Kbe6.loadOf (ls ++ [x]) (A ++ [t]) k = Kbe6.loadOf ls A k + if t = k then x else 0
  | [], [], x, t, k, _ => by
    show Kbe6.loadOf (x :: []) (t :: []) k = Kbe6.loadOf [] [] k + _
    rw [load_cons]
    exact Nat.add_comm _ _
  | l :: r, u :: a, x, t, k, h => by
    show Kbe6.loadOf (l :: (r ++ [x])) (u :: (a ++ [t])) k = _
    rw [load_cons, load_cons, load_snoc r a x t k (by simpa using h), Nat.add_assoc]
  | [], _ :: _, _, _, _, h => by cases h
  | _ :: _, [], _, _, _, h => by cases h
theorem loadsTo_next {ls A : List Nat} {i x t : Nat} (hx : ls[i]? = some x) (ht : A[i]? = some t) : (loadsTo (ls.take i) (A.take i)).set t (Kbe6.loadOf (ls.take i) (A.take i) t + x) = loadsTo (ls.take (i + 1)) (A.take (i + 1)) := by
  have l1 := (List.getElem?_eq_some_iff.mp hx).1
  have l2 := (List.getElem?_eq_some_iff.mp ht).1
  refine List.ext_getElem? fun k => ?_
  by_cases hk : k < 100
  · rw [loadsTo_at _ _ hk, take_more hx, take_more ht, load_snoc _ _ _ _ _ (by rw [List.length_take, List.length_take]; omega)]
    by_cases e : t = k
    · subst e
      rw [List.getElem?_set_self (by rw [loadsTo_len]; exact hk), if_pos rfl]
    · rw [List.getElem?_set_ne e, loadsTo_at _ _ hk, if_neg e]
      rfl
  · rw [List.getElem?_eq_none (by rw [List.length_set, loadsTo_len]; omega), List.getElem?_eq_none (by rw [loadsTo_len]; omega)]
/-- the greatest load is within the capacity, or the assignment is not feasible -/
theorem top_is {m : Int} {c : Nat} {ls A : List Nat} (h : ∀ t ∈ A, t ≤ 99) (h1 : m ∈ asInts (loadsTo ls A)) (h2 : ∀ y, y ∈ asInts (loadsTo ls A) → y ≤ m) : decide (m ≤ (c : Int)) = Kbe6.isFeasible c ls A := by
  refine Bool.eq_iff_iff.mpr ?_
  rw [decide_eq_true_eq, feasible_all]
  refine ⟨fun z k => ?_, fun z => ?_⟩
  · by_cases hk : k < 100
    · have := h2 (Kbe6.loadOf ls A k : Nat) (List.mem_map.mpr ⟨_, List.mem_of_getElem? (loadsTo_at ls A hk), rfl⟩)
      omega
    · rw [load_none ls A k fun y => hk (by have := h k y; omega)]
      exact Nat.zero_le _
  · obtain ⟨x, hx, rfl⟩ := List.mem_map.mp h1
    obtain ⟨k, _, rfl⟩ := List.mem_map.mp hx
    have := z k
    show ((Kbe6.loadOf ls A k : Nat) : Int) ≤ _
    omega
/-! ### for i, x in enumerate(xs) -/
theorem for_enum {K : PySem.W.Frag} {a : Addr} {xs : List V} {g : TG} {tb : TS} {D : Ends} {σ : L2.St} {H : Hp} (Pv : Nat → L2.St → Hp → Prop) (start : Pv 0 σ H) (stays : ∀ i σ H, i ≤ xs.length → Pv i σ H → SqL K H a xs)
    (turn : ∀ (i : Nat) (x : V) (T : Addr) (σ : L2.St) (H : Hp), xs[i]? = some x → H T = none → Pv i σ H → g (.ref T) σ (upd H T (.tup [.int (i : Nat), x])) fun σ2 H2 => tb { D with nx := Pv (i + 1), ct := Pv (i + 1), bk := D.nx } σ2 H2)
    (over : ∀ σ H, Pv xs.length σ H → D.nx σ H) :
    ∃ W : Nat → Nat → L2.St → Hp → Prop, (∃ left, W 0 left σ H) ∧ ∀ i m σ H, W i m σ H →
      ((Ite K a).stop i H ∧ D.nx σ H) ∨ ((Ite K a).go i H ∧ ∃ N : L2.St → Hp → Prop, (∀ σ' H', N σ' H' → ∃ m', m' < m ∧ W (i + 1) m' σ' H') ∧ ∀ x H', (Ite K a).yld i H x H' → g x σ H' fun σ2 H2 => tb { D with nx := N, ct := N, bk := D.nx } σ2 H2) := by
  refine ⟨fun i m σ G => i + m = xs.length ∧ Pv i σ G, ⟨xs.length, Nat.zero_add _, start⟩, ?_⟩
  rintro i m σ G ⟨em, p⟩
  have hS := stays i σ G (by omega) p
  by_cases lt : i < xs.length
  · have hx := List.getElem?_eq_getElem lt
    refine .inr ⟨⟨xs, _, hS, hx⟩, Pv (i + 1), fun σ' G' p' => ⟨m - 1, by omega, by omega, p'⟩, fun v G' y => ?_⟩
    obtain ⟨T, x, rfl, free, rfl, same⟩ := y
    exact turn i x T σ G (same xs hS) free p
  · refine .inl ⟨⟨xs, hS, by omega⟩, over σ G ?_⟩
    rw [show xs.length = i by omega]
    exact p
/-! ### assignment_in_range, truck_loads, is_feasible -/
abbrev sAir : Stmt := top 13
abbrev sTl : Stmt := top 14
abbrev sIf : Stmt := top 9
theorem scAir : FnScope ["assignment", "pallets", "truck"] ["assignment", "pallets"] (defScope sAir) := ⟨rfl, rfl, rfl, by decide +kernel, rfl, by decide +kernel, by decide +kernel⟩
theorem scTl : FnScope ["lengths", "assignment", "loads", "pallet", "truck"] ["lengths", "assignment"] (defScope sTl) := ⟨rfl, rfl, rfl, by decide +kernel, rfl, by decide +kernel, by decide +kernel⟩
theorem scIf : FnScope ["capacity", "lengths", "assignment", "error"] ["capacity", "lengths", "assignment"] (defScope sIf) := ⟨rfl, rfl, rfl, by decide +kernel, rfl, by decide +kernel, by decide +kernel⟩
def spAir (K : PySem.W.Frag) : Sp := fun vs H Q _ => ∃ (a : Addr) (ks : List Int) (n : Nat), vs = [.ref a, .int (n : Int)] ∧ SqL K H a (ks.map V.int) ∧ Q (.bl (decide (ks.length = n) && okTrucks ks)) H
def spTl (K : PySem.W.Frag) : Sp := fun vs H Q _ => ∃ (a b : Addr) (ls A : List Nat), vs = [.ref a, .ref b] ∧ SqL K H a (vN ls) ∧ SqL K H b (vN A) ∧ A.length = ls.length ∧ (∀ t ∈ A, t ≤ 99) ∧ ls.length ≤ 12 ∧
  ∀ H' p, Same H H' → H' p = some (.lst (vN (loadsTo ls A))) → Q (.ref p) H'
def spIf (K : PySem.W.Frag) : Sp := fun vs H Q _ => ∃ (c : Int) (a b : Addr) (ns ks : List Int), vs = [.int c, .ref a, .ref b] ∧ SqL K H a (ns.map V.int) ∧ SqL K H b (ks.map V.int) ∧ 0 ≤ c ∧ (∀ n ∈ ns, 0 ≤ n) ∧ (∀ k ∈ ks, 0 ≤ k) ∧ ns.length ≤ 12 ∧
  ∀ H' p, H' p = some (.lst ((PyKbe6.is_feasible c ns ks).map V.int)) → Q (.ref p) H'
theorem zeros_are : (List.replicate (((99 : Int) + 1).toNat) [V.int 0]).flatten = vN (loadsTo [] []) := rfl
section
variable {K : PySem.W.Frag} {base : Heap} {mg : Str → Option Value} {P : Program} {w : World}
theorem ok_air {f : Addr} {fd : FuncData} {t1 : Tok} (F : Fun K "assignment_in_range" "assignment_in_range" sAir f fd) (g1 : mg "MAX_TRUCK" = some (.int 99 t1)) (ml : mg "len" = none) : FnOk P w K mg base CX0 1 f fd ["assignment", "pallets"] (spAir K) := by
  refine F.ok scAir (fun vs H Q E h => ?_) (fun cdv A outer s H vs Q E hr h => ?_)
  · obtain ⟨a, ks, n, rfl, _⟩ := h
    rfl
  · obtain ⟨a, ks, n, rfl, hS, q⟩ := h
    refine ⟨_, pss_cons (ps_if (pt_cmpR op_ne (pe_callB call_len_seq (by rfl) ml PySem.boot_len (pa_cons (pv 0) pa_nil)) (pv 1) (nomark _)) (pss_one (ps_ret pe_bl)) pss_nil)
      (pss_cons (ps_for PassesOwn.never rfl (pi_list (pv 0)) (pg_name (i := 2) scAir.nd rfl (.inl rfl))
        (pss_one (ps_if (pt_cmpR op_gt (pv 2) (pe_glob (v := .int 99) rfl g1 ⟨_, rfl⟩) (nomark _)) (pss_one (ps_ret pe_bl)) pss_nil)))
      (pss_one (ps_ret pe_bl))), ?_⟩
    refine ⟨.ref a, rfl, a, ks.map V.int, rfl, .inl hS, _, rfl, rfl, _, rfl, ?_⟩
    rw [List.length_map]
    by_cases e : ks.length = n
    · rw [show (!decide (V.int (ks.length : Nat) = V.int (n : Int))) = false by rw [e, decide_eq_true rfl]; rfl]
      refine iteF ?_
      rw [decide_eq_true e, Bool.true_and] at q
      refine ⟨.ref a, rfl, a, rfl, ⟨_, hS⟩, for_list (K := K) (a := a) (xs := ks.map V.int) (fun i σ H' => H' = H ∧ (∃ v : Option V, σ = [some (.ref a), some (.int (n : Int)), v]) ∧ okTrucks (ks.take i) = true)
        ⟨rfl, ⟨none, rfl⟩, rfl⟩ (fun i σ H' _ ⟨e, _, _⟩ => by rw [e]; exact hS) ?_ ?_⟩
      · rintro i y σ H' hi ⟨rfl, ⟨v, rfl⟩, hall⟩
        obtain ⟨z, hz, rfl⟩ := int_at hi
        refine ⟨_, rfl, _, _, rfl, rfl, _, rfl, ite2 (fun e2 => ?_) (fun e2 => ?_)⟩
        · have e3 : (99 : Int) < z := of_decide_eq_true e2
          have e4 : okTrucks ks = false := by
            unfold okTrucks
            rw [List.all_eq_false]
            exact ⟨z, List.mem_of_getElem? hz, by rw [decide_eq_false (by omega)]; exact Bool.false_ne_true⟩
          rw [e4] at q
          exact q
        · have e3 : ¬ (99 : Int) < z := fun y => e2 (decide_eq_true y)
          refine ⟨rfl, ⟨_, rfl⟩, ?_⟩
          unfold okTrucks at hall ⊢
          rw [take_more hz, List.all_append, hall, List.all_cons, decide_eq_true (show z ≤ 99 by omega)]
          rfl
      · rintro σ H' ⟨rfl, ⟨v, rfl⟩, hall⟩
        rw [List.length_map, List.take_length] at hall
        rw [hall] at q
        exact q
    · have off : ¬ V.int ((ks.length : Nat) : Int) = V.int (n : Int) := fun z => e (Int.ofNat.inj (V.int.inj z))
      rw [show (!decide (V.int ((ks.length : Nat) : Int) = V.int (n : Int))) = true by rw [decide_eq_false off]; rfl]
      rw [decide_eq_false e] at q
      exact iteT q
theorem ok_tl {f : Addr} {fd : FuncData} {t1 : Tok} (F : Fun K "truck_loads" "truck_loads" sTl f fd) (g1 : mg "MAX_TRUCK" = some (.int 99 t1)) (me : mg "enumerate" = none) : FnOk P w K mg base CX0 1 f fd ["lengths", "assignment"] (spTl K) := by
  refine F.ok scTl (fun vs H Q E h => ?_) (fun cdv A outer s H vs Q E hr h => ?_)
  · obtain ⟨a, b, ls, A, rfl, _⟩ := h
    rfl
  · obtain ⟨a, b, ls, A, rfl, hS, hB, hl, ht, h12, q⟩ := h
    refine ⟨_, pss_cons (ps_set (i := 2) scTl.nd rfl (.inl rfl) (pe_op op_rep (pe_lst (pa_cons pe_int pa_nil)) (pe_op op_add (pe_glob (v := .int 99) rfl g1 ⟨_, rfl⟩) pe_int)))
      (pss_cons (ps_for PassesOwn.never rfl (pi_enum (by rfl) me (pa_cons (pv 1) pa_nil)) (g := gTup K 2 (gCons (gName 3) (gCons (gName 4) gNil))) (pg_tup rfl (pgs_cons (pg_name (i := 3) scTl.nd rfl (.inl rfl)) (pgs_cons (pg_name (i := 4) scTl.nd rfl (.inl rfl)) pgs_nil)))
        (pss_one (ps_asg (pe_op op_add (pe_ix ix_list (pv 2) (pv 4) (fun _ _ => rfl)) (pe_ix ix_list (pv 0) (pv 3) (fun _ _ => rfl))) (pg_sub (pv 2) (pv 4) set_list))))
      (pss_one (ps_ret (pv 2)))), ?_⟩
    refine ⟨small (by show 1 ≤ _; omega), fun p1 n1 => ⟨_, _, rfl, rfl, p1, _, _, rfl, rfl, upd_same, by decide, by decide, by decide, fun p2 n2 => ?_⟩⟩
    rw [zeros_are]
    have s1 : Same H (upd H p1 (.lst [V.int 0])) := same_upd n1
    have n2' : H p2 = none := s1.free n2
    have s2 := s1.trans (same_upd (o := .lst (vN (loadsTo [] []))) n2)
    have e2 := upd_same (H := upd H p1 (.lst [V.int 0])) (a := p2) (o := .lst (vN (loadsTo [] [])))
    generalize upd (upd H p1 (.lst [V.int 0])) p2 (.lst (vN (loadsTo [] []))) = G0 at *
    refine ⟨.ref b, rfl, b, _, rfl, s2.seq hB, for_enum (K := K) (a := b) (xs := vN A) (fun i σ G => ∃ v3 v4 : Option V, σ = [some (.ref a), some (.ref b), some (.ref p2), v3, v4] ∧ Same H G ∧ G p2 = some (.lst (vN (loadsTo (ls.take i) (A.take i)))))
      ⟨none, none, rfl, s2, e2⟩ (fun i σ G _ ⟨_, _, _, sm, _⟩ => sm.seq hB) ?_ ?_⟩
    · rintro i y T σ G hy nT ⟨v3, v4, rfl, sm, eG⟩
      obtain ⟨t, htA, rfl⟩ := vN_at hy
      have hi : i < ls.length := by
        have := (List.getElem?_eq_some_iff.mp htA).1
        omega
      have hx := getD_get hi
      have t99 := ht t (List.mem_of_getElem? htA)
      have next := loadsTo_next hx htA
      have hat := loadsTo_at (ls.take i) (A.take i) (show t < 100 by omega)
      have hlen := loadsTo_len (ls.take i) (A.take i)
      generalize Kbe6.loadOf (ls.take i) (A.take i) t = old at next hat
      generalize loadsTo (ls.take i) (A.take i) = L at eG next hat hlen
      have sT : Same G (upd G T (.tup [.int (i : Nat), .int (t : Int)])) := same_upd nT
      have eT := upd_same (H := G) (a := T) (o := .tup [.int (i : Nat), .int (t : Int)])
      have eG' := sT _ _ eG
      have smT := sm.trans sT
      generalize upd G T (.tup [.int (i : Nat), .int (t : Int)]) = G1 at *
      refine ⟨T, _, rfl, .inl (.inl eT), rfl, _, _, rfl, _, [], rfl, rfl, ?_⟩
      refine ⟨.ref p2, rfl, _, rfl, p2, _, _, _, rfl, rfl, .inl (.inl eG'), atI_nat (vN_get hat), .ref a, rfl, _, rfl, a, _, _, _, rfl, rfl, smT.seq hS, atI_nat (vN_get hx), _, _, rfl, rfl, ?_⟩
      refine ⟨.ref p2, rfl, _, rfl, p2, _, _, _, rfl, rfl, eG', ixN_nat (by rw [vN_len]; omega), ?_⟩
      refine ⟨_, _, rfl, fun x o z => ?_, ?_⟩
      · rw [upd_ne (ne_of_none z n2')]
        exact smT _ _ z
      · rw [upd_same, ← next, ← vN_set]
        rfl
    · rintro σ G ⟨v3, v4, rfl, sm, eG⟩
      rw [vN_len, List.take_length, List.take_of_length_le (by omega)] at eG
      exact ⟨.ref p2, rfl, q G p2 sm eG⟩
theorem ok_if {f fE fA fT : Addr} {fd fdE fdA fdT : FuncData} {t4 t6 : Tok} (F : Fun K "is_feasible" "is_feasible" sIf f fd) (FE : Fun K "loading_error" "loading_error" sErr fE fdE) (FA : Fun K "assignment_in_range" "assignment_in_range" sAir fA fdA) (FT : Fun K "truck_loads" "truck_loads" sTl fT fdT)
    (bE : Binds K fdE ["capacity", "lengths"] []) (bA : Binds K fdA ["assignment", "pallets"] []) (bT : Binds K fdT ["lengths", "assignment"] []) (gE : mg "loading_error" = some (.ref fE)) (gA : mg "assignment_in_range" = some (.ref fA)) (gT : mg "truck_loads" = some (.ref fT))
    (g4 : mg "OUT_OF_RANGE" = some (.int (-22) t4)) (g6 : mg "NO_ERROR" = some (.int 0 t6))
    (GE : FnOk P w K mg base CX0 2 fE fdE ["capacity", "lengths"] (spErr K)) (GA : FnOk P w K mg base CX0 1 fA fdA ["assignment", "pallets"] (spAir K)) (GT : FnOk P w K mg base CX0 1 fT fdT ["lengths", "assignment"] (spTl K)) (ml : mg "len" = none) (mx : mg "max" = none) :
    FnOk P w K mg base CX0 3 f fd ["capacity", "lengths", "assignment"] (spIf K) := by
  refine F.ok scIf (fun vs H Q E h => ?_) (fun cdv A outer s H vs Q E hr h => ?_)
  · obtain ⟨c, a, b, ns, ks, rfl, _⟩ := h
    rfl
  · obtain ⟨c, a, b, ns, ks, rfl, hS, hB, hc, hn, hk, hl, q⟩ := h
    refine ⟨_, pss_cons (ps_set (i := 3) scIf.nd rfl (.inl rfl) (pe_call GE hr (by rfl) gE FE.kp bE .nil pass0 (pa_cons (pv 0) (pa_cons (pv 1) pa_nil))))
      (pss_cons (ps_if (pt_cmpR op_ne (pv 3) (pe_glob (v := .int 0) rfl g6 ⟨_, rfl⟩) (nomark _)) (pss_one (ps_ret (pe_lst (pa_cons (pv 3) pa_nil)))) pss_nil)
      (pss_cons (ps_if (pt_not (pt_val (pe_call GA (hr.mono (by decide)) (by rfl) gA FA.kp bA .nil pass0 (pa_cons (pv 2) (pa_cons (pe_callB call_len_seq (by rfl) ml PySem.boot_len (pa_cons (pv 1) pa_nil)) pa_nil))))) (pss_one (ps_ret (pe_lst (pa_cons (pe_glob (v := .int (-22)) rfl g4 ⟨_, rfl⟩) pa_nil)))) pss_nil)
      (pss_one (ps_ret (pe_lst (pa_cons (pe_ifExp (pt_cmpR op_le (pe_callB (cr_max rfl) (by rfl) mx (by decide +kernel) (pa_cons (pe_call GT (hr.mono (by decide)) (by rfl) gT FT.kp bT .nil pass0 (pa_cons (pv 1) (pa_cons (pv 2) pa_nil))) pa_nil)) (pv 0) (nomark _)) pe_int pe_int) pa_nil)))))), ?_⟩
    refine ⟨_, rfl, .ref a, rfl, c, a, ns, rfl, hS, ?_⟩
    refine ⟨_, rfl, rfl, _, rfl, ?_⟩
    have main := is_feasible_is hc hn hk
    by_cases e : err c ns = 0
    · rw [show (!decide (V.int (err c ns) = V.int 0)) = false by rw [e]; rfl]
      refine iteF ?_
      rw [if_neg (by rw [e]; exact fun z => z rfl)] at main
      refine ⟨.ref b, rfl, .ref a, rfl, a, _, rfl, .inl hS, b, ks, (ns.map V.int).length, rfl, hB, _, rfl, ?_⟩
      rw [List.length_map]
      cases e2 : decide (ks.length = ns.length) && okTrucks ks with
      | false =>
        have e3 : ks.length ≠ ns.length ∨ okTrucks ks = false := by
          by_cases z : ks.length = ns.length
          · rw [decide_eq_true z, Bool.true_and] at e2
            exact .inr e2
          · exact .inl z
        rw [if_pos e3] at main
        refine iteT ⟨small (by show 1 ≤ _; omega), fun p hp => q _ p ?_⟩
        rw [main, upd_same]
        rfl
      | true =>
        obtain ⟨e3, e4⟩ := Bool.and_eq_true_iff.mp e2
        have e3 := of_decide_eq_true e3
        rw [if_neg (by intro z; rcases z with z | z; · exact z e3
                       · rw [e4] at z; cases z)] at main
        have eb := ints_back hn
        have ek := ints_back hk
        have h1 : (ks.map Int.toNat).length = (ns.map Int.toNat).length := by rw [List.length_map, List.length_map, e3]
        have h2 : ∀ t ∈ ks.map Int.toNat, t ≤ 99 := by
          intro t ht
          obtain ⟨z, hz, rfl⟩ := List.mem_map.mp ht
          have := of_decide_eq_true (List.all_eq_true.mp e4 z hz)
          omega
        have h3 : (ns.map Int.toNat).length ≤ 12 := by rw [List.length_map]; exact hl
        generalize ns.map Int.toNat = ls at *
        generalize ks.map Int.toNat = A' at *
        subst eb
        subst ek
        obtain ⟨k, rfl⟩ : ∃ k : Nat, c = (k : Int) := ⟨c.toNat, (Int.toNat_of_nonneg hc).symm⟩
        rw [Int.toNat_natCast] at main
        refine iteF ⟨.ref a, rfl, .ref b, rfl, a, b, ls, A', rfl, hS, hB, h1, h2, h3, fun H2 p2 sm ep => ?_⟩
        refine ⟨p2, asInts (loadsTo ls A'), rfl, .inl (.inl ep), by unfold asInts; rw [List.length_map, loadsTo_len]; decide, fun m m1 m2 => ⟨_, rfl, _, _, rfl, rfl, _, rfl, ?_⟩⟩
        rw [top_is h2 m1 m2]
        cases e5 : Kbe6.isFeasible k ls A' with
        | true =>
          rw [e5, if_pos rfl] at main
          refine iteT ⟨small (by show 1 ≤ _; omega), fun p hp => q _ p ?_⟩
          rw [main, upd_same]
          rfl
        | false =>
          rw [e5, if_neg Bool.false_ne_true] at main
          refine iteF ⟨small (by show 1 ≤ _; omega), fun p hp => q _ p ?_⟩
          rw [main, upd_same]
          rfl
    · rw [show (!decide (V.int (err c ns) = V.int 0)) = true by rw [decide_eq_false (fun z => e (V.int.inj z))]; rfl]
      refine iteT ⟨_, rfl, small (by show 1 ≤ _; omega), fun p hp => ?_⟩
      rw [if_pos e] at main
      refine q _ p ?_
      rw [main, upd_same]
      rfl
end
/-! ### the end -/
theorem all_mk {P : Program} {w : World} {K : PySem.W.Frag} {h : Heap} {mg : Str → Option Value} {fa f1 f2 f3 f4 f5 f6 : Addr} (X : K.In h) (G : h.Ns mainGlobals mg) (hfa : mg "is_feasible" = some (.ref fa))
    {od1 an1 od2 an2 od3 an3 od4 an4 od5 an5 od6 an6 : Option Addr} {sl1 sl2 sl3 sl4 sl5 sl6 : Array (Option Value)} {oc1 kV1 dc1 pm1 cd1 ct1 oc2 kV2 dc2 pm2 cd2 ct2 oc3 kV3 dc3 pm3 cd3 ct3 oc4 kV4 dc4 pm4 cd4 ct4 oc5 kV5 dc5 pm5 cd5 ct5 oc6 kV6 dc6 pm6 cd6 ct6 : Value} {t1 t2 t3 t4 t5 t6 t7 t8 : Tok}
    (a1 : PySem.W.nsIn K mainGlobals "is_feasible" = some (some (.ref f1))) (l1 : K.lookup f1 = some ⟨oc1, od1, .func (PySem.W.fnOf "is_feasible" "is_feasible" (defArgs sIf) (defBody sIf) (defScope sIf) .none kV1 dc1 pm1 an1 cd1 ct1), sl1⟩) (c1 : PySem.W.codeIn K cd1 "is_feasible" = true) (k1 : PySem.W.keepIn K (.ref f1) = true)
    (a2 : PySem.W.nsIn K mainGlobals "loading_error" = some (some (.ref f2))) (l2 : K.lookup f2 = some ⟨oc2, od2, .func (PySem.W.fnOf "loading_error" "loading_error" (defArgs sErr) (defBody sErr) (defScope sErr) .none kV2 dc2 pm2 an2 cd2 ct2), sl2⟩) (c2 : PySem.W.codeIn K cd2 "loading_error" = true) (k2 : PySem.W.keepIn K (.ref f2) = true)
    (a3 : PySem.W.nsIn K mainGlobals "capacity_in_range" = some (some (.ref f3))) (l3 : K.lookup f3 = some ⟨oc3, od3, .func (PySem.W.fnOf "capacity_in_range" "capacity_in_range" (defArgs sCap) (defBody sCap) (defScope sCap) .none kV3 dc3 pm3 an3 cd3 ct3), sl3⟩) (c3 : PySem.W.codeIn K cd3 "capacity_in_range" = true) (k3 : PySem.W.keepIn K (.ref f3) = true)
    (a4 : PySem.W.nsIn K mainGlobals "lengths_in_range" = some (some (.ref f4))) (l4 : K.lookup f4 = some ⟨oc4, od4, .func (PySem.W.fnOf "lengths_in_range" "lengths_in_range" (defArgs sLens) (defBody sLens) (defScope sLens) .none kV4 dc4 pm4 an4 cd4 ct4), sl4⟩) (c4 : PySem.W.codeIn K cd4 "lengths_in_range" = true) (k4 : PySem.W.keepIn K (.ref f4) = true)
    (a5 : PySem.W.nsIn K mainGlobals "assignment_in_range" = some (some (.ref f5))) (l5 : K.lookup f5 = some ⟨oc5, od5, .func (PySem.W.fnOf "assignment_in_range" "assignment_in_range" (defArgs sAir) (defBody sAir) (defScope sAir) .none kV5 dc5 pm5 an5 cd5 ct5), sl5⟩) (c5 : PySem.W.codeIn K cd5 "assignment_in_range" = true) (k5 : PySem.W.keepIn K (.ref f5) = true)
    (a6 : PySem.W.nsIn K mainGlobals "truck_loads" = some (some (.ref f6))) (l6 : K.lookup f6 = some ⟨oc6, od6, .func (PySem.W.fnOf "truck_loads" "truck_loads" (defArgs sTl) (defBody sTl) (defScope sTl) .none kV6 dc6 pm6 an6 cd6 ct6), sl6⟩) (c6 : PySem.W.codeIn K cd6 "truck_loads" = true) (k6 : PySem.W.keepIn K (.ref f6) = true)
    (g1 : PySem.W.nsIn K mainGlobals "MIN_CAPACITY" = some (some (.int (1) t1)))
    (g2 : PySem.W.nsIn K mainGlobals "MAX_CAPACITY" = some (some (.int (100) t2)))
    (g3 : PySem.W.nsIn K mainGlobals "MAX_PALLETS" = some (some (.int (7) t3)))
    (g4 : PySem.W.nsIn K mainGlobals "MAX_LENGTH" = some (some (.int (100) t4)))
    (g5 : PySem.W.nsIn K mainGlobals "MAX_TRUCK" = some (some (.int (99) t5)))
    (g6 : PySem.W.nsIn K mainGlobals "OUT_OF_RANGE" = some (some (.int (-22) t6)))
    (g7 : PySem.W.nsIn K mainGlobals "TOO_LONG" = some (some (.int (-33) t7)))
    (g8 : PySem.W.nsIn K mainGlobals "NO_ERROR" = some (some (.int (0) t8)))
    (m1 : PySem.W.nsIn K mainGlobals "len" = some none)
    (m2 : PySem.W.nsIn K mainGlobals "max" = some none)
    (m3 : PySem.W.nsIn K mainGlobals "enumerate" = some none)
    : ∃ fd : FuncData, (∀ (s : Shared) (us : List Value), us.length = (["capacity", "lengths", "assignment"] : List Str).length → BindsTo s fd ⟨us, []⟩ ((["capacity", "lengths", "assignment"] : List Str).zip us)) ∧ ∀ base : Heap, K.In base → base.Ns mainGlobals mg → FnOk P w K mg base CX0 3 fa fd ["capacity", "lengths", "assignment"] (spIf K) := by
  have e := hfa.symm.trans (PySem.W.mg_of X G a1)
  cases e
  have F_is_feasible := fun_mk (st := sIf) l1 c1 k1
  have F_loading_error := fun_mk (st := sErr) l2 c2 k2
  have b_loading_error := F_loading_error.binds (ps := ["capacity", "lengths"]) fun _ _ _ _ _ _ us hl => match us, hl with | [_, _], _ => rfl
  have g_loading_error := PySem.W.mg_of X G a2
  have F_capacity_in_range := fun_mk (st := sCap) l3 c3 k3
  have b_capacity_in_range := F_capacity_in_range.binds (ps := ["capacity"]) fun _ _ _ _ _ _ us hl => match us, hl with | [_], _ => rfl
  have g_capacity_in_range := PySem.W.mg_of X G a3
  have F_lengths_in_range := fun_mk (st := sLens) l4 c4 k4
  have b_lengths_in_range := F_lengths_in_range.binds (ps := ["lengths"]) fun _ _ _ _ _ _ us hl => match us, hl with | [_], _ => rfl
  have g_lengths_in_range := PySem.W.mg_of X G a4
  have F_assignment_in_range := fun_mk (st := sAir) l5 c5 k5
  have b_assignment_in_range := F_assignment_in_range.binds (ps := ["assignment", "pallets"]) fun _ _ _ _ _ _ us hl => match us, hl with | [_, _], _ => rfl
  have g_assignment_in_range := PySem.W.mg_of X G a5
  have F_truck_loads := fun_mk (st := sTl) l6 c6 k6
  have b_truck_loads := F_truck_loads.binds (ps := ["lengths", "assignment"]) fun _ _ _ _ _ _ us hl => match us, hl with | [_, _], _ => rfl
  have g_truck_loads := PySem.W.mg_of X G a6
  have k_MIN_CAPACITY := PySem.W.mg_of X G g1
  have k_MAX_CAPACITY := PySem.W.mg_of X G g2
  have k_MAX_PALLETS := PySem.W.mg_of X G g3
  have k_MAX_LENGTH := PySem.W.mg_of X G g4
  have k_MAX_TRUCK := PySem.W.mg_of X G g5
  have k_OUT_OF_RANGE := PySem.W.mg_of X G g6
  have k_TOO_LONG := PySem.W.mg_of X G g7
  have k_NO_ERROR := PySem.W.mg_of X G g8
  have n_len := PySem.W.ns_none_of X G m1
  have n_max := PySem.W.ns_none_of X G m2
  have n_enumerate := PySem.W.ns_none_of X G m3
  refine ⟨PySem.W.fnOf "is_feasible" "is_feasible" (defArgs sIf) (defBody sIf) (defScope sIf) .none kV1 dc1 pm1 an1 cd1 ct1, fun s us hu => match us, hu with | [_, _, _], _ => .of_eq rfl, fun base _ _ => ?_⟩
  exact ok_if F_is_feasible F_loading_error F_assignment_in_range F_truck_loads b_loading_error b_assignment_in_range b_truck_loads g_loading_error g_assignment_in_range g_truck_loads k_OUT_OF_RANGE k_NO_ERROR (ok_err F_loading_error F_capacity_in_range F_lengths_in_range b_capacity_in_range b_lengths_in_range g_capacity_in_range g_lengths_in_range k_MIN_CAPACITY k_MAX_CAPACITY k_MAX_PALLETS k_MAX_LENGTH k_OUT_OF_RANGE k_TOO_LONG k_NO_ERROR n_len) (ok_air F_assignment_in_range k_MAX_TRUCK n_len) (ok_tl F_truck_loads k_MAX_TRUCK n_enumerate) n_len n_max
end TF
open PySem PySem.W PyProof.Rows
set_option maxRecDepth 100000 in
set_option maxHeartbeats 8000000 in
theorem PySem.Challenge.cw_truckfill_s06_is_feasible_holds : PySem.Challenge.rw_truckfill_s06_is_feasible.Holds := by
  w_on; k_headS; (case hw => exact ⟨[.int 0, .list [], .list []], by decide +kernel, by decide +kernel⟩)
  k_fillS
  refine L2.walk_specK (r := PySem.Challenge.rw_truckfill_s06_is_feasible) (k := 3) (CX := L2.CX0) (ps := ["capacity", "lengths", "assignment"]) (sp := TF.spIf) (by decide +kernel) rfl rfl ⟨rfl, by decide, by decide⟩ (fun w h Y => PySem.W.kIn_of Y) ?F ?S (fun _ _ _ _ z => z)
  case F =>
    intro w mg fa h Y KX G hmg
    refine' TF.all_mk KX G hmg ?a1 ?l1 ?c1 ?k1 ?a2 ?l2 ?c2 ?k2 ?a3 ?l3 ?c3 ?k3 ?a4 ?l4 ?c4 ?k4 ?a5 ?l5 ?c5 ?k5 ?a6 ?l6 ?c6 ?k6 ?g1 ?g2 ?g3 ?g4 ?g5 ?g6 ?g7 ?g8 ?m1 ?m2 ?m3
    (case a1 => k_is); (case l1 => k_is); (case c1 => k_is); (case k1 => k_is)
    (case a2 => k_is); (case l2 => k_is); (case c2 => k_is); (case k2 => k_is)
    (case a3 => k_is); (case l3 => k_is); (case c3 => k_is); (case k3 => k_is)
    (case a4 => k_is); (case l4 => k_is); (case c4 => k_is); (case k4 => k_is)
    (case a5 => k_is); (case l5 => k_is); (case c5 => k_is); (case k5 => k_is)
    (case a6 => k_is); (case l6 => k_is); (case c6 => k_is); (case k6 => k_is)
    (case g1 => k_is); (case g2 => k_is); (case g3 => k_is); (case g4 => k_is); (case g5 => k_is); (case g6 => k_is); (case g7 => k_is); (case g8 => k_is); (case m1 => k_is); (case m2 => k_is); (case m3 => k_is)
  case S =>
    intro K H xs a hO hwi hask hx
    obtain ⟨c, ns, ks, u⟩ := a
    cases hx with
    | cons h1 h2 =>
      cases h1
      cases h2 with
      | cons h3 h4 =>
        cases h4 with
        | cons h5 h6 =>
          cases h6
          cases h3 with
          | lst hs ha =>
            cases h5 with
            | lst hs' ha' =>
              have e := L2.ints_dw ns _ ha
              subst e
              have e' := L2.ints_dw ks _ ha'
              subst e'
              have q : (Codec.inInt 0 4294967295 c && ((Codec.inLen 0 12 ns && ns.all (Codec.inInt 0 4294967295)) && ((Codec.inLen 0 12 ks && ks.all (Codec.inInt 0 4294967295)) && true))) = true := hwi
              rw [Bool.and_eq_true, Bool.and_eq_true, Bool.and_eq_true, Bool.and_eq_true, Bool.and_eq_true] at q
              refine ⟨c, _, _, ns, ks, rfl, hs, hs', (Codec.inInt_iff.mp q.1).1, fun n hn => (Codec.inInt_iff.mp (List.all_eq_true.mp q.2.1.2 n hn)).1, fun k hk => (Codec.inInt_iff.mp (List.all_eq_true.mp q.2.2.1.2 k hk)).1, (Codec.inNat_iff.mp q.2.1.1).2, fun H' p hp => .lst (L2.SqL.of hp) (L2.dw_ints _)⟩
#print axioms PySem.Challenge.cw_truckfill_s06_is_feasible_holds
