import PyProof.Rows.All
import Wide.All
import OpenK.AllK
import Wide.FinOn
import Open.SpecLaws
import KE.OsGo
import HandS.ForMost
import HandS.ForSpec
import HandS.SetFor
import HandS.Walk
import KE.GoesEnumKw
import PySem.Challenge.RW_chainjobs_s07_cost_after_swap
set_option Elab.async false
set_option linter.all false
set_option maxRecDepth 100000
set_option maxHeartbeats 2000000
/-! # chainjobs: the mathematics of reading chains and of orders, plain Lean -/
namespace Cj
open Ks593 (Job Chains jobCount)

/-! ### reading -/
def jobsOf : List Nat → List Job
  | d :: w :: r => ⟨d, w⟩ :: jobsOf r
  | _ => []
def split (l : List Nat) : Option Chains := match l with
  | [] => some []
  | c :: rest => if rest.length < 2 * c then none else (split (rest.drop (2 * c))).map (jobsOf (rest.take (2 * c)) :: ·)
termination_by l.length
decreasing_by
  rw [List.length_drop, List.length_cons]
  omega
def okJob (j : Job) : Bool := decide (1 ≤ j.duration) && decide (j.duration ≤ 99) && decide (j.weight ≤ 99)
def within (cs : Chains) : Bool := decide (cs.length ≤ 4) && decide (jobCount cs ≤ 7) && cs.all (·.all okJob)
/-- what the program reads out of the numbers -/
def read (l : List Nat) : Option Chains := (split l).bind fun cs => if within cs = true then some cs else none
theorem split_nil : split [] = some [] := by rw [split]
theorem split_cons (c : Nat) (rest : List Nat) : split (c :: rest) = if rest.length < 2 * c then none else (split (rest.drop (2 * c))).map (jobsOf (rest.take (2 * c)) :: ·) := by
  rw [split]
theorem jobsOf_length : ∀ l : List Nat, (jobsOf l).length = l.length / 2
  | [] => rfl
  | [_] => by show 0 = 1 / 2; rfl
  | _ :: _ :: r => by
    show (jobsOf r).length + 1 = (r.length + 1 + 1) / 2
    rw [jobsOf_length r]
    omega
theorem jobsOf_get : ∀ (l : List Nat) (i : Nat) (d w : Nat), l[2 * i]? = some d → l[2 * i + 1]? = some w → (jobsOf l)[i]? = some ⟨d, w⟩
  | [], _, _, _, h, _ => by simp at h
  | [_], 0, _, _, _, h => by simp at h
  | [_], i + 1, _, _, h, _ => by simp at h
  | a :: b :: r, 0, d, w, h, h2 => by
    have e1 : a = d := Option.some.inj h
    have e2 : b = w := Option.some.inj h2
    rw [← e1, ← e2]
    rfl
  | a :: b :: r, i + 1, d, w, h, h2 => by
    have e : 2 * (i + 1) = 2 * i + 1 + 1 := by omega
    rw [e] at h h2
    exact jobsOf_get r i d w h h2
theorem parseJobs_eq : ∀ l : List Nat, l.length % 2 = 0 → Ks593.parseJobs l = if (jobsOf l).all okJob = true then some (jobsOf l) else none
  | [], _ => rfl
  | [_], h => by simp at h
  | d :: w :: r, h => by
    have ih := parseJobs_eq r (by simp only [List.length_cons] at h; omega)
    show (if d < 1 ∨ 99 < d ∨ 99 < w then none else (Ks593.parseJobs r).map fun jobs => ⟨d, w⟩ :: jobs) = _
    show _ = if (okJob ⟨d, w⟩ && (jobsOf r).all okJob) = true then some (⟨d, w⟩ :: jobsOf r) else none
    rw [ih]
    by_cases c : d < 1 ∨ 99 < d ∨ 99 < w
    · have e : okJob ⟨d, w⟩ = false := by
        unfold okJob
        simp only [Bool.and_eq_false_iff, decide_eq_false_iff_not]
        omega
      rw [if_pos c, e]
      rfl
    · have e : okJob ⟨d, w⟩ = true := by
        unfold okJob
        simp only [Bool.and_eq_true, decide_eq_true_eq]
        omega
      rw [if_neg c, e, Bool.true_and]
      by_cases q : (jobsOf r).all okJob = true
      · rw [if_pos q, if_pos q]
        rfl
      · rw [if_neg q, if_neg q]
        rfl
theorem parseChains_eq : ∀ (fuel : Nat) (l : List Nat), Ks593.parseChains fuel l = (split l).bind fun cs => if (decide (cs.length ≤ fuel) && cs.all (·.all okJob)) = true then some cs else none
  | fuel, [] => by
    rw [split_nil]
    cases fuel <;> rfl
  | 0, c :: rest => by
    show none = _
    rw [split_cons]
    by_cases h : rest.length < 2 * c
    · rw [if_pos h]
      rfl
    · rw [if_neg h]
      cases split (rest.drop (2 * c)) with
      | none => rfl
      | some cs => rfl
  | fuel + 1, c :: rest => by
    show (if rest.length < 2 * c then none else match Ks593.parseJobs (rest.take (2 * c)), Ks593.parseChains fuel (rest.drop (2 * c)) with
      | some jobs, some chains => some (jobs :: chains)
      | _, _ => none) = _
    rw [split_cons]
    by_cases h : rest.length < 2 * c
    · rw [if_pos h, if_pos h]
      rfl
    · rw [if_neg h, if_neg h, parseChains_eq fuel (rest.drop (2 * c)), parseJobs_eq _ (by rw [List.length_take]; omega)]
      cases split (rest.drop (2 * c)) with
      | none =>
        by_cases q : (jobsOf (rest.take (2 * c))).all okJob = true
        · rw [if_pos q]; rfl
        · rw [if_neg q]; rfl
      | some cs =>
        show _ = if (decide ((jobsOf (rest.take (2 * c)) :: cs).length ≤ fuel + 1) && ((jobsOf (rest.take (2 * c))).all okJob && cs.all (·.all okJob))) = true then some (jobsOf (rest.take (2 * c)) :: cs) else none
        have hl : decide ((jobsOf (rest.take (2 * c)) :: cs).length ≤ fuel + 1) = decide (cs.length ≤ fuel) := by
          rw [List.length_cons]
          simp only [Nat.add_le_add_iff_right]
        rw [hl]
        by_cases q : (jobsOf (rest.take (2 * c))).all okJob = true
        · rw [if_pos q, q, Bool.true_and]
          by_cases z : (decide (cs.length ≤ fuel) && cs.all (·.all okJob)) = true
          · rw [if_pos z]
            show (match some _, (if _ then some cs else none) with | some jobs, some chains => some (jobs :: chains) | _, _ => none) = _
            rw [if_pos z]
          · rw [if_neg z]
            show (match some _, (if _ then some cs else none) with | some jobs, some chains => some (jobs :: chains) | _, _ => none) = _
            rw [if_neg z]
        · rw [if_neg q]
          have q' : (jobsOf (rest.take (2 * c))).all okJob = false := by simpa using q
          rw [q', Bool.false_and, Bool.and_false]
          rfl
theorem withChains_eq (l : List Nat) (k : Chains → Ks593.Result) : Ks593.withChains l k = match read l with | none => Ks593.number (-22) | some cs => k cs := by
  unfold Ks593.withChains read
  rw [parseChains_eq]
  cases split l with
  | none => rfl
  | some cs =>
    show (match (if (decide (cs.length ≤ 9) && cs.all (·.all okJob)) = true then some cs else none) with | none => _ | some chains => if Ks593.maxChains < chains.length ∨ Ks593.maxJobs < jobCount chains then _ else k chains) = (match (if within cs = true then some cs else none) with | none => _ | some cs => k cs)
    unfold within
    by_cases q : cs.all (·.all okJob) = true
    · rw [q, Bool.and_true, Bool.and_true]
      by_cases z : cs.length ≤ 4 ∧ jobCount cs ≤ 7
      · have z1 : decide (cs.length ≤ 9) = true := decide_eq_true (by omega)
        have z2 : (decide (cs.length ≤ 4) && decide (jobCount cs ≤ 7)) = true := by simp [z.1, z.2]
        rw [if_pos z1, if_pos z2]
        show (if 4 < cs.length ∨ 7 < jobCount cs then _ else k cs) = k cs
        rw [if_neg (by omega)]
      · have z2 : ¬ (decide (cs.length ≤ 4) && decide (jobCount cs ≤ 7)) = true := by
          simp only [Bool.and_eq_true, decide_eq_true_eq]
          exact z
        rw [if_neg z2]
        by_cases z1 : decide (cs.length ≤ 9) = true
        · rw [if_pos z1]
          show (if 4 < cs.length ∨ 7 < jobCount cs then _ else k cs) = _
          rw [if_pos (by omega)]
        · rw [if_neg z1]
    · have q' : cs.all (·.all okJob) = false := by simpa using q
      rw [q', Bool.and_false, Bool.and_false]
      rfl
/-- what holds of chains that were read -/
structure Good (cs : Chains) : Prop where
  len : cs.length ≤ 4
  cnt : jobCount cs ≤ 7
  job : ∀ js ∈ cs, ∀ j ∈ js, 1 ≤ j.duration ∧ j.duration ≤ 99 ∧ j.weight ≤ 99
theorem okJob_iff {j : Job} : okJob j = true ↔ 1 ≤ j.duration ∧ j.duration ≤ 99 ∧ j.weight ≤ 99 := by
  unfold okJob
  simp only [Bool.and_eq_true, decide_eq_true_eq, and_assoc]
theorem good_of_within {cs : Chains} (h : within cs = true) : Good cs := by
  unfold within at h
  simp only [Bool.and_eq_true, decide_eq_true_eq, List.all_eq_true, okJob_iff] at h
  exact ⟨h.1.1, h.1.2, h.2⟩
theorem good_of_read {l : List Nat} {cs : Chains} (h : read l = some cs) : Good cs := by
  unfold read at h
  cases e : split l with
  | none => rw [e] at h; cases h
  | some x =>
    rw [e] at h
    have h' : (if within x = true then some x else none) = some cs := h
    by_cases q : within x = true
    · rw [if_pos q] at h'
      cases h'
      exact good_of_within q
    · rw [if_neg q] at h'
      cases h'

/-! ### orders -/
/-- is_order, as the program tells it -/
def isOrd (cs : Chains) (os : List Nat) : Bool := decide (os.length = jobCount cs) && (List.range cs.length).all fun c => decide (os.count c = (cs.getD c []).length)
theorem count_range : ∀ (os : List Nat) (n : Nat), ((List.range n).map fun c => os.count c).sum = (os.filter fun x => decide (x < n)).length
  | [], n => by
    induction n with
    | zero => rfl
    | succ n ih => rw [List.range_succ, List.map_append, List.sum_append, ih]; rfl
  | o :: os, n => by
    have ih := count_range os n
    have e : ∀ n : Nat, ((List.range n).map fun c => (o :: os).count c).sum = ((List.range n).map fun c => os.count c).sum + if o < n then 1 else 0 := by
      intro n
      induction n with
      | zero => rfl
      | succ n hn =>
        rw [List.range_succ, List.map_append, List.sum_append, hn, List.map_append, List.sum_append]
        show _ + ([(o :: os).count n] : List Nat).sum = _ + ([os.count n] : List Nat).sum + _
        rw [List.sum_singleton, List.sum_singleton, List.count_cons]
        by_cases q : o = n
        · subst q
          simp
          omega
        · have q' : (o == n) = false := by simpa using q
          rw [q']
          by_cases z : o < n
          · rw [if_pos z, if_pos (show o < n + 1 by omega), if_neg Bool.false_ne_true]
            omega
          · rw [if_neg z, if_neg (show ¬ o < n + 1 by omega), if_neg Bool.false_ne_true]
            omega
    rw [e, ih, List.filter_cons]
    by_cases q : o < n
    · rw [if_pos q, if_pos (decide_eq_true q)]
      rfl
    · rw [if_neg q, if_neg (by simpa using q)]
      rfl
theorem getD_range (cs : Chains) : (List.range cs.length).map (fun c => (cs.getD c []).length) = cs.map List.length := by
  apply List.ext_getElem?
  intro i
  by_cases h : i < cs.length
  · simp [List.getElem?_map, h]
  · simp [List.getElem?_map, h, show cs.length ≤ i by omega]
theorem filter_full : ∀ {l : List Nat} {p : Nat → Bool}, (l.filter p).length = l.length → l.all p = true
  | [], _, _ => rfl
  | x :: r, p, h => by
    rw [List.filter_cons] at h
    by_cases q : p x = true
    · rw [if_pos q] at h
      rw [List.all_cons, q, Bool.true_and]
      exact filter_full (by simpa using h)
    · rw [if_neg q] at h
      have := List.length_filter_le p r
      rw [List.length_cons] at h
      omega
theorem isOrder_eq (cs : Chains) (os : List Nat) : Ks593.isOrder cs os = isOrd cs os := by
  unfold Ks593.isOrder isOrd
  have e1 : (os.length == jobCount cs) = decide (os.length = jobCount cs) := by
    by_cases h : os.length = jobCount cs <;> simp [h]
  rw [e1]
  by_cases h : os.length = jobCount cs
  · rw [decide_eq_true h, Bool.true_and, Bool.true_and]
    have e2 : ∀ c, ((os.filter fun x => x == c).length == (cs.getD c []).length) = decide (os.count c = (cs.getD c []).length) := by
      intro c
      rw [← List.countP_eq_length_filter]
      show (os.count c == (cs.getD c []).length) = _
      rw [Bool.eq_iff_iff, beq_iff_eq, decide_eq_true_iff]
    by_cases q : ((List.range cs.length).all fun c => decide (os.count c = (cs.getD c []).length)) = true
    · rw [q]
      have q2 : ∀ c ∈ List.range cs.length, os.count c = (cs.getD c []).length := by
        intro c hc
        exact of_decide_eq_true (List.all_eq_true.mp q c hc)
      have s : (os.filter fun x => decide (x < cs.length)).length = os.length := by
        rw [← count_range, List.map_congr_left q2, getD_range, h]
        rfl
      have a := filter_full s
      rw [List.all_eq_true]
      intro c hc
      rw [e2, a, Bool.and_true]
      exact decide_eq_true (q2 c hc)
    · have q' : ((List.range cs.length).all fun c => decide (os.count c = (cs.getD c []).length)) = false := by simpa using q
      rw [q']
      rw [List.all_eq_false] at q' ⊢
      obtain ⟨c, hc, z⟩ := q'
      refine ⟨c, hc, ?_⟩
      rw [e2]
      intro y
      rw [Bool.and_eq_true] at y
      exact z y.1
  · rw [decide_eq_false h, Bool.false_and, Bool.false_and]

/-- the order goes with the chains -/
inductive Ord : Chains → List Nat → Prop
  | nil {cs : Chains} : (∀ js ∈ cs, js = []) → Ord cs []
  | cons {cs : Chains} {c : Nat} {j : Job} {r : List Job} {os : List Nat} : cs[c]? = some (j :: r) → Ord (cs.set c r) os → Ord cs (c :: os)
theorem jobCount_set : ∀ {cs : Chains} {c : Nat} {j : Job} {r : List Job}, cs[c]? = some (j :: r) → jobCount (cs.set c r) + 1 = jobCount cs
  | [], c, j, r, h => by simp at h
  | x :: cs, 0, j, r, h => by
    have e : x = j :: r := Option.some.inj h
    subst e
    show ((r :: cs).map List.length).sum + 1 = (((j :: r) :: cs).map List.length).sum
    simp only [List.map_cons, List.sum_cons, List.length_cons]
    omega
  | x :: cs, c + 1, j, r, h => by
    have ih := jobCount_set (cs := cs) (c := c) (j := j) (r := r) (by simpa using h)
    show ((x :: cs.set c r).map List.length).sum + 1 = ((x :: cs).map List.length).sum
    unfold jobCount at ih
    simp only [List.map_cons, List.sum_cons]
    omega
theorem isOrd_length {cs : Chains} {os : List Nat} (h : isOrd cs os = true) : os.length = jobCount cs := by
  unfold isOrd at h
  rw [Bool.and_eq_true] at h
  exact of_decide_eq_true h.1
theorem isOrd_count {cs : Chains} {os : List Nat} (h : isOrd cs os = true) {c : Nat} {js : List Job} (e : cs[c]? = some js) : os.count c = js.length := by
  unfold isOrd at h
  rw [Bool.and_eq_true, List.all_eq_true] at h
  have hc : c < cs.length := (List.getElem?_eq_some_iff.mp e).1
  have q := of_decide_eq_true (h.2 c (List.mem_range.mpr hc))
  rw [q, List.getD_eq_getElem?_getD, e]
  rfl
theorem isOrd_mk {cs : Chains} {os : List Nat} (h1 : os.length = jobCount cs) (h2 : ∀ c js, cs[c]? = some js → os.count c = js.length) : isOrd cs os = true := by
  unfold isOrd
  rw [Bool.and_eq_true, List.all_eq_true]
  refine ⟨decide_eq_true h1, fun c hc => decide_eq_true ?_⟩
  have hc' : c < cs.length := List.mem_range.mp hc
  rw [h2 c cs[c] (List.getElem?_eq_getElem hc'), List.getD_eq_getElem?_getD, List.getElem?_eq_getElem hc']
  rfl
theorem isOrd_lt {cs : Chains} {os : List Nat} (h : isOrd cs os = true) : ∀ c ∈ os, c < cs.length := by
  have s : (os.filter fun x => decide (x < cs.length)).length = os.length := by
    have q2 : ∀ c ∈ List.range cs.length, os.count c = (cs.getD c []).length := by
      intro c hc
      have hc' : c < cs.length := List.mem_range.mp hc
      rw [isOrd_count h (List.getElem?_eq_getElem hc'), List.getD_eq_getElem?_getD, List.getElem?_eq_getElem hc']
      rfl
    rw [← count_range, List.map_congr_left q2, getD_range, isOrd_length h]
    rfl
  intro c hc
  exact of_decide_eq_true (List.all_eq_true.mp (filter_full s) c hc)
theorem ord_of_isOrd : ∀ {os : List Nat} {cs : Chains}, isOrd cs os = true → Ord cs os
  | [], cs, h => by
    refine .nil fun js hj => ?_
    obtain ⟨i, hi, e⟩ := List.getElem_of_mem hj
    have q := isOrd_count h (c := i) (js := js) (by rw [List.getElem?_eq_getElem hi, e])
    exact List.length_eq_zero_iff.mp q.symm
  | c :: os, cs, h => by
    have hc := isOrd_lt h c List.mem_cons_self
    have q := isOrd_count h (List.getElem?_eq_getElem hc)
    cases e : cs[c] with
    | nil =>
      rw [e, List.count_cons_self] at q
      cases q
    | cons j r =>
      have e' : cs[c]? = some (j :: r) := by rw [List.getElem?_eq_getElem hc, e]
      refine .cons e' (ord_of_isOrd (isOrd_mk ?_ fun d js hd => ?_))
      · have l := isOrd_length h
        have s := jobCount_set e'
        rw [List.length_cons] at l
        omega
      · by_cases z : c = d
        · subst z
          rw [List.getElem?_set_self hc] at hd
          cases hd
          have q' := isOrd_count h e'
          rw [List.count_cons_self, List.length_cons] at q'
          omega
        · rw [List.getElem?_set_ne z] at hd
          have q' := isOrd_count h hd
          rw [List.count_cons_of_ne (by simpa using z)] at q'
          exact q'
theorem Ord.length : ∀ {cs : Chains} {os : List Nat}, Ord cs os → os.length = jobCount cs
  | cs, _, .nil h => by
    unfold jobCount
    rw [List.map_congr_left (g := fun _ => 0) (fun js hj => by rw [h js hj]; rfl)]
    clear h
    induction cs with
    | nil => rfl
    | cons x r ih => rw [List.map_cons, List.sum_cons, ← ih]; rfl
  | cs, c :: os, .cons h o => by
    rw [List.length_cons, o.length, jobCount_set h]
/-- the jobs as the order does them -/
def seq : Chains → List Nat → List Job
  | _, [] => []
  | cs, c :: os => match cs.getD c [] with
    | [] => seq cs os
    | j :: r => j :: seq (cs.set c r) os
theorem getD_of {cs : Chains} {c : Nat} {js : List Job} (h : cs[c]? = some js) : cs.getD c [] = js := by
  rw [List.getD_eq_getElem?_getD, h]
  rfl
theorem seq_cons {cs : Chains} {c : Nat} {j : Job} {r : List Job} {os : List Nat} (h : cs[c]? = some (j :: r)) : seq cs (c :: os) = j :: seq (cs.set c r) os := by
  show (match cs.getD c [] with | [] => seq cs os | j :: r => j :: seq (cs.set c r) os) = _
  rw [getD_of h]
/-- what jobs in that order cost from a time on -/
def costAt : Nat → List Job → Nat
  | _, [] => 0
  | t, j :: r => j.weight * (t + j.duration) + costAt (t + j.duration) r
theorem totalCost_eq : ∀ (os : List Nat) (t : Nat) (cs : Chains), Ks593.totalCost t cs os = costAt t (seq cs os)
  | [], t, cs => by
    unfold Ks593.totalCost
    rfl
  | c :: os, t, cs => by
    unfold Ks593.totalCost seq
    cases cs.getD c [] with
    | nil => exact totalCost_eq os t cs
    | cons j r =>
      show j.weight * (t + j.duration) + Ks593.totalCost (t + j.duration) (cs.set c r) os = j.weight * (t + j.duration) + costAt (t + j.duration) (seq (cs.set c r) os)
      rw [totalCost_eq os]
theorem Ord.seq_length : ∀ {cs : Chains} {os : List Nat}, Ord cs os → (seq cs os).length = os.length
  | _, _, .nil _ => rfl
  | _, _, .cons h o => by
    rw [seq_cons h, List.length_cons, List.length_cons, o.seq_length]
/-! ### completion times -/
def timesAt : Nat → List Job → List Nat
  | _, [] => []
  | t, j :: r => (t + j.duration) :: timesAt (t + j.duration) r
theorem completionTimes_eq : ∀ (os : List Nat) (t : Nat) (cs : Chains), Ks593.completionTimes t cs os = timesAt t (seq cs os)
  | [], t, cs => by
    unfold Ks593.completionTimes
    rfl
  | c :: os, t, cs => by
    unfold Ks593.completionTimes seq
    cases cs.getD c [] with
    | nil => exact completionTimes_eq os t cs
    | cons j r =>
      show (t + j.duration) :: Ks593.completionTimes (t + j.duration) (cs.set c r) os = (t + j.duration) :: timesAt (t + j.duration) (seq (cs.set c r) os)
      rw [completionTimes_eq os]
theorem timesAt_length : ∀ (l : List Job) (t : Nat), (timesAt t l).length = l.length
  | [], _ => rfl
  | j :: r, t => by
    show (timesAt (t + j.duration) r).length + 1 = r.length + 1
    rw [timesAt_length r]
theorem timesAt_snoc : ∀ (l : List Job) (t : Nat) (j : Job), timesAt t (l ++ [j]) = timesAt t l ++ [t + (l.map Job.duration).sum + j.duration]
  | [], t, j => rfl
  | x :: r, t, j => by
    show (t + x.duration) :: timesAt (t + x.duration) (r ++ [j]) = (t + x.duration) :: (timesAt (t + x.duration) r ++ [_])
    rw [timesAt_snoc r]
    simp only [List.map_cons, List.sum_cons, Nat.add_assoc]
/-- what is behind the i-th time, and the time itself -/
theorem timesAt_step {l : List Job} {t i : Nat} {j : Job} (h : (timesAt 0 l).drop i = timesAt t (l.drop i)) (e : l[i]? = some j) :
    (timesAt 0 l)[i]? = some (t + j.duration) ∧ (timesAt 0 l).drop (i + 1) = timesAt (t + j.duration) (l.drop (i + 1)) := by
  obtain ⟨hi, e2⟩ := List.getElem?_eq_some_iff.mp e
  rw [List.drop_eq_getElem_cons hi, e2] at h
  have h' : (timesAt 0 l).drop i = (t + j.duration) :: timesAt (t + j.duration) (l.drop (i + 1)) := h
  refine ⟨?_, ?_⟩
  · have q := List.getElem?_drop (xs := timesAt 0 l) (i := i) (j := 0)
    rw [h'] at q
    exact q.symm
  · rw [← List.drop_drop, h']
    rfl
end Cj
namespace Cj
open Ks593 (Job Chains jobCount)
/-! ### the densest prefix -/
def bestOf (js : List Job) (i : Nat) : Nat :=
  (List.range i).foldl (fun best k => if Ks593.isDenser (Ks593.prefixTotals js best) (Ks593.prefixTotals js (k + 1)) then best else k + 1) (min 1 js.length)
theorem bestOf_length (js : List Job) : Ks593.densestPrefix js = bestOf js js.length := rfl
theorem bestOf_succ (js : List Job) (i : Nat) : bestOf js (i + 1) = if Ks593.isDenser (Ks593.prefixTotals js (bestOf js i)) (Ks593.prefixTotals js (i + 1)) = true then bestOf js i else i + 1 := by
  unfold bestOf
  rw [List.range_succ, List.foldl_append]
  rfl
theorem isDenser_self (a : Nat × Nat) : Ks593.isDenser a a = false := by
  unfold Ks593.isDenser
  exact decide_eq_false (Nat.lt_irrefl _)
theorem bestOf_one {js : List Job} (h : 0 < js.length) : bestOf js 1 = 1 := by
  rw [bestOf_succ]
  have e : bestOf js 0 = 1 := by
    show min 1 js.length = 1
    omega
  rw [e]
  rw [isDenser_self, if_neg Bool.false_ne_true]
theorem bestOf_range {js : List Job} (h : 0 < js.length) : ∀ i : Nat, 1 ≤ bestOf js i ∧ bestOf js i ≤ max 1 i
  | 0 => by
    have e : bestOf js 0 = 1 := by
      show min 1 js.length = 1
      omega
    rw [e]
    omega
  | i + 1 => by
    have ih := bestOf_range h i
    rw [bestOf_succ]
    split <;> omega
theorem densest_range {js : List Job} (h : 0 < js.length) : 1 ≤ Ks593.densestPrefix js ∧ Ks593.densestPrefix js ≤ js.length := by
  have q := bestOf_range h js.length
  rw [← bestOf_length] at q
  omega
theorem take_more {α : Type} : ∀ {l : List α} {i : Nat} {x : α}, l[i]? = some x → l.take (i + 1) = l.take i ++ [x]
  | [], i, x, h => by simp at h
  | a :: l, 0, x, h => by
    have e : a = x := Option.some.inj h
    subst e
    rfl
  | a :: l, i + 1, x, h => by
    have ih := take_more (l := l) (i := i) (x := x) h
    show a :: l.take (i + 1) = a :: l.take i ++ [x]
    rw [ih]
    rfl
theorem totals_succ {js : List Job} {i : Nat} {j : Job} (h : js[i]? = some j) : Ks593.prefixTotals js (i + 1) = ((Ks593.prefixTotals js i).1 + j.weight, (Ks593.prefixTotals js i).2 + j.duration) := by
  unfold Ks593.prefixTotals
  rw [take_more h, List.map_append, List.map_append, List.sum_append, List.sum_append]
  simp
theorem totals_le {js : List Job} (h : ∀ j ∈ js, j.duration ≤ 99 ∧ j.weight ≤ 99) : ∀ k, (Ks593.prefixTotals js k).1 ≤ 99 * k ∧ (Ks593.prefixTotals js k).2 ≤ 99 * k
  | 0 => by
    unfold Ks593.prefixTotals
    simp
  | k + 1 => by
    have ih := totals_le h k
    by_cases hk : k < js.length
    · rw [totals_succ (List.getElem?_eq_getElem hk)]
      have q := h js[k] (List.getElem_mem hk)
      constructor
      · show _ + _ ≤ _
        omega
      · show _ + _ ≤ _
        omega
    · have e : Ks593.prefixTotals js (k + 1) = Ks593.prefixTotals js k := by
        unfold Ks593.prefixTotals
        rw [List.take_of_length_le (by omega), List.take_of_length_le (by omega)]
      rw [e]
      omega

/-! ### the chain that is taken -/
def pick (ok : Nat → Bool) (t : Nat → Nat × Nat) (n : Nat) : Option Nat :=
  (List.range n).foldl (fun o c => if ok c = true then (match o with | none => some c | some b => if Ks593.isDenser (t c) (t b) = true then some c else some b) else o) none
theorem pick_zero (ok : Nat → Bool) (t : Nat → Nat × Nat) : pick ok t 0 = none := rfl
theorem pick_succ (ok : Nat → Bool) (t : Nat → Nat × Nat) (n : Nat) :
    pick ok t (n + 1) = if ok n = true then (match pick ok t n with | none => some n | some b => if Ks593.isDenser (t n) (t b) = true then some n else some b) else pick ok t n := by
  unfold pick
  rw [List.range_succ, List.foldl_append]
  rfl
theorem pick_fold (ok : Nat → Bool) (t : Nat → Nat × Nat) : ∀ (l : List Nat) (b : Nat),
    l.foldl (fun o c => if ok c = true then (match o with | none => some c | some b => if Ks593.isDenser (t c) (t b) = true then some c else some b) else o) (some b)
      = some ((l.filter ok).foldl (fun best c => if Ks593.isDenser (t c) (t best) = true then c else best) b)
  | [], b => rfl
  | x :: l, b => by
    rw [List.foldl_cons, List.filter_cons]
    by_cases h : ok x = true
    · rw [if_pos h, if_pos h, List.foldl_cons]
      by_cases q : Ks593.isDenser (t x) (t b) = true
      · show List.foldl _ (if Ks593.isDenser (t x) (t b) = true then some x else some b) l = _
        rw [if_pos q, if_pos q]
        exact pick_fold ok t l x
      · show List.foldl _ (if Ks593.isDenser (t x) (t b) = true then some x else some b) l = _
        rw [if_neg q, if_neg q]
        exact pick_fold ok t l b
    · rw [if_neg h, if_neg h]
      exact pick_fold ok t l b
theorem pick_list (ok : Nat → Bool) (t : Nat → Nat × Nat) : ∀ l : List Nat,
    l.foldl (fun o c => if ok c = true then (match o with | none => some c | some b => if Ks593.isDenser (t c) (t b) = true then some c else some b) else o) none
      = match l.filter ok with | [] => none | first :: others => some (others.foldl (fun best c => if Ks593.isDenser (t c) (t best) = true then c else best) first)
  | [] => rfl
  | x :: l => by
    rw [List.foldl_cons, List.filter_cons]
    by_cases h : ok x = true
    · rw [if_pos h, if_pos h]
      exact pick_fold ok t l x
    · rw [if_neg h, if_neg h]
      exact pick_list ok t l
theorem pick_eq (ok : Nat → Bool) (t : Nat → Nat × Nat) (n : Nat) : pick ok t n = match (List.range n).filter ok with | [] => none | first :: others => some (others.foldl (fun best c => if Ks593.isDenser (t c) (t best) = true then c else best) first) :=
  pick_list ok t _
theorem pick_some {ok : Nat → Bool} {t : Nat → Nat × Nat} : ∀ {n c : Nat}, pick ok t n = some c → c < n ∧ ok c = true
  | 0, c, h => by
    rw [pick_zero] at h
    cases h
  | n + 1, c, h => by
    rw [pick_succ] at h
    by_cases q : ok n = true
    · rw [if_pos q] at h
      cases e : pick ok t n with
      | none =>
        rw [e] at h
        have e2 : n = c := Option.some.inj h
        subst e2
        exact ⟨Nat.lt_succ_self _, q⟩
      | some b =>
        rw [e] at h
        have ih := pick_some e
        have h' : (if Ks593.isDenser (t n) (t b) = true then some n else some b) = some c := h
        by_cases z : Ks593.isDenser (t n) (t b) = true
        · rw [if_pos z] at h'
          have e2 : n = c := Option.some.inj h'
          subst e2
          exact ⟨Nat.lt_succ_self _, q⟩
        · rw [if_neg z] at h'
          have e2 : b = c := Option.some.inj h'
          subst e2
          exact ⟨Nat.lt_succ_of_lt ih.1, ih.2⟩
    · rw [if_neg q] at h
      have ih := pick_some h
      exact ⟨Nat.lt_succ_of_lt ih.1, ih.2⟩
theorem pick_none {ok : Nat → Bool} {t : Nat → Nat × Nat} : ∀ {n : Nat}, pick ok t n = none → ∀ c, c < n → ok c = false
  | 0, _, c, hc => absurd hc (Nat.not_lt_zero _)
  | n + 1, h, c, hc => by
    rw [pick_succ] at h
    by_cases q : ok n = true
    · rw [if_pos q] at h
      cases e : pick ok t n with
      | none =>
        rw [e] at h
        cases h
      | some b =>
        rw [e] at h
        have h' : (if Ks593.isDenser (t n) (t b) = true then some n else some b) = none := h
        split at h' <;> cases h'
    · rw [if_neg q] at h
      by_cases z : c = n
      · subst z
        simpa using q
      · exact pick_none h c (by omega)

/-! ### the orders that are made -/
def left (cs : Chains) (c : Nat) : Bool := !(cs.getD c []).isEmpty
def dens (cs : Chains) (c : Nat) : Nat × Nat := Ks593.prefixTotals (cs.getD c []) (Ks593.densestPrefix (cs.getD c []))
def first1 (cs : Chains) (c : Nat) : Nat × Nat := Ks593.prefixTotals (cs.getD c []) 1
theorem obp_zero (cs : Chains) : Ks593.orderByPrefixes cs 0 = [] := by
  unfold Ks593.orderByPrefixes
  rfl
theorem obp_succ (cs : Chains) (fuel : Nat) : Ks593.orderByPrefixes cs (fuel + 1) = match pick (left cs) (dens cs) cs.length with
    | none => []
    | some c => List.replicate (Ks593.densestPrefix (cs.getD c [])) c ++ Ks593.orderByPrefixes (cs.set c ((cs.getD c []).drop (Ks593.densestPrefix (cs.getD c [])))) fuel := by
  rw [pick_eq]
  conv => lhs; unfold Ks593.orderByPrefixes
  show (match (List.range cs.length).filter (left cs) with | [] => _ | first :: others => _) = _
  cases (List.range cs.length).filter (left cs) with
  | nil => rfl
  | cons f o => rfl
theorem greedy_zero (cs : Chains) : Ks593.greedyOrder cs 0 = [] := by
  unfold Ks593.greedyOrder
  rfl
theorem greedy_succ (cs : Chains) (fuel : Nat) : Ks593.greedyOrder cs (fuel + 1) = match pick (left cs) (first1 cs) cs.length with
    | none => []
    | some c => c :: Ks593.greedyOrder (cs.set c ((cs.getD c []).drop 1)) fuel := by
  rw [pick_eq]
  conv => lhs; unfold Ks593.greedyOrder
  show (match (List.range cs.length).filter (left cs) with | [] => _ | first :: others => _) = _
  cases (List.range cs.length).filter (left cs) with
  | nil => rfl
  | cons f o => rfl
theorem left_iff {cs : Chains} {c : Nat} {js : List Job} (h : cs[c]? = some js) : left cs c = true ↔ 0 < js.length := by
  unfold left
  rw [getD_of h]
  cases js with
  | nil => simp
  | cons j r => simp
theorem jobCount_drop : ∀ {cs : Chains} {c : Nat} {js : List Job} (k : Nat), cs[c]? = some js → k ≤ js.length → jobCount (cs.set c (js.drop k)) + k = jobCount cs
  | [], c, js, k, h, _ => by simp at h
  | x :: cs, 0, js, k, h, hk => by
    have e : x = js := Option.some.inj h
    subst e
    show ((x.drop k :: cs).map List.length).sum + k = ((x :: cs).map List.length).sum
    simp only [List.map_cons, List.sum_cons, List.length_drop]
    omega
  | x :: cs, c + 1, js, k, h, hk => by
    have ih := jobCount_drop (cs := cs) (c := c) (js := js) k (by simpa using h) hk
    show ((x :: cs.set c (js.drop k)).map List.length).sum + k = ((x :: cs).map List.length).sum
    unfold jobCount at ih
    simp only [List.map_cons, List.sum_cons]
    omega
theorem jobCount_zero : ∀ {cs : Chains}, jobCount cs = 0 → ∀ js ∈ cs, js = []
  | [], _, js, h => by cases h
  | x :: cs, h, js, hj => by
    have h' : x.length + jobCount cs = 0 := h
    rcases List.mem_cons.mp hj with e | e
    · subst e
      exact List.length_eq_zero_iff.mp (by omega)
    · exact jobCount_zero (by omega) js e
theorem zero_jobCount : ∀ {cs : Chains}, (∀ js ∈ cs, js = []) → jobCount cs = 0
  | [], _ => rfl
  | x :: cs, h => by
    show x.length + jobCount cs = 0
    rw [h x List.mem_cons_self, zero_jobCount fun js hj => h js (List.mem_cons_of_mem _ hj)]
    rfl
theorem jobCount_le : ∀ {cs : Chains} {c : Nat} {js : List Job}, cs[c]? = some js → js.length ≤ jobCount cs
  | [], c, js, h => by simp at h
  | x :: cs, 0, js, h => by
    have e : x = js := Option.some.inj h
    subst e
    show x.length ≤ x.length + jobCount cs
    omega
  | x :: cs, c + 1, js, h => by
    have ih := jobCount_le (cs := cs) (c := c) (js := js) (by simpa using h)
    show js.length ≤ x.length + jobCount cs
    omega
theorem pick_none_zero {cs : Chains} {t : Nat → Nat × Nat} (h : pick (left cs) t cs.length = none) : ∀ js ∈ cs, js = [] := fun js hj => by
  obtain ⟨i, hi, e⟩ := List.getElem_of_mem hj
  have q := pick_none h i hi
  have e' : cs[i]? = some js := by rw [List.getElem?_eq_getElem hi, e]
  cases js with
  | nil => rfl
  | cons j r =>
    rw [(left_iff e').mpr (by simp)] at q
    cases q
theorem pick_zero_none {cs : Chains} {t : Nat → Nat × Nat} (h : ∀ js ∈ cs, js = []) : pick (left cs) t cs.length = none := by
  cases e : pick (left cs) t cs.length with
  | none => rfl
  | some c =>
    obtain ⟨hc, q⟩ := pick_some e
    have z := (left_iff (List.getElem?_eq_getElem hc)).mp q
    rw [h _ (List.getElem_mem hc)] at z
    exact absurd z (Nat.lt_irrefl _)
/-- the chain that is taken has a job -/
theorem pick_at {cs : Chains} {t : Nat → Nat × Nat} {c : Nat} (h : pick (left cs) t cs.length = some c) : ∃ js, cs[c]? = some js ∧ 0 < js.length := by
  obtain ⟨hc, q⟩ := pick_some h
  exact ⟨_, List.getElem?_eq_getElem hc, (left_iff (List.getElem?_eq_getElem hc)).mp q⟩
theorem ord_rep : ∀ (k : Nat) {cs : Chains} {c : Nat} {js : List Job} {os : List Nat}, cs[c]? = some js → k ≤ js.length → Ord (cs.set c (js.drop k)) os → Ord cs (List.replicate k c ++ os)
  | 0, cs, c, js, os, h, _, o => by
    have e : cs.set c js = cs := by
      obtain ⟨hc, e⟩ := List.getElem?_eq_some_iff.mp h
      rw [← e]
      exact List.set_getElem_self hc
    rw [List.drop_zero, e] at o
    exact o
  | k + 1, cs, c, [], os, h, hk, o => by simp at hk
  | k + 1, cs, c, j :: r, os, h, hk, o => by
    rw [List.replicate_succ, List.cons_append]
    refine .cons h ?_
    have hc := (List.getElem?_eq_some_iff.mp h).1
    refine ord_rep k (js := r) (List.getElem?_set_self hc) (by simpa using hk) ?_
    rw [List.set_set]
    exact o
theorem ord_obp : ∀ (fuel : Nat) (cs : Chains), jobCount cs ≤ fuel → Ord cs (Ks593.orderByPrefixes cs fuel)
  | 0, cs, h => by
    rw [obp_zero]
    exact .nil (jobCount_zero (by omega))
  | fuel + 1, cs, h => by
    rw [obp_succ]
    cases e : pick (left cs) (dens cs) cs.length with
    | none => exact .nil (pick_none_zero e)
    | some c =>
      obtain ⟨js, e1, e2⟩ := pick_at e
      have q := densest_range e2
      show Ord cs (List.replicate (Ks593.densestPrefix (cs.getD c [])) c ++ Ks593.orderByPrefixes (cs.set c ((cs.getD c []).drop (Ks593.densestPrefix (cs.getD c [])))) fuel)
      rw [getD_of e1]
      refine ord_rep _ e1 q.2 (ord_obp fuel _ ?_)
      have z := jobCount_drop _ e1 q.2
      omega
theorem ord_greedy : ∀ (fuel : Nat) (cs : Chains), jobCount cs ≤ fuel → Ord cs (Ks593.greedyOrder cs fuel)
  | 0, cs, h => by
    rw [greedy_zero]
    exact .nil (jobCount_zero (by omega))
  | fuel + 1, cs, h => by
    rw [greedy_succ]
    cases e : pick (left cs) (first1 cs) cs.length with
    | none => exact .nil (pick_none_zero e)
    | some c =>
      obtain ⟨js, e1, e2⟩ := pick_at e
      show Ord cs (c :: Ks593.greedyOrder (cs.set c ((cs.getD c []).drop 1)) fuel)
      rw [getD_of e1]
      refine ord_rep 1 e1 e2 (ord_greedy fuel _ ?_)
      have z := jobCount_drop 1 e1 e2
      omega
theorem obp_done {cs : Chains} (h : jobCount cs = 0) (fuel : Nat) : Ks593.orderByPrefixes cs fuel = [] := by
  cases fuel with
  | zero => exact obp_zero cs
  | succ f =>
    rw [obp_succ, pick_zero_none (jobCount_zero h)]
theorem greedy_done {cs : Chains} (h : jobCount cs = 0) (fuel : Nat) : Ks593.greedyOrder cs fuel = [] := by
  cases fuel with
  | zero => exact greedy_zero cs
  | succ f =>
    rw [greedy_succ, pick_zero_none (jobCount_zero h)]
end Cj
namespace Cj
open Ks593 (Job Chains jobCount)
/-! ### orders by prefixes of at most L jobs -/
theorem pick_congr {ok : Nat → Bool} {t u : Nat → Nat × Nat} : ∀ {n : Nat}, (∀ c, c < n → ok c = true → t c = u c) → pick ok t n = pick ok u n
  | 0, _ => rfl
  | n + 1, h => by
    have ih := pick_congr (n := n) fun c hc hk => h c (Nat.lt_succ_of_lt hc) hk
    rw [pick_succ, pick_succ, ih]
    by_cases q : ok n = true
    · rw [if_pos q, if_pos q]
      cases e : pick ok u n with
      | none => rfl
      | some b =>
        have z := pick_some e
        show (if Ks593.isDenser (t n) (t b) = true then some n else some b) = if Ks593.isDenser (u n) (u b) = true then some n else some b
        rw [h n (Nat.lt_succ_self _) q, h b (Nat.lt_succ_of_lt z.1) z.2]
    · rw [if_neg q, if_neg q]
def densL (L : Nat) (cs : Chains) (c : Nat) : Nat × Nat := Ks593.prefixTotals ((cs.getD c []).take L) (Ks593.densestPrefix ((cs.getD c []).take L))
def ordBy (L : Nat) : Chains → Nat → List Nat
  | _, 0 => []
  | cs, fuel + 1 => match pick (left cs) (densL L cs) cs.length with
    | none => []
    | some c => List.replicate (Ks593.densestPrefix ((cs.getD c []).take L)) c ++ ordBy L (cs.set c ((cs.getD c []).drop (Ks593.densestPrefix ((cs.getD c []).take L)))) fuel
theorem ordBy_zero (L : Nat) (cs : Chains) : ordBy L cs 0 = [] := rfl
theorem ordBy_succ (L : Nat) (cs : Chains) (fuel : Nat) : ordBy L cs (fuel + 1) = match pick (left cs) (densL L cs) cs.length with
    | none => []
    | some c => List.replicate (Ks593.densestPrefix ((cs.getD c []).take L)) c ++ ordBy L (cs.set c ((cs.getD c []).drop (Ks593.densestPrefix ((cs.getD c []).take L)))) fuel := rfl
theorem left_pos {cs : Chains} {c : Nat} (h : left cs c = true) : 0 < (cs.getD c []).length := by
  unfold left at h
  cases e : cs.getD c [] with
  | nil => rw [e] at h; cases h
  | cons j r => simp
theorem dens_one {js : List Job} (h : 0 < js.length) : Ks593.densestPrefix (js.take 1) = 1 := by
  have l : (js.take 1).length = 1 := by rw [List.length_take]; omega
  have q := densest_range (js := js.take 1) (by omega)
  omega
theorem totals_one (js : List Job) : Ks593.prefixTotals (js.take 1) 1 = Ks593.prefixTotals js 1 := by
  unfold Ks593.prefixTotals
  rw [List.take_take]
  rfl
theorem ordBy_one : ∀ (fuel : Nat) (cs : Chains), ordBy 1 cs fuel = Ks593.greedyOrder cs fuel
  | 0, cs => by rw [greedy_zero]; rfl
  | fuel + 1, cs => by
    rw [greedy_succ, ordBy_succ]
    have p : pick (left cs) (densL 1 cs) cs.length = pick (left cs) (first1 cs) cs.length := pick_congr fun c _ hc => by
      unfold densL first1
      rw [dens_one (left_pos hc), totals_one]
    rw [p]
    cases e : pick (left cs) (first1 cs) cs.length with
    | none => rfl
    | some c =>
      have z := left_pos (pick_some e).2
      show List.replicate (Ks593.densestPrefix ((cs.getD c []).take 1)) c ++ ordBy 1 (cs.set c ((cs.getD c []).drop (Ks593.densestPrefix ((cs.getD c []).take 1)))) fuel = c :: Ks593.greedyOrder (cs.set c ((cs.getD c []).drop 1)) fuel
      rw [dens_one z, ordBy_one fuel]
      rfl
theorem ordBy_all (L : Nat) : ∀ (fuel : Nat) (cs : Chains), (∀ js ∈ cs, js.length ≤ L) → ordBy L cs fuel = Ks593.orderByPrefixes cs fuel
  | 0, cs, _ => by rw [obp_zero]; rfl
  | fuel + 1, cs, h => by
    rw [obp_succ, ordBy_succ]
    have tk : ∀ c, (cs.getD c []).take L = cs.getD c [] := fun c => by
      refine List.take_of_length_le ?_
      cases e : cs[c]? with
      | none => rw [List.getD_eq_getElem?_getD, e]; exact Nat.zero_le _
      | some js => rw [getD_of e]; exact h js (List.mem_of_getElem? e)
    have p : pick (left cs) (densL L cs) cs.length = pick (left cs) (dens cs) cs.length := pick_congr fun c _ hc => by
      unfold densL dens
      rw [tk]
    rw [p]
    cases e : pick (left cs) (dens cs) cs.length with
    | none => rfl
    | some c =>
      show List.replicate (Ks593.densestPrefix ((cs.getD c []).take L)) c ++ ordBy L (cs.set c ((cs.getD c []).drop (Ks593.densestPrefix ((cs.getD c []).take L)))) fuel = List.replicate (Ks593.densestPrefix (cs.getD c [])) c ++ Ks593.orderByPrefixes (cs.set c ((cs.getD c []).drop (Ks593.densestPrefix (cs.getD c [])))) fuel
      rw [tk, ordBy_all L fuel]
      intro js hj
      rcases List.mem_or_eq_of_mem_set hj with z | z
      · exact h js z
      · rw [z, List.length_drop]
        have q : (cs.getD c []).length ≤ L := by
          cases e : cs[c]? with
          | none => rw [List.getD_eq_getElem?_getD, e]; exact Nat.zero_le _
          | some js => rw [getD_of e]; exact h js (List.mem_of_getElem? e)
        omega
theorem densL_range {js : List Job} {L : Nat} (h : 0 < js.length) (hL : 0 < L) : 1 ≤ Ks593.densestPrefix (js.take L) ∧ Ks593.densestPrefix (js.take L) ≤ js.length := by
  have l : (js.take L).length = min L js.length := List.length_take
  have q := densest_range (js := js.take L) (by omega)
  omega
theorem ord_ordBy {L : Nat} (hL : 0 < L) : ∀ (fuel : Nat) (cs : Chains), jobCount cs ≤ fuel → Ord cs (ordBy L cs fuel)
  | 0, cs, h => by
    rw [ordBy_zero]
    exact .nil (jobCount_zero (by omega))
  | fuel + 1, cs, h => by
    rw [ordBy_succ]
    cases e : pick (left cs) (densL L cs) cs.length with
    | none => exact .nil (pick_none_zero e)
    | some c =>
      obtain ⟨js, e1, e2⟩ := pick_at e
      have q := densL_range (L := L) e2 hL
      show Ord cs (List.replicate (Ks593.densestPrefix ((cs.getD c []).take L)) c ++ ordBy L (cs.set c ((cs.getD c []).drop (Ks593.densestPrefix ((cs.getD c []).take L)))) fuel)
      rw [getD_of e1]
      refine ord_rep _ e1 q.2 (ord_ordBy hL fuel _ ?_)
      have z := jobCount_drop _ e1 q.2
      omega
theorem ordBy_done {L : Nat} {cs : Chains} (h : jobCount cs = 0) (fuel : Nat) : ordBy L cs fuel = [] := by
  cases fuel with
  | zero => exact ordBy_zero L cs
  | succ f =>
    rw [ordBy_succ, pick_zero_none (jobCount_zero h)]
theorem densL_le {L : Nat} {cs : Chains} (h : ∀ js ∈ cs, js.length ≤ 30 ∧ ∀ j ∈ js, j.duration ≤ 99 ∧ j.weight ≤ 99) (c : Nat) : (densL L cs c).1 ≤ 1000000 := by
  have key : ∀ js : List Job, (js.length ≤ 30 ∧ ∀ j ∈ js, j.duration ≤ 99 ∧ j.weight ≤ 99) → (Ks593.prefixTotals (js.take L) (Ks593.densestPrefix (js.take L))).1 ≤ 1000000 := fun js q => by
    have w := totals_le (js := js.take L) (fun j hj => q.2 j (List.mem_of_mem_take hj)) (Ks593.densestPrefix (js.take L))
    have b : Ks593.densestPrefix (js.take L) ≤ 30 := by
      have l : (js.take L).length = min L js.length := List.length_take
      by_cases z : 0 < (js.take L).length
      · have q2 := (densest_range z).2
        have q3 := q.1
        omega
      · have e : js.take L = [] := List.length_eq_zero_iff.mp (by omega)
        rw [e]
        exact Nat.zero_le _
    omega
  unfold densL
  cases e : cs[c]? with
  | none =>
    rw [List.getD_eq_getElem?_getD, e]
    exact key [] ⟨Nat.zero_le _, fun _ z => by cases z⟩
  | some js =>
    rw [getD_of e]
    exact key js (h js (List.mem_of_getElem? e))
end Cj
namespace Cj
open Ks593 (Job Chains jobCount)
/-! ### how many orders there are -/
def fact : Nat → Nat
  | 0 => 1
  | n + 1 => (n + 1) * fact n
theorem fact_pos : ∀ n, 0 < fact n
  | 0 => Nat.one_pos
  | n + 1 => Nat.mul_pos (Nat.succ_pos n) (fact_pos n)
/-- the product of the chains' factorials -/
def facts : Chains → Nat
  | [] => 1
  | js :: cs => fact js.length * facts cs
theorem facts_pos : ∀ cs, 0 < facts cs
  | [] => Nat.one_pos
  | js :: cs => Nat.mul_pos (fact_pos _) (facts_pos cs)
theorem facts_set : ∀ {cs : Chains} {c : Nat} {j : Job} {r : List Job}, cs[c]? = some (j :: r) → facts cs = (r.length + 1) * facts (cs.set c r)
  | [], c, j, r, h => by simp at h
  | x :: cs, 0, j, r, h => by
    have e : x = j :: r := Option.some.inj h
    subst e
    show (r.length + 1) * fact r.length * facts cs = (r.length + 1) * (fact r.length * facts cs)
    rw [Nat.mul_assoc]
  | x :: cs, c + 1, j, r, h => by
    have ih := facts_set (cs := cs) (c := c) (j := j) (r := r) (by simpa using h)
    show fact x.length * facts cs = (r.length + 1) * (fact x.length * facts (cs.set c r))
    rw [ih, Nat.mul_left_comm]
theorem facts_nil : ∀ {cs : Chains}, (∀ js ∈ cs, js = []) → facts cs = 1
  | [], _ => rfl
  | x :: cs, h => by
    show fact x.length * facts cs = 1
    rw [h x List.mem_cons_self, facts_nil fun js hj => h js (List.mem_cons_of_mem _ hj)]
    rfl
theorem sum_mul {α : Type} (f : α → Nat) (k : Nat) : ∀ l : List α, (l.map f).sum * k = (l.map fun x => f x * k).sum
  | [] => Nat.zero_mul k
  | x :: l => by
    rw [List.map_cons, List.map_cons, List.sum_cons, List.sum_cons, Nat.add_mul, sum_mul f k l]
theorem allOrders_succ (cs : Chains) (n : Nat) : (Ks593.allOrders cs (n + 1)).length = ((List.range cs.length).map fun c => match cs.getD c [] with | [] => 0 | _ :: rest => (Ks593.allOrders (cs.set c rest) n).length).sum := by
  conv => lhs; unfold Ks593.allOrders
  rw [List.length_flatMap]
  refine congrArg List.sum (List.map_congr_left fun c _ => ?_)
  show (match cs.getD c [] with | [] => [] | _ :: rest => (Ks593.allOrders (cs.set c rest) n).map fun order => c :: order).length = _
  cases cs.getD c [] with
  | nil => rfl
  | cons j r => exact List.length_map _
theorem allOrders_fact : ∀ (n : Nat) (cs : Chains), jobCount cs = n → (Ks593.allOrders cs n).length * facts cs = fact n
  | 0, cs, h => by
    rw [facts_nil (jobCount_zero h)]
    unfold Ks593.allOrders
    rfl
  | n + 1, cs, h => by
    rw [allOrders_succ, sum_mul]
    have e : ((List.range cs.length).map fun c => (match cs.getD c [] with | [] => 0 | _ :: rest => (Ks593.allOrders (cs.set c rest) n).length) * facts cs) = (List.range cs.length).map fun c => (cs.getD c []).length * fact n := by
      refine List.map_congr_left fun c hc => ?_
      have hc' : c < cs.length := List.mem_range.mp hc
      have g := List.getElem?_eq_getElem hc'
      generalize cs[c] = js at g
      rw [getD_of g]
      cases js with
      | nil => exact (Nat.zero_mul _).trans (Nat.zero_mul _).symm
      | cons j r =>
        have jc := jobCount_set g
        have ih := allOrders_fact n (cs.set c r) (by omega)
        show (Ks593.allOrders (cs.set c r) n).length * facts cs = (r.length + 1) * fact n
        rw [facts_set g, Nat.mul_left_comm, ih]
    rw [e, ← sum_mul, getD_range]
    show jobCount cs * fact n = (n + 1) * fact n
    rw [h]
theorem orders_is {cs : Chains} {x : Nat} (h : x * facts cs = fact (jobCount cs)) : (Ks593.allOrders cs (jobCount cs)).length = x :=
  Nat.eq_of_mul_eq_mul_right (facts_pos cs) ((allOrders_fact _ cs rfl).trans h.symm)
theorem orders_div (cs : Chains) : (Ks593.allOrders cs (jobCount cs)).length = fact (jobCount cs) / facts cs :=
  (Nat.div_eq_of_eq_mul_left (facts_pos cs) (allOrders_fact _ cs rfl).symm).symm
/-- binomials, by Pascal's triangle -/
def choose : Nat → Nat → Nat
  | _, 0 => 1
  | 0, _ + 1 => 0
  | n + 1, k + 1 => choose n k + choose n (k + 1)
theorem choose_zero (n : Nat) : choose n 0 = 1 := by cases n <;> rfl
theorem choose_gt : ∀ {n k : Nat}, n < k → choose n k = 0
  | 0, k + 1, _ => rfl
  | n + 1, k + 1, h => by
    show choose n k + choose n (k + 1) = 0
    rw [choose_gt (by omega), choose_gt (by omega)]
theorem choose_fact : ∀ (m n k : Nat), n + k = m → choose m k * (fact n * fact k) = fact m
  | m, n, 0, h => by
    have e : n = m := h
    subst e
    rw [choose_zero, Nat.one_mul]
    exact Nat.mul_one _
  | 0, n, k + 1, h => by omega
  | m + 1, 0, k + 1, h => by
    have ih := choose_fact m 0 k (by omega)
    have e : m < k + 1 := by omega
    show (choose m k + choose m (k + 1)) * (fact 0 * fact (k + 1)) = fact (m + 1)
    rw [choose_gt e, Nat.add_zero]
    have e2 : k = m := by omega
    subst e2
    show choose k k * (fact 0 * ((k + 1) * fact k)) = (k + 1) * fact k
    rw [Nat.mul_left_comm (fact 0), Nat.mul_left_comm, ih]
  | m + 1, n + 1, k + 1, h => by
    have h1 := choose_fact m (n + 1) k (by omega)
    have h2 := choose_fact m n (k + 1) (by omega)
    show (choose m k + choose m (k + 1)) * (fact (n + 1) * fact (k + 1)) = fact (m + 1)
    have a1 : choose m k * (fact (n + 1) * fact (k + 1)) = (k + 1) * fact m := by
      show choose m k * (fact (n + 1) * ((k + 1) * fact k)) = _
      rw [Nat.mul_left_comm (fact (n + 1)), Nat.mul_left_comm, h1]
    have a2 : choose m (k + 1) * (fact (n + 1) * fact (k + 1)) = (n + 1) * fact m := by
      show choose m (k + 1) * ((n + 1) * fact n * fact (k + 1)) = _
      rw [Nat.mul_assoc (n + 1), Nat.mul_left_comm, h2]
    rw [Nat.add_mul, a1, a2, ← Nat.add_mul]
    have e : k + 1 + (n + 1) = m + 1 := by omega
    rw [e]
    rfl
/-- one more place, one more job of the chain: count * placed // k -/
theorem choose_step (n k : Nat) : choose (n + (k + 1)) (k + 1) * (k + 1) = choose (n + k) k * (n + (k + 1)) := by
  have h1 := choose_fact (n + (k + 1)) n (k + 1) rfl
  have h2 := choose_fact (n + k) n k rfl
  have e : fact (n + (k + 1)) = (n + (k + 1)) * fact (n + k) := rfl
  have p : 0 < fact n * fact k := Nat.mul_pos (fact_pos n) (fact_pos k)
  refine Nat.eq_of_mul_eq_mul_right p ?_
  rw [e, ← h2] at h1
  have e2 : fact n * fact (k + 1) = (k + 1) * (fact n * fact k) := by
    show fact n * ((k + 1) * fact k) = _
    rw [Nat.mul_left_comm]
  rw [e2, ← Nat.mul_assoc] at h1
  rw [h1, Nat.mul_comm (choose (n + k) k) (n + (k + 1)), Nat.mul_assoc]
/-- the chains taken one by one: the product of binomials -/
def multi : Nat → Chains → Nat
  | _, [] => 1
  | p, js :: cs => choose (p + js.length) js.length * multi (p + js.length) cs
theorem multi_fact : ∀ (cs : Chains) (p : Nat), multi p cs * (fact p * facts cs) = fact (p + jobCount cs)
  | [], p => by
    show 1 * (fact p * 1) = fact (p + 0)
    rw [Nat.one_mul, Nat.mul_one, Nat.add_zero]
  | js :: cs, p => by
    have ih := multi_fact cs (p + js.length)
    have c := choose_fact (p + js.length) p js.length rfl
    show choose (p + js.length) js.length * multi (p + js.length) cs * (fact p * (fact js.length * facts cs)) = fact (p + (js.length + jobCount cs))
    rw [← Nat.add_assoc, ← ih, ← c]
    generalize choose (p + js.length) js.length = A
    generalize multi (p + js.length) cs = B
    generalize fact p = C
    generalize fact js.length = D
    generalize facts cs = E
    simp only [Nat.mul_assoc, Nat.mul_comm, Nat.mul_left_comm]
theorem orders_multi (cs : Chains) : (Ks593.allOrders cs (jobCount cs)).length = multi 0 cs := by
  refine orders_is ?_
  have h := multi_fact cs 0
  rw [Nat.zero_add] at h
  show multi 0 cs * facts cs = _
  rw [← h]
  show _ = multi 0 cs * (1 * facts cs)
  rw [Nat.one_mul]
/-! ### two chains with each other's number -/
theorem jobCount_setAny : ∀ {cs : Chains} {c : Nat} {x : List Job}, c < cs.length → jobCount (cs.set c x) + (cs.getD c []).length = jobCount cs + x.length
  | [], c, x, h => absurd h (Nat.not_lt_zero c)
  | y :: cs, 0, x, h => by
    show x.length + jobCount cs + y.length = y.length + jobCount cs + x.length
    omega
  | y :: cs, c + 1, x, h => by
    have ih := jobCount_setAny (cs := cs) (c := c) (x := x) (by simpa using h)
    show y.length + jobCount (cs.set c x) + (cs.getD c []).length = y.length + jobCount cs + x.length
    omega
theorem swap_length (cs : Chains) (c d : Nat) : (Ks593.swapChains cs c d).length = cs.length := by
  unfold Ks593.swapChains
  rw [List.length_set, List.length_set]
theorem swap_count {cs : Chains} {c d : Nat} (hc : c < cs.length) (hd : d < cs.length) : jobCount (Ks593.swapChains cs c d) = jobCount cs := by
  unfold Ks593.swapChains
  have h1 := jobCount_setAny (cs := cs) (c := c) (x := cs.getD d []) hc
  have h2 := jobCount_setAny (cs := cs.set c (cs.getD d [])) (c := d) (x := cs.getD c []) (by rw [List.length_set]; exact hd)
  have e : (cs.set c (cs.getD d [])).getD d [] = cs.getD d [] := by
    rw [List.getD_eq_getElem?_getD]
    by_cases z : c = d
    · subst z
      rw [List.getElem?_set_self hc]
      rfl
    · rw [List.getElem?_set_ne z, ← List.getD_eq_getElem?_getD]
  rw [e] at h2
  omega
theorem getD_mem {cs : Chains} {c : Nat} (h : c < cs.length) : cs.getD c [] ∈ cs := by
  rw [List.getD_eq_getElem?_getD, List.getElem?_eq_getElem h]
  exact List.getElem_mem h
theorem good_swap {cs : Chains} {c d : Nat} (g : Good cs) (hc : c < cs.length) (hd : d < cs.length) : Good (Ks593.swapChains cs c d) := by
  refine ⟨by rw [swap_length]; exact g.len, by rw [swap_count hc hd]; exact g.cnt, fun js hj j hjj => ?_⟩
  unfold Ks593.swapChains at hj
  rcases List.mem_or_eq_of_mem_set hj with z | z
  · rcases List.mem_or_eq_of_mem_set z with y | y
    · exact g.job js y j hjj
    · rw [y] at hjj
      exact g.job _ (getD_mem hd) j hjj
  · rw [z] at hjj
    exact g.job _ (getD_mem hc) j hjj
end Cj
/-! # enumerate(list, start=k) as something that is walked -/
namespace Cj
open PySem PySem.Spec PyProof.Rows L2
/-- f(e, .., x=v), f a built-in class: the arguments, then the keywords' values, then the call -/
theorem with_kw {M : Model} {A : Around} {E : Value → Shared → Prop} {s : Shared} {env : Env} {pos : Pos} {T : String} {e : Expr} {r : List Expr} {ks : List Keyword} {Q : Value → Shared → Prop}
    (he : backTo pos (starEach (e :: r) env) = (false, eval e env) :: backTo pos (starEach r env)) (hp : (backTo pos (starEach (e :: r) env)).any (·.1) = false)
    (ha : (backToKw pos (keywordEach ks env)).all (·.1.isSome) = true) (hn : (backToKw pos (keywordEach ks env)).any (·.1.isNone) = false)
    (h : wpAny M A (spliced (backTo pos (starEach (e :: r) env))) (fun vs s1 => wpAny M A (evalAll ((backToKw pos (keywordEach ks env)).map (·.2)))
      (fun us s2 => wpAny M A (call (.type T) vs (((backToKw pos (keywordEach ks env)).filterMap (·.1)).zip us)) Q E s2) E s1) E s) :
    wpAny M A (callWith pos (.type T) [] (backTo pos (starEach (e :: r) env)) (backToKw pos (keywordEach ks env))) Q E s := by
  have args : wpAny M A (evalArgs (.type T) true (backTo pos (starEach (e :: r) env)) (backToKw pos (keywordEach ks env))) (fun a s1 => wpAny M A (call (.type T) a.pos a.kw) Q E s1) E s := by
    rw [he] at h ⊢
    exact evalArgs_kwB ha h
  unfold callWith
  refine wpAny_bind (wpAny_holding (thn args fun a s1 h1 => wpAny_bind (wpAny_standAt ?_)))
  simp only [hp, hn, Bool.or_false]
  exact wpAny_bind (wpAny_pure (wpAny_bind (thn h1 fun v s2 h2 => wpAny_bind (wpAny_holding (wpAny_point (wpAny_pure h2))))))
/-- the pair that turn i hands out; the walk is over when the list's length is reached -/
def ItS (K : PySem.W.Frag) (a : Addr) (k : Int) : It where
  go i H := ∃ (xs : List V) (x : V), SqL K H a xs ∧ xs[i]? = some x
  yld i H v H' := ∃ T x, v = .ref T ∧ H T = none ∧ H' = upd H T (.tup [.int (k + (i : Nat)), x]) ∧ ∀ xs, SqL K H a xs → xs[i]? = some x
  stop i H := ∃ xs : List V, SqL K H a xs ∧ xs.length = i
/-- the iterator's two cells at turn i -/
structure EnumAt (a e it : Addr) (k : Int) (i : Nat) (h : Heap) : Prop where
  en : ∃ old, IsEnum h e it (k + (i : Nat)) old
  li : h.IsListIter it a i
  n1 : e ≠ it
  n2 : a ≠ it
  n3 : e ≠ a
theorem turn_start {P : Program} {w : World} {K : PySem.W.Frag} {es : List Expr} {kk : Nat} {tp : Pos} (a e it : Addr) (k : Int) : Turn P w K (.Tuple es kk tp) (ItS K a k) [e, it] e (EnumAt a e it k) where
  mem := List.mem_cons_self
  obj i h st b hb := by
    rcases List.mem_cons.mp hb with z | z
    · obtain ⟨old, q⟩ := st.en
      exact ⟨_, z ▸ q, fun v y => by cases y⟩
    · obtain ⟨o, q1, _, q3⟩ := st.li
      refine ⟨o, (List.mem_singleton.mp z) ▸ q1, fun v y => ?_⟩
      rw [q3] at y
      cases y
  keep i h h' st q := by
    obtain ⟨old, z⟩ := st.en
    exact ⟨⟨old, q e List.mem_cons_self _ z⟩, st.li.at fun o y => q it (List.mem_cons_of_mem _ List.mem_cons_self) o y, st.n1, st.n2, st.n3⟩
  item := by
    rintro X rfl rfl rfl calm i pins s σ H E I hf st ⟨xs, x, hq, hx⟩
    obtain ⟨old, he⟩ := st.en
    obtain ⟨its, rv, pl, _⟩ := I.list hq
    obtain ⟨u, hu, ru⟩ := rv.get hx
    have se : e < s.heap.objs.size := Heap.lt_size he
    have si : it < s.heap.objs.size := let ⟨_, q, _⟩ := st.li; Heap.lt_size q
    have small : ∀ b ∈ [e, it], b < s.heap.objs.size := fun b hb => by
      rcases List.mem_cons.mp hb with z | z
      · exact z ▸ se
      · exact (List.mem_singleton.mp z) ▸ si
    have D := Draws.list (prog := X.prog) (w := X.w) (A := X.A.in1) (I.ok.hd calm) it a st.n2 its.toArray
    have lt : i < its.toArray.size := by
      rw [List.size_toArray]
      exact (List.getElem?_eq_some_iff.mp hu).1
    have apart : e ∉ [it, a] := fun z => by
      rcases List.mem_cons.mp z with y | y
      · exact st.n1 y
      · exact st.n3 (List.mem_singleton.mp y)
    refine wpAny_pyNext_enum_itemC D he ⟨st.li, pl.isList⟩ lt st.n1 apart fun v h1 tk hv out next tup size kept => ⟨_, rfl, ?_⟩
    obtain rfl : v = u := by
      rw [List.getElem?_toArray, hu] at hv
      exact (Option.some.inj hv).symm
    refine wpAny_letOwnedTupleGo_enum (s := { s with heap := h1, toks := tk + 1 }) out fun h2 en2 sb => ?_
    have tup2 := (sb.2 s.heap.objs.size (Nat.ne_of_gt se)).trans tup
    have J := I.turnedNew (t' := tk + 1) (ob := .tup [.int (k + (i : Nat)), x]) (ch := [e, it])
      (fun b o nb q => (sb.2 b fun z => nb (z ▸ List.mem_cons_self)).trans (kept b o (fun z => nb (z ▸ List.mem_cons_self)) (fun z => nb (z ▸ List.mem_cons_of_mem _ List.mem_cons_self)) q)) hf (Nat.le_refl _)
      ⟨(by show 2 ≤ sizeLine; decide), [.int (k + (i : Nat)) tk, v], .cons ⟨_, rfl⟩ (.cons ru .nil), _, tup2, rfl, _, rfl⟩
    refine ⟨.ref s.heap.objs.size, _, J, rfl, ⟨_, x, rfl, I.hok.fresh (Nat.le_refl _), rfl, fun ys hy => (I.list_inj hy hq) ▸ hx⟩,
      ⟨⟨v, ?_⟩, next.1.at fun o q => (sb.2 it (Ne.symm st.n1)).trans q, st.n1, st.n2, st.n3⟩, fun b hb => (upd_ne (Nat.ne_of_lt (small b hb))).trans (hf b hb).1⟩
    rw [show k + ((i + 1 : Nat) : Int) = k + (i : Int) + 1 by omega]
    exact en2
  done := by
    rintro X rfl rfl rfl calm i pins s σ H E I hf st ⟨xs, hq, hx⟩
    obtain ⟨old, he⟩ := st.en
    obtain ⟨its, rv, pl, _⟩ := I.list hq
    obtain ⟨f0, f1, f2, f3, f4, f5⟩ := hf it (List.mem_cons_of_mem _ List.mem_cons_self)
    have D := Draws.list (prog := X.prog) (w := X.w) (A := X.A.in1) (I.ok.hd calm) it a st.n2 its.toArray
    have ei : i = its.toArray.size := by
      rw [List.size_toArray, ← rv.length, hx]
    refine wpAny_pyNext_enum_endD D he ⟨ei ▸ st.li, pl.isList⟩ fun h1 ext => ⟨rfl, ?_⟩
    exact I.turned (t' := s.toks) (fun b o nb q => ext b o nb q) f0 f1 f3 f4 f5
  self A i s Q E st h := let ⟨_, q⟩ := st.en; wpAny_pyIter_enum q h
def iStart (K : PySem.W.Frag) (k : Int) (ta : TA) : TI := fun σ H R => ta σ H fun vs H1 => ∃ a xs, vs = [.ref a] ∧ SqL K H1 a xs ∧ R (ItS K a k) H1
theorem pi_start {X : Cx} {e : Expr} {ta : TA} {p pos tpos kpos cpos : Pos} {elts : List Expr} {kk : Nat} {n : Int} {j : Nat} (hg : Gl X "enumerate") (hm : X.mg "enumerate" = none) (h0 : -(2 ^ 63) ≤ n) (h1 : n < 2 ^ 63) (ha : PA X [e] ta)
    (he : backTo pos (starEach [e] X.env) = (false, eval e X.env) :: backTo pos (starEach [] X.env) := by rfl) (hp : (backTo pos (starEach [e] X.env)).any (·.1) = false := by rfl)
    (hs : starEach [e] X.env = (false, eval e X.env) :: starEach [] X.env := by rfl) :
    PI X (.Tuple elts kk tpos) (.Call (.Name "enumerate" p) [e] [⟨some (Str.ofString "start"), .Constant (.int n) j cpos, kpos⟩] pos) (iStart X.K n ta) := by
  refine ⟨fun pins s σ H R I h => ?_⟩
  refine wpAny_Call_Name_kw (ld_blt I hg hm boot_enumerate ?_)
  refine with_kw he hp rfl rfl (thn (ha.run pos pins s σ H _ I h) fun us s1 ⟨vs, H1, I1, r1, q1⟩ => ?_)
  refine kws_cons (thn ((pe_int (X := X)).run pins s1 σ H1 (fun v H2 => v = .int n ∧ H2 = H1) I1 ⟨rfl, rfl⟩) fun w s2 ⟨v, H2, I2, r2, e1, e2⟩ => kws_nil ?_)
  subst e1 e2
  obtain ⟨t, rfl⟩ := r2
  obtain ⟨a, xs, rfl, hq, q⟩ := q1
  cases r1 with
  | cons r rr =>
    cases rr
    cases r
    obtain ⟨its, rv, pl, _⟩ := I2.list hq
    have la : a < s2.heap.objs.size := pl.lt
    refine enum_begins_start (begins_list a its.toArray) pl.isList h0 h1 fun h2 en cell size kept => wpAny_pyIter_enum en ?_
    have J : Inv X pins σ H2 { s2 with heap := h2 } := I2.kept (t' := s2.toks) kept
    have first : h2.IsListIter s2.heap.objs.size a 0 := ⟨_, cell, rfl, rfl⟩
    refine ⟨s2.heap.objs.size + 1, [s2.heap.objs.size + 1, s2.heap.objs.size], _, _, H2, rfl, J, turn_start a (s2.heap.objs.size + 1) s2.heap.objs.size n,
      ⟨⟨.none, by rw [Int.natCast_zero, Int.add_zero]; exact en⟩, first, Nat.succ_ne_self _, Nat.ne_of_lt la, Nat.ne_of_gt (Nat.lt_succ_of_lt la)⟩, fun b hb => ?_, q⟩
    have big : s2.heap.objs.size ≤ b := by
      rcases List.mem_cons.mp hb with z | z
      · exact z ▸ Nat.le_succ _
      · exact Nat.le_of_eq (List.mem_singleton.mp z).symm
    exact I2.fpOk big (I2.hok.fresh big)
/-- the walk over it: a new pair of k + i and the i-th item -/
theorem walk_start {K : PySem.W.Frag} {a : Addr} {xs : List V} {k : Int} : Walk (ItS K a k) xs.length (fun H => SqL K H a xs) (YPair (fun i => some (.int (k + (i : Nat)))) (fun i => xs[i]?)) where
  goes i H hi q := ⟨xs, xs[i], q, List.getElem?_eq_getElem hi⟩
  stops H q := ⟨xs, q, rfl⟩
  yields i H v H' hi q y := let ⟨T, x, y1, y2, y3, y4⟩ := y; ⟨T, _, x, y1, y2, y3, rfl, y4 xs q⟩
end Cj
/-! # how chains lie in the heap -/
namespace Cj
open PySem PySem.Spec PyProof.Rows L2
open Ks593 (Job Chains jobCount)
/-- two lists, item by item -/
structure All2 {α β : Type} (R : α → β → Prop) (xs : List α) (ys : List β) : Prop where
  len : xs.length = ys.length
  at_ : ∀ (i : Nat) (x : α) (y : β), xs[i]? = some x → ys[i]? = some y → R x y
section
variable {α β : Type} {R S : α → β → Prop} {xs : List α} {ys : List β}
theorem All2.nil : All2 R [] [] := ⟨rfl, fun i x y h => by simp at h⟩
theorem All2.mono (h : All2 R xs ys) (f : ∀ x y, R x y → S x y) : All2 S xs ys := ⟨h.len, fun i x y h1 h2 => f x y (h.at_ i x y h1 h2)⟩
theorem All2.snoc {x : α} {y : β} (h : All2 R xs ys) (r : R x y) : All2 R (xs ++ [x]) (ys ++ [y]) := by
  refine ⟨by rw [List.length_append, List.length_append, h.len]; rfl, fun i a b h1 h2 => ?_⟩
  by_cases c : i < xs.length
  · rw [List.getElem?_append_left c] at h1
    rw [List.getElem?_append_left (by rw [← h.len]; exact c)] at h2
    exact h.at_ i a b h1 h2
  · rw [List.getElem?_append_right (by omega)] at h1
    rw [List.getElem?_append_right (by have := h.len; omega)] at h2
    have e : i - xs.length = i - ys.length := by rw [h.len]
    rw [e] at h1
    have z : i - ys.length = 0 := by
      have q := (List.getElem?_eq_some_iff.mp h2).1
      simp only [List.length_singleton] at q
      omega
    rw [z] at h1 h2
    cases h1
    cases h2
    exact r
theorem All2.getY (h : All2 R xs ys) {i : Nat} {x : α} (e : xs[i]? = some x) : ∃ y, ys[i]? = some y ∧ R x y := by
  have q := (List.getElem?_eq_some_iff.mp e).1
  have q2 : i < ys.length := by rw [← h.len]; exact q
  exact ⟨ys[i], List.getElem?_eq_getElem q2, h.at_ i x _ e (List.getElem?_eq_getElem q2)⟩
theorem All2.getX (h : All2 R xs ys) {i : Nat} {y : β} (e : ys[i]? = some y) : ∃ x, xs[i]? = some x ∧ R x y := by
  have q := (List.getElem?_eq_some_iff.mp e).1
  have q2 : i < xs.length := by rw [h.len]; exact q
  exact ⟨xs[i], List.getElem?_eq_getElem q2, h.at_ i _ y (List.getElem?_eq_getElem q2) e⟩
theorem All2.set {x : α} {y : β} (h : All2 R xs ys) (k : Nat) (r : R x y) : All2 R (xs.set k x) (ys.set k y) := by
  refine ⟨by rw [List.length_set, List.length_set, h.len], fun i a b h1 h2 => ?_⟩
  by_cases c : k = i
  · subst c
    have q1 : k < xs.length := by
      have := (List.getElem?_eq_some_iff.mp h1).1
      rw [List.length_set] at this
      exact this
    rw [List.getElem?_set_self q1] at h1
    rw [List.getElem?_set_self (by rw [← h.len]; exact q1)] at h2
    cases h1
    cases h2
    exact r
  · rw [List.getElem?_set_ne c] at h1 h2
    exact h.at_ i a b h1 h2
theorem All2.drop (h : All2 R xs ys) (k : Nat) : All2 R (xs.drop k) (ys.drop k) := by
  refine ⟨by rw [List.length_drop, List.length_drop, h.len], fun i a b h1 h2 => ?_⟩
  rw [List.getElem?_drop] at h1 h2
  exact h.at_ _ a b h1 h2
end
/-! ### heaps -/
theorem same_upd {H : Hp} {p : Addr} {o : HO} (h : H p = Option.none) : Same H (upd H p o) := fun b x e => by
  rw [upd_ne (ne_of_none e h)]
  exact e
theorem same_into {H H' : Hp} {p : Addr} {o : HO} (s : Same H H') (h : H p = Option.none) : Same H (upd H' p o) := fun b x e => by
  rw [upd_ne (ne_of_none e h)]
  exact s b x e
/-- what is in H' and was not in H -/
def fresh (H H' : Hp) : Hp := fun b => match H b with
  | none => H' b
  | some _ => Option.none
theorem fresh_same {H H' : Hp} : Same (fresh H H') H' := fun b o e => by
  unfold fresh at e
  cases h : H b with
  | none => rw [h] at e; exact e
  | some x => rw [h] at e; cases e
theorem fresh_at {H H' : Hp} {b : Addr} (h : H b = Option.none) : fresh H H' b = H' b := by
  unfold fresh
  rw [h]
/-- H without what stands at c -/
def less (c : Addr) (H : Hp) : Hp := fun b => if b = c then Option.none else H b
theorem less_same {c : Addr} {H : Hp} : Same (less c H) H := fun b o e => by
  unfold less at e
  by_cases h : b = c
  · rw [if_pos h] at e; cases e
  · rw [if_neg h] at e; exact e
theorem less_at {c : Addr} {H : Hp} : less c H c = Option.none := if_pos rfl
theorem less_ne {c b : Addr} {H : Hp} (h : b ≠ c) : less c H b = H b := if_neg h
theorem same_less {c : Addr} {H H' : Hp} (s : Same H H') (h : H c = Option.none) : Same H (less c H') := fun b o e => by
  rw [less_ne (ne_of_none e h)]
  exact s b o e
/-- what is new stands apart from what stood -/
theorem fresh_less {c : Addr} {H H' : Hp} {o : HO} (h : H c = some o) : Same (fresh H H') (less c H') := fun b u e => by
  have q : b ≠ c := fun z => by
    subst z
    unfold fresh at e
    rw [h] at e
    cases e
  rw [less_ne q]
  exact fresh_same b u e
/-! ### jobs, chains -/
def jobV (j : Job) : List V := [.int (j.duration : Int), .int (j.weight : Int)]
def JobT (H : Hp) (a : Addr) (j : Job) : Prop := H a = some (.tup (jobV j))
def JobsL (H : Hp) (a : Addr) (js : List Job) : Prop := ∃ ps : List Addr, H a = some (.lst (ps.map V.ref)) ∧ All2 (JobT H) ps js
def ChL (H : Hp) (a : Addr) (cs : Chains) : Prop := ∃ qs : List Addr, H a = some (.lst (qs.map V.ref)) ∧ All2 (JobsL H) qs cs
theorem JobT.same {H H' : Hp} {a : Addr} {j : Job} (h : JobT H a j) (s : Same H H') : JobT H' a j := s a _ h
theorem JobsL.same {H H' : Hp} {a : Addr} {js : List Job} (h : JobsL H a js) (s : Same H H') : JobsL H' a js :=
  let ⟨ps, h1, h2⟩ := h
  ⟨ps, s a _ h1, h2.mono fun _ _ q => q.same s⟩
theorem ChL.same {H H' : Hp} {a : Addr} {cs : Chains} (h : ChL H a cs) (s : Same H H') : ChL H' a cs :=
  let ⟨qs, h1, h2⟩ := h
  ⟨qs, s a _ h1, h2.mono fun _ _ q => q.same s⟩
/-- natural numbers as values -/
def intsV (l : List Nat) : List V := l.map fun (n : Nat) => V.int (n : Int)
theorem intsV_map (l : List Nat) : intsV l = (l.map fun (n : Nat) => (n : Int)).map V.int := by
  unfold intsV
  rw [List.map_map]
  rfl
theorem intsV_at {l : List Nat} {i n : Nat} (h : l[i]? = some n) : (intsV l)[i]? = some (.int (n : Int)) := by
  unfold intsV
  rw [List.getElem?_map, h]
  rfl
theorem intsV_length (l : List Nat) : (intsV l).length = l.length := by
  unfold intsV
  exact List.length_map _
theorem of_ints {ns : List Int} {hi : Int} (h : ns.all (PySem.W.Codec.inInt 0 hi) = true) : ns.map V.int = intsV (ns.map Int.toNat) := by
  unfold intsV
  rw [List.map_map]
  refine List.map_congr_left fun x hx => ?_
  have q := List.all_eq_true.mp h x hx
  have q2 := (PySem.W.Codec.inInt_iff.mp q).1
  show V.int x = V.int ((x.toNat : Nat) : Int)
  rw [Int.toNat_of_nonneg q2]
theorem refs_at {ps : List Addr} {i : Nat} {v : V} (h : (ps.map V.ref)[i]? = some v) : ∃ p, ps[i]? = some p ∧ v = .ref p := by
  rw [List.getElem?_map] at h
  cases e : ps[i]? with
  | none => rw [e] at h; cases h
  | some p => rw [e] at h; exact ⟨p, rfl, (Option.some.inj h).symm⟩
theorem cut_nat {xs : List V} {a b : Nat} (h1 : a ≤ b) (h2 : b ≤ xs.length) : cutV xs (some (a : Int)) (some (b : Int)) = (xs.drop a).take (b - a) := by
  unfold cutV
  rw [HT.sIx_nat, HT.sIx_nat, Nat.min_eq_left h2, Nat.min_eq_left (by omega)]
theorem cut_from {xs : List V} {a : Nat} (h : a ≤ xs.length) : cutV xs (some (a : Int)) none = xs.drop a := by
  unfold cutV
  rw [HT.sIx_nat, HT.sIx_none, Nat.min_eq_left h]
  exact List.take_of_length_le (by rw [List.length_drop]; omega)
theorem small30 {n : Nat} (h : n ≤ 30) : n < sizeLine := Nat.lt_of_le_of_lt h (by decide)
/-- what the module's names hold -/
structure Txt (mg : Str → Option Value) : Prop where
  len : mg "len" = none
  range : mg "range" = none
  sum : mg "sum" = none
  mC : ∃ t, mg "MAX_CHAINS" = some (.int 4 t)
  mJ : ∃ t, mg "MAX_JOBS" = some (.int 7 t)
  mD : ∃ t, mg "MAX_DURATION" = some (.int 99 t)
  mW : ∃ t, mg "MAX_WEIGHT" = some (.int 99 t)
  mO : ∃ t, mg "OUTSIDE_LIMITS" = some (.int (-22) t)
end Cj
namespace Cj
open PySem PySem.Spec PyProof.Rows L2
open Ks593 (Job Chains jobCount)
def topS (i : Nat) : Stmt := PySem.Challenge.pw_chainjobs_s07_cost_after_swap.main.body.getD i (.Pass ⟨0, 0, 0, 0⟩)
abbrev s_cost_after_swap : Stmt := topS 7
abbrev s_read_chains : Stmt := topS 8
abbrev s_read_jobs : Stmt := topS 9
abbrev s_are_within_limits : Stmt := topS 10
abbrev s_number_of_jobs : Stmt := topS 11
abbrev s_swap_chains : Stmt := topS 12
abbrev s_jobs_in_order : Stmt := topS 13
abbrev s_times_of_jobs : Stmt := topS 14
abbrev s_cost_of_order : Stmt := topS 15
abbrev s_find_order : Stmt := topS 16
abbrev s_find_densest_chain : Stmt := topS 17
abbrev s_find_densest_prefix : Stmt := topS 18
abbrev s_compare_density : Stmt := topS 19
/-- len(xs) of a list or tuple, by values -/
def rLen (K : PySem.W.Frag) : List V → Hp → VK → Prop := fun xs H Q => ∃ p ys, xs = [.ref p] ∧ (SqL K H p ys ∨ SqT K H p ys) ∧ Q (.int ys.length) H
section
variable {P : Program} {w : World} {K : PySem.W.Frag} {mg : Str → Option Value} {base : Heap}
/-! ### number_of_jobs -/
theorem sum_cast : ∀ cs : Chains, ((cs.map fun js => (js.length : Int)).sum) = ((jobCount cs : Nat) : Int)
  | [] => rfl
  | x :: cs => by
    rw [List.map_cons, List.sum_cons, sum_cast cs]
    show _ = ((x.length + jobCount cs : Nat) : Int)
    omega
def spNum : Sp := fun vs H Q _ => ∃ (a : Addr) (cs : Chains), vs = [.ref a] ∧ ChL H a cs ∧ cs.length ≤ 30 ∧ ∀ H', Same H H' → Q (.int (jobCount cs : Nat)) H'
theorem scNum : FnScope ["chain_jobs", "jobs"] ["chain_jobs"] (defScope s_number_of_jobs) := ⟨rfl, rfl, rfl, by decide +kernel, rfl, by decide +kernel, by decide +kernel⟩
theorem ok_num {f : Addr} {fd : FuncData} (F : Fun K "number_of_jobs" "number_of_jobs" s_number_of_jobs f fd) (T : Txt mg) : FnOk P w K mg base CX0 1 f fd ["chain_jobs"] spNum := by
  refine F.ok scNum (fun vs H Q E h => ?_) (fun cdv A outer s H vs Q E hr h => ?_)
  · obtain ⟨a, cs, rfl, _⟩ := h
    rfl
  · obtain ⟨a, cs, rfl, ⟨qs, hA, h2⟩, hlen, k⟩ := h
    refine ⟨_, pss_one (ps_ret (pe_callB (cr_sum rfl) (by rfl) T.sum (by decide +kernel) (pa_cons (pe_lc (own := [("jobs", 1)]) (g := gName 1) (tt := tYes) (te := tCB (rLen K) (tCons (tVar 1) tNil)) rfl scNum.nd (pi_list (pv 0)) (blkOk_by (N := ["chain_jobs", "jobs"]) (sc := defScope s_number_of_jobs) (by decide +kernel))
      (fun _ _ _ _ _ => pg_name (i := 1) scNum.nd rfl (Or.inl rfl)) (fun _ _ _ _ _ => pts_nil) (fun _ _ _ _ _ => pe_callB call_len_seq (by rfl) T.len PySem.boot_len (pa_cons (pv 1) pa_nil))) pa_nil))), ?_⟩
    refine ⟨_, rfl, a, rfl, ⟨_, SqL.of hA⟩, fun D nD => lc_list (K := K) (a := a) (xs := qs.map V.ref) (fun i H' => Same H H' ∧ H' D = some (.lst ((cs.take i).map fun js => V.int (js.length : Int)))) ⟨same_upd nD, upd_same⟩ (fun i H' _ p => SqL.of (p.1 _ _ hA)) ?_ ?_⟩
    · rintro i x H' hi ⟨sm, hD⟩
      obtain ⟨q, hq, rfl⟩ := refs_at hi
      obtain ⟨js, hj, ps, hp, hps⟩ := h2.getY hq
      refine ⟨rfl, ?_⟩
      refine ⟨_, rfl, q, _, rfl, .inl (SqL.of (sm _ _ hp)), _, hD, ?_, same_into sm nD, ?_⟩
      · rw [List.length_map, List.length_take]
        exact small30 (by omega)
      · rw [upd_same, take_more hj, List.map_append, List.length_map, hps.len]
        rfl
    · rintro H' ⟨sm, hD⟩
      refine ⟨D, cs.map fun js => (js.length : Int), rfl, SqL.of ?_, ?_⟩
      · rw [hD, List.length_map, h2.len, List.take_length, List.map_map]
        rfl
      · rw [sum_cast]
        exact k _ sm
/-! ### read_jobs -/
theorem rgc2 {n : Nat} (h : n ≤ 30) (he : n % 2 = 0) : RgC 0 (n : Int) 2 (n / 2) := by
  have q : ∀ m : Fin 31, m.val % 2 = 0 → RgC 0 (m.val : Int) 2 (m.val / 2) := by
    unfold RgC
    decide +kernel
  exact q ⟨n, by omega⟩ he
def spReadJobs (K : PySem.W.Frag) : Sp := fun vs H Q _ => ∃ (a : Addr) (l : List Nat), vs = [.ref a] ∧ SqL K H a (intsV l) ∧ l.length % 2 = 0 ∧ l.length ≤ 30 ∧ ∀ H' p, Same H H' → JobsL (fresh H H') p (jobsOf l) → Q (.ref p) H'
theorem scRj : FnScope ["numbers", "k"] ["numbers"] (defScope s_read_jobs) := ⟨rfl, rfl, rfl, by decide +kernel, rfl, by decide +kernel, by decide +kernel⟩
theorem ok_read_jobs {f : Addr} {fd : FuncData} (F : Fun K "read_jobs" "read_jobs" s_read_jobs f fd) (T : Txt mg) : FnOk P w K mg base CX0 1 f fd ["numbers"] (spReadJobs K) := by
  refine F.ok scRj (fun vs H Q E h => ?_) (fun cdv A outer s H vs Q E hr h => ?_)
  · obtain ⟨a, l, rfl, _⟩ := h
    rfl
  · obtain ⟨a, l, rfl, hA, hev, hlen, k⟩ := h
    refine ⟨_, pss_one (ps_ret (pe_lc (own := [("k", 1)]) (g := gName 1) (tt := tYes) (te := tTup (tCons (tOp (rIxL K) (tVar 0) (tVar 1)) (tCons (tOp (rIxL K) (tVar 0) (tOp (rI0 fun i j => .int (i + j)) (tVar 1) (tC (.int 1)))) tNil)))
      rfl scRj.nd (pi_range3 (by rfl) T.range (pa_cons pe_int (pa_cons (pe_callB call_len_seq (by rfl) T.len PySem.boot_len (pa_cons (pv 0) pa_nil)) (pa_cons pe_int pa_nil))))
      (blkOk_by (N := ["numbers", "k"]) (sc := defScope s_read_jobs) (by decide +kernel))
      (fun _ _ _ _ _ => pg_name (i := 1) scRj.nd rfl (Or.inl rfl)) (fun _ _ _ _ _ => pts_nil) (fun _ _ _ _ _ => pe_tup (pa_cons (pe_ix ix_list (pv 0) (pv 1) (fun _ _ => rfl)) (pa_cons (pe_ix ix_list (pv 0) (pe_op op_add (pv 1) pe_int) (fun _ _ => rfl)) pa_nil))))), ?_⟩
    refine ⟨_, rfl, a, _, rfl, .inl hA, 0, _, 2, l.length / 2, rfl, ?_, fun D nD => ?_⟩
    · rw [intsV_length]
      exact rgc2 hlen hev
    · refine lc_it walk_rangeC (fun i H' => Same H H' ∧ ∃ ps : List Addr, H' D = some (.lst (ps.map V.ref)) ∧ All2 (JobT (less D (fresh H H'))) ps ((jobsOf l).take i)) ⟨same_upd nD, [], upd_same, All2.nil⟩ (fun _ _ _ _ => trivial) ?_ ?_
      · rintro i x Hx Hy hi ⟨sm, ps, hD, hps⟩ ⟨rfl, rfl⟩
        have hi1 : 2 * i < l.length := by omega
        have hi2 : 2 * i + 1 < l.length := by omega
        have g1 := List.getElem?_eq_getElem hi1
        have g2 := List.getElem?_eq_getElem hi2
        have hA' := sm.seq hA
        refine ⟨rfl, ?_⟩
        refine ⟨_, rfl, _, rfl, a, _, _, _, rfl, rfl, hA', at_of (by omega) (intsV_at g1), _, rfl, _, rfl, _, _, rfl, rfl, a, _, _, _, rfl, rfl, hA', at_of (j := 2 * i + 1) (by omega) (intsV_at g2), ?_, fun p hp => ?_⟩
        · show 2 ≤ sizeLine
          decide
        · have npD : D ≠ p := ne_of_none hD hp
          have nHp : H p = none := sm.free hp
          refine ⟨_, (upd_ne npD).trans hD, ?_, same_into (same_into sm nHp) nD, ps ++ [p], ?_, ?_⟩
          · have e := hps.len
            rw [List.length_take] at e
            rw [List.length_map]
            exact small30 (by omega)
          · rw [upd_same, List.map_append]
            rfl
          · have gj : (jobsOf l)[i]? = some ⟨l[2 * i], l[2 * i + 1]⟩ := jobsOf_get l i _ _ g1 g2
            rw [take_more gj]
            have s2 : Same (less D (fresh H Hy)) (less D (fresh H (upd (upd Hy p (.tup [.int (l[2 * i] : Int), .int (l[2 * i + 1] : Int)])) D (.lst (ps.map V.ref ++ [.ref p]))))) := by
              refine same_less (fun b o e => ?_) less_at
              have e1 := less_same b o e
              have nb : b ≠ D := fun z => by
                rw [z, less_at] at e
                cases e
              unfold fresh at e1 ⊢
              cases hb : H b with
              | none =>
                rw [hb] at e1
                show (upd (upd Hy p _) D _) b = some o
                rw [upd_ne nb, upd_ne (ne_of_none e1 hp)]
                exact e1
              | some y =>
                rw [hb] at e1
                cases e1
            refine (hps.mono fun x y q => q.same s2).snoc ?_
            show less D _ p = _
            rw [less_ne npD.symm, fresh_at nHp, upd_ne npD.symm, upd_same]
            rfl
      · rintro H' ⟨sm, ps, hD, hps⟩
        rw [List.take_of_length_le (by rw [jobsOf_length]; omega)] at hps
        refine k H' D sm ⟨ps, ?_, hps.mono fun x y q => q.same less_same⟩
        rw [fresh_at nD]
        exact hD
end
section
variable {P : Program} {w : World} {K : PySem.W.Frag} {mg : Str → Option Value} {base : Heap}
theorem rel_int {i : Int} {t : Tok} : RelV (.int i) (.int i t) := ⟨t, rfl⟩
/-! ### are_within_limits -/
def spWithin : Sp := fun vs H Q _ => ∃ (a : Addr) (cs : Chains), vs = [.ref a] ∧ ChL H a cs ∧ cs.length ≤ 30 ∧ ∀ H', Same H H' → Q (.bl (within cs)) H'
theorem scWi : FnScope ["chain_jobs", "jobs", "duration", "weight"] ["chain_jobs"] (defScope s_are_within_limits) := ⟨rfl, rfl, rfl, by decide +kernel, rfl, by decide +kernel, by decide +kernel⟩
theorem within_len {cs : Chains} (h : ¬ cs.length ≤ 4) : within cs = false := by
  unfold within
  rw [decide_eq_false h]
  rfl
theorem within_cnt {cs : Chains} (h : ¬ jobCount cs ≤ 7) : within cs = false := by
  unfold within
  rw [decide_eq_false h, Bool.and_false]
  rfl
theorem within_job {cs : Chains} {js : List Job} {j : Job} (h1 : js ∈ cs) (h2 : j ∈ js) (h : okJob j = false) : within cs = false := by
  unfold within
  have e : (cs.all fun js => js.all okJob) = false := by
    rw [List.all_eq_false]
    refine ⟨js, h1, ?_⟩
    intro z
    rw [List.all_eq_true.mp z j h2] at h
    cases h
  rw [e, Bool.and_false]
theorem ok_within {f fN : Addr} {fd fdN : FuncData} (F : Fun K "are_within_limits" "are_within_limits" s_are_within_limits f fd) (T : Txt mg)
    (FN : Fun K "number_of_jobs" "number_of_jobs" s_number_of_jobs fN fdN) (bN : Binds K fdN ["chain_jobs"] []) (gN : mg "number_of_jobs" = some (.ref fN)) : FnOk P w K mg base CX0 2 f fd ["chain_jobs"] spWithin := by
  have GN : FnOk P w K mg base CX0 1 fN fdN ["chain_jobs"] spNum := ok_num FN T
  obtain ⟨t4, m4⟩ := T.mC
  obtain ⟨t7, m7⟩ := T.mJ
  obtain ⟨tD, mD⟩ := T.mD
  obtain ⟨tW, mW⟩ := T.mW
  refine F.ok scWi (fun vs H Q E h => ?_) (fun cdv A outer s H vs Q E hr h => ?_)
  · obtain ⟨a, cs, rfl, _⟩ := h
    rfl
  · obtain ⟨a, cs, rfl, hC, hlen, k⟩ := h
    refine ⟨_, pss_cons (ps_if (PW.pt (pw_or (pt_cmpR op_gt (pe_callB call_len_seq (by rfl) T.len PySem.boot_len (pa_cons (pv 0) pa_nil)) (pe_glob rfl m4 rel_int) (nomark _))
          (pw_or1 (pt_cmpR op_gt (pe_call GN hr (by rfl) gN FN.kp bN .nil pass0 (pa_cons (pv 0) pa_nil)) (pe_glob rfl m7 rel_int) (nomark _))))) (pss_one (ps_ret pe_bl)) pss_nil)
      (pss_cons (ps_for PassesOwn.never rfl (pi_list (pv 0)) (pg_name (i := 1) scWi.nd rfl (Or.inl rfl))
        (pss_one (ps_for PassesOwn.never rfl (pi_list (pv 1)) (pg_tup rfl (pgs_cons (pg_name (i := 2) scWi.nd rfl (Or.inl rfl)) (pgs_cons (pg_name (i := 3) scWi.nd rfl (Or.inl rfl)) pgs_nil)))
          (pss_one (ps_if (PW.pt (pw_or (pt_not (pt_chain op_le op_le pe_int (pv 2) (pe_glob rfl mD rel_int))) (pw_or1 (pt_not (pt_chain op_le op_le pe_int (pv 3) (pe_glob rfl mW rel_int)))))) (pss_one (ps_ret pe_bl)) pss_nil)))))
      (pss_one (ps_ret pe_bl))), ?_⟩
    obtain ⟨qs, hA, h2⟩ := id hC
    refine ⟨_, rfl, a, _, rfl, .inl (SqL.of hA), _, _, rfl, rfl, _, rfl, ?_⟩
    refine ite2 (fun c => ?_) (fun c => ?_)
    · have c' := of_decide_eq_true c
      rw [List.length_map, h2.len] at c'
      show Q (.bl false) H
      rw [← within_len (cs := cs) (by omega)]
      exact k H (Same.refl H)
    have c4 : cs.length ≤ 4 := by
      have c' : ¬ _ := fun z => c (decide_eq_true z)
      rw [List.length_map, h2.len] at c'
      omega
    refine ⟨_, rfl, a, cs, rfl, hC, hlen, fun H1 s1 => ?_⟩
    refine ⟨_, _, rfl, rfl, _, rfl, ite2 (fun c => ?_) (fun c => ?_)⟩
    · have c' := of_decide_eq_true c
      show Q (.bl false) H1
      rw [← within_cnt (cs := cs) (by omega)]
      exact k H1 s1
    have c7 : jobCount cs ≤ 7 := by
      have c' : ¬ _ := fun z => c (decide_eq_true z)
      omega
    -- for jobs in chain_jobs
    refine ⟨_, rfl, a, rfl, ⟨_, SqL.of (s1 _ _ hA)⟩, for_list (K := K) (a := a) (xs := qs.map V.ref) (fun i σ H' => ∃ v1 v2 v3 : Option V, σ = [some (.ref a), v1, v2, v3] ∧ Same H H' ∧ (∀ js ∈ cs.take i, ∀ j ∈ js, okJob j = true))
      ⟨_, _, _, rfl, s1, fun _ z => by cases z⟩ (fun i σ H' _ p => by obtain ⟨_, _, _, _, sm, _⟩ := p; exact SqL.of (sm _ _ hA)) ?_ ?_⟩
    · rintro i x σ H' hi ⟨v1, v2, v3, rfl, sm, ok⟩
      obtain ⟨q, hq, rfl⟩ := refs_at hi
      obtain ⟨js, hj, ps, hp, hps⟩ := h2.getY hq
      refine ⟨_, rfl, q, rfl, ⟨_, SqL.of (sm _ _ hp)⟩, for_list (K := K) (a := q) (xs := ps.map V.ref) (fun m σ H' => ∃ v2 v3 : Option V, σ = [some (.ref a), some (.ref q), v2, v3] ∧ Same H H' ∧ (∀ j ∈ js.take m, okJob j = true))
        ⟨_, _, rfl, sm, fun _ z => by cases z⟩ (fun i σ H' _ p => by obtain ⟨_, _, _, sm, _⟩ := p; exact SqL.of (sm _ _ hp)) ?_ ?_⟩
      · rintro m y σ H2 hm ⟨w2, w3, rfl, sm2, ok2⟩
        obtain ⟨t, ht, rfl⟩ := refs_at hm
        obtain ⟨j, hjj, hT⟩ := hps.getY ht
        refine ⟨t, _, rfl, SqT.of (sm2 _ _ hT), rfl, _, _, rfl, _, _, rfl, rfl, ?_⟩
        have bad : okJob j = false → Q (.bl false) H2 := fun e => by
          rw [← within_job (List.mem_of_getElem? hj) (List.mem_of_getElem? hjj) e]
          exact k H2 sm2
        have no : ¬ (1 ≤ j.duration ∧ j.duration ≤ 99 ∧ j.weight ≤ 99) → Q (.bl false) H2 := fun c => bad (by
          cases e : okJob j with
          | false => rfl
          | true => exact absurd (okJob_iff.mp e) c)
        refine ⟨_, rfl, _, _, rfl, rfl, _, rfl, ite2 (fun c1 => ?_) (fun c1 => ?_)⟩
        · refine ⟨_, _, rfl, rfl, _, rfl, ite2 (fun c2 => ?_) (fun c2 => ?_)⟩
          · refine no fun z => ?_
            have z2 : (j.duration : Int) ≤ 99 := by omega
            rw [decide_eq_true z2] at c2
            cases c2
          · refine ⟨_, rfl, _, _, rfl, rfl, _, rfl, ite2 (fun c3 => ?_) (fun c3 => ?_)⟩
            · refine ⟨_, _, rfl, rfl, _, rfl, ite2 (fun c4 => ?_) (fun c4 => ?_)⟩
              · refine no fun z => ?_
                have z2 : (j.weight : Int) ≤ 99 := by omega
                rw [decide_eq_true z2] at c4
                cases c4
              · refine ⟨_, _, rfl, sm2, fun x hx => ?_⟩
                rw [take_more hjj] at hx
                rcases List.mem_append.mp hx with z | z
                · exact ok2 x z
                · rw [List.mem_singleton.mp z, okJob_iff]
                  have d1 := of_decide_eq_true c1
                  have d2 : (j.duration : Int) ≤ 99 := by
                    by_cases y : (j.duration : Int) ≤ 99
                    · exact y
                    · rw [decide_eq_false y] at c2
                      exact absurd rfl c2
                  have d3 : (j.weight : Int) ≤ 99 := by
                    by_cases y : (j.weight : Int) ≤ 99
                    · exact y
                    · rw [decide_eq_false y] at c4
                      exact absurd rfl c4
                  omega
            · exact absurd (decide_eq_true (show (0 : Int) ≤ (j.weight : Int) by omega)) c3
        · refine ⟨_, rfl, ?_⟩
          refine no fun z => c1 (decide_eq_true ?_)
          omega
      · rintro σ H2 ⟨w2, w3, rfl, sm2, ok2⟩
        rw [List.length_map, hps.len, List.take_length] at ok2
        refine ⟨_, w2, w3, rfl, sm2, ?_⟩
        rw [take_more hj]
        intro l hl
        rcases List.mem_append.mp hl with z | z
        · exact ok l z
        · rw [List.mem_singleton.mp z]
          exact ok2
    · rintro σ H2 ⟨v1, v2, v3, rfl, sm, ok⟩
      rw [List.length_map, h2.len, List.take_length] at ok
      show Q (.bl true) H2
      have e : within cs = true := by
        unfold within
        simp only [Bool.and_eq_true, decide_eq_true_eq, List.all_eq_true]
        exact ⟨⟨c4, c7⟩, ok⟩
      rw [← e]
      exact k H2 sm
end
section
variable {P : Program} {w : World} {K : PySem.W.Frag} {mg : Str → Option Value} {base : Heap}
/-! ### read_chains -/
def spRead (K : PySem.W.Frag) : Sp := fun vs H Q _ => ∃ (a : Addr) (l : List Nat), vs = [.ref a] ∧ SqL K H a (intsV l) ∧ l.length ≤ 30 ∧ (read l = none → ∀ H', Same H H' → Q .non H') ∧ ∀ cs, read l = some cs → ∀ H' p, Same H H' → ChL H' p cs → Q (.ref p) H'
theorem scRc : FnScope ["numbers", "chain_jobs", "place", "end"] ["numbers"] (defScope s_read_chains) := ⟨rfl, rfl, rfl, by decide +kernel, rfl, by decide +kernel, by decide +kernel⟩
theorem intsV_take (l : List Nat) (n : Nat) : (intsV l).take n = intsV (l.take n) := by
  unfold intsV
  exact List.map_take.symm
theorem intsV_drop (l : List Nat) (n : Nat) : (intsV l).drop n = intsV (l.drop n) := by
  unfold intsV
  exact List.map_drop.symm
theorem read_of_split {l : List Nat} {cs : Chains} (h : split l = some cs) : read l = if within cs = true then some cs else none := by
  unfold read
  rw [h]
  rfl
theorem read_of_none {l : List Nat} (h : split l = none) : read l = none := by
  unfold read
  rw [h]
  rfl
def ReadInv (H : Hp) (a c : Addr) (l : List Nat) (m : Nat) (σ : L2.St) (H' : Hp) : Prop :=
  ∃ (i : Nat) (done : Chains) (qs : List Addr) (v3 : Option V) (Hb : Hp), m = l.length - i ∧ i ≤ l.length ∧ σ = [some (.ref a), some (.ref c), some (.int (i : Int)), v3] ∧ Same H Hb ∧ Hb c = none ∧ Same Hb H' ∧ H' c = some (.lst (qs.map V.ref)) ∧ All2 (JobsL Hb) qs done ∧ done.length ≤ i ∧ split l = (split (l.drop i)).map (done ++ ·)
theorem ok_read {f fW fR fN : Addr} {fd fdW fdR fdN : FuncData} (F : Fun K "read_chains" "read_chains" s_read_chains f fd) (T : Txt mg)
    (FN : Fun K "number_of_jobs" "number_of_jobs" s_number_of_jobs fN fdN) (bN : Binds K fdN ["chain_jobs"] []) (gN : mg "number_of_jobs" = some (.ref fN))
    (FW : Fun K "are_within_limits" "are_within_limits" s_are_within_limits fW fdW) (bW : Binds K fdW ["chain_jobs"] []) (gW : mg "are_within_limits" = some (.ref fW))
    (FR : Fun K "read_jobs" "read_jobs" s_read_jobs fR fdR) (bR : Binds K fdR ["numbers"] []) (gR : mg "read_jobs" = some (.ref fR)) : FnOk P w K mg base CX0 3 f fd ["numbers"] (spRead K) := by
  have GW : FnOk P w K mg base CX0 2 fW fdW ["chain_jobs"] spWithin := ok_within FW T FN bN gN
  have GR : FnOk P w K mg base CX0 1 fR fdR ["numbers"] (spReadJobs K) := ok_read_jobs FR T
  refine F.ok scRc (fun vs H Q E h => ?_) (fun cdv A outer s H vs Q E hr h => ?_)
  · obtain ⟨a, cs, rfl, _⟩ := h
    rfl
  · obtain ⟨a, l, rfl, hA, hlen, kN, kS⟩ := h
    have hr1 : Room 1 _ := hr.mono (by decide)
    refine ⟨_, pss_cons (ps_set (i := 1) scRc.nd rfl (.inl rfl) (pe_lst pa_nil))
      (pss_cons (ps_set (i := 2) scRc.nd rfl (.inl rfl) pe_int)
      (pss_cons (ps_while PassesOwn.never (pt_cmpR op_lt (pv 2) (pe_callB call_len_seq (by rfl) T.len PySem.boot_len (pa_cons (pv 0) pa_nil)) (nomark _))
        (pss_cons (ps_set (i := 3) scRc.nd rfl (.inl rfl) (pe_op op_add (pe_op op_add (pv 2) pe_int) (pe_op op_mul pe_int (pe_ix ix_list (pv 0) (pv 2) (fun _ _ => rfl)))))
        (pss_cons (ps_if (pt_cmpR op_gt (pv 3) (pe_callB call_len_seq (by rfl) T.len PySem.boot_len (pa_cons (pv 0) pa_nil)) (nomark _)) (pss_one (ps_ret pe_non)) pss_nil)
        (pss_cons (ps_expr (pe_bm PySem.F.plainAttrs_list PySem.F.slot_list_append PySem.F.type_list_append mt_append (pv 1) (pa_cons (pe_call GR hr1 (by rfl) gR FR.kp bR .nil pass0 (pa_cons (pe_slice sl_list (pv 0) (po_some (pe_op op_add (pv 2) pe_int)) (po_some (pv 3))) pa_nil)) pa_nil)))
        (pss_one (ps_set (i := 2) scRc.nd rfl (.inl rfl) (pv 3)))))))
      (pss_cons (ps_if (pt_not (pt_val (pe_call GW hr (by rfl) gW FW.kp bW .nil pass0 (pa_cons (pv 1) pa_nil)))) (pss_one (ps_ret pe_non)) pss_nil)
      (pss_one (ps_ret (pv 1)))))), ?_⟩
    refine ⟨Nat.zero_le _, fun c nc => ?_⟩
    refine ⟨ReadInv H a c l,
      ⟨l.length, 0, [], [], none, H, rfl, Nat.zero_le _, rfl, Same.refl H, nc, same_upd nc, upd_same, All2.nil, Nat.le_refl _, ?_⟩, ?_⟩
    · rw [List.drop_zero]
      cases split l <;> rfl
    rintro m σ H' ⟨i, done, qs, v3, Hb, rfl, hi, rfl, sHb, nb, sB, hC, h2, hdl, hsp⟩
    have sH : Same H H' := sHb.trans sB
    have hA' := sH.seq hA
    refine ⟨_, rfl, _, rfl, a, _, rfl, .inl hA', _, _, rfl, rfl, _, rfl, ite2 (fun ci => ?_) (fun ci => ?_)⟩
    · have ci' := of_decide_eq_true ci
      rw [intsV_length] at ci'
      have hlt : i < l.length := by omega
      have gi := List.getElem?_eq_getElem hlt
      have hd : l.drop i = l[i] :: l.drop (i + 1) := List.drop_eq_getElem_cons hlt
      have hrest : (l.drop (i + 1)).length = l.length - (i + 1) := List.length_drop
      rw [hd, split_cons, hrest] at hsp
      refine ⟨fun σ' H'' => ∃ m', m' < l.length - i ∧ ReadInv H a c l m' σ' H'', fun σ' H'' z => z, ?_⟩
      refine ⟨_, rfl, _, _, rfl, rfl, _, rfl, _, rfl, a, _, _, _, rfl, rfl, hA', at_of rfl (intsV_at gi), _, _, rfl, rfl, .inl ⟨by decide, by decide⟩, _, _, rfl, rfl, ?_⟩
      have ee : (i : Int) + 1 + 2 * (l[i] : Int) = ((i + 1 + 2 * l[i] : Nat) : Int) := by omega
      refine ⟨_, rfl, _, rfl, a, _, rfl, .inl hA', _, _, rfl, rfl, _, rfl, ite2 (fun cj => ?_) (fun cj => ?_)⟩
      · have cj' := of_decide_eq_true cj
        rw [intsV_length] at cj'
        rw [if_pos (by omega)] at hsp
        exact kN (read_of_none hsp) H' sH
      · have cj' : ¬ _ := fun z => cj (decide_eq_true z)
        rw [intsV_length] at cj'
        have hle : i + 1 + 2 * l[i] ≤ l.length := by omega
        rw [if_neg (by omega)] at hsp
        refine ⟨_, rfl, .inl ⟨rfl, _, SqL.of hC⟩, _, rfl, _, rfl, _, _, rfl, rfl, _, rfl, _, rfl, _, rfl, a, _, rfl, hA', fun p np => ?_⟩
        have e1 : (i : Int) + 1 = ((i + 1 : Nat) : Int) := by omega
        have ec : cutV (intsV l) (some ((i : Int) + 1)) (some ((i : Int) + 1 + 2 * (l[i] : Int))) = intsV ((l.drop (i + 1)).take (2 * l[i])) := by
          rw [ee, e1, cut_nat (by omega) (by rw [intsV_length]; exact hle), intsV_drop, intsV_take]
          congr 2
          omega
        have hln : ((l.drop (i + 1)).take (2 * l[i])).length = 2 * l[i] := by
          rw [List.length_take, List.length_drop]
          omega
        have sp : Same H' (upd H' p (.lst (cutV (intsV l) (some ((i : Int) + 1)) (some ((i : Int) + 1 + 2 * (l[i] : Int)))))) := same_upd np
        refine ⟨p, (l.drop (i + 1)).take (2 * l[i]), rfl, SqL.of ?_, by omega, by omega, fun H2 r s2 hJ => ?_⟩
        · rw [upd_same, ec]
        · have hC2 : H2 c = some (.lst (qs.map V.ref)) := s2 _ _ (sp _ _ hC)
          have s02 : Same H' H2 := sp.trans s2
          refine ⟨c, _, _, rfl, rfl, hC2, ?_, ?_⟩
          · rw [List.length_map, h2.len]
            exact small30 (by omega)
          refine ⟨_, rfl, l.length - (i + 1 + 2 * l[i]), by omega, i + 1 + 2 * l[i], done ++ [jobsOf ((l.drop (i + 1)).take (2 * l[i]))], qs ++ [r], some (.int ((i + 1 + 2 * l[i] : Nat) : Int)), less c H2, rfl, hle, ?_, ?_, less_at, ?_, ?_, ?_, ?_, ?_⟩
          · rw [← ee]
            rfl
          · exact same_less (sH.trans s02) nc
          · exact same_into less_same less_at
          · rw [upd_same, List.map_append]
            rfl
          · exact (h2.mono fun x y q => q.same (same_less (sB.trans s02) nb)).snoc (hJ.same (fresh_less (sp _ _ hC)))
          · rw [List.length_append]
            show done.length + 1 ≤ _
            omega
          · rw [hsp, List.drop_drop, Option.map_map]
            congr 1
            funext z
            show done ++ jobsOf _ :: z = done ++ [jobsOf _] ++ z
            rw [List.append_assoc]
            rfl
    · have ci' : ¬ _ := fun z => ci (decide_eq_true z)
      rw [intsV_length] at ci'
      have e : i = l.length := by omega
      subst e
      rw [List.drop_length, split_nil] at hsp
      have hsp' : split l = some done := by
        rw [hsp]
        show some (done ++ []) = some done
        rw [List.append_nil]
      refine ⟨_, rfl, c, done, rfl, ⟨qs, hC, h2.mono fun x y q => q.same sB⟩, by omega, fun H1 s1 => ⟨_, rfl, ?_⟩⟩
      rw [read_of_split hsp'] at kN kS
      by_cases z : within done = true
      · rw [if_pos z] at kS
        rw [z]
        refine ⟨_, rfl, ?_⟩
        exact kS done rfl H1 c (sH.trans s1) ⟨qs, s1 _ _ hC, h2.mono fun x y q => q.same (sB.trans s1)⟩
      · rw [if_neg z] at kN
        have z' : within done = false := by simpa using z
        rw [z']
        exact kN rfl H1 (sH.trans s1)
end
/-- xs[j], by values, for xs[j] += e -/
def rGetL (K : PySem.W.Frag) : V → V → Hp → VK → Prop := fun x y H Q => ∃ (p : Addr) (xs : List V) (j : Nat) (v : V), x = .ref p ∧ y = .int (j : Int) ∧ SqL K H p xs ∧ xs[j]? = some v ∧ Q v H
theorem get_list {X : Cx} : PGet X (rGetL X.K) := by
  intro pins s σ H o i ov iv Q I ro ri h
  obtain ⟨p, xs, j, z, rfl, rfl, hq, he, q⟩ := h
  cases ro
  obtain ⟨t, rfl⟩ := ri
  obtain ⟨its, r, pl, hz⟩ := I.list hq
  obtain ⟨u, eu, ru⟩ := r.get he
  have hj := (List.getElem?_eq_some_iff.mp he).1
  have hn := line63
  exact wpAny_getItem_list pl.isList (by omega) (by omega) (by simpa using eu) ⟨z, H, I, ru, q⟩
theorem ix_of {n j : Nat} (hj : j < n) : ixN n (j : Int) = some j := by
  unfold ixN
  rw [if_pos (by omega), if_pos (by omega)]
  simp
section
variable {P : Program} {w : World} {K : PySem.W.Frag} {mg : Str → Option Value} {base : Heap}
/-! ### jobs_in_order -/
def spJobs (K : PySem.W.Frag) : Sp := fun vs H Q _ => ∃ (a b : Addr) (cs : Chains) (os : List Nat), vs = [.ref a, .ref b] ∧ ChL H a cs ∧ SqL K H b (intsV os) ∧ Ord cs os ∧ cs.length ≤ 30 ∧ os.length ≤ 30 ∧ ∀ H' p, Same H H' → JobsL H' p (seq cs os) → Q (.ref p) H'
theorem scJo : FnScope ["chain_jobs", "order", "done", "jobs", "chain"] ["chain_jobs", "order"] (defScope s_jobs_in_order) := ⟨rfl, rfl, rfl, by decide +kernel, rfl, by decide +kernel, by decide +kernel⟩
/-- what of the chains is left, n jobs of each done -/
structure Left (cs : Chains) (ds : List Nat) (rem : Chains) : Prop where
  l1 : ds.length = cs.length
  l2 : rem.length = cs.length
  at_ : ∀ (c : Nat) (js : List Job) (n : Nat), cs[c]? = some js → ds[c]? = some n → rem[c]? = some (js.drop n)
theorem Left.start (cs : Chains) : Left cs (List.replicate cs.length 0) cs := by
  refine ⟨List.length_replicate, rfl, fun c js n h1 h2 => ?_⟩
  have e : n = 0 := List.eq_of_mem_replicate (List.mem_of_getElem? h2)
  rw [e, List.drop_zero]
  exact h1
theorem Left.next {cs rem : Chains} {ds : List Nat} (h : Left cs ds rem) {c : Nat} {j : Job} {r : List Job} (e : rem[c]? = some (j :: r)) :
    ∃ js n, cs[c]? = some js ∧ ds[c]? = some n ∧ js[n]? = some j ∧ Left cs (ds.set c (n + 1)) (rem.set c r) := by
  have hc := (List.getElem?_eq_some_iff.mp e).1
  have hc1 : c < cs.length := by rw [← h.l2]; exact hc
  have hc2 : c < ds.length := by rw [h.l1]; exact hc1
  have g1 := List.getElem?_eq_getElem hc1
  have g2 := List.getElem?_eq_getElem hc2
  have g3 := h.at_ c _ _ g1 g2
  rw [e] at g3
  have g4 : j :: r = cs[c].drop ds[c] := Option.some.inj g3
  have hn : ds[c] < cs[c].length := by
    by_cases z : ds[c] < cs[c].length
    · exact z
    · rw [List.drop_of_length_le (by omega)] at g4
      cases g4
  rw [List.drop_eq_getElem_cons hn] at g4
  injection g4 with g5 g6
  refine ⟨cs[c], ds[c], g1, g2, by rw [g5]; exact List.getElem?_eq_getElem hn, by rw [List.length_set]; exact h.l1, by rw [List.length_set]; exact h.l2, fun d js n h1 h2 => ?_⟩
  by_cases z : c = d
  · subst z
    rw [List.getElem?_set_self hc2] at h2
    cases h2
    rw [g1] at h1
    cases h1
    rw [List.getElem?_set_self hc, g6]
  · rw [List.getElem?_set_ne z] at h2
    rw [List.getElem?_set_ne z]
    exact h.at_ d js n h1 h2
theorem ord_cons {cs : Chains} {c : Nat} {os : List Nat} (h : Ord cs (c :: os)) : ∃ j r, cs[c]? = some (j :: r) ∧ Ord (cs.set c r) os := by
  cases h with
  | cons e o => exact ⟨_, _, e, o⟩
theorem ok_jobs {f : Addr} {fd : FuncData} (F : Fun K "jobs_in_order" "jobs_in_order" s_jobs_in_order f fd) (T : Txt mg) : FnOk P w K mg base CX0 1 f fd ["chain_jobs", "order"] (spJobs K) := by
  refine F.ok scJo (fun vs H Q E h => ?_) (fun cdv A outer s H vs Q E hr h => ?_)
  · obtain ⟨a, b, cs, os, rfl, _⟩ := h
    rfl
  · obtain ⟨a, b, cs, os, rfl, hC, hB, hO, hlen, hol, k⟩ := h
    refine ⟨_, pss_cons (ps_set (i := 2) scJo.nd rfl (.inl rfl) (pe_op op_rep (pe_lst (pa_cons pe_int pa_nil)) (pe_callB call_len_seq (by rfl) T.len PySem.boot_len (pa_cons (pv 0) pa_nil))))
      (pss_cons (ps_set (i := 3) scJo.nd rfl (.inl rfl) (pe_lst pa_nil))
      (pss_cons (ps_for PassesOwn.never rfl (pi_list (pv 1)) (pg_name (i := 4) scJo.nd rfl (Or.inl rfl))
        (pss_cons (ps_expr (pe_bm PySem.F.plainAttrs_list PySem.F.slot_list_append PySem.F.type_list_append mt_append (pv 3) (pa_cons (pe_ix ix_list (pe_ix ix_list (pv 0) (pv 4) (fun _ _ => rfl)) (pe_ix ix_list (pv 2) (pv 4) (fun _ _ => rfl)) (fun _ _ => rfl)) pa_nil)))
        (pss_one (ps_augS (pv 2) (pv 4) get_list pe_int ip_add set_list))))
      (pss_one (ps_ret (pv 3))))), ?_⟩
    obtain ⟨qs, hA, h2⟩ := id hC
    refine ⟨by show 1 ≤ sizeLine; decide, fun z nz => ?_⟩
    have s1 : Same H (upd H z (.lst [.int 0])) := same_upd nz
    refine ⟨_, rfl, a, _, rfl, .inl (SqL.of (s1 _ _ hA)), z, _, _, rfl, rfl, upd_same, by omega, ?_, ?_, fun d nd => ?_⟩
    · rw [List.length_map, h2.len]
      omega
    · rw [List.length_map, h2.len]
      show 1 * _ ≤ _
      exact Nat.le_of_lt (small30 (by omega))
    have s2 := same_into (o := HO.lst (List.replicate ((qs.map V.ref).length : Int).toNat [V.int 0]).flatten) s1 (s1.free nd)
    have er : (List.replicate ((qs.map V.ref).length : Int).toNat [V.int 0]).flatten = intsV (List.replicate cs.length 0) := by
      rw [List.length_map, h2.len, Int.toNat_natCast]
      unfold intsV
      rw [List.map_replicate]
      induction cs.length with
      | zero => rfl
      | succ n ih => rw [List.replicate_succ, List.replicate_succ, List.flatten_cons, ih]; rfl
    refine ⟨Nat.zero_le _, fun r nr => ?_⟩
    have nrd : d ≠ r := ne_of_none upd_same nr
    have s3 := same_into (o := HO.lst ([] : List V)) s2 (s2.free nr)
    refine ⟨_, rfl, b, rfl, ⟨_, s3.seq hB⟩, for_list (K := K) (a := b) (xs := intsV os) (fun i σ H' => ∃ (v4 : Option V) (ds : List Nat) (rem : Chains) (rs : List Addr) (js : List Job),
        σ = [some (.ref a), some (.ref b), some (.ref d), some (.ref r), v4] ∧ Same H H' ∧ H' d = some (.lst (intsV ds)) ∧ H' r = some (.lst (rs.map V.ref)) ∧ All2 (JobT H) rs js ∧ js.length = i ∧ Left cs ds rem ∧ Ord rem (os.drop i) ∧ seq cs os = js ++ seq rem (os.drop i))
      ⟨_, List.replicate cs.length 0, cs, [], [], rfl, s3, ?_, upd_same, All2.nil, rfl, Left.start cs, hO, rfl⟩ (fun i σ H' _ p => by obtain ⟨_, _, _, _, _, _, sm, _⟩ := p; exact sm.seq hB) ?_ ?_⟩
    · rw [upd_ne nrd, upd_same, er]
    · rintro i x σ H' hi ⟨v4, ds, rem, rs, js, rfl, sm, hd, hr', h3, hjl, hL, hR, hs⟩
      have hi' : i < os.length := by
        have := (List.getElem?_eq_some_iff.mp hi).1
        rw [intsV_length] at this
        exact this
      rw [intsV_at (List.getElem?_eq_getElem hi')] at hi
      cases hi
      rw [List.drop_eq_getElem_cons hi'] at hR hs
      obtain ⟨j, t, e1, hR'⟩ := ord_cons hR
      obtain ⟨ls, n, e2, e3, e4, hL'⟩ := hL.next e1
      rw [seq_cons e1] at hs
      obtain ⟨q, hq, ps, hp, hps⟩ := h2.getX e2
      obtain ⟨u, hu, hT⟩ := hps.getX e4
      have hcd : os[i] < ds.length := (List.getElem?_eq_some_iff.mp e3).1
      refine ⟨_, rfl, .inl ⟨rfl, _, SqL.of hr'⟩, _, rfl, _, rfl, a, _, _, .ref q, rfl, rfl, SqL.of (sm _ _ hA), atI_nat (by rw [List.getElem?_map, hq]; rfl), _, rfl, _, rfl, d, _, _, _, rfl, rfl, SqL.of hd, atI_nat (intsV_at e3), q, _, _, .ref u, rfl, rfl, SqL.of (sm _ _ hp), atI_nat (by rw [List.getElem?_map, hu]; rfl), r, _, _, rfl, rfl, hr', ?_, ?_⟩
      · rw [List.length_map, h3.len, hjl]
        exact small30 (by omega)
      have hd2 : (upd H' r (.lst (rs.map V.ref ++ [.ref u]))) d = some (.lst (intsV ds)) := by
        rw [upd_ne nrd]
        exact hd
      refine ⟨_, rfl, _, rfl, d, _, _, _, rfl, rfl, SqL.of hd2, intsV_at e3, _, _, rfl, rfl, d, _, _, os[i], rfl, rfl, hd2, ix_of (by rw [intsV_length]; exact hcd), ?_⟩
      refine ⟨_, ds.set os[i] (n + 1), rem.set os[i] t, rs ++ [u], js ++ [j], rfl, ?_, ?_, ?_, h3.snoc hT, ?_, hL', hR', ?_⟩
      · exact same_into (same_into sm (s2.free nr)) (s1.free nd)
      · rw [upd_same]
        unfold intsV
        rw [List.map_set]
        rfl
      · rw [upd_ne nrd.symm, upd_same, List.map_append]
        rfl
      · rw [List.length_append, hjl]
        rfl
      · rw [hs, List.append_assoc]
        rfl
    · rintro σ H' ⟨v4, ds, rem, rs, js, rfl, sm, hd, hr', h3, hjl, hL, hR, hs⟩
      rw [intsV_length, List.drop_length] at hs
      have e : seq cs os = js := by
        rw [hs]
        show js ++ [] = js
        exact List.append_nil _
      refine ⟨_, rfl, ?_⟩
      refine k H' r sm ?_
      rw [e]
      exact ⟨rs, hr', h3.mono fun x y q => q.same sm⟩
end
section
variable {P : Program} {w : World} {K : PySem.W.Frag} {mg : Str → Option Value} {base : Heap}
/-! ### times_of_jobs -/
def spTimes : Sp := fun vs H Q _ => ∃ (a : Addr) (js : List Job), vs = [.ref a] ∧ JobsL H a js ∧ js.length ≤ 30 ∧ ∀ H' p, Same H H' → H' p = some (.lst (intsV (timesAt 0 js))) → Q (.ref p) H'
theorem scTj : FnScope ["jobs", "times", "completion", "job"] ["jobs"] (defScope s_times_of_jobs) := ⟨rfl, rfl, rfl, by decide +kernel, rfl, by decide +kernel, by decide +kernel⟩
theorem ok_times {f : Addr} {fd : FuncData} (F : Fun K "times_of_jobs" "times_of_jobs" s_times_of_jobs f fd) : FnOk P w K mg base CX0 1 f fd ["jobs"] spTimes := by
  refine F.ok scTj (fun vs H Q E h => ?_) (fun cdv A outer s H vs Q E hr h => ?_)
  · obtain ⟨a, js, rfl, _⟩ := h
    rfl
  · obtain ⟨a, js, rfl, ⟨ps, hA, h2⟩, hlen, k⟩ := h
    refine ⟨_, pss_cons (ps_set (i := 1) scTj.nd rfl (.inl rfl) (pe_lst pa_nil))
      (pss_cons (ps_set (i := 2) scTj.nd rfl (.inl rfl) pe_int)
      (pss_cons (ps_for PassesOwn.never rfl (pi_list (pv 0)) (pg_name (i := 3) scTj.nd rfl (Or.inl rfl))
        (pss_cons (ps_aug (i := 2) scTj.nd rfl (.inl rfl) (pe_ix ix_tup (pv 3) pe_int (fun _ _ => rfl)) ip_add)
        (pss_one (ps_expr (pe_bm PySem.F.plainAttrs_list PySem.F.slot_list_append PySem.F.type_list_append mt_append (pv 1) (pa_cons (pv 2) pa_nil))))))
      (pss_one (ps_ret (pv 1))))), ?_⟩
    refine ⟨Nat.zero_le _, fun r nr => ?_⟩
    have s1 : Same H (upd H r (.lst ([] : List V))) := same_upd nr
    refine ⟨_, rfl, a, rfl, ⟨_, SqL.of (s1 _ _ hA)⟩, for_list (K := K) (a := a) (xs := ps.map V.ref) (fun i σ H' => ∃ (v3 : Option V) (t : Nat) (ts : List Nat),
        σ = [some (.ref a), some (.ref r), some (.int (t : Int)), v3] ∧ Same H H' ∧ H' r = some (.lst (intsV ts)) ∧ ts.length = i ∧ timesAt 0 js = ts ++ timesAt t (js.drop i))
      ⟨_, 0, [], rfl, s1, upd_same, rfl, rfl⟩ (fun i σ H' _ q => by obtain ⟨_, _, _, _, sm, _⟩ := q; exact SqL.of (sm _ _ hA)) ?_ ?_⟩
    · rintro i x σ H' hi ⟨v3, t, ts, rfl, sm, hR, htl, hts⟩
      obtain ⟨q, hq, rfl⟩ := refs_at hi
      obtain ⟨j, hj, hT⟩ := h2.getY hq
      obtain ⟨hlt, ej⟩ := List.getElem?_eq_some_iff.mp hj
      rw [List.drop_eq_getElem_cons hlt, ej] at hts
      refine ⟨_, rfl, _, rfl, q, _, _, _, rfl, rfl, SqT.of (sm _ _ hT), atI_nat (j := 0) rfl, _, _, rfl, rfl, ?_⟩
      refine ⟨_, rfl, .inl ⟨rfl, _, SqL.of hR⟩, _, rfl, r, _, _, rfl, rfl, hR, ?_, ?_⟩
      · rw [intsV_length, htl]
        have := h2.len
        exact small30 (by omega)
      · refine ⟨some (.ref q), t + j.duration, ts ++ [t + j.duration], ?_, same_into sm nr, ?_, ?_, ?_⟩
        · show [_, _, some (V.int ((t : Int) + (j.duration : Int))), _] = _
          rw [Int.natCast_add]
        · rw [upd_same]
          unfold intsV
          rw [List.map_append]
          show some (HO.lst (_ ++ [V.int ((t : Int) + (j.duration : Int))])) = some (HO.lst (_ ++ [V.int ((t + j.duration : Nat) : Int)]))
          rw [Int.natCast_add]
        · rw [List.length_append, htl]
          rfl
        · rw [hts, List.append_assoc]
          rfl
    · rintro σ H' ⟨v3, t, ts, rfl, sm, hR, htl, hts⟩
      rw [List.length_map, h2.len, List.drop_length] at hts
      have e : timesAt 0 js = ts := by
        rw [hts]
        show ts ++ [] = ts
        exact List.append_nil _
      refine ⟨_, rfl, k H' r sm ?_⟩
      rw [e]
      exact hR
end
section
variable {P : Program} {w : World} {K : PySem.W.Frag} {mg : Str → Option Value} {base : Heap}
/-! ### cost_of_order -/
theorem mem_set {cs : Chains} {c : Nat} {j : Job} {r : List Job} (h : cs[c]? = some (j :: r)) : ∀ x, (∃ js ∈ cs.set c r, x ∈ js) → ∃ js ∈ cs, x ∈ js := fun x ⟨js, h1, h2⟩ => by
  rcases List.mem_or_eq_of_mem_set h1 with z | z
  · exact ⟨js, z, h2⟩
  · exact ⟨_, List.mem_of_getElem? h, by rw [z] at h2; exact List.mem_cons_of_mem _ h2⟩
theorem mem_seq : ∀ {cs : Chains} {os : List Nat}, Ord cs os → ∀ j ∈ seq cs os, ∃ js ∈ cs, j ∈ js
  | _, _, .nil _, j, h => by cases h
  | cs, _, .cons e o, j, h => by
    rw [seq_cons e] at h
    rcases List.mem_cons.mp h with z | z
    · exact ⟨_, List.mem_of_getElem? e, by rw [z]; exact List.mem_cons_self⟩
    · exact mem_set e j (mem_seq o j z)
def spCost (K : PySem.W.Frag) : Sp := fun vs H Q _ => ∃ (a b : Addr) (cs : Chains) (os : List Nat), vs = [.ref a, .ref b] ∧ ChL H a cs ∧ SqL K H b (intsV os) ∧ Ord cs os ∧ Good cs ∧ os.length ≤ 30 ∧ ∀ H', Same H H' → Q (.int (costAt 0 (seq cs os) : Nat)) H'
theorem scCo : FnScope ["chain_jobs", "order", "jobs", "cost", "job", "completion"] ["chain_jobs", "order"] (defScope s_cost_of_order) := ⟨rfl, rfl, rfl, by decide +kernel, rfl, by decide +kernel, by decide +kernel⟩
theorem ok_cost {f fJ fT : Addr} {fd fdJ fdT : FuncData} (F : Fun K "cost_of_order" "cost_of_order" s_cost_of_order f fd) (T : Txt mg) (mZ : mg "zip" = none)
    (FJ : Fun K "jobs_in_order" "jobs_in_order" s_jobs_in_order fJ fdJ) (bJ : Binds K fdJ ["chain_jobs", "order"] []) (gJ : mg "jobs_in_order" = some (.ref fJ))
    (FT : Fun K "times_of_jobs" "times_of_jobs" s_times_of_jobs fT fdT) (bT : Binds K fdT ["jobs"] []) (gT : mg "times_of_jobs" = some (.ref fT)) : FnOk P w K mg base CX0 2 f fd ["chain_jobs", "order"] (spCost K) := by
  have GJ : FnOk P w K mg base CX0 1 fJ fdJ ["chain_jobs", "order"] (spJobs K) := ok_jobs FJ T
  have GT : FnOk P w K mg base CX0 1 fT fdT ["jobs"] spTimes := ok_times FT
  refine F.ok scCo (fun vs H Q E h => ?_) (fun cdv A outer s H vs Q E hr h => ?_)
  · obtain ⟨a, b, cs, os, rfl, _⟩ := h
    rfl
  · obtain ⟨a, b, cs, os, rfl, hC, hB, hO, hG, hol, k⟩ := h
    refine ⟨_, pss_cons (ps_set (i := 2) scCo.nd rfl (.inl rfl) (pe_call GJ hr (by rfl) gJ FJ.kp bJ .nil pass0 (pa_cons (pv 0) (pa_cons (pv 1) pa_nil))))
      (pss_cons (ps_set (i := 3) scCo.nd rfl (.inl rfl) pe_int)
      (pss_cons (ps_for PassesOwn.never rfl (pi_zip (by rfl) mZ (pa_cons (pv 2) (pa_cons (pe_call GT hr (by rfl) gT FT.kp bT .nil pass0 (pa_cons (pv 2) pa_nil)) pa_nil))) (pg_tup rfl (pgs_cons (pg_name (i := 4) scCo.nd rfl (Or.inl rfl)) (pgs_cons (pg_name (i := 5) scCo.nd rfl (Or.inl rfl)) pgs_nil)))
        (pss_one (ps_aug (i := 3) scCo.nd rfl (.inl rfl) (pe_op op_mul (pe_ix ix_tup (pv 4) pe_int (fun _ _ => rfl)) (pv 5)) ip_add)))
      (pss_one (ps_ret (pv 3))))), ?_⟩
    refine ⟨_, rfl, _, rfl, a, b, cs, os, rfl, hC, hB, hO, by have := hG.len; omega, hol, fun H1 p s1 hJ => ?_⟩
    have hsl : (seq cs os).length = os.length := hO.seq_length
    refine ⟨_, rfl, _, rfl, p, seq cs os, rfl, hJ, by omega, fun H2 r s2 hr2 => ?_⟩
    obtain ⟨ps, hp, h3⟩ := hJ
    have hp2 := s2 _ _ hp
    have hlen : (ps.map V.ref).length = (intsV (timesAt 0 (seq cs os))).length := by
      rw [List.length_map, h3.len, intsV_length, timesAt_length]
    refine ⟨p, r, _, _, rfl, SqL.of hp2, SqL.of hr2, for_it (walk_zip (n := os.length) (xs := ps.map V.ref) (ys := intsV (timesAt 0 (seq cs os))) (by rw [← hlen, Nat.min_self, List.length_map, h3.len, hsl])) (fun i σ H' => ∃ (v4 v5 : Option V) (c t : Nat), σ = [some (.ref a), some (.ref b), some (.ref p), some (.int (c : Int)), v4, v5] ∧ Same H2 H' ∧ costAt 0 (seq cs os) = c + costAt t ((seq cs os).drop i) ∧ (timesAt 0 (seq cs os)).drop i = timesAt t ((seq cs os).drop i))
      ⟨_, _, 0, 0, rfl, Same.refl H2, by rw [List.drop_zero, Nat.zero_add], rfl⟩ (fun i σ H' _ q => by obtain ⟨_, _, _, _, _, sm, _⟩ := q; exact ⟨SqL.of (sm _ _ hp2), SqL.of (sm _ _ hr2)⟩) ?_ ?_⟩
    · rintro i x σ H' H'' hi ⟨v4, v5, c, t, rfl, sm, hc, ht⟩ ⟨u, x1, x2, rfl, nu, rfl, hx, hy⟩
      obtain ⟨q, hq, rfl⟩ := refs_at hx
      obtain ⟨j, hj, hT⟩ := h3.getY hq
      have hjm := List.mem_of_getElem? hj
      obtain ⟨js, hm1, hm2⟩ := mem_seq hO j hjm
      have hb := hG.job js hm1 j hm2
      obtain ⟨e1, e2⟩ := timesAt_step ht hj
      have e3 := (intsV_at e1).symm.trans hy
      cases e3
      have hlt := (List.getElem?_eq_some_iff.mp hj).1
      have hd : (seq cs os).drop i = j :: (seq cs os).drop (i + 1) := by
        rw [List.drop_eq_getElem_cons hlt]
        congr 1
        exact (List.getElem?_eq_some_iff.mp hj).2
      rw [hd] at hc
      have s3 : Same H' (upd H' u (.tup [.ref q, .int ((t + j.duration : Nat) : Int)])) := same_upd nu
      have hTu := s3 _ _ (sm _ _ (s2 _ _ hT))
      refine ⟨u, _, rfl, SqT.of upd_same, rfl, _, _, rfl, _, _, rfl, rfl, ?_⟩
      refine ⟨_, rfl, _, rfl, q, _, _, _, rfl, rfl, SqT.of hTu, atI_nat (j := 1) rfl, _, rfl, _, _, rfl, rfl, .inl ⟨by omega, by omega⟩, _, _, rfl, rfl, ?_⟩
      refine ⟨some (.ref q), some (.int ((t + j.duration : Nat) : Int)), c + j.weight * (t + j.duration), t + j.duration, ?_, sm.trans s3, ?_, e2⟩
      · show [_, _, _, some (V.int ((c : Int) + (j.weight : Int) * ((t + j.duration : Nat) : Int))), _, _] = _
        rw [Int.natCast_add c, Int.natCast_mul]
      · rw [hc]
        show c + (j.weight * (t + j.duration) + costAt (t + j.duration) _) = _
        omega
    · rintro σ H' ⟨v4, v5, c, t, rfl, sm, hc, ht⟩
      rw [← hsl, List.drop_length] at hc
      refine ⟨_, rfl, ?_⟩
      show Q (.int (c : Int)) H'
      have e : c = costAt 0 (seq cs os) := hc.symm
      rw [e]
      exact k H' ((s1.trans s2).trans sm)
end
section
variable {P : Program} {w : World} {K : PySem.W.Frag} {mg : Str → Option Value} {base : Heap}
/-! ### compare_density -/
def PreT (H : Hp) (p : Addr) (k : Nat) (t : Nat × Nat) : Prop := H p = some (.tup [.int (k : Int), .int (t.1 : Int), .int (t.2 : Int)])
def spCmp : Sp := fun vs H Q _ => ∃ (p q : Addr) (k l : Nat) (t u : Nat × Nat), vs = [.ref p, .ref q] ∧ PreT H p k t ∧ PreT H q l u ∧ t.1 ≤ 1000000 ∧ u.1 ≤ 1000000 ∧ Q (.int ((t.1 * u.2 : Nat) - (u.1 * t.2 : Nat))) H
theorem scCd : FnScope ["prefix", "other"] ["prefix", "other"] (defScope s_compare_density) := ⟨rfl, rfl, rfl, by decide +kernel, rfl, by decide +kernel, by decide +kernel⟩
theorem ok_cmp {f : Addr} {fd : FuncData} (F : Fun K "compare_density" "compare_density" s_compare_density f fd) : FnOk P w K mg base CX0 1 f fd ["prefix", "other"] spCmp := by
  refine F.ok scCd (fun vs H Q E h => ?_) (fun cdv A outer s H vs Q E hr h => ?_)
  · obtain ⟨p, q, k, l, t, u, rfl, _⟩ := h
    rfl
  · obtain ⟨p, q, k, l, t, u, rfl, h1, h2, b1, b2, hq⟩ := h
    refine ⟨_, pss_one (ps_ret (pe_op op_sub (pe_op op_mul (pe_ix ix_tup (pv 0) pe_int (fun _ _ => rfl)) (pe_ix ix_tup (pv 1) pe_int (fun _ _ => rfl))) (pe_op op_mul (pe_ix ix_tup (pv 1) pe_int (fun _ _ => rfl)) (pe_ix ix_tup (pv 0) pe_int (fun _ _ => rfl))))), ?_⟩
    refine ⟨_, rfl, p, _, _, _, rfl, rfl, SqT.of h1, atI_nat (j := 1) rfl, _, rfl, q, _, _, _, rfl, rfl, SqT.of h2, atI_nat (j := 2) rfl, _, _, rfl, rfl, .inl ⟨by omega, by omega⟩,
      _, rfl, q, _, _, _, rfl, rfl, SqT.of h2, atI_nat (j := 1) rfl, _, rfl, p, _, _, _, rfl, rfl, SqT.of h1, atI_nat (j := 2) rfl, _, _, rfl, rfl, .inl ⟨by omega, by omega⟩, _, _, rfl, rfl, ?_⟩
    rw [Int.natCast_mul, Int.natCast_mul] at hq
    exact hq
/-! ### find_densest_prefix -/
/-- a chain's densest prefix, or nothing where it has no job -/
def PreV (H : Hp) (v : V) (js : List Job) : Prop := (js = [] ∧ v = .non) ∨ (0 < js.length ∧ ∃ p, v = .ref p ∧ PreT H p (Ks593.densestPrefix js) (Ks593.prefixTotals js (Ks593.densestPrefix js)))
def spDen : Sp := fun vs H Q _ => ∃ (a : Addr) (js : List Job), vs = [.ref a] ∧ JobsL H a js ∧ js.length ≤ 30 ∧ (∀ j ∈ js, j.duration ≤ 99 ∧ j.weight ≤ 99) ∧
  ∀ H' v, Same H H' → PreV H' v js → Q v H'
theorem scFd : FnScope ["jobs", "best_prefix", "total_weight", "total_duration", "length", "job", "prefix"] ["jobs"] (defScope s_find_densest_prefix) := ⟨rfl, rfl, rfl, by decide +kernel, rfl, by decide +kernel, by decide +kernel⟩
theorem denser_no {a b : Nat × Nat} (h : (0 : Int) ≤ ((a.1 * b.2 : Nat) : Int) - ((b.1 * a.2 : Nat) : Int)) : Ks593.isDenser b a = false := by
  unfold Ks593.isDenser
  exact decide_eq_false (by omega)
theorem denser_yes {a b : Nat × Nat} (h : ¬ (0 : Int) ≤ ((a.1 * b.2 : Nat) : Int) - ((b.1 * a.2 : Nat) : Int)) : Ks593.isDenser b a = true := by
  unfold Ks593.isDenser
  exact decide_eq_true (by omega)
/-- the best prefix behind i jobs, as the name best_prefix holds it -/
def Best (H : Hp) (js : List Job) (i : Nat) (v : V) : Prop := (i = 0 ∧ v = .non) ∨ (0 < i ∧ ∃ p, v = .ref p ∧ PreT H p (bestOf js i) (Ks593.prefixTotals js (bestOf js i)))
theorem ok_den {f fC : Addr} {fd fdC : FuncData} (F : Fun K "find_densest_prefix" "find_densest_prefix" s_find_densest_prefix f fd) (mE : mg "enumerate" = none)
    (FC : Fun K "compare_density" "compare_density" s_compare_density fC fdC) (bC : Binds K fdC ["prefix", "other"] []) (gC : mg "compare_density" = some (.ref fC)) : FnOk P w K mg base CX0 2 f fd ["jobs"] spDen := by
  have GC : FnOk P w K mg base CX0 1 fC fdC ["prefix", "other"] spCmp := ok_cmp FC
  refine F.ok scFd (fun vs H Q E h => ?_) (fun cdv A outer s H vs Q E hr h => ?_)
  · obtain ⟨a, js, rfl, _⟩ := h
    rfl
  · obtain ⟨a, js, rfl, ⟨ps, hA, h2⟩, hlen, hsm, k⟩ := h
    refine ⟨_, pss_cons (ps_set (i := 1) scFd.nd rfl (.inl rfl) pe_non)
      (pss_cons (ps_set (i := 2) scFd.nd rfl (.inl rfl) pe_int)
      (pss_cons (ps_set (i := 3) scFd.nd rfl (.inl rfl) pe_int)
      (pss_cons (ps_for PassesOwn.never rfl (pi_start (by rfl) mE (by decide) (by decide) (pa_cons (pv 0) pa_nil)) (pg_tup rfl (pgs_cons (pg_name (i := 4) scFd.nd rfl (Or.inl rfl)) (pgs_cons (pg_name (i := 5) scFd.nd rfl (Or.inl rfl)) pgs_nil)))
        (pss_cons (ps_aug (i := 3) scFd.nd rfl (.inl rfl) (pe_ix ix_tup (pv 5) pe_int (fun _ _ => rfl)) ip_add)
        (pss_cons (ps_aug (i := 2) scFd.nd rfl (.inl rfl) (pe_ix ix_tup (pv 5) pe_int (fun _ _ => rfl)) ip_add)
        (pss_cons (ps_set (i := 6) scFd.nd rfl (.inl rfl) (pe_tup (pa_cons (pv 4) (pa_cons (pv 2) (pa_cons (pv 3) pa_nil)))))
        (pss_one (ps_if (PW.pt (pw_or (pt_cmpR op_isN (pv 1) pe_non (nomark _)) (pw_or1 (pt_cmpR op_ge (pe_call GC hr (by rfl) gC FC.kp bC .nil pass0 (pa_cons (pv 6) (pa_cons (pv 1) pa_nil))) pe_int (nomark _)))))
          (pss_one (ps_set (i := 1) scFd.nd rfl (.inl rfl) (pv 6))) pss_nil))))))
      (pss_one (ps_ret (pv 1)))))), ?_⟩
    refine ⟨_, rfl, a, _, rfl, SqL.of hA, for_it (walk_start (xs := ps.map V.ref)) (fun i σ H' => ∃ (b : V) (v4 v5 v6 : Option V),
        σ = [some (.ref a), some b, some (.int ((Ks593.prefixTotals js i).1 : Int)), some (.int ((Ks593.prefixTotals js i).2 : Int)), v4, v5, v6] ∧ Same H H' ∧ Best H' js i b)
      ⟨_, _, _, _, rfl, Same.refl H, .inl ⟨rfl, rfl⟩⟩ (fun i σ H' _ q => by obtain ⟨_, _, _, _, _, sm, _⟩ := q; exact SqL.of (sm _ _ hA)) ?_ ?_⟩
    · rintro i x σ H' H'' hi ⟨b, v4, v5, v6, rfl, sm, hb⟩ ⟨t, x1, x2, rfl, nt, rfl, e1, e2⟩
      cases e1
      obtain ⟨q, hq, rfl⟩ := refs_at e2
      obtain ⟨j, hj, hT⟩ := h2.getY hq
      have s2 : Same H' (upd H' t (.tup [.int (1 + (i : Nat)), .ref q])) := same_upd nt
      have hT2 : (upd H' t (.tup [.int (1 + (i : Nat)), .ref q])) q = some (.tup (jobV j)) := s2 _ _ (sm _ _ hT)
      have tot := totals_succ hj
      have hpos : 0 < js.length := Nat.lt_of_le_of_lt (Nat.zero_le _) (List.getElem?_eq_some_iff.mp hj).1
      refine ⟨t, _, rfl, SqT.of upd_same, rfl, _, _, rfl, _, _, rfl, rfl, ?_⟩
      refine ⟨_, rfl, _, rfl, q, _, _, _, rfl, rfl, SqT.of hT2, atI_nat (j := 0) rfl, _, _, rfl, rfl, ?_⟩
      refine ⟨_, rfl, _, rfl, q, _, _, _, rfl, rfl, SqT.of hT2, atI_nat (j := 1) rfl, _, _, rfl, rfl, ?_⟩
      refine ⟨_, rfl, _, rfl, _, rfl, by show 3 ≤ sizeLine; decide, fun p np => ?_⟩
      have s3 := same_into (o := HO.tup [.int (1 + (i : Nat)), .int (((Ks593.prefixTotals js i).1 : Int) + (j.weight : Int)), .int (((Ks593.prefixTotals js i).2 : Int) + (j.duration : Int))]) s2 (s2.free np)
      have s4 : Same H _ := sm.trans s3
      have hP : PreT (upd (upd H' t (.tup [.int (1 + (i : Nat)), .ref q])) p (.tup [.int (1 + (i : Nat)), .int (((Ks593.prefixTotals js i).1 : Int) + (j.weight : Int)), .int (((Ks593.prefixTotals js i).2 : Int) + (j.duration : Int))])) p (i + 1) (Ks593.prefixTotals js (i + 1)) := by
        unfold PreT
        rw [upd_same, tot]
        show some (HO.tup _) = some (HO.tup [.int ((i + 1 : Nat) : Int), .int (((Ks593.prefixTotals js i).1 + j.weight : Nat) : Int), .int (((Ks593.prefixTotals js i).2 + j.duration : Nat) : Int)])
        rw [Int.natCast_add, Int.natCast_add, Int.natCast_add, Int.add_comm (i : Int) _]
        rfl
      have fin : ∀ {b' : V}, Best (upd (upd H' t (.tup [.int (1 + (i : Nat)), .ref q])) p (.tup [.int (1 + (i : Nat)), .int (((Ks593.prefixTotals js i).1 : Int) + (j.weight : Int)), .int (((Ks593.prefixTotals js i).2 : Int) + (j.duration : Int))])) js (i + 1) b' →
          ∃ (b : V) (v4 v5 v6 : Option V), [some (V.ref a), some b', some (.int (((Ks593.prefixTotals js i).1 : Int) + (j.weight : Int))), some (.int (((Ks593.prefixTotals js i).2 : Int) + (j.duration : Int))), some (.int (1 + (i : Nat))), some (.ref q), some (.ref p)]
            = [some (.ref a), some b, some (.int ((Ks593.prefixTotals js (i + 1)).1 : Int)), some (.int ((Ks593.prefixTotals js (i + 1)).2 : Int)), v4, v5, v6] ∧ Same H _ ∧ Best _ js (i + 1) b := fun {b'} hb' => by
        refine ⟨b', some (.int (1 + (i : Nat))), some (.ref q), some (.ref p), ?_, s4, hb'⟩
        rw [tot]
        show _ = [_, _, some (V.int (((Ks593.prefixTotals js i).1 + j.weight : Nat) : Int)), some (V.int (((Ks593.prefixTotals js i).2 + j.duration : Nat) : Int)), _, _, _]
        rw [Int.natCast_add, Int.natCast_add]
      rcases hb with ⟨rfl, rfl⟩ | ⟨hi0, pb, rfl, hPb⟩
      · refine ⟨_, rfl, rfl, _, rfl, ?_⟩
        refine ⟨_, rfl, ?_⟩
        refine fin (.inr ⟨Nat.zero_lt_one, p, rfl, ?_⟩)
        rw [bestOf_one hpos]
        exact hP
      · have hPb2 := s3 _ _ hPb
        have w1 := totals_le hsm (i + 1)
        have w2 := totals_le hsm (bestOf js i)
        have r1 := bestOf_range hpos i
        have hil : i < js.length := (List.getElem?_eq_some_iff.mp hj).1
        refine ⟨_, rfl, rfl, _, rfl, ?_⟩
        refine ⟨_, rfl, _, rfl, p, pb, i + 1, bestOf js i, _, _, rfl, hP, hPb2, by omega, by omega, _, _, rfl, rfl, _, rfl, ite2 (fun c => ?_) (fun c => ?_)⟩
        · refine ⟨_, rfl, ?_⟩
          refine fin (.inr ⟨Nat.succ_pos _, p, rfl, ?_⟩)
          rw [bestOf_succ, denser_no (of_decide_eq_true c), if_neg Bool.false_ne_true]
          exact hP
        · refine fin (.inr ⟨Nat.succ_pos _, pb, rfl, ?_⟩)
          rw [bestOf_succ, denser_yes (fun z => c (decide_eq_true z)), if_pos rfl]
          exact hPb2
    · rintro σ H' ⟨b, v4, v5, v6, rfl, sm, hb⟩
      rw [List.length_map, h2.len] at hb
      rcases hb with ⟨z, rfl⟩ | ⟨hpos, p, rfl, hP⟩
      · exact ⟨_, rfl, k H' _ sm (.inl ⟨List.length_eq_zero_iff.mp z, rfl⟩)⟩
      · rw [← bestOf_length] at hP
        exact ⟨_, rfl, k H' _ sm (.inr ⟨hpos, p, rfl, hP⟩)⟩
end
section
variable {P : Program} {w : World} {K : PySem.W.Frag} {mg : Str → Option Value} {base : Heap}
/-! ### find_densest_chain -/
def Small (cs : Chains) : Prop := ∀ js ∈ cs, js.length ≤ 30 ∧ ∀ j ∈ js, j.duration ≤ 99 ∧ j.weight ≤ 99
def chainV : Option Nat → V
  | none => .non
  | some c => .int (c : Int)
/-- what stands at a place of the prefixes -/
def PreAt (H : Hp) (ok : Nat → Bool) (t : Nat → Nat × Nat) (i : Nat) (v : V) : Prop := (ok i = false ∧ v = .non) ∨ (ok i = true ∧ ∃ p k, v = .ref p ∧ PreT H p k (t i))
def spChain : Sp := fun vs H Q _ => ∃ (a : Addr) (xs : List V) (ok : Nat → Bool) (t : Nat → Nat × Nat), vs = [.ref a] ∧ H a = some (.lst xs) ∧ (∀ i v, xs[i]? = some v → PreAt H ok t i v) ∧ (∀ i, (t i).1 ≤ 1000000) ∧ ∀ H', Same H H' → Q (chainV (pick ok t xs.length)) H'
theorem scCh : FnScope ["prefixes", "best_chain", "chain", "prefix"] ["prefixes"] (defScope s_find_densest_chain) := ⟨rfl, rfl, rfl, by decide +kernel, rfl, by decide +kernel, by decide +kernel⟩
theorem denser_pos {a b : Nat × Nat} (h : (0 : Int) < ((a.1 * b.2 : Nat) : Int) - ((b.1 * a.2 : Nat) : Int)) : Ks593.isDenser a b = true := by
  unfold Ks593.isDenser
  exact decide_eq_true (by omega)
theorem denser_npos {a b : Nat × Nat} (h : ¬ (0 : Int) < ((a.1 * b.2 : Nat) : Int) - ((b.1 * a.2 : Nat) : Int)) : ¬ Ks593.isDenser a b = true := by
  unfold Ks593.isDenser
  intro z
  have := of_decide_eq_true z
  omega
theorem ok_chain {f fC : Addr} {fd fdC : FuncData} (F : Fun K "find_densest_chain" "find_densest_chain" s_find_densest_chain f fd) (mE : mg "enumerate" = none)
    (FC : Fun K "compare_density" "compare_density" s_compare_density fC fdC) (bC : Binds K fdC ["prefix", "other"] []) (gC : mg "compare_density" = some (.ref fC)) : FnOk P w K mg base CX0 2 f fd ["prefixes"] spChain := by
  have GC : FnOk P w K mg base CX0 1 fC fdC ["prefix", "other"] spCmp := ok_cmp FC
  refine F.ok scCh (fun vs H Q E h => ?_) (fun cdv A outer s H vs Q E hr h => ?_)
  · obtain ⟨a, xs, ok, t, rfl, _⟩ := h
    rfl
  · obtain ⟨a, xs, ok, t, rfl, hA, hx, hsm, k⟩ := h
    refine ⟨_, pss_cons (ps_set (i := 1) scCh.nd rfl (.inl rfl) pe_non)
      (pss_cons (ps_for PassesOwn.never rfl (pi_enum (by rfl) mE (pa_cons (pv 0) pa_nil)) (pg_tup rfl (pgs_cons (pg_name (i := 2) scCh.nd rfl (Or.inl rfl)) (pgs_cons (pg_name (i := 3) scCh.nd rfl (Or.inl rfl)) pgs_nil)))
        (pss_one (ps_if (pt_cmpR op_notN (pv 3) pe_non (nomark _))
          (pss_one (ps_if (PW.pt (pw_or (pt_cmpR op_isN (pv 1) pe_non (nomark _)) (pw_or1 (pt_cmpR op_gt (pe_call GC hr (by rfl) gC FC.kp bC .nil pass0 (pa_cons (pv 3) (pa_cons (pe_ix ix_list (pv 0) (pv 1) (fun _ _ => rfl)) pa_nil))) pe_int (nomark _)))))
            (pss_one (ps_set (i := 1) scCh.nd rfl (.inl rfl) (pv 2))) pss_nil))
          pss_nil)))
      (pss_one (ps_ret (pv 1)))), ?_⟩
    refine ⟨_, rfl, a, _, rfl, SqL.of hA, for_it (walk_enum (xs := xs)) (fun i σ H' => ∃ (v2 v3 : Option V), σ = [some (.ref a), some (chainV (pick ok t i)), v2, v3] ∧ Same H H')
      ⟨_, _, rfl, Same.refl H⟩ (fun i σ H' _ q => by obtain ⟨_, _, _, sm⟩ := q; exact SqL.of (sm _ _ hA)) ?_ ?_⟩
    · rintro i x σ H' H'' hi ⟨v2, v3, rfl, sm⟩ ⟨tt, x1, x2, rfl, nt, rfl, e1, e2⟩
      cases e1
      have s2 : Same H' (upd H' tt (.tup [.int (i : Nat), x2])) := same_upd nt
      have s02 : Same H (upd H' tt (.tup [.int (i : Nat), x2])) := sm.trans s2
      refine ⟨tt, _, rfl, SqT.of upd_same, rfl, _, _, rfl, _, _, rfl, rfl, ?_⟩
      rcases hx i x2 e2 with ⟨hk, rfl⟩ | ⟨hk, p, kp, rfl, hP⟩
      · refine ⟨_, rfl, rfl, _, rfl, ?_⟩
        refine ⟨some (.int (i : Int)), some .non, ?_, s02⟩
        rw [pick_succ, if_neg (by rw [hk]; exact Bool.false_ne_true)]
        rfl
      · have hP2 : PreT _ p kp (t i) := s02 _ _ hP
        refine ⟨_, rfl, rfl, _, rfl, ?_⟩
        have pk := pick_succ ok t i
        rw [if_pos hk] at pk
        cases e : pick ok t i with
        | none =>
          rw [e] at pk
          refine ⟨_, rfl, rfl, _, rfl, ?_⟩
          refine ⟨_, rfl, ?_⟩
          refine ⟨some (.int (i : Int)), some (.ref p), ?_, s02⟩
          rw [pk]
          rfl
        | some b =>
          rw [e] at pk
          have pk' : pick ok t (i + 1) = if Ks593.isDenser (t i) (t b) = true then some i else some b := pk
          obtain ⟨hb, hkb⟩ := pick_some e
          have hbx : b < xs.length := by
            have := (List.getElem?_eq_some_iff.mp e2).1
            omega
          have gb := List.getElem?_eq_getElem hbx
          rcases hx b _ gb with ⟨z, _⟩ | ⟨_, pb, kb, eb, hPb⟩
          · rw [z] at hkb
            cases hkb
          · rw [eb] at gb
            have hPb2 : PreT _ pb kb (t b) := s02 _ _ hPb
            refine ⟨_, rfl, rfl, _, rfl, ?_⟩
            refine ⟨_, rfl, _, rfl, _, rfl, a, _, _, _, rfl, rfl, SqL.of (s02 _ _ hA), atI_nat gb, p, pb, kp, kb, _, _, rfl, hP2, hPb2, hsm i, hsm b, _, _, rfl, rfl, _, rfl, ite2 (fun d => ?_) (fun d => ?_)⟩
            · refine ⟨_, rfl, ?_⟩
              refine ⟨some (.int (i : Int)), some (.ref p), ?_, s02⟩
              rw [pk', if_pos (denser_pos (of_decide_eq_true d))]
              rfl
            · refine ⟨some (.int (i : Int)), some (.ref p), ?_, s02⟩
              rw [pk', if_neg (denser_npos fun z => d (decide_eq_true z))]
              rfl
    · rintro σ H' ⟨v2, v3, rfl, sm⟩
      exact ⟨_, rfl, k H' sm⟩
end
section
variable {P : Program} {w : World} {K : PySem.W.Frag} {mg : Str → Option Value} {base : Heap}
/-! ### find_order -/
theorem less_mono {c : Addr} {H H' : Hp} {o : HO} (s : Same H H') : Same (less c H) (less c (upd H' c o)) := fun b x e => by
  have nb : b ≠ c := fun z => by
    rw [z, less_at] at e
    cases e
  rw [less_ne nb] at e ⊢
  rw [upd_ne nb]
  exact s b x e
theorem PreV.same {H H' : Hp} {v : V} {js : List Job} (h : PreV H v js) (s : Same H H') : PreV H' v js := by
  rcases h with h | ⟨h, p, e, hp⟩
  · exact .inl h
  · exact .inr ⟨h, p, e, s _ _ hp⟩
theorem PreV.less {H : Hp} {v : V} {js : List Job} {c : Addr} {xs : List V} {o : HO} (h : PreV H v js) (hc : H c = some (.lst xs)) : PreV (less c (upd H c o)) v js := by
  rcases h with h | ⟨h, p, e, hp⟩
  · exact .inl h
  · refine .inr ⟨h, p, e, ?_⟩
    have n : p ≠ c := fun z => by
      unfold PreT at hp
      rw [z, hc] at hp
      cases hp
    unfold PreT
    rw [less_ne n, upd_ne n]
    exact hp
theorem All2.take {α β : Type} {R : α → β → Prop} {xs : List α} {ys : List β} (h : All2 R xs ys) (k : Nat) : All2 R (xs.take k) (ys.take k) := by
  refine ⟨by rw [List.length_take, List.length_take, h.len], fun i a b h1 h2 => ?_⟩
  rw [List.getElem?_take] at h1 h2
  by_cases c : i < k
  · rw [if_pos c] at h1 h2
    exact h.at_ i a b h1 h2
  · rw [if_neg c] at h1
    cases h1
theorem cut_to {xs : List V} {a : Nat} : cutV xs none (some (a : Int)) = xs.take a := by
  unfold cutV
  rw [HT.sIx_nat, HT.sIx_none, Nat.sub_zero, List.drop_zero]
  by_cases h : a ≤ xs.length
  · rw [Nat.min_eq_left h]
  · rw [Nat.min_eq_right (by omega), List.take_of_length_le (Nat.le_refl _), List.take_of_length_le (by omega)]
theorem JobsL.take {H : Hp} {js : List Job} {p : Addr} {ps : List Addr} {k : Nat} (h1 : H p = some (.lst ((ps.map V.ref).take k))) (h2 : All2 (JobT H) ps js) : JobsL H p (js.take k) :=
  ⟨ps.take k, by rw [h1, List.map_take], h2.take k⟩
def spFind (K : PySem.W.Frag) : Sp := fun vs H Q _ => ∃ (a : Addr) (cs : Chains) (L : Nat), vs = [.ref a, .int (L : Int)] ∧ ChL H a cs ∧ Good cs ∧ 0 < L ∧ ∀ H' p, Same H H' → H' p = some (.lst (intsV (ordBy L cs (jobCount cs)))) → Q (.ref p) H'
theorem scFo : FnScope ["chain_jobs", "longest", "job_count", "remaining", "order", "prefixes", "chain", "length", "jobs"] ["chain_jobs", "longest"] (defScope s_find_order) := ⟨rfl, rfl, rfl, by decide +kernel, rfl, by decide +kernel, by decide +kernel⟩
theorem good_small {cs : Chains} (h : Good cs) : Small cs := fun js hj => by
  obtain ⟨i, hi, e⟩ := List.getElem_of_mem hj
  have e' : cs[i]? = some js := by rw [List.getElem?_eq_getElem hi, e]
  have q := jobCount_le e'
  have q2 := h.cnt
  exact ⟨by omega, fun j hjj => (h.job js hj j hjj).2⟩
theorem small_drop {cs : Chains} (h : Small cs) {c : Nat} {js : List Job} (e : cs[c]? = some js) (k : Nat) : Small (cs.set c (js.drop k)) := fun ls hl => by
  rcases List.mem_or_eq_of_mem_set hl with z | z
  · exact h ls z
  · have q := h js (List.mem_of_getElem? e)
    rw [z]
    refine ⟨by rw [List.length_drop]; omega, fun j hj => q.2 j (List.mem_of_mem_drop hj)⟩
/-- the loop's word: what is done, what is left -/
def FindInv (H : Hp) (a r o : Addr) (cs : Chains) (L m : Nat) (σ : L2.St) (H' : Hp) : Prop :=
  ∃ (rem : Chains) (os : List Nat) (fuel : Nat) (qs : List Addr) (v5 v6 v7 v8 : Option V) (Hb : Hp), m = jobCount rem ∧ σ = [some (.ref a), some (.int (L : Nat)), some (.int (jobCount cs : Nat)), some (.ref r), some (.ref o), v5, v6, v7, v8] ∧
    Same H Hb ∧ Hb r = none ∧ Hb o = none ∧ Same Hb H' ∧ H' r = some (.lst (qs.map V.ref)) ∧ All2 (JobsL Hb) qs rem ∧ H' o = some (.lst (intsV os)) ∧
    Small rem ∧ rem.length ≤ 30 ∧ jobCount rem ≤ fuel ∧ os.length + jobCount rem = jobCount cs ∧ ordBy L cs (jobCount cs) = os ++ ordBy L rem fuel
theorem flat_rep (n : Nat) (v : V) : (List.replicate n [v]).flatten = List.replicate n v := by
  induction n with
  | zero => rfl
  | succ n ih => rw [List.replicate_succ, List.replicate_succ, List.flatten_cons, ih]; rfl
/-- the prefixes, as the chain is chosen by them -/
theorem pre_at {H : Hp} {vs : List V} {rem : Chains} {L : Nat} (hL : 0 < L) (h : All2 (fun v js => PreV H v (js.take L)) vs rem) : ∀ i v, vs[i]? = some v → PreAt H (left rem) (densL L rem) i v := fun i v e => by
  obtain ⟨js, ej, hv⟩ := h.getY e
  have d : densL L rem i = Ks593.prefixTotals (js.take L) (Ks593.densestPrefix (js.take L)) := by
    unfold densL
    rw [getD_of ej]
  have hl : (js.take L).length = min L js.length := List.length_take
  rcases hv with ⟨z, rfl⟩ | ⟨z, p, rfl, hp⟩
  · refine .inl ⟨?_, rfl⟩
    cases q : left rem i with
    | false => rfl
    | true =>
      have q2 := (left_iff ej).mp q
      rw [z] at hl
      have : ([] : List Job).length = 0 := rfl
      omega
  · refine .inr ⟨(left_iff ej).mpr (by omega), p, Ks593.densestPrefix (js.take L), rfl, ?_⟩
    rw [d]
    exact hp
theorem ok_find {f fN fC fD fX : Addr} {fd fdN fdC fdD fdX : FuncData} (F : Fun K "find_order" "find_order" s_find_order f fd) (T : Txt mg) (mE : mg "enumerate" = none) (mL : mg "list" = none)
    (FN : Fun K "number_of_jobs" "number_of_jobs" s_number_of_jobs fN fdN) (bN : Binds K fdN ["chain_jobs"] []) (gN : mg "number_of_jobs" = some (.ref fN))
    (FC : Fun K "compare_density" "compare_density" s_compare_density fC fdC) (bC : Binds K fdC ["prefix", "other"] []) (gC : mg "compare_density" = some (.ref fC))
    (FD : Fun K "find_densest_prefix" "find_densest_prefix" s_find_densest_prefix fD fdD) (bD : Binds K fdD ["jobs"] []) (gD : mg "find_densest_prefix" = some (.ref fD))
    (FX : Fun K "find_densest_chain" "find_densest_chain" s_find_densest_chain fX fdX) (bX : Binds K fdX ["prefixes"] []) (gX : mg "find_densest_chain" = some (.ref fX)) : FnOk P w K mg base CX0 3 f fd ["chain_jobs", "longest"] (spFind K) := by
  have GN : FnOk P w K mg base CX0 1 fN fdN ["chain_jobs"] spNum := ok_num FN T
  have GD : FnOk P w K mg base CX0 2 fD fdD ["jobs"] spDen := ok_den FD mE FC bC gC
  have GX : FnOk P w K mg base CX0 2 fX fdX ["prefixes"] spChain := ok_chain FX mE FC bC gC
  refine F.ok scFo (fun vs H Q E h => ?_) (fun cdv A outer s H vs Q E hr h => ?_)
  · obtain ⟨a, cs, L, rfl, _⟩ := h
    rfl
  · obtain ⟨a, cs, L, rfl, hCh, hG, hL, k⟩ := h
    have hr1 : Room 1 _ := hr.mono (by decide)
    refine ⟨_, pss_cons (ps_set (i := 2) scFo.nd rfl (.inl rfl) (pe_call GN hr1 (by rfl) gN FN.kp bN .nil pass0 (pa_cons (pv 0) pa_nil)))
      (pss_cons (ps_set (i := 3) scFo.nd rfl (.inl rfl) (pe_callTy call_list_of (by rfl) mL (by decide +kernel) (pa_cons (pv 0) pa_nil)))
      (pss_cons (ps_set (i := 4) scFo.nd rfl (.inl rfl) (pe_lst pa_nil))
      (pss_cons (ps_while PassesOwn.never (pt_cmpR op_lt (pe_callB call_len_seq (by rfl) T.len PySem.boot_len (pa_cons (pv 4) pa_nil)) (pv 2) (nomark _))
        (pss_cons (ps_setLc (i := 5) (own := [("jobs", 8)]) (g := gName 8) (tt := tYes) (te := tCall spDen [] (fun _ _ _ => False) (tCons (L2.tSl (rSlL K) (tVar 8) tNoPart (tPart (tVar 1))) tNil))
          rfl scFo.nd rfl rfl (sw_true rfl rfl rfl (by decide +kernel)) (pi_list (pv 3)) (blkOk_by (N := ["chain_jobs", "longest", "job_count", "remaining", "order", "prefixes", "chain", "length", "jobs"]) (sc := defScope s_find_order) (by decide +kernel))
          (fun _ _ _ _ _ => pg_name (i := 8) scFo.nd rfl (Or.inl rfl)) (fun _ _ _ _ _ => pts_nil) (fun _ _ _ _ _ => pe_call GD hr (by rfl) gD FD.kp bD .nil pass0 (pa_cons (pe_slice sl_list (pv 8) po_none (po_some (pv 1))) pa_nil)))
        (pss_cons (ps_set (i := 6) scFo.nd rfl (.inl rfl) (pe_call GX hr (by rfl) gX FX.kp bX .nil pass0 (pa_cons (pv 5) pa_nil)))
        (pss_cons (ps_set (i := 7) scFo.nd rfl (.inl rfl) (pe_ix ix_tup (pe_ix ix_list (pv 5) (pv 6) (fun _ _ => rfl)) pe_int (fun _ _ => rfl)))
        (pss_cons (ps_expr (pe_bm PySem.F.plainAttrs_list PySem.F.slot_list_extend PySem.F.type_list_extend mt_extend (pv 4) (pa_cons (pe_op op_rep (pe_lst (pa_cons (pv 6) pa_nil)) (pv 7)) pa_nil)))
        (pss_one (ps_asg (pe_slice sl_list (pe_ix ix_list (pv 3) (pv 6) (fun _ _ => rfl)) (po_some (pv 7)) po_none) (pg_sub (pv 3) (pv 6) set_list))))))))
      (pss_one (ps_ret (pv 4)))))), ?_⟩
    refine ⟨_, rfl, a, cs, rfl, hCh, by have := hG.len; omega, fun H1 s1 => ?_⟩
    obtain ⟨qs, hA1, h21⟩ := hCh.same s1
    refine ⟨_, rfl, a, _, rfl, .inl (SqL.of hA1), fun r nr => ?_⟩
    have s2 : Same H1 (upd H1 r (.lst (qs.map V.ref))) := same_upd nr
    refine ⟨Nat.zero_le _, fun o no => ?_⟩
    have nro : r ≠ o := ne_of_none upd_same no
    have s3 : Same (upd H1 r (.lst (qs.map V.ref))) (upd (upd H1 r (.lst (qs.map V.ref))) o (.lst [])) := same_upd no
    refine ⟨FindInv H a r o cs L, ⟨jobCount cs, cs, [], jobCount cs, qs, none, none, none, none, H1, rfl, rfl, s1, nr, s2.free no, s2.trans s3, ?_, h21, upd_same, good_small hG, by have := hG.len; omega, Nat.le_refl _, by simp, rfl⟩, ?_⟩
    · rw [upd_ne nro]
      exact upd_same
    clear s3 no s2 h21 hA1 qs
    rintro m σ H' ⟨rem, os, fuel, qs, v5, v6, v7, v8, Hb, rfl, rfl, sHb, nbr, nbo, sB, hR, h2, hO, hsm, hrl, hf, hcount, hopt⟩
    have sH : Same H H' := sHb.trans sB
    refine ⟨_, rfl, o, _, rfl, .inl (SqL.of hO), _, rfl, _, _, rfl, rfl, _, rfl, ite2 (fun c => ?_) (fun c => ?_)⟩
    · have c' := of_decide_eq_true c
      rw [intsV_length] at c'
      have hpos : 0 < jobCount rem := by omega
      refine ⟨fun σ' H'' => ∃ m', m' < jobCount rem ∧ FindInv H a r o cs L m' σ' H'', fun σ' H'' z => z, ?_⟩
      -- prefixes = [..]
      refine ⟨_, rfl, r, rfl, ⟨_, SqL.of hR⟩, fun D nD => lc_list (K := K) (a := r) (xs := qs.map V.ref) (fun i Hx => Same H' Hx ∧ ∃ vs, Hx D = some (.lst vs) ∧ All2 (fun v js => PreV (less D Hx) v (js.take L)) vs (rem.take i)) ⟨same_upd nD, [], upd_same, All2.nil⟩ (fun i Hx _ q => SqL.of (q.1 _ _ hR)) ?_ ?_⟩
      · rintro i x Hx hi ⟨sm, vs, hD, hvs⟩
        obtain ⟨q, hq, rfl⟩ := refs_at hi
        obtain ⟨js, hj, ps, hp, hps⟩ := h2.getY hq
        have sBx : Same Hb Hx := sB.trans sm
        have hs := hsm js (List.mem_of_getElem? hj)
        refine ⟨rfl, ?_⟩
        refine ⟨_, rfl, _, rfl, _, rfl, q, _, rfl, SqL.of (sBx _ _ hp), fun p np => ?_⟩
        have s5 : Same Hx (upd Hx p (.lst (cutV (ps.map V.ref) none (some (L : Int))))) := same_upd np
        refine ⟨p, js.take L, rfl, JobsL.take (by rw [upd_same, cut_to]) (hps.mono fun x y z => z.same (sBx.trans s5)), ?_, fun j hjj => hs.2 j (List.mem_of_mem_take hjj), fun H3 v s6 hv => ?_⟩
        · rw [List.length_take]
          omega
        have s7 : Same Hx H3 := s5.trans s6
        have hD3 := s7 _ _ hD
        refine ⟨_, hD3, ?_, same_into (sm.trans s7) nD, vs ++ [v], upd_same, ?_⟩
        · rw [hvs.len, List.length_take]
          exact small30 (by omega)
        · rw [take_more hj]
          exact (hvs.mono fun x y z => z.same (less_mono s7)).snoc (hv.less hD3)
      rintro Hx ⟨sm, vs, hD, hvs⟩
      rw [List.length_map, h2.len, List.take_length] at hvs
      have hvs : All2 (fun v js => PreV Hx v (js.take L)) vs rem := hvs.mono fun x y z => z.same less_same
      have hRx := sm _ _ hR
      have hOx := sm _ _ hO
      have sBx : Same Hb Hx := sB.trans sm
      -- chain = find_densest_chain(prefixes)
      refine ⟨_, rfl, D, vs, left rem, densL L rem, rfl, hD, pre_at hL hvs, densL_le hsm, fun H3 s3 => ?_⟩
      rw [hvs.len]
      cases e : pick (left rem) (densL L rem) rem.length with
      | none =>
        have z := zero_jobCount (pick_none_zero e)
        omega
      | some d =>
        rw [show chainV (some d) = V.int (d : Int) from rfl]
        obtain ⟨js, hj, hjp⟩ := pick_at e
        obtain ⟨q, hq, hJ⟩ := h2.getX hj
        have hR3 := s3 _ _ hRx
        have hO3 := s3 _ _ hOx
        have sB3 : Same Hb H3 := sBx.trans s3
        have hs := hsm js (List.mem_of_getElem? hj)
        have kd := densL_range hjp hL
        obtain ⟨v, hv, hpv⟩ := hvs.getX hj
        have hjt : (js.take L).length = min L js.length := List.length_take
        generalize hk : Ks593.densestPrefix (js.take L) = kk at kd
        have hqr : (qs.map V.ref)[d]? = some (.ref q) := by
          rw [List.getElem?_map, hq]
          rfl
        have hdl : d < rem.length := (List.getElem?_eq_some_iff.mp hj).1
        obtain ⟨p, rfl, hP⟩ : ∃ p, v = .ref p ∧ PreT Hx p (Ks593.densestPrefix (js.take L)) (Ks593.prefixTotals (js.take L) (Ks593.densestPrefix (js.take L))) := by
          rcases hpv with ⟨z, _⟩ | ⟨_, z⟩
          · rw [z] at hjt
            have : ([] : List Job).length = 0 := rfl
            omega
          · exact z
        rw [hk] at hP
        -- length = prefixes[chain][0]
        refine ⟨_, rfl, _, rfl, D, _, _, .ref p, rfl, rfl, SqL.of (s3 _ _ hD), atI_nat hv, p, _, _, _, rfl, rfl, SqT.of (s3 _ _ hP), atI_nat (j := 0) rfl, ?_⟩
        -- order.extend([chain] * length)
        refine ⟨_, rfl, .inl ⟨rfl, _, SqL.of hO3⟩, _, rfl, by show 1 ≤ sizeLine; decide, fun u nu => ?_⟩
        have s5 : Same H3 (upd H3 u (.lst [.int (d : Int)])) := same_upd nu
        refine ⟨_, rfl, u, _, _, rfl, rfl, upd_same, by omega, by omega, ?_, fun x nx => ?_⟩
        · show 1 * _ ≤ _
          exact Nat.le_of_lt (small30 (by rw [Int.toNat_natCast]; omega))
        have ex : (List.replicate ((kk : Nat) : Int).toNat [V.int (d : Int)]).flatten = intsV (List.replicate kk d) := by
          rw [Int.toNat_natCast, flat_rep]
          unfold intsV
          rw [List.map_replicate]
        rw [ex]
        have s6 : Same (upd H3 u (.lst [.int (d : Int)])) (upd (upd H3 u (.lst [.int (d : Int)])) x (.lst (intsV (List.replicate kk d)))) := same_upd nx
        have hO6 := s6 _ _ (s5 _ _ hO3)
        have hR6 := s6 _ _ (s5 _ _ hR3)
        have sB6 : Same Hb _ := sB3.trans (s5.trans s6)
        refine ⟨o, x, _, _, rfl, rfl, hO6, upd_same, ?_, ?_⟩
        · rw [intsV_length, intsV_length, List.length_replicate]
          have := hG.cnt
          have := jobCount_le hj
          exact Nat.le_of_lt (small30 (by omega))
        have hR7 : (upd (upd (upd H3 u (.lst [.int (d : Int)])) x (.lst (intsV (List.replicate kk d)))) o (.lst (intsV os ++ intsV (List.replicate kk d)))) r = some (.lst (qs.map V.ref)) := (upd_ne nro).trans hR6
        have sB7 := same_into (o := HO.lst (intsV os ++ intsV (List.replicate kk d))) sB6 nbo
        obtain ⟨ps, hp, hps⟩ := id hJ
        have hp7 := sB7 _ _ hp
        -- remaining[chain] = remaining[chain][length:]
        refine ⟨_, rfl, _, rfl, r, _, _, .ref q, rfl, rfl, SqL.of hR7, atI_nat hqr, _, rfl, _, rfl, q, _, rfl, SqL.of hp7, fun y ny => ?_⟩
        have ec : cutV (ps.map V.ref) (some (kk : Int)) none = (ps.drop kk).map V.ref := by
          rw [cut_from (by rw [List.length_map, hps.len]; exact kd.2), List.map_drop]
        rw [ec]
        have nyr : r ≠ y := ne_of_none hR7 ny
        have nyo : o ≠ y := ne_of_none upd_same ny
        have s8 : Same _ (upd (upd (upd (upd H3 u (.lst [.int (d : Int)])) x (.lst (intsV (List.replicate kk d)))) o (.lst (intsV os ++ intsV (List.replicate kk d)))) y (.lst ((ps.drop kk).map V.ref))) := same_upd ny
        have hR8 := s8 _ _ hR7
        refine ⟨_, rfl, _, rfl, r, _, _, d, rfl, rfl, hR8, ix_of (by rw [List.length_map, h2.len]; exact hdl), ?_⟩
        have sB8 : Same Hb _ := sB7.trans s8
        have jc := jobCount_drop kk hj kd.2
        obtain ⟨fu, rfl⟩ : ∃ fu, fuel = fu + 1 := ⟨fuel - 1, by omega⟩
        have hopt2 := hopt
        rw [ordBy_succ, e] at hopt2
        have hopt3 : ordBy L cs (jobCount cs) = os ++ (List.replicate kk d ++ ordBy L (rem.set d (js.drop kk)) fu) := by
          rw [hopt2]
          show os ++ (List.replicate (Ks593.densestPrefix ((rem.getD d []).take L)) d ++ ordBy L (rem.set d ((rem.getD d []).drop (Ks593.densestPrefix ((rem.getD d []).take L)))) fu) = _
          rw [getD_of hj, hk]
        generalize hHf : upd (upd (upd (upd H3 u (.lst [.int (d : Int)])) x (.lst (intsV (List.replicate kk d)))) o (.lst (intsV os ++ intsV (List.replicate kk d)))) y (.lst ((ps.drop kk).map V.ref)) = Hf at *
        have sBL : Same Hb (less r (less o Hf)) := same_less (same_less sB8 nbo) nbr
        refine ⟨jobCount (rem.set d (js.drop kk)), by omega, rem.set d (js.drop kk), os ++ List.replicate kk d, fu, qs.set d y, some (.ref D), some (.int (d : Int)), some (.int (kk : Int)), v8, less r (less o Hf), rfl, rfl, sHb.trans sBL, less_at, ?_, ?_, ?_, ?_, ?_, small_drop hsm hj kk, ?_, ?_, ?_, ?_⟩
        · rw [less_ne nro.symm]
          exact less_at
        · exact same_into (fun b ob z => less_same b ob (less_same b ob z)) less_at
        · rw [upd_same, List.map_set]
        · refine (h2.mono fun x y q => q.same sBL).set d ⟨ps.drop kk, ?_, (hps.mono fun x y q => q.same sBL).drop kk⟩
          rw [less_ne nyr.symm, less_ne nyo.symm, ← hHf]
          exact upd_same
        · rw [upd_ne nro.symm, ← hHf, upd_ne nyo, upd_same]
          unfold intsV
          rw [List.map_append]
        · rw [List.length_set]
          exact hrl
        · omega
        · rw [List.length_append, List.length_replicate]
          omega
        · rw [hopt3, List.append_assoc]
    · have c' : ¬ _ := fun z => c (decide_eq_true z)
      rw [intsV_length] at c'
      have hz : jobCount rem = 0 := by omega
      rw [ordBy_done hz, List.append_nil] at hopt
      refine ⟨_, rfl, k H' o sH ?_⟩
      rw [hopt]
      exact hO
end
section
variable {P : Program} {w : World} {K : PySem.W.Frag} {mg : Str → Option Value} {base : Heap}
/-! ### swap_chains -/
def spSwap : Sp := fun vs H Q _ => ∃ (a : Addr) (cs : Chains) (c d : Nat), vs = [.ref a, .int (c : Int), .int (d : Int)] ∧ ChL H a cs ∧ cs.length ≤ 30 ∧ c < cs.length ∧ d < cs.length ∧ ∀ H' p, Same H H' → ChL H' p (Ks593.swapChains cs c d) → Q (.ref p) H'
theorem scSw : FnScope ["chain_jobs", "first", "second", "swapped"] ["chain_jobs", "first", "second"] (defScope s_swap_chains) := ⟨rfl, rfl, rfl, by decide +kernel, rfl, by decide +kernel, by decide +kernel⟩
theorem ok_swap {f : Addr} {fd : FuncData} (F : Fun K "swap_chains" "swap_chains" s_swap_chains f fd) (mL : mg "list" = none) : FnOk P w K mg base CX0 1 f fd ["chain_jobs", "first", "second"] spSwap := by
  refine F.ok scSw (fun vs H Q E h => ?_) (fun cdv A outer s H vs Q E hr h => ?_)
  · obtain ⟨a, cs, c, d, rfl, _⟩ := h
    rfl
  · obtain ⟨a, cs, c, d, rfl, ⟨qs, hA, h2⟩, hlen, hc, hd, k⟩ := h
    refine ⟨_, pss_cons (ps_set (i := 3) scSw.nd rfl (.inl rfl) (pe_callTy call_list_of (by rfl) mL (by decide +kernel) (pa_cons (pv 0) pa_nil)))
      (pss_cons (ps_asg (pe_ix ix_list (pv 0) (pv 2) (fun _ _ => rfl)) (pg_sub (pv 3) (pv 1) set_list))
      (pss_cons (ps_asg (pe_ix ix_list (pv 0) (pv 1) (fun _ _ => rfl)) (pg_sub (pv 3) (pv 2) set_list))
      (pss_one (ps_ret (pv 3))))), ?_⟩
    have gc := List.getElem?_eq_getElem hc
    have gd := List.getElem?_eq_getElem hd
    obtain ⟨qc, hqc, hJc⟩ := h2.getX gc
    obtain ⟨qd, hqd, hJd⟩ := h2.getX gd
    have rc : (qs.map V.ref)[c]? = some (.ref qc) := by
      rw [List.getElem?_map, hqc]
      rfl
    have rd : (qs.map V.ref)[d]? = some (.ref qd) := by
      rw [List.getElem?_map, hqd]
      rfl
    have hl : (qs.map V.ref).length = cs.length := by rw [List.length_map, h2.len]
    refine ⟨_, rfl, a, _, rfl, .inl (SqL.of hA), fun r nr => ?_⟩
    have s1 : Same H (upd H r (.lst (qs.map V.ref))) := same_upd nr
    refine ⟨_, rfl, _, rfl, a, _, _, .ref qd, rfl, rfl, SqL.of (s1 _ _ hA), atI_nat rd, _, rfl, _, rfl, r, _, _, c, rfl, rfl, upd_same, ix_of (by rw [hl]; exact hc), ?_⟩
    have s2 : Same H (upd (upd H r (.lst (qs.map V.ref))) r (.lst ((qs.map V.ref).set c (.ref qd)))) := same_into s1 nr
    refine ⟨_, rfl, _, rfl, a, _, _, .ref qc, rfl, rfl, SqL.of (s2 _ _ hA), atI_nat rc, _, rfl, _, rfl, r, _, _, d, rfl, rfl, upd_same, ix_of (by rw [List.length_set, hl]; exact hd), ?_⟩
    have s3 : Same H (upd (upd (upd H r (.lst (qs.map V.ref))) r (.lst ((qs.map V.ref).set c (.ref qd)))) r (.lst (((qs.map V.ref).set c (.ref qd)).set d (.ref qc)))) := same_into s2 nr
    refine ⟨_, rfl, k _ r s3 ⟨(qs.set c qd).set d qc, ?_, ?_⟩⟩
    · rw [upd_same, List.map_set, List.map_set]
    · unfold Ks593.swapChains
      rw [getD_of gc, getD_of gd]
      have h3 := h2.mono fun x y q => JobsL.same q s3
      exact (h3.set c (hJd.same s3)).set d (hJc.same s3)
/-! ### cost_after_swap -/
def cas (c d : Nat) (l : List Nat) : List Int := Ks593Neutral.integers (Ks593.answer (.costAfterSwap c d l))
theorem good_len7 {cs : Chains} (h : Good cs) : ∀ js ∈ cs, js.length ≤ 7 := fun js hj => by
  obtain ⟨i, hi, e⟩ := List.getElem_of_mem hj
  have e' : cs[i]? = some js := by rw [List.getElem?_eq_getElem hi, e]
  have q := jobCount_le e'
  have q2 := h.cnt
  omega
theorem cas_none {c d : Nat} {l : List Nat} (h : read l = none) : cas c d l = [-22] := by
  unfold cas
  show Ks593Neutral.integers (Ks593.withChains l _) = _
  rw [withChains_eq, h]
  rfl
theorem cas_no {c d : Nat} {l : List Nat} {cs : Chains} (h : read l = some cs) (hc : cs.length ≤ c ∨ cs.length ≤ d) : cas c d l = [-2] := by
  unfold cas
  show Ks593Neutral.integers (Ks593.withChains l _) = _
  rw [withChains_eq, h]
  show Ks593Neutral.integers (if cs.length ≤ c ∨ cs.length ≤ d then _ else _) = _
  rw [if_pos hc]
  rfl
theorem cas_some {c d : Nat} {l : List Nat} {cs : Chains} (h : read l = some cs) (hc : c < cs.length) (hd : d < cs.length) :
    cas c d l = [((costAt 0 (seq (Ks593.swapChains cs c d) (ordBy 7 (Ks593.swapChains cs c d) (jobCount (Ks593.swapChains cs c d)))) : Nat) : Int)] := by
  unfold cas
  show Ks593Neutral.integers (Ks593.withChains l _) = _
  rw [withChains_eq, h]
  show Ks593Neutral.integers (if cs.length ≤ c ∨ cs.length ≤ d then _ else _) = _
  rw [if_neg (by omega), ordBy_all 7 _ _ (good_len7 (good_swap (good_of_read h) hc hd)), ← totalCost_eq]
  rfl
def spCas (K : PySem.W.Frag) : Sp := fun vs H Q _ => ∃ (c d : Nat) (a : Addr) (l : List Nat), vs = [.int (c : Int), .int (d : Int), .ref a] ∧ SqL K H a (intsV l) ∧ l.length ≤ 30 ∧ ∀ H' p, H' p = some (.lst ((cas c d l).map V.int)) → Q (.ref p) H'
theorem scCs : FnScope ["first", "second", "chains", "chain_jobs", "swapped"] ["first", "second", "chains"] (defScope s_cost_after_swap) := ⟨rfl, rfl, rfl, by decide +kernel, rfl, by decide +kernel, by decide +kernel⟩
theorem ok_cas {f fC fO fR fS : Addr} {fd fdC fdO fdR fdS : FuncData} (F : Fun K "cost_after_swap" "cost_after_swap" s_cost_after_swap f fd) (T : Txt mg) (hN : ∃ t, mg "NO_SUCH_CHAIN" = some (.int (-2) t))
    (GR : FnOk P w K mg base CX0 3 fR fdR ["numbers"] (spRead K)) (kR : PySem.W.keepIn K (.ref fR) = true) (bR : Binds K fdR ["numbers"] []) (gR : mg "read_chains" = some (.ref fR))
    (GS : FnOk P w K mg base CX0 1 fS fdS ["chain_jobs", "first", "second"] spSwap) (kS : PySem.W.keepIn K (.ref fS) = true) (bS : Binds K fdS ["chain_jobs", "first", "second"] []) (gS : mg "swap_chains" = some (.ref fS))
    (GO : FnOk P w K mg base CX0 3 fO fdO ["chain_jobs", "longest"] (spFind K)) (kO : PySem.W.keepIn K (.ref fO) = true) (bO : Binds K fdO ["chain_jobs", "longest"] []) (gO : mg "find_order" = some (.ref fO))
    (GC : FnOk P w K mg base CX0 2 fC fdC ["chain_jobs", "order"] (spCost K)) (kC : PySem.W.keepIn K (.ref fC) = true) (bC : Binds K fdC ["chain_jobs", "order"] []) (gC : mg "cost_of_order" = some (.ref fC)) :
    FnOk P w K mg base CX0 4 f fd ["first", "second", "chains"] (spCas K) := by
  obtain ⟨tO, mO⟩ := T.mO
  obtain ⟨tJ, mJ⟩ := T.mJ
  obtain ⟨tN, mN⟩ := hN
  refine F.ok scCs (fun vs H Q E h => ?_) (fun cdv A outer s H vs Q E hr h => ?_)
  · obtain ⟨c, d, a, l, rfl, _⟩ := h
    rfl
  · obtain ⟨c, d, a, l, rfl, hA, hl, k⟩ := h
    have hr2 : Room 2 _ := hr.mono (by decide)
    have hr1 : Room 1 _ := hr.mono (by decide)
    refine ⟨_, pss_cons (ps_set (i := 3) scCs.nd rfl (.inl rfl) (pe_call GR hr (by rfl) gR kR bR .nil pass0 (pa_cons (pv 2) pa_nil)))
      (pss_cons (ps_if (pt_cmpR op_isN (pv 3) pe_non (nomark _)) (pss_one (ps_ret (pe_lst (pa_cons (pe_glob rfl mO rel_int) pa_nil)))) pss_nil)
      (pss_cons (ps_if (PW.pt (pw_or (pt_cmpR op_ge (pv 0) (pe_callB call_len_seq (by rfl) T.len PySem.boot_len (pa_cons (pv 3) pa_nil)) (nomark _)) (pw_or1 (pt_cmpR op_ge (pv 1) (pe_callB call_len_seq (by rfl) T.len PySem.boot_len (pa_cons (pv 3) pa_nil)) (nomark _)))))
        (pss_one (ps_ret (pe_lst (pa_cons (pe_glob rfl mN rel_int) pa_nil)))) pss_nil)
      (pss_cons (ps_set (i := 4) scCs.nd rfl (.inl rfl) (pe_call GS hr1 (by rfl) gS kS bS .nil pass0 (pa_cons (pv 3) (pa_cons (pv 0) (pa_cons (pv 1) pa_nil)))))
      (pss_one (ps_ret (pe_lst (pa_cons (pe_call GC hr2 (by rfl) gC kC bC .nil pass0 (pa_cons (pv 4) (pa_cons (pe_call GO hr (by rfl) gO kO bO .nil pass0 (pa_cons (pv 4) (pa_cons (pe_glob rfl mJ rel_int) pa_nil))) pa_nil))) pa_nil))))))), ?_⟩
    refine ⟨_, rfl, a, l, rfl, hA, hl, fun hn H1 s1 => ?_, fun cs hs H1 p s1 hC => ?_⟩
    · refine ⟨_, rfl, rfl, _, rfl, ?_⟩
      refine ⟨by show 1 ≤ sizeLine; decide, fun p np => k _ p ?_⟩
      rw [cas_none hn]
      exact upd_same
    · have hG := good_of_read hs
      refine ⟨_, rfl, rfl, _, rfl, ?_⟩
      obtain ⟨qs, hp, h2⟩ := id hC
      refine ⟨_, rfl, _, rfl, p, _, rfl, .inl (SqL.of hp), _, _, rfl, rfl, _, rfl, ite2 (fun ci => ?_) (fun ci => ?_)⟩
      · have ci' := of_decide_eq_true ci
        rw [List.length_map, h2.len] at ci'
        refine ⟨by show 1 ≤ sizeLine; decide, fun q nq => k _ q ?_⟩
        rw [cas_no hs (.inl (by omega))]
        exact upd_same
      have ci' : ¬ _ := fun z => ci (decide_eq_true z)
      rw [List.length_map, h2.len] at ci'
      refine ⟨_, rfl, _, rfl, p, _, rfl, .inl (SqL.of hp), _, _, rfl, rfl, _, rfl, ite2 (fun cj => ?_) (fun cj => ?_)⟩
      · have cj' := of_decide_eq_true cj
        rw [List.length_map, h2.len] at cj'
        refine ⟨by show 1 ≤ sizeLine; decide, fun q nq => k _ q ?_⟩
        rw [cas_no hs (.inr (by omega))]
        exact upd_same
      have cj' : ¬ _ := fun z => cj (decide_eq_true z)
      rw [List.length_map, h2.len] at cj'
      have hc : c < cs.length := by omega
      have hd : d < cs.length := by omega
      have hW := good_swap hG hc hd
      have hO := ord_ordBy (L := 7) (by decide) (jobCount (Ks593.swapChains cs c d)) (Ks593.swapChains cs c d) (Nat.le_refl _)
      refine ⟨_, rfl, _, rfl, _, rfl, p, cs, c, d, rfl, hC, by have := hG.len; omega, hc, hd, fun H2 r s2 hS => ?_⟩
      refine ⟨_, rfl, _, rfl, r, Ks593.swapChains cs c d, 7, rfl, hS, hW, by decide, fun H3 o s3 ho => ?_⟩
      refine ⟨r, o, Ks593.swapChains cs c d, _, rfl, hS.same s3, SqL.of ho, hO, hW, ?_, fun H4 s4 => ?_⟩
      · rw [hO.length]
        have := hW.cnt
        omega
      · refine ⟨by show 1 ≤ sizeLine; decide, fun q nq => k _ q ?_⟩
        rw [upd_same, cas_some hs hc hd]
        rfl
end
/-! ### what the top has written -/
theorem all_mk {P : Program} {w : World} {K : PySem.W.Frag} {h : Heap} {mg : Str → Option Value} {fa : Addr} (X : K.In h) (G : h.Ns mainGlobals mg) (hfa : mg "cost_after_swap" = some (.ref fa))
    {f_cost_after_swap : Addr} {od_cost_after_swap an_cost_after_swap : Option Addr} {sl_cost_after_swap : Array (Option Value)} {oc_cost_after_swap kV_cost_after_swap dc_cost_after_swap pm_cost_after_swap cd_cost_after_swap ct_cost_after_swap : Value}
    {f_read_chains : Addr} {od_read_chains an_read_chains : Option Addr} {sl_read_chains : Array (Option Value)} {oc_read_chains kV_read_chains dc_read_chains pm_read_chains cd_read_chains ct_read_chains : Value}
    {f_read_jobs : Addr} {od_read_jobs an_read_jobs : Option Addr} {sl_read_jobs : Array (Option Value)} {oc_read_jobs kV_read_jobs dc_read_jobs pm_read_jobs cd_read_jobs ct_read_jobs : Value}
    {f_are_within_limits : Addr} {od_are_within_limits an_are_within_limits : Option Addr} {sl_are_within_limits : Array (Option Value)} {oc_are_within_limits kV_are_within_limits dc_are_within_limits pm_are_within_limits cd_are_within_limits ct_are_within_limits : Value}
    {f_number_of_jobs : Addr} {od_number_of_jobs an_number_of_jobs : Option Addr} {sl_number_of_jobs : Array (Option Value)} {oc_number_of_jobs kV_number_of_jobs dc_number_of_jobs pm_number_of_jobs cd_number_of_jobs ct_number_of_jobs : Value}
    {f_swap_chains : Addr} {od_swap_chains an_swap_chains : Option Addr} {sl_swap_chains : Array (Option Value)} {oc_swap_chains kV_swap_chains dc_swap_chains pm_swap_chains cd_swap_chains ct_swap_chains : Value}
    {f_jobs_in_order : Addr} {od_jobs_in_order an_jobs_in_order : Option Addr} {sl_jobs_in_order : Array (Option Value)} {oc_jobs_in_order kV_jobs_in_order dc_jobs_in_order pm_jobs_in_order cd_jobs_in_order ct_jobs_in_order : Value}
    {f_times_of_jobs : Addr} {od_times_of_jobs an_times_of_jobs : Option Addr} {sl_times_of_jobs : Array (Option Value)} {oc_times_of_jobs kV_times_of_jobs dc_times_of_jobs pm_times_of_jobs cd_times_of_jobs ct_times_of_jobs : Value}
    {f_cost_of_order : Addr} {od_cost_of_order an_cost_of_order : Option Addr} {sl_cost_of_order : Array (Option Value)} {oc_cost_of_order kV_cost_of_order dc_cost_of_order pm_cost_of_order cd_cost_of_order ct_cost_of_order : Value}
    {f_find_order : Addr} {od_find_order an_find_order : Option Addr} {sl_find_order : Array (Option Value)} {oc_find_order kV_find_order dc_find_order pm_find_order cd_find_order ct_find_order : Value}
    {f_find_densest_chain : Addr} {od_find_densest_chain an_find_densest_chain : Option Addr} {sl_find_densest_chain : Array (Option Value)} {oc_find_densest_chain kV_find_densest_chain dc_find_densest_chain pm_find_densest_chain cd_find_densest_chain ct_find_densest_chain : Value}
    {f_find_densest_prefix : Addr} {od_find_densest_prefix an_find_densest_prefix : Option Addr} {sl_find_densest_prefix : Array (Option Value)} {oc_find_densest_prefix kV_find_densest_prefix dc_find_densest_prefix pm_find_densest_prefix cd_find_densest_prefix ct_find_densest_prefix : Value}
    {f_compare_density : Addr} {od_compare_density an_compare_density : Option Addr} {sl_compare_density : Array (Option Value)} {oc_compare_density kV_compare_density dc_compare_density pm_compare_density cd_compare_density ct_compare_density : Value}
    {t_MAX_CHAINS t_MAX_JOBS t_MAX_DURATION t_MAX_WEIGHT t_OUTSIDE_LIMITS t_NO_SUCH_CHAIN : Tok}
    (a_cost_after_swap : PySem.W.nsIn K mainGlobals "cost_after_swap" = some (some (.ref f_cost_after_swap)))
    (l_cost_after_swap : K.lookup f_cost_after_swap = some ⟨oc_cost_after_swap, od_cost_after_swap, .func (PySem.W.fnOf "cost_after_swap" "cost_after_swap" (defArgs s_cost_after_swap) (defBody s_cost_after_swap) (defScope s_cost_after_swap) .none kV_cost_after_swap dc_cost_after_swap pm_cost_after_swap an_cost_after_swap cd_cost_after_swap ct_cost_after_swap), sl_cost_after_swap⟩)
    (c_cost_after_swap : PySem.W.codeIn K cd_cost_after_swap "cost_after_swap" = true)
    (k_cost_after_swap : PySem.W.keepIn K (.ref f_cost_after_swap) = true)
    (a_read_chains : PySem.W.nsIn K mainGlobals "read_chains" = some (some (.ref f_read_chains)))
    (l_read_chains : K.lookup f_read_chains = some ⟨oc_read_chains, od_read_chains, .func (PySem.W.fnOf "read_chains" "read_chains" (defArgs s_read_chains) (defBody s_read_chains) (defScope s_read_chains) .none kV_read_chains dc_read_chains pm_read_chains an_read_chains cd_read_chains ct_read_chains), sl_read_chains⟩)
    (c_read_chains : PySem.W.codeIn K cd_read_chains "read_chains" = true)
    (k_read_chains : PySem.W.keepIn K (.ref f_read_chains) = true)
    (a_read_jobs : PySem.W.nsIn K mainGlobals "read_jobs" = some (some (.ref f_read_jobs)))
    (l_read_jobs : K.lookup f_read_jobs = some ⟨oc_read_jobs, od_read_jobs, .func (PySem.W.fnOf "read_jobs" "read_jobs" (defArgs s_read_jobs) (defBody s_read_jobs) (defScope s_read_jobs) .none kV_read_jobs dc_read_jobs pm_read_jobs an_read_jobs cd_read_jobs ct_read_jobs), sl_read_jobs⟩)
    (c_read_jobs : PySem.W.codeIn K cd_read_jobs "read_jobs" = true)
    (k_read_jobs : PySem.W.keepIn K (.ref f_read_jobs) = true)
    (a_are_within_limits : PySem.W.nsIn K mainGlobals "are_within_limits" = some (some (.ref f_are_within_limits)))
    (l_are_within_limits : K.lookup f_are_within_limits = some ⟨oc_are_within_limits, od_are_within_limits, .func (PySem.W.fnOf "are_within_limits" "are_within_limits" (defArgs s_are_within_limits) (defBody s_are_within_limits) (defScope s_are_within_limits) .none kV_are_within_limits dc_are_within_limits pm_are_within_limits an_are_within_limits cd_are_within_limits ct_are_within_limits), sl_are_within_limits⟩)
    (c_are_within_limits : PySem.W.codeIn K cd_are_within_limits "are_within_limits" = true)
    (k_are_within_limits : PySem.W.keepIn K (.ref f_are_within_limits) = true)
    (a_number_of_jobs : PySem.W.nsIn K mainGlobals "number_of_jobs" = some (some (.ref f_number_of_jobs)))
    (l_number_of_jobs : K.lookup f_number_of_jobs = some ⟨oc_number_of_jobs, od_number_of_jobs, .func (PySem.W.fnOf "number_of_jobs" "number_of_jobs" (defArgs s_number_of_jobs) (defBody s_number_of_jobs) (defScope s_number_of_jobs) .none kV_number_of_jobs dc_number_of_jobs pm_number_of_jobs an_number_of_jobs cd_number_of_jobs ct_number_of_jobs), sl_number_of_jobs⟩)
    (c_number_of_jobs : PySem.W.codeIn K cd_number_of_jobs "number_of_jobs" = true)
    (k_number_of_jobs : PySem.W.keepIn K (.ref f_number_of_jobs) = true)
    (a_swap_chains : PySem.W.nsIn K mainGlobals "swap_chains" = some (some (.ref f_swap_chains)))
    (l_swap_chains : K.lookup f_swap_chains = some ⟨oc_swap_chains, od_swap_chains, .func (PySem.W.fnOf "swap_chains" "swap_chains" (defArgs s_swap_chains) (defBody s_swap_chains) (defScope s_swap_chains) .none kV_swap_chains dc_swap_chains pm_swap_chains an_swap_chains cd_swap_chains ct_swap_chains), sl_swap_chains⟩)
    (c_swap_chains : PySem.W.codeIn K cd_swap_chains "swap_chains" = true)
    (k_swap_chains : PySem.W.keepIn K (.ref f_swap_chains) = true)
    (a_jobs_in_order : PySem.W.nsIn K mainGlobals "jobs_in_order" = some (some (.ref f_jobs_in_order)))
    (l_jobs_in_order : K.lookup f_jobs_in_order = some ⟨oc_jobs_in_order, od_jobs_in_order, .func (PySem.W.fnOf "jobs_in_order" "jobs_in_order" (defArgs s_jobs_in_order) (defBody s_jobs_in_order) (defScope s_jobs_in_order) .none kV_jobs_in_order dc_jobs_in_order pm_jobs_in_order an_jobs_in_order cd_jobs_in_order ct_jobs_in_order), sl_jobs_in_order⟩)
    (c_jobs_in_order : PySem.W.codeIn K cd_jobs_in_order "jobs_in_order" = true)
    (k_jobs_in_order : PySem.W.keepIn K (.ref f_jobs_in_order) = true)
    (a_times_of_jobs : PySem.W.nsIn K mainGlobals "times_of_jobs" = some (some (.ref f_times_of_jobs)))
    (l_times_of_jobs : K.lookup f_times_of_jobs = some ⟨oc_times_of_jobs, od_times_of_jobs, .func (PySem.W.fnOf "times_of_jobs" "times_of_jobs" (defArgs s_times_of_jobs) (defBody s_times_of_jobs) (defScope s_times_of_jobs) .none kV_times_of_jobs dc_times_of_jobs pm_times_of_jobs an_times_of_jobs cd_times_of_jobs ct_times_of_jobs), sl_times_of_jobs⟩)
    (c_times_of_jobs : PySem.W.codeIn K cd_times_of_jobs "times_of_jobs" = true)
    (k_times_of_jobs : PySem.W.keepIn K (.ref f_times_of_jobs) = true)
    (a_cost_of_order : PySem.W.nsIn K mainGlobals "cost_of_order" = some (some (.ref f_cost_of_order)))
    (l_cost_of_order : K.lookup f_cost_of_order = some ⟨oc_cost_of_order, od_cost_of_order, .func (PySem.W.fnOf "cost_of_order" "cost_of_order" (defArgs s_cost_of_order) (defBody s_cost_of_order) (defScope s_cost_of_order) .none kV_cost_of_order dc_cost_of_order pm_cost_of_order an_cost_of_order cd_cost_of_order ct_cost_of_order), sl_cost_of_order⟩)
    (c_cost_of_order : PySem.W.codeIn K cd_cost_of_order "cost_of_order" = true)
    (k_cost_of_order : PySem.W.keepIn K (.ref f_cost_of_order) = true)
    (a_find_order : PySem.W.nsIn K mainGlobals "find_order" = some (some (.ref f_find_order)))
    (l_find_order : K.lookup f_find_order = some ⟨oc_find_order, od_find_order, .func (PySem.W.fnOf "find_order" "find_order" (defArgs s_find_order) (defBody s_find_order) (defScope s_find_order) .none kV_find_order dc_find_order pm_find_order an_find_order cd_find_order ct_find_order), sl_find_order⟩)
    (c_find_order : PySem.W.codeIn K cd_find_order "find_order" = true)
    (k_find_order : PySem.W.keepIn K (.ref f_find_order) = true)
    (a_find_densest_chain : PySem.W.nsIn K mainGlobals "find_densest_chain" = some (some (.ref f_find_densest_chain)))
    (l_find_densest_chain : K.lookup f_find_densest_chain = some ⟨oc_find_densest_chain, od_find_densest_chain, .func (PySem.W.fnOf "find_densest_chain" "find_densest_chain" (defArgs s_find_densest_chain) (defBody s_find_densest_chain) (defScope s_find_densest_chain) .none kV_find_densest_chain dc_find_densest_chain pm_find_densest_chain an_find_densest_chain cd_find_densest_chain ct_find_densest_chain), sl_find_densest_chain⟩)
    (c_find_densest_chain : PySem.W.codeIn K cd_find_densest_chain "find_densest_chain" = true)
    (k_find_densest_chain : PySem.W.keepIn K (.ref f_find_densest_chain) = true)
    (a_find_densest_prefix : PySem.W.nsIn K mainGlobals "find_densest_prefix" = some (some (.ref f_find_densest_prefix)))
    (l_find_densest_prefix : K.lookup f_find_densest_prefix = some ⟨oc_find_densest_prefix, od_find_densest_prefix, .func (PySem.W.fnOf "find_densest_prefix" "find_densest_prefix" (defArgs s_find_densest_prefix) (defBody s_find_densest_prefix) (defScope s_find_densest_prefix) .none kV_find_densest_prefix dc_find_densest_prefix pm_find_densest_prefix an_find_densest_prefix cd_find_densest_prefix ct_find_densest_prefix), sl_find_densest_prefix⟩)
    (c_find_densest_prefix : PySem.W.codeIn K cd_find_densest_prefix "find_densest_prefix" = true)
    (k_find_densest_prefix : PySem.W.keepIn K (.ref f_find_densest_prefix) = true)
    (a_compare_density : PySem.W.nsIn K mainGlobals "compare_density" = some (some (.ref f_compare_density)))
    (l_compare_density : K.lookup f_compare_density = some ⟨oc_compare_density, od_compare_density, .func (PySem.W.fnOf "compare_density" "compare_density" (defArgs s_compare_density) (defBody s_compare_density) (defScope s_compare_density) .none kV_compare_density dc_compare_density pm_compare_density an_compare_density cd_compare_density ct_compare_density), sl_compare_density⟩)
    (c_compare_density : PySem.W.codeIn K cd_compare_density "compare_density" = true)
    (k_compare_density : PySem.W.keepIn K (.ref f_compare_density) = true)
    (v_MAX_CHAINS : PySem.W.nsIn K mainGlobals "MAX_CHAINS" = some (some (.int (4) t_MAX_CHAINS)))
    (v_MAX_JOBS : PySem.W.nsIn K mainGlobals "MAX_JOBS" = some (some (.int (7) t_MAX_JOBS)))
    (v_MAX_DURATION : PySem.W.nsIn K mainGlobals "MAX_DURATION" = some (some (.int (99) t_MAX_DURATION)))
    (v_MAX_WEIGHT : PySem.W.nsIn K mainGlobals "MAX_WEIGHT" = some (some (.int (99) t_MAX_WEIGHT)))
    (v_OUTSIDE_LIMITS : PySem.W.nsIn K mainGlobals "OUTSIDE_LIMITS" = some (some (.int (-22) t_OUTSIDE_LIMITS)))
    (v_NO_SUCH_CHAIN : PySem.W.nsIn K mainGlobals "NO_SUCH_CHAIN" = some (some (.int (-2) t_NO_SUCH_CHAIN)))
    (z_len : PySem.W.nsIn K mainGlobals "len" = some none)
    (z_range : PySem.W.nsIn K mainGlobals "range" = some none)
    (z_sum : PySem.W.nsIn K mainGlobals "sum" = some none)
    (z_enumerate : PySem.W.nsIn K mainGlobals "enumerate" = some none)
    (z_list : PySem.W.nsIn K mainGlobals "list" = some none)
    (z_zip : PySem.W.nsIn K mainGlobals "zip" = some none) :
    ∃ fd : FuncData, (∀ (s : Shared) (us : List Value), us.length = (["first", "second", "chains"] : List Str).length → BindsTo s fd ⟨us, []⟩ ((["first", "second", "chains"] : List Str).zip us)) ∧ ∀ base : Heap, K.In base → base.Ns mainGlobals mg → FnOk P w K mg base CX0 4 fa fd ["first", "second", "chains"] (spCas K) := by
  have e := hfa.symm.trans (PySem.W.mg_of X G a_cost_after_swap)
  cases e
  have F_cost_after_swap := fun_mk (st := s_cost_after_swap) l_cost_after_swap c_cost_after_swap k_cost_after_swap
  have b_cost_after_swap := F_cost_after_swap.binds (ps := ["first", "second", "chains"]) fun _ _ _ _ _ _ us hl => match us, hl with | [_, _, _], _ => rfl
  have g_cost_after_swap := PySem.W.mg_of X G a_cost_after_swap
  have F_read_chains := fun_mk (st := s_read_chains) l_read_chains c_read_chains k_read_chains
  have b_read_chains := F_read_chains.binds (ps := ["numbers"]) fun _ _ _ _ _ _ us hl => match us, hl with | [_], _ => rfl
  have g_read_chains := PySem.W.mg_of X G a_read_chains
  have F_read_jobs := fun_mk (st := s_read_jobs) l_read_jobs c_read_jobs k_read_jobs
  have b_read_jobs := F_read_jobs.binds (ps := ["numbers"]) fun _ _ _ _ _ _ us hl => match us, hl with | [_], _ => rfl
  have g_read_jobs := PySem.W.mg_of X G a_read_jobs
  have F_are_within_limits := fun_mk (st := s_are_within_limits) l_are_within_limits c_are_within_limits k_are_within_limits
  have b_are_within_limits := F_are_within_limits.binds (ps := ["chain_jobs"]) fun _ _ _ _ _ _ us hl => match us, hl with | [_], _ => rfl
  have g_are_within_limits := PySem.W.mg_of X G a_are_within_limits
  have F_number_of_jobs := fun_mk (st := s_number_of_jobs) l_number_of_jobs c_number_of_jobs k_number_of_jobs
  have b_number_of_jobs := F_number_of_jobs.binds (ps := ["chain_jobs"]) fun _ _ _ _ _ _ us hl => match us, hl with | [_], _ => rfl
  have g_number_of_jobs := PySem.W.mg_of X G a_number_of_jobs
  have F_swap_chains := fun_mk (st := s_swap_chains) l_swap_chains c_swap_chains k_swap_chains
  have b_swap_chains := F_swap_chains.binds (ps := ["chain_jobs", "first", "second"]) fun _ _ _ _ _ _ us hl => match us, hl with | [_, _, _], _ => rfl
  have g_swap_chains := PySem.W.mg_of X G a_swap_chains
  have F_jobs_in_order := fun_mk (st := s_jobs_in_order) l_jobs_in_order c_jobs_in_order k_jobs_in_order
  have b_jobs_in_order := F_jobs_in_order.binds (ps := ["chain_jobs", "order"]) fun _ _ _ _ _ _ us hl => match us, hl with | [_, _], _ => rfl
  have g_jobs_in_order := PySem.W.mg_of X G a_jobs_in_order
  have F_times_of_jobs := fun_mk (st := s_times_of_jobs) l_times_of_jobs c_times_of_jobs k_times_of_jobs
  have b_times_of_jobs := F_times_of_jobs.binds (ps := ["jobs"]) fun _ _ _ _ _ _ us hl => match us, hl with | [_], _ => rfl
  have g_times_of_jobs := PySem.W.mg_of X G a_times_of_jobs
  have F_cost_of_order := fun_mk (st := s_cost_of_order) l_cost_of_order c_cost_of_order k_cost_of_order
  have b_cost_of_order := F_cost_of_order.binds (ps := ["chain_jobs", "order"]) fun _ _ _ _ _ _ us hl => match us, hl with | [_, _], _ => rfl
  have g_cost_of_order := PySem.W.mg_of X G a_cost_of_order
  have F_find_order := fun_mk (st := s_find_order) l_find_order c_find_order k_find_order
  have b_find_order := F_find_order.binds (ps := ["chain_jobs", "longest"]) fun _ _ _ _ _ _ us hl => match us, hl with | [_, _], _ => rfl
  have g_find_order := PySem.W.mg_of X G a_find_order
  have F_find_densest_chain := fun_mk (st := s_find_densest_chain) l_find_densest_chain c_find_densest_chain k_find_densest_chain
  have b_find_densest_chain := F_find_densest_chain.binds (ps := ["prefixes"]) fun _ _ _ _ _ _ us hl => match us, hl with | [_], _ => rfl
  have g_find_densest_chain := PySem.W.mg_of X G a_find_densest_chain
  have F_find_densest_prefix := fun_mk (st := s_find_densest_prefix) l_find_densest_prefix c_find_densest_prefix k_find_densest_prefix
  have b_find_densest_prefix := F_find_densest_prefix.binds (ps := ["jobs"]) fun _ _ _ _ _ _ us hl => match us, hl with | [_], _ => rfl
  have g_find_densest_prefix := PySem.W.mg_of X G a_find_densest_prefix
  have F_compare_density := fun_mk (st := s_compare_density) l_compare_density c_compare_density k_compare_density
  have b_compare_density := F_compare_density.binds (ps := ["prefix", "other"]) fun _ _ _ _ _ _ us hl => match us, hl with | [_, _], _ => rfl
  have g_compare_density := PySem.W.mg_of X G a_compare_density
  have m_len := PySem.W.mg_none_of X G z_len
  have m_range := PySem.W.mg_none_of X G z_range
  have m_sum := PySem.W.mg_none_of X G z_sum
  have m_enumerate := PySem.W.mg_none_of X G z_enumerate
  have m_list := PySem.W.mg_none_of X G z_list
  have m_zip := PySem.W.mg_none_of X G z_zip
  have w_NO_SUCH_CHAIN := PySem.W.mg_of X G v_NO_SUCH_CHAIN
  have T : Txt mg := ⟨m_len, m_range, m_sum, ⟨_, PySem.W.mg_of X G v_MAX_CHAINS⟩, ⟨_, PySem.W.mg_of X G v_MAX_JOBS⟩, ⟨_, PySem.W.mg_of X G v_MAX_DURATION⟩, ⟨_, PySem.W.mg_of X G v_MAX_WEIGHT⟩, ⟨_, PySem.W.mg_of X G v_OUTSIDE_LIMITS⟩⟩
  exact ⟨PySem.W.fnOf "cost_after_swap" "cost_after_swap" (defArgs s_cost_after_swap) (defBody s_cost_after_swap) (defScope s_cost_after_swap) .none kV_cost_after_swap dc_cost_after_swap pm_cost_after_swap an_cost_after_swap cd_cost_after_swap ct_cost_after_swap, fun s us hu => match us, hu with | [_, _, _], _ => .of_eq rfl, fun base _ _ => by
    exact ok_cas F_cost_after_swap T ⟨_, w_NO_SUCH_CHAIN⟩ (ok_read F_read_chains T F_number_of_jobs b_number_of_jobs g_number_of_jobs F_are_within_limits b_are_within_limits g_are_within_limits F_read_jobs b_read_jobs g_read_jobs) k_read_chains b_read_chains g_read_chains
      (ok_swap F_swap_chains m_list) k_swap_chains b_swap_chains g_swap_chains
      (ok_find F_find_order T m_enumerate m_list F_number_of_jobs b_number_of_jobs g_number_of_jobs F_compare_density b_compare_density g_compare_density F_find_densest_prefix b_find_densest_prefix g_find_densest_prefix F_find_densest_chain b_find_densest_chain g_find_densest_chain) k_find_order b_find_order g_find_order
      (ok_cost F_cost_of_order T m_zip F_jobs_in_order b_jobs_in_order g_jobs_in_order F_times_of_jobs b_times_of_jobs g_times_of_jobs) k_cost_of_order b_cost_of_order g_cost_of_order
    ⟩
end Cj
open PySem PySem.W PyProof.Rows
set_option maxRecDepth 100000 in
set_option maxHeartbeats 8000000 in
theorem PySem.Challenge.cw_chainjobs_s07_cost_after_swap_holds : PySem.Challenge.rw_chainjobs_s07_cost_after_swap.Holds := by
  w_on; k_headS; (case hw => exact ⟨[.int 0, .int 0, .list []], by decide +kernel, by decide +kernel⟩)
  k_fillS
  refine L2.walk_specK (r := PySem.Challenge.rw_chainjobs_s07_cost_after_swap) (k := 4) (CX := L2.CX0) (ps := ["first", "second", "chains"]) (sp := Cj.spCas) (by decide +kernel) rfl rfl ⟨rfl, by decide, by decide⟩ (fun w h Y => PySem.W.kIn_of Y) ?F ?S (fun _ _ _ _ z => z)
  case F =>
    intro w mg fa h Y KX G hmg
    refine' Cj.all_mk KX G hmg ?a_cost_after_swap ?l_cost_after_swap ?c_cost_after_swap ?k_cost_after_swap ?a_read_chains ?l_read_chains ?c_read_chains ?k_read_chains ?a_read_jobs ?l_read_jobs ?c_read_jobs ?k_read_jobs ?a_are_within_limits ?l_are_within_limits ?c_are_within_limits ?k_are_within_limits ?a_number_of_jobs ?l_number_of_jobs ?c_number_of_jobs ?k_number_of_jobs ?a_swap_chains ?l_swap_chains ?c_swap_chains ?k_swap_chains ?a_jobs_in_order ?l_jobs_in_order ?c_jobs_in_order ?k_jobs_in_order ?a_times_of_jobs ?l_times_of_jobs ?c_times_of_jobs ?k_times_of_jobs ?a_cost_of_order ?l_cost_of_order ?c_cost_of_order ?k_cost_of_order ?a_find_order ?l_find_order ?c_find_order ?k_find_order ?a_find_densest_chain ?l_find_densest_chain ?c_find_densest_chain ?k_find_densest_chain ?a_find_densest_prefix ?l_find_densest_prefix ?c_find_densest_prefix ?k_find_densest_prefix ?a_compare_density ?l_compare_density ?c_compare_density ?k_compare_density ?v_MAX_CHAINS ?v_MAX_JOBS ?v_MAX_DURATION ?v_MAX_WEIGHT ?v_OUTSIDE_LIMITS ?v_NO_SUCH_CHAIN ?z_len ?z_range ?z_sum ?z_enumerate ?z_list ?z_zip
    (case a_cost_after_swap => k_is)
    (case l_cost_after_swap => k_is)
    (case c_cost_after_swap => k_is)
    (case k_cost_after_swap => k_is)
    (case a_read_chains => k_is)
    (case l_read_chains => k_is)
    (case c_read_chains => k_is)
    (case k_read_chains => k_is)
    (case a_read_jobs => k_is)
    (case l_read_jobs => k_is)
    (case c_read_jobs => k_is)
    (case k_read_jobs => k_is)
    (case a_are_within_limits => k_is)
    (case l_are_within_limits => k_is)
    (case c_are_within_limits => k_is)
    (case k_are_within_limits => k_is)
    (case a_number_of_jobs => k_is)
    (case l_number_of_jobs => k_is)
    (case c_number_of_jobs => k_is)
    (case k_number_of_jobs => k_is)
    (case a_swap_chains => k_is)
    (case l_swap_chains => k_is)
    (case c_swap_chains => k_is)
    (case k_swap_chains => k_is)
    (case a_jobs_in_order => k_is)
    (case l_jobs_in_order => k_is)
    (case c_jobs_in_order => k_is)
    (case k_jobs_in_order => k_is)
    (case a_times_of_jobs => k_is)
    (case l_times_of_jobs => k_is)
    (case c_times_of_jobs => k_is)
    (case k_times_of_jobs => k_is)
    (case a_cost_of_order => k_is)
    (case l_cost_of_order => k_is)
    (case c_cost_of_order => k_is)
    (case k_cost_of_order => k_is)
    (case a_find_order => k_is)
    (case l_find_order => k_is)
    (case c_find_order => k_is)
    (case k_find_order => k_is)
    (case a_find_densest_chain => k_is)
    (case l_find_densest_chain => k_is)
    (case c_find_densest_chain => k_is)
    (case k_find_densest_chain => k_is)
    (case a_find_densest_prefix => k_is)
    (case l_find_densest_prefix => k_is)
    (case c_find_densest_prefix => k_is)
    (case k_find_densest_prefix => k_is)
    (case a_compare_density => k_is)
    (case l_compare_density => k_is)
    (case c_compare_density => k_is)
    (case k_compare_density => k_is)
    (case v_MAX_CHAINS => k_is)
    (case v_MAX_JOBS => k_is)
    (case v_MAX_DURATION => k_is)
    (case v_MAX_WEIGHT => k_is)
    (case v_OUTSIDE_LIMITS => k_is)
    (case v_NO_SUCH_CHAIN => k_is)
    (case z_len => k_is)
    (case z_range => k_is)
    (case z_sum => k_is)
    (case z_enumerate => k_is)
    (case z_list => k_is)
    (case z_zip => k_is)
  case S =>
    intro K H xs a hO hwi hask hx
    cases hx with
    | cons h0 hx =>
    cases hx with
    | cons h1 h2 =>
      cases h2 with
      | cons h2 h3 =>
        cases h3
        cases h0
        cases h1
        cases h2 with
        | lst hs ha =>
          have e := L2.ints_dw a.2.2.1 _ ha
          subst e
          have q : (Codec.inInt 0 4294967295 a.1 && (Codec.inInt 0 4294967295 a.2.1 && ((Codec.inLen 0 25 a.2.2.1 && a.2.2.1.all (Codec.inInt 0 4294967295)) && true))) = true := hwi
          rw [Bool.and_eq_true, Bool.and_eq_true, Bool.and_eq_true, Bool.and_eq_true] at q
          have q0 := (Codec.inInt_iff.mp q.1).1
          have q1 := (Codec.inInt_iff.mp q.2.1).1
          have l1 := (Codec.inNat_iff.mp q.2.2.1.1).2
          rw [Cj.of_ints q.2.2.1.2] at hs
          refine ⟨a.1.toNat, a.2.1.toNat, _, a.2.2.1.map Int.toNat, ?_, hs, ?_, fun H' p hp => ?_⟩
          · rw [Int.toNat_of_nonneg q0, Int.toNat_of_nonneg q1]
          · rw [List.length_map]
            exact Nat.le_trans l1 (by decide)
          · exact .lst (L2.SqL.of hp) (L2.dw_ints _)
#print axioms PySem.Challenge.cw_chainjobs_s07_cost_after_swap_holds
