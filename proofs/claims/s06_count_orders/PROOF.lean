import PyProof.Rows.All
import Wide.All
import OpenK.AllK
import Wide.FinOn
import Open.SpecLaws
import KE.OsGo
import HandS.ForMost
import HandS.ForSpec
import HandS.SetFor
import HandS.Walk
import PySem.Challenge.RW_chainjobs_s06_count_orders
set_option Elab.async false
set_option linter.all false
set_option maxRecDepth 100000
set_option maxHeartbeats 2000000
/-! # chainjobs: the mathematics of reading chains and of orders, plain Lean -/
namespace Cj
open Ks593 (Job Chains jobCount)

/-! ### reading -/
def jobsOf : List Nat → List Job
  | d :: w :: r => ⟨d, w⟩ :: jobsOf r
  | _ => []
def split (l : List Nat) : Option Chains := match l with
  | [] => some []
  | c :: rest => if rest.length < 2 * c then none else (split (rest.drop (2 * c))).map (jobsOf (rest.take (2 * c)) :: ·)
termination_by l.length
decreasing_by
  rw [List.length_drop, List.length_cons]
  omega
def okJob (j : Job) : Bool := decide (1 ≤ j.duration) && decide (j.duration ≤ 99) && decide (j.weight ≤ 99)
def within (cs : Chains) : Bool := decide (cs.length ≤ 4) && decide (jobCount cs ≤ 7) && cs.all (·.all okJob)
/-- what the program reads out of the numbers -/
def read (l : List Nat) : Option Chains := (split l).bind fun cs => if within cs = true then some cs else none
theorem split_nil : split [] = some [] := by rw [split]
theorem split_cons (c : Nat) (rest : List Nat) : split (c :: rest) = if rest.length < 2 * c then none else (split (rest.drop (2 * c))).map (jobsOf (rest.take (2 * c)) :: ·) := by
  rw [split]
theorem jobsOf_length : ∀ l : List Nat, (jobsOf l).length = l.length / 2
  | [] => rfl
  | [_] => by show 0 = 1 / 2; rfl
  | _ :: _ :: r => by
    show (jobsOf r).length + 1 = (r.length + 1 + 1) / 2
    rw [jobsOf_length r]
    omega
theorem jobsOf_get : ∀ (l : List Nat) (i : Nat) (d w : Nat), l[2 * i]? = some d → l[2 * i + 1]? = some w → (jobsOf l)[i]? = some ⟨d, w⟩
  | [], _, _, _, h, _ => by simp at h
  | [_], 0, _, _, _, h => by simp at h
  | [_], i + 1, _, _, h, _ => by simp at h
  | a :: b :: r, 0, d, w, h, h2 => by
    have e1 : a = d := Option.some.inj h
    have e2 : b = w := Option.some.inj h2
    rw [← e1, ← e2]
    rfl
  | a :: b :: r, i + 1, d, w, h, h2 => by
    have e : 2 * (i + 1) = 2 * i + 1 + 1 := by omega
    rw [e] at h h2
    exact jobsOf_get r i d w h h2
theorem parseJobs_eq : ∀ l : List Nat, l.length % 2 = 0 → Ks593.parseJobs l = if (jobsOf l).all okJob = true then some (jobsOf l) else none
  | [], _ => rfl
  | [_], h => by simp at h
  | d :: w :: r, h => by
    have ih := parseJobs_eq r (by simp only [List.length_cons] at h; omega)
    show (if d < 1 ∨ 99 < d ∨ 99 < w then none else (Ks593.parseJobs r).map fun jobs => ⟨d, w⟩ :: jobs) = _
    show _ = if (okJob ⟨d, w⟩ && (jobsOf r).all okJob) = true then some (⟨d, w⟩ :: jobsOf r) else none
    rw [ih]
    by_cases c : d < 1 ∨ 99 < d ∨ 99 < w
    · have e : okJob ⟨d, w⟩ = false := by
        unfold okJob
        simp only [Bool.and_eq_false_iff, decide_eq_false_iff_not]
        omega
      rw [if_pos c, e]
      rfl
    · have e : okJob ⟨d, w⟩ = true := by
        unfold okJob
        simp only [Bool.and_eq_true, decide_eq_true_eq]
        omega
      rw [if_neg c, e, Bool.true_and]
      by_cases q : (jobsOf r).all okJob = true
      · rw [if_pos q, if_pos q]
        rfl
      · rw [if_neg q, if_neg q]
        rfl
theorem parseChains_eq : ∀ (fuel : Nat) (l : List Nat), Ks593.parseChains fuel l = (split l).bind fun cs => if (decide (cs.length ≤ fuel) && cs.all (·.all okJob)) = true then some cs else none
  | fuel, [] => by
    rw [split_nil]
    cases fuel <;> rfl
  | 0, c :: rest => by
    show none = _
    rw [split_cons]
    by_cases h : rest.length < 2 * c
    · rw [if_pos h]
      rfl
    · rw [if_neg h]
      cases split (rest.drop (2 * c)) with
      | none => rfl
      | some cs => rfl
  | fuel + 1, c :: rest => by
    show (if rest.length < 2 * c then none else match Ks593.parseJobs (rest.take (2 * c)), Ks593.parseChains fuel (rest.drop (2 * c)) with
      | some jobs, some chains => some (jobs :: chains)
      | _, _ => none) = _
    rw [split_cons]
    by_cases h : rest.length < 2 * c
    · rw [if_pos h, if_pos h]
      rfl
    · rw [if_neg h, if_neg h, parseChains_eq fuel (rest.drop (2 * c)), parseJobs_eq _ (by rw [List.length_take]; omega)]
      cases split (rest.drop (2 * c)) with
      | none =>
        by_cases q : (jobsOf (rest.take (2 * c))).all okJob = true
        · rw [if_pos q]; rfl
        · rw [if_neg q]; rfl
      | some cs =>
        show _ = if (decide ((jobsOf (rest.take (2 * c)) :: cs).length ≤ fuel + 1) && ((jobsOf (rest.take (2 * c))).all okJob && cs.all (·.all okJob))) = true then some (jobsOf (rest.take (2 * c)) :: cs) else none
        have hl : decide ((jobsOf (rest.take (2 * c)) :: cs).length ≤ fuel + 1) = decide (cs.length ≤ fuel) := by
          rw [List.length_cons]
          simp only [Nat.add_le_add_iff_right]
        rw [hl]
        by_cases q : (jobsOf (rest.take (2 * c))).all okJob = true
        · rw [if_pos q, q, Bool.true_and]
          by_cases z : (decide (cs.length ≤ fuel) && cs.all (·.all okJob)) = true
          · rw [if_pos z]
            show (match some _, (if _ then some cs else none) with | some jobs, some chains => some (jobs :: chains) | _, _ => none) = _
            rw [if_pos z]
          · rw [if_neg z]
            show (match some _, (if _ then some cs else none) with | some jobs, some chains => some (jobs :: chains) | _, _ => none) = _
            rw [if_neg z]
        · rw [if_neg q]
          have q' : (jobsOf (rest.take (2 * c))).all okJob = false := by simpa using q
          rw [q', Bool.false_and, Bool.and_false]
          rfl
theorem withChains_eq (l : List Nat) (k : Chains → Ks593.Result) : Ks593.withChains l k = match read l with | none => Ks593.number (-22) | some cs => k cs := by
  unfold Ks593.withChains read
  rw [parseChains_eq]
  cases split l with
  | none => rfl
  | some cs =>
    show (match (if (decide (cs.length ≤ 9) && cs.all (·.all okJob)) = true then some cs else none) with | none => _ | some chains => if Ks593.maxChains < chains.length ∨ Ks593.maxJobs < jobCount chains then _ else k chains) = (match (if within cs = true then some cs else none) with | none => _ | some cs => k cs)
    unfold within
    by_cases q : cs.all (·.all okJob) = true
    · rw [q, Bool.and_true, Bool.and_true]
      by_cases z : cs.length ≤ 4 ∧ jobCount cs ≤ 7
      · have z1 : decide (cs.length ≤ 9) = true := decide_eq_true (by omega)
        have z2 : (decide (cs.length ≤ 4) && decide (jobCount cs ≤ 7)) = true := by simp [z.1, z.2]
        rw [if_pos z1, if_pos z2]
        show (if 4 < cs.length ∨ 7 < jobCount cs then _ else k cs) = k cs
        rw [if_neg (by omega)]
      · have z2 : ¬ (decide (cs.length ≤ 4) && decide (jobCount cs ≤ 7)) = true := by
          simp only [Bool.and_eq_true, decide_eq_true_eq]
          exact z
        rw [if_neg z2]
        by_cases z1 : decide (cs.length ≤ 9) = true
        · rw [if_pos z1]
          show (if 4 < cs.length ∨ 7 < jobCount cs then _ else k cs) = _
          rw [if_pos (by omega)]
        · rw [if_neg z1]
    · have q' : cs.all (·.all okJob) = false := by simpa using q
      rw [q', Bool.and_false, Bool.and_false]
      rfl
/-- what holds of chains that were read -/
structure Good (cs : Chains) : Prop where
  len : cs.length ≤ 4
  cnt : jobCount cs ≤ 7
  job : ∀ js ∈ cs, ∀ j ∈ js, 1 ≤ j.duration ∧ j.duration ≤ 99 ∧ j.weight ≤ 99
theorem okJob_iff {j : Job} : okJob j = true ↔ 1 ≤ j.duration ∧ j.duration ≤ 99 ∧ j.weight ≤ 99 := by
  unfold okJob
  simp only [Bool.and_eq_true, decide_eq_true_eq, and_assoc]
theorem good_of_within {cs : Chains} (h : within cs = true) : Good cs := by
  unfold within at h
  simp only [Bool.and_eq_true, decide_eq_true_eq, List.all_eq_true, okJob_iff] at h
  exact ⟨h.1.1, h.1.2, h.2⟩
theorem good_of_read {l : List Nat} {cs : Chains} (h : read l = some cs) : Good cs := by
  unfold read at h
  cases e : split l with
  | none => rw [e] at h; cases h
  | some x =>
    rw [e] at h
    have h' : (if within x = true then some x else none) = some cs := h
    by_cases q : within x = true
    · rw [if_pos q] at h'
      cases h'
      exact good_of_within q
    · rw [if_neg q] at h'
      cases h'

/-! ### orders -/
/-- is_order, as the program tells it -/
def isOrd (cs : Chains) (os : List Nat) : Bool := decide (os.length = jobCount cs) && (List.range cs.length).all fun c => decide (os.count c = (cs.getD c []).length)
theorem count_range : ∀ (os : List Nat) (n : Nat), ((List.range n).map fun c => os.count c).sum = (os.filter fun x => decide (x < n)).length
  | [], n => by
    induction n with
    | zero => rfl
    | succ n ih => rw [List.range_succ, List.map_append, List.sum_append, ih]; rfl
  | o :: os, n => by
    have ih := count_range os n
    have e : ∀ n : Nat, ((List.range n).map fun c => (o :: os).count c).sum = ((List.range n).map fun c => os.count c).sum + if o < n then 1 else 0 := by
      intro n
      induction n with
      | zero => rfl
      | succ n hn =>
        rw [List.range_succ, List.map_append, List.sum_append, hn, List.map_append, List.sum_append]
        show _ + ([(o :: os).count n] : List Nat).sum = _ + ([os.count n] : List Nat).sum + _
        rw [List.sum_singleton, List.sum_singleton, List.count_cons]
        by_cases q : o = n
        · subst q
          simp
          omega
        · have q' : (o == n) = false := by simpa using q
          rw [q']
          by_cases z : o < n
          · rw [if_pos z, if_pos (show o < n + 1 by omega), if_neg Bool.false_ne_true]
            omega
          · rw [if_neg z, if_neg (show ¬ o < n + 1 by omega), if_neg Bool.false_ne_true]
            omega
    rw [e, ih, List.filter_cons]
    by_cases q : o < n
    · rw [if_pos q, if_pos (decide_eq_true q)]
      rfl
    · rw [if_neg q, if_neg (by simpa using q)]
      rfl
theorem getD_range (cs : Chains) : (List.range cs.length).map (fun c => (cs.getD c []).length) = cs.map List.length := by
  apply List.ext_getElem?
  intro i
  by_cases h : i < cs.length
  · simp [List.getElem?_map, h]
  · simp [List.getElem?_map, h, show cs.length ≤ i by omega]
theorem filter_full : ∀ {l : List Nat} {p : Nat → Bool}, (l.filter p).length = l.length → l.all p = true
  | [], _, _ => rfl
  | x :: r, p, h => by
    rw [List.filter_cons] at h
    by_cases q : p x = true
    · rw [if_pos q] at h
      rw [List.all_cons, q, Bool.true_and]
      exact filter_full (by simpa using h)
    · rw [if_neg q] at h
      have := List.length_filter_le p r
      rw [List.length_cons] at h
      omega
theorem isOrder_eq (cs : Chains) (os : List Nat) : Ks593.isOrder cs os = isOrd cs os := by
  unfold Ks593.isOrder isOrd
  have e1 : (os.length == jobCount cs) = decide (os.length = jobCount cs) := by
    by_cases h : os.length = jobCount cs <;> simp [h]
  rw [e1]
  by_cases h : os.length = jobCount cs
  · rw [decide_eq_true h, Bool.true_and, Bool.true_and]
    have e2 : ∀ c, ((os.filter fun x => x == c).length == (cs.getD c []).length) = decide (os.count c = (cs.getD c []).length) := by
      intro c
      rw [← List.countP_eq_length_filter]
      show (os.count c == (cs.getD c []).length) = _
      rw [Bool.eq_iff_iff, beq_iff_eq, decide_eq_true_iff]
    by_cases q : ((List.range cs.length).all fun c => decide (os.count c = (cs.getD c []).length)) = true
    · rw [q]
      have q2 : ∀ c ∈ List.range cs.length, os.count c = (cs.getD c []).length := by
        intro c hc
        exact of_decide_eq_true (List.all_eq_true.mp q c hc)
      have s : (os.filter fun x => decide (x < cs.length)).length = os.length := by
        rw [← count_range, List.map_congr_left q2, getD_range, h]
        rfl
      have a := filter_full s
      rw [List.all_eq_true]
      intro c hc
      rw [e2, a, Bool.and_true]
      exact decide_eq_true (q2 c hc)
    · have q' : ((List.range cs.length).all fun c => decide (os.count c = (cs.getD c []).length)) = false := by simpa using q
      rw [q']
      rw [List.all_eq_false] at q' ⊢
      obtain ⟨c, hc, z⟩ := q'
      refine ⟨c, hc, ?_⟩
      rw [e2]
      intro y
      rw [Bool.and_eq_true] at y
      exact z y.1
  · rw [decide_eq_false h, Bool.false_and, Bool.false_and]

/-- the order goes with the chains -/
inductive Ord : Chains → List Nat → Prop
  | nil {cs : Chains} : (∀ js ∈ cs, js = []) → Ord cs []
  | cons {cs : Chains} {c : Nat} {j : Job} {r : List Job} {os : List Nat} : cs[c]? = some (j :: r) → Ord (cs.set c r) os → Ord cs (c :: os)
theorem jobCount_set : ∀ {cs : Chains} {c : Nat} {j : Job} {r : List Job}, cs[c]? = some (j :: r) → jobCount (cs.set c r) + 1 = jobCount cs
  | [], c, j, r, h => by simp at h
  | x :: cs, 0, j, r, h => by
    have e : x = j :: r := Option.some.inj h
    subst e
    show ((r :: cs).map List.length).sum + 1 = (((j :: r) :: cs).map List.length).sum
    simp only [List.map_cons, List.sum_cons, List.length_cons]
    omega
  | x :: cs, c + 1, j, r, h => by
    have ih := jobCount_set (cs := cs) (c := c) (j := j) (r := r) (by simpa using h)
    show ((x :: cs.set c r).map List.length).sum + 1 = ((x :: cs).map List.length).sum
    unfold jobCount at ih
    simp only [List.map_cons, List.sum_cons]
    omega
theorem isOrd_length {cs : Chains} {os : List Nat} (h : isOrd cs os = true) : os.length = jobCount cs := by
  unfold isOrd at h
  rw [Bool.and_eq_true] at h
  exact of_decide_eq_true h.1
theorem isOrd_count {cs : Chains} {os : List Nat} (h : isOrd cs os = true) {c : Nat} {js : List Job} (e : cs[c]? = some js) : os.count c = js.length := by
  unfold isOrd at h
  rw [Bool.and_eq_true, List.all_eq_true] at h
  have hc : c < cs.length := (List.getElem?_eq_some_iff.mp e).1
  have q := of_decide_eq_true (h.2 c (List.mem_range.mpr hc))
  rw [q, List.getD_eq_getElem?_getD, e]
  rfl
theorem isOrd_mk {cs : Chains} {os : List Nat} (h1 : os.length = jobCount cs) (h2 : ∀ c js, cs[c]? = some js → os.count c = js.length) : isOrd cs os = true := by
  unfold isOrd
  rw [Bool.and_eq_true, List.all_eq_true]
  refine ⟨decide_eq_true h1, fun c hc => decide_eq_true ?_⟩
  have hc' : c < cs.length := List.mem_range.mp hc
  rw [h2 c cs[c] (List.getElem?_eq_getElem hc'), List.getD_eq_getElem?_getD, List.getElem?_eq_getElem hc']
  rfl
theorem isOrd_lt {cs : Chains} {os : List Nat} (h : isOrd cs os = true) : ∀ c ∈ os, c < cs.length := by
  have s : (os.filter fun x => decide (x < cs.length)).length = os.length := by
    have q2 : ∀ c ∈ List.range cs.length, os.count c = (cs.getD c []).length := by
      intro c hc
      have hc' : c < cs.length := List.mem_range.mp hc
      rw [isOrd_count h (List.getElem?_eq_getElem hc'), List.getD_eq_getElem?_getD, List.getElem?_eq_getElem hc']
      rfl
    rw [← count_range, List.map_congr_left q2, getD_range, isOrd_length h]
    rfl
  intro c hc
  exact of_decide_eq_true (List.all_eq_true.mp (filter_full s) c hc)
theorem ord_of_isOrd : ∀ {os : List Nat} {cs : Chains}, isOrd cs os = true → Ord cs os
  | [], cs, h => by
    refine .nil fun js hj => ?_
    obtain ⟨i, hi, e⟩ := List.getElem_of_mem hj
    have q := isOrd_count h (c := i) (js := js) (by rw [List.getElem?_eq_getElem hi, e])
    exact List.length_eq_zero_iff.mp q.symm
  | c :: os, cs, h => by
    have hc := isOrd_lt h c List.mem_cons_self
    have q := isOrd_count h (List.getElem?_eq_getElem hc)
    cases e : cs[c] with
    | nil =>
      rw [e, List.count_cons_self] at q
      cases q
    | cons j r =>
      have e' : cs[c]? = some (j :: r) := by rw [List.getElem?_eq_getElem hc, e]
      refine .cons e' (ord_of_isOrd (isOrd_mk ?_ fun d js hd => ?_))
      · have l := isOrd_length h
        have s := jobCount_set e'
        rw [List.length_cons] at l
        omega
      · by_cases z : c = d
        · subst z
          rw [List.getElem?_set_self hc] at hd
          cases hd
          have q' := isOrd_count h e'
          rw [List.count_cons_self, List.length_cons] at q'
          omega
        · rw [List.getElem?_set_ne z] at hd
          have q' := isOrd_count h hd
          rw [List.count_cons_of_ne (by simpa using z)] at q'
          exact q'
theorem Ord.length : ∀ {cs : Chains} {os : List Nat}, Ord cs os → os.length = jobCount cs
  | cs, _, .nil h => by
    unfold jobCount
    rw [List.map_congr_left (g := fun _ => 0) (fun js hj => by rw [h js hj]; rfl)]
    clear h
    induction cs with
    | nil => rfl
    | cons x r ih => rw [List.map_cons, List.sum_cons, ← ih]; rfl
  | cs, c :: os, .cons h o => by
    rw [List.length_cons, o.length, jobCount_set h]
/-- the jobs as the order does them -/
def seq : Chains → List Nat → List Job
  | _, [] => []
  | cs, c :: os => match cs.getD c [] with
    | [] => seq cs os
    | j :: r => j :: seq (cs.set c r) os
theorem getD_of {cs : Chains} {c : Nat} {js : List Job} (h : cs[c]? = some js) : cs.getD c [] = js := by
  rw [List.getD_eq_getElem?_getD, h]
  rfl
theorem seq_cons {cs : Chains} {c : Nat} {j : Job} {r : List Job} {os : List Nat} (h : cs[c]? = some (j :: r)) : seq cs (c :: os) = j :: seq (cs.set c r) os := by
  show (match cs.getD c [] with | [] => seq cs os | j :: r => j :: seq (cs.set c r) os) = _
  rw [getD_of h]
/-- what jobs in that order cost from a time on -/
def costAt : Nat → List Job → Nat
  | _, [] => 0
  | t, j :: r => j.weight * (t + j.duration) + costAt (t + j.duration) r
theorem totalCost_eq : ∀ (os : List Nat) (t : Nat) (cs : Chains), Ks593.totalCost t cs os = costAt t (seq cs os)
  | [], t, cs => by
    unfold Ks593.totalCost
    rfl
  | c :: os, t, cs => by
    unfold Ks593.totalCost seq
    cases cs.getD c [] with
    | nil => exact totalCost_eq os t cs
    | cons j r =>
      show j.weight * (t + j.duration) + Ks593.totalCost (t + j.duration) (cs.set c r) os = j.weight * (t + j.duration) + costAt (t + j.duration) (seq (cs.set c r) os)
      rw [totalCost_eq os]
theorem Ord.seq_length : ∀ {cs : Chains} {os : List Nat}, Ord cs os → (seq cs os).length = os.length
  | _, _, .nil _ => rfl
  | _, _, .cons h o => by
    rw [seq_cons h, List.length_cons, List.length_cons, o.seq_length]
/-! ### completion times -/
def timesAt : Nat → List Job → List Nat
  | _, [] => []
  | t, j :: r => (t + j.duration) :: timesAt (t + j.duration) r
theorem completionTimes_eq : ∀ (os : List Nat) (t : Nat) (cs : Chains), Ks593.completionTimes t cs os = timesAt t (seq cs os)
  | [], t, cs => by
    unfold Ks593.completionTimes
    rfl
  | c :: os, t, cs => by
    unfold Ks593.completionTimes seq
    cases cs.getD c [] with
    | nil => exact completionTimes_eq os t cs
    | cons j r =>
      show (t + j.duration) :: Ks593.completionTimes (t + j.duration) (cs.set c r) os = (t + j.duration) :: timesAt (t + j.duration) (seq (cs.set c r) os)
      rw [completionTimes_eq os]
theorem timesAt_length : ∀ (l : List Job) (t : Nat), (timesAt t l).length = l.length
  | [], _ => rfl
  | j :: r, t => by
    show (timesAt (t + j.duration) r).length + 1 = r.length + 1
    rw [timesAt_length r]
theorem timesAt_snoc : ∀ (l : List Job) (t : Nat) (j : Job), timesAt t (l ++ [j]) = timesAt t l ++ [t + (l.map Job.duration).sum + j.duration]
  | [], t, j => rfl
  | x :: r, t, j => by
    show (t + x.duration) :: timesAt (t + x.duration) (r ++ [j]) = (t + x.duration) :: (timesAt (t + x.duration) r ++ [_])
    rw [timesAt_snoc r]
    simp only [List.map_cons, List.sum_cons, Nat.add_assoc]
/-- what is behind the i-th time, and the time itself -/
theorem timesAt_step {l : List Job} {t i : Nat} {j : Job} (h : (timesAt 0 l).drop i = timesAt t (l.drop i)) (e : l[i]? = some j) :
    (timesAt 0 l)[i]? = some (t + j.duration) ∧ (timesAt 0 l).drop (i + 1) = timesAt (t + j.duration) (l.drop (i + 1)) := by
  obtain ⟨hi, e2⟩ := List.getElem?_eq_some_iff.mp e
  rw [List.drop_eq_getElem_cons hi, e2] at h
  have h' : (timesAt 0 l).drop i = (t + j.duration) :: timesAt (t + j.duration) (l.drop (i + 1)) := h
  refine ⟨?_, ?_⟩
  · have q := List.getElem?_drop (xs := timesAt 0 l) (i := i) (j := 0)
    rw [h'] at q
    exact q.symm
  · rw [← List.drop_drop, h']
    rfl
end Cj
namespace Cj
open Ks593 (Job Chains jobCount)
/-! ### the densest prefix -/
def bestOf (js : List Job) (i : Nat) : Nat :=
  (List.range i).foldl (fun best k => if Ks593.isDenser (Ks593.prefixTotals js best) (Ks593.prefixTotals js (k + 1)) then best else k + 1) (min 1 js.length)
theorem bestOf_length (js : List Job) : Ks593.densestPrefix js = bestOf js js.length := rfl
theorem bestOf_succ (js : List Job) (i : Nat) : bestOf js (i + 1) = if Ks593.isDenser (Ks593.prefixTotals js (bestOf js i)) (Ks593.prefixTotals js (i + 1)) = true then bestOf js i else i + 1 := by
  unfold bestOf
  rw [List.range_succ, List.foldl_append]
  rfl
theorem isDenser_self (a : Nat × Nat) : Ks593.isDenser a a = false := by
  unfold Ks593.isDenser
  exact decide_eq_false (Nat.lt_irrefl _)
theorem bestOf_one {js : List Job} (h : 0 < js.length) : bestOf js 1 = 1 := by
  rw [bestOf_succ]
  have e : bestOf js 0 = 1 := by
    show min 1 js.length = 1
    omega
  rw [e]
  rw [isDenser_self, if_neg Bool.false_ne_true]
theorem bestOf_range {js : List Job} (h : 0 < js.length) : ∀ i : Nat, 1 ≤ bestOf js i ∧ bestOf js i ≤ max 1 i
  | 0 => by
    have e : bestOf js 0 = 1 := by
      show min 1 js.length = 1
      omega
    rw [e]
    omega
  | i + 1 => by
    have ih := bestOf_range h i
    rw [bestOf_succ]
    split <;> omega
theorem densest_range {js : List Job} (h : 0 < js.length) : 1 ≤ Ks593.densestPrefix js ∧ Ks593.densestPrefix js ≤ js.length := by
  have q := bestOf_range h js.length
  rw [← bestOf_length] at q
  omega
theorem take_more {α : Type} : ∀ {l : List α} {i : Nat} {x : α}, l[i]? = some x → l.take (i + 1) = l.take i ++ [x]
  | [], i, x, h => by simp at h
  | a :: l, 0, x, h => by
    have e : a = x := Option.some.inj h
    subst e
    rfl
  | a :: l, i + 1, x, h => by
    have ih := take_more (l := l) (i := i) (x := x) h
    show a :: l.take (i + 1) = a :: l.take i ++ [x]
    rw [ih]
    rfl
theorem totals_succ {js : List Job} {i : Nat} {j : Job} (h : js[i]? = some j) : Ks593.prefixTotals js (i + 1) = ((Ks593.prefixTotals js i).1 + j.weight, (Ks593.prefixTotals js i).2 + j.duration) := by
  unfold Ks593.prefixTotals
  rw [take_more h, List.map_append, List.map_append, List.sum_append, List.sum_append]
  simp
theorem totals_le {js : List Job} (h : ∀ j ∈ js, j.duration ≤ 99 ∧ j.weight ≤ 99) : ∀ k, (Ks593.prefixTotals js k).1 ≤ 99 * k ∧ (Ks593.prefixTotals js k).2 ≤ 99 * k
  | 0 => by
    unfold Ks593.prefixTotals
    simp
  | k + 1 => by
    have ih := totals_le h k
    by_cases hk : k < js.length
    · rw [totals_succ (List.getElem?_eq_getElem hk)]
      have q := h js[k] (List.getElem_mem hk)
      constructor
      · show _ + _ ≤ _
        omega
      · show _ + _ ≤ _
        omega
    · have e : Ks593.prefixTotals js (k + 1) = Ks593.prefixTotals js k := by
        unfold Ks593.prefixTotals
        rw [List.take_of_length_le (by omega), List.take_of_length_le (by omega)]
      rw [e]
      omega

/-! ### the chain that is taken -/
def pick (ok : Nat → Bool) (t : Nat → Nat × Nat) (n : Nat) : Option Nat :=
  (List.range n).foldl (fun o c => if ok c = true then (match o with | none => some c | some b => if Ks593.isDenser (t c) (t b) = true then some c else some b) else o) none
theorem pick_zero (ok : Nat → Bool) (t : Nat → Nat × Nat) : pick ok t 0 = none := rfl
theorem pick_succ (ok : Nat → Bool) (t : Nat → Nat × Nat) (n : Nat) :
    pick ok t (n + 1) = if ok n = true then (match pick ok t n with | none => some n | some b => if Ks593.isDenser (t n) (t b) = true then some n else some b) else pick ok t n := by
  unfold pick
  rw [List.range_succ, List.foldl_append]
  rfl
theorem pick_fold (ok : Nat → Bool) (t : Nat → Nat × Nat) : ∀ (l : List Nat) (b : Nat),
    l.foldl (fun o c => if ok c = true then (match o with | none => some c | some b => if Ks593.isDenser (t c) (t b) = true then some c else some b) else o) (some b)
      = some ((l.filter ok).foldl (fun best c => if Ks593.isDenser (t c) (t best) = true then c else best) b)
  | [], b => rfl
  | x :: l, b => by
    rw [List.foldl_cons, List.filter_cons]
    by_cases h : ok x = true
    · rw [if_pos h, if_pos h, List.foldl_cons]
      by_cases q : Ks593.isDenser (t x) (t b) = true
      · show List.foldl _ (if Ks593.isDenser (t x) (t b) = true then some x else some b) l = _
        rw [if_pos q, if_pos q]
        exact pick_fold ok t l x
      · show List.foldl _ (if Ks593.isDenser (t x) (t b) = true then some x else some b) l = _
        rw [if_neg q, if_neg q]
        exact pick_fold ok t l b
    · rw [if_neg h, if_neg h]
      exact pick_fold ok t l b
theorem pick_list (ok : Nat → Bool) (t : Nat → Nat × Nat) : ∀ l : List Nat,
    l.foldl (fun o c => if ok c = true then (match o with | none => some c | some b => if Ks593.isDenser (t c) (t b) = true then some c else some b) else o) none
      = match l.filter ok with | [] => none | first :: others => some (others.foldl (fun best c => if Ks593.isDenser (t c) (t best) = true then c else best) first)
  | [] => rfl
  | x :: l => by
    rw [List.foldl_cons, List.filter_cons]
    by_cases h : ok x = true
    · rw [if_pos h, if_pos h]
      exact pick_fold ok t l x
    · rw [if_neg h, if_neg h]
      exact pick_list ok t l
theorem pick_eq (ok : Nat → Bool) (t : Nat → Nat × Nat) (n : Nat) : pick ok t n = match (List.range n).filter ok with | [] => none | first :: others => some (others.foldl (fun best c => if Ks593.isDenser (t c) (t best) = true then c else best) first) :=
  pick_list ok t _
theorem pick_some {ok : Nat → Bool} {t : Nat → Nat × Nat} : ∀ {n c : Nat}, pick ok t n = some c → c < n ∧ ok c = true
  | 0, c, h => by
    rw [pick_zero] at h
    cases h
  | n + 1, c, h => by
    rw [pick_succ] at h
    by_cases q : ok n = true
    · rw [if_pos q] at h
      cases e : pick ok t n with
      | none =>
        rw [e] at h
        have e2 : n = c := Option.some.inj h
        subst e2
        exact ⟨Nat.lt_succ_self _, q⟩
      | some b =>
        rw [e] at h
        have ih := pick_some e
        have h' : (if Ks593.isDenser (t n) (t b) = true then some n else some b) = some c := h
        by_cases z : Ks593.isDenser (t n) (t b) = true
        · rw [if_pos z] at h'
          have e2 : n = c := Option.some.inj h'
          subst e2
          exact ⟨Nat.lt_succ_self _, q⟩
        · rw [if_neg z] at h'
          have e2 : b = c := Option.some.inj h'
          subst e2
          exact ⟨Nat.lt_succ_of_lt ih.1, ih.2⟩
    · rw [if_neg q] at h
      have ih := pick_some h
      exact ⟨Nat.lt_succ_of_lt ih.1, ih.2⟩
theorem pick_none {ok : Nat → Bool} {t : Nat → Nat × Nat} : ∀ {n : Nat}, pick ok t n = none → ∀ c, c < n → ok c = false
  | 0, _, c, hc => absurd hc (Nat.not_lt_zero _)
  | n + 1, h, c, hc => by
    rw [pick_succ] at h
    by_cases q : ok n = true
    · rw [if_pos q] at h
      cases e : pick ok t n with
      | none =>
        rw [e] at h
        cases h
      | some b =>
        rw [e] at h
        have h' : (if Ks593.isDenser (t n) (t b) = true then some n else some b) = none := h
        split at h' <;> cases h'
    · rw [if_neg q] at h
      by_cases z : c = n
      · subst z
        simpa using q
      · exact pick_none h c (by omega)

/-! ### the orders that are made -/
def left (cs : Chains) (c : Nat) : Bool := !(cs.getD c []).isEmpty
def dens (cs : Chains) (c : Nat) : Nat × Nat := Ks593.prefixTotals (cs.getD c []) (Ks593.densestPrefix (cs.getD c []))
def first1 (cs : Chains) (c : Nat) : Nat × Nat := Ks593.prefixTotals (cs.getD c []) 1
theorem obp_zero (cs : Chains) : Ks593.orderByPrefixes cs 0 = [] := by
  unfold Ks593.orderByPrefixes
  rfl
theorem obp_succ (cs : Chains) (fuel : Nat) : Ks593.orderByPrefixes cs (fuel + 1) = match pick (left cs) (dens cs) cs.length with
    | none => []
    | some c => List.replicate (Ks593.densestPrefix (cs.getD c [])) c ++ Ks593.orderByPrefixes (cs.set c ((cs.getD c []).drop (Ks593.densestPrefix (cs.getD c [])))) fuel := by
  rw [pick_eq]
  conv => lhs; unfold Ks593.orderByPrefixes
  show (match (List.range cs.length).filter (left cs) with | [] => _ | first :: others => _) = _
  cases (List.range cs.length).filter (left cs) with
  | nil => rfl
  | cons f o => rfl
theorem greedy_zero (cs : Chains) : Ks593.greedyOrder cs 0 = [] := by
  unfold Ks593.greedyOrder
  rfl
theorem greedy_succ (cs : Chains) (fuel : Nat) : Ks593.greedyOrder cs (fuel + 1) = match pick (left cs) (first1 cs) cs.length with
    | none => []
    | some c => c :: Ks593.greedyOrder (cs.set c ((cs.getD c []).drop 1)) fuel := by
  rw [pick_eq]
  conv => lhs; unfold Ks593.greedyOrder
  show (match (List.range cs.length).filter (left cs) with | [] => _ | first :: others => _) = _
  cases (List.range cs.length).filter (left cs) with
  | nil => rfl
  | cons f o => rfl
theorem left_iff {cs : Chains} {c : Nat} {js : List Job} (h : cs[c]? = some js) : left cs c = true ↔ 0 < js.length := by
  unfold left
  rw [getD_of h]
  cases js with
  | nil => simp
  | cons j r => simp
theorem jobCount_drop : ∀ {cs : Chains} {c : Nat} {js : List Job} (k : Nat), cs[c]? = some js → k ≤ js.length → jobCount (cs.set c (js.drop k)) + k = jobCount cs
  | [], c, js, k, h, _ => by simp at h
  | x :: cs, 0, js, k, h, hk => by
    have e : x = js := Option.some.inj h
    subst e
    show ((x.drop k :: cs).map List.length).sum + k = ((x :: cs).map List.length).sum
    simp only [List.map_cons, List.sum_cons, List.length_drop]
    omega
  | x :: cs, c + 1, js, k, h, hk => by
    have ih := jobCount_drop (cs := cs) (c := c) (js := js) k (by simpa using h) hk
    show ((x :: cs.set c (js.drop k)).map List.length).sum + k = ((x :: cs).map List.length).sum
    unfold jobCount at ih
    simp only [List.map_cons, List.sum_cons]
    omega
theorem jobCount_zero : ∀ {cs : Chains}, jobCount cs = 0 → ∀ js ∈ cs, js = []
  | [], _, js, h => by cases h
  | x :: cs, h, js, hj => by
    have h' : x.length + jobCount cs = 0 := h
    rcases List.mem_cons.mp hj with e | e
    · subst e
      exact List.length_eq_zero_iff.mp (by omega)
    · exact jobCount_zero (by omega) js e
theorem zero_jobCount : ∀ {cs : Chains}, (∀ js ∈ cs, js = []) → jobCount cs = 0
  | [], _ => rfl
  | x :: cs, h => by
    show x.length + jobCount cs = 0
    rw [h x List.mem_cons_self, zero_jobCount fun js hj => h js (List.mem_cons_of_mem _ hj)]
    rfl
theorem jobCount_le : ∀ {cs : Chains} {c : Nat} {js : List Job}, cs[c]? = some js → js.length ≤ jobCount cs
  | [], c, js, h => by simp at h
  | x :: cs, 0, js, h => by
    have e : x = js := Option.some.inj h
    subst e
    show x.length ≤ x.length + jobCount cs
    omega
  | x :: cs, c + 1, js, h => by
    have ih := jobCount_le (cs := cs) (c := c) (js := js) (by simpa using h)
    show js.length ≤ x.length + jobCount cs
    omega
theorem pick_none_zero {cs : Chains} {t : Nat → Nat × Nat} (h : pick (left cs) t cs.length = none) : ∀ js ∈ cs, js = [] := fun js hj => by
  obtain ⟨i, hi, e⟩ := List.getElem_of_mem hj
  have q := pick_none h i hi
  have e' : cs[i]? = some js := by rw [List.getElem?_eq_getElem hi, e]
  cases js with
  | nil => rfl
  | cons j r =>
    rw [(left_iff e').mpr (by simp)] at q
    cases q
theorem pick_zero_none {cs : Chains} {t : Nat → Nat × Nat} (h : ∀ js ∈ cs, js = []) : pick (left cs) t cs.length = none := by
  cases e : pick (left cs) t cs.length with
  | none => rfl
  | some c =>
    obtain ⟨hc, q⟩ := pick_some e
    have z := (left_iff (List.getElem?_eq_getElem hc)).mp q
    rw [h _ (List.getElem_mem hc)] at z
    exact absurd z (Nat.lt_irrefl _)
/-- the chain that is taken has a job -/
theorem pick_at {cs : Chains} {t : Nat → Nat × Nat} {c : Nat} (h : pick (left cs) t cs.length = some c) : ∃ js, cs[c]? = some js ∧ 0 < js.length := by
  obtain ⟨hc, q⟩ := pick_some h
  exact ⟨_, List.getElem?_eq_getElem hc, (left_iff (List.getElem?_eq_getElem hc)).mp q⟩
theorem ord_rep : ∀ (k : Nat) {cs : Chains} {c : Nat} {js : List Job} {os : List Nat}, cs[c]? = some js → k ≤ js.length → Ord (cs.set c (js.drop k)) os → Ord cs (List.replicate k c ++ os)
  | 0, cs, c, js, os, h, _, o => by
    have e : cs.set c js = cs := by
      obtain ⟨hc, e⟩ := List.getElem?_eq_some_iff.mp h
      rw [← e]
      exact List.set_getElem_self hc
    rw [List.drop_zero, e] at o
    exact o
  | k + 1, cs, c, [], os, h, hk, o => by simp at hk
  | k + 1, cs, c, j :: r, os, h, hk, o => by
    rw [List.replicate_succ, List.cons_append]
    refine .cons h ?_
    have hc := (List.getElem?_eq_some_iff.mp h).1
    refine ord_rep k (js := r) (List.getElem?_set_self hc) (by simpa using hk) ?_
    rw [List.set_set]
    exact o
theorem ord_obp : ∀ (fuel : Nat) (cs : Chains), jobCount cs ≤ fuel → Ord cs (Ks593.orderByPrefixes cs fuel)
  | 0, cs, h => by
    rw [obp_zero]
    exact .nil (jobCount_zero (by omega))
  | fuel + 1, cs, h => by
    rw [obp_succ]
    cases e : pick (left cs) (dens cs) cs.length with
    | none => exact .nil (pick_none_zero e)
    | some c =>
      obtain ⟨js, e1, e2⟩ := pick_at e
      have q := densest_range e2
      show Ord cs (List.replicate (Ks593.densestPrefix (cs.getD c [])) c ++ Ks593.orderByPrefixes (cs.set c ((cs.getD c []).drop (Ks593.densestPrefix (cs.getD c [])))) fuel)
      rw [getD_of e1]
      refine ord_rep _ e1 q.2 (ord_obp fuel _ ?_)
      have z := jobCount_drop _ e1 q.2
      omega
theorem ord_greedy : ∀ (fuel : Nat) (cs : Chains), jobCount cs ≤ fuel → Ord cs (Ks593.greedyOrder cs fuel)
  | 0, cs, h => by
    rw [greedy_zero]
    exact .nil (jobCount_zero (by omega))
  | fuel + 1, cs, h => by
    rw [greedy_succ]
    cases e : pick (left cs) (first1 cs) cs.length with
    | none => exact .nil (pick_none_zero e)
    | some c =>
      obtain ⟨js, e1, e2⟩ := pick_at e
      show Ord cs (c :: Ks593.greedyOrder (cs.set c ((cs.getD c []).drop 1)) fuel)
      rw [getD_of e1]
      refine ord_rep 1 e1 e2 (ord_greedy fuel _ ?_)
      have z := jobCount_drop 1 e1 e2
      omega
theorem obp_done {cs : Chains} (h : jobCount cs = 0) (fuel : Nat) : Ks593.orderByPrefixes cs fuel = [] := by
  cases fuel with
  | zero => exact obp_zero cs
  | succ f =>
    rw [obp_succ, pick_zero_none (jobCount_zero h)]
theorem greedy_done {cs : Chains} (h : jobCount cs = 0) (fuel : Nat) : Ks593.greedyOrder cs fuel = [] := by
  cases fuel with
  | zero => exact greedy_zero cs
  | succ f =>
    rw [greedy_succ, pick_zero_none (jobCount_zero h)]
end Cj
namespace Cj
open Ks593 (Job Chains jobCount)
/-! ### orders by prefixes of at most L jobs -/
theorem pick_congr {ok : Nat → Bool} {t u : Nat → Nat × Nat} : ∀ {n : Nat}, (∀ c, c < n → ok c = true → t c = u c) → pick ok t n = pick ok u n
  | 0, _ => rfl
  | n + 1, h => by
    have ih := pick_congr (n := n) fun c hc hk => h c (Nat.lt_succ_of_lt hc) hk
    rw [pick_succ, pick_succ, ih]
    by_cases q : ok n = true
    · rw [if_pos q, if_pos q]
      cases e : pick ok u n with
      | none => rfl
      | some b =>
        have z := pick_some e
        show (if Ks593.isDenser (t n) (t b) = true then some n else some b) = if Ks593.isDenser (u n) (u b) = true then some n else some b
        rw [h n (Nat.lt_succ_self _) q, h b (Nat.lt_succ_of_lt z.1) z.2]
    · rw [if_neg q, if_neg q]
def densL (L : Nat) (cs : Chains) (c : Nat) : Nat × Nat := Ks593.prefixTotals ((cs.getD c []).take L) (Ks593.densestPrefix ((cs.getD c []).take L))
def ordBy (L : Nat) : Chains → Nat → List Nat
  | _, 0 => []
  | cs, fuel + 1 => match pick (left cs) (densL L cs) cs.length with
    | none => []
    | some c => List.replicate (Ks593.densestPrefix ((cs.getD c []).take L)) c ++ ordBy L (cs.set c ((cs.getD c []).drop (Ks593.densestPrefix ((cs.getD c []).take L)))) fuel
theorem ordBy_zero (L : Nat) (cs : Chains) : ordBy L cs 0 = [] := rfl
theorem ordBy_succ (L : Nat) (cs : Chains) (fuel : Nat) : ordBy L cs (fuel + 1) = match pick (left cs) (densL L cs) cs.length with
    | none => []
    | some c => List.replicate (Ks593.densestPrefix ((cs.getD c []).take L)) c ++ ordBy L (cs.set c ((cs.getD c []).drop (Ks593.densestPrefix ((cs.getD c []).take L)))) fuel := rfl
theorem left_pos {cs : Chains} {c : Nat} (h : left cs c = true) : 0 < (cs.getD c []).length := by
  unfold left at h
  cases e : cs.getD c [] with
  | nil => rw [e] at h; cases h
  | cons j r => simp
theorem dens_one {js : List Job} (h : 0 < js.length) : Ks593.densestPrefix (js.take 1) = 1 := by
  have l : (js.take 1).length = 1 := by rw [List.length_take]; omega
  have q := densest_range (js := js.take 1) (by omega)
  omega
theorem totals_one (js : List Job) : Ks593.prefixTotals (js.take 1) 1 = Ks593.prefixTotals js 1 := by
  unfold Ks593.prefixTotals
  rw [List.take_take]
  rfl
theorem ordBy_one : ∀ (fuel : Nat) (cs : Chains), ordBy 1 cs fuel = Ks593.greedyOrder cs fuel
  | 0, cs => by rw [greedy_zero]; rfl
  | fuel + 1, cs => by
    rw [greedy_succ, ordBy_succ]
    have p : pick (left cs) (densL 1 cs) cs.length = pick (left cs) (first1 cs) cs.length := pick_congr fun c _ hc => by
      unfold densL first1
      rw [dens_one (left_pos hc), totals_one]
    rw [p]
    cases e : pick (left cs) (first1 cs) cs.length with
    | none => rfl
    | some c =>
      have z := left_pos (pick_some e).2
      show List.replicate (Ks593.densestPrefix ((cs.getD c []).take 1)) c ++ ordBy 1 (cs.set c ((cs.getD c []).drop (Ks593.densestPrefix ((cs.getD c []).take 1)))) fuel = c :: Ks593.greedyOrder (cs.set c ((cs.getD c []).drop 1)) fuel
      rw [dens_one z, ordBy_one fuel]
      rfl
theorem ordBy_all (L : Nat) : ∀ (fuel : Nat) (cs : Chains), (∀ js ∈ cs, js.length ≤ L) → ordBy L cs fuel = Ks593.orderByPrefixes cs fuel
  | 0, cs, _ => by rw [obp_zero]; rfl
  | fuel + 1, cs, h => by
    rw [obp_succ, ordBy_succ]
    have tk : ∀ c, (cs.getD c []).take L = cs.getD c [] := fun c => by
      refine List.take_of_length_le ?_
      cases e : cs[c]? with
      | none => rw [List.getD_eq_getElem?_getD, e]; exact Nat.zero_le _
      | some js => rw [getD_of e]; exact h js (List.mem_of_getElem? e)
    have p : pick (left cs) (densL L cs) cs.length = pick (left cs) (dens cs) cs.length := pick_congr fun c _ hc => by
      unfold densL dens
      rw [tk]
    rw [p]
    cases e : pick (left cs) (dens cs) cs.length with
    | none => rfl
    | some c =>
      show List.replicate (Ks593.densestPrefix ((cs.getD c []).take L)) c ++ ordBy L (cs.set c ((cs.getD c []).drop (Ks593.densestPrefix ((cs.getD c []).take L)))) fuel = List.replicate (Ks593.densestPrefix (cs.getD c [])) c ++ Ks593.orderByPrefixes (cs.set c ((cs.getD c []).drop (Ks593.densestPrefix (cs.getD c [])))) fuel
      rw [tk, ordBy_all L fuel]
      intro js hj
      rcases List.mem_or_eq_of_mem_set hj with z | z
      · exact h js z
      · rw [z, List.length_drop]
        have q : (cs.getD c []).length ≤ L := by
          cases e : cs[c]? with
          | none => rw [List.getD_eq_getElem?_getD, e]; exact Nat.zero_le _
          | some js => rw [getD_of e]; exact h js (List.mem_of_getElem? e)
        omega
theorem densL_range {js : List Job} {L : Nat} (h : 0 < js.length) (hL : 0 < L) : 1 ≤ Ks593.densestPrefix (js.take L) ∧ Ks593.densestPrefix (js.take L) ≤ js.length := by
  have l : (js.take L).length = min L js.length := List.length_take
  have q := densest_range (js := js.take L) (by omega)
  omega
theorem ord_ordBy {L : Nat} (hL : 0 < L) : ∀ (fuel : Nat) (cs : Chains), jobCount cs ≤ fuel → Ord cs (ordBy L cs fuel)
  | 0, cs, h => by
    rw [ordBy_zero]
    exact .nil (jobCount_zero (by omega))
  | fuel + 1, cs, h => by
    rw [ordBy_succ]
    cases e : pick (left cs) (densL L cs) cs.length with
    | none => exact .nil (pick_none_zero e)
    | some c =>
      obtain ⟨js, e1, e2⟩ := pick_at e
      have q := densL_range (L := L) e2 hL
      show Ord cs (List.replicate (Ks593.densestPrefix ((cs.getD c []).take L)) c ++ ordBy L (cs.set c ((cs.getD c []).drop (Ks593.densestPrefix ((cs.getD c []).take L)))) fuel)
      rw [getD_of e1]
      refine ord_rep _ e1 q.2 (ord_ordBy hL fuel _ ?_)
      have z := jobCount_drop _ e1 q.2
      omega
theorem ordBy_done {L : Nat} {cs : Chains} (h : jobCount cs = 0) (fuel : Nat) : ordBy L cs fuel = [] := by
  cases fuel with
  | zero => exact ordBy_zero L cs
  | succ f =>
    rw [ordBy_succ, pick_zero_none (jobCount_zero h)]
theorem densL_le {L : Nat} {cs : Chains} (h : ∀ js ∈ cs, js.length ≤ 30 ∧ ∀ j ∈ js, j.duration ≤ 99 ∧ j.weight ≤ 99) (c : Nat) : (densL L cs c).1 ≤ 1000000 := by
  have key : ∀ js : List Job, (js.length ≤ 30 ∧ ∀ j ∈ js, j.duration ≤ 99 ∧ j.weight ≤ 99) → (Ks593.prefixTotals (js.take L) (Ks593.densestPrefix (js.take L))).1 ≤ 1000000 := fun js q => by
    have w := totals_le (js := js.take L) (fun j hj => q.2 j (List.mem_of_mem_take hj)) (Ks593.densestPrefix (js.take L))
    have b : Ks593.densestPrefix (js.take L) ≤ 30 := by
      have l : (js.take L).length = min L js.length := List.length_take
      by_cases z : 0 < (js.take L).length
      · have q2 := (densest_range z).2
        have q3 := q.1
        omega
      · have e : js.take L = [] := List.length_eq_zero_iff.mp (by omega)
        rw [e]
        exact Nat.zero_le _
    omega
  unfold densL
  cases e : cs[c]? with
  | none =>
    rw [List.getD_eq_getElem?_getD, e]
    exact key [] ⟨Nat.zero_le _, fun _ z => by cases z⟩
  | some js =>
    rw [getD_of e]
    exact key js (h js (List.mem_of_getElem? e))
end Cj
namespace Cj
open Ks593 (Job Chains jobCount)
/-! ### how many orders there are -/
def fact : Nat → Nat
  | 0 => 1
  | n + 1 => (n + 1) * fact n
theorem fact_pos : ∀ n, 0 < fact n
  | 0 => Nat.one_pos
  | n + 1 => Nat.mul_pos (Nat.succ_pos n) (fact_pos n)
/-- the product of the chains' factorials -/
def facts : Chains → Nat
  | [] => 1
  | js :: cs => fact js.length * facts cs
theorem facts_pos : ∀ cs, 0 < facts cs
  | [] => Nat.one_pos
  | js :: cs => Nat.mul_pos (fact_pos _) (facts_pos cs)
theorem facts_set : ∀ {cs : Chains} {c : Nat} {j : Job} {r : List Job}, cs[c]? = some (j :: r) → facts cs = (r.length + 1) * facts (cs.set c r)
  | [], c, j, r, h => by simp at h
  | x :: cs, 0, j, r, h => by
    have e : x = j :: r := Option.some.inj h
    subst e
    show (r.length + 1) * fact r.length * facts cs = (r.length + 1) * (fact r.length * facts cs)
    rw [Nat.mul_assoc]
  | x :: cs, c + 1, j, r, h => by
    have ih := facts_set (cs := cs) (c := c) (j := j) (r := r) (by simpa using h)
    show fact x.length * facts cs = (r.length + 1) * (fact x.length * facts (cs.set c r))
    rw [ih, Nat.mul_left_comm]
theorem facts_nil : ∀ {cs : Chains}, (∀ js ∈ cs, js = []) → facts cs = 1
  | [], _ => rfl
  | x :: cs, h => by
    show fact x.length * facts cs = 1
    rw [h x List.mem_cons_self, facts_nil fun js hj => h js (List.mem_cons_of_mem _ hj)]
    rfl
theorem sum_mul {α : Type} (f : α → Nat) (k : Nat) : ∀ l : List α, (l.map f).sum * k = (l.map fun x => f x * k).sum
  | [] => Nat.zero_mul k
  | x :: l => by
    rw [List.map_cons, List.map_cons, List.sum_cons, List.sum_cons, Nat.add_mul, sum_mul f k l]
theorem allOrders_succ (cs : Chains) (n : Nat) : (Ks593.allOrders cs (n + 1)).length = ((List.range cs.length).map fun c => match cs.getD c [] with | [] => 0 | _ :: rest => (Ks593.allOrders (cs.set c rest) n).length).sum := by
  conv => lhs; unfold Ks593.allOrders
  rw [List.length_flatMap]
  refine congrArg List.sum (List.map_congr_left fun c _ => ?_)
  show (match cs.getD c [] with | [] => [] | _ :: rest => (Ks593.allOrders (cs.set c rest) n).map fun order => c :: order).length = _
  cases cs.getD c [] with
  | nil => rfl
  | cons j r => exact List.length_map _
theorem allOrders_fact : ∀ (n : Nat) (cs : Chains), jobCount cs = n → (Ks593.allOrders cs n).length * facts cs = fact n
  | 0, cs, h => by
    rw [facts_nil (jobCount_zero h)]
    unfold Ks593.allOrders
    rfl
  | n + 1, cs, h => by
    rw [allOrders_succ, sum_mul]
    have e : ((List.range cs.length).map fun c => (match cs.getD c [] with | [] => 0 | _ :: rest => (Ks593.allOrders (cs.set c rest) n).length) * facts cs) = (List.range cs.length).map fun c => (cs.getD c []).length * fact n := by
      refine List.map_congr_left fun c hc => ?_
      have hc' : c < cs.length := List.mem_range.mp hc
      have g := List.getElem?_eq_getElem hc'
      generalize cs[c] = js at g
      rw [getD_of g]
      cases js with
      | nil => exact (Nat.zero_mul _).trans (Nat.zero_mul _).symm
      | cons j r =>
        have jc := jobCount_set g
        have ih := allOrders_fact n (cs.set c r) (by omega)
        show (Ks593.allOrders (cs.set c r) n).length * facts cs = (r.length + 1) * fact n
        rw [facts_set g, Nat.mul_left_comm, ih]
    rw [e, ← sum_mul, getD_range]
    show jobCount cs * fact n = (n + 1) * fact n
    rw [h]
theorem orders_is {cs : Chains} {x : Nat} (h : x * facts cs = fact (jobCount cs)) : (Ks593.allOrders cs (jobCount cs)).length = x :=
  Nat.eq_of_mul_eq_mul_right (facts_pos cs) ((allOrders_fact _ cs rfl).trans h.symm)
theorem orders_div (cs : Chains) : (Ks593.allOrders cs (jobCount cs)).length = fact (jobCount cs) / facts cs :=
  (Nat.div_eq_of_eq_mul_left (facts_pos cs) (allOrders_fact _ cs rfl).symm).symm
/-- binomials, by Pascal's triangle -/
def choose : Nat → Nat → Nat
  | _, 0 => 1
  | 0, _ + 1 => 0
  | n + 1, k + 1 => choose n k + choose n (k + 1)
theorem choose_zero (n : Nat) : choose n 0 = 1 := by cases n <;> rfl
theorem choose_gt : ∀ {n k : Nat}, n < k → choose n k = 0
  | 0, k + 1, _ => rfl
  | n + 1, k + 1, h => by
    show choose n k + choose n (k + 1) = 0
    rw [choose_gt (by omega), choose_gt (by omega)]
theorem choose_fact : ∀ (m n k : Nat), n + k = m → choose m k * (fact n * fact k) = fact m
  | m, n, 0, h => by
    have e : n = m := h
    subst e
    rw [choose_zero, Nat.one_mul]
    exact Nat.mul_one _
  | 0, n, k + 1, h => by omega
  | m + 1, 0, k + 1, h => by
    have ih := choose_fact m 0 k (by omega)
    have e : m < k + 1 := by omega
    show (choose m k + choose m (k + 1)) * (fact 0 * fact (k + 1)) = fact (m + 1)
    rw [choose_gt e, Nat.add_zero]
    have e2 : k = m := by omega
    subst e2
    show choose k k * (fact 0 * ((k + 1) * fact k)) = (k + 1) * fact k
    rw [Nat.mul_left_comm (fact 0), Nat.mul_left_comm, ih]
  | m + 1, n + 1, k + 1, h => by
    have h1 := choose_fact m (n + 1) k (by omega)
    have h2 := choose_fact m n (k + 1) (by omega)
    show (choose m k + choose m (k + 1)) * (fact (n + 1) * fact (k + 1)) = fact (m + 1)
    have a1 : choose m k * (fact (n + 1) * fact (k + 1)) = (k + 1) * fact m := by
      show choose m k * (fact (n + 1) * ((k + 1) * fact k)) = _
      rw [Nat.mul_left_comm (fact (n + 1)), Nat.mul_left_comm, h1]
    have a2 : choose m (k + 1) * (fact (n + 1) * fact (k + 1)) = (n + 1) * fact m := by
      show choose m (k + 1) * ((n + 1) * fact n * fact (k + 1)) = _
      rw [Nat.mul_assoc (n + 1), Nat.mul_left_comm, h2]
    rw [Nat.add_mul, a1, a2, ← Nat.add_mul]
    have e : k + 1 + (n + 1) = m + 1 := by omega
    rw [e]
    rfl
/-- one more place, one more job of the chain: count * placed // k -/
theorem choose_step (n k : Nat) : choose (n + (k + 1)) (k + 1) * (k + 1) = choose (n + k) k * (n + (k + 1)) := by
  have h1 := choose_fact (n + (k + 1)) n (k + 1) rfl
  have h2 := choose_fact (n + k) n k rfl
  have e : fact (n + (k + 1)) = (n + (k + 1)) * fact (n + k) := rfl
  have p : 0 < fact n * fact k := Nat.mul_pos (fact_pos n) (fact_pos k)
  refine Nat.eq_of_mul_eq_mul_right p ?_
  rw [e, ← h2] at h1
  have e2 : fact n * fact (k + 1) = (k + 1) * (fact n * fact k) := by
    show fact n * ((k + 1) * fact k) = _
    rw [Nat.mul_left_comm]
  rw [e2, ← Nat.mul_assoc] at h1
  rw [h1, Nat.mul_comm (choose (n + k) k) (n + (k + 1)), Nat.mul_assoc]
/-- the chains taken one by one: the product of binomials -/
def multi : Nat → Chains → Nat
  | _, [] => 1
  | p, js :: cs => choose (p + js.length) js.length * multi (p + js.length) cs
theorem multi_fact : ∀ (cs : Chains) (p : Nat), multi p cs * (fact p * facts cs) = fact (p + jobCount cs)
  | [], p => by
    show 1 * (fact p * 1) = fact (p + 0)
    rw [Nat.one_mul, Nat.mul_one, Nat.add_zero]
  | js :: cs, p => by
    have ih := multi_fact cs (p + js.length)
    have c := choose_fact (p + js.length) p js.length rfl
    show choose (p + js.length) js.length * multi (p + js.length) cs * (fact p * (fact js.length * facts cs)) = fact (p + (js.length + jobCount cs))
    rw [← Nat.add_assoc, ← ih, ← c]
    generalize choose (p + js.length) js.length = A
    generalize multi (p + js.length) cs = B
    generalize fact p = C
    generalize fact js.length = D
    generalize facts cs = E
    simp only [Nat.mul_assoc, Nat.mul_comm, Nat.mul_left_comm]
theorem orders_multi (cs : Chains) : (Ks593.allOrders cs (jobCount cs)).length = multi 0 cs := by
  refine orders_is ?_
  have h := multi_fact cs 0
  rw [Nat.zero_add] at h
  show multi 0 cs * facts cs = _
  rw [← h]
  show _ = multi 0 cs * (1 * facts cs)
  rw [Nat.one_mul]
/-! ### two chains with each other's number -/
theorem jobCount_setAny : ∀ {cs : Chains} {c : Nat} {x : List Job}, c < cs.length → jobCount (cs.set c x) + (cs.getD c []).length = jobCount cs + x.length
  | [], c, x, h => absurd h (Nat.not_lt_zero c)
  | y :: cs, 0, x, h => by
    show x.length + jobCount cs + y.length = y.length + jobCount cs + x.length
    omega
  | y :: cs, c + 1, x, h => by
    have ih := jobCount_setAny (cs := cs) (c := c) (x := x) (by simpa using h)
    show y.length + jobCount (cs.set c x) + (cs.getD c []).length = y.length + jobCount cs + x.length
    omega
theorem swap_length (cs : Chains) (c d : Nat) : (Ks593.swapChains cs c d).length = cs.length := by
  unfold Ks593.swapChains
  rw [List.length_set, List.length_set]
theorem swap_count {cs : Chains} {c d : Nat} (hc : c < cs.length) (hd : d < cs.length) : jobCount (Ks593.swapChains cs c d) = jobCount cs := by
  unfold Ks593.swapChains
  have h1 := jobCount_setAny (cs := cs) (c := c) (x := cs.getD d []) hc
  have h2 := jobCount_setAny (cs := cs.set c (cs.getD d [])) (c := d) (x := cs.getD c []) (by rw [List.length_set]; exact hd)
  have e : (cs.set c (cs.getD d [])).getD d [] = cs.getD d [] := by
    rw [List.getD_eq_getElem?_getD]
    by_cases z : c = d
    · subst z
      rw [List.getElem?_set_self hc]
      rfl
    · rw [List.getElem?_set_ne z, ← List.getD_eq_getElem?_getD]
  rw [e] at h2
  omega
theorem getD_mem {cs : Chains} {c : Nat} (h : c < cs.length) : cs.getD c [] ∈ cs := by
  rw [List.getD_eq_getElem?_getD, List.getElem?_eq_getElem h]
  exact List.getElem_mem h
theorem good_swap {cs : Chains} {c d : Nat} (g : Good cs) (hc : c < cs.length) (hd : d < cs.length) : Good (Ks593.swapChains cs c d) := by
  refine ⟨by rw [swap_length]; exact g.len, by rw [swap_count hc hd]; exact g.cnt, fun js hj j hjj => ?_⟩
  unfold Ks593.swapChains at hj
  rcases List.mem_or_eq_of_mem_set hj with z | z
  · rcases List.mem_or_eq_of_mem_set z with y | y
    · exact g.job js y j hjj
    · rw [y] at hjj
      exact g.job _ (getD_mem hd) j hjj
  · rw [z] at hjj
    exact g.job _ (getD_mem hc) j hjj
end Cj
/-! # how chains lie in the heap -/
namespace Cj
open PySem PySem.Spec PyProof.Rows L2
open Ks593 (Job Chains jobCount)
/-- two lists, item by item -/
structure All2 {α β : Type} (R : α → β → Prop) (xs : List α) (ys : List β) : Prop where
  len : xs.length = ys.length
  at_ : ∀ (i : Nat) (x : α) (y : β), xs[i]? = some x → ys[i]? = some y → R x y
section
variable {α β : Type} {R S : α → β → Prop} {xs : List α} {ys : List β}
theorem All2.nil : All2 R [] [] := ⟨rfl, fun i x y h => by simp at h⟩
theorem All2.mono (h : All2 R xs ys) (f : ∀ x y, R x y → S x y) : All2 S xs ys := ⟨h.len, fun i x y h1 h2 => f x y (h.at_ i x y h1 h2)⟩
theorem All2.snoc {x : α} {y : β} (h : All2 R xs ys) (r : R x y) : All2 R (xs ++ [x]) (ys ++ [y]) := by
  refine ⟨by rw [List.length_append, List.length_append, h.len]; rfl, fun i a b h1 h2 => ?_⟩
  by_cases c : i < xs.length
  · rw [List.getElem?_append_left c] at h1
    rw [List.getElem?_append_left (by rw [← h.len]; exact c)] at h2
    exact h.at_ i a b h1 h2
  · rw [List.getElem?_append_right (by omega)] at h1
    rw [List.getElem?_append_right (by have := h.len; omega)] at h2
    have e : i - xs.length = i - ys.length := by rw [h.len]
    rw [e] at h1
    have z : i - ys.length = 0 := by
      have q := (List.getElem?_eq_some_iff.mp h2).1
      simp only [List.length_singleton] at q
      omega
    rw [z] at h1 h2
    cases h1
    cases h2
    exact r
theorem All2.getY (h : All2 R xs ys) {i : Nat} {x : α} (e : xs[i]? = some x) : ∃ y, ys[i]? = some y ∧ R x y := by
  have q := (List.getElem?_eq_some_iff.mp e).1
  have q2 : i < ys.length := by rw [← h.len]; exact q
  exact ⟨ys[i], List.getElem?_eq_getElem q2, h.at_ i x _ e (List.getElem?_eq_getElem q2)⟩
theorem All2.getX (h : All2 R xs ys) {i : Nat} {y : β} (e : ys[i]? = some y) : ∃ x, xs[i]? = some x ∧ R x y := by
  have q := (List.getElem?_eq_some_iff.mp e).1
  have q2 : i < xs.length := by rw [h.len]; exact q
  exact ⟨xs[i], List.getElem?_eq_getElem q2, h.at_ i _ y (List.getElem?_eq_getElem q2) e⟩
theorem All2.set {x : α} {y : β} (h : All2 R xs ys) (k : Nat) (r : R x y) : All2 R (xs.set k x) (ys.set k y) := by
  refine ⟨by rw [List.length_set, List.length_set, h.len], fun i a b h1 h2 => ?_⟩
  by_cases c : k = i
  · subst c
    have q1 : k < xs.length := by
      have := (List.getElem?_eq_some_iff.mp h1).1
      rw [List.length_set] at this
      exact this
    rw [List.getElem?_set_self q1] at h1
    rw [List.getElem?_set_self (by rw [← h.len]; exact q1)] at h2
    cases h1
    cases h2
    exact r
  · rw [List.getElem?_set_ne c] at h1 h2
    exact h.at_ i a b h1 h2
theorem All2.drop (h : All2 R xs ys) (k : Nat) : All2 R (xs.drop k) (ys.drop k) := by
  refine ⟨by rw [List.length_drop, List.length_drop, h.len], fun i a b h1 h2 => ?_⟩
  rw [List.getElem?_drop] at h1 h2
  exact h.at_ _ a b h1 h2
end
/-! ### heaps -/
theorem same_upd {H : Hp} {p : Addr} {o : HO} (h : H p = Option.none) : Same H (upd H p o) := fun b x e => by
  rw [upd_ne (ne_of_none e h)]
  exact e
theorem same_into {H H' : Hp} {p : Addr} {o : HO} (s : Same H H') (h : H p = Option.none) : Same H (upd H' p o) := fun b x e => by
  rw [upd_ne (ne_of_none e h)]
  exact s b x e
/-- what is in H' and was not in H -/
def fresh (H H' : Hp) : Hp := fun b => match H b with
  | none => H' b
  | some _ => Option.none
theorem fresh_same {H H' : Hp} : Same (fresh H H') H' := fun b o e => by
  unfold fresh at e
  cases h : H b with
  | none => rw [h] at e; exact e
  | some x => rw [h] at e; cases e
theorem fresh_at {H H' : Hp} {b : Addr} (h : H b = Option.none) : fresh H H' b = H' b := by
  unfold fresh
  rw [h]
/-- H without what stands at c -/
def less (c : Addr) (H : Hp) : Hp := fun b => if b = c then Option.none else H b
theorem less_same {c : Addr} {H : Hp} : Same (less c H) H := fun b o e => by
  unfold less at e
  by_cases h : b = c
  · rw [if_pos h] at e; cases e
  · rw [if_neg h] at e; exact e
theorem less_at {c : Addr} {H : Hp} : less c H c = Option.none := if_pos rfl
theorem less_ne {c b : Addr} {H : Hp} (h : b ≠ c) : less c H b = H b := if_neg h
theorem same_less {c : Addr} {H H' : Hp} (s : Same H H') (h : H c = Option.none) : Same H (less c H') := fun b o e => by
  rw [less_ne (ne_of_none e h)]
  exact s b o e
/-- what is new stands apart from what stood -/
theorem fresh_less {c : Addr} {H H' : Hp} {o : HO} (h : H c = some o) : Same (fresh H H') (less c H') := fun b u e => by
  have q : b ≠ c := fun z => by
    subst z
    unfold fresh at e
    rw [h] at e
    cases e
  rw [less_ne q]
  exact fresh_same b u e
/-! ### jobs, chains -/
def jobV (j : Job) : List V := [.int (j.duration : Int), .int (j.weight : Int)]
def JobT (H : Hp) (a : Addr) (j : Job) : Prop := H a = some (.tup (jobV j))
def JobsL (H : Hp) (a : Addr) (js : List Job) : Prop := ∃ ps : List Addr, H a = some (.lst (ps.map V.ref)) ∧ All2 (JobT H) ps js
def ChL (H : Hp) (a : Addr) (cs : Chains) : Prop := ∃ qs : List Addr, H a = some (.lst (qs.map V.ref)) ∧ All2 (JobsL H) qs cs
theorem JobT.same {H H' : Hp} {a : Addr} {j : Job} (h : JobT H a j) (s : Same H H') : JobT H' a j := s a _ h
theorem JobsL.same {H H' : Hp} {a : Addr} {js : List Job} (h : JobsL H a js) (s : Same H H') : JobsL H' a js :=
  let ⟨ps, h1, h2⟩ := h
  ⟨ps, s a _ h1, h2.mono fun _ _ q => q.same s⟩
theorem ChL.same {H H' : Hp} {a : Addr} {cs : Chains} (h : ChL H a cs) (s : Same H H') : ChL H' a cs :=
  let ⟨qs, h1, h2⟩ := h
  ⟨qs, s a _ h1, h2.mono fun _ _ q => q.same s⟩
/-- natural numbers as values -/
def intsV (l : List Nat) : List V := l.map fun (n : Nat) => V.int (n : Int)
theorem intsV_map (l : List Nat) : intsV l = (l.map fun (n : Nat) => (n : Int)).map V.int := by
  unfold intsV
  rw [List.map_map]
  rfl
theorem intsV_at {l : List Nat} {i n : Nat} (h : l[i]? = some n) : (intsV l)[i]? = some (.int (n : Int)) := by
  unfold intsV
  rw [List.getElem?_map, h]
  rfl
theorem intsV_length (l : List Nat) : (intsV l).length = l.length := by
  unfold intsV
  exact List.length_map _
theorem of_ints {ns : List Int} {hi : Int} (h : ns.all (PySem.W.Codec.inInt 0 hi) = true) : ns.map V.int = intsV (ns.map Int.toNat) := by
  unfold intsV
  rw [List.map_map]
  refine List.map_congr_left fun x hx => ?_
  have q := List.all_eq_true.mp h x hx
  have q2 := (PySem.W.Codec.inInt_iff.mp q).1
  show V.int x = V.int ((x.toNat : Nat) : Int)
  rw [Int.toNat_of_nonneg q2]
theorem refs_at {ps : List Addr} {i : Nat} {v : V} (h : (ps.map V.ref)[i]? = some v) : ∃ p, ps[i]? = some p ∧ v = .ref p := by
  rw [List.getElem?_map] at h
  cases e : ps[i]? with
  | none => rw [e] at h; cases h
  | some p => rw [e] at h; exact ⟨p, rfl, (Option.some.inj h).symm⟩
theorem cut_nat {xs : List V} {a b : Nat} (h1 : a ≤ b) (h2 : b ≤ xs.length) : cutV xs (some (a : Int)) (some (b : Int)) = (xs.drop a).take (b - a) := by
  unfold cutV
  rw [HT.sIx_nat, HT.sIx_nat, Nat.min_eq_left h2, Nat.min_eq_left (by omega)]
theorem cut_from {xs : List V} {a : Nat} (h : a ≤ xs.length) : cutV xs (some (a : Int)) none = xs.drop a := by
  unfold cutV
  rw [HT.sIx_nat, HT.sIx_none, Nat.min_eq_left h]
  exact List.take_of_length_le (by rw [List.length_drop]; omega)
theorem small30 {n : Nat} (h : n ≤ 30) : n < sizeLine := Nat.lt_of_le_of_lt h (by decide)
/-- what the module's names hold -/
structure Txt (mg : Str → Option Value) : Prop where
  len : mg "len" = none
  range : mg "range" = none
  sum : mg "sum" = none
  mC : ∃ t, mg "MAX_CHAINS" = some (.int 4 t)
  mJ : ∃ t, mg "MAX_JOBS" = some (.int 7 t)
  mD : ∃ t, mg "MAX_DURATION" = some (.int 99 t)
  mW : ∃ t, mg "MAX_WEIGHT" = some (.int 99 t)
  mO : ∃ t, mg "OUTSIDE_LIMITS" = some (.int (-22) t)
end Cj
namespace Cj
open PySem PySem.Spec PyProof.Rows L2
open Ks593 (Job Chains jobCount)
def topS (i : Nat) : Stmt := PySem.Challenge.pw_chainjobs_s06_count_orders.main.body.getD i (.Pass ⟨0, 0, 0, 0⟩)
abbrev s_count_orders : Stmt := topS 6
abbrev s_read_chains : Stmt := topS 7
abbrev s_read_jobs : Stmt := topS 8
abbrev s_are_within_limits : Stmt := topS 9
abbrev s_number_of_jobs : Stmt := topS 10
abbrev s_number_of_orders : Stmt := topS 11
/-- len(xs) of a list or tuple, by values -/
def rLen (K : PySem.W.Frag) : List V → Hp → VK → Prop := fun xs H Q => ∃ p ys, xs = [.ref p] ∧ (SqL K H p ys ∨ SqT K H p ys) ∧ Q (.int ys.length) H
section
variable {P : Program} {w : World} {K : PySem.W.Frag} {mg : Str → Option Value} {base : Heap}
/-! ### number_of_jobs -/
theorem sum_cast : ∀ cs : Chains, ((cs.map fun js => (js.length : Int)).sum) = ((jobCount cs : Nat) : Int)
  | [] => rfl
  | x :: cs => by
    rw [List.map_cons, List.sum_cons, sum_cast cs]
    show _ = ((x.length + jobCount cs : Nat) : Int)
    omega
def spNum : Sp := fun vs H Q _ => ∃ (a : Addr) (cs : Chains), vs = [.ref a] ∧ ChL H a cs ∧ cs.length ≤ 30 ∧ ∀ H', Same H H' → Q (.int (jobCount cs : Nat)) H'
theorem scNum : FnScope ["chain_jobs", "jobs"] ["chain_jobs"] (defScope s_number_of_jobs) := ⟨rfl, rfl, rfl, by decide +kernel, rfl, by decide +kernel, by decide +kernel⟩
theorem ok_num {f : Addr} {fd : FuncData} (F : Fun K "number_of_jobs" "number_of_jobs" s_number_of_jobs f fd) (T : Txt mg) : FnOk P w K mg base CX0 1 f fd ["chain_jobs"] spNum := by
  refine F.ok scNum (fun vs H Q E h => ?_) (fun cdv A outer s H vs Q E hr h => ?_)
  · obtain ⟨a, cs, rfl, _⟩ := h
    rfl
  · obtain ⟨a, cs, rfl, ⟨qs, hA, h2⟩, hlen, k⟩ := h
    refine ⟨_, pss_one (ps_ret (pe_callB (cr_sum rfl) (by rfl) T.sum (by decide +kernel) (pa_cons (pe_lc (own := [("jobs", 1)]) (g := gName 1) (tt := tYes) (te := tCB (rLen K) (tCons (tVar 1) tNil)) rfl scNum.nd (pi_list (pv 0)) (blkOk_by (N := ["chain_jobs", "jobs"]) (sc := defScope s_number_of_jobs) (by decide +kernel))
      (fun _ _ _ _ _ => pg_name (i := 1) scNum.nd rfl (Or.inl rfl)) (fun _ _ _ _ _ => pts_nil) (fun _ _ _ _ _ => pe_callB call_len_seq (by rfl) T.len PySem.boot_len (pa_cons (pv 1) pa_nil))) pa_nil))), ?_⟩
    refine ⟨_, rfl, a, rfl, ⟨_, SqL.of hA⟩, fun D nD => lc_list (K := K) (a := a) (xs := qs.map V.ref) (fun i H' => Same H H' ∧ H' D = some (.lst ((cs.take i).map fun js => V.int (js.length : Int)))) ⟨same_upd nD, upd_same⟩ (fun i H' _ p => SqL.of (p.1 _ _ hA)) ?_ ?_⟩
    · rintro i x H' hi ⟨sm, hD⟩
      obtain ⟨q, hq, rfl⟩ := refs_at hi
      obtain ⟨js, hj, ps, hp, hps⟩ := h2.getY hq
      refine ⟨rfl, ?_⟩
      refine ⟨_, rfl, q, _, rfl, .inl (SqL.of (sm _ _ hp)), _, hD, ?_, same_into sm nD, ?_⟩
      · rw [List.length_map, List.length_take]
        exact small30 (by omega)
      · rw [upd_same, take_more hj, List.map_append, List.length_map, hps.len]
        rfl
    · rintro H' ⟨sm, hD⟩
      refine ⟨D, cs.map fun js => (js.length : Int), rfl, SqL.of ?_, ?_⟩
      · rw [hD, List.length_map, h2.len, List.take_length, List.map_map]
        rfl
      · rw [sum_cast]
        exact k _ sm
/-! ### read_jobs -/
theorem rgc2 {n : Nat} (h : n ≤ 30) (he : n % 2 = 0) : RgC 0 (n : Int) 2 (n / 2) := by
  have q : ∀ m : Fin 31, m.val % 2 = 0 → RgC 0 (m.val : Int) 2 (m.val / 2) := by
    unfold RgC
    decide +kernel
  exact q ⟨n, by omega⟩ he
def spReadJobs (K : PySem.W.Frag) : Sp := fun vs H Q _ => ∃ (a : Addr) (l : List Nat), vs = [.ref a] ∧ SqL K H a (intsV l) ∧ l.length % 2 = 0 ∧ l.length ≤ 30 ∧ ∀ H' p, Same H H' → JobsL (fresh H H') p (jobsOf l) → Q (.ref p) H'
theorem scRj : FnScope ["numbers", "k"] ["numbers"] (defScope s_read_jobs) := ⟨rfl, rfl, rfl, by decide +kernel, rfl, by decide +kernel, by decide +kernel⟩
theorem ok_read_jobs {f : Addr} {fd : FuncData} (F : Fun K "read_jobs" "read_jobs" s_read_jobs f fd) (T : Txt mg) : FnOk P w K mg base CX0 1 f fd ["numbers"] (spReadJobs K) := by
  refine F.ok scRj (fun vs H Q E h => ?_) (fun cdv A outer s H vs Q E hr h => ?_)
  · obtain ⟨a, l, rfl, _⟩ := h
    rfl
  · obtain ⟨a, l, rfl, hA, hev, hlen, k⟩ := h
    refine ⟨_, pss_one (ps_ret (pe_lc (own := [("k", 1)]) (g := gName 1) (tt := tYes) (te := tTup (tCons (tOp (rIxL K) (tVar 0) (tVar 1)) (tCons (tOp (rIxL K) (tVar 0) (tOp (rI0 fun i j => .int (i + j)) (tVar 1) (tC (.int 1)))) tNil)))
      rfl scRj.nd (pi_range3 (by rfl) T.range (pa_cons pe_int (pa_cons (pe_callB call_len_seq (by rfl) T.len PySem.boot_len (pa_cons (pv 0) pa_nil)) (pa_cons pe_int pa_nil))))
      (blkOk_by (N := ["numbers", "k"]) (sc := defScope s_read_jobs) (by decide +kernel))
      (fun _ _ _ _ _ => pg_name (i := 1) scRj.nd rfl (Or.inl rfl)) (fun _ _ _ _ _ => pts_nil) (fun _ _ _ _ _ => pe_tup (pa_cons (pe_ix ix_list (pv 0) (pv 1) (fun _ _ => rfl)) (pa_cons (pe_ix ix_list (pv 0) (pe_op op_add (pv 1) pe_int) (fun _ _ => rfl)) pa_nil))))), ?_⟩
    refine ⟨_, rfl, a, _, rfl, .inl hA, 0, _, 2, l.length / 2, rfl, ?_, fun D nD => ?_⟩
    · rw [intsV_length]
      exact rgc2 hlen hev
    · refine lc_it walk_rangeC (fun i H' => Same H H' ∧ ∃ ps : List Addr, H' D = some (.lst (ps.map V.ref)) ∧ All2 (JobT (less D (fresh H H'))) ps ((jobsOf l).take i)) ⟨same_upd nD, [], upd_same, All2.nil⟩ (fun _ _ _ _ => trivial) ?_ ?_
      · rintro i x Hx Hy hi ⟨sm, ps, hD, hps⟩ ⟨rfl, rfl⟩
        have hi1 : 2 * i < l.length := by omega
        have hi2 : 2 * i + 1 < l.length := by omega
        have g1 := List.getElem?_eq_getElem hi1
        have g2 := List.getElem?_eq_getElem hi2
        have hA' := sm.seq hA
        refine ⟨rfl, ?_⟩
        refine ⟨_, rfl, _, rfl, a, _, _, _, rfl, rfl, hA', at_of (by omega) (intsV_at g1), _, rfl, _, rfl, _, _, rfl, rfl, a, _, _, _, rfl, rfl, hA', at_of (j := 2 * i + 1) (by omega) (intsV_at g2), ?_, fun p hp => ?_⟩
        · show 2 ≤ sizeLine
          decide
        · have npD : D ≠ p := ne_of_none hD hp
          have nHp : H p = none := sm.free hp
          refine ⟨_, (upd_ne npD).trans hD, ?_, same_into (same_into sm nHp) nD, ps ++ [p], ?_, ?_⟩
          · have e := hps.len
            rw [List.length_take] at e
            rw [List.length_map]
            exact small30 (by omega)
          · rw [upd_same, List.map_append]
            rfl
          · have gj : (jobsOf l)[i]? = some ⟨l[2 * i], l[2 * i + 1]⟩ := jobsOf_get l i _ _ g1 g2
            rw [take_more gj]
            have s2 : Same (less D (fresh H Hy)) (less D (fresh H (upd (upd Hy p (.tup [.int (l[2 * i] : Int), .int (l[2 * i + 1] : Int)])) D (.lst (ps.map V.ref ++ [.ref p]))))) := by
              refine same_less (fun b o e => ?_) less_at
              have e1 := less_same b o e
              have nb : b ≠ D := fun z => by
                rw [z, less_at] at e
                cases e
              unfold fresh at e1 ⊢
              cases hb : H b with
              | none =>
                rw [hb] at e1
                show (upd (upd Hy p _) D _) b = some o
                rw [upd_ne nb, upd_ne (ne_of_none e1 hp)]
                exact e1
              | some y =>
                rw [hb] at e1
                cases e1
            refine (hps.mono fun x y q => q.same s2).snoc ?_
            show less D _ p = _
            rw [less_ne npD.symm, fresh_at nHp, upd_ne npD.symm, upd_same]
            rfl
      · rintro H' ⟨sm, ps, hD, hps⟩
        rw [List.take_of_length_le (by rw [jobsOf_length]; omega)] at hps
        refine k H' D sm ⟨ps, ?_, hps.mono fun x y q => q.same less_same⟩
        rw [fresh_at nD]
        exact hD
end
section
variable {P : Program} {w : World} {K : PySem.W.Frag} {mg : Str → Option Value} {base : Heap}
theorem rel_int {i : Int} {t : Tok} : RelV (.int i) (.int i t) := ⟨t, rfl⟩
/-! ### are_within_limits -/
def spWithin : Sp := fun vs H Q _ => ∃ (a : Addr) (cs : Chains), vs = [.ref a] ∧ ChL H a cs ∧ cs.length ≤ 30 ∧ ∀ H', Same H H' → Q (.bl (within cs)) H'
theorem scWi : FnScope ["chain_jobs", "jobs", "duration", "weight"] ["chain_jobs"] (defScope s_are_within_limits) := ⟨rfl, rfl, rfl, by decide +kernel, rfl, by decide +kernel, by decide +kernel⟩
theorem within_len {cs : Chains} (h : ¬ cs.length ≤ 4) : within cs = false := by
  unfold within
  rw [decide_eq_false h]
  rfl
theorem within_cnt {cs : Chains} (h : ¬ jobCount cs ≤ 7) : within cs = false := by
  unfold within
  rw [decide_eq_false h, Bool.and_false]
  rfl
theorem within_job {cs : Chains} {js : List Job} {j : Job} (h1 : js ∈ cs) (h2 : j ∈ js) (h : okJob j = false) : within cs = false := by
  unfold within
  have e : (cs.all fun js => js.all okJob) = false := by
    rw [List.all_eq_false]
    refine ⟨js, h1, ?_⟩
    intro z
    rw [List.all_eq_true.mp z j h2] at h
    cases h
  rw [e, Bool.and_false]
theorem ok_within {f fN : Addr} {fd fdN : FuncData} (F : Fun K "are_within_limits" "are_within_limits" s_are_within_limits f fd) (T : Txt mg)
    (FN : Fun K "number_of_jobs" "number_of_jobs" s_number_of_jobs fN fdN) (bN : Binds K fdN ["chain_jobs"] []) (gN : mg "number_of_jobs" = some (.ref fN)) : FnOk P w K mg base CX0 2 f fd ["chain_jobs"] spWithin := by
  have GN : FnOk P w K mg base CX0 1 fN fdN ["chain_jobs"] spNum := ok_num FN T
  obtain ⟨t4, m4⟩ := T.mC
  obtain ⟨t7, m7⟩ := T.mJ
  obtain ⟨tD, mD⟩ := T.mD
  obtain ⟨tW, mW⟩ := T.mW
  refine F.ok scWi (fun vs H Q E h => ?_) (fun cdv A outer s H vs Q E hr h => ?_)
  · obtain ⟨a, cs, rfl, _⟩ := h
    rfl
  · obtain ⟨a, cs, rfl, hC, hlen, k⟩ := h
    refine ⟨_, pss_cons (ps_if (PW.pt (pw_or (pt_cmpR op_gt (pe_callB call_len_seq (by rfl) T.len PySem.boot_len (pa_cons (pv 0) pa_nil)) (pe_glob rfl m4 rel_int) (nomark _))
          (pw_or1 (pt_cmpR op_gt (pe_call GN hr (by rfl) gN FN.kp bN .nil pass0 (pa_cons (pv 0) pa_nil)) (pe_glob rfl m7 rel_int) (nomark _))))) (pss_one (ps_ret pe_bl)) pss_nil)
      (pss_cons (ps_for PassesOwn.never rfl (pi_list (pv 0)) (pg_name (i := 1) scWi.nd rfl (Or.inl rfl))
        (pss_one (ps_for PassesOwn.never rfl (pi_list (pv 1)) (pg_tup rfl (pgs_cons (pg_name (i := 2) scWi.nd rfl (Or.inl rfl)) (pgs_cons (pg_name (i := 3) scWi.nd rfl (Or.inl rfl)) pgs_nil)))
          (pss_one (ps_if (PW.pt (pw_or (pt_not (pt_chain op_le op_le pe_int (pv 2) (pe_glob rfl mD rel_int))) (pw_or1 (pt_not (pt_chain op_le op_le pe_int (pv 3) (pe_glob rfl mW rel_int)))))) (pss_one (ps_ret pe_bl)) pss_nil)))))
      (pss_one (ps_ret pe_bl))), ?_⟩
    obtain ⟨qs, hA, h2⟩ := id hC
    refine ⟨_, rfl, a, _, rfl, .inl (SqL.of hA), _, _, rfl, rfl, _, rfl, ?_⟩
    refine ite2 (fun c => ?_) (fun c => ?_)
    · have c' := of_decide_eq_true c
      rw [List.length_map, h2.len] at c'
      show Q (.bl false) H
      rw [← within_len (cs := cs) (by omega)]
      exact k H (Same.refl H)
    have c4 : cs.length ≤ 4 := by
      have c' : ¬ _ := fun z => c (decide_eq_true z)
      rw [List.length_map, h2.len] at c'
      omega
    refine ⟨_, rfl, a, cs, rfl, hC, hlen, fun H1 s1 => ?_⟩
    refine ⟨_, _, rfl, rfl, _, rfl, ite2 (fun c => ?_) (fun c => ?_)⟩
    · have c' := of_decide_eq_true c
      show Q (.bl false) H1
      rw [← within_cnt (cs := cs) (by omega)]
      exact k H1 s1
    have c7 : jobCount cs ≤ 7 := by
      have c' : ¬ _ := fun z => c (decide_eq_true z)
      omega
    -- for jobs in chain_jobs
    refine ⟨_, rfl, a, rfl, ⟨_, SqL.of (s1 _ _ hA)⟩, for_list (K := K) (a := a) (xs := qs.map V.ref) (fun i σ H' => ∃ v1 v2 v3 : Option V, σ = [some (.ref a), v1, v2, v3] ∧ Same H H' ∧ (∀ js ∈ cs.take i, ∀ j ∈ js, okJob j = true))
      ⟨_, _, _, rfl, s1, fun _ z => by cases z⟩ (fun i σ H' _ p => by obtain ⟨_, _, _, _, sm, _⟩ := p; exact SqL.of (sm _ _ hA)) ?_ ?_⟩
    · rintro i x σ H' hi ⟨v1, v2, v3, rfl, sm, ok⟩
      obtain ⟨q, hq, rfl⟩ := refs_at hi
      obtain ⟨js, hj, ps, hp, hps⟩ := h2.getY hq
      refine ⟨_, rfl, q, rfl, ⟨_, SqL.of (sm _ _ hp)⟩, for_list (K := K) (a := q) (xs := ps.map V.ref) (fun m σ H' => ∃ v2 v3 : Option V, σ = [some (.ref a), some (.ref q), v2, v3] ∧ Same H H' ∧ (∀ j ∈ js.take m, okJob j = true))
        ⟨_, _, rfl, sm, fun _ z => by cases z⟩ (fun i σ H' _ p => by obtain ⟨_, _, _, sm, _⟩ := p; exact SqL.of (sm _ _ hp)) ?_ ?_⟩
      · rintro m y σ H2 hm ⟨w2, w3, rfl, sm2, ok2⟩
        obtain ⟨t, ht, rfl⟩ := refs_at hm
        obtain ⟨j, hjj, hT⟩ := hps.getY ht
        refine ⟨t, _, rfl, SqT.of (sm2 _ _ hT), rfl, _, _, rfl, _, _, rfl, rfl, ?_⟩
        have bad : okJob j = false → Q (.bl false) H2 := fun e => by
          rw [← within_job (List.mem_of_getElem? hj) (List.mem_of_getElem? hjj) e]
          exact k H2 sm2
        have no : ¬ (1 ≤ j.duration ∧ j.duration ≤ 99 ∧ j.weight ≤ 99) → Q (.bl false) H2 := fun c => bad (by
          cases e : okJob j with
          | false => rfl
          | true => exact absurd (okJob_iff.mp e) c)
        refine ⟨_, rfl, _, _, rfl, rfl, _, rfl, ite2 (fun c1 => ?_) (fun c1 => ?_)⟩
        · refine ⟨_, _, rfl, rfl, _, rfl, ite2 (fun c2 => ?_) (fun c2 => ?_)⟩
          · refine no fun z => ?_
            have z2 : (j.duration : Int) ≤ 99 := by omega
            rw [decide_eq_true z2] at c2
            cases c2
          · refine ⟨_, rfl, _, _, rfl, rfl, _, rfl, ite2 (fun c3 => ?_) (fun c3 => ?_)⟩
            · refine ⟨_, _, rfl, rfl, _, rfl, ite2 (fun c4 => ?_) (fun c4 => ?_)⟩
              · refine no fun z => ?_
                have z2 : (j.weight : Int) ≤ 99 := by omega
                rw [decide_eq_true z2] at c4
                cases c4
              · refine ⟨_, _, rfl, sm2, fun x hx => ?_⟩
                rw [take_more hjj] at hx
                rcases List.mem_append.mp hx with z | z
                · exact ok2 x z
                · rw [List.mem_singleton.mp z, okJob_iff]
                  have d1 := of_decide_eq_true c1
                  have d2 : (j.duration : Int) ≤ 99 := by
                    by_cases y : (j.duration : Int) ≤ 99
                    · exact y
                    · rw [decide_eq_false y] at c2
                      exact absurd rfl c2
                  have d3 : (j.weight : Int) ≤ 99 := by
                    by_cases y : (j.weight : Int) ≤ 99
                    · exact y
                    · rw [decide_eq_false y] at c4
                      exact absurd rfl c4
                  omega
            · exact absurd (decide_eq_true (show (0 : Int) ≤ (j.weight : Int) by omega)) c3
        · refine ⟨_, rfl, ?_⟩
          refine no fun z => c1 (decide_eq_true ?_)
          omega
      · rintro σ H2 ⟨w2, w3, rfl, sm2, ok2⟩
        rw [List.length_map, hps.len, List.take_length] at ok2
        refine ⟨_, w2, w3, rfl, sm2, ?_⟩
        rw [take_more hj]
        intro l hl
        rcases List.mem_append.mp hl with z | z
        · exact ok l z
        · rw [List.mem_singleton.mp z]
          exact ok2
    · rintro σ H2 ⟨v1, v2, v3, rfl, sm, ok⟩
      rw [List.length_map, h2.len, List.take_length] at ok
      show Q (.bl true) H2
      have e : within cs = true := by
        unfold within
        simp only [Bool.and_eq_true, decide_eq_true_eq, List.all_eq_true]
        exact ⟨⟨c4, c7⟩, ok⟩
      rw [← e]
      exact k H2 sm
end
section
variable {P : Program} {w : World} {K : PySem.W.Frag} {mg : Str → Option Value} {base : Heap}
/-! ### read_chains -/
def spRead (K : PySem.W.Frag) : Sp := fun vs H Q _ => ∃ (a : Addr) (l : List Nat), vs = [.ref a] ∧ SqL K H a (intsV l) ∧ l.length ≤ 30 ∧ (read l = none → ∀ H', Same H H' → Q .non H') ∧ ∀ cs, read l = some cs → ∀ H' p, Same H H' → ChL H' p cs → Q (.ref p) H'
theorem scRc : FnScope ["numbers", "chain_jobs", "place", "end"] ["numbers"] (defScope s_read_chains) := ⟨rfl, rfl, rfl, by decide +kernel, rfl, by decide +kernel, by decide +kernel⟩
theorem intsV_take (l : List Nat) (n : Nat) : (intsV l).take n = intsV (l.take n) := by
  unfold intsV
  exact List.map_take.symm
theorem intsV_drop (l : List Nat) (n : Nat) : (intsV l).drop n = intsV (l.drop n) := by
  unfold intsV
  exact List.map_drop.symm
theorem read_of_split {l : List Nat} {cs : Chains} (h : split l = some cs) : read l = if within cs = true then some cs else none := by
  unfold read
  rw [h]
  rfl
theorem read_of_none {l : List Nat} (h : split l = none) : read l = none := by
  unfold read
  rw [h]
  rfl
def ReadInv (H : Hp) (a c : Addr) (l : List Nat) (m : Nat) (σ : L2.St) (H' : Hp) : Prop :=
  ∃ (i : Nat) (done : Chains) (qs : List Addr) (v3 : Option V) (Hb : Hp), m = l.length - i ∧ i ≤ l.length ∧ σ = [some (.ref a), some (.ref c), some (.int (i : Int)), v3] ∧ Same H Hb ∧ Hb c = none ∧ Same Hb H' ∧ H' c = some (.lst (qs.map V.ref)) ∧ All2 (JobsL Hb) qs done ∧ done.length ≤ i ∧ split l = (split (l.drop i)).map (done ++ ·)
theorem ok_read {f fW fR fN : Addr} {fd fdW fdR fdN : FuncData} (F : Fun K "read_chains" "read_chains" s_read_chains f fd) (T : Txt mg)
    (FN : Fun K "number_of_jobs" "number_of_jobs" s_number_of_jobs fN fdN) (bN : Binds K fdN ["chain_jobs"] []) (gN : mg "number_of_jobs" = some (.ref fN))
    (FW : Fun K "are_within_limits" "are_within_limits" s_are_within_limits fW fdW) (bW : Binds K fdW ["chain_jobs"] []) (gW : mg "are_within_limits" = some (.ref fW))
    (FR : Fun K "read_jobs" "read_jobs" s_read_jobs fR fdR) (bR : Binds K fdR ["numbers"] []) (gR : mg "read_jobs" = some (.ref fR)) : FnOk P w K mg base CX0 3 f fd ["numbers"] (spRead K) := by
  have GW : FnOk P w K mg base CX0 2 fW fdW ["chain_jobs"] spWithin := ok_within FW T FN bN gN
  have GR : FnOk P w K mg base CX0 1 fR fdR ["numbers"] (spReadJobs K) := ok_read_jobs FR T
  refine F.ok scRc (fun vs H Q E h => ?_) (fun cdv A outer s H vs Q E hr h => ?_)
  · obtain ⟨a, cs, rfl, _⟩ := h
    rfl
  · obtain ⟨a, l, rfl, hA, hlen, kN, kS⟩ := h
    have hr1 : Room 1 _ := hr.mono (by decide)
    refine ⟨_, pss_cons (ps_set (i := 1) scRc.nd rfl (.inl rfl) (pe_lst pa_nil))
      (pss_cons (ps_set (i := 2) scRc.nd rfl (.inl rfl) pe_int)
      (pss_cons (ps_while PassesOwn.never (pt_cmpR op_lt (pv 2) (pe_callB call_len_seq (by rfl) T.len PySem.boot_len (pa_cons (pv 0) pa_nil)) (nomark _))
        (pss_cons (ps_set (i := 3) scRc.nd rfl (.inl rfl) (pe_op op_add (pe_op op_add (pv 2) pe_int) (pe_op op_mul pe_int (pe_ix ix_list (pv 0) (pv 2) (fun _ _ => rfl)))))
        (pss_cons (ps_if (pt_cmpR op_gt (pv 3) (pe_callB call_len_seq (by rfl) T.len PySem.boot_len (pa_cons (pv 0) pa_nil)) (nomark _)) (pss_one (ps_ret pe_non)) pss_nil)
        (pss_cons (ps_expr (pe_bm PySem.F.plainAttrs_list PySem.F.slot_list_append PySem.F.type_list_append mt_append (pv 1) (pa_cons (pe_call GR hr1 (by rfl) gR FR.kp bR .nil pass0 (pa_cons (pe_slice sl_list (pv 0) (po_some (pe_op op_add (pv 2) pe_int)) (po_some (pv 3))) pa_nil)) pa_nil)))
        (pss_one (ps_set (i := 2) scRc.nd rfl (.inl rfl) (pv 3)))))))
      (pss_cons (ps_if (pt_not (pt_val (pe_call GW hr (by rfl) gW FW.kp bW .nil pass0 (pa_cons (pv 1) pa_nil)))) (pss_one (ps_ret pe_non)) pss_nil)
      (pss_one (ps_ret (pv 1)))))), ?_⟩
    refine ⟨Nat.zero_le _, fun c nc => ?_⟩
    refine ⟨ReadInv H a c l,
      ⟨l.length, 0, [], [], none, H, rfl, Nat.zero_le _, rfl, Same.refl H, nc, same_upd nc, upd_same, All2.nil, Nat.le_refl _, ?_⟩, ?_⟩
    · rw [List.drop_zero]
      cases split l <;> rfl
    rintro m σ H' ⟨i, done, qs, v3, Hb, rfl, hi, rfl, sHb, nb, sB, hC, h2, hdl, hsp⟩
    have sH : Same H H' := sHb.trans sB
    have hA' := sH.seq hA
    refine ⟨_, rfl, _, rfl, a, _, rfl, .inl hA', _, _, rfl, rfl, _, rfl, ite2 (fun ci => ?_) (fun ci => ?_)⟩
    · have ci' := of_decide_eq_true ci
      rw [intsV_length] at ci'
      have hlt : i < l.length := by omega
      have gi := List.getElem?_eq_getElem hlt
      have hd : l.drop i = l[i] :: l.drop (i + 1) := List.drop_eq_getElem_cons hlt
      have hrest : (l.drop (i + 1)).length = l.length - (i + 1) := List.length_drop
      rw [hd, split_cons, hrest] at hsp
      refine ⟨fun σ' H'' => ∃ m', m' < l.length - i ∧ ReadInv H a c l m' σ' H'', fun σ' H'' z => z, ?_⟩
      refine ⟨_, rfl, _, _, rfl, rfl, _, rfl, _, rfl, a, _, _, _, rfl, rfl, hA', at_of rfl (intsV_at gi), _, _, rfl, rfl, .inl ⟨by decide, by decide⟩, _, _, rfl, rfl, ?_⟩
      have ee : (i : Int) + 1 + 2 * (l[i] : Int) = ((i + 1 + 2 * l[i] : Nat) : Int) := by omega
      refine ⟨_, rfl, _, rfl, a, _, rfl, .inl hA', _, _, rfl, rfl, _, rfl, ite2 (fun cj => ?_) (fun cj => ?_)⟩
      · have cj' := of_decide_eq_true cj
        rw [intsV_length] at cj'
        rw [if_pos (by omega)] at hsp
        exact kN (read_of_none hsp) H' sH
      · have cj' : ¬ _ := fun z => cj (decide_eq_true z)
        rw [intsV_length] at cj'
        have hle : i + 1 + 2 * l[i] ≤ l.length := by omega
        rw [if_neg (by omega)] at hsp
        refine ⟨_, rfl, .inl ⟨rfl, _, SqL.of hC⟩, _, rfl, _, rfl, _, _, rfl, rfl, _, rfl, _, rfl, _, rfl, a, _, rfl, hA', fun p np => ?_⟩
        have e1 : (i : Int) + 1 = ((i + 1 : Nat) : Int) := by omega
        have ec : cutV (intsV l) (some ((i : Int) + 1)) (some ((i : Int) + 1 + 2 * (l[i] : Int))) = intsV ((l.drop (i + 1)).take (2 * l[i])) := by
          rw [ee, e1, cut_nat (by omega) (by rw [intsV_length]; exact hle), intsV_drop, intsV_take]
          congr 2
          omega
        have hln : ((l.drop (i + 1)).take (2 * l[i])).length = 2 * l[i] := by
          rw [List.length_take, List.length_drop]
          omega
        have sp : Same H' (upd H' p (.lst (cutV (intsV l) (some ((i : Int) + 1)) (some ((i : Int) + 1 + 2 * (l[i] : Int)))))) := same_upd np
        refine ⟨p, (l.drop (i + 1)).take (2 * l[i]), rfl, SqL.of ?_, by omega, by omega, fun H2 r s2 hJ => ?_⟩
        · rw [upd_same, ec]
        · have hC2 : H2 c = some (.lst (qs.map V.ref)) := s2 _ _ (sp _ _ hC)
          have s02 : Same H' H2 := sp.trans s2
          refine ⟨c, _, _, rfl, rfl, hC2, ?_, ?_⟩
          · rw [List.length_map, h2.len]
            exact small30 (by omega)
          refine ⟨_, rfl, l.length - (i + 1 + 2 * l[i]), by omega, i + 1 + 2 * l[i], done ++ [jobsOf ((l.drop (i + 1)).take (2 * l[i]))], qs ++ [r], some (.int ((i + 1 + 2 * l[i] : Nat) : Int)), less c H2, rfl, hle, ?_, ?_, less_at, ?_, ?_, ?_, ?_, ?_⟩
          · rw [← ee]
            rfl
          · exact same_less (sH.trans s02) nc
          · exact same_into less_same less_at
          · rw [upd_same, List.map_append]
            rfl
          · exact (h2.mono fun x y q => q.same (same_less (sB.trans s02) nb)).snoc (hJ.same (fresh_less (sp _ _ hC)))
          · rw [List.length_append]
            show done.length + 1 ≤ _
            omega
          · rw [hsp, List.drop_drop, Option.map_map]
            congr 1
            funext z
            show done ++ jobsOf _ :: z = done ++ [jobsOf _] ++ z
            rw [List.append_assoc]
            rfl
    · have ci' : ¬ _ := fun z => ci (decide_eq_true z)
      rw [intsV_length] at ci'
      have e : i = l.length := by omega
      subst e
      rw [List.drop_length, split_nil] at hsp
      have hsp' : split l = some done := by
        rw [hsp]
        show some (done ++ []) = some done
        rw [List.append_nil]
      refine ⟨_, rfl, c, done, rfl, ⟨qs, hC, h2.mono fun x y q => q.same sB⟩, by omega, fun H1 s1 => ⟨_, rfl, ?_⟩⟩
      rw [read_of_split hsp'] at kN kS
      by_cases z : within done = true
      · rw [if_pos z] at kS
        rw [z]
        refine ⟨_, rfl, ?_⟩
        exact kS done rfl H1 c (sH.trans s1) ⟨qs, s1 _ _ hC, h2.mono fun x y q => q.same (sB.trans s1)⟩
      · rw [if_neg z] at kN
        have z' : within done = false := by simpa using z
        rw [z']
        exact kN rfl H1 (sH.trans s1)
end
section
variable {P : Program} {w : World} {K : PySem.W.Frag} {mg : Str → Option Value} {base : Heap}
/-! ### number_of_orders -/
theorem mul_step (c p m : Nat) : (((c * choose (p + m) m : Nat) : Int) * (((p + m : Nat) : Int) + 1)) / (1 + (m : Int)) = ((c * choose (p + (m + 1)) (m + 1) : Nat) : Int) := by
  have h : c * choose (p + m) m * (p + m + 1) = c * choose (p + (m + 1)) (m + 1) * (m + 1) := by
    rw [Nat.mul_assoc, Nat.mul_assoc, choose_step]
    rfl
  have e : ((c * choose (p + m) m : Nat) : Int) * (((p + m : Nat) : Int) + 1) = ((c * choose (p + (m + 1)) (m + 1) : Nat) : Int) * (1 + (m : Int)) := by
    have q := congrArg (fun (n : Nat) => (n : Int)) h
    have q' : ((c * choose (p + m) m * (p + m + 1) : Nat) : Int) = ((c * choose (p + (m + 1)) (m + 1) * (m + 1) : Nat) : Int) := q
    rw [Int.natCast_mul _ (p + m + 1), Int.natCast_mul _ (m + 1), Int.natCast_add (p + m) 1, Int.natCast_add m 1, Int.add_comm (m : Int)] at q'
    exact q'
  rw [e]
  exact Int.mul_ediv_cancel _ (by omega)
def spNo : Sp := fun vs H Q _ => ∃ (a : Addr) (cs : Chains), vs = [.ref a] ∧ ChL H a cs ∧ Good cs ∧ Q (.int (multi 0 cs : Nat)) H
theorem scNo : FnScope ["chain_jobs", "count", "job_count", "jobs", "length"] ["chain_jobs"] (defScope s_number_of_orders) := ⟨rfl, rfl, rfl, by decide +kernel, rfl, by decide +kernel, by decide +kernel⟩
theorem ok_no {f : Addr} {fd : FuncData} (F : Fun K "number_of_orders" "number_of_orders" s_number_of_orders f fd) (T : Txt mg) : FnOk P w K mg base CX0 1 f fd ["chain_jobs"] spNo := by
  refine F.ok scNo (fun vs H Q E h => ?_) (fun cdv A outer s H vs Q E hr h => ?_)
  · obtain ⟨a, cs, rfl, _⟩ := h
    rfl
  · obtain ⟨a, cs, rfl, ⟨qs, hA, h2⟩, hG, k⟩ := h
    refine ⟨_, pss_cons (ps_set (i := 1) scNo.nd rfl (.inl rfl) pe_int)
      (pss_cons (ps_set (i := 2) scNo.nd rfl (.inl rfl) pe_int)
      (pss_cons (ps_for PassesOwn.never rfl (pi_list (pv 0)) (pg_name (i := 3) scNo.nd rfl (Or.inl rfl))
        (pss_one (ps_for PassesOwn.never rfl (pi_range2 (by rfl) T.range (pa_cons pe_int (pa_cons (pe_op op_add (pe_callB call_len_seq (by rfl) T.len PySem.boot_len (pa_cons (pv 3) pa_nil)) pe_int) pa_nil))) (pg_name (i := 4) scNo.nd rfl (Or.inl rfl))
          (pss_cons (ps_aug (i := 2) scNo.nd rfl (.inl rfl) pe_int ip_add)
          (pss_one (ps_set (i := 1) scNo.nd rfl (.inl rfl) (pe_op op_fdiv (pe_op op_mul (pv 1) (pv 2)) (pv 4))))))))
      (pss_one (ps_ret (pv 1))))), ?_⟩
    refine ⟨_, rfl, a, rfl, ⟨_, SqL.of hA⟩, for_list (K := K) (a := a) (xs := qs.map V.ref) (fun i σ H' => ∃ (v3 v4 : Option V) (c p : Nat),
        σ = [some (.ref a), some (.int (c : Int)), some (.int (p : Int)), v3, v4] ∧ H' = H ∧ multi 0 cs = c * multi p (cs.drop i) ∧ p + jobCount (cs.drop i) = jobCount cs)
      ⟨_, _, 1, 0, rfl, rfl, by rw [List.drop_zero, Nat.one_mul], by rw [List.drop_zero, Nat.zero_add]⟩ (fun i σ H' _ q => by obtain ⟨_, _, _, _, _, e, _⟩ := q; rw [e]; exact SqL.of hA) ?_ ?_⟩
    · rintro i x σ H' hi ⟨v3, v4, c, p, rfl, rfl, hc, hp⟩
      obtain ⟨q, hq, rfl⟩ := refs_at hi
      obtain ⟨js, hj, ps, hps, h3⟩ := h2.getY hq
      obtain ⟨hlt, ej⟩ := List.getElem?_eq_some_iff.mp hj
      rw [List.drop_eq_getElem_cons hlt, ej] at hc hp
      have hp' : p + (js.length + jobCount (cs.drop (i + 1))) = jobCount cs := hp
      have hc' : multi 0 cs = c * (choose (p + js.length) js.length * multi (p + js.length) (cs.drop (i + 1))) := hc
      have h7 := hG.cnt
      have hl := h3.len
      have hml : (ps.map V.ref).length = js.length := by rw [List.length_map, hl]
      refine ⟨_, rfl, q, _, rfl, .inl (SqL.of hps), _, _, rfl, rfl, _, _, rfl, ⟨by decide, by decide, by rw [hml]; omega, by rw [hml]; omega⟩, for_range (lo := 1) (fun m σ Hx => ∃ (v4 : Option V),
          σ = [some (.ref a), some (.int ((c * choose (p + m) m : Nat) : Int)), some (.int ((p + m : Nat) : Int)), some (.ref q), v4] ∧ Hx = H')
        ⟨v4, ?_, rfl⟩ ?_ ?_⟩
      · rw [Nat.add_zero, choose_zero, Nat.mul_one]
        rfl
      · rintro m σ Hx hm ⟨v4, rfl, rfl⟩
        have hm' : m < js.length := by
          rw [hml] at hm
          omega
        refine ⟨_, rfl, _, _, rfl, rfl, ?_⟩
        refine ⟨_, rfl, _, rfl, _, _, rfl, rfl, .inr ⟨by show -(2 ^ 64) < ((p + m : Nat) : Int) + 1; omega, by show ((p + m : Nat) : Int) + 1 < 2 ^ 64; omega⟩, _, rfl, _, _, rfl, rfl, ⟨by omega, by omega⟩, ?_⟩
        refine ⟨some (.int (1 + (m : Int))), ?_, rfl⟩
        show [_, some (V.int ((((c * choose (p + m) m : Nat) : Int) * (((p + m : Nat) : Int) + 1)) / (1 + (m : Int)))), some (V.int (((p + m : Nat) : Int) + 1)), _, _] = _
        rw [mul_step]
        rfl
      · rintro σ Hx ⟨v4, rfl, rfl⟩
        have e : (((ps.map V.ref).length : Int) + 1 - 1).toNat = js.length := by
          rw [hml]
          omega
        refine ⟨some (.ref q), v4, c * choose (p + js.length) js.length, p + js.length, ?_, rfl, ?_, ?_⟩
        · rw [← e]
        · rw [hc', Nat.mul_assoc]
        · omega
    · rintro σ H' ⟨v3, v4, c, p, rfl, rfl, hc, hp⟩
      rw [List.length_map, h2.len, List.drop_length] at hc
      refine ⟨_, rfl, ?_⟩
      show Q (.int (c : Int)) H'
      have e : multi 0 cs = c := hc.trans (Nat.mul_one c)
      rw [← e]
      exact k
end
section
variable {P : Program} {w : World} {K : PySem.W.Frag} {mg : Str → Option Value} {base : Heap}
/-! ### count_orders -/
def cnt (l : List Nat) : List Int := Ks593Neutral.integers (Ks593.answer (.countOrders l))
theorem cnt_none {l : List Nat} (h : read l = none) : cnt l = [-22] := by
  unfold cnt
  show Ks593Neutral.integers (Ks593.withChains l _) = _
  rw [withChains_eq, h]
  rfl
theorem cnt_some {l : List Nat} {cs : Chains} (h : read l = some cs) : cnt l = [((multi 0 cs : Nat) : Int)] := by
  unfold cnt
  show Ks593Neutral.integers (Ks593.withChains l _) = _
  rw [withChains_eq, h]
  show [(((Ks593.allOrders cs (jobCount cs)).length : Nat) : Int)] = _
  rw [orders_multi]
def spCnt (K : PySem.W.Frag) : Sp := fun vs H Q _ => ∃ (a : Addr) (l : List Nat), vs = [.ref a] ∧ SqL K H a (intsV l) ∧ l.length ≤ 30 ∧ ∀ H' p, H' p = some (.lst ((cnt l).map V.int)) → Q (.ref p) H'
theorem scCn : FnScope ["chains", "chain_jobs"] ["chains"] (defScope s_count_orders) := ⟨rfl, rfl, rfl, by decide +kernel, rfl, by decide +kernel, by decide +kernel⟩
theorem ok_cnt {f fN fR : Addr} {fd fdN fdR : FuncData} (F : Fun K "count_orders" "count_orders" s_count_orders f fd) (T : Txt mg)
    (GR : FnOk P w K mg base CX0 3 fR fdR ["numbers"] (spRead K)) (kR : PySem.W.keepIn K (.ref fR) = true) (bR : Binds K fdR ["numbers"] []) (gR : mg "read_chains" = some (.ref fR))
    (GN : FnOk P w K mg base CX0 1 fN fdN ["chain_jobs"] spNo) (kN : PySem.W.keepIn K (.ref fN) = true) (bN : Binds K fdN ["chain_jobs"] []) (gN : mg "number_of_orders" = some (.ref fN)) :
    FnOk P w K mg base CX0 4 f fd ["chains"] (spCnt K) := by
  obtain ⟨tO, mO⟩ := T.mO
  refine F.ok scCn (fun vs H Q E h => ?_) (fun cdv A outer s H vs Q E hr h => ?_)
  · obtain ⟨a, l, rfl, _⟩ := h
    rfl
  · obtain ⟨a, l, rfl, hA, hl, k⟩ := h
    have hr1 : Room 1 _ := hr.mono (by decide)
    refine ⟨_, pss_cons (ps_set (i := 1) scCn.nd rfl (.inl rfl) (pe_call GR hr (by rfl) gR kR bR .nil pass0 (pa_cons (pv 0) pa_nil)))
      (pss_cons (ps_if (pt_cmpR op_isN (pv 1) pe_non (nomark _)) (pss_one (ps_ret (pe_lst (pa_cons (pe_glob rfl mO rel_int) pa_nil)))) pss_nil)
      (pss_one (ps_ret (pe_lst (pa_cons (pe_call GN hr1 (by rfl) gN kN bN .nil pass0 (pa_cons (pv 1) pa_nil)) pa_nil))))), ?_⟩
    refine ⟨_, rfl, a, l, rfl, hA, hl, fun hn H1 s1 => ?_, fun cs hs H1 c s1 hC => ?_⟩
    · refine ⟨_, rfl, rfl, _, rfl, ?_⟩
      refine ⟨by show 1 ≤ sizeLine; decide, fun p np => k _ p ?_⟩
      rw [cnt_none hn]
      exact upd_same
    · refine ⟨_, rfl, rfl, _, rfl, ?_⟩
      refine ⟨_, rfl, c, cs, rfl, hC, good_of_read hs, ?_⟩
      refine ⟨by show 1 ≤ sizeLine; decide, fun p np => k _ p ?_⟩
      rw [cnt_some hs]
      exact upd_same
end
/-! ### what the top has written -/
theorem all_mk {P : Program} {w : World} {K : PySem.W.Frag} {h : Heap} {mg : Str → Option Value} {fa : Addr} (X : K.In h) (G : h.Ns mainGlobals mg) (hfa : mg "count_orders" = some (.ref fa))
    {f_count_orders : Addr} {od_count_orders an_count_orders : Option Addr} {sl_count_orders : Array (Option Value)} {oc_count_orders kV_count_orders dc_count_orders pm_count_orders cd_count_orders ct_count_orders : Value}
    {f_read_chains : Addr} {od_read_chains an_read_chains : Option Addr} {sl_read_chains : Array (Option Value)} {oc_read_chains kV_read_chains dc_read_chains pm_read_chains cd_read_chains ct_read_chains : Value}
    {f_read_jobs : Addr} {od_read_jobs an_read_jobs : Option Addr} {sl_read_jobs : Array (Option Value)} {oc_read_jobs kV_read_jobs dc_read_jobs pm_read_jobs cd_read_jobs ct_read_jobs : Value}
    {f_are_within_limits : Addr} {od_are_within_limits an_are_within_limits : Option Addr} {sl_are_within_limits : Array (Option Value)} {oc_are_within_limits kV_are_within_limits dc_are_within_limits pm_are_within_limits cd_are_within_limits ct_are_within_limits : Value}
    {f_number_of_jobs : Addr} {od_number_of_jobs an_number_of_jobs : Option Addr} {sl_number_of_jobs : Array (Option Value)} {oc_number_of_jobs kV_number_of_jobs dc_number_of_jobs pm_number_of_jobs cd_number_of_jobs ct_number_of_jobs : Value}
    {f_number_of_orders : Addr} {od_number_of_orders an_number_of_orders : Option Addr} {sl_number_of_orders : Array (Option Value)} {oc_number_of_orders kV_number_of_orders dc_number_of_orders pm_number_of_orders cd_number_of_orders ct_number_of_orders : Value}
    {t_MAX_CHAINS t_MAX_JOBS t_MAX_DURATION t_MAX_WEIGHT t_OUTSIDE_LIMITS : Tok}
    (a_count_orders : PySem.W.nsIn K mainGlobals "count_orders" = some (some (.ref f_count_orders)))
    (l_count_orders : K.lookup f_count_orders = some ⟨oc_count_orders, od_count_orders, .func (PySem.W.fnOf "count_orders" "count_orders" (defArgs s_count_orders) (defBody s_count_orders) (defScope s_count_orders) .none kV_count_orders dc_count_orders pm_count_orders an_count_orders cd_count_orders ct_count_orders), sl_count_orders⟩)
    (c_count_orders : PySem.W.codeIn K cd_count_orders "count_orders" = true)
    (k_count_orders : PySem.W.keepIn K (.ref f_count_orders) = true)
    (a_read_chains : PySem.W.nsIn K mainGlobals "read_chains" = some (some (.ref f_read_chains)))
    (l_read_chains : K.lookup f_read_chains = some ⟨oc_read_chains, od_read_chains, .func (PySem.W.fnOf "read_chains" "read_chains" (defArgs s_read_chains) (defBody s_read_chains) (defScope s_read_chains) .none kV_read_chains dc_read_chains pm_read_chains an_read_chains cd_read_chains ct_read_chains), sl_read_chains⟩)
    (c_read_chains : PySem.W.codeIn K cd_read_chains "read_chains" = true)
    (k_read_chains : PySem.W.keepIn K (.ref f_read_chains) = true)
    (a_read_jobs : PySem.W.nsIn K mainGlobals "read_jobs" = some (some (.ref f_read_jobs)))
    (l_read_jobs : K.lookup f_read_jobs = some ⟨oc_read_jobs, od_read_jobs, .func (PySem.W.fnOf "read_jobs" "read_jobs" (defArgs s_read_jobs) (defBody s_read_jobs) (defScope s_read_jobs) .none kV_read_jobs dc_read_jobs pm_read_jobs an_read_jobs cd_read_jobs ct_read_jobs), sl_read_jobs⟩)
    (c_read_jobs : PySem.W.codeIn K cd_read_jobs "read_jobs" = true)
    (k_read_jobs : PySem.W.keepIn K (.ref f_read_jobs) = true)
    (a_are_within_limits : PySem.W.nsIn K mainGlobals "are_within_limits" = some (some (.ref f_are_within_limits)))
    (l_are_within_limits : K.lookup f_are_within_limits = some ⟨oc_are_within_limits, od_are_within_limits, .func (PySem.W.fnOf "are_within_limits" "are_within_limits" (defArgs s_are_within_limits) (defBody s_are_within_limits) (defScope s_are_within_limits) .none kV_are_within_limits dc_are_within_limits pm_are_within_limits an_are_within_limits cd_are_within_limits ct_are_within_limits), sl_are_within_limits⟩)
    (c_are_within_limits : PySem.W.codeIn K cd_are_within_limits "are_within_limits" = true)
    (k_are_within_limits : PySem.W.keepIn K (.ref f_are_within_limits) = true)
    (a_number_of_jobs : PySem.W.nsIn K mainGlobals "number_of_jobs" = some (some (.ref f_number_of_jobs)))
    (l_number_of_jobs : K.lookup f_number_of_jobs = some ⟨oc_number_of_jobs, od_number_of_jobs, .func (PySem.W.fnOf "number_of_jobs" "number_of_jobs" (defArgs s_number_of_jobs) (defBody s_number_of_jobs) (defScope s_number_of_jobs) .none kV_number_of_jobs dc_number_of_jobs pm_number_of_jobs an_number_of_jobs cd_number_of_jobs ct_number_of_jobs), sl_number_of_jobs⟩)
    (c_number_of_jobs : PySem.W.codeIn K cd_number_of_jobs "number_of_jobs" = true)
    (k_number_of_jobs : PySem.W.keepIn K (.ref f_number_of_jobs) = true)
    (a_number_of_orders : PySem.W.nsIn K mainGlobals "number_of_orders" = some (some (.ref f_number_of_orders)))
    (l_number_of_orders : K.lookup f_number_of_orders = some ⟨oc_number_of_orders, od_number_of_orders, .func (PySem.W.fnOf "number_of_orders" "number_of_orders" (defArgs s_number_of_orders) (defBody s_number_of_orders) (defScope s_number_of_orders) .none kV_number_of_orders dc_number_of_orders pm_number_of_orders an_number_of_orders cd_number_of_orders ct_number_of_orders), sl_number_of_orders⟩)
    (c_number_of_orders : PySem.W.codeIn K cd_number_of_orders "number_of_orders" = true)
    (k_number_of_orders : PySem.W.keepIn K (.ref f_number_of_orders) = true)
    (v_MAX_CHAINS : PySem.W.nsIn K mainGlobals "MAX_CHAINS" = some (some (.int (4) t_MAX_CHAINS)))
    (v_MAX_JOBS : PySem.W.nsIn K mainGlobals "MAX_JOBS" = some (some (.int (7) t_MAX_JOBS)))
    (v_MAX_DURATION : PySem.W.nsIn K mainGlobals "MAX_DURATION" = some (some (.int (99) t_MAX_DURATION)))
    (v_MAX_WEIGHT : PySem.W.nsIn K mainGlobals "MAX_WEIGHT" = some (some (.int (99) t_MAX_WEIGHT)))
    (v_OUTSIDE_LIMITS : PySem.W.nsIn K mainGlobals "OUTSIDE_LIMITS" = some (some (.int (-22) t_OUTSIDE_LIMITS)))
    (z_len : PySem.W.nsIn K mainGlobals "len" = some none)
    (z_range : PySem.W.nsIn K mainGlobals "range" = some none)
    (z_sum : PySem.W.nsIn K mainGlobals "sum" = some none) :
    ∃ fd : FuncData, (∀ (s : Shared) (us : List Value), us.length = (["chains"] : List Str).length → BindsTo s fd ⟨us, []⟩ ((["chains"] : List Str).zip us)) ∧ ∀ base : Heap, K.In base → base.Ns mainGlobals mg → FnOk P w K mg base CX0 4 fa fd ["chains"] (spCnt K) := by
  have e := hfa.symm.trans (PySem.W.mg_of X G a_count_orders)
  cases e
  have F_count_orders := fun_mk (st := s_count_orders) l_count_orders c_count_orders k_count_orders
  have b_count_orders := F_count_orders.binds (ps := ["chains"]) fun _ _ _ _ _ _ us hl => match us, hl with | [_], _ => rfl
  have g_count_orders := PySem.W.mg_of X G a_count_orders
  have F_read_chains := fun_mk (st := s_read_chains) l_read_chains c_read_chains k_read_chains
  have b_read_chains := F_read_chains.binds (ps := ["numbers"]) fun _ _ _ _ _ _ us hl => match us, hl with | [_], _ => rfl
  have g_read_chains := PySem.W.mg_of X G a_read_chains
  have F_read_jobs := fun_mk (st := s_read_jobs) l_read_jobs c_read_jobs k_read_jobs
  have b_read_jobs := F_read_jobs.binds (ps := ["numbers"]) fun _ _ _ _ _ _ us hl => match us, hl with | [_], _ => rfl
  have g_read_jobs := PySem.W.mg_of X G a_read_jobs
  have F_are_within_limits := fun_mk (st := s_are_within_limits) l_are_within_limits c_are_within_limits k_are_within_limits
  have b_are_within_limits := F_are_within_limits.binds (ps := ["chain_jobs"]) fun _ _ _ _ _ _ us hl => match us, hl with | [_], _ => rfl
  have g_are_within_limits := PySem.W.mg_of X G a_are_within_limits
  have F_number_of_jobs := fun_mk (st := s_number_of_jobs) l_number_of_jobs c_number_of_jobs k_number_of_jobs
  have b_number_of_jobs := F_number_of_jobs.binds (ps := ["chain_jobs"]) fun _ _ _ _ _ _ us hl => match us, hl with | [_], _ => rfl
  have g_number_of_jobs := PySem.W.mg_of X G a_number_of_jobs
  have F_number_of_orders := fun_mk (st := s_number_of_orders) l_number_of_orders c_number_of_orders k_number_of_orders
  have b_number_of_orders := F_number_of_orders.binds (ps := ["chain_jobs"]) fun _ _ _ _ _ _ us hl => match us, hl with | [_], _ => rfl
  have g_number_of_orders := PySem.W.mg_of X G a_number_of_orders
  have m_len := PySem.W.mg_none_of X G z_len
  have m_range := PySem.W.mg_none_of X G z_range
  have m_sum := PySem.W.mg_none_of X G z_sum
  have T : Txt mg := ⟨m_len, m_range, m_sum, ⟨_, PySem.W.mg_of X G v_MAX_CHAINS⟩, ⟨_, PySem.W.mg_of X G v_MAX_JOBS⟩, ⟨_, PySem.W.mg_of X G v_MAX_DURATION⟩, ⟨_, PySem.W.mg_of X G v_MAX_WEIGHT⟩, ⟨_, PySem.W.mg_of X G v_OUTSIDE_LIMITS⟩⟩
  exact ⟨PySem.W.fnOf "count_orders" "count_orders" (defArgs s_count_orders) (defBody s_count_orders) (defScope s_count_orders) .none kV_count_orders dc_count_orders pm_count_orders an_count_orders cd_count_orders ct_count_orders, fun s us hu => match us, hu with | [_], _ => .of_eq rfl, fun base _ _ => by
    exact ok_cnt F_count_orders T (ok_read F_read_chains T F_number_of_jobs b_number_of_jobs g_number_of_jobs F_are_within_limits b_are_within_limits g_are_within_limits F_read_jobs b_read_jobs g_read_jobs) k_read_chains b_read_chains g_read_chains
      (ok_no F_number_of_orders T) k_number_of_orders b_number_of_orders g_number_of_orders
    ⟩
end Cj
open PySem PySem.W PyProof.Rows
set_option maxRecDepth 100000 in
set_option maxHeartbeats 8000000 in
theorem PySem.Challenge.cw_chainjobs_s06_count_orders_holds : PySem.Challenge.rw_chainjobs_s06_count_orders.Holds := by
  w_on; k_headS; (case hw => exact ⟨[.list []], by decide +kernel, by decide +kernel⟩)
  k_fillS
  refine L2.walk_specK (r := PySem.Challenge.rw_chainjobs_s06_count_orders) (k := 4) (CX := L2.CX0) (ps := ["chains"]) (sp := Cj.spCnt) (by decide +kernel) rfl rfl ⟨rfl, by decide, by decide⟩ (fun w h Y => PySem.W.kIn_of Y) ?F ?S (fun _ _ _ _ z => z)
  case F =>
    intro w mg fa h Y KX G hmg
    refine' Cj.all_mk KX G hmg ?a_count_orders ?l_count_orders ?c_count_orders ?k_count_orders ?a_read_chains ?l_read_chains ?c_read_chains ?k_read_chains ?a_read_jobs ?l_read_jobs ?c_read_jobs ?k_read_jobs ?a_are_within_limits ?l_are_within_limits ?c_are_within_limits ?k_are_within_limits ?a_number_of_jobs ?l_number_of_jobs ?c_number_of_jobs ?k_number_of_jobs ?a_number_of_orders ?l_number_of_orders ?c_number_of_orders ?k_number_of_orders ?v_MAX_CHAINS ?v_MAX_JOBS ?v_MAX_DURATION ?v_MAX_WEIGHT ?v_OUTSIDE_LIMITS ?z_len ?z_range ?z_sum
    (case a_count_orders => k_is)
    (case l_count_orders => k_is)
    (case c_count_orders => k_is)
    (case k_count_orders => k_is)
    (case a_read_chains => k_is)
    (case l_read_chains => k_is)
    (case c_read_chains => k_is)
    (case k_read_chains => k_is)
    (case a_read_jobs => k_is)
    (case l_read_jobs => k_is)
    (case c_read_jobs => k_is)
    (case k_read_jobs => k_is)
    (case a_are_within_limits => k_is)
    (case l_are_within_limits => k_is)
    (case c_are_within_limits => k_is)
    (case k_are_within_limits => k_is)
    (case a_number_of_jobs => k_is)
    (case l_number_of_jobs => k_is)
    (case c_number_of_jobs => k_is)
    (case k_number_of_jobs => k_is)
    (case a_number_of_orders => k_is)
    (case l_number_of_orders => k_is)
    (case c_number_of_orders => k_is)
    (case k_number_of_orders => k_is)
    (case v_MAX_CHAINS => k_is)
    (case v_MAX_JOBS => k_is)
    (case v_MAX_DURATION => k_is)
    (case v_MAX_WEIGHT => k_is)
    (case v_OUTSIDE_LIMITS => k_is)
    (case z_len => k_is)
    (case z_range => k_is)
    (case z_sum => k_is)
  case S =>
    intro K H xs a hO hwi hask hx
    cases hx with
    | cons h1 h2 =>
      cases h2
      cases h1 with
      | lst hs ha =>
        have e := L2.ints_dw a.1 _ ha
        subst e
        have q : ((Codec.inLen 0 25 a.1 && a.1.all (Codec.inInt 0 4294967295)) && true) = true := hwi
        rw [Bool.and_eq_true, Bool.and_eq_true] at q
        have l1 := (Codec.inNat_iff.mp q.1.1).2
        rw [Cj.of_ints q.1.2] at hs
        refine ⟨_, a.1.map Int.toNat, rfl, hs, ?_, fun H' p hp => ?_⟩
        · rw [List.length_map]
          exact Nat.le_trans l1 (by decide)
        · exact .lst (L2.SqL.of hp) (L2.dw_ints _)
#print axioms PySem.Challenge.cw_chainjobs_s06_count_orders_holds
