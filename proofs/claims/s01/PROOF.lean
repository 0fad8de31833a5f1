import PyProof.Rows.All
import Wide.All
import OpenK.AllK
import Wide.FinOn
import Open.SpecLaws
import KE.OsGo
import HandS.ForSpec
import HandS.ForMost
import HandS.Evl
import HandS.More
import HandS.Flow
import HandS.Walk
import HandS.Lambda
import HandS.Nested
import HandS.SortKw
import KE.KMinKey
import KE.KEqDeep
import HandS.Style
import HandS.Head4
import HandS.HeadHook4
import PySem.Challenge.RW_skipruns_s01_answers
set_option Elab.async false
namespace Mine
open Rp02

/-! ### questions and answers as numbers -/
theorem askNumbers_inj : ∀ {q q' : Ask}, askNumbers q = askNumbers q' → q = q'
  | .file a n, .file b m, h => by simp [askNumbers] at h; simp [h]
  | .names a l u, .names b m v, h => by simp [askNumbers] at h; simp [h]
  | .file a n, .names b m v, h => by simp [askNumbers] at h
  | .names a l u, .file b m, h => by simp [askNumbers] at h
def kinded : Ask × Reply → Bool
  | (.file _ _, .absent) => true
  | (.file _ _, .holds _) => true
  | (.names _ _ _, .those _) => true
  | _ => false
theorem replyNumbers_inj {q : Ask} : ∀ {r r' : Reply}, kinded (q, r) = true → kinded (q, r') = true → replyNumbers r = replyNumbers r' → r = r' := by
  intro r r' h h' e
  cases q <;> cases r <;> cases r' <;> simp_all [kinded, replyNumbers]
theorem kinded_reply (w : World) (q : Ask) : kinded (q, reply w q) = true := by
  cases q with
  | file a n =>
    show kinded (_, match find _ n with | some c => Reply.holds c | none => Reply.absent) = true
    cases find (w.getD (Ask.file a n).area []) n <;> rfl
  | names a lo hi => rfl
def KTr (t : Trace) : Prop := ∀ x ∈ t, kinded x = true
theorem formed_kinded : ∀ {x : Ask × Reply}, formed x = true → kinded x = true
  | (.file _ _, .absent), _ => rfl
  | (.file _ _, .holds _), _ => rfl
  | (.names _ _ _, .those _), _ => rfl
  | (.file _ _, .those _), h => by simp [formed] at h
  | (.names _ _ _, .absent), h => by simp [formed] at h
  | (.names _ _ _, .holds _), h => by simp [formed] at h

/-! ### a step that is right -/
def between (l : List Nat) (lo hi : Nat) : List Nat := l.filter fun n => decide (lo ≤ n) && decide (n ≤ hi)
def stepRight (job : Nat) : Ask × Reply → Bool
  | (.file a _, _) => decide (a ≤ job)
  | (.names a lo hi, .those l) => decide (a ≤ job) && (decide (lo ≤ hi) && (rising l && decide (between l lo hi = l)))
  | (.names _ _ _, _) => false
theorem stepRight_eq {job : Nat} {x : Ask × Reply} (h : kinded x = true) : stepRight job x = (formed x && decide (x.1.area ≤ job)) := by
  obtain ⟨q, r⟩ := x
  cases q with
  | file a n => cases r <;> first | rfl | (simp [kinded] at h) | (simp only [stepRight, formed, Ask.area, Bool.true_and])
  | names a lo hi =>
    cases r with
    | absent => simp [kinded] at h
    | holds c => simp [kinded] at h
    | those l =>
      rw [Bool.eq_iff_iff]
      simp only [stepRight, formed, Ask.area, between, Bool.and_eq_true, decide_eq_true_eq, List.filter_eq_self, List.all_eq_true]
      constructor
      · rintro ⟨h1, h2, h3, h4⟩
        exact ⟨⟨h2, h3, h4⟩, decide_eq_true h1⟩
      · rintro ⟨⟨h2, h3, h4⟩, h1⟩
        exact ⟨of_decide_eq_true h1, h2, h3, h4⟩

/-! ### two steps together -/
def fits (n : Nat) (there : Bool) (lo hi : Nat) (l : List Nat) : Bool := if n < lo ∨ hi < n then true else there == l.contains n
def agree (lo hi : Nat) (l : List Nat) (lo' hi' : Nat) (m : List Nat) : Bool := decide (between l (max lo lo') (min hi hi') = between m (max lo lo') (min hi hi'))
def isThere : Reply → Bool
  | .holds _ => true
  | _ => false
def together (x y : Ask × Reply) : Bool :=
  if x.1 = y.1 then false else if x.1.area ≠ y.1.area then true else
  match x, y with
  | (.file _ _, _), (.file _ _, _) => true
  | (.file _ n, r), (.names _ lo hi, .those l) => fits n (isThere r) lo hi l
  | (.names _ lo hi, .those l), (.file _ n, r) => fits n (isThere r) lo hi l
  | (.names _ lo hi, .those l), (.names _ lo' hi', .those m) => agree lo hi l lo' hi' m
  | _, _ => true
theorem between_inter {l : List Nat} {lo hi lo' hi' : Nat} (h : ∀ n ∈ l, lo ≤ n ∧ n ≤ hi) : between l (max lo lo') (min hi hi') = l.filter fun n => decide (lo' ≤ n) && decide (n ≤ hi') := by
  unfold between
  refine List.filter_congr fun n hn => ?_
  have := h n hn
  rw [Bool.eq_iff_iff]
  simp only [Bool.and_eq_true, decide_eq_true_eq]
  omega
theorem formed_in {a lo hi : Nat} {l : List Nat} (h : formed (.names a lo hi, .those l) = true) : ∀ n ∈ l, lo ≤ n ∧ n ≤ hi := by
  simp [formed] at h
  exact h.2.2
theorem fits_eq {n lo hi : Nat} {r : Reply} {l : List Nat} (h : isThere r = (r != .absent)) : fits n (isThere r) lo hi l = (decide (n < lo) || (decide (hi < n) || ((r != .absent) == l.contains n))) := by
  unfold fits
  rw [← h]
  by_cases h1 : n < lo <;> by_cases h2 : hi < n <;> simp [h1, h2]
theorem isThere_of {q : Ask} {r : Reply} (h : kinded (q, r) = true) {a n : Nat} (hq : q = .file a n) : isThere r = (r != .absent) := by
  subst hq
  cases r <;> simp_all [kinded, isThere]
theorem together_eq {x y : Ask × Reply} (hx : formed x = true) (hy : formed y = true) : together x y = (!decide (x.1 = y.1) && fit x y) := by
  have kx := formed_kinded hx
  have ky := formed_kinded hy
  obtain ⟨q, r⟩ := x
  obtain ⟨q', r'⟩ := y
  unfold together
  by_cases e : q = q'
  · simp [e]
  · simp only [e, if_false, decide_false, Bool.not_false, Bool.true_and]
    cases q with
    | file a n =>
      cases q' with
      | file b m =>
        simp only [Ask.area]
        by_cases ab : a = b <;> cases r <;> cases r' <;> simp_all [fit, kinded]
      | names b lo hi =>
        cases r' with
        | those l =>
          have hT := isThere_of kx rfl
          simp only [Ask.area, fit, fits_eq hT]
          by_cases ab : a = b <;> simp [ab]
        | absent => simp [kinded] at ky
        | holds c => simp [kinded] at ky
    | names a lo hi =>
      cases r with
      | those l =>
        cases q' with
        | file b m =>
          have hT := isThere_of ky rfl
          simp only [Ask.area, fit, fits_eq hT]
          by_cases ab : a = b
          · simp [ab]
          · have ba : ¬ b = a := fun h => ab h.symm
            simp [ab, ba]
        | names b lo' hi' =>
          cases r' with
          | those m =>
            simp only [Ask.area, fit, agree]
            rw [between_inter (formed_in hx), Nat.max_comm, Nat.min_comm, between_inter (formed_in hy)]
            by_cases ab : a = b
            · simp only [ab, ne_eq, not_true_eq_false, if_false, bne_self_eq_false, Bool.false_or]
              rw [Bool.eq_iff_iff]
              simp only [decide_eq_true_eq, beq_iff_eq]
            · simp [ab]
          | absent => simp [kinded] at ky
          | holds c => simp [kinded] at ky
      | absent => simp [kinded] at kx
      | holds c => simp [kinded] at kx
theorem fit_symm (x y : Ask × Reply) : fit x y = fit y x := by
  obtain ⟨q, r⟩ := x
  obtain ⟨q', r'⟩ := y
  cases q <;> cases r <;> cases q' <;> cases r' <;> simp only [fit]
  rename_i a lo hi l b lo' hi' m
  rw [Bool.eq_iff_iff]
  simp only [Bool.or_eq_true, bne_iff_ne, beq_iff_eq, ne_eq]
  constructor
  · rintro (h | h)
    · exact .inl fun e => h e.symm
    · exact .inr h.symm
  · rintro (h | h)
    · exact .inl fun e => h e.symm
    · exact .inr h.symm
theorem fit_self {x : Ask × Reply} (h : formed x = true) : fit x x = true := by
  obtain ⟨q, r⟩ := x
  cases q <;> cases r <;> simp_all [fit, formed]

/-! ### a trace that is right -/
theorem nodup_iff : ∀ {l : List Ask}, nodup l = true ↔ l.Pairwise (· ≠ ·)
  | [] => by simp [nodup]
  | q :: r => by
    simp only [nodup, Bool.and_eq_true, List.pairwise_cons, nodup_iff (l := r), Bool.not_eq_true']
    constructor
    · rintro ⟨h1, h2⟩
      refine ⟨fun q' h e => ?_, h2⟩
      subst e
      have := List.contains_iff_mem.mpr h
      rw [h1] at this
      cases this
    · rintro ⟨h1, h2⟩
      refine ⟨?_, h2⟩
      cases e : r.contains q with
      | false => rfl
      | true => exact absurd rfl (h1 q (List.contains_iff_mem.mp e))
theorem all_all_iff : ∀ {t : Trace}, (∀ x ∈ t, fit x x = true) → ((t.all fun x => t.all fun y => fit x y) = true ↔ t.Pairwise fun x y => fit x y = true) := by
  intro t hs
  simp only [List.all_eq_true]
  constructor
  · intro h
    exact List.Pairwise.imp_of_mem (R := fun _ _ => True) (fun ha hb _ => h _ ha _ hb) (List.pairwise_of_forall (fun _ _ => trivial))
  · intro h x hx y hy
    induction t with
    | nil => cases hx
    | cons a r ih =>
      obtain ⟨h1, h2⟩ := List.pairwise_cons.mp h
      rcases List.mem_cons.mp hx with ex | hx'
      · rcases List.mem_cons.mp hy with ey | hy'
        · rw [ex, ey]
          exact hs _ List.mem_cons_self
        · rw [ex]
          exact h1 _ hy'
      · rcases List.mem_cons.mp hy with ey | hy'
        · rw [ey, fit_symm]
          exact h1 _ hx'
        · exact ih (fun x hx => hs x (List.mem_cons_of_mem _ hx)) h2 hx' hy'
theorem right_iff {job : Nat} {t : Trace} (k : KTr t) : right job t = true ↔ (∀ x ∈ t, stepRight job x = true) ∧ t.Pairwise fun x y => together x y = true := by
  unfold right
  simp only [Bool.and_eq_true]
  have e1 : ((t.all fun x => formed x && decide (x.1.area ≤ job)) = true) ↔ ∀ x ∈ t, stepRight job x = true := by
    rw [List.all_eq_true]
    constructor
    · intro h x hx
      rw [stepRight_eq (k x hx)]
      exact h x hx
    · intro h x hx
      rw [← stepRight_eq (k x hx)]
      exact h x hx
  rw [e1]
  refine and_congr_right fun h => ?_
  have hf : ∀ x ∈ t, formed x = true := fun x hx => by
    have := h x hx
    rw [stepRight_eq (k x hx), Bool.and_eq_true] at this
    exact this.1
  rw [nodup_iff, all_all_iff fun x hx => fit_self (hf x hx), List.pairwise_map, ← List.pairwise_and_iff]
  constructor
  · intro hp
    refine hp.imp_of_mem fun {x y} hx hy hh => ?_
    rw [together_eq (hf x hx) (hf y hy), hh.2]
    simp [hh.1]
  · intro hp
    refine hp.imp_of_mem fun {x y} hx hy hh => ?_
    rw [together_eq (hf x hx) (hf y hy), Bool.and_eq_true] at hh
    exact ⟨by simpa using hh.1, hh.2⟩
end Mine
set_option Elab.async false
namespace Mine
open Rp02

/-! ### contradictions by places -/
theorem clash_take : ∀ {t u : Trace} {i k : Nat}, t.take i = u.take i → i ≤ t.length → i ≤ u.length → Rp02.clash k t u = Rp02.clash (k + i) (t.drop i) (u.drop i)
  | _, _, 0, _, _, _, _ => by simp
  | [], _, i + 1, _, _, h, _ => by simp at h
  | _ :: _, [], i + 1, _, _, _, h => by simp at h
  | x :: t, y :: u, i + 1, k, e, h, h' => by
    simp only [List.take_succ_cons, List.cons.injEq] at e
    obtain ⟨rfl, e⟩ := e
    simp only [List.length_cons, Nat.add_le_add_iff_right] at h h'
    simp only [List.drop_succ_cons, Rp02.clash, ne_eq, not_true_eq_false, if_false]
    rw [clash_take e h h']
    congr 1
    omega
theorem drop_at {α : Type} {l : List α} {i : Nat} {x : α} (h : l[i]? = some x) : l.drop i = x :: l.drop (i + 1) := by
  obtain ⟨h1, h2⟩ := List.getElem?_eq_some_iff.mp h
  rw [List.drop_eq_getElem_cons h1, h2]
theorem lt_at {α : Type} {l : List α} {i : Nat} {x : α} (h : l[i]? = some x) : i < l.length := (List.getElem?_eq_some_iff.mp h).1
theorem ne_trace {t u : Trace} {i : Nat} {x y : Ask × Reply} (hx : t[i]? = some x) (hy : u[i]? = some y) (h : x ≠ y) : t ≠ u := by
  rintro rfl
  rw [hx] at hy
  exact h (Option.some.inj hy)
theorem clash_ask {e f : Entry} {i : Nat} {x y : Ask × Reply} (hj : e.job = f.job) (ht : e.trace.take i = f.trace.take i) (hx : e.trace[i]? = some x) (hy : f.trace[i]? = some y) (h : x.1 ≠ y.1) : e.clash f = some i := by
  unfold Entry.clash
  rw [if_neg (by simp [hj]), if_neg (ne_trace hx hy fun q => h (by rw [q])), clash_take ht (Nat.le_of_lt (lt_at hx)) (Nat.le_of_lt (lt_at hy)), drop_at hx, drop_at hy]
  simp only [Rp02.clash, if_pos h, Nat.zero_add]
theorem clash_reply {e f : Entry} {i : Nat} {x y : Ask × Reply} (hj : e.job = f.job) (ht : e.trace.take i = f.trace.take i) (hx : e.trace[i]? = some x) (hy : f.trace[i]? = some y) (h : x.1 = y.1) (h2 : x.2 ≠ y.2) : e.clash f = none := by
  unfold Entry.clash
  rw [if_neg (by simp [hj]), if_neg (ne_trace hx hy fun q => h2 (by rw [q])), clash_take ht (Nat.le_of_lt (lt_at hx)) (Nat.le_of_lt (lt_at hy)), drop_at hx, drop_at hy]
  simp only [Rp02.clash, h, ne_eq, not_true_eq_false, if_false, h2, not_false_eq_true, if_true]
theorem clash_short {e f : Entry} (hj : e.job = f.job) (ht : e.trace.take (min e.trace.length f.trace.length) = f.trace.take (min e.trace.length f.trace.length)) (h : e.trace.length ≠ f.trace.length) : e.clash f = some (min e.trace.length f.trace.length) := by
  unfold Entry.clash
  rw [if_neg (by simp [hj]), if_neg (fun q => h (by rw [q])), clash_take ht (Nat.min_le_left _ _) (Nat.min_le_right _ _), Nat.zero_add]
  rcases Nat.lt_or_gt_of_ne h with q | q
  · rw [Nat.min_eq_left (Nat.le_of_lt q), List.drop_length, List.drop_eq_getElem_cons q]
    rfl
  · rw [Nat.min_eq_right (Nat.le_of_lt q), List.drop_length, List.drop_eq_getElem_cons q]
    rfl
theorem trace_eq {e f : Entry} (ht : e.trace.take (min e.trace.length f.trace.length) = f.trace.take (min e.trace.length f.trace.length)) (h : e.trace.length = f.trace.length) : e.trace = f.trace := by
  rw [← h, Nat.min_self, List.take_length, h, List.take_length] at ht
  exact ht
theorem same_iff {e f : Entry} : e.same f = true ↔ e.job = f.job ∧ e.ended = f.ended ∧ e.made = f.made ∧ e.trace = f.trace := by
  simp only [Entry.same, Bool.and_eq_true, beq_iff_eq]
theorem clash_end {e f : Entry} (hj : e.job = f.job) (ht : e.trace = f.trace) (h : ¬ (e.ended = f.ended ∧ e.made = f.made)) : e.clash f = some e.trace.length := by
  unfold Entry.clash
  rw [if_neg (by simp [hj]), if_pos ht, if_neg]
  intro q
  obtain ⟨_, h1, h2, _⟩ := same_iff.mp q
  exact h ⟨h1, h2⟩
theorem clash_same {e f : Entry} (h : e.same f = true) : e.clash f = none := by
  unfold Entry.clash
  have q := same_iff.mp h
  rw [if_neg (by simp [q.1]), if_pos q.2.2.2, if_pos h]
theorem clash_job {e f : Entry} (h : e.job ≠ f.job) : e.clash f = none := by
  unfold Entry.clash
  rw [if_pos h]
/-- what is the same contradicts the same -/
theorem clash_congr {g e f : Entry} (h : f.same e = true) : g.clash f = g.clash e := by
  have q := same_iff.mp h
  unfold Entry.clash Entry.same
  rw [q.1, q.2.1, q.2.2.1, q.2.2.2]
/-- traces alike so far, then another question: a contradiction -/
theorem clash_none_ask {e f : Entry} {i : Nat} {x y : Ask × Reply} (hj : e.job = f.job) (hc : e.clash f = none) (ht : e.trace.take i = f.trace.take i) (hx : e.trace[i]? = some x) (hy : f.trace[i]? = some y) : x.1 = y.1 := by
  by_cases h : x.1 = y.1
  · exact h
  · rw [clash_ask hj ht hx hy h] at hc
    cases hc

/-! ### what is held -/
def Apart (l : List Entry) : Prop := l.Pairwise fun f g => f.same g = false ∧ f.clash g = none
theorem add_apart {l : List Entry} {e : Entry} (h : Apart l) : Apart (add l e) := by
  unfold add
  split
  · exact h
  · rename_i q
    unfold Apart
    rw [List.pairwise_append]
    refine ⟨h, by simp, fun f hf g hg => ?_⟩
    rw [List.mem_singleton.mp hg]
    rw [List.any_eq_true] at q
    have q2 : ¬ (f.same e || (f.clash e).isSome) = true := fun z => q ⟨f, hf, z⟩
    simp only [Bool.or_eq_true, not_or, Bool.not_eq_true, Option.isSome_eq_false_iff, Option.isNone_iff_eq_none] at q2
    exact q2
theorem foldl_apart : ∀ {log l : List Entry}, Apart l → Apart (log.foldl add l)
  | [], _, h => h
  | e :: log, l, h => foldl_apart (log := log) (l := add l e) (add_apart h)
theorem taken_apart (log : List Entry) : Apart (Rp02.taken log) := foldl_apart (by unfold Apart; simp)
theorem taken_snoc (log : List Entry) (e : Entry) : Rp02.taken (log ++ [e]) = add (Rp02.taken log) e := by
  unfold Rp02.taken
  rw [List.foldl_append]
  rfl
theorem foldl_sub : ∀ {log l : List Entry} {e : Entry}, e ∈ log.foldl add l → e ∈ l ∨ e ∈ log
  | [], _, _, h => .inl h
  | f :: log, l, e, h => by
    rcases foldl_sub (log := log) (l := add l f) h with q | q
    · unfold add at q
      split at q
      · exact .inl q
      · rcases List.mem_append.mp q with z | z
        · exact .inl z
        · rw [List.mem_singleton.mp z]
          exact .inr List.mem_cons_self
    · exact .inr (List.mem_cons_of_mem _ q)
theorem taken_sub {log : List Entry} {e : Entry} (h : e ∈ Rp02.taken log) : e ∈ log := by
  rcases foldl_sub (l := []) h with q | q
  · cases q
  · exact q

/-! ### tell's answer: the first that is the same, or contradicts -/
inductive Verdict where
  | new | known | against (id place : Nat)
  deriving DecidableEq
def judge : List Entry → Entry → Verdict
  | [], _ => .new
  | f :: l, e => if f.same e = true then .known else match f.clash e with
    | some k => .against f.id k
    | none => judge l e
def Verdict.nums : Verdict → List Nat
  | .new => [0]
  | .known => [1]
  | .against i k => [2, i, k]
def told (l : List Entry) (e : Entry) : Ans := if (l.any fun f => f.same e) = true then ok 1 else match l.find? fun f => (f.clash e).isSome with
        | some f => ⟨2, [f.id, (f.clash e).getD 0]⟩
        | none => ok 0
def Verdict.ans : Verdict → Ans
  | .new => ok 0
  | .known => ok 1
  | .against i k => ⟨2, [i, k]⟩
theorem judge_told : ∀ {l : List Entry} {e : Entry}, Apart l → told l e = (judge l e).ans
  | [], e, _ => rfl
  | f :: l, e, h => by
    obtain ⟨h1, h2⟩ := List.pairwise_cons.mp h
    unfold judge
    by_cases s : f.same e = true
    · rw [if_pos s]
      unfold told
      rw [if_pos (by simp [s])]
      rfl
    · rw [if_neg s]
      cases c : f.clash e with
      | some k =>
        have hn : (l.any fun f => f.same e) = false := by
          rw [List.any_eq_false]
          intro g hg q
          have := (h1 g hg).2
          rw [clash_congr q, c] at this
          cases this
        unfold told
        rw [if_neg (by simp [s, hn])]
        simp only [List.find?_cons, c, Option.isSome_some, Option.getD_some]
        rfl
      | none =>
        show told (f :: l) e = (judge l e).ans
        rw [← judge_told h2]
        unfold told
        rw [List.any_cons, Bool.eq_false_iff.mpr s, Bool.false_or, List.find?_cons, c]
        rfl
theorem judge_new : ∀ {l : List Entry} {e : Entry}, judge l e = .new ↔ (l.any fun f => f.same e || (f.clash e).isSome) = false
  | [], e => by simp [judge]
  | f :: l, e => by
    unfold judge
    by_cases s : f.same e = true
    · simp [s]
    · rw [if_neg s]
      cases c : f.clash e with
      | some k => simp [c]
      | none =>
        show judge l e = .new ↔ _
        rw [judge_new, List.any_cons, Bool.eq_false_iff.mpr s, c]
        simp
theorem add_judge {l : List Entry} {e : Entry} : add l e = if judge l e = .new then l ++ [e] else l := by
  unfold add
  by_cases h : judge l e = .new
  · rw [if_pos h, if_neg (by rw [judge_new.mp h]; decide)]
  · rw [if_neg h, if_pos]
    cases q : (l.any fun f => f.same e || (f.clash e).isSome) with
    | true => rfl
    | false => exact absurd (judge_new.mpr q) h
end Mine
set_option Elab.async false
namespace Mine
open Rp02

/-! ### what is found; how far one comes -/
def answersSo (w : World) (e : Entry) (k : Nat) : Prop := ∀ x ∈ e.trace.take k, reply w x.1 = x.2
theorem holds_iff {w : World} {e : Entry} : e.holds w = true ↔ ∀ x ∈ e.trace, reply w x.1 = x.2 := by
  simp only [Entry.holds, List.all_eq_true, beq_iff_eq]
theorem hit_eq (l : List Entry) (w : World) (job : Nat) : hit l w job = (l.filter fun e => e.job == job).find? fun e => e.holds w := by
  unfold hit
  induction l with
  | nil => rfl
  | cons e l ih =>
    rw [List.find?_cons, List.filter_cons]
    cases hj : (e.job == job) with
    | false => simpa using ih
    | true =>
      simp only [Bool.true_and, if_true, List.find?_cons]
      cases e.holds w with
      | true => rfl
      | false => exact ih
theorem take_succ_at {α : Type} {l : List α} {i : Nat} {x : α} (h : l[i]? = some x) : l.take (i + 1) = l.take i ++ [x] := by
  rw [List.take_add_one, h]
  rfl
/-- the runs that came as far as k: all held of one job, none found, all alike so far and so now -/
structure Far (w : World) (job k : Nat) (rs : List Entry) : Prop where
  ne : rs ≠ []
  job : ∀ e ∈ rs, e.job = job
  not : ∀ e ∈ rs, e.holds w = false
  so : ∀ e ∈ rs, answersSo w e k
  alike : ∀ e ∈ rs, ∀ f ∈ rs, e.trace.take k = f.trace.take k
  apart : ∀ e ∈ rs, ∀ f ∈ rs, e.clash f = none ∨ f.clash e = none
theorem Far.here {w : World} {job k : Nat} {rs : List Entry} (F : Far w job k rs) {e : Entry} (he : e ∈ rs) : ∃ x, e.trace[k]? = some x := by
  cases h : e.trace[k]? with
  | some x => exact ⟨x, rfl⟩
  | none =>
    have hl := List.getElem?_eq_none_iff.mp h
    have hs := F.so e he
    unfold answersSo at hs
    rw [List.take_of_length_le hl] at hs
    have := holds_iff.mpr hs
    rw [F.not e he] at this
    cases this
theorem Far.ask {w : World} {job k : Nat} {rs : List Entry} (F : Far w job k rs) {e f : Entry} (he : e ∈ rs) (hf : f ∈ rs) {x y : Ask × Reply} (hx : e.trace[k]? = some x) (hy : f.trace[k]? = some y) : x.1 = y.1 := by
  have hj : e.job = f.job := (F.job e he).trans (F.job f hf).symm
  rcases F.apart e he f hf with c | c
  · exact clash_none_ask hj c (F.alike e he f hf) hx hy
  · exact (clash_none_ask hj.symm c (F.alike f hf e he) hy hx).symm
theorem Far.lt {w : World} {job k : Nat} {rs : List Entry} (F : Far w job k rs) (h12 : ∀ e ∈ rs, e.trace.length ≤ 12) : k < 12 := by
  obtain ⟨e, he⟩ := List.exists_mem_of_ne_nil _ F.ne
  obtain ⟨x, hx⟩ := F.here he
  exact Nat.lt_of_lt_of_le (lt_at hx) (h12 e he)
/-- those with the answer now -/
def goOn (rs : List Entry) (k : Nat) (a : Reply) : List Entry := rs.filter fun g => (g.trace[k]?).map (fun y => y.2) == some a
theorem Far.next {w : World} {job k : Nat} {rs : List Entry} (F : Far w job k rs) {e : Entry} (he : e ∈ rs) {x : Ask × Reply} (hx : e.trace[k]? = some x) (hn : goOn rs k (reply w x.1) ≠ []) : Far w job (k + 1) (goOn rs k (reply w x.1)) := by
  have sub : ∀ {f}, f ∈ goOn rs k (reply w x.1) → f ∈ rs ∧ ∃ y, f.trace[k]? = some y ∧ y.1 = x.1 ∧ y.2 = reply w x.1 := fun {f} hf => by
    obtain ⟨h1, h2⟩ := List.mem_filter.mp hf
    obtain ⟨y, hy⟩ := F.here h1
    refine ⟨h1, y, hy, F.ask h1 he hy hx, ?_⟩
    rw [hy] at h2
    simpa using h2
  refine ⟨hn, fun f hf => F.job f (sub hf).1, fun f hf => F.not f (sub hf).1, fun f hf => ?_, fun f hf g hg => ?_, fun f hf g hg => F.apart f (sub hf).1 g (sub hg).1⟩
  · obtain ⟨h1, y, hy, e1, e2⟩ := sub hf
    intro z hz
    rw [take_succ_at hy] at hz
    rcases List.mem_append.mp hz with q | q
    · exact F.so f h1 z q
    · rw [List.mem_singleton.mp q, e1, e2]
  · obtain ⟨h1, y, hy, e1, e2⟩ := sub hf
    obtain ⟨h3, z, hz, e3, e4⟩ := sub hg
    rw [take_succ_at hy, take_succ_at hz, F.alike f h1 g h3, show y = z from Prod.ext (e1.trans e3.symm) (e2.trans e4.symm)]
/-- one turn of the specification's walk -/
theorem walk_stop {w : World} {fuel k : Nat} {e : Entry} {l : List Entry} {x : Ask × Reply} (hx : e.trace[k]? = some x) (h : goOn (e :: l) k (reply w x.1) = []) : walk w (fuel + 1) k (e :: l) = (k, some (x.1, reply w x.1)) := by
  unfold walk
  rw [hx]
  unfold goOn at h
  simp only
  rw [h]
theorem walk_on {w : World} {fuel k : Nat} {e : Entry} {l : List Entry} {x : Ask × Reply} (hx : e.trace[k]? = some x) (h : goOn (e :: l) k (reply w x.1) ≠ []) : walk w (fuel + 1) k (e :: l) = walk w fuel (k + 1) (goOn (e :: l) k (reply w x.1)) := by
  conv => lhs; unfold walk
  rw [hx]
  unfold goOn at h ⊢
  simp only
  cases q : (e :: l).filter fun g => (g.trace[k]?).map (fun y => y.2) == some (reply w x.1) with
  | nil => exact absurd q h
  | cons g m => rfl
/-- at the beginning -/
theorem pair_or {l : List Entry} (h : Apart l) : ∀ e ∈ l, ∀ f ∈ l, e.clash f = none ∨ f.clash e = none := by
  induction l with
  | nil => intro e he; cases he
  | cons a r ih =>
    obtain ⟨h1, h2⟩ := List.pairwise_cons.mp h
    intro e he f hf
    rcases List.mem_cons.mp he with ee | he'
    · rcases List.mem_cons.mp hf with ef | hf'
      · rw [ee, ef]
        exact .inl (clash_same (same_iff.mpr ⟨rfl, rfl, rfl, rfl⟩))
      · rw [ee]
        exact .inl (h1 f hf').2
    · rcases List.mem_cons.mp hf with ef | hf'
      · rw [ef]
        exact .inr (h1 e he').2
      · exact ih h2 e he' f hf'
theorem far_start {w : World} {job : Nat} {l : List Entry} (h : Apart l) (hn : hit l w job = none) (hne : (l.filter fun e => e.job == job) ≠ []) : Far w job 0 (l.filter fun e => e.job == job) := by
  rw [hit_eq] at hn
  refine ⟨hne, fun e he => by simpa using (List.mem_filter.mp he).2, fun e he => by simpa using List.find?_eq_none.mp hn e he, fun e he x hx => ?_, fun e he f hf => by simp, fun e he f hf => pair_or h e (List.mem_filter.mp he).1 f (List.mem_filter.mp hf).1⟩
  simp at hx

/-! ### an area in a dict -/
def Sorted (a : Area) : Prop := (a.map fun f => f.1).Pairwise (· < ·)
theorem rising_iff : ∀ {l : List Nat}, rising l = true ↔ l.Pairwise (· < ·)
  | [] => by simp [rising]
  | [a] => by simp [rising]
  | a :: b :: r => by
    simp only [rising, Bool.and_eq_true, decide_eq_true_eq, rising_iff (l := b :: r)]
    constructor
    · rintro ⟨h1, h2⟩
      refine List.pairwise_cons.mpr ⟨fun c hc => ?_, h2⟩
      rcases List.mem_cons.mp hc with rfl | hc'
      · exact h1
      · exact Nat.lt_trans h1 ((List.pairwise_cons.mp h2).1 c hc')
    · intro h
      obtain ⟨h1, h2⟩ := List.pairwise_cons.mp h
      exact ⟨h1 b List.mem_cons_self, h2⟩
theorem insert_perm : ∀ {a : Area} {n c : Nat}, find a n = none → (Rp02.insert n c a).Perm (a ++ [(n, c)])
  | [], n, c, _ => by simp [Rp02.insert]
  | f :: r, n, c, h => by
    unfold Rp02.insert
    have hne : ¬ f.1 = n := by
      intro e
      simp [find, e] at h
    have hr : find r n = none := by
      unfold find at h ⊢
      rw [List.find?_cons] at h
      have : (f.1 == n) = false := by simpa using hne
      rw [this] at h
      exact h
    split
    · exact (List.perm_append_singleton (n, c) (f :: r)).symm
    · rw [if_neg (fun e => hne e.symm)]
      exact (insert_perm hr).cons f
theorem insert_set : ∀ {a : Area} {n c : Nat}, Sorted a → (∃ d, (n, d) ∈ a) → Rp02.insert n c a = a.map fun f => if f.1 = n then (n, c) else f
  | [], _, _, _, ⟨_, h⟩ => by cases h
  | f :: r, n, c, hs, ⟨d, h⟩ => by
    have hs' : (f.1 :: (r.map fun f => f.1)).Pairwise (· < ·) := hs
    obtain ⟨h1, h2⟩ := List.pairwise_cons.mp hs'
    unfold Rp02.insert
    by_cases e : f.1 = n
    · rw [if_neg (by omega), if_pos e.symm, List.map_cons, if_pos e]
      congr 1
      have : ∀ x ∈ r, x.1 ≠ n := fun x hx => by
        have := h1 x.1 (List.mem_map.mpr ⟨x, hx, rfl⟩)
        omega
      symm
      calc r.map (fun f => if f.1 = n then (n, c) else f) = r.map id := List.map_congr_left fun x hx => if_neg (this x hx)
        _ = r := List.map_id r
    · rcases List.mem_cons.mp h with q | q
      · rw [← q] at e
        exact absurd rfl e
      · have := h1 n (List.mem_map.mpr ⟨(n, d), q, rfl⟩)
        rw [if_neg (by omega), if_neg (fun z => e z.symm), List.map_cons, if_neg e, insert_set h2 ⟨d, q⟩]
theorem mem_insert_fst : ∀ {a : Area} {n c : Nat} {k : Nat}, k ∈ (Rp02.insert n c a).map (fun f => f.1) → k = n ∨ k ∈ a.map fun f => f.1
  | [], n, c, k, h => by simpa [Rp02.insert] using h
  | f :: r, n, c, k, h => by
    unfold Rp02.insert at h
    split at h
    · simpa using h
    · split at h
      · rename_i e
        rw [List.map_cons, List.mem_cons] at h
        rcases h with h | h
        · exact .inl h
        · exact .inr (List.mem_cons_of_mem _ h)
      · rw [List.map_cons, List.mem_cons] at h
        rcases h with h | h
        · exact .inr (by rw [List.map_cons, h]; exact List.mem_cons_self)
        · rcases mem_insert_fst h with q | q
          · exact .inl q
          · exact .inr (List.mem_cons_of_mem _ q)
theorem insert_sorted : ∀ {a : Area} {n c : Nat}, Sorted a → Sorted (Rp02.insert n c a)
  | [], n, c, _ => by simp [Rp02.insert, Sorted]
  | f :: r, n, c, hs => by
    have hs' : (f.1 :: (r.map fun f => f.1)).Pairwise (· < ·) := hs
    obtain ⟨h1, h2⟩ := List.pairwise_cons.mp hs'
    unfold Rp02.insert
    split
    · rename_i q
      show (n :: f.1 :: (r.map fun f => f.1)).Pairwise (· < ·)
      refine List.pairwise_cons.mpr ⟨fun k hk => ?_, hs'⟩
      rcases List.mem_cons.mp hk with e | hk'
      · omega
      · exact Nat.lt_trans q (h1 k hk')
    · split
      · rename_i e
        show (n :: (r.map fun f => f.1)).Pairwise (· < ·)
        rw [e]
        exact hs'
      · show (f.1 :: ((Rp02.insert n c r).map fun f => f.1)).Pairwise (· < ·)
        refine List.pairwise_cons.mpr ⟨fun k hk => ?_, insert_sorted h2⟩
        rcases mem_insert_fst hk with e | hk'
        · omega
        · exact h1 k hk'
theorem filter_sorted {a : Area} {p : Nat × Nat → Bool} (h : Sorted a) : Sorted (a.filter p) := List.Pairwise.sublist (List.Sublist.map _ List.filter_sublist) h
theorem find_some_mem {a : Area} {n c : Nat} (h : find a n = some c) : (n, c) ∈ a := by
  unfold find at h
  rw [Option.map_eq_some_iff] at h
  obtain ⟨f, hf, e⟩ := h
  have h1 := List.mem_of_find?_eq_some hf
  have h2 := List.find?_some hf
  have : f = (n, c) := Prod.ext (by simpa using h2) e
  rw [← this]
  exact h1
theorem sorted_inj {a : Area} (hs : Sorted a) {x y : Nat × Nat} (hx : x ∈ a) (hy : y ∈ a) (h : x.1 = y.1) : x = y := by
  induction a with
  | nil => cases hx
  | cons f r ih =>
    have hs' : (f.1 :: (r.map fun f => f.1)).Pairwise (· < ·) := hs
    obtain ⟨h1, h2⟩ := List.pairwise_cons.mp hs'
    rcases List.mem_cons.mp hx with ex | hx'
    · rcases List.mem_cons.mp hy with ey | hy'
      · rw [ex, ey]
      · have := h1 y.1 (List.mem_map.mpr ⟨y, hy', rfl⟩)
        rw [ex] at h
        omega
    · rcases List.mem_cons.mp hy with ey | hy'
      · have := h1 x.1 (List.mem_map.mpr ⟨x, hx', rfl⟩)
        rw [ey] at h
        omega
      · exact ih h2 hx' hy'
theorem find_mem {a : Area} {n c : Nat} (hs : Sorted a) (h : (n, c) ∈ a) : find a n = some c := by
  cases q : find a n with
  | some d =>
    have := sorted_inj hs h (find_some_mem q) rfl
    rw [show c = d from congrArg Prod.snd this]
  | none =>
    unfold find at q
    rw [Option.map_eq_none_iff, List.find?_eq_none] at q
    exact absurd (q (n, c) h) (by simp)
theorem find_none_iff {a : Area} {n : Nat} : find a n = none ↔ ∀ c, (n, c) ∉ a := by
  unfold find
  rw [Option.map_eq_none_iff, List.find?_eq_none]
  constructor
  · intro h c hc
    exact absurd (h (n, c) hc) (by simp)
  · intro h f hf e
    have : f = (n, f.2) := Prod.ext (by simpa using e) rfl
    rw [this] at hf
    exact h f.2 hf
/-- sorted lists of the same numbers are one -/
theorem sorted_unique {l m : List Nat} (hp : l.Perm m) (h1 : l.Pairwise (· ≤ ·)) (h2 : m.Pairwise (· < ·)) : l = m := by
  refine List.Perm.eq_of_pairwise (le := (· ≤ ·)) (fun a b _ _ h h' => Nat.le_antisymm h h') h1 (h2.imp Nat.le_of_lt) hp
/-- the dict's pairs, in any order, and the area -/
structure InDict (l : List (Nat × Nat)) (a : Area) : Prop where
  perm : l.Perm a
  sorted : Sorted a
theorem InDict.length {l : List (Nat × Nat)} {a : Area} (h : InDict l a) : l.length = a.length := h.perm.length_eq
theorem InDict.nodup {l : List (Nat × Nat)} {a : Area} (h : InDict l a) : (l.map fun f => f.1).Nodup := by
  have : (a.map fun f => f.1).Nodup := h.sorted.imp Nat.ne_of_lt
  exact (h.perm.map _).nodup_iff.mpr this
end Mine
set_option Elab.async false
namespace Mine
open Rp02

/-! ### the calls, read by places -/
def used (rows : List (List Int)) : Nat := (rows.map fun r => 1 + r.length).sum
theorem used_cons (x : List Int) (xs : List (List Int)) : used (x :: xs) = 1 + x.length + used xs := by
  unfold used
  rw [List.map_cons, List.sum_cons]
structure RowAt (l : List Int) (i : Nat) (x : List Int) : Prop where
  size : l[i]? = some (x.length : Int)
  what : (l.drop (i + 1)).take x.length = x
  room : i + 1 + x.length ≤ l.length
theorem row_at {l : List Int} {i : Nat} {x s : List Int} (h : PyFlat.row (l.drop i) = some (x, s)) : RowAt l i x ∧ s = l.drop (i + 1 + x.length) := by
  cases e : l.drop i with
  | nil =>
    rw [e] at h
    cases h
  | cons n r =>
    rw [e] at h
    have hi : i < l.length := by
      rcases Nat.lt_or_ge i l.length with q | q
      · exact q
      · rw [List.drop_of_length_le q] at e
        cases e
    rw [List.drop_eq_getElem_cons hi] at e
    obtain ⟨e1, e2⟩ := List.cons.inj e
    unfold PyFlat.row at h
    dsimp only at h
    by_cases c : 0 ≤ n ∧ n.toNat ≤ r.length
    · rw [if_pos c] at h
      obtain ⟨hx, hs⟩ := Prod.mk.inj (Option.some.inj h)
      have hl : x.length = n.toNat := by
        rw [← hx, List.length_take]
        omega
      have hr : r.length = l.length - (i + 1) := by rw [← e2, List.length_drop]
      refine ⟨⟨?_, ?_, by omega⟩, ?_⟩
      · rw [List.getElem?_eq_getElem hi, e1, hl]
        congr 1
        omega
      · rw [e2, hl]
        exact hx
      · rw [← hs, ← e2, List.drop_drop, hl]
    · rw [if_neg c] at h
      cases h
theorem rows_at : ∀ {k : Nat} {l : List Int} {i : Nat} {xs : List (List Int)} {t : List Int}, PyFlat.rows k (l.drop i) = some (xs, t) → xs.length = k ∧ t = l.drop (i + used xs)
  | 0, l, i, xs, t, h => by
    obtain ⟨hx, ht⟩ := Prod.mk.inj (Option.some.inj h)
    subst hx ht
    exact ⟨rfl, rfl⟩
  | k + 1, l, i, xs, t, h => by
    unfold PyFlat.rows at h
    cases e : PyFlat.row (l.drop i) with
    | none =>
      rw [e] at h
      cases h
    | some q =>
      obtain ⟨x, s⟩ := q
      rw [e] at h
      simp only at h
      obtain ⟨_, es⟩ := row_at e
      cases e2 : PyFlat.rows k s with
      | none =>
        rw [e2] at h
        cases h
      | some q2 =>
        obtain ⟨ys, u⟩ := q2
        rw [e2] at h
        obtain ⟨hx, ht⟩ := Prod.mk.inj (Option.some.inj h)
        subst hx ht
        rw [es] at e2
        obtain ⟨h1, h2⟩ := rows_at e2
        refine ⟨by rw [List.length_cons, h1], ?_⟩
        rw [h2, used_cons]
        congr 1
        omega
theorem rows_step {k : Nat} {l : List Int} {i : Nat} {xs : List (List Int)} {t : List Int} (h : PyFlat.rows (k + 1) (l.drop i) = some (xs, t)) :
    ∃ x ys, xs = x :: ys ∧ RowAt l i x ∧ PyFlat.rows k (l.drop (i + 1 + x.length)) = some (ys, t) := by
  unfold PyFlat.rows at h
  cases e : PyFlat.row (l.drop i) with
  | none =>
    rw [e] at h
    cases h
  | some q =>
    obtain ⟨x, s⟩ := q
    rw [e] at h
    simp only at h
    obtain ⟨hr, es⟩ := row_at e
    cases e2 : PyFlat.rows k s with
    | none =>
      rw [e2] at h
      cases h
    | some q2 =>
      obtain ⟨ys, u⟩ := q2
      rw [e2] at h
      obtain ⟨hx, ht⟩ := Prod.mk.inj (Option.some.inj h)
      subst hx ht
      rw [es] at e2
      exact ⟨x, ys, rfl, hr, e2⟩
/-- the rows stand one behind another from a place on -/
def RowsAt (l : List Int) : Nat → List (List Int) → Prop
  | _, [] => True
  | i, x :: ys => RowAt l i x ∧ RowsAt l (i + 1 + x.length) ys
theorem rows_all : ∀ {k : Nat} {l : List Int} {i : Nat} {xs : List (List Int)} {t : List Int}, PyFlat.rows k (l.drop i) = some (xs, t) → RowsAt l i xs
  | 0, l, i, xs, t, h => by
    obtain ⟨hx, ht⟩ := Prod.mk.inj (Option.some.inj h)
    subst hx
    trivial
  | k + 1, l, i, xs, t, h => by
    obtain ⟨x, ys, e, hr, h2⟩ := rows_step h
    subst e
    exact ⟨hr, rows_all h2⟩
theorem RowsAt.get : ∀ {l : List Int} {xs : List (List Int)} {i j : Nat} {x : List Int}, RowsAt l i xs → xs[j]? = some x → RowAt l (i + used (xs.take j)) x
  | l, [], i, j, x, _, h => by simp at h
  | l, y :: ys, i, 0, x, h, e => by
    have : y = x := Option.some.inj e
    subst this
    exact h.1
  | l, y :: ys, i, j + 1, x, h, e => by
    have := RowsAt.get (j := j) h.2 e
    rw [List.take_succ_cons, used_cons]
    have q : i + (1 + y.length + used (ys.take j)) = i + 1 + y.length + used (ys.take j) := by omega
    rw [q]
    exact this
/-- one call at a place -/
structure CallAt (l : List Int) (i : Nat) (p : Int) (ns : List Int) (rows : List (List Int)) : Prop where
  call : l[i]? = some p
  nums : RowAt l (i + 1) ns
  many : l[i + 2 + ns.length]? = some (rows.length : Int)
  rows : RowsAt l (i + 3 + ns.length) rows
def behind (i : Nat) (ns : List Int) (rows : List (List Int)) : Nat := i + 3 + ns.length + used rows
theorem call_at {l : List Int} {i : Nat} {c : List (List Int)} {t : List Int} (h : PyWide.call (l.drop i) = some (c, t)) : ∃ p ns rows, c = (p :: ns) :: rows ∧ CallAt l i p ns rows ∧ t = l.drop (behind i ns rows) := by
  cases e : l.drop i with
  | nil =>
    rw [e] at h
    cases h
  | cons p r =>
    rw [e] at h
    have hi : i < l.length := by
      rcases Nat.lt_or_ge i l.length with q | q
      · exact q
      · rw [List.drop_of_length_le q] at e
        cases e
    rw [List.drop_eq_getElem_cons hi] at e
    obtain ⟨e1, e2⟩ := List.cons.inj e
    unfold PyWide.call at h
    rw [← e2] at h
    dsimp only at h
    cases e3 : PyFlat.row (l.drop (i + 1)) with
    | none =>
      rw [e3] at h
      cases h
    | some q =>
      obtain ⟨ns, s⟩ := q
      rw [e3] at h
      obtain ⟨hr, es⟩ := row_at e3
      cases e4 : s with
      | nil =>
        rw [e4] at h
        cases h
      | cons k t' =>
        rw [e4] at h
        dsimp only at h
        by_cases hk : 0 ≤ k
        · rw [if_pos hk] at h
          rw [e4] at es
          have hj : i + 1 + 1 + ns.length < l.length := by
            rcases Nat.lt_or_ge (i + 1 + 1 + ns.length) l.length with q | q
            · exact q
            · rw [List.drop_of_length_le q] at es
              cases es
          rw [List.drop_eq_getElem_cons hj] at es
          obtain ⟨ek, et⟩ := List.cons.inj es
          rw [et] at h
          cases e5 : PyFlat.rows k.toNat (l.drop (i + 1 + 1 + ns.length + 1)) with
          | none =>
            rw [e5] at h
            cases h
          | some q2 =>
            obtain ⟨xs, u⟩ := q2
            rw [e5] at h
            obtain ⟨hc, hu⟩ := Prod.mk.inj (Option.some.inj h)
            obtain ⟨h1, h2⟩ := rows_at e5
            have hp : i + 1 + 1 + ns.length + 1 = i + 3 + ns.length := by omega
            refine ⟨p, ns, xs, hc.symm, ⟨by rw [List.getElem?_eq_getElem hi, e1], hr, ?_, ?_⟩, ?_⟩
            · rw [show i + 2 + ns.length = i + 1 + 1 + ns.length by omega, List.getElem?_eq_getElem hj, ← ek, h1]
              congr 1
              omega
            · rw [← hp]
              exact rows_all e5
            · rw [← hu, h2, hp]
              rfl
        · rw [if_neg hk] at h
          cases h
theorem calls_at {f : Nat} {l : List Int} {i : Nat} {cs : List (List (List Int))} (h : PyWide.calls f (l.drop i) = some cs) :
    (cs = [] ∧ l.length ≤ i) ∨ ∃ g p ns rows cs', f = g + 1 ∧ cs = ((p :: ns) :: rows) :: cs' ∧ i < l.length ∧ CallAt l i p ns rows ∧ PyWide.calls g (l.drop (behind i ns rows)) = some cs' := by
  cases e : l.drop i with
  | nil =>
    left
    rw [e] at h
    have : cs = [] := by
      cases f <;> exact (Option.some.inj h).symm
    exact ⟨this, List.drop_eq_nil_iff.mp e⟩
  | cons p r =>
    right
    have hi : i < l.length := by
      rcases Nat.lt_or_ge i l.length with q | q
      · exact q
      · rw [List.drop_of_length_le q] at e
        cases e
    rw [e] at h
    cases f with
    | zero => cases h
    | succ g =>
      unfold PyWide.calls at h
      rw [← e] at h
      cases e2 : PyWide.call (l.drop i) with
      | none =>
        rw [e2] at h
        cases h
      | some q =>
        obtain ⟨c, t⟩ := q
        rw [e2] at h
        obtain ⟨p', ns, rows, hc, hC, ht⟩ := call_at e2
        cases e3 : PyWide.calls g t with
        | none =>
          simp only [e3] at h
          cases h
        | some cs' =>
          simp only [e3] at h
          refine ⟨g, p', ns, rows, cs', rfl, ?_, hi, hC, ?_⟩
          · rw [← Option.some.inj h, hc]
          · rw [← ht]
            exact e3
end Mine
set_option Elab.async false
set_option linter.all false
set_option maxRecDepth 100000
set_option maxHeartbeats 4000000
namespace Mine
open PySem PySem.Spec PyProof.Rows L2 Evl

/-! ### defs as they stand, packed -/
structure Has (P : Program) (w : World) (K : PySem.W.Frag) (mg : Str → Option Value) (base : Heap) (k : Nat) (name : Str) (ps : List Str) (sp : Sp) : Prop where
  ex : ∃ f fd, FnOk P w K mg base CX0 k f fd ps sp ∧ mg name = some (.ref f) ∧ PySem.W.keepIn K (.ref f) = true ∧ Binds K fd ps []
structure HasM (P : Program) (w : World) (K : PySem.W.Frag) (mg : Str → Option Value) (base : Heap) (k : Nat) (C : Addr) (m : Str) (ps : List Str) (sp : Sp) : Prop where
  ex : ∃ f fd, FnOk P w K mg base CX0 k f fd ps sp ∧ Meth K C m f ∧ Binds K fd ps []
  cls : Cls K C
structure HasC (P : Program) (w : World) (K : PySem.W.Frag) (mg : Str → Option Value) (base : Heap) (k : Nat) (name : Str) (C : Addr) (ps : List Str) (sp : Sp) : Prop where
  ex : ∃ f fd, FnOk P w K mg base CX0 k f fd ps sp ∧ Mk K C f ∧ mg name = some (.ref C) ∧ Binds K fd ps []
section
variable {X : Cx} {k : Nat} {x m : Str} {C : Addr} {ps : List Str} {sp : Sp} {p pos apos : Pos} {o e : Expr} {es : List Expr} {t : TA} {ta : TE}
/-- how a method's call reads; how its first argument does -/
abbrev ByMethod (X : Cx) (o : Expr) (m : Str) (apos pos : Pos) (es : List Expr) (pl : Sem Bool) : Prop := eval (.Call (.Attribute o m apos) es [] pos) X.env = (do let ov ← eval o X.env; standAt apos.atName; let (f, first) ← holding [ov] (getMethod ov m pl); callWith pos f first (backTo pos (starEach es X.env)) (backToKw pos (keywordEach [] X.env)))
abbrev First (X : Cx) (e : Expr) (es : List Expr) : Prop := starEach (e :: es) X.env = (false, eval e X.env) :: starEach es X.env
theorem pe_has (G : Has X.prog X.w X.K X.mg X.base k x ps sp) (hr : Room k X.A) (hg : Gl X x) (ha : PA X (e :: es) t) (hdb : (x == ("__debug__" : Str)) = false := by decide) (he : starEach (e :: es) X.env = (false, eval e X.env) :: starEach es X.env := by rfl) (hpl : (backTo pos (starEach es X.env)).any (·.1) = false := by rfl) :
    PE X (.Call (.Name x p) (e :: es) [] pos) (tCall sp [] E0 t) := by
  obtain ⟨f, fd, F, hm, hk, hb⟩ := G.ex
  exact pe_call F hr hg hm hk hb .nil pass0 ha hdb he hpl
theorem pe_has0 (G : Has X.prog X.w X.K X.mg X.base k x ps sp) (hr : Room k X.A) (hg : Gl X x) (hdb : (x == ("__debug__" : Str)) = false := by decide) : PE X (.Call (.Name x p) [] [] pos) (tCall sp [] E0 tNil) := by
  obtain ⟨f, fd, F, hm, hk, hb⟩ := G.ex
  exact pe_call0 F hr hg hm hk hb .nil pass0 hdb
theorem pe_hasM {pl : Sem Bool} (G : HasM X.prog X.w X.K X.mg X.base k C m ps sp) (hr : Room k X.A) (he : PE X o ta) (ha : PA X (e :: es) t)
    (hst : First X e es := by rfl) (hpl : (backTo pos (starEach es X.env)).any (·.1) = false := by rfl) (ht : ByMethod X o m apos pos (e :: es) pl := by rfl) : PE X (.Call (.Attribute o m apos) (e :: es) [] pos) (tMeth C m sp [] E0 ta t) := by
  obtain ⟨f, fd, F, hm, hb⟩ := G.ex
  exact pe_meth he G.cls hm F hr hb .nil pass0 ha hst hpl ht
theorem pe_hasM0 {pl : Sem Bool} (G : HasM X.prog X.w X.K X.mg X.base k C m ps sp) (hr : Room k X.A) (he : PE X o ta)
    (ht : ByMethod X o m apos pos [] pl := by rfl) : PE X (.Call (.Attribute o m apos) [] [] pos) (tMeth C m sp [] E0 ta tNil) := by
  obtain ⟨f, fd, F, hm, hb⟩ := G.ex
  exact pe_meth0 he G.cls hm F hr hb .nil pass0 ht
theorem pe_hasC (G : HasC X.prog X.w X.K X.mg X.base k x C ps sp) (hr : Room (k + 1) X.A) (hg : Gl X x) (ha : PA X (e :: es) t) (hdb : (x == ("__debug__" : Str)) = false := by decide) (he : starEach (e :: es) X.env = (false, eval e X.env) :: starEach es X.env := by rfl) (hpl : (backTo pos (starEach es X.env)).any (·.1) = false := by rfl) :
    PE X (.Call (.Name x p) (e :: es) [] pos) (tMake C sp [] E0 t) := by
  obtain ⟨f, fd, F, M, hm, hb⟩ := G.ex
  exact pe_make M F hr hg hm hb .nil pass0 ha hdb he hpl
theorem pe_hasC0 (G : HasC X.prog X.w X.K X.mg X.base k x C ps sp) (hr : Room (k + 1) X.A) (hg : Gl X x) (hdb : (x == ("__debug__" : Str)) = false := by decide) : PE X (.Call (.Name x p) [] [] pos) (tMake C sp [] E0 tNil) := by
  obtain ⟨f, fd, F, M, hm, hb⟩ := G.ex
  exact pe_make0 M F hr hg hm hb .nil pass0 hdb
end

/-! ### statements over a base heap: the heap may only have grown -/
def Sx (t : TS) (D : Ends) (σ : L2.St) (H : Hp) : Prop := ∀ H1, Ex H H1 → t D σ H1
section
variable {K : PySem.W.Frag} {σ : L2.St} {H H' : Hp} {ta tb te : TE} {t u : TT} {x y z v : V} {r : R2} {D : Ends} {tu tw tz : TS}
theorem Sx.at (h : Sx tu D σ H) : tu D σ H := h H (Ex.refl H)
theorem Sx.mono (e : Ex H H') (h : Sx tu D σ H) : Sx tu D σ H' := fun H1 e1 => h H1 (e.trans e1)
theorem sx_ret (h : Ev te σ H v) (k : ∀ H1, Ex H H1 → D.rt v H1) : Sx (tRet te) D σ H := fun H1 e1 => s_ret (h.mono e1) fun H2 e2 => k H2 (e1.trans e2)
theorem sx_retL {xs : List V} (h : EvL te σ H xs) (k : RetL xs H D.rt) : Sx (tRet te) D σ H := fun H1 e1 => s_retL (h.mono e1) fun p H2 hp e2 h2 => k p H2 (fresh_back e1 hp) (e1.trans e2) h2
theorem sx_asg {i : Nat} (h : Ev te σ H v) (k : Sx tz D (σ.set i (some v)) H) : Sx (tSeq (tAsg te (gName i)) tz) D σ H := fun H1 e1 => q_asg (h.mono e1) fun H2 e2 => k H2 (e1.trans e2)
theorem sx_asgL {i : Nat} {xs : List V} (h : EvL te σ H xs) (k : ∀ p H1, H p = none → Ex H H1 → H1 p = some (.lst xs) → Sx tz D (σ.set i (some (.ref p))) H1) : Sx (tSeq (tAsg te (gName i)) tz) D σ H :=
  fun H1 e1 => q_asgL (h.mono e1) fun p H2 hp e2 h2 => (k p H2 (fresh_back e1 hp) (e1.trans e2) h2).at
theorem sx_if {b : Bool} (h : EvT t σ H b) (h1 : b = true → Sx tu { D with nx := tz D } σ H) (h2 : b = false → Sx tw { D with nx := tz D } σ H) : Sx (tSeq (tIfS t tu tw) tz) D σ H :=
  fun H1 e1 => q_if (h.mono e1) (fun hb H2 e2 => h1 hb H2 (e1.trans e2)) fun hb H2 e2 => h2 hb H2 (e1.trans e2)
theorem sx_when {b : Bool} (h : EvT t σ H b) (h1 : b = true → Sx tu { D with nx := tz D } σ H) (h2 : b = false → Sx tz D σ H) : Sx (tSeq (tIfS t tu tNext) tz) D σ H :=
  fun H1 e1 => q_when (h.mono e1) (fun hb H2 e2 => h1 hb H2 (e1.trans e2)) fun hb H2 e2 => h2 hb H2 (e1.trans e2)
/-- the last if, without else -/
theorem sx_whenE {b : Bool} (h : EvT t σ H b) (h1 : b = true → Sx tu D σ H) (h2 : b = false → ∀ H1, Ex H H1 → D.nx σ H1) : Sx (tIfS t tu tNext) D σ H :=
  fun H1 e1 => s_when (h.mono e1) (fun hb H2 e2 => h1 hb H2 (e1.trans e2)) fun hb H2 e2 => h2 hb H2 (e1.trans e2)
theorem sx_drop (h : Ev te σ H v) (k : Sx tz D σ H) : Sx (tSeq (tDrop te) tz) D σ H := fun H1 e1 => q_drop (h.mono e1) fun H2 e2 => k H2 (e1.trans e2)

/-! ### values -/
theorem ev_fld {a C dx : Addr} {fs : List (Str × V)} {f : Str} (h : Ev ta σ H (.ref a)) (ho : H a = some (.ins C dx fs)) (hc : Cls K C) (hn : NoAttr K C f) (hl : fs.lookup f = some v) : Ev (tFld K ta f) σ H v := fun H1 e _ q =>
  h H1 e _ fun H2 e2 => ⟨a, C, dx, fs, v, rfl, e2 _ _ (e _ _ ho), hc, hn, hl, q H2 e2⟩
theorem ev_dget {a : Addr} {kvs : List (Key × V)} {k : Key} (h : Ev ta σ H (.ref a)) (hk : Ev tb σ H (kV k)) (hd : H a = some (.dK kvs)) (hv : valV kvs k = some v) : Ev (tDGet ta tb) σ H v := fun H1 e _ q =>
  h H1 e _ fun H2 e2 => hk H2 (e.trans e2) _ fun H3 e3 => ⟨a, v, rfl, by rw [← hv]; exact DGet.k (e3 _ _ (e2 _ _ (e _ _ hd))), q H3 (e2.trans e3)⟩
theorem ev_din {a : Addr} {kvs : List (Key × V)} {k : Key} (hk : Ev ta σ H (kV k)) (h : Ev tb σ H (.ref a)) (hd : H a = some (.dK kvs)) : Ev (tDIn ta tb) σ H (.bl (valV kvs k).isSome) := fun H1 e _ q =>
  hk H1 e _ fun H2 e2 => h H2 (e.trans e2) _ fun H3 e3 => ⟨a, _, rfl, DGet.k (e3 _ _ (e2 _ _ (e _ _ hd))), q H3 (e2.trans e3)⟩
theorem ev_dnotin {a : Addr} {kvs : List (Key × V)} {k : Key} (hk : Ev ta σ H (kV k)) (h : Ev tb σ H (.ref a)) (hd : H a = some (.dK kvs)) : Ev (tDNotIn ta tb) σ H (.bl (!(valV kvs k).isSome)) := fun H1 e _ q =>
  hk H1 e _ fun H2 e2 => h H2 (e.trans e2) _ fun H3 e3 => ⟨a, _, rfl, DGet.k (e3 _ _ (e2 _ _ (e _ _ hd))), q H3 (e2.trans e3)⟩

/-! ### lists of whole numbers -/
def iV (l : List Int) : List V := l.map V.int
def nV (l : List Nat) : List V := l.map fun (n : Nat) => V.int (n : Int)
def dI (l : List Int) : List PyData := l.map PyData.int
theorem dpAll_ints (l : List Int) : DpAll K H (iV l) (dI l) := by
  induction l with
  | nil => exact .nil
  | cons a r ih => exact .cons (.int a) ih
theorem eqv_ints (l m : List Int) : PyData.eqv (.list (dI l)) (.list (dI m)) = decide (l = m) := PySem.W.ked_eqvAll l m
theorem shaped_ints (l : List Int) : SeqAt.shaped (.list (dI l)) = true := PySem.W.ke_shaped_ints l
theorem nV_iV (l : List Nat) : nV l = iV (l.map fun (n : Nat) => (n : Int)) := by
  unfold nV iV
  rw [List.map_map]
  rfl
theorem rv_eqL {p q : Addr} {l m : List Int} (hp : SqL K H p (iV l)) (hq : SqL K H q (iV m)) : RV (rEqD K) (.ref p) (.ref q) H (.bl (decide (l = m))) := fun H1 e Q k =>
  ⟨_, _, .lst (ex_l e hp) (dpAll_ints l), .lst (ex_l e hq) (dpAll_ints m), shaped_ints l, shaped_ints m, by rw [eqv_ints]; exact k H1 (Ex.refl H1)⟩
theorem rv_neL {p q : Addr} {l m : List Int} (hp : SqL K H p (iV l)) (hq : SqL K H q (iV m)) : RV (rNeD K) (.ref p) (.ref q) H (.bl (!decide (l = m))) := fun H1 e Q k =>
  ⟨_, _, .lst (ex_l e hp) (dpAll_ints l), .lst (ex_l e hq) (dpAll_ints m), shaped_ints l, shaped_ints m, by rw [eqv_ints]; exact k H1 (Ex.refl H1)⟩

/-! ### a constant of the top -/
theorem pe_globI {X : Cx} {x : Str} {i : Int} {pos : Pos} (hg : Gl X x) (hm : ∃ t, X.mg x = some (.int i t)) (hd : (x == ("__debug__" : Str)) = false := by decide) : PE X (.Name x pos) (tC (.int i)) := by
  obtain ⟨t, h⟩ := hm
  exact pe_glob hg h ⟨t, rfl⟩ hd
end
/-! ### rules with the written part named: within a comprehension a reading may not speak of the block -/
section
variable {X : Cx} {K : PySem.W.Frag} {e o value : Expr} {f : Str} {pos pos' p2 : Pos} {ta te tv tl : TE}
theorem pe_fldK (hK : X.K = K) (he : PE X e ta) (hb : attributeBase e f X.env (eval e X.env) = eval e X.env) : PE X (.Attribute e f pos) (tFld K ta f) := by
  subst hK
  exact pe_fld he hb
theorem ps_fldK (hK : X.K = K) (ha : PE X o ta) (hv : PE X value tv) (hs : swapsWith value (some (.Attribute o f pos')) pos.line X.env = pure false) : PS X (.Assign [.Attribute o f pos'] value pos) (sFld K ta tv f) := by
  subst hK
  exact ps_fld ha hv hs
theorem ix_listK (hK : X.K = K) : IxR X (rIxL K) := by
  subst hK
  exact ix_list
theorem sl_listK (hK : X.K = K) : SlR X (rSlL K) := by
  subst hK
  exact sl_list
theorem op_eqDK (hK : X.K = K) (hu : X.A.units + 64 < cLine) : OpR X (compareOp .Eq) (rEqD K) := by
  subst hK
  exact op_eqD hu
theorem op_neDK (hK : X.K = K) (hu : X.A.units + 64 < cLine) : OpR X (compareOp .NotEq) (rNeD K) := by
  subst hK
  exact op_neD hu
theorem op_in_seqK (hK : X.K = K) : OpR X (compareOp .In) (rIn K false) := by
  subst hK
  exact op_in_seq
theorem op_notIn_seqK (hK : X.K = K) : OpR X (compareOp .NotIn) (rIn K true) := by
  subst hK
  exact op_notIn_seq
theorem call_len_seqK (hK : X.K = K) : CallR X (.builtin "len") (rLenS K) := by
  subst hK
  exact call_len_seq
theorem cr_allK (hK : X.K = K) (hc : X.calm = true) : CallR X (.builtin "all") (rAll K) := by
  subst hK
  exact cr_all hc
theorem cr_sumK (hK : X.K = K) (hc : X.calm = true) : CallR X (.builtin "sum") (rSum K) := by
  subst hK
  exact cr_sum hc
theorem pi_listK {tg : Expr} (hK : X.K = K) (h : PE X e tl) : PI X tg e (iList K tl) := by
  subst hK
  exact pi_list h
theorem pi_enumK {tt : TA} {p : Pos} {elts : List Expr} {kk : Nat} (hK : X.K = K) (hg : Gl X "enumerate") (hm : X.mg "enumerate" = none) (ha : PA X [e] tt) (hs : starEach [e] X.env = [(false, eval e X.env)] := by rfl) : PI X (.Tuple elts kk pos) (.Call (.Name "enumerate" p) [e] [] pos') (iEnum K tt) := by
  subst hK
  exact pi_enum hg hm ha hs
theorem pg_tupK {es : List Expr} {k : Nat} {t : TGs} {n : Nat} (hK : X.K = K) (hc : X.calm = true) (h : PGs X es t) (hn : (assignEach es X.env).length = n := by rfl) (hst : (assignEach es X.env).findIdx? (·.1) = none := by rfl) : PG X (.Tuple es k pos) (gTup K n t) := by
  subst hK
  exact pg_tup hc h hn hst
end
end Mine
set_option Elab.async false
set_option maxRecDepth 100000
set_option maxHeartbeats 4000000
namespace Mine
open PySem PySem.Spec PyProof.Rows L2 Evl
/-- the i-th statement of the program -/
def topS (i : Nat) : Stmt := PySem.Challenge.pw_skipruns_s01_answers.main.body.getD i (.Pass ⟨0, 0, 0, 0⟩)
abbrev s_Step_init : Stmt := inClass (topS 4) 0
theorem sc_Step_init : FnScope ["self", "asked", "size"] ["self", "asked"] (defScope s_Step_init) := ⟨rfl, rfl, rfl, by decide +kernel, rfl, by decide +kernel, by decide +kernel⟩
abbrev s_Run_init : Stmt := inClass (topS 5) 0
theorem sc_Run_init : FnScope ["self", "numbers", "made", "questions", "asked"] ["self", "numbers", "made", "questions"] (defScope s_Run_init) := ⟨rfl, rfl, rfl, by decide +kernel, rfl, by decide +kernel, by decide +kernel⟩
abbrev s_counted : Stmt := topS 6
theorem sc_counted : FnScope ["numbers"] ["numbers"] (defScope s_counted) := ⟨rfl, rfl, rfl, by decide +kernel, rfl, by decide +kernel, by decide +kernel⟩
abbrev s_rises : Stmt := topS 7
theorem sc_rises : FnScope ["numbers", "place"] ["numbers"] (defScope s_rises) := ⟨rfl, rfl, rfl, by decide +kernel, rfl, by decide +kernel, by decide +kernel⟩
abbrev s_files_between : Stmt := topS 8
theorem sc_files_between : FnScope ["files", "first", "last", "file"] ["files", "first", "last"] (defScope s_files_between) := ⟨rfl, rfl, rfl, by decide +kernel, rfl, by decide +kernel, by decide +kernel⟩
abbrev s_answer_now : Stmt := topS 9
theorem sc_answer_now : FnScope ["areas", "question", "files"] ["areas", "question"] (defScope s_answer_now) := ⟨rfl, rfl, rfl, by decide +kernel, rfl, by decide +kernel, by decide +kernel⟩
abbrev s_wrong_places : Stmt := topS 10
theorem sc_wrong_places : FnScope ["areas", "run", "place", "step"] ["areas", "run"] (defScope s_wrong_places) := ⟨rfl, rfl, rfl, by decide +kernel, rfl, by decide +kernel, by decide +kernel⟩
abbrev s_is_made_right : Stmt := topS 11
theorem sc_is_made_right : FnScope ["made"] ["made"] (defScope s_is_made_right) := ⟨rfl, rfl, rfl, by decide +kernel, rfl, by decide +kernel, by decide +kernel⟩
abbrev s_made_files : Stmt := topS 12
theorem sc_made_files : FnScope ["made", "files", "place"] ["made"] (defScope s_made_files) := ⟨rfl, rfl, rfl, by decide +kernel, rfl, by decide +kernel, by decide +kernel⟩
abbrev s_is_trace_right : Stmt := topS 13
theorem sc_is_trace_right : FnScope ["job", "trace", "place", "step"] ["job", "trace"] (defScope s_is_trace_right) := ⟨rfl, rfl, rfl, by decide +kernel, rfl, by decide +kernel, by decide +kernel⟩
abbrev s_is_step_right : Stmt := topS 14
theorem sc_is_step_right : FnScope ["job", "step", "first", "last", "files"] ["job", "step"] (defScope s_is_step_right) := ⟨rfl, rfl, rfl, by decide +kernel, rfl, by decide +kernel, by decide +kernel⟩
abbrev s_can_be_together : Stmt := topS 15
theorem sc_can_be_together : FnScope ["one", "other"] ["one", "other"] (defScope s_can_be_together) := ⟨rfl, rfl, rfl, by decide +kernel, rfl, by decide +kernel, by decide +kernel⟩
abbrev s_fits_listing : Stmt := topS 16
theorem sc_fits_listing : FnScope ["step", "listing", "file", "is_there"] ["step", "listing"] (defScope s_fits_listing) := ⟨rfl, rfl, rfl, by decide +kernel, rfl, by decide +kernel, by decide +kernel⟩
abbrev s_listings_agree : Stmt := topS 17
theorem sc_listings_agree : FnScope ["one", "other", "first", "last"] ["one", "other"] (defScope s_listings_agree) := ⟨rfl, rfl, rfl, by decide +kernel, rfl, by decide +kernel, by decide +kernel⟩
abbrev s_contradiction : Stmt := topS 18
theorem sc_contradiction : FnScope ["one", "other", "shorter", "place"] ["one", "other"] (defScope s_contradiction) := ⟨rfl, rfl, rfl, by decide +kernel, rfl, by decide +kernel, by decide +kernel⟩
abbrev s_are_same : Stmt := topS 19
theorem sc_are_same : FnScope ["one", "other", "place"] ["one", "other"] (defScope s_are_same) := ⟨rfl, rfl, rfl, by decide +kernel, rfl, by decide +kernel, by decide +kernel⟩
abbrev s_is_about : Stmt := topS 24
theorem sc_is_about : FnScope ["known", "step"] ["known", "step"] (defScope s_is_about) := ⟨rfl, rfl, rfl, by decide +kernel, rfl, by decide +kernel, by decide +kernel⟩
abbrev s_fits_known : Stmt := topS 25
theorem sc_fits_known : FnScope ["known", "run", "about_known", "step"] ["known", "run"] (defScope s_fits_known) := ⟨rfl, rfl, rfl, by decide +kernel, rfl, by decide +kernel, by decide +kernel⟩
abbrev s_sure_run : Stmt := topS 26
theorem sc_sure_run : FnScope ["known", "fitting_runs", "run", "step"] ["known", "fitting_runs"] (defScope s_sure_run) := ⟨rfl, rfl, rfl, by decide +kernel, rfl, by decide +kernel, by decide +kernel⟩
abbrev s_make_plan : Stmt := topS 27
theorem sc_make_plan : FnScope ["jobs", "sources", "held_runs", "known", "planned", "job", "fitting_runs", "run"] ["jobs", "sources", "held_runs"] (defScope s_make_plan) := ⟨rfl, rfl, rfl, by decide +kernel, rfl, by decide +kernel, by decide +kernel⟩
abbrev s_House_init : Stmt := inClass (topS 60) 0
theorem sc_House_init : FnScope ["self"] ["self"] (defScope s_House_init) := ⟨rfl, rfl, rfl, by decide +kernel, rfl, by decide +kernel, by decide +kernel⟩
abbrev s_House_make_new : Stmt := inClass (topS 60) 1
theorem sc_House_make_new : FnScope ["self", "jobs"] ["self", "jobs"] (defScope s_House_make_new) := ⟨rfl, rfl, rfl, by decide +kernel, rfl, by decide +kernel, by decide +kernel⟩
abbrev s_House_begins : Stmt := inClass (topS 60) 2
theorem sc_House_begins : FnScope ["self", "jobs"] ["self", "jobs"] (defScope s_House_begins) := ⟨rfl, rfl, rfl, by decide +kernel, rfl, by decide +kernel, by decide +kernel⟩
abbrev s_House_put : Stmt := inClass (topS 60) 3
theorem sc_House_put : FnScope ["self", "file", "content", "sources"] ["self", "file", "content"] (defScope s_House_put) := ⟨rfl, rfl, rfl, by decide +kernel, rfl, by decide +kernel, by decide +kernel⟩
abbrev s_House_drop : Stmt := inClass (topS 60) 4
theorem sc_House_drop : FnScope ["self", "file", "sources"] ["self", "file"] (defScope s_House_drop) := ⟨rfl, rfl, rfl, by decide +kernel, rfl, by decide +kernel, by decide +kernel⟩
abbrev s_House_tell : Stmt := inClass (topS 60) 5
theorem sc_House_tell : FnScope ["self", "run", "refusal", "judged"] ["self", "run"] (defScope s_House_tell) := ⟨rfl, rfl, rfl, by decide +kernel, rfl, by decide +kernel, by decide +kernel⟩
abbrev s_House_refusal_of : Stmt := inClass (topS 60) 6
theorem sc_House_refusal_of : FnScope ["self", "run", "told"] ["self", "run"] (defScope s_House_refusal_of) := ⟨rfl, rfl, rfl, by decide +kernel, rfl, by decide +kernel, by decide +kernel⟩
abbrev s_House_look : Stmt := inClass (topS 60) 7
theorem sc_House_look : FnScope ["self", "job", "run"] ["self", "job"] (defScope s_House_look) := ⟨rfl, rfl, rfl, by decide +kernel, rfl, by decide +kernel, by decide +kernel⟩
abbrev s_House_bring : Stmt := inClass (topS 60) 8
theorem sc_House_bring : FnScope ["self", "job", "run"] ["self", "job"] (defScope s_House_bring) := ⟨rfl, rfl, rfl, by decide +kernel, rfl, by decide +kernel, by decide +kernel⟩
abbrev s_House_nearest : Stmt := inClass (topS 60) 9
theorem sc_House_nearest : FnScope ["self", "job", "runs", "run", "places"] ["self", "job"] (defScope s_House_nearest) := ⟨rfl, rfl, rfl, by decide +kernel, rfl, by decide +kernel, by decide +kernel⟩
abbrev s_House_plan : Stmt := inClass (topS 60) 10
theorem sc_House_plan : FnScope ["self"] ["self"] (defScope s_House_plan) := ⟨rfl, rfl, rfl, by decide +kernel, rfl, by decide +kernel, by decide +kernel⟩
abbrev s_House_distrust : Stmt := inClass (topS 60) 11
theorem sc_House_distrust : FnScope ["self", "machine", "run"] ["self", "machine"] (defScope s_House_distrust) := ⟨rfl, rfl, rfl, by decide +kernel, rfl, by decide +kernel, by decide +kernel⟩
abbrev s_House_held : Stmt := inClass (topS 60) 12
theorem sc_House_held : FnScope ["self"] ["self"] (defScope s_House_held) := ⟨rfl, rfl, rfl, by decide +kernel, rfl, by decide +kernel, by decide +kernel⟩
abbrev s_House_files : Stmt := inClass (topS 60) 13
theorem sc_House_files : FnScope ["self", "area", "contents", "given", "file"] ["self", "area"] (defScope s_House_files) := ⟨rfl, rfl, rfl, by decide +kernel, rfl, by decide +kernel, by decide +kernel⟩
abbrev s_House_held_numbers : Stmt := inClass (topS 60) 14
theorem sc_House_held_numbers : FnScope ["self", "run"] ["self"] (defScope s_House_held_numbers) := ⟨rfl, rfl, rfl, by decide +kernel, rfl, by decide +kernel, by decide +kernel⟩
abbrev s_House_held_of : Stmt := inClass (topS 60) 15
theorem sc_House_held_of : FnScope ["self", "job", "run"] ["self", "job"] (defScope s_House_held_of) := ⟨rfl, rfl, rfl, by decide +kernel, rfl, by decide +kernel, by decide +kernel⟩
abbrev s_House_found_run : Stmt := inClass (topS 60) 16
theorem sc_House_found_run : FnScope ["self", "job", "run"] ["self", "job"] (defScope s_House_found_run) := ⟨rfl, rfl, rfl, by decide +kernel, rfl, by decide +kernel, by decide +kernel⟩
abbrev s_House_how_far : Stmt := inClass (topS 60) 17
theorem sc_House_how_far : FnScope ["self", "job", "runs", "place", "question", "now", "run"] ["self", "job"] (defScope s_House_how_far) := ⟨rfl, rfl, rfl, by decide +kernel, rfl, by decide +kernel, by decide +kernel⟩
abbrev s_empty_areas : Stmt := topS 61
theorem sc_empty_areas : FnScope ["jobs", "job"] ["jobs"] (defScope s_empty_areas) := ⟨rfl, rfl, rfl, by decide +kernel, rfl, by decide +kernel, by decide +kernel⟩
abbrev s_found_answer : Stmt := topS 62
theorem sc_found_answer : FnScope ["run"] ["run"] (defScope s_found_answer) := ⟨rfl, rfl, rfl, by decide +kernel, rfl, by decide +kernel, by decide +kernel⟩
abbrev s_judge : Stmt := topS 63
theorem sc_judge : FnScope ["held_runs", "run", "held", "place"] ["held_runs", "run"] (defScope s_judge) := ⟨rfl, rfl, rfl, by decide +kernel, rfl, by decide +kernel, by decide +kernel⟩
abbrev s_held_among : Stmt := topS 64
theorem sc_held_among : FnScope ["told_runs", "held_runs", "run"] ["told_runs"] (defScope s_held_among) := ⟨rfl, rfl, rfl, by decide +kernel, rfl, by decide +kernel, by decide +kernel⟩
abbrev s_answer_call : Stmt := topS 65
theorem sc_answer_call : FnScope ["house", "call", "numbers", "lists"] ["house", "call", "numbers", "lists"] (defScope s_answer_call) := ⟨rfl, rfl, rfl, by decide +kernel, rfl, by decide +kernel, by decide +kernel⟩
abbrev s_numbers_at : Stmt := topS 66
theorem sc_numbers_at : FnScope ["calls", "at"] ["calls", "at"] (defScope s_numbers_at) := ⟨rfl, rfl, rfl, by decide +kernel, rfl, by decide +kernel, by decide +kernel⟩
abbrev s_lists_at : Stmt := topS 67
theorem sc_lists_at : FnScope ["calls", "at", "lists", "start", "numbers"] ["calls", "at"] (defScope s_lists_at) := ⟨rfl, rfl, rfl, by decide +kernel, rfl, by decide +kernel, by decide +kernel⟩
abbrev s_answers : Stmt := topS 68
theorem sc_answers : FnScope ["calls", "house", "given", "at", "numbers", "behind", "lists", "each"] ["calls"] (defScope s_answers) := ⟨rfl, rfl, rfl, by decide +kernel, rfl, by decide +kernel, by decide +kernel⟩
structure Ad where
  Step : Addr
  Run : Addr
  House : Addr
  code : Addr
  tab : Addr
/-- what the top has written -/
structure Txt (K : PySem.W.Frag) (mg : Str → Option Value) (C : Ad) : Prop where
  cl_Step : Cls K C.Step
  n_Step_question : NoAttr K C.Step "question"
  n_Step_answer : NoAttr K C.Step "answer"
  cl_Run : Cls K C.Run
  n_Run_number : NoAttr K C.Run "number"
  n_Run_job : NoAttr K C.Run "job"
  n_Run_machine : NoAttr K C.Run "machine"
  n_Run_ended : NoAttr K C.Run "ended"
  n_Run_made : NoAttr K C.Run "made"
  n_Run_trace : NoAttr K C.Run "trace"
  cl_House : Cls K C.House
  n_House_jobs : NoAttr K C.House "jobs"
  n_House_areas : NoAttr K C.House "areas"
  n_House_told_runs : NoAttr K C.House "told_runs"
  n_House_held_runs : NoAttr K C.House "held_runs"
  n_House_distrusted : NoAttr K C.House "distrusted"
  b_all : mg "all" = none
  b_enumerate : mg "enumerate" = none
  b_len : mg "len" = none
  b_max : mg "max" = none
  b_min : mg "min" = none
  b_range : mg "range" = none
  b_sorted : mg "sorted" = none
  b_sum : mg "sum" = none
  g_FILE : ∃ t, mg "FILE" = some (.int (0) t)
  g_MOST_MADE : ∃ t, mg "MOST_MADE" = some (.int (6) t)
  g_MOST_QUESTIONS : ∃ t, mg "MOST_QUESTIONS" = some (.int (12) t)
  g_MUST_BE_RUN : ∃ t, mg "MUST_BE_RUN" = some (.int (0) t)
  g_SURE : ∃ t, mg "SURE" = some (.int (1) t)
  g_HANGS : ∃ t, mg "HANGS" = some (.int (2) t)
  g_BEGINS : ∃ t, mg "BEGINS" = some (.int (0) t)
  g_PUT : ∃ t, mg "PUT" = some (.int (1) t)
  g_DROP : ∃ t, mg "DROP" = some (.int (2) t)
  g_TELL : ∃ t, mg "TELL" = some (.int (3) t)
  g_LOOK : ∃ t, mg "LOOK" = some (.int (4) t)
  g_BRING : ∃ t, mg "BRING" = some (.int (5) t)
  g_NEAREST : ∃ t, mg "NEAREST" = some (.int (6) t)
  g_PLAN : ∃ t, mg "PLAN" = some (.int (7) t)
  g_DISTRUST : ∃ t, mg "DISTRUST" = some (.int (8) t)
  g_HELD : ∃ t, mg "HELD" = some (.int (9) t)
  g_FILES : ∃ t, mg "FILES" = some (.int (10) t)
  g_MOST_JOBS : ∃ t, mg "MOST_JOBS" = some (.int (6) t)
  g_MOST_SOURCES : ∃ t, mg "MOST_SOURCES" = some (.int (30) t)
  g_MOST_TOLD : ∃ t, mg "MOST_TOLD" = some (.int (30) t)
  g_WRONG_JOBS : ∃ t, mg "WRONG_JOBS" = some (.int (-1) t)
  g_NO_SUCH_JOB : ∃ t, mg "NO_SUCH_JOB" = some (.int (-2) t)
  g_NO_SUCH_AREA : ∃ t, mg "NO_SUCH_AREA" = some (.int (-2) t)
  g_WRONG_JOB_OR_END : ∃ t, mg "WRONG_JOB_OR_END" = some (.int (-2) t)
  g_NOT_TRUSTED : ∃ t, mg "NOT_TRUSTED" = some (.int (-3) t)
  g_NO_SUCH_SOURCE : ∃ t, mg "NO_SUCH_SOURCE" = some (.int (-4) t)
  g_NUMBER_TAKEN : ∃ t, mg "NUMBER_TAKEN" = some (.int (-4) t)
  g_DISTRUSTED_ALREADY : ∃ t, mg "DISTRUSTED_ALREADY" = some (.int (-4) t)
  g_WRONG_MADE : ∃ t, mg "WRONG_MADE" = some (.int (-5) t)
  g_WRONG_TRACE : ∃ t, mg "WRONG_TRACE" = some (.int (-6) t)
  g_FULL : ∃ t, mg "FULL" = some (.int (-7) t)
  g_NOT_FOUND : ∃ t, mg "NOT_FOUND" = some (.int (-8) t)
  g_NONE_HELD : ∃ t, mg "NONE_HELD" = some (.int (-8) t)
  g_IS_HELD : ∃ t, mg "IS_HELD" = some (.int (0) t)
  g_IS_KNOWN : ∃ t, mg "IS_KNOWN" = some (.int (1) t)
  g_CONTRADICTS : ∃ t, mg "CONTRADICTS" = some (.int (2) t)
end Mine
set_option Elab.async false
set_option linter.all false
set_option maxRecDepth 100000
set_option maxHeartbeats 4000000
namespace Mine
open PySem PySem.Spec PyProof.Rows L2 Evl
/-! ### xs[::2] -/
def evens {α : Type} : List α → List α
  | a :: _ :: r => a :: evens r
  | [a] => [a]
  | [] => []
theorem evens_length {α : Type} : ∀ (l : List α), (evens l).length = (l.length + 1) / 2
  | [] => by simp [evens]
  | [a] => by simp [evens]
  | a :: b :: r => by
    simp only [evens, List.length_cons, evens_length r]
    omega
theorem evens_range {α : Type} : ∀ (l : List α), ((List.range ((l.length + 1) / 2)).map fun k => 2 * k).filterMap (l[·]?) = evens l
  | [] => by simp [evens]
  | [a] => by simp [evens]
  | a :: b :: r => by
    have ih := evens_range r
    have e : ((a :: b :: r).length + 1) / 2 = (r.length + 1) / 2 + 1 := by
      simp only [List.length_cons]
      omega
    rw [e, List.range_succ_eq_map, List.map_cons, List.filterMap_cons]
    simp only [Nat.mul_zero, List.getElem?_cons_zero, evens]
    congr 1
    rw [List.map_map, ← ih, List.filterMap_map, List.filterMap_map]
    refine congrArg (fun f => List.filterMap f (List.range ((r.length + 1) / 2))) (funext fun k => ?_)
    show (a :: b :: r)[2 * (k + 1)]? = r[2 * k]?
    rw [show 2 * (k + 1) = 2 * k + 1 + 1 by omega, List.getElem?_cons_succ, List.getElem?_cons_succ]
theorem pick2 (items : Array Value) : slicePick items none none (some 2) = (evens items.toList).toArray := by
  unfold slicePick
  have hb : sliceBounds none none (some 2) items.size = (0, (items.size : Int), 2) := by
    simp [sliceBounds]
  rw [hb]
  have hr : sliceRange 0 (items.size : Int) 2 = (List.range ((items.toList.length + 1) / 2)).map fun k => 2 * k := by
    unfold sliceRange
    simp only [show (2 : Int) > 0 by decide, if_true, Array.length_toList]
    have hc : (if (0 : Int) < (items.size : Int) then ((items.size : Int) - 0 + 2 - 1) / 2 else 0).toNat = (items.size + 1) / 2 := by
      split <;> omega
    rw [hc]
    refine List.map_congr_left fun k _ => ?_
    omega
  show ((sliceRange 0 (items.size : Int) 2).filterMap (items[·]?)).toArray = _
  rw [hr]
  congr 1
  have := evens_range items.toList
  simp only [Array.getElem?_toList] at this
  exact this
theorem vals_evens : ∀ {xs : List V} {us : List Value}, Vals xs us → Vals (evens xs) (evens us)
  | _, _, .nil => .nil
  | _, _, .cons h .nil => .cons h .nil
  | _, _, .cons h (.cons _ r) => .cons h (vals_evens r)
def tStep2 (K : PySem.W.Frag) (te : TE) : TE := fun σ H Q => te σ H fun x H1 => ∃ a xs, x = .ref a ∧ SqL K H1 a xs ∧ ∀ p, H1 p = none → Q (.ref p) (upd H1 p (.lst (evens xs)))
/-- the list behind xs[::2] is made where the slice object stands above it -/
theorem step2_made {X : Cx} {hold : List (Addr × Obj)} {t : Shared} {σ : L2.St} {G : Hp} {xs : List V} {Q : VK} {its : List Value} (J : Inv X hold σ G t) (r : Vals xs its) (room : xs.length ≤ sizeLine) (k : ∀ d, G d = none → Q (.ref d) (upd G d (.lst (evens xs)))) :
    EP X hold σ Q (.ref t.heap.objs.size) { t with heap := t.heap.push { cls := .type "list", data := .seq (evens its).toArray } } := by
  have room2 : (evens xs).length ≤ sizeLine := by
    rw [evens_length]
    omega
  have J' := J.laid (t' := t.toks) (o := .lst (evens xs)) (fun c oc hc => Heap.get?_push_of_some { cls := .type "list", data := .seq (evens its).toArray } hc) (Nat.le_refl _) ⟨room2, _, 0, vals_evens r, Heap.get?_push_size _ rfl⟩
  exact ⟨.ref _, _, J', rfl, k _ (J.hok.fresh (Nat.le_refl _))⟩
theorem pe_step2 {X : Cx} {e : Expr} {te : TE} {n : Nat} {q1 q2 q3 : Pos} (he : PE X e te) : PE X (.Subscript e (.Slice none none (some (.Constant (.int 2) n q1)) q2) q3) (tStep2 X.K te) := by
  constructor
  intro hold t0 σ G Q J0 want
  apply Subscript_
  refine thn (he.run hold t0 σ G _ J0 want) ?_
  rintro u t1 ⟨y, G1, J1, ry, p, xs, rfl, hp, k⟩
  obtain rfl : u = Value.ref p := ry
  apply wpAny_Slice
  -- from, to: left out; the step: 2
  have part : ∀ (t : Shared), Inv X hold σ G1 t → wpAny (model X.prog X.w) X.A (evalPart none X.env) (fun v t' => v = .none ∧ Inv X hold σ G1 t') X.xe t := fun t J => by
    rw [evalPart_none]
    exact wpAny_pure ⟨rfl, J⟩
  refine thn (part t1 J1) ?_
  rintro _ t2 ⟨rfl, J2⟩
  refine thn (part t2 J2) ?_
  rintro _ t3 ⟨rfl, J3⟩
  have two : PO X (some (.Constant (.int 2) n q1)) (tPart (tC (.int 2))) := po_some pe_int
  refine thn (two.run hold t3 σ G1 (fun o G' => o = some 2 ∧ G' = G1) J3 ⟨2, rfl, rfl, rfl⟩) ?_
  rintro v t4 ⟨o, G', J4, pv, rfl, rfl⟩
  have J5 : Inv X hold σ G' { t4 with heap := t4.heap.push { cls := .type "slice", data := .fields #[.none, .none, v] } } := J4.kept (t' := t4.toks) fun c oc hc => Heap.get?_push_of_some { cls := .type "slice", data := .fields #[.none, .none, v] } hc
  obtain ⟨its, r, isl, room⟩ := J5.list hp
  have same := r.length
  have small : its.toArray.size ≤ sizeLine := by
    rw [List.size_toArray]
    omega
  have got := wpAny_getItem_list_slice (prog := X.prog) (w := X.w) (A := X.A) (E := X.xe) (lo := none) (hi := none) (st := some 2) (Q := EP X hold σ Q) isl.isList (Heap.IsSliceOf.new t4.heap .none .none v) .none .none pv (by decide) (by rw [pick2]; exact step2_made J5 r room k) small
  exact tail_any (ops := [.ref p, .ref t4.heap.objs.size]) isl.isList.typeIs PySem.slot_list_getitem.lookup got (by with_unfolding_all rfl)
theorem pe_step2K {X : Cx} {K : PySem.W.Frag} {e : Expr} {te : TE} {k : Nat} {p1 p3 pos : Pos} (hK : X.K = K) (he : PE X e te) : PE X (.Subscript e (.Slice none none (some (.Constant (.int 2) k p1)) p3) pos) (tStep2 K te) := by
  subst hK
  exact pe_step2 he
theorem el_step2 {K : PySem.W.Frag} {σ : L2.St} {H : Hp} {te : TE} {a : Addr} {xs : List V} (h : Ev te σ H (.ref a)) (hs : SqL K H a xs) : EvL (tStep2 K te) σ H (evens xs) := fun H1 e _ q =>
  h H1 e _ fun H2 e2 => ⟨a, xs, rfl, ex_l (e.trans e2) hs, fun p hp => q p _ (fresh_back e2 hp) (e2.trans (Ex.new hp)) upd_same⟩
end Mine
set_option Elab.async false
set_option linter.all false
set_option maxRecDepth 100000
set_option maxHeartbeats 4000000
/-! ### min(xs, key=lambda x: e) -/
namespace Mine
open PySem PySem.Spec PyProof.Rows L2 Evl
open LamX (CodeO TabS TabB inv_table among_app codeO_ne)
open NdefX (NF NScope CellsAt startF envF ncx inv_startN slotAt Caps cells_of codeO_at)
/-! #### the loop's state: S keeps the best so far and its key, It walks the list at l -/
structure Lp (X : Cx) (pins : List (Addr × Obj)) (σ : L2.St) (H0 : Hp) (l S It : Addr) (n : Nat) (H : Hp) (s : Shared) : Prop where
  inv : Inv X pins σ H s
  ex : Ex H0 H
  ownS : FpOk X pins H S
  ownI : FpOk X pins H It
  two : S ≠ It
  walk : s.heap.IsListIter It l n
/-- one call of the key: the answer is k, nothing that stands is changed -/
def KeyEnd (X : Cx) (H : Hp) (s : Shared) (k : Int) (v : Value) (s' : Shared) : Prop := ∃ (t : Tok) (H' : Hp), v = .int k t ∧ Ex H H' ∧ s'.os = s.os ∧ AllBare s'.gens ∧ Un (frs X.stack) [] H H' s.heap s'.heap ∧ HOk X.prog X.w H' s'.heap
section
variable {X : Cx} {pins : List (Addr × Obj)} {σ : L2.St} {H0 H H' : Hp} {l S It : Addr} {n : Nat} {s s' : Shared}
/-- a record of ours has turned, all else stands -/
theorem own_turned {b : Addr} {g : Heap} {t : Nat} (J : Inv X pins σ H s) (f : FpOk X pins H b) (k : ∀ c o, c ≠ b → s.heap.get? c = some o → g.get? c = some o) : Inv X pins σ H { s with heap := g, toks := t } :=
  J.turned k f.1 f.2.1 f.2.2.2.1 f.2.2.2.2.1 f.2.2.2.2.2
/-- a call leaves our records as they are -/
theorem own_kept {b : Addr} {o : Obj} (J : Inv X pins σ H s) (f : FpOk X pins H b) (u : Un (frs X.stack) [] H H' s.heap s'.heap) (e : s.heap.get? b = some o) : s'.heap.get? b = some o ∧ FpOk X pins H' b :=
  ⟨u.keep b o e f.1 (fun z => match List.mem_cons.mp (J.stkSub b z) with | .inl y => f.2.1 y | .inr y => f.2.2.1 y) List.not_mem_nil, u.free b o e f.1 List.not_mem_nil, f.2⟩
/-- S is written -/
theorem Lp.put {g : Array Value → Array Value} (L : Lp X pins σ H0 l S It n H s) : Lp X pins σ H0 l S It n H { s with heap := s.heap.update S (Obj.mapSeq g) } := by
  have same := Heap.SameBut.update s.heap S (Obj.mapSeq g)
  obtain ⟨oi, a1, a2, a3⟩ := L.walk
  exact ⟨own_turned (t := s.toks) L.inv L.ownS (fun c o hc e => (same.2 c hc).trans e), L.ex, L.ownS, L.ownI, L.two, oi, (same.2 It L.two.symm).trans a1, a2, a3⟩
/-- the key is called -/
theorem Lp.called {k : Int} {v : Value} {oS : Obj} (L : Lp X pins σ H0 l S It n H s) (hS : s.heap.get? S = some oS) (K : KeyEnd X H s k v s') : ∃ t H', v = .int k t ∧ Lp X pins σ H0 l S It n H' s' ∧ s'.heap.get? S = some oS := by
  obtain ⟨t, H', ev, ex', same_os, bare, un, ok⟩ := K
  obtain ⟨oi, a1, a2, a3⟩ := L.walk
  have kS := own_kept L.inv L.ownS un hS
  have kI := own_kept L.inv L.ownI un a1
  exact ⟨t, H', ev, ⟨L.inv.call' (ch := []) same_os un ok bare (fun b z => nomatch z), L.ex.trans ex', kS.2, kI.2, L.two, oi, kI.1, a2, a3⟩, kS.1⟩
end
/-! #### the walk -/
section
variable {X : Cx} {pins : List (Addr × Obj)} {σ : L2.St} {H0 H H' : Hp} {l S It : Addr} {n : Nat} {s s' : Shared} {xs : List V}
/-- an item is drawn -/
theorem Lp.item {Q : Option Value → Shared → Prop} {E : Value → Shared → Prop} (L : Lp X pins σ H0 l S It n H s) (calm : X.calm = true) (hl : H0 l = some (.lst xs)) (hn : n < xs.length) {oS : Obj} (hS : s.heap.get? S = some oS)
    (k : ∀ (u : Value) (g : Heap) (t : Nat), RelV (xs[n]'hn) u → Lp X pins σ H0 l S It (n + 1) H { s with heap := g, toks := t } → g.get? S = some oS → Q (some u) { s with heap := g, toks := t }) : wpAny (model X.prog X.w) X.A.in1 (pyNext (.ref It)) Q E s := by
  obtain ⟨us, rel, plain, _⟩ := L.inv.list (SqL.of (L.ex _ _ hl))
  have size : us.toArray.size = xs.length := by rw [List.size_toArray, rel.length]
  refine (Walks.list (prog := X.prog) (w := X.w) (A := X.A.in1) (L.inv.ok.hd calm) It l (ne_of_none (L.ex _ _ hl) L.ownI.1) us.toArray).item n s Q E (size ▸ hn) ⟨L.walk, plain.isList⟩ fun u g t at_ st rest => ?_
  have kept : ∀ c o, c ≠ It → s.heap.get? c = some o → g.get? c = some o := fun c o hc => rest c o (mt List.mem_singleton.mp hc)
  obtain ⟨u', hu', r⟩ := rel.get (List.getElem?_eq_getElem hn)
  obtain rfl : u' = u := Option.some.inj (hu'.symm.trans (by simpa using at_))
  exact k u' g t r ⟨own_turned L.inv L.ownI kept, L.ex, L.ownS, L.ownI, L.two, st.1⟩ (kept S oS L.two hS)
/-- the end is met -/
theorem Lp.done {Q : Option Value → Shared → Prop} {E : Value → Shared → Prop} (L : Lp X pins σ H0 l S It n H s) (calm : X.calm = true) (hl : H0 l = some (.lst xs)) (hn : n = xs.length) {oS : Obj} (hS : s.heap.get? S = some oS)
    (k : ∀ (g : Heap) (t : Nat), Inv X pins σ H { s with heap := g, toks := t } → g.get? S = some oS → Q none { s with heap := g, toks := t }) : wpAny (model X.prog X.w) X.A.in1 (pyNext (.ref It)) Q E s := by
  obtain ⟨us, rel, plain, _⟩ := L.inv.list (SqL.of (L.ex _ _ hl))
  have size : us.toArray.size = n := by rw [List.size_toArray, hn, rel.length]
  refine (Walks.list (prog := X.prog) (w := X.w) (A := X.A.in1) (L.inv.ok.hd calm) It l (ne_of_none (L.ex _ _ hl) L.ownI.1) us.toArray).done s Q E ⟨size ▸ L.walk, plain.isList⟩ fun g t rest => ?_
  have kept : ∀ c o, c ≠ It → s.heap.get? c = some o → g.get? c = some o := fun c o hc => rest c o (mt List.mem_singleton.mp hc)
  exact k g t (own_turned L.inv L.ownI kept) (kept S oS L.two hS)
end
/-! #### the loop -/
section
variable {X : Cx} {pins : List (Addr × Obj)} {σ : L2.St} {H0 : Hp} {l S It q : Addr} {xs : List V} {R : Result → Shared → Prop}
theorem loopName : toString "min" ++ toString ".loop" = "min.loop" := by decide
/-- i is the first of the least among the first n -/
def Least (kf : Nat → Int) (i n : Nat) : Prop := ∀ j, j < n → kf i ≤ kf j ∧ (j < i → kf i < kf j)
theorem Least.stay {kf : Nat → Int} {i n : Nat} (h : Least kf i n) (hi : i < n) (c : ¬ kf n < kf i) : Least kf i (n + 1) := fun j hj => by
  rcases Nat.lt_succ_iff_lt_or_eq.mp hj with z | rfl
  · exact h j z
  · exact ⟨Int.not_lt.mp c, fun y => absurd y (Nat.lt_asymm hi)⟩
theorem Least.turn {kf : Nat → Int} {i n : Nat} (h : Least kf i n) (c : kf n < kf i) : Least kf n (n + 1) := fun j hj => by
  rcases Nat.lt_succ_iff_lt_or_eq.mp hj with z | rfl
  · have := (h j z).1
    exact ⟨Int.le_of_lt (Int.lt_of_lt_of_le c this), fun _ => Int.lt_of_lt_of_le c this⟩
  · exact ⟨Int.le_refl _, fun y => absurd y (Nat.lt_irrefl _)⟩
/-- what a key must keep to -/
def Keys (X : Cx) (pins : List (Addr × Obj)) (σ : L2.St) (H0 : Hp) (q : Addr) (xs : List V) (kf : Nat → Int) : Prop := ∀ (i : Nat) (x : V) (u : Value) (H : Hp) (s : Shared), Ex H0 H → xs[i]? = some x → RelV x u → Inv X pins σ H s → wpAny (model X.prog X.w) X.A.in1 (call (.ref q) [u]) (KeyEnd X H s (kf i)) (fun _ _ => False) s
/-- what is wanted of the best -/
def Best (X : Cx) (pins : List (Addr × Obj)) (σ : L2.St) (H0 : Hp) (xs : List V) (kf : Nat → Int) (Z : Value → Shared → Prop) : Prop := ∀ (i : Nat) (x : V) (u : Value) (H : Hp) (s : Shared), Ex H0 H → xs[i]? = some x → RelV x u → Least kf i xs.length → Inv X pins σ H s → Z u s
theorem min_walk {kf : Nat → Int} (calm : X.calm = true) (hl : H0 l = some (.lst xs)) (keys : Keys X pins σ H0 q xs kf) (best : Best X pins σ H0 xs kf fun u s => R (.ok (.ret u)) s) :
    ∀ (r n i : Nat) (s : Shared) (H : Hp) (x : V) (u : Value) (t : Tok) (c : Nat), n + r = xs.length → i < n → Lp X pins σ H0 l S It n H s → s.heap.get? S = some (seqObj "list" #[u, .int (kf i) t] c) → xs[i]? = some x → RelV x u → Least kf i n →
      codeAny (model X.prog X.w) X.A (.builtin "min.loop" ⟨[.ref It, .ref q, .ref S], []⟩) R s
  | 0, n, i, s, H, x, u, t, c, hr, hi, L, hS, hx, ru, least => by
    refine codeAny_builtin PySem.F.entry_min_loop ((Around.under_plainId PySem.F.plain_min_loop _).symm ▸ ?_)
    refine wpAny_bind (wpAny_seqItems hS rfl (wpAny_bind (wpAny_tryCatch (L.done calm hl hr hS fun g tk J gS => ?_))))
    have same := Heap.SameBut.update g S (Obj.mapSeq fun _ => (#[] : Array Value))
    refine wpAny_bind (wpAny_updateSeq gS rfl (wpAny_bind (wpAny_letGo (wpAny_pure ?_))))
    exact best i x u H _ L.ex hx ru (hr ▸ least) (own_turned (t := tk) J L.ownS fun b o hb e => (same.2 b hb).trans e)
  | r + 1, n, i, s, H, x, u, t, c, hr, hi, L, hS, hx, ru, least => by
    have hn : n < xs.length := by omega
    refine codeAny_builtin PySem.F.entry_min_loop ((Around.under_plainId PySem.F.plain_min_loop _).symm ▸ ?_)
    refine wpAny_bind (wpAny_seqItems hS rfl (wpAny_bind (wpAny_tryCatch (L.item calm hl hn hS fun v g tk rv L1 gS => ?_))))
    refine wpAny_bind (wpAny_tryCatch (wpAny_holding (wpAny_mono (keys n _ v H _ L.ex (List.getElem?_eq_getElem hn) rv L1.inv) (fun kv s2 K => ?_) fun _ _ no => no.elim)))
    obtain ⟨tv, H2, rfl, L2, gS2⟩ := L1.called gS K
    refine wpAny_bind (wpAny_tryCatch (wpAny_holding (wpAny_bind (CmpOf.ints_lt (P := fun a b => ∃ t, b = .int (kf a) t) kf (fun _ _ z => z) n i _ _ _ _ _ ⟨tv, rfl⟩ ⟨t, rfl⟩ (wpAny_bind (wpAny_holding (wpAny_truthy_bool (wpAny_bind (wpAny_letGo (wpAny_pure ?_))))))))))
    by_cases less : kf n < kf i
    · rw [if_pos (decide_eq_true less), loopName]
      refine wpAny_bind (wpAny_updateSeq gS2 rfl (wpAny_bind (wpAny_letGo (wpAny_pure ⟨plainId_quiet PySem.F.plain_min_loop _, ?_⟩))))
      exact min_walk calm hl keys best r (n + 1) n _ H2 _ v tv _ (by omega) (Nat.lt_succ_self n) L2.put (get?_update_seq gS2 _) (List.getElem?_eq_getElem hn) rv (least.turn less)
    · rw [if_neg (fun z => less (of_decide_eq_true z)), loopName]
      refine wpAny_bind (wpAny_letGo (wpAny_pure ⟨plainId_quiet PySem.F.plain_min_loop _, ?_⟩))
      exact min_walk calm hl keys best r (n + 1) i s2 H2 x u t c (by omega) (by omega) L2 gS2 hx ru (least.stay hi less)
end
/-! #### the call of min -/
section
variable {X : Cx} {pins : List (Addr × Obj)} {σ : L2.St} {H : Hp} {s : Shared} {l q : Addr} {xs : List V} {Q E : Value → Shared → Prop}
theorem min_call {kf : Nat → Int} (calm : X.calm = true) (J : Inv X pins σ H s) (hl : H l = some (.lst xs)) (some_ : 0 < xs.length) (keys : Keys X pins σ H q xs kf) (best : Best X pins σ H xs kf Q) :
    wpAny (model X.prog X.w) X.A (call (.builtin "min") [.ref l] [(Str.ofString "key", .ref q)]) Q E s := by
  obtain ⟨us, _, plain, _⟩ := J.list (SqL.of hl)
  -- two records are made: the iterator at a, the pair at a + 1
  generalize ha : s.heap.objs.size = a
  refine kmk_tree PySem.F.kind_min PySem.F.plain_min PySem.F.entry_min (kmk_min_key _ _) (wpAny_bind (wpAny_of_eq (a := [some (.ref q), none]) rfl (wpAny_bind (wpAny_pure (wpAny_bind (wpAny_pyIter_list plain.isList (wpAny_bind (wpAny_newList ?_ (Nat.zero_le _)))))))))
  rw [loopName]
  have fresh : ∀ b, a ≤ b → FpOk X pins H b := fun b hb => J.fpOk (ha ▸ hb) (J.hok.fresh (ha ▸ hb))
  have size1 : (s.heap.push { cls := .type "list_iterator", data := .fields #[.ref l, .int 0 0] }).objs.size = a + 1 := (size_push' ..).trans (by rw [ha])
  have J1 := J.kept (t' := s.toks) (h' := (s.heap.push { cls := .type "list_iterator", data := .fields #[.ref l, .int 0 0] }).push (seqObj "list" #[] 0)) fun b o e => Heap.get?_push_of_some _ (Heap.get?_push_of_some _ e)
  have L : Lp X pins σ H l (a + 1) a 0 H { s with heap := (s.heap.push { cls := .type "list_iterator", data := .fields #[.ref l, .int 0 0] }).push (seqObj "list" #[] 0) } :=
    ⟨J1, Ex.refl H, fresh _ (Nat.le_succ a), fresh _ (Nat.le_refl a), Nat.succ_ne_self a, _, Heap.get?_push_of_some _ (ha ▸ Heap.get?_push_size _ rfl), rfl, rfl⟩
  have pair : ((s.heap.push { cls := .type "list_iterator", data := .fields #[.ref l, .int 0 0] }).push (seqObj "list" #[] 0)).get? (a + 1) = some (seqObj "list" #[] 0) := size1 ▸ Heap.get?_push_size _ rfl
  refine wpAny_pure (And.intro (plainId_quiet PySem.F.plain_min_loop _) ?_)
  rw [show (Value.ref (s.heap.push { cls := .type "list_iterator", data := .fields #[.ref l, .int 0 0] }).objs.size) = .ref (a + 1) from congrArg Value.ref size1, show Value.ref s.heap.objs.size = .ref a from congrArg Value.ref ha]
  refine codeAny_builtin PySem.F.entry_min_loop ((Around.under_plainId PySem.F.plain_min_loop _).symm ▸ ?_)
  refine wpAny_bind (wpAny_seqItems pair rfl (wpAny_bind (wpAny_tryCatch (L.item calm hl some_ pair fun v g tk rv L1 gS => ?_))))
  refine wpAny_bind (wpAny_tryCatch (wpAny_holding (wpAny_mono (keys 0 _ v H _ (Ex.refl H) (List.getElem?_eq_getElem some_) rv L1.inv) (fun kv s2 K => ?_) fun _ _ no => no.elim)))
  obtain ⟨tv, H2, rfl, L2, gS2⟩ := L1.called gS K
  rw [loopName]
  refine wpAny_bind (wpAny_updateSeq gS2 rfl (wpAny_pure ⟨plainId_quiet PySem.F.plain_min_loop _, ?_⟩))
  exact min_walk calm hl keys best (xs.length - 1) 1 0 _ H2 _ v tv _ (by omega) Nat.one_pos L2.put (get?_update_seq gS2 _) (List.getElem?_eq_getElem some_) rv fun j hj => by
    obtain rfl := Nat.lt_one_iff.mp hj
    exact ⟨Int.le_refl _, fun z => absurd z (Nat.lt_irrefl 0)⟩
end
/-! #### the lambda -/
/-- the object at f is the lambda F with that body -/
def LamO (f : Addr) (F : NF) (body : Expr) : HO := .ext fun h => ∃ (pm ctv : Value), h.get? f = some (PySem.W.kla_obj "<lambda>" F.qual F.params body F.scope F.cl pm F.c ctv)
/-- what stands but at P stays -/
def Bt (P : Addr) (H H' : Hp) : Prop := ∀ b o, b ≠ P → H b = some o → H' b = some o
theorem Bt.then {P : Addr} {H H1 H2 : Hp} (b : Bt P H H1) (e : Ex H1 H2) : Bt P H H2 := fun c o hc h => e c o (b c o hc h)
/-- a table with one code object more -/
theorem tab_more {H : Hp} {P c : Addr} {q : Str} {ps : Array Value} {pos : Pos} (hP : H P = some (.tbl ps)) (three : TriplesOk ps.toList) (all : ∀ (p : Pos) (v : Value), codeAmong p ps.toList = some v → ∃ d, v = .ref d ∧ H d = some (CodeO d q)) (new : H c = none) :
    Bt P H (upd (upd H P (.tbl (ps ++ #[rawInt pos.line, rawInt pos.col, .ref c]))) c (CodeO c q)) ∧ TabS (upd (upd H P (.tbl (ps ++ #[rawInt pos.line, rawInt pos.col, .ref c]))) c (CodeO c q)) P q := by
  have stays : Bt P H (upd (upd H P (.tbl (ps ++ #[rawInt pos.line, rawInt pos.col, .ref c]))) c (CodeO c q)) := fun b o hb h => (upd_ne (ne_of_none h new)).trans ((upd_ne hb).trans h)
  refine ⟨stays, ps ++ #[rawInt pos.line, rawInt pos.col, .ref c], (upd_ne (ne_of_none hP new)).trans upd_same, ?_, ?_⟩
  all_goals rw [Array.toList_append]
  · exact PySem.TriplesOk_snoc _ _ _ _ three
  · intro p v hv
    cases among_app _ three hv with
    | inr z => exact ⟨c, z, upd_same⟩
    | inl z =>
      obtain ⟨d, hd, code⟩ := all p v z
      exact ⟨d, hd, stays d _ (fun y => by rw [y, hP] at code; exact codeO_ne ps (Option.some.inj code).symm) code⟩
section
variable {X : Cx} {pins : List (Addr × Obj)} {σ : L2.St} {H : Hp} {s : Shared}
/-- the lambda's object is laid behind all others -/
theorem laid_lam {F : NF} {body : Expr} {pm ctv : Value} {t : Nat} (J : Inv X pins σ H s) : Inv X pins σ (upd H s.heap.objs.size (LamO s.heap.objs.size F body)) { s with heap := s.heap.push (PySem.W.kla_obj "<lambda>" F.qual F.params body F.scope F.cl pm F.c ctv), toks := t } := by
  have there : (s.heap.push (PySem.W.kla_obj "<lambda>" F.qual F.params body F.scope F.cl pm F.c ctv)).get? s.heap.objs.size = some (PySem.W.kla_obj "<lambda>" F.qual F.params body F.scope F.cl pm F.c ctv) := Heap.get?_push_size _ rfl
  exact J.laid (fun _ _ => Heap.get?_push_of_some _) (Nat.le_refl _) ⟨⟨pm, ctv, there⟩, ⟨_, there⟩, fun _ _ w st => w.elim fun a w => w.elim fun b z => ⟨a, b, st _ z⟩⟩
theorem lam_value {c P : Addr} {params : Arguments} {body : Expr} {scope : Scope} {pos : Pos} {E Q : Value → Shared → Prop} (J : Inv X pins σ H s) (TB : TabB X.base X.mg c P) (code : X.env.code = .ref c) (tab : TabS H P (X.env.qual ++ "<lambda>")) (plain : defaultsOf params X.env = ([], [])) (cells : ∀ y ∈ scope.names, y.2 = .free → ∃ c, X.env.cells.lookup y.1 = some c)
    (k : ∀ (f d : Addr) (G : Hp) (s' : Shared), Inv X pins σ G s' → Bt P H G → TabS G P (X.env.qual ++ "<lambda>") → G f = some (LamO f ⟨"<lambda>", X.env.qual ++ "<lambda>", params, [], scope, cloFrom X.env.cells scope.names [], d⟩ body) → G d = some (CodeO d (X.env.qual ++ "<lambda>")) → Q (.ref f) s') : wpAny (model X.prog X.w) X.A (eval (.Lambda params body scope pos) X.env) Q E s := by
  obtain ⟨ps, hP, three, all⟩ := tab
  have glob := J.mod.glob.keeps J.bk
  have built := TB.bm.keeps J.bk
  -- the last step, from a heap in which the code object is known
  have last : ∀ {G : Hp} {s1 : Shared} {d : Addr} {pm ctv : Value} {t : Nat}, Inv X pins σ G s1 → Bt P H G → TabS G P (X.env.qual ++ "<lambda>") → G d = some (CodeO d (X.env.qual ++ "<lambda>")) →
      Q (.ref s1.heap.objs.size) { s1 with heap := s1.heap.push (PySem.W.kla_obj "<lambda>" (X.env.qual ++ "<lambda>") params body scope (cloFrom X.env.cells scope.names []) pm d ctv), toks := t } := fun {G s1 d pm ctv t} J1 bt T1 hd => by
    have new : G s1.heap.objs.size = none := J1.hok.fresh (Nat.le_refl _)
    have more : Ex G (upd G s1.heap.objs.size (LamO s1.heap.objs.size ⟨"<lambda>", X.env.qual ++ "<lambda>", params, [], scope, cloFrom X.env.cells scope.names [], d⟩ body)) := Ex.new new
    exact k _ d _ _ (laid_lam (F := ⟨"<lambda>", X.env.qual ++ "<lambda>", params, [], scope, cloFrom X.env.cells scope.names [], d⟩) J1) (bt.then more) (T1.ext more) upd_same (more _ _ hd)
  apply PySem.W.kla_eval plain
  rcases found : codeAmong pos ps.toList with _ | v
  · apply PySem.W.kla_makeFunction (closure_ok cells) J.ok.glob glob code (TB.code.keeps J.bk) (J.hok P _ hP) three found TB.gP built
    rintro d ctv g t but above below ⟨_, oc, vs, tq, same, o1, o2, o3⟩ grown
    cases same
    obtain ⟨stays, T1⟩ := tab_more (pos := pos) hP three all (J.hok.fresh above)
    exact last (s1 := { s with heap := g, toks := t }) (inv_table (t' := t) J hP but grown above ⟨oc, vs, tq, o1, o2, o3⟩) stays T1 upd_same
  · obtain ⟨d, rfl, hd⟩ := all pos v found
    apply PySem.W.kla_makeFunctionHit (closure_ok cells) J.ok.glob glob code (TB.code.keeps J.bk) (J.hok P _ hP) three found built
    exact fun ctv g t keeps _ => last (s1 := { s with heap := g, toks := t }) (J.kept keeps) (fun _ _ _ h => h) ⟨ps, hP, three, all⟩ hd
end
/-- the lambda called -/
theorem lam_run {P : Program} {w : World} {K : PySem.W.Frag} {mg : Str → Option Value} {base : Heap} {N ps fr : List Str} {F : NF} {f : Addr} {k : Nat} {body : Expr} {tb : TE} {A : Around} {outer : List Env} {s : Shared} {H : Hp} {E : XK} {us : List Value} {vs : List V} {ws : List (Option V)} {Q : VK}
    (S : NScope N ps fr F.scope) (hb : ∀ (pm ctv : Value) (us : List Value), us.length = ps.length → bindArgs (PySem.W.kla_fn "<lambda>" F.qual F.params body F.scope F.cl pm (.ref F.c) ctv) ⟨us, []⟩ = pure (ps.zip us))
    (hbody : Room k (A.deeper (envF F f s.heap.objs.size)) → PE (ncx CX0 P w K mg base N F f A outer s H E) body tb) (hr : Room (k + 1) A) (e0 : Env0 P w K mg base A outer s H) (hf : H f = some (LamO f F body)) (hc : H F.c = some (CodeO F.c F.qual))
    (C : CellsAt F.cl fr ws s.heap H) (r : Vals vs us) (hl : vs.length = ps.length) (q : tb (startF N vs ws) H Q) : codeAny (model P w) A (.call (.ref f) ⟨us, []⟩) (CR CX0 outer P w H s Q E) s := by
  have unlimited := e0.mod.nolimit.keeps fun b o h => (e0.bs b o h).1
  obtain ⟨⟨pm, ctv, obj⟩, -, -⟩ := e0.hok f _ hf
  apply PySem.W.kla_callFunE hr.depth obj rfl S.co S.gen rfl (codeO_at e0.hok hc)
  rw [hb pm ctv us (r.length ▸ hl)]
  apply wpAny_pure
  refine wpAny_newFunctionEnv S.nocell (fun y hy => S.par _ (List.of_mem_zip (a := y.1) (b := y.2) hy).1) (fun g names but => ⟨unlimited.fresh _ but, PySem.W.kla_codeExpr ?_⟩) S.kind
  have J := inv_startN (CX := CX0) (f := f) (E := E) (tk := s.toks + (ps.zip us).length) S hr.hd e0 hl r C names fun b o h => but.extBut b o (Nat.ne_of_lt (Heap.lt_size h)) (Heap.get?_push_of_some _ h)
  refine wpAny_mono ((hbody (hr.deeper _)).run [] _ _ H Q J q) (fun v s' z => ?_) fun _ _ z => z
  exact z.elim fun x z => z.elim fun G z => ⟨x, G, z.1.os, z.1.bare, z.1.base, z.1.hok, z.2.1, z.2.2⟩
/-! ### the expression -/
def tMinLam (P : Addr) (q : Str) (N : List Str) (js : List Nat) (te tb : TE) : TE := fun σ H Q => te σ H fun x H1 => TabS H1 P q ∧ ∀ H2, Bt P H1 H2 → TabS H2 P q → ∃ (l : Addr) (xs : List V) (kf : Nat → Int), x = .ref l ∧ H2 l = some (.lst xs) ∧ 0 < xs.length ∧
  (∀ (i : Nat) (y : V) (H3 : Hp), Ex H2 H3 → xs[i]? = some y → Ev tb (startF N [y] (js.map (slotAt σ))) H3 (.int (kf i))) ∧
  ∀ (i : Nat) (y : V) (H3 : Hp), Ex H2 H3 → xs[i]? = some y → (∀ j, j < xs.length → kf i ≤ kf j ∧ (j < i → kf i < kf j)) → Q y H3
theorem pe_minLam {X : Cx} {N ps fr : List Str} {js : List Nat} {k : Nat} {c P : Addr} {e body : Expr} {params : Arguments} {scope : Scope} {p pos lpos kpos : Pos} {te tb : TE} {u : Str} (hcalm : X.calm = true) (hg : Gl X "min") (hm : X.mg "min" = none) (TB : TabB X.base X.mg c P) (hcode : X.env.code = .ref c) (hr : Room (k + 2) X.A) (he : PA X [e] (tCons te tNil))
    (S : NScope N ps fr scope) (h1 : ps = [u]) (hfree : ∀ y ∈ scope.names, y.2 = .free → X.env.scope.names.lookup y.1 = some .cell ∨ X.env.scope.names.lookup y.1 = some .free) (hfr : ∀ y ∈ fr, (y, NameKind.free) ∈ scope.names) (hjs : js.map (fun j => X.N[j]?) = fr.map some)
    (hb : ∀ (cl : List (Str × Addr)) (pm cv ctv : Value) (us : List Value), us.length = ps.length → bindArgs (PySem.W.kla_fn "<lambda>" (X.env.qual ++ "<lambda>") params body scope cl pm cv ctv) ⟨us, []⟩ = pure (ps.zip us))
    (hbody : ∀ (A : Around) (outer : List Env) (s : Shared) (H : Hp) (f c' : Addr), Room k (A.deeper (envF ⟨"<lambda>", X.env.qual ++ "<lambda>", params, [], scope, cloFrom X.env.cells scope.names [], c'⟩ f s.heap.objs.size)) → PE (ncx CX0 X.prog X.w X.K X.mg X.base N ⟨"<lambda>", X.env.qual ++ "<lambda>", params, [], scope, cloFrom X.env.cells scope.names [], c'⟩ f A outer s H E0) body tb)
    (hdef : defaultsOf params X.env = ([], []) := by rfl) (hst : backTo pos (starEach [e] X.env) = (false, eval e X.env) :: backTo pos (starEach [] X.env) := by rfl) (hpl : (backTo pos (starEach [e] X.env)).any (·.1) = false := by rfl) :
    PE X (.Call (.Name "min" p) [e] [⟨some "key", .Lambda params body scope lpos, kpos⟩] pos) (tMinLam P (X.env.qual ++ "<lambda>") N js te tb) := by
  constructor
  intro pins s σ H Q I h
  refine wpAny_Call_Name_kw (ld_blt I hg hm (u := .builtin "min") (by decide +kernel) ?_)
  have h' : tCons te tNil σ H (fun vs H1 => ∃ x, vs = [x] ∧ TabS H1 P (X.env.qual ++ "<lambda>") ∧ ∀ H2, Bt P H1 H2 → TabS H2 P (X.env.qual ++ "<lambda>") → ∃ (l : Addr) (xs : List V) (kf : Nat → Int), x = .ref l ∧ H2 l = some (.lst xs) ∧ 0 < xs.length ∧
      (∀ (i : Nat) (y : V) (H3 : Hp), Ex H2 H3 → xs[i]? = some y → Ev tb (startF N [y] (js.map (slotAt σ))) H3 (.int (kf i))) ∧
      ∀ (i : Nat) (y : V) (H3 : Hp), Ex H2 H3 → xs[i]? = some y → (∀ j, j < xs.length → kf i ≤ kf j ∧ (j < i → kf i < kf j)) → Q y H3) := by
    have e : (fun (x : V) (H1 : Hp) => TabS H1 P (X.env.qual ++ "<lambda>") ∧ ∀ H2, Bt P H1 H2 → TabS H2 P (X.env.qual ++ "<lambda>") → ∃ (l : Addr) (xs : List V) (kf : Nat → Int), x = .ref l ∧ H2 l = some (.lst xs) ∧ 0 < xs.length ∧
      (∀ (i : Nat) (y : V) (H3 : Hp), Ex H2 H3 → xs[i]? = some y → Ev tb (startF N [y] (js.map (slotAt σ))) H3 (.int (kf i))) ∧
      ∀ (i : Nat) (y : V) (H3 : Hp), Ex H2 H3 → xs[i]? = some y → (∀ j, j < xs.length → kf i ≤ kf j ∧ (j < i → kf i < kf j)) → Q y H3) = fun (x : V) (H1 : Hp) => ∃ x', [x] = [x'] ∧ TabS H1 P (X.env.qual ++ "<lambda>") ∧ ∀ H2, Bt P H1 H2 → TabS H2 P (X.env.qual ++ "<lambda>") → ∃ (l : Addr) (xs : List V) (kf : Nat → Int), x' = .ref l ∧ H2 l = some (.lst xs) ∧ 0 < xs.length ∧
      (∀ (i : Nat) (y : V) (H3 : Hp), Ex H2 H3 → xs[i]? = some y → Ev tb (startF N [y] (js.map (slotAt σ))) H3 (.int (kf i))) ∧
      ∀ (i : Nat) (y : V) (H3 : Hp), Ex H2 H3 → xs[i]? = some y → (∀ j, j < xs.length → kf i ≤ kf j ∧ (j < i → kf i < kf j)) → Q y H3 := by
      funext x H1
      refine propext ⟨fun z => ⟨x, rfl, z⟩, ?_⟩
      rintro ⟨x', ex, z⟩
      cases ex
      exact z
    show te σ H fun x H1 => tNil σ H1 fun vs H2 => _
    show te σ H fun (x : V) (H1 : Hp) => ∃ x', [x] = [x'] ∧ _
    rw [← e]
    exact h
  refine PyProof.Rows.callWith_kw (thn (he.run pos pins s σ H _ I h') fun us s1 ⟨vs, H1, I1, r1, x, ev, hT, hk⟩ => ?_) hst hpl rfl rfl
  subst ev
  have hfc : ∀ y ∈ scope.names, y.2 = .free → ∃ c, X.env.cells.lookup y.1 = some c := fun y hy e => (hfree y hy e).elim (fun z => I.ok.has _ (.inl z)) fun z => I.ok.has _ (.inr z)
  show wpAny _ _ (evalAll ((do let v ← eval (.Lambda params body scope lpos) X.env; standAt pos; pure v) :: [])) _ _ s1
  refine wpAny_evalAll_cons (wpAny_bind (lam_value I1 TB hcode hT hdef hfc fun f c' H2 s2 I2 bt T2 hf hc => wpAny_bind (wpAny_standAt (wpAny_pure (wpAny_evalAll_nil ?_)))))
  obtain ⟨l, xs, kf, rfl, hl, hne, hkey, hq⟩ := hk H2 bt T2
  obtain rfl := Vals.ref1 r1
  show wpAny _ _ (call (.builtin "min") [.ref l] [(Str.ofString "key", .ref f)]) _ _ s2
  refine min_call hcalm I2 hl hne (fun i y v H' s' e hy ry I' => ?_) fun i y v H' s' e hy ry hbest I' => ⟨y, H', I', ry, hq i y H' e hy hbest⟩
  have hin : Room (k + 1) X.A.in1 := hr.in1
  refine wpAny_call (codeAny_mono (lam_run (k := k) (E := E0) (F := ⟨"<lambda>", X.env.qual ++ "<lambda>", params, [], scope, cloFrom X.env.cells scope.names [], c'⟩) (vs := [y]) S (fun pm ctv us hl => hb _ pm _ ctv us hl) (fun hr2 => hbody _ _ _ _ f c' hr2) hin I'.env0.in1 (e _ _ hf) (e _ _ hc) (cells_of I' (Caps.made I'.ok hfree hfr hjs)) (.cons ry .nil) (by rw [h1]; rfl) (hkey i y H' e hy H' (Ex.refl H') (fun v2 H3 => v2 = .int (kf i) ∧ Ex H' H3) fun H3 e3 => ⟨rfl, e3⟩)) fun r s'' hq2 => ?_)
  cases r with
  | error er => exact (show False from hq2).elim
  | ok fl =>
    cases fl with
    | ret u2 =>
      obtain ⟨v2, H3, os, bare, un, hok, rv, ev, e3⟩ := hq2
      subst ev
      obtain ⟨t, rfl⟩ := rv
      exact ⟨t, H3, rfl, e3, os, bare, un, hok⟩
    | next => exact False.elim hq2
    | brk => exact False.elim hq2
    | cont => exact False.elim hq2
end Mine
set_option Elab.async false
set_option linter.all false
set_option maxRecDepth 100000
set_option maxHeartbeats 4000000
namespace Mine
open PySem PySem.Spec PyProof.Rows L2 Evl
open Rp02 (Ask Reply Trace Area askNumbers replyNumbers)

theorem lk_here {k : Str} {v : V} {r : List (Str × V)} : List.lookup k ((k, v) :: r) = some v := by
  have e : (k == k) = true := beq_self_eq_true k
  simp only [List.lookup, e]
theorem lk_past {k g : Str} {v : V} {r : List (Str × V)} (h : (k == g) = false) : List.lookup k ((g, v) :: r) = List.lookup k r := by
  simp only [List.lookup, h]
theorem put_here {f : Str} {v x : V} {r : List (Str × V)} : putF f v ((f, x) :: r) = (f, v) :: r := if_pos rfl
theorem put_past {f g : Str} {v x : V} {r : List (Str × V)} (h : ¬ g = f) : putF f v ((g, x) :: r) = (g, x) :: putF f v r := if_neg h

/-! ### numbers -/
theorem nV_length (l : List Nat) : (nV l).length = l.length := List.length_map _
theorem nV_get {l : List Nat} {i : Nat} {n : Nat} (h : l[i]? = some n) : (nV l)[i]? = some (.int (n : Int)) := by
  unfold nV
  rw [List.getElem?_map, h]
  rfl
theorem nV_get_inv {l : List Nat} {i : Nat} {v : V} (h : (nV l)[i]? = some v) : ∃ n : Nat, l[i]? = some n ∧ v = .int (n : Int) := by
  unfold nV at h
  rw [List.getElem?_map, Option.map_eq_some_iff] at h
  obtain ⟨n, h1, h2⟩ := h
  exact ⟨n, h1, h2.symm⟩
theorem cast_inj : ∀ {l m : List Nat}, (l.map fun (n : Nat) => (n : Int)) = (m.map fun (n : Nat) => (n : Int)) → l = m
  | [], [], _ => rfl
  | [], _ :: _, h => by simp at h
  | _ :: _, [], h => by simp at h
  | a :: l, b :: m, h => by
    simp only [List.map_cons, List.cons.injEq] at h
    rw [cast_inj h.2]
    congr 1
    omega
section
variable {K : PySem.W.Frag} {σ : L2.St} {H H' : Hp} {ta tb te : TE} {t u : TT} {x y z v : V} {r : R2} {D : Ends} {tu tw tz : TS}
theorem rv_eqN {p q : Addr} {l m : List Nat} (hp : H p = some (.lst (nV l))) (hq : H q = some (.lst (nV m))) : RV (rEqD K) (.ref p) (.ref q) H (.bl (decide (l = m))) := by
  have h := rv_eqL (K := K) (H := H) (p := p) (q := q) (l := l.map fun (n : Nat) => (n : Int)) (m := m.map fun (n : Nat) => (n : Int)) (by rw [← nV_iV]; exact sq_of hp) (by rw [← nV_iV]; exact sq_of hq)
  rw [show decide (l = m) = decide ((l.map fun (n : Nat) => (n : Int)) = (m.map fun (n : Nat) => (n : Int))) from decide_eq_decide.mpr ⟨fun e => by rw [e], cast_inj⟩]
  exact h
theorem rv_neN {p q : Addr} {l m : List Nat} (hp : H p = some (.lst (nV l))) (hq : H q = some (.lst (nV m))) : RV (rNeD K) (.ref p) (.ref q) H (.bl (!decide (l = m))) := by
  have h := rv_neL (K := K) (H := H) (p := p) (q := q) (l := l.map fun (n : Nat) => (n : Int)) (m := m.map fun (n : Nat) => (n : Int)) (by rw [← nV_iV]; exact sq_of hp) (by rw [← nV_iV]; exact sq_of hq)
  rw [show decide (l = m) = decide ((l.map fun (n : Nat) => (n : Int)) = (m.map fun (n : Nat) => (n : Int))) from decide_eq_decide.mpr ⟨fun e => by rw [e], cast_inj⟩]
  exact h
/-- xs[i] of a list of numbers -/
theorem ev_ixN {p : Addr} {l : List Nat} {i n : Nat} (ha : Ev ta σ H (.ref p)) (hi : Ev tb σ H (.int (i : Int))) (hp : H p = some (.lst (nV l))) (hn : l[i]? = some n) : Ev (tOp (rIxL K) ta tb) σ H (.int (n : Int)) :=
  ev_op ha hi (rv_ixL (sq_of hp) (atI_nat (nV_get hn)))
/-- a + b of two new lists, of a new one and one that stands -/
theorem el_cat {p : Addr} {xs ys : List V} (ha : EvL ta σ H xs) (hb : Ev tb σ H (.ref p)) (hp : H p = some (.lst ys)) (hz : xs.length + ys.length ≤ 100000) : EvL (tOp rCat ta tb) σ H (xs ++ ys) := fun H1 e Q q =>
  ha H1 e _ fun l H2 hl e2 h2 => hb H2 (e.trans e2) _ fun H3 e3 => ⟨l, p, xs, ys, rfl, rfl, e3 _ _ h2, e3 _ _ (e2 _ _ (e _ _ hp)), sz_of hz, fun d hd => q d _ (fresh_back (e2.trans e3) hd) ((e2.trans e3).trans (Ex.new hd)) upd_same⟩
theorem el_catS {p : Addr} {xs ys : List V} (ha : EvL ta σ H xs) (hb : Ev tb σ H (.ref p)) (hp : H p = some (.lst ys)) (hz : xs.length + ys.length ≤ sizeLine) : EvL (tOp rCat ta tb) σ H (xs ++ ys) := fun H1 e Q q =>
  ha H1 e _ fun l H2 hl e2 h2 => hb H2 (e.trans e2) _ fun H3 e3 => ⟨l, p, xs, ys, rfl, rfl, e3 _ _ h2, e3 _ _ (e2 _ _ (e _ _ hp)), hz, fun d hd => q d _ (fresh_back (e2.trans e3) hd) ((e2.trans e3).trans (Ex.new hd)) upd_same⟩
theorem el_catL {xs ys : List V} (ha : EvL ta σ H xs) (hb : EvL tb σ H ys) (hz : xs.length + ys.length ≤ 100000) : EvL (tOp rCat ta tb) σ H (xs ++ ys) := fun H1 e Q q =>
  ha H1 e _ fun l H2 hl e2 h2 => hb H2 (e.trans e2) _ fun p H3 _ e3 h3 => ⟨l, p, xs, ys, rfl, rfl, e3 _ _ h2, h3, sz_of hz, fun d hd => q d _ (fresh_back (e2.trans e3) hd) ((e2.trans e3).trans (Ex.new hd)) upd_same⟩
/-- a call whose one argument, or first, is a new list -/
theorem el_callL1 {sp : Sp} {E : XK} {xs ys : List V} (h : EvL ta σ H xs) (hs : ∀ p H1, H1 p = some (.lst xs) → Ex H H1 → SpL sp [.ref p] H1 ys) : EvL (tCall sp [] E (tCons ta tNil)) σ H ys := fun H1 e Q q =>
  h H1 e _ fun p H2 _ e2 hp => hs p H2 hp (e.trans e2) H2 (Ex.refl H2) Q (fun d H3 hd e3 h3 => q d H3 (fresh_back e2 hd) (e2.trans e3) h3) E
theorem ev_callL1 {sp : Sp} {E : XK} {xs : List V} (h : EvL ta σ H xs) (hs : ∀ p H1, H1 p = some (.lst xs) → Ex H H1 → SpV sp [.ref p] H1 z) : Ev (tCall sp [] E (tCons ta tNil)) σ H z := fun H1 e Q q =>
  h H1 e _ fun p H2 _ e2 hp => hs p H2 hp (e.trans e2) H2 (Ex.refl H2) Q (fun H3 e3 => q H3 (e2.trans e3)) E
theorem el_callL3 {sp : Sp} {E : XK} {tc : TE} {xs ys : List V} (h : EvL ta σ H xs) (hb : Ev tb σ H x) (hc : Ev tc σ H y) (hs : ∀ p H1, H1 p = some (.lst xs) → Ex H H1 → SpL sp [.ref p, x, y] H1 ys) : EvL (tCall sp [] E (tCons ta (tCons tb (tCons tc tNil)))) σ H ys := fun H1 e Q q =>
  h H1 e _ fun p H2 _ e2 hp => hb H2 (e.trans e2) _ fun H3 e3 => hc H3 ((e.trans e2).trans e3) _ fun H4 e4 =>
    hs p H4 (e4 _ _ (e3 _ _ hp)) (((e.trans e2).trans e3).trans e4) H4 (Ex.refl H4) Q (fun d H5 hd e5 h5 => q d H5 (fresh_back ((e2.trans e3).trans e4) hd) (((e2.trans e3).trans e4).trans e5) h5) E
/-- all(..) of a new list of truth values -/
theorem ev_allL {bs : List Bool} (h : EvL ta σ H (bs.map V.bl)) : Ev (tCB (rAll K) (tCons ta tNil)) σ H (.bl (bs.all id)) := fun H1 e Q q =>
  h H1 e _ fun p H2 _ e2 hp => ⟨p, bs, rfl, sq_of hp, q H2 e2⟩
def rMin2 : List V → Hp → VK → Prop := fun xs H Q => ∃ i j, xs = [.int i, .int j] ∧ Q (.int (if j < i then j else i)) H
theorem ev_min2 {i j : Int} (ha : Ev ta σ H (.int i)) (hb : Ev tb σ H (.int j)) : Ev (tCB rMin2 (tCons ta (tCons tb tNil))) σ H (.int (if j < i then j else i)) := fun H1 e Q q =>
  (ea_cons ha (ea_cons hb ea_nil)) H1 e _ fun G eG => ⟨i, j, rfl, q G eG⟩
/-- len of a dict -/
theorem ev_lenD {a : Addr} {kvs : List (Key × V)} (ha : Ev ta σ H (.ref a)) (hd : H a = some (.dK kvs)) : Ev (tCB (fun xs H Q => ∃ a kvs, xs = [V.ref a] ∧ H a = some (.dK kvs) ∧ Q (.int kvs.length) H) (tCons ta tNil)) σ H (.int (kvs.length : Int)) := fun H1 e Q q =>
  ha H1 e _ fun H2 e2 => ⟨a, kvs, rfl, e2 _ _ (e _ _ hd), q H2 e2⟩
theorem et_yes : EvT tYes σ H true := fun H1 _ _ q => q H1 (Ex.refl H1)
end

/-! ### the promises' shapes -/
theorem spL_of {sp : Sp} {vs ys : List V} {H : Hp} (h : ∀ H1, Ex H H1 → ∀ Q E, RetL ys H1 Q → sp vs H1 Q E) : SpL sp vs H ys := fun H1 e Q q E => h H1 e Q E q
theorem spV_of {sp : Sp} {vs : List V} {v : V} {H : Hp} (h : ∀ H1, Ex H H1 → ∀ Q E, RetV v H1 Q → sp vs H1 Q E) : SpV sp vs H v := fun H1 e Q q E => h H1 e Q E q

/-! ### a step, a run -/
def fS (p q : Addr) : List (Str × V) := [("question", .ref p), ("answer", .ref q)]
def StepAt (C : Ad) (H : Hp) (a : Addr) (x : Ask × Reply) : Prop := ∃ dx p q, H a = some (.ins C.Step dx (fS p q)) ∧ H p = some (.lst (nV (askNumbers x.1))) ∧ H q = some (.lst (nV (replyNumbers x.2)))
structure Raw where
  id : Nat
  job : Nat
  machine : Nat
  ended : Nat
  made : List Nat
  trace : Trace
def rawOf (e : Rp02.Entry) : Raw := ⟨e.id, e.job, e.machine, e.ended, Rp02.unpairs e.made, e.trace⟩
def fR (r : Raw) (m t : Addr) : List (Str × V) := [("number", .int r.id), ("job", .int r.job), ("machine", .int r.machine), ("ended", .int r.ended), ("made", .ref m), ("trace", .ref t)]
def TraceAt (C : Ad) (H : Hp) (t : Addr) (tr : Trace) : Prop := ∃ as : List Addr, H t = some (.lst (as.map V.ref)) ∧ Paired (StepAt C H) as tr
def RunAt (C : Ad) (H : Hp) (a : Addr) (r : Raw) : Prop := ∃ dx m t, H a = some (.ins C.Run dx (fR r m t)) ∧ H m = some (.lst (nV r.made)) ∧ TraceAt C H t r.trace
theorem StepAt.mono {C : Ad} {H H' : Hp} {a : Addr} {x : Ask × Reply} (e : Ex H H') (h : StepAt C H a x) : StepAt C H' a x := by
  obtain ⟨dx, p, q, h1, h2, h3⟩ := h
  exact ⟨dx, p, q, e _ _ h1, e _ _ h2, e _ _ h3⟩
theorem TraceAt.mono {C : Ad} {H H' : Hp} {t : Addr} {tr : Trace} (e : Ex H H') (h : TraceAt C H t tr) : TraceAt C H' t tr := by
  obtain ⟨as, h1, h2⟩ := h
  exact ⟨as, e _ _ h1, L2.Paired.mapP h2 fun _ _ q => q.mono e⟩
theorem RunAt.mono {C : Ad} {H H' : Hp} {a : Addr} {r : Raw} (e : Ex H H') (h : RunAt C H a r) : RunAt C H' a r := by
  obtain ⟨dx, m, t, h1, h2, h3⟩ := h
  exact ⟨dx, m, t, e _ _ h1, e _ _ h2, h3.mono e⟩
theorem paired_get {α β : Type} {R : α → β → Prop} : ∀ {l : List α} {m : List β} {i : Nat} {x : α}, Paired R l m → l[i]? = some x → ∃ y, m[i]? = some y ∧ R x y
  | _, _, _, _, .nil, h => by simp at h
  | _, _, 0, _, .cons r _, h => ⟨_, rfl, by cases h; exact r⟩
  | _, _, i + 1, _, .cons _ t, h => paired_get (i := i) t h
theorem paired_get' {α β : Type} {R : α → β → Prop} : ∀ {l : List α} {m : List β} {i : Nat} {y : β}, Paired R l m → m[i]? = some y → ∃ x, l[i]? = some x ∧ R x y
  | _, _, _, _, .nil, h => by simp at h
  | _, _, 0, _, .cons r _, h => ⟨_, rfl, by cases h; exact r⟩
  | _, _, i + 1, _, .cons _ t, h => paired_get' (i := i) t h
theorem paired_len {α β : Type} {R : α → β → Prop} : ∀ {l : List α} {m : List β}, Paired R l m → l.length = m.length
  | _, _, .nil => rfl
  | _, _, .cons _ t => by rw [List.length_cons, List.length_cons, paired_len t]
section
variable {K : PySem.W.Frag} {mg : Str → Option Value} {C : Ad} {σ : L2.St} {H H' : Hp} {ta tb te : TE} {a dx p q m t : Addr} {r : Raw}
theorem evSq (T : Txt K mg C) (h : Ev ta σ H (.ref a)) (ho : H a = some (.ins C.Step dx (fS p q))) : Ev (tFld K ta "question") σ H (.ref p) := ev_fld h ho T.cl_Step T.n_Step_question lk_here
theorem evSa (T : Txt K mg C) (h : Ev ta σ H (.ref a)) (ho : H a = some (.ins C.Step dx (fS p q))) : Ev (tFld K ta "answer") σ H (.ref q) := ev_fld h ho T.cl_Step T.n_Step_answer ((lk_past (by decide +kernel)).trans lk_here)
theorem evRn (T : Txt K mg C) (h : Ev ta σ H (.ref a)) (ho : H a = some (.ins C.Run dx (fR r m t))) : Ev (tFld K ta "number") σ H (.int r.id) := ev_fld h ho T.cl_Run T.n_Run_number lk_here
theorem evRj (T : Txt K mg C) (h : Ev ta σ H (.ref a)) (ho : H a = some (.ins C.Run dx (fR r m t))) : Ev (tFld K ta "job") σ H (.int r.job) := ev_fld h ho T.cl_Run T.n_Run_job ((lk_past (by decide +kernel)).trans lk_here)
theorem evRm (T : Txt K mg C) (h : Ev ta σ H (.ref a)) (ho : H a = some (.ins C.Run dx (fR r m t))) : Ev (tFld K ta "machine") σ H (.int r.machine) := ev_fld h ho T.cl_Run T.n_Run_machine ((lk_past (by decide +kernel)).trans ((lk_past (by decide +kernel)).trans lk_here))
theorem evRe (T : Txt K mg C) (h : Ev ta σ H (.ref a)) (ho : H a = some (.ins C.Run dx (fR r m t))) : Ev (tFld K ta "ended") σ H (.int r.ended) := ev_fld h ho T.cl_Run T.n_Run_ended ((lk_past (by decide +kernel)).trans ((lk_past (by decide +kernel)).trans ((lk_past (by decide +kernel)).trans lk_here)))
theorem evRd (T : Txt K mg C) (h : Ev ta σ H (.ref a)) (ho : H a = some (.ins C.Run dx (fR r m t))) : Ev (tFld K ta "made") σ H (.ref m) := ev_fld h ho T.cl_Run T.n_Run_made ((lk_past (by decide +kernel)).trans ((lk_past (by decide +kernel)).trans ((lk_past (by decide +kernel)).trans ((lk_past (by decide +kernel)).trans lk_here))))
theorem evRt (T : Txt K mg C) (h : Ev ta σ H (.ref a)) (ho : H a = some (.ins C.Run dx (fR r m t))) : Ev (tFld K ta "trace") σ H (.ref t) := ev_fld h ho T.cl_Run T.n_Run_trace ((lk_past (by decide +kernel)).trans ((lk_past (by decide +kernel)).trans ((lk_past (by decide +kernel)).trans ((lk_past (by decide +kernel)).trans ((lk_past (by decide +kernel)).trans lk_here)))))
end
/-! ### questions by their places -/
theorem ask0f {a n : Nat} : (askNumbers (.file a n))[0]? = some 0 := rfl
theorem ask0n {a lo hi : Nat} : (askNumbers (.names a lo hi))[0]? = some 1 := rfl
theorem ask1 (q : Ask) : (askNumbers q)[1]? = some q.area := by cases q <;> rfl
/-- which sort a question is, as its first number -/
def sort : Ask → Nat
  | .file _ _ => 0
  | .names _ _ _ => 1
theorem ask0 (q : Ask) : (askNumbers q)[0]? = some (sort q) := by cases q <;> rfl
end Mine
set_option Elab.async false
set_option linter.all false
set_option maxRecDepth 100000
set_option maxHeartbeats 4000000
namespace Mine
open PySem PySem.Spec PyProof.Rows L2 Evl
open Rp02 (Ask Reply Trace Area askNumbers replyNumbers)
/-! ### promises -/
def sp_counted (K : PySem.W.Frag) (C : Ad) : Sp := fun vs H Q _ => ∃ (p : Addr) (xs : List V), vs = [.ref p] ∧ H p = some (.lst xs) ∧ xs.length < sizeLine ∧ RetL (.int (xs.length : Int) :: xs) H Q
def sp_rises (K : PySem.W.Frag) (C : Ad) : Sp := fun vs H Q _ => ∃ (p : Addr) (l : List Nat), vs = [.ref p] ∧ H p = some (.lst (nV l)) ∧ l.length ≤ 1000 ∧ RetV (.bl (Rp02.rising l)) H Q
def sp_files_between (K : PySem.W.Frag) (C : Ad) : Sp := fun vs H Q _ => ∃ (p : Addr) (l : List Nat) (lo hi : Nat), vs = [.ref p, .int lo, .int hi] ∧ H p = some (.lst (nV l)) ∧ l.length ≤ 1000 ∧ RetL (nV (between l lo hi)) H Q
theorem use_countedS {K : PySem.W.Frag} {C : Ad} {H : Hp} {p : Addr} {xs : List V} (h : H p = some (.lst xs)) (hl : xs.length < sizeLine) : SpL (sp_counted K C) [.ref p] H (.int (xs.length : Int) :: xs) :=
  spL_of fun H1 e Q E k => ⟨p, xs, rfl, e _ _ h, hl, k⟩
theorem use_counted {K : PySem.W.Frag} {C : Ad} {H : Hp} {p : Addr} {xs : List V} (h : H p = some (.lst xs)) (hl : xs.length < 90000) : SpL (sp_counted K C) [.ref p] H (.int (xs.length : Int) :: xs) :=
  use_countedS h (Nat.lt_trans hl (by decide))
theorem use_rises {K : PySem.W.Frag} {C : Ad} {H : Hp} {p : Addr} {l : List Nat} (h : H p = some (.lst (nV l))) (hl : l.length ≤ 1000) : SpV (sp_rises K C) [.ref p] H (.bl (Rp02.rising l)) :=
  spV_of fun H1 e Q E k => ⟨p, l, rfl, e _ _ h, hl, k⟩
theorem use_files_between {K : PySem.W.Frag} {C : Ad} {H : Hp} {p : Addr} {l : List Nat} {lo hi : Nat} (h : H p = some (.lst (nV l))) (hl : l.length ≤ 1000) : SpL (sp_files_between K C) [.ref p, .int lo, .int hi] H (nV (between l lo hi)) :=
  spL_of fun H1 e Q E k => ⟨p, l, lo, hi, rfl, e _ _ h, hl, k⟩
/-! ### rises -/
theorem rising_of {l : List Nat} (h : ∀ (j a b : Nat), l[j]? = some a → l[j + 1]? = some b → a < b) : Rp02.rising l = true := by
  induction l with
  | nil => rfl
  | cons a r ih =>
    cases r with
    | nil => rfl
    | cons b r =>
      simp only [Rp02.rising, Bool.and_eq_true, decide_eq_true_eq]
      exact ⟨h 0 a b rfl rfl, ih fun j x y hx hy => h (j + 1) x y hx hy⟩
theorem rising_not {l : List Nat} {j a b : Nat} (ha : l[j]? = some a) (hb : l[j + 1]? = some b) (h : b ≤ a) : Rp02.rising l = false := by
  cases e : Rp02.rising l with
  | false => rfl
  | true =>
    have hp := rising_iff.mp e
    have := (List.pairwise_iff_getElem.mp hp) j (j + 1) (lt_at ha) (lt_at hb) (Nat.lt_succ_self j)
    rw [(List.getElem?_eq_some_iff.mp ha).2, (List.getElem?_eq_some_iff.mp hb).2] at this
    omega
/-! ### files_between: the comprehension -/
theorem given_filter {l : List Nat} (f : Nat → Bool) : ∀ (n : Nat), n ≤ l.length → Evl.given n (fun i => match l[i]? with | some x => f x | none => false) (fun i => match l[i]? with | some x => .int (x : Int) | none => .non) = nV ((l.take n).filter f)
  | 0, _ => rfl
  | n + 1, h => by
    have hx := List.getElem?_eq_getElem (l := l) (i := n) (by omega)
    have ih := given_filter (l := l) f n (by omega)
    rw [take_succ_at hx, List.filter_append]
    cases hf : f (l[n]'(by omega)) with
    | true =>
      rw [given_yes (by simp only [hx]; exact hf), ih]
      simp only [hx, List.filter_cons, hf, if_true, List.filter_nil]
      unfold nV
      rw [List.map_append]
      rfl
    | false =>
      rw [given_no (by simp only [hx]; exact hf), ih]
      simp only [List.filter_cons, hf, List.filter_nil]
      unfold nV
      rw [List.map_append]
      simp
section
variable {P : Program} {w : World} {K : PySem.W.Frag} {mg : Str → Option Value} {base : Heap} {C : Ad}
theorem ok_counted {f : Addr} {fd : FuncData} (F : Fun K "counted" "counted" s_counted f fd) (T : Txt K mg C)  : FnOk P w K mg base CX0 1 f fd ["numbers"] (sp_counted K C) := by
  refine F.ok sc_counted (fun vs H Q E h => ?_) (fun cdv A outer s H vs Q E hr h => ⟨_, (pss_one (ps_ret (pe_op op_cat (pe_lst (pa_cons (pe_callB (call_len_seqK (K := K) rfl) (by rfl) T.b_len (by decide +kernel) (pa_cons (pv 0) pa_nil)) pa_nil)) (pv 0)))), ?_⟩)
  · obtain ⟨p, xs, rfl, _⟩ := h
    rfl
  · obtain ⟨p, xs, rfl, hp, hl, k⟩ := h
    refine Sx.at (sx_retL (xs := [.int (xs.length : Int)] ++ xs) ?_ (by exact k))
    exact el_catS (xs := [.int (xs.length : Int)]) (el_lst (ea_cons (ev_len (ev_var rfl) (sq_of hp)) ea_nil) (by show 1 ≤ 100000; decide)) (ev_var rfl) hp (by show 1 + xs.length ≤ _; omega)
theorem ok_rises {f : Addr} {fd : FuncData} (F : Fun K "rises" "rises" s_rises f fd) (T : Txt K mg C)  : FnOk P w K mg base CX0 1 f fd ["numbers"] (sp_rises K C) := by
  refine F.ok sc_rises (fun vs H Q E h => ?_) (fun cdv A outer s H vs Q E hr h => ⟨_, (pss_cons (ps_for PassesOwn.never rfl (pi_range2 rfl T.b_range (pa_cons pe_int (pa_cons (pe_callB (call_len_seqK (K := K) rfl) (by rfl) T.b_len (by decide +kernel) (pa_cons (pv 0) pa_nil)) pa_nil))) (pg_name (i := 1) sc_rises.nd rfl (Or.inl rfl)) (pss_one (ps_if (pt_cmpR op_ge (pe_ix (ix_listK (K := K) rfl) (pv 0) (pe_op op_sub (pv 1) pe_int) (fun _ _ => rfl)) (pe_ix (ix_listK (K := K) rfl) (pv 0) (pv 1) (fun _ _ => rfl)) (nomark _)) (pss_one (ps_ret pe_bl)) pss_nil))) (pss_one (ps_ret pe_bl))), ?_⟩)
  · obtain ⟨p, l, rfl, _⟩ := h
    rfl
  · obtain ⟨p, l, rfl, hp, hl, k⟩ := h
    refine q_forR2 (lo := 1) (n := (l.length : Int)) ?_ (by omega) (fun i σ' H' => Ex H H' ∧ (∃ v, σ' = [some (.ref p), v]) ∧ ∀ (j a b : Nat), j < i → l[j]? = some a → l[j + 1]? = some b → a < b) ?_ ?_ ?_
    · refine ea_cons ev_c (ea_cons ?_ ea_nil)
      have := ev_len (K := K) (σ := L2.start ["numbers", "place"] [.ref p]) (ta := tVar 0) (ev_var rfl) (sq_of hp)
      rw [nV_length] at this
      exact this
    · exact fun H1 e => ⟨e, ⟨none, rfl⟩, fun j a b hj => by omega⟩
    · rintro i σ' H' hi ⟨e, ⟨v, rfl⟩, hs⟩
      have ha := List.getElem?_eq_getElem (l := l) (i := i) (by omega)
      have hb := List.getElem?_eq_getElem (l := l) (i := i + 1) (by omega)
      refine s_when (b := decide (((l[i + 1]'(by omega) : Nat) : Int) ≤ ((l[i]'(by omega) : Nat) : Int))) (et_test (ev_op (ev_ixN (ev_var rfl) ?_ (e _ _ hp) ha) (ev_ixN (i := i + 1) (ev_var rfl) ?_ (e _ _ hp) hb) rv_I0)) ?_ ?_
      · exact ev_is (ev_op (ev_var rfl) ev_c rv_I0) (congrArg V.int (by omega))
      · exact ev_is (ev_var rfl) (congrArg V.int (by omega))
      · intro hc H1 e1
        have hn : Rp02.rising l = false := rising_not ha hb (by have := of_decide_eq_true hc; omega)
        rw [hn] at k
        exact s_ret ev_c fun H2 e2 => k H2 ((e.trans e1).trans e2)
      · intro hc H1 e1
        refine ⟨e.trans e1, ⟨_, rfl⟩, fun j a b hj ha' hb' => ?_⟩
        rcases Nat.lt_or_ge j i with q | q
        · exact hs j a b q ha' hb'
        · have : j = i := by omega
          subst this
          rw [ha] at ha'
          rw [hb] at hb'
          have := of_decide_eq_false hc
          have e1 := Option.some.inj ha'
          have e2 := Option.some.inj hb'
          omega
    · rintro σ' H' ⟨e, _, hs⟩
      have hn : Rp02.rising l = true := rising_of fun j a b ha hb => hs j a b (by have := lt_at hb; omega) ha hb
      rw [hn] at k
      exact s_ret ev_c fun H2 e2 => k H2 (e.trans e2)
theorem ok_files_between {f : Addr} {fd : FuncData} (F : Fun K "files_between" "files_between" s_files_between f fd) (T : Txt K mg C)  : FnOk P w K mg base CX0 1 f fd ["files", "first", "last"] (sp_files_between K C) := by
  refine F.ok sc_files_between (fun vs H Q E h => ?_) (fun cdv A outer s H vs Q E hr h => ⟨_, (pss_one (ps_ret (pe_lc (own := [("file", 3)]) (g := gName 3) rfl sc_files_between.nd (pi_listK (K := K) rfl (pv 0)) (blkOk_by (own := [("file", 3)]) (N := ["files", "first", "last", "file"]) (sc := defScope s_files_between) (by decide +kernel)) (fun _ _ _ _ _ => pg_name (i := 3) sc_files_between.nd rfl (Or.inl rfl)) (fun _ _ _ _ _ => (pts_one (PW.pt (pw_and (pt_cmpR op_le (pv 1) (pv 3) (nomark _)) (pw_and1 (pt_cmpR op_le (pv 3) (pv 2) (nomark _))))))) (fun _ _ _ _ _ => (pv 3))))), ?_⟩)
  · obtain ⟨p, l, lo, hi, rfl, _⟩ := h
    rfl
  · obtain ⟨p, l, lo, hi, rfl, hp, hl, k⟩ := h
    refine Sx.at (sx_retL (xs := nV (between l lo hi)) ?_ (by exact k))
    have hg := given_filter (l := l) (fun n => decide (lo ≤ n) && decide (n ≤ hi)) l.length (Nat.le_refl _)
    rw [List.take_length] at hg
    unfold between
    rw [← hg, ← nV_length l]
    refine el_lcL _ _ (ev_var rfl) (sq_of hp) (by rw [nV_length]; omega) (fun x => rfl) ?_ ?_
    · intro i x H1 e1 hx
      obtain ⟨n, hn, rfl⟩ := nV_get_inv hx
      simp only [hn]
      refine et_is (et_and (et_test (ev_op (ev_var rfl) (ev_var rfl) rv_I0)) fun _ => et_test (ev_op (ev_var rfl) (ev_var rfl) rv_I0)) ?_
      simp only [Int.ofNat_le]
    · intro i x H1 e1 hx hf
      obtain ⟨n, hn, rfl⟩ := nV_get_inv hx
      simp only [hn]
      exact ev_var rfl
end
end Mine
set_option Elab.async false
set_option linter.all false
set_option maxRecDepth 100000
set_option maxHeartbeats 4000000
namespace Mine
open PySem PySem.Spec PyProof.Rows L2 Evl
open Rp02 (Ask Reply Trace Area askNumbers replyNumbers)

/-! ### slices -/
theorem cut_from (xs : List V) (k : Nat) : cutV xs (some (k : Int)) none = xs.drop k := by
  unfold cutV
  rw [HT.sIx_nat, HT.sIx_none]
  rcases Nat.lt_or_ge k xs.length with h | h
  · rw [Nat.min_eq_left (Nat.le_of_lt h)]
    exact List.take_of_length_le (by rw [List.length_drop]; exact Nat.le_refl _)
  · rw [Nat.min_eq_right h, List.drop_length, List.drop_of_length_le h]
    exact List.take_nil
theorem cut_to (xs : List V) (k : Nat) : cutV xs none (some (k : Int)) = xs.take k := by
  unfold cutV
  rw [HT.sIx_nat, HT.sIx_none, List.drop_zero, Nat.sub_zero]
  rcases Nat.lt_or_ge k xs.length with h | h
  · rw [Nat.min_eq_left (Nat.le_of_lt h)]
  · rw [Nat.min_eq_right h, List.take_length, List.take_of_length_le h]
theorem cut_mid (xs : List V) (i j : Nat) : cutV xs (some (i : Int)) (some (j : Int)) = (xs.drop i).take (j - i) := by
  unfold cutV
  rw [HT.sIx_nat, HT.sIx_nat]
  rcases Nat.lt_or_ge i xs.length with h | h
  · rw [Nat.min_eq_left (Nat.le_of_lt h)]
    rcases Nat.lt_or_ge j xs.length with h2 | h2
    · rw [Nat.min_eq_left (Nat.le_of_lt h2)]
    · rw [Nat.min_eq_right h2, List.take_of_length_le (by rw [List.length_drop]; omega), List.take_of_length_le (by rw [List.length_drop]; omega)]
  · rw [Nat.min_eq_right h, List.drop_length, List.drop_of_length_le h, List.take_nil, List.take_nil]
theorem nV_drop (l : List Nat) (k : Nat) : (nV l).drop k = nV (l.drop k) := by
  unfold nV
  rw [List.map_drop]
theorem flat_nV (l : List Nat) : (nV l).all flatV = true := by
  unfold nV
  rw [List.all_map, List.all_eq_true]
  intro n _
  rfl
theorem inV_nV (l : List Nat) (n : Nat) : inV (.int (n : Int)) (nV l) = l.contains n := by
  unfold inV nV
  rw [List.any_map]
  induction l with
  | nil => rfl
  | cons a r ih =>
    rw [List.any_cons, List.contains_cons, ih]
    congr 1
    show ((a : Int) == (n : Int)) = (n == a)
    rw [Bool.eq_iff_iff]
    simp only [beq_iff_eq]
    omega
section
variable {K : PySem.W.Frag} {σ : L2.St} {H H' : Hp} {ta tb te : TE} {t u : TT} {x y z v : V} {r : R2} {D : Ends} {tu tw tz : TS}
/-- xs[k:] -/
theorem el_from {p : Addr} {xs : List V} {i : Int} {k : Nat} (hk : i = (k : Int)) (ha : Ev ta σ H (.ref p)) (hb : Ev tb σ H (.int i)) (hp : SqL K H p xs) : EvL (tSl (rSlL K) ta (tPart tb) tNoPart) σ H (xs.drop k) := by
  have h := el_sl (K := K) ha (eo_some hb) eo_none hp
  rw [hk, cut_from] at h
  exact h
theorem el_to {p : Addr} {xs : List V} {i : Int} {k : Nat} (hk : i = (k : Int)) (ha : Ev ta σ H (.ref p)) (hb : Ev tb σ H (.int i)) (hp : SqL K H p xs) : EvL (tSl (rSlL K) ta tNoPart (tPart tb)) σ H (xs.take k) := by
  have h := el_sl (K := K) ha eo_none (eo_some hb) hp
  rw [hk, cut_to] at h
  exact h
end
/-! ### the promises -/
def sp_fits_listing (K : PySem.W.Frag) (C : Ad) : Sp := fun vs H Q _ => ∃ (a b : Addr) (ar n : Nat) (r : Reply) (br lo hi : Nat) (l : List Nat), vs = [.ref a, .ref b] ∧ StepAt C H a (.file ar n, r) ∧ StepAt C H b (.names br lo hi, .those l) ∧ kinded (.file ar n, r) = true ∧
  RetV (.bl (fits n (isThere r) lo hi l)) H Q
def sp_listings_agree (K : PySem.W.Frag) (C : Ad) : Sp := fun vs H Q _ => ∃ (a b : Addr) (ar lo hi : Nat) (l : List Nat) (br lo' hi' : Nat) (m : List Nat), vs = [.ref a, .ref b] ∧ StepAt C H a (.names ar lo hi, .those l) ∧ StepAt C H b (.names br lo' hi', .those m) ∧
  l.length ≤ 1000 ∧ m.length ≤ 1000 ∧ RetV (.bl (agree lo hi l lo' hi' m)) H Q
/-- an answer is not too long -/
def shortR : Reply → Prop
  | .those l => l.length ≤ 1000
  | _ => True
def sp_can_be_together (K : PySem.W.Frag) (C : Ad) : Sp := fun vs H Q _ => ∃ (a b : Addr) (x y : Ask × Reply), vs = [.ref a, .ref b] ∧ StepAt C H a x ∧ StepAt C H b y ∧ kinded x = true ∧ kinded y = true ∧ shortR x.2 ∧ shortR y.2 ∧ RetV (.bl (together x y)) H Q
def sp_is_step_right (K : PySem.W.Frag) (C : Ad) : Sp := fun vs H Q _ => ∃ (a : Addr) (job : Nat) (x : Ask × Reply), vs = [.int job, .ref a] ∧ StepAt C H a x ∧ kinded x = true ∧ shortR x.2 ∧ RetV (.bl (stepRight job x)) H Q
theorem use_fits_listing {K : PySem.W.Frag} {C : Ad} {H : Hp} {a b : Addr} {ar n : Nat} {r : Reply} {br lo hi : Nat} {l : List Nat} (h1 : StepAt C H a (.file ar n, r)) (h2 : StepAt C H b (.names br lo hi, .those l)) (hk : kinded (.file ar n, r) = true) :
    SpV (sp_fits_listing K C) [.ref a, .ref b] H (.bl (fits n (isThere r) lo hi l)) := spV_of fun H1 e Q E k => ⟨a, b, ar, n, r, br, lo, hi, l, rfl, h1.mono e, h2.mono e, hk, k⟩
theorem use_listings_agree {K : PySem.W.Frag} {C : Ad} {H : Hp} {a b : Addr} {ar lo hi : Nat} {l : List Nat} {br lo' hi' : Nat} {m : List Nat} (h1 : StepAt C H a (.names ar lo hi, .those l)) (h2 : StepAt C H b (.names br lo' hi', .those m)) (hl : l.length ≤ 1000) (hm : m.length ≤ 1000) :
    SpV (sp_listings_agree K C) [.ref a, .ref b] H (.bl (agree lo hi l lo' hi' m)) := spV_of fun H1 e Q E k => ⟨a, b, ar, lo, hi, l, br, lo', hi', m, rfl, h1.mono e, h2.mono e, hl, hm, k⟩
theorem use_can_be_together {K : PySem.W.Frag} {C : Ad} {H : Hp} {a b : Addr} {x y : Ask × Reply} (h1 : StepAt C H a x) (h2 : StepAt C H b y) (kx : kinded x = true) (ky : kinded y = true) (sx : shortR x.2) (sy : shortR y.2) : SpV (sp_can_be_together K C) [.ref a, .ref b] H (.bl (together x y)) :=
  spV_of fun H1 e Q E k => ⟨a, b, x, y, rfl, h1.mono e, h2.mono e, kx, ky, sx, sy, k⟩
theorem use_is_step_right {K : PySem.W.Frag} {C : Ad} {H : Hp} {a : Addr} {job : Nat} {x : Ask × Reply} (h1 : StepAt C H a x) (kx : kinded x = true) (sx : shortR x.2) : SpV (sp_is_step_right K C) [.int job, .ref a] H (.bl (stepRight job x)) :=
  spV_of fun H1 e Q E k => ⟨a, job, x, rfl, h1.mono e, kx, sx, k⟩
theorem reply0 {ar n : Nat} {r : Reply} (h : kinded (.file ar n, r) = true) : (replyNumbers r)[0]? = some (if isThere r = true then 1 else 0) := by
  cases r <;> simp_all [kinded, replyNumbers, isThere]
section
variable {P : Program} {w : World} {K : PySem.W.Frag} {mg : Str → Option Value} {base : Heap} {C : Ad}
theorem ok_fits_listing {f : Addr} {fd : FuncData} (F : Fun K "fits_listing" "fits_listing" s_fits_listing f fd) (T : Txt K mg C)  : FnOk P w K mg base CX0 1 f fd ["step", "listing"] (sp_fits_listing K C) := by
  refine F.ok sc_fits_listing (fun vs H Q E h => ?_) (fun cdv A outer s H vs Q E hr h => ⟨_, (pss_cons (ps_set (i := 2) sc_fits_listing.nd rfl (Or.inl rfl) (pe_ix (ix_listK (K := K) rfl) (pe_fldK (K := K) rfl (pv 0) rfl) pe_int (fun _ _ => rfl))) (pss_cons (ps_if (PW.pt (pw_or (pt_cmpR op_lt (pv 2) (pe_ix (ix_listK (K := K) rfl) (pe_fldK (K := K) rfl (pv 1) rfl) pe_int (fun _ _ => rfl)) (nomark _)) (pw_or1 (pt_cmpR op_gt (pv 2) (pe_ix (ix_listK (K := K) rfl) (pe_fldK (K := K) rfl (pv 1) rfl) pe_int (fun _ _ => rfl)) (nomark _))))) (pss_one (ps_ret pe_bl)) pss_nil) (pss_cons (ps_set (i := 3) sc_fits_listing.nd rfl (Or.inl rfl) (pe_cmpR op_eq (pe_ix (ix_listK (K := K) rfl) (pe_fldK (K := K) rfl (pv 0) rfl) pe_int (fun _ _ => rfl)) pe_int (nomark _))) (pss_one (ps_ret (pe_cmpR op_eq (pv 3) (pe_cmpR (op_in_seqK (K := K) rfl) (pv 2) (pe_slice (sl_listK (K := K) rfl) (pe_fldK (K := K) rfl (pv 1) rfl) (po_some pe_int) po_none) (by rfl)) (nomark _))))))), ?_⟩)
  · obtain ⟨a, b, ar, n, r, br, lo, hi, l, rfl, _⟩ := h
    rfl
  · obtain ⟨a, b, ar, n, r, br, lo, hi, l, rfl, ⟨dx, p, q, hs, hq, ha⟩, ⟨dx', p', q', hs', hq', ha'⟩, hk, k⟩ := h
    refine Sx.at (sx_asg (v := .int (n : Int)) (ev_ixN (i := 2) (evSq T (ev_var rfl) hs) ev_c hq rfl) ?_)
    refine sx_when (et_or (et_test (ev_op (ev_var rfl) (ev_ixN (i := 2) (n := lo) (evSq T (ev_var rfl) hs') ev_c hq' rfl) rv_I0)) fun _ => et_test (ev_op (ev_var rfl) (ev_ixN (i := 3) (n := hi) (evSq T (ev_var rfl) hs') ev_c hq' rfl) rv_I0)) ?_ ?_
    · intro hb
      refine sx_ret ev_c fun H1 e1 => ?_
      have : fits n (isThere r) lo hi l = true := by
        unfold fits
        rw [if_pos]
        simp only [Bool.or_eq_true, decide_eq_true_eq] at hb
        omega
      rw [this] at k
      exact k H1 e1
    · intro hb
      have hf : fits n (isThere r) lo hi l = (isThere r == l.contains n) := by
        unfold fits
        rw [if_neg]
        simp only [Bool.or_eq_false_iff, decide_eq_false_iff_not] at hb
        omega
      rw [hf] at k
      refine sx_asg (v := .bl (isThere r)) ?_ ?_
      · refine ev_is (ev_op (ev_ixN (i := 0) (evSa T (ev_var rfl) hs) ev_c ha (reply0 hk)) ev_c (rv_eq rfl)) ?_
        cases isThere r <;> rfl
      · refine sx_ret (v := .bl (isThere r == l.contains n)) ?_ k
        refine ev_is (ev_op (x := .bl (isThere r)) (y := .bl (l.contains n)) (ev_var rfl) ?_ (rv_eq rfl)) ?_
        · refine ev_is (ev_opL (ev_var rfl) (el_from (k := 1) rfl (evSa T (ev_var rfl) hs') ev_c (sq_of ha')) fun p1 H1 h1 e1 => rv_isL (sq_of h1) rfl (by rw [nV_drop]; exact flat_nV _)) ?_
          rw [nV_drop, inV_nV]
          rfl
        · congr 1
          cases isThere r <;> cases l.contains n <;> rfl
theorem ok_listings_agree {f : Addr} {fd : FuncData} (F : Fun K "listings_agree" "listings_agree" s_listings_agree f fd) (T : Txt K mg C) (G_files_between : Has P w K mg base 1 "files_between" ["files", "first", "last"] (sp_files_between K C)) : FnOk P w K mg base CX0 2 f fd ["one", "other"] (sp_listings_agree K C) := by
  refine F.ok sc_listings_agree (fun vs H Q E h => ?_) (fun cdv A outer s H vs Q E hr h => ⟨_, (pss_cons (ps_set (i := 2) sc_listings_agree.nd rfl (Or.inl rfl) (pe_callB (call_max2 rfl) (by rfl) T.b_max (by decide +kernel) (pa_cons (pe_ix (ix_listK (K := K) rfl) (pe_fldK (K := K) rfl (pv 0) rfl) pe_int (fun _ _ => rfl)) (pa_cons (pe_ix (ix_listK (K := K) rfl) (pe_fldK (K := K) rfl (pv 1) rfl) pe_int (fun _ _ => rfl)) pa_nil)))) (pss_cons (ps_set (i := 3) sc_listings_agree.nd rfl (Or.inl rfl) (pe_callB (call_min2 rfl) (by rfl) T.b_min (by decide +kernel) (pa_cons (pe_ix (ix_listK (K := K) rfl) (pe_fldK (K := K) rfl (pv 0) rfl) pe_int (fun _ _ => rfl)) (pa_cons (pe_ix (ix_listK (K := K) rfl) (pe_fldK (K := K) rfl (pv 1) rfl) pe_int (fun _ _ => rfl)) pa_nil)))) (pss_one (ps_ret (pe_cmpR (op_eqDK (K := K) rfl hr.units) (pe_has G_files_between hr rfl (by exact (pa_cons (pe_slice (sl_listK (K := K) rfl) (pe_fldK (K := K) rfl (pv 0) rfl) (po_some pe_int) po_none) (pa_cons (pv 2) (pa_cons (pv 3) pa_nil))))) (pe_has G_files_between hr rfl (by exact (pa_cons (pe_slice (sl_listK (K := K) rfl) (pe_fldK (K := K) rfl (pv 1) rfl) (po_some pe_int) po_none) (pa_cons (pv 2) (pa_cons (pv 3) pa_nil))))) (nomark _)))))), ?_⟩)
  · obtain ⟨a, b, ar, lo, hi, l, br, lo', hi', m, rfl, _⟩ := h
    rfl
  · obtain ⟨a, b, ar, lo, hi, l, br, lo', hi', m, rfl, ⟨dx, p, q, hs, hq, ha⟩, ⟨dx', p', q', hs', hq', ha'⟩, hl, hm, k⟩ := h
    refine Sx.at (sx_asg (v := .int ((max lo lo' : Nat) : Int)) ?_ ?_)
    · refine ev_is (ev_max2 (ev_ixN (i := 2) (n := lo) (evSq T (ev_var rfl) hs) ev_c hq rfl) (ev_ixN (i := 2) (n := lo') (evSq T (ev_var rfl) hs') ev_c hq' rfl)) (congrArg V.int ?_)
      split <;> omega
    refine sx_asg (v := .int ((min hi hi' : Nat) : Int)) ?_ ?_
    · refine ev_is (ev_min2 (ev_ixN (i := 3) (n := hi) (evSq T (ev_var rfl) hs) ev_c hq rfl) (ev_ixN (i := 3) (n := hi') (evSq T (ev_var rfl) hs') ev_c hq' rfl)) (congrArg V.int ?_)
      split <;> omega
    refine sx_ret ?_ k
    refine ev_opLL (xs := nV (between l (max lo lo') (min hi hi'))) (ys := nV (between m (max lo lo') (min hi hi'))) ?_ ?_ fun p1 p2 H1 h1 h2 e => rv_eqN h1 h2
    · refine el_callL3 (x := .int ((max lo lo' : Nat) : Int)) (y := .int ((min hi hi' : Nat) : Int)) (el_from (k := 1) rfl (evSa T (ev_var rfl) hs) ev_c (sq_of ha)) (ev_var rfl) (ev_var rfl) fun p1 H1 h1 e => ?_
      rw [nV_drop] at h1
      exact use_files_between h1 hl
    · refine el_callL3 (x := .int ((max lo lo' : Nat) : Int)) (y := .int ((min hi hi' : Nat) : Int)) (el_from (k := 1) rfl (evSa T (ev_var rfl) hs') ev_c (sq_of ha')) (ev_var rfl) (ev_var rfl) fun p1 H1 h1 e => ?_
      rw [nV_drop] at h1
      exact use_files_between h1 hm
end
end Mine
set_option Elab.async false
set_option linter.all false
set_option maxRecDepth 100000
set_option maxHeartbeats 4000000
namespace Mine
open PySem PySem.Spec PyProof.Rows L2 Evl
open Rp02 (Ask Reply Trace Area askNumbers replyNumbers)

def sp_is_trace_right (K : PySem.W.Frag) (C : Ad) : Sp := fun vs H Q _ => ∃ (p : Addr) (job : Nat) (t : Trace), vs = [.int job, .ref p] ∧ TraceAt C H p t ∧ KTr t ∧ (∀ x ∈ t, shortR x.2) ∧ t.length ≤ 1000 ∧ RetV (.bl (decide (t.length ≤ 12) && Rp02.right job t)) H Q
theorem use_is_trace_right {K : PySem.W.Frag} {C : Ad} {H : Hp} {p : Addr} {job : Nat} {t : Trace} (h1 : TraceAt C H p t) (hk : KTr t) (hs : ∀ x ∈ t, shortR x.2) (hl : t.length ≤ 1000) : SpV (sp_is_trace_right K C) [.int job, .ref p] H (.bl (decide (t.length ≤ 12) && Rp02.right job t)) :=
  spV_of fun H1 e Q E k => ⟨p, job, t, rfl, h1.mono e, hk, hs, hl, k⟩
/-- [g(x) for x in as]: each item's value -/
theorem given_all {α : Type} (l : List α) (g : α → V) : ∀ (n : Nat), n ≤ l.length → Evl.given n (fun _ => true) (fun i => match l[i]? with | some x => g x | none => .non) = (l.take n).map g
  | 0, _ => rfl
  | n + 1, h => by
    have hx := List.getElem?_eq_getElem (l := l) (i := n) (by omega)
    rw [given_yes rfl, given_all l g n (by omega), take_succ_at hx, List.map_append]
    simp only [hx]
    rfl
/-- the same, filtered -/
theorem given_some {α : Type} (l : List α) (f : α → Bool) (g : α → V) : ∀ (n : Nat), n ≤ l.length → Evl.given n (fun i => match l[i]? with | some x => f x | none => false) (fun i => match l[i]? with | some x => g x | none => .non) = ((l.take n).filter f).map g
  | 0, _ => rfl
  | n + 1, h => by
    have hx := List.getElem?_eq_getElem (l := l) (i := n) (by omega)
    have ih := given_some l f g n (by omega)
    rw [take_succ_at hx, List.filter_append, List.map_append]
    cases hf : f (l[n]'(by omega)) with
    | true =>
      rw [given_yes (by simp only [hx]; exact hf), ih]
      simp only [hx, List.filter_cons, hf, if_true, List.filter_nil]
      rfl
    | false =>
      rw [given_no (by simp only [hx]; exact hf), ih]
      simp only [List.filter_cons, hf, List.filter_nil]
      simp
section
variable {K : PySem.W.Frag} {σ : L2.St} {H H' : Hp} {ta tb te : TE} {t u : TT} {x y z v : V} {r : R2} {D : Ends} {tu tw tz : TS}
/-- [g(x) for x in xs], the items of xs told by another list -/
theorem el_mapL {α : Type} {a : Addr} {xs : List V} (l : List α) (g : α → V) {tl : TE} {j : Nat} {vs : List Nat} (h : Ev tl σ H (.ref a)) (hx : SqL K H a xs) (hlen : xs.length = l.length) (hz : xs.length ≤ 40000) (hw : ∀ x, wipe ((wipe σ vs).set j (some x)) vs = wipe σ vs)
    (he : ∀ (i : Nat) (x : V) (y : α) H1, Ex H H1 → xs[i]? = some x → l[i]? = some y → Ev te ((wipe σ vs).set j (some x)) H1 (g y)) : EvL (tLc (iList K tl) (gName j) tYes te vs) σ H (l.map g) := by
  have hg := given_all l g l.length (Nat.le_refl _)
  rw [List.take_length] at hg
  rw [← hg, ← hlen]
  refine el_lcL _ _ h hx hz hw (fun i x H1 e1 hx => et_yes) fun i x H1 e1 hx' _ => ?_
  have hy := List.getElem?_eq_getElem (l := l) (i := i) (by rw [← hlen]; exact lt_at hx')
  simp only [hy]
  exact he i x _ H1 e1 hx' hy
theorem el_mapNL {α : Type} {xs : List V} (l : List α) (g : α → V) {tl : TE} {j : Nat} {vs : List Nat} (h : EvL tl σ H xs) (hlen : xs.length = l.length) (hz : xs.length ≤ 40000) (hw : ∀ x, wipe ((wipe σ vs).set j (some x)) vs = wipe σ vs)
    (he : ∀ (i : Nat) (x : V) (y : α) H1, Ex H H1 → xs[i]? = some x → l[i]? = some y → Ev te ((wipe σ vs).set j (some x)) H1 (g y)) : EvL (tLc (iList K tl) (gName j) tYes te vs) σ H (l.map g) := by
  have hg := given_all l g l.length (Nat.le_refl _)
  rw [List.take_length] at hg
  rw [← hg, ← hlen]
  refine el_lcNL _ _ h hz hw (fun i x H1 e1 hx => et_yes) fun i x H1 e1 hx' _ => ?_
  have hy := List.getElem?_eq_getElem (l := l) (i := i) (by rw [← hlen]; exact lt_at hx')
  simp only [hy]
  exact he i x _ H1 e1 hx' hy
/-- [x for x in xs if f(x)] with the items of xs told by another list -/
theorem el_filL {α : Type} {a : Addr} {xs : List V} (l : List (V × α)) (f : α → Bool) {tl : TE} {j : Nat} {vs : List Nat} (h : Ev tl σ H (.ref a)) (hx : SqL K H a xs) (hm : l.map (·.1) = xs) (hz : xs.length ≤ 40000) (hw : ∀ x, wipe ((wipe σ vs).set j (some x)) vs = wipe σ vs)
    (ht : ∀ (i : Nat) (x : V) (y : α) H1, Ex H H1 → l[i]? = some (x, y) → EvT t ((wipe σ vs).set j (some x)) H1 (f y)) (he : ∀ (x : V) H1, Ev te ((wipe σ vs).set j (some x)) H1 x) : EvL (tLc (iList K tl) (gName j) t te vs) σ H ((l.filter fun p => f p.2).map (·.1)) := by
  have hg := given_some l (fun p => f p.2) (·.1) l.length (Nat.le_refl _)
  rw [List.take_length] at hg
  have hlen : xs.length = l.length := by rw [← hm, List.length_map]
  have item : ∀ {i : Nat} {x : V}, xs[i]? = some x → ∃ y, l[i]? = some (x, y) := fun {i x} hi => by
    rw [← hm, List.getElem?_map, Option.map_eq_some_iff] at hi
    obtain ⟨p, h1, h2⟩ := hi
    exact ⟨p.2, by rw [h1, ← h2]⟩
  rw [← hg, ← hlen]
  refine el_lcL _ _ h hx hz hw (fun i x H1 e1 hx' => ?_) fun i x H1 e1 hx' _ => ?_
  · obtain ⟨y, hy⟩ := item hx'
    simp only [hy]
    exact ht i x y H1 e1 hy
  · obtain ⟨y, hy⟩ := item hx'
    simp only [hy]
    exact he x H1
end
theorem all_id_map {α : Type} (l : List α) (f : α → Bool) : (l.map f).all id = l.all f := by
  rw [List.all_map]
  rfl
section
variable {P : Program} {w : World} {K : PySem.W.Frag} {mg : Str → Option Value} {base : Heap} {C : Ad}
theorem ok_is_step_right {f : Addr} {fd : FuncData} (F : Fun K "is_step_right" "is_step_right" s_is_step_right f fd) (T : Txt K mg C) (G_rises : Has P w K mg base 1 "rises" ["numbers"] (sp_rises K C)) (G_files_between : Has P w K mg base 1 "files_between" ["files", "first", "last"] (sp_files_between K C)) : FnOk P w K mg base CX0 2 f fd ["job", "step"] (sp_is_step_right K C) := by
  refine F.ok sc_is_step_right (fun vs H Q E h => ?_) (fun cdv A outer s H vs Q E hr h => ⟨_, (pss_cons (ps_if (pt_cmpR op_gt (pe_ix (ix_listK (K := K) rfl) (pe_fldK (K := K) rfl (pv 1) rfl) pe_int (fun _ _ => rfl)) (pv 0) (nomark _)) (pss_one (ps_ret pe_bl)) pss_nil) (pss_cons (ps_if (pt_cmpR op_eq (pe_ix (ix_listK (K := K) rfl) (pe_fldK (K := K) rfl (pv 1) rfl) pe_int (fun _ _ => rfl)) (pe_globI rfl T.g_FILE) (nomark _)) (pss_one (ps_ret pe_bl)) pss_nil) (pss_cons (ps_set (i := 2) sc_is_step_right.nd rfl (Or.inl rfl) (pe_ix (ix_listK (K := K) rfl) (pe_fldK (K := K) rfl (pv 1) rfl) pe_int (fun _ _ => rfl))) (pss_cons (ps_set (i := 3) sc_is_step_right.nd rfl (Or.inl rfl) (pe_ix (ix_listK (K := K) rfl) (pe_fldK (K := K) rfl (pv 1) rfl) pe_int (fun _ _ => rfl))) (pss_cons (ps_set (i := 4) sc_is_step_right.nd rfl (Or.inl rfl) (pe_slice (sl_listK (K := K) rfl) (pe_fldK (K := K) rfl (pv 1) rfl) (po_some pe_int) po_none)) (pss_one (ps_ret (pe_and (pe_cmpR op_le (pv 2) (pv 3) (nomark _)) (pe_and (pe_has G_rises hr rfl (by exact (pa_cons (pv 4) pa_nil))) (pe_one (pe_cmpR (op_eqDK (K := K) rfl hr.units) (pe_has G_files_between hr rfl (by exact (pa_cons (pv 4) (pa_cons (pv 2) (pa_cons (pv 3) pa_nil))))) (pv 4) (nomark _)))))))))))), ?_⟩)
  · obtain ⟨a, job, x, rfl, _⟩ := h
    rfl
  · obtain ⟨a, job, ⟨q, r⟩, rfl, ⟨dx, p, p2, hs, hq, ha⟩, hk, hsh, k⟩ := h
    refine Sx.at (sx_when (et_test (ev_op (ev_ixN (i := 1) (evSq T (ev_var rfl) hs) ev_c hq (ask1 q)) (ev_var rfl) rv_I0)) ?_ ?_)
    · intro hb
      have : stepRight job (q, r) = false := by
        have := of_decide_eq_true hb
        rw [stepRight_eq hk]
        rw [decide_eq_false (p := (q, r).1.area ≤ job) (by show ¬ q.area ≤ job; omega), Bool.and_false]
      rw [this] at k
      exact sx_ret ev_c k
    intro hb
    have hj : q.area ≤ job := by
      have := of_decide_eq_false hb
      omega
    refine sx_when (et_test (ev_op (ev_ixN (i := 0) (evSq T (ev_var rfl) hs) ev_c hq (ask0 q)) ev_c (rv_eq rfl))) ?_ ?_
    · intro hb
      cases q with
      | names ar lo hi => exact absurd (of_decide_eq_true hb) (by show ¬ (V.int 1 = V.int 0); decide)
      | file ar n =>
        have : stepRight job (.file ar n, r) = true := decide_eq_true hj
        rw [this] at k
        exact sx_ret ev_c k
    intro hb
    cases q with
    | file ar n => exact absurd rfl (of_decide_eq_false hb)
    | names ar lo hi =>
      cases r with
      | absent => cases hk
      | holds c => cases hk
      | those l =>
        refine sx_asg (v := .int (lo : Int)) (ev_ixN (i := 2) (n := lo) (evSq T (ev_var rfl) hs) ev_c hq rfl) (sx_asg (v := .int (hi : Int)) (ev_ixN (i := 3) (n := hi) (evSq T (ev_var rfl) hs) ev_c hq rfl) ?_)
        refine sx_asgL (xs := nV l) (el_from (k := 1) rfl (evSa T (ev_var rfl) hs) ev_c (sq_of ha)) fun pf H1 _ e1 hf => ?_
        have kk : RetV (.bl (decide ((lo : Int) ≤ (hi : Int)) && (Rp02.rising l && decide (between l lo hi = l)))) H1 Q := by
          have : stepRight job (.names ar lo hi, .those l) = (decide ((lo : Int) ≤ (hi : Int)) && (Rp02.rising l && decide (between l lo hi = l))) := by
            show (decide (ar ≤ job) && (decide (lo ≤ hi) && _)) = _
            rw [decide_eq_true (p := ar ≤ job) hj, Bool.true_and]
            simp only [Int.ofNat_le]
          rw [← this]
          exact fun H2 e2 => k H2 (e1.trans e2)
        refine sx_ret (ev_andV (ev_op (ev_var rfl) (ev_var rfl) rv_I0) fun _ => ev_andV (ev_call (ea_cons (ev_var rfl) ea_nil) (use_rises hf hsh)) fun _ => ?_) kk
        exact ev_opL1 (el_call (ea_cons (ev_var rfl) (ea_cons (ev_var rfl) (ea_cons (ev_var rfl) ea_nil))) (use_files_between hf hsh)) (fun H2 e2 => ev_var rfl) fun p1 H2 h1 e2 => rv_eqN h1 (e2 _ _ hf)
theorem ok_can_be_together {f : Addr} {fd : FuncData} (F : Fun K "can_be_together" "can_be_together" s_can_be_together f fd) (T : Txt K mg C) (G_fits_listing : Has P w K mg base 1 "fits_listing" ["step", "listing"] (sp_fits_listing K C)) (G_listings_agree : Has P w K mg base 2 "listings_agree" ["one", "other"] (sp_listings_agree K C)) : FnOk P w K mg base CX0 3 f fd ["one", "other"] (sp_can_be_together K C) := by
  refine F.ok sc_can_be_together (fun vs H Q E h => ?_) (fun cdv A outer s H vs Q E hr h => ⟨_, (pss_cons (ps_if (pt_cmpR (op_eqDK (K := K) rfl hr.units) (pe_fldK (K := K) rfl (pv 0) rfl) (pe_fldK (K := K) rfl (pv 1) rfl) (nomark _)) (pss_one (ps_ret pe_bl)) pss_nil) (pss_cons (ps_if (pt_cmpR op_ne (pe_ix (ix_listK (K := K) rfl) (pe_fldK (K := K) rfl (pv 0) rfl) pe_int (fun _ _ => rfl)) (pe_ix (ix_listK (K := K) rfl) (pe_fldK (K := K) rfl (pv 1) rfl) pe_int (fun _ _ => rfl)) (nomark _)) (pss_one (ps_ret pe_bl)) pss_nil) (pss_cons (ps_if (PW.pt (pw_and (pt_cmpR op_eq (pe_ix (ix_listK (K := K) rfl) (pe_fldK (K := K) rfl (pv 0) rfl) pe_int (fun _ _ => rfl)) (pe_globI rfl T.g_FILE) (nomark _)) (pw_and1 (pt_cmpR op_eq (pe_ix (ix_listK (K := K) rfl) (pe_fldK (K := K) rfl (pv 1) rfl) pe_int (fun _ _ => rfl)) (pe_globI rfl T.g_FILE) (nomark _))))) (pss_one (ps_ret pe_bl)) pss_nil) (pss_cons (ps_if (pt_cmpR op_eq (pe_ix (ix_listK (K := K) rfl) (pe_fldK (K := K) rfl (pv 0) rfl) pe_int (fun _ _ => rfl)) (pe_globI rfl T.g_FILE) (nomark _)) (pss_one (ps_ret (pe_has G_fits_listing (hr.mono (by decide)) rfl (by exact (pa_cons (pv 0) (pa_cons (pv 1) pa_nil)))))) pss_nil) (pss_cons (ps_if (pt_cmpR op_eq (pe_ix (ix_listK (K := K) rfl) (pe_fldK (K := K) rfl (pv 1) rfl) pe_int (fun _ _ => rfl)) (pe_globI rfl T.g_FILE) (nomark _)) (pss_one (ps_ret (pe_has G_fits_listing (hr.mono (by decide)) rfl (by exact (pa_cons (pv 1) (pa_cons (pv 0) pa_nil)))))) pss_nil) (pss_one (ps_ret (pe_has G_listings_agree hr rfl (by exact (pa_cons (pv 0) (pa_cons (pv 1) pa_nil))))))))))), ?_⟩)
  · obtain ⟨a, b, x, y, rfl, _⟩ := h
    rfl
  · obtain ⟨a, b, ⟨q, r⟩, ⟨q', r'⟩, rfl, st, st', hk, hk', hsh, hsh', k⟩ := h
    have stq := st
    have stq' := st'
    obtain ⟨dx, p, p2, hs, hq, ha⟩ := st
    obtain ⟨dx', p', p2', hs', hq', ha'⟩ := st'
    refine Sx.at (sx_when (et_test (ev_op (evSq T (ev_var rfl) hs) (evSq T (ev_var rfl) hs') (rv_eqN hq hq'))) ?_ ?_)
    · intro hb
      have e : q = q' := askNumbers_inj (of_decide_eq_true hb)
      have : together (q, r) (q', r') = false := by
        unfold together
        rw [if_pos e]
      rw [this] at k
      exact sx_ret ev_c k
    intro hb
    have hne : ¬ q = q' := fun e => of_decide_eq_false hb (by rw [e])
    refine sx_when (et_test (ev_op (ev_ixN (i := 1) (evSq T (ev_var rfl) hs) ev_c hq (ask1 q)) (ev_ixN (i := 1) (evSq T (ev_var rfl) hs') ev_c hq' (ask1 q')) (rv_ne rfl))) ?_ ?_
    · intro hb
      have : together (q, r) (q', r') = true := by
        unfold together
        rw [if_neg hne, if_pos]
        intro e
        have e : q.area = q'.area := e
        rw [e] at hb
        simp at hb
      rw [this] at k
      exact sx_ret ev_c k
    intro hb
    have har : q.area = q'.area := by
      simp at hb
      omega
    have ht : ∀ z, (match ((q, r) : Ask × Reply), ((q', r') : Ask × Reply) with
        | (.file _ _, _), (.file _ _, _) => true
        | (.file _ n, r), (.names _ lo hi, .those l) => fits n (isThere r) lo hi l
        | (.names _ lo hi, .those l), (.file _ n, r) => fits n (isThere r) lo hi l
        | (.names _ lo hi, .those l), (.names _ lo' hi', .those m) => agree lo hi l lo' hi' m
        | _, _ => true) = z → together (q, r) (q', r') = z := fun z hz => by
      unfold together
      rw [if_neg hne, if_neg (fun h => h har)]
      exact hz
    have t0 : ∀ {σ : L2.St} {H1 : Hp} {ta : TE} {qq : Ask} {pp : Addr}, Ev ta σ H1 (.ref pp) → H1 pp = some (.lst (nV (askNumbers qq))) → EvT (tTest (tOp rEq (tOp (rIxL K) ta (tC (.int 0))) (tC (.int 0)))) σ H1 (decide (sort qq = 0)) := fun {σ H1 ta qq pp} h1 h2 => by
      refine et_is (et_test (ev_op (ev_ixN (i := 0) h1 ev_c h2 (ask0 qq)) ev_c (rv_eq rfl))) ?_
      cases qq <;> rfl
    refine sx_when (et_and (t0 (evSq T (ev_var rfl) hs) hq) fun _ => t0 (evSq T (ev_var rfl) hs') hq') ?_ ?_
    · intro hb
      cases q <;> cases q' <;> simp [sort] at hb
      rw [ht true rfl] at k
      exact sx_ret ev_c k
    intro hb
    refine sx_when (t0 (evSq T (ev_var rfl) hs) hq) ?_ ?_
    · intro hb1
      cases q with
      | names ar lo hi => simp [sort] at hb1
      | file ar n =>
        cases q' with
        | file _ _ => simp [sort] at hb
        | names br lo hi =>
          cases r' with
          | absent => cases hk'
          | holds c => cases hk'
          | those l =>
            rw [ht _ rfl] at k
            exact sx_ret (ev_call (ea_cons (ev_var rfl) (ea_cons (ev_var rfl) ea_nil)) (use_fits_listing stq stq' hk)) k
    intro hb1
    refine sx_when (t0 (evSq T (ev_var rfl) hs') hq') ?_ ?_
    · intro hb2
      cases q' with
      | names br lo hi => simp [sort] at hb2
      | file br n =>
        cases q with
        | file _ _ => simp [sort] at hb1
        | names ar lo hi =>
          cases r with
          | absent => cases hk
          | holds c => cases hk
          | those l =>
            rw [ht _ rfl] at k
            exact sx_ret (ev_call (ea_cons (ev_var rfl) (ea_cons (ev_var rfl) ea_nil)) (use_fits_listing stq' stq hk')) k
    intro hb2
    cases q with
    | file _ _ => simp [sort] at hb1
    | names ar lo hi =>
      cases q' with
      | file _ _ => simp [sort] at hb2
      | names br lo' hi' =>
        cases r with
        | absent => cases hk
        | holds c => cases hk
        | those l =>
          cases r' with
          | absent => cases hk'
          | holds c => cases hk'
          | those m =>
            rw [ht _ rfl] at k
            exact sx_ret (ev_call (ea_cons (ev_var rfl) (ea_cons (ev_var rfl) ea_nil)) (use_listings_agree stq stq' hsh hsh')) k
end
end Mine
set_option Elab.async false
set_option linter.all false
set_option maxRecDepth 100000
set_option maxHeartbeats 4000000
namespace Mine
open PySem PySem.Spec PyProof.Rows L2 Evl
open Rp02 (Ask Reply Trace Area askNumbers replyNumbers)
section
variable {K : PySem.W.Frag} {σ : L2.St} {H H' : Hp} {ta tb te : TE} {t u : TT} {x y z v : V} {r : R2} {D : Ends} {tu tw tz : TS}
theorem ev_allMap {α : Type} {l : List α} {f : α → Bool} (h : EvL ta σ H (l.map fun x => .bl (f x))) : Ev (tCB (rAll K) (tCons ta tNil)) σ H (.bl (l.all f)) := by
  rw [← all_id_map]
  refine ev_allL ?_
  rw [List.map_map]
  exact h
theorem ev_lenN' {p : Addr} {xs : List V} {n : Nat} (ha : Ev ta σ H (.ref p)) (h : SqL K H p xs) (hn : xs.length = n) : Ev (tCB (rLenS K) (tCons ta tNil)) σ H (.int (n : Int)) := by
  rw [← hn]
  exact ev_len ha h
end
theorem refs_get {as : List Addr} {i : Nat} {x : V} (h : (as.map V.ref)[i]? = some x) : ∃ a, as[i]? = some a ∧ x = .ref a := by
  rw [List.getElem?_map, Option.map_eq_some_iff] at h
  obtain ⟨a, h1, h2⟩ := h
  exact ⟨a, h1, h2.symm⟩
theorem refs_at {as : List Addr} {i : Nat} {a : Addr} (h : as[i]? = some a) : (as.map V.ref)[i]? = some (.ref a) := by
  rw [List.getElem?_map, h]
  rfl
theorem pairwise_snoc {α : Type} {R : α → α → Prop} {l : List α} {i : Nat} {x : α} (hx : l[i]? = some x) (h : (l.take i).Pairwise R) (ha : ∀ y ∈ l.take i, R y x) : (l.take (i + 1)).Pairwise R := by
  rw [take_succ_at hx, List.pairwise_append]
  refine ⟨h, by simp, fun a h1 b hb => ?_⟩
  rw [List.mem_singleton.mp hb]
  exact ha a h1
theorem pairwise_before {α : Type} {R : α → α → Prop} {l : List α} {i : Nat} {x : α} (hx : l[i]? = some x) (h : l.Pairwise R) : ∀ y ∈ l.take i, R y x := by
  intro y hy
  have : (l.take (i + 1)).Pairwise R := List.Pairwise.sublist (List.take_sublist _ _) h
  rw [take_succ_at hx, List.pairwise_append] at this
  exact this.2.2 y hy x (List.mem_singleton.mpr rfl)
section
variable {P : Program} {w : World} {K : PySem.W.Frag} {mg : Str → Option Value} {base : Heap} {C : Ad}
theorem ok_is_trace_right {f : Addr} {fd : FuncData} (F : Fun K "is_trace_right" "is_trace_right" s_is_trace_right f fd) (T : Txt K mg C) (G_is_step_right : Has P w K mg base 2 "is_step_right" ["job", "step"] (sp_is_step_right K C)) (G_can_be_together : Has P w K mg base 3 "can_be_together" ["one", "other"] (sp_can_be_together K C)) : FnOk P w K mg base CX0 4 f fd ["job", "trace"] (sp_is_trace_right K C) := by
  refine F.ok sc_is_trace_right (fun vs H Q E h => ?_) (fun cdv A outer s H vs Q E hr h => ⟨_, (pss_cons (ps_if (pt_cmpR op_gt (pe_callB (call_len_seqK (K := K) rfl) (by rfl) T.b_len (by decide +kernel) (pa_cons (pv 1) pa_nil)) (pe_globI rfl T.g_MOST_QUESTIONS) (nomark _)) (pss_one (ps_ret pe_bl)) pss_nil) (pss_cons (ps_if (pt_not (pt_val (pe_callB (cr_allK (K := K) rfl rfl) (by rfl) T.b_all (by decide +kernel) (pa_cons (pe_lc (own := [("step", 3)]) (g := gName 3) (tt := tYes) rfl sc_is_trace_right.nd (pi_listK (K := K) rfl (pv 1)) (blkOk_by (own := [("step", 3)]) (N := ["job", "trace", "place", "step"]) (sc := defScope s_is_trace_right) (by decide +kernel)) (fun _ _ _ _ _ => pg_name (i := 3) sc_is_trace_right.nd rfl (Or.inl rfl)) (fun _ _ _ _ _ => pts_nil) (fun _ _ _ _ _ => (pe_has G_is_step_right (hr.mono (by decide)) rfl (by exact (pa_cons (pv 0) (pa_cons (pv 3) pa_nil)))))) pa_nil)))) (pss_one (ps_ret pe_bl)) pss_nil) (pss_cons (ps_for PassesOwn.never rfl (pi_range1 rfl T.b_range (pa_cons (pe_callB (call_len_seqK (K := K) rfl) (by rfl) T.b_len (by decide +kernel) (pa_cons (pv 1) pa_nil)) pa_nil)) (pg_name (i := 2) sc_is_trace_right.nd rfl (Or.inr rfl)) (pss_one (ps_if (pt_not (pt_val (pe_callB (cr_allK (K := K) rfl rfl) (by rfl) T.b_all (by decide +kernel) (pa_cons (pe_lc (own := [("step", 3)]) (g := gName 3) (tt := tYes) rfl sc_is_trace_right.nd (pi_listK (K := K) rfl (pe_slice (sl_listK (K := K) rfl) (pv 1) po_none (po_some (pv 2)))) (blkOk_by (own := [("step", 3)]) (N := ["job", "trace", "place", "step"]) (sc := defScope s_is_trace_right) (by decide +kernel)) (fun _ _ _ _ _ => pg_name (i := 3) sc_is_trace_right.nd rfl (Or.inl rfl)) (fun _ _ _ _ _ => pts_nil) (fun _ _ _ _ _ => (pe_has G_can_be_together hr rfl (by exact (pa_cons (pv 3) (pa_cons (pe_ix (ix_listK (K := K) rfl) (pv 1) (pv 2) (fun _ _ => rfl)) pa_nil)))))) pa_nil)))) (pss_one (ps_ret pe_bl)) pss_nil))) (pss_one (ps_ret pe_bl))))), ?_⟩)
  · obtain ⟨p, job, t, rfl, _⟩ := h
    rfl
  · obtain ⟨p, job, t, rfl, ⟨as, hp, hA⟩, hk, hsh, hl, k⟩ := h
    have hlen : (as.map V.ref).length = t.length := by rw [List.length_map, paired_len hA]
    refine Sx.at (sx_when (et_test (ev_op (ev_lenN' (ev_var rfl) (sq_of hp) hlen) ev_c rv_I0)) ?_ ?_)
    · intro hb
      rw [decide_eq_false (p := t.length ≤ 12) (by have := of_decide_eq_true hb; omega)] at k
      exact sx_ret ev_c k
    intro hb
    rw [decide_eq_true (p := t.length ≤ 12) (by have := of_decide_eq_false hb; omega), Bool.true_and] at k
    refine sx_when (et_not (et_B (ev_allMap (l := t) (f := stepRight job) ?_))) ?_ ?_
    · refine el_mapL t (fun x => .bl (stepRight job x)) (ev_var rfl) (sq_of hp) hlen (by rw [hlen]; omega) (fun x => rfl) fun i x y H1 e1 hx hy => ?_
      obtain ⟨a, ha, rfl⟩ := refs_get hx
      obtain ⟨y', hy', st⟩ := paired_get hA ha
      rw [hy] at hy'
      cases hy'
      exact ev_call (ea_cons (ev_var rfl) (ea_cons (ev_var rfl) ea_nil)) (use_is_step_right (st.mono e1) (hk y (List.mem_of_getElem? hy)) (hsh y (List.mem_of_getElem? hy)))
    · intro hb
      have hb : t.all (stepRight job) = false := by simpa using hb
      have : Rp02.right job t = false := by
        cases e : Rp02.right job t with
        | false => rfl
        | true =>
          have := ((right_iff hk).mp e).1
          rw [← List.all_eq_true, hb] at this
          cases this
      rw [this] at k
      exact sx_ret ev_c k
    intro hb
    have hall : t.all (stepRight job) = true := by simpa using hb
    have hst := List.all_eq_true.mp hall
    intro H0 e0
    refine q_forR1 (n := (t.length : Int)) (ea_cons (ev_lenN' (ev_var rfl) (sq_of (e0 _ _ hp)) hlen) ea_nil) (by omega) (fun i σ' H' => Ex H H' ∧ (∃ v w, σ' = [some (.int job), some (.ref p), v, w]) ∧ (t.take i).Pairwise fun x y => together x y = true) ?_ ?_ ?_
    · exact fun H1 e1 => ⟨e0.trans e1, ⟨_, _, rfl⟩, by simp⟩
    · rintro i σ' H' hi ⟨e, ⟨v, u, rfl⟩, hpw⟩
      have hx := List.getElem?_eq_getElem (l := t) (i := i) (by omega)
      obtain ⟨a, ha, sta⟩ := paired_get' hA hx
      refine s_when (et_not (et_B (ev_allMap (l := t.take i) (f := fun x => together x (t[i]'(by omega))) ?_))) ?_ ?_
      · refine el_mapNL (t.take i) (fun x => .bl (together x (t[i]'(by omega)))) (el_to (k := i) rfl (ev_var rfl) (ev_var rfl) (sq_of (e _ _ hp))) (by rw [List.length_take, List.length_take, hlen]) (by rw [List.length_take]; omega) (fun x => rfl) fun j x y H1 e1 hx' hy => ?_
        obtain ⟨b, hb, rfl⟩ := refs_get (i := j) (as := as.take i) (by rw [List.map_take]; exact hx')
        have hjl : j < i := by
          have := lt_at hy
          rw [List.length_take] at this
          omega
        have hb' : as[j]? = some b := by
          rw [List.getElem?_take_of_lt hjl] at hb
          exact hb
        have hy' : t[j]? = some y := by
          rw [List.getElem?_take_of_lt hjl] at hy
          exact hy
        obtain ⟨y2, hy2, stb⟩ := paired_get hA hb'
        rw [hy'] at hy2
        cases hy2
        exact ev_call (ea_cons (ev_var rfl) (ea_cons (ev_op (ev_var rfl) (ev_var rfl) (rv_ixL (sq_of (e1 _ _ (e _ _ hp))) (atI_nat (refs_at ha)))) ea_nil)) (use_can_be_together (stb.mono (e.trans e1)) (sta.mono (e.trans e1)) (hk _ (List.mem_of_getElem? hy')) (hk _ (List.mem_of_getElem? hx)) (hsh _ (List.mem_of_getElem? hy')) (hsh _ (List.mem_of_getElem? hx)))
      · intro hb H1 e1
        have hb : ((t.take i).all fun x => together x (t[i]'(by omega))) = false := by simpa using hb
        have : Rp02.right job t = false := by
          cases q : Rp02.right job t with
          | false => rfl
          | true =>
            have h2 := ((right_iff hk).mp q).2
            have : ((t.take i).all fun x => together x (t[i]'(by omega))) = true := by
              rw [List.all_eq_true]
              exact pairwise_before hx h2
            rw [hb] at this
            cases this
        rw [this] at k
        exact s_ret ev_c fun H2 e2 => k H2 ((e.trans e1).trans e2)
      · intro hb H1 e1
        have hb : ((t.take i).all fun x => together x (t[i]'(by omega))) = true := by simpa using hb
        exact ⟨e.trans e1, ⟨_, _, rfl⟩, pairwise_snoc hx hpw (List.all_eq_true.mp hb)⟩
    · rintro σ' H' ⟨e, _, hpw⟩
      have : Rp02.right job t = true := by
        refine (right_iff hk).mpr ⟨hst, ?_⟩
        have : ((t.length : Int)).toNat = t.length := by omega
        rw [this, List.take_length] at hpw
        exact hpw
      rw [this] at k
      exact s_ret ev_c fun H2 e2 => k H2 (e.trans e2)
end
end Mine
set_option Elab.async false
set_option linter.all false
set_option maxRecDepth 100000
set_option maxHeartbeats 4000000
namespace Mine
open PySem PySem.Spec PyProof.Rows L2 Evl
open Rp02 (Ask Reply Trace Area askNumbers replyNumbers)

def optV : Option Nat → V
  | some k => .int (k : Int)
  | none => .non
/-- two runs as they are compared -/
def TwoRuns (C : Ad) (H : Hp) (a b : Addr) (e f : Rp02.Entry) : Prop := RunAt C H a (rawOf e) ∧ RunAt C H b (rawOf f) ∧ KTr e.trace ∧ KTr f.trace ∧ e.trace.length ≤ 1000 ∧ f.trace.length ≤ 1000
theorem TwoRuns.mono {C : Ad} {H H' : Hp} {a b : Addr} {e f : Rp02.Entry} (x : Ex H H') (h : TwoRuns C H a b e f) : TwoRuns C H' a b e f := ⟨h.1.mono x, h.2.1.mono x, h.2.2⟩
def sp_contradiction (K : PySem.W.Frag) (C : Ad) : Sp := fun vs H Q _ => ∃ (a b : Addr) (e f : Rp02.Entry), vs = [.ref a, .ref b] ∧ TwoRuns C H a b e f ∧ RetV (optV (e.clash f)) H Q
def sp_are_same (K : PySem.W.Frag) (C : Ad) : Sp := fun vs H Q _ => ∃ (a b : Addr) (e f : Rp02.Entry), vs = [.ref a, .ref b] ∧ TwoRuns C H a b e f ∧ RetV (.bl (e.same f)) H Q
theorem use_contradiction {K : PySem.W.Frag} {C : Ad} {H : Hp} {a b : Addr} {e f : Rp02.Entry} (h : TwoRuns C H a b e f) : SpV (sp_contradiction K C) [.ref a, .ref b] H (optV (e.clash f)) := spV_of fun H1 x Q E k => ⟨a, b, e, f, rfl, h.mono x, k⟩
theorem use_are_same {K : PySem.W.Frag} {C : Ad} {H : Hp} {a b : Addr} {e f : Rp02.Entry} (h : TwoRuns C H a b e f) : SpV (sp_are_same K C) [.ref a, .ref b] H (.bl (e.same f)) := spV_of fun H1 x Q E k => ⟨a, b, e, f, rfl, h.mono x, k⟩
theorem unpairs_inj : ∀ {a b : Area}, Rp02.unpairs a = Rp02.unpairs b → a = b
  | [], [], _ => rfl
  | [], _ :: _, h => by simp [Rp02.unpairs] at h
  | _ :: _, [], h => by simp [Rp02.unpairs] at h
  | (n, c) :: a, (m, d) :: b, h => by
    simp only [Rp02.unpairs, List.flatMap_cons, List.cons_append, List.nil_append, List.cons.injEq] at h
    obtain ⟨h1, h2, h3⟩ := h
    rw [h1, h2, unpairs_inj (a := a) (b := b) h3]
theorem ne_int {a b : Nat} (h : (!decide (V.int (a : Int) = V.int (b : Int))) = true) : a ≠ b := by
  rintro rfl
  simp at h
theorem eq_int {a b : Nat} (h : (!decide (V.int (a : Int) = V.int (b : Int))) = false) : a = b := by
  simp at h
  omega
theorem take_ext {α : Type} {l m : List α} {i : Nat} {x : α} (hx : l[i]? = some x) (hy : m[i]? = some x) (h : l.take i = m.take i) : l.take (i + 1) = m.take (i + 1) := by
  rw [take_succ_at hx, take_succ_at hy, h]
section
variable {P : Program} {w : World} {K : PySem.W.Frag} {mg : Str → Option Value} {base : Heap} {C : Ad}
theorem ok_contradiction {f : Addr} {fd : FuncData} (F : Fun K "contradiction" "contradiction" s_contradiction f fd) (T : Txt K mg C)  : FnOk P w K mg base CX0 1 f fd ["one", "other"] (sp_contradiction K C) := by
  refine F.ok sc_contradiction (fun vs H Q E h => ?_) (fun cdv A outer s H vs Q E hr h => ⟨_, (pss_cons (ps_if (pt_cmpR op_ne (pe_fldK (K := K) rfl (pv 0) rfl) (pe_fldK (K := K) rfl (pv 1) rfl) (nomark _)) (pss_one (ps_ret pe_non)) pss_nil) (pss_cons (ps_set (i := 2) sc_contradiction.nd rfl (Or.inl rfl) (pe_callB (call_min2 rfl) (by rfl) T.b_min (by decide +kernel) (pa_cons (pe_callB (call_len_seqK (K := K) rfl) (by rfl) T.b_len (by decide +kernel) (pa_cons (pe_fldK (K := K) rfl (pv 0) rfl) pa_nil)) (pa_cons (pe_callB (call_len_seqK (K := K) rfl) (by rfl) T.b_len (by decide +kernel) (pa_cons (pe_fldK (K := K) rfl (pv 1) rfl) pa_nil)) pa_nil)))) (pss_cons (ps_for PassesOwn.never rfl (pi_range1 rfl T.b_range (pa_cons (pv 2) pa_nil)) (pg_name (i := 3) sc_contradiction.nd rfl (Or.inl rfl)) (pss_cons (ps_if (pt_cmpR (op_neDK (K := K) rfl hr.units) (pe_fldK (K := K) rfl (pe_ix (ix_listK (K := K) rfl) (pe_fldK (K := K) rfl (pv 0) rfl) (pv 3) (fun _ _ => rfl)) rfl) (pe_fldK (K := K) rfl (pe_ix (ix_listK (K := K) rfl) (pe_fldK (K := K) rfl (pv 1) rfl) (pv 3) (fun _ _ => rfl)) rfl) (nomark _)) (pss_one (ps_ret (pv 3))) pss_nil) (pss_one (ps_if (pt_cmpR (op_neDK (K := K) rfl hr.units) (pe_fldK (K := K) rfl (pe_ix (ix_listK (K := K) rfl) (pe_fldK (K := K) rfl (pv 0) rfl) (pv 3) (fun _ _ => rfl)) rfl) (pe_fldK (K := K) rfl (pe_ix (ix_listK (K := K) rfl) (pe_fldK (K := K) rfl (pv 1) rfl) (pv 3) (fun _ _ => rfl)) rfl) (nomark _)) (pss_one (ps_ret pe_non)) pss_nil)))) (pss_cons (ps_if (pt_cmpR op_ne (pe_callB (call_len_seqK (K := K) rfl) (by rfl) T.b_len (by decide +kernel) (pa_cons (pe_fldK (K := K) rfl (pv 0) rfl) pa_nil)) (pe_callB (call_len_seqK (K := K) rfl) (by rfl) T.b_len (by decide +kernel) (pa_cons (pe_fldK (K := K) rfl (pv 1) rfl) pa_nil)) (nomark _)) (pss_one (ps_ret (pv 2))) pss_nil) (pss_cons (ps_if (PW.pt (pw_or (pt_cmpR op_ne (pe_fldK (K := K) rfl (pv 0) rfl) (pe_fldK (K := K) rfl (pv 1) rfl) (nomark _)) (pw_or1 (pt_cmpR (op_neDK (K := K) rfl hr.units) (pe_fldK (K := K) rfl (pv 0) rfl) (pe_fldK (K := K) rfl (pv 1) rfl) (nomark _))))) (pss_one (ps_ret (pv 2))) pss_nil) (pss_one (ps_ret pe_non))))))), ?_⟩)
  · obtain ⟨a, b, e, f, rfl, _⟩ := h
    rfl
  · obtain ⟨a, b, e, f, rfl, ⟨⟨dx, m, t, hR, hm, as, ht, hA⟩, ⟨dx', m', t', hR', hm', as', ht', hA'⟩, hk, hk', hl, hl'⟩, k⟩ := h
    have hlen : (as.map V.ref).length = e.trace.length := by rw [List.length_map, paired_len hA]; rfl
    have hlen' : (as'.map V.ref).length = f.trace.length := by rw [List.length_map, paired_len hA']; rfl
    refine Sx.at (sx_when (et_test (ev_op (evRj T (ev_var rfl) hR) (evRj T (ev_var rfl) hR') (rv_ne rfl))) ?_ ?_)
    · intro hb
      rw [clash_job (ne_int hb)] at k
      exact sx_ret ev_c k
    intro hb
    have hj : e.job = f.job := eq_int hb
    refine sx_asg (v := .int ((min e.trace.length f.trace.length : Nat) : Int)) ?_ ?_
    · refine ev_is (ev_min2 (ev_lenN' (evRt T (ev_var rfl) hR) (sq_of ht) hlen) (ev_lenN' (evRt T (ev_var rfl) hR') (sq_of ht') hlen')) (congrArg V.int ?_)
      split <;> omega
    intro H0 e0
    refine q_forR1 (n := ((min e.trace.length f.trace.length : Nat) : Int)) (ea_cons (ev_var rfl) ea_nil) (by omega) (fun i σ' H' => Ex H H' ∧ (∃ v, σ' = [some (.ref a), some (.ref b), some (.int ((min e.trace.length f.trace.length : Nat) : Int)), v]) ∧ e.trace.take i = f.trace.take i) ?_ ?_ ?_
    · exact fun H1 e1 => ⟨e0.trans e1, ⟨_, rfl⟩, by simp⟩
    · rintro i σ' H' hi ⟨x, ⟨v, rfl⟩, htk⟩
      have hx := List.getElem?_eq_getElem (l := e.trace) (i := i) (by omega)
      have hy := List.getElem?_eq_getElem (l := f.trace) (i := i) (by omega)
      generalize (e.trace[i]'(by omega)) = ex at hx
      generalize (f.trace[i]'(by omega)) = ey at hy
      obtain ⟨c, hc, ⟨d1, p1, q1, hs, hq, ha⟩⟩ := paired_get' hA hx
      obtain ⟨c', hc', ⟨d1', p1', q1', hs', hq', ha'⟩⟩ := paired_get' hA' hy
      have evc : ∀ {H1 : Hp}, Ex H H1 → ∀ v, Ev (tOp (rIxL K) (tFld K (tVar 0) "trace") (tVar 3)) [some (.ref a), some (.ref b), v, some (.int (i : Int))] H1 (.ref c) := fun {H1} y v => ev_op (evRt T (ev_var rfl) (y _ _ hR)) (ev_var rfl) (rv_ixL (sq_of (y _ _ ht)) (atI_nat (refs_at hc)))
      have evc' : ∀ {H1 : Hp}, Ex H H1 → ∀ v, Ev (tOp (rIxL K) (tFld K (tVar 1) "trace") (tVar 3)) [some (.ref a), some (.ref b), v, some (.int (i : Int))] H1 (.ref c') := fun {H1} y v => ev_op (evRt T (ev_var rfl) (y _ _ hR')) (ev_var rfl) (rv_ixL (sq_of (y _ _ ht')) (atI_nat (refs_at hc')))
      refine q_when (et_test (ev_op (evSq T (evc x _) (x _ _ hs)) (evSq T (evc' x _) (x _ _ hs')) (rv_neN (x _ _ hq) (x _ _ hq')))) ?_ ?_
      · intro hb H1 e1
        have hne : ex.1 ≠ ey.1 := fun z => by rw [z] at hb; simp at hb
        rw [clash_ask hj htk hx hy hne] at k
        exact s_ret (ev_var rfl) fun H2 e2 => k H2 ((x.trans e1).trans e2)
      · intro hb H1 e1
        have heq : ex.1 = ey.1 := askNumbers_inj (by simpa using hb)
        have x1 := x.trans e1
        refine s_when (et_test (ev_op (evSa T (evc x1 _) (x1 _ _ hs)) (evSa T (evc' x1 _) (x1 _ _ hs')) (rv_neN (x1 _ _ ha) (x1 _ _ ha')))) ?_ ?_
        · intro hb H2 e2
          have hne : ex.2 ≠ ey.2 := fun z => by rw [z] at hb; simp at hb
          rw [clash_reply hj htk hx hy heq hne] at k
          exact s_ret ev_c fun H3 e3 => k H3 ((x1.trans e2).trans e3)
        · intro hb H2 e2
          have he2 : ex.2 = ey.2 := by
            have k1 := hk ex (List.mem_of_getElem? hx)
            have k2 := hk' ey (List.mem_of_getElem? hy)
            refine replyNumbers_inj (q := ex.1) k1 ?_ (by simpa using hb)
            rw [heq]
            exact k2
          have : ex = ey := Prod.ext heq he2
          subst this
          exact ⟨x1.trans e2, ⟨_, rfl⟩, take_ext hx hy htk⟩
    · rintro σ' H' ⟨x, ⟨v, rfl⟩, htk⟩
      have htk : e.trace.take (min e.trace.length f.trace.length) = f.trace.take (min e.trace.length f.trace.length) := by
        have q : (((min e.trace.length f.trace.length : Nat) : Int)).toNat = min e.trace.length f.trace.length := by omega
        rw [q] at htk
        exact htk
      refine q_when (et_test (ev_op (ev_lenN' (evRt T (ev_var rfl) (x _ _ hR)) (sq_of (x _ _ ht)) hlen) (ev_lenN' (evRt T (ev_var rfl) (x _ _ hR')) (sq_of (x _ _ ht')) hlen') (rv_ne rfl))) ?_ ?_
      · intro hb H1 e1
        rw [clash_short hj htk (ne_int hb)] at k
        exact s_ret (ev_var rfl) fun H2 e2 => k H2 ((x.trans e1).trans e2)
      · intro hb H1 e1
        have hll := eq_int hb
        have htr := trace_eq htk hll
        have x1 := x.trans e1
        refine q_when (et_or (et_test (ev_op (evRe T (ev_var rfl) (x1 _ _ hR)) (evRe T (ev_var rfl) (x1 _ _ hR')) (rv_ne rfl))) fun _ => et_test (ev_op (evRd T (ev_var rfl) (x1 _ _ hR)) (evRd T (ev_var rfl) (x1 _ _ hR')) (rv_neN (x1 _ _ hm) (x1 _ _ hm')))) ?_ ?_
        · intro hb H2 e2
          have hne : ¬ (e.ended = f.ended ∧ e.made = f.made) := by
            rintro ⟨z1, z2⟩
            have w1 : (rawOf e).ended = (rawOf f).ended := z1
            have w2 : (rawOf e).made = (rawOf f).made := congrArg Rp02.unpairs z2
            rw [w1, w2] at hb
            simp at hb
          rw [clash_end hj htr hne] at k
          have q : min e.trace.length f.trace.length = e.trace.length := by omega
          rw [q]
          exact s_ret (ev_var rfl) fun H3 e3 => k H3 ((x1.trans e2).trans e3)
        · intro hb H2 e2
          rw [Bool.or_eq_false_iff] at hb
          have w1 : e.ended = f.ended := eq_int hb.1
          have w2 : e.made = f.made := unpairs_inj (by have z := hb.2; simp at z; exact z)
          rw [clash_same (same_iff.mpr ⟨hj, w1, w2, htr⟩)] at k
          exact s_ret ev_c fun H3 e3 => k H3 ((x1.trans e2).trans e3)
theorem ok_are_same {f : Addr} {fd : FuncData} (F : Fun K "are_same" "are_same" s_are_same f fd) (T : Txt K mg C)  : FnOk P w K mg base CX0 1 f fd ["one", "other"] (sp_are_same K C) := by
  refine F.ok sc_are_same (fun vs H Q E h => ?_) (fun cdv A outer s H vs Q E hr h => ⟨_, (pss_cons (ps_if (PW.pt (pw_or (pt_cmpR op_ne (pe_fldK (K := K) rfl (pv 0) rfl) (pe_fldK (K := K) rfl (pv 1) rfl) (nomark _)) (pw_or (pt_cmpR op_ne (pe_fldK (K := K) rfl (pv 0) rfl) (pe_fldK (K := K) rfl (pv 1) rfl) (nomark _)) (pw_or1 (pt_cmpR (op_neDK (K := K) rfl hr.units) (pe_fldK (K := K) rfl (pv 0) rfl) (pe_fldK (K := K) rfl (pv 1) rfl) (nomark _)))))) (pss_one (ps_ret pe_bl)) pss_nil) (pss_cons (ps_if (pt_cmpR op_ne (pe_callB (call_len_seqK (K := K) rfl) (by rfl) T.b_len (by decide +kernel) (pa_cons (pe_fldK (K := K) rfl (pv 0) rfl) pa_nil)) (pe_callB (call_len_seqK (K := K) rfl) (by rfl) T.b_len (by decide +kernel) (pa_cons (pe_fldK (K := K) rfl (pv 1) rfl) pa_nil)) (nomark _)) (pss_one (ps_ret pe_bl)) pss_nil) (pss_cons (ps_for PassesOwn.never rfl (pi_range1 rfl T.b_range (pa_cons (pe_callB (call_len_seqK (K := K) rfl) (by rfl) T.b_len (by decide +kernel) (pa_cons (pe_fldK (K := K) rfl (pv 0) rfl) pa_nil)) pa_nil)) (pg_name (i := 2) sc_are_same.nd rfl (Or.inl rfl)) (pss_cons (ps_if (pt_cmpR (op_neDK (K := K) rfl hr.units) (pe_fldK (K := K) rfl (pe_ix (ix_listK (K := K) rfl) (pe_fldK (K := K) rfl (pv 0) rfl) (pv 2) (fun _ _ => rfl)) rfl) (pe_fldK (K := K) rfl (pe_ix (ix_listK (K := K) rfl) (pe_fldK (K := K) rfl (pv 1) rfl) (pv 2) (fun _ _ => rfl)) rfl) (nomark _)) (pss_one (ps_ret pe_bl)) pss_nil) (pss_one (ps_if (pt_cmpR (op_neDK (K := K) rfl hr.units) (pe_fldK (K := K) rfl (pe_ix (ix_listK (K := K) rfl) (pe_fldK (K := K) rfl (pv 0) rfl) (pv 2) (fun _ _ => rfl)) rfl) (pe_fldK (K := K) rfl (pe_ix (ix_listK (K := K) rfl) (pe_fldK (K := K) rfl (pv 1) rfl) (pv 2) (fun _ _ => rfl)) rfl) (nomark _)) (pss_one (ps_ret pe_bl)) pss_nil)))) (pss_one (ps_ret pe_bl))))), ?_⟩)
  · obtain ⟨a, b, e, f, rfl, _⟩ := h
    rfl
  · obtain ⟨a, b, e, f, rfl, ⟨⟨dx, m, t, hR, hm, as, ht, hA⟩, ⟨dx', m', t', hR', hm', as', ht', hA'⟩, hk, hk', hl, hl'⟩, k⟩ := h
    have hlen : (as.map V.ref).length = e.trace.length := by rw [List.length_map, paired_len hA]; rfl
    have hlen' : (as'.map V.ref).length = f.trace.length := by rw [List.length_map, paired_len hA']; rfl
    have no : ∀ {H1 : Hp}, Ex H H1 → ¬ (e.job = f.job ∧ e.ended = f.ended ∧ e.made = f.made ∧ e.trace = f.trace) → RetV (.bl false) H1 Q := fun {H1} x z => by
      have : e.same f = false := by
        cases q : e.same f with
        | false => rfl
        | true => exact absurd (same_iff.mp q) z
      rw [this] at k
      exact fun H2 e2 => k H2 (x.trans e2)
    refine Sx.at (sx_when (et_or (et_test (ev_op (evRj T (ev_var rfl) hR) (evRj T (ev_var rfl) hR') (rv_ne rfl))) fun _ => et_or (et_test (ev_op (evRe T (ev_var rfl) hR) (evRe T (ev_var rfl) hR') (rv_ne rfl))) fun _ => et_test (ev_op (evRd T (ev_var rfl) hR) (evRd T (ev_var rfl) hR') (rv_neN hm hm'))) ?_ ?_)
    · intro hb
      refine sx_ret ev_c (no (Ex.refl H) ?_)
      rintro ⟨z1, z2, z3, z4⟩
      have w1 : (rawOf e).job = (rawOf f).job := z1
      have w2 : (rawOf e).ended = (rawOf f).ended := z2
      have w3 : (rawOf e).made = (rawOf f).made := congrArg Rp02.unpairs z3
      rw [w1, w2, w3] at hb
      simp at hb
    intro hb
    rw [Bool.or_eq_false_iff, Bool.or_eq_false_iff] at hb
    have hj : e.job = f.job := eq_int hb.1
    have w1 : e.ended = f.ended := eq_int hb.2.1
    have w2 : e.made = f.made := unpairs_inj (by have z := hb.2.2; simp at z; exact z)
    refine sx_when (et_test (ev_op (ev_lenN' (evRt T (ev_var rfl) hR) (sq_of ht) hlen) (ev_lenN' (evRt T (ev_var rfl) hR') (sq_of ht') hlen') (rv_ne rfl))) ?_ ?_
    · intro hb
      exact sx_ret ev_c (no (Ex.refl H) fun z => ne_int hb (congrArg List.length z.2.2.2))
    intro hb
    have hll := eq_int hb
    intro H0 e0
    refine q_forR1 (n := (e.trace.length : Int)) (ea_cons (ev_lenN' (evRt T (ev_var rfl) (e0 _ _ hR)) (sq_of (e0 _ _ ht)) hlen) ea_nil) (by omega) (fun i σ' H' => Ex H H' ∧ (∃ v, σ' = [some (.ref a), some (.ref b), v]) ∧ e.trace.take i = f.trace.take i) ?_ ?_ ?_
    · exact fun H1 e1 => ⟨e0.trans e1, ⟨_, rfl⟩, by simp⟩
    · rintro i σ' H' hi ⟨x, ⟨v, rfl⟩, htk⟩
      have hx := List.getElem?_eq_getElem (l := e.trace) (i := i) (by omega)
      have hy := List.getElem?_eq_getElem (l := f.trace) (i := i) (by omega)
      generalize (e.trace[i]'(by omega)) = ex at hx
      generalize (f.trace[i]'(by omega)) = ey at hy
      obtain ⟨c, hc, ⟨d1, p1, q1, hs, hq, ha⟩⟩ := paired_get' hA hx
      obtain ⟨c', hc', ⟨d1', p1', q1', hs', hq', ha'⟩⟩ := paired_get' hA' hy
      have evc : ∀ {H1 : Hp}, Ex H H1 → Ev (tOp (rIxL K) (tFld K (tVar 0) "trace") (tVar 2)) [some (.ref a), some (.ref b), some (.int (i : Int))] H1 (.ref c) := fun {H1} y => ev_op (evRt T (ev_var rfl) (y _ _ hR)) (ev_var rfl) (rv_ixL (sq_of (y _ _ ht)) (atI_nat (refs_at hc)))
      have evc' : ∀ {H1 : Hp}, Ex H H1 → Ev (tOp (rIxL K) (tFld K (tVar 1) "trace") (tVar 2)) [some (.ref a), some (.ref b), some (.int (i : Int))] H1 (.ref c') := fun {H1} y => ev_op (evRt T (ev_var rfl) (y _ _ hR')) (ev_var rfl) (rv_ixL (sq_of (y _ _ ht')) (atI_nat (refs_at hc')))
      refine q_when (et_test (ev_op (evSq T (evc x) (x _ _ hs)) (evSq T (evc' x) (x _ _ hs')) (rv_neN (x _ _ hq) (x _ _ hq')))) ?_ ?_
      · intro hb H1 e1
        have hne : ex.1 ≠ ey.1 := fun z => by rw [z] at hb; simp at hb
        exact s_ret ev_c (no (x.trans e1) fun z => ne_trace hx hy (fun q => hne (by rw [q])) z.2.2.2)
      · intro hb H1 e1
        have heq : ex.1 = ey.1 := askNumbers_inj (by simpa using hb)
        have x1 := x.trans e1
        refine s_when (et_test (ev_op (evSa T (evc x1) (x1 _ _ hs)) (evSa T (evc' x1) (x1 _ _ hs')) (rv_neN (x1 _ _ ha) (x1 _ _ ha')))) ?_ ?_
        · intro hb H2 e2
          have hne : ex.2 ≠ ey.2 := fun z => by rw [z] at hb; simp at hb
          exact s_ret ev_c (no (x1.trans e2) fun z => ne_trace hx hy (fun q => hne (by rw [q])) z.2.2.2)
        · intro hb H2 e2
          have he2 : ex.2 = ey.2 := by
            have k1 := hk ex (List.mem_of_getElem? hx)
            have k2 := hk' ey (List.mem_of_getElem? hy)
            refine replyNumbers_inj (q := ex.1) k1 ?_ (by simpa using hb)
            rw [heq]
            exact k2
          have : ex = ey := Prod.ext heq he2
          subst this
          exact ⟨x1.trans e2, ⟨_, rfl⟩, take_ext hx hy htk⟩
    · rintro σ' H' ⟨x, ⟨v, rfl⟩, htk⟩
      have q : ((e.trace.length : Int)).toNat = e.trace.length := by omega
      rw [q, List.take_length, hll, List.take_length] at htk
      have : e.same f = true := same_iff.mpr ⟨hj, w1, w2, htk⟩
      rw [this] at k
      exact s_ret ev_c fun H3 e3 => k H3 (x.trans e3)
end
end Mine
set_option Elab.async false
set_option linter.all false
set_option maxRecDepth 100000
set_option maxHeartbeats 4000000
namespace Mine
open PySem PySem.Spec PyProof.Rows L2 Evl
open Rp02 (Ask Reply Trace Area askNumbers replyNumbers)

/-! ### areas -/
def kvN (l : List (Nat × Nat)) : List (Key × V) := l.map fun f => (Sum.inl (f.1 : Int), V.int (f.2 : Int))
def AreaAt (H : Hp) (d : Addr) (a : Area) : Prop := ∃ l, H d = some (.dK (kvN l)) ∧ InDict l a ∧ l.length < 60
def AreasAt (H : Hp) (p : Addr) (w : Rp02.World) : Prop := ∃ ds : List Addr, H p = some (.lst (ds.map V.ref)) ∧ Paired (AreaAt H) ds w
theorem AreaAt.mono {H H' : Hp} {d : Addr} {a : Area} (e : Ex H H') (h : AreaAt H d a) : AreaAt H' d a := by
  obtain ⟨l, h1, h2⟩ := h
  exact ⟨l, e _ _ h1, h2⟩
theorem AreasAt.mono {H H' : Hp} {p : Addr} {w : Rp02.World} (e : Ex H H') (h : AreasAt H p w) : AreasAt H' p w := by
  obtain ⟨ds, h1, h2⟩ := h
  exact ⟨ds, e _ _ h1, L2.Paired.mapP h2 fun _ _ q => q.mono e⟩
theorem find_perm {l : List (Nat × Nat)} {a : Area} (h : InDict l a) (n : Nat) : Rp02.find l n = Rp02.find a n := by
  cases q : Rp02.find a n with
  | none =>
    rw [find_none_iff] at q ⊢
    intro c hc
    exact q c (h.perm.mem_iff.mp hc)
  | some c =>
    have hc := find_some_mem q
    cases q2 : Rp02.find l n with
    | none => exact absurd (h.perm.mem_iff.mpr hc) (find_none_iff.mp q2 c)
    | some d =>
      have := sorted_inj h.sorted (h.perm.mem_iff.mp (find_some_mem q2)) hc rfl
      rw [show d = c from congrArg Prod.snd this]
theorem valV_kvN (l : List (Nat × Nat)) (n : Nat) : valV (kvN l) (Sum.inl (n : Int)) = (Rp02.find l n).map fun (c : Nat) => V.int (c : Int) := by
  induction l with
  | nil => rfl
  | cons f r ih =>
    unfold kvN at ih ⊢
    rw [List.map_cons]
    by_cases e : f.1 = n
    · rw [valV_pos (by simp [e])]
      simp [Rp02.find, List.find?_cons, e]
    · rw [valV_neg (by simp; omega), ih]
      have : (f.1 == n) = false := by simpa using e
      simp [Rp02.find, List.find?_cons, this]
theorem valV_area {l : List (Nat × Nat)} {a : Area} (h : InDict l a) (n : Nat) : valV (kvN l) (Sum.inl (n : Int)) = (Rp02.find a n).map fun (c : Nat) => V.int (c : Int) := by
  rw [valV_kvN, find_perm h]
theorem kvN_keys (l : List (Nat × Nat)) : (kvN l).map (·.1) = (l.map fun f => (f.1 : Int)).map Sum.inl := by
  unfold kvN
  rw [List.map_map, List.map_map]
  rfl
theorem kvN_length (l : List (Nat × Nat)) : (kvN l).length = l.length := List.length_map _
theorem sorted_keys {l : List (Nat × Nat)} {a : Area} (h : InDict l a) {ys : List Int} (hp : ys.Perm (l.map fun f => (f.1 : Int))) (hs : ys.Pairwise (· ≤ ·)) : ys.map V.int = nV (a.map fun f => f.1) := by
  have e : ys = (a.map fun f => f.1).map fun (n : Nat) => (n : Int) := by
    refine List.Perm.eq_of_pairwise (le := (· ≤ ·)) (fun x y _ _ h1 h2 => Int.le_antisymm h1 h2) hs ?_ ?_
    · rw [List.pairwise_map]
      exact h.sorted.imp fun q => by omega
    · refine hp.trans ?_
      rw [List.map_map]
      exact h.perm.map _
  rw [e]
  unfold nV
  rw [List.map_map]
  rfl
section
variable {K : PySem.W.Frag} {σ : L2.St} {H H' : Hp} {ta tb te : TE} {t u : TT} {x y z v : V} {r : R2} {D : Ends} {tu tw tz : TS}
theorem el_sortedD {d : Addr} {l : List (Nat × Nat)} {a : Area} (ha : Ev ta σ H (.ref d)) (hd : H d = some (.dK (kvN l))) (hi : InDict l a) (hl : l.length < 60) :
    EvL (tCB (fun xs H Q => ∃ (a : Addr) (kvs : List (Key × V)) (ks : List Int), xs = [.ref a] ∧ Rd H a (.dK kvs) ∧ kvs.map (·.1) = ks.map Sum.inl ∧ ks.length < 64 ∧ ∀ (ys : List Int) (p : Addr), ys.Perm ks → ys.Pairwise (· ≤ ·) → H p = none → Q (.ref p) (upd H p (.lst (ys.map V.int)))) (tCons ta tNil)) σ H (nV (a.map fun f => f.1)) := fun H1 e Q q =>
  ha H1 e _ fun H2 e2 => ⟨d, kvN l, l.map fun f => (f.1 : Int), rfl, .inl (e2 _ _ (e _ _ hd)), kvN_keys l, by rw [List.length_map]; omega, fun ys p hp hs hn => by
    have := sorted_keys hi hp hs
    exact q p _ (fresh_back e2 hn) (e2.trans (Ex.new hn)) (by rw [← this]; exact upd_same)⟩
end
/-! ### promises -/
/-- what is known of the areas, in a dict -/
def KnownAt (H : Hp) (p : Addr) (h : Rp02.Half) : Prop := ∃ kvs : List (Key × V), H p = some (.dK kvs) ∧ kvs.length ≤ 100 ∧ (∀ (j : Nat) (a : Area), h.getD j none = some a → ∃ d, valV kvs (Sum.inl (j : Int)) = some (.ref d) ∧ AreaAt H d a) ∧ ∀ j : Nat, h.getD j none = none → valV kvs (Sum.inl (j : Int)) = none
theorem KnownAt.mono {H H' : Hp} {p : Addr} {h : Rp02.Half} (e : Ex H H') (k : KnownAt H p h) : KnownAt H' p h := by
  obtain ⟨kvs, h1, h2, h3, h4⟩ := k
  refine ⟨kvs, e _ _ h1, h2, fun j a hj => ?_, h4⟩
  obtain ⟨d, h5, h6⟩ := h3 j a hj
  exact ⟨d, h5, h6.mono e⟩
def sp_answer_now (K : PySem.W.Frag) (C : Ad) : Sp := fun vs H Q _ => (∃ (p qa : Addr) (w : Rp02.World) (q : Ask), vs = [.ref p, .ref qa] ∧ AreasAt H p w ∧ H qa = some (.lst (nV (askNumbers q))) ∧ q.area < w.length ∧ RetL (nV (replyNumbers (Rp02.reply w q))) H Q) ∨
  ∃ (p qa : Addr) (h : Rp02.Half) (q : Ask) (a : Area), vs = [.ref p, .ref qa] ∧ KnownAt H p h ∧ H qa = some (.lst (nV (askNumbers q))) ∧ h.getD q.area none = some a ∧ RetL (nV (replyNumbers (Rp02.replyIn a q))) H Q
theorem use_answer_now {K : PySem.W.Frag} {C : Ad} {H : Hp} {p qa : Addr} {w : Rp02.World} {q : Ask} (h1 : AreasAt H p w) (h2 : H qa = some (.lst (nV (askNumbers q)))) (hq : q.area < w.length) : SpL (sp_answer_now K C) [.ref p, .ref qa] H (nV (replyNumbers (Rp02.reply w q))) :=
  spL_of fun H1 e Q E k => .inl ⟨p, qa, w, q, rfl, h1.mono e, e _ _ h2, hq, k⟩
theorem use_answer_known {K : PySem.W.Frag} {C : Ad} {H : Hp} {p qa : Addr} {h : Rp02.Half} {q : Ask} {a : Area} (h1 : KnownAt H p h) (h2 : H qa = some (.lst (nV (askNumbers q)))) (hq : h.getD q.area none = some a) : SpL (sp_answer_now K C) [.ref p, .ref qa] H (nV (replyNumbers (Rp02.replyIn a q))) :=
  spL_of fun H1 e Q E k => .inr ⟨p, qa, h, q, a, rfl, h1.mono e, e _ _ h2, hq, k⟩
def inW (w : Rp02.World) (t : Trace) : Prop := ∀ x ∈ t, x.1.area < w.length
/-- places of the answers that are not so -/
def offAt (w : Rp02.World) (t : Trace) (k : Nat) : Bool := match t[k]? with
  | some x => Rp02.reply w x.1 != x.2
  | none => false
def wrongT (w : Rp02.World) (t : Trace) : List Nat := (List.range t.length).filter (offAt w t)
theorem wrong_eq (w : Rp02.World) (e : Rp02.Entry) : e.wrong w = wrongT w e.trace := rfl
theorem wrong_none {w : Rp02.World} {e : Rp02.Entry} : e.holds w = decide ((wrongT w e.trace).length = 0) := by
  rw [Bool.eq_iff_iff, holds_iff, decide_eq_true_eq, List.length_eq_zero_iff]
  unfold wrongT
  rw [List.filter_eq_nil_iff]
  constructor
  · intro h k hk
    unfold offAt
    have hx := List.getElem?_eq_getElem (List.mem_range.mp hk)
    rw [hx]
    have := h _ (List.mem_of_getElem? hx)
    simp [this]
  · intro h x hx
    obtain ⟨k, hk⟩ := List.mem_iff_getElem?.mp hx
    have := h k (List.mem_range.mpr (lt_at hk))
    unfold offAt at this
    rw [hk] at this
    simpa using this
def sp_wrong_places (K : PySem.W.Frag) (C : Ad) : Sp := fun vs H Q _ => ∃ (p b : Addr) (w : Rp02.World) (r : Raw), vs = [.ref p, .ref b] ∧ AreasAt H p w ∧ RunAt C H b r ∧ KTr r.trace ∧ inW w r.trace ∧ r.trace.length ≤ 1000 ∧ RetL (nV (wrongT w r.trace)) H Q
theorem use_wrong_places {K : PySem.W.Frag} {C : Ad} {H : Hp} {p b : Addr} {w : Rp02.World} {r : Raw} (h1 : AreasAt H p w) (h2 : RunAt C H b r) (hk : KTr r.trace) (hw : inW w r.trace) (hl : r.trace.length ≤ 1000) : SpL (sp_wrong_places K C) [.ref p, .ref b] H (nV (wrongT w r.trace)) :=
  spL_of fun H1 e Q E k => ⟨p, b, w, r, rfl, h1.mono e, h2.mono e, hk, hw, hl, k⟩
theorem given_range (f : Nat → Bool) : ∀ n : Nat, Evl.given n f (fun k => .int (k : Int)) = nV ((List.range n).filter f)
  | 0 => rfl
  | n + 1 => by
    rw [List.range_succ, List.filter_append]
    cases hf : f n with
    | true =>
      rw [given_yes hf, given_range f n]
      unfold nV
      simp [hf]
    | false =>
      rw [given_no hf, given_range f n]
      unfold nV
      simp [hf]
section
variable {K : PySem.W.Frag} {σ : L2.St} {H H' : Hp} {te : TE} {t : TT}
/-- [e for i, x in enumerate(xs) if t] -/
theorem el_lcE {a : Addr} {xs : List V} {tg : TA} {i j : Nat} {vs : List Nat} (f : Nat → Bool) (v : Nat → V) (h : EvA tg σ H [.ref a]) (hx : SqL K H a xs) (hz : xs.length ≤ 40000) (hw : ∀ x y, wipe (((wipe σ vs).set i (some x)).set j (some y)) vs = wipe σ vs)
    (ht : ∀ (n : Nat) (x : V) H1, Ex H H1 → xs[n]? = some x → EvT t (((wipe σ vs).set i (some (.int (n : Int)))).set j (some x)) H1 (f n)) (he : ∀ (n : Nat) (x : V) H1, Ex H H1 → xs[n]? = some x → f n = true → Ev te (((wipe σ vs).set i (some (.int (n : Int)))).set j (some x)) H1 (v n)) :
    EvL (tLc (iEnum K tg) (gTup K 2 (gCons (gName i) (gCons (gName j) gNil))) t te vs) σ H (given xs.length f v) := fun H0 e Q q => h H0 e _ fun H1 e1 => ⟨a, xs, rfl, ex_l (e.trans e1) hx, fun Dl hD =>
  lc_it walk_enum (Cw H1 f v Dl) ⟨hD, Ex.new hD, upd_same⟩ (fun n H' _ p => ex_l ((e.trans e1).trans p.2.1) hx) (fun n x H2 H3 hi p y => by
    obtain ⟨T, u1, u2, rfl, hT, rfl, h1, h2⟩ := y
    cases h1
    have p' : Cw H1 f v Dl n (upd H2 T (.tup [.int (n : Nat), u2])) := ⟨p.1, p.2.1.trans (Ex.new hT), by
      rw [upd_ne (ne_of_none p.2.2 hT)]
      exact p.2.2⟩
    exact ⟨T, _, rfl, SqT.of upd_same, rfl, _, _, rfl, _, _, rfl, rfl, hw _ _, cw_turn p' (by omega) (ht n u2 H1 (e.trans e1) h2) (fun hf => he n u2 H1 (e.trans e1) h2 hf)⟩) (fun H' p => q Dl H' (fresh_back e1 p.1) (e1.trans p.2.1) p.2.2)⟩
end
def sp_is_made_right (K : PySem.W.Frag) (C : Ad) : Sp := fun vs H Q _ => ∃ (p : Addr) (l : List Nat), vs = [.ref p] ∧ H p = some (.lst (nV l)) ∧ l.length ≤ 1000 ∧ RetV (.bl (Rp02.made? l).isSome) H Q
theorem use_is_made_right {K : PySem.W.Frag} {C : Ad} {H : Hp} {p : Addr} {l : List Nat} (h : H p = some (.lst (nV l))) (hl : l.length ≤ 1000) : SpV (sp_is_made_right K C) [.ref p] H (.bl (Rp02.made? l).isSome) := spV_of fun H1 e Q E k => ⟨p, l, rfl, e _ _ h, hl, k⟩
/-- a new dict -/
def RetD (kvs : List (Key × V)) (H : Hp) (Q : VK) : Prop := ∀ p H2, H p = none → Ex H H2 → H2 p = some (.dK kvs) → Q (.ref p) H2
def sp_made_files (K : PySem.W.Frag) (C : Ad) : Sp := fun vs H Q _ => ∃ (p : Addr) (a : Area), vs = [.ref p] ∧ H p = some (.lst (nV (Rp02.unpairs a))) ∧ Sorted a ∧ a.length ≤ 1000 ∧ RetD (kvN a) H Q
theorem unpairs_length : ∀ (a : Area), (Rp02.unpairs a).length = 2 * a.length
  | [] => rfl
  | f :: a => by
    have := unpairs_length a
    simp only [Rp02.unpairs, List.flatMap_cons, List.cons_append, List.nil_append, List.length_cons] at this ⊢
    omega
theorem unpairs_get : ∀ {a : Area} {i : Nat} {f : Nat × Nat}, a[i]? = some f → (Rp02.unpairs a)[2 * i]? = some f.1 ∧ (Rp02.unpairs a)[2 * i + 1]? = some f.2
  | [], i, f, h => by simp at h
  | g :: a, 0, f, h => by
    cases h
    exact ⟨rfl, rfl⟩
  | g :: a, i + 1, f, h => by
    have ih := unpairs_get (a := a) (i := i) h
    have e : Rp02.unpairs (g :: a) = g.1 :: g.2 :: Rp02.unpairs a := rfl
    rw [e, show 2 * (i + 1) = 2 * i + 1 + 1 by omega]
    exact ⟨ih.1, ih.2⟩
theorem rg2 {n : Nat} (h : n ≤ 1000) : RgC 0 ((2 * n : Nat) : Int) 2 n := by
  have hs : Builtin.Range.rangeSize 0 ((2 * n : Nat) : Int) 2 = (n : Int) := by
    unfold Builtin.Range.rangeSize
    rw [if_pos (by decide)]
    split <;> omega
  refine ⟨by decide, by decide, ?_, hs⟩
  have f : ∀ a : Int, 0 ≤ a → a ≤ 100000 → Builtin.Range.rangeFitsLong a = true := fun a h1 h2 => by
    unfold Builtin.Range.rangeFitsLong
    simp only [Bool.and_eq_true, decide_eq_true_eq]
    omega
  unfold Builtin.Range.small
  rw [hs, f 0 (by decide) (by decide), f ((2 * n : Nat) : Int) (by omega) (by omega), f 2 (by decide) (by decide), f (n : Int) (by omega) (by omega), if_pos (by decide), f (((2 * n : Nat) : Int) + (2 - 1)) (by omega) (by omega), Bool.or_true]
  rfl
section
variable {K : PySem.W.Frag} {σ : L2.St} {H H' : Hp} {D : Ends} {tu tw tz : TS}
theorem q_asgD {i : Nat} (k : ∀ d, H d = none → tz D (σ.set i (some (.ref d))) (upd H d (.dK []))) : tSeq (tAsg tDNewK (gName i)) tz D σ H := fun d hd => k d hd
theorem q_forR3 {ta : TA} {j : Nat} {lo n c : Int} {m : Nat} (h : EvA ta σ H [.int lo, .int n, .int c]) (hn : RgC lo n c m) (Pv : Nat → L2.St → Hp → Prop) (h0 : ∀ H1, Ex H H1 → Pv 0 σ H1)
    (hs : ∀ (i : Nat) σ' H', i < m → Pv i σ' H' → tu { D with nx := Pv (i + 1), ct := Pv (i + 1), bk := tz D } (σ'.set j (some (.int (lo + (i : Nat) * c)))) H') (hd : ∀ σ' H', Pv m σ' H' → tz D σ' H') : tSeq (tFor (iRng3 ta) (gName j) tu) tz D σ H :=
  h H (Ex.refl H) _ fun H1 e => ⟨lo, n, c, m, rfl, hn, for_rangeC (D := { D with nx := tz D }) Pv (h0 H1 e) (fun i σ' H' hi p => hs i σ' H' hi p) hd⟩
end
/-! ### made? by numbers -/
theorem pairs_even : ∀ {l : List Nat}, (Rp02.pairs l).isSome = decide (l.length % 2 = 0)
  | [] => rfl
  | [_] => rfl
  | a :: b :: r => by
    rw [Rp02.pairs, Option.isSome_map, pairs_even (l := r)]
    simp only [List.length_cons]
    congr 1
    rw [show (r.length + 1 + 1) % 2 = r.length % 2 by omega]
theorem pairs_evens : ∀ {l : List Nat} {a : Area}, Rp02.pairs l = some a → a.map (fun f => f.1) = evens l ∧ Rp02.unpairs a = l ∧ 2 * a.length = l.length
  | [], a, h => by
    cases h
    exact ⟨by simp [evens], rfl, rfl⟩
  | [_], a, h => by cases h
  | n :: c :: r, a, h => by
    rw [Rp02.pairs, Option.map_eq_some_iff] at h
    obtain ⟨b, h1, h2⟩ := h
    obtain ⟨h3, h4, h5⟩ := pairs_evens h1
    subst h2
    refine ⟨?_, ?_, ?_⟩
    · rw [List.map_cons, h3, evens]
    · simp only [Rp02.unpairs, List.flatMap_cons, List.cons_append, List.nil_append] at h4 ⊢
      rw [h4]
    · simp only [List.length_cons]
      omega
theorem made_some {l : List Nat} {a : Area} (h : Rp02.made? l = some a) : Rp02.unpairs a = l ∧ Sorted a ∧ a.length ≤ 6 := by
  unfold Rp02.made? at h
  cases q : Rp02.pairs l with
  | none =>
    rw [q] at h
    cases h
  | some b =>
    rw [q] at h
    simp only at h
    split at h
    · rename_i c
      cases h
      exact ⟨(pairs_evens q).2.1, rising_iff.mp c.1, c.2⟩
    · cases h
theorem made_isSome (l : List Nat) : (Rp02.made? l).isSome = (decide (l.length % 2 = 0) && (decide (l.length ≤ 12) && Rp02.rising (evens l))) := by
  unfold Rp02.made?
  have hp := pairs_even (l := l)
  cases q : Rp02.pairs l with
  | none =>
    rw [q] at hp
    rw [← hp]
    rfl
  | some a =>
    rw [q] at hp
    rw [← hp]
    obtain ⟨h1, h2, h3⟩ := pairs_evens q
    simp only [Option.isSome_some, Bool.true_and, h1]
    have e : (a.length ≤ Rp02.MADE) ↔ l.length ≤ 12 := by
      show a.length ≤ 6 ↔ _
      omega
    by_cases c1 : Rp02.rising (evens l) = true
    · by_cases c2 : l.length ≤ 12
      · rw [if_pos ⟨c1, e.mpr c2⟩, c1, decide_eq_true c2]
        rfl
      · rw [if_neg (fun z => c2 (e.mp z.2)), decide_eq_false c2]
        rfl
    · rw [if_neg (fun z => c1 z.1), Bool.eq_false_iff.mpr c1, Bool.and_false]
      rfl
theorem nV_evens : ∀ (l : List Nat), evens (nV l) = nV (evens l)
  | [] => by simp [evens, nV]
  | [a] => by simp [evens, nV]
  | a :: b :: r => by
    have := nV_evens r
    show evens (V.int a :: V.int b :: nV r) = _
    rw [evens, evens, this]
    rfl
section
variable {P : Program} {w : World} {K : PySem.W.Frag} {mg : Str → Option Value} {base : Heap} {C : Ad}
theorem ok_answer_now {f : Addr} {fd : FuncData} (F : Fun K "answer_now" "answer_now" s_answer_now f fd) (T : Txt K mg C) (G_counted : Has P w K mg base 1 "counted" ["numbers"] (sp_counted K C)) (G_files_between : Has P w K mg base 1 "files_between" ["files", "first", "last"] (sp_files_between K C)) : FnOk P w K mg base CX0 2 f fd ["areas", "question"] (sp_answer_now K C) := by
  refine F.ok sc_answer_now (fun vs H Q E h => ?_) (fun cdv A outer s H vs Q E hr h => ?_)
  · rcases h with ⟨p, qa, wd, q, rfl, _⟩ | ⟨p, qa, h, q, a, rfl, _⟩ <;> rfl
  · rcases h with ⟨p, qa, wd, q, rfl, ⟨ds, hp, hD⟩, hq, hw, k⟩ | ⟨p, qa, hf, q, ar, rfl, ⟨kvs, hp, _, hD, _⟩, hq, hw, k⟩
    rotate_left
    · obtain ⟨d, hd, l, hdd, hin, hl⟩ := hD _ _ hw
      refine ⟨_, (pss_cons (ps_set (i := 2) sc_answer_now.nd rfl (Or.inl rfl) (pe_dget (hu_of hr) (pv 0) (pe_ix (ix_listK (K := K) rfl) (pv 1) pe_int (fun _ _ => rfl)) (fun _ _ => rfl))) (pss_cons (ps_if (pt_cmpR op_ne (pe_ix (ix_listK (K := K) rfl) (pv 1) pe_int (fun _ _ => rfl)) (pe_globI rfl T.g_FILE) (nomark _)) (pss_one (ps_ret (pe_has G_counted hr rfl (by exact (pa_cons (pe_has G_files_between hr rfl (by exact (pa_cons (pe_callB (call_sortedDI rfl) (by rfl) T.b_sorted (by decide +kernel) (pa_cons (pv 2) pa_nil)) (pa_cons (pe_ix (ix_listK (K := K) rfl) (pv 1) pe_int (fun _ _ => rfl)) (pa_cons (pe_ix (ix_listK (K := K) rfl) (pv 1) pe_int (fun _ _ => rfl)) pa_nil))))) pa_nil))))) pss_nil) (pss_cons (ps_if (pt_cmp (pc_din (hu_of hr) (pe_ix (ix_listK (K := K) rfl) (pv 1) pe_int (fun _ _ => rfl)) (pv 2)) rfl) (pss_one (ps_ret (pe_has G_counted hr rfl (by exact (pa_cons (pe_lst (pa_cons (pe_dget (hu_of hr) (pv 2) (pe_ix (ix_listK (K := K) rfl) (pv 1) pe_int (fun _ _ => rfl)) (fun _ _ => rfl)) pa_nil)) pa_nil))))) pss_nil) (pss_one (ps_ret (pe_has G_counted hr rfl (by exact (pa_cons (pe_lst pa_nil) pa_nil)))))))), ?_⟩
      refine Sx.at (sx_asg (v := .ref d) (ev_dget (k := Sum.inl (q.area : Int)) (ev_var rfl) (ev_ixN (i := 1) (ev_var rfl) ev_c hq (ask1 q)) hp hd) ?_)
      refine sx_when (b := decide (sort q ≠ 0)) (et_is (et_test (ev_op (ev_ixN (i := 0) (ev_var rfl) ev_c hq (ask0 q)) ev_c (rv_ne rfl))) (by cases q <;> rfl)) ?_ ?_
      · intro hb
        cases q with
        | file a n => simp [sort] at hb
        | names a lo hi =>
          refine sx_retL (xs := nV (replyNumbers (.those (between (ar.map fun (f : Nat × Nat) => f.1) lo hi)))) ?_ (by exact k)
          have hlen : (between (ar.map fun f => f.1) lo hi).length ≤ 60 := by
            refine Nat.le_trans (List.length_filter_le _ _) ?_
            rw [List.length_map, ← hin.length]
            omega
          refine el_callL1 (xs := nV (between (ar.map fun f => f.1) lo hi)) ?_ fun p1 H1 h1 e1 => ?_
          · refine el_callL3 (xs := nV (ar.map fun f => f.1)) (x := .int (lo : Int)) (y := .int (hi : Int)) (el_sortedD (ev_var rfl) hdd hin hl) (ev_ixN (i := 2) (n := lo) (ev_var rfl) ev_c hq rfl) (ev_ixN (i := 3) (n := hi) (ev_var rfl) ev_c hq rfl) fun p1 H1 h1 e1 => ?_
            exact use_files_between h1 (by rw [List.length_map, ← hin.length]; omega)
          · have := use_counted (K := K) (C := C) h1 (by rw [nV_length]; omega)
            rw [nV_length] at this
            exact this
      intro hb
      cases q with
      | names a lo hi => simp [sort] at hb
      | file a n =>
        have hv := valV_area hin n
        refine sx_when (et_B (ev_din (k := Sum.inl (n : Int)) (ev_ixN (i := 2) (n := n) (ev_var rfl) ev_c hq rfl) (ev_var rfl) hdd)) ?_ ?_
        · intro hb
          rw [hv] at hb
          cases hf : Rp02.find ar n with
          | none =>
            rw [hf] at hb
            cases hb
          | some c =>
            have hr : Rp02.replyIn ar (.file a n) = .holds c := by
              show (match Rp02.find ar n with | some c => Reply.holds c | none => Reply.absent) = _
              rw [hf]
            rw [hr] at k
            rw [hf] at hv
            refine sx_retL (xs := nV [1, c]) ?_ k
            refine el_callL1 (xs := [.int (c : Int)]) (el_lst (ea_cons (ev_dget (k := Sum.inl (n : Int)) (ev_var rfl) (ev_ixN (i := 2) (n := n) (ev_var rfl) ev_c hq rfl) hdd hv) ea_nil) (by show 1 ≤ 100000; decide)) fun p1 H1 h1 e1 => use_counted h1 (by show 1 < 90000; decide)
        · intro hb
          rw [hv] at hb
          cases hf : Rp02.find ar n with
          | some c =>
            rw [hf] at hb
            cases hb
          | none =>
            have hr : Rp02.replyIn ar (.file a n) = .absent := by
              show (match Rp02.find ar n with | some c => Reply.holds c | none => Reply.absent) = _
              rw [hf]
            rw [hr] at k
            refine sx_retL (xs := nV [0]) ?_ k
            exact el_callL1 (xs := []) (el_lst ea_nil (by show 0 ≤ 100000; decide)) fun p1 H1 h1 e1 => use_counted h1 (by show 0 < 90000; decide)
    · have hx := List.getElem?_eq_getElem hw
      have hrep : Rp02.reply wd q = Rp02.replyIn (wd[q.area]'hw) q := by
        unfold Rp02.reply
        rw [List.getD_eq_getElem?_getD, hx]
        rfl
      rw [hrep] at k
      generalize (wd[q.area]'hw) = ar at hx k
      obtain ⟨d, hd, l, hdd, hin, hl⟩ := paired_get' hD hx
      refine ⟨_, (pss_cons (ps_set (i := 2) sc_answer_now.nd rfl (Or.inl rfl) (pe_ix (ix_listK (K := K) rfl) (pv 0) (pe_ix (ix_listK (K := K) rfl) (pv 1) pe_int (fun _ _ => rfl)) (fun _ _ => rfl))) (pss_cons (ps_if (pt_cmpR op_ne (pe_ix (ix_listK (K := K) rfl) (pv 1) pe_int (fun _ _ => rfl)) (pe_globI rfl T.g_FILE) (nomark _)) (pss_one (ps_ret (pe_has G_counted hr rfl (by exact (pa_cons (pe_has G_files_between hr rfl (by exact (pa_cons (pe_callB (call_sortedDI rfl) (by rfl) T.b_sorted (by decide +kernel) (pa_cons (pv 2) pa_nil)) (pa_cons (pe_ix (ix_listK (K := K) rfl) (pv 1) pe_int (fun _ _ => rfl)) (pa_cons (pe_ix (ix_listK (K := K) rfl) (pv 1) pe_int (fun _ _ => rfl)) pa_nil))))) pa_nil))))) pss_nil) (pss_cons (ps_if (pt_cmp (pc_din (hu_of hr) (pe_ix (ix_listK (K := K) rfl) (pv 1) pe_int (fun _ _ => rfl)) (pv 2)) rfl) (pss_one (ps_ret (pe_has G_counted hr rfl (by exact (pa_cons (pe_lst (pa_cons (pe_dget (hu_of hr) (pv 2) (pe_ix (ix_listK (K := K) rfl) (pv 1) pe_int (fun _ _ => rfl)) (fun _ _ => rfl)) pa_nil)) pa_nil))))) pss_nil) (pss_one (ps_ret (pe_has G_counted hr rfl (by exact (pa_cons (pe_lst pa_nil) pa_nil)))))))), ?_⟩
      refine Sx.at (sx_asg (v := .ref d) (ev_op (ev_var rfl) (ev_ixN (i := 1) (ev_var rfl) ev_c hq (ask1 q)) (rv_ixL (sq_of hp) (atI_nat (refs_at hd)))) ?_)
      refine sx_when (b := decide (sort q ≠ 0)) (et_is (et_test (ev_op (ev_ixN (i := 0) (ev_var rfl) ev_c hq (ask0 q)) ev_c (rv_ne rfl))) (by cases q <;> rfl)) ?_ ?_
      · intro hb
        cases q with
        | file a n => simp [sort] at hb
        | names a lo hi =>
          refine sx_retL (xs := nV (replyNumbers (.those (between (ar.map fun (f : Nat × Nat) => f.1) lo hi)))) ?_ (by exact k)
          have hlen : (between (ar.map fun f => f.1) lo hi).length ≤ 60 := by
            refine Nat.le_trans (List.length_filter_le _ _) ?_
            rw [List.length_map, ← hin.length]
            omega
          refine el_callL1 (xs := nV (between (ar.map fun f => f.1) lo hi)) ?_ fun p1 H1 h1 e1 => ?_
          · refine el_callL3 (xs := nV (ar.map fun f => f.1)) (x := .int (lo : Int)) (y := .int (hi : Int)) (el_sortedD (ev_var rfl) hdd hin hl) (ev_ixN (i := 2) (n := lo) (ev_var rfl) ev_c hq rfl) (ev_ixN (i := 3) (n := hi) (ev_var rfl) ev_c hq rfl) fun p1 H1 h1 e1 => ?_
            exact use_files_between h1 (by rw [List.length_map, ← hin.length]; omega)
          · have := use_counted (K := K) (C := C) h1 (by rw [nV_length]; omega)
            rw [nV_length] at this
            exact this
      intro hb
      cases q with
      | names a lo hi => simp [sort] at hb
      | file a n =>
        have hv := valV_area hin n
        refine sx_when (et_B (ev_din (k := Sum.inl (n : Int)) (ev_ixN (i := 2) (n := n) (ev_var rfl) ev_c hq rfl) (ev_var rfl) hdd)) ?_ ?_
        · intro hb
          rw [hv] at hb
          cases hf : Rp02.find ar n with
          | none =>
            rw [hf] at hb
            cases hb
          | some c =>
            have hr : Rp02.replyIn ar (.file a n) = .holds c := by
              show (match Rp02.find ar n with | some c => Reply.holds c | none => Reply.absent) = _
              rw [hf]
            rw [hr] at k
            rw [hf] at hv
            refine sx_retL (xs := nV [1, c]) ?_ k
            refine el_callL1 (xs := [.int (c : Int)]) (el_lst (ea_cons (ev_dget (k := Sum.inl (n : Int)) (ev_var rfl) (ev_ixN (i := 2) (n := n) (ev_var rfl) ev_c hq rfl) hdd hv) ea_nil) (by show 1 ≤ 100000; decide)) fun p1 H1 h1 e1 => use_counted h1 (by show 1 < 90000; decide)
        · intro hb
          rw [hv] at hb
          cases hf : Rp02.find ar n with
          | some c =>
            rw [hf] at hb
            cases hb
          | none =>
            have hr : Rp02.replyIn ar (.file a n) = .absent := by
              show (match Rp02.find ar n with | some c => Reply.holds c | none => Reply.absent) = _
              rw [hf]
            rw [hr] at k
            refine sx_retL (xs := nV [0]) ?_ k
            exact el_callL1 (xs := []) (el_lst ea_nil (by show 0 ≤ 100000; decide)) fun p1 H1 h1 e1 => use_counted h1 (by show 0 < 90000; decide)
theorem ok_wrong_places {f : Addr} {fd : FuncData} (F : Fun K "wrong_places" "wrong_places" s_wrong_places f fd) (T : Txt K mg C) (G_answer_now : Has P w K mg base 2 "answer_now" ["areas", "question"] (sp_answer_now K C)) : FnOk P w K mg base CX0 3 f fd ["areas", "run"] (sp_wrong_places K C) := by
  refine F.ok sc_wrong_places (fun vs H Q E h => ?_) (fun cdv A outer s H vs Q E hr h => ⟨_, (pss_one (ps_ret (pe_lc (own := [("place", 2), ("step", 3)]) (g := gTup K 2 (gCons (gName 2) (gCons (gName 3) (gNil)))) rfl sc_wrong_places.nd (pi_enumK (K := K) rfl rfl T.b_enumerate (pa_cons (pe_fldK (K := K) rfl (pv 1) rfl) pa_nil)) (blkOk_by (own := [("place", 2), ("step", 3)]) (N := ["areas", "run", "place", "step"]) (sc := defScope s_wrong_places) (by decide +kernel)) (fun _ _ _ _ _ => pg_tupK (K := K) rfl rfl (pgs_cons (pg_name (i := 2) sc_wrong_places.nd rfl (Or.inl rfl)) (pgs_cons (pg_name (i := 3) sc_wrong_places.nd rfl (Or.inl rfl)) (pgs_nil)))) (fun _ _ _ _ _ => (pts_one (pt_cmpR (op_neDK (K := K) rfl hr.units) (pe_has G_answer_now hr rfl (by exact (pa_cons (pv 0) (pa_cons (pe_fldK (K := K) rfl (pv 3) rfl) pa_nil)))) (pe_fldK (K := K) rfl (pv 3) rfl) (nomark _)))) (fun _ _ _ _ _ => (pv 2))))), ?_⟩)
  · obtain ⟨p, b, wd, r, rfl, _⟩ := h
    rfl
  · obtain ⟨p, b, wd, r, rfl, hW, ⟨dx, m, t, hR, hm, as, ht, hA⟩, hk, hw, hl, k⟩ := h
    have hlen : (as.map V.ref).length = r.trace.length := by rw [List.length_map, paired_len hA]
    refine Sx.at (sx_retL (xs := nV (wrongT wd r.trace)) ?_ k)
    unfold wrongT
    rw [← given_range, ← hlen]
    refine el_lcE _ _ (ea_cons (evRt T (ev_var rfl) hR) ea_nil) (sq_of ht) (by rw [hlen]; omega) (fun x y => rfl) (fun n x H1 e1 hx => ?_) (fun n x H1 e1 hx hf => ev_var rfl)
    obtain ⟨a, ha, rfl⟩ := refs_get hx
    obtain ⟨y, hy, dy, p1, q1, hs, hq, hans⟩ := paired_get hA ha
    have hmem := List.mem_of_getElem? hy
    have key : offAt wd r.trace n = !decide (replyNumbers (Rp02.reply wd y.1) = replyNumbers y.2) := by
      unfold offAt
      rw [hy]
      show (Rp02.reply wd y.1 != y.2) = _
      rw [bne]
      congr 1
      rw [Bool.eq_iff_iff, beq_iff_eq, decide_eq_true_eq]
      exact ⟨fun e => by rw [e], replyNumbers_inj (q := y.1) (kinded_reply wd y.1) (hk y hmem)⟩
    rw [key]
    exact et_test (ev_opL1 (el_call (ea_cons (ev_var rfl) (ea_cons (evSq T (ev_var rfl) (e1 _ _ hs)) ea_nil)) (use_answer_now (hW.mono e1) (e1 _ _ hq) (hw y hmem))) (fun H2 e2 => evSa T (ev_var rfl) (e2 _ _ (e1 _ _ hs))) fun p2 H2 h2 e2 => rv_neN h2 (e2 _ _ (e1 _ _ hans)))
theorem ok_is_made_right {f : Addr} {fd : FuncData} (F : Fun K "is_made_right" "is_made_right" s_is_made_right f fd) (T : Txt K mg C) (G_rises : Has P w K mg base 1 "rises" ["numbers"] (sp_rises K C)) : FnOk P w K mg base CX0 2 f fd ["made"] (sp_is_made_right K C) := by
  refine F.ok sc_is_made_right (fun vs H Q E h => ?_) (fun cdv A outer s H vs Q E hr h => ⟨_, (pss_one (ps_ret (pe_and (pe_cmpR op_eq (pe_op op_mod (pe_callB (call_len_seqK (K := K) rfl) (by rfl) T.b_len (by decide +kernel) (pa_cons (pv 0) pa_nil)) pe_int) pe_int (nomark _)) (pe_and (pe_cmpR op_le (pe_callB (call_len_seqK (K := K) rfl) (by rfl) T.b_len (by decide +kernel) (pa_cons (pv 0) pa_nil)) (pe_op op_mul pe_int (pe_globI rfl T.g_MOST_MADE)) (nomark _)) (pe_one (pe_has G_rises hr rfl (by exact (pa_cons (pe_step2K (K := K) rfl (pv 0)) pa_nil)))))))), ?_⟩)
  · obtain ⟨p, l, rfl, _⟩ := h
    rfl
  · obtain ⟨p, l, rfl, hp, hl, k⟩ := h
    rw [made_isSome] at k
    refine Sx.at (sx_ret ?_ k)
    refine ev_andV ?_ fun _ => ev_andV ?_ fun _ => ?_
    · refine ev_is (ev_op (ev_op (ev_lenN' (ev_var rfl) (sq_of hp) (nV_length l)) ev_c (rv_I (by show (0 : Int) < 2; decide))) ev_c (rv_eq rfl)) ?_
      congr 1
      refine decide_eq_decide.mpr ?_
      rw [V.int.injEq]
      omega
    · refine ev_is (ev_op (ev_lenN' (ev_var rfl) (sq_of hp) (nV_length l)) (ev_op ev_c ev_c (rv_I (Or.inl ⟨by decide, by decide⟩))) rv_I0) ?_
      congr 1
      refine decide_eq_decide.mpr ?_
      omega
    · refine ev_callL1 (el_step2 (ev_var rfl) (sq_of hp)) fun p1 H1 h1 e1 => ?_
      rw [nV_evens] at h1
      exact use_rises h1 (by rw [evens_length]; omega)
theorem ok_made_files {f : Addr} {fd : FuncData} (F : Fun K "made_files" "made_files" s_made_files f fd) (T : Txt K mg C)  : FnOk P w K mg base CX0 1 f fd ["made"] (sp_made_files K C) := by
  refine F.ok sc_made_files (fun vs H Q E h => ?_) (fun cdv A outer s H vs Q E hr h => ⟨_, (pss_cons (ps_set (i := 1) sc_made_files.nd rfl (Or.inl rfl) pe_dnewK) (pss_cons (ps_for PassesOwn.never rfl (pi_range3 rfl T.b_range (pa_cons pe_int (pa_cons (pe_callB (call_len_seqK (K := K) rfl) (by rfl) T.b_len (by decide +kernel) (pa_cons (pv 0) pa_nil)) (pa_cons pe_int pa_nil)))) (pg_name (i := 2) sc_made_files.nd rfl (Or.inl rfl)) (pss_one (ps_dput (hu_of hr) (pv 1) (pe_ix (ix_listK (K := K) rfl) (pv 0) (pv 2) (fun _ _ => rfl)) (pe_ix (ix_listK (K := K) rfl) (pv 0) (pe_op op_add (pv 2) pe_int) (fun _ _ => rfl)) rfl))) (pss_one (ps_ret (pv 1))))), ?_⟩)
  · obtain ⟨p, a, rfl, _⟩ := h
    rfl
  · obtain ⟨p, a, rfl, hp, hs, hl, k⟩ := h
    have hlen : (nV (Rp02.unpairs a)).length = 2 * a.length := by
      rw [nV_length, unpairs_length]
    refine q_asgD fun d hd => ?_
    have x0 : Ex H (upd H d (.dK [])) := Ex.new hd
    refine q_forR3 (m := a.length) (ea_cons ev_c (ea_cons (ev_lenN' (ev_var rfl) (sq_of (x0 _ _ hp)) hlen) (ea_cons ev_c ea_nil))) (rg2 hl) (fun i σ' H' => Ex H H' ∧ H' d = some (.dK (kvN (a.take i))) ∧ ∃ v, σ' = [some (.ref p), some (.ref d), v]) (fun H1 e1 => ⟨x0.trans e1, e1 _ _ upd_same, none, rfl⟩) ?_ ?_
    · rintro i σ' H' hi ⟨x, hdd, v, rfl⟩
      have hx := List.getElem?_eq_getElem hi
      obtain ⟨u1, u2⟩ := unpairs_get hx
      have e0 : (0 : Int) + (i : Nat) * 2 = ((2 * i : Nat) : Int) := by omega
      have hev : Ev (tOp (rIxL K) (tVar 0) (tVar 2)) [some (.ref p), some (.ref d), some (.int (0 + (i : Nat) * 2))] H' (.int ((a[i].1 : Nat) : Int)) := by
        rw [e0]
        exact ev_ixN (ev_var rfl) (ev_var rfl) (x _ _ hp) u1
      have hev2 : Ev (tOp (rIxL K) (tVar 0) (tOp (rI0 fun i j => V.int (i + j)) (tVar 2) (tC (.int 1)))) [some (.ref p), some (.ref d), some (.int (0 + (i : Nat) * 2))] H' (.int ((a[i].2 : Nat) : Int)) := by
        rw [e0]
        refine ev_ixN (i := 2 * i + 1) (ev_var rfl) (ev_is (ev_op (ev_var rfl) ev_c rv_I0) (congrArg V.int (by omega))) (x _ _ hp) u2
      have hnone : valV (kvN (a.take i)) (Sum.inl ((a[i].1 : Nat) : Int)) = none := by
        rw [valV_kvN, find_none_iff.mpr]
        · rfl
        · intro c hc
          have := pairwise_before (R := fun (x y : Nat) => x < y) (l := a.map fun (f : Nat × Nat) => f.1) (i := i) (x := a[i].1) (by rw [List.getElem?_map, hx]; rfl) hs a[i].1 (by rw [← List.map_take]; exact List.mem_map.mpr ⟨_, hc, rfl⟩)
          omega
      refine hev2 _ (Ex.refl _) _ fun H2 e2 => ⟨_, rfl, hev _ e2 _ fun H3 e3 => ⟨d, _, rfl, DPut.k (k := Sum.inl ((a[i].1 : Nat) : Int)) (e3 _ _ (e2 _ _ hdd)) ?_, ?_, ?_, _, rfl⟩⟩
      · rw [kvN_length, List.length_take]
        exact sz_lt (by omega)
      · exact Ex.mut (x.trans (e2.trans e3)) hd
      · rw [putK_new _ hnone, take_succ_at hx]
        unfold kvN
        rw [List.map_append]
        exact upd_same
    · rintro σ' H' ⟨x, hdd, v, rfl⟩
      rw [List.take_length] at hdd
      exact s_ret (ev_var rfl) fun H2 e2 => k d H2 hd (x.trans e2) (e2 _ _ hdd)
end
end Mine
set_option Elab.async false
set_option linter.all false
set_option maxRecDepth 100000
set_option maxHeartbeats 4000000
namespace Mine
open PySem PySem.Spec PyProof.Rows L2 Evl
open Rp02 (Ask Reply Trace Area askNumbers replyNumbers)

/-! ### what stands but for some addresses -/
def But (x : Addr) (H H' : Hp) : Prop := ∀ b o, H b = some o → b ≠ x → H' b = some o
theorem But.refl (x : Addr) (H : Hp) : But x H H := fun _ _ h _ => h
theorem But.ex {x : Addr} {H H1 H2 : Hp} (b : But x H H1) (e : Ex H1 H2) : But x H H2 := fun c o h n => e _ _ (b c o h n)
theorem But.put {x : Addr} {H H1 : Hp} {o : HO} (b : But x H H1) : But x H (upd H1 x o) := fun c u h n => by
  rw [upd_ne n]
  exact b c u h n
/-- the heap without the addresses of M -/
def Fx (M : List Addr) (H : Hp) : Hp := fun b => if b ∈ M then none else H b
theorem fx_some {M : List Addr} {H : Hp} {b : Addr} {o : HO} (hb : b ∉ M) (h : H b = some o) : Fx M H b = some o := by
  unfold Fx
  rw [if_neg hb]
  exact h
theorem fx_inv {M : List Addr} {H : Hp} {b : Addr} {o : HO} (h : Fx M H b = some o) : b ∉ M ∧ H b = some o := by
  unfold Fx at h
  by_cases c : b ∈ M
  · rw [if_pos c] at h
    cases h
  · rw [if_neg c] at h
    exact ⟨c, h⟩
theorem fx_ex {M : List Addr} {H : Hp} : Ex (Fx M H) H := fun b o h => (fx_inv h).2
theorem fx_mono {M : List Addr} {H H' : Hp} (e : Ex H H') : Ex (Fx M H) (Fx M H') := fun b o h => fx_some (fx_inv h).1 (e _ _ (fx_inv h).2)
def Tracked (M : List Addr) (H : Hp) : Prop := ∀ b ∈ M, H b ≠ none
theorem Tracked.fresh {M : List Addr} {H : Hp} {p : Addr} (t : Tracked M H) (h : H p = none) : p ∉ M := fun q => t p q h
theorem Tracked.ex {M : List Addr} {H H' : Hp} (t : Tracked M H) (e : Ex H H') : Tracked M H' := fun b hb h => t b hb (fresh_back e h)
theorem Tracked.put {M : List Addr} {H : Hp} {x : Addr} {o : HO} (t : Tracked M H) : Tracked M (upd H x o) := fun b hb h => by
  by_cases c : b = x
  · rw [c, upd_same] at h
    cases h
  · rw [upd_ne c] at h
    exact t b hb h
theorem fx_but {M : List Addr} {x : Addr} {H H' : Hp} (hx : x ∈ M) (b : But x H H') : Ex (Fx M H) (Fx M H') := fun c o h => fx_some (fx_inv h).1 (b _ _ (fx_inv h).2 fun e => (fx_inv h).1 (e ▸ hx))
section
variable {K : PySem.W.Frag} {σ : L2.St} {H H' : Hp} {ta tb te : TE} {t u : TT} {x y z v : V} {r : R2} {D : Ends} {tu tw tz : TS} {a C dx : Addr} {fs : List (Str × V)} {f : Str}
/-- o.f = e -/
theorem s_fld (h : Ev te σ H v) (ho : Ev ta σ H (.ref a)) (hi : H a = some (.ins C dx fs)) (hc : Cls K C) (hn : NoAttr K C f) (hl : fs.length < 1000) (k : ∀ H1, Ex H H1 → D.nx σ (upd H1 a (.ins C dx (putF f v fs)))) : sFld K ta te f D σ H :=
  h H (Ex.refl H) _ fun H1 e1 => ho H1 e1 _ fun H2 e2 => ⟨a, C, dx, fs, rfl, e2 _ _ (e1 _ _ hi), hc, hn, hl, k H2 (e1.trans e2)⟩
theorem q_fld (h : Ev te σ H v) (ho : Ev ta σ H (.ref a)) (hi : H a = some (.ins C dx fs)) (hc : Cls K C) (hn : NoAttr K C f) (hl : fs.length < 1000) (k : ∀ H1, Ex H H1 → tz D σ (upd H1 a (.ins C dx (putF f v fs)))) : tSeq (sFld K ta te f) tz D σ H :=
  s_fld (D := { D with nx := tz D }) h ho hi hc hn hl k
theorem s_fldL {xs : List V} (h : EvL te σ H xs) (ho : Ev ta σ H (.ref a)) (hi : H a = some (.ins C dx fs)) (hc : Cls K C) (hn : NoAttr K C f) (hl : fs.length < 1000) (k : ∀ p H1, H p = none → Ex H H1 → H1 p = some (.lst xs) → D.nx σ (upd H1 a (.ins C dx (putF f (.ref p) fs)))) : sFld K ta te f D σ H :=
  h H (Ex.refl H) _ fun p H1 hp e1 h1 => ho H1 e1 _ fun H2 e2 => ⟨a, C, dx, fs, rfl, e2 _ _ (e1 _ _ hi), hc, hn, hl, k p H2 hp (e1.trans e2) (e2 _ _ h1)⟩
theorem q_fldL {xs : List V} (h : EvL te σ H xs) (ho : Ev ta σ H (.ref a)) (hi : H a = some (.ins C dx fs)) (hc : Cls K C) (hn : NoAttr K C f) (hl : fs.length < 1000) (k : ∀ p H1, H p = none → Ex H H1 → H1 p = some (.lst xs) → tz D σ (upd H1 a (.ins C dx (putF f (.ref p) fs)))) : tSeq (sFld K ta te f) tz D σ H :=
  s_fldL (D := { D with nx := tz D }) h ho hi hc hn hl k
end
/-! ### a row of numbers that is a question with its answer -/
def tailN : Reply → List Nat
  | .absent => []
  | .holds c => [c]
  | .those l => l
def rowOf (x : Ask × Reply) : List Nat := askNumbers x.1 ++ tailN x.2
theorem reply_tail {x : Ask × Reply} : replyNumbers x.2 = (tailN x.2).length :: tailN x.2 := by
  cases x.2 <;> rfl
def sizeOf (q : Ask) : Nat := (askNumbers q).length
theorem row0 (x : Ask × Reply) : (rowOf x)[0]? = some (sort x.1) := by
  obtain ⟨q, r⟩ := x
  cases q <;> rfl
theorem row_take (x : Ask × Reply) : (rowOf x).take (sizeOf x.1) = askNumbers x.1 := by
  unfold rowOf sizeOf
  rw [List.take_left']
  rfl
theorem row_drop (x : Ask × Reply) : (rowOf x).drop (sizeOf x.1) = tailN x.2 := by
  unfold rowOf sizeOf
  rw [List.drop_left']
  rfl
theorem nV_take (l : List Nat) (k : Nat) : (nV l).take k = nV (l.take k) := by
  unfold nV
  rw [List.map_take]
theorem ne_of_none' {H : Hp} {a b : Addr} {o : HO} (h : H a = some o) (h' : H b = none) : b ≠ a := fun e => ne_of_none h h' e.symm
/-! ### promises of the two classes -/
def sp_Step_init (K : PySem.W.Frag) (C : Ad) : Sp := fun vs H Q _ => ∃ (M : List Addr) (x dx p : Addr) (q : Ask × Reply), vs = [.ref x, .ref p] ∧ Tracked M H ∧ x ∉ M ∧ H x = some (.ins C.Step dx []) ∧ H p = some (.lst (nV (rowOf q))) ∧ (rowOf q).length ≤ 1000 ∧
  ∀ H', StepAt C (Fx M H') x q → But x H H' → Q .non H'
def sp_Run_init (K : PySem.W.Frag) (C : Ad) : Sp := fun vs H Q _ => ∃ (M : List Addr) (x dx pn pm pq : Addr) (ps : List Addr) (r : Raw), vs = [.ref x, .ref pn, .ref pm, .ref pq] ∧ Tracked M H ∧ x ∉ M ∧ pm ∉ M ∧ H x = some (.ins C.Run dx []) ∧
  H pn = some (.lst (nV [r.id, r.job, r.machine, r.ended])) ∧ H pm = some (.lst (nV r.made)) ∧ H pq = some (.lst (ps.map V.ref)) ∧ Paired (fun p q => H p = some (.lst (nV (rowOf q))) ∧ (rowOf q).length ≤ 1000) ps r.trace ∧ r.trace.length ≤ 1000 ∧
  ∀ H', RunAt C (Fx M H') x r → But x H H' → Q .non H'
section
variable {P : Program} {w : World} {K : PySem.W.Frag} {mg : Str → Option Value} {base : Heap} {C : Ad}
theorem ok_Step_init {f : Addr} {fd : FuncData} (F : Fun K "__init__" "Step.__init__" s_Step_init f fd) (T : Txt K mg C) (G_counted : Has P w K mg base 1 "counted" ["numbers"] (sp_counted K C)) : FnOk P w K mg base CX0 2 f fd ["self", "asked"] (sp_Step_init K C) := by
  refine F.ok sc_Step_init (fun vs H Q E h => ?_) (fun cdv A outer s H vs Q E hr h => ⟨_, (pss_cons (ps_set (i := 2) sc_Step_init.nd rfl (Or.inl rfl) (pe_ifExp (pt_cmpR op_eq (pe_ix (ix_listK (K := K) rfl) (pv 1) pe_int (fun _ _ => rfl)) (pe_globI rfl T.g_FILE) (nomark _)) pe_int pe_int)) (pss_cons (ps_fldK (K := K) rfl (pv 0) (pe_slice (sl_listK (K := K) rfl) (pv 1) po_none (po_some (pv 2))) rfl) (pss_one (ps_fldK (K := K) rfl (pv 0) (pe_has G_counted hr rfl (by exact (pa_cons (pe_slice (sl_listK (K := K) rfl) (pv 1) (po_some (pv 2)) po_none) pa_nil))) rfl)))), ?_⟩)
  · obtain ⟨M, x, dx, p, q, rfl, _⟩ := h
    rfl
  · obtain ⟨M, x, dx, p, q, rfl, hM, hxM, hx, hp, hl, k⟩ := h
    have hlen : (askNumbers q.1).length = (if sort q.1 = 0 then 3 else 4) := by
      obtain ⟨a, r⟩ := q
      cases a <;> rfl
    refine q_asg (v := .int (sizeOf q.1 : Int)) (ev_if (b := decide (sort q.1 = 0)) (et_is (et_test (ev_op (ev_ixN (i := 0) (ev_var rfl) ev_c hp (row0 q)) ev_c (rv_eq rfl))) ?_) (fun hb => ev_is ev_c ?_) (fun hb => ev_is ev_c ?_)) fun H1 e1 => ?_
    · obtain ⟨a, r⟩ := q
      cases a <;> rfl
    · unfold sizeOf
      rw [hlen, if_pos (of_decide_eq_true hb)]
      rfl
    · unfold sizeOf
      rw [hlen, if_neg (of_decide_eq_false hb)]
      rfl
    have hx1 := e1 _ _ hx
    refine q_fldL (xs := nV (askNumbers q.1)) ?_ (ev_var rfl) hx1 T.cl_Step T.n_Step_question (by show 0 < 1000; decide) fun p1 H2 hp1 e2 h2 => ?_
    · have := el_to (K := K) (σ := [some (.ref x), some (.ref p), some (.int (sizeOf q.1 : Int))]) (ta := tVar 1) (tb := tVar 2) (k := sizeOf q.1) rfl (ev_var rfl) (ev_var rfl) (sq_of (e1 _ _ hp))
      rw [nV_take, row_take] at this
      exact this
    have hne1 : p1 ≠ x := ne_of_none' hx1 hp1
    have hpx : p ≠ x := ne_of hp hx (by intro z; cases z)
    have hp3 : upd H2 x (.ins C.Step dx (putF "question" (.ref p1) [])) p = some (.lst (nV (rowOf q))) := by
      rw [upd_ne hpx]
      exact e2 _ _ (e1 _ _ hp)
    refine s_fldL (xs := nV (replyNumbers q.2)) ?_ (ev_var rfl) upd_same T.cl_Step T.n_Step_answer (by show 1 < 1000; decide) fun p2 H3 hp2 e3 h3 => ?_
    · have h5 := el_from (K := K) (H := upd H2 x (.ins C.Step dx (putF "question" (.ref p1) []))) (σ := [some (.ref x), some (.ref p), some (.int (sizeOf q.1 : Int))]) (ta := tVar 1) (tb := tVar 2) (k := sizeOf q.1) rfl (ev_var rfl) (ev_var rfl) (sq_of hp3)
      rw [nV_drop, row_drop] at h5
      refine el_callL1 h5 fun p1 H1 h1 e1 => ?_
      have h6 := use_counted (K := K) (C := C) h1 (by rw [nV_length]; have : (tailN q.2).length ≤ (rowOf q).length := by { unfold rowOf; rw [List.length_append]; omega }; omega)
      rw [nV_length] at h6
      rw [reply_tail]
      exact h6
    have hne2 : p2 ≠ x := ne_of_none' upd_same hp2
    have hp12 : p1 ≠ p2 := ne_of_none (by rw [upd_ne hne1]; exact h2) hp2
    refine k _ ⟨dx, p1, p2, fx_some hxM ?_, fx_some (hM.fresh (fresh_back e1 hp1)) ?_, fx_some ?_ ?_⟩ ?_
    · rw [upd_same]
      congr 2
    · rw [upd_ne hne1]
      exact e3 _ _ (by rw [upd_ne hne1]; exact h2)
    · exact ((hM.ex (e1.trans e2)).put).fresh hp2
    · rw [upd_ne hne2]
      exact h3
    · exact ((((But.refl x H).ex (e1.trans e2)).put).ex e3).put
end
end Mine
set_option Elab.async false
set_option linter.all false
set_option maxRecDepth 100000
set_option maxHeartbeats 4000000
namespace Mine
open PySem PySem.Spec PyProof.Rows L2 Evl
open Rp02 (Ask Reply Trace Area askNumbers replyNumbers)

theorem fx_put {M : List Addr} {H : Hp} {D : Addr} {o : HO} (h : D ∈ M) : Fx M (upd H D o) = Fx M H := by
  funext b
  unfold Fx
  by_cases c : b ∈ M
  · rw [if_pos c, if_pos c]
  · have hb : b ≠ D := fun e => c (by rw [e]; exact h)
    rw [if_neg c, if_neg c, upd_ne hb]
theorem fx_less {M : List Addr} {H : Hp} {D : Addr} : Ex (Fx (D :: M) H) (Fx M H) := fun b o h => fx_some (fun c => (fx_inv h).1 (List.mem_cons_of_mem _ c)) (fx_inv h).2
theorem paired_snoc {α β : Type} {R : α → β → Prop} : ∀ {l : List α} {m : List β} {x : α} {y : β}, Paired R l m → R x y → Paired R (l ++ [x]) (m ++ [y])
  | _, _, _, _, .nil, h => .cons h .nil
  | _, _, _, _, .cons r t, h => .cons r (paired_snoc t h)
theorem ex_made {H H1 : Hp} {x dx C : Addr} (nx : H x = none) (nd : H dx = none) (k : But x (upd (upd H dx (.own x)) x (.ins C dx [])) H1) : Ex H H1 := fun b o e => by
  have hx := ne_of_none e nx
  exact k b o ((upd_ne hx).trans ((upd_ne (ne_of_none e nd)).trans e)) hx
section
variable {K : PySem.W.Frag} {σ : L2.St} {H H' : Hp} {te : TE} {D : Ends}
/-- [e for x in xs], each item a new object -/
theorem ob_lcL {α : Type} (R : Hp → V → α → Prop) (Rm : ∀ {H1 H2 : Hp} {v : V} {y : α}, Ex H1 H2 → R H1 v y → R H2 v y) {a : Addr} {xs : List V} (l : List α) {tl : TE} {j : Nat} {vs : List Nat} (h : Ev tl σ H (.ref a)) (hx : H a = some (.lst xs)) (hlen : xs.length = l.length) (hz : xs.length ≤ 40000) (hw : ∀ x, wipe ((wipe σ vs).set j (some x)) vs = wipe σ vs)
    (he : ∀ (i : Nat) (x : V) (y : α) H1, Ex H H1 → xs[i]? = some x → l[i]? = some y → ∀ M, Tracked M H1 → ∀ Q : VK, (∀ v H2, Ex H1 H2 → R (Fx M H2) v y → Q v H2) → te ((wipe σ vs).set j (some x)) H1 Q)
    (H0 : Hp) (e0 : Ex H H0) (M : List Addr) (hM : Tracked M H0) (Q : VK) (q : ∀ D H2 ys, H0 D = none → Ex H0 H2 → H2 D = some (.lst ys) → Paired (R (Fx M H2)) ys l → Q (.ref D) H2) : tLc (iList K tl) (gName j) tYes te vs σ H0 Q := by
  refine h H0 e0 _ fun H1 e1 => ⟨a, rfl, ⟨xs, sq_of (e1 _ _ (e0 _ _ hx))⟩, fun Dl hD => ?_⟩
  refine lc_list (xs := xs) (fun i H' => Ex H1 H' ∧ ∃ ys, H' Dl = some (.lst ys) ∧ ys.length = i ∧ Paired (R (Fx (Dl :: M) H')) ys (l.take i)) ⟨Ex.new hD, [], upd_same, rfl, .nil⟩ (fun i H' _ p => sq_of (p.1 _ _ (e1 _ _ (e0 _ _ hx)))) ?_ ?_
  · rintro i x H' hi ⟨e, ys, hy, hyl, hp⟩
    refine ⟨hw x, ?_⟩
    show te _ H' _
    have hil := lt_at hi
    have hli := List.getElem?_eq_getElem (l := l) (i := i) (by omega)
    have hT : Tracked (Dl :: M) H' := fun b hb => by
      rcases List.mem_cons.mp hb with c | c
      · rw [c, hy]
        exact fun z => by cases z
      · exact (hM.ex (e1.trans e)) b c
    refine he i x _ H' ((e0.trans e1).trans e) hi hli (Dl :: M) hT _ fun v H2 e2 hr => ⟨ys, e2 _ _ hy, sz_lt (by omega), Ex.mut (e.trans e2) hD, ys ++ [v], upd_same, by rw [List.length_append, hyl]; rfl, ?_⟩
    rw [fx_put List.mem_cons_self, take_succ_at hli]
    exact paired_snoc (L2.Paired.mapP hp fun _ _ z => Rm (fx_mono e2) z) hr
  · rintro H' ⟨e, ys, hy, hyl, hp⟩
    rw [hlen, List.take_length] at hp
    exact q Dl H' ys (fresh_back e1 hD) (e1.trans e) hy (L2.Paired.mapP hp fun _ _ z => Rm fx_less z)
/-- over range(n) -/
theorem ob_lcR {α : Type} (R : Hp → V → α → Prop) (Rm : ∀ {H1 H2 : Hp} {v : V} {y : α}, Ex H1 H2 → R H1 v y → R H2 v y) {n : Nat} (l : List α) {ta : TA} {j : Nat} {vs : List Nat} (h : EvA ta σ H [.int (n : Int)]) (hlen : n = l.length) (hz : n ≤ 40000) (hw : ∀ x, wipe ((wipe σ vs).set j (some x)) vs = wipe σ vs)
    (he : ∀ (i : Nat) (y : α) H1, Ex H H1 → l[i]? = some y → ∀ M, Tracked M H1 → ∀ Q : VK, (∀ v H2, Ex H1 H2 → R (Fx M H2) v y → Q v H2) → te ((wipe σ vs).set j (some (.int (i : Int)))) H1 Q)
    (H0 : Hp) (e0 : Ex H H0) (M : List Addr) (hM : Tracked M H0) (Q : VK) (q : ∀ D H2 ys, H0 D = none → Ex H0 H2 → H2 D = some (.lst ys) → Paired (R (Fx M H2)) ys l → Q (.ref D) H2) : tLc (iRng1 ta) (gName j) tYes te vs σ H0 Q := by
  refine h H0 e0 _ fun H1 e1 => ⟨(n : Int), rfl, by omega, by omega, fun Dl hD => ?_⟩
  refine lc_range (lo := 0) (n := (n : Int).toNat) (fun i H' => Ex H1 H' ∧ ∃ ys, H' Dl = some (.lst ys) ∧ ys.length = i ∧ Paired (R (Fx (Dl :: M) H')) ys (l.take i)) ⟨Ex.new hD, [], upd_same, rfl, .nil⟩ ?_ ?_
  · rintro i H' hi ⟨e, ys, hy, hyl, hp⟩
    have ez : (0 : Int) + (i : Int) = (i : Int) := Int.zero_add _
    refine ⟨hw _, ?_⟩
    show te ((wipe σ vs).set j (some (.int ((0 : Int) + (i : Int))))) H' _
    rw [ez]
    have hli := List.getElem?_eq_getElem (l := l) (i := i) (by omega)
    have hT : Tracked (Dl :: M) H' := fun b hb => by
      rcases List.mem_cons.mp hb with c | c
      · rw [c, hy]
        exact fun z => by cases z
      · exact (hM.ex (e1.trans e)) b c
    refine he i _ H' ((e0.trans e1).trans e) hli (Dl :: M) hT _ fun v H2 e2 hr => ⟨ys, e2 _ _ hy, sz_lt (by omega), Ex.mut (e.trans e2) hD, ys ++ [v], upd_same, by rw [List.length_append, hyl]; rfl, ?_⟩
    rw [fx_put List.mem_cons_self, take_succ_at hli]
    exact paired_snoc (L2.Paired.mapP hp fun _ _ z => Rm (fx_mono e2) z) hr
  · rintro H' ⟨e, ys, hy, hyl, hp⟩
    rw [show (n : Int).toNat = l.length by omega, List.take_length] at hp
    exact q Dl H' ys (fresh_back e1 hD) (e1.trans e) hy (L2.Paired.mapP hp fun _ _ z => Rm fx_less z)
end
theorem refs_of {α : Type} {R : Addr → α → Prop} : ∀ {ys : List V} {l : List α}, Paired (fun v y => ∃ a, v = V.ref a ∧ R a y) ys l → ∃ as : List Addr, ys = as.map V.ref ∧ Paired R as l
  | _, _, .nil => ⟨[], rfl, .nil⟩
  | _, _, .cons h t => by
    obtain ⟨a, rfl, hr⟩ := h
    obtain ⟨as, rfl, hp⟩ := refs_of t
    exact ⟨a :: as, rfl, .cons hr hp⟩
section
variable {P : Program} {w : World} {K : PySem.W.Frag} {mg : Str → Option Value} {base : Heap} {C : Ad}
/-- what a new step is -/
theorem make_step {σ : L2.St} {H : Hp} {ta : TE} {p : Addr} {x : Ask × Reply} {M : List Addr} {Q : VK} (ha : Ev ta σ H (.ref p)) (hp : H p = some (.lst (nV (rowOf x)))) (hl : (rowOf x).length ≤ 1000) (hM : Tracked M H) (q : ∀ a H2, Ex H H2 → StepAt C (Fx M H2) a x → Q (.ref a) H2) :
    tMake C.Step (sp_Step_init K C) [] E0 (tCons ta tNil) σ H Q := by
  refine ha H (Ex.refl H) _ fun H1 e1 => ?_
  intro a dx na nd ne
  refine ⟨M, a, dx, p, x, rfl, ((hM.ex e1).put).put, (hM.ex e1).fresh na, upd_same, ?_, hl, fun H' st b => ⟨rfl, q a H' (e1.trans (ex_made na nd b)) st⟩⟩
  have := e1 _ _ hp
  rw [upd_ne (ne_of_none this na), upd_ne (ne_of_none this nd)]
  exact this
theorem ok_Run_init {f : Addr} {fd : FuncData} (F : Fun K "__init__" "Run.__init__" s_Run_init f fd) (T : Txt K mg C) (G_Step : HasC P w K mg base 2 "Step" C.Step ["self", "asked"] (sp_Step_init K C)) : FnOk P w K mg base CX0 4 f fd ["self", "numbers", "made", "questions"] (sp_Run_init K C) := by
  refine F.ok sc_Run_init (fun vs H Q E h => ?_) (fun cdv A outer s H vs Q E hr h => ⟨_, (pss_cons (ps_fldK (K := K) rfl (pv 0) (pe_ix (ix_listK (K := K) rfl) (pv 1) pe_int (fun _ _ => rfl)) rfl) (pss_cons (ps_fldK (K := K) rfl (pv 0) (pe_ix (ix_listK (K := K) rfl) (pv 1) pe_int (fun _ _ => rfl)) rfl) (pss_cons (ps_fldK (K := K) rfl (pv 0) (pe_ix (ix_listK (K := K) rfl) (pv 1) pe_int (fun _ _ => rfl)) rfl) (pss_cons (ps_fldK (K := K) rfl (pv 0) (pe_ix (ix_listK (K := K) rfl) (pv 1) pe_int (fun _ _ => rfl)) rfl) (pss_cons (ps_fldK (K := K) rfl (pv 0) (pv 2) rfl) (pss_one (ps_fldK (K := K) rfl (pv 0) (pe_lc (own := [("asked", 4)]) (g := gName 4) (tt := tYes) rfl sc_Run_init.nd (pi_listK (K := K) rfl (pv 3)) (blkOk_by (own := [("asked", 4)]) (N := ["self", "numbers", "made", "questions", "asked"]) (sc := defScope s_Run_init) (by decide +kernel)) (fun _ _ _ _ _ => pg_name (i := 4) sc_Run_init.nd rfl (Or.inl rfl)) (fun _ _ _ _ _ => pts_nil) (fun _ _ _ _ _ => (pe_hasC G_Step (hr.mono (by decide)) rfl (by exact (pa_cons (pv 4) pa_nil))))) rfl))))))), ?_⟩)
  · obtain ⟨M, x, dx, pn, pm, pq, ps, r, rfl, _⟩ := h
    rfl
  · obtain ⟨M, x, dx, pn, pm, pq, ps, r, rfl, hM, hxM, hpmM, hx, hn, hm, hq, hP, hl, k⟩ := h
    have nn : pn ≠ x := ne_of hn hx (by intro z; cases z)
    have nm : pm ≠ x := ne_of hm hx (by intro z; cases z)
    have nq : pq ≠ x := ne_of hq hx (by intro z; cases z)
    refine q_fld (ev_ixN (i := 0) (n := r.id) (ev_var rfl) ev_c hn rfl) (ev_var rfl) hx T.cl_Run T.n_Run_number (by show 0 < 1000; decide) fun H1 e1 => ?_
    have b1 := ((But.refl x H).ex e1).put (o := .ins C.Run dx (putF "number" (.int r.id) []))
    refine q_fld (ev_ixN (i := 1) (n := r.job) (ev_var rfl) ev_c (b1 _ _ hn nn) rfl) (ev_var rfl) upd_same T.cl_Run T.n_Run_job (by show 1 < 1000; decide) fun H2 e2 => ?_
    have b2 := (b1.ex e2).put (o := .ins C.Run dx (putF "job" (.int r.job) (putF "number" (.int r.id) [])))
    refine q_fld (ev_ixN (i := 2) (n := r.machine) (ev_var rfl) ev_c (b2 _ _ hn nn) rfl) (ev_var rfl) upd_same T.cl_Run T.n_Run_machine (by show 2 < 1000; decide) fun H3 e3 => ?_
    have b3 := (b2.ex e3).put (o := .ins C.Run dx (putF "machine" (.int r.machine) (putF "job" (.int r.job) (putF "number" (.int r.id) []))))
    refine q_fld (ev_ixN (i := 3) (n := r.ended) (ev_var rfl) ev_c (b3 _ _ hn nn) rfl) (ev_var rfl) upd_same T.cl_Run T.n_Run_ended (by show 3 < 1000; decide) fun H4 e4 => ?_
    have b4 := (b3.ex e4).put (o := .ins C.Run dx (putF "ended" (.int r.ended) (putF "machine" (.int r.machine) (putF "job" (.int r.job) (putF "number" (.int r.id) [])))))
    refine q_fld (v := .ref pm) (ev_var rfl) (ev_var rfl) upd_same T.cl_Run T.n_Run_made (by show 4 < 1000; decide) fun H5 e5 => ?_
    have b5 := (b4.ex e5).put (o := .ins C.Run dx (putF "made" (.ref pm) (putF "ended" (.int r.ended) (putF "machine" (.int r.machine) (putF "job" (.int r.job) (putF "number" (.int r.id) []))))))
    have hT : Tracked (x :: M) (upd H5 x (.ins C.Run dx (putF "made" (.ref pm) (putF "ended" (.int r.ended) (putF "machine" (.int r.machine) (putF "job" (.int r.job) (putF "number" (.int r.id) [])))))) ) := fun b hb => by
      rcases List.mem_cons.mp hb with c | c
      · rw [c, upd_same]
        exact fun z => by cases z
      · by_cases d : b = x
        · rw [d, upd_same]
          exact fun z => by cases z
        · intro z
          cases q : H b with
          | none => exact hM b c q
          | some o =>
            rw [b5 b o q d] at z
            cases z
    have hlen : (ps.map V.ref).length = r.trace.length := by rw [List.length_map, paired_len hP]
    refine ob_lcL (fun H1 v y => ∃ a, v = .ref a ∧ StepAt C H1 a y) (fun e z => ⟨z.choose, z.choose_spec.1, z.choose_spec.2.mono e⟩) r.trace (ev_var rfl) (b5 _ _ hq nq) hlen (by omega) (fun x => rfl) ?_ _ (Ex.refl _) (x :: M) hT _ fun Dl H6 ys hD e6 h6 hp6 => ?_
    · intro i v y H6 e6 hi hy M' hM' Q' q'
      obtain ⟨p, hp, rfl⟩ := refs_get hi
      obtain ⟨y', hy', h1, h2⟩ := paired_get hP hp
      rw [hy] at hy'
      cases hy'
      exact make_step (ev_var rfl) (e6 _ _ (b5 _ _ h1 (ne_of h1 hx (by intro z; cases z)))) h2 hM' fun a H7 e7 st => q' (.ref a) H7 e7 ⟨a, rfl, st⟩
    · have hx6 := e6 _ _ (upd_same (H := H5) (a := x) (o := .ins C.Run dx (putF "made" (.ref pm) (putF "ended" (.int r.ended) (putF "machine" (.int r.machine) (putF "job" (.int r.job) (putF "number" (.int r.id) [])))))))
      obtain ⟨as, rfl, hA⟩ : ∃ as : List Addr, ys = as.map V.ref ∧ Paired (StepAt C (Fx (x :: M) H6)) as r.trace := refs_of hp6
      refine ⟨_, rfl, x, C.Run, dx, _, rfl, hx6, T.cl_Run, T.n_Run_trace, (by show 5 < 1000; decide), ?_⟩
      have b6 := (b5.ex e6).put (o := .ins C.Run dx (putF "trace" (.ref Dl) (putF "made" (.ref pm) (putF "ended" (.int r.ended) (putF "machine" (.int r.machine) (putF "job" (.int r.job) (putF "number" (.int r.id) [])))))))
      refine k _ ⟨dx, pm, Dl, fx_some hxM ?_, fx_some hpmM ?_, as, fx_some ?_ ?_, ?_⟩ b6
      · rw [upd_same]
        rfl
      · exact b6 _ _ hm nm
      · exact fun c => hT.fresh hD (List.mem_cons_of_mem _ c)
      · rw [upd_ne (ne_of_none' upd_same hD)]
        exact h6
      · rw [← fx_put (M := x :: M) (H := H6) (D := x) List.mem_cons_self] at hA
        exact L2.Paired.mapP hA fun _ _ z => z.mono fx_less
end
end Mine
set_option Elab.async false
set_option linter.all false
set_option maxRecDepth 100000
set_option maxHeartbeats 4000000
namespace Mine
open PySem PySem.Spec PyProof.Rows L2 Evl
open Rp02 (Ask Reply Trace Area askNumbers replyNumbers)

/-- what a told run is like -/
structure Good (e : Rp02.Entry) : Prop where
  kinded : KTr e.trace
  short : e.trace.length ≤ 12
  area : ∀ x ∈ e.trace, x.1.area ≤ e.job
  sorted : Sorted e.made
  few : e.made.length ≤ 6
def EntryAt (C : Ad) (H : Hp) (a : Addr) (e : Rp02.Entry) : Prop := RunAt C H a (rawOf e) ∧ Good e
theorem EntryAt.mono {C : Ad} {H H' : Hp} {a : Addr} {e : Rp02.Entry} (x : Ex H H') (h : EntryAt C H a e) : EntryAt C H' a e := ⟨h.1.mono x, h.2⟩
theorem EntryAt.two {C : Ad} {H : Hp} {a b : Addr} {e f : Rp02.Entry} (h : EntryAt C H a e) (h' : EntryAt C H b f) : TwoRuns C H a b e f := ⟨h.1, h'.1, h.2.kinded, h'.2.kinded, Nat.le_trans h.2.short (by decide), Nat.le_trans h'.2.short (by decide)⟩
/-- a list of told runs -/
def RunsAt (C : Ad) (H : Hp) (p : Addr) (l : List Rp02.Entry) : Prop := ∃ as : List Addr, H p = some (.lst (as.map V.ref)) ∧ Paired (EntryAt C H) as l
theorem RunsAt.mono {C : Ad} {H H' : Hp} {p : Addr} {l : List Rp02.Entry} (x : Ex H H') (h : RunsAt C H p l) : RunsAt C H' p l := by
  obtain ⟨as, h1, h2⟩ := h
  exact ⟨as, x _ _ h1, L2.Paired.mapP h2 fun _ _ q => q.mono x⟩
def sp_found_answer (K : PySem.W.Frag) (C : Ad) : Sp := fun vs H Q _ => ∃ (a : Addr) (r : Raw), vs = [.ref a] ∧ RunAt C H a r ∧ r.made.length ≤ 1000 ∧ RetL (nV ([1, r.id, r.ended] ++ r.made)) H Q
theorem use_found_answer {K : PySem.W.Frag} {C : Ad} {H : Hp} {a : Addr} {r : Raw} (h : RunAt C H a r) (hl : r.made.length ≤ 1000) : SpL (sp_found_answer K C) [.ref a] H (nV ([1, r.id, r.ended] ++ r.made)) := spL_of fun H1 e Q E k => ⟨a, r, rfl, h.mono e, hl, k⟩
def sp_judge (K : PySem.W.Frag) (C : Ad) : Sp := fun vs H Q _ => ∃ (p b : Addr) (l : List Rp02.Entry) (e : Rp02.Entry), vs = [.ref p, .ref b] ∧ RunsAt C H p l ∧ EntryAt C H b e ∧ l.length ≤ 1000 ∧ RetL (nV (judge l e).nums) H Q
theorem use_judge {K : PySem.W.Frag} {C : Ad} {H : Hp} {p b : Addr} {l : List Rp02.Entry} {e : Rp02.Entry} (h1 : RunsAt C H p l) (h2 : EntryAt C H b e) (hl : l.length ≤ 1000) : SpL (sp_judge K C) [.ref p, .ref b] H (nV (judge l e).nums) := spL_of fun H1 x Q E k => ⟨p, b, l, e, rfl, h1.mono x, h2.mono x, hl, k⟩
def sp_numbers_at (K : PySem.W.Frag) (C : Ad) : Sp := fun vs H Q _ => ∃ (p : Addr) (l : List Int) (i : Nat) (x : List Int), vs = [.ref p, .int i] ∧ SqL K H p (iV l) ∧ RowAt l i x ∧ RetL (iV x) H Q
theorem use_numbers_at {K : PySem.W.Frag} {C : Ad} {H : Hp} {p : Addr} {l : List Int} {i : Nat} {x : List Int} (h1 : SqL K H p (iV l)) (h2 : RowAt l i x) : SpL (sp_numbers_at K C) [.ref p, .int i] H (iV x) := spL_of fun H1 e Q E k => ⟨p, l, i, x, rfl, ex_l e h1, h2, k⟩
/-- new lists -/
def NewRows (H H' : Hp) (ps : List Addr) (rows : List (List Int)) : Prop := Paired (fun a x => H a = none ∧ H' a = some (.lst (iV x))) ps rows
def sp_lists_at (K : PySem.W.Frag) (C : Ad) : Sp := fun vs H Q _ => ∃ (p : Addr) (l : List Int) (i : Nat) (rows : List (List Int)), vs = [.ref p, .int i] ∧ SqL K H p (iV l) ∧ l[i]? = some (rows.length : Int) ∧ RowsAt l (i + 1) rows ∧ rows.length ≤ 1000 ∧
  ∀ q H' ps, H q = none → Ex H H' → H' q = some (.lst (ps.map V.ref)) → NewRows H H' ps rows → Q (.ref q) H'
theorem iV_get {l : List Int} {i : Nat} {n : Int} (h : l[i]? = some n) : (iV l)[i]? = some (.int n) := by
  unfold iV
  rw [List.getElem?_map, h]
  rfl
theorem iV_length (l : List Int) : (iV l).length = l.length := List.length_map _
section
variable {K : PySem.W.Frag} {σ : L2.St} {H H' : Hp} {ta tb te : TE}
theorem ev_ixI {p : Addr} {l : List Int} {i : Nat} {n : Int} (ha : Ev ta σ H (.ref p)) (hi : Ev tb σ H (.int (i : Int))) (hp : SqL K H p (iV l)) (hn : l[i]? = some n) : Ev (tOp (rIxL K) ta tb) σ H (.int n) :=
  ev_op ha hi (rv_ixL hp (atI_nat (iV_get hn)))
end
section
variable {P : Program} {w : World} {K : PySem.W.Frag} {mg : Str → Option Value} {base : Heap} {C : Ad}
theorem ok_found_answer {f : Addr} {fd : FuncData} (F : Fun K "found_answer" "found_answer" s_found_answer f fd) (T : Txt K mg C)  : FnOk P w K mg base CX0 1 f fd ["run"] (sp_found_answer K C) := by
  refine F.ok sc_found_answer (fun vs H Q E h => ?_) (fun cdv A outer s H vs Q E hr h => ⟨_, (pss_one (ps_ret (pe_op op_cat (pe_lst (pa_cons pe_int (pa_cons (pe_fldK (K := K) rfl (pv 0) rfl) (pa_cons (pe_fldK (K := K) rfl (pv 0) rfl) pa_nil)))) (pe_fldK (K := K) rfl (pv 0) rfl)))), ?_⟩)
  · obtain ⟨a, r, rfl, _⟩ := h
    rfl
  · obtain ⟨a, r, rfl, ⟨dx, m, t, hR, hm, hT⟩, hl, k⟩ := h
    refine Sx.at (sx_retL (xs := [.int 1, .int r.id, .int r.ended] ++ nV r.made) ?_ ?_)
    · exact el_cat (xs := [.int 1, .int r.id, .int r.ended]) (el_lst (ea_cons ev_c (ea_cons (evRn T (ev_var rfl) hR) (ea_cons (evRe T (ev_var rfl) hR) ea_nil))) (by show 3 ≤ 100000; decide)) (evRd T (ev_var rfl) hR) hm (by rw [nV_length]; show 3 + _ ≤ _; omega)
    · have : nV ([1, r.id, r.ended] ++ r.made) = [.int 1, .int r.id, .int r.ended] ++ nV r.made := by
        unfold nV
        rw [List.map_append]
        rfl
      rw [← this]
      exact k
theorem ok_judge {f : Addr} {fd : FuncData} (F : Fun K "judge" "judge" s_judge f fd) (T : Txt K mg C) (G_are_same : Has P w K mg base 1 "are_same" ["one", "other"] (sp_are_same K C)) (G_contradiction : Has P w K mg base 1 "contradiction" ["one", "other"] (sp_contradiction K C)) : FnOk P w K mg base CX0 2 f fd ["held_runs", "run"] (sp_judge K C) := by
  refine F.ok sc_judge (fun vs H Q E h => ?_) (fun cdv A outer s H vs Q E hr h => ⟨_, (pss_cons (ps_for PassesOwn.never rfl (pi_listK (K := K) rfl (pv 0)) (pg_name (i := 2) sc_judge.nd rfl (Or.inl rfl)) (pss_cons (ps_if (pt_val (pe_has G_are_same hr rfl (by exact (pa_cons (pv 2) (pa_cons (pv 1) pa_nil))))) (pss_one (ps_ret (pe_lst (pa_cons (pe_globI rfl T.g_IS_KNOWN) pa_nil)))) pss_nil) (pss_cons (ps_set (i := 3) sc_judge.nd rfl (Or.inl rfl) (pe_has G_contradiction hr rfl (by exact (pa_cons (pv 2) (pa_cons (pv 1) pa_nil))))) (pss_one (ps_if (pt_cmpR op_notN (pv 3) pe_non (nomark _)) (pss_one (ps_ret (pe_lst (pa_cons (pe_globI rfl T.g_CONTRADICTS) (pa_cons (pe_fldK (K := K) rfl (pv 2) rfl) (pa_cons (pv 3) pa_nil)))))) pss_nil))))) (pss_one (ps_ret (pe_lst (pa_cons (pe_globI rfl T.g_IS_HELD) pa_nil))))), ?_⟩)
  · obtain ⟨p, b, l, e, rfl, _⟩ := h
    rfl
  · obtain ⟨p, b, l, e, rfl, ⟨as, hp, hA⟩, hE, hl, k⟩ := h
    have hlen : (as.map V.ref).length = l.length := by rw [List.length_map, paired_len hA]
    refine q_forLn (ev_var rfl) (sq_of hp) (fun i σ' H' => Ex H H' ∧ (∃ v u, σ' = [some (.ref p), some (.ref b), v, u]) ∧ judge l e = judge (l.drop i) e) ?_ ?_ ?_ ?_
    · exact fun H1 e1 => ⟨e1, ⟨none, none, rfl⟩, by simp⟩
    · exact fun i σ' H' _ h => sq_of (h.1 _ _ hp)
    · rintro i x σ' H' hi ⟨x0, ⟨v, u, rfl⟩, hj⟩
      obtain ⟨a, ha, rfl⟩ := refs_get hi
      obtain ⟨f, hf, hF⟩ := paired_get hA ha
      rw [drop_at hf, judge] at hj
      refine q_when (et_B (ev_call (ea_cons (ev_var rfl) (ea_cons (ev_var rfl) ea_nil)) (use_are_same ((hF.mono x0).two (hE.mono x0))))) ?_ ?_
      · intro hb H1 e1
        rw [if_pos hb] at hj
        rw [hj] at k
        exact s_retL (xs := nV [1]) (el_lst (ea_cons ev_c ea_nil) (by show 1 ≤ 100000; decide)) fun p1 H2 hp1 e2 h2 => k.go (x0.trans e1) hp1 e2 h2
      · intro hb H1 e1
        rw [if_neg (by rw [hb]; decide)] at hj
        have x1 := x0.trans e1
        refine q_asg (ev_call (ea_cons (ev_var rfl) (ea_cons (ev_var rfl) ea_nil)) (use_contradiction ((hF.mono x1).two (hE.mono x1)))) fun H2 e2 => ?_
        have x2 := x1.trans e2
        cases hc : f.clash e with
        | none =>
          rw [hc] at hj
          refine s_when (b := false) (et_test (ev_op (ev_var rfl) ev_c (rv_val fun H3 e3 Q3 q3 => ⟨rfl, q3⟩))) (fun hb => by cases hb) fun _ H3 e3 => ⟨x2.trans e3, ⟨_, _, rfl⟩, hj⟩
        | some n =>
          rw [hc] at hj
          rw [hj] at k
          obtain ⟨dx, m, t, hR, hm, hT⟩ := hF.1
          refine s_when (b := true) (et_test (ev_op (ev_var rfl) ev_c (rv_val fun H3 e3 Q3 q3 => ⟨rfl, q3⟩))) (fun _ H3 e3 => ?_) (fun hb => by cases hb)
          exact s_retL (xs := nV [2, f.id, n]) (el_lst (ea_cons ev_c (ea_cons (evRn T (ev_var rfl) ((x2.trans e3) _ _ hR)) (ea_cons (ev_var rfl) ea_nil))) (by show 3 ≤ 100000; decide)) fun p1 H4 hp1 e4 h4 => k.go (x2.trans e3) hp1 e4 h4
    · rintro σ' H' ⟨x0, ⟨v, u, rfl⟩, hj⟩
      rw [hlen, List.drop_length] at hj
      rw [hj] at k
      exact s_retL (xs := nV [0]) (el_lst (ea_cons ev_c ea_nil) (by show 1 ≤ 100000; decide)) fun p1 H2 hp1 e2 h2 => k.go x0 hp1 e2 h2
theorem ok_numbers_at {f : Addr} {fd : FuncData} (F : Fun K "numbers_at" "numbers_at" s_numbers_at f fd) (T : Txt K mg C)  : FnOk P w K mg base CX0 1 f fd ["calls", "at"] (sp_numbers_at K C) := by
  refine F.ok sc_numbers_at (fun vs H Q E h => ?_) (fun cdv A outer s H vs Q E hr h => ⟨_, (pss_one (ps_ret (pe_slice (sl_listK (K := K) rfl) (pv 0) (po_some (pe_op op_add (pv 1) pe_int)) (po_some (pe_op op_add (pe_op op_add (pv 1) pe_int) (pe_ix (ix_listK (K := K) rfl) (pv 0) (pv 1) (fun _ _ => rfl))))))), ?_⟩)
  · obtain ⟨p, l, i, x, rfl, _⟩ := h
    rfl
  · obtain ⟨p, l, i, x, rfl, hp, hr, k⟩ := h
    refine Sx.at (sx_retL (xs := iV x) ?_ k)
    have h5 := el_sl (K := K) (σ := [some (.ref p), some (.int (i : Int))]) (H := H) (te := tVar 0) (lo := some ((i + 1 : Nat) : Int)) (hi := some ((i + 1 + x.length : Nat) : Int)) (tl := tPart (tOp (rI0 fun i j => V.int (i + j)) (tVar 1) (tC (.int 1)))) (th := tPart (tOp (rI0 fun i j => V.int (i + j)) (tOp (rI0 fun i j => V.int (i + j)) (tVar 1) (tC (.int 1))) (tOp (rIxL K) (tVar 0) (tVar 1)))) (ev_var rfl) (eo_some (ev_op (ev_var rfl) ev_c rv_I0)) (eo_some (ev_is (ev_op (ev_op (ev_var rfl) ev_c rv_I0) (ev_ixI (ev_var rfl) (ev_var rfl) hp hr.size) rv_I0) rfl)) hp
    rw [cut_mid, Nat.add_sub_cancel_left] at h5
    have e : ((iV l).drop (i + 1)).take x.length = iV x := by
      unfold iV
      rw [← List.map_drop, ← List.map_take, hr.what]
    rw [e] at h5
    exact h5
end
end Mine
set_option Elab.async false
set_option linter.all false
set_option maxRecDepth 100000
set_option maxHeartbeats 4000000
namespace Mine
open PySem PySem.Spec PyProof.Rows L2 Evl
theorem used_snoc {rows : List (List Int)} {j : Nat} {x : List Int} (h : rows[j]? = some x) : used (rows.take (j + 1)) = used (rows.take j) + (1 + x.length) := by
  unfold used
  rw [take_succ_at h, List.map_append, List.sum_append]
  simp
section
variable {P : Program} {w : World} {K : PySem.W.Frag} {mg : Str → Option Value} {base : Heap} {C : Ad}
theorem ok_lists_at {f : Addr} {fd : FuncData} (F : Fun K "lists_at" "lists_at" s_lists_at f fd) (T : Txt K mg C) (G_numbers_at : Has P w K mg base 1 "numbers_at" ["calls", "at"] (sp_numbers_at K C)) : FnOk P w K mg base CX0 2 f fd ["calls", "at"] (sp_lists_at K C) := by
  refine F.ok sc_lists_at (fun vs H Q E h => ?_) (fun cdv A outer s H vs Q E hr h => ⟨_, (pss_cons (ps_set (i := 2) sc_lists_at.nd rfl (Or.inl rfl) (pe_lst pa_nil)) (pss_cons (ps_set (i := 3) sc_lists_at.nd rfl (Or.inl rfl) (pe_op op_add (pv 1) pe_int)) (pss_cons (ps_while PassesOwn.never (pt_cmpR op_lt (pe_callB (call_len_seqK (K := K) rfl) (by rfl) T.b_len (by decide +kernel) (pa_cons (pv 2) pa_nil)) (pe_ix (ix_listK (K := K) rfl) (pv 0) (pv 1) (fun _ _ => rfl)) (nomark _)) (pss_cons (ps_set (i := 4) sc_lists_at.nd rfl (Or.inl rfl) (pe_has G_numbers_at hr rfl (by exact (pa_cons (pv 0) (pa_cons (pv 3) pa_nil))))) (pss_cons (ps_expr (pe_bm PySem.F.plainAttrs_list PySem.F.slot_list_append PySem.F.type_list_append mt_append (pv 2) (pa_cons (pv 4) pa_nil))) (pss_one (ps_aug (i := 3) sc_lists_at.nd rfl (Or.inl rfl) (pe_op op_add pe_int (pe_callB (call_len_seqK (K := K) rfl) (by rfl) T.b_len (by decide +kernel) (pa_cons (pv 4) pa_nil))) ip_add))))) (pss_one (ps_ret (pv 2)))))), ?_⟩)
  · obtain ⟨p, l, i, rows, rfl, _⟩ := h
    rfl
  · obtain ⟨p, l, i, rows, rfl, hp, hn, hR, hl, k⟩ := h
    refine q_asgL (xs := []) (el_lst ea_nil (by show 0 ≤ 100000; decide)) fun q H0 hq e0 h0 => ?_
    refine q_asg (v := .int ((i + 1 : Nat) : Int)) (ev_op (ev_var rfl) ev_c rv_I0) fun H1 e1 => ?_
    refine q_while (fun m σ' H' => ∃ j ps v, m = rows.length - j ∧ j ≤ rows.length ∧ Ex H H' ∧ H' q = some (.lst (ps.map V.ref)) ∧ Paired (fun a x => H a = none ∧ a ≠ q ∧ H' a = some (.lst (iV x))) ps (rows.take j) ∧ σ' = [some (.ref p), some (.int i), some (.ref q), some (.int ((i + 1 + used (rows.take j) : Nat) : Int)), v]) rows.length ?_ ?_
    · exact ⟨0, [], none, rfl, Nat.zero_le _, e0.trans e1, e1 _ _ h0, .nil, rfl⟩
    · rintro m σ' H' ⟨j, ps, v, rfl, hj, x, hqq, hP, rfl⟩
      have hlen : (ps.map V.ref).length = j := by rw [List.length_map, paired_len hP, List.length_take]; omega
      refine ⟨decide ((j : Int) < (rows.length : Int)), et_test (ev_op (ev_lenN' (ev_var rfl) (sq_of hqq) hlen) (ev_ixI (ev_var rfl) (ev_var rfl) (ex_l x hp) hn) rv_I0), ?_, ?_⟩
      · intro hb H2 e2
        have hjl : j < rows.length := by have := of_decide_eq_true hb; omega
        have hx := List.getElem?_eq_getElem hjl
        have x2 := x.trans e2
        refine ⟨_, fun σ2 H3 z => z, ?_⟩
        refine q_asgL (el_call (ea_cons (ev_var rfl) (ea_cons (ev_var rfl) ea_nil)) (use_numbers_at (ex_l x2 hp) (hR.get hx))) fun a H3 ha e3 h3 => ?_
        have haq : a ≠ q := ne_of_none' (e2 _ _ hqq) ha
        refine q_app (e3 _ _ (e2 _ _ hqq)) (ev_var rfl) (ev_var rfl) (by rw [hlen]; omega) fun H4 e4 => ?_
        have ha4 : upd H4 q (.lst (ps.map V.ref ++ [.ref a])) a = some (.lst (iV (rows[j]'hjl))) := by
          rw [upd_ne haq]
          exact e4 _ _ h3
        refine s_aug (f := fun x y => x + y) (a := ((i + 1 + used (rows.take j) : Nat) : Int)) (b := ((1 + (rows[j]'hjl).length : Nat) : Int)) rfl ?_ fun H5 e5 => ?_
        · refine ev_is (ev_op ev_c (ev_lenN' (K := K) (ev_var rfl) (sq_of ha4) (iV_length _)) rv_I0) (congrArg V.int (by omega))
        · have x5 : Ex H H5 := Ex.trans (Ex.mut ((x2.trans e3).trans e4) hq) e5
          refine ⟨rows.length - (j + 1), by omega, j + 1, ps ++ [a], some (.ref a), rfl, hjl, x5, ?_, ?_, ?_⟩
          · rw [List.map_append]
            exact e5 _ _ upd_same
          · rw [take_succ_at hx]
            refine paired_snoc (L2.Paired.mapP hP fun b y z => ⟨z.1, z.2.1, e5 _ _ ?_⟩) ⟨fresh_back x2 ha, haq, e5 _ _ ha4⟩
            rw [upd_ne z.2.1]
            exact e4 _ _ (e3 _ _ (e2 _ _ z.2.2))
          · rw [used_snoc hx]
            show [_, _, _, _, _] = _
            congr 4
            refine congrArg some (congrArg V.int ?_)
            omega
      · intro hb H2 e2
        have : j = rows.length := by have := of_decide_eq_false hb; omega
        subst this
        rw [List.take_length] at hP
        exact s_ret (ev_var rfl) fun H3 e3 => k q H3 ps hq ((x.trans e2).trans e3) (e3 _ _ (e2 _ _ hqq)) (L2.Paired.mapP hP fun b y z => ⟨z.1, e3 _ _ (e2 _ _ z.2.2)⟩)
end
end Mine
set_option Elab.async false
set_option linter.all false
set_option maxRecDepth 100000
set_option maxHeartbeats 4000000
namespace Mine
open PySem PySem.Spec PyProof.Rows L2 Evl
open Rp02 (Ask Reply Trace Area askNumbers replyNumbers)

/-! ### the table of the lambda's code -/
def lamQ : Str := (("House.nearest" : Str) ++ ".<locals>.") ++ "<lambda>"
/-- what is neither a table nor a code object -/
def plainO : HO → Prop
  | .tbl _ => False
  | .ext _ => False
  | _ => True
theorem tab_keep {H H' : Hp} {P : Addr} {q : Str} (t : LamX.TabS H P q) (k : ∀ b o, H b = some o → ¬ plainO o → H' b = some o) : LamX.TabS H' P q := by
  obtain ⟨ps, h1, h2, h3⟩ := t
  refine ⟨ps, k _ _ h1 (fun z => z), h2, fun pos cv hc => ?_⟩
  exact (h3 pos cv hc).imp fun c z => ⟨z.1, k _ _ z.2 (fun y => y)⟩
theorem tab_put {H : Hp} {P : Addr} {q : Str} (t : LamX.TabS H P q) {d : Addr} {o o' : HO} (hd : H d = some o) (ho : plainO o) : LamX.TabS (upd H d o') P q :=
  tab_keep t fun b u hb hu => by
    have : b ≠ d := fun z => by
      rw [z, hd] at hb
      cases hb
      exact hu ho
    rw [upd_ne this]
    exact hb
theorem tab_but {H H' : Hp} {P : Addr} {q : Str} (t : LamX.TabS H P q) {d : Addr} {o : HO} (hd : H d = some o) (ho : plainO o) (k : But d H H') : LamX.TabS H' P q :=
  tab_keep t fun b u hb hu => k b u hb fun z => by
    rw [z, hd] at hb
    cases hb
    exact hu ho
theorem tab_at {H : Hp} {P : Addr} {q : Str} (t : LamX.TabS H P q) : ∃ ps, H P = some (.tbl ps) := by
  obtain ⟨ps, h1, _⟩ := t
  exact ⟨ps, h1⟩
/-! ### the house in the heap -/
def fH (jobs : Nat) (pa pt ph pd : Addr) : List (Str × V) := [("jobs", .int (jobs : Int)), ("areas", .ref pa), ("told_runs", .ref pt), ("held_runs", .ref ph), ("distrusted", .ref pd)]
structure HA where
  x : Addr
  dx : Addr
  pa : Addr
  pt : Addr
  ph : Addr
  pd : Addr
  ds : List Addr
  ts : List Addr
  hs : List Addr
  /-- what others change: no told run reads it -/
  ge : List Addr
/-- what a call may change -/
def HA.mut (A : HA) : List Addr := A.x :: A.pa :: A.pt :: A.ph :: A.pd :: A.ds
def HA.off (A : HA) : List Addr := A.ge ++ A.mut
theorem HA.in_off {A : HA} {b : Addr} (h : b ∈ A.mut) : b ∈ A.off := List.mem_append.mpr (.inr h)
theorem off_mut {A : HA} {H : Hp} : Ex (Fx A.off H) (Fx A.mut H) := fun _ _ h => fx_some (fun c => (fx_inv h).1 (HA.in_off c)) (fx_inv h).2
structure HInv (h : Rp02.House) : Prop where
  wl : h.world.length = h.jobs + 1
  j1 : 1 ≤ h.jobs
  j6 : h.jobs ≤ 6
  log30 : h.log.length ≤ 30
  jobs : ∀ e ∈ h.log, e.job < h.jobs
  src : (h.world.getD 0 []).length ≤ 30
structure HouseAt (C : Ad) (H : Hp) (A : HA) (h : Rp02.House) : Prop where
  ins : H A.x = some (.ins C.House A.dx (fH h.jobs A.pa A.pt A.ph A.pd))
  areas : H A.pa = some (.lst (A.ds.map V.ref))
  dicts : Paired (AreaAt H) A.ds h.world
  told : H A.pt = some (.lst (A.ts.map V.ref))
  runs : Paired (EntryAt C (Fx A.off H)) A.ts h.log
  held : H A.ph = some (.lst (A.hs.map V.ref))
  hruns : Paired (EntryAt C (Fx A.off H)) A.hs (Rp02.taken h.log)
  out : ∃ kvs, H A.pd = some (.dK kvs) ∧ kvs.map (fun kv => kv.1) = h.out.map fun (m : Nat) => (Sum.inl (m : Int) : Key)
  nd : A.mut.Nodup
  inv : HInv h
  tab : LamX.TabS H C.tab lamQ
  tin : C.tab ∈ A.ge
theorem HouseAt.mono {C : Ad} {H H' : Hp} {A : HA} {h : Rp02.House} (e : Ex H H') (a : HouseAt C H A h) : HouseAt C H' A h := by
  obtain ⟨h1, h2, h3, h4, h5, h6, h7, ⟨kvs, h8, h9⟩, h10, h11, h12, h13⟩ := a
  exact ⟨e _ _ h1, e _ _ h2, L2.Paired.mapP h3 fun _ _ q => q.mono e, e _ _ h4, L2.Paired.mapP h5 fun _ _ q => q.mono (fx_mono e), e _ _ h6, L2.Paired.mapP h7 fun _ _ q => q.mono (fx_mono e), ⟨kvs, e _ _ h8, h9⟩, h10, h11, h12.ext e, h13⟩
theorem HouseAt.areasAt {C : Ad} {H : Hp} {A : HA} {h : Rp02.House} (a : HouseAt C H A h) : AreasAt H A.pa h.world := ⟨A.ds, a.areas, a.dicts⟩
theorem HouseAt.heldAt {C : Ad} {H : Hp} {A : HA} {h : Rp02.House} (a : HouseAt C H A h) : RunsAt C H A.ph (Rp02.taken h.log) := ⟨A.hs, a.held, L2.Paired.mapP a.hruns fun _ _ q => q.mono fx_ex⟩
theorem HouseAt.toldAt {C : Ad} {H : Hp} {A : HA} {h : Rp02.House} (a : HouseAt C H A h) : RunsAt C H A.pt h.log := ⟨A.ts, a.told, L2.Paired.mapP a.runs fun _ _ q => q.mono fx_ex⟩
theorem HouseAt.tracked {C : Ad} {H : Hp} {A : HA} {h : Rp02.House} (a : HouseAt C H A h) : Tracked A.mut H := by
  intro b hb
  unfold HA.mut at hb
  simp only [List.mem_cons] at hb
  rcases hb with c | c | c | c | c | c
  · rw [c, a.ins]; exact fun z => by cases z
  · rw [c, a.areas]; exact fun z => by cases z
  · rw [c, a.told]; exact fun z => by cases z
  · rw [c, a.held]; exact fun z => by cases z
  · obtain ⟨kvs, h8, _⟩ := a.out
    rw [c, h8]; exact fun z => by cases z
  · obtain ⟨i, hi⟩ := List.mem_iff_getElem?.mp c
    obtain ⟨y, _, l, hl, _⟩ := paired_get a.dicts hi
    rw [hl]; exact fun z => by cases z
/-- an answer as a list -/
def ansV (a : Rp02.Ans) : List V := .int a.v :: nV a.l
/-- what a method of the house promises: the specification's step -/
def After (C : Ad) (H : Hp) (A : HA) (h' : Rp02.House) (a : Rp02.Ans) (Q : VK) : Prop :=
  ∀ H' A' p, HouseAt C H' A' h' → A'.x = A.x → A'.ge = A.ge → Ex (Fx A.mut H) (Fx A'.mut H') → p ∉ A'.mut → H' p = some (.lst (ansV a)) → Q (.ref p) H'
/-- .. that may also change the table -/
def AfterT (C : Ad) (H : Hp) (A : HA) (h' : Rp02.House) (a : Rp02.Ans) (Q : VK) : Prop :=
  ∀ H' A' p, HouseAt C H' A' h' → A'.x = A.x → A'.ge = A.ge → Ex (Fx (C.tab :: A.mut) H) (Fx (C.tab :: A'.mut) H') → p ∉ A'.mut → p ≠ C.tab → H' p = some (.lst (ansV a)) → Q (.ref p) H'
theorem fx_cons {M M' : List Addr} {d : Addr} {H H' : Hp} (e : Ex (Fx M H) (Fx M' H')) : Ex (Fx (d :: M) H) (Fx (d :: M') H') := fun b o h => by
  obtain ⟨h1, h2⟩ := fx_inv h
  obtain ⟨h3, h4⟩ := fx_inv (e b o (fx_some (fun c => h1 (List.mem_cons_of_mem _ c)) h2))
  refine fx_some (fun c => ?_) h4
  rcases List.mem_cons.mp c with c | c
  · exact h1 (by rw [c]; exact List.mem_cons_self)
  · exact h3 c
theorem AfterT.after {C : Ad} {H : Hp} {A : HA} {h' : Rp02.House} {a : Rp02.Ans} {Q : VK} (k : AfterT C H A h' a Q) : After C H A h' a Q := fun H' A' p h1 h2 h3 h4 h5 h6 => by
  refine k H' A' p h1 h2 h3 (fx_cons h4) h5 ?_ h6
  obtain ⟨ps, hp⟩ := tab_at h1.tab
  exact ne_of h6 hp (by intro z; cases z)
/-- .. that changes nothing -/
theorem After.same {C : Ad} {H : Hp} {A : HA} {h : Rp02.House} {a : Rp02.Ans} {Q : VK} (k : After C H A h a Q) (hA : HouseAt C H A h) : RetL (ansV a) H Q := fun p H2 hp e h2 =>
  k H2 A p (hA.mono e) rfl rfl (fx_mono e) (hA.tracked.fresh hp) h2
section
variable {K : PySem.W.Frag} {mg : Str → Option Value} {C : Ad} {σ : L2.St} {H H' : Hp} {ta tb te : TE} {a dx pa pt ph pd : Addr} {n : Nat}
theorem evHj (T : Txt K mg C) (h : Ev ta σ H (.ref a)) (ho : H a = some (.ins C.House dx (fH n pa pt ph pd))) : Ev (tFld K ta "jobs") σ H (.int (n : Int)) := ev_fld h ho T.cl_House T.n_House_jobs lk_here
theorem evHa (T : Txt K mg C) (h : Ev ta σ H (.ref a)) (ho : H a = some (.ins C.House dx (fH n pa pt ph pd))) : Ev (tFld K ta "areas") σ H (.ref pa) := ev_fld h ho T.cl_House T.n_House_areas ((lk_past (by decide +kernel)).trans lk_here)
theorem evHt (T : Txt K mg C) (h : Ev ta σ H (.ref a)) (ho : H a = some (.ins C.House dx (fH n pa pt ph pd))) : Ev (tFld K ta "told_runs") σ H (.ref pt) := ev_fld h ho T.cl_House T.n_House_told_runs ((lk_past (by decide +kernel)).trans ((lk_past (by decide +kernel)).trans lk_here))
theorem evHh (T : Txt K mg C) (h : Ev ta σ H (.ref a)) (ho : H a = some (.ins C.House dx (fH n pa pt ph pd))) : Ev (tFld K ta "held_runs") σ H (.ref ph) := ev_fld h ho T.cl_House T.n_House_held_runs ((lk_past (by decide +kernel)).trans ((lk_past (by decide +kernel)).trans ((lk_past (by decide +kernel)).trans lk_here)))
theorem evHd (T : Txt K mg C) (h : Ev ta σ H (.ref a)) (ho : H a = some (.ins C.House dx (fH n pa pt ph pd))) : Ev (tFld K ta "distrusted") σ H (.ref pd) := ev_fld h ho T.cl_House T.n_House_distrusted ((lk_past (by decide +kernel)).trans ((lk_past (by decide +kernel)).trans ((lk_past (by decide +kernel)).trans ((lk_past (by decide +kernel)).trans lk_here))))
/-- no field of the house bears such a name -/
theorem fH_no {m : Str} (h1 : (m == ("jobs" : Str)) = false) (h2 : (m == ("areas" : Str)) = false) (h3 : (m == ("told_runs" : Str)) = false) (h4 : (m == ("held_runs" : Str)) = false) (h5 : (m == ("distrusted" : Str)) = false) : (fH n pa pt ph pd).lookup m = none :=
  (lk_past h1).trans ((lk_past h2).trans ((lk_past h3).trans ((lk_past h4).trans ((lk_past h5).trans rfl))))
end
/-! ### a new house's fields -/
def oldF (fs : List (Str × V)) : Prop := fs = [] ∨ ∃ j a b c d, fs = fH j a b c d
theorem new_fields {fs : List (Str × V)} (h : oldF fs) (n : Nat) (pa pt ph pd : Addr) : putF "distrusted" (.ref pd) (putF "held_runs" (.ref ph) (putF "told_runs" (.ref pt) (putF "areas" (.ref pa) (putF "jobs" (.int (n : Int)) fs)))) = fH n pa pt ph pd := by
  rcases h with rfl | ⟨j, a, b, c, d, rfl⟩
  · rfl
  · rfl
theorem putF_length (f : Str) (v : V) (fs : List (Str × V)) : (putF f v fs).length ≤ fs.length + 1 := by
  induction fs with
  | nil => exact Nat.le_refl _
  | cons p r ih =>
    unfold putF
    split
    · simp
    · simp only [List.length_cons]
      omega
/-! ### areas by their dicts -/
theorem area_nil : InDict [] [] := ⟨List.Perm.refl _, by simp [Sorted]⟩
theorem AreaAt.new {H : Hp} {d : Addr} (h : H d = some (.dK [])) : AreaAt H d [] := ⟨[], h, area_nil, by decide⟩
def putL (l : List (Nat × Nat)) (n c : Nat) : List (Nat × Nat) := if (l.any fun f => f.1 == n) = true then l.map (fun f => if f.1 = n then (n, c) else f) else l ++ [(n, c)]
theorem putK_kvN (l : List (Nat × Nat)) (n c : Nat) : putK (kvN l) (Sum.inl (n : Int)) (.int (c : Int)) = kvN (putL l n c) := by
  unfold putK putL
  have e : ((kvN l).any fun kv => decide (kv.1 = (Sum.inl (n : Int) : Key))) = l.any fun f => f.1 == n := by
    unfold kvN
    rw [List.any_map]
    congr 1
    funext f
    show decide ((Sum.inl (f.1 : Int) : Key) = Sum.inl (n : Int)) = (f.1 == n)
    rw [Bool.eq_iff_iff]
    simp only [decide_eq_true_eq, Sum.inl.injEq, beq_iff_eq]
    omega
  rw [e]
  split
  · unfold kvN
    rw [List.map_map, List.map_map]
    refine List.map_congr_left fun f _ => ?_
    show (if (Sum.inl (f.1 : Int) : Key) = Sum.inl (n : Int) then _ else _) = _
    by_cases c1 : f.1 = n
    · rw [if_pos (by rw [c1])]
      show _ = ((fun f : Nat × Nat => ((Sum.inl (f.1 : Int) : Key), V.int (f.2 : Int))) (if f.1 = n then (n, c) else f))
      rw [if_pos c1]
      show ((Sum.inl (f.1 : Int) : Key), V.int (c : Int)) = ((Sum.inl (n : Int) : Key), V.int (c : Int))
      rw [c1]
    · rw [if_neg (by simp only [Sum.inl.injEq]; omega)]
      show _ = ((fun f : Nat × Nat => ((Sum.inl (f.1 : Int) : Key), V.int (f.2 : Int))) (if f.1 = n then (n, c) else f))
      rw [if_neg c1]
  · unfold kvN
    rw [List.map_append]
    rfl
theorem any_find {l : List (Nat × Nat)} {n : Nat} : (l.any fun f => f.1 == n) = (Rp02.find l n).isSome := by
  unfold Rp02.find
  rw [Option.isSome_map]
  induction l with
  | nil => rfl
  | cons f r ih =>
    rw [List.any_cons, List.find?_cons, ih]
    cases f.1 == n <;> rfl
theorem putL_in {l : List (Nat × Nat)} {a : Area} (h : InDict l a) (n c : Nat) : InDict (putL l n c) (Rp02.insert n c a) := by
  refine ⟨?_, insert_sorted h.sorted⟩
  unfold putL
  rw [any_find, find_perm h]
  cases q : Rp02.find a n with
  | none =>
    rw [if_neg (by simp)]
    exact (List.Perm.append_right _ h.perm).trans (insert_perm q).symm
  | some d =>
    rw [if_pos (by simp), insert_set h.sorted ⟨d, find_some_mem q⟩]
    exact h.perm.map _
theorem putL_length {l : List (Nat × Nat)} {n c : Nat} : (putL l n c).length = if (Rp02.find l n).isSome = true then l.length else l.length + 1 := by
  unfold putL
  rw [any_find]
  split <;> simp
theorem dropK_kvN (l : List (Nat × Nat)) (n : Nat) : dropK (kvN l) (Sum.inl (n : Int)) = kvN (l.filter fun f => f.1 != n) := by
  unfold dropK kvN
  rw [List.filter_map]
  congr 1
  refine List.filter_congr fun f _ => ?_
  show decide ((Sum.inl (f.1 : Int) : Key) ≠ Sum.inl (n : Int)) = (f.1 != n)
  rw [Bool.eq_iff_iff]
  simp only [decide_eq_true_eq, ne_eq, Sum.inl.injEq, bne_iff_ne]
  omega
theorem drop_in {l : List (Nat × Nat)} {a : Area} (h : InDict l a) (n : Nat) : InDict (l.filter fun f => f.1 != n) (a.filter fun f => f.1 != n) := ⟨h.perm.filter _, filter_sorted h.sorted⟩
theorem drop_length {a : Area} {n : Nat} (hs : Sorted a) (h : (Rp02.find a n).isSome = true) : (a.filter fun f => f.1 != n).length = a.length - 1 := by
  induction a with
  | nil => simp [Rp02.find] at h
  | cons f r ih =>
    have hs' : (f.1 :: (r.map fun f => f.1)).Pairwise (· < ·) := hs
    obtain ⟨h1, h2⟩ := List.pairwise_cons.mp hs'
    by_cases e : f.1 = n
    · have : (f.1 != n) = false := by simp [e]
      rw [List.filter_cons, this, if_neg (by decide)]
      have : r.filter (fun f => f.1 != n) = r := List.filter_eq_self.mpr fun g hg => by
        have := h1 g.1 (List.mem_map.mpr ⟨g, hg, rfl⟩)
        simp only [bne_iff_ne, ne_eq]
        omega
      rw [this]
      simp
    · have t : (f.1 != n) = true := by simpa using e
      rw [List.filter_cons, t, if_pos rfl, List.length_cons, List.length_cons]
      have hf : (Rp02.find r n).isSome = true := by
        have b : (f.1 == n) = false := by simpa using e
        simpa [Rp02.find, List.find?_cons, b] using h
      rw [ih h2 hf]
      have : r.length ≠ 0 := fun z => by
        rw [List.length_eq_zero_iff.mp z] at hf
        simp [Rp02.find] at hf
      omega
theorem find_isNone {a : Area} {n : Nat} : (Rp02.find a n).isNone = !(Rp02.find a n).isSome := by cases Rp02.find a n <;> rfl
end Mine
set_option Elab.async false
set_option linter.all false
set_option maxRecDepth 100000
set_option maxHeartbeats 4000000
namespace Mine
open PySem PySem.Spec PyProof.Rows L2 Evl
open Rp02 (Ask Reply Trace Area askNumbers replyNumbers)
theorem areas_new {H : Hp} : ∀ {ds : List Addr} {n : Nat}, ds.length = n → (∀ d ∈ ds, H d = some (.dK [])) → Paired (AreaAt H) ds (List.replicate n [])
  | [], _, h, _ => by
    subst h
    exact .nil
  | d :: ds, _, h, hd => by
    subst h
    exact .cons (AreaAt.new (hd d List.mem_cons_self)) (areas_new rfl fun c hc => hd c (List.mem_cons_of_mem _ hc))
section
variable {K : PySem.W.Frag} {σ : L2.St} {H H' : Hp} {te ta : TE} {D : Ends} {tz : TS}
theorem lc_dicts {n : Nat} {tg : TA} {j : Nat} {vs : List Nat} (h : EvA tg σ H [.int (n : Int)]) (hz : n ≤ 40000) (hw : ∀ x, wipe ((wipe σ vs).set j (some x)) vs = wipe σ vs) (H0 : Hp) (e0 : Ex H H0) (Q : VK)
    (q : ∀ p H2 ds, H0 p = none → Ex H0 H2 → H2 p = some (.lst (ds.map V.ref)) → ds.length = n → (p :: ds).Nodup → (∀ d ∈ ds, H0 d = none ∧ H2 d = some (.dK [])) → Q (.ref p) H2) : tLc (iRng1 tg) (gName j) tYes tDNewK vs σ H0 Q := by
  refine h H0 e0 _ fun H1 e1 => ⟨(n : Int), rfl, by omega, by omega, fun p hp => ?_⟩
  refine lc_range (lo := 0) (n := (n : Int).toNat) (fun i H' => Ex H1 H' ∧ ∃ ds : List Addr, H' p = some (.lst (ds.map V.ref)) ∧ ds.length = i ∧ (p :: ds).Nodup ∧ ∀ d ∈ ds, H1 d = none ∧ H' d = some (.dK [])) ⟨Ex.new hp, [], upd_same, rfl, by simp, fun d hd => by cases hd⟩ ?_ ?_
  · rintro i H' hi ⟨e, ds, hy, hyl, hnd, hd⟩
    refine ⟨hw _, ?_⟩
    intro d nd
    have hdp : d ≠ p := ne_of_none' hy nd
    have hnot : d ∉ ds := fun c => by
      have := (hd d c).2
      rw [nd] at this
      cases this
    have e' : Ex H1 (upd H' d (.dK [])) := e.trans (Ex.new nd)
    refine ⟨ds.map V.ref, ?_, ?_, Ex.mut e' hp, ds ++ [d], ?_, ?_, ?_, ?_⟩
    · rw [upd_ne (Ne.symm hdp)]
      exact hy
    · rw [List.length_map]
      exact sz_lt (by omega)
    · rw [List.map_append]
      exact upd_same
    · rw [List.length_append, hyl]
      rfl
    · rw [show p :: (ds ++ [d]) = (p :: ds) ++ [d] from rfl]
      refine nd_snoc hnd fun c => ?_
      rcases List.mem_cons.mp c with c | c
      · exact hdp c
      · exact hnot c
    · intro c hc
      rcases List.mem_append.mp hc with hc | hc
      · have hcp : c ≠ p := fun z => by
          subst z
          exact (List.nodup_cons.mp hnd).1 hc
        have hcd : c ≠ d := fun z => hnot (z ▸ hc)
        rw [upd_ne hcp, upd_ne hcd]
        exact hd c hc
      · rw [List.mem_singleton.mp hc, upd_ne hdp, upd_same]
        exact ⟨fresh_back e nd, rfl⟩
  · rintro H' ⟨e, ds, hy, hyl, hnd, hd⟩
    exact q p H' ds (fresh_back e1 hp) (e1.trans e) hy (by omega) hnd fun d c => ⟨fresh_back e1 (hd d c).1, (hd d c).2⟩
end
/-! ### promises -/
def sp_empty_areas (K : PySem.W.Frag) (C : Ad) : Sp := fun vs H Q _ => ∃ n : Nat, vs = [.int (n : Int)] ∧ n ≤ 1000 ∧ ∀ p H2 ds, H p = none → Ex H H2 → H2 p = some (.lst (ds.map V.ref)) → ds.length = n → (p :: ds).Nodup → (∀ d ∈ ds, H d = none ∧ H2 d = some (.dK [])) → Q (.ref p) H2
/-- [d0] + empty_areas(n), from the first list's items on -/
theorem cat_rest {K : PySem.W.Frag} {C : Ad} {σ : L2.St} {H : Hp} {tn : TE} {d0 : Addr} {n : Nat} {Q : VK} (hn : n ≤ 1000) (en : Ev tn σ H (.int (n : Int)))
    (q : ∀ p H2 ds, H p = none → Ex H H2 → H2 p = some (.lst ((d0 :: ds).map V.ref)) → ds.length = n → (p :: ds).Nodup → (∀ d ∈ ds, H d = none ∧ H2 d = some (.dK [])) → Q (.ref p) H2) :
    ([V.ref d0] : List V).length ≤ sizeLine ∧ ∀ l, H l = none → tCall (sp_empty_areas K C) [] E0 (tCons tn tNil) σ (upd H l (.lst [.ref d0])) fun y H2 => rCat (.ref l) y H2 Q := by
  refine ⟨by show 1 ≤ sizeLine; decide, fun l hl => ?_⟩
  refine en _ (Ex.new hl) _ fun H1 e1 => ⟨n, rfl, hn, fun p H2 ds hp e2 h2 hdl hnd hd => ?_⟩
  have x2 : Ex H H2 := (Ex.new hl).trans (e1.trans e2)
  refine ⟨l, p, [.ref d0], ds.map V.ref, rfl, rfl, e2 _ _ (e1 _ _ upd_same), h2, sz_of (by rw [List.length_map]; show 1 + ds.length ≤ _; omega), fun r hr => ?_⟩
  have hrd : ∀ d ∈ ds, d ≠ r := fun d hd' => ne_of_none (hd d hd').2 hr
  refine q r _ ds (fresh_back x2 hr) (x2.trans (Ex.new hr)) upd_same hdl (List.nodup_cons.mpr ⟨fun c => hrd r c rfl, (List.nodup_cons.mp hnd).2⟩) fun d hd' => ⟨fresh_back ((Ex.new hl).trans e1) (hd d hd').1, ?_⟩
  rw [upd_ne (hrd d hd')]
  exact (hd d hd').2
def sp_House_make_new (K : PySem.W.Frag) (C : Ad) : Sp := fun vs H Q _ => ∃ (ge : List Addr) (x dx : Addr) (fs : List (Str × V)) (n : Nat), vs = [.ref x, .int (n : Int)] ∧ H x = some (.ins C.House dx fs) ∧ oldF fs ∧ 1 ≤ n ∧ n ≤ 6 ∧ C.tab ∈ ge ∧ LamX.TabS H C.tab lamQ ∧
  ∀ H' A, A.x = x → A.ge = ge → HouseAt C H' A ⟨n, List.replicate (n + 1) [], [], []⟩ → But x H H' → (∀ b ∈ A.mut, b = x ∨ H b = none) → Q .non H'
def sp_House_init (K : PySem.W.Frag) (C : Ad) : Sp := fun vs H Q _ => ∃ (ge : List Addr) (x dx : Addr), vs = [.ref x] ∧ H x = some (.ins C.House dx []) ∧ C.tab ∈ ge ∧ LamX.TabS H C.tab lamQ ∧
  ∀ H' A, A.x = x → A.ge = ge → HouseAt C H' A Rp02.init → But x H H' → (∀ b ∈ A.mut, b = x ∨ H b = none) → Q .non H'
def sp_House_begins (K : PySem.W.Frag) (C : Ad) : Sp := fun vs H Q _ => ∃ (A : HA) (h : Rp02.House) (n : Nat), vs = [.ref A.x, .int (n : Int)] ∧ HouseAt C H A h ∧ After C H A (Rp02.step h (.begins n)).1 (Rp02.step h (.begins n)).2 Q
def sp_House_put (K : PySem.W.Frag) (C : Ad) : Sp := fun vs H Q _ => ∃ (A : HA) (h : Rp02.House) (n c : Nat), vs = [.ref A.x, .int (n : Int), .int (c : Int)] ∧ HouseAt C H A h ∧ After C H A (Rp02.step h (.put n c)).1 (Rp02.step h (.put n c)).2 Q
def sp_House_drop (K : PySem.W.Frag) (C : Ad) : Sp := fun vs H Q _ => ∃ (A : HA) (h : Rp02.House) (n : Nat), vs = [.ref A.x, .int (n : Int)] ∧ HouseAt C H A h ∧ After C H A (Rp02.step h (.drop n)).1 (Rp02.step h (.drop n)).2 Q
theorem inv_new {n : Nat} (h1 : 1 ≤ n) (h6 : n ≤ 6) : HInv ⟨n, List.replicate (n + 1) [], [], []⟩ := ⟨List.length_replicate, h1, h6, Nat.zero_le _, (fun e he => nomatch he), (by simp [List.replicate_succ])⟩
section
variable {P : Program} {w : World} {K : PySem.W.Frag} {mg : Str → Option Value} {base : Heap} {C : Ad}
theorem ok_empty_areas {f : Addr} {fd : FuncData} (F : Fun K "empty_areas" "empty_areas" s_empty_areas f fd) (T : Txt K mg C)  : FnOk P w K mg base CX0 1 f fd ["jobs"] (sp_empty_areas K C) := by
  refine F.ok sc_empty_areas (fun vs H Q E h => ?_) (fun cdv A outer s H vs Q E hr h => ⟨_, (pss_one (ps_ret (pe_lc (own := [("job", 1)]) (g := gName 1) (tt := tYes) rfl sc_empty_areas.nd (pi_range1 rfl T.b_range (pa_cons (pv 0) pa_nil)) (blkOk_by (own := [("job", 1)]) (N := ["jobs", "job"]) (sc := defScope s_empty_areas) (by decide +kernel)) (fun _ _ _ _ _ => pg_name (i := 1) sc_empty_areas.nd rfl (Or.inl rfl)) (fun _ _ _ _ _ => pts_nil) (fun _ _ _ _ _ => pe_dnewK)))), ?_⟩)
  · obtain ⟨n, rfl, _⟩ := h
    rfl
  · obtain ⟨n, rfl, hn, k⟩ := h
    exact lc_dicts (n := n) (ea_cons (ev_var rfl) ea_nil) (by omega) (fun v => rfl) H (Ex.refl H) _ k
theorem ok_House_make_new {f : Addr} {fd : FuncData} (F : Fun K "make_new" "House.make_new" s_House_make_new f fd) (T : Txt K mg C) (G_empty_areas : Has P w K mg base 1 "empty_areas" ["jobs"] (sp_empty_areas K C)) : FnOk P w K mg base CX0 2 f fd ["self", "jobs"] (sp_House_make_new K C) := by
  refine F.ok sc_House_make_new (fun vs H Q E h => ?_) (fun cdv A outer s H vs Q E hr h => ⟨_, (pss_cons (ps_fldK (K := K) rfl (pv 0) (pv 1) rfl) (pss_cons (ps_fldK (K := K) rfl (pv 0) (pe_op op_cat (pe_lst (pa_cons pe_dnewK pa_nil)) (pe_has G_empty_areas hr rfl (by exact (pa_cons (pv 1) pa_nil)))) rfl) (pss_cons (ps_fldK (K := K) rfl (pv 0) (pe_lst pa_nil) rfl) (pss_cons (ps_fldK (K := K) rfl (pv 0) (pe_lst pa_nil) rfl) (pss_one (ps_fldK (K := K) rfl (pv 0) pe_dnewK rfl)))))), ?_⟩)
  · obtain ⟨ge, x, dx, fs, n, rfl, _⟩ := h
    rfl
  · obtain ⟨ge, x, dx, fs, n, rfl, hx, hf, h1, h6, htin, htab, k⟩ := h
    have hfl : fs.length ≤ 5 := by
      rcases hf with rfl | ⟨j, a, b, c, d, rfl⟩
      · exact Nat.zero_le _
      · exact Nat.le_refl _
    refine q_fld (v := .int (n : Int)) (ev_var rfl) (ev_var rfl) hx T.cl_House T.n_House_jobs (by omega) fun H1 e1 => ?_
    have l1 := putF_length "jobs" (.int (n : Int)) fs
    generalize hf1 : putF "jobs" (.int (n : Int)) fs = f1 at l1
    have b1 : But x H (upd H1 x (.ins C.House dx f1)) := ((But.refl x H).ex e1).put
    intro d0 hd0
    refine cat_rest (n := n) (by omega) (ev_var rfl) fun pa H2 ds1 np1 e21 h2 hdl1 hnd1 hd1 => ?_
    have np := fresh_back (Ex.new hd0) np1
    have e2 := (Ex.new hd0).trans e21
    have hdl : (d0 :: ds1).length = n + 1 := by rw [List.length_cons, hdl1]
    have hnd : (pa :: d0 :: ds1).Nodup := by
      refine List.nodup_cons.mpr ⟨fun c => ?_, List.nodup_cons.mpr ⟨fun c => ?_, (List.nodup_cons.mp hnd1).2⟩⟩
      · rcases List.mem_cons.mp c with c | c
        · rw [c, upd_same] at np1
          cases np1
        · exact (List.nodup_cons.mp hnd1).1 c
      · have := (hd1 d0 c).1
        rw [upd_same] at this
        cases this
    have hd : ∀ d ∈ d0 :: ds1, upd H1 x (.ins C.House dx f1) d = none ∧ H2 d = some (.dK []) := fun d c => by
      rcases List.mem_cons.mp c with c | c
      · rw [c]
        exact ⟨hd0, e21 _ _ upd_same⟩
      · exact ⟨fresh_back (Ex.new hd0) (hd1 d c).1, (hd1 d c).2⟩
    generalize d0 :: ds1 = ds at h2 hdl hnd hd
    refine ⟨_, rfl, x, C.House, dx, f1, rfl, e2 _ _ upd_same, T.cl_House, T.n_House_areas, by omega, ?_⟩
    have l2 := putF_length "areas" (.ref pa) f1
    generalize hf2 : putF "areas" (.ref pa) f1 = f2 at l2
    have hpax : pa ≠ x := ne_of_none' upd_same np
    have hdx : ∀ d ∈ ds, d ≠ x := fun d hd' => ne_of_none' upd_same (hd d hd').1
    have b2 : But x H (upd H2 x (.ins C.House dx f2)) := (b1.ex e2).put
    have g2 : upd H2 x (.ins C.House dx f2) pa = some (.lst (ds.map V.ref)) := by rw [upd_ne hpax]; exact h2
    have gd2 : ∀ d ∈ ds, upd H2 x (.ins C.House dx f2) d = some (.dK []) := fun d c => by rw [upd_ne (hdx d c)]; exact (hd d c).2
    refine q_fldL (xs := []) (el_lst ea_nil (by show 0 ≤ 100000; decide)) (ev_var rfl) upd_same T.cl_House T.n_House_told_runs (by omega) fun pt H3 npt e3 h3 => ?_
    have l3 := putF_length "told_runs" (.ref pt) f2
    generalize hf3 : putF "told_runs" (.ref pt) f2 = f3 at l3
    have c3 : But x (upd H2 x (.ins C.House dx f2)) (upd H3 x (.ins C.House dx f3)) := ((But.refl x _).ex e3).put
    have hptx : pt ≠ x := ne_of_none' upd_same npt
    have g3 : upd H3 x (.ins C.House dx f3) pt = some (.lst []) := by rw [upd_ne hptx]; exact h3
    refine q_fldL (xs := []) (el_lst ea_nil (by show 0 ≤ 100000; decide)) (ev_var rfl) upd_same T.cl_House T.n_House_held_runs (by omega) fun ph H4 nph e4 h4 => ?_
    have l4 := putF_length "held_runs" (.ref ph) f3
    generalize hf4 : putF "held_runs" (.ref ph) f3 = f4 at l4
    have c4 : But x (upd H3 x (.ins C.House dx f3)) (upd H4 x (.ins C.House dx f4)) := ((But.refl x _).ex e4).put
    have hphx : ph ≠ x := ne_of_none' upd_same nph
    have g4 : upd H4 x (.ins C.House dx f4) ph = some (.lst []) := by rw [upd_ne hphx]; exact h4
    intro pd npd
    have hpdx : pd ≠ x := ne_of_none' upd_same npd
    refine ⟨_, rfl, x, C.House, dx, f4, rfl, (by rw [upd_ne (Ne.symm hpdx)]; exact upd_same), T.cl_House, T.n_House_distrusted, by omega, ?_⟩
    have hfe : putF "distrusted" (.ref pd) f4 = fH n pa pt ph pd := by
      rw [← hf4, ← hf3, ← hf2, ← hf1]
      exact new_fields hf n pa pt ph pd
    rw [hfe]
    have c5 : But x (upd H4 x (.ins C.House dx f4)) (upd (upd (upd H4 x (.ins C.House dx f4)) pd (.dK [])) x (.ins C.House dx (fH n pa pt ph pd))) := ((But.refl x _).ex (Ex.new npd)).put
    generalize hG : upd (upd (upd H4 x (.ins C.House dx f4)) pd (.dK [])) x (.ins C.House dx (fH n pa pt ph pd)) = G at c5 ⊢
    have Gx : G x = some (.ins C.House dx (fH n pa pt ph pd)) := by rw [← hG]; exact upd_same
    have Gpd : G pd = some (.dK []) := by rw [← hG, upd_ne hpdx]; exact upd_same
    have Gph : G ph = some (.lst []) := c5 _ _ g4 hphx
    have Gpt : G pt = some (.lst []) := c5 _ _ (c4 _ _ g3 hptx) hptx
    have Gpa : G pa = some (.lst (ds.map V.ref)) := c5 _ _ (c4 _ _ (c3 _ _ g2 hpax) hpax) hpax
    have Gd : ∀ d ∈ ds, G d = some (.dK []) := fun d c => c5 _ _ (c4 _ _ (c3 _ _ (gd2 d c) (hdx d c)) (hdx d c)) (hdx d c)
    -- who is whom
    have n1 : pa ≠ pt := ne_of_none g2 npt
    have n2 : pa ≠ ph := ne_of_none (c3 _ _ g2 hpax) nph
    have n3 : pt ≠ ph := ne_of_none g3 nph
    have n4 : pa ≠ pd := ne_of Gpa Gpd (by intro z; cases z)
    have n5 : pt ≠ pd := ne_of Gpt Gpd (by intro z; cases z)
    have n6 : ph ≠ pd := ne_of Gph Gpd (by intro z; cases z)
    have n7 : pa ∉ ds := (List.nodup_cons.mp hnd).1
    have n8 : pt ∉ ds := fun c => ne_of Gpt (Gd _ c) (by intro z; cases z) rfl
    have n9 : ph ∉ ds := fun c => ne_of Gph (Gd _ c) (by intro z; cases z) rfl
    have n10 : pd ∉ ds := fun c => ne_of_none (c4 _ _ (c3 _ _ (gd2 _ c) (hdx _ c)) (hdx _ c)) npd rfl
    have n11 : x ∉ ds := fun c => hdx _ c rfl
    have hBut : But x H G := fun b o hb hne => c5 _ _ (c4 _ _ (c3 _ _ (b2 _ _ hb hne) hne) hne) hne
    refine k G ⟨x, dx, pa, pt, ph, pd, ds, [], [], ge⟩ rfl rfl ⟨Gx, Gpa, areas_new hdl Gd, Gpt, .nil, Gph, .nil, ⟨[], Gpd, rfl⟩, ?_, inv_new h1 h6, tab_but htab hx trivial hBut, htin⟩ hBut ?_
    · unfold HA.mut
      simp only [List.nodup_cons, List.mem_cons, not_or]
      exact ⟨⟨Ne.symm hpax, Ne.symm hptx, Ne.symm hphx, Ne.symm hpdx, n11⟩, ⟨n1, n2, n4, n7⟩, ⟨n3, n5, n8⟩, ⟨n6, n9⟩, n10, (List.nodup_cons.mp hnd).2⟩
    · intro b hb
      unfold HA.mut at hb
      simp only [List.mem_cons] at hb
      have back : ∀ {c : Addr} {G1 : Hp}, But x H G1 → c ≠ x → G1 c = none → H c = none := fun {c G1} bb hc hn => by
        cases q : H c with
        | none => rfl
        | some o =>
          rw [bb c o q hc] at hn
          cases hn
      have b3 : But x H (upd H3 x (.ins C.House dx f3)) := fun c o h1 h2 => c3 _ _ (b2 _ _ h1 h2) h2
      have b4 : But x H (upd H4 x (.ins C.House dx f4)) := fun c o h1 h2 => c4 _ _ (b3 _ _ h1 h2) h2
      rcases hb with c | c | c | c | c | c
      · exact .inl c
      · rw [c]; exact .inr (back b1 hpax np)
      · rw [c]; exact .inr (back b2 hptx npt)
      · rw [c]; exact .inr (back b3 hphx nph)
      · rw [c]; exact .inr (back b4 hpdx npd)
      · exact .inr (back b1 (hdx b c) (hd b c).1)
theorem ok_House_init {f : Addr} {fd : FuncData} (F : Fun K "__init__" "House.__init__" s_House_init f fd) (T : Txt K mg C) (G_House_make_new : HasM P w K mg base 2 C.House "make_new" ["self", "jobs"] (sp_House_make_new K C)) : FnOk P w K mg base CX0 3 f fd ["self"] (sp_House_init K C) := by
  refine F.ok sc_House_init (fun vs H Q E h => ?_) (fun cdv A outer s H vs Q E hr h => ⟨_, (pss_one (ps_expr (pe_hasM G_House_make_new (hr.mono (by decide)) (pv 0) (by exact (pa_cons pe_int pa_nil))))), ?_⟩)
  · obtain ⟨ge, x, dx, rfl, _⟩ := h
    rfl
  · obtain ⟨ge, x, dx, rfl, hx, htin, htab, k⟩ := h
    exact ⟨_, rfl, x, dx, [], rfl, hx, rfl, ge, x, dx, [], 1, rfl, hx, .inl rfl, by decide, by decide, htin, htab, k⟩
theorem ok_House_begins {f : Addr} {fd : FuncData} (F : Fun K "begins" "House.begins" s_House_begins f fd) (T : Txt K mg C) (G_House_make_new : HasM P w K mg base 2 C.House "make_new" ["self", "jobs"] (sp_House_make_new K C)) : FnOk P w K mg base CX0 3 f fd ["self", "jobs"] (sp_House_begins K C) := by
  refine F.ok sc_House_begins (fun vs H Q E h => ?_) (fun cdv A outer s H vs Q E hr h => ⟨_, (pss_cons (ps_if (PW.pt (pw_or (pt_cmpR op_lt (pv 1) pe_int (nomark _)) (pw_or1 (pt_cmpR op_gt (pv 1) (pe_globI rfl T.g_MOST_JOBS) (nomark _))))) (pss_one (ps_ret (pe_lst (pa_cons (pe_globI rfl T.g_WRONG_JOBS) pa_nil)))) pss_nil) (pss_cons (ps_expr (pe_hasM G_House_make_new (hr.mono (by decide)) (pv 0) (by exact (pa_cons (pv 1) pa_nil)))) (pss_one (ps_ret (pe_lst (pa_cons pe_int pa_nil)))))), ?_⟩)
  · obtain ⟨A, h, n, rfl, _⟩ := h
    rfl
  · obtain ⟨A, h, n, rfl, hA, k⟩ := h
    refine Sx.at (sx_when (et_or (et_test (ev_op (ev_var rfl) ev_c rv_I0)) fun _ => et_test (ev_op (ev_var rfl) ev_c rv_I0)) ?_ ?_)
    · intro hb
      have hc : n = 0 ∨ Rp02.JOBS < n := by
        rw [Bool.or_eq_true, decide_eq_true_eq, decide_eq_true_eq] at hb
        show n = 0 ∨ 6 < n
        omega
      simp only [Rp02.step, if_pos hc] at k
      exact sx_retL (xs := ansV (Rp02.ok (-1))) (el_lst (ea_cons ev_c ea_nil) (by show 1 ≤ 100000; decide)) (k.same hA)
    · intro hb
      have hc : ¬ (n = 0 ∨ Rp02.JOBS < n) := by
        rw [Bool.or_eq_false_iff, decide_eq_false_iff_not, decide_eq_false_iff_not] at hb
        show ¬ (n = 0 ∨ 6 < n)
        omega
      have h6 : n ≤ 6 := by
        have : ¬ (6 < n) := fun z => hc (.inr z)
        omega
      simp only [Rp02.step, if_neg hc] at k
      intro H0 e0
      have hA0 := hA.mono e0
      refine ⟨_, rfl, A.x, A.dx, _, rfl, hA0.ins, fH_no (by decide +kernel) (by decide +kernel) (by decide +kernel) (by decide +kernel) (by decide +kernel), _, rfl, A.ge, A.x, A.dx, _, n, rfl, hA0.ins, .inr ⟨_, _, _, _, _, rfl⟩, by omega, h6, hA0.tin, hA0.tab, fun H1 A1 hx1 hge1 hA1 b1 hm1 => ?_⟩
      refine s_retL (σ := [some (.ref A.x), some (.int (n : Int))]) (xs := ansV (Rp02.ok 0)) (el_lst (ea_cons ev_c ea_nil) (by show 1 ≤ 100000; decide)) fun p H2 hp e2 h2 => ?_
      refine k H2 A1 p (hA1.mono e2) hx1 hge1 ?_ (hA1.tracked.fresh hp) h2
      intro b o hb
      obtain ⟨hbm, hbo⟩ := fx_inv hb
      have hbx : b ≠ A.x := fun z => hbm (by rw [z]; exact List.mem_cons_self)
      refine fx_some (fun c => ?_) (e2 _ _ (b1 _ _ (e0 _ _ hbo) hbx))
      rcases hm1 b c with z | z
      · exact hbx z
      · rw [e0 _ _ hbo] at z
        cases z
end
end Mine
set_option Elab.async false
set_option linter.all false
set_option maxRecDepth 100000
set_option maxHeartbeats 4000000
namespace Mine
open PySem PySem.Spec PyProof.Rows L2 Evl
open Rp02 (Ask Reply Trace Area askNumbers replyNumbers)
theorem paired_set {α β : Type} {R R' : α → β → Prop} : ∀ {l : List α} {m : List β} {i : Nat} {d : α} {a : β}, Paired R l m → l[i]? = some d → (∀ j x y, j ≠ i → l[j]? = some x → R x y → R' x y) → R' d a → Paired R' l (m.set i a)
  | _, _, _, _, _, .nil, h, _, _ => by simp at h
  | _, _, 0, _, _, .cons (l₁ := l) r t, h, hr, hn => by
    cases h
    exact .cons hn (paired_imp t fun j x y hx => hr (j + 1) x y (by omega) hx)
  | _, _, i + 1, _, _, .cons r t, h, hr, hn => .cons (hr 0 _ _ (by omega) rfl r) (paired_set (i := i) t h (fun j x y hj hx => hr (j + 1) x y (by omega) hx) hn)
where
  paired_imp {α β : Type} {R R' : α → β → Prop} : ∀ {l : List α} {m : List β}, Paired R l m → (∀ (j : Nat) x y, l[j]? = some x → R x y → R' x y) → Paired R' l m
    | _, _, .nil, _ => .nil
    | _, _, .cons r t, f => .cons (f 0 _ _ rfl r) (paired_imp t fun j x y hx => f (j + 1) x y hx)
section
variable {K : PySem.W.Frag} {σ : L2.St} {H H' : Hp} {td ty tv : TE} {D : Ends} {tz : TS}
theorem q_dput {d : Addr} {kvs : List (Key × V)} {k : Key} {v : V} (hv : Ev tv σ H v) (hd : Ev td σ H (.ref d)) (hk : Ev ty σ H (kV k)) (ho : H d = some (.dK kvs)) (hl : kvs.length < 100000) (kk : ∀ H1, Ex H H1 → tz D σ (upd H1 d (.dK (putK kvs k v)))) : tSeq (sDPut td ty tv) tz D σ H :=
  hv H (Ex.refl H) _ fun H1 e1 => hd H1 e1 _ fun H2 e2 => hk H2 (e1.trans e2) _ fun H3 e3 => ⟨d, _, rfl, DPut.k (e3 _ _ (e2 _ _ (e1 _ _ ho))) (sz_lt hl), kk H3 ((e1.trans e2).trans e3)⟩
theorem q_dpop {d : Addr} {kvs : List (Key × V)} {k : Key} {v : V} (hd : Ev td σ H (.ref d)) (hk : Ev ty σ H (kV k)) (ho : H d = some (.dK kvs)) (hv : valV kvs k = some v) (kk : ∀ H1, Ex H H1 → tz D σ (upd H1 d (.dK (dropK kvs k)))) : tSeq (tDrop (tDPop1 td ty)) tz D σ H :=
  hd H (Ex.refl H) _ fun H1 e1 => ⟨d, rfl, Or.inl ⟨kvs, .inl (e1 _ _ ho)⟩, hk H1 e1 _ fun H2 e2 => ⟨kvs, k, v, e2 _ _ (e1 _ _ ho), rfl, hv, kk H2 (e1.trans e2)⟩⟩
end
theorem nd_idx {l : List Addr} (h : l.Nodup) {i j : Nat} {x y : Addr} (hx : l[i]? = some x) (hy : l[j]? = some y) (hij : j ≠ i) : y ≠ x := fun e => hij (nd_ix h (e ▸ hy) hx)
/-- one area is another -/
theorem HouseAt.setArea {C : Ad} {H : Hp} {A : HA} {h : Rp02.House} (a : HouseAt C H A h) {i : Nat} {d : Addr} {l : List (Nat × Nat)} {ar : Area} (hd : A.ds[i]? = some d) (hi : InDict l ar) (hl : l.length < 60) (hs : i = 0 → ar.length ≤ 30) :
    HouseAt C (upd H d (.dK (kvN l))) A { h with world := h.world.set i ar } := by
  have hmem : d ∈ A.ds := List.mem_of_getElem? hd
  have hm : d ∈ A.mut := by
    unfold HA.mut
    simp only [List.mem_cons]
    exact .inr (.inr (.inr (.inr (.inr hmem))))
  have nd := a.nd
  unfold HA.mut at nd
  simp only [List.nodup_cons, List.mem_cons, not_or] at nd
  obtain ⟨⟨_, _, _, _, n1⟩, ⟨_, _, _, n2⟩, ⟨_, _, n3⟩, ⟨_, n4⟩, n5, n6⟩ := nd
  have ne : ∀ {c : Addr}, c ∉ A.ds → c ≠ d := fun {c} hc z => hc (z ▸ hmem)
  obtain ⟨kvs, o1, o2⟩ := a.out
  obtain ⟨_, _, l0, hd0, _⟩ := paired_get a.dicts hd
  refine ⟨by rw [upd_ne (ne n1)]; exact a.ins, by rw [upd_ne (ne n2)]; exact a.areas, ?_, by rw [upd_ne (ne n3)]; exact a.told, ?_, by rw [upd_ne (ne n4)]; exact a.held, ?_, ⟨kvs, by rw [upd_ne (ne n5)]; exact o1, o2⟩, a.nd, ?_, tab_put a.tab hd0 trivial, a.tin⟩
  · refine paired_set a.dicts hd (fun j x y hj hx r => ?_) ⟨l, upd_same, hi, hl⟩
    obtain ⟨l2, r1, r2⟩ := r
    exact ⟨l2, by rw [upd_ne (nd_idx n6 hd hx hj)]; exact r1, r2⟩
  · rw [fx_put (HA.in_off hm)]
    exact a.runs
  · rw [fx_put (HA.in_off hm)]
    exact a.hruns
  · refine ⟨by rw [List.length_set]; exact a.inv.wl, a.inv.j1, a.inv.j6, a.inv.log30, a.inv.jobs, ?_⟩
    have hw := a.inv.wl
    cases i with
    | zero =>
      rw [List.getD_eq_getElem?_getD, List.getElem?_set_self (by omega)]
      exact hs rfl
    | succ i =>
      rw [List.getD_eq_getElem?_getD, List.getElem?_set_ne (by omega), ← List.getD_eq_getElem?_getD]
      exact a.inv.src
/-- the sources -/
theorem HouseAt.src {C : Ad} {H : Hp} {A : HA} {h : Rp02.House} (a : HouseAt C H A h) : ∃ d l, A.ds[0]? = some d ∧ H d = some (.dK (kvN l)) ∧ InDict l (h.world.getD 0 []) ∧ l.length < 60 := by
  have hw := a.inv.wl
  have hx := List.getElem?_eq_getElem (l := h.world) (i := 0) (by omega)
  obtain ⟨d, hd, l, h1, h2, h3⟩ := paired_get' a.dicts hx
  refine ⟨d, l, hd, h1, ?_, h3⟩
  rw [List.getD_eq_getElem?_getD, hx]
  exact h2
theorem insert_length {a : Area} {l : List (Nat × Nat)} (hi : InDict l a) (n c : Nat) : (Rp02.insert n c a).length = if (Rp02.find a n).isSome = true then a.length else a.length + 1 := by
  rw [← (putL_in hi n c).length, putL_length, find_perm hi, hi.length]
theorem valV_isSome {l : List (Nat × Nat)} {a : Area} (h : InDict l a) (n : Nat) : (valV (kvN l) (Sum.inl (n : Int))).isSome = (Rp02.find a n).isSome := by
  rw [valV_area h, Option.isSome_map]
section
variable {P : Program} {w : World} {K : PySem.W.Frag} {mg : Str → Option Value} {base : Heap} {C : Ad}
theorem ok_House_put {f : Addr} {fd : FuncData} (F : Fun K "put" "House.put" s_House_put f fd) (T : Txt K mg C)  : FnOk P w K mg base CX0 1 f fd ["self", "file", "content"] (sp_House_put K C) := by
  refine F.ok sc_House_put (fun vs H Q E h => ?_) (fun cdv A outer s H vs Q E hr h => ⟨_, (pss_cons (ps_set (i := 3) sc_House_put.nd rfl (Or.inl rfl) (pe_ix (ix_listK (K := K) rfl) (pe_fldK (K := K) rfl (pv 0) rfl) pe_int (fun _ _ => rfl))) (pss_cons (ps_if (PW.pt (pw_and (pt_cmp (pc_dnotin (hu_of hr) (pv 1) (pv 3)) rfl) (pw_and1 (pt_cmpR op_ge (pe_callB call_lenD (by rfl) T.b_len (by decide +kernel) (pa_cons (pv 3) pa_nil)) (pe_globI rfl T.g_MOST_SOURCES) (nomark _))))) (pss_one (ps_ret (pe_lst (pa_cons (pe_globI rfl T.g_FULL) pa_nil)))) pss_nil) (pss_cons (ps_dput (hu_of hr) (pv 3) (pv 1) (pv 2) rfl) (pss_one (ps_ret (pe_lst (pa_cons (pe_callB call_lenD (by rfl) T.b_len (by decide +kernel) (pa_cons (pv 3) pa_nil)) pa_nil))))))), ?_⟩)
  · obtain ⟨A, h, n, c, rfl, _⟩ := h
    rfl
  · obtain ⟨A, h, n, c, rfl, hA, k⟩ := h
    obtain ⟨d, l, hd, hdd, hin, hl⟩ := hA.src
    have hsl := hA.inv.src
    have hlen := hin.length
    generalize hS : h.world.getD 0 [] = S at hin hsl hlen
    refine q_asg (v := .ref d) (ev_op (evHa T (ev_var rfl) hA.ins) ev_c (rv_ixL (sq_of hA.areas) (atI_nat (j := 0) (refs_at hd)))) fun H1 e1 => ?_
    have hd1 := e1 _ _ hdd
    refine q_when (et_and (et_B (ev_dnotin (k := Sum.inl (n : Int)) (ev_var rfl) (ev_var rfl) hd1)) fun _ => et_test (ev_op (ev_lenD (ev_var rfl) hd1) ev_c rv_I0)) ?_ ?_
    · intro hb H2 e2
      rw [valV_isSome hin, kvN_length, Bool.and_eq_true, decide_eq_true_eq] at hb
      have hc : (Rp02.find S n).isNone = true ∧ S.length = Rp02.FILES := ⟨by rw [find_isNone]; exact hb.1, by show S.length = 30; omega⟩
      simp only [Rp02.step, hS, if_pos hc] at k
      exact s_retL (xs := ansV (Rp02.ok (-7))) (el_lst (ea_cons ev_c ea_nil) (by show 1 ≤ 100000; decide)) fun p H3 hp e3 h3 => (k.same hA).go (e1.trans e2) hp e3 h3
    · intro hb H2 e2
      rw [valV_isSome hin, kvN_length, Bool.and_eq_false_iff, decide_eq_false_iff_not] at hb
      have hc : ¬ ((Rp02.find S n).isNone = true ∧ S.length = Rp02.FILES) := by
        rintro ⟨z1, z2⟩
        rw [find_isNone] at z1
        have z2 : S.length = 30 := z2
        rcases hb with z | z
        · rw [z1] at z
          cases z
        · omega
      simp only [Rp02.step, hS, if_neg hc] at k
      have hil := insert_length hin n c
      have hi30 : (Rp02.insert n c S).length ≤ 30 := by
        rw [hil]
        split
        · exact hsl
        · rename_i z
          have : S.length ≠ 30 := fun y => hc ⟨by rw [find_isNone, Bool.eq_false_iff.mpr z]; rfl, y⟩
          omega
      have hA2 := hA.mono (e1.trans e2)
      refine q_dput (k := Sum.inl (n : Int)) (ev_var rfl) (ev_var rfl) (ev_var rfl) (e2 _ _ hd1) (by rw [kvN_length]; omega) fun H3 e3 => ?_
      rw [putK_kvN]
      have hI := putL_in hin n c
      have hA3 := (hA2.mono e3).setArea hd hI (by rw [hI.length]; omega) (fun _ => hi30)
      have hdm : d ∈ A.mut := by
        unfold HA.mut
        simp only [List.mem_cons]
        exact .inr (.inr (.inr (.inr (.inr (List.mem_of_getElem? hd)))))
      refine s_retL (xs := ansV (Rp02.ok (Rp02.insert n c S).length)) (el_lst (ea_cons (ev_is (ev_lenD (ev_var rfl) upd_same) ?_) ea_nil) (by show 1 ≤ 100000; decide)) fun p H4 hp e4 h4 => ?_
      · show V.int _ = V.int _
        rw [kvN_length, hI.length]
        rfl
      · refine k H4 A p (hA3.mono e4) rfl rfl ?_ (hA3.tracked.fresh hp) h4
        refine Ex.trans ?_ (fx_mono e4)
        rw [fx_put hdm]
        exact fx_mono ((e1.trans e2).trans e3)
theorem ok_House_drop {f : Addr} {fd : FuncData} (F : Fun K "drop" "House.drop" s_House_drop f fd) (T : Txt K mg C)  : FnOk P w K mg base CX0 1 f fd ["self", "file"] (sp_House_drop K C) := by
  refine F.ok sc_House_drop (fun vs H Q E h => ?_) (fun cdv A outer s H vs Q E hr h => ⟨_, (pss_cons (ps_set (i := 2) sc_House_drop.nd rfl (Or.inl rfl) (pe_ix (ix_listK (K := K) rfl) (pe_fldK (K := K) rfl (pv 0) rfl) pe_int (fun _ _ => rfl))) (pss_cons (ps_if (pt_cmp (pc_dnotin (hu_of hr) (pv 1) (pv 2)) rfl) (pss_one (ps_ret (pe_lst (pa_cons (pe_globI rfl T.g_NO_SUCH_SOURCE) pa_nil)))) pss_nil) (pss_cons (ps_expr (pe_dpop1 (pv 2) (pv 1) ⟨rfl, rfl, rfl, rfl⟩)) (pss_one (ps_ret (pe_lst (pa_cons (pe_callB call_lenD (by rfl) T.b_len (by decide +kernel) (pa_cons (pv 2) pa_nil)) pa_nil))))))), ?_⟩)
  · obtain ⟨A, h, n, rfl, _⟩ := h
    rfl
  · obtain ⟨A, h, n, rfl, hA, k⟩ := h
    obtain ⟨d, l, hd, hdd, hin, hl⟩ := hA.src
    have hsl := hA.inv.src
    have hlen := hin.length
    generalize hS : h.world.getD 0 [] = S at hin hsl hlen
    refine q_asg (v := .ref d) (ev_op (evHa T (ev_var rfl) hA.ins) ev_c (rv_ixL (sq_of hA.areas) (atI_nat (j := 0) (refs_at hd)))) fun H1 e1 => ?_
    have hd1 := e1 _ _ hdd
    refine q_when (et_B (ev_dnotin (k := Sum.inl (n : Int)) (ev_var rfl) (ev_var rfl) hd1)) ?_ ?_
    · intro hb H2 e2
      rw [valV_isSome hin] at hb
      have hc : (Rp02.find S n).isNone = true := by rw [find_isNone]; exact hb
      simp only [Rp02.step, hS, if_pos hc] at k
      exact s_retL (xs := ansV (Rp02.ok (-4))) (el_lst (ea_cons ev_c ea_nil) (by show 1 ≤ 100000; decide)) fun p H3 hp e3 h3 => (k.same hA).go (e1.trans e2) hp e3 h3
    · intro hb H2 e2
      rw [valV_isSome hin] at hb
      have hsome : (Rp02.find S n).isSome = true := by simpa using hb
      have hc : ¬ (Rp02.find S n).isNone = true := by rw [find_isNone, hsome]; decide
      simp only [Rp02.step, hS, if_neg hc] at k
      have hA2 := hA.mono (e1.trans e2)
      obtain ⟨c, hcv⟩ := Option.isSome_iff_exists.mp hsome
      have hval := valV_area hin n
      rw [hcv] at hval
      refine q_dpop (k := Sum.inl (n : Int)) (ev_var rfl) (ev_var rfl) (e2 _ _ hd1) hval fun H3 e3 => ?_
      rw [dropK_kvN]
      have hI := drop_in hin n
      have hdl := drop_length hin.sorted hsome
      have hA3 := (hA2.mono e3).setArea hd hI (by rw [hI.length]; omega) (fun _ => by omega)
      have hdm : d ∈ A.mut := by
        unfold HA.mut
        simp only [List.mem_cons]
        exact .inr (.inr (.inr (.inr (.inr (List.mem_of_getElem? hd)))))
      refine s_retL (xs := ansV (Rp02.ok (S.length - 1 : Nat))) (el_lst (ea_cons (ev_is (ev_lenD (ev_var rfl) upd_same) ?_) ea_nil) (by show 1 ≤ 100000; decide)) fun p H4 hp e4 h4 => ?_
      · show V.int _ = V.int _
        rw [kvN_length, hI.length, hdl]
        rfl
      · refine k H4 A p (hA3.mono e4) rfl rfl ?_ (hA3.tracked.fresh hp) h4
        refine Ex.trans ?_ (fx_mono e4)
        rw [fx_put hdm]
        exact fx_mono ((e1.trans e2).trans e3)
end
end Mine
set_option Elab.async false
set_option linter.all false
set_option maxRecDepth 100000
set_option maxHeartbeats 4000000
namespace Mine
open PySem PySem.Spec PyProof.Rows L2 Evl
open Rp02 (Ask Reply Trace Area askNumbers replyNumbers)
/-! ### picked runs -/
def pick (f : Rp02.Entry → Bool) (as : List Addr) (m : List Rp02.Entry) : List Addr := ((as.zip m).filter fun p => f p.2).map (·.1)
theorem pick_paired {R : Addr → Rp02.Entry → Prop} {f : Rp02.Entry → Bool} : ∀ {as : List Addr} {m : List Rp02.Entry}, Paired R as m → Paired R (pick f as m) (m.filter f)
  | _, _, .nil => .nil
  | a :: as, e :: m, .cons r t => by
    have ih := pick_paired (f := f) t
    unfold pick at ih ⊢
    rw [List.zip_cons_cons, List.filter_cons, List.filter_cons]
    cases h : f e with
    | true =>
      simp only [h, if_true, List.map_cons]
      exact .cons r ih
    | false =>
      first | exact ih | (rw [if_neg Bool.false_ne_true, if_neg Bool.false_ne_true]; exact ih) | (rw [if_neg Bool.false_ne_true]; exact ih)
theorem zip_refs {as : List Addr} {m : List Rp02.Entry} (h : as.length = m.length) : ((as.zip m).map fun p => (V.ref p.1, p.2)).map (·.1) = as.map V.ref := by
  rw [List.map_map]
  have : (as.zip m).map (Prod.fst) = as := List.map_fst_zip (by omega)
  conv => rhs; rw [← this, List.map_map]
  rfl
theorem pick_refs {f : Rp02.Entry → Bool} {as : List Addr} {m : List Rp02.Entry} : ((((as.zip m).map fun p => (V.ref p.1, p.2)).filter fun p => f p.2).map (·.1)) = (pick f as m).map V.ref := by
  unfold pick
  rw [List.filter_map, List.map_map, List.map_map]
  rfl
theorem zip_get {as : List Addr} {m : List Rp02.Entry} {i : Nat} {x : V} {e : Rp02.Entry} (h : ((as.zip m).map fun p => (V.ref p.1, p.2))[i]? = some (x, e)) : ∃ a, as[i]? = some a ∧ m[i]? = some e ∧ x = .ref a := by
  rw [List.getElem?_map, Option.map_eq_some_iff] at h
  obtain ⟨⟨a, e'⟩, h1, h2⟩ := h
  rw [List.getElem?_zip_eq_some] at h1
  obtain ⟨h3, h4⟩ := Prod.mk.inj h2
  exact ⟨a, h1.1, by rw [← h4]; exact h1.2, h3.symm⟩
/-- the first of the runs that is so now -/
def foundV (w : Rp02.World) (as : List Addr) (m : List Rp02.Entry) : V := match (as.zip m).find? fun p => p.2.holds w with
  | some p => .ref p.1
  | none => .non
theorem found_some {R : Addr → Rp02.Entry → Prop} {w : Rp02.World} : ∀ {as : List Addr} {m : List Rp02.Entry} {e : Rp02.Entry}, Paired R as m → (m.find? fun e => e.holds w) = some e → ∃ a, foundV w as m = .ref a ∧ R a e
  | _, _, _, .nil, h => by cases h
  | a :: as, f :: m, e, .cons r t, h => by
    rw [List.find?_cons] at h
    unfold foundV
    rw [List.zip_cons_cons, List.find?_cons]
    cases q : f.holds w with
    | true =>
      rw [q] at h
      cases h
      exact ⟨a, rfl, r⟩
    | false =>
      rw [q] at h
      exact found_some t h
theorem found_none {R : Addr → Rp02.Entry → Prop} {w : Rp02.World} : ∀ {as : List Addr} {m : List Rp02.Entry}, Paired R as m → (m.find? fun e => e.holds w) = none → foundV w as m = .non
  | _, _, .nil, _ => rfl
  | a :: as, f :: m, .cons r t, h => by
    rw [List.find?_cons] at h
    unfold foundV
    rw [List.zip_cons_cons, List.find?_cons]
    cases q : f.holds w with
    | true =>
      rw [q] at h
      cases h
    | false =>
      rw [q] at h
      exact found_none t h
theorem add_length (l : List Rp02.Entry) (e : Rp02.Entry) : (Rp02.add l e).length ≤ l.length + 1 := by
  unfold Rp02.add
  split
  · omega
  · simp
theorem foldl_length : ∀ (log l : List Rp02.Entry), (log.foldl Rp02.add l).length ≤ l.length + log.length
  | [], l => Nat.le_refl _
  | e :: log, l => by
    have h1 := foldl_length log (Rp02.add l e)
    have h2 := add_length l e
    rw [List.foldl_cons, List.length_cons]
    omega
theorem taken_length (log : List Rp02.Entry) : (Rp02.taken log).length ≤ log.length := by
  have := foldl_length log []
  unfold Rp02.taken
  simpa using this
def jobIs (job : Nat) (e : Rp02.Entry) : Bool := e.job == job
/-- the runs of a job that are held, by their addresses -/
def HA.of (A : HA) (h : Rp02.House) (job : Nat) : List Addr := pick (jobIs job) A.hs (Rp02.taken h.log)
theorem HouseAt.ofAt {C : Ad} {H : Hp} {A : HA} {h : Rp02.House} (a : HouseAt C H A h) (job : Nat) : Paired (EntryAt C H) (A.of h job) (h.of job) := pick_paired (L2.Paired.mapP a.hruns fun _ _ q => q.mono fx_ex)
theorem HouseAt.held30 {C : Ad} {H : Hp} {A : HA} {h : Rp02.House} (a : HouseAt C H A h) : (Rp02.taken h.log).length ≤ 30 := Nat.le_trans (taken_length h.log) a.inv.log30
def sp_House_held_of (K : PySem.W.Frag) (C : Ad) : Sp := fun vs H Q _ => ∃ (A : HA) (h : Rp02.House) (job : Nat), vs = [.ref A.x, .int (job : Int)] ∧ HouseAt C H A h ∧ RetL ((A.of h job).map V.ref) H Q
theorem held_of_length {A : HA} {h : Rp02.House} {job : Nat} {C : Ad} {H : Hp} (a : HouseAt C H A h) : (A.of h job).length ≤ 30 := by
  rw [paired_len (a.ofAt job)]
  exact Nat.le_trans (List.length_filter_le _ _) a.held30
def sp_House_found_run (K : PySem.W.Frag) (C : Ad) : Sp := fun vs H Q _ => ∃ (A : HA) (h : Rp02.House) (job : Nat), vs = [.ref A.x, .int (job : Int)] ∧ HouseAt C H A h ∧ RetV (foundV h.world (A.of h job) (h.of job)) H Q
/-- len of a new list -/
theorem ev_lenL {K : PySem.W.Frag} {σ : L2.St} {H : Hp} {ta : TE} {xs : List V} {n : Nat} (h : EvL ta σ H xs) (hn : xs.length = n) : Ev (tCB (rLenS K) (tCons ta tNil)) σ H (.int (n : Int)) := fun H1 e Q q =>
  h H1 e _ fun p H2 _ e2 hp => by
    rw [← hn] at q
    exact ⟨p, _, rfl, .inl (sq_of hp), q H2 e2⟩
/-- a method's value -/
theorem ev_meth {K : PySem.W.Frag} {σ : L2.St} {H : Hp} {ta : TE} {tg : TA} {a C dx : Addr} {fs : List (Str × V)} {m : Str} {sp : Sp} {E : XK} {vs : List V} {z : V} (ha : Ev ta σ H (.ref a)) (ho : H a = some (.ins C dx fs)) (hm : fs.lookup m = none) (h : EvA tg σ H vs) (hs : SpV sp (.ref a :: vs) H z) : Ev (tMeth C m sp [] E ta tg) σ H z := fun H1 e Q q =>
  ha H1 e _ fun H2 e2 => ⟨a, dx, fs, rfl, e2 _ _ (e _ _ ho), hm, h H2 (e.trans e2) _ fun H3 e3 => by
    rw [List.append_nil]
    exact hs H3 ((e.trans e2).trans e3) Q (fun H4 e4 => q H4 ((e2.trans e3).trans e4)) E⟩
theorem el_meth {K : PySem.W.Frag} {σ : L2.St} {H : Hp} {ta : TE} {tg : TA} {a C dx : Addr} {fs : List (Str × V)} {m : Str} {sp : Sp} {E : XK} {vs xs : List V} (ha : Ev ta σ H (.ref a)) (ho : H a = some (.ins C dx fs)) (hm : fs.lookup m = none) (h : EvA tg σ H vs) (hs : SpL sp (.ref a :: vs) H xs) : EvL (tMeth C m sp [] E ta tg) σ H xs := fun H1 e Q q =>
  ha H1 e _ fun H2 e2 => ⟨a, dx, fs, rfl, e2 _ _ (e _ _ ho), hm, h H2 (e.trans e2) _ fun H3 e3 => by
    rw [List.append_nil]
    exact hs H3 ((e.trans e2).trans e3) Q (fun p H4 hp e4 h4 => q p H4 (fresh_back (e2.trans e3) hp) ((e2.trans e3).trans e4) h4) E⟩
theorem use_held_of {K : PySem.W.Frag} {C : Ad} {H : Hp} {A : HA} {h : Rp02.House} {job : Nat} (a : HouseAt C H A h) : SpL (sp_House_held_of K C) [.ref A.x, .int (job : Int)] H ((A.of h job).map V.ref) := spL_of fun H1 e Q E k => ⟨A, h, job, rfl, a.mono e, k⟩
theorem use_found_run {K : PySem.W.Frag} {C : Ad} {H : Hp} {A : HA} {h : Rp02.House} {job : Nat} (a : HouseAt C H A h) : SpV (sp_House_found_run K C) [.ref A.x, .int (job : Int)] H (foundV h.world (A.of h job) (h.of job)) := spV_of fun H1 e Q E k => ⟨A, h, job, rfl, a.mono e, k⟩
theorem HouseAt.inW {C : Ad} {H : Hp} {A : HA} {h : Rp02.House} (a : HouseAt C H A h) {e : Rp02.Entry} (he : e ∈ h.log) (g : Good e) : inW h.world e.trace := fun x hx => by
  have h1 := g.area x hx
  have h2 := a.inv.jobs e he
  have h3 := a.inv.wl
  omega
theorem of_mem {h : Rp02.House} {job : Nat} {e : Rp02.Entry} (he : e ∈ h.of job) : e ∈ h.log ∧ e.job = job := by
  unfold Rp02.House.of at he
  obtain ⟨h1, h2⟩ := List.mem_filter.mp he
  exact ⟨taken_sub h1, by simpa using h2⟩
section
variable {P : Program} {w : World} {K : PySem.W.Frag} {mg : Str → Option Value} {base : Heap} {C : Ad}
theorem ok_House_held_of {f : Addr} {fd : FuncData} (F : Fun K "held_of" "House.held_of" s_House_held_of f fd) (T : Txt K mg C)  : FnOk P w K mg base CX0 1 f fd ["self", "job"] (sp_House_held_of K C) := by
  refine F.ok sc_House_held_of (fun vs H Q E h => ?_) (fun cdv A outer s H vs Q E hr h => ⟨_, (pss_one (ps_ret (pe_lc (own := [("run", 2)]) (g := gName 2) rfl sc_House_held_of.nd (pi_listK (K := K) rfl (pe_fldK (K := K) rfl (pv 0) rfl)) (blkOk_by (own := [("run", 2)]) (N := ["self", "job", "run"]) (sc := defScope s_House_held_of) (by decide +kernel)) (fun _ _ _ _ _ => pg_name (i := 2) sc_House_held_of.nd rfl (Or.inl rfl)) (fun _ _ _ _ _ => (pts_one (pt_cmpR op_eq (pe_fldK (K := K) rfl (pv 2) rfl) (pv 1) (nomark _)))) (fun _ _ _ _ _ => (pv 2))))), ?_⟩)
  · obtain ⟨A, h, job, rfl, _⟩ := h
    rfl
  · obtain ⟨A, h, job, rfl, hA, k⟩ := h
    have hlen := paired_len hA.hruns
    refine Sx.at (sx_retL (xs := (A.of h job).map V.ref) ?_ k)
    have := el_filL (K := K) (H := H) (σ := [some (.ref A.x), some (.int (job : Int)), none]) (tl := tFld K (tVar 0) "held_runs") (j := 2) (vs := [2]) (t := tTest (tOp rEq (tFld K (tVar 2) "job") (tVar 1))) (te := tVar 2) ((A.hs.zip (Rp02.taken h.log)).map fun p => (V.ref p.1, p.2)) (jobIs job) (evHh T (ev_var rfl) hA.ins) (sq_of hA.held) (zip_refs hlen) (by rw [List.length_map, hlen]; have := hA.held30; omega) (fun x => rfl) ?_ (fun x H1 => ev_var rfl)
    · rw [pick_refs] at this
      exact this
    · intro i x e H1 e1 hx
      obtain ⟨a, ha, he, rfl⟩ := zip_get hx
      obtain ⟨e', he', hE⟩ := paired_get hA.hruns ha
      rw [he] at he'
      cases he'
      obtain ⟨dx, m, t, hR, _⟩ := hE.1
      refine et_is (et_test (ev_op (evRj T (ev_var rfl) (e1 _ _ (fx_ex _ _ hR))) (ev_var rfl) (rv_eq rfl))) ?_
      unfold jobIs
      rw [Bool.eq_iff_iff]
      simp only [decide_eq_true_eq, V.int.injEq, beq_iff_eq]
      show ((e.job : Nat) : Int) = _ ↔ _
      omega
theorem ok_House_found_run {f : Addr} {fd : FuncData} (F : Fun K "found_run" "House.found_run" s_House_found_run f fd) (T : Txt K mg C) (G_House_held_of : HasM P w K mg base 1 C.House "held_of" ["self", "job"] (sp_House_held_of K C)) (G_wrong_places : Has P w K mg base 3 "wrong_places" ["areas", "run"] (sp_wrong_places K C)) : FnOk P w K mg base CX0 4 f fd ["self", "job"] (sp_House_found_run K C) := by
  refine F.ok sc_House_found_run (fun vs H Q E h => ?_) (fun cdv A outer s H vs Q E hr h => ⟨_, (pss_cons (ps_for PassesOwn.never rfl (pi_listK (K := K) rfl (pe_hasM G_House_held_of (hr.mono (by decide)) (pv 0) (by exact (pa_cons (pv 1) pa_nil)))) (pg_name (i := 2) sc_House_found_run.nd rfl (Or.inl rfl)) (pss_one (ps_if (pt_cmpR op_eq (pe_callB (call_len_seqK (K := K) rfl) (by rfl) T.b_len (by decide +kernel) (pa_cons (pe_has G_wrong_places hr rfl (by exact (pa_cons (pe_fldK (K := K) rfl (pv 0) rfl) (pa_cons (pv 2) pa_nil)))) pa_nil)) pe_int (nomark _)) (pss_one (ps_ret (pv 2))) pss_nil))) (pss_one (ps_ret pe_non))), ?_⟩)
  · obtain ⟨A, h, job, rfl, _⟩ := h
    rfl
  · obtain ⟨A, h, job, rfl, hA, k⟩ := h
    have hO := hA.ofAt job
    have hlen : ((A.of h job).map V.ref).length = (h.of job).length := by rw [List.length_map, paired_len hO]
    refine q_forNLn (xs := (A.of h job).map V.ref) (el_meth (K := K) (ev_var rfl) hA.ins (fH_no (by decide +kernel) (by decide +kernel) (by decide +kernel) (by decide +kernel) (by decide +kernel)) (ea_cons (ev_var rfl) ea_nil) (use_held_of hA)) (fun p i σ' H' => Ex H H' ∧ H' p = some (.lst ((A.of h job).map V.ref)) ∧ (∃ v, σ' = [some (.ref A.x), some (.int (job : Int)), v]) ∧ foundV h.world (A.of h job) (h.of job) = foundV h.world ((A.of h job).drop i) ((h.of job).drop i)) ?_ ?_ ?_ ?_
    · exact fun p H1 hp e1 h1 => ⟨e1, h1, ⟨none, rfl⟩, by simp⟩
    · exact fun p i σ' H' _ z => sq_of z.2.1
    · rintro p i x σ' H' hi ⟨x0, hp, ⟨v, rfl⟩, hf⟩
      obtain ⟨a, ha, rfl⟩ := refs_get hi
      obtain ⟨e, he, hE⟩ := paired_get hO ha
      obtain ⟨hlog, hjob⟩ := of_mem (List.mem_of_getElem? he)
      rw [drop_at ha, drop_at he] at hf
      have hA' := hA.mono x0
      refine s_when (b := e.holds h.world) (et_is (et_test (ev_op (ev_lenL (K := K) (el_call (ea_cons (evHa T (ev_var rfl) hA'.ins) (ea_cons (ev_var rfl) ea_nil)) (use_wrong_places hA'.areasAt (hE.1.mono x0) hE.2.kinded (hA.inW hlog hE.2) (Nat.le_trans hE.2.short (by decide)))) (nV_length _)) ev_c (rv_eq rfl))) ?_) ?_ ?_
      · rw [wrong_none]
        refine decide_eq_decide.mpr ?_
        rw [V.int.injEq]
        show (((wrongT h.world e.trace).length : Nat) : Int) = 0 ↔ _
        omega
      · intro hb H1 e1
        have hh : e.holds h.world = true := hb
        unfold foundV at hf
        rw [List.zip_cons_cons, List.find?_cons, hh] at hf
        have hf : foundV h.world (A.of h job) (h.of job) = .ref a := hf
        rw [hf] at k
        exact s_ret (ev_var rfl) fun H2 e2 => k H2 ((x0.trans e1).trans e2)
      · intro hb H1 e1
        have hh : e.holds h.world = false := hb
        refine ⟨x0.trans e1, e1 _ _ hp, ⟨_, rfl⟩, ?_⟩
        rw [hf]
        conv => lhs; unfold foundV
        rw [List.zip_cons_cons, List.find?_cons, hh]
        rfl
    · rintro p σ' H' ⟨x0, hp, ⟨v, rfl⟩, hf⟩
      rw [hlen, List.drop_of_length_le (by rw [← paired_len hO]; exact Nat.le_refl _ : (h.of job).length ≤ (h.of job).length)] at hf
      have hf : foundV h.world (A.of h job) (h.of job) = .non := by
        rw [hf]
        unfold foundV
        rw [List.zip_nil_right]
        rfl
      rw [hf] at k
      exact s_ret ev_c fun H2 e2 => k H2 (x0.trans e2)
end
end Mine
set_option Elab.async false
set_option linter.all false
set_option maxRecDepth 100000
set_option maxHeartbeats 4000000
namespace Mine
open PySem PySem.Spec PyProof.Rows L2 Evl
open Rp02 (Ask Reply Trace Area askNumbers replyNumbers)
def soAt (i : Nat) (a : Reply) (g : Rp02.Entry) : Bool := (g.trace[i]?).map (fun y => y.2) == some a
/-- look's answer where nothing is found -/
def farAns (h : Rp02.House) (job : Nat) : Rp02.Ans := ⟨0, (Rp02.walk h.world (Rp02.ASKED + 1) 0 (h.of job)).1 :: match (Rp02.walk h.world (Rp02.ASKED + 1) 0 (h.of job)).2 with
      | some y => askNumbers y.1 ++ replyNumbers y.2
      | none => []⟩
def sp_House_how_far (K : PySem.W.Frag) (C : Ad) : Sp := fun vs H Q _ => ∃ (A : HA) (h : Rp02.House) (job : Nat), vs = [.ref A.x, .int (job : Int)] ∧ HouseAt C H A h ∧ Rp02.hit h.taken h.world job = none ∧ RetL (ansV (farAns h job)) H Q
theorem use_how_far {K : PySem.W.Frag} {C : Ad} {H : Hp} {A : HA} {h : Rp02.House} {job : Nat} (a : HouseAt C H A h) (hn : Rp02.hit h.taken h.world job = none) : SpL (sp_House_how_far K C) [.ref A.x, .int (job : Int)] H (ansV (farAns h job)) := spL_of fun H1 e Q E k => ⟨A, h, job, rfl, a.mono e, hn, k⟩
theorem nV_append (l m : List Nat) : nV (l ++ m) = nV l ++ nV m := by
  unfold nV
  rw [List.map_append]
theorem reply_length {w : Rp02.World} {q : Ask} {H : Hp} {p : Addr} (h : AreasAt H p w) (hq : q.area < w.length) : (replyNumbers (Rp02.reply w q)).length ≤ 100 := by
  obtain ⟨ds, _, hD⟩ := h
  have hx := List.getElem?_eq_getElem hq
  obtain ⟨d, _, l, _, hiD, hl⟩ := paired_get' hD hx
  have e : Rp02.reply w q = Rp02.replyIn (w[q.area]'hq) q := by
    unfold Rp02.reply
    rw [List.getD_eq_getElem?_getD, hx]
    rfl
  rw [e]
  cases q with
  | file a n =>
    show (replyNumbers (match Rp02.find _ n with | some c => Reply.holds c | none => Reply.absent)).length ≤ 100
    cases Rp02.find (w[(Ask.file a n).area]'hq) n <;> simp [replyNumbers]
  | names a lo hi =>
    show (_ :: List.filter _ _).length ≤ 100
    rw [List.length_cons]
    have := List.length_filter_le (fun n => decide (lo ≤ n) && decide (n ≤ hi)) ((w[(Ask.names a lo hi).area]'hq).map fun f => f.1)
    rw [List.length_map, ← hiD.length] at this
    omega
theorem ask_length (q : Ask) : (askNumbers q).length ≤ 4 := by cases q <;> simp [askNumbers]
section
variable {P : Program} {w : World} {K : PySem.W.Frag} {mg : Str → Option Value} {base : Heap} {C : Ad}
theorem ok_House_how_far {f : Addr} {fd : FuncData} (F : Fun K "how_far" "House.how_far" s_House_how_far f fd) (T : Txt K mg C) (G_House_held_of : HasM P w K mg base 1 C.House "held_of" ["self", "job"] (sp_House_held_of K C)) (G_answer_now : Has P w K mg base 2 "answer_now" ["areas", "question"] (sp_answer_now K C)) : FnOk P w K mg base CX0 3 f fd ["self", "job"] (sp_House_how_far K C) := by
  refine F.ok sc_House_how_far (fun vs H Q E h => ?_) (fun cdv A outer s H vs Q E hr h => ⟨_, (pss_cons (ps_set (i := 2) sc_House_how_far.nd rfl (Or.inl rfl) (pe_hasM G_House_held_of (hr.mono (by decide)) (pv 0) (by exact (pa_cons (pv 1) pa_nil)))) (pss_cons (ps_if (pt_cmpR op_eq (pe_callB (call_len_seqK (K := K) rfl) (by rfl) T.b_len (by decide +kernel) (pa_cons (pv 2) pa_nil)) pe_int (nomark _)) (pss_one (ps_ret (pe_lst (pa_cons pe_int (pa_cons pe_int pa_nil))))) pss_nil) (pss_cons (ps_set (i := 3) sc_House_how_far.nd rfl (Or.inr rfl) pe_int) (pss_one (ps_while PassesOwn.never (pt_val pe_bl) (pss_cons (ps_set (i := 4) sc_House_how_far.nd rfl (Or.inl rfl) (pe_fldK (K := K) rfl (pe_ix (ix_listK (K := K) rfl) (pe_fldK (K := K) rfl (pe_ix (ix_listK (K := K) rfl) (pv 2) pe_int (fun _ _ => rfl)) rfl) (pv 3) (fun _ _ => rfl)) rfl)) (pss_cons (ps_set (i := 5) sc_House_how_far.nd rfl (Or.inr rfl) (pe_has G_answer_now hr rfl (by exact (pa_cons (pe_fldK (K := K) rfl (pv 0) rfl) (pa_cons (pv 4) pa_nil))))) (pss_cons (ps_setLc (i := 2) (own := [("run", 6)]) (g := gName 6) rfl sc_House_how_far.nd rfl rfl (sw_true rfl rfl rfl (by decide +kernel)) (pi_listK (K := K) rfl (pv 2)) (blkOk_by (own := [("run", 6)]) (N := ["self", "job", "runs", "place", "question", "now", "run"]) (sc := defScope s_House_how_far) (by decide +kernel)) (fun _ _ _ _ _ => pg_name (i := 6) sc_House_how_far.nd rfl (Or.inl rfl)) (fun _ _ _ _ _ => (pts_one (pt_cmpR (op_eqDK (K := K) rfl hr.units) (pe_fldK (K := K) rfl (pe_ix (ix_listK (K := K) rfl) (pe_fldK (K := K) rfl (pv 6) rfl) (pv 3) (fun _ _ => rfl)) rfl) (pv 5) (nomark _)))) (fun _ _ _ _ _ => (pv 6))) (pss_cons (ps_if (pt_cmpR op_eq (pe_callB (call_len_seqK (K := K) rfl) (by rfl) T.b_len (by decide +kernel) (pa_cons (pv 2) pa_nil)) pe_int (nomark _)) (pss_one (ps_ret (pe_op op_cat (pe_op op_cat (pe_lst (pa_cons pe_int (pa_cons (pv 3) pa_nil))) (pv 4)) (pv 5)))) pss_nil) (pss_one (ps_aug (i := 3) sc_House_how_far.nd rfl (Or.inr rfl) pe_int ip_add))))))))))), ?_⟩)
  · obtain ⟨A, h, job, rfl, _⟩ := h
    rfl
  · obtain ⟨A, h, job, rfl, hA, hn, k⟩ := h
    have hO := hA.ofAt job
    have hlen : ((A.of h job).map V.ref).length = (h.of job).length := by rw [List.length_map, paired_len hO]
    refine q_asgL (xs := (A.of h job).map V.ref) (el_meth (K := K) (ev_var rfl) hA.ins (fH_no (by decide +kernel) (by decide +kernel) (by decide +kernel) (by decide +kernel) (by decide +kernel)) (ea_cons (ev_var rfl) ea_nil) (use_held_of hA)) fun p H1 hp e1 h1 => ?_
    refine q_when (et_test (ev_op (ev_lenN' (ev_var rfl) (sq_of h1) hlen) ev_c (rv_eq rfl))) ?_ ?_
    · intro hb H2 e2
      have hz : h.of job = [] := by
        have := V.int.inj (of_decide_eq_true hb)
        exact List.length_eq_zero_iff.mp (by omega)
      have : farAns h job = ⟨0, [0]⟩ := by
        unfold farAns
        rw [hz]
        rfl
      rw [this] at k
      exact s_retL (xs := ansV ⟨0, [0]⟩) (el_lst (ea_cons ev_c (ea_cons ev_c ea_nil)) (by show 2 ≤ 100000; decide)) fun p1 H3 hp1 e3 h3 => k.go (e1.trans e2) hp1 e3 h3
    intro hb H2 e2
    have hne : h.of job ≠ [] := fun z => by
      rw [z] at hb
      simp at hb
    refine q_asg (v := .int ((0 : Nat) : Int)) ev_c fun H3 e3 => ?_
    have hF0 : Far h.world job 0 (h.of job) := far_start (taken_apart h.log) hn hne
    refine s_while (fun m σ' H' => ∃ k rs as p v4 v5 v6, m = 12 - k ∧ Ex H H' ∧ σ' = [some (.ref A.x), some (.int (job : Int)), some (.ref p), some (.int ((k : Nat) : Int)), v4, v5, v6] ∧ H' p = some (.lst (as.map V.ref)) ∧ Paired (EntryAt C H') as rs ∧ Far h.world job k rs ∧ (∀ e ∈ rs, e ∈ h.of job) ∧ rs.length ≤ 30 ∧ Rp02.walk h.world (13 - k) k rs = Rp02.walk h.world (Rp02.ASKED + 1) 0 (h.of job)) 12 ?_ ?_
    · refine ⟨0, h.of job, A.of h job, p, none, none, none, rfl, (e1.trans e2).trans e3, rfl, e3 _ _ (e2 _ _ h1), L2.Paired.mapP hO fun _ _ z => z.mono ((e1.trans e2).trans e3), hF0, fun e he => he, ?_, rfl⟩
      rw [← paired_len hO]
      exact held_of_length hA
    · rintro m σ' H' ⟨i, rs, as, p, v4, v5, v6, rfl, x, rfl, hp, hP, hF, hsub, h30, hW⟩
      refine ⟨true, et_B ev_c, fun _ H4 e4 => ?_, fun hb => by cases hb⟩
      have x4 := x.trans e4
      have hA4 := hA.mono x4
      obtain ⟨e, l, rfl⟩ : ∃ e l, rs = e :: l := by
        cases rs with
        | nil => exact absurd rfl hF.ne
        | cons e l => exact ⟨e, l, rfl⟩
      have h12 : i < 12 := hF.lt fun f hf => by
        obtain ⟨j, hj⟩ := List.mem_iff_getElem?.mp hf
        obtain ⟨a, _, hE⟩ := paired_get' hP hj
        exact hE.2.short
      obtain ⟨a, ha, hE⟩ := paired_get' (i := 0) hP rfl
      obtain ⟨y, hy⟩ := hF.here List.mem_cons_self
      obtain ⟨dx, m, t, hR, hm, ts, ht, hT⟩ := hE.1
      obtain ⟨c, hc, d1, pq, pr, hs, hq, hr⟩ := paired_get' hT hy
      obtain ⟨hlog, hjob⟩ := of_mem (hsub e List.mem_cons_self)
      have hin : y.1.area < h.world.length := hA.inW hlog hE.2 y (List.mem_of_getElem? hy)
      refine ⟨_, fun σ2 H3 z => z, ?_⟩
      refine q_asg (v := .ref pq) (evSq T (ev_op (evRt T (ev_op (ev_var rfl) ev_c (rv_ixL (sq_of (e4 _ _ hp)) (atI_nat (j := 0) (refs_at ha)))) (e4 _ _ hR)) (ev_var rfl) (rv_ixL (sq_of (e4 _ _ ht)) (atI_nat (refs_at hc)))) (e4 _ _ hs)) fun H5 e5 => ?_
      have e45 := e4.trans e5
      have hA5 := hA.mono (x.trans e45)
      refine q_asgL (xs := nV (replyNumbers (Rp02.reply h.world y.1))) (el_call (ea_cons (evHa T (ev_var rfl) hA5.ins) (ea_cons (ev_var rfl) ea_nil)) (use_answer_now hA5.areasAt (e45 _ _ hq) hin)) fun pn H6 hpn e6 h6 => ?_
      have e46 := e45.trans e6
      have hl2 := paired_len hP
      refine q_asgL (xs := (pick (soAt i (Rp02.reply h.world y.1)) as (e :: l)).map V.ref) ?_ fun p7 H7 hp7 e7 h7 => ?_
      · have := el_filL (K := K) (H := H6) (σ := [some (.ref A.x), some (.int (job : Int)), some (.ref p), some (.int ((i : Nat) : Int)), some (.ref pq), some (.ref pn), v6]) (tl := tVar 2) (j := 6) (vs := [6]) (t := tTest (tOp (rEqD K) (tFld K (tOp (rIxL K) (tFld K (tVar 6) "trace") (tVar 3)) "answer") (tVar 5))) (te := tVar 6) ((as.zip (e :: l)).map fun p => (V.ref p.1, p.2)) (soAt i (Rp02.reply h.world y.1)) (ev_var rfl) (sq_of (e46 _ _ hp)) (zip_refs hl2) (by rw [List.length_map, hl2]; omega) (fun x => rfl) ?_ (fun x H1 => ev_var rfl)
        · rw [pick_refs] at this
          exact this
        · intro j v g H8 e8 hx
          obtain ⟨b, hb, hg, rfl⟩ := zip_get hx
          obtain ⟨g', hg', hG⟩ := paired_get hP hb
          rw [hg] at hg'
          cases hg'
          obtain ⟨z, hz⟩ := hF.here (List.mem_of_getElem? hg)
          obtain ⟨dx', m', t', hR', hm', ts', ht', hT'⟩ := hG.1
          obtain ⟨c', hc', d1', pq', pr', hs', hq', hr'⟩ := paired_get' hT' hz
          have e48 := e46.trans e8
          refine et_is (et_test (ev_op (evSa T (ev_op (evRt T (ev_var rfl) (e48 _ _ hR')) (ev_var rfl) (rv_ixL (sq_of (e48 _ _ ht')) (atI_nat (refs_at hc')))) (e48 _ _ hs')) (ev_var rfl) (rv_eqN (e48 _ _ hr') (e8 _ _ h6)))) ?_
          have hask : z.1 = y.1 := hF.ask (List.mem_of_getElem? hg) List.mem_cons_self hz hy
          unfold soAt
          rw [hz, Bool.eq_iff_iff]
          simp only [decide_eq_true_eq, Option.map_some, beq_iff_eq, Option.some.injEq]
          constructor
          · exact replyNumbers_inj (q := y.1) (by rw [← hask]; exact hG.2.kinded z (List.mem_of_getElem? hz)) (kinded_reply h.world y.1)
          · intro q
            rw [q]
      have hP7 : Paired (EntryAt C H7) (pick (soAt i (Rp02.reply h.world y.1)) as (e :: l)) (goOn (e :: l) i (Rp02.reply h.world y.1)) := L2.Paired.mapP (pick_paired hP) fun _ _ z => z.mono (e46.trans e7)
      have hl7 : ((pick (soAt i (Rp02.reply h.world y.1)) as (e :: l)).map V.ref).length = (goOn (e :: l) i (Rp02.reply h.world y.1)).length := by rw [List.length_map, paired_len hP7]
      refine q_when (et_test (ev_op (ev_lenN' (ev_var rfl) (sq_of h7) hl7) ev_c (rv_eq rfl))) ?_ ?_
      · intro hb H8 e8
        have hz : goOn (e :: l) i (Rp02.reply h.world y.1) = [] := by
          have := V.int.inj (of_decide_eq_true hb)
          exact List.length_eq_zero_iff.mp (by omega)
        rw [show 13 - i = (12 - i) + 1 by omega, walk_stop hy hz] at hW
        have : farAns h job = ⟨0, i :: (askNumbers y.1 ++ replyNumbers (Rp02.reply h.world y.1))⟩ := by
          unfold farAns
          rw [← hW]
        rw [this] at k
        have e78 := e7.trans e8
        have hal := ask_length y.1
        have hrl := reply_length hA5.areasAt hin
        refine s_retL (xs := ([.int 0, .int (i : Int)] ++ nV (askNumbers y.1)) ++ nV (replyNumbers (Rp02.reply h.world y.1))) (el_cat (xs := [.int 0, .int (i : Int)] ++ nV (askNumbers y.1)) (el_cat (xs := [.int 0, .int (i : Int)]) (el_lst (ea_cons ev_c (ea_cons (ev_var rfl) ea_nil)) (by show 2 ≤ 100000; decide)) (ev_var rfl) (e78 _ _ (e46 _ _ hq)) (by rw [nV_length]; show 2 + _ ≤ _; omega)) (ev_var rfl) (e78 _ _ h6) (by rw [List.length_append, nV_length, nV_length]; show 2 + _ + _ ≤ _; omega)) fun p1 H9 hp1 e9 h9 => ?_
        refine k.go (x.trans (e46.trans e78)) hp1 e9 ?_
        rw [h9]
        unfold ansV
        rw [show nV (i :: (askNumbers y.1 ++ replyNumbers (Rp02.reply h.world y.1))) = .int (i : Int) :: nV (askNumbers y.1 ++ replyNumbers (Rp02.reply h.world y.1)) from rfl, nV_append]
        simp
      · intro hb H8 e8
        have hz : goOn (e :: l) i (Rp02.reply h.world y.1) ≠ [] := fun z => by
          rw [z] at hb
          simp at hb
        rw [show 13 - i = (12 - i) + 1 by omega, walk_on hy hz] at hW
        refine s_aug (f := fun x y => x + y) (a := ((i : Nat) : Int)) (b := 1) rfl ev_c fun H9 e9 => ?_
        have e79 := e8.trans e9
        refine ⟨12 - (i + 1), by omega, i + 1, goOn (e :: l) i (Rp02.reply h.world y.1), pick (soAt i (Rp02.reply h.world y.1)) as (e :: l), p7, _, _, _, rfl, x.trans ((e46.trans e7).trans e79), rfl, e79 _ _ h7, L2.Paired.mapP hP7 fun _ _ z => z.mono e79, hF.next List.mem_cons_self hy hz, fun f hf => hsub f (List.mem_filter.mp hf).1, Nat.le_trans (List.length_filter_le _ _) h30, ?_⟩
        rw [← hW]
        congr 1
        omega
end
end Mine
set_option Elab.async false
set_option linter.all false
set_option maxRecDepth 100000
set_option maxHeartbeats 4000000
namespace Mine
open PySem PySem.Spec PyProof.Rows L2 Evl
open Rp02 (Ask Reply Trace Area askNumbers replyNumbers)
def sp_House_look (K : PySem.W.Frag) (C : Ad) : Sp := fun vs H Q _ => ∃ (A : HA) (h : Rp02.House) (n : Nat), vs = [.ref A.x, .int (n : Int)] ∧ HouseAt C H A h ∧ After C H A (Rp02.step h (.look n)).1 (Rp02.step h (.look n)).2 Q
def sp_House_bring (K : PySem.W.Frag) (C : Ad) : Sp := fun vs H Q _ => ∃ (A : HA) (h : Rp02.House) (n : Nat), vs = [.ref A.x, .int (n : Int)] ∧ HouseAt C H A h ∧ After C H A (Rp02.step h (.bring n)).1 (Rp02.step h (.bring n)).2 Q
theorem hit_of (h : Rp02.House) (job : Nat) : Rp02.hit h.taken h.world job = (h.of job).find? fun e => e.holds h.world := hit_eq _ _ _
theorem found_ans (e : Rp02.Entry) : nV ([1, (rawOf e).id, (rawOf e).ended] ++ (rawOf e).made) = ansV ⟨1, [e.id, e.ended] ++ Rp02.unpairs e.made⟩ := rfl
theorem made_length {e : Rp02.Entry} (g : Good e) : (rawOf e).made.length ≤ 1000 := by
  show (Rp02.unpairs e.made).length ≤ 1000
  rw [unpairs_length]
  have := g.few
  omega
theorem paired_set2 {α β : Type} {R : α → β → Prop} : ∀ {l : List α} {m : List β} {i : Nat} {d : α} {a : β}, Paired R l m → R d a → Paired R (l.set i d) (m.set i a)
  | _, _, _, _, _, .nil, _ => .nil
  | _, _, 0, _, _, .cons _ t, h => .cons h t
  | _, _, i + 1, _, _, .cons r t, h => .cons r (paired_set2 (i := i) t h)
theorem mem_set {l : List Addr} {i : Nat} {d b : Addr} (h : b ∈ l.set i d) : b ∈ l ∨ b = d := List.mem_or_eq_of_mem_set h
theorem nodup_set {l : List Addr} {i : Nat} {d : Addr} (h : l.Nodup) (hd : d ∉ l) : (l.set i d).Nodup := by
  induction l generalizing i with
  | nil => exact h
  | cons a r ih =>
    obtain ⟨h1, h2⟩ := List.nodup_cons.mp h
    cases i with
    | zero =>
      rw [List.set_cons_zero]
      exact List.nodup_cons.mpr ⟨fun c => hd (List.mem_cons_of_mem _ c), h2⟩
    | succ i =>
      rw [List.set_cons_succ]
      refine List.nodup_cons.mpr ⟨fun c => ?_, ih h2 fun c => hd (List.mem_cons_of_mem _ c)⟩
      rcases mem_set c with c | c
      · exact h1 c
      · exact hd (by rw [← c]; exact List.mem_cons_self)
/-- a new dict in an area's place -/
theorem HouseAt.setDict {C : Ad} {H H1 : Hp} {A : HA} {h : Rp02.House} (a : HouseAt C H A h) (e : Ex H H1) {i : Nat} {d : Addr} {ar : Area} (hd : AreaAt H1 d ar) (hnew : H d = none) (hi : i ≠ 0) :
    HouseAt C (upd H1 A.pa (.lst ((A.ds.set i d).map V.ref))) { A with ds := A.ds.set i d } { h with world := h.world.set i ar } ∧ Ex (Fx A.mut H) (Fx ({ A with ds := A.ds.set i d } : HA).mut (upd H1 A.pa (.lst ((A.ds.set i d).map V.ref)))) := by
  have hdm : d ∉ A.mut := a.tracked.fresh hnew
  have sub : ∀ {b : Addr}, b ∈ ({ A with ds := A.ds.set i d } : HA).mut → b ∈ A.mut ∨ b = d := fun {b} hb => by
    unfold HA.mut at hb ⊢
    simp only [List.mem_cons] at hb ⊢
    rcases hb with c | c | c | c | c | c
    · exact .inl (.inl c)
    · exact .inl (.inr (.inl c))
    · exact .inl (.inr (.inr (.inl c)))
    · exact .inl (.inr (.inr (.inr (.inl c))))
    · exact .inl (.inr (.inr (.inr (.inr (.inl c)))))
    · rcases mem_set c with c | c
      · exact .inl (.inr (.inr (.inr (.inr (.inr c)))))
      · exact .inr c
  have nd := a.nd
  unfold HA.mut at nd hdm
  simp only [List.nodup_cons, List.mem_cons, not_or] at nd hdm
  obtain ⟨⟨n1, n2, n3, n4, n5⟩, ⟨m2, m3, m4, m5⟩, ⟨k3, k4, k5⟩, ⟨j4, j5⟩, i5, i6⟩ := nd
  obtain ⟨d1, d2, d3, d4, d5, d6⟩ := hdm
  have hfxG : ∀ (G : List Addr), Ex (Fx (G ++ A.mut) H) (Fx (G ++ ({ A with ds := A.ds.set i d } : HA).mut) (upd H1 A.pa (.lst ((A.ds.set i d).map V.ref)))) := fun G b o hb => by
    obtain ⟨h1, h2⟩ := fx_inv hb
    refine fx_some (fun c => ?_) ?_
    · rcases List.mem_append.mp c with c | c
      · exact h1 (List.mem_append.mpr (.inl c))
      · rcases sub c with c | c
        · exact h1 (List.mem_append.mpr (.inr c))
        · rw [c, hnew] at h2
          cases h2
    · have : b ≠ A.pa := fun c => h1 (List.mem_append.mpr (.inr (by rw [c]; unfold HA.mut; simp)))
      rw [upd_ne this]
      exact e _ _ h2
  have hfx := hfxG []
  obtain ⟨kvs, o1, o2⟩ := a.out
  refine ⟨⟨?_, upd_same, ?_, ?_, L2.Paired.mapP a.runs fun _ _ z => z.mono (hfxG A.ge), ?_, L2.Paired.mapP a.hruns fun _ _ z => z.mono (hfxG A.ge), ⟨kvs, ?_, o2⟩, ?_, ?_, tab_put (a.tab.ext e) (e _ _ a.areas) trivial, a.tin⟩, hfx⟩
  · rw [upd_ne n1]
    exact e _ _ a.ins
  · refine paired_set2 ?_ ?_
    · refine paired_set.paired_imp a.dicts fun j x y hx r => ?_
      obtain ⟨l, r1, r2⟩ := r
      refine ⟨l, ?_, r2⟩
      rw [upd_ne (fun c => m5 (by rw [← c]; exact List.mem_of_getElem? hx))]
      exact e _ _ r1
    · obtain ⟨l, r1, r2⟩ := hd
      refine ⟨l, ?_, r2⟩
      rw [upd_ne d2]
      exact r1
  · rw [upd_ne (Ne.symm m2)]
    exact e _ _ a.told
  · rw [upd_ne (Ne.symm m3)]
    exact e _ _ a.held
  · rw [upd_ne (Ne.symm m4)]
    exact e _ _ o1
  · unfold HA.mut
    simp only [List.nodup_cons, List.mem_cons, not_or]
    have nm : ∀ {b : Addr}, b ∉ A.ds → b ≠ d → b ∉ A.ds.set i d := fun {b} h1 h2 c => by
      rcases mem_set c with c | c
      · exact h1 c
      · exact h2 c
    exact ⟨⟨n1, n2, n3, n4, nm n5 (Ne.symm d1)⟩, ⟨m2, m3, m4, nm m5 (Ne.symm d2)⟩, ⟨k3, k4, nm k5 (Ne.symm d3)⟩, ⟨j4, nm j5 (Ne.symm d4)⟩, nm i5 (Ne.symm d5), nodup_set i6 d6⟩
  · refine ⟨by rw [List.length_set]; exact a.inv.wl, a.inv.j1, a.inv.j6, a.inv.log30, a.inv.jobs, ?_⟩
    rw [List.getD_eq_getElem?_getD, List.getElem?_set_ne hi, ← List.getD_eq_getElem?_getD]
    exact a.inv.src
section
variable {P : Program} {w : World} {K : PySem.W.Frag} {mg : Str → Option Value} {base : Heap} {C : Ad}
theorem ok_House_look {f : Addr} {fd : FuncData} (F : Fun K "look" "House.look" s_House_look f fd) (T : Txt K mg C) (G_House_found_run : HasM P w K mg base 4 C.House "found_run" ["self", "job"] (sp_House_found_run K C)) (G_House_how_far : HasM P w K mg base 3 C.House "how_far" ["self", "job"] (sp_House_how_far K C)) (G_found_answer : Has P w K mg base 1 "found_answer" ["run"] (sp_found_answer K C)) : FnOk P w K mg base CX0 5 f fd ["self", "job"] (sp_House_look K C) := by
  refine F.ok sc_House_look (fun vs H Q E h => ?_) (fun cdv A outer s H vs Q E hr h => ⟨_, (pss_cons (ps_if (pt_cmpR op_ge (pv 1) (pe_fldK (K := K) rfl (pv 0) rfl) (nomark _)) (pss_one (ps_ret (pe_lst (pa_cons (pe_globI rfl T.g_NO_SUCH_JOB) pa_nil)))) pss_nil) (pss_cons (ps_set (i := 2) sc_House_look.nd rfl (Or.inl rfl) (pe_hasM G_House_found_run (hr.mono (by decide)) (pv 0) (by exact (pa_cons (pv 1) pa_nil)))) (pss_cons (ps_if (pt_cmpR op_isN (pv 2) pe_non (nomark _)) (pss_one (ps_ret (pe_hasM G_House_how_far (hr.mono (by decide)) (pv 0) (by exact (pa_cons (pv 1) pa_nil))))) pss_nil) (pss_one (ps_ret (pe_has G_found_answer (hr.mono (by decide)) rfl (by exact (pa_cons (pv 2) pa_nil)))))))), ?_⟩)
  · obtain ⟨A, h, n, rfl, _⟩ := h
    rfl
  · obtain ⟨A, h, n, rfl, hA, k⟩ := h
    have hno : ∀ {m : Str}, (m == ("jobs" : Str)) = false → (m == ("areas" : Str)) = false → (m == ("told_runs" : Str)) = false → (m == ("held_runs" : Str)) = false → (m == ("distrusted" : Str)) = false → (fH h.jobs A.pa A.pt A.ph A.pd).lookup m = none := fun a b c d e => fH_no a b c d e
    refine Sx.at (sx_when (et_test (ev_op (ev_var rfl) (evHj T (ev_var rfl) hA.ins) rv_I0)) ?_ ?_)
    · intro hb
      have hc : h.jobs ≤ n := by have := of_decide_eq_true hb; omega
      simp only [Rp02.step, if_pos hc] at k
      exact sx_retL (xs := ansV (Rp02.ok (-2))) (el_lst (ea_cons ev_c ea_nil) (by show 1 ≤ 100000; decide)) (k.same hA)
    · intro hb
      have hc : ¬ h.jobs ≤ n := by have := of_decide_eq_false hb; omega
      simp only [Rp02.step, if_neg hc] at k
      have k := k.same hA
      refine sx_asg (ev_meth (K := K) (ev_var rfl) hA.ins (hno (by decide +kernel) (by decide +kernel) (by decide +kernel) (by decide +kernel) (by decide +kernel)) (ea_cons (ev_var rfl) ea_nil) (use_found_run hA)) ?_
      have hO := hA.ofAt n
      cases hh : Rp02.hit h.taken h.world n with
      | none =>
        have hv : foundV h.world (A.of h n) (h.of n) = .non := found_none hO (by rw [← hit_of]; exact hh)
        have hk : h.look n = farAns h n := by
          unfold Rp02.House.look
          rw [hh]
          rfl
        rw [hk] at k
        rw [hv]
        refine sx_when (b := true) (et_test (ev_op (ev_var rfl) ev_c (rv_val fun H3 e3 Q3 q3 => ⟨rfl, q3⟩))) (fun _ => ?_) (fun hb => by cases hb)
        exact sx_retL (el_meth (K := K) (ev_var rfl) hA.ins (hno (by decide +kernel) (by decide +kernel) (by decide +kernel) (by decide +kernel) (by decide +kernel)) (ea_cons (ev_var rfl) ea_nil) (use_how_far hA hh)) k
      | some e =>
        obtain ⟨a, hv, hE⟩ := found_some hO (by rw [← hit_of]; exact hh)
        have hk : h.look n = ⟨1, [e.id, e.ended] ++ Rp02.unpairs e.made⟩ := by
          unfold Rp02.House.look
          rw [hh]
        rw [hk, ← found_ans] at k
        rw [hv]
        refine sx_when (b := false) (et_test (ev_op (ev_var rfl) ev_c (rv_val fun H3 e3 Q3 q3 => ⟨rfl, q3⟩))) (fun hb => by cases hb) (fun _ => ?_)
        exact sx_retL (el_call (ea_cons (ev_var rfl) ea_nil) (use_found_answer hE.1 (made_length hE.2))) k
theorem ok_House_bring {f : Addr} {fd : FuncData} (F : Fun K "bring" "House.bring" s_House_bring f fd) (T : Txt K mg C) (G_House_found_run : HasM P w K mg base 4 C.House "found_run" ["self", "job"] (sp_House_found_run K C)) (G_made_files : Has P w K mg base 1 "made_files" ["made"] (sp_made_files K C)) (G_found_answer : Has P w K mg base 1 "found_answer" ["run"] (sp_found_answer K C)) : FnOk P w K mg base CX0 5 f fd ["self", "job"] (sp_House_bring K C) := by
  refine F.ok sc_House_bring (fun vs H Q E h => ?_) (fun cdv A outer s H vs Q E hr h => ⟨_, (pss_cons (ps_if (pt_cmpR op_ge (pv 1) (pe_fldK (K := K) rfl (pv 0) rfl) (nomark _)) (pss_one (ps_ret (pe_lst (pa_cons (pe_globI rfl T.g_NO_SUCH_JOB) pa_nil)))) pss_nil) (pss_cons (ps_set (i := 2) sc_House_bring.nd rfl (Or.inl rfl) (pe_hasM G_House_found_run (hr.mono (by decide)) (pv 0) (by exact (pa_cons (pv 1) pa_nil)))) (pss_cons (ps_if (pt_cmpR op_isN (pv 2) pe_non (nomark _)) (pss_one (ps_ret (pe_lst (pa_cons (pe_globI rfl T.g_NOT_FOUND) pa_nil)))) pss_nil) (pss_cons (ps_asg (pe_has G_made_files (hr.mono (by decide)) rfl (by exact (pa_cons (pe_fldK (K := K) rfl (pv 2) rfl) pa_nil))) (pg_sub (pe_fldK (K := K) rfl (pv 0) rfl) (pe_op op_add (pv 1) pe_int) set_list)) (pss_one (ps_ret (pe_has G_found_answer (hr.mono (by decide)) rfl (by exact (pa_cons (pv 2) pa_nil))))))))), ?_⟩)
  · obtain ⟨A, h, n, rfl, _⟩ := h
    rfl
  · obtain ⟨A, h, n, rfl, hA, k⟩ := h
    refine Sx.at (sx_when (et_test (ev_op (ev_var rfl) (evHj T (ev_var rfl) hA.ins) rv_I0)) ?_ ?_)
    · intro hb
      have hc : h.jobs ≤ n := by have := of_decide_eq_true hb; omega
      simp only [Rp02.step, if_pos hc] at k
      exact sx_retL (xs := ansV (Rp02.ok (-2))) (el_lst (ea_cons ev_c ea_nil) (by show 1 ≤ 100000; decide)) (k.same hA)
    · intro hb
      have hc : ¬ h.jobs ≤ n := by have := of_decide_eq_false hb; omega
      simp only [Rp02.step, if_neg hc] at k
      refine sx_asg (ev_meth (K := K) (ev_var rfl) hA.ins (fH_no (by decide +kernel) (by decide +kernel) (by decide +kernel) (by decide +kernel) (by decide +kernel)) (ea_cons (ev_var rfl) ea_nil) (use_found_run hA)) ?_
      have hO := hA.ofAt n
      cases hh : Rp02.hit h.taken h.world n with
      | none =>
        have hv : foundV h.world (A.of h n) (h.of n) = .non := found_none hO (by rw [← hit_of]; exact hh)
        simp only [hh] at k
        have k := k.same hA
        rw [hv]
        refine sx_when (b := true) (et_test (ev_op (ev_var rfl) ev_c (rv_val fun H3 e3 Q3 q3 => ⟨rfl, q3⟩))) (fun _ => ?_) (fun hb => by cases hb)
        exact sx_retL (xs := ansV (Rp02.ok (-8))) (el_lst (ea_cons ev_c ea_nil) (by show 1 ≤ 100000; decide)) k
      | some e =>
        obtain ⟨a, hv, hEx⟩ := found_some (pick_paired (f := jobIs n) hA.hruns) (by rw [hit_of] at hh; exact hh)
        have hE : EntryAt C H a e := hEx.mono fx_ex
        have hv : foundV h.world (A.of h n) (h.of n) = .ref a := hv
        simp only [hh] at k
        rw [hv]
        refine sx_when (b := false) (et_test (ev_op (ev_var rfl) ev_c (rv_val fun H3 e3 Q3 q3 => ⟨rfl, q3⟩))) (fun hb => by cases hb) (fun _ => ?_)
        obtain ⟨dx, m, t, hR, hm, hT⟩ := hE.1
        intro H0 e0
        -- made_files(run.made)
        refine evRd T (ev_var rfl) (e0 _ _ hR) H0 (Ex.refl _) _ fun H1 e1 => ?_
        refine ⟨m, e.made, rfl, e1 _ _ (e0 _ _ hm), hE.2.sorted, Nat.le_trans hE.2.few (by decide), fun d H2 hd e2 h2 => ?_⟩
        have x2 := (e0.trans e1).trans e2
        have hA2 := hA.mono x2
        -- self.areas[job + 1]
        refine evHa T (ev_var rfl) hA2.ins H2 (Ex.refl _) _ fun H3 e3 => ?_
        have hidx : Ev (tOp (rI0 fun i j => V.int (i + j)) (tVar 1) (tC (.int 1))) [some (.ref A.x), some (.int (n : Int)), some (.ref a)] H3 (.int ((n + 1 : Nat) : Int)) := ev_op (ev_var rfl) ev_c rv_I0
        refine hidx H3 (Ex.refl _) _ fun H4 e4 => ?_
        have x4 := (x2.trans e3).trans e4
        have hdl : A.ds.length = h.jobs + 1 := by rw [paired_len hA.dicts, hA.inv.wl]
        refine ⟨A.pa, _, _, n + 1, rfl, rfl, x4 _ _ hA.areas, ixN_nat (by rw [List.length_map]; omega), ?_⟩
        have hAr : AreaAt H4 d e.made := ⟨e.made, e4 _ _ (e3 _ _ h2), ⟨List.Perm.refl _, hE.2.sorted⟩, Nat.lt_of_le_of_lt hE.2.few (by decide)⟩
        obtain ⟨hA5, hfx⟩ := hA.setDict x4 (i := n + 1) hAr (fresh_back (e0.trans e1) hd) (by omega)
        rw [List.map_set] at hA5 hfx
        show tRet (tCall (sp_found_answer K C) [] E0 (tCons (tVar 2) tNil)) { nx := fun _ H' => Q .non H', rt := Q } _ _
        refine s_retL (xs := ansV ⟨1, [e.id, e.ended] ++ Rp02.unpairs e.made⟩) ?_ fun p H6 hp e6 h6 => k H6 _ p (hA5.mono e6) rfl rfl (hfx.trans (fx_mono e6)) (hA5.tracked.fresh hp) h6
        rw [← found_ans]
        have hE5 : RunAt C (upd H4 A.pa (.lst ((A.ds.map V.ref).set (n + 1) (.ref d)))) a (rawOf e) := hEx.1.mono (off_mut.trans (hfx.trans fx_ex))
        exact el_call (ea_cons (ev_var rfl) ea_nil) (use_found_answer hE5 (made_length hE.2))
end
end Mine
set_option Elab.async false
set_option linter.all false
set_option maxRecDepth 100000
set_option maxHeartbeats 4000000
namespace Mine
open PySem PySem.Spec PyProof.Rows L2 Evl
open Rp02 (Ask Reply Trace Area askNumbers replyNumbers)
/-! ### tell -/
def refusal (h : Rp02.House) (r : Raw) : Option Int :=
  if h.jobs ≤ r.job ∨ 1 < r.ended then some (-2) else if h.out.contains r.machine = true then some (-3) else if (h.log.any fun e => e.id == r.id) = true then some (-4) else
  if (Rp02.made? r.made).isNone = true then some (-5) else if Rp02.ASKED < r.trace.length ∨ Rp02.right r.job r.trace = false then some (-6) else if h.log.length = Rp02.LOG then some (-7) else none
def refV : Option Int → V
  | some k => .int k
  | none => .non
/-- a run that is handed over -/
structure Handed (r : Raw) : Prop where
  kinded : KTr r.trace
  short : ∀ x ∈ r.trace, shortR x.2
  len : r.trace.length ≤ 1000
  made : r.made.length ≤ 1000
def callOf (r : Raw) : Rp02.Call := .tell r.id r.job r.machine r.ended r.made r.trace
def sp_House_refusal_of (K : PySem.W.Frag) (C : Ad) : Sp := fun vs H Q _ => ∃ (A : HA) (h : Rp02.House) (b : Addr) (r : Raw), vs = [.ref A.x, .ref b] ∧ HouseAt C H A h ∧ RunAt C H b r ∧ Handed r ∧ RetV (refV (refusal h r)) H Q
theorem use_refusal_of {K : PySem.W.Frag} {C : Ad} {H : Hp} {A : HA} {h : Rp02.House} {b : Addr} {r : Raw} (a : HouseAt C H A h) (hb : RunAt C H b r) (hr : Handed r) : SpV (sp_House_refusal_of K C) [.ref A.x, .ref b] H (refV (refusal h r)) := spV_of fun H1 e Q E k => ⟨A, h, b, r, rfl, a.mono e, hb.mono e, hr, k⟩
def sp_House_tell (K : PySem.W.Frag) (C : Ad) : Sp := fun vs H Q _ => ∃ (A : HA) (h : Rp02.House) (b : Addr) (r : Raw), vs = [.ref A.x, .ref b] ∧ HouseAt C H A h ∧ RunAt C (Fx A.off H) b r ∧ Handed r ∧ After C H A (Rp02.step h (callOf r)).1 (Rp02.step h (callOf r)).2 Q
theorem out_contains {kvs : List (Key × V)} {out : List Nat} {m : Nat} (h : kvs.map (fun kv => kv.1) = out.map fun (m : Nat) => (Sum.inl (m : Int) : Key)) : (valV kvs (Sum.inl (m : Int))).isSome = out.contains m := by
  rw [← valV_any]
  have e : (kvs.any fun kv => decide (kv.1 = (Sum.inl (m : Int) : Key))) = ((kvs.map fun kv => kv.1).any fun k => decide (k = (Sum.inl (m : Int) : Key))) := by
    rw [List.any_map]
    rfl
  rw [e, h, List.any_map, Bool.eq_iff_iff, List.any_eq_true, List.contains_iff_mem]
  constructor
  · rintro ⟨x, hx, hd⟩
    have : (Sum.inl (x : Int) : Key) = Sum.inl (m : Int) := of_decide_eq_true hd
    have : x = m := by
      have := Sum.inl.inj this
      omega
    rw [← this]
    exact hx
  · intro hm
    exact ⟨m, hm, decide_eq_true rfl⟩
theorem in_ids {l : List Rp02.Entry} {n : Nat} : inV (.int (n : Int)) (l.map fun e => .int (e.id : Int)) = l.any fun e => e.id == n := by
  unfold inV
  rw [List.any_map]
  congr 1
  funext e
  show ((e.id : Int) == (n : Int)) = (e.id == n)
  rw [Bool.eq_iff_iff]
  simp only [beq_iff_eq]
  omega
section
variable {P : Program} {w : World} {K : PySem.W.Frag} {mg : Str → Option Value} {base : Heap} {C : Ad}
theorem ok_House_refusal_of {f : Addr} {fd : FuncData} (F : Fun K "refusal_of" "House.refusal_of" s_House_refusal_of f fd) (T : Txt K mg C) (G_is_made_right : Has P w K mg base 2 "is_made_right" ["made"] (sp_is_made_right K C)) (G_is_trace_right : Has P w K mg base 4 "is_trace_right" ["job", "trace"] (sp_is_trace_right K C)) : FnOk P w K mg base CX0 5 f fd ["self", "run"] (sp_House_refusal_of K C) := by
  refine F.ok sc_House_refusal_of (fun vs H Q E h => ?_) (fun cdv A outer s H vs Q E hr h => ⟨_, (pss_cons (ps_if (PW.pt (pw_or (pt_cmpR op_ge (pe_fldK (K := K) rfl (pv 1) rfl) (pe_fldK (K := K) rfl (pv 0) rfl) (nomark _)) (pw_or1 (pt_cmpR op_gt (pe_fldK (K := K) rfl (pv 1) rfl) pe_int (nomark _))))) (pss_one (ps_ret (pe_globI rfl T.g_WRONG_JOB_OR_END))) pss_nil) (pss_cons (ps_if (pt_cmp (pc_din (hu_of hr) (pe_fldK (K := K) rfl (pv 1) rfl) (pe_fldK (K := K) rfl (pv 0) rfl)) rfl) (pss_one (ps_ret (pe_globI rfl T.g_NOT_TRUSTED))) pss_nil) (pss_cons (ps_if (pt_cmpR (op_in_seqK (K := K) rfl) (pe_fldK (K := K) rfl (pv 1) rfl) (pe_lc (own := [("told", 2)]) (g := gName 2) (tt := tYes) rfl sc_House_refusal_of.nd (pi_listK (K := K) rfl (pe_fldK (K := K) rfl (pv 0) rfl)) (blkOk_by (own := [("told", 2)]) (N := ["self", "run", "told"]) (sc := defScope s_House_refusal_of) (by decide +kernel)) (fun _ _ _ _ _ => pg_name (i := 2) sc_House_refusal_of.nd rfl (Or.inl rfl)) (fun _ _ _ _ _ => pts_nil) (fun _ _ _ _ _ => (pe_fldK (K := K) rfl (pv 2) rfl))) (by rfl)) (pss_one (ps_ret (pe_globI rfl T.g_NUMBER_TAKEN))) pss_nil) (pss_cons (ps_if (pt_not (pt_val (pe_has G_is_made_right (hr.mono (by decide)) rfl (by exact (pa_cons (pe_fldK (K := K) rfl (pv 1) rfl) pa_nil))))) (pss_one (ps_ret (pe_globI rfl T.g_WRONG_MADE))) pss_nil) (pss_cons (ps_if (pt_not (pt_val (pe_has G_is_trace_right hr rfl (by exact (pa_cons (pe_fldK (K := K) rfl (pv 1) rfl) (pa_cons (pe_fldK (K := K) rfl (pv 1) rfl) pa_nil)))))) (pss_one (ps_ret (pe_globI rfl T.g_WRONG_TRACE))) pss_nil) (pss_cons (ps_if (pt_cmpR op_ge (pe_callB (call_len_seqK (K := K) rfl) (by rfl) T.b_len (by decide +kernel) (pa_cons (pe_fldK (K := K) rfl (pv 0) rfl) pa_nil)) (pe_globI rfl T.g_MOST_TOLD) (nomark _)) (pss_one (ps_ret (pe_globI rfl T.g_FULL))) pss_nil) (pss_one (ps_ret pe_non)))))))), ?_⟩)
  · obtain ⟨A, h, b, r, rfl, _⟩ := h
    rfl
  · obtain ⟨A, h, b, r, rfl, hA, hB, hH, k⟩ := h
    obtain ⟨dx, m, t, hR, hm, hT⟩ := hB
    obtain ⟨kvs, ho, hkv⟩ := hA.out
    unfold refusal at k
    refine Sx.at (sx_when (et_or (et_test (ev_op (evRj T (ev_var rfl) hR) (evHj T (ev_var rfl) hA.ins) rv_I0)) fun _ => et_test (ev_op (evRe T (ev_var rfl) hR) ev_c rv_I0)) ?_ ?_)
    · intro hb
      rw [Bool.or_eq_true, decide_eq_true_eq, decide_eq_true_eq] at hb
      rw [if_pos (by omega)] at k
      exact sx_ret ev_c k
    intro hb
    rw [Bool.or_eq_false_iff, decide_eq_false_iff_not, decide_eq_false_iff_not] at hb
    rw [if_neg (by omega)] at k
    refine sx_when (et_B (ev_din (k := Sum.inl (r.machine : Int)) (evRm T (ev_var rfl) hR) (evHd T (ev_var rfl) hA.ins) ho)) ?_ ?_
    · intro hb
      rw [out_contains hkv] at hb
      rw [if_pos hb] at k
      exact sx_ret ev_c k
    intro hb
    rw [out_contains hkv] at hb
    rw [if_neg (by rw [hb]; decide)] at k
    have hlog := paired_len hA.runs
    have hl30 := hA.inv.log30
    refine sx_when (b := h.log.any fun e => e.id == r.id) (et_test (ev_is (ev_opL (x := .int (r.id : Int)) (xs := h.log.map fun e => .int (e.id : Int)) (evRn T (ev_var rfl) hR) ?_ fun p1 H1 h1 e1 => rv_isL (sq_of h1) rfl ?_) (congrArg V.bl in_ids))) ?_ ?_
    · refine el_mapL h.log (fun e => .int (e.id : Int)) (evHt T (ev_var rfl) hA.ins) (sq_of hA.told) (by rw [List.length_map, hlog]) (by rw [List.length_map, hlog]; omega) (fun x => rfl) fun i x y H1 e1 hx hy => ?_
      obtain ⟨a, ha, rfl⟩ := refs_get hx
      obtain ⟨y', hy', hE⟩ := paired_get hA.runs ha
      rw [hy] at hy'
      cases hy'
      obtain ⟨dx', m', t', hR', _⟩ := hE.1
      exact evRn T (ev_var rfl) (e1 _ _ (fx_ex _ _ hR'))
    · rw [List.all_map, List.all_eq_true]
      intro e _
      rfl
    · intro hb
      rw [if_pos hb] at k
      exact sx_ret ev_c k
    intro hb
    rw [if_neg (by rw [hb]; decide)] at k
    refine sx_when (et_not (et_B (ev_call (ea_cons (evRd T (ev_var rfl) hR) ea_nil) (use_is_made_right hm hH.made)))) ?_ ?_
    · intro hb
      rw [if_pos (by cases q : Rp02.made? r.made <;> simp_all)] at k
      exact sx_ret ev_c k
    intro hb
    rw [if_neg (by cases q : Rp02.made? r.made <;> simp_all)] at k
    refine sx_when (et_not (et_B (ev_call (ea_cons (evRj T (ev_var rfl) hR) (ea_cons (evRt T (ev_var rfl) hR) ea_nil)) (use_is_trace_right hT hH.kinded hH.short hH.len)))) ?_ ?_
    · intro hb
      have hc : Rp02.ASKED < r.trace.length ∨ Rp02.right r.job r.trace = false := by
        show 12 < _ ∨ _
        rw [Bool.not_eq_true', Bool.and_eq_false_iff, decide_eq_false_iff_not] at hb
        rcases hb with z | z
        · exact .inl (by omega)
        · exact .inr z
      rw [if_pos hc] at k
      exact sx_ret ev_c k
    intro hb
    have hc : ¬ (Rp02.ASKED < r.trace.length ∨ Rp02.right r.job r.trace = false) := by
      show ¬ (12 < _ ∨ _)
      rw [Bool.not_eq_false', Bool.and_eq_true, decide_eq_true_eq] at hb
      rintro (z | z)
      · omega
      · rw [z] at hb
        cases hb.2
    rw [if_neg hc] at k
    refine sx_when (et_test (ev_op (ev_lenN' (evHt T (ev_var rfl) hA.ins) (sq_of hA.told) (by rw [List.length_map, hlog])) ev_c rv_I0)) ?_ ?_
    · intro hb
      rw [decide_eq_true_eq] at hb
      rw [if_pos (by show h.log.length = 30; omega)] at k
      exact sx_ret ev_c k
    intro hb
    rw [decide_eq_false_iff_not] at hb
    rw [if_neg (by show ¬ h.log.length = 30; omega)] at k
    exact sx_ret ev_c k
end
end Mine
set_option Elab.async false
set_option linter.all false
set_option maxRecDepth 100000
set_option maxHeartbeats 4000000
namespace Mine
open PySem PySem.Spec PyProof.Rows L2 Evl
open Rp02 (Ask Reply Trace Area askNumbers replyNumbers)
def entryOf (r : Raw) (a : Area) : Rp02.Entry := ⟨r.id, r.job, r.machine, r.ended, a, r.trace⟩
theorem step_no {h : Rp02.House} {r : Raw} {k : Int} (hr : refusal h r = some k) : Rp02.step h (callOf r) = (h, Rp02.ok k) := by
  unfold refusal at hr
  unfold callOf Rp02.step
  dsimp only
  split at hr
  · rename_i c
    rw [if_pos c]
    cases hr
    rfl
  rename_i c1
  rw [if_neg c1]
  split at hr
  · rename_i c
    rw [if_pos c]
    cases hr
    rfl
  rename_i c2
  rw [if_neg c2]
  split at hr
  · rename_i c
    rw [if_pos c]
    cases hr
    rfl
  rename_i c3
  rw [if_neg c3]
  cases hm : Rp02.made? r.made with
  | none =>
    rw [hm] at hr
    simp only [Option.isNone_none, if_true] at hr
    cases hr
    rfl
  | some a =>
    rw [hm] at hr
    rw [if_neg (by simp)] at hr
    dsimp only
    split at hr
    · rename_i c
      rw [if_pos c]
      cases hr
      rfl
    rename_i c4
    rw [if_neg c4]
    split at hr
    · rename_i c
      rw [if_pos c]
      cases hr
      rfl
    · cases hr
theorem step_yes {h : Rp02.House} {r : Raw} (hr : refusal h r = none) (hH : Handed r) (hl : h.log.length ≤ 30) : ∃ a, Rp02.step h (callOf r) = ({ h with log := h.log ++ [entryOf r a] }, told (Rp02.taken h.log) (entryOf r a)) ∧ Good (entryOf r a) ∧ rawOf (entryOf r a) = r ∧ r.job < h.jobs ∧ h.log.length < 30 := by
  unfold refusal at hr
  unfold callOf Rp02.step
  dsimp only
  split at hr
  · cases hr
  rename_i c1
  rw [if_neg c1]
  split at hr
  · cases hr
  rename_i c2
  rw [if_neg c2]
  split at hr
  · cases hr
  rename_i c3
  rw [if_neg c3]
  cases hm : Rp02.made? r.made with
  | none =>
    rw [hm] at hr
    simp at hr
  | some a =>
    rw [hm] at hr
    rw [if_neg (by simp)] at hr
    dsimp only
    split at hr
    · cases hr
    rename_i c4
    rw [if_neg c4]
    split at hr
    · cases hr
    rename_i c5
    rw [if_neg c5]
    obtain ⟨m1, m2, m3⟩ := made_some hm
    have hright : Rp02.right r.job r.trace = true := by
      cases q : Rp02.right r.job r.trace with
      | true => rfl
      | false => exact absurd (.inr q) c4
    have h12 : r.trace.length ≤ 12 := by
      have : ¬ (12 < r.trace.length) := fun z => c4 (.inl z)
      omega
    refine ⟨a, rfl, ⟨hH.kinded, h12, fun x hx => ?_, m2, m3⟩, ?_, ?_, ?_⟩
    · have := ((right_iff hH.kinded).mp hright).1 x hx
      rw [stepRight_eq (hH.kinded x hx), Bool.and_eq_true] at this
      exact of_decide_eq_true this.2
    · unfold rawOf entryOf
      dsimp only
      rw [m1]
    · have : ¬ h.jobs ≤ r.job := fun z => c1 (.inl z)
      omega
    · have : h.log.length ≠ 30 := c5
      omega
theorem ans_nums (v : Verdict) : ansV v.ans = nV v.nums := by cases v <;> rfl
/-- other runs are told, the rest stays -/
theorem HouseAt.newLog {C : Ad} {H H' : Hp} {A : HA} {h : Rp02.House} (a : HouseAt C H A h) {ts hs : List Addr} {log : List Rp02.Entry} (hk : ∀ b o, b ≠ A.pt → b ≠ A.ph → H b = some o → H' b = some o)
    (h1 : H' A.pt = some (.lst (ts.map V.ref))) (h2 : H' A.ph = some (.lst (hs.map V.ref))) (r1 : Paired (EntryAt C (Fx A.off H)) ts log) (r2 : Paired (EntryAt C (Fx A.off H)) hs (Rp02.taken log)) (hl : log.length ≤ 30) (hj : ∀ e ∈ log, e.job < h.jobs) :
    HouseAt C H' { A with ts := ts, hs := hs } { h with log := log } ∧ Ex (Fx A.mut H) (Fx A.mut H') := by
  have nd := a.nd
  unfold HA.mut at nd
  simp only [List.nodup_cons, List.mem_cons, not_or] at nd
  obtain ⟨⟨n1, n2, n3, n4, n5⟩, ⟨m2, m3, m4, m5⟩, ⟨k3, k4, k5⟩, ⟨j4, j5⟩, i5, i6⟩ := nd
  have hfxG : ∀ (G : List Addr), Ex (Fx (G ++ A.mut) H) (Fx (G ++ A.mut) H') := fun G b o hb => by
    obtain ⟨q1, q2⟩ := fx_inv hb
    refine fx_some q1 (hk b o (fun c => q1 ?_) (fun c => q1 ?_) q2)
    · rw [c]; unfold HA.mut; simp
    · rw [c]; unfold HA.mut; simp
  have hfx := hfxG []
  obtain ⟨kvs, o1, o2⟩ := a.out
  refine ⟨⟨hk _ _ n2 n3 a.ins, hk _ _ m2 m3 a.areas, ?_, h1, L2.Paired.mapP r1 fun _ _ z => z.mono (hfxG A.ge), h2, L2.Paired.mapP r2 fun _ _ z => z.mono (hfxG A.ge), ⟨kvs, hk _ _ (Ne.symm k4) (Ne.symm j4) o1, o2⟩, a.nd, ⟨a.inv.wl, a.inv.j1, a.inv.j6, hl, hj, a.inv.src⟩, tab_keep a.tab (fun b o hb ho => hk b o (fun c => by rw [c, a.told] at hb; cases hb; exact ho trivial) (fun c => by rw [c, a.held] at hb; cases hb; exact ho trivial) hb), a.tin⟩, hfx⟩
  refine paired_set.paired_imp a.dicts fun j x y hx r => ?_
  obtain ⟨l, r1, r2⟩ := r
  refine ⟨l, hk _ _ (fun c => k5 ?_) (fun c => j5 ?_) r1, r2⟩
  · rw [← c]; exact List.mem_of_getElem? hx
  · rw [← c]; exact List.mem_of_getElem? hx
section
variable {P : Program} {w : World} {K : PySem.W.Frag} {mg : Str → Option Value} {base : Heap} {C : Ad}
theorem ok_House_tell {f : Addr} {fd : FuncData} (F : Fun K "tell" "House.tell" s_House_tell f fd) (T : Txt K mg C) (G_House_refusal_of : HasM P w K mg base 5 C.House "refusal_of" ["self", "run"] (sp_House_refusal_of K C)) (G_judge : Has P w K mg base 2 "judge" ["held_runs", "run"] (sp_judge K C)) : FnOk P w K mg base CX0 6 f fd ["self", "run"] (sp_House_tell K C) := by
  refine F.ok sc_House_tell (fun vs H Q E h => ?_) (fun cdv A outer s H vs Q E hr h => ⟨_, (pss_cons (ps_set (i := 2) sc_House_tell.nd rfl (Or.inl rfl) (pe_hasM G_House_refusal_of (hr.mono (by decide)) (pv 0) (by exact (pa_cons (pv 1) pa_nil)))) (pss_cons (ps_if (pt_cmpR op_notN (pv 2) pe_non (nomark _)) (pss_one (ps_ret (pe_lst (pa_cons (pv 2) pa_nil)))) pss_nil) (pss_cons (ps_set (i := 3) sc_House_tell.nd rfl (Or.inl rfl) (pe_has G_judge (hr.mono (by decide)) rfl (by exact (pa_cons (pe_fldK (K := K) rfl (pv 0) rfl) (pa_cons (pv 1) pa_nil))))) (pss_cons (ps_expr (pe_bm PySem.F.plainAttrs_list PySem.F.slot_list_append PySem.F.type_list_append mt_append (pe_fldK (K := K) rfl (pv 0) rfl) (pa_cons (pv 1) pa_nil))) (pss_cons (ps_if (pt_cmpR op_eq (pe_ix (ix_listK (K := K) rfl) (pv 3) pe_int (fun _ _ => rfl)) (pe_globI rfl T.g_IS_HELD) (nomark _)) (pss_one (ps_expr (pe_bm PySem.F.plainAttrs_list PySem.F.slot_list_append PySem.F.type_list_append mt_append (pe_fldK (K := K) rfl (pv 0) rfl) (pa_cons (pv 1) pa_nil)))) pss_nil) (pss_one (ps_ret (pv 3)))))))), ?_⟩)
  · obtain ⟨A, h, b, r, rfl, _⟩ := h
    rfl
  · obtain ⟨A, h, b, r, rfl, hA, hB, hH, k⟩ := h
    refine q_asg (ev_meth (K := K) (ev_var rfl) hA.ins (fH_no (by decide +kernel) (by decide +kernel) (by decide +kernel) (by decide +kernel) (by decide +kernel)) (ea_cons (ev_var rfl) ea_nil) (use_refusal_of hA (hB.mono fx_ex) hH)) fun H1 e1 => ?_
    cases hr : refusal h r with
    | some n =>
      rw [step_no hr] at k
      refine q_when (b := true) (et_test (ev_op (ev_var rfl) ev_c (rv_val fun H3 e3 Q3 q3 => ⟨rfl, q3⟩))) (fun _ H2 e2 => ?_) (fun hb => by cases hb)
      exact s_retL (xs := ansV (Rp02.ok n)) (el_lst (ea_cons (ev_var rfl) ea_nil) (by show 1 ≤ 100000; decide)) fun p H3 hp e3 h3 => (k.same hA).go (e1.trans e2) hp e3 h3
    | none =>
      obtain ⟨a, hs, hg, hraw, hj, h30⟩ := step_yes hr hH hA.inv.log30
      rw [hs, judge_told (taken_apart h.log)] at k
      dsimp only at k
      rw [← hraw] at hB
      have hE : EntryAt C (Fx A.off H) b (entryOf r a) := ⟨hB, hg⟩
      generalize hent : entryOf r a = ent at *
      have hjob : ent.job < h.jobs := by rw [← hent]; exact hj
      refine q_when (b := false) (et_test (ev_op (ev_var rfl) ev_c (rv_val fun H3 e3 Q3 q3 => ⟨rfl, q3⟩))) (fun hb => by cases hb) (fun _ H2 e2 => ?_)
      have x2 := e1.trans e2
      have hA2 := hA.mono x2
      have h30' := hA.held30
      refine q_asgL (xs := nV (judge (Rp02.taken h.log) ent).nums) (el_call (ea_cons (evHh T (ev_var rfl) hA2.ins) (ea_cons (ev_var rfl) ea_nil)) (use_judge hA2.heldAt ((hE.mono fx_ex).mono x2) (by omega))) fun p H3 hp e3 h3 => ?_
      have x3 := x2.trans e3
      have hA3 := hA.mono x3
      have hpm : p ∉ A.mut := hA2.tracked.fresh hp
      have hlog := paired_len hA.runs
      have hhl := paired_len hA.hruns
      refine q_app hA3.told (evHt T (ev_var rfl) hA3.ins) (ev_var rfl) (by rw [List.length_map, hlog]; omega) fun H4 e4 => ?_
      have nd := hA.nd
      unfold HA.mut at nd hpm
      simp only [List.nodup_cons, List.mem_cons, not_or] at nd hpm
      obtain ⟨⟨n1, n2, n3, n4, n5⟩, ⟨m2, m3, m4, m5⟩, ⟨k3, k4, k5⟩, ⟨j4, j5⟩, i5, i6⟩ := nd
      obtain ⟨d1, d2, d3, d4, d5, d6⟩ := hpm
      have x4 := x3.trans e4
      have hA4 := hA.mono x4
      have hp4 : upd H4 A.pt (.lst (A.ts.map V.ref ++ [.ref b])) p = some (.lst (nV (judge (Rp02.taken h.log) ent).nums)) := by
        rw [upd_ne d3]
        exact e4 _ _ h3
      have hx4 : upd H4 A.pt (.lst (A.ts.map V.ref ++ [.ref b])) A.x = some (.ins C.House A.dx (fH h.jobs A.pa A.pt A.ph A.pd)) := by
        rw [upd_ne n2]
        exact hA4.ins
      have hh4 : upd H4 A.pt (.lst (A.ts.map V.ref ++ [.ref b])) A.ph = some (.lst (A.hs.map V.ref)) := by
        rw [upd_ne (Ne.symm k3)]
        exact hA4.held
      have rlog : Paired (EntryAt C (Fx A.off H)) (A.ts ++ [b]) (h.log ++ [ent]) := paired_snoc hA.runs hE
      have hjl : ∀ f ∈ h.log ++ [ent], f.job < h.jobs := fun f hf => by
        rcases List.mem_append.mp hf with c | c
        · exact hA.inv.jobs f c
        · rw [List.mem_singleton.mp c]
          exact hjob
      have hll : (h.log ++ [ent]).length ≤ 30 := by
        rw [List.length_append]
        show _ + 1 ≤ 30
        omega
      have htk : Rp02.taken (h.log ++ [ent]) = if judge (Rp02.taken h.log) ent = .new then Rp02.taken h.log ++ [ent] else Rp02.taken h.log := by
        rw [taken_snoc, add_judge]
      have first : ∃ n : Nat, (judge (Rp02.taken h.log) ent).nums[0]? = some n ∧ (n = 0 ↔ judge (Rp02.taken h.log) ent = .new) := by
        cases judge (Rp02.taken h.log) ent with
        | new => exact ⟨0, rfl, by simp⟩
        | known => exact ⟨1, rfl, by simp⟩
        | against i j => exact ⟨2, rfl, by simp⟩
      obtain ⟨n, hn0, hn⟩ := first
      refine q_when (et_test (ev_op (ev_ixN (i := 0) (ev_var rfl) ev_c hp4 hn0) ev_c (rv_eq rfl))) ?_ ?_
      · intro hb H5 e5
        have hnew : judge (Rp02.taken h.log) ent = .new := hn.mp (by have := V.int.inj (of_decide_eq_true hb); omega)
        rw [if_pos hnew] at htk
        refine s_app (e5 _ _ hh4) (evHh T (ev_var rfl) (e5 _ _ hx4)) (ev_var rfl) (by rw [List.length_map, hhl]; omega) fun H6 e6 => ?_
        have x6 := e5.trans e6
        obtain ⟨hA7, hfx⟩ := hA.newLog (H' := upd H6 A.ph (.lst (A.hs.map V.ref ++ [.ref b]))) (ts := A.ts ++ [b]) (hs := A.hs ++ [b]) (log := h.log ++ [ent]) (fun c o c1 c2 ho => by
          rw [upd_ne c2]
          refine x6 _ _ ?_
          rw [upd_ne c1]
          exact x4 _ _ ho) (by
          rw [upd_ne k3, List.map_append]
          exact x6 _ _ upd_same) (by rw [List.map_append]; exact upd_same) rlog (by rw [htk]; exact paired_snoc hA.hruns hE) hll hjl
        refine s_ret (ev_var rfl) fun H8 e8 => ?_
        refine k H8 _ p (hA7.mono e8) rfl rfl (hfx.trans (fx_mono e8)) ?_ ?_
        · unfold HA.mut
          simp only [List.mem_cons, not_or]
          exact ⟨d1, d2, d3, d4, d5, d6⟩
        · rw [ans_nums]
          refine e8 _ _ ?_
          rw [upd_ne d4]
          exact x6 _ _ hp4
      · intro hb H5 e5
        have hnew : ¬ judge (Rp02.taken h.log) ent = .new := fun z => by
          have := hn.mpr z
          rw [this] at hb
          exact absurd hb (by decide)
        rw [if_neg hnew] at htk
        obtain ⟨hA7, hfx⟩ := hA.newLog (H' := H5) (ts := A.ts ++ [b]) (hs := A.hs) (log := h.log ++ [ent]) (fun c o c1 c2 ho => by
          refine e5 _ _ ?_
          rw [upd_ne c1]
          exact x4 _ _ ho) (by
          rw [List.map_append]
          exact e5 _ _ upd_same) (e5 _ _ hh4) rlog (by rw [htk]; exact hA.hruns) hll hjl
        refine s_ret (ev_var rfl) fun H8 e8 => ?_
        refine k H8 _ p (hA7.mono e8) rfl rfl (hfx.trans (fx_mono e8)) ?_ ?_
        · unfold HA.mut
          simp only [List.mem_cons, not_or]
          exact ⟨d1, d2, d3, d4, d5, d6⟩
        · rw [ans_nums]
          exact e8 _ _ (e5 _ _ hp4)
end
end Mine
set_option Elab.async false
set_option linter.all false
set_option maxRecDepth 100000
set_option maxHeartbeats 4000000
namespace Mine
open PySem PySem.Spec PyProof.Rows L2 Evl
open Rp02 (Ask Reply Trace Area Half Fate askNumbers replyNumbers)
/-! ### the plan's mathematics -/
def isKn (h : Half) (x : Ask × Reply) : Bool := (h.getD x.1.area none).isSome
def allKn (h : Half) (t : Trace) : Bool := t.all (isKn h)
def mayT (h : Half) (t : Trace) : Bool := (t.filter (isKn h)).all fun x => Rp02.known h x.1 == some x.2
theorem known_none {h : Half} {x : Ask × Reply} : Rp02.known h x.1 = none ↔ isKn h x = false := by
  unfold Rp02.known isKn
  cases h.getD x.1.area none <;> simp
theorem maybe_eq (h : Half) (e : Rp02.Entry) : e.maybe h = mayT h e.trace := by
  rw [Bool.eq_iff_iff]
  unfold Rp02.Entry.maybe mayT
  simp only [List.all_eq_true, List.mem_filter, Bool.or_eq_true, beq_iff_eq]
  constructor
  · rintro z x ⟨hx, hk⟩
    rcases z x hx with c | c
    · exact c
    · rw [known_none] at c
      rw [c] at hk
      cases hk
  · intro z x hx
    cases hk : isKn h x with
    | true => exact .inl (z x ⟨hx, hk⟩)
    | false => exact .inr (known_none.mpr hk)
theorem sure_eq (h : Half) (e : Rp02.Entry) : e.sure h = (mayT h e.trace && allKn h e.trace) := by
  rw [Bool.eq_iff_iff]
  unfold Rp02.Entry.sure mayT allKn
  simp only [List.all_eq_true, List.mem_filter, Bool.and_eq_true, beq_iff_eq]
  constructor
  · intro z
    refine ⟨fun x hx => z x hx.1, fun x hx => ?_⟩
    cases hk : isKn h x with
    | true => rfl
    | false =>
      have := z x hx
      rw [known_none.mpr hk] at this
      cases this
  · rintro ⟨z1, z2⟩ x hx
    exact z1 x ⟨hx, z2 x hx⟩
def fitF (h : Half) (job : Nat) (e : Rp02.Entry) : Bool := e.job == job && mayT h e.trace
theorem fate_find (l : List Rp02.Entry) (h : Half) (job : Nat) : (l.find? fun e => e.job == job && e.sure h) = (l.filter (fitF h job)).find? fun e => allKn h e.trace := by
  induction l with
  | nil => rfl
  | cons e l ih =>
    rw [List.find?_cons, List.filter_cons, ih, sure_eq]
    unfold fitF
    cases e.job == job <;> cases mayT h e.trace <;> simp [List.find?_cons]
theorem fate_any (l : List Rp02.Entry) (h : Half) (job : Nat) : (l.any fun e => e.job == job && e.maybe h) = !(l.filter (fitF h job)).isEmpty := by
  induction l with
  | nil => rfl
  | cons e l ih =>
    rw [List.any_cons, List.filter_cons, ih, maybe_eq]
    unfold fitF
    cases e.job == job <;> cases mayT h e.trace <;> simp
theorem fate_skip {l : List Rp02.Entry} {h : Half} {job : Nat} {e : Rp02.Entry} (z : ((l.filter (fitF h job)).find? fun e => allKn h e.trace) = some e) : Rp02.fate l h job = .skip e := by
  unfold Rp02.fate
  rw [fate_find, z]
theorem fate_other {l : List Rp02.Entry} {h : Half} {job : Nat} (z : ((l.filter (fitF h job)).find? fun e => allKn h e.trace) = none) : Rp02.fate l h job = if (l.filter (fitF h job)).length > 0 then .hangs else .must := by
  unfold Rp02.fate
  rw [fate_find, z, fate_any]
  cases l.filter (fitF h job) <;> simp
def codeF : Fate → List Nat
  | .skip e => [1, e.id]
  | .must => [0]
  | .hangs => [2]
def nextH (l : List Rp02.Entry) (h : Half) (job : Nat) : Option Area := match Rp02.fate l h job with
  | .skip e => some e.made
  | _ => none
theorem plan_step (l : List Rp02.Entry) (n : Nat) (h : Half) {i : Nat} (hi : h.length = i + 1) : (Rp02.plan l (n + 1) h).flatMap codeF = codeF (Rp02.fate l h i) ++ (Rp02.plan l n (h ++ [nextH l h i])).flatMap codeF := by
  rw [Rp02.plan, List.flatMap_cons, hi]
  rfl
theorem plan_ans (h : Rp02.House) : (Rp02.step h .plan).2 = ⟨(h.jobs : Nat), (Rp02.plan h.taken h.jobs [some (h.world.getD 0 [])]).flatMap codeF⟩ := by
  show Rp02.Ans.mk _ _ = _
  congr 1
/-! ### picked items -/
def pickG {β : Type} (f : β → Bool) (as : List Addr) (m : List β) : List Addr := ((as.zip m).filter fun p => f p.2).map (·.1)
theorem pickG_paired {β : Type} {R : Addr → β → Prop} {f : β → Bool} : ∀ {as : List Addr} {m : List β}, Paired R as m → Paired R (pickG f as m) (m.filter f)
  | _, _, .nil => .nil
  | a :: as, e :: m, .cons r t => by
    have ih := pickG_paired (f := f) t
    unfold pickG at ih ⊢
    rw [List.zip_cons_cons, List.filter_cons, List.filter_cons]
    cases h : f e with
    | true =>
      simp only [h, if_true, List.map_cons]
      exact .cons r ih
    | false =>
      first | exact ih | (rw [if_neg Bool.false_ne_true, if_neg Bool.false_ne_true]; exact ih) | (rw [if_neg Bool.false_ne_true]; exact ih)
theorem zipG_refs {β : Type} {as : List Addr} {m : List β} (h : as.length = m.length) : ((as.zip m).map fun p => (V.ref p.1, p.2)).map (·.1) = as.map V.ref := by
  rw [List.map_map]
  have : (as.zip m).map (Prod.fst) = as := List.map_fst_zip (by omega)
  conv => rhs; rw [← this, List.map_map]
  rfl
theorem pickG_refs {β : Type} {f : β → Bool} {as : List Addr} {m : List β} : ((((as.zip m).map fun p => (V.ref p.1, p.2)).filter fun p => f p.2).map (·.1)) = (pickG f as m).map V.ref := by
  unfold pickG
  rw [List.filter_map, List.map_map, List.map_map]
  rfl
theorem zipG_get {β : Type} {as : List Addr} {m : List β} {i : Nat} {x : V} {e : β} (h : ((as.zip m).map fun p => (V.ref p.1, p.2))[i]? = some (x, e)) : ∃ a, as[i]? = some a ∧ m[i]? = some e ∧ x = .ref a := by
  rw [List.getElem?_map, Option.map_eq_some_iff] at h
  obtain ⟨⟨a, e'⟩, h1, h2⟩ := h
  rw [List.getElem?_zip_eq_some] at h1
  obtain ⟨h3, h4⟩ := Prod.mk.inj h2
  exact ⟨a, h1.1, by rw [← h4]; exact h1.2, h3.symm⟩
/-- [x for x in xs if f(x)], the items told by another list -/
theorem el_pick {K : PySem.W.Frag} {σ : L2.St} {H : Hp} {t : TT} {β : Type} {a : Addr} {as : List Addr} {m : List β} (f : β → Bool) {tl : TE} {j : Nat} {vs : List Nat} (h : Ev tl σ H (.ref a)) (ha : H a = some (.lst (as.map V.ref))) (hl : as.length = m.length) (hz : as.length ≤ 40000) (hw : ∀ x, wipe ((wipe σ vs).set j (some x)) vs = wipe σ vs) (hj : ∀ x : V, ((wipe σ vs).set j (some x))[j]? = some (some x))
    (ht : ∀ (i : Nat) (b : Addr) (y : β) H1, Ex H H1 → as[i]? = some b → m[i]? = some y → EvT t ((wipe σ vs).set j (some (.ref b))) H1 (f y)) : EvL (tLc (iList K tl) (gName j) t (tVar j) vs) σ H ((pickG f as m).map V.ref) := by
  have := el_filL (K := K) (H := H) (σ := σ) (tl := tl) (j := j) (vs := vs) (t := t) (te := tVar j) ((as.zip m).map fun p => (V.ref p.1, p.2)) f h (sq_of ha) (zipG_refs hl) (by rw [List.length_map]; exact hz) hw (fun i x y H1 e1 hx => by
    obtain ⟨b, hb, hy, rfl⟩ := zipG_get hx
    exact ht i b y H1 e1 hb hy) (fun x H1 => ev_var (hj x))
  rw [pickG_refs] at this
  exact this
/-- the first that is so -/
def firstV (f : Rp02.Entry → Bool) (as : List Addr) (m : List Rp02.Entry) : V := match (as.zip m).find? fun p => f p.2 with
  | some p => .ref p.1
  | none => .non
theorem first_yes {f : Rp02.Entry → Bool} {a : Addr} {as : List Addr} {e : Rp02.Entry} {m : List Rp02.Entry} (h : f e = true) : firstV f (a :: as) (e :: m) = .ref a := by
  unfold firstV
  rw [List.zip_cons_cons, List.find?_cons, show f (a, e).2 = true from h]
theorem first_no {f : Rp02.Entry → Bool} {a : Addr} {as : List Addr} {e : Rp02.Entry} {m : List Rp02.Entry} (h : f e = false) : firstV f (a :: as) (e :: m) = firstV f as m := by
  unfold firstV
  rw [List.zip_cons_cons, List.find?_cons, show f (a, e).2 = false from h]
theorem first_some {R : Addr → Rp02.Entry → Prop} {f : Rp02.Entry → Bool} : ∀ {as : List Addr} {m : List Rp02.Entry} {e : Rp02.Entry}, Paired R as m → m.find? f = some e → ∃ a, firstV f as m = .ref a ∧ R a e
  | _, _, _, .nil, h => by cases h
  | a :: as, g :: m, e, .cons r t, h => by
    rw [List.find?_cons] at h
    unfold firstV
    rw [List.zip_cons_cons, List.find?_cons]
    cases q : f g with
    | true =>
      rw [q] at h
      cases h
      exact ⟨a, rfl, r⟩
    | false =>
      rw [q] at h
      exact first_some t h
theorem first_none {R : Addr → Rp02.Entry → Prop} {f : Rp02.Entry → Bool} : ∀ {as : List Addr} {m : List Rp02.Entry}, Paired R as m → m.find? f = none → firstV f as m = .non
  | _, _, .nil, _ => rfl
  | a :: as, g :: m, .cons r t, h => by
    rw [List.find?_cons] at h
    unfold firstV
    rw [List.zip_cons_cons, List.find?_cons]
    cases q : f g with
    | true =>
      rw [q] at h
      cases h
    | false =>
      rw [q] at h
      exact first_none t h
theorem known_isSome {h : Half} {kvs : List (Key × V)} {H : Hp} (k1 : ∀ (j : Nat) (a : Area), h.getD j none = some a → ∃ d, valV kvs (Sum.inl (j : Int)) = some (.ref d) ∧ AreaAt H d a) (k2 : ∀ j : Nat, h.getD j none = none → valV kvs (Sum.inl (j : Int)) = none) (j : Nat) : (valV kvs (Sum.inl (j : Int))).isSome = (h.getD j none).isSome := by
  cases q : h.getD j none with
  | none => rw [k2 j q]; rfl
  | some a =>
    obtain ⟨d, hd, _⟩ := k1 j a q
    rw [hd]
    rfl
theorem kinded_replyIn (a : Area) (q : Ask) : kinded (q, Rp02.replyIn a q) = true := by
  cases q with
  | file ar n =>
    show kinded (_, match Rp02.find a n with | some c => Reply.holds c | none => Reply.absent) = true
    cases Rp02.find a n <;> rfl
  | names ar lo hi => rfl
/-! ### promises -/
def sp_is_about (K : PySem.W.Frag) (C : Ad) : Sp := fun vs H Q _ => ∃ (p a : Addr) (h : Half) (x : Ask × Reply), vs = [.ref p, .ref a] ∧ KnownAt H p h ∧ StepAt C H a x ∧ RetV (.bl (isKn h x)) H Q
theorem use_is_about {K : PySem.W.Frag} {C : Ad} {H : Hp} {p a : Addr} {h : Half} {x : Ask × Reply} (h1 : KnownAt H p h) (h2 : StepAt C H a x) : SpV (sp_is_about K C) [.ref p, .ref a] H (.bl (isKn h x)) := spV_of fun H1 e Q E k => ⟨p, a, h, x, rfl, h1.mono e, h2.mono e, k⟩
def sp_fits_known (K : PySem.W.Frag) (C : Ad) : Sp := fun vs H Q _ => ∃ (p b : Addr) (h : Half) (e : Rp02.Entry), vs = [.ref p, .ref b] ∧ KnownAt H p h ∧ EntryAt C H b e ∧ RetV (.bl (mayT h e.trace)) H Q
theorem use_fits_known {K : PySem.W.Frag} {C : Ad} {H : Hp} {p b : Addr} {h : Half} {e : Rp02.Entry} (h1 : KnownAt H p h) (h2 : EntryAt C H b e) : SpV (sp_fits_known K C) [.ref p, .ref b] H (.bl (mayT h e.trace)) := spV_of fun H1 x Q E k => ⟨p, b, h, e, rfl, h1.mono x, h2.mono x, k⟩
def sp_sure_run (K : PySem.W.Frag) (C : Ad) : Sp := fun vs H Q _ => ∃ (p q : Addr) (h : Half) (as : List Addr) (l : List Rp02.Entry), vs = [.ref p, .ref q] ∧ KnownAt H p h ∧ H q = some (.lst (as.map V.ref)) ∧ Paired (EntryAt C H) as l ∧ RetV (firstV (fun e => allKn h e.trace) as l) H Q
theorem use_sure_run {K : PySem.W.Frag} {C : Ad} {H : Hp} {p q : Addr} {h : Half} {as : List Addr} {l : List Rp02.Entry} (h1 : KnownAt H p h) (h2 : H q = some (.lst (as.map V.ref))) (h3 : Paired (EntryAt C H) as l) : SpV (sp_sure_run K C) [.ref p, .ref q] H (firstV (fun e => allKn h e.trace) as l) := spV_of fun H1 x Q E k => ⟨p, q, h, as, l, rfl, h1.mono x, x _ _ h2, L2.Paired.mapP h3 fun _ _ z => z.mono x, k⟩
def sp_make_plan (K : PySem.W.Frag) (C : Ad) : Sp := fun vs H Q _ => ∃ (n : Nat) (d ph : Addr) (a : Area) (l : List Rp02.Entry), vs = [.int (n : Int), .ref d, .ref ph] ∧ n ≤ 6 ∧ AreaAt H d a ∧ RunsAt C H ph l ∧ l.length ≤ 1000 ∧ RetL (.int (n : Int) :: nV ((Rp02.plan l n [some a]).flatMap codeF)) H Q
theorem use_make_plan {K : PySem.W.Frag} {C : Ad} {H : Hp} {n : Nat} {d ph : Addr} {a : Area} {l : List Rp02.Entry} (hn : n ≤ 6) (h1 : AreaAt H d a) (h2 : RunsAt C H ph l) (hl : l.length ≤ 1000) : SpL (sp_make_plan K C) [.int (n : Int), .ref d, .ref ph] H (.int (n : Int) :: nV ((Rp02.plan l n [some a]).flatMap codeF)) := spL_of fun H1 x Q E k => ⟨n, d, ph, a, l, rfl, hn, h1.mono x, h2.mono x, hl, k⟩
section
variable {P : Program} {w : World} {K : PySem.W.Frag} {mg : Str → Option Value} {base : Heap} {C : Ad}
theorem ok_is_about {f : Addr} {fd : FuncData} (F : Fun K "is_about" "is_about" s_is_about f fd) (T : Txt K mg C)  : FnOk P w K mg base CX0 1 f fd ["known", "step"] (sp_is_about K C) := by
  refine F.ok sc_is_about (fun vs H Q E h => ?_) (fun cdv A outer s H vs Q E hr h => ⟨_, (pss_one (ps_ret (pe_cmp (pc_din (hu_of hr) (pe_ix (ix_listK (K := K) rfl) (pe_fldK (K := K) rfl (pv 1) rfl) pe_int (fun _ _ => rfl)) (pv 0)) rfl))), ?_⟩)
  · obtain ⟨p, a, h, x, rfl, _⟩ := h
    rfl
  · obtain ⟨p, a, h, x, rfl, ⟨kvs, hp, _, k1, k2⟩, ⟨dx, p1, q1, hs, hq, ha⟩, k⟩ := h
    refine Sx.at (sx_ret ?_ k)
    refine ev_is (ev_din (k := Sum.inl (x.1.area : Int)) (ev_ixN (i := 1) (evSq T (ev_var rfl) hs) ev_c hq (ask1 x.1)) (ev_var rfl) hp) (congrArg V.bl ?_)
    exact known_isSome k1 k2 _
theorem ok_fits_known {f : Addr} {fd : FuncData} (F : Fun K "fits_known" "fits_known" s_fits_known f fd) (T : Txt K mg C) (G_is_about : Has P w K mg base 1 "is_about" ["known", "step"] (sp_is_about K C)) (G_answer_now : Has P w K mg base 2 "answer_now" ["areas", "question"] (sp_answer_now K C)) : FnOk P w K mg base CX0 3 f fd ["known", "run"] (sp_fits_known K C) := by
  refine F.ok sc_fits_known (fun vs H Q E h => ?_) (fun cdv A outer s H vs Q E hr h => ⟨_, (pss_cons (ps_setLc (i := 2) (own := [("step", 3)]) (g := gName 3) rfl sc_fits_known.nd rfl rfl (sw_true rfl rfl rfl (by decide +kernel)) (pi_listK (K := K) rfl (pe_fldK (K := K) rfl (pv 1) rfl)) (blkOk_by (own := [("step", 3)]) (N := ["known", "run", "about_known", "step"]) (sc := defScope s_fits_known) (by decide +kernel)) (fun _ _ _ _ _ => pg_name (i := 3) sc_fits_known.nd rfl (Or.inl rfl)) (fun _ _ _ _ _ => (pts_one (pt_val (pe_has G_is_about (hr.mono (by decide)) rfl (by exact (pa_cons (pv 0) (pa_cons (pv 3) pa_nil))))))) (fun _ _ _ _ _ => (pv 3))) (pss_one (ps_ret (pe_callB (cr_allK (K := K) rfl rfl) (by rfl) T.b_all (by decide +kernel) (pa_cons (pe_lc (own := [("step", 3)]) (g := gName 3) (tt := tYes) rfl sc_fits_known.nd (pi_listK (K := K) rfl (pv 2)) (blkOk_by (own := [("step", 3)]) (N := ["known", "run", "about_known", "step"]) (sc := defScope s_fits_known) (by decide +kernel)) (fun _ _ _ _ _ => pg_name (i := 3) sc_fits_known.nd rfl (Or.inl rfl)) (fun _ _ _ _ _ => pts_nil) (fun _ _ _ _ _ => (pe_cmpR (op_eqDK (K := K) rfl hr.units) (pe_has G_answer_now hr rfl (by exact (pa_cons (pv 0) (pa_cons (pe_fldK (K := K) rfl (pv 3) rfl) pa_nil)))) (pe_fldK (K := K) rfl (pv 3) rfl) (nomark _)))) pa_nil))))), ?_⟩)
  · obtain ⟨p, b, h, e, rfl, _⟩ := h
    rfl
  · obtain ⟨p, b, h, e, rfl, hK, ⟨⟨dx, m, t, hR, hm, as, ht, hA⟩, hG⟩, k⟩ := h
    have hlen : as.length = e.trace.length := paired_len hA
    have h12 := hG.short
    refine q_asgL (xs := (pickG (isKn h) as e.trace).map V.ref) ?_ fun pa H1 hpa e1 h1 => ?_
    · refine el_pick (K := K) (j := 3) (vs := [3]) (m := e.trace) (isKn h) (evRt T (ev_var rfl) hR) ht hlen (by omega) (fun x => rfl) (fun x => rfl) fun i c y H1 e1 hc hy => ?_
      obtain ⟨y', hy', st⟩ := paired_get hA hc
      rw [show (rawOf e).trace[i]? = e.trace[i]? from rfl, hy] at hy'
      cases hy'
      exact et_B (ev_call (ea_cons (ev_var rfl) (ea_cons (ev_var rfl) ea_nil)) (use_is_about (hK.mono e1) (st.mono e1)))
    · have hP := pickG_paired (f := isKn h) hA
      have hl2 : ((pickG (isKn h) as e.trace).map V.ref).length = (e.trace.filter (isKn h)).length := by rw [List.length_map]; exact paired_len hP
      have hle := List.length_filter_le (isKn h) e.trace
      refine s_ret (ev_allMap (l := e.trace.filter (isKn h)) (f := fun x => Rp02.known h x.1 == some x.2) ?_) fun H2 e2 => k H2 (e1.trans e2)
      refine el_mapL (e.trace.filter (isKn h)) (fun x => .bl (Rp02.known h x.1 == some x.2)) (ev_var rfl) (sq_of h1) hl2 (by rw [hl2]; omega) (fun x => rfl) fun i x y H2 e2 hx hy => ?_
      obtain ⟨c, hc, rfl⟩ := refs_get hx
      obtain ⟨y', hy', dy, p1, q1, hs, hq, hans⟩ := paired_get hP hc
      rw [show ((rawOf e).trace.filter (isKn h))[i]? = (e.trace.filter (isKn h))[i]? from rfl, hy] at hy'
      cases hy'
      obtain ⟨hmem, hkn⟩ := List.mem_filter.mp (List.mem_of_getElem? hy)
      have x12 := e1.trans e2
      obtain ⟨ar, har⟩ := Option.isSome_iff_exists.mp (show (h.getD y.1.area none).isSome = true from hkn)
      have key : (Rp02.known h y.1 == some y.2) = decide (replyNumbers (Rp02.replyIn ar y.1) = replyNumbers y.2) := by
        have hk : Rp02.known h y.1 = some (Rp02.replyIn ar y.1) := by
          unfold Rp02.known
          rw [har]
        rw [hk, Bool.eq_iff_iff, beq_iff_eq, decide_eq_true_eq, Option.some.injEq]
        exact ⟨fun z => by rw [z], replyNumbers_inj (q := y.1) (kinded_replyIn ar y.1) (hG.kinded y hmem)⟩
      show Ev _ _ _ (.bl (Rp02.known h y.1 == some y.2))
      rw [key]
      exact ev_opL1 (el_call (ea_cons (ev_var rfl) (ea_cons (evSq T (ev_var rfl) (x12 _ _ hs)) ea_nil)) (use_answer_known (hK.mono x12) (x12 _ _ hq) har)) (fun H3 e3 => evSa T (ev_var rfl) (e3 _ _ (x12 _ _ hs))) fun p2 H3 h3 e3 => rv_eqN h3 (e3 _ _ (x12 _ _ hans))
end
end Mine
set_option Elab.async false
set_option linter.all false
set_option maxRecDepth 100000
set_option maxHeartbeats 4000000
namespace Mine
open PySem PySem.Spec PyProof.Rows L2 Evl
open Rp02 (Ask Reply Trace Area Half Fate askNumbers replyNumbers)
section
variable {K : PySem.W.Frag} {σ : L2.St} {H H' : Hp} {ta te : TE} {D : Ends} {tz : TS}
/-- xs.extend([..]) -/
theorem s_ext {l : Addr} {xs ys : List V} (hl : H l = some (.lst xs)) (ha : Ev ta σ H (.ref l)) (h : EvL te σ H ys) (hz : xs.length + ys.length ≤ 100000) (k : ∀ H1, Ex H H1 → D.nx σ (upd H1 l (.lst (xs ++ ys)))) : tDrop (tBM K "list" rExtend ta (tCons te tNil)) D σ H :=
  ha H (Ex.refl H) _ fun H1 e1 => ⟨.inl ⟨rfl, _, sq_of (e1 _ _ hl)⟩, h H1 e1 _ fun p H2 hp e2 h2 => ⟨l, p, xs, ys, rfl, rfl, e2 _ _ (e1 _ _ hl), h2, sz_of hz, k H2 (e1.trans e2)⟩⟩
end
theorem known_first {H : Hp} {p d : Addr} {a : Area} (hp : H p = some (.dK [(Sum.inl 0, .ref d)])) (h : AreaAt H d a) : KnownAt H p [some a] := by
  refine ⟨_, hp, by show 1 ≤ 100; decide, fun j b hj => ?_, fun j hj => ?_⟩
  · cases j with
    | zero =>
      cases hj
      exact ⟨d, rfl, h⟩
    | succ j => simp at hj
  · cases j with
    | zero => simp at hj
    | succ j =>
      rw [valV_neg (by simp; omega)]
      rfl
theorem getD_snoc_lt {h : Half} {x : Option Area} {j : Nat} (hj : j ≠ h.length) : (h ++ [x]).getD j none = h.getD j none := by
  rw [List.getD_eq_getElem?_getD, List.getD_eq_getElem?_getD]
  rcases Nat.lt_or_ge j h.length with c | c
  · rw [List.getElem?_append_left c]
  · rw [List.getElem?_append_right c, List.getElem?_eq_none (by simp; omega), List.getElem?_eq_none (by omega)]
theorem getD_snoc_at {h : Half} {x : Option Area} : (h ++ [x]).getD h.length none = x := by
  rw [List.getD_eq_getElem?_getD, List.getElem?_append_right (Nat.le_refl _)]
  simp
theorem known_none_snoc {H : Hp} {p : Addr} {h : Half} (k : KnownAt H p h) : KnownAt H p (h ++ [none]) := by
  obtain ⟨kvs, h1, h2, h3, h4⟩ := k
  have key : ∀ j, (h ++ [none]).getD j none = h.getD j none := fun j => by
    by_cases c : j = h.length
    · rw [c, getD_snoc_at, List.getD_eq_getElem?_getD, List.getElem?_eq_none (Nat.le_refl _)]
      rfl
    · exact getD_snoc_lt c
  exact ⟨kvs, h1, h2, fun j a hj => h3 j a (by rw [← key]; exact hj), fun j hj => h4 j (by rw [← key]; exact hj)⟩
theorem area_ne {H : Hp} {p c x : Addr} {b : Area} {kvs : List (Key × V)} {n : Nat} (hp : H p = some (.dK kvs)) (hv : valV kvs (Sum.inl (n : Int)) = some (.ref x)) (z : AreaAt H c b) : c ≠ p := by
  rintro rfl
  obtain ⟨l, z1, _⟩ := z
  rw [hp] at z1
  cases z1
  rw [valV_kvN] at hv
  cases q : Rp02.find l n with
  | none =>
    rw [q] at hv
    cases hv
  | some m =>
    rw [q] at hv
    cases hv
/-- an area more is known -/
theorem known_put {H H1 : Hp} {p d : Addr} {h : Half} {a a0 : Area} {kvs : List (Key × V)} (hp : H p = some (.dK kvs)) (hl : kvs.length < 50) (h0 : h.getD 0 none = some a0) (h3 : ∀ (j : Nat) (a : Area), h.getD j none = some a → ∃ d, valV kvs (Sum.inl (j : Int)) = some (.ref d) ∧ AreaAt H d a) (h4 : ∀ j : Nat, h.getD j none = none → valV kvs (Sum.inl (j : Int)) = none) (e : Ex H H1) (hd : AreaAt H1 d a) :
    KnownAt (upd H1 p (.dK (putK kvs (Sum.inl ((h.length : Nat) : Int)) (.ref d)))) p (h ++ [some a]) := by
  obtain ⟨x0, hx0, _⟩ := h3 0 a0 h0
  have hpd : ∀ {c : Addr} {b : Area}, AreaAt H1 c b → AreaAt (upd H1 p (.dK (putK kvs (Sum.inl ((h.length : Nat) : Int)) (.ref d)))) c b := fun {c b} z => by
    have hc := area_ne (e _ _ hp) hx0 z
    obtain ⟨l, z1, z2⟩ := z
    exact ⟨l, by rw [upd_ne hc]; exact z1, z2⟩
  have hk : valV kvs (Sum.inl ((h.length : Nat) : Int)) = none := h4 _ (by rw [List.getD_eq_getElem?_getD, List.getElem?_eq_none (Nat.le_refl _)]; rfl)
  have hne : ∀ {j : Nat}, j ≠ h.length → ¬ ((Sum.inl (j : Int) : Key) = Sum.inl ((h.length : Nat) : Int)) := fun {j} c z => c (by have := Sum.inl.inj z; omega)
  refine ⟨_, upd_same, ?_, fun j b hj => ?_, fun j hj => ?_⟩
  · rw [putK_new _ hk, List.length_append]
    show kvs.length + 1 ≤ 100
    omega
  · by_cases c : j = h.length
    · rw [c, getD_snoc_at] at hj
      cases hj
      exact ⟨d, by rw [valV_put, if_pos (by rw [c])], hpd hd⟩
    · rw [getD_snoc_lt c] at hj
      obtain ⟨d', h5, h6⟩ := h3 j b hj
      exact ⟨d', by rw [valV_put, if_neg (hne c)]; exact h5, hpd (h6.mono e)⟩
  · by_cases c : j = h.length
    · rw [c, getD_snoc_at] at hj
      cases hj
    · rw [getD_snoc_lt c] at hj
      rw [valV_put, if_neg (hne c)]
      exact h4 j hj
theorem known_other {H : Hp} {p g : Addr} {h : Half} {xs : List V} {o : HO} (k : KnownAt H p h) (hg : H g = some (.lst xs)) : KnownAt (upd H g o) p h := by
  obtain ⟨kvs, h1, h2, h3, h4⟩ := k
  refine ⟨kvs, by rw [upd_ne (ne_of h1 hg (by intro z; cases z))]; exact h1, h2, fun j a hj => ?_, h4⟩
  obtain ⟨d, h5, l, h6, h7⟩ := h3 j a hj
  exact ⟨d, h5, l, by rw [upd_ne (ne_of h6 hg (by intro z; cases z))]; exact h6, h7⟩
theorem nV_snoc (l : List Nat) (n : Nat) : nV (l ++ [n]) = nV l ++ [.int (n : Int)] := by
  unfold nV
  rw [List.map_append]
  rfl
section
variable {P : Program} {w : World} {K : PySem.W.Frag} {mg : Str → Option Value} {base : Heap} {C : Ad}
theorem ok_sure_run {f : Addr} {fd : FuncData} (F : Fun K "sure_run" "sure_run" s_sure_run f fd) (T : Txt K mg C) (G_is_about : Has P w K mg base 1 "is_about" ["known", "step"] (sp_is_about K C)) : FnOk P w K mg base CX0 2 f fd ["known", "fitting_runs"] (sp_sure_run K C) := by
  refine F.ok sc_sure_run (fun vs H Q E h => ?_) (fun cdv A outer s H vs Q E hr h => ⟨_, (pss_cons (ps_for PassesOwn.never rfl (pi_listK (K := K) rfl (pv 1)) (pg_name (i := 2) sc_sure_run.nd rfl (Or.inl rfl)) (pss_one (ps_if (pt_val (pe_callB (cr_allK (K := K) rfl rfl) (by rfl) T.b_all (by decide +kernel) (pa_cons (pe_lc (own := [("step", 3)]) (g := gName 3) (tt := tYes) rfl sc_sure_run.nd (pi_listK (K := K) rfl (pe_fldK (K := K) rfl (pv 2) rfl)) (blkOk_by (own := [("step", 3)]) (N := ["known", "fitting_runs", "run", "step"]) (sc := defScope s_sure_run) (by decide +kernel)) (fun _ _ _ _ _ => pg_name (i := 3) sc_sure_run.nd rfl (Or.inl rfl)) (fun _ _ _ _ _ => pts_nil) (fun _ _ _ _ _ => (pe_has G_is_about hr rfl (by exact (pa_cons (pv 0) (pa_cons (pv 3) pa_nil)))))) pa_nil))) (pss_one (ps_ret (pv 2))) pss_nil))) (pss_one (ps_ret pe_non))), ?_⟩)
  · obtain ⟨p, q, h, as, l, rfl, _⟩ := h
    rfl
  · obtain ⟨p, q, h, as, l, rfl, hK, hq, hA, k⟩ := h
    have hlen : (as.map V.ref).length = l.length := by rw [List.length_map, paired_len hA]
    refine q_forLn (ev_var rfl) (sq_of hq) (fun i σ' H' => Ex H H' ∧ (∃ v u, σ' = [some (.ref p), some (.ref q), v, u]) ∧ firstV (fun e => allKn h e.trace) as l = firstV (fun e => allKn h e.trace) (as.drop i) (l.drop i)) ?_ ?_ ?_ ?_
    · exact fun H1 e1 => ⟨e1, ⟨none, none, rfl⟩, by simp⟩
    · exact fun i σ' H' _ z => sq_of (z.1 _ _ hq)
    · rintro i x σ' H' hi ⟨x0, ⟨v, u, rfl⟩, hf⟩
      obtain ⟨a, ha, rfl⟩ := refs_get hi
      obtain ⟨e, he, hE⟩ := paired_get hA ha
      rw [drop_at ha, drop_at he] at hf
      obtain ⟨⟨dx, m, t, hR, hm, ts, ht, hT⟩, hG⟩ := hE
      have hl2 : (ts.map V.ref).length = e.trace.length := by rw [List.length_map]; exact paired_len hT
      have h12 := hG.short
      refine s_when (b := allKn h e.trace) (et_B (ev_allMap (l := e.trace) (f := isKn h) ?_)) ?_ ?_
      · refine el_mapL e.trace (fun x => .bl (isKn h x)) (evRt T (ev_var rfl) (x0 _ _ hR)) (sq_of (x0 _ _ ht)) hl2 (by rw [hl2]; omega) (fun x => rfl) fun j x y H1 e1 hx hy => ?_
        obtain ⟨c, hc, rfl⟩ := refs_get hx
        obtain ⟨y', hy', st⟩ := paired_get hT hc
        rw [show (rawOf e).trace[j]? = e.trace[j]? from rfl, hy] at hy'
        cases hy'
        exact ev_call (ea_cons (ev_var rfl) (ea_cons (ev_var rfl) ea_nil)) (use_is_about ((hK.mono x0).mono e1) ((st.mono x0).mono e1))
      · intro hb H1 e1
        rw [first_yes hb] at hf
        rw [hf] at k
        exact s_ret (ev_var rfl) fun H2 e2 => k H2 ((x0.trans e1).trans e2)
      · intro hb H1 e1
        refine ⟨x0.trans e1, ⟨_, _, rfl⟩, ?_⟩
        rw [hf, first_no hb]
    · rintro σ' H' ⟨x0, ⟨v, u, rfl⟩, hf⟩
      rw [hlen, List.drop_of_length_le (by rw [paired_len hA]; exact Nat.le_refl _ : as.length ≤ l.length)] at hf
      have hf : firstV (fun e => allKn h e.trace) as l = .non := by
        rw [hf]
        unfold firstV
        rw [List.zip_nil_left]
        rfl
      rw [hf] at k
      exact s_ret ev_c fun H2 e2 => k H2 (x0.trans e2)
theorem ok_make_plan {f : Addr} {fd : FuncData} (F : Fun K "make_plan" "make_plan" s_make_plan f fd) (T : Txt K mg C) (G_fits_known : Has P w K mg base 3 "fits_known" ["known", "run"] (sp_fits_known K C)) (G_sure_run : Has P w K mg base 2 "sure_run" ["known", "fitting_runs"] (sp_sure_run K C)) (G_made_files : Has P w K mg base 1 "made_files" ["made"] (sp_made_files K C)) : FnOk P w K mg base CX0 4 f fd ["jobs", "sources", "held_runs"] (sp_make_plan K C) := by
  refine F.ok sc_make_plan (fun vs H Q E h => ?_) (fun cdv A outer s H vs Q E hr h => ⟨_, (pss_cons (ps_set (i := 3) sc_make_plan.nd rfl (Or.inr rfl) (pe_disp (pps_cons pe_int (pv 1) pps_nil) rfl rfl (by simp) (by decide))) (pss_cons (ps_set (i := 4) sc_make_plan.nd rfl (Or.inl rfl) (pe_lst (pa_cons (pv 0) pa_nil))) (pss_cons (ps_for PassesOwn.never rfl (pi_range1 rfl T.b_range (pa_cons (pv 0) pa_nil)) (pg_name (i := 5) sc_make_plan.nd rfl (Or.inr rfl)) (pss_cons (ps_setLc (i := 6) (own := [("run", 7)]) (g := gName 7) rfl sc_make_plan.nd rfl rfl (sw_true rfl rfl rfl (by decide +kernel)) (pi_listK (K := K) rfl (pv 2)) (blkOk_by (own := [("run", 7)]) (N := ["jobs", "sources", "held_runs", "known", "planned", "job", "fitting_runs", "run"]) (sc := defScope s_make_plan) (by decide +kernel)) (fun _ _ _ _ _ => pg_name (i := 7) sc_make_plan.nd rfl (Or.inl rfl)) (fun _ _ _ _ _ => (pts_one (PW.pt (pw_and (pt_cmpR op_eq (pe_fldK (K := K) rfl (pv 7) rfl) (pv 5) (nomark _)) (pw_and1 (pt_val (pe_has G_fits_known hr rfl (by exact (pa_cons (pv 3) (pa_cons (pv 7) pa_nil)))))))))) (fun _ _ _ _ _ => (pv 7))) (pss_cons (ps_set (i := 7) sc_make_plan.nd rfl (Or.inl rfl) (pe_has G_sure_run (hr.mono (by decide)) rfl (by exact (pa_cons (pv 3) (pa_cons (pv 6) pa_nil))))) (pss_one (ps_if (pt_cmpR op_notN (pv 7) pe_non (nomark _)) (pss_cons (ps_dput (hu_of hr) (pv 3) (pe_op op_add (pv 5) pe_int) (pe_has G_made_files (hr.mono (by decide)) rfl (by exact (pa_cons (pe_fldK (K := K) rfl (pv 7) rfl) pa_nil))) rfl) (pss_one (ps_expr (pe_bm PySem.F.plainAttrs_list PySem.F.slot_list_extend PySem.F.type_list_extend mt_extend (pv 4) (pa_cons (pe_lst (pa_cons (pe_globI rfl T.g_SURE) (pa_cons (pe_fldK (K := K) rfl (pv 7) rfl) pa_nil))) pa_nil))))) (pss_one (ps_if (pt_cmpR op_gt (pe_callB (call_len_seqK (K := K) rfl) (by rfl) T.b_len (by decide +kernel) (pa_cons (pv 6) pa_nil)) pe_int (nomark _)) (pss_one (ps_expr (pe_bm PySem.F.plainAttrs_list PySem.F.slot_list_append PySem.F.type_list_append mt_append (pv 4) (pa_cons (pe_globI rfl T.g_HANGS) pa_nil)))) (pss_one (ps_expr (pe_bm PySem.F.plainAttrs_list PySem.F.slot_list_append PySem.F.type_list_append mt_append (pv 4) (pa_cons (pe_globI rfl T.g_MUST_BE_RUN) pa_nil))))))))))) (pss_one (ps_ret (pv 4)))))), ?_⟩)
  · obtain ⟨n, d, ph, a, l, rfl, _⟩ := h
    rfl
  · obtain ⟨n, d, ph, a, l, rfl, hn, hd, ⟨as, hph, hA⟩, hl, k⟩ := h
    have hlen : as.length = l.length := paired_len hA
    -- known = {0: sources}
    intro kd hkd
    refine ⟨_, rfl, upd_same, [(Sum.inl 0, V.ref d)], rfl, by show 1 ≤ 15; decide, ?_⟩
    have x0 : Ex H (upd (upd H kd (.dK [])) kd (.dK (mergeK [] [(Sum.inl 0, V.ref d)]))) := by
      rw [upd_upd]
      exact Ex.new hkd
    have hk0 : upd (upd H kd (.dK [])) kd (.dK (mergeK [] [(Sum.inl 0, V.ref d)])) kd = some (.dK [(Sum.inl 0, V.ref d)]) := upd_same
    generalize upd (upd H kd (.dK [])) kd (.dK (mergeK [] [(Sum.inl 0, V.ref d)])) = H0 at x0 hk0
    refine q_asgL (xs := [.int (n : Int)]) (el_lst (ea_cons (ev_var rfl) ea_nil) (by show 1 ≤ 100000; decide)) fun pl H1 hpl0 e1 h1 => ?_
    have hplH : H pl = none := fresh_back x0 hpl0
    have hkp : kd ≠ pl := ne_of_none hk0 hpl0
    refine q_forR1 (n := (n : Int)) (ea_cons (ev_var rfl) ea_nil) (by omega) (fun i σ' H' => Ex H H' ∧ ∃ (h : Half) (done : List Nat) (v5 v6 v7 : Option V), σ' = [some (.int (n : Int)), some (.ref d), some (.ref ph), some (.ref kd), some (.ref pl), v5, v6, v7] ∧ i ≤ n ∧ h.length = i + 1 ∧ h.getD 0 none = some a ∧ (∃ kvs, H' kd = some (.dK kvs) ∧ kvs.length ≤ i + 1) ∧ KnownAt H' kd h ∧ H' pl = some (.lst (.int (n : Int) :: nV done)) ∧ done.length ≤ 2 * i ∧ (Rp02.plan l n [some a]).flatMap codeF = done ++ (Rp02.plan l (n - i) h).flatMap codeF) ?_ ?_ ?_
    · intro H2 e2
      have x2 := (x0.trans e1).trans e2
      exact ⟨x2, [some a], [], none, none, none, rfl, Nat.zero_le _, rfl, rfl, ⟨_, e2 _ _ (e1 _ _ hk0), by show 1 ≤ 1; decide⟩, known_first (e2 _ _ (e1 _ _ hk0)) (hd.mono x2), e2 _ _ h1, by show 0 ≤ _; omega, rfl⟩
    · rintro i σ' H' hi ⟨x, h, done, v5, v6, v7, rfl, hin, hhl, hh0, ⟨kvs0, hkv0, hkl0⟩, hK, hpl, hdl, hplan⟩
      have hi : i < n := by omega
      -- fitting_runs
      have hph' := x _ _ hph
      refine q_asgL (xs := (pickG (fitF h i) as l).map V.ref) ?_ fun pf H2 hpf e2 h2 => ?_
      · refine el_pick (K := K) (j := 7) (vs := [7]) (m := l) (fitF h i) (ev_var rfl) hph' hlen (by omega) (fun x => rfl) (fun x => rfl) fun j c y H2 e2 hc hy => ?_
        obtain ⟨y', hy', hE⟩ := paired_get hA hc
        rw [hy] at hy'
        cases hy'
        have hE2 := (hE.mono x).mono e2
        obtain ⟨⟨dx, m, t, hR, _⟩, _⟩ := hE2
        refine et_is (et_and (et_test (ev_op (evRj T (ev_var rfl) hR) (ev_var rfl) (rv_eq rfl))) fun _ => et_B (ev_call (ea_cons (ev_var rfl) (ea_cons (ev_var rfl) ea_nil)) (use_fits_known (hK.mono e2) ((hE.mono x).mono e2)))) ?_
        unfold fitF
        congr 1
        rw [Bool.eq_iff_iff]
        simp only [decide_eq_true_eq, V.int.injEq, beq_iff_eq]
        show ((y.job : Nat) : Int) = _ ↔ _
        omega
      have x2 := x.trans e2
      have hP2 : Paired (EntryAt C H2) (pickG (fitF h i) as l) (l.filter (fitF h i)) := L2.Paired.mapP (pickG_paired hA) fun _ _ z => z.mono x2
      have hfl : ((pickG (fitF h i) as l).map V.ref).length = (l.filter (fitF h i)).length := by rw [List.length_map, paired_len hP2]
      -- run
      refine q_asg (ev_call (ea_cons (ev_var rfl) (ea_cons (ev_var rfl) ea_nil)) (use_sure_run (hK.mono e2) h2 hP2)) fun H3 e3 => ?_
      have e23 := e2.trans e3
      have x3 := x.trans e23
      have hnk : n - i = (n - (i + 1)) + 1 := by omega
      rw [hnk, plan_step l _ h hhl] at hplan
      cases hfd : (l.filter (fitF h i)).find? fun e => allKn h e.trace with
      | some e =>
        obtain ⟨c, hv, hE⟩ := first_some hP2 hfd
        rw [hv]
        have hfate := fate_skip hfd
        have hnext : nextH l h i = some e.made := by
          unfold nextH
          rw [hfate]
        rw [hfate, hnext] at hplan
        refine s_if (b := true) (et_test (ev_op (ev_var rfl) ev_c (rv_val fun H4 e4 Q4 q4 => ⟨rfl, q4⟩))) (fun _ H4 e4 => ?_) (fun hb => by cases hb)
        have e24 := e3.trans e4
        obtain ⟨⟨dx, m, t, hR, hm, _⟩, hG⟩ := hE
        -- known[job + 1] = made_files(run.made)
        refine evRd T (ev_var rfl) (e24 _ _ hR) H4 (Ex.refl _) _ fun H5 e5 => ?_
        refine ⟨m, e.made, rfl, e5 _ _ (e24 _ _ hm), hG.sorted, Nat.le_trans hG.few (by decide), fun dm H6 hdm e6 h6 => ?_⟩
        have e26 := (e24.trans e5).trans e6
        have xk := e2.trans e26
        refine ⟨_, rfl, ?_⟩
        have hidx : Ev (tOp (rI0 fun i j => V.int (i + j)) (tVar 5) (tC (.int 1))) [some (.int (n : Int)), some (.ref d), some (.ref ph), some (.ref kd), some (.ref pl), some (.int (i : Int)), some (.ref pf), some (.ref c)] H6 (.int ((i + 1 : Nat) : Int)) := ev_op (ev_var rfl) ev_c rv_I0
        refine hidx H6 (Ex.refl _) _ fun H7 e7 => ?_
        have xk7 := xk.trans e7
        obtain ⟨kvs, hk1, _, hk3, hk4⟩ := hK
        have hkvs : kvs = kvs0 := by
          rw [hkv0] at hk1
          cases hk1
          rfl
        subst hkvs
        have hAr : AreaAt H7 dm e.made := ⟨e.made, e7 _ _ h6, ⟨List.Perm.refl _, hG.sorted⟩, Nat.lt_of_le_of_lt hG.few (by decide)⟩
        have hKn := known_put hk1 (by omega) hh0 hk3 hk4 xk7 hAr
        rw [hhl] at hKn
        refine ⟨kd, _, rfl, DPut.k (k := Sum.inl ((i + 1 : Nat) : Int)) (xk7 _ _ hk1) (sz_lt (by omega)), ?_⟩
        have hpl8 : upd H7 kd (.dK (putK kvs (Sum.inl ((i + 1 : Nat) : Int)) (.ref dm))) pl = some (.lst (.int (n : Int) :: nV done)) := by
          rw [upd_ne (Ne.symm hkp)]
          exact xk7 _ _ hpl
        have hR8 : upd H7 kd (.dK (putK kvs (Sum.inl ((i + 1 : Nat) : Int)) (.ref dm))) c = some (.ins C.Run dx (fR (rawOf e) m t)) := by
          have hcc := e7 _ _ (e26 _ _ hR)
          rw [upd_ne (ne_of hcc (xk7 _ _ hk1) (by intro z; cases z))]
          exact hcc
        have hkd8 : upd H7 kd (.dK (putK kvs (Sum.inl ((i + 1 : Nat) : Int)) (.ref dm))) kd = some (.dK (putK kvs (Sum.inl ((i + 1 : Nat) : Int)) (.ref dm))) := upd_same
        have x8 : Ex H (upd H7 kd (.dK (putK kvs (Sum.inl ((i + 1 : Nat) : Int)) (.ref dm)))) := Ex.mut (x.trans xk7) hkd
        generalize upd H7 kd (.dK (putK kvs (Sum.inl ((i + 1 : Nat) : Int)) (.ref dm))) = H8 at hKn hpl8 hR8 hkd8 x8
        refine s_ext (σ := [some (.int (n : Int)), some (.ref d), some (.ref ph), some (.ref kd), some (.ref pl), some (.int (i : Int)), some (.ref pf), some (.ref c)]) (ys := [.int 1, .int (e.id : Int)]) hpl8 (ev_var rfl) (el_lst (ea_cons ev_c (ea_cons (evRn T (ev_var rfl) hR8) ea_nil)) (by show 2 ≤ 100000; decide)) (by rw [List.length_cons, nV_length]; show _ + 2 ≤ _; omega) fun H9 e9 => ?_
        refine ⟨Ex.mut (x8.trans e9) hplH, h ++ [some e.made], done ++ [1, e.id], _, _, _, rfl, by omega, by rw [List.length_append, hhl]; rfl, ?_, ⟨_, by rw [upd_ne hkp]; exact e9 _ _ hkd8, ?_⟩, known_other (hKn.mono e9) (e9 _ _ hpl8), ?_, ?_, ?_⟩
        · rw [getD_snoc_lt (by omega)]
          exact hh0
        · have hnone : valV kvs (Sum.inl ((i + 1 : Nat) : Int)) = none := hk4 _ (by rw [List.getD_eq_getElem?_getD, List.getElem?_eq_none (by omega)]; rfl)
          rw [putK_new _ hnone, List.length_append]
          show _ + 1 ≤ _
          omega
        · rw [upd_same]
          unfold nV
          rw [List.map_append]
          rfl
        · rw [List.length_append]
          show _ + 2 ≤ _
          omega
        · rw [hplan, List.append_assoc]
          rfl
      | none =>
        have hv := first_none hP2 hfd
        rw [hv]
        have hfate := fate_other hfd
        have hnext : nextH l h i = none := by
          unfold nextH
          rw [hfate]
          split <;> (rename_i z; split at z <;> first | rfl | cases z)
        rw [hnext] at hplan
        refine s_if (b := false) (et_test (ev_op (ev_var rfl) ev_c (rv_val fun H4 e4 Q4 q4 => ⟨rfl, q4⟩))) (fun hb => by cases hb) (fun _ H4 e4 => ?_)
        have e24 := e23.trans e4
        have fin : ∀ (z : Nat) (H5 : Hp), Ex H4 H5 → codeF (Rp02.fate l h i) = [z] → Ex H (upd H5 pl (.lst ((.int (n : Int) :: nV done) ++ [.int (z : Int)]))) ∧ ∃ (h' : Half) (done' : List Nat) (w5 w6 w7 : Option V), [some (.int (n : Int)), some (.ref d), some (.ref ph), some (.ref kd), some (.ref pl), some (.int (i : Int)), some (.ref pf), some V.non] = [some (.int (n : Int)), some (.ref d), some (.ref ph), some (.ref kd), some (.ref pl), w5, w6, w7] ∧ i + 1 ≤ n ∧ h'.length = i + 1 + 1 ∧ h'.getD 0 none = some a ∧ (∃ kvs, (upd H5 pl (.lst ((.int (n : Int) :: nV done) ++ [.int (z : Int)]))) kd = some (.dK kvs) ∧ kvs.length ≤ i + 1 + 1) ∧ KnownAt (upd H5 pl (.lst ((.int (n : Int) :: nV done) ++ [.int (z : Int)]))) kd h' ∧ (upd H5 pl (.lst ((.int (n : Int) :: nV done) ++ [.int (z : Int)]))) pl = some (.lst (.int (n : Int) :: nV done')) ∧ done'.length ≤ 2 * (i + 1) ∧ (Rp02.plan l n [some a]).flatMap codeF = done' ++ (Rp02.plan l (n - (i + 1)) h').flatMap codeF := by
          intro z H5 e5 hz
          have x5 := e24.trans e5
          refine ⟨Ex.mut (x.trans x5) hplH, h ++ [none], done ++ [z], _, _, _, rfl, by omega, by rw [List.length_append, hhl]; rfl, ?_, ⟨kvs0, by rw [upd_ne hkp]; exact x5 _ _ hkv0, by omega⟩, known_other (known_none_snoc (hK.mono x5)) (x5 _ _ hpl), ?_, ?_, ?_⟩
          · rw [getD_snoc_lt (by omega)]
            exact hh0
          · rw [upd_same, nV_snoc]
            rfl
          · rw [List.length_append]
            show _ + 1 ≤ _
            omega
          · rw [hplan, hz, List.append_assoc]
        refine s_if (et_test (ev_op (ev_lenN' (ev_var rfl) (sq_of ((e3.trans e4) _ _ h2)) hfl) ev_c rv_I0)) (fun hb H5 e5 => ?_) (fun hb H5 e5 => ?_)
        · have hpos : (l.filter (fitF h i)).length > 0 := by
            have := of_decide_eq_true hb
            omega
          refine s_app ((e24.trans e5) _ _ hpl) (ev_var rfl) ev_c (by rw [List.length_cons, nV_length]; omega) fun H6 e6 => ?_
          exact fin 2 H6 (e5.trans e6) (by rw [hfate, if_pos hpos]; rfl)
        · have hpos : ¬ (l.filter (fitF h i)).length > 0 := by
            have := of_decide_eq_false hb
            omega
          refine s_app ((e24.trans e5) _ _ hpl) (ev_var rfl) ev_c (by rw [List.length_cons, nV_length]; omega) fun H6 e6 => ?_
          exact fin 0 H6 (e5.trans e6) (by rw [hfate, if_neg hpos]; rfl)
    · rintro σ' H' ⟨x, h, done, v5, v6, v7, rfl, hin, hhl, hh0, _, hK, hpl, hdl, hplan⟩
      have q : ((n : Int)).toNat = n := by omega
      rw [q, Nat.sub_self] at hplan
      have : (Rp02.plan l n [some a]).flatMap codeF = done := by
        rw [hplan]
        simp [Rp02.plan]
      rw [this] at k
      exact s_ret (ev_var rfl) fun H2 e2 => k pl H2 hplH (x.trans e2) (e2 _ _ hpl)
end
end Mine
set_option Elab.async false
set_option linter.all false
set_option maxRecDepth 100000
set_option maxHeartbeats 4000000
namespace Mine
open PySem PySem.Spec PyProof.Rows L2 Evl
open Rp02 (Ask Reply Trace Area Half Fate askNumbers replyNumbers)
def ids (l : List Rp02.Entry) : List Nat := l.map fun e => e.id
theorem judge_first (l : List Rp02.Entry) (e : Rp02.Entry) : ∃ n : Nat, (judge l e).nums[0]? = some n ∧ (n = 0 ↔ judge l e = .new) := by
  cases judge l e with
  | new => exact ⟨0, rfl, by simp⟩
  | known => exact ⟨1, rfl, by simp⟩
  | against i j => exact ⟨2, rfl, by simp⟩
/-! ### promises -/
def sp_held_among (K : PySem.W.Frag) (C : Ad) : Sp := fun vs H Q _ => ∃ (p : Addr) (as : List Addr) (l : List Rp02.Entry), vs = [.ref p] ∧ H p = some (.lst (as.map V.ref)) ∧ Paired (EntryAt C H) as l ∧ l.length ≤ 1000 ∧
  ∀ q H' hs, H q = none → Ex H H' → H' q = some (.lst (hs.map V.ref)) → (∀ R : Addr → Rp02.Entry → Prop, Paired R as l → Paired R hs (Rp02.taken l)) → Q (.ref q) H'
def sp_House_held_numbers (K : PySem.W.Frag) (C : Ad) : Sp := fun vs H Q _ => ∃ (x dx pa pt ph pd : Addr) (n : Nat) (l : List Rp02.Entry), vs = [.ref x] ∧ H x = some (.ins C.House dx (fH n pa pt ph pd)) ∧ RunsAt C H ph l ∧ l.length ≤ 1000 ∧ RetL (nV (ids l)) H Q
theorem use_held_numbers {K : PySem.W.Frag} {C : Ad} {H : Hp} {x dx pa pt ph pd : Addr} {n : Nat} {l : List Rp02.Entry} (h1 : H x = some (.ins C.House dx (fH n pa pt ph pd))) (h2 : RunsAt C H ph l) (hl : l.length ≤ 1000) : SpL (sp_House_held_numbers K C) [.ref x] H (nV (ids l)) := spL_of fun H1 e Q E k => ⟨x, dx, pa, pt, ph, pd, n, l, rfl, e _ _ h1, h2.mono e, hl, k⟩
def sp_House_held (K : PySem.W.Frag) (C : Ad) : Sp := fun vs H Q _ => ∃ (A : HA) (h : Rp02.House), vs = [.ref A.x] ∧ HouseAt C H A h ∧ After C H A (Rp02.step h .held).1 (Rp02.step h .held).2 Q
def sp_House_plan (K : PySem.W.Frag) (C : Ad) : Sp := fun vs H Q _ => ∃ (A : HA) (h : Rp02.House), vs = [.ref A.x] ∧ HouseAt C H A h ∧ After C H A (Rp02.step h .plan).1 (Rp02.step h .plan).2 Q
def sp_House_files (K : PySem.W.Frag) (C : Ad) : Sp := fun vs H Q _ => ∃ (A : HA) (h : Rp02.House) (n : Nat), vs = [.ref A.x, .int (n : Int)] ∧ HouseAt C H A h ∧ After C H A (Rp02.step h (.files n)).1 (Rp02.step h (.files n)).2 Q
section
variable {P : Program} {w : World} {K : PySem.W.Frag} {mg : Str → Option Value} {base : Heap} {C : Ad}
theorem ok_held_among {f : Addr} {fd : FuncData} (F : Fun K "held_among" "held_among" s_held_among f fd) (T : Txt K mg C) (G_judge : Has P w K mg base 2 "judge" ["held_runs", "run"] (sp_judge K C)) : FnOk P w K mg base CX0 3 f fd ["told_runs"] (sp_held_among K C) := by
  refine F.ok sc_held_among (fun vs H Q E h => ?_) (fun cdv A outer s H vs Q E hr h => ⟨_, (pss_cons (ps_set (i := 1) sc_held_among.nd rfl (Or.inl rfl) (pe_lst pa_nil)) (pss_cons (ps_for PassesOwn.never rfl (pi_listK (K := K) rfl (pv 0)) (pg_name (i := 2) sc_held_among.nd rfl (Or.inl rfl)) (pss_one (ps_if (pt_cmpR op_eq (pe_ix (ix_listK (K := K) rfl) (pe_has G_judge hr rfl (by exact (pa_cons (pv 1) (pa_cons (pv 2) pa_nil)))) pe_int (fun _ _ => rfl)) (pe_globI rfl T.g_IS_HELD) (nomark _)) (pss_one (ps_expr (pe_bm PySem.F.plainAttrs_list PySem.F.slot_list_append PySem.F.type_list_append mt_append (pv 1) (pa_cons (pv 2) pa_nil)))) pss_nil))) (pss_one (ps_ret (pv 1))))), ?_⟩)
  · obtain ⟨p, as, l, rfl, _⟩ := h
    rfl
  · obtain ⟨p, as, l, rfl, hp, hA, hl, k⟩ := h
    have hlen : (as.map V.ref).length = l.length := by rw [List.length_map, paired_len hA]
    refine q_asgL (xs := []) (el_lst ea_nil (by show 0 ≤ 100000; decide)) fun q H1 hq e1 h1 => ?_
    refine q_forLn (ev_var rfl) (sq_of (e1 _ _ hp)) (fun i σ' H' => Ex H H' ∧ ∃ (hs : List Addr) (v : Option V), σ' = [some (.ref p), some (.ref q), v] ∧ H' q = some (.lst (hs.map V.ref)) ∧ ∀ R : Addr → Rp02.Entry → Prop, Paired R as l → Paired R hs (Rp02.taken (l.take i))) ?_ ?_ ?_ ?_
    · exact fun H2 e2 => ⟨e1.trans e2, [], none, rfl, e2 _ _ h1, fun R _ => .nil⟩
    · exact fun i σ' H' _ z => sq_of (z.1 _ _ hp)
    · rintro i x σ' H' hi ⟨x0, hs, v, rfl, hqs, hR⟩
      obtain ⟨a, ha, rfl⟩ := refs_get hi
      obtain ⟨e, he, hE⟩ := paired_get hA ha
      have hil := lt_at he
      have hP := hR _ hA
      have htl : (Rp02.taken (l.take i)).length ≤ 1000 := Nat.le_trans (taken_length _) (by rw [List.length_take]; omega)
      have hhl : hs.length ≤ 1000 := by rw [paired_len hP]; exact htl
      have hruns : RunsAt C H' q (Rp02.taken (l.take i)) := ⟨hs, hqs, L2.Paired.mapP hP fun _ _ z => z.mono x0⟩
      obtain ⟨n, hn0, hn⟩ := judge_first (Rp02.taken (l.take i)) e
      have htk : Rp02.taken (l.take (i + 1)) = if judge (Rp02.taken (l.take i)) e = .new then Rp02.taken (l.take i) ++ [e] else Rp02.taken (l.take i) := by
        rw [take_succ_at he, taken_snoc, add_judge]
      refine s_when (et_test (ev_op (ev_opL1 (y := .int ((0 : Nat) : Int)) (el_call (ea_cons (ev_var rfl) (ea_cons (ev_var rfl) ea_nil)) (use_judge hruns (hE.mono x0) htl)) (fun H2 e2 => ev_c) fun p2 H2 h2 e2 => rv_ixL (sq_of h2) (atI_nat (nV_get hn0))) ev_c (rv_eq rfl))) ?_ ?_
      · intro hb H2 e2
        have hnew : judge (Rp02.taken (l.take i)) e = .new := hn.mp (by have := V.int.inj (of_decide_eq_true hb); omega)
        rw [if_pos hnew] at htk
        refine s_app (e2 _ _ hqs) (ev_var rfl) (ev_var rfl) (by rw [List.length_map]; omega) fun H3 e3 => ?_
        refine ⟨Ex.mut (x0.trans (e2.trans e3)) hq, hs ++ [a], _, rfl, by rw [List.map_append]; exact upd_same, fun R z => ?_⟩
        rw [htk]
        obtain ⟨e', he', r⟩ := paired_get z ha
        rw [he] at he'
        cases he'
        exact paired_snoc (hR R z) r
      · intro hb H2 e2
        have hnew : ¬ judge (Rp02.taken (l.take i)) e = .new := fun z => by
          have := hn.mpr z
          rw [this] at hb
          exact absurd hb (by decide)
        rw [if_neg hnew] at htk
        refine ⟨x0.trans e2, hs, _, rfl, e2 _ _ hqs, fun R z => ?_⟩
        rw [htk]
        exact hR R z
    · rintro σ' H' ⟨x0, hs, v, rfl, hqs, hR⟩
      rw [hlen, List.take_length] at hR
      exact s_ret (ev_var rfl) fun H2 e2 => k q H2 hs hq (x0.trans e2) (e2 _ _ hqs) hR
theorem ok_House_held_numbers {f : Addr} {fd : FuncData} (F : Fun K "held_numbers" "House.held_numbers" s_House_held_numbers f fd) (T : Txt K mg C)  : FnOk P w K mg base CX0 1 f fd ["self"] (sp_House_held_numbers K C) := by
  refine F.ok sc_House_held_numbers (fun vs H Q E h => ?_) (fun cdv A outer s H vs Q E hr h => ⟨_, (pss_one (ps_ret (pe_lc (own := [("run", 1)]) (g := gName 1) (tt := tYes) rfl sc_House_held_numbers.nd (pi_listK (K := K) rfl (pe_fldK (K := K) rfl (pv 0) rfl)) (blkOk_by (own := [("run", 1)]) (N := ["self", "run"]) (sc := defScope s_House_held_numbers) (by decide +kernel)) (fun _ _ _ _ _ => pg_name (i := 1) sc_House_held_numbers.nd rfl (Or.inl rfl)) (fun _ _ _ _ _ => pts_nil) (fun _ _ _ _ _ => (pe_fldK (K := K) rfl (pv 1) rfl))))), ?_⟩)
  · obtain ⟨x, dx, pa, pt, ph, pd, n, l, rfl, _⟩ := h
    rfl
  · obtain ⟨x, dx, pa, pt, ph, pd, n, l, rfl, hx, ⟨as, hp, hA⟩, hl, k⟩ := h
    have hlen : (as.map V.ref).length = l.length := by rw [List.length_map, paired_len hA]
    refine Sx.at (sx_retL (xs := nV (ids l)) ?_ k)
    unfold nV ids
    rw [List.map_map]
    refine el_mapL l _ (evHh T (ev_var rfl) hx) (sq_of hp) hlen (by rw [hlen]; omega) (fun x => rfl) fun i x y H1 e1 hv hy => ?_
    obtain ⟨a, ha, rfl⟩ := refs_get hv
    obtain ⟨y', hy', hE⟩ := paired_get hA ha
    rw [hy] at hy'
    cases hy'
    obtain ⟨dx', m', t', hR', _⟩ := hE.1
    exact evRn T (ev_var rfl) (e1 _ _ hR')
theorem ok_House_held {f : Addr} {fd : FuncData} (F : Fun K "held" "House.held" s_House_held f fd) (T : Txt K mg C) (G_House_held_numbers : HasM P w K mg base 1 C.House "held_numbers" ["self"] (sp_House_held_numbers K C)) : FnOk P w K mg base CX0 2 f fd ["self"] (sp_House_held K C) := by
  refine F.ok sc_House_held (fun vs H Q E h => ?_) (fun cdv A outer s H vs Q E hr h => ⟨_, (pss_one (ps_ret (pe_op op_cat (pe_lst (pa_cons (pe_callB (call_len_seqK (K := K) rfl) (by rfl) T.b_len (by decide +kernel) (pa_cons (pe_fldK (K := K) rfl (pv 0) rfl) pa_nil)) pa_nil)) (pe_hasM0 G_House_held_numbers (hr.mono (by decide)) (pv 0))))), ?_⟩)
  · obtain ⟨A, h, rfl, _⟩ := h
    rfl
  · obtain ⟨A, h, rfl, hA, k⟩ := h
    have hlog := paired_len hA.runs
    have h30 := hA.held30
    have k : RetL (ansV ⟨(h.log.length : Nat), ids (Rp02.taken h.log)⟩) H Q := k.same hA
    refine Sx.at (sx_retL (xs := [.int (h.log.length : Int)] ++ nV (ids (Rp02.taken h.log))) ?_ k)
    refine el_catL (xs := [.int (h.log.length : Int)]) (el_lst (ea_cons (ev_lenN' (evHt T (ev_var rfl) hA.ins) (sq_of hA.told) (by rw [List.length_map, hlog])) ea_nil) (by show 1 ≤ 100000; decide)) ?_ ?_
    · exact el_meth (K := K) (ev_var rfl) hA.ins (fH_no (by decide +kernel) (by decide +kernel) (by decide +kernel) (by decide +kernel) (by decide +kernel)) ea_nil (use_held_numbers hA.ins hA.heldAt (by omega))
    · rw [nV_length]
      unfold ids
      rw [List.length_map]
      show 1 + _ ≤ _
      omega
theorem ok_House_plan {f : Addr} {fd : FuncData} (F : Fun K "plan" "House.plan" s_House_plan f fd) (T : Txt K mg C) (G_make_plan : Has P w K mg base 4 "make_plan" ["jobs", "sources", "held_runs"] (sp_make_plan K C)) : FnOk P w K mg base CX0 5 f fd ["self"] (sp_House_plan K C) := by
  refine F.ok sc_House_plan (fun vs H Q E h => ?_) (fun cdv A outer s H vs Q E hr h => ⟨_, (pss_one (ps_ret (pe_has G_make_plan hr rfl (by exact (pa_cons (pe_fldK (K := K) rfl (pv 0) rfl) (pa_cons (pe_ix (ix_listK (K := K) rfl) (pe_fldK (K := K) rfl (pv 0) rfl) pe_int (fun _ _ => rfl)) (pa_cons (pe_fldK (K := K) rfl (pv 0) rfl) pa_nil))))))), ?_⟩)
  · obtain ⟨A, h, rfl, _⟩ := h
    rfl
  · obtain ⟨A, h, rfl, hA, k⟩ := h
    have h30 := hA.held30
    rw [plan_ans] at k
    have k : RetL (ansV ⟨(h.jobs : Nat), (Rp02.plan h.taken h.jobs [some (h.world.getD 0 [])]).flatMap codeF⟩) H Q := k.same hA
    obtain ⟨d, l, hd, hdd, hin, hl⟩ := hA.src
    refine Sx.at (sx_retL (xs := ansV ⟨(h.jobs : Nat), (Rp02.plan h.taken h.jobs [some (h.world.getD 0 [])]).flatMap codeF⟩) ?_ k)
    exact el_call (ea_cons (evHj T (ev_var rfl) hA.ins) (ea_cons (ev_op (evHa T (ev_var rfl) hA.ins) ev_c (rv_ixL (sq_of hA.areas) (atI_nat (j := 0) (refs_at hd)))) (ea_cons (evHh T (ev_var rfl) hA.ins) ea_nil))) (use_make_plan hA.inv.j6 ⟨l, hdd, hin, hl⟩ hA.heldAt (by show (Rp02.taken h.log).length ≤ 1000; omega))
theorem ok_House_files {f : Addr} {fd : FuncData} (F : Fun K "files" "House.files" s_House_files f fd) (T : Txt K mg C)  : FnOk P w K mg base CX0 1 f fd ["self", "area"] (sp_House_files K C) := by
  refine F.ok sc_House_files (fun vs H Q E h => ?_) (fun cdv A outer s H vs Q E hr h => ⟨_, (pss_cons (ps_if (pt_cmpR op_gt (pv 1) (pe_fldK (K := K) rfl (pv 0) rfl) (nomark _)) (pss_one (ps_ret (pe_lst (pa_cons (pe_globI rfl T.g_NO_SUCH_AREA) pa_nil)))) pss_nil) (pss_cons (ps_set (i := 2) sc_House_files.nd rfl (Or.inl rfl) (pe_ix (ix_listK (K := K) rfl) (pe_fldK (K := K) rfl (pv 0) rfl) (pv 1) (fun _ _ => rfl))) (pss_cons (ps_set (i := 3) sc_House_files.nd rfl (Or.inl rfl) (pe_lst (pa_cons (pe_callB call_lenD (by rfl) T.b_len (by decide +kernel) (pa_cons (pv 2) pa_nil)) pa_nil))) (pss_cons (ps_for PassesOwn.never rfl (pi_listK (K := K) rfl (pe_callB (call_sortedDI rfl) (by rfl) T.b_sorted (by decide +kernel) (pa_cons (pv 2) pa_nil))) (pg_name (i := 4) sc_House_files.nd rfl (Or.inl rfl)) (pss_one (ps_expr (pe_bm PySem.F.plainAttrs_list PySem.F.slot_list_extend PySem.F.type_list_extend mt_extend (pv 3) (pa_cons (pe_lst (pa_cons (pv 4) (pa_cons (pe_dget (hu_of hr) (pv 2) (pv 4) (fun _ _ => rfl)) pa_nil))) pa_nil))))) (pss_one (ps_ret (pv 3))))))), ?_⟩)
  · obtain ⟨A, h, n, rfl, _⟩ := h
    rfl
  · obtain ⟨A, h, n, rfl, hA, k⟩ := h
    refine q_when (et_test (ev_op (ev_var rfl) (evHj T (ev_var rfl) hA.ins) rv_I0)) ?_ ?_
    · intro hb H1 e1
      have hc : h.jobs < n := by have := of_decide_eq_true hb; omega
      simp only [Rp02.step, if_pos hc] at k
      exact s_retL (xs := ansV (Rp02.ok (-2))) (el_lst (ea_cons ev_c ea_nil) (by show 1 ≤ 100000; decide)) fun p H2 hp e2 h2 => (k.same hA).go e1 hp e2 h2
    intro hb H1 e1
    have hc : ¬ h.jobs < n := by have := of_decide_eq_false hb; omega
    simp only [Rp02.step, if_neg hc] at k
    have hw := hA.inv.wl
    have hx := List.getElem?_eq_getElem (l := h.world) (i := n) (by omega)
    have hgd : h.world.getD n [] = h.world[n]'(by omega) := by rw [List.getD_eq_getElem?_getD, hx]; rfl
    rw [hgd] at k
    generalize (h.world[n]'(by omega)) = ar at hx k
    have k := k.same hA
    have hA1 := hA.mono e1
    obtain ⟨d, hd, l, hdd, hin, hl⟩ := paired_get' hA1.dicts hx
    have hla := hin.length
    refine q_asg (v := .ref d) (ev_op (evHa T (ev_var rfl) hA1.ins) (ev_var rfl) (rv_ixL (sq_of hA1.areas) (atI_nat (refs_at hd)))) fun H2 e2 => ?_
    refine q_asgL (xs := [.int (ar.length : Int)]) (el_lst (ea_cons (ev_is (ev_lenD (ev_var rfl) (e2 _ _ hdd)) (by rw [kvN_length, hla])) ea_nil) (by show 1 ≤ 100000; decide)) fun g H3 hg e3 h3 => ?_
    have x3 := (e1.trans e2).trans e3
    have hgH : H g = none := fresh_back (e1.trans e2) hg
    have hd3 := e3 _ _ (e2 _ _ hdd)
    refine q_forNLn (xs := nV (ar.map fun f => f.1)) (el_sortedD (ev_var rfl) hd3 hin hl) (fun p i σ' H' => Ex H H' ∧ p ≠ g ∧ H' p = some (.lst (nV (ar.map fun f => f.1))) ∧ H' d = some (.dK (kvN l)) ∧ (∃ v, σ' = [some (.ref A.x), some (.int (n : Int)), some (.ref d), some (.ref g), v]) ∧ H' g = some (.lst (.int (ar.length : Int) :: nV (Rp02.unpairs (ar.take i))))) ?_ ?_ ?_ ?_
    · exact fun p H4 hp e4 h4 => ⟨x3.trans e4, Ne.symm (ne_of_none h3 hp), h4, e4 _ _ hd3, ⟨none, rfl⟩, e4 _ _ h3⟩
    · exact fun p i σ' H' _ z => sq_of z.2.2.1
    · rintro p i x σ' H' hi ⟨x0, hpg, hp, hdd', ⟨v, rfl⟩, hgl⟩
      obtain ⟨m, hm, rfl⟩ := nV_get_inv hi
      rw [List.getElem?_map, Option.map_eq_some_iff] at hm
      obtain ⟨f, hf, hfm⟩ := hm
      have hil := lt_at hf
      have hfind : Rp02.find ar m = some f.2 := find_mem hin.sorted (by rw [← hfm]; exact List.mem_of_getElem? hf)
      have hv := valV_area hin m
      rw [hfind] at hv
      have hul : (Rp02.unpairs (ar.take i)).length ≤ 200 := by
        rw [unpairs_length, List.length_take]
        omega
      refine s_ext (ys := [.int (m : Int), .int (f.2 : Int)]) hgl (ev_var rfl) (el_lst (ea_cons (ev_var rfl) (ea_cons (ev_dget (k := Sum.inl (m : Int)) (ev_var rfl) (ev_var rfl) hdd' hv) ea_nil)) (by show 2 ≤ 100000; decide)) (by rw [List.length_cons, nV_length]; show _ + 2 ≤ _; omega) fun H4 e4 => ?_
      have hdg : d ≠ g := ne_of hdd' hgl (by intro z; cases z)
      refine ⟨Ex.mut (x0.trans e4) hgH, hpg, by rw [upd_ne hpg]; exact e4 _ _ hp, by rw [upd_ne hdg]; exact e4 _ _ hdd', ⟨_, rfl⟩, ?_⟩
      rw [upd_same, take_succ_at hf]
      unfold Rp02.unpairs
      rw [List.flatMap_append, nV_append]
      simp only [List.flatMap_cons, List.flatMap_nil, List.append_nil]
      rw [← hfm]
      rfl
    · rintro p σ' H' ⟨x0, hpg, hp, hdd', ⟨v, rfl⟩, hgl⟩
      rw [nV_length, List.length_map, List.take_length] at hgl
      exact s_ret (ev_var rfl) fun H4 e4 => k g H4 hgH (x0.trans e4) (e4 _ _ hgl)
end
end Mine
set_option Elab.async false
set_option linter.all false
set_option maxRecDepth 100000
set_option maxHeartbeats 4000000
namespace Mine
open PySem PySem.Spec PyProof.Rows L2 Evl
open Rp02 (Ask Reply Trace Area Half Fate askNumbers replyNumbers)
def sp_House_distrust (K : PySem.W.Frag) (C : Ad) : Sp := fun vs H Q _ => ∃ (A : HA) (h : Rp02.House) (m : Nat), vs = [.ref A.x, .int (m : Int)] ∧ HouseAt C H A h ∧ h.out.length ≤ 1000 ∧ After C H A (Rp02.step h (.distrust m)).1 (Rp02.step h (.distrust m)).2 Q
def notOf (m : Nat) (e : Rp02.Entry) : Bool := e.machine != m
/-- a house in which one machine is forgotten -/
def without (h : Rp02.House) (m : Nat) : Rp02.House := ⟨h.jobs, h.world.getD 0 [] :: List.replicate h.jobs [], h.log.filter (notOf m), h.out ++ [m]⟩
/-- all but two stay -/
def But2 (x y : Addr) (H H' : Hp) : Prop := ∀ b o, H b = some o → b ≠ x → b ≠ y → H' b = some o
theorem But2.back {x y b : Addr} {H G : Hp} {o1 o2 : HO} (c : But2 x y H G) (hx : G x = some o1) (hy : G y = some o2) (hb : G b = none) : H b = none := by
  cases q : H b with
  | none => rfl
  | some o =>
    have h1 : b ≠ x := fun z => by
      rw [z, hx] at hb
      cases hb
    have h2 : b ≠ y := fun z => by
      rw [z, hy] at hb
      cases hb
    rw [c b o q h1 h2] at hb
    cases hb
theorem But2.ex {x y : Addr} {H G G' : Hp} (c : But2 x y H G) (e : Ex G G') : But2 x y H G' := fun b o h h1 h2 => e _ _ (c b o h h1 h2)
theorem But2.put {x y : Addr} {H G : Hp} {o : HO} (c : But2 x y H G) : But2 x y H (upd G x o) := fun b u h h1 h2 => by
  rw [upd_ne h1]
  exact c b u h h1 h2
theorem put_told {n : Nat} {pa pt ph pd q : Addr} : putF "told_runs" (.ref q) (fH n pa pt ph pd) = fH n pa q ph pd := rfl
theorem put_held {n : Nat} {pa pt ph pd q : Addr} : putF "held_runs" (.ref q) (fH n pa pt ph pd) = fH n pa pt q pd := rfl
theorem put_areas {n : Nat} {pa pt ph pd q : Addr} : putF "areas" (.ref q) (fH n pa pt ph pd) = fH n q pt ph pd := rfl
/-- the house behind it -/
theorem HouseAt.without {C : Ad} {H G : Hp} {A : HA} {h : Rp02.House} {m : Nat} (a : HouseAt C H A h) {d0 pa pt ph : Addr} {ds ts hs : List Addr} {kvs : List (Key × V)} (hd0 : A.ds[0]? = some d0)
    (hk : But2 A.x A.pd H G) (gx : G A.x = some (.ins C.House A.dx (fH h.jobs pa pt ph A.pd))) (gpa : G pa = some (.lst ((d0 :: ds).map V.ref))) (gpt : G pt = some (.lst (ts.map V.ref))) (gph : G ph = some (.lst (hs.map V.ref))) (gpd : G A.pd = some (.dK kvs))
    (hkv : kvs.map (fun kv => kv.1) = (h.out ++ [m]).map fun (m : Nat) => (Sum.inl (m : Int) : Key)) (npa : H pa = none) (npt : H pt = none) (nph : H ph = none) (hds : ∀ d ∈ ds, H d = none ∧ G d = some (.dK [])) (hdl : ds.length = h.jobs) (hnd : (pa :: ds).Nodup) (n1 : pa ≠ pt) (n2 : pa ≠ ph) (n3 : pt ≠ ph)
    (r1 : Paired (EntryAt C (Fx A.off H)) ts (h.log.filter (notOf m))) (r2 : Paired (EntryAt C (Fx A.off H)) hs (Rp02.taken (h.log.filter (notOf m)))) :
    HouseAt C G ⟨A.x, A.dx, pa, pt, ph, A.pd, d0 :: ds, ts, hs, A.ge⟩ (Mine.without h m) ∧ Ex (Fx A.mut H) (Fx (⟨A.x, A.dx, pa, pt, ph, A.pd, d0 :: ds, ts, hs, A.ge⟩ : HA).mut G) := by
  have nd := a.nd
  unfold HA.mut at nd
  simp only [List.nodup_cons, List.mem_cons, not_or] at nd
  obtain ⟨⟨x1, x2, x3, x4, x5⟩, ⟨m2, m3, m4, m5⟩, ⟨k3, k4, k5⟩, ⟨j4, j5⟩, i5, i6⟩ := nd
  have hmem : d0 ∈ A.ds := List.mem_of_getElem? hd0
  have ne0 : ∀ {b c : Addr} {o : HO}, H b = some o → H c = none → b ≠ c := fun {b c o} h1 h2 => ne_of_none h1 h2
  obtain ⟨kv0, o1, o2⟩ := a.out
  have hw := a.inv.wl
  have hx0 := List.getElem?_eq_getElem (l := h.world) (i := 0) (by omega)
  obtain ⟨y, hy, l0, hl0, hl1, hl2⟩ := paired_get a.dicts hd0
  have hgd : h.world.getD 0 [] = y := by rw [List.getD_eq_getElem?_getD, hy]; rfl
  have hd0x : d0 ≠ A.x := fun z => x5 (z ▸ hmem)
  have hd0p : d0 ≠ A.pd := fun z => i5 (z ▸ hmem)
  have gd0 : G d0 = some (.dK (kvN l0)) := hk _ _ hl0 hd0x hd0p
  have hdm : ∀ {b : Addr} {o : HO}, H b = some o → b ∉ ds := fun {b o} hb c => by
    rw [(hds b c).1] at hb
    cases hb
  have hfxG : ∀ (Ge : List Addr), Ex (Fx (Ge ++ A.mut) H) (Fx (Ge ++ (⟨A.x, A.dx, pa, pt, ph, A.pd, d0 :: ds, ts, hs, A.ge⟩ : HA).mut) G) := fun Ge b o hb => by
    obtain ⟨q1, q2⟩ := fx_inv hb
    have qm : b ∉ A.mut := fun c => q1 (List.mem_append.mpr (.inr c))
    unfold HA.mut at qm
    simp only [List.mem_cons, not_or] at qm
    obtain ⟨u1, u2, u3, u4, u5, u6⟩ := qm
    refine fx_some (fun c => ?_) (hk b o q2 u1 u5)
    rcases List.mem_append.mp c with c | c
    · exact q1 (List.mem_append.mpr (.inl c))
    · unfold HA.mut at c
      simp only [List.mem_cons] at c
      rcases c with c | c | c | c | c | c | c
      · exact u1 c
      · exact ne0 q2 npa c
      · exact ne0 q2 npt c
      · exact ne0 q2 nph c
      · exact u5 c
      · exact u6 (c ▸ hmem)
      · exact hdm q2 c
  have hfx := hfxG []
  refine ⟨⟨gx, gpa, ?_, gpt, L2.Paired.mapP r1 fun _ _ z => z.mono (hfxG A.ge), gph, L2.Paired.mapP r2 fun _ _ z => z.mono (hfxG A.ge), ⟨kvs, gpd, hkv⟩, ?_, ?_, ?_, a.tin⟩, hfx⟩
  · refine .cons ⟨l0, gd0, by rw [hgd]; exact hl1, hl2⟩ (areas_new hdl fun d hd => (hds d hd).2)
  · unfold HA.mut
    simp only [List.nodup_cons, List.mem_cons, not_or]
    exact ⟨⟨ne0 a.ins npa, ne0 a.ins npt, ne0 a.ins nph, x4, Ne.symm hd0x, hdm a.ins⟩, ⟨n1, n2, Ne.symm (ne0 o1 npa), Ne.symm (ne0 hl0 npa), (List.nodup_cons.mp hnd).1⟩, ⟨n3, Ne.symm (ne0 o1 npt), Ne.symm (ne0 hl0 npt), fun c => ne_of gpt (hds _ c).2 (by intro z; cases z) rfl⟩, ⟨Ne.symm (ne0 o1 nph), Ne.symm (ne0 hl0 nph), fun c => ne_of gph (hds _ c).2 (by intro z; cases z) rfl⟩, ⟨Ne.symm hd0p, hdm o1⟩, hdm hl0, (List.nodup_cons.mp hnd).2⟩
  · refine ⟨by show (_ :: List.replicate _ _).length = _; rw [List.length_cons, List.length_replicate]; rfl, a.inv.j1, a.inv.j6, Nat.le_trans (List.length_filter_le _ _) a.inv.log30, fun e he => a.inv.jobs e (List.mem_filter.mp he).1, a.inv.src⟩
  · refine tab_keep a.tab fun b o hb ho => hk b o hb (fun z => ?_) (fun z => ?_)
    · rw [z, a.ins] at hb
      cases hb
      exact ho trivial
    · rw [z, o1] at hb
      cases hb
      exact ho trivial
section
variable {P : Program} {w : World} {K : PySem.W.Frag} {mg : Str → Option Value} {base : Heap} {C : Ad}
theorem ok_House_distrust {f : Addr} {fd : FuncData} (F : Fun K "distrust" "House.distrust" s_House_distrust f fd) (T : Txt K mg C) (G_held_among : Has P w K mg base 3 "held_among" ["told_runs"] (sp_held_among K C)) (G_empty_areas : Has P w K mg base 1 "empty_areas" ["jobs"] (sp_empty_areas K C)) (G_counted : Has P w K mg base 1 "counted" ["numbers"] (sp_counted K C)) (G_House_held_numbers : HasM P w K mg base 1 C.House "held_numbers" ["self"] (sp_House_held_numbers K C)) : FnOk P w K mg base CX0 4 f fd ["self", "machine"] (sp_House_distrust K C) := by
  refine F.ok sc_House_distrust (fun vs H Q E h => ?_) (fun cdv A outer s H vs Q E hr h => ⟨_, (pss_cons (ps_if (pt_cmp (pc_din (hu_of hr) (pv 1) (pe_fldK (K := K) rfl (pv 0) rfl)) rfl) (pss_one (ps_ret (pe_lst (pa_cons (pe_globI rfl T.g_DISTRUSTED_ALREADY) pa_nil)))) pss_nil) (pss_cons (ps_dput (hu_of hr) (pe_fldK (K := K) rfl (pv 0) rfl) (pv 1) pe_bl rfl) (pss_cons (ps_fldK (K := K) rfl (pv 0) (pe_lc (own := [("run", 2)]) (g := gName 2) rfl sc_House_distrust.nd (pi_listK (K := K) rfl (pe_fldK (K := K) rfl (pv 0) rfl)) (blkOk_by (own := [("run", 2)]) (N := ["self", "machine", "run"]) (sc := defScope s_House_distrust) (by decide +kernel)) (fun _ _ _ _ _ => pg_name (i := 2) sc_House_distrust.nd rfl (Or.inl rfl)) (fun _ _ _ _ _ => (pts_one (pt_cmpR op_ne (pe_fldK (K := K) rfl (pv 2) rfl) (pv 1) (nomark _)))) (fun _ _ _ _ _ => (pv 2))) rfl) (pss_cons (ps_fldK (K := K) rfl (pv 0) (pe_has G_held_among hr rfl (by exact (pa_cons (pe_fldK (K := K) rfl (pv 0) rfl) pa_nil))) rfl) (pss_cons (ps_fldK (K := K) rfl (pv 0) (pe_op op_cat (pe_lst (pa_cons (pe_ix (ix_listK (K := K) rfl) (pe_fldK (K := K) rfl (pv 0) rfl) pe_int (fun _ _ => rfl)) pa_nil)) (pe_has G_empty_areas (hr.mono (by decide)) rfl (by exact (pa_cons (pe_fldK (K := K) rfl (pv 0) rfl) pa_nil)))) rfl) (pss_one (ps_ret (pe_has G_counted (hr.mono (by decide)) rfl (by exact (pa_cons (pe_hasM0 G_House_held_numbers (hr.mono (by decide)) (pv 0)) pa_nil)))))))))), ?_⟩)
  · obtain ⟨A, h, m, rfl, _⟩ := h
    rfl
  · obtain ⟨A, h, m, rfl, hA, hout, k⟩ := h
    obtain ⟨kvs, ho, hkv⟩ := hA.out
    refine q_when (et_B (ev_din (k := Sum.inl (m : Int)) (ev_var rfl) (evHd T (ev_var rfl) hA.ins) ho)) ?_ ?_
    · intro hb H1 e1
      rw [out_contains hkv] at hb
      simp only [Rp02.step, if_pos hb] at k
      exact s_retL (xs := ansV (Rp02.ok (-4))) (el_lst (ea_cons ev_c ea_nil) (by show 1 ≤ 100000; decide)) fun p H2 hp e2 h2 => (k.same hA).go e1 hp e2 h2
    intro hb H1 e1
    rw [out_contains hkv] at hb
    have hstep : Rp02.step h (.distrust m) = (without h m, ⟨((Rp02.taken (without h m).log).length : Nat), ids (Rp02.taken (without h m).log)⟩) := by
      simp only [Rp02.step]
      rw [if_neg (by rw [hb]; decide)]
      rfl
    rw [hstep] at k
    have k : After C H A (without h m) ⟨((Rp02.taken (without h m).log).length : Nat), ids (Rp02.taken (without h m).log)⟩ Q := k
    have hA1 := hA.mono e1
    have nd := hA.nd
    unfold HA.mut at nd
    simp only [List.nodup_cons, List.mem_cons, not_or] at nd
    obtain ⟨⟨x1, x2, x3, x4, x5⟩, ⟨m2, m3, m4, m5⟩, ⟨k3, k4, k5⟩, ⟨j4, j5⟩, i5, i6⟩ := nd
    have hnone : valV kvs (Sum.inl (m : Int)) = none := by
      cases q : valV kvs (Sum.inl (m : Int)) with
      | none => rfl
      | some v =>
        have := out_contains (m := m) hkv
        rw [q, hb] at this
        cases this
    have hkl : kvs.length = h.out.length := by
      have := congrArg List.length hkv
      rw [List.length_map, List.length_map] at this
      exact this
    -- self.distrusted[machine] = True
    refine q_dput (k := Sum.inl (m : Int)) ev_c (evHd T (ev_var rfl) hA1.ins) (ev_var rfl) (e1 _ _ ho) (by omega) fun H2 e2 => ?_
    have e12 := e1.trans e2
    rw [putK_new _ hnone]
    have c2 : But2 A.x A.pd H (upd H2 A.pd (.dK (kvs ++ [(Sum.inl (m : Int), .bl true)]))) := fun b o hb _ hp => by
      rw [upd_ne hp]
      exact e12 _ _ hb
    have gx2 : upd H2 A.pd (.dK (kvs ++ [(Sum.inl (m : Int), .bl true)])) A.x = some (.ins C.House A.dx (fH h.jobs A.pa A.pt A.ph A.pd)) := by
      rw [upd_ne x4]
      exact e12 _ _ hA.ins
    have gpd2 : upd H2 A.pd (.dK (kvs ++ [(Sum.inl (m : Int), .bl true)])) A.pd = some (.dK (kvs ++ [(Sum.inl (m : Int), .bl true)])) := upd_same
    have back2 : ∀ {b : Addr}, upd H2 A.pd (.dK (kvs ++ [(Sum.inl (m : Int), .bl true)])) b = none → H b = none := fun {b} hb => by
      have : b ≠ A.pd := fun z => by
        rw [z, upd_same] at hb
        cases hb
      rw [upd_ne this] at hb
      exact fresh_back e12 hb
    generalize upd H2 A.pd (.dK (kvs ++ [(Sum.inl (m : Int), .bl true)])) = G2 at c2 gx2 gpd2 back2
    -- self.told_runs = [..]
    have hlog := paired_len hA.runs
    have h30 := hA.inv.log30
    have gt2 : G2 A.pt = some (.lst (A.ts.map V.ref)) := c2 _ _ hA.told (Ne.symm x2) k4
    have runsG : ∀ {a : Addr} {e : Rp02.Entry}, EntryAt C (Fx A.off H) a e → EntryAt C G2 a e := fun {a e} z => z.mono fun b o hb => by
      obtain ⟨q1, q2⟩ := fx_inv hb
      refine c2 b o q2 (fun c => q1 (HA.in_off (by rw [c]; unfold HA.mut; simp))) (fun c => q1 (HA.in_off (by rw [c]; unfold HA.mut; simp)))
    refine q_fldL (xs := (pickG (notOf m) A.ts h.log).map V.ref) ?_ (ev_var rfl) gx2 T.cl_House T.n_House_told_runs (by show 5 < 1000; decide) fun pt H3 npt e3 h3 => ?_
    · refine el_pick (K := K) (j := 2) (vs := [2]) (m := h.log) (notOf m) (evHt T (ev_var rfl) gx2) gt2 hlog (by omega) (fun x => rfl) (fun x => rfl) fun i c y H3 e3 hc hy => ?_
      obtain ⟨y', hy', hE⟩ := paired_get hA.runs hc
      rw [hy] at hy'
      cases hy'
      obtain ⟨⟨dx, mm, t, hR, _⟩, _⟩ := (runsG hE).mono e3
      refine et_is (et_test (ev_op (evRm T (ev_var rfl) hR) (ev_var rfl) (rv_ne rfl))) ?_
      unfold notOf
      rw [bne]
      congr 1
      rw [Bool.eq_iff_iff]
      simp only [decide_eq_true_eq, V.int.injEq, beq_iff_eq]
      show ((y.machine : Nat) : Int) = _ ↔ _
      omega
    rw [put_told]
    have nptH : H pt = none := c2.back gx2 gpd2 npt
    have hptx : pt ≠ A.x := Ne.symm (ne_of_none gx2 npt)
    have c3 : But2 A.x A.pd H (upd H3 A.x (.ins C.House A.dx (fH h.jobs A.pa pt A.ph A.pd))) := (c2.ex e3).put
    have gx3 : upd H3 A.x (.ins C.House A.dx (fH h.jobs A.pa pt A.ph A.pd)) A.x = some (.ins C.House A.dx (fH h.jobs A.pa pt A.ph A.pd)) := upd_same
    have gpt3 : upd H3 A.x (.ins C.House A.dx (fH h.jobs A.pa pt A.ph A.pd)) pt = some (.lst ((pickG (notOf m) A.ts h.log).map V.ref)) := by rw [upd_ne hptx]; exact h3
    have gpd3 : upd H3 A.x (.ins C.House A.dx (fH h.jobs A.pa pt A.ph A.pd)) A.pd = some (.dK (kvs ++ [(Sum.inl (m : Int), .bl true)])) := by rw [upd_ne (Ne.symm x4)]; exact e3 _ _ gpd2
    generalize upd H3 A.x (.ins C.House A.dx (fH h.jobs A.pa pt A.ph A.pd)) = G3 at c3 gx3 gpt3 gpd3
    have runs3 : ∀ {G : Hp} {a : Addr} {e : Rp02.Entry}, But2 A.x A.pd H G → EntryAt C (Fx A.off H) a e → EntryAt C G a e := fun {G a e} c z => z.mono fun b o hb => by
      obtain ⟨q1, q2⟩ := fx_inv hb
      exact c b o q2 (fun c => q1 (HA.in_off (by rw [c]; unfold HA.mut; simp))) (fun c => q1 (HA.in_off (by rw [c]; unfold HA.mut; simp)))
    have hpick := pickG_paired (f := notOf m) hA.runs
    -- self.held_runs = held_among(self.told_runs)
    refine evHt T (ev_var rfl) gx3 G3 (Ex.refl _) _ fun H4 e4 => ?_
    refine ⟨pt, pickG (notOf m) A.ts h.log, h.log.filter (notOf m), rfl, e4 _ _ gpt3, L2.Paired.mapP hpick fun _ _ z => (runs3 c3 z).mono e4, Nat.le_trans (List.length_filter_le _ _) (by omega), fun ph H5 hs nph e5 h5 hR => ?_⟩
    refine ⟨_, rfl, A.x, C.House, A.dx, _, rfl, e5 _ _ (e4 _ _ gx3), T.cl_House, T.n_House_held_runs, by show 5 < 1000; decide, ?_⟩
    rw [put_held]
    have nph3 : G3 ph = none := fresh_back e4 nph
    have nphH : H ph = none := c3.back gx3 gpd3 nph3
    have hphx : ph ≠ A.x := Ne.symm (ne_of_none gx3 nph3)
    have n3 : pt ≠ ph := ne_of_none gpt3 nph3
    have e35 := e4.trans e5
    have c5 : But2 A.x A.pd H (upd H5 A.x (.ins C.House A.dx (fH h.jobs A.pa pt ph A.pd))) := (c3.ex e35).put
    have gx5 : upd H5 A.x (.ins C.House A.dx (fH h.jobs A.pa pt ph A.pd)) A.x = some (.ins C.House A.dx (fH h.jobs A.pa pt ph A.pd)) := upd_same
    have gpt5 : upd H5 A.x (.ins C.House A.dx (fH h.jobs A.pa pt ph A.pd)) pt = some (.lst ((pickG (notOf m) A.ts h.log).map V.ref)) := by rw [upd_ne hptx]; exact e35 _ _ gpt3
    have gph5 : upd H5 A.x (.ins C.House A.dx (fH h.jobs A.pa pt ph A.pd)) ph = some (.lst (hs.map V.ref)) := by rw [upd_ne hphx]; exact h5
    have gpd5 : upd H5 A.x (.ins C.House A.dx (fH h.jobs A.pa pt ph A.pd)) A.pd = some (.dK (kvs ++ [(Sum.inl (m : Int), .bl true)])) := by rw [upd_ne (Ne.symm x4)]; exact e35 _ _ gpd3
    have ga5 : upd H5 A.x (.ins C.House A.dx (fH h.jobs A.pa pt ph A.pd)) A.pa = some (.lst (A.ds.map V.ref)) := c5 _ _ hA.areas (Ne.symm x1) m4
    show sFld K (tVar 0) (tOp rCat (tLst (tCons (tOp (rIxL K) (tFld K (tVar 0) "areas") (tC (.int 0))) tNil)) (tCall (sp_empty_areas K C) [] E0 (tCons (tFld K (tVar 0) "jobs") tNil))) "areas" _ _ _
    generalize upd H5 A.x (.ins C.House A.dx (fH h.jobs A.pa pt ph A.pd)) = G5 at c5 gx5 gpt5 gph5 gpd5 ga5
    -- self.areas = [self.areas[0]] + empty_areas(self.jobs)
    obtain ⟨d0, l0, hd0, _⟩ := hA.src
    have hev0 : Ev (tOp (rIxL K) (tFld K (tVar 0) "areas") (tC (.int 0))) [some (.ref A.x), some (.int (m : Int)), none] G5 (.ref d0) := ev_op (evHa T (ev_var rfl) gx5) ev_c (rv_ixL (sq_of ga5) (atI_nat (j := 0) (refs_at hd0)))
    refine hev0 G5 (Ex.refl _) _ fun H6 e6 => ?_
    refine cat_rest (n := h.jobs) (Nat.le_trans hA.inv.j6 (by decide)) (evHj T (ev_var rfl) (e6 _ _ gx5)) fun pa H7 ds npa e7 h7 hdl hnd hd => ?_
    refine ⟨_, rfl, A.x, C.House, A.dx, _, rfl, e7 _ _ (e6 _ _ gx5), T.cl_House, T.n_House_areas, by show 5 < 1000; decide, ?_⟩
    rw [put_areas]
    have npa5 : G5 pa = none := fresh_back e6 npa
    have npaH : H pa = none := c5.back gx5 gpd5 npa5
    have hpax : pa ≠ A.x := Ne.symm (ne_of_none gx5 npa5)
    have n1 : pa ≠ pt := Ne.symm (ne_of_none gpt5 npa5)
    have n2 : pa ≠ ph := Ne.symm (ne_of_none gph5 npa5)
    have e57 := e6.trans e7
    have hdx : ∀ d ∈ ds, G5 d = none ∧ d ≠ A.x := fun d c => by
      have z := fresh_back e6 (hd d c).1
      exact ⟨z, Ne.symm (ne_of_none gx5 z)⟩
    have c7 : But2 A.x A.pd H (upd H7 A.x (.ins C.House A.dx (fH h.jobs pa pt ph A.pd))) := (c5.ex e57).put
    have gx7 : upd H7 A.x (.ins C.House A.dx (fH h.jobs pa pt ph A.pd)) A.x = some (.ins C.House A.dx (fH h.jobs pa pt ph A.pd)) := upd_same
    have gpt7 : upd H7 A.x (.ins C.House A.dx (fH h.jobs pa pt ph A.pd)) pt = some (.lst ((pickG (notOf m) A.ts h.log).map V.ref)) := by rw [upd_ne hptx]; exact e57 _ _ gpt5
    have gph7 : upd H7 A.x (.ins C.House A.dx (fH h.jobs pa pt ph A.pd)) ph = some (.lst (hs.map V.ref)) := by rw [upd_ne hphx]; exact e57 _ _ gph5
    have gpd7 : upd H7 A.x (.ins C.House A.dx (fH h.jobs pa pt ph A.pd)) A.pd = some (.dK (kvs ++ [(Sum.inl (m : Int), .bl true)])) := by rw [upd_ne (Ne.symm x4)]; exact e57 _ _ gpd5
    have gpa7 : upd H7 A.x (.ins C.House A.dx (fH h.jobs pa pt ph A.pd)) pa = some (.lst ((d0 :: ds).map V.ref)) := by rw [upd_ne hpax]; exact h7
    have gds7 : ∀ d ∈ ds, H d = none ∧ upd H7 A.x (.ins C.House A.dx (fH h.jobs pa pt ph A.pd)) d = some (.dK []) := fun d c => ⟨c5.back gx5 gpd5 (hdx d c).1, by rw [upd_ne (hdx d c).2]; exact (hd d c).2⟩
    generalize upd H7 A.x (.ins C.House A.dx (fH h.jobs pa pt ph A.pd)) = G7 at c7 gx7 gpt7 gph7 gpd7 gpa7 gds7
    obtain ⟨hA7, hfx⟩ := hA.without (m := m) hd0 c7 gx7 gpa7 gpt7 gph7 gpd7 (by rw [List.map_append, List.map_append, hkv]; rfl) npaH nptH nphH gds7 hdl hnd n1 n2 n3 hpick (hR _ hpick)
    -- return counted(self.held_numbers())
    have htl : (Rp02.taken (without h m).log).length ≤ 30 := hA7.held30
    show tRet (tCall (sp_counted K C) [] E0 (tCons (tMeth C.House "held_numbers" (sp_House_held_numbers K C) [] E0 (tVar 0) tNil) tNil)) { nx := fun _ H' => Q .non H', rt := Q } [some (.ref A.x), some (.int (m : Int)), none] G7
    refine s_retL (xs := ansV ⟨((Rp02.taken (without h m).log).length : Nat), ids (Rp02.taken (without h m).log)⟩) ?_ fun p H8 hp e8 h8 => k H8 _ p (hA7.mono e8) rfl rfl (hfx.trans (fx_mono e8)) (hA7.tracked.fresh hp) h8
    refine el_callL1 (xs := nV (ids (Rp02.taken (without h m).log))) (el_meth (K := K) (ev_var rfl) gx7 (fH_no (by decide +kernel) (by decide +kernel) (by decide +kernel) (by decide +kernel) (by decide +kernel)) ea_nil (use_held_numbers gx7 hA7.heldAt (by omega))) fun p H8 h8 e8 => ?_
    have hil : (nV (ids (Rp02.taken (without h m).log))).length = (Rp02.taken (without h m).log).length := by
      rw [nV_length]
      unfold ids
      rw [List.length_map]
    have := use_counted (K := K) (C := C) h8 (by rw [hil]; omega)
    rw [hil] at this
    exact this
end
end Mine
set_option Elab.async false
set_option linter.all false
set_option maxRecDepth 100000
set_option maxHeartbeats 4000000
namespace Mine
open PySem PySem.Spec PyProof.Rows L2 Evl
open Rp02 (Ask Reply Trace Area Half Fate askNumbers replyNumbers)
/-- a body's walk, from its entry on -/
def BodyOk (P : Program) (w : World) (K : PySem.W.Frag) (mg : Str → Option Value) (base : Heap) (N : List Str) (qual : Str) (st : Stmt) (f : Addr) (code : Value) (A : Around) (outer : List Env) (s : Shared) (H : Hp) (vs : List V) (Q : VK) (E : XK) : Prop := ∃ t : TS, PSs (cxOf CX0 P w K mg base N qual (defScope st) f code A outer s H E).nox (defBody st) t ∧ t { nx := fun _ G => Q .non G, rt := Q } (start N vs) H
/-- the rule for a def, its code object told -/
theorem okC_aux {P : Program} {w : World} {K : PySem.W.Frag} {mg : Str → Option Value} {base : Heap} {x qual : Str} {st : Stmt} {f : Addr} {fd : FuncData} {N ps : List Str} {k : Nat} {sp : Sp} (F : Fun K x qual st f fd) (S : FnScope N ps (defScope st)) (len : ∀ vs H Q E, sp vs H Q E → vs.length = ps.length)
    (walk : ∀ (code : Value) (A : Around) (outer : List Env) (s : Shared) (H : Hp) (vs : List V) (Q : VK) (E : XK), fd.code = code → Room k (A.deeper (envOfC qual (defScope st) s.heap.objs.size f code)) → sp vs H Q E → BodyOk P w K mg base N qual st f code A outer s H vs Q E) : FnOk P w K mg base CX0 (k + 1) f fd ps sp :=
  match F.ex with
  | ⟨_, _, _, _, _, _, code, _, _, same, at_, named⟩ => by
    subst same
    exact fn_of at_ named S len fun A outer s H vs Q E room h => (walk code A outer s H vs Q E rfl room h).elim fun t z => ⟨t, z.1.nox, z.2⟩
/-! ### the nearest -/
theorem nearest_mem {w : Rp02.World} : ∀ {l : List Rp02.Entry} {e : Rp02.Entry}, Rp02.nearest w l = some e → e ∈ l
  | [], e, h => by cases h
  | g :: r, e, h => by
    rw [Rp02.nearest] at h
    cases q : Rp02.nearest w r with
    | none =>
      rw [q] at h
      cases h
      exact List.mem_cons_self
    | some f =>
      rw [q] at h
      dsimp only at h
      split at h
      · cases h
        exact List.mem_cons_of_mem _ (nearest_mem q)
      · cases h
        exact List.mem_cons_self
theorem nearest_of {w : Rp02.World} : ∀ {l : List Rp02.Entry} {i : Nat} {e : Rp02.Entry}, l[i]? = some e → (∀ j f, l[j]? = some f → (e.wrong w).length ≤ (f.wrong w).length ∧ (j < i → (e.wrong w).length < (f.wrong w).length)) → Rp02.nearest w l = some e
  | [], i, e, h, _ => by simp at h
  | g :: r, 0, e, h, hb => by
    cases h
    rw [Rp02.nearest]
    cases q : Rp02.nearest w r with
    | none => rfl
    | some f =>
      dsimp only
      obtain ⟨j, hj⟩ := List.mem_iff_getElem?.mp (nearest_mem q)
      have := (hb (j + 1) f (by rw [List.getElem?_cons_succ]; exact hj)).1
      rw [if_neg (by omega)]
  | g :: r, i + 1, e, h, hb => by
    rw [List.getElem?_cons_succ] at h
    rw [Rp02.nearest, nearest_of h fun j f hj => by
      have := hb (j + 1) f (by rw [List.getElem?_cons_succ]; exact hj)
      exact ⟨this.1, fun c => this.2 (by omega)⟩]
    dsimp only
    rw [if_pos ((hb 0 g rfl).2 (by omega))]
def sp_House_nearest (K : PySem.W.Frag) (C : Ad) : Sp := fun vs H Q _ => ∃ (A : HA) (h : Rp02.House) (n : Nat), vs = [.ref A.x, .int (n : Int)] ∧ HouseAt C H A h ∧ AfterT C H A (Rp02.step h (.nearest n)).1 (Rp02.step h (.nearest n)).2 Q
/-- the table has another code object -/
theorem HouseAt.tabbed {C : Ad} {H H2 : Hp} {A : HA} {h : Rp02.House} (a : HouseAt C H A h) (bt : Bt C.tab H H2) (t : LamX.TabS H2 C.tab lamQ) : HouseAt C H2 A h := by
  obtain ⟨ps, hP⟩ := tab_at a.tab
  have keep : ∀ {b : Addr} {o : HO}, H b = some o → plainO o → H2 b = some o := fun {b o} hb ho => bt b o (fun z => by
    rw [z, hP] at hb
    cases hb
    exact ho) hb
  have hoff : C.tab ∈ A.off := List.mem_append.mpr (.inl a.tin)
  have hfx : Ex (Fx A.off H) (Fx A.off H2) := fun b o hb => by
    obtain ⟨q1, q2⟩ := fx_inv hb
    exact fx_some q1 (bt b o (fun z => q1 (z ▸ hoff)) q2)
  obtain ⟨h1, h2, h3, h4, h5, h6, h7, ⟨kvs, h8, h9⟩, h10, h11, h12, h13⟩ := a
  refine ⟨keep h1 trivial, keep h2 trivial, L2.Paired.mapP h3 fun _ _ q => ?_, keep h4 trivial, L2.Paired.mapP h5 fun _ _ q => q.mono hfx, keep h6 trivial, L2.Paired.mapP h7 fun _ _ q => q.mono hfx, ⟨kvs, keep h8 trivial, h9⟩, h10, h11, t, h13⟩
  obtain ⟨l, q1, q2⟩ := q
  exact ⟨l, keep q1 trivial, q2⟩
section
variable {P : Program} {w : World} {K : PySem.W.Frag} {mg : Str → Option Value} {base : Heap} {C : Ad}
theorem ok_House_nearest {f : Addr} {fd : FuncData} (F : Fun K "nearest" "House.nearest" s_House_nearest f fd) (T : Txt K mg C) (hcd : fd.code = .ref C.code) (TB : LamX.TabB base mg C.code C.tab) (G_House_held_of : HasM P w K mg base 1 C.House "held_of" ["self", "job"] (sp_House_held_of K C)) (G_wrong_places : Has P w K mg base 3 "wrong_places" ["areas", "run"] (sp_wrong_places K C)) : FnOk P w K mg base CX0 6 f fd ["self", "job"] (sp_House_nearest K C) := by
  refine okC_aux F sc_House_nearest (fun vs H Q E h => ?_) (fun cdv A outer s H vs Q E hc hr h => ?_)
  · obtain ⟨A, h, n, rfl, _⟩ := h
    rfl
  · obtain rfl : cdv = .ref C.code := hc.symm.trans hcd
    refine ⟨_, (pss_cons (ps_if (pt_cmpR op_ge (pv 1) (pe_fldK (K := K) rfl (pv 0) rfl) (nomark _)) (pss_one (ps_ret (pe_lst (pa_cons (pe_globI rfl T.g_NO_SUCH_JOB) pa_nil)))) pss_nil) (pss_cons (ps_set (i := 2) sc_House_nearest.nd rfl (Or.inl rfl) (pe_hasM G_House_held_of (hr.mono (by decide)) (pv 0) (by exact (pa_cons (pv 1) pa_nil)))) (pss_cons (ps_if (pt_cmpR op_eq (pe_callB (call_len_seqK (K := K) rfl) (by rfl) T.b_len (by decide +kernel) (pa_cons (pv 2) pa_nil)) pe_int (nomark _)) (pss_one (ps_ret (pe_lst (pa_cons (pe_globI rfl T.g_NONE_HELD) pa_nil)))) pss_nil) (pss_cons (ps_set (i := 3) sc_House_nearest.nd rfl (Or.inl rfl) (pe_minLam (N := ["each", "self"]) (ps := ["each"]) (fr := ["self"]) (js := [0]) (k := 3) rfl rfl T.b_min TB rfl hr (pa_cons (pv 2) pa_nil) (NdefX.nscope_by (by decide +kernel)) rfl (NdefX.ndef_free (sc := defScope s_House_nearest) (fr := ["self"]) (by decide +kernel)) (by decide +kernel) rfl (fun _ _ _ _ us hl => match us, hl with | [_], _ => rfl) (fun A outer s2 H2 f c' hr2 => (pe_callB (call_len_seqK (K := K) rfl) (by rfl) T.b_len (by decide +kernel) (pa_cons (pe_has G_wrong_places (hr2.mono (by decide)) rfl (by exact (pa_cons (pe_fldK (K := K) rfl (pv 1) rfl) (pa_cons (pv 0) pa_nil)))) pa_nil))))) (pss_cons (ps_set (i := 4) sc_House_nearest.nd rfl (Or.inl rfl) (pe_has G_wrong_places (hr.mono (by decide)) rfl (by exact (pa_cons (pe_fldK (K := K) rfl (pv 0) rfl) (pa_cons (pv 3) pa_nil))))) (pss_one (ps_ret (pe_op op_cat (pe_lst (pa_cons (pe_callB (call_len_seqK (K := K) rfl) (by rfl) T.b_len (by decide +kernel) (pa_cons (pv 4) pa_nil)) (pa_cons (pe_fldK (K := K) rfl (pv 3) rfl) pa_nil))) (pv 4))))))))), ?_⟩
    obtain ⟨A, h, n, rfl, hA, k⟩ := h
    refine q_when (et_test (ev_op (ev_var rfl) (evHj T (ev_var rfl) hA.ins) rv_I0)) ?_ ?_
    · intro hb H1 e1
      have hc : h.jobs ≤ n := by have := of_decide_eq_true hb; omega
      simp only [Rp02.step, if_pos hc] at k
      exact s_retL (xs := ansV (Rp02.ok (-2))) (el_lst (ea_cons ev_c ea_nil) (by show 1 ≤ 100000; decide)) fun p H2 hp e2 h2 => (k.after.same hA).go e1 hp e2 h2
    intro hb H1 e1
    have hc : ¬ h.jobs ≤ n := by have := of_decide_eq_false hb; omega
    simp only [Rp02.step, if_neg hc] at k
    have hA1 := hA.mono e1
    have hO := hA.ofAt n
    have hlen : ((A.of h n).map V.ref).length = (h.of n).length := by rw [List.length_map, paired_len hO]
    refine q_asgL (xs := (A.of h n).map V.ref) (el_meth (K := K) (ev_var rfl) hA1.ins (fH_no (by decide +kernel) (by decide +kernel) (by decide +kernel) (by decide +kernel) (by decide +kernel)) (ea_cons (ev_var rfl) ea_nil) (use_held_of hA1)) fun p H2 hp e2 h2 => ?_
    refine q_when (et_test (ev_op (ev_lenN' (ev_var rfl) (sq_of h2) hlen) ev_c (rv_eq rfl))) ?_ ?_
    · intro hb H3 e3
      have hz : h.of n = [] := by
        have := V.int.inj (of_decide_eq_true hb)
        exact List.length_eq_zero_iff.mp (by omega)
      rw [hz] at k
      have k : AfterT C H A h (Rp02.ok (-8)) Q := k
      exact s_retL (xs := ansV (Rp02.ok (-8))) (el_lst (ea_cons ev_c ea_nil) (by show 1 ≤ 100000; decide)) fun p1 H4 hp1 e4 h4 => (k.after.same hA).go ((e1.trans e2).trans e3) hp1 e4 h4
    intro hb H3 e3
    have hne : 0 < (h.of n).length := by
      have := of_decide_eq_false hb
      rcases Nat.eq_zero_or_pos (h.of n).length with z | z
      · rw [z] at this
        exact absurd rfl this
      · exact z
    have x3 := (e1.trans e2).trans e3
    have hA3 := hA.mono x3
    have h23 := e3 _ _ h2
    -- run = min(runs, key=lambda each: ..)
    refine ⟨_, rfl, hA3.tab, fun H4 bt T4 => ?_⟩
    have hA4 := hA3.tabbed bt T4
    obtain ⟨ps, hP⟩ := tab_at hA3.tab
    have h4 : H4 p = some (.lst ((A.of h n).map V.ref)) := bt _ _ (ne_of h23 hP (by intro z; cases z)) h23
    have hO4 := hA4.ofAt n
    refine ⟨p, (A.of h n).map V.ref, fun i => match (h.of n)[i]? with | some e => ((wrongT h.world e.trace).length : Int) | none => 0, rfl, h4, by rw [hlen]; exact hne, fun i y H5 e5 hy => ?_, fun i y H5 e5 hy hbest => ?_⟩
    · obtain ⟨a, ha, rfl⟩ := refs_get hy
      obtain ⟨e, he, hE⟩ := paired_get hO4 ha
      obtain ⟨hlog, _⟩ := of_mem (List.mem_of_getElem? he)
      have hA5 := hA4.mono e5
      simp only [he]
      refine ev_lenL (K := K) (xs := nV (wrongT h.world e.trace)) (el_call (ea_cons (evHa T (ev_var rfl) hA5.ins) (ea_cons (ev_var rfl) ea_nil)) (use_wrong_places hA5.areasAt (hE.1.mono e5) hE.2.kinded (hA.inW hlog hE.2) (Nat.le_trans hE.2.short (by decide)))) (nV_length _)
    · obtain ⟨a, ha, rfl⟩ := refs_get hy
      obtain ⟨e, he, hE⟩ := paired_get hO4 ha
      obtain ⟨hlog, _⟩ := of_mem (List.mem_of_getElem? he)
      have hnear : Rp02.nearest h.world (h.of n) = some e := by
        refine nearest_of he fun j f hj => ?_
        have hjl := lt_at hj
        have := hbest j (by rw [hlen]; exact hjl)
        simp only [he, hj] at this
        rw [wrong_eq, wrong_eq]
        exact ⟨by omega, fun c => by have := this.2 c; omega⟩
      rw [hnear] at k
      have k : AfterT C H A h ⟨((wrongT h.world e.trace).length : Nat), e.id :: wrongT h.world e.trace⟩ Q := k
      have hA5 := hA4.mono e5
      have hE5 := hE.mono e5
      have hwl : (wrongT h.world e.trace).length ≤ 12 := by
        unfold wrongT
        refine Nat.le_trans (List.length_filter_le _ _) ?_
        rw [List.length_range]
        exact hE.2.short
      show tSeq (tAsg (tCall (sp_wrong_places K C) [] E0 (tCons (tFld K (tVar 0) "areas") (tCons (tVar 3) tNil))) (gName 4)) _ _ [some (.ref A.x), some (.int (n : Int)), some (.ref p), some (.ref a), none] H5
      refine q_asgL (xs := nV (wrongT h.world e.trace)) (el_call (ea_cons (evHa T (ev_var rfl) hA5.ins) (ea_cons (ev_var rfl) ea_nil)) (use_wrong_places hA5.areasAt hE5.1 hE.2.kinded (hA.inW hlog hE.2) (Nat.le_trans hE.2.short (by decide)))) fun pw H6 hpw e6 h6 => ?_
      obtain ⟨dx, m, t, hR, _⟩ := hE5.1
      have hA6 := hA5.mono e6
      refine s_retL (xs := [.int ((wrongT h.world e.trace).length : Int), .int (e.id : Int)] ++ nV (wrongT h.world e.trace)) (el_cat (xs := [.int ((wrongT h.world e.trace).length : Int), .int (e.id : Int)]) (el_lst (ea_cons (ev_lenN' (ev_var rfl) (sq_of h6) (nV_length _)) (ea_cons (evRn T (ev_var rfl) (e6 _ _ hR)) ea_nil)) (by show 2 ≤ 100000; decide)) (ev_var rfl) h6 (by rw [nV_length]; show 2 + _ ≤ _; omega)) fun q H7 hq e7 h7 => ?_
      have hA7 := hA6.mono e7
      obtain ⟨ps7, hP7⟩ := tab_at hA7.tab
      refine k H7 A q hA7 rfl rfl (fun b o hb => ?_) (hA6.tracked.fresh hq) (ne_of h7 hP7 (by intro z; cases z)) h7
      obtain ⟨q1, q2⟩ := fx_inv hb
      exact fx_some q1 (e7 _ _ (e6 _ _ (e5 _ _ (bt b o (fun z => q1 (by rw [z]; exact List.mem_cons_self)) (x3 _ _ q2)))))
end
end Mine
set_option Elab.async false
set_option linter.all false
set_option maxRecDepth 100000
set_option maxHeartbeats 4000000
namespace Mine
open PySem PySem.Spec PyProof.Rows L2 Evl
open Rp02 (Ask Reply Trace Area askNumbers replyNumbers)
/-! ### one call -/
abbrev nstep := Rp02Neutral.step
/-- the rows of a call, as lists that the house does not hold -/
def RowsIn (H : Hp) (M : List Addr) (ps : List Addr) (rows : List (List Int)) : Prop := Paired (fun a x => a ∉ M ∧ H a = some (.lst (iV x))) ps rows
def sp_answer_call (K : PySem.W.Frag) (C : Ad) : Sp := fun vs H Q _ => ∃ (A : HA) (h : Rp02.House) (p : Int) (pn pl : Addr) (ns : List Int) (rows : List (List Int)) (ps : List Addr), vs = [.ref A.x, .int p, .ref pn, .ref pl] ∧ HouseAt C H A h ∧ H pn = some (.lst (iV ns)) ∧ H pl = some (.lst (ps.map V.ref)) ∧ RowsIn H A.off ps rows ∧
  Rp02Neutral.asked1 ((p :: ns) :: rows) = true ∧ h.out.length ≤ 1000 ∧ Tracked A.off H ∧
  ∀ H' A' q, HouseAt C H' A' (nstep h ((p :: ns) :: rows)).1 → A'.x = A.x → A'.ge = A.ge → Ex (Fx (C.tab :: A.mut) H) (Fx (C.tab :: A'.mut) H') → q ∉ A'.mut → q ≠ C.tab → H' q = some (.lst (iV (nstep h ((p :: ns) :: rows)).2)) → Q (.ref q) H'
/-! ### the whole -/
def spAns (K : PySem.W.Frag) (tab : Addr) : Sp := fun vs H Q _ => ∃ (a : Addr) (l : List Int), vs = [.ref a] ∧ SqL K H a (iV l) ∧ PyRp02.answers_asked l = true ∧ LamX.TabS H tab lamQ ∧
  ∀ (H' : Hp) (p : Addr), H' p = some (.lst (iV (PyRp02.answers l))) → Q (.ref p) H'
def sp_answers (K : PySem.W.Frag) (C : Ad) : Sp := spAns K C.tab
theorem out_step (h : Rp02.House) (c : Rp02.Call) : (Rp02.step h c).1.out.length ≤ h.out.length + 1 := by
  cases c with
  | begins n =>
    simp only [Rp02.step]
    split
    · exact Nat.le_succ _
    · exact Nat.zero_le _
  | put n c =>
    simp only [Rp02.step]
    split <;> exact Nat.le_succ _
  | drop n =>
    simp only [Rp02.step]
    split <;> exact Nat.le_succ _
  | tell i j m q made t =>
    simp only [Rp02.step]
    split
    · exact Nat.le_succ _
    split
    · exact Nat.le_succ _
    split
    · exact Nat.le_succ _
    split
    · exact Nat.le_succ _
    split
    · exact Nat.le_succ _
    split
    · exact Nat.le_succ _
    · exact Nat.le_succ _
  | look j =>
    simp only [Rp02.step]
    split <;> exact Nat.le_succ _
  | bring j =>
    simp only [Rp02.step]
    split
    · exact Nat.le_succ _
    · split <;> exact Nat.le_succ _
  | nearest j =>
    simp only [Rp02.step]
    split <;> exact Nat.le_succ _
  | plan => exact Nat.le_succ _
  | distrust m =>
    simp only [Rp02.step]
    split
    · exact Nat.le_succ _
    · simp
  | held => exact Nat.le_succ _
  | files a =>
    simp only [Rp02.step]
    split <;> exact Nat.le_succ _
theorem out_nstep (h : Rp02.House) (c : List (List Int)) : (nstep h c).1.out.length ≤ h.out.length + 1 := by
  unfold nstep Rp02Neutral.step
  split
  · exact Nat.le_succ _
  · exact out_step h _
theorem told_cons (a : List Int) (l : List (List Int)) : PyFlat.told (a :: l) = ((a.length : Int) :: a) ++ PyFlat.told l := by
  unfold PyFlat.told
  rw [List.flatMap_cons]
section
variable {K : PySem.W.Frag} {σ : L2.St} {H H' : Hp} {ta tb te : TE}
theorem ev_sumL {ns : List Int} (h : EvL ta σ H (iV ns)) : Ev (tCB (rSum K) (tCons ta tNil)) σ H (.int ns.sum) := fun H1 e Q q =>
  h H1 e _ fun p H2 _ e2 hp => ⟨p, ns, rfl, sq_of hp, q H2 e2⟩
end
section
variable {K : PySem.W.Frag} {σ : L2.St} {H H' : Hp} {D : Ends} {tz : TS}
theorem q_asgC {sp : Sp} {E : XK} {tg : TA} {vs : List V} {i : Nat} (h : EvA tg σ H vs) (k : ∀ H1, Ex H H1 → sp vs H1 (fun v H2 => tz D (σ.set i (some v)) H2) E) : tSeq (tAsg (tCall sp [] E tg) (gName i)) tz D σ H :=
  h H (Ex.refl H) _ fun H1 e1 => by
    rw [List.append_nil]
    exact k H1 e1
theorem q_ext2 {sp1 sp2 : Sp} {E1 E2 : XK} {tg : TA} {vs xs : List V} {j : Nat} {g : Addr} (hg : σ[j]? = some (some (.ref g))) (hgl : H g = some (.lst xs)) (h : EvA tg σ H vs)
    (k : ∀ H1, Ex H H1 → sp2 vs H1 (fun v H2 => sp1 [v] H2 (fun u H3 => rExtend (.ref g) [u] H3 (fun _ H4 => tz D σ H4)) E1) E2) : tSeq (tDrop (tBM K "list" rExtend (tVar j) (tCons (tCall sp1 [] E1 (tCons (tCall sp2 [] E2 tg) tNil)) tNil))) tz D σ H :=
  ⟨_, hg, .inl ⟨rfl, _, sq_of hgl⟩, h H (Ex.refl H) _ fun H1 e1 => by
    rw [List.append_nil]
    exact k H1 e1⟩
end
theorem sum_used (rows : List (List Int)) : (rows.map fun r => ((1 + r.length : Nat) : Int)).sum = ((used rows : Nat) : Int) := by
  induction rows with
  | nil => rfl
  | cons r rows ih =>
    rw [List.map_cons, List.sum_cons, ih, used_cons]
    omega
theorem Bt.trans {P : Addr} {H H1 H2 : Hp} (b : Bt P H H1) (e : Ex H1 H2) : Bt P H H2 := fun c o n h => e _ _ (b c o n h)
theorem Bt.of {P : Addr} {H H1 : Hp} (e : Ex H H1) : Bt P H H1 := fun c o _ h => e _ _ h
/-- a list is none of the tables -/
theorem sqb {K : PySem.W.Frag} {P : Addr} {q : Str} {H H' : Hp} {a : Addr} {xs : List V} (t : LamX.TabS H P q) (b : Bt P H H') (h : SqL K H a xs) : SqL K H' a xs := by
  obtain ⟨ps, hP⟩ := tab_at t
  rcases h with (z | ⟨o, z⟩) | z
  · exact .inl (.inl (b _ _ (ne_of z hP (by intro y; cases y)) z))
  · exact .inl (.inr ⟨o, b _ _ (ne_of z hP (by intro y; cases y)) z⟩)
  · exact .inr z
/-- what a call may change is no table -/
theorem HouseAt.tabOut {C : Ad} {H : Hp} {A : HA} {h : Rp02.House} (a : HouseAt C H A h) : C.tab ∉ A.mut := by
  obtain ⟨ps, hP⟩ := tab_at a.tab
  intro hb
  unfold HA.mut at hb
  simp only [List.mem_cons] at hb
  rcases hb with c | c | c | c | c | c
  · rw [c, a.ins] at hP; cases hP
  · rw [c, a.areas] at hP; cases hP
  · rw [c, a.told] at hP; cases hP
  · rw [c, a.held] at hP; cases hP
  · obtain ⟨kvs, h8, _⟩ := a.out
    rw [c, h8] at hP; cases hP
  · obtain ⟨i, hi⟩ := List.mem_iff_getElem?.mp c
    obtain ⟨y, _, l, hl, _⟩ := paired_get a.dicts hi
    rw [hl] at hP; cases hP
/-- another list changes, the house stays -/
theorem HouseAt.other {C : Ad} {H : Hp} {A : HA} {h : Rp02.House} (a : HouseAt C H A h) {g : Addr} {o : HO} {xs : List V} (hgo : H g = some (.lst xs)) (hg : g ∉ A.mut) (hge : g ∈ A.ge) : HouseAt C (upd H g o) A h := by
  have hne : ∀ {b : Addr}, b ∈ A.mut → b ≠ g := fun {b} hb c => hg (c ▸ hb)
  have hoff : g ∈ A.off := List.mem_append.mpr (.inl hge)
  obtain ⟨kvs, o1, o2⟩ := a.out
  refine ⟨?_, ?_, ?_, ?_, by rw [fx_put hoff]; exact a.runs, ?_, by rw [fx_put hoff]; exact a.hruns, ⟨kvs, ?_, o2⟩, a.nd, a.inv, tab_put a.tab hgo trivial, a.tin⟩
  · rw [upd_ne (hne (by unfold HA.mut; simp))]
    exact a.ins
  · rw [upd_ne (hne (by unfold HA.mut; simp))]
    exact a.areas
  · refine paired_set.paired_imp a.dicts fun j x y hx r => ?_
    obtain ⟨l, r1, r2⟩ := r
    refine ⟨l, ?_, r2⟩
    rw [upd_ne (hne (by unfold HA.mut; simp only [List.mem_cons]; exact .inr (.inr (.inr (.inr (.inr (List.mem_of_getElem? hx)))))))]
    exact r1
  · rw [upd_ne (hne (by unfold HA.mut; simp))]
    exact a.told
  · rw [upd_ne (hne (by unfold HA.mut; simp))]
    exact a.held
  · rw [upd_ne (hne (by unfold HA.mut; simp))]
    exact o1
/-- nothing is told yet: what no told run reads may be anything -/
theorem HouseAt.withGe {C : Ad} {H : Hp} {A : HA} (a : HouseAt C H A Rp02.init) (G : List Addr) (hG : C.tab ∈ G) : HouseAt C H { A with ge := G } Rp02.init := by
  have h1 : A.ts = [] := List.length_eq_zero_iff.mp (paired_len a.runs)
  have h2 : A.hs = [] := List.length_eq_zero_iff.mp (paired_len a.hruns)
  refine ⟨a.ins, a.areas, a.dicts, a.told, ?_, a.held, ?_, a.out, a.nd, a.inv, a.tab, hG⟩
  · show Paired _ A.ts []
    rw [h1]
    exact .nil
  · show Paired _ A.hs []
    rw [h2]
    exact .nil
theorem rows_few {c : List Int} {rows : List (List Int)} (h : Rp02Neutral.asked1 (c :: rows) = true) : rows.length ≤ 1000 := by
  cases rows with
  | nil => exact Nat.zero_le _
  | cons r t =>
    unfold Rp02Neutral.asked1 at h
    split at h <;> first | (rename_i z; cases z) | skip
    all_goals simp_all
    all_goals omega
section
variable {P : Program} {w : World} {K : PySem.W.Frag} {mg : Str → Option Value} {base : Heap} {C : Ad}
theorem ok_answers {f : Addr} {fd : FuncData} (F : Fun K "answers" "answers" s_answers f fd) (T : Txt K mg C) (G_House : HasC P w K mg base 3 "House" C.House ["self"] (sp_House_init K C)) (G_numbers_at : Has P w K mg base 1 "numbers_at" ["calls", "at"] (sp_numbers_at K C)) (G_lists_at : Has P w K mg base 2 "lists_at" ["calls", "at"] (sp_lists_at K C)) (G_counted : Has P w K mg base 1 "counted" ["numbers"] (sp_counted K C)) (G_answer_call : Has P w K mg base 7 "answer_call" ["house", "call", "numbers", "lists"] (sp_answer_call K C)) : FnOk P w K mg base CX0 8 f fd ["calls"] (sp_answers K C) := by
  refine F.ok sc_answers (fun vs H Q E h => ?_) (fun cdv A outer s H vs Q E hr h => ⟨_, (pss_cons (ps_set (i := 1) sc_answers.nd rfl (Or.inl rfl) (pe_hasC0 G_House (hr.mono (by decide)) rfl)) (pss_cons (ps_set (i := 2) sc_answers.nd rfl (Or.inl rfl) (pe_lst pa_nil)) (pss_cons (ps_set (i := 3) sc_answers.nd rfl (Or.inl rfl) pe_int) (pss_cons (ps_while PassesOwn.never (pt_cmpR op_lt (pv 3) (pe_callB (call_len_seqK (K := K) rfl) (by rfl) T.b_len (by decide +kernel) (pa_cons (pv 0) pa_nil)) (nomark _)) (pss_cons (ps_set (i := 4) sc_answers.nd rfl (Or.inl rfl) (pe_has G_numbers_at (hr.mono (by decide)) rfl (by exact (pa_cons (pv 0) (pa_cons (pe_op op_add (pv 3) pe_int) pa_nil))))) (pss_cons (ps_set (i := 5) sc_answers.nd rfl (Or.inl rfl) (pe_op op_add (pe_op op_add (pv 3) pe_int) (pe_callB (call_len_seqK (K := K) rfl) (by rfl) T.b_len (by decide +kernel) (pa_cons (pv 4) pa_nil)))) (pss_cons (ps_set (i := 6) sc_answers.nd rfl (Or.inl rfl) (pe_has G_lists_at (hr.mono (by decide)) rfl (by exact (pa_cons (pv 0) (pa_cons (pv 5) pa_nil))))) (pss_cons (ps_expr (pe_bm PySem.F.plainAttrs_list PySem.F.slot_list_extend PySem.F.type_list_extend mt_extend (pv 2) (pa_cons (pe_has G_counted (hr.mono (by decide)) rfl (by exact (pa_cons (pe_has G_answer_call hr rfl (by exact (pa_cons (pv 1) (pa_cons (pe_ix (ix_listK (K := K) rfl) (pv 0) (pv 3) (fun _ _ => rfl)) (pa_cons (pv 4) (pa_cons (pv 6) pa_nil)))))) pa_nil))) pa_nil))) (pss_one (ps_set (i := 3) sc_answers.nd rfl (Or.inl rfl) (pe_op op_add (pe_op op_add (pv 5) pe_int) (pe_callB (cr_sumK (K := K) rfl rfl) (by rfl) T.b_sum (by decide +kernel) (pa_cons (pe_lc (own := [("each", 7)]) (g := gName 7) (tt := tYes) rfl sc_answers.nd (pi_listK (K := K) rfl (pv 6)) (blkOk_by (own := [("each", 7)]) (N := ["calls", "house", "given", "at", "numbers", "behind", "lists", "each"]) (sc := defScope s_answers) (by decide +kernel)) (fun _ _ _ _ _ => pg_name (i := 7) sc_answers.nd rfl (Or.inl rfl)) (fun _ _ _ _ _ => pts_nil) (fun _ _ _ _ _ => (pe_op op_add pe_int (pe_callB (call_len_seqK (K := K) rfl) (by rfl) T.b_len (by decide +kernel) (pa_cons (pv 7) pa_nil))))) pa_nil)))))))))) (pss_one (ps_ret (pv 2))))))), ?_⟩)
  · obtain ⟨a, l, rfl, _⟩ := h
    rfl
  · obtain ⟨a, l, rfl, hL, hask, htab, k⟩ := h
    -- what is asked
    unfold PyRp02.answers_asked at hask
    cases hcs : PyRp02.calls l with
    | none =>
      rw [hcs] at hask
      cases hask
    | some cs =>
      rw [hcs] at hask
      simp only [Bool.and_eq_true] at hask
      obtain ⟨⟨⟨⟨_, _⟩, h60⟩, hasked⟩, hshort⟩ := hask
      unfold Rp02Neutral.asked at hasked
      simp only [Bool.and_eq_true] at hasked
      have hall := hasked.1
      have h60 : cs.length ≤ 60 := of_decide_eq_true h60
      have hshort : (PyRp02.answers l).length ≤ 10000000 := of_decide_eq_true hshort
      have hans : PyRp02.answers l = PyFlat.told (PyFlat.played nstep Rp02Neutral.start cs) := by
        unfold PyRp02.answers
        rw [hcs]
      have hsz : 10000000 + 100 < sizeLine := by decide
      -- house = House()
      intro x dx nx nd ne
      refine ⟨[C.tab], x, dx, rfl, upd_same, List.mem_singleton.mpr rfl, htab.ext fun b o hb => by rw [upd_ne (ne_of_none hb nx), upd_ne (ne_of_none hb nd)]; exact hb, fun H1 A hx hge0 hA b1 hm1 => ⟨rfl, ?_⟩⟩
      have x1 : Ex H H1 := ex_made nx nd b1
      have hmH : ∀ b ∈ A.mut, H b = none := fun b hb => by
        rcases hm1 b hb with z | z
        · rw [z]; exact nx
        · cases q : H b with
          | none => rfl
          | some o =>
            rw [upd_ne (ne_of_none q nx), upd_ne (ne_of_none q nd), q] at z
            cases z
      subst hx
      show tSeq (tAsg (tLst tNil) (gName 2)) _ _ _ _
      refine q_asgL (xs := []) (el_lst ea_nil (by show 0 ≤ 100000; decide)) fun g H2 ng e2 h2 => ?_
      refine q_asg (v := .int ((0 : Nat) : Int)) ev_c fun H3 e3 => ?_
      have e13 := e2.trans e3
      have hgt : g ≠ C.tab := by
        obtain ⟨ps0, hP0⟩ := tab_at hA.tab
        exact Ne.symm (ne_of_none hP0 ng)
      refine q_while (fun m σ' H' => ∃ (A' : HA) (h : Rp02.House) (i f : Nat) (rest : List (List (List Int))) (out : List Int) (v4 v5 v6 v7 : Option V), m = rest.length ∧ Bt C.tab H H' ∧ HouseAt C H' A' h ∧ A'.x = A.x ∧ A'.ge = [g, C.tab] ∧ g ≠ C.tab ∧ (∀ b ∈ A'.mut, H b = none) ∧ H g = none ∧ g ∉ A'.mut ∧ H' g = some (.lst (iV out)) ∧
        σ' = [some (.ref a), some (.ref A.x), some (.ref g), some (.int ((i : Nat) : Int)), v4, v5, v6, v7] ∧ PyWide.calls f (l.drop i) = some rest ∧ rest.all Rp02Neutral.asked1 = true ∧ h.out.length + rest.length ≤ 60 ∧ out ++ PyFlat.told (PyFlat.played nstep h rest) = PyRp02.answers l) cs.length ?_ ?_
      · refine ⟨{ A with ge := [g, C.tab] }, Rp02.init, 0, l.length, cs, [], _, _, _, _, rfl, .of (x1.trans e13), (hA.mono e13).withGe [g, C.tab] (by simp), rfl, rfl, hgt, hmH, fresh_back x1 ng, hA.tracked.fresh ng, e3 _ _ h2, rfl, ?_, hall, by show 0 + _ ≤ _; omega, ?_⟩
        · rw [List.drop_zero]
          exact hcs
        · rw [hans]
          rfl
      · rintro m σ' H' ⟨A', h, i, f, rest, out, v4, v5, v6, v7, rfl, xH, hA', hx', hge, hgt, hmut, hgH, hgm, hg, rfl, hcalls, hall', hout, heq⟩
        have hLn : (iV l).length = l.length := iV_length l
        refine ⟨decide ((i : Int) < (l.length : Int)), et_test (ev_op (ev_var rfl) (ev_lenN' (ev_var rfl) (sqb htab xH hL) hLn) rv_I0), ?_, ?_⟩
        · intro hb H4 e4
          have hil : i < l.length := by have := of_decide_eq_true hb; omega
          rcases calls_at hcalls with ⟨_, z⟩ | ⟨f', p, ns, rows, rest', rfl, rfl, _, hC, hcalls'⟩
          · omega
          rw [List.all_cons, Bool.and_eq_true] at hall'
          obtain ⟨hone, hall''⟩ := hall'
          have hplay : PyFlat.told (PyFlat.played nstep h (((p :: ns) :: rows) :: rest')) = (((nstep h ((p :: ns) :: rows)).2.length : Int) :: (nstep h ((p :: ns) :: rows)).2) ++ PyFlat.told (PyFlat.played nstep (nstep h ((p :: ns) :: rows)).1 rest') := by
            rw [PyFlat.played, told_cons]
          rw [hplay] at heq
          have hlenle : out.length + ((nstep h ((p :: ns) :: rows)).2.length + 1) ≤ 10000000 := by
            rw [← heq] at hshort
            simp only [List.length_append, List.length_cons] at hshort
            omega
          have x4 := xH.trans e4
          refine ⟨_, fun σ2 H3 z => z, ?_⟩
          have hns : RowAt l (i + 1) ns := hC.nums
          -- numbers
          refine q_asgL (xs := iV ns) (el_call (ea_cons (ev_var rfl) (ea_cons (ev_is (ev_op (ev_var rfl) ev_c rv_I0) (w := .int ((i + 1 : Nat) : Int)) (congrArg V.int (by omega))) ea_nil)) (use_numbers_at (sqb htab x4 hL) hns)) fun pn H5 npn e5 h5 => ?_
          -- behind
          refine q_asg (v := .int ((i + 2 + ns.length : Nat) : Int)) (ev_is (ev_op (ev_op (ev_var rfl) ev_c rv_I0) (ev_lenN' (K := K) (ev_var rfl) (sq_of h5) (iV_length ns)) rv_I0) (congrArg V.int (by omega))) fun H6 e6 => ?_
          have x6 := (x4.trans e5).trans e6
          have hA6 := hA'.mono ((e4.trans e5).trans e6)
          -- lists
          have hrl : rows.length ≤ 1000 := rows_few hone
          refine q_asgC (ea_cons (ev_var rfl) (ea_cons (ev_var rfl) ea_nil)) fun H7 e7 => ?_
          refine ⟨a, l, i + 2 + ns.length, rows, rfl, sqb htab (x6.trans e7) hL, hC.many, by rw [show i + 2 + ns.length + 1 = i + 3 + ns.length by omega]; exact hC.rows, hrl, fun pl H8 ps npl e8 h8 hR8 => ?_⟩
          have e68 := e7.trans e8
          have hA8 := hA6.mono e68
          have h58 := e68 _ _ (e6 _ _ h5)
          have hg8 := e68 _ _ (e6 _ _ (e5 _ _ (e4 _ _ hg)))
          have x8 := x6.trans e68
          refine q_ext2 rfl hg8 (ea_cons (ev_var rfl) (ea_cons (ev_ixI (ev_var rfl) (ev_var rfl) (sqb htab x8 hL) hC.call) (ea_cons (ev_var rfl) (ea_cons (ev_var rfl) ea_nil)))) fun H9 e9 => ?_
          have hA9 := hA8.mono e9
          have hg7 := e7 _ _ (e6 _ _ (e5 _ _ (e4 _ _ hg)))
          have hR9 : RowsIn H9 A'.off ps rows := L2.Paired.mapP hR8 fun b y z => ⟨fun c => by
            rcases List.mem_append.mp c with c | c
            · rw [hge] at c
              simp only [List.mem_cons, List.not_mem_nil, or_false] at c
              rcases c with c | c
              · rw [c, hg7] at z
                cases z.1
              · obtain ⟨ps7, hP7⟩ := tab_at (hA6.mono e7).tab
                rw [c, hP7] at z
                cases z.1
            · exact (hA6.mono e7).tracked.fresh z.1 c, e9 _ _ z.2⟩
          refine ⟨A', h, p, pn, pl, ns, rows, ps, by rw [hx'], hA9, e9 _ _ h58, e9 _ _ h8, hR9, hone, (by simp only [List.length_cons] at hout; omega), ?_, fun H10 A10 q hA10 hx10 hge10 hfx hqm hqt hq => ?_⟩
          · intro b hb
            rcases List.mem_append.mp hb with c | c
            · rw [hge] at c
              simp only [List.mem_cons, List.not_mem_nil, or_false] at c
              rcases c with c | c
              · rw [c, e9 _ _ hg8]
                exact fun z => by cases z
              · obtain ⟨ps9, hP9⟩ := tab_at hA9.tab
                rw [c, hP9]
                exact fun z => by cases z
            · exact hA9.tracked b c
          generalize hans1 : nstep h ((p :: ns) :: rows) = st at *
          -- counted
          refine ⟨q, iV st.2, rfl, hq, by rw [iV_length]; omega, fun pc H11 npc e11 h11 => ?_⟩
          have outT : ∀ {b : Addr} {M : List Addr}, b ≠ C.tab → b ∉ M → b ∉ C.tab :: M := fun {b M} h1 h2 c => (List.mem_cons.mp c).elim h1 h2
          have hg10 : Fx (C.tab :: A10.mut) H10 g = some (.lst (iV out)) := hfx _ _ (fx_some (outT hgt hgm) (e9 _ _ hg8))
          obtain ⟨hgm10', hg10⟩ := fx_inv hg10
          have hgm10 : g ∉ A10.mut := fun c => hgm10' (List.mem_cons_of_mem _ c)
          have hg11 := e11 _ _ hg10
          have hgpc : g ≠ pc := ne_of_none hg10 npc
          refine ⟨g, pc, _, _, rfl, rfl, hg11, h11, ?_, ?_⟩
          · rw [iV_length, List.length_cons, iV_length]
            omega
          have hcat : iV out ++ (.int ((iV st.2).length : Int) :: iV st.2) = iV (out ++ ((st.2.length : Int) :: st.2)) := by
            unfold iV
            rw [List.map_append, List.length_map]
            rfl
          rw [hcat]
          -- all that was there
          have hall10 : ∀ b o, b ≠ C.tab → H b = some o → H11 b = some o ∧ b ∉ A10.mut := fun b o hbt hb => by
            have hbm : b ∉ A'.mut := fun c => by
              rw [hmut b c] at hb
              cases hb
            obtain ⟨z1, z2⟩ := fx_inv (hfx _ _ (fx_some (outT hbt hbm) (e9 _ _ (x8 _ _ hbt hb))))
            exact ⟨e11 _ _ z2, fun c => z1 (List.mem_cons_of_mem _ c)⟩
          have x12 : Bt C.tab H (upd H11 g (.lst (iV (out ++ ((st.2.length : Int) :: st.2))))) := fun b o hbt hb => by
            rw [upd_ne (ne_of_none hb hgH)]
            exact (hall10 b o hbt hb).1
          have hA11 := hA10.mono e11
          have hA12 : HouseAt C (upd H11 g (.lst (iV (out ++ ((st.2.length : Int) :: st.2))))) A10 st.1 := hA11.other hg11 hgm10 (by rw [hge10, hge]; simp)
          have hrows : ∀ {j : Nat} {b : Addr} {y : List Int}, ps[j]? = some b → rows[j]? = some y → upd H11 g (.lst (iV (out ++ ((st.2.length : Int) :: st.2)))) b = some (.lst (iV y)) := fun {j b y} hb hy => by
            obtain ⟨y', hy', z1, z2⟩ := paired_get hR9 hb
            rw [hy] at hy'
            cases hy'
            have htoff : C.tab ∈ A'.off := List.mem_append.mpr (.inl (by rw [hge]; simp))
            obtain ⟨w1, w2⟩ := fx_inv (hfx _ _ (fx_some (outT (fun c => z1 (by rw [c]; exact htoff)) (fun c => z1 (HA.in_off c))) z2))
            have hbg : b ≠ g := fun c => by
              obtain ⟨y2, _, u1, _⟩ := paired_get hR8 hb
              rw [c, e7 _ _ (e6 _ _ (e5 _ _ (e4 _ _ hg)))] at u1
              cases u1
            rw [upd_ne hbg]
            exact e11 _ _ w2
          have hpl12 : upd H11 g (.lst (iV (out ++ ((st.2.length : Int) :: st.2)))) pl = some (.lst (ps.map V.ref)) := by
            have hplm : pl ∉ A'.mut := (hA6.mono e7).tracked.fresh npl
            obtain ⟨ps7, hP7⟩ := tab_at (hA6.mono e7).tab
            obtain ⟨w1, w2⟩ := fx_inv (hfx _ _ (fx_some (outT (Ne.symm (ne_of_none hP7 npl)) hplm) (e9 _ _ h8)))
            have : pl ≠ g := fun c => by
              rw [c, e7 _ _ (e6 _ _ (e5 _ _ (e4 _ _ hg)))] at npl
              cases npl
            rw [upd_ne this]
            exact e11 _ _ w2
          have hpl : ps.length = rows.length := paired_len hR9
          have hsum : Ev (tCB (rSum K) (tCons (tLc (iList K (tVar 6)) (gName 7) tYes (tOp (rI0 fun i j => V.int (i + j)) (tC (.int 1)) (tCB (rLenS K) (tCons (tVar 7) tNil))) [7]) tNil)) [some (.ref a), some (.ref A.x), some (.ref g), some (.int ((i : Nat) : Int)), some (.ref pn), some (.int ((i + 2 + ns.length : Nat) : Int)), some (.ref pl), v7] (upd H11 g (.lst (iV (out ++ ((st.2.length : Int) :: st.2))))) (.int ((used rows : Nat) : Int)) := by
            rw [← sum_used]
            refine ev_sumL ?_
            unfold iV
            rw [List.map_map]
            refine el_mapL rows _ (ev_var rfl) (sq_of hpl12) (by rw [List.length_map, hpl]) (by rw [List.length_map, hpl]; omega) (fun x => rfl) fun j v y H13 e13 hv hy => ?_
            obtain ⟨b, hb, rfl⟩ := refs_get hv
            exact ev_is (ev_op ev_c (ev_lenN' (K := K) (ev_var rfl) (sq_of (e13 _ _ (hrows hb hy))) (iV_length y)) rv_I0) (congrArg V.int (by show (1 : Int) + (y.length : Int) = ((1 + y.length : Nat) : Int); omega))
          refine s_asg (v := .int ((behind i ns rows : Nat) : Int)) (i := 3) (ev_is (ev_op (ev_op (ev_var rfl) ev_c rv_I0) hsum rv_I0) (congrArg V.int ?_)) fun H14 e14 => ?_
          · unfold behind
            omega
          · refine ⟨rest'.length, by simp, A10, st.1, behind i ns rows, f', rest', out ++ ((st.2.length : Int) :: st.2), _, _, _, _, rfl, x12.trans e14, hA12.mono e14, hx10.trans hx', hge10.trans hge, hgt, fun b hb => ?_, hgH, hgm10, e14 _ _ upd_same, rfl, hcalls', hall'', ?_, ?_⟩
            · cases q : H b with
              | none => rfl
              | some o =>
                by_cases hbt : b = C.tab
                · rw [hbt] at hb
                  exact absurd hb hA10.tabOut
                · exact absurd hb (hall10 b o hbt q).2
            · have := out_nstep h ((p :: ns) :: rows)
              rw [hans1] at this
              simp only [List.length_cons] at hout
              omega
            · rw [← heq]
              simp only [List.append_assoc]
        · intro hb H4 e4
          have hil : l.length ≤ i := by have := of_decide_eq_false hb; omega
          rcases calls_at hcalls with ⟨rfl, _⟩ | ⟨f', p, ns, rows, rest', _, _, z, _⟩
          · have : out = PyRp02.answers l := by
              rw [← heq]
              simp [PyFlat.played, PyFlat.told]
            rw [this] at hg
            exact s_ret (ev_var rfl) fun H5 e5 => k H5 g (e5 _ _ (e4 _ _ hg))
          · omega
end
end Mine
set_option Elab.async false
set_option linter.all false
set_option maxRecDepth 100000
set_option maxHeartbeats 4000000
namespace Mine
open PySem PySem.Spec PyProof.Rows L2 Evl
open Rp02 (Ask Reply Trace Area askNumbers replyNumbers)
/-! ### the calls by their shape -/
def up (l : List Nat) : List Int := l.map fun (n : Nat) => (n : Int)
theorem iV_up (l : List Nat) : iV (up l) = nV l := (nV_iV l).symm
theorem nats_up (l : List Nat) : Rp02Neutral.nats (up l) = l := by
  unfold Rp02Neutral.nats up
  rw [List.map_map]
  conv => rhs; rw [← List.map_id l]
  refine List.map_congr_left fun n _ => ?_
  show ((n : Int)).toNat = n
  omega
theorem whole_nat {z : Int} (h : Rp02Neutral.whole32 z = true) : ∃ n : Nat, z = (n : Int) := by
  unfold Rp02Neutral.whole32 at h
  rw [Bool.and_eq_true, decide_eq_true_eq, decide_eq_true_eq] at h
  exact ⟨z.toNat, by omega⟩
theorem row_nat : ∀ {l : List Int}, (l.all Rp02Neutral.whole32) = true → ∃ m : List Nat, l = up m
  | [], _ => ⟨[], rfl⟩
  | z :: l, h => by
    rw [List.all_cons, Bool.and_eq_true] at h
    obtain ⟨n, hn⟩ := whole_nat h.1
    obtain ⟨m, hm⟩ := row_nat h.2
    exact ⟨n :: m, by rw [hn, hm]; rfl⟩
theorem row32_nat {l : List Int} {k : Nat} (h : Rp02Neutral.row32 l k = true) : ∃ m : List Nat, l = up m ∧ m.length ≤ k := by
  unfold Rp02Neutral.row32 at h
  rw [Bool.and_eq_true, decide_eq_true_eq] at h
  obtain ⟨m, rfl⟩ := row_nat h.2
  refine ⟨m, rfl, ?_⟩
  have := h.1
  unfold up at this
  rw [List.length_map] at this
  exact this
theorem item_row {l : List Nat} {x : Ask × Reply} (h : Rp02Neutral.item (up l) = some x) : l = rowOf x ∧ kinded x = true := by
  unfold Rp02Neutral.item at h
  split at h
  · rename_i a n e
    cases h
    match l, e with
    | [b0, b1, b2], e =>
      simp only [up, List.map_cons, List.map_nil, List.cons.injEq, and_true] at e
      obtain ⟨e0, e1, e2⟩ := e
      refine ⟨?_, rfl⟩
      subst e1 e2
      have : b0 = 0 := by omega
      subst this
      simp [rowOf, askNumbers, tailN]
  · rename_i a n c e
    cases h
    match l, e with
    | [b0, b1, b2, b3], e =>
      simp only [up, List.map_cons, List.map_nil, List.cons.injEq, and_true] at e
      obtain ⟨e0, e1, e2, e3⟩ := e
      refine ⟨?_, rfl⟩
      subst e1 e2 e3
      have : b0 = 0 := by omega
      subst this
      simp [rowOf, askNumbers, tailN]
  · rename_i a lo hi r e
    cases h
    match l, e with
    | b0 :: b1 :: b2 :: b3 :: t, e =>
      simp only [up, List.map_cons, List.cons.injEq] at e
      obtain ⟨e0, e1, e2, e3, e4⟩ := e
      refine ⟨?_, rfl⟩
      have : b0 = 1 := by omega
      subst this
      have ht : Rp02Neutral.nats r = t := by
        rw [← e4]
        exact nats_up t
      subst e1 e2 e3
      rw [ht]
      simp [rowOf, askNumbers, tailN]
  · cases h
theorem items_all : ∀ {t : List (List Int)}, (t.all fun r => Rp02Neutral.row32 r 40 && (Rp02Neutral.item r).isSome) = true → ∃ x : Trace, t.mapM Rp02Neutral.item = some x ∧ t = x.map (fun y => up (rowOf y)) ∧ KTr x ∧ (∀ y ∈ x, (rowOf y).length ≤ 40)
  | [], _ => ⟨[], rfl, rfl, (fun y hy => nomatch hy), (fun y hy => nomatch hy)⟩
  | r :: t, h => by
    rw [List.all_cons, Bool.and_eq_true, Bool.and_eq_true] at h
    obtain ⟨⟨h1, h2⟩, h3⟩ := h
    obtain ⟨m, rfl, hm⟩ := row32_nat h1
    obtain ⟨y, hy⟩ := Option.isSome_iff_exists.mp h2
    obtain ⟨e, hk⟩ := item_row hy
    obtain ⟨x, hx, e2, hk2, hl2⟩ := items_all h3
    refine ⟨y :: x, ?_, ?_, ?_, ?_⟩
    · rw [List.mapM_cons, hy, hx]
      rfl
    · rw [List.map_cons, ← e2, ← e]
    · intro z hz
      rcases List.mem_cons.mp hz with c | c
      · rw [c]; exact hk
      · exact hk2 z c
    · intro z hz
      rcases List.mem_cons.mp hz with c | c
      · rw [c, ← e]; exact hm
      · exact hl2 z c
inductive Shape : Int → List Int → List (List Int) → Rp02.Call → Prop
  | begins (n : Nat) : Shape 0 (up [n]) [] (.begins n)
  | put (n c : Nat) : Shape 1 (up [n, c]) [] (.put n c)
  | drop (n : Nat) : Shape 2 (up [n]) [] (.drop n)
  | tell (r : Raw) (hk : KTr r.trace) (hs : ∀ y ∈ r.trace, (rowOf y).length ≤ 40) (hm : r.made.length ≤ 14) (hl : r.trace.length ≤ 14) : Shape 3 (up [r.id, r.job, r.machine, r.ended]) (up r.made :: r.trace.map fun y => up (rowOf y)) (callOf r)
  | look (n : Nat) : Shape 4 (up [n]) [] (.look n)
  | bring (n : Nat) : Shape 5 (up [n]) [] (.bring n)
  | nearest (n : Nat) : Shape 6 (up [n]) [] (.nearest n)
  | plan : Shape 7 [] [] .plan
  | distrust (n : Nat) : Shape 8 (up [n]) [] (.distrust n)
  | held : Shape 9 [] [] .held
  | files (n : Nat) : Shape 10 (up [n]) [] (.files n)
theorem shape_of {p : Int} {ns : List Int} {rows : List (List Int)} (h : Rp02Neutral.asked1 ((p :: ns) :: rows) = true) : ∃ c, Shape p ns rows c ∧ Rp02Neutral.callOf ((p :: ns) :: rows) = some c := by
  unfold Rp02Neutral.asked1 at h
  split at h
  · rename_i n e
    obtain ⟨a, rfl⟩ := whole_nat h
    simp only [List.cons.injEq] at e
    obtain ⟨⟨rfl, rfl⟩, rfl⟩ := e
    exact ⟨_, .begins a, by simp [Rp02Neutral.callOf]⟩
  · rename_i n c e
    rw [Bool.and_eq_true] at h
    obtain ⟨a, rfl⟩ := whole_nat h.1
    obtain ⟨b, rfl⟩ := whole_nat h.2
    simp only [List.cons.injEq] at e
    obtain ⟨⟨rfl, rfl⟩, rfl⟩ := e
    exact ⟨_, .put a b, by simp [Rp02Neutral.callOf]⟩
  · rename_i n e
    obtain ⟨a, rfl⟩ := whole_nat h
    simp only [List.cons.injEq] at e
    obtain ⟨⟨rfl, rfl⟩, rfl⟩ := e
    exact ⟨_, .drop a, by simp [Rp02Neutral.callOf]⟩
  · rename_i i j m q made t e
    simp only [Bool.and_eq_true] at h
    obtain ⟨h1, h2, h3, h4, h5, h6, h7⟩ := h
    obtain ⟨a, rfl⟩ := whole_nat h1
    obtain ⟨b, rfl⟩ := whole_nat h2
    obtain ⟨c, rfl⟩ := whole_nat h3
    obtain ⟨d, rfl⟩ := whole_nat h4
    obtain ⟨md, rfl, hmd⟩ := row32_nat h5
    simp only [List.cons.injEq] at e
    obtain ⟨⟨rfl, rfl⟩, rfl⟩ := e
    obtain ⟨x, hx, rfl, hk, hl⟩ := items_all h7
    refine ⟨callOf ⟨a, b, c, d, md, x⟩, .tell ⟨a, b, c, d, md, x⟩ hk hl hmd ?_, ?_⟩
    · have := of_decide_eq_true h6
      rw [List.length_map] at this
      exact this
    · simp [Rp02Neutral.callOf, hx, nats_up, callOf]
  · rename_i n e
    obtain ⟨a, rfl⟩ := whole_nat h
    simp only [List.cons.injEq] at e
    obtain ⟨⟨rfl, rfl⟩, rfl⟩ := e
    exact ⟨_, .look a, by simp [Rp02Neutral.callOf]⟩
  · rename_i n e
    obtain ⟨a, rfl⟩ := whole_nat h
    simp only [List.cons.injEq] at e
    obtain ⟨⟨rfl, rfl⟩, rfl⟩ := e
    exact ⟨_, .bring a, by simp [Rp02Neutral.callOf]⟩
  · rename_i n e
    obtain ⟨a, rfl⟩ := whole_nat h
    simp only [List.cons.injEq] at e
    obtain ⟨⟨rfl, rfl⟩, rfl⟩ := e
    exact ⟨_, .nearest a, by simp [Rp02Neutral.callOf]⟩
  · rename_i e
    simp only [List.cons.injEq] at e
    obtain ⟨⟨rfl, rfl⟩, rfl⟩ := e
    exact ⟨_, .plan, by simp [Rp02Neutral.callOf]⟩
  · rename_i n e
    obtain ⟨a, rfl⟩ := whole_nat h
    simp only [List.cons.injEq] at e
    obtain ⟨⟨rfl, rfl⟩, rfl⟩ := e
    exact ⟨_, .distrust a, by simp [Rp02Neutral.callOf]⟩
  · rename_i e
    simp only [List.cons.injEq] at e
    obtain ⟨⟨rfl, rfl⟩, rfl⟩ := e
    exact ⟨_, .held, by simp [Rp02Neutral.callOf]⟩
  · rename_i n e
    obtain ⟨a, rfl⟩ := whole_nat h
    simp only [List.cons.injEq] at e
    obtain ⟨⟨rfl, rfl⟩, rfl⟩ := e
    exact ⟨_, .files a, by simp [Rp02Neutral.callOf]⟩
  · cases h
theorem out_ans (a : Rp02.Ans) : iV (Rp02Neutral.out a) = ansV a := by
  unfold Rp02Neutral.out ansV iV nV
  rw [List.map_cons, List.map_map]
  rfl
/-- the specification's step, in the words of a method's promise -/
theorem after_of {C : Ad} {H : Hp} {A : HA} {h : Rp02.House} {c : List (List Int)} {x : Rp02.Call} {Q : VK} (hc : Rp02Neutral.callOf c = some x)
    (k : ∀ H' A' q, HouseAt C H' A' (nstep h c).1 → A'.x = A.x → A'.ge = A.ge → Ex (Fx (C.tab :: A.mut) H) (Fx (C.tab :: A'.mut) H') → q ∉ A'.mut → q ≠ C.tab → H' q = some (.lst (iV (nstep h c).2)) → Q (.ref q) H') : AfterT C H A (Rp02.step h x).1 (Rp02.step h x).2 Q := by
  intro H' A' p h1 h2 h3 h4 h5 h5' h6
  have e : nstep h c = ((Rp02.step h x).1, Rp02Neutral.out (Rp02.step h x).2) := by
    unfold nstep Rp02Neutral.step
    rw [hc]
  rw [e] at k
  exact k H' A' p h1 h2 h3 h4 h5 h5' (by rw [out_ans]; exact h6)
theorem After.ex {C : Ad} {H H2 : Hp} {A : HA} {h' : Rp02.House} {a : Rp02.Ans} {Q : VK} (k : After C H A h' a Q) (e : Ex H H2) : After C H2 A h' a Q := fun H' A' p h1 h2 h3 h4 h5 h6 => k H' A' p h1 h2 h3 ((fx_mono e).trans h4) h5 h6
theorem AfterT.ex {C : Ad} {H H2 : Hp} {A : HA} {h' : Rp02.House} {a : Rp02.Ans} {Q : VK} (k : AfterT C H A h' a Q) (e : Ex H H2) : AfterT C H2 A h' a Q := fun H' A' p h1 h2 h3 h4 h5 h6 h7 => k H' A' p h1 h2 h3 ((fx_mono e).trans h4) h5 h6 h7
end Mine
set_option Elab.async false
set_option linter.all false
set_option maxRecDepth 100000
set_option maxHeartbeats 4000000
namespace Mine
open PySem PySem.Spec PyProof.Rows L2 Evl
open Rp02 (Ask Reply Trace Area askNumbers replyNumbers)
section
variable {K : PySem.W.Frag} {σ : L2.St} {H H' : Hp} {D : Ends} {tz tu : TS}
/-- if call == c: it is; it is not -/
theorem q_is {i : Nat} {c : Int} (hi : σ[i]? = some (some (.int c))) (k : ∀ H1, Ex H H1 → tu { D with nx := tz D } σ H1) : tSeq (tIfS (tTest (tOp rEq (tVar i) (tC (.int c)))) tu tNext) tz D σ H :=
  q_when (b := true) (et_is (et_test (ev_op (ev_var hi) ev_c (rv_eq rfl))) (decide_eq_true rfl)) (fun _ H1 e1 => k H1 e1) (fun hb => by cases hb)
theorem q_isnt {i : Nat} {c d : Int} (hi : σ[i]? = some (some (.int d))) (h : d ≠ c) (k : ∀ H1, Ex H H1 → tz D σ H1) : tSeq (tIfS (tTest (tOp rEq (tVar i) (tC (.int c)))) tu tNext) tz D σ H :=
  q_when (b := false) (et_is (et_test (ev_op (ev_var hi) ev_c (rv_eq rfl))) (decide_eq_false fun z => h (V.int.inj z))) (fun hb => by cases hb) (fun _ H1 e1 => k H1 e1)
/-- return house.m(..) -/
theorem s_retM {ta : TE} {tg : TA} {a Cl dx : Addr} {fs : List (Str × V)} {m : Str} {sp : Sp} {E : XK} {vs : List V} (ha : Ev ta σ H (.ref a)) (ho : H a = some (.ins Cl dx fs)) (hm : fs.lookup m = none) (h : EvA tg σ H vs) (k : ∀ H1, Ex H H1 → sp (.ref a :: vs) H1 D.rt E) : tRet (tMeth Cl m sp [] E ta tg) D σ H :=
  ha H (Ex.refl H) _ fun H1 e1 => ⟨a, dx, fs, rfl, e1 _ _ ho, hm, h H1 e1 _ fun H2 e2 => by
    rw [List.append_nil]
    exact k H2 (e1.trans e2)⟩
end
theorem rows_of {H : Hp} {M : List Addr} : ∀ {ps : List Addr} {t : Trace}, RowsIn H M ps (t.map fun y => up (rowOf y)) → Paired (fun a (y : Ask × Reply) => H a = some (.lst (nV (rowOf y)))) ps t
  | _, [], h => by
    cases h
    exact .nil
  | _, y :: t, h => by
    cases h with
    | cons z r =>
      refine .cons ?_ (rows_of r)
      have := z.2
      rw [iV_up] at this
      exact this
theorem row_short {y : Ask × Reply} (h : (rowOf y).length ≤ 40) : shortR y.2 := by
  obtain ⟨q, r⟩ := y
  cases r with
  | those l =>
    show l.length ≤ 1000
    unfold rowOf at h
    rw [List.length_append] at h
    have : (tailN ((q, Reply.those l) : Ask × Reply).2).length = l.length := rfl
    omega
  | absent => trivial
  | holds c => trivial
theorem paired_mem {α β : Type} {R : α → β → Prop} {p : β → Prop} : ∀ {l : List α} {m : List β}, Paired R l m → (∀ y ∈ m, p y) → Paired (fun x y => R x y ∧ p y) l m
  | _, _, .nil, _ => .nil
  | _, _, .cons r t, h => .cons ⟨r, h _ List.mem_cons_self⟩ (paired_mem t fun y hy => h y (List.mem_cons_of_mem _ hy))
/-- what a new run is -/
theorem make_run {K : PySem.W.Frag} {C : Ad} {σ : L2.St} {H : Hp} {tn tm tq : TE} {pn pm : Addr} {ps : List Addr} {r : Raw} {M : List Addr} {Q : VK} (en : Ev tn σ H (.ref pn)) (em : Ev tm σ H (.ref pm)) (eq : EvL tq σ H (ps.map V.ref)) (hn : H pn = some (.lst (nV [r.id, r.job, r.machine, r.ended]))) (hm : H pm = some (.lst (nV r.made))) (hpm : pm ∉ M)
    (hP : Paired (fun p q => H p = some (.lst (nV (rowOf q))) ∧ (rowOf q).length ≤ 1000) ps r.trace) (hl : r.trace.length ≤ 1000) (hM : Tracked M H) (q : ∀ a H2, Ex H H2 → RunAt C (Fx M H2) a r → Q (.ref a) H2) : tMake C.Run (sp_Run_init K C) [] E0 (tCons tn (tCons tm (tCons tq tNil))) σ H Q := by
  refine en H (Ex.refl H) _ fun H1 e1 => em H1 e1 _ fun H2 e2 => eq H2 (e1.trans e2) _ fun pq H3 _ e3 h3 => ?_
  have x3 := (e1.trans e2).trans e3
  intro a dx na nd ne
  have up2 : ∀ {b : Addr} {o : HO}, H3 b = some o → upd (upd H3 dx (.own a)) a (.ins C.Run dx []) b = some o := fun {b o} h => by
    rw [upd_ne (ne_of_none h na), upd_ne (ne_of_none h nd)]
    exact h
  exact ⟨M, a, dx, pn, pm, pq, ps, r, rfl, ((hM.ex x3).put).put, (hM.ex x3).fresh na, hpm, upd_same, up2 (x3 _ _ hn), up2 (x3 _ _ hm), up2 h3, L2.Paired.mapP hP fun _ _ z => ⟨up2 (x3 _ _ z.1), z.2⟩, hl, fun H' hr b => ⟨rfl, q a H' (x3.trans (ex_made na nd b)) hr⟩⟩
section
variable {P : Program} {w : World} {K : PySem.W.Frag} {mg : Str → Option Value} {base : Heap} {C : Ad}
theorem ok_answer_call {f : Addr} {fd : FuncData} (F : Fun K "answer_call" "answer_call" s_answer_call f fd) (T : Txt K mg C) (G_House_begins : HasM P w K mg base 3 C.House "begins" ["self", "jobs"] (sp_House_begins K C)) (G_House_put : HasM P w K mg base 1 C.House "put" ["self", "file", "content"] (sp_House_put K C)) (G_House_drop : HasM P w K mg base 1 C.House "drop" ["self", "file"] (sp_House_drop K C)) (G_House_tell : HasM P w K mg base 6 C.House "tell" ["self", "run"] (sp_House_tell K C)) (G_Run : HasC P w K mg base 4 "Run" C.Run ["self", "numbers", "made", "questions"] (sp_Run_init K C)) (G_House_look : HasM P w K mg base 5 C.House "look" ["self", "job"] (sp_House_look K C)) (G_House_bring : HasM P w K mg base 5 C.House "bring" ["self", "job"] (sp_House_bring K C)) (G_House_nearest : HasM P w K mg base 6 C.House "nearest" ["self", "job"] (sp_House_nearest K C)) (G_House_plan : HasM P w K mg base 5 C.House "plan" ["self"] (sp_House_plan K C)) (G_House_distrust : HasM P w K mg base 4 C.House "distrust" ["self", "machine"] (sp_House_distrust K C)) (G_House_held : HasM P w K mg base 2 C.House "held" ["self"] (sp_House_held K C)) (G_House_files : HasM P w K mg base 1 C.House "files" ["self", "area"] (sp_House_files K C)) : FnOk P w K mg base CX0 7 f fd ["house", "call", "numbers", "lists"] (sp_answer_call K C) := by
  refine F.ok sc_answer_call (fun vs H Q E h => ?_) (fun cdv A outer s H vs Q E hr h => ⟨_, (pss_cons (ps_if (pt_cmpR op_eq (pv 1) (pe_globI rfl T.g_BEGINS) (nomark _)) (pss_one (ps_ret (pe_hasM G_House_begins (hr.mono (by decide)) (pv 0) (by exact (pa_cons (pe_ix (ix_listK (K := K) rfl) (pv 2) pe_int (fun _ _ => rfl)) pa_nil))))) pss_nil) (pss_cons (ps_if (pt_cmpR op_eq (pv 1) (pe_globI rfl T.g_PUT) (nomark _)) (pss_one (ps_ret (pe_hasM G_House_put (hr.mono (by decide)) (pv 0) (by exact (pa_cons (pe_ix (ix_listK (K := K) rfl) (pv 2) pe_int (fun _ _ => rfl)) (pa_cons (pe_ix (ix_listK (K := K) rfl) (pv 2) pe_int (fun _ _ => rfl)) pa_nil)))))) pss_nil) (pss_cons (ps_if (pt_cmpR op_eq (pv 1) (pe_globI rfl T.g_DROP) (nomark _)) (pss_one (ps_ret (pe_hasM G_House_drop (hr.mono (by decide)) (pv 0) (by exact (pa_cons (pe_ix (ix_listK (K := K) rfl) (pv 2) pe_int (fun _ _ => rfl)) pa_nil))))) pss_nil) (pss_cons (ps_if (pt_cmpR op_eq (pv 1) (pe_globI rfl T.g_TELL) (nomark _)) (pss_one (ps_ret (pe_hasM G_House_tell (hr.mono (by decide)) (pv 0) (by exact (pa_cons (pe_hasC G_Run (hr.mono (by decide)) rfl (by exact (pa_cons (pv 2) (pa_cons (pe_ix (ix_listK (K := K) rfl) (pv 3) pe_int (fun _ _ => rfl)) (pa_cons (pe_slice (sl_listK (K := K) rfl) (pv 3) (po_some pe_int) po_none) pa_nil))))) pa_nil))))) pss_nil) (pss_cons (ps_if (pt_cmpR op_eq (pv 1) (pe_globI rfl T.g_LOOK) (nomark _)) (pss_one (ps_ret (pe_hasM G_House_look (hr.mono (by decide)) (pv 0) (by exact (pa_cons (pe_ix (ix_listK (K := K) rfl) (pv 2) pe_int (fun _ _ => rfl)) pa_nil))))) pss_nil) (pss_cons (ps_if (pt_cmpR op_eq (pv 1) (pe_globI rfl T.g_BRING) (nomark _)) (pss_one (ps_ret (pe_hasM G_House_bring (hr.mono (by decide)) (pv 0) (by exact (pa_cons (pe_ix (ix_listK (K := K) rfl) (pv 2) pe_int (fun _ _ => rfl)) pa_nil))))) pss_nil) (pss_cons (ps_if (pt_cmpR op_eq (pv 1) (pe_globI rfl T.g_NEAREST) (nomark _)) (pss_one (ps_ret (pe_hasM G_House_nearest (hr.mono (by decide)) (pv 0) (by exact (pa_cons (pe_ix (ix_listK (K := K) rfl) (pv 2) pe_int (fun _ _ => rfl)) pa_nil))))) pss_nil) (pss_cons (ps_if (pt_cmpR op_eq (pv 1) (pe_globI rfl T.g_PLAN) (nomark _)) (pss_one (ps_ret (pe_hasM0 G_House_plan (hr.mono (by decide)) (pv 0)))) pss_nil) (pss_cons (ps_if (pt_cmpR op_eq (pv 1) (pe_globI rfl T.g_DISTRUST) (nomark _)) (pss_one (ps_ret (pe_hasM G_House_distrust (hr.mono (by decide)) (pv 0) (by exact (pa_cons (pe_ix (ix_listK (K := K) rfl) (pv 2) pe_int (fun _ _ => rfl)) pa_nil))))) pss_nil) (pss_cons (ps_if (pt_cmpR op_eq (pv 1) (pe_globI rfl T.g_HELD) (nomark _)) (pss_one (ps_ret (pe_hasM0 G_House_held (hr.mono (by decide)) (pv 0)))) pss_nil) (pss_cons (ps_if (pt_cmpR op_eq (pv 1) (pe_globI rfl T.g_FILES) (nomark _)) (pss_one (ps_ret (pe_hasM G_House_files (hr.mono (by decide)) (pv 0) (by exact (pa_cons (pe_ix (ix_listK (K := K) rfl) (pv 2) pe_int (fun _ _ => rfl)) pa_nil))))) pss_nil) (pss_one ps_never)))))))))))), ?_⟩)
  · obtain ⟨A, h, p, pn, pl, ns, rows, ps, rfl, _⟩ := h
    rfl
  · obtain ⟨A, h, p, pn, pl, ns, rows, ps, rfl, hA, hn, hl, hR, hask, hout, hT, k⟩ := h
    obtain ⟨c, hS, hc⟩ := shape_of hask
    have kT := after_of hc k
    have k := kT.after
    have hno : ∀ {m : Str}, (m == ("jobs" : Str)) = false → (m == ("areas" : Str)) = false → (m == ("told_runs" : Str)) = false → (m == ("held_runs" : Str)) = false → (m == ("distrusted" : Str)) = false → (fH h.jobs A.pa A.pt A.ph A.pd).lookup m = none := fun a b c d e => fH_no a b c d e
    cases hS with
    | begins n =>
      rw [iV_up] at hn
      refine q_is rfl fun H1 e1 => ?_
      exact s_retM (ev_var rfl) (e1 _ _ hA.ins) (hno (by decide +kernel) (by decide +kernel) (by decide +kernel) (by decide +kernel) (by decide +kernel)) (ea_cons (ev_ixN (i := 0) (n := n) (ev_var rfl) ev_c (e1 _ _ hn) rfl) ea_nil) fun H2 e2 => ⟨A, h, n, rfl, hA.mono (e1.trans e2), k.ex (e1.trans e2)⟩
    | put n c =>
      rw [iV_up] at hn
      refine q_isnt rfl (by decide) fun H0 e0 => q_is rfl fun H1 e1 => ?_
      have x1 := e0.trans e1
      exact s_retM (ev_var rfl) (x1 _ _ hA.ins) (hno (by decide +kernel) (by decide +kernel) (by decide +kernel) (by decide +kernel) (by decide +kernel)) (ea_cons (ev_ixN (i := 0) (n := n) (ev_var rfl) ev_c (x1 _ _ hn) rfl) (ea_cons (ev_ixN (i := 1) (n := c) (ev_var rfl) ev_c (x1 _ _ hn) rfl) ea_nil)) fun H2 e2 => ⟨A, h, n, c, rfl, hA.mono (x1.trans e2), k.ex (x1.trans e2)⟩
    | drop n =>
      rw [iV_up] at hn
      refine q_isnt rfl (by decide) fun H00 e00 => q_isnt rfl (by decide) fun H0 e0 => q_is rfl fun H1 e1 => ?_
      have x1 := (e00.trans e0).trans e1
      exact s_retM (ev_var rfl) (x1 _ _ hA.ins) (hno (by decide +kernel) (by decide +kernel) (by decide +kernel) (by decide +kernel) (by decide +kernel)) (ea_cons (ev_ixN (i := 0) (n := n) (ev_var rfl) ev_c (x1 _ _ hn) rfl) ea_nil) fun H2 e2 => ⟨A, h, n, rfl, hA.mono (x1.trans e2), k.ex (x1.trans e2)⟩
    | tell r hk hs hm14 hl14 =>
      rw [iV_up] at hn
      obtain ⟨pm, ps', rfl⟩ : ∃ pm ps', ps = pm :: ps' := by
        cases ps with
        | nil => cases hR
        | cons a b => exact ⟨a, b, rfl⟩
      have hpm : pm ∉ A.off ∧ H pm = some (.lst (nV r.made)) := by
        cases hR with
        | cons z _ =>
          rw [iV_up] at z
          exact z
      have hrows : Paired (fun a (y : Ask × Reply) => H a = some (.lst (nV (rowOf y)))) ps' r.trace := by
        cases hR with
        | cons _ z => exact rows_of z
      refine q_isnt rfl (by decide) fun H00 e00 => q_isnt rfl (by decide) fun H0 e0 => q_isnt rfl (by decide) fun H1 e1 => q_is rfl fun H2 e2 => ?_
      have x2 := ((e00.trans e0).trans e1).trans e2
      -- house.tell(Run(numbers, lists[0], lists[1:]))
      refine ⟨_, rfl, A.x, A.dx, _, rfl, x2 _ _ hA.ins, hno (by decide +kernel) (by decide +kernel) (by decide +kernel) (by decide +kernel) (by decide +kernel), ?_⟩
      refine make_run (r := r) (ps := ps') (M := A.off) (ev_var rfl) (ev_op (ev_var rfl) ev_c (rv_ixL (sq_of (x2 _ _ hl)) (atI_nat (j := 0) rfl))) (el_from (k := 1) rfl (ev_var rfl) ev_c (sq_of (x2 _ _ hl))) (x2 _ _ hn) (x2 _ _ hpm.2) hpm.1 (L2.Paired.mapP (paired_mem hrows fun y hy => Nat.le_trans (hs y hy) (by decide : 40 ≤ 1000)) fun _ _ z => ⟨x2 _ _ z.1, z.2⟩) (by omega) (hT.ex x2) fun a H3 e3 hrun => ?_
      · have x3 := x2.trans e3
        exact ⟨A, h, a, r, rfl, hA.mono x3, hrun, ⟨hk, fun y hy => row_short (hs y hy), by omega, by omega⟩, k.ex x3⟩
    | look n =>
      rw [iV_up] at hn
      refine q_isnt rfl (by decide) fun H00 e00 => q_isnt rfl (by decide) fun H0 e0 => q_isnt rfl (by decide) fun Ha ea => q_isnt rfl (by decide) fun Hb eb => q_is rfl fun H1 e1 => ?_
      have x1 := (((e00.trans e0).trans ea).trans eb).trans e1
      exact s_retM (ev_var rfl) (x1 _ _ hA.ins) (hno (by decide +kernel) (by decide +kernel) (by decide +kernel) (by decide +kernel) (by decide +kernel)) (ea_cons (ev_ixN (i := 0) (n := n) (ev_var rfl) ev_c (x1 _ _ hn) rfl) ea_nil) fun H2 e2 => ⟨A, h, n, rfl, hA.mono (x1.trans e2), k.ex (x1.trans e2)⟩
    | bring n =>
      rw [iV_up] at hn
      refine q_isnt rfl (by decide) fun H00 e00 => q_isnt rfl (by decide) fun H0 e0 => q_isnt rfl (by decide) fun Ha ea => q_isnt rfl (by decide) fun Hb eb => q_isnt rfl (by decide) fun Hc ec => q_is rfl fun H1 e1 => ?_
      have x1 := ((((e00.trans e0).trans ea).trans eb).trans ec).trans e1
      exact s_retM (ev_var rfl) (x1 _ _ hA.ins) (hno (by decide +kernel) (by decide +kernel) (by decide +kernel) (by decide +kernel) (by decide +kernel)) (ea_cons (ev_ixN (i := 0) (n := n) (ev_var rfl) ev_c (x1 _ _ hn) rfl) ea_nil) fun H2 e2 => ⟨A, h, n, rfl, hA.mono (x1.trans e2), k.ex (x1.trans e2)⟩
    | nearest n =>
      rw [iV_up] at hn
      refine q_isnt rfl (by decide) fun Hs0 es0 => q_isnt rfl (by decide) fun Hs1 es1 => q_isnt rfl (by decide) fun Hs2 es2 => q_isnt rfl (by decide) fun Hs3 es3 => q_isnt rfl (by decide) fun Hs4 es4 => q_isnt rfl (by decide) fun Hs5 es5 => q_is rfl fun H1 e1 => ?_
      have x1 := (((((es0.trans es1).trans es2).trans es3).trans es4).trans es5).trans e1
      exact s_retM (ev_var rfl) (x1 _ _ hA.ins) (hno (by decide +kernel) (by decide +kernel) (by decide +kernel) (by decide +kernel) (by decide +kernel)) (ea_cons (ev_ixN (i := 0) (n := n) (ev_var rfl) ev_c (x1 _ _ hn) rfl) ea_nil) fun H2 e2 => ⟨A, h, n, rfl, hA.mono (x1.trans e2), kT.ex (x1.trans e2)⟩
    | plan =>
      refine q_isnt rfl (by decide) fun Hs0 es0 => q_isnt rfl (by decide) fun Hs1 es1 => q_isnt rfl (by decide) fun Hs2 es2 => q_isnt rfl (by decide) fun Hs3 es3 => q_isnt rfl (by decide) fun Hs4 es4 => q_isnt rfl (by decide) fun Hs5 es5 => q_isnt rfl (by decide) fun Hs6 es6 => q_is rfl fun H1 e1 => ?_
      have x1 := ((((((es0.trans es1).trans es2).trans es3).trans es4).trans es5).trans es6).trans e1
      exact s_retM (ev_var rfl) (x1 _ _ hA.ins) (hno (by decide +kernel) (by decide +kernel) (by decide +kernel) (by decide +kernel) (by decide +kernel)) ea_nil fun H2 e2 => ⟨A, h, rfl, hA.mono (x1.trans e2), k.ex (x1.trans e2)⟩
    | distrust n =>
      rw [iV_up] at hn
      refine q_isnt rfl (by decide) fun Hs0 es0 => q_isnt rfl (by decide) fun Hs1 es1 => q_isnt rfl (by decide) fun Hs2 es2 => q_isnt rfl (by decide) fun Hs3 es3 => q_isnt rfl (by decide) fun Hs4 es4 => q_isnt rfl (by decide) fun Hs5 es5 => q_isnt rfl (by decide) fun Hs6 es6 => q_isnt rfl (by decide) fun Hs7 es7 => q_is rfl fun H1 e1 => ?_
      have x1 := (((((((es0.trans es1).trans es2).trans es3).trans es4).trans es5).trans es6).trans es7).trans e1
      exact s_retM (ev_var rfl) (x1 _ _ hA.ins) (hno (by decide +kernel) (by decide +kernel) (by decide +kernel) (by decide +kernel) (by decide +kernel)) (ea_cons (ev_ixN (i := 0) (n := n) (ev_var rfl) ev_c (x1 _ _ hn) rfl) ea_nil) fun H2 e2 => ⟨A, h, n, rfl, hA.mono (x1.trans e2), hout, k.ex (x1.trans e2)⟩
    | held =>
      refine q_isnt rfl (by decide) fun Hs0 es0 => q_isnt rfl (by decide) fun Hs1 es1 => q_isnt rfl (by decide) fun Hs2 es2 => q_isnt rfl (by decide) fun Hs3 es3 => q_isnt rfl (by decide) fun Hs4 es4 => q_isnt rfl (by decide) fun Hs5 es5 => q_isnt rfl (by decide) fun Hs6 es6 => q_isnt rfl (by decide) fun Hs7 es7 => q_isnt rfl (by decide) fun Hs8 es8 => q_is rfl fun H1 e1 => ?_
      have x1 := ((((((((es0.trans es1).trans es2).trans es3).trans es4).trans es5).trans es6).trans es7).trans es8).trans e1
      exact s_retM (ev_var rfl) (x1 _ _ hA.ins) (hno (by decide +kernel) (by decide +kernel) (by decide +kernel) (by decide +kernel) (by decide +kernel)) ea_nil fun H2 e2 => ⟨A, h, rfl, hA.mono (x1.trans e2), k.ex (x1.trans e2)⟩
    | files n =>
      rw [iV_up] at hn
      refine q_isnt rfl (by decide) fun Hs0 es0 => q_isnt rfl (by decide) fun Hs1 es1 => q_isnt rfl (by decide) fun Hs2 es2 => q_isnt rfl (by decide) fun Hs3 es3 => q_isnt rfl (by decide) fun Hs4 es4 => q_isnt rfl (by decide) fun Hs5 es5 => q_isnt rfl (by decide) fun Hs6 es6 => q_isnt rfl (by decide) fun Hs7 es7 => q_isnt rfl (by decide) fun Hs8 es8 => q_isnt rfl (by decide) fun Hs9 es9 => q_is rfl fun H1 e1 => ?_
      have x1 := (((((((((es0.trans es1).trans es2).trans es3).trans es4).trans es5).trans es6).trans es7).trans es8).trans es9).trans e1
      exact s_retM (ev_var rfl) (x1 _ _ hA.ins) (hno (by decide +kernel) (by decide +kernel) (by decide +kernel) (by decide +kernel) (by decide +kernel)) (ea_cons (ev_ixN (i := 0) (n := n) (ev_var rfl) ev_c (x1 _ _ hn) rfl) ea_nil) fun H2 e2 => ⟨A, h, n, rfl, hA.mono (x1.trans e2), k.ex (x1.trans e2)⟩
end
end Mine
set_option Elab.async false
set_option linter.all false
set_option maxRecDepth 100000
set_option maxHeartbeats 4000000
namespace Mine
open PySem PySem.Spec PyProof.Rows L2 Evl
open PySem.W (WData Codec OpenSpec Well WellAll ReadsW ReadsAllW)
open LamX (TabB)
/-! ### the end, with one table of code objects -/
mutual
theorem dw_mono {K : PySem.W.Frag} {H H' : Hp} (e : Ex H H') : ∀ (d : WData) (v : V), Dw K H v d → Dw K H' v d
  | .none, _, x => by
    cases x
    exact .non
  | .bool b, _, x => by
    cases x
    exact .bl b
  | .int i, _, x => by
    cases x
    exact .int i
  | .str s, _, x => by
    cases x
    exact .str s
  | .bytes b, _, x => by
    cases x
    exact .byt _
  | .list ds, _, x => by
    cases x with
    | lst hs ha => exact .lst (ex_l e hs) (dws_mono e ds _ ha)
  | .tuple ds, _, x => by
    cases x with
    | tup hs ha => exact .tup (ex_t e hs) (dws_mono e ds _ ha)
  | .float _, _, x => by cases x
  | .dict _, _, x => by cases x
  | .bytearray _, _, x => by cases x
  | .set _, _, x => by cases x
  | .frozenset _, _, x => by cases x
  | .obj _ _, _, x => by cases x
theorem dws_mono {K : PySem.W.Frag} {H H' : Hp} (e : Ex H H') : ∀ (ds : List WData) (vs : List V), DwAll K H vs ds → DwAll K H' vs ds
  | [], _, x => by
    cases x
    exact .nil
  | d :: ds, _, x => by
    cases x with
    | cons h1 h2 => exact .cons (dw_mono e d _ h1) (dws_mono e ds _ h2)
end
/-- the abstract heap at the entry: the arguments, frozen, and the table T -/
structure Begin (P : Program) (w : World) (K : PySem.W.Frag) (T : Addr) (h : Heap) (H : Hp) : Prop where
  ok : HOk P w H h
  tab : H T = some (.tbl #[])
  kinds : ∀ b, H b = none ∨ b = T ∨ ∃ o u, H b = some (.frz o u)
  others : ∀ b o, h.get? b = some o → b ≠ T → (∀ vs n, o.data ≠ .seq vs n) → H b = none
  written : ∀ b o, K.lookup b = some o → H b = none
/-- an empty table -/
abbrev NoCode : Obj := { cls := .none, data := .fields #[] }
theorem begin_at {P : Program} {w : World} {K : PySem.W.Frag} {h : Heap} {T : Addr} {vals : List Value} {ds : List WData} (KX : K.In h) (tab : h.get? T = some NoCode) (out : K.lookup T = none) (well : WellAll w.params h vals ds) (plain : plWs ds = true) (light : ∀ d ∈ ds, d.weight ≤ 1048576) :
    ∃ H, Begin P w K T h H ∧ DwAll K H (vals.map toV) ds ∧ Vals (vals.map toV) vals := by
  obtain ⟨area, inside, args⟩ := area_all ds vals well plain light
  have listed : ∀ b u, argH K h area b = some u → K.lookup b = none ∧ ∃ o vs n, h.get? b = some o ∧ o.data = .seq vs n := fun b u z => by
    obtain ⟨k, vs, -, -, (⟨e, -⟩ | ⟨e, -⟩)⟩ := argH_is args z
    all_goals exact ⟨k, _, vs.toArray, _, e, rfl⟩
  have apart : ∀ b o, h.get? b = some o → (∀ vs n, o.data ≠ .seq vs n) → argH K h area b = none := fun b o e no => by
    rcases z : argH K h area b with _ | u
    · rfl
    · obtain ⟨-, o', vs, n, e', d⟩ := listed b u z
      cases e.symm.trans e'
      exact absurd d (no vs n)
  have free : argH K h area T = none := apart T _ tab fun _ _ z => nomatch z
  have more : Ex (argH K h area) (upd (argH K h area) T (.tbl #[])) := Ex.new free
  refine ⟨upd (argH K h area) T (.tbl #[]), ⟨fun b u z => ?_, upd_same, fun b => ?_, fun b o e hb no => (upd_ne hb).trans (apart b o e no), fun b o e => ?_⟩, dws_mono more ds _ (dw_all KX args ds vals well plain inside), vals_toV inside⟩
  · rcases Decidable.em (b = T) with rfl | hb
    · cases upd_same.symm.trans z
      exact tab
    · exact ((argH_ok args) b u ((upd_ne hb).symm.trans z)).stay (fun _ _ _ y => y) (fun c => more c _) fun c ys => more c _
  · rcases Decidable.em (b = T) with hb | hb
    · exact .inr (.inl hb)
    · rw [upd_ne hb]
      exact (argH_only args b).imp id .inr
  · have hb : b ≠ T := fun y => nomatch (y ▸ e).symm.trans out
    rw [upd_ne hb]
    rcases z : argH K h area b with _ | u
    · rfl
    · exact nomatch e.symm.trans (listed b u z).1
section
variable {P : Program} {w : World} {K : PySem.W.Frag} {T c : Addr} {H : Hp} {s : Shared} {mg mb : Str → Option Value}
/-- what is no list and no table is seen below -/
theorem Begin.below (B : Begin P w K T s.heap H) (tab : s.heap.get? T = some NoCode) {b : Addr} {o : Obj} (e : s.heap.get? b = some o) (no : ∀ vs n, o.data ≠ .seq vs n) (full : o.data ≠ .fields #[]) : b ≠ T ∧ (hidT s.heap H).get? b = some o := by
  have hb : b ≠ T := fun y => full (by cases (y ▸ e).symm.trans tab; rfl)
  exact ⟨hb, hidT_get e (B.others b o e hb no)⟩
theorem Begin.ns (B : Begin P w K T s.heap H) (tab : s.heap.get? T = some NoCode) {b : Addr} {m : Str → Option Value} (z : s.heap.Ns b m) : (hidT s.heap H).Ns b m := by
  obtain ⟨o, es, ep, e, d, more⟩ := z
  exact ⟨o, es, ep, (B.below tab e (fun _ _ y => nomatch d.symm.trans y) fun y => nomatch d.symm.trans y).2, d, more⟩
theorem Begin.table (B : Begin P w K T s.heap H) (tab : s.heap.get? T = some NoCode) (code : PySem.W.CodeHd s.heap c T) (glob : s.heap.Ns mainGlobals mg) (bm : ∃ (m : Addr) (ob : Obj), mg "__builtins__" = some (.ref m) ∧ m ≠ builtinsNs ∧ s.heap.get? m = some ob ∧ ob.cls = .type "module" ∧ ob.dict = some builtinsNs ∧ ob.data = .plain) : TabB (hidT s.heap H) mg c T := by
  obtain ⟨og, eg, ng, atg, dg, -⟩ := id glob
  have g := B.below tab atg (fun _ _ y => nomatch dg.symm.trans y) fun y => nomatch dg.symm.trans y
  constructor
  · obtain ⟨o, us, f1, f2, f3, f4, f5, f6, f7, at_, q1, q2, q3, rest⟩ := code
    exact ⟨o, us, f1, f2, f3, f4, f5, f6, f7, (B.below tab at_ (fun _ _ y => nomatch q2.symm.trans y) fun y => by cases q2.symm.trans y; simp at q3).2, q1, q2, q3, rest⟩
  · obtain ⟨m, ob, p1, p2, at_, p4, p5, p6⟩ := bm
    have z := B.below tab at_ (fun _ _ y => nomatch p6.symm.trans y) fun y => nomatch p6.symm.trans y
    have far : m ≠ mainGlobals := fun y => by
      rw [y, atg] at at_
      cases at_
      exact nomatch dg.symm.trans p6
    exact ⟨m, ob, p1, p2, far, z.1, z.2, p4, p5, p6⟩
  · exact g.1
/-- behind the call: all stands but the table, which has grown -/
theorem Begin.after {G : Hp} {g : Heap} (B : Begin P w K T s.heap H) (tab : s.heap.get? T = some NoCode) (code : PySem.W.CodeHd s.heap c T) (un : Un (frs []) [] H G s.heap g) (ok : HOk P w G g) : (∀ b o, b ≠ T → s.heap.get? b = some o → g.get? b = some o) ∧ OldK s.heap g := by
  have stays : ∀ b o, b ≠ T → s.heap.get? b = some o → g.get? b = some o := fun b o hb e => by
    rcases B.kinds b with z | z | ⟨o', u, z⟩
    · exact un.keep b o e z List.not_mem_nil List.not_mem_nil
    · exact absurd z hb
    · cases e.symm.trans (B.ok b _ z).1
      exact (ok b _ (un.frzs b _ u z)).1
  obtain ⟨more, grown⟩ := un.tbls T _ B.tab
  have there : g.get? T = some { cls := .none, data := .fields (#[] ++ more) } := ok T _ grown
  refine ⟨stays, fun b o e => ?_, fun b o e => ?_⟩
  all_goals rcases Decidable.em (b = T) with rfl | hb
  · cases tab.symm.trans e
    exact .inr (.inl ⟨(code.tab tab).isCodeTable, rfl, #[], more, rfl, there⟩)
  · exact .inl (stays b o hb e)
  · exact ⟨_, there⟩
  · exact ⟨o, stays b o hb e⟩
end
/-- what is known of the row's def at the head's heap h -/
def SpecAt (r : OpenSpec) (w : World) (CX : CXT) (k : Nat) (ps : List Str) (mg : Str → Option Value) (fa : Addr) (h : Heap) : Prop :=
  ∃ K : PySem.W.Frag, K.In h ∧ ∃ (fd : FuncData) (c T : Addr) (sp : Sp), h.get? T = some NoCode ∧ K.lookup T = none ∧ PySem.W.CodeHd h c T ∧ (∀ (s : Shared) (us : List Value), us.length = ps.length → BindsTo s fd ⟨us, []⟩ (ps.zip us)) ∧
    (∀ (H : Hp) (xs : List V) (a : Codec.denoteAll r.args), H T = some (.tbl #[]) → Codec.withinAll r.args a = true → Codec.app r.args r.asked a = true → DwAll K H xs (Codec.encAll r.args a) → sp xs H (fun v H' => Dw K H' v (r.ret.enc (Codec.app r.args r.f a))) fun _ _ _ => False) ∧
    ∀ base : Heap, K.In base → base.Ns mainGlobals mg → TabB base mg c T → FnOk r.prog w K mg base CX k fa fd ps sp
theorem walk_specT {r : OpenSpec} {k : Nat} {q : Program} {loose : List Str} {XP : (Str → Option Value) → Heap → Prop} {YP : World → Heap → Prop} {d : DefRec} {CX : CXT} {ps : List Str} (said : r.wellSaid = true) (as_many : r.args.length = ps.length) (room : Room k callerA)
    (F : ∀ (w : World) (mg : Str → Option Value) (fa : Addr) (h : Heap), YP w h → h.Ns mainGlobals mg → mg d.name = some (.ref fa) → SpecAt r w CX k ps mg fa h) (quiet : ∀ (H : Hp) (s : Shared) (e : Value) (s' : Shared), CX [] H s (fun _ _ _ => False) e s' → False) : PySem.W.WalkOS q loose XP YP r d [] (fun f vs => PySem.call f vs) := by
  intro w s0 s mg mb ground Y fa _ _ _ _ _ _ _ _ _ _ named gens args vals _ pre light _ well _
  obtain ⟨a, decoded, asked⟩ := PySem.W.os_pre_some pre
  obtain ⟨same, within⟩ := Codec.encAll_of_decAll r.args args a decoded
  subst same
  obtain ⟨K, KX, fd, c, T, sp, tab, out, code, binds, sp_of, ok_of⟩ := F w mg fa _ Y ground.T.g named
  obtain ⟨H, B, told, rel⟩ := begin_at (P := r.prog) KX tab out well (pl_encAll _ _) (layable_weight light)
  have low : K.In (hidT s.heap H) := fun b o e => hidT_get (KX b o e) (B.written b o e)
  have globals := B.ns tab ground.T.g
  have mod : Mod K mg (hidT s.heap H) := ⟨low, globals, ⟨mb, B.ns tab ground.T.b, ground.T.builtins⟩, ground.T.nolimit.imp fun _ z => ⟨B.ns tab z.1, z.2⟩⟩
  have env : Env0 r.prog w K mg (hidT s.heap H) callerA [] s H := ⟨rfl, mod, fun _ _ => of_hidT, Nat.le_of_eq (hidT_size _ _), trivial, (fun _ z => nomatch z), B.ok, AllBare.of_eq gens⟩
  have count : vals.length = ps.length := (wellAll_len well).trans ((encAll_len _ _).trans as_many)
  refine PySem.W.enter_call (codeAny_mono ((ok_of _ low globals (B.table tab code ground.T.g ground.T.bmain)).run callerA [] s H ⟨vals, []⟩ vals _ _ _ room env (binds s vals count) rel (sp_of H _ a B.tab within asked told)) fun res s' z => ?_)
  match res, z with
  | .error e, z => exact (quiet H s e s' z).elim
  | .ok (.ret u), ⟨v, G, os, bare, un, ok, ru, answer⟩ =>
    obtain ⟨stays, old⟩ := B.after tab code un ok
    have written : K.In s'.heap := fun b o e => stays b o (fun y => nomatch (y ▸ e).symm.trans out) (KX b o e)
    obtain ⟨as, reads⟩ := Dw.reads (R := []) (cl := classAt s0.heap) ok written _ v u answer ru
    exact ⟨.inl ⟨u, _, as, rfl, fun _ => rfl, reads, (OpenSpec.post_iff said within _ _).mpr rfl, fun y => nomatch y⟩, old, os, bare⟩
end Mine
set_option Elab.async false
set_option linter.all false
set_option maxRecDepth 100000
set_option maxHeartbeats 8000000
namespace Mine
open PySem PySem.Spec PyProof.Rows L2 Evl
theorem fun_of {K : PySem.W.Frag} {x qual : Str} {st : Stmt} {f : Addr} {fd : FuncData} (D : FunD K x qual (defArgs st) (defBody st) (defScope st) [] [] f fd) : Fun K x qual st f fd := by
  obtain ⟨⟨oc, od, dV, kV, doc, pm, an, cdv, ct, osl, e, lk, hc, hd, _⟩, kp⟩ := D
  rcases hd with ⟨_, rfl⟩ | ⟨z, _⟩
  · exact ⟨⟨oc, od, kV, doc, pm, an, cdv, ct, osl, e, lk, hc⟩, kp⟩
  · exact absurd rfl z
theorem code_of {K : PySem.W.Frag} {x qual : Str} {st : Stmt} {p : He.Defn} {fd : FuncData} (F : Fun K x qual st (He.fAd K p) fd) : fd.code = .ref (He.cT K p).1 := by
  obtain ⟨oc, od, kV, doc, pm, an, cdv, ct, osl, rfl, lk, hc⟩ := F.ex
  obtain ⟨c, rfl⟩ := He.codeIn_ref hc
  have := He.codeOf_eq lk (c := c) rfl
  show Value.ref c = .ref (He.codeOf K p)
  rw [this]
theorem binds_all {K : PySem.W.Frag} {x qual : Str} {st : Stmt} {f : Addr} {fd : FuncData} {ps : List Str} (F : Fun K x qual st f fd)
    (h : ∀ (kV doc pm : Value) (an : Option Addr) (cdv ct : Value) (us : List Value), us.length = ps.length → bindArgs (PySem.W.fnOf x qual (defArgs st) (defBody st) (defScope st) .none kV doc pm an cdv ct) ⟨us, []⟩ = pure (ps.zip us)) : ∀ (s : Shared) (us : List Value), us.length = ps.length → BindsTo s fd ⟨us, []⟩ (ps.zip us) := by
  obtain ⟨oc, od, kV, doc, pm, an, cdv, ct, osl, rfl, lk, hc⟩ := F.ex
  exact fun s us hu => .of_eq (h kV doc pm an cdv ct us hu)
def fa0 : List He.Fa := [.glo "Step", .cls "Step", .mkr "Step", .noat "Step" "question", .noat "Step" "answer", .glo "Run", .cls "Run", .mkr "Run", .noat "Run" "number", .noat "Run" "job", .noat "Run" "machine", .noat "Run" "ended", .noat "Run" "made", .noat "Run" "trace", .glo "House", .cls "House", .mkr "House", .noat "House" "jobs", .noat "House" "areas", .noat "House" "told_runs", .noat "House" "held_runs", .noat "House" "distrusted", .glo "counted", .glo "rises", .glo "files_between", .glo "answer_now", .glo "wrong_places", .glo "is_made_right", .glo "made_files", .glo "is_trace_right", .glo "is_step_right", .glo "can_be_together", .glo "fits_listing", .glo "listings_agree", .glo "contradiction", .glo "are_same", .glo "is_about", .glo "fits_known", .glo "sure_run", .glo "make_plan"]
def fa1 : List He.Fa := [.meth "House" "make_new", .meth "House" "begins", .meth "House" "put", .meth "House" "drop", .meth "House" "tell", .meth "House" "refusal_of", .meth "House" "look", .meth "House" "bring", .meth "House" "nearest", .meth "House" "plan", .meth "House" "distrust", .meth "House" "held", .meth "House" "files", .meth "House" "held_numbers", .meth "House" "held_of", .meth "House" "found_run", .meth "House" "how_far", .glo "empty_areas", .glo "found_answer", .glo "judge", .glo "held_among", .glo "answer_call", .glo "numbers_at", .glo "lists_at", .glo "answers", .free "all", .free "enumerate", .free "len", .free "max", .free "min", .free "range", .free "sorted", .free "sum", .int "FILE" (0), .int "MOST_MADE" (6), .int "MOST_QUESTIONS" (12), .int "MUST_BE_RUN" (0), .int "SURE" (1), .int "HANGS" (2), .int "BEGINS" (0)]
def fa2 : List He.Fa := [.int "PUT" (1), .int "DROP" (2), .int "TELL" (3), .int "LOOK" (4), .int "BRING" (5), .int "NEAREST" (6), .int "PLAN" (7), .int "DISTRUST" (8), .int "HELD" (9), .int "FILES" (10), .int "MOST_JOBS" (6), .int "MOST_SOURCES" (30), .int "MOST_TOLD" (30), .int "WRONG_JOBS" (-1), .int "NO_SUCH_JOB" (-2), .int "NO_SUCH_AREA" (-2), .int "WRONG_JOB_OR_END" (-2), .int "NOT_TRUSTED" (-3), .int "NO_SUCH_SOURCE" (-4), .int "NUMBER_TAKEN" (-4), .int "DISTRUSTED_ALREADY" (-4), .int "WRONG_MADE" (-5), .int "WRONG_TRACE" (-6), .int "FULL" (-7), .int "NOT_FOUND" (-8), .int "NONE_HELD" (-8), .int "IS_HELD" (0), .int "IS_KNOWN" (1), .int "CONTRADICTS" (2)]
def fa : List He.Fa := fa0 ++ fa1 ++ fa2
def d_Step_init : He.DefD := ⟨("Step", some "__init__"), "__init__", "Step.__init__", defArgs s_Step_init, defBody s_Step_init, defScope s_Step_init, [], []⟩
def d_Run_init : He.DefD := ⟨("Run", some "__init__"), "__init__", "Run.__init__", defArgs s_Run_init, defBody s_Run_init, defScope s_Run_init, [], []⟩
def d_counted : He.DefD := ⟨("counted", none), "counted", "counted", defArgs s_counted, defBody s_counted, defScope s_counted, [], []⟩
def d_rises : He.DefD := ⟨("rises", none), "rises", "rises", defArgs s_rises, defBody s_rises, defScope s_rises, [], []⟩
def d_files_between : He.DefD := ⟨("files_between", none), "files_between", "files_between", defArgs s_files_between, defBody s_files_between, defScope s_files_between, [], []⟩
def d_answer_now : He.DefD := ⟨("answer_now", none), "answer_now", "answer_now", defArgs s_answer_now, defBody s_answer_now, defScope s_answer_now, [], []⟩
def d_wrong_places : He.DefD := ⟨("wrong_places", none), "wrong_places", "wrong_places", defArgs s_wrong_places, defBody s_wrong_places, defScope s_wrong_places, [], []⟩
def d_is_made_right : He.DefD := ⟨("is_made_right", none), "is_made_right", "is_made_right", defArgs s_is_made_right, defBody s_is_made_right, defScope s_is_made_right, [], []⟩
def d_made_files : He.DefD := ⟨("made_files", none), "made_files", "made_files", defArgs s_made_files, defBody s_made_files, defScope s_made_files, [], []⟩
def d_is_trace_right : He.DefD := ⟨("is_trace_right", none), "is_trace_right", "is_trace_right", defArgs s_is_trace_right, defBody s_is_trace_right, defScope s_is_trace_right, [], []⟩
def d_is_step_right : He.DefD := ⟨("is_step_right", none), "is_step_right", "is_step_right", defArgs s_is_step_right, defBody s_is_step_right, defScope s_is_step_right, [], []⟩
def d_can_be_together : He.DefD := ⟨("can_be_together", none), "can_be_together", "can_be_together", defArgs s_can_be_together, defBody s_can_be_together, defScope s_can_be_together, [], []⟩
def d_fits_listing : He.DefD := ⟨("fits_listing", none), "fits_listing", "fits_listing", defArgs s_fits_listing, defBody s_fits_listing, defScope s_fits_listing, [], []⟩
def d_listings_agree : He.DefD := ⟨("listings_agree", none), "listings_agree", "listings_agree", defArgs s_listings_agree, defBody s_listings_agree, defScope s_listings_agree, [], []⟩
def d_contradiction : He.DefD := ⟨("contradiction", none), "contradiction", "contradiction", defArgs s_contradiction, defBody s_contradiction, defScope s_contradiction, [], []⟩
def d_are_same : He.DefD := ⟨("are_same", none), "are_same", "are_same", defArgs s_are_same, defBody s_are_same, defScope s_are_same, [], []⟩
def d_is_about : He.DefD := ⟨("is_about", none), "is_about", "is_about", defArgs s_is_about, defBody s_is_about, defScope s_is_about, [], []⟩
def d_fits_known : He.DefD := ⟨("fits_known", none), "fits_known", "fits_known", defArgs s_fits_known, defBody s_fits_known, defScope s_fits_known, [], []⟩
def d_sure_run : He.DefD := ⟨("sure_run", none), "sure_run", "sure_run", defArgs s_sure_run, defBody s_sure_run, defScope s_sure_run, [], []⟩
def d_make_plan : He.DefD := ⟨("make_plan", none), "make_plan", "make_plan", defArgs s_make_plan, defBody s_make_plan, defScope s_make_plan, [], []⟩
def d_House_init : He.DefD := ⟨("House", some "__init__"), "__init__", "House.__init__", defArgs s_House_init, defBody s_House_init, defScope s_House_init, [], []⟩
def d_House_make_new : He.DefD := ⟨("House", some "make_new"), "make_new", "House.make_new", defArgs s_House_make_new, defBody s_House_make_new, defScope s_House_make_new, [], []⟩
def d_House_begins : He.DefD := ⟨("House", some "begins"), "begins", "House.begins", defArgs s_House_begins, defBody s_House_begins, defScope s_House_begins, [], []⟩
def d_House_put : He.DefD := ⟨("House", some "put"), "put", "House.put", defArgs s_House_put, defBody s_House_put, defScope s_House_put, [], []⟩
def d_House_drop : He.DefD := ⟨("House", some "drop"), "drop", "House.drop", defArgs s_House_drop, defBody s_House_drop, defScope s_House_drop, [], []⟩
def d_House_tell : He.DefD := ⟨("House", some "tell"), "tell", "House.tell", defArgs s_House_tell, defBody s_House_tell, defScope s_House_tell, [], []⟩
def d_House_refusal_of : He.DefD := ⟨("House", some "refusal_of"), "refusal_of", "House.refusal_of", defArgs s_House_refusal_of, defBody s_House_refusal_of, defScope s_House_refusal_of, [], []⟩
def d_House_look : He.DefD := ⟨("House", some "look"), "look", "House.look", defArgs s_House_look, defBody s_House_look, defScope s_House_look, [], []⟩
def d_House_bring : He.DefD := ⟨("House", some "bring"), "bring", "House.bring", defArgs s_House_bring, defBody s_House_bring, defScope s_House_bring, [], []⟩
def d_House_nearest : He.DefD := ⟨("House", some "nearest"), "nearest", "House.nearest", defArgs s_House_nearest, defBody s_House_nearest, defScope s_House_nearest, [], []⟩
def d_House_plan : He.DefD := ⟨("House", some "plan"), "plan", "House.plan", defArgs s_House_plan, defBody s_House_plan, defScope s_House_plan, [], []⟩
def d_House_distrust : He.DefD := ⟨("House", some "distrust"), "distrust", "House.distrust", defArgs s_House_distrust, defBody s_House_distrust, defScope s_House_distrust, [], []⟩
def d_House_held : He.DefD := ⟨("House", some "held"), "held", "House.held", defArgs s_House_held, defBody s_House_held, defScope s_House_held, [], []⟩
def d_House_files : He.DefD := ⟨("House", some "files"), "files", "House.files", defArgs s_House_files, defBody s_House_files, defScope s_House_files, [], []⟩
def d_House_held_numbers : He.DefD := ⟨("House", some "held_numbers"), "held_numbers", "House.held_numbers", defArgs s_House_held_numbers, defBody s_House_held_numbers, defScope s_House_held_numbers, [], []⟩
def d_House_held_of : He.DefD := ⟨("House", some "held_of"), "held_of", "House.held_of", defArgs s_House_held_of, defBody s_House_held_of, defScope s_House_held_of, [], []⟩
def d_House_found_run : He.DefD := ⟨("House", some "found_run"), "found_run", "House.found_run", defArgs s_House_found_run, defBody s_House_found_run, defScope s_House_found_run, [], []⟩
def d_House_how_far : He.DefD := ⟨("House", some "how_far"), "how_far", "House.how_far", defArgs s_House_how_far, defBody s_House_how_far, defScope s_House_how_far, [], []⟩
def d_empty_areas : He.DefD := ⟨("empty_areas", none), "empty_areas", "empty_areas", defArgs s_empty_areas, defBody s_empty_areas, defScope s_empty_areas, [], []⟩
def d_found_answer : He.DefD := ⟨("found_answer", none), "found_answer", "found_answer", defArgs s_found_answer, defBody s_found_answer, defScope s_found_answer, [], []⟩
def d_judge : He.DefD := ⟨("judge", none), "judge", "judge", defArgs s_judge, defBody s_judge, defScope s_judge, [], []⟩
def d_held_among : He.DefD := ⟨("held_among", none), "held_among", "held_among", defArgs s_held_among, defBody s_held_among, defScope s_held_among, [], []⟩
def d_answer_call : He.DefD := ⟨("answer_call", none), "answer_call", "answer_call", defArgs s_answer_call, defBody s_answer_call, defScope s_answer_call, [], []⟩
def d_numbers_at : He.DefD := ⟨("numbers_at", none), "numbers_at", "numbers_at", defArgs s_numbers_at, defBody s_numbers_at, defScope s_numbers_at, [], []⟩
def d_lists_at : He.DefD := ⟨("lists_at", none), "lists_at", "lists_at", defArgs s_lists_at, defBody s_lists_at, defScope s_lists_at, [], []⟩
def d_answers : He.DefD := ⟨("answers", none), "answers", "answers", defArgs s_answers, defBody s_answers, defScope s_answers, [], []⟩
def fn0 : List He.DefD := [d_Step_init, d_Run_init, d_counted, d_rises, d_files_between, d_answer_now, d_wrong_places, d_is_made_right, d_made_files, d_is_trace_right, d_is_step_right, d_can_be_together, d_fits_listing, d_listings_agree, d_contradiction, d_are_same, d_is_about, d_fits_known, d_sure_run, d_make_plan, d_House_init, d_House_make_new, d_House_begins, d_House_put, d_House_drop, d_House_tell, d_House_refusal_of, d_House_look, d_House_bring, d_House_nearest, d_House_plan, d_House_distrust, d_House_held, d_House_files, d_House_held_numbers, d_House_held_of, d_House_found_run, d_House_how_far, d_empty_areas, d_found_answer]
def fn1 : List He.DefD := [d_judge, d_held_among, d_answer_call, d_numbers_at, d_lists_at, d_answers]
def fn : List He.DefD := fn0 ++ fn1
abbrev lamAt : He.Defn := ("House", some "nearest")
def yes (_ : PySem.W.Frag) : Bool := true
abbrev hk : PySem.W.Hook := He.hookX 5 fa fn [] [lamAt] yes
theorem facts {P : Program} {w : World} {K : PySem.W.Frag} {h : Heap} {mg : Str → Option Value} {f0 : Addr} (X : K.In h) (G : h.Ns mainGlobals mg) (hf0 : mg "answers" = some (.ref f0)) (c : He.SaysD fa fn K) :
    ∃ fd : FuncData, (∀ (s : Shared) (us : List Value), us.length = (["calls"] : List Str).length → BindsTo s fd ⟨us, []⟩ ((["calls"] : List Str).zip us)) ∧ ∀ base : Heap, K.In base → base.Ns mainGlobals mg → LamX.TabB base mg (He.cT K lamAt).1 (He.cT K lamAt).2 → FnOk P w K mg base CX0 8 f0 fd ["calls"] (spAns K (He.cT K lamAt).2) := by
  have e := hf0.symm.trans (He.glo_ok X G (c.fact 64 (f := .glo "answers") rfl))
  cases e
  have T : Txt K mg (⟨He.ga K "Step", He.ga K "Run", He.ga K "House", (He.cT K lamAt).1, (He.cT K lamAt).2⟩ : Ad) := {
    cl_Step := He.cls_ok (c.fact 1 (f := .cls "Step") rfl)
    n_Step_question := He.noat_ok (c.fact 3 (f := .noat "Step" "question") rfl)
    n_Step_answer := He.noat_ok (c.fact 4 (f := .noat "Step" "answer") rfl)
    cl_Run := He.cls_ok (c.fact 6 (f := .cls "Run") rfl)
    n_Run_number := He.noat_ok (c.fact 8 (f := .noat "Run" "number") rfl)
    n_Run_job := He.noat_ok (c.fact 9 (f := .noat "Run" "job") rfl)
    n_Run_machine := He.noat_ok (c.fact 10 (f := .noat "Run" "machine") rfl)
    n_Run_ended := He.noat_ok (c.fact 11 (f := .noat "Run" "ended") rfl)
    n_Run_made := He.noat_ok (c.fact 12 (f := .noat "Run" "made") rfl)
    n_Run_trace := He.noat_ok (c.fact 13 (f := .noat "Run" "trace") rfl)
    cl_House := He.cls_ok (c.fact 15 (f := .cls "House") rfl)
    n_House_jobs := He.noat_ok (c.fact 17 (f := .noat "House" "jobs") rfl)
    n_House_areas := He.noat_ok (c.fact 18 (f := .noat "House" "areas") rfl)
    n_House_told_runs := He.noat_ok (c.fact 19 (f := .noat "House" "told_runs") rfl)
    n_House_held_runs := He.noat_ok (c.fact 20 (f := .noat "House" "held_runs") rfl)
    n_House_distrusted := He.noat_ok (c.fact 21 (f := .noat "House" "distrusted") rfl)
    b_all := He.free_ok X G (c.fact 65 (f := .free "all") rfl)
    b_enumerate := He.free_ok X G (c.fact 66 (f := .free "enumerate") rfl)
    b_len := He.free_ok X G (c.fact 67 (f := .free "len") rfl)
    b_max := He.free_ok X G (c.fact 68 (f := .free "max") rfl)
    b_min := He.free_ok X G (c.fact 69 (f := .free "min") rfl)
    b_range := He.free_ok X G (c.fact 70 (f := .free "range") rfl)
    b_sorted := He.free_ok X G (c.fact 71 (f := .free "sorted") rfl)
    b_sum := He.free_ok X G (c.fact 72 (f := .free "sum") rfl)
    g_FILE := He.int_ok X G (c.fact 73 (f := .int "FILE" (0)) rfl)
    g_MOST_MADE := He.int_ok X G (c.fact 74 (f := .int "MOST_MADE" (6)) rfl)
    g_MOST_QUESTIONS := He.int_ok X G (c.fact 75 (f := .int "MOST_QUESTIONS" (12)) rfl)
    g_MUST_BE_RUN := He.int_ok X G (c.fact 76 (f := .int "MUST_BE_RUN" (0)) rfl)
    g_SURE := He.int_ok X G (c.fact 77 (f := .int "SURE" (1)) rfl)
    g_HANGS := He.int_ok X G (c.fact 78 (f := .int "HANGS" (2)) rfl)
    g_BEGINS := He.int_ok X G (c.fact 79 (f := .int "BEGINS" (0)) rfl)
    g_PUT := He.int_ok X G (c.fact 80 (f := .int "PUT" (1)) rfl)
    g_DROP := He.int_ok X G (c.fact 81 (f := .int "DROP" (2)) rfl)
    g_TELL := He.int_ok X G (c.fact 82 (f := .int "TELL" (3)) rfl)
    g_LOOK := He.int_ok X G (c.fact 83 (f := .int "LOOK" (4)) rfl)
    g_BRING := He.int_ok X G (c.fact 84 (f := .int "BRING" (5)) rfl)
    g_NEAREST := He.int_ok X G (c.fact 85 (f := .int "NEAREST" (6)) rfl)
    g_PLAN := He.int_ok X G (c.fact 86 (f := .int "PLAN" (7)) rfl)
    g_DISTRUST := He.int_ok X G (c.fact 87 (f := .int "DISTRUST" (8)) rfl)
    g_HELD := He.int_ok X G (c.fact 88 (f := .int "HELD" (9)) rfl)
    g_FILES := He.int_ok X G (c.fact 89 (f := .int "FILES" (10)) rfl)
    g_MOST_JOBS := He.int_ok X G (c.fact 90 (f := .int "MOST_JOBS" (6)) rfl)
    g_MOST_SOURCES := He.int_ok X G (c.fact 91 (f := .int "MOST_SOURCES" (30)) rfl)
    g_MOST_TOLD := He.int_ok X G (c.fact 92 (f := .int "MOST_TOLD" (30)) rfl)
    g_WRONG_JOBS := He.int_ok X G (c.fact 93 (f := .int "WRONG_JOBS" (-1)) rfl)
    g_NO_SUCH_JOB := He.int_ok X G (c.fact 94 (f := .int "NO_SUCH_JOB" (-2)) rfl)
    g_NO_SUCH_AREA := He.int_ok X G (c.fact 95 (f := .int "NO_SUCH_AREA" (-2)) rfl)
    g_WRONG_JOB_OR_END := He.int_ok X G (c.fact 96 (f := .int "WRONG_JOB_OR_END" (-2)) rfl)
    g_NOT_TRUSTED := He.int_ok X G (c.fact 97 (f := .int "NOT_TRUSTED" (-3)) rfl)
    g_NO_SUCH_SOURCE := He.int_ok X G (c.fact 98 (f := .int "NO_SUCH_SOURCE" (-4)) rfl)
    g_NUMBER_TAKEN := He.int_ok X G (c.fact 99 (f := .int "NUMBER_TAKEN" (-4)) rfl)
    g_DISTRUSTED_ALREADY := He.int_ok X G (c.fact 100 (f := .int "DISTRUSTED_ALREADY" (-4)) rfl)
    g_WRONG_MADE := He.int_ok X G (c.fact 101 (f := .int "WRONG_MADE" (-5)) rfl)
    g_WRONG_TRACE := He.int_ok X G (c.fact 102 (f := .int "WRONG_TRACE" (-6)) rfl)
    g_FULL := He.int_ok X G (c.fact 103 (f := .int "FULL" (-7)) rfl)
    g_NOT_FOUND := He.int_ok X G (c.fact 104 (f := .int "NOT_FOUND" (-8)) rfl)
    g_NONE_HELD := He.int_ok X G (c.fact 105 (f := .int "NONE_HELD" (-8)) rfl)
    g_IS_HELD := He.int_ok X G (c.fact 106 (f := .int "IS_HELD" (0)) rfl)
    g_IS_KNOWN := He.int_ok X G (c.fact 107 (f := .int "IS_KNOWN" (1)) rfl)
    g_CONTRADICTS := He.int_ok X G (c.fact 108 (f := .int "CONTRADICTS" (2)) rfl) }
  obtain ⟨fd_Step_init, D_Step_init⟩ := c.def_ 0 (d := d_Step_init) rfl
  have F_Step_init : Fun K "__init__" "Step.__init__" s_Step_init (He.fAd K d_Step_init.at_) fd_Step_init := fun_of D_Step_init
  have B_Step_init := F_Step_init.binds (ps := ["self", "asked"]) fun _ _ _ _ _ _ us hl => match us, hl with | [_, _], _ => rfl
  obtain ⟨fd_Run_init, D_Run_init⟩ := c.def_ 1 (d := d_Run_init) rfl
  have F_Run_init : Fun K "__init__" "Run.__init__" s_Run_init (He.fAd K d_Run_init.at_) fd_Run_init := fun_of D_Run_init
  have B_Run_init := F_Run_init.binds (ps := ["self", "numbers", "made", "questions"]) fun _ _ _ _ _ _ us hl => match us, hl with | [_, _, _, _], _ => rfl
  obtain ⟨fd_counted, D_counted⟩ := c.def_ 2 (d := d_counted) rfl
  have F_counted : Fun K "counted" "counted" s_counted (He.fAd K d_counted.at_) fd_counted := fun_of D_counted
  have B_counted := F_counted.binds (ps := ["numbers"]) fun _ _ _ _ _ _ us hl => match us, hl with | [_], _ => rfl
  obtain ⟨fd_rises, D_rises⟩ := c.def_ 3 (d := d_rises) rfl
  have F_rises : Fun K "rises" "rises" s_rises (He.fAd K d_rises.at_) fd_rises := fun_of D_rises
  have B_rises := F_rises.binds (ps := ["numbers"]) fun _ _ _ _ _ _ us hl => match us, hl with | [_], _ => rfl
  obtain ⟨fd_files_between, D_files_between⟩ := c.def_ 4 (d := d_files_between) rfl
  have F_files_between : Fun K "files_between" "files_between" s_files_between (He.fAd K d_files_between.at_) fd_files_between := fun_of D_files_between
  have B_files_between := F_files_between.binds (ps := ["files", "first", "last"]) fun _ _ _ _ _ _ us hl => match us, hl with | [_, _, _], _ => rfl
  obtain ⟨fd_answer_now, D_answer_now⟩ := c.def_ 5 (d := d_answer_now) rfl
  have F_answer_now : Fun K "answer_now" "answer_now" s_answer_now (He.fAd K d_answer_now.at_) fd_answer_now := fun_of D_answer_now
  have B_answer_now := F_answer_now.binds (ps := ["areas", "question"]) fun _ _ _ _ _ _ us hl => match us, hl with | [_, _], _ => rfl
  obtain ⟨fd_wrong_places, D_wrong_places⟩ := c.def_ 6 (d := d_wrong_places) rfl
  have F_wrong_places : Fun K "wrong_places" "wrong_places" s_wrong_places (He.fAd K d_wrong_places.at_) fd_wrong_places := fun_of D_wrong_places
  have B_wrong_places := F_wrong_places.binds (ps := ["areas", "run"]) fun _ _ _ _ _ _ us hl => match us, hl with | [_, _], _ => rfl
  obtain ⟨fd_is_made_right, D_is_made_right⟩ := c.def_ 7 (d := d_is_made_right) rfl
  have F_is_made_right : Fun K "is_made_right" "is_made_right" s_is_made_right (He.fAd K d_is_made_right.at_) fd_is_made_right := fun_of D_is_made_right
  have B_is_made_right := F_is_made_right.binds (ps := ["made"]) fun _ _ _ _ _ _ us hl => match us, hl with | [_], _ => rfl
  obtain ⟨fd_made_files, D_made_files⟩ := c.def_ 8 (d := d_made_files) rfl
  have F_made_files : Fun K "made_files" "made_files" s_made_files (He.fAd K d_made_files.at_) fd_made_files := fun_of D_made_files
  have B_made_files := F_made_files.binds (ps := ["made"]) fun _ _ _ _ _ _ us hl => match us, hl with | [_], _ => rfl
  obtain ⟨fd_is_trace_right, D_is_trace_right⟩ := c.def_ 9 (d := d_is_trace_right) rfl
  have F_is_trace_right : Fun K "is_trace_right" "is_trace_right" s_is_trace_right (He.fAd K d_is_trace_right.at_) fd_is_trace_right := fun_of D_is_trace_right
  have B_is_trace_right := F_is_trace_right.binds (ps := ["job", "trace"]) fun _ _ _ _ _ _ us hl => match us, hl with | [_, _], _ => rfl
  obtain ⟨fd_is_step_right, D_is_step_right⟩ := c.def_ 10 (d := d_is_step_right) rfl
  have F_is_step_right : Fun K "is_step_right" "is_step_right" s_is_step_right (He.fAd K d_is_step_right.at_) fd_is_step_right := fun_of D_is_step_right
  have B_is_step_right := F_is_step_right.binds (ps := ["job", "step"]) fun _ _ _ _ _ _ us hl => match us, hl with | [_, _], _ => rfl
  obtain ⟨fd_can_be_together, D_can_be_together⟩ := c.def_ 11 (d := d_can_be_together) rfl
  have F_can_be_together : Fun K "can_be_together" "can_be_together" s_can_be_together (He.fAd K d_can_be_together.at_) fd_can_be_together := fun_of D_can_be_together
  have B_can_be_together := F_can_be_together.binds (ps := ["one", "other"]) fun _ _ _ _ _ _ us hl => match us, hl with | [_, _], _ => rfl
  obtain ⟨fd_fits_listing, D_fits_listing⟩ := c.def_ 12 (d := d_fits_listing) rfl
  have F_fits_listing : Fun K "fits_listing" "fits_listing" s_fits_listing (He.fAd K d_fits_listing.at_) fd_fits_listing := fun_of D_fits_listing
  have B_fits_listing := F_fits_listing.binds (ps := ["step", "listing"]) fun _ _ _ _ _ _ us hl => match us, hl with | [_, _], _ => rfl
  obtain ⟨fd_listings_agree, D_listings_agree⟩ := c.def_ 13 (d := d_listings_agree) rfl
  have F_listings_agree : Fun K "listings_agree" "listings_agree" s_listings_agree (He.fAd K d_listings_agree.at_) fd_listings_agree := fun_of D_listings_agree
  have B_listings_agree := F_listings_agree.binds (ps := ["one", "other"]) fun _ _ _ _ _ _ us hl => match us, hl with | [_, _], _ => rfl
  obtain ⟨fd_contradiction, D_contradiction⟩ := c.def_ 14 (d := d_contradiction) rfl
  have F_contradiction : Fun K "contradiction" "contradiction" s_contradiction (He.fAd K d_contradiction.at_) fd_contradiction := fun_of D_contradiction
  have B_contradiction := F_contradiction.binds (ps := ["one", "other"]) fun _ _ _ _ _ _ us hl => match us, hl with | [_, _], _ => rfl
  obtain ⟨fd_are_same, D_are_same⟩ := c.def_ 15 (d := d_are_same) rfl
  have F_are_same : Fun K "are_same" "are_same" s_are_same (He.fAd K d_are_same.at_) fd_are_same := fun_of D_are_same
  have B_are_same := F_are_same.binds (ps := ["one", "other"]) fun _ _ _ _ _ _ us hl => match us, hl with | [_, _], _ => rfl
  obtain ⟨fd_is_about, D_is_about⟩ := c.def_ 16 (d := d_is_about) rfl
  have F_is_about : Fun K "is_about" "is_about" s_is_about (He.fAd K d_is_about.at_) fd_is_about := fun_of D_is_about
  have B_is_about := F_is_about.binds (ps := ["known", "step"]) fun _ _ _ _ _ _ us hl => match us, hl with | [_, _], _ => rfl
  obtain ⟨fd_fits_known, D_fits_known⟩ := c.def_ 17 (d := d_fits_known) rfl
  have F_fits_known : Fun K "fits_known" "fits_known" s_fits_known (He.fAd K d_fits_known.at_) fd_fits_known := fun_of D_fits_known
  have B_fits_known := F_fits_known.binds (ps := ["known", "run"]) fun _ _ _ _ _ _ us hl => match us, hl with | [_, _], _ => rfl
  obtain ⟨fd_sure_run, D_sure_run⟩ := c.def_ 18 (d := d_sure_run) rfl
  have F_sure_run : Fun K "sure_run" "sure_run" s_sure_run (He.fAd K d_sure_run.at_) fd_sure_run := fun_of D_sure_run
  have B_sure_run := F_sure_run.binds (ps := ["known", "fitting_runs"]) fun _ _ _ _ _ _ us hl => match us, hl with | [_, _], _ => rfl
  obtain ⟨fd_make_plan, D_make_plan⟩ := c.def_ 19 (d := d_make_plan) rfl
  have F_make_plan : Fun K "make_plan" "make_plan" s_make_plan (He.fAd K d_make_plan.at_) fd_make_plan := fun_of D_make_plan
  have B_make_plan := F_make_plan.binds (ps := ["jobs", "sources", "held_runs"]) fun _ _ _ _ _ _ us hl => match us, hl with | [_, _, _], _ => rfl
  obtain ⟨fd_House_init, D_House_init⟩ := c.def_ 20 (d := d_House_init) rfl
  have F_House_init : Fun K "__init__" "House.__init__" s_House_init (He.fAd K d_House_init.at_) fd_House_init := fun_of D_House_init
  have B_House_init := F_House_init.binds (ps := ["self"]) fun _ _ _ _ _ _ us hl => match us, hl with | [_], _ => rfl
  obtain ⟨fd_House_make_new, D_House_make_new⟩ := c.def_ 21 (d := d_House_make_new) rfl
  have F_House_make_new : Fun K "make_new" "House.make_new" s_House_make_new (He.fAd K d_House_make_new.at_) fd_House_make_new := fun_of D_House_make_new
  have B_House_make_new := F_House_make_new.binds (ps := ["self", "jobs"]) fun _ _ _ _ _ _ us hl => match us, hl with | [_, _], _ => rfl
  obtain ⟨fd_House_begins, D_House_begins⟩ := c.def_ 22 (d := d_House_begins) rfl
  have F_House_begins : Fun K "begins" "House.begins" s_House_begins (He.fAd K d_House_begins.at_) fd_House_begins := fun_of D_House_begins
  have B_House_begins := F_House_begins.binds (ps := ["self", "jobs"]) fun _ _ _ _ _ _ us hl => match us, hl with | [_, _], _ => rfl
  obtain ⟨fd_House_put, D_House_put⟩ := c.def_ 23 (d := d_House_put) rfl
  have F_House_put : Fun K "put" "House.put" s_House_put (He.fAd K d_House_put.at_) fd_House_put := fun_of D_House_put
  have B_House_put := F_House_put.binds (ps := ["self", "file", "content"]) fun _ _ _ _ _ _ us hl => match us, hl with | [_, _, _], _ => rfl
  obtain ⟨fd_House_drop, D_House_drop⟩ := c.def_ 24 (d := d_House_drop) rfl
  have F_House_drop : Fun K "drop" "House.drop" s_House_drop (He.fAd K d_House_drop.at_) fd_House_drop := fun_of D_House_drop
  have B_House_drop := F_House_drop.binds (ps := ["self", "file"]) fun _ _ _ _ _ _ us hl => match us, hl with | [_, _], _ => rfl
  obtain ⟨fd_House_tell, D_House_tell⟩ := c.def_ 25 (d := d_House_tell) rfl
  have F_House_tell : Fun K "tell" "House.tell" s_House_tell (He.fAd K d_House_tell.at_) fd_House_tell := fun_of D_House_tell
  have B_House_tell := F_House_tell.binds (ps := ["self", "run"]) fun _ _ _ _ _ _ us hl => match us, hl with | [_, _], _ => rfl
  obtain ⟨fd_House_refusal_of, D_House_refusal_of⟩ := c.def_ 26 (d := d_House_refusal_of) rfl
  have F_House_refusal_of : Fun K "refusal_of" "House.refusal_of" s_House_refusal_of (He.fAd K d_House_refusal_of.at_) fd_House_refusal_of := fun_of D_House_refusal_of
  have B_House_refusal_of := F_House_refusal_of.binds (ps := ["self", "run"]) fun _ _ _ _ _ _ us hl => match us, hl with | [_, _], _ => rfl
  obtain ⟨fd_House_look, D_House_look⟩ := c.def_ 27 (d := d_House_look) rfl
  have F_House_look : Fun K "look" "House.look" s_House_look (He.fAd K d_House_look.at_) fd_House_look := fun_of D_House_look
  have B_House_look := F_House_look.binds (ps := ["self", "job"]) fun _ _ _ _ _ _ us hl => match us, hl with | [_, _], _ => rfl
  obtain ⟨fd_House_bring, D_House_bring⟩ := c.def_ 28 (d := d_House_bring) rfl
  have F_House_bring : Fun K "bring" "House.bring" s_House_bring (He.fAd K d_House_bring.at_) fd_House_bring := fun_of D_House_bring
  have B_House_bring := F_House_bring.binds (ps := ["self", "job"]) fun _ _ _ _ _ _ us hl => match us, hl with | [_, _], _ => rfl
  obtain ⟨fd_House_nearest, D_House_nearest⟩ := c.def_ 29 (d := d_House_nearest) rfl
  have F_House_nearest : Fun K "nearest" "House.nearest" s_House_nearest (He.fAd K d_House_nearest.at_) fd_House_nearest := fun_of D_House_nearest
  have B_House_nearest := F_House_nearest.binds (ps := ["self", "job"]) fun _ _ _ _ _ _ us hl => match us, hl with | [_, _], _ => rfl
  obtain ⟨fd_House_plan, D_House_plan⟩ := c.def_ 30 (d := d_House_plan) rfl
  have F_House_plan : Fun K "plan" "House.plan" s_House_plan (He.fAd K d_House_plan.at_) fd_House_plan := fun_of D_House_plan
  have B_House_plan := F_House_plan.binds (ps := ["self"]) fun _ _ _ _ _ _ us hl => match us, hl with | [_], _ => rfl
  obtain ⟨fd_House_distrust, D_House_distrust⟩ := c.def_ 31 (d := d_House_distrust) rfl
  have F_House_distrust : Fun K "distrust" "House.distrust" s_House_distrust (He.fAd K d_House_distrust.at_) fd_House_distrust := fun_of D_House_distrust
  have B_House_distrust := F_House_distrust.binds (ps := ["self", "machine"]) fun _ _ _ _ _ _ us hl => match us, hl with | [_, _], _ => rfl
  obtain ⟨fd_House_held, D_House_held⟩ := c.def_ 32 (d := d_House_held) rfl
  have F_House_held : Fun K "held" "House.held" s_House_held (He.fAd K d_House_held.at_) fd_House_held := fun_of D_House_held
  have B_House_held := F_House_held.binds (ps := ["self"]) fun _ _ _ _ _ _ us hl => match us, hl with | [_], _ => rfl
  obtain ⟨fd_House_files, D_House_files⟩ := c.def_ 33 (d := d_House_files) rfl
  have F_House_files : Fun K "files" "House.files" s_House_files (He.fAd K d_House_files.at_) fd_House_files := fun_of D_House_files
  have B_House_files := F_House_files.binds (ps := ["self", "area"]) fun _ _ _ _ _ _ us hl => match us, hl with | [_, _], _ => rfl
  obtain ⟨fd_House_held_numbers, D_House_held_numbers⟩ := c.def_ 34 (d := d_House_held_numbers) rfl
  have F_House_held_numbers : Fun K "held_numbers" "House.held_numbers" s_House_held_numbers (He.fAd K d_House_held_numbers.at_) fd_House_held_numbers := fun_of D_House_held_numbers
  have B_House_held_numbers := F_House_held_numbers.binds (ps := ["self"]) fun _ _ _ _ _ _ us hl => match us, hl with | [_], _ => rfl
  obtain ⟨fd_House_held_of, D_House_held_of⟩ := c.def_ 35 (d := d_House_held_of) rfl
  have F_House_held_of : Fun K "held_of" "House.held_of" s_House_held_of (He.fAd K d_House_held_of.at_) fd_House_held_of := fun_of D_House_held_of
  have B_House_held_of := F_House_held_of.binds (ps := ["self", "job"]) fun _ _ _ _ _ _ us hl => match us, hl with | [_, _], _ => rfl
  obtain ⟨fd_House_found_run, D_House_found_run⟩ := c.def_ 36 (d := d_House_found_run) rfl
  have F_House_found_run : Fun K "found_run" "House.found_run" s_House_found_run (He.fAd K d_House_found_run.at_) fd_House_found_run := fun_of D_House_found_run
  have B_House_found_run := F_House_found_run.binds (ps := ["self", "job"]) fun _ _ _ _ _ _ us hl => match us, hl with | [_, _], _ => rfl
  obtain ⟨fd_House_how_far, D_House_how_far⟩ := c.def_ 37 (d := d_House_how_far) rfl
  have F_House_how_far : Fun K "how_far" "House.how_far" s_House_how_far (He.fAd K d_House_how_far.at_) fd_House_how_far := fun_of D_House_how_far
  have B_House_how_far := F_House_how_far.binds (ps := ["self", "job"]) fun _ _ _ _ _ _ us hl => match us, hl with | [_, _], _ => rfl
  obtain ⟨fd_empty_areas, D_empty_areas⟩ := c.def_ 38 (d := d_empty_areas) rfl
  have F_empty_areas : Fun K "empty_areas" "empty_areas" s_empty_areas (He.fAd K d_empty_areas.at_) fd_empty_areas := fun_of D_empty_areas
  have B_empty_areas := F_empty_areas.binds (ps := ["jobs"]) fun _ _ _ _ _ _ us hl => match us, hl with | [_], _ => rfl
  obtain ⟨fd_found_answer, D_found_answer⟩ := c.def_ 39 (d := d_found_answer) rfl
  have F_found_answer : Fun K "found_answer" "found_answer" s_found_answer (He.fAd K d_found_answer.at_) fd_found_answer := fun_of D_found_answer
  have B_found_answer := F_found_answer.binds (ps := ["run"]) fun _ _ _ _ _ _ us hl => match us, hl with | [_], _ => rfl
  obtain ⟨fd_judge, D_judge⟩ := c.def_ 40 (d := d_judge) rfl
  have F_judge : Fun K "judge" "judge" s_judge (He.fAd K d_judge.at_) fd_judge := fun_of D_judge
  have B_judge := F_judge.binds (ps := ["held_runs", "run"]) fun _ _ _ _ _ _ us hl => match us, hl with | [_, _], _ => rfl
  obtain ⟨fd_held_among, D_held_among⟩ := c.def_ 41 (d := d_held_among) rfl
  have F_held_among : Fun K "held_among" "held_among" s_held_among (He.fAd K d_held_among.at_) fd_held_among := fun_of D_held_among
  have B_held_among := F_held_among.binds (ps := ["told_runs"]) fun _ _ _ _ _ _ us hl => match us, hl with | [_], _ => rfl
  obtain ⟨fd_answer_call, D_answer_call⟩ := c.def_ 42 (d := d_answer_call) rfl
  have F_answer_call : Fun K "answer_call" "answer_call" s_answer_call (He.fAd K d_answer_call.at_) fd_answer_call := fun_of D_answer_call
  have B_answer_call := F_answer_call.binds (ps := ["house", "call", "numbers", "lists"]) fun _ _ _ _ _ _ us hl => match us, hl with | [_, _, _, _], _ => rfl
  obtain ⟨fd_numbers_at, D_numbers_at⟩ := c.def_ 43 (d := d_numbers_at) rfl
  have F_numbers_at : Fun K "numbers_at" "numbers_at" s_numbers_at (He.fAd K d_numbers_at.at_) fd_numbers_at := fun_of D_numbers_at
  have B_numbers_at := F_numbers_at.binds (ps := ["calls", "at"]) fun _ _ _ _ _ _ us hl => match us, hl with | [_, _], _ => rfl
  obtain ⟨fd_lists_at, D_lists_at⟩ := c.def_ 44 (d := d_lists_at) rfl
  have F_lists_at : Fun K "lists_at" "lists_at" s_lists_at (He.fAd K d_lists_at.at_) fd_lists_at := fun_of D_lists_at
  have B_lists_at := F_lists_at.binds (ps := ["calls", "at"]) fun _ _ _ _ _ _ us hl => match us, hl with | [_, _], _ => rfl
  obtain ⟨fd_answers, D_answers⟩ := c.def_ 45 (d := d_answers) rfl
  have F_answers : Fun K "answers" "answers" s_answers (He.fAd K d_answers.at_) fd_answers := fun_of D_answers
  have B_answers := F_answers.binds (ps := ["calls"]) fun _ _ _ _ _ _ us hl => match us, hl with | [_], _ => rfl
  have hcd : fd_House_nearest.code = .ref (He.cT K lamAt).1 := code_of F_House_nearest
  refine ⟨fd_answers, binds_all F_answers (fun _ _ _ _ _ _ us hl => match us, hl with | [_], _ => rfl), fun base _ _ TB => ?_⟩
  have G_counted : Has P w K mg base 1 "counted" ["numbers"] (sp_counted K (⟨He.ga K "Step", He.ga K "Run", He.ga K "House", (He.cT K lamAt).1, (He.cT K lamAt).2⟩ : Ad)) := ⟨_, _, ok_counted F_counted T, He.glo_ok X G (c.fact 22 (f := .glo "counted") rfl), F_counted.kp, B_counted⟩
  have G_rises : Has P w K mg base 1 "rises" ["numbers"] (sp_rises K (⟨He.ga K "Step", He.ga K "Run", He.ga K "House", (He.cT K lamAt).1, (He.cT K lamAt).2⟩ : Ad)) := ⟨_, _, ok_rises F_rises T, He.glo_ok X G (c.fact 23 (f := .glo "rises") rfl), F_rises.kp, B_rises⟩
  have G_files_between : Has P w K mg base 1 "files_between" ["files", "first", "last"] (sp_files_between K (⟨He.ga K "Step", He.ga K "Run", He.ga K "House", (He.cT K lamAt).1, (He.cT K lamAt).2⟩ : Ad)) := ⟨_, _, ok_files_between F_files_between T, He.glo_ok X G (c.fact 24 (f := .glo "files_between") rfl), F_files_between.kp, B_files_between⟩
  have G_made_files : Has P w K mg base 1 "made_files" ["made"] (sp_made_files K (⟨He.ga K "Step", He.ga K "Run", He.ga K "House", (He.cT K lamAt).1, (He.cT K lamAt).2⟩ : Ad)) := ⟨_, _, ok_made_files F_made_files T, He.glo_ok X G (c.fact 28 (f := .glo "made_files") rfl), F_made_files.kp, B_made_files⟩
  have G_fits_listing : Has P w K mg base 1 "fits_listing" ["step", "listing"] (sp_fits_listing K (⟨He.ga K "Step", He.ga K "Run", He.ga K "House", (He.cT K lamAt).1, (He.cT K lamAt).2⟩ : Ad)) := ⟨_, _, ok_fits_listing F_fits_listing T, He.glo_ok X G (c.fact 32 (f := .glo "fits_listing") rfl), F_fits_listing.kp, B_fits_listing⟩
  have G_contradiction : Has P w K mg base 1 "contradiction" ["one", "other"] (sp_contradiction K (⟨He.ga K "Step", He.ga K "Run", He.ga K "House", (He.cT K lamAt).1, (He.cT K lamAt).2⟩ : Ad)) := ⟨_, _, ok_contradiction F_contradiction T, He.glo_ok X G (c.fact 34 (f := .glo "contradiction") rfl), F_contradiction.kp, B_contradiction⟩
  have G_are_same : Has P w K mg base 1 "are_same" ["one", "other"] (sp_are_same K (⟨He.ga K "Step", He.ga K "Run", He.ga K "House", (He.cT K lamAt).1, (He.cT K lamAt).2⟩ : Ad)) := ⟨_, _, ok_are_same F_are_same T, He.glo_ok X G (c.fact 35 (f := .glo "are_same") rfl), F_are_same.kp, B_are_same⟩
  have G_is_about : Has P w K mg base 1 "is_about" ["known", "step"] (sp_is_about K (⟨He.ga K "Step", He.ga K "Run", He.ga K "House", (He.cT K lamAt).1, (He.cT K lamAt).2⟩ : Ad)) := ⟨_, _, ok_is_about F_is_about T, He.glo_ok X G (c.fact 36 (f := .glo "is_about") rfl), F_is_about.kp, B_is_about⟩
  have G_House_put : HasM P w K mg base 1 (He.ga K "House") "put" ["self", "file", "content"] (sp_House_put K (⟨He.ga K "Step", He.ga K "Run", He.ga K "House", (He.cT K lamAt).1, (He.cT K lamAt).2⟩ : Ad)) := ⟨⟨_, _, ok_House_put F_House_put T, He.meth_ok (c.fact 42 (f := .meth "House" "put") rfl), B_House_put⟩, T.cl_House⟩
  have G_House_drop : HasM P w K mg base 1 (He.ga K "House") "drop" ["self", "file"] (sp_House_drop K (⟨He.ga K "Step", He.ga K "Run", He.ga K "House", (He.cT K lamAt).1, (He.cT K lamAt).2⟩ : Ad)) := ⟨⟨_, _, ok_House_drop F_House_drop T, He.meth_ok (c.fact 43 (f := .meth "House" "drop") rfl), B_House_drop⟩, T.cl_House⟩
  have G_House_files : HasM P w K mg base 1 (He.ga K "House") "files" ["self", "area"] (sp_House_files K (⟨He.ga K "Step", He.ga K "Run", He.ga K "House", (He.cT K lamAt).1, (He.cT K lamAt).2⟩ : Ad)) := ⟨⟨_, _, ok_House_files F_House_files T, He.meth_ok (c.fact 52 (f := .meth "House" "files") rfl), B_House_files⟩, T.cl_House⟩
  have G_House_held_numbers : HasM P w K mg base 1 (He.ga K "House") "held_numbers" ["self"] (sp_House_held_numbers K (⟨He.ga K "Step", He.ga K "Run", He.ga K "House", (He.cT K lamAt).1, (He.cT K lamAt).2⟩ : Ad)) := ⟨⟨_, _, ok_House_held_numbers F_House_held_numbers T, He.meth_ok (c.fact 53 (f := .meth "House" "held_numbers") rfl), B_House_held_numbers⟩, T.cl_House⟩
  have G_House_held_of : HasM P w K mg base 1 (He.ga K "House") "held_of" ["self", "job"] (sp_House_held_of K (⟨He.ga K "Step", He.ga K "Run", He.ga K "House", (He.cT K lamAt).1, (He.cT K lamAt).2⟩ : Ad)) := ⟨⟨_, _, ok_House_held_of F_House_held_of T, He.meth_ok (c.fact 54 (f := .meth "House" "held_of") rfl), B_House_held_of⟩, T.cl_House⟩
  have G_empty_areas : Has P w K mg base 1 "empty_areas" ["jobs"] (sp_empty_areas K (⟨He.ga K "Step", He.ga K "Run", He.ga K "House", (He.cT K lamAt).1, (He.cT K lamAt).2⟩ : Ad)) := ⟨_, _, ok_empty_areas F_empty_areas T, He.glo_ok X G (c.fact 57 (f := .glo "empty_areas") rfl), F_empty_areas.kp, B_empty_areas⟩
  have G_found_answer : Has P w K mg base 1 "found_answer" ["run"] (sp_found_answer K (⟨He.ga K "Step", He.ga K "Run", He.ga K "House", (He.cT K lamAt).1, (He.cT K lamAt).2⟩ : Ad)) := ⟨_, _, ok_found_answer F_found_answer T, He.glo_ok X G (c.fact 58 (f := .glo "found_answer") rfl), F_found_answer.kp, B_found_answer⟩
  have G_numbers_at : Has P w K mg base 1 "numbers_at" ["calls", "at"] (sp_numbers_at K (⟨He.ga K "Step", He.ga K "Run", He.ga K "House", (He.cT K lamAt).1, (He.cT K lamAt).2⟩ : Ad)) := ⟨_, _, ok_numbers_at F_numbers_at T, He.glo_ok X G (c.fact 62 (f := .glo "numbers_at") rfl), F_numbers_at.kp, B_numbers_at⟩
  have G_Step : HasC P w K mg base 2 "Step" (He.ga K "Step") ["self", "asked"] (sp_Step_init K (⟨He.ga K "Step", He.ga K "Run", He.ga K "House", (He.cT K lamAt).1, (He.cT K lamAt).2⟩ : Ad)) := ⟨_, _, ok_Step_init F_Step_init T G_counted, He.mkr_ok (c.fact 2 (f := .mkr "Step") rfl), He.glo_ok X G (c.fact 0 (f := .glo "Step") rfl), B_Step_init⟩
  have G_answer_now : Has P w K mg base 2 "answer_now" ["areas", "question"] (sp_answer_now K (⟨He.ga K "Step", He.ga K "Run", He.ga K "House", (He.cT K lamAt).1, (He.cT K lamAt).2⟩ : Ad)) := ⟨_, _, ok_answer_now F_answer_now T G_counted G_files_between, He.glo_ok X G (c.fact 25 (f := .glo "answer_now") rfl), F_answer_now.kp, B_answer_now⟩
  have G_is_made_right : Has P w K mg base 2 "is_made_right" ["made"] (sp_is_made_right K (⟨He.ga K "Step", He.ga K "Run", He.ga K "House", (He.cT K lamAt).1, (He.cT K lamAt).2⟩ : Ad)) := ⟨_, _, ok_is_made_right F_is_made_right T G_rises, He.glo_ok X G (c.fact 27 (f := .glo "is_made_right") rfl), F_is_made_right.kp, B_is_made_right⟩
  have G_is_step_right : Has P w K mg base 2 "is_step_right" ["job", "step"] (sp_is_step_right K (⟨He.ga K "Step", He.ga K "Run", He.ga K "House", (He.cT K lamAt).1, (He.cT K lamAt).2⟩ : Ad)) := ⟨_, _, ok_is_step_right F_is_step_right T G_rises G_files_between, He.glo_ok X G (c.fact 30 (f := .glo "is_step_right") rfl), F_is_step_right.kp, B_is_step_right⟩
  have G_listings_agree : Has P w K mg base 2 "listings_agree" ["one", "other"] (sp_listings_agree K (⟨He.ga K "Step", He.ga K "Run", He.ga K "House", (He.cT K lamAt).1, (He.cT K lamAt).2⟩ : Ad)) := ⟨_, _, ok_listings_agree F_listings_agree T G_files_between, He.glo_ok X G (c.fact 33 (f := .glo "listings_agree") rfl), F_listings_agree.kp, B_listings_agree⟩
  have G_sure_run : Has P w K mg base 2 "sure_run" ["known", "fitting_runs"] (sp_sure_run K (⟨He.ga K "Step", He.ga K "Run", He.ga K "House", (He.cT K lamAt).1, (He.cT K lamAt).2⟩ : Ad)) := ⟨_, _, ok_sure_run F_sure_run T G_is_about, He.glo_ok X G (c.fact 38 (f := .glo "sure_run") rfl), F_sure_run.kp, B_sure_run⟩
  have G_House_make_new : HasM P w K mg base 2 (He.ga K "House") "make_new" ["self", "jobs"] (sp_House_make_new K (⟨He.ga K "Step", He.ga K "Run", He.ga K "House", (He.cT K lamAt).1, (He.cT K lamAt).2⟩ : Ad)) := ⟨⟨_, _, ok_House_make_new F_House_make_new T G_empty_areas, He.meth_ok (c.fact 40 (f := .meth "House" "make_new") rfl), B_House_make_new⟩, T.cl_House⟩
  have G_House_held : HasM P w K mg base 2 (He.ga K "House") "held" ["self"] (sp_House_held K (⟨He.ga K "Step", He.ga K "Run", He.ga K "House", (He.cT K lamAt).1, (He.cT K lamAt).2⟩ : Ad)) := ⟨⟨_, _, ok_House_held F_House_held T G_House_held_numbers, He.meth_ok (c.fact 51 (f := .meth "House" "held") rfl), B_House_held⟩, T.cl_House⟩
  have G_judge : Has P w K mg base 2 "judge" ["held_runs", "run"] (sp_judge K (⟨He.ga K "Step", He.ga K "Run", He.ga K "House", (He.cT K lamAt).1, (He.cT K lamAt).2⟩ : Ad)) := ⟨_, _, ok_judge F_judge T G_are_same G_contradiction, He.glo_ok X G (c.fact 59 (f := .glo "judge") rfl), F_judge.kp, B_judge⟩
  have G_lists_at : Has P w K mg base 2 "lists_at" ["calls", "at"] (sp_lists_at K (⟨He.ga K "Step", He.ga K "Run", He.ga K "House", (He.cT K lamAt).1, (He.cT K lamAt).2⟩ : Ad)) := ⟨_, _, ok_lists_at F_lists_at T G_numbers_at, He.glo_ok X G (c.fact 63 (f := .glo "lists_at") rfl), F_lists_at.kp, B_lists_at⟩
  have G_wrong_places : Has P w K mg base 3 "wrong_places" ["areas", "run"] (sp_wrong_places K (⟨He.ga K "Step", He.ga K "Run", He.ga K "House", (He.cT K lamAt).1, (He.cT K lamAt).2⟩ : Ad)) := ⟨_, _, ok_wrong_places F_wrong_places T G_answer_now, He.glo_ok X G (c.fact 26 (f := .glo "wrong_places") rfl), F_wrong_places.kp, B_wrong_places⟩
  have G_can_be_together : Has P w K mg base 3 "can_be_together" ["one", "other"] (sp_can_be_together K (⟨He.ga K "Step", He.ga K "Run", He.ga K "House", (He.cT K lamAt).1, (He.cT K lamAt).2⟩ : Ad)) := ⟨_, _, ok_can_be_together F_can_be_together T G_fits_listing G_listings_agree, He.glo_ok X G (c.fact 31 (f := .glo "can_be_together") rfl), F_can_be_together.kp, B_can_be_together⟩
  have G_fits_known : Has P w K mg base 3 "fits_known" ["known", "run"] (sp_fits_known K (⟨He.ga K "Step", He.ga K "Run", He.ga K "House", (He.cT K lamAt).1, (He.cT K lamAt).2⟩ : Ad)) := ⟨_, _, ok_fits_known F_fits_known T G_is_about G_answer_now, He.glo_ok X G (c.fact 37 (f := .glo "fits_known") rfl), F_fits_known.kp, B_fits_known⟩
  have G_House : HasC P w K mg base 3 "House" (He.ga K "House") ["self"] (sp_House_init K (⟨He.ga K "Step", He.ga K "Run", He.ga K "House", (He.cT K lamAt).1, (He.cT K lamAt).2⟩ : Ad)) := ⟨_, _, ok_House_init F_House_init T G_House_make_new, He.mkr_ok (c.fact 16 (f := .mkr "House") rfl), He.glo_ok X G (c.fact 14 (f := .glo "House") rfl), B_House_init⟩
  have G_House_begins : HasM P w K mg base 3 (He.ga K "House") "begins" ["self", "jobs"] (sp_House_begins K (⟨He.ga K "Step", He.ga K "Run", He.ga K "House", (He.cT K lamAt).1, (He.cT K lamAt).2⟩ : Ad)) := ⟨⟨_, _, ok_House_begins F_House_begins T G_House_make_new, He.meth_ok (c.fact 41 (f := .meth "House" "begins") rfl), B_House_begins⟩, T.cl_House⟩
  have G_House_how_far : HasM P w K mg base 3 (He.ga K "House") "how_far" ["self", "job"] (sp_House_how_far K (⟨He.ga K "Step", He.ga K "Run", He.ga K "House", (He.cT K lamAt).1, (He.cT K lamAt).2⟩ : Ad)) := ⟨⟨_, _, ok_House_how_far F_House_how_far T G_House_held_of G_answer_now, He.meth_ok (c.fact 56 (f := .meth "House" "how_far") rfl), B_House_how_far⟩, T.cl_House⟩
  have G_held_among : Has P w K mg base 3 "held_among" ["told_runs"] (sp_held_among K (⟨He.ga K "Step", He.ga K "Run", He.ga K "House", (He.cT K lamAt).1, (He.cT K lamAt).2⟩ : Ad)) := ⟨_, _, ok_held_among F_held_among T G_judge, He.glo_ok X G (c.fact 60 (f := .glo "held_among") rfl), F_held_among.kp, B_held_among⟩
  have G_Run : HasC P w K mg base 4 "Run" (He.ga K "Run") ["self", "numbers", "made", "questions"] (sp_Run_init K (⟨He.ga K "Step", He.ga K "Run", He.ga K "House", (He.cT K lamAt).1, (He.cT K lamAt).2⟩ : Ad)) := ⟨_, _, ok_Run_init F_Run_init T G_Step, He.mkr_ok (c.fact 7 (f := .mkr "Run") rfl), He.glo_ok X G (c.fact 5 (f := .glo "Run") rfl), B_Run_init⟩
  have G_is_trace_right : Has P w K mg base 4 "is_trace_right" ["job", "trace"] (sp_is_trace_right K (⟨He.ga K "Step", He.ga K "Run", He.ga K "House", (He.cT K lamAt).1, (He.cT K lamAt).2⟩ : Ad)) := ⟨_, _, ok_is_trace_right F_is_trace_right T G_is_step_right G_can_be_together, He.glo_ok X G (c.fact 29 (f := .glo "is_trace_right") rfl), F_is_trace_right.kp, B_is_trace_right⟩
  have G_make_plan : Has P w K mg base 4 "make_plan" ["jobs", "sources", "held_runs"] (sp_make_plan K (⟨He.ga K "Step", He.ga K "Run", He.ga K "House", (He.cT K lamAt).1, (He.cT K lamAt).2⟩ : Ad)) := ⟨_, _, ok_make_plan F_make_plan T G_fits_known G_sure_run G_made_files, He.glo_ok X G (c.fact 39 (f := .glo "make_plan") rfl), F_make_plan.kp, B_make_plan⟩
  have G_House_distrust : HasM P w K mg base 4 (He.ga K "House") "distrust" ["self", "machine"] (sp_House_distrust K (⟨He.ga K "Step", He.ga K "Run", He.ga K "House", (He.cT K lamAt).1, (He.cT K lamAt).2⟩ : Ad)) := ⟨⟨_, _, ok_House_distrust F_House_distrust T G_held_among G_empty_areas G_counted G_House_held_numbers, He.meth_ok (c.fact 50 (f := .meth "House" "distrust") rfl), B_House_distrust⟩, T.cl_House⟩
  have G_House_found_run : HasM P w K mg base 4 (He.ga K "House") "found_run" ["self", "job"] (sp_House_found_run K (⟨He.ga K "Step", He.ga K "Run", He.ga K "House", (He.cT K lamAt).1, (He.cT K lamAt).2⟩ : Ad)) := ⟨⟨_, _, ok_House_found_run F_House_found_run T G_House_held_of G_wrong_places, He.meth_ok (c.fact 55 (f := .meth "House" "found_run") rfl), B_House_found_run⟩, T.cl_House⟩
  have G_House_refusal_of : HasM P w K mg base 5 (He.ga K "House") "refusal_of" ["self", "run"] (sp_House_refusal_of K (⟨He.ga K "Step", He.ga K "Run", He.ga K "House", (He.cT K lamAt).1, (He.cT K lamAt).2⟩ : Ad)) := ⟨⟨_, _, ok_House_refusal_of F_House_refusal_of T G_is_made_right G_is_trace_right, He.meth_ok (c.fact 45 (f := .meth "House" "refusal_of") rfl), B_House_refusal_of⟩, T.cl_House⟩
  have G_House_look : HasM P w K mg base 5 (He.ga K "House") "look" ["self", "job"] (sp_House_look K (⟨He.ga K "Step", He.ga K "Run", He.ga K "House", (He.cT K lamAt).1, (He.cT K lamAt).2⟩ : Ad)) := ⟨⟨_, _, ok_House_look F_House_look T G_House_found_run G_House_how_far G_found_answer, He.meth_ok (c.fact 46 (f := .meth "House" "look") rfl), B_House_look⟩, T.cl_House⟩
  have G_House_bring : HasM P w K mg base 5 (He.ga K "House") "bring" ["self", "job"] (sp_House_bring K (⟨He.ga K "Step", He.ga K "Run", He.ga K "House", (He.cT K lamAt).1, (He.cT K lamAt).2⟩ : Ad)) := ⟨⟨_, _, ok_House_bring F_House_bring T G_House_found_run G_made_files G_found_answer, He.meth_ok (c.fact 47 (f := .meth "House" "bring") rfl), B_House_bring⟩, T.cl_House⟩
  have G_House_plan : HasM P w K mg base 5 (He.ga K "House") "plan" ["self"] (sp_House_plan K (⟨He.ga K "Step", He.ga K "Run", He.ga K "House", (He.cT K lamAt).1, (He.cT K lamAt).2⟩ : Ad)) := ⟨⟨_, _, ok_House_plan F_House_plan T G_make_plan, He.meth_ok (c.fact 49 (f := .meth "House" "plan") rfl), B_House_plan⟩, T.cl_House⟩
  have G_House_tell : HasM P w K mg base 6 (He.ga K "House") "tell" ["self", "run"] (sp_House_tell K (⟨He.ga K "Step", He.ga K "Run", He.ga K "House", (He.cT K lamAt).1, (He.cT K lamAt).2⟩ : Ad)) := ⟨⟨_, _, ok_House_tell F_House_tell T G_House_refusal_of G_judge, He.meth_ok (c.fact 44 (f := .meth "House" "tell") rfl), B_House_tell⟩, T.cl_House⟩
  have G_House_nearest : HasM P w K mg base 6 (He.ga K "House") "nearest" ["self", "job"] (sp_House_nearest K (⟨He.ga K "Step", He.ga K "Run", He.ga K "House", (He.cT K lamAt).1, (He.cT K lamAt).2⟩ : Ad)) := ⟨⟨_, _, ok_House_nearest F_House_nearest T hcd TB G_House_held_of G_wrong_places, He.meth_ok (c.fact 48 (f := .meth "House" "nearest") rfl), B_House_nearest⟩, T.cl_House⟩
  have G_answer_call : Has P w K mg base 7 "answer_call" ["house", "call", "numbers", "lists"] (sp_answer_call K (⟨He.ga K "Step", He.ga K "Run", He.ga K "House", (He.cT K lamAt).1, (He.cT K lamAt).2⟩ : Ad)) := ⟨_, _, ok_answer_call F_answer_call T G_House_begins G_House_put G_House_drop G_House_tell G_Run G_House_look G_House_bring G_House_nearest G_House_plan G_House_distrust G_House_held G_House_files, He.glo_ok X G (c.fact 61 (f := .glo "answer_call") rfl), F_answer_call.kp, B_answer_call⟩
  exact ok_answers F_answers T G_House G_numbers_at G_lists_at G_counted G_answer_call
theorem spec_at {w : World} {mg : Str → Option Value} {f0 : Addr} {h : Heap} (Y : hk.says w h) (G : h.Ns mainGlobals mg) (hmg : mg "answers" = some (.ref f0)) : SpecAt PySem.Challenge.rw_skipruns_s01_answers w CX0 8 ["calls"] mg f0 h := by
  obtain ⟨K, KX, c⟩ := Y
  obtain ⟨fd, hb, hF⟩ := facts (P := PySem.Challenge.rw_skipruns_s01_answers.prog) (w := w) KX G hmg c.t.d
  have hmem : lamAt ∈ [lamAt] := List.mem_singleton.mpr rfl
  refine ⟨K, KX, fd, (He.cT K lamAt).1, (He.cT K lamAt).2, spAns K (He.cT K lamAt).2, c.empty _ hmem, c.out _ hmem, PySem.W.codeHd_of_K KX (c.hd _ hmem), hb, ?_, hF⟩
  intro H xs a hT hwi hask hx
  cases hx with
  | cons h1 h2 =>
    cases h2
    cases h1 with
    | lst hs ha =>
      have e := L2.ints_dw a.1 _ ha
      subst e
      exact ⟨_, a.1, rfl, hs, hask, LamX.TabS.nil hT, fun H' p hp => .lst (L2.SqL.of hp) (L2.dw_ints _)⟩
end Mine
set_option Elab.async false
set_option linter.all false
open PySem PySem.W PyProof.Rows
set_option maxRecDepth 100000 in
set_option maxHeartbeats 0 in
theorem PySem.Challenge.cw_skipruns_s01_answers_holds : PySem.Challenge.rw_skipruns_s01_answers.Holds := by
  w_on; o_headS Mine.hk; (case hw => exact ⟨[.list [.int 9, .int 0, .int 0]], by decide +kernel, by decide +kernel⟩)
  refine Mine.walk_specT (r := PySem.Challenge.rw_skipruns_s01_answers) (k := 8) (CX := L2.CX0) (ps := ["calls"]) (by decide +kernel) rfl ⟨rfl, by decide, by decide⟩ ?F (fun _ _ _ _ z => z)
  case F =>
    intro w mg f0 h Y G hmg
    exact Mine.spec_at Y G hmg
#print axioms PySem.Challenge.cw_skipruns_s01_answers_holds
