/-
  Machines (chapter 9): what a right machine is, the program's way and the model's, and that the two are one.
-/
import Derived.Test.YtiogebflfnicgaaRowT
import Derived.Test.YtiogebflfnicgaaHCall
namespace Go.Proofs.Ytiogebflfnicgaa
open Go.RowKit

def Thd.ok (t : Thd) : Bool := thB t.id t.st t.op t.arg t.pc t.til t.per t.can t.r0 t.r1 t.r2 t.r3 t.r4 t.code t.res
def Cll.ok (c : Cll) : Bool := clB c.th c.op c.arg c.fr c.to c.code c.res
/-- A call that is right, and not later than these steps. -/
def fitB (stp : Int) (c : Cll) : Bool := c.ok && decide (c.fr ≤ stp) && decide (c.to ≤ stp)
/-- A call that is this thread's own. -/
def isOfB (c : Cll) (t : Thd) : Bool := c.th == t.id && c.op == t.op && c.arg == t.arg
/-- A call that is its thread's own. -/
def ownB (ts : List Thd) (c : Cll) : Bool := match ts[c.th.toNat]? with
  | some t => isOfB c t
  | none => false
def stepB (stp : Int) (ts : List Thd) (c : Cll) : Bool := fitB stp c && (!(c.to == 0) || ownB ts c)
/-- A call that is a thread's, and under way. -/
def opnB (k : Int) (c : Cll) : Bool := c.th == k && c.to == 0
def cntO (cs : List Cll) (k : Int) : Nat := (cs.filter (opnB k)).length
/-- Threads that are right, and have their places' numbers. -/
def thFrom (k : Int) : List Thd → Bool
  | [] => true
  | t :: l => (t.id == k && t.ok) && thFrom (k + 1) l
/-- Each thread that is not idle has just one call under way. -/
def hcFrom (cs : List Cll) (k : Int) : List Thd → Bool
  | [] => true
  | t :: l => (t.st == 0 || decide (cntO cs k = 1)) && hcFrom cs (k + 1) l
/-- What the model asks of a thread. -/
def thM (cs : List Cll) (k : Int) (t : Thd) : Bool := t.ok && t.id == k && ((t.st == 0) == (cs.find? (opnB k)).isNone) && (match cs.find? (opnB k) with
  | some c => c.op == t.op && c.arg == t.arg
  | none => true)
def thMs (cs : List Cll) (k : Int) : List Thd → Bool
  | [] => true
  | t :: l => thM cs k t && thMs cs (k + 1) l
/-- How many threads have a call under way. -/
def hasO (cs : List Cll) (k : Int) : Nat := if (cs.find? (opnB k)).isSome then 1 else 0
def allO (cs : List Cll) : Nat := (cs.filter (fun c => c.to == 0)).length

theorem cnt_cons (c : Cll) (cs : List Cll) (k : Int) : cntO (c :: cs) k = cntO cs k + (if opnB k c then 1 else 0) := by
  unfold cntO; rw [List.filter_cons]; split <;> simp
theorem all_cons (c : Cll) (cs : List Cll) : allO (c :: cs) = allO cs + (if c.to == 0 then 1 else 0) := by
  unfold allO; rw [List.filter_cons]; split <;> simp
theorem clB_thread {th op arg fr to code res : Int} (h : clB th op arg fr to code res = true) : 0 ≤ th ∧ th ≤ 3 := by
  cases h1 : inB th 0 3
  · rw [clB_th _ _ _ _ _ _ _ h1] at h; cases h
  · exact inB_iff.1 h1
theorem clB_opIn {th op arg fr to code res : Int} (h : clB th op arg fr to code res = true) : 1 ≤ op ∧ op ≤ 6 := by
  cases h1 : opB op
  · rw [clB_op _ _ _ _ _ _ _ h1] at h; cases h
  · exact (opB_iff op).1 h1
theorem fit_th {stp : Int} {c : Cll} (h : fitB stp c = true) : 0 ≤ c.th ∧ c.th ≤ 3 := by
  unfold fitB at h
  simp only [Bool.and_eq_true] at h
  exact clB_thread h.1.1
theorem fit_op {stp : Int} {c : Cll} (h : fitB stp c = true) : 1 ≤ c.op ∧ c.op ≤ 6 := by
  unfold fitB at h
  simp only [Bool.and_eq_true] at h
  exact clB_opIn h.1.1
theorem all_four {stp : Int} : ∀ (cs : List Cll), cs.all (fitB stp) = true → allO cs = cntO cs 0 + cntO cs 1 + cntO cs 2 + cntO cs 3
  | [], _ => rfl
  | c :: cs, h => by
    rw [List.all_cons, Bool.and_eq_true] at h
    have ih := all_four cs h.2
    have ht := fit_th h.1
    rw [all_cons, cnt_cons, cnt_cons, cnt_cons, cnt_cons, ih]
    cases h0 : c.to == 0
    · simp [opnB, h0]
    · have e : c.th = 0 ∨ c.th = 1 ∨ c.th = 2 ∨ c.th = 3 := by omega
      rcases e with e | e | e | e <;> simp [opnB, h0, e] <;> omega
theorem hasO_le (cs : List Cll) (k : Int) : hasO cs k ≤ cntO cs k ∧ (0 < cntO cs k → hasO cs k = 1) := by
  unfold hasO cntO
  cases h : cs.find? (opnB k) with
  | none =>
    have : cs.filter (opnB k) = [] := by rw [List.filter_eq_nil_iff]; exact List.find?_eq_none.1 h
    simp [this]
  | some c =>
    have h1 : c ∈ cs.filter (opnB k) := List.mem_filter.2 ⟨List.mem_of_find?_eq_some h, List.find?_some h⟩
    have := List.length_pos_of_mem h1
    simp; omega
theorem only_one {cs : List Cll} {k : Int} (h : cntO cs k ≤ 1) {c d : Cll} (hc : c ∈ cs) (hd : d ∈ cs) (pc : opnB k c = true) (pd : opnB k d = true) : c = d := by
  unfold cntO at h
  have a : c ∈ cs.filter (opnB k) := List.mem_filter.2 ⟨hc, pc⟩
  have b : d ∈ cs.filter (opnB k) := List.mem_filter.2 ⟨hd, pd⟩
  generalize cs.filter (opnB k) = l at h a b
  match l, h with
  | [x], _ => rw [List.mem_singleton] at a b; rw [a, b]
  | [], _ => cases a
theorem idle_op {t : Thd} (h : t.ok = true) (h0 : t.st = 0) : t.op = 0 := by
  unfold Thd.ok at h
  rw [h0] at h
  unfold thB idleB bareB at h
  simp at h
  omega

theorem way_one {cs : List Cll} {k : Int} {t : Thd} (h : thM cs k t = true) (hc : cntO cs k ≤ 1) :
    (t.id = k ∧ t.ok = true) ∧ (t.st == 0 || decide (cntO cs k = 1)) = true ∧ ∀ c ∈ cs, opnB k c = true → isOfB c t = true := by
  unfold thM at h
  simp only [Bool.and_eq_true] at h
  obtain ⟨⟨⟨h1, h2⟩, h3⟩, h4⟩ := h
  have h2' : t.id = k := by simpa using h2
  refine ⟨⟨h2', h1⟩, ?_⟩
  cases hf : cs.find? (opnB k) with
  | none =>
    rw [hf] at h3
    have h0 : (t.st == 0) = true := by simpa using h3
    refine ⟨by rw [h0]; rfl, fun c hm hp => ?_⟩
    have := List.find?_eq_none.1 hf c hm
    rw [hp] at this; exact absurd rfl this
  | some d =>
    rw [hf] at h3 h4
    have hd1 := List.mem_of_find?_eq_some hf
    have hd2 := List.find?_some hf
    have hpos : 0 < cntO cs k := by unfold cntO; exact List.length_pos_of_mem (List.mem_filter.2 ⟨hd1, hd2⟩)
    refine ⟨by rw [decide_eq_true (by omega), Bool.or_true], fun c hm hp => ?_⟩
    rw [only_one hc hm hd1 hp hd2]
    have e : (d.th == k) = true := by unfold opnB at hd2; simp only [Bool.and_eq_true] at hd2; exact hd2.1
    simp only [Bool.and_eq_true] at h4
    unfold isOfB
    rw [h2', e, h4.1, h4.2]; rfl
theorem way_two {stp : Int} {cs : List Cll} {k : Int} {t : Thd} (hf : ∀ c ∈ cs, fitB stp c = true) (h1 : t.id = k ∧ t.ok = true) (h2 : (t.st == 0 || decide (cntO cs k = 1)) = true) (h3 : ∀ c ∈ cs, opnB k c = true → isOfB c t = true) :
    thM cs k t = true ∧ cntO cs k = hasO cs k := by
  have hle := hasO_le cs k
  unfold thM
  rw [h1.2, (by simpa using h1.1 : (t.id == k) = true)]
  cases hq : cs.find? (opnB k) with
  | none =>
    have h0 : cntO cs k = 0 := by
      unfold cntO
      have : cs.filter (opnB k) = [] := by rw [List.filter_eq_nil_iff]; exact List.find?_eq_none.1 hq
      rw [this]; rfl
    rw [h0] at h2
    refine ⟨?_, by omega⟩
    have : (t.st == 0) = true := by simpa using h2
    rw [this]; rfl
  | some d =>
    have hd1 := List.mem_of_find?_eq_some hq
    have hd2 := List.find?_some hq
    have hi := h3 d hd1 hd2
    have hpos : 0 < cntO cs k := by unfold cntO; exact List.length_pos_of_mem (List.mem_filter.2 ⟨hd1, hd2⟩)
    unfold isOfB at hi
    simp only [Bool.and_eq_true] at hi
    have hop : d.op = t.op := by simpa using hi.1.2
    have hne : t.st ≠ 0 := by
      intro h0
      have := idle_op h1.2 h0
      have := fit_op (hf d hd1)
      omega
    have hst : (t.st == 0) = false := by simpa using hne
    rw [hst] at h2
    have h4 : cntO cs k = 1 := by simpa using h2
    refine ⟨?_, by have := hle.2 hpos; omega⟩
    rw [hst]
    show (true && true && (false == false) && (d.op == t.op && d.arg == t.arg)) = true
    rw [hi.1.2, hi.2]; rfl

/-- The program's way and the model's are one: threads and calls. -/
theorem mach_one (stp : Int) (t0 t1 t2 t3 : Thd) (cs : List Cll) :
    (cs.all (fitB stp) && thMs cs 0 [t0, t1, t2, t3] && decide (allO cs = hasO cs 0 + hasO cs 1 + hasO cs 2 + hasO cs 3)) =
    (thFrom 0 [t0, t1, t2, t3] && cs.all (stepB stp [t0, t1, t2, t3]) && hcFrom cs 0 [t0, t1, t2, t3]) := by
  rw [Bool.eq_iff_iff]
  simp only [Bool.and_eq_true, decide_eq_true_eq, thMs, thFrom, hcFrom, and_true, Int.reduceAdd]
  constructor
  · rintro ⟨⟨hf, m0, m1, m2, m3⟩, ha⟩
    have h4 := all_four cs hf
    have l0 := (hasO_le cs 0).1
    have l1 := (hasO_le cs 1).1
    have l2 := (hasO_le cs 2).1
    have l3 := (hasO_le cs 3).1
    have u : ∀ k, hasO cs k ≤ 1 := fun k => by unfold hasO; split <;> omega
    have u0 := u 0
    have u1 := u 1
    have u2 := u 2
    have u3 := u 3
    have w0 := way_one m0 (by omega)
    have w1 := way_one m1 (by omega)
    have w2 := way_one m2 (by omega)
    have w3 := way_one m3 (by omega)
    rw [List.all_eq_true] at hf
    refine ⟨⟨⟨⟨by simpa using w0.1.1, w0.1.2⟩, ⟨by simpa using w1.1.1, w1.1.2⟩, ⟨by simpa using w2.1.1, w2.1.2⟩, ⟨by simpa using w3.1.1, w3.1.2⟩⟩, ?_⟩, w0.2.1, w1.2.1, w2.2.1, w3.2.1⟩
    rw [List.all_eq_true]
    intro c hm
    unfold stepB
    rw [hf c hm, Bool.true_and]
    cases h0 : c.to == 0
    · rfl
    have ht := fit_th (hf c hm)
    have e : c.th = 0 ∨ c.th = 1 ∨ c.th = 2 ∨ c.th = 3 := by omega
    unfold ownB
    rcases e with e | e | e | e
    · have := w0.2.2 c hm (by simp [opnB, e, h0]); rw [e]; exact this
    · have := w1.2.2 c hm (by simp [opnB, e, h0]); rw [e]; exact this
    · have := w2.2.2 c hm (by simp [opnB, e, h0]); rw [e]; exact this
    · have := w3.2.2 c hm (by simp [opnB, e, h0]); rw [e]; exact this
  · rintro ⟨⟨⟨i0, i1, i2, i3⟩, hs⟩, c0, c1, c2, c3⟩
    rw [List.all_eq_true] at hs
    have hf : ∀ c ∈ cs, fitB stp c = true := fun c hm => by have := hs c hm; unfold stepB at this; simp only [Bool.and_eq_true] at this; exact this.1
    have ho : ∀ c ∈ cs, c.to == 0 → ownB [t0, t1, t2, t3] c = true := fun c hm h0 => by
      have := hs c hm; unfold stepB at this
      simp only [Bool.and_eq_true] at this
      rw [h0] at this
      simpa using this.2
    have hk : ∀ (k : Int) (t : Thd), ([t0, t1, t2, t3] : List Thd)[k.toNat]? = some t → ∀ c ∈ cs, opnB k c = true → isOfB c t = true := by
      intro k t hg c hm hp
      unfold opnB at hp
      simp only [Bool.and_eq_true] at hp
      have e : c.th = k := by simpa using hp.1
      have := ho c hm hp.2
      unfold ownB at this
      rw [e, hg] at this
      exact this
    have g0 := way_two hf (t := t0) ⟨by simpa using i0.1, i0.2⟩ c0 (hk 0 t0 rfl)
    have g1 := way_two hf (t := t1) ⟨by simpa using i1.1, i1.2⟩ c1 (hk 1 t1 rfl)
    have g2 := way_two hf (t := t2) ⟨by simpa using i2.1, i2.2⟩ c2 (hk 2 t2 rfl)
    have g3 := way_two hf (t := t3) ⟨by simpa using i3.1, i3.2⟩ c3 (hk 3 t3 rfl)
    have hf2 : cs.all (fitB stp) = true := by rw [List.all_eq_true]; exact hf
    refine ⟨⟨hf2, g0.1, g1.1, g2.1, g3.1⟩, ?_⟩
    rw [all_four cs hf2]
    omega
end Go.Proofs.Ytiogebflfnicgaa
