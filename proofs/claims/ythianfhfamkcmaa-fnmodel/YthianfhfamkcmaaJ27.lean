/-
  A region that draws its order, by what holds whatever of it has been done so far: one case for each operation, whatever the orders are.
-/
import Derived.Test.YthianfhfamkcmaaJ01
import Derived.BigFrame
namespace Go.Proofs.Ythianfhfamkcmaa
open Go.RowKit

/-- No operation is guarded, and each waits for earlier ones alone. -/
def backward (ops : Array Oper) : Bool :=
  (List.range ops.size).all fun i => ((ops[i]?).map fun o => o.guard.isNone && o.after.all fun e => !Region.binds .any e || decide (e.on < i)).getD true
theorem backward_at {ops : Array Oper} (h : backward ops = true) {i : Nat} {o : Oper} (ho : ops[i]? = some o) : o.guard = none ∧ ∀ e ∈ o.after, Region.binds .any e = false ∨ e.on < i := by
  have hi : i < ops.size := (Array.getElem?_eq_some_iff.1 ho).1
  have := List.all_eq_true.1 h i (List.mem_range.2 hi)
  simp only [ho, Option.map_some, Option.getD_some, Bool.and_eq_true, Option.isNone_iff_eq_none, Array.all_eq_true_iff_forall_mem, Bool.or_eq_true, Bool.not_eq_true', decide_eq_true_eq] at this
  exact this
theorem ready_mem {md : Region.Mode} {ops : Array Oper} {l : Array Bool} {i : Nat} (h : i ∈ Region.ready md ops l) :
    ∃ o, ops[i]? = some o ∧ l.getD i true = false ∧ ∀ e ∈ o.after, Region.binds md e = true → l.getD e.on false = true := by
  unfold Region.ready at h
  rw [List.mem_filter, List.mem_range] at h
  obtain ⟨hi, h⟩ := h
  have ho : ops[i]? = some ops[i] := Array.getElem?_eq_getElem hi
  rw [ho] at h
  simp only [Option.map_some, Option.getD_some, Bool.and_eq_true, Bool.not_eq_true', Array.all_eq_true_iff_forall_mem, Bool.or_eq_true] at h
  refine ⟨_, ho, h.1, fun e he hb => ?_⟩
  rcases h.2 e he with h2 | h2
  · rw [hb] at h2; cases h2
  · exact h2
theorem getD_flip {l : Array Bool} {i : Nat} (h : i < l.size) : l.getD i true = l.getD i false := by
  simp [h]
theorem ready_nil {ops : Array Oper} {l : Array Bool} (hb : backward ops = true) (hs : l.size = ops.size) (h : Region.ready .any ops l = []) : ∀ i, i < ops.size → l.getD i false = true := by
  intro i
  induction i using Nat.strongRecOn with
  | ind i ih =>
    intro hi
    cases hl : l.getD i false with
    | true => rfl
    | false =>
      exfalso
      have ho : ops[i]? = some ops[i] := Array.getElem?_eq_getElem hi
      have : i ∈ Region.ready .any ops l := by
        unfold Region.ready
        rw [List.mem_filter, List.mem_range]
        refine ⟨hi, ?_⟩
        rw [ho, getD_flip (by omega), hl]
        simp only [Option.map_some, Option.getD_some, Bool.and_eq_true, Bool.not_false, Array.all_eq_true_iff_forall_mem, Bool.or_eq_true, true_and]
        intro e he
        rcases (backward_at hb ho).2 e he with hbd | hlt
        · exact .inl (by rw [hbd]; rfl)
        · exact .inr (ih e.on hlt (by omega))
      rw [h] at this
      cases this

theorem wpAny_inv {P : Program} {ops : Array Oper} {Q : Exit → Act → World → Prop} (hb : backward ops = true) (I : (Nat → Prop) → Act → World → Prop)
    (hstep : ∀ (D : Nat → Prop) (a : Act) (w : World) (i : Nat) (o : Oper), I D a w → ops[i]? = some o → ¬ D i → (∀ e ∈ o.after, Region.binds .any e = true → D e.on) →
      (∀ j o', ops[j]? = some o' → D j → ∀ e ∈ o'.after, Region.binds .any e = true → D e.on) → o.wp P a w (I (fun k => k = i ∨ D k)) Q)
    (hfin : ∀ (D : Nat → Prop) (a : Act) (w : World), I D a w → (∀ i, i < ops.size → D i) → Q .normal a w) :
    ∀ (n : Nat) (l : Array Bool) (a : Act) (w : World), l.size = ops.size → l.countP (fun b => !b) ≤ n →
      (∀ j o', ops[j]? = some o' → l.getD j false = true → ∀ e ∈ o'.after, Region.binds .any e = true → l.getD e.on false = true) →
      I (fun k => l.getD k false = true) a w → wpAny P .any ops Q n l a w := by
  intro n
  induction n with
  | zero =>
    intro l a w hs hc _ hI
    have hall : ∀ i, i < ops.size → l.getD i false = true := by
      intro i hi
      have h0 : l.countP (fun b => !b) = 0 := by omega
      rw [Array.countP_eq_zero] at h0
      have hi' : i < l.size := by omega
      have := h0 l[i] (Array.getElem_mem hi')
      simp at this
      simp [hi', this]
    refine ⟨?_, hfin _ _ _ hI hall⟩
    rw [List.eq_nil_iff_forall_not_mem]
    intro i hi
    obtain ⟨o, ho, hf, _⟩ := ready_mem hi
    have hi' : i < ops.size := (Array.getElem?_eq_some_iff.1 ho).1
    rw [getD_flip (by omega), hall i hi'] at hf
    cases hf
  | succ n ih =>
    intro l a w hs hc hcl hI
    refine ⟨fun h => hfin _ _ _ hI (ready_nil hb hs h), fun i hi => ?_⟩
    obtain ⟨o, ho, hf, hdep⟩ := ready_mem hi
    have hi' : i < ops.size := (Array.getElem?_eq_some_iff.1 ho).1
    rw [getD_flip (by omega)] at hf
    have hl : i < l.size := by omega
    unfold wpOp
    simp only [ho]
    have hw : Region.wanted o (yielded ops a.tmps) = true := by unfold Region.wanted; rw [(backward_at hb ho).1]
    rw [if_pos hw]
    left
    have hset : (fun k => (l.setIfInBounds i true).getD k false = true) = (fun k => k = i ∨ l.getD k false = true) := by
      funext k
      apply propext
      by_cases hk : k = i
      · subst hk
        simp [hl]
      · have : (l.setIfInBounds i true)[k]? = l[k]? := by
          rw [Array.getElem?_setIfInBounds]
          rw [if_neg (fun e => hk e.symm)]
        simp [Array.getD_eq_getD_getElem?, this, hk]
    refine Oper.wp_mono ?_ (hstep _ a w i o hI ho (by simp only [hf]; simp) hdep hcl)
    intro a' w' hI'
    refine ih _ a' w' (by simp [hs]) ?_ ?_ (by rw [hset]; exact hI')
    · have h1 : l[i] = false := by simpa [hl] using hf
      have := Array.countP_set (p := fun b => !b) (xs := l) (i := i) (a := true) hl
      rw [h1] at this
      have hp : 0 < l.countP (fun b => !b) := by
        rw [Array.countP_pos_iff]
        exact ⟨l[i], Array.getElem_mem hl, by simp [h1]⟩
      have he : l.setIfInBounds i true = l.set i true hl := by simp [Array.setIfInBounds, hl]
      rw [he, this]
      simp
      omega
    · intro j o' hj hd e he hbd
      have hset' : ∀ k, ((l.setIfInBounds i true).getD k false = true) = (k = i ∨ l.getD k false = true) := fun k => congrFun hset k
      rw [hset'] at hd ⊢
      rcases hd with rfl | hd
      · rw [ho] at hj
        injection hj with hj
        subst hj
        exact .inr (hdep e he hbd)
      · exact .inr (hcl j o' hj hd e he hbd)

/-- The operations' cases, one behind the other. -/
def Steps (P : Program) (Q : Exit → Act → World → Prop) (ops : Array Oper) (I : (Nat → Prop) → Act → World → Prop) : Nat → List Oper → Prop
  | _, [] => True
  | i, o :: r => (∀ (D : Nat → Prop) (a : Act) (w : World), I D a w → ¬ D i → (∀ e ∈ o.after, Region.binds .any e = true → D e.on) →
      (∀ j o', ops[j]? = some o' → D j → ∀ e ∈ o'.after, Region.binds .any e = true → D e.on) → o.wp P a w (I (fun k => k = i ∨ D k)) Q) ∧ Steps P Q ops I (i + 1) r
theorem Steps.at {P : Program} {Q : Exit → Act → World → Prop} {ops : Array Oper} {I : (Nat → Prop) → Act → World → Prop} : ∀ {l : List Oper} {n : Nat}, Steps P Q ops I n l → ∀ {i : Nat} {o : Oper}, l[i]? = some o →
    ∀ (D : Nat → Prop) (a : Act) (w : World), I D a w → ¬ D (n + i) → (∀ e ∈ o.after, Region.binds .any e = true → D e.on) →
      (∀ j o', ops[j]? = some o' → D j → ∀ e ∈ o'.after, Region.binds .any e = true → D e.on) → o.wp P a w (I (fun k => k = n + i ∨ D k)) Q
  | [], _, _, _, _, h => by simp at h
  | x :: r, n, hs, 0, o, h => by
    simp only [List.getElem?_cons_zero, Option.some.injEq] at h
    subst h
    exact hs.1
  | x :: r, n, hs, i + 1, o, h => by
    have := Steps.at hs.2 (i := i) (o := o) (by simpa using h)
    rw [show n + 1 + i = n + (i + 1) by omega] at this
    exact this
theorem wp_region_inv {P : Program} {ops : Array Oper} {Q : Exit → Act → World → Prop} {id : Nat} {a : Act} {w : World} (I : (Nat → Prop) → Act → World → Prop) (hm : P.follows .mixedOrders = true) (hb : backward ops = true)
    (h0 : I (fun _ => False) a w.drew) (hstep : Steps P Q ops I 0 ops.toList)
    (hfin : ∀ (D : Nat → Prop) (a : Act) (w : World), I D a w → (∀ i, i < ops.size → D i) → Q .normal a w) : (Code.region id ops true).wp P Q a w := by
  refine wp_region_any hm ?_
  have hz : (fun k => (Array.replicate ops.size false).getD k false = true) = (fun _ => False) := by
    funext k
    by_cases hk : k < ops.size <;> simp [Array.getD_eq_getD_getElem?, hk]
  refine wpAny_inv hb I ?_ hfin ops.size _ a _ (by simp) ?_ ?_ (by rw [hz]; exact h0)
  · intro D a w i o hI ho hD hdep hcl
    have := Steps.at hstep (i := i) (o := o) (by simpa using ho) D a w hI (by simpa using hD) hdep hcl
    simpa using this
  · exact Nat.le_trans Array.countP_le_size (by simp)
  · intro j o' _ hj
    exact absurd (congrFun hz j ▸ hj) (by simp)

/-- A frame that is another but for some slots. -/
structure Agree (a0 a : Act) (ds : List Nat) : Prop where
  size : a.tmps.size = a0.tmps.size
  defers : a.defers = a0.defers
  same : ∀ k, k ∉ ds → a.tmps[k]? = a0.tmps[k]?
theorem Agree.refl (a : Act) (ds : List Nat) : Agree a a ds := ⟨rfl, rfl, fun _ _ => rfl⟩
theorem Agree.put {a0 a : Act} {ds : List Nat} (h : Agree a0 a ds) {s : Nat} (hs : s ∈ ds) (v : Value) : Agree a0 (a.put (some s) v) ds := by
  refine ⟨by simp [Act.put, h.size], h.defers, fun k hk => ?_⟩
  simp only [Act.put]
  rw [Array.getElem?_setIfInBounds, if_neg (show ¬ s = k from fun e => hk (e ▸ hs))]
  exact h.same k hk
theorem Agree.eval {a0 a : Act} {ds : List Nat} (h : Agree a0 a ds) {k : Nat} (hk : k ∉ ds) : a.eval (.tmp k) = a0.eval (.tmp k) := by
  simp [Act.eval, Array.getD_eq_getD_getElem?, h.same k hk]
theorem eval_put_ne (a : Act) {s k : Nat} (v : Value) (h : s ≠ k) : (a.put (some s) v).eval (.tmp k) = a.eval (.tmp k) := by
  simp [Act.put, Act.eval, Array.getD_eq_getD_getElem?, h]
theorem eval_put_same (a : Act) {s : Nat} (v : Value) (h : s < a.tmps.size) : (a.put (some s) v).eval (.tmp s) = v := by
  simp [Act.put, Act.eval, h]
theorem Agree.fold {a : Act} : ∀ (ds : List Nat) (b : Act), b.tmps.size = a.tmps.size → ∀ k, (ds.foldl (fun b d => b.put (some d) (a.eval (.tmp d))) b).tmps[k]? = if k ∈ ds then a.tmps[k]? else b.tmps[k]?
  | [], b, _, k => by simp
  | d :: ds, b, hb, k => by
    rw [List.foldl_cons, Agree.fold ds _ (by simp [Act.put, hb]) k]
    by_cases hk : k ∈ ds
    · simp [hk]
    · rw [if_neg hk]
      by_cases hd : k = d
      · subst hd
        rw [if_pos (by simp)]
        simp only [Act.put, Act.eval, Array.getElem?_setIfInBounds, Array.getD_eq_getD_getElem?, hb]
        by_cases hs : k < a.tmps.size
        · simp [hs]
        · simp [hs]
      · rw [if_neg (by simp [hk, hd])]
        simp only [Act.put]
        rw [Array.getElem?_setIfInBounds, if_neg (fun e => hd e.symm)]
theorem foldl_defers {a : Act} : ∀ (ds : List Nat) (b : Act), (ds.foldl (fun b d => b.put (some d) (a.eval (.tmp d))) b).defers = b.defers
  | [], _ => rfl
  | d :: ds, b => by rw [List.foldl_cons, foldl_defers ds]; rfl
theorem Agree.eq {a0 a : Act} {ds : List Nat} (h : Agree a0 a ds) : a = ds.foldl (fun b d => b.put (some d) (a.eval (.tmp d))) a0 := by
  have h1 : a.tmps = (ds.foldl (fun b d => b.put (some d) (a.eval (.tmp d))) a0).tmps := by
    apply Array.ext_getElem?
    intro k
    rw [Agree.fold ds a0 h.size.symm k]
    by_cases hk : k ∈ ds
    · rw [if_pos hk]
    · rw [if_neg hk, h.same k hk]
  have h2 : a.defers = (ds.foldl (fun b d => b.put (some d) (a.eval (.tmp d))) a0).defers := by rw [foldl_defers, h.defers]
  generalize ds.foldl (fun b d => b.put (some d) (a.eval (.tmp d))) a0 = b at h1 h2
  cases a
  cases b
  cases h1
  cases h2
  rfl

theorem wp_call_fn {P : Program} {o : Oper} {a : Act} {w : World} {K : Act → World → Prop} {Q : Exit → Act → World → Prop} {f : FuncId} {vs : Array Value} (hc : (execOp a.eval o).run P w = .ok (.enter f vs) w)
    (h : Calls P f vs w fun e w' => ∃ v, e = .returned v ∧ K (a.put o.dst v) w') : o.wp P a w K Q := by
  unfold Oper.wp
  rw [hc, Oper.upon_enter]
  refine h.mono ?_
  rintro e w' ⟨v, rfl, hk⟩
  exact hk
theorem wp_yield {P : Program} {o : Oper} {a : Act} {w : World} {K : Act → World → Prop} {Q : Exit → Act → World → Prop} {v : Value} {w' : World} (hc : (execOp a.eval o).run P w = .ok (.value v) w')
    (h : K (a.put o.dst v) w') : o.wp P a w K Q := by
  unfold Oper.wp
  rw [hc, Oper.upon_value]
  exact h
theorem eval_get {a : Act} {k : Nat} {v : Value} (h : a.eval (.tmp k) = v) : a.tmps[k]?.getD undef = v := by
  rw [← Array.getD_eq_getD_getElem?]
  exact h
/-- What stays of a slot's value behind another operation. -/
theorem slot_keep {a : Act} {s k i j : Nat} {v u : Value} {D : Nat → Prop} (h : D j → a.eval (.tmp k) = u) (hs : s ≠ k) (hj : j ≠ i) : (j = i ∨ D j) → (a.put (some s) v).eval (.tmp k) = u := fun hd => by
  rw [eval_put_ne a v hs]
  exact h (hd.resolve_left hj)
theorem Steps.cons {P : Program} {Q : Exit → Act → World → Prop} {ops : Array Oper} {I : (Nat → Prop) → Act → World → Prop} {i j : Nat} {o : Oper} {r : List Oper} (hj : j = i + 1)
    (h : ∀ (D : Nat → Prop) (a : Act) (w : World), I D a w → ¬ D i → (∀ e ∈ o.after, Region.binds .any e = true → D e.on) →
      (∀ j o', ops[j]? = some o' → D j → ∀ e ∈ o'.after, Region.binds .any e = true → D e.on) → o.wp P a w (I (fun k => k = i ∨ D k)) Q) (hr : Steps P Q ops I j r) : Steps P Q ops I i (o :: r) := by
  subst hj
  exact ⟨h, hr⟩
theorem Steps.nil {P : Program} {Q : Exit → Act → World → Prop} {ops : Array Oper} {I : (Nat → Prop) → Act → World → Prop} {i : Nat} : Steps P Q ops I i [] := trivial
/-- The region, and what follows it, once. -/
theorem region_cut {P : Program} {ops : Array Oper} {K : Act → World → Prop} {Q : Exit → Act → World → Prop} {id : Nat} {a : Act} {w : World} (I : Act → (Nat → Prop) → Act → World → Prop) (R : Act → Act → World → Prop) (hm : P.follows .mixedOrders = true) (hb : backward ops = true)
    (h0 : I a (fun _ => False) a w.drew) (hstep : ∀ K' : Act → World → Prop, Steps P (Exit.then K' Q) ops (I a) 0 ops.toList)
    (hfin : ∀ (D : Nat → Prop) (a' : Act) (w' : World), I a D a' w' → (∀ i, i < ops.size → D i) → R a a' w') (rest : ∀ a' w', R a a' w' → K a' w') : (Code.region id ops true).wp P (Exit.then K Q) a w :=
  wp_region_inv (I a) hm hb h0 (hstep K) fun D a' w' hI hD => rest a' w' (hfin D a' w' hI hD)
theorem dep_of {D : Nat → Prop} {l : Array Edge} (j : Nat) (hx : (l.toList.any fun e => e.on == j && Region.binds .any e) = true) (h : ∀ e ∈ l, Region.binds .any e = true → D e.on) : D j := by
  rw [List.any_eq_true] at hx
  obtain ⟨e, he, h2⟩ := hx
  rw [Bool.and_eq_true, beq_iff_eq] at h2
  exact h2.1 ▸ h e (by simpa using he) h2.2
theorem Agree.lt {a0 a : Act} {ds : List Nat} (h : Agree a0 a ds) {s : Nat} (hs : Nat.ble (s + 1) a0.tmps.size = true) : s < a.tmps.size := by
  rw [h.size]
  exact Nat.le_of_ble_eq_true hs
end Go.Proofs.Ythianfhfamkcmaa
