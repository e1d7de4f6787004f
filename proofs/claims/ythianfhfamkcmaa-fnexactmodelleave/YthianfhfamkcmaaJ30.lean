/-
  Models (chapter 11): the model's ModelCall, one way of it.
  Models (chapter 11): the model's ModelCall.
  The walk of the law FnExactModelCall.
  A range over a function, at waiters: whole rows inside a fence; slices.Values's closure; the test of ModelLeave.
  A range over a function, at waiters: filtered, over what slices.Values hands back; only.
  Models (chapter 11): the program's ModelLeave.
  Models (chapter 11): the model's ModelLeave, of one that does not wait.
  Models (chapter 11): the model's ModelLeave, of one that waits.
  Models (chapter 11): the model's ModelLeave, of one that waits.
  Models (chapter 11): the model's ModelLeave, of one that waits.
  The walk of the law FnExactModelLeave.
-/
import Derived.BigQuiet
import Derived.Test.YthianfhfamkcmaaJ29
import Derived.Test.YthianfhfamkcmaaJ23
import Derived.RangeFuncNested
import Derived.RangeFuncLeaves
import Derived.Shelf.Abstract
import Derived.WalkKit
import Derived.OwnWalkIn
import Derived.TacticsInMore
import Derived.LoopNIn
import Derived.LoopIn
import Derived.Maps.AppendAt
import Derived.Test.YthianfhfamkcmaaJ11
import Derived.Test.YthianfhfamkcmaaJ16
import Derived.Test.YthianfhfamkcmaaJ22
import Derived.Test.YthianfhfamkcmaaJ12
import Derived.Test.YthianfhfamkcmaaJ15
namespace Go.Proofs.Ythianfhfamkcmaa
open Go.RowKit

set_option maxHeartbeats 4000000 in
set_option maxRecDepth 100000 in
theorem smc_go (A B O : Option Addr) (ca cb co : Nat) (zs : List Int) (bs os : List Wtr) (cnt th op arg : Int) (w : World) (hz : zs.length ≤ 1048576) (ht : bs.length ≤ 1048576) (hc : os.length ≤ 1048576) (hA : Rd w A zs) (hT : RdR Wtr.cs w B bs) (hC : RdR Wtr.cs w O os) (qm : mdB zs cnt bs os = true) (qw : wtB th op arg = true) (hw0 : waitsB bs os th = false) (h4 : ¬ op = 4) (h6 : ¬ op = 6) :
    Calls Try.prog 12 #[.agg #[.slice A zs.length ca, .int .i64 cnt, .slice B bs.length cb, .slice O os.length co], .agg #[.int .i64 th, .int .i64 op, .int .i64 arg]] w (SpecPost w (doR zs cnt bs os th op arg)) := by
  have HA := Lib.hid hA; have HT := Lib.hid hT; have HC := Lib.hid hC; clear hA hT hC
  have HB0 := Lib.hid (below_alloc3 w (.cells #[.slice A zs.length ca, .int .i64 cnt, .slice B bs.length cb, .slice O os.length co] 31) (.cells #[.int .i64 th, .int .i64 op, .int .i64 arg] 35) (.cells #[.slice none 0 0, .int .i64 0, .slice none 0 0, .slice none 0 0] 31))
  have HX := Lib.hid ((BoxC.new 31 w #[.slice A zs.length ca, .int .i64 cnt, .slice B bs.length cb, .slice O os.length co]).below (below_alloc2 _ (.cells #[.int .i64 th, .int .i64 op, .int .i64 arg] 35) (.cells #[.slice none 0 0, .int .i64 0, .slice none 0 0, .slice none 0 0] 31)))
  have HW := Lib.hid (by have h := (BoxC.new 35 (w.alloc (.cells #[.slice A zs.length ca, .int .i64 cnt, .slice B bs.length cb, .slice O os.length co] 31)) #[.int .i64 th, .int .i64 op, .int .i64 arg]).below (below_alloc _ (.cells #[.slice none 0 0, .int .i64 0, .slice none 0 0, .slice none 0 0] 31)); rw [size_alloc] at h; exact h)
  have HR := Lib.hid (by have h := BoxC.new 31 ((w.alloc (.cells #[.slice A zs.length ca, .int .i64 cnt, .slice B bs.length cb, .slice O os.length co] 31)).alloc (.cells #[.int .i64 th, .int .i64 op, .int .i64 arg] 35)) #[.slice none 0 0, .int .i64 0, .slice none 0 0, .slice none 0 0]; rw [size_alloc, size_alloc] at h; exact h)
  go_enter Try.func12, Try.ntmps12
  have hx := HX.out.cell
  go_wp2_with fail
  refine (specModelOK_any _ _ _ _ _ _ zs bs os cnt _ hz ht hc (HA.out.below HB0.out) (HT.out.below HB0.out) (HC.out.below HB0.out)).mono ?_
  rintro e w1 ⟨rfl, hb⟩
  rw [qm]
  have HB1 := Lib.hid (below_trans HB0.out hb)
  have HX1 := Lib.hid (HX.out.below hb); have HW1 := Lib.hid (HW.out.below hb); have HR1 := Lib.hid (HR.out.below hb)
  clear hb HB0 HX HW HR hx
  have hx := HW1.out.cell
  go_wp2_with fail
  refine (specWaiter_any th op arg _).mono ?_
  rintro e w2 ⟨rfl, hb⟩
  rw [qw]
  have HB2 := Lib.hid (below_trans HB1.out hb)
  have HX2 := Lib.hid (HX1.out.below hb); have HW2 := Lib.hid (HW1.out.below hb); have HR2 := Lib.hid (HR1.out.below hb)
  clear hb HB1 HX1 HW1 HR1 hx
  have hx := HX2.out.cell; have hw := HW2.out.cell
  go_wp2_with fail
  refine (l10Waits_any _ _ _ _ _ _ zs bs os cnt th _ ht (md_parts qm).2.2.2.1 (HT.out.below HB2.out) (HC.out.below HB2.out)).mono ?_
  rintro e w3 ⟨rfl, hb⟩
  rw [hw0]
  have HB3 := Lib.hid (below_trans HB2.out hb)
  have HX3 := Lib.hid (HX2.out.below hb); have HW3 := Lib.hid (HW2.out.below hb); have HR3 := Lib.hid (HR2.out.below hb)
  clear hb HB2 HX2 HW2 HR2 hx hw
  have hx := HX3.out.cell; have hw := HW3.out.cell
  go_wp2_with fail
  refine (l10Call_any _ _ _ _ _ _ zs bs os cnt th op arg _ hz ht hc (HA.out.below HB3.out) (HT.out.below HB3.out) (HC.out.below HB3.out) qm qw hw0 (fun h => absurd h h4) (fun h => absurd h h6)).mono ?_
  generalize hrr : doR zs cnt bs os th op arg = r
  rintro e w4 ⟨B1, d1, B2, d2, B3, d3, rfl, hsA, hsB, hsO, hb⟩
  have HB4 := Lib.hid (below_trans HB3.out hb)
  have HR4 := Lib.hid (HR3.out.below hb)
  have hz3 := HR3.out.lt
  have HA4 := Lib.hid (SegC.base hsA (b1 := w.heap.size + 1 + 1 + 1) (by omega)); have HT4 := Lib.hid (SegC.base hsB (b1 := w.heap.size + 1 + 1 + 1) (by omega)); have HC4 := Lib.hid (SegC.base hsO (b1 := w.heap.size + 1 + 1 + 1) (by omega))
  clear hb hsA hsB hsO HB3 HX3 HW3 HR3 hx hw
  go_wp2_with (refine wpList_store_row rfl 31 _ _ rfl (w.heap.size + 1 + 1) _ rfl rfl 31 _ HR4.out info_model rfl (one4m _ _ _ _ _ _ _ _ _ _) ?_)
  have hr := (HR4.out.mrow #[.slice B1 r.2.1.length d1, .int .i64 r.2.2.1, .slice B2 r.2.2.2.1.length d2, .slice B3 r.2.2.2.2.length d3]).cell
  have hb' := below_setRow HB4.out (Nat.le_trans (Nat.le_succ _) (Nat.le_succ _) : w.heap.size ≤ w.heap.size + 1 + 1) #[.slice B1 r.2.1.length d1, .int .i64 r.2.2.1, .slice B2 r.2.2.2.1.length d2, .slice B3 r.2.2.2.2.length d3]
  have hsA := SegC.base (b1 := w.heap.size) (SegC.row (n := r.2.1.length) (c := d1) HA4.out (k := w.heap.size + 1 + 1) (by omega) #[.slice B1 r.2.1.length d1, .int .i64 r.2.2.1, .slice B2 r.2.2.2.1.length d2, .slice B3 r.2.2.2.2.length d3]) (by omega)
  have hsB := SegC.base (b1 := w.heap.size) (SegC.row (n := r.2.2.2.1.length) (c := d2) HT4.out (k := w.heap.size + 1 + 1) (by omega) #[.slice B1 r.2.1.length d1, .int .i64 r.2.2.1, .slice B2 r.2.2.2.1.length d2, .slice B3 r.2.2.2.2.length d3]) (by omega)
  have hsO := SegC.base (b1 := w.heap.size) (SegC.row (n := r.2.2.2.2.length) (c := d3) HC4.out (k := w.heap.size + 1 + 1) (by omega) #[.slice B1 r.2.1.length d1, .int .i64 r.2.2.1, .slice B2 r.2.2.2.1.length d2, .slice B3 r.2.2.2.2.length d3]) (by omega)
  generalize w4.setRow (w.heap.size + 1 + 1) #[.slice B1 r.2.1.length d1, .int .i64 r.2.2.1, .slice B2 r.2.2.2.1.length d2, .slice B3 r.2.2.2.2.length d3] = w9 at hr hb' hsA hsB hsO ⊢
  refine bodyPost_ret (v := .tuple #[.agg #[.slice B1 r.2.1.length d1, .int .i64 r.2.2.1, .slice B2 r.2.2.2.1.length d2, .slice B3 r.2.2.2.2.length d3], .bool r.1.1, .int .i64 r.1.2.1, .int .i64 r.1.2.2.1, .int .i64 r.1.2.2.2]) (by simp [results, Try.results12, go_sem, hr]) rfl (by subst hrr; exact ⟨B1, d1, B2, d2, B3, d3, rfl, hsA, hsB, hsO, hb'⟩)

end Go.Proofs.Ythianfhfamkcmaa

namespace Go.Proofs.Ythianfhfamkcmaa
open Go.RowKit

theorem smc_yes (A B O : Option Addr) (ca cb co : Nat) (zs : List Int) (bs os : List Wtr) (cnt th op arg : Int) (w : World) (hz : zs.length ≤ 1048576) (ht : bs.length ≤ 1048576) (hc : os.length ≤ 1048576) (hA : Rd w A zs) (hT : RdR Wtr.cs w B bs) (hC : RdR Wtr.cs w O os) (qm : mdB zs cnt bs os = true) (qw : wtB th op arg = true) :
    Calls Try.prog 12 #[.agg #[.slice A zs.length ca, .int .i64 cnt, .slice B bs.length cb, .slice O os.length co], .agg #[.int .i64 th, .int .i64 op, .int .i64 arg]] w (SpecPost w (doR zs cnt bs os th op arg)) := by
  cases hw0 : waitsB bs os th
  · have hq' : ¬ waitsB bs os th = true := by rw [hw0]; decide
    by_cases h4 : op = 4
    · subst h4
      by_cases hf : zs.length = 400
      · rw [show doR zs cnt bs os th 4 arg = ((false, 7, 0, -1), (zs, cnt, bs, os)) from by unfold doR; rw [if_neg hq', if_neg (by decide), if_neg (by decide), if_pos rfl, if_pos hf]]
        exact smc_full4 A B O ca cb co zs bs os cnt th arg w hz ht hc hA hT hC qm qw hw0 hf
      · exact smc_go4 A B O ca cb co zs bs os cnt th arg w hz ht hc hA hT hC qm qw hw0 hf
    · by_cases h6 : op = 6
      · subst h6
        by_cases hf : cnt = 1000000000
        · rw [show doR zs cnt bs os th 6 arg = ((false, 7, 0, -1), (zs, cnt, bs, os)) from by unfold doR; rw [if_neg hq', if_neg (by decide), if_neg (by decide), if_neg (by decide), if_neg (by decide), if_pos hf]]
          subst hf; exact smc_full6 A B O ca cb co zs bs os th arg w hz ht hc hA hT hC qm qw hw0
        · exact smc_go6 A B O ca cb co zs bs os cnt th arg w hz ht hc hA hT hC qm qw hw0 hf
      · exact smc_go A B O ca cb co zs bs os cnt th op arg w hz ht hc hA hT hC qm qw hw0 h4 h6
  · rw [show doR zs cnt bs os th op arg = ((false, 9, 0, -1), (zs, cnt, bs, os)) from if_pos hw0]
    exact smc_busy A B O ca cb co zs bs os cnt th op arg w hz ht hc hA hT hC qm qw hw0
end Go.Proofs.Ythianfhfamkcmaa

namespace Go.Proofs.Ythianfhfamkcmaa
open Go.RowKit

theorem segH_nil (lo hi : Nat) (w : World) (A : Option Addr) : SegH lo hi w A [] := ⟨.inl rfl, .inl rfl⟩
theorem p3_none (lo hi a b c x y z : Nat) : P3 lo hi (.slice none a b) (.slice none c x) (.slice none y z) :=
  ⟨(fun _ e => by cases e), (fun _ e => by cases e), (fun _ e => by cases e), (fun _ e => by cases e), (fun _ e => by cases e), (fun _ e => by cases e)⟩
theorem ans_no {b : Bool} {w : World} {mk : Value → Value} {e : Ending} {w' : World} (h : e = .returned (mk (.agg #[.slice none 0 0, .int .i64 0, .slice none 0 0, .slice none 0 0])) ∧ Below w.heap.size w w') : AnsP b w mk [] 0 [] [] e w' :=
  ⟨none, 0, none, 0, none, 0, h.1, segH_nil _ _ _ _, segH_nil _ _ _ _, segH_nil _ _ _ _, fun _ => p3_none _ _ _ _ _ _ _ _, h.2⟩
theorem ans_call {w : World} {r : (Bool × Int × Int × Int) × (List Int × Int × List Wtr × List Wtr)} {e : Ending} {w' : World} (h : CallPost w r e w') : AnsP true w (fun v => .tuple #[v, .bool r.1.1, .int .i64 r.1.2.1, .int .i64 r.1.2.2.1, .int .i64 r.1.2.2.2]) r.2.1 r.2.2.1 r.2.2.2.1 r.2.2.2.2 e w' := by
  obtain ⟨A1, c1, B1, d1, O1, e1, he, sA, sB, sO, x12, x13, x23, _, _, _, i1, i2, i3, hb⟩ := h
  exact ⟨A1, c1, B1, d1, O1, e1, he, .of sA, .of sB, .of sO, fun _ => ⟨i1, i2, i3, x12, x13, x23⟩, hb⟩
theorem ans_spec {w : World} {r : (Bool × Int × Int × Int) × (List Int × Int × List Wtr × List Wtr)} {e : Ending} {w' : World} (h : SpecPost w r e w') : AnsP false w (fun v => .tuple #[v, .bool r.1.1, .int .i64 r.1.2.1, .int .i64 r.1.2.2.1, .int .i64 r.1.2.2.2]) r.2.1 r.2.2.1 r.2.2.2.1 r.2.2.2.2 e w' := by
  obtain ⟨A1, c1, B1, d1, O1, e1, he, sA, sB, sO, hb⟩ := h
  exact ⟨A1, c1, B1, d1, O1, e1, he, .of sA, .of sB, .of sO, fun q => absurd q (by decide), hb⟩
theorem cm_five {p : Wtr → Bool} {a b c d x : Wtr} {r : List Wtr} (h : cmB p [] (a :: b :: c :: d :: x :: r) = true) : False := by
  simp only [cmB, wtB, Bool.and_eq_true, List.nil_append, List.cons_append, List.contains_cons, List.contains_nil, Bool.or_false, Bool.not_eq_true', Bool.or_eq_false_iff, beq_eq_false_iff_ne, ne_eq] at h
  have ha := inB_true h.1.1.1.1.1
  have hb := inB_true h.2.1.1.1.1.1
  have hc := inB_true h.2.2.1.1.1.1.1
  have hd := inB_true h.2.2.2.1.1.1.1.1
  have hx := inB_true h.2.2.2.2.1.1.1.1.1
  have nb := h.2.1.2
  have nc := h.2.2.1.2
  have nd := h.2.2.2.1.2
  have nx := h.2.2.2.2.1.2
  omega
theorem md_four {zs : List Int} {cnt : Int} {bs os : List Wtr} (h : mdB zs cnt bs os = true) : bs.length ≤ 4 := by
  have hw := (md_parts h).2.2.2.2
  simp only [wsB, Bool.and_eq_true] at hw
  match bs, hw.1 with
  | [], _ => simp
  | [_], _ => simp
  | [_, _], _ => simp
  | [_, _, _], _ => simp
  | [_, _, _, _], _ => simp
  | _ :: _ :: _ :: _ :: _ :: _, h5 => exact (cm_five h5).elim
theorem doR_len (zs : List Int) (cnt : Int) (bs os : List Wtr) (th op arg : Int) : (doR zs cnt bs os th op arg).2.1.length ≤ zs.length + 1 ∧ (doR zs cnt bs os th op arg).2.2.2.1.length ≤ bs.length + 1 ∧ (doR zs cnt bs os th op arg).2.2.2.2.length ≤ os.length + 1 := by
  unfold doR
  repeat' split
  all_goals (simp <;> omega)

set_option maxHeartbeats 4000000 in
set_option maxRecDepth 100000 in
theorem lawModelCall_walk (A B O : Option Addr) (ca cb co : Nat) (zs : List Int) (bs os : List Wtr) (cnt : Int) (th op arg : Int) (w : World) (hz : zs.length ≤ maxLen) (hA : Rd w A zs) (ht : bs.length ≤ maxLen) (hT : RdR Wtr.cs w B bs) (hc : os.length ≤ maxLen) (hC : RdR Wtr.cs w O os) :
    Calls Try.prog 3 #[.agg #[.slice A zs.length ca, .int .i64 cnt, .slice B bs.length cb, .slice O os.length co], .agg #[.int .i64 th, .int .i64 op, .int .i64 arg]] w fun e w' => e = .returned (.bool true) ∧ Below w.heap.size w w' := by
  by_cases hbig : leftO 1048576 zs.length bs.length os.length < 0
  · have hbd : decide (leftO 1048576 zs.length bs.length os.length < 0) = true := decide_eq_true hbig
    go_enter Try.func3, Try.ntmps3
    go_wp2_with fail
    refine (szModel_any _ _ _ _ _ _ _ _ _ _ _ _ hz ht hc (by decide) (by decide)).mono ?_
    rintro e w1 ⟨rfl, hb⟩
    have HB := Lib.hid (below_trans (below_alloc2 _ _ _) hb); clear hb
    go_wp2
    go_ret
    exact ⟨rfl, HB.out⟩
  obtain ⟨sz, st, sc⟩ := leftO_small (by decide) hbig
  cases qm : mdB zs cnt bs os
  · exact lawModelCall_of A B O ca cb co zs bs os cnt th op arg [] 0 [] [] false 1 0 0 w hz hA ht hT hc hC hbig (by simp) (by simp) (by simp)
      (fun w A B O ca cb co hA hT hC => (smc_no1 (some A) (some B) (some O) ca cb co zs bs os cnt th op arg w sz st sc hA hT hC qm).mono fun e w' h => ans_no (mk := (fun v => .tuple #[v, .bool false, .int .i64 1, .int .i64 0, .int .i64 0])) h)
      (fun w A B O ca cb co hA hT hC => (mcall_no1 A B O ca cb co zs bs os cnt th op arg w sz st sc hA hT hC qm).mono fun e w' h => ans_no (mk := (fun v => .tuple #[v, .bool false, .int .i64 1, .int .i64 0, .int .i64 0])) h)
  cases qw : wtB th op arg
  · exact lawModelCall_of A B O ca cb co zs bs os cnt th op arg [] 0 [] [] false 1 0 0 w hz hA ht hT hc hC hbig (by simp) (by simp) (by simp)
      (fun w A B O ca cb co hA hT hC => (smc_no2 (some A) (some B) (some O) ca cb co zs bs os cnt th op arg w sz st sc hA hT hC qm qw).mono fun e w' h => ans_no (mk := (fun v => .tuple #[v, .bool false, .int .i64 1, .int .i64 0, .int .i64 0])) h)
      (fun w A B O ca cb co hA hT hC => (mcall_no2 A B O ca cb co zs bs os cnt th op arg w sz st sc hA hT hC qm qw).mono fun e w' h => ans_no (mk := (fun v => .tuple #[v, .bool false, .int .i64 1, .int .i64 0, .int .i64 0])) h)
  obtain ⟨hz4, hc0, hc1, ho1, _⟩ := md_parts qm
  have h4 := md_four qm
  obtain ⟨l1, l2, l3⟩ := doR_len zs cnt bs os th op arg
  exact lawModelCall_of A B O ca cb co zs bs os cnt th op arg (doR zs cnt bs os th op arg).2.1 (doR zs cnt bs os th op arg).2.2.1 (doR zs cnt bs os th op arg).2.2.2.1 (doR zs cnt bs os th op arg).2.2.2.2 (doR zs cnt bs os th op arg).1.1 (doR zs cnt bs os th op arg).1.2.1 (doR zs cnt bs os th op arg).1.2.2.1 (doR zs cnt bs os th op arg).1.2.2.2 w hz hA ht hT hc hC hbig (by omega) (by omega) (by omega)
      (fun w A B O ca cb co hA hT hC => (smc_yes (some A) (some B) (some O) ca cb co zs bs os cnt th op arg w sz st sc hA hT hC qm qw).mono fun e w' h => ans_spec h)
      (fun w A B O ca cb co hA hT hC => (mcall_yes A B O ca cb co zs bs os cnt th op arg w sz st sc hA hT hC hz4 hc0 hc1 (wt_parts qw).1 qm qw).mono fun e w' h => ans_call h)
end Go.Proofs.Ythianfhfamkcmaa

namespace Go.Proofs.Ythianfhfamkcmaa
open Go.RowKit Go.Shelf
attribute [local go_sem] Oper.semAt_some

theorem wpListIn_load_mid {F : Fence} {n : Nat} {P : Program} {ops : Array Oper} {rest : List Oper} {op : Oper} {a : Act} {w : World} {Q : Exit → Act → World → Prop} (hgd : op.guard = none) (ty : TypeId) (x : Operand) (ho : op.op = .load ty x)
    (b o : Nat) (hx : a.eval x = .pointer (some ⟨b, o, none⟩)) (cs : List Value) (d : TypeDesc) (hc : w.rangeAt b o cs)
    (hu : P.underlying ty = some d) (hd : d.isRow = true) (hi : (P.info? ty).map (·.size) = some cs.length)
    (h : wpListIn F n P ops Q rest (a.put op.dst (.agg cs.toArray)) w) : wpListIn F n P ops Q (op :: rest) a w := by
  refine wpListIn_plain hgd fun K hK' => ?_
  unfold Oper.wpIn
  refine ⟨?_, ?_⟩
  · simp [Oper.about, ho]
  · rw [Oper.semAt_plain F _ _ (by rw [ho]; intro c hc'; cases hc')]
    unfold execOp
    simp only [ho, hx, Instr.loadAt, Instr.sureAddr, Sem.run_bind, Sem.run_pure, Result.andThen_ok, run_loadVar_mid w b o ty cs d hc hu hd hi]
    exact hK' _ _ h
theorem wpListIn_store_row {F : Fence} {n : Nat} {P : Program} {ops : Array Oper} {rest : List Oper} {o : Oper} {a : Act} {w : World} {Q : Exit → Act → World → Prop} (hgd : o.guard = none) (ty : TypeId) (x y : Operand) (ho : o.op = .store ty x y)
    (g : Nat) (cells : Array Value) (hx : a.eval x = .pointer (some ⟨g, 0, none⟩)) (hy : a.eval y = .agg cells)
    (t : TypeId) (old : Array Value) (hg : w.heap[g]? = some (.cells old t (0, 0))) (hi : (P.info? ty).map (·.size) = some cells.size)
    (hold : old.size = cells.size) (h1 : cells.all (·.oneCell') = true)
    (h : wpListIn F n P ops Q rest (a.put o.dst undef) (w.setRow g cells)) : wpListIn F n P ops Q (o :: rest) a w := by
  refine wpListIn_plain hgd fun K hK' => ?_
  unfold Oper.wpIn
  refine ⟨?_, ?_⟩
  · simp [Oper.about, ho]
  · rw [Oper.semAt_plain F _ _ (by rw [ho]; intro c hc'; cases hc')]
    unfold execOp
    simp only [ho, hx, hy, Instr.storeAt, Instr.sureAddr, Sem.run_bind, Sem.run_pure, Result.andThen_ok, run_storeVar_row w g t ty old cells hg hi hold h1]
    exact hK' _ _ h

set_option maxHeartbeats 1000000 in
theorem stays_any (kb : Nat) (n th op arg : Int) (w : World) (hK : BoxC 3 w kb #[.int .i64 n]) :
    Calls Try.prog 64 #[.agg #[.int .i64 th, .int .i64 op, .int .i64 arg], .pointer (some ⟨kb, 0, none⟩)] w fun e w' => e = .returned (.bool (!(th == n))) ∧ Below w.heap.size w w' := by
  have hlt : kb < w.heap.size := hK.lt
  have HK := Lib.hid (hK.below (below_alloc w (.cells #[.int .i64 th, .int .i64 op, .int .i64 arg] 35))); clear hK
  have hk := HK.out.cell
  go_enter Try.func64, Try.ntmps64
  go_wp2
  go_ret
  exact ⟨by first | rfl | simp, below_alloc _ _⟩

theorem grown_new2 (W : World) (t : TypeId) (cs bs : Array Value) : W.grownBy ((W.alloc (.cells cs t)).setRow W.heap.size bs) none :=
  grown_below none (below_setRow (below_alloc W _) (Nat.le_refl _) bs)

set_option maxRecDepth 100000 in
set_option maxHeartbeats 4000000 in
/-- slices.Values's closure over waiters, for every loop body that keeps what lay at first. -/
theorem valuesW1_in (n : Nat) (hn : 1 ≤ n) (l Bs : Nat) (w0 : World) (A : Option Addr) (c : Nat) (zs : List Wtr) (hA : RdR Wtr.cs w0 A zs) (hz : zs.length ≤ 1048576) (J Jx : List Wtr → World → Prop)
    (W : World) (hJ : AbidesFrom W.heap.size J)
    (hY : ∀ pre x W, J pre W → pre.length < zs.length → YieldAt Fence.wide (n - 1) Try.prog l #[.agg #[.int .i64 x.th, .int .i64 x.op, .int .i64 x.arg]] W fun e W' =>
      (e = .returned (.bool true) ∧ J (pre ++ [x]) W' ∧ Below w0.heap.size W W') ∨ (e = .returned (.bool false) ∧ Jx (pre ++ [x]) W'))
    (hW : Below w0.heap.size w0 W) (hBs : W.cell? ⟨Bs, 0, none⟩ = some (.slice A zs.length c)) (h0 : J [] W) :
    CallsIn Fence.wide n Try.prog 158 #[.func (.yield l) #[] #[], .pointer (some ⟨Bs, 0, none⟩)] W fun e W' => (∃ v, e = .returned v) ∧
      ((∃ ys, ys = zs ∧ J ys W') ∨ (∃ pre, pre <+: zs ∧ Jx pre W')) := by
  have HA := Lib.hid hA; clear hA
  refine callsIn_of_wp Try.func158 rfl trivial ?_ rfl
  simp only [Try.ntmps158, List.size_toArray, List.length_cons, List.length_nil, Nat.reduceAdd, Nat.reduceSub, Array.replicate_succ, Array.replicate_zero, List.push_toArray, List.append_toArray, List.nil_append, List.cons_append]
  gi_wp2
  gi_loopw [7] (fun i wr => ∃ k : Nat, k ≤ zs.length ∧ i = .int .i64 k ∧ J (zs.take k) wr ∧ Below w0.heap.size w0 wr ∧ W.heap.size ≤ wr.heap.size)
    (fun i _ => zs.length - (intOf i).toNat)
  case atStart => exact ⟨0, Nat.zero_le _, rfl, by simpa using h0, hW, Nat.le_refl _⟩
  case round =>
    obtain ⟨k, hk, rfl, hJs, hnx, hsz⟩ := hrel
    by_cases hlt : k < zs.length
    · obtain ⟨x, hx⟩ : ∃ x, zs[k]? = some x := ⟨_, List.getElem?_eq_getElem hlt⟩
      obtain ⟨b, o, rfl, hrow⟩ := (HA.out.below hnx).row Wtr.len k x hx
      have HX := Lib.hid hx
      have HRW : Hid (wr.rangeAt b (o + k * 3) [.int .i64 x.th, .int .i64 x.op, .int .i64 x.arg]) := hrow
      have hgr := grown_new2 wr 35 #[.int .i64 0, .int .i64 0, .int .i64 0] #[.int .i64 x.th, .int .i64 x.op, .int .i64 x.arg]
      have hJ2 := hJ _ _ _ none hJs hgr (fun r e => by cases e)
      obtain ⟨fn, tmps, assign, body, hy, hR⟩ := hY _ x _ hJ2 (by rw [List.length_take]; omega)
      have hb2 : Below w0.heap.size wr ((wr.alloc (.cells #[.int .i64 0, .int .i64 0, .int .i64 0] 35)).setRow wr.heap.size #[.int .i64 x.th, .int .i64 x.op, .int .i64 x.arg]) := (below_setRow (below_alloc wr _) (Nat.le_refl _) _).mono hnx.size
      have hbx := (BoxC.new 35 wr #[.int .i64 0, .int .i64 0, .int .i64 0]).mrow #[.int .i64 x.th, .int .i64 x.op, .int .i64 x.arg]
      have hcx := hbx.cell
      have hlt' : (k : Int) < zs.length := by omega
      clear hx hrow
      gi_wp2_with (first | (refine wpListIn_load_mid rfl 35 _ rfl b (o + k * 3) ?_ _ _ HRW.out Try.underlying35 rfl info_iWaiter ?_; rfl) | (refine wpListIn_store_row rfl 35 _ _ rfl wr.heap.size _ rfl rfl 35 _ (BoxC.new 35 wr _) info_iWaiter rfl (one3w _ _ _) ?_))
      refine hR.mono ?_
      rintro e W3 (⟨rfl, hJ3, hk3⟩ | ⟨rfl, hJx3⟩)
      · clear hR hy hcx
        have hk1 : (k : Int) + 1 ≤ 9223372036854775807 := by omega
        gi_wp2
        go_roundw
        case rel => exact ⟨k + 1, by omega, by simp, by rw [List.take_add_one, HX.out]; exact hJ3, hnx.trans (hb2.trans hk3), Nat.le_trans hsz (Nat.le_trans hgr.size hk3.size)⟩
        case measure => simp [intOf]; omega
      · clear hR hy hcx
        gi_wp2
        refine bodyPost_ret (results_none rfl _ _ _) rfl ?_
        exact ⟨⟨_, rfl⟩, .inr ⟨zs.take k ++ [x], by rw [show zs.take k ++ [x] = zs.take (k + 1) from by rw [List.take_add_one, HX.out]; rfl]; exact List.take_prefix _ _, hJx3⟩⟩
    · obtain rfl : k = zs.length := by omega
      gi_wp2
      go_end0
      exact ⟨⟨_, rfl⟩, .inl ⟨_, rfl, by simpa using hJs⟩⟩

set_option maxHeartbeats 1000000 in
theorem valuesW_any (A : Option Addr) (nz c : Nat) (w : World) :
    Calls Try.prog 120 #[.slice A nz c] w fun e w' => e = .returned (.func (.func 158) #[] #[.pointer (some ⟨w.heap.size, 0, none⟩)]) ∧ w' = w.alloc (.cells #[.slice A nz c] 92) := by
  go_enter Try.func120, Try.ntmps120
  go_wp2
  go_ret
  exact ⟨rfl, rfl⟩

/-- What slices.Values hands back yields the waiters, in their order. -/
theorem valuesW_stops (n : Nat) (hn : 1 ≤ n) (Bs : Nat) (w0 : World) (A : Option Addr) (c : Nat) (zs : List Wtr) (hA : RdR Wtr.cs w0 A zs) (hz : zs.length ≤ 1048576) (w : World) (hB : Below w0.heap.size w0 w) (hlt : Bs < w.heap.size) (hBs : w.cell? ⟨Bs, 0, none⟩ = some (.slice A zs.length c)) :
    SeqStopsK Fence.wide n Try.prog 158 #[.pointer (some ⟨Bs, 0, none⟩)] (fun x : Wtr => #[.agg #[.int .i64 x.th, .int .i64 x.op, .int .i64 x.arg]]) (Below w0.heap.size) (fun ys => ys = zs) (fun pre => pre <+: zs) zs.length w := fun l J Jx W hW hJ _ hY h0 =>
  valuesW1_in n hn l Bs w0 A c zs hA hz J Jx W hJ hY (hB.trans (hW.mono hB.size)) ((hW.cell (p := ⟨Bs, 0, none⟩) hlt).trans hBs) h0
end Go.Proofs.Ythianfhfamkcmaa

namespace Go.Proofs.Ythianfhfamkcmaa
open Go.RowKit Go.Shelf
attribute [local go_sem] Oper.semAt_some

/-- Those whose thread is another one. -/
def keepT (n : Int) (x : Wtr) : Bool := !(x.th == n)
theorem keeps_below {B : Nat} {W W' : World} (h : Below W.heap.size W W') : KeepsFrom B W W' :=
  ⟨h.size, fun k _ _ hk _ => (h.block k (Array.getElem?_eq_some_iff.1 hk).1).trans hk⟩
def keptT (n : Int) (l : List Wtr) : List Wtr := l.filter (keepT n)
theorem keptT_hit {n : Int} (pre : List Wtr) {x : Wtr} (h : keepT n x = true) : keptT n (pre ++ [x]) = keptT n pre ++ [x] := by simp [keptT, h]
theorem keptT_miss {n : Int} (pre : List Wtr) {x : Wtr} (h : keepT n x = false) : keptT n (pre ++ [x]) = keptT n pre := by simp [keptT, h]
theorem keptT_len (n : Int) (l : List Wtr) : (keptT n l).length ≤ l.length := List.length_filter_le _ _
theorem cells_one (W : World) (x : Wtr) : ∀ (j : Nat) (u : Value), [Value.int .i64 x.th, .int .i64 x.op, .int .i64 x.arg][j]? = some u → (W.alloc (.cells #[.int .i64 x.th, .int .i64 x.op, .int .i64 x.arg] 35)).cell? ((⟨W.heap.size, 0, none⟩ : Addr).add j) = some u := fun j u h => by
  rw [Addr.add_mid, Nat.zero_add, (BoxC.new 35 W #[.int .i64 x.th, .int .i64 x.op, .int .i64 x.arg]).cell j]
  simpa using h

set_option maxRecDepth 100000 in
set_option maxHeartbeats 4000000 in
theorem filteredW_any (kb : Nat) (num : Int) (Bs : Nat) (A : Option Addr) (c : Nat) (zs : List Wtr) (w : World) (hA : RdR Wtr.cs w A zs) (hz : zs.length ≤ 1048576) (hK : BoxC 3 w kb #[.int .i64 num]) (hlt : Bs < w.heap.size) (hBs : w.cell? ⟨Bs, 0, none⟩ = some (.slice A zs.length c)) :
    Calls Try.prog 119 #[.func (.func 158) #[] #[.pointer (some ⟨Bs, 0, none⟩)], .func (.func 64) #[] #[.pointer (some ⟨kb, 0, none⟩)]] w fun e w' =>
      ∃ G d, e = .returned (.slice G (keptT num zs).length d) ∧ OwnR Wtr.cs 3 35 w.heap.size w' G d (keptT num zs) ∧ Below w.heap.size w w' := by
  obtain ⟨j0, hj, hy0, hy1, hy2⟩ := infoW
  have Hj := Lib.hid hj; have Hy0 := Lib.hid hy0; have Hy1 := Lib.hid hy1; have Hy2 := Lib.hid hy2
  clear hj hy0 hy1 hy2
  have HA := Lib.hid hA; have HK := Lib.hid hK; clear hA hK
  refine (callsIn_wide (n := 5)).1 ?_
  refine callsIn_of_wp_marks Try.func119 rfl trivial ?_ rfl
  simp only [Try.ntmps119, List.size_toArray, List.length_cons, List.length_nil, Nat.reduceAdd, Nat.reduceSub, Array.replicate_succ, Array.replicate_zero, List.push_toArray, List.append_toArray, List.nil_append, List.cons_append]
  gi_wp2
  have bF := Boxed.new w 79 (.func (.func 64) #[] #[.pointer (some ⟨kb, 0, none⟩)])
  have bO := Boxed.new (w.alloc (.cells #[.func (.func 64) #[] #[.pointer (some ⟨kb, 0, none⟩)]] 79)) 29 (.slice none 0 0)
  rw [World.size_alloc] at bO
  have hB0 : Below w.heap.size w ((w.alloc (.cells #[.func (.func 64) #[] #[.pointer (some ⟨kb, 0, none⟩)]] 79)).alloc (.cells #[.slice none 0 0] 29)) := ((Below.refl _ w).alloc (Nat.le_refl _) _).alloc (by simp) _
  have hsz : ((w.alloc (.cells #[.func (.func 64) #[] #[.pointer (some ⟨kb, 0, none⟩)]] 79)).alloc (.cells #[.slice none 0 0] 29)).heap.size = w.heap.size + 2 := by simp
  have hBs2 := cell_keep hB0 hBs
  refine wpIn_rangeFunc_ownH rfl (by decide) (gf := 158) (lb := #[.pointer (some ⟨Bs, 0, none⟩)]) rfl trivial (enters_of Try.func158 (by kernel_rfl) rfl)
    (valuesW_stops 4 (by decide) Bs w A c zs HA.out hz _ hB0 (by rw [hsz]; omega) hBs2) belowK_t (belowK_b (by rw [hsz]; omega)) (Below.refl _ _) (fun _ => rfl)
    (fun pre W => ((∃ v, Boxed W (w.heap.size + 1) 29 v ∧ W.ownsRow w.heap.size 35 3 v (keptT num pre).length (flatV Wtr.cs (keptT num pre)) ∧ True) ∧ Boxed W w.heap.size 79 (.func (.func 64) #[] #[.pointer (some ⟨kb, 0, none⟩)])) ∧ Below w.heap.size w W)
    (fun _ _ _ => False)
    (OwnFrom.and (OwnFrom.and (Own.from (holdsRow_own w.heap.size (w.heap.size + 1) 29 35 3 (fun pre => (keptT num pre).length) (fun pre => flatV Wtr.cs (keptT num pre)) (fun _ _ => True)) _) (Own.from (boxed_own _ _ _) _)) (ownFrom_below (Nat.le_refl _) (by rw [hsz]; omega)))
    (fun _ _ _ _ _ hs _ _ => hs)
    ⟨⟨⟨_, bO, World.ownsRow_nil _ _ _ _, trivial⟩, bF.alloc _⟩, hB0⟩
    (fun x a' W => ∃ Bx, w.heap.size + 1 < Bx ∧ BoxC 35 W Bx #[.int .i64 x.th, .int .i64 x.op, .int .i64 x.arg] ∧ a' = { tmps := #[.func (.func 158) #[] #[.pointer (some ⟨Bs, 0, none⟩)], .func (.func 64) #[] #[.pointer (some ⟨kb, 0, none⟩)], undef, .pointer (some ⟨w.heap.size, 0, none⟩), .slice none 0 0, .pointer (some ⟨w.heap.size + 1, 0, none⟩), .pointer (some ⟨Bx, 0, none⟩), .func (.func 158) #[] #[.pointer (some ⟨Bs, 0, none⟩)], .agg #[.int .i64 x.th, .int .i64 x.op, .int .i64 x.arg], undef, undef, undef, undef, undef, undef, undef, undef], defers := [] })
    (fun x a' _ X Y row hs hg hr => by
      obtain ⟨Bx, h1, h2, h3⟩ := hs
      exact ⟨Bx, h1, h2.mgrown hg (fun e => by
        obtain ⟨_, o, ho, hc⟩ := hr Bx e.symm
        rw [show X.heap[Bx]? = _ from h2] at ho; cases ho; cases hc), h3⟩)
    ?assign ?body ?done ?stop
  case assign =>
    rintro l pre x W K ⟨⟨⟨v, hv, hrow, _⟩, hf⟩, hB⟩ hK
    have hgr := grown_new2 W 35 #[.int .i64 0, .int .i64 0, .int .i64 0] #[.int .i64 x.th, .int .i64 x.op, .int .i64 x.arg]
    have hbl : Below W.heap.size W ((W.alloc (.cells #[.int .i64 0, .int .i64 0, .int .i64 0] 35)).setRow W.heap.size #[.int .i64 x.th, .int .i64 x.op, .int .i64 x.arg]) := below_setRow (below_alloc W _) (Nat.le_refl _) _
    gi_wp2_with (refine wpListIn_store_row rfl 35 _ _ rfl W.heap.size _ rfl rfl 35 _ (BoxC.new 35 W _) info_iWaiter rfl (one3w _ _ _) ?_)
    exact hK _ _ (keeps_below hbl) (hbl.mono hB.size) ⟨⟨⟨v, hv.kept hgr (by simp), own_below hrow hbl, trivial⟩, hf.kept hgr (by simp)⟩, hB.trans (hbl.mono hB.size)⟩ ⟨W.heap.size, hv.lt, (BoxC.new 35 W #[.int .i64 0, .int .i64 0, .int .i64 0]).mrow #[.int .i64 x.th, .int .i64 x.op, .int .i64 x.arg], rfl⟩
  case body =>
    rintro l pre x a' W hl ⟨r, hr⟩ ⟨⟨⟨v, hv, hrow, _⟩, hf⟩, hB⟩ ⟨Bx, hBx, bX, rfl⟩ hltp
    have HV := Lib.hid hv; have HR := Lib.hid hrow; have HF := Lib.hid hf; have HX := Lib.hid bX
    have HKW := Lib.hid (HK.out.below hB)
    have cf := hf.cell; have cx := bX.cell
    have hsW := hB.size
    have hpl := keptT_len num pre
    clear hrow hf bX hv
    cases q : (x.th == num)
    · have hk : keepT num x = true := by unfold keepT; rw [q]; rfl
      gi_wp2_with (first
        | (refine ⟨trivial, ?_⟩; gi_at_call 64; refine (CallsIn.inRound l (callsIn_wide.2 (stays_any kb num _ _ _ _ HKW.out))).mono ?_; rintro e w1 ⟨rfl, hb⟩; rw [q]; have hv1 : Boxed w1 (w.heap.size + 1) 29 v := BoxC.below HV.out hb; have cv1 := hv1.cell; have hr1 := own_below HR.out hb; have hf1 : Boxed w1 w.heap.size 79 (.func (.func 64) #[] #[.pointer (some ⟨kb, 0, none⟩)]) := BoxC.below HF.out hb; have cx1 := (BoxC.below HX.out hb).cell; have hB1 := hB.trans (hb.mono hsW); clear cf cx)
        | (gi_at_builtin; refine wpListIn_append_own _ rfl _ _ 29 rfl w.heap.size 35 j0 (.agg #[.int .i64 0, .int .i64 0, .int .i64 0]) 3 24 Try.underlying29 Hj.out Hy0.out Hy1.out Hy2.out rfl (by decide) _ _ _ rfl (hr1.alloc _) ⟨w1.heap.size, 0, none⟩ 1 1 [.int .i64 x.th, .int .i64 x.op, .int .i64 x.arg] rfl rfl (cells_one _ _) (by simp [Value.oneCell']) (by unfold maxLen; omega) (by omega) (by have := hB1.size; simp; omega) ?_; intro v' w2 hown' hgrow _; obtain ⟨g', cap', rfl⟩ := ownsRow_succ hown'; obtain ⟨hv1', hv2, hr2, hk2, hb2⟩ := hv1.appended (by decide) hr1 hB1.size (Nat.le_succ _) hown' hgrow; have hc2 := hv1'.cell; have hfz2 := hv1'.frozen))
      exact ⟨(keeps_below hb).trans (hk2.from _), (hb.mono hsW).trans hb2, ⟨⟨_, hv2, by rw [keptT_hit pre hk, flatV_append]; simpa [flatV, Wtr.cs] using hr2, trivial⟩, ((hf1.alloc _).kept (row := v.ownBlock) hgrow (hf1.not_row (by decide) hr1)).other (by omega) _⟩, hB1.trans hb2⟩
    · have hk : keepT num x = false := by unfold keepT; rw [q]; rfl
      gi_wp2_with (refine ⟨trivial, ?_⟩; gi_at_call 64; refine (CallsIn.inRound l (callsIn_wide.2 (stays_any kb num _ _ _ _ HKW.out))).mono ?_; rintro e w1 ⟨rfl, hb⟩; rw [q])
      exact ⟨keeps_below hb, hb.mono hsW, ⟨⟨v, BoxC.below HV.out hb, by rw [keptT_miss pre hk]; exact own_below HR.out hb, trivial⟩, BoxC.below HF.out hb⟩, hB.trans (hb.mono hsW)⟩
  case done =>
    rintro D ys W hD rfl ⟨⟨⟨v, hv, hrow, _⟩, hf⟩, hB⟩ hK
    have hc := hv.cell
    obtain ⟨G, d, rfl⟩ : ∃ G d, v = .slice G (keptT num ys).length d := by
      rcases hrow.2 with ⟨rfl, h0⟩ | ⟨g, cap, _, rfl, _⟩
      · exact ⟨none, 0, by rw [h0]⟩
      · exact ⟨_, _, rfl⟩
    gi_wp2
    refine ⟨by simp, .inl ⟨_, _, rfl, run_takeDeferred hK, ?_⟩⟩
    exact ⟨_, results_tmp rfl _ _ _, G, d, rfl, ownsRow_putObj hrow _ hK rfl, hB.trans (belowK_b (w := w) (Nat.le_refl _) W D _ _ (by rw [hsz] at hD; omega) hK rfl rfl)⟩
  case stop =>
    rintro D c pre W _ _ h _
    exact h.elim

set_option maxHeartbeats 1000000 in
theorem onlyW_any (kb : Nat) (num : Int) (A : Option Addr) (c : Nat) (zs : List Wtr) (w : World) (hA : RdR Wtr.cs w A zs) (hz : zs.length ≤ 1048576) (hK : BoxC 3 w kb #[.int .i64 num]) :
    Calls Try.prog 65 #[.slice A zs.length c, .func (.func 64) #[] #[.pointer (some ⟨kb, 0, none⟩)]] w fun e w' =>
      ∃ G d, e = .returned (.slice G (keptT num zs).length d) ∧ OwnR Wtr.cs 3 35 w.heap.size w' G d (keptT num zs) ∧ Below w.heap.size w w' := by
  have HA := Lib.hid hA; have HK := Lib.hid hK; clear hA hK
  go_enter Try.func65, Try.ntmps65
  go_wp2_with fail
  refine (valuesW_any _ _ _ _).mono ?_
  rintro e w1 ⟨rfl, rfl⟩
  have hb := below_alloc w (.cells #[.slice A zs.length c] 92)
  have hx := (BoxC.new 92 w #[.slice A zs.length c])
  go_wp2_with fail
  refine (filteredW_any kb num w.heap.size A c zs _ (HA.out.below hb) hz (HK.out.below hb) (by simp) (hx.cell 0)).mono ?_
  rintro e w2 ⟨G, d, rfl, ho, hb2⟩
  have HO := Lib.hid (OwnR.base ho (B' := w.heap.size) (by simp))
  have HB := Lib.hid (below_trans hb hb2)
  clear ho hb2 hb hx
  go_wp2
  go_ret
  exact ⟨G, d, rfl, HO.out, HB.out⟩
end Go.Proofs.Ythianfhfamkcmaa

namespace Go.Proofs.Ythianfhfamkcmaa
open Go.RowKit

set_option maxHeartbeats 4000000 in
set_option maxRecDepth 100000 in
theorem mleave_no (A B O : Addr) (ca cb co : Nat) (zs : List Int) (bs os : List Wtr) (cnt th : Int) (w : World) (hz : zs.length ≤ 1048576) (ht : bs.length ≤ 1048576) (hc : os.length ≤ 1048576) (hA : Rd w (some A) zs) (hT : RdR Wtr.cs w (some B) bs) (hC : RdR Wtr.cs w (some O) os) (qm : mdB zs cnt bs os = false) :
    Calls Try.prog 20 #[.agg #[.slice (some A) zs.length ca, .int .i64 cnt, .slice (some B) bs.length cb, .slice (some O) os.length co], .int .i64 th] w (fun e w' => e = .returned (.tuple #[.agg #[.slice none 0 0, .int .i64 0, .slice none 0 0, .slice none 0 0], .int .i64 1]) ∧ Below w.heap.size w w') := by
  have HA := Lib.hid hA; have HT := Lib.hid hT; have HC := Lib.hid hC; clear hA hT hC
  have HB0 := Lib.hid (below_alloc3 w (.cells #[.slice (some A) zs.length ca, .int .i64 cnt, .slice (some B) bs.length cb, .slice (some O) os.length co] 31) (.cells #[.int .i64 th] 3) (.cells #[.slice none 0 0, .int .i64 0, .slice none 0 0, .slice none 0 0] 31))
  have HX := Lib.hid ((BoxC.new 31 w #[.slice (some A) zs.length ca, .int .i64 cnt, .slice (some B) bs.length cb, .slice (some O) os.length co]).below (below_alloc2 _ (.cells #[.int .i64 th] 3) (.cells #[.slice none 0 0, .int .i64 0, .slice none 0 0, .slice none 0 0] 31)))
  have HN := Lib.hid (by have h := (BoxC.new 3 (w.alloc (.cells #[.slice (some A) zs.length ca, .int .i64 cnt, .slice (some B) bs.length cb, .slice (some O) os.length co] 31)) #[.int .i64 th]).below (below_alloc _ (.cells #[.slice none 0 0, .int .i64 0, .slice none 0 0, .slice none 0 0] 31)); rw [size_alloc] at h; exact h)
  have HR := Lib.hid (by have h := BoxC.new 31 ((w.alloc (.cells #[.slice (some A) zs.length ca, .int .i64 cnt, .slice (some B) bs.length cb, .slice (some O) os.length co] 31)).alloc (.cells #[.int .i64 th] 3)) #[.slice none 0 0, .int .i64 0, .slice none 0 0, .slice none 0 0]; rw [size_alloc, size_alloc] at h; exact h)
  go_enter Try.func20, Try.ntmps20
  have hx := HX.out.cell
  go_wp2_with fail
  refine (implModelOK_any _ _ _ _ _ _ zs bs os cnt _ hz ht hc (HA.out.below HB0.out) (HT.out.below HB0.out) (HC.out.below HB0.out)).mono ?_
  rintro e w1 ⟨rfl, hb⟩
  rw [qm]
  have HB1 := Lib.hid (below_trans HB0.out hb)
  have HX1 := Lib.hid (HX.out.below hb); have HN1 := Lib.hid (HN.out.below hb); have HR1 := Lib.hid (HR.out.below hb)
  clear hb HB0 HX HN HR hx
  go_wp2_with (refine wpList_store_row rfl 31 _ _ rfl (w.heap.size + 1 + 1) _ rfl rfl 31 _ HR1.out info_model rfl (one4m _ _ _ _ _ _ _ _ _ _) ?_)
  have hr := (HR1.out.mrow #[.slice none 0 0, .int .i64 0, .slice none 0 0, .slice none 0 0]).cell
  have hb' := below_setRow HB1.out (Nat.le_trans (Nat.le_succ _) (Nat.le_succ _) : w.heap.size ≤ w.heap.size + 1 + 1) #[.slice none 0 0, .int .i64 0, .slice none 0 0, .slice none 0 0]
  generalize w1.setRow (w.heap.size + 1 + 1) #[.slice none 0 0, .int .i64 0, .slice none 0 0, .slice none 0 0] = w9 at hr hb' ⊢
  refine bodyPost_ret (v := .tuple #[.agg #[.slice none 0 0, .int .i64 0, .slice none 0 0, .slice none 0 0], .int .i64 1]) (by simp [results, Try.results20, go_sem, hr]) rfl ⟨rfl, hb'⟩

set_option maxHeartbeats 4000000 in
set_option maxRecDepth 100000 in
theorem mleave_idle (A B O : Addr) (ca cb co : Nat) (zs : List Int) (bs os : List Wtr) (cnt th : Int) (w : World) (hz : zs.length ≤ 1048576) (ht : bs.length ≤ 1048576) (hc : os.length ≤ 1048576) (hA : Rd w (some A) zs) (hT : RdR Wtr.cs w (some B) bs) (hC : RdR Wtr.cs w (some O) os) (qm : mdB zs cnt bs os = true) (qw : waitsB bs os th = false) :
    Calls Try.prog 20 #[.agg #[.slice (some A) zs.length ca, .int .i64 cnt, .slice (some B) bs.length cb, .slice (some O) os.length co], .int .i64 th] w (AnsP true w (fun v => .tuple #[v, .int .i64 10]) zs cnt bs os) := by
  have HA := Lib.hid hA; have HT := Lib.hid hT; have HC := Lib.hid hC; clear hA hT hC
  have HB0 := Lib.hid (below_alloc3 w (.cells #[.slice (some A) zs.length ca, .int .i64 cnt, .slice (some B) bs.length cb, .slice (some O) os.length co] 31) (.cells #[.int .i64 th] 3) (.cells #[.slice none 0 0, .int .i64 0, .slice none 0 0, .slice none 0 0] 31))
  have HX := Lib.hid ((BoxC.new 31 w #[.slice (some A) zs.length ca, .int .i64 cnt, .slice (some B) bs.length cb, .slice (some O) os.length co]).below (below_alloc2 _ (.cells #[.int .i64 th] 3) (.cells #[.slice none 0 0, .int .i64 0, .slice none 0 0, .slice none 0 0] 31)))
  have HN := Lib.hid (by have h := (BoxC.new 3 (w.alloc (.cells #[.slice (some A) zs.length ca, .int .i64 cnt, .slice (some B) bs.length cb, .slice (some O) os.length co] 31)) #[.int .i64 th]).below (below_alloc _ (.cells #[.slice none 0 0, .int .i64 0, .slice none 0 0, .slice none 0 0] 31)); rw [size_alloc] at h; exact h)
  have HR := Lib.hid (by have h := BoxC.new 31 ((w.alloc (.cells #[.slice (some A) zs.length ca, .int .i64 cnt, .slice (some B) bs.length cb, .slice (some O) os.length co] 31)).alloc (.cells #[.int .i64 th] 3)) #[.slice none 0 0, .int .i64 0, .slice none 0 0, .slice none 0 0]; rw [size_alloc, size_alloc] at h; exact h)
  go_enter Try.func20, Try.ntmps20
  have hx := HX.out.cell
  go_wp2_with fail
  refine (implModelOK_any _ _ _ _ _ _ zs bs os cnt _ hz ht hc (HA.out.below HB0.out) (HT.out.below HB0.out) (HC.out.below HB0.out)).mono ?_
  rintro e w1 ⟨rfl, hb⟩
  rw [qm]
  have HB1 := Lib.hid (below_trans HB0.out hb)
  have HX1 := Lib.hid (HX.out.below hb); have HN1 := Lib.hid (HN.out.below hb); have HR1 := Lib.hid (HR.out.below hb)
  clear hb HB0 HX HN HR hx
  have hx := HX1.out.cell
  go_wp2_with fail
  refine (copyModel_any _ _ _ _ _ _ zs bs os cnt _ hz ht hc (HA.out.below HB1.out) (HT.out.below HB1.out) (HC.out.below HB1.out)).mono ?_
  rintro e w3 ⟨B1, d1, B2, d2, B3, d3, rfl, hO, hb⟩
  have HB3 := Lib.hid (below_trans HB1.out hb)
  have HX3 := Lib.hid (HX1.out.below hb); have HN3 := Lib.hid (HN1.out.below hb); have HR3 := Lib.hid (HR1.out.below hb)
  have hs1 : w.heap.size + 1 + 1 < w1.heap.size := HR1.out.lt
  have HO3 := Lib.hid hO
  have hs3 : w1.heap.size ≤ w3.heap.size := hb.size
  have hy3 : w.heap.size + 1 + 1 < w3.heap.size := HR3.out.lt
  clear hb hO HB1 HX1 HN1 HR1 hx
  go_upto_region 4 with (refine wpList_store_row rfl 31 _ _ rfl w3.heap.size _ rfl rfl 31 _ (BoxC.new 31 w3 _) info_model rfl (one4m _ _ _ _ _ _ _ _ _ _) ?_)
  have hbl := below_setRow (below_alloc w3 (.cells #[.slice none 0 0, .int .i64 0, .slice none 0 0, .slice none 0 0] 31)) (Nat.le_refl _) #[.slice B1 zs.length d1, .int .i64 cnt, .slice B2 bs.length d2, .slice B3 os.length d3]
  have hK := (BoxC.new 31 w3 #[.slice none 0 0, .int .i64 0, .slice none 0 0, .slice none 0 0]).mrow #[.slice B1 zs.length d1, .int .i64 cnt, .slice B2 bs.length d2, .slice B3 os.length d3]
  generalize (w3.alloc (.cells #[.slice none 0 0, .int .i64 0, .slice none 0 0, .slice none 0 0] 31)).setRow w3.heap.size #[.slice B1 zs.length d1, .int .i64 cnt, .slice B2 bs.length d2, .slice B3 os.length d3] = w4 at hbl hK ⊢
  have HB4 := Lib.hid (below_trans HB3.out hbl)
  have HX4 := Lib.hid (HX3.out.below hbl); have HN4 := Lib.hid (HN3.out.below hbl); have HR4 := Lib.hid (HR3.out.below hbl)
  have HO4 := Lib.hid (HO3.out.below hbl)
  have HK4 := Lib.hid hK
  have hk4 : w3.heap.size < w4.heap.size := hK.lt
  generalize w3.heap.size = k6 at hK hs3 hy3 HK4 hk4 ⊢
  clear hbl hK HB3 HX3 HN3 HR3 HO3
  have hx := HX4.out.cell; have hn := HN4.out.cell
  go_wp2_with fail
  refine (waits_any _ _ _ _ _ _ zs bs os cnt th _ ht hc (HT.out.below HB4.out) (HC.out.below HB4.out)).mono ?_
  rintro e w5 ⟨rfl, hb⟩
  rw [qw]
  have HB5 := Lib.hid (below_trans HB4.out hb)
  have HX5 := Lib.hid (HX4.out.below hb); have HN5 := Lib.hid (HN4.out.below hb); have HR5 := Lib.hid (HR4.out.below hb)
  have HO5 := Lib.hid (HO4.out.below hb); have HK5 := Lib.hid (HK4.out.below hb)
  have hk5 : k6 < w5.heap.size := HK5.out.lt
  have hs5 : w4.heap.size ≤ w5.heap.size := hb.size
  clear hb HB4 HX4 HN4 HR4 HO4 HK4 hx hn
  have hx := HK5.out.cell
  go_wp2_with (refine wpList_store_row rfl 31 _ _ rfl (w.heap.size + 1 + 1) _ rfl rfl 31 _ HR5.out info_model rfl (one4m _ _ _ _ _ _ _ _ _ _) ?_)
  have hr := (HR5.out.mrow #[.slice B1 zs.length d1, .int .i64 cnt, .slice B2 bs.length d2, .slice B3 os.length d3]).cell
  have hb' := below_setRow HB5.out (Nat.le_trans (Nat.le_succ _) (Nat.le_succ _) : w.heap.size ≤ w.heap.size + 1 + 1) #[.slice B1 zs.length d1, .int .i64 cnt, .slice B2 bs.length d2, .slice B3 os.length d3]
  have hO' := OwnO.row HO5.out (k := w.heap.size + 1 + 1) (by omega) #[.slice B1 zs.length d1, .int .i64 cnt, .slice B2 bs.length d2, .slice B3 os.length d3]
  generalize w5.setRow (w.heap.size + 1 + 1) #[.slice B1 zs.length d1, .int .i64 cnt, .slice B2 bs.length d2, .slice B3 os.length d3] = w9 at hr hb' hO' ⊢
  clear hx
  refine bodyPost_ret (v := .tuple #[.agg #[.slice B1 zs.length d1, .int .i64 cnt, .slice B2 bs.length d2, .slice B3 os.length d3], .int .i64 10]) (by simp [results, Try.results20, go_sem, hr]) rfl ⟨B1, d1, B2, d2, B3, d3, rfl, .of ((SegC.ofI hO'.st).base (by omega)), .of ((SegC.ofW hO'.wt).base (by omega)), .of ((SegC.ofW hO'.of).base (by omega)), fun _ => ⟨fun q hq => by have := World.ownsRow.lt hO'.st q hq; omega, fun q hq => by have := World.ownsRow.lt hO'.wt q hq; omega, fun q hq => by have := World.ownsRow.lt hO'.of q hq; omega, hO'.d12, hO'.d13, hO'.d23⟩, hb'⟩

set_option maxHeartbeats 4000000 in
set_option maxRecDepth 100000 in
theorem mleave_yes (A B O : Addr) (ca cb co : Nat) (zs : List Int) (bs os : List Wtr) (cnt th : Int) (w : World) (hz : zs.length ≤ 1048576) (ht : bs.length ≤ 1048576) (hc : os.length ≤ 1048576) (hA : Rd w (some A) zs) (hT : RdR Wtr.cs w (some B) bs) (hC : RdR Wtr.cs w (some O) os) (qm : mdB zs cnt bs os = true) (qw : waitsB bs os th = true) :
    Calls Try.prog 20 #[.agg #[.slice (some A) zs.length ca, .int .i64 cnt, .slice (some B) bs.length cb, .slice (some O) os.length co], .int .i64 th] w (AnsP true w (fun v => .tuple #[v, .int .i64 0]) zs cnt (keptT th bs) (keptT th os)) := by
  have HA := Lib.hid hA; have HT := Lib.hid hT; have HC := Lib.hid hC; clear hA hT hC
  have HB0 := Lib.hid (below_alloc3 w (.cells #[.slice (some A) zs.length ca, .int .i64 cnt, .slice (some B) bs.length cb, .slice (some O) os.length co] 31) (.cells #[.int .i64 th] 3) (.cells #[.slice none 0 0, .int .i64 0, .slice none 0 0, .slice none 0 0] 31))
  have HX := Lib.hid ((BoxC.new 31 w #[.slice (some A) zs.length ca, .int .i64 cnt, .slice (some B) bs.length cb, .slice (some O) os.length co]).below (below_alloc2 _ (.cells #[.int .i64 th] 3) (.cells #[.slice none 0 0, .int .i64 0, .slice none 0 0, .slice none 0 0] 31)))
  have HN := Lib.hid (by have h := (BoxC.new 3 (w.alloc (.cells #[.slice (some A) zs.length ca, .int .i64 cnt, .slice (some B) bs.length cb, .slice (some O) os.length co] 31)) #[.int .i64 th]).below (below_alloc _ (.cells #[.slice none 0 0, .int .i64 0, .slice none 0 0, .slice none 0 0] 31)); rw [size_alloc] at h; exact h)
  have HR := Lib.hid (by have h := BoxC.new 31 ((w.alloc (.cells #[.slice (some A) zs.length ca, .int .i64 cnt, .slice (some B) bs.length cb, .slice (some O) os.length co] 31)).alloc (.cells #[.int .i64 th] 3)) #[.slice none 0 0, .int .i64 0, .slice none 0 0, .slice none 0 0]; rw [size_alloc, size_alloc] at h; exact h)
  go_enter Try.func20, Try.ntmps20
  have hx := HX.out.cell
  go_wp2_with fail
  refine (implModelOK_any _ _ _ _ _ _ zs bs os cnt _ hz ht hc (HA.out.below HB0.out) (HT.out.below HB0.out) (HC.out.below HB0.out)).mono ?_
  rintro e w1 ⟨rfl, hb⟩
  rw [qm]
  have HB1 := Lib.hid (below_trans HB0.out hb)
  have HX1 := Lib.hid (HX.out.below hb); have HN1 := Lib.hid (HN.out.below hb); have HR1 := Lib.hid (HR.out.below hb)
  clear hb HB0 HX HN HR hx
  have hx := HX1.out.cell
  go_wp2_with fail
  refine (copyModel_any _ _ _ _ _ _ zs bs os cnt _ hz ht hc (HA.out.below HB1.out) (HT.out.below HB1.out) (HC.out.below HB1.out)).mono ?_
  rintro e w3 ⟨B1, d1, B2, d2, B3, d3, rfl, hO, hb⟩
  have HB3 := Lib.hid (below_trans HB1.out hb)
  have HX3 := Lib.hid (HX1.out.below hb); have HN3 := Lib.hid (HN1.out.below hb); have HR3 := Lib.hid (HR1.out.below hb)
  have hs1 : w.heap.size + 1 + 1 < w1.heap.size := HR1.out.lt
  have HO3 := Lib.hid hO
  have hA6 : ∀ q, (Value.slice B1 zs.length d1).ownBlock = some q → q < w3.heap.size := fun q hq => (World.ownsRow.lt hO.st q hq).2
  have hs3 : w1.heap.size ≤ w3.heap.size := hb.size
  have hy3 : w.heap.size + 1 + 1 < w3.heap.size := HR3.out.lt
  clear hb hO HB1 HX1 HN1 HR1 hx
  go_upto_region 4 with (refine wpList_store_row rfl 31 _ _ rfl w3.heap.size _ rfl rfl 31 _ (BoxC.new 31 w3 _) info_model rfl (one4m _ _ _ _ _ _ _ _ _ _) ?_)
  have hbl := below_setRow (below_alloc w3 (.cells #[.slice none 0 0, .int .i64 0, .slice none 0 0, .slice none 0 0] 31)) (Nat.le_refl _) #[.slice B1 zs.length d1, .int .i64 cnt, .slice B2 bs.length d2, .slice B3 os.length d3]
  have hK := (BoxC.new 31 w3 #[.slice none 0 0, .int .i64 0, .slice none 0 0, .slice none 0 0]).mrow #[.slice B1 zs.length d1, .int .i64 cnt, .slice B2 bs.length d2, .slice B3 os.length d3]
  generalize (w3.alloc (.cells #[.slice none 0 0, .int .i64 0, .slice none 0 0, .slice none 0 0] 31)).setRow w3.heap.size #[.slice B1 zs.length d1, .int .i64 cnt, .slice B2 bs.length d2, .slice B3 os.length d3] = w4 at hbl hK ⊢
  have HB4 := Lib.hid (below_trans HB3.out hbl)
  have HX4 := Lib.hid (HX3.out.below hbl); have HN4 := Lib.hid (HN3.out.below hbl); have HR4 := Lib.hid (HR3.out.below hbl)
  have HO4 := Lib.hid (HO3.out.below hbl)
  have HK4 := Lib.hid hK
  have hk4 : w3.heap.size < w4.heap.size := hK.lt
  generalize w3.heap.size = k6 at hK hs3 hy3 HK4 hk4 hA6 ⊢
  clear hbl hK HB3 HX3 HN3 HR3 HO3
  have hx := HX4.out.cell; have hn := HN4.out.cell
  go_wp2_with fail
  refine (waits_any _ _ _ _ _ _ zs bs os cnt th _ ht hc (HT.out.below HB4.out) (HC.out.below HB4.out)).mono ?_
  rintro e w5 ⟨rfl, hb⟩
  rw [qw]
  have HB5 := Lib.hid (below_trans HB4.out hb)
  have HX5 := Lib.hid (HX4.out.below hb); have HN5 := Lib.hid (HN4.out.below hb); have HR5 := Lib.hid (HR4.out.below hb)
  have HO5 := Lib.hid (HO4.out.below hb); have HK5 := Lib.hid (HK4.out.below hb)
  have hk5 : k6 < w5.heap.size := HK5.out.lt
  have hs5 : w4.heap.size ≤ w5.heap.size := hb.size
  clear hb HB4 HX4 HN4 HR4 HO4 HK4 hx hn
  have hx := HX5.out.cell; have hk := HK5.out.cell
  go_wp2_with fail
  refine (onlyW_any (w.heap.size + 1) th _ _ bs _ (HT.out.below HB5.out) ht HN5.out).mono ?_
  rintro e w6 ⟨G, g, rfl, hG, hb⟩
  have HB6 := Lib.hid (below_trans HB5.out hb)
  have HX6 := Lib.hid (HX5.out.below hb); have HN6 := Lib.hid (HN5.out.below hb); have HR6 := Lib.hid (HR5.out.below hb); have HK6 := Lib.hid (HK5.out.below hb)
  have HS6 := Lib.hid (HO5.out.st.below hb); have HG6 := Lib.hid hG
  have hlA : ∀ q, (Value.slice B1 zs.length d1).ownBlock = some q → q < w5.heap.size := fun q hq => (World.ownsRow.lt HO5.out.st q hq).2
  have hlG : ∀ q, (Value.slice G (keptT th bs).length g).ownBlock = some q → w5.heap.size ≤ q ∧ q < w6.heap.size := fun q hq => World.ownsRow.lt hG q hq
  have hs6 : w5.heap.size ≤ w6.heap.size := hb.size
  clear hb hG HB5 HX5 HN5 HR5 HO5 HK5 hx hk
  have hf := HK6.out.mfroz; have hk := HK6.out.cell
  go_upto_region 8 with fail
  have HB7 := Lib.hid (HB6.out.setCell (p := ⟨k6, 2, none⟩) (by simp <;> omega) (.slice G (keptT th bs).length g))
  have HX7 := Lib.hid (HX6.out.msetO ⟨k6, 2, none⟩ (.slice G (keptT th bs).length g) (by simp <;> omega)); have HN7 := Lib.hid (HN6.out.msetO ⟨k6, 2, none⟩ (.slice G (keptT th bs).length g) (by simp <;> omega)); have HR7 := Lib.hid (HR6.out.msetO ⟨k6, 2, none⟩ (.slice G (keptT th bs).length g) (by simp <;> omega))
  have HK7 : Hid (BoxC 31 (w6.setCell ⟨k6, 2, none⟩ (.slice G (keptT th bs).length g)) k6 #[.slice B1 zs.length d1, .int .i64 cnt, .slice G (keptT th bs).length g, .slice B3 os.length d3]) := Lib.hid (HK6.out.mset 2 _)
  have HS7 : Hid (NewA w1.heap.size (w6.setCell ⟨k6, 2, none⟩ (.slice G (keptT th bs).length g)) B1 d1 zs) := Lib.hid (ownsRow_setCell_other HS6.out (by intro e; have := hA6 k6 e; omega) _)
  have HG7 : Hid (OwnR Wtr.cs 3 35 w5.heap.size (w6.setCell ⟨k6, 2, none⟩ (.slice G (keptT th bs).length g)) G g (keptT th bs)) := Lib.hid (ownsRow_setCell_below HG6.out (by simp <;> omega) _)
  have hs7 : (w6.setCell ⟨k6, 2, none⟩ (.slice G (keptT th bs).length g)).heap.size = w6.heap.size := size_setc2 _ _ _
  generalize w6.setCell ⟨k6, 2, none⟩ (.slice G (keptT th bs).length g) = w7 at HB7 HX7 HN7 HR7 HK7 HS7 HG7 hs7 ⊢
  clear hf hk HB6 HX6 HN6 HR6 HK6 HS6 HG6
  have hx := HX7.out.cell; have hk := HK7.out.cell
  go_wp2_with fail
  refine (onlyW_any (w.heap.size + 1) th _ _ os _ (HC.out.below HB7.out) hc HN7.out).mono ?_
  rintro e w8 ⟨H, h, rfl, hH, hb⟩
  have HB8 := Lib.hid (below_trans HB7.out hb)
  have HR8 := Lib.hid (HR7.out.below hb); have HK8 := Lib.hid (HK7.out.below hb)
  have HS8 := Lib.hid (HS7.out.below hb); have HG8 := Lib.hid (OwnR.below HG7.out hb); have HH8 := Lib.hid hH
  have hlH : ∀ q, (Value.slice H (keptT th os).length h).ownBlock = some q → w7.heap.size ≤ q ∧ q < w8.heap.size := fun q hq => World.ownsRow.lt hH q hq
  have hs8 : w7.heap.size ≤ w8.heap.size := hb.size
  clear hb hH HB7 HX7 HN7 HR7 HK7 HS7 HG7 hx hk
  have hf := HK8.out.mfroz; have hk := HK8.out.cell
  go_upto_region 9 with fail
  have HB9 := Lib.hid (HB8.out.setCell (p := ⟨k6, 3, none⟩) (by simp <;> omega) (.slice H (keptT th os).length h))
  have HR9 := Lib.hid (HR8.out.msetO ⟨k6, 3, none⟩ (.slice H (keptT th os).length h) (by simp <;> omega))
  have HK9 : Hid (BoxC 31 (w8.setCell ⟨k6, 3, none⟩ (.slice H (keptT th os).length h)) k6 #[.slice B1 zs.length d1, .int .i64 cnt, .slice G (keptT th bs).length g, .slice H (keptT th os).length h]) := Lib.hid (HK8.out.mset 3 _)
  have HS9 : Hid (NewA w1.heap.size (w8.setCell ⟨k6, 3, none⟩ (.slice H (keptT th os).length h)) B1 d1 zs) := Lib.hid (ownsRow_setCell_other HS8.out (by intro e; have := hA6 k6 e; omega) _)
  have HG9 : Hid (OwnR Wtr.cs 3 35 w5.heap.size (w8.setCell ⟨k6, 3, none⟩ (.slice H (keptT th os).length h)) G g (keptT th bs)) := Lib.hid (ownsRow_setCell_below HG8.out (by simp <;> omega) _)
  have HH9 : Hid (OwnR Wtr.cs 3 35 w7.heap.size (w8.setCell ⟨k6, 3, none⟩ (.slice H (keptT th os).length h)) H h (keptT th os)) := Lib.hid (ownsRow_setCell_below HH8.out (by simp <;> omega) _)
  have hs9 : (w8.setCell ⟨k6, 3, none⟩ (.slice H (keptT th os).length h)).heap.size = w8.heap.size := size_setc2 _ _ _
  generalize w8.setCell ⟨k6, 3, none⟩ (.slice H (keptT th os).length h) = w9 at HB9 HR9 HK9 HS9 HG9 HH9 hs9 ⊢
  clear hf hk HB8 HR8 HK8 HS8 HG8 HH8
  have hx := HK9.out.cell
  go_wp2_with (refine wpList_store_row rfl 31 _ _ rfl (w.heap.size + 1 + 1) _ rfl rfl 31 _ HR9.out info_model rfl (one4m _ _ _ _ _ _ _ _ _ _) ?_)
  have hr := (HR9.out.mrow #[.slice B1 zs.length d1, .int .i64 cnt, .slice G (keptT th bs).length g, .slice H (keptT th os).length h]).cell
  have hb' := below_setRow HB9.out (Nat.le_trans (Nat.le_succ _) (Nat.le_succ _) : w.heap.size ≤ w.heap.size + 1 + 1) #[.slice B1 zs.length d1, .int .i64 cnt, .slice G (keptT th bs).length g, .slice H (keptT th os).length h]
  have hS' := ownsRow_setRow_below HS9.out (k := w.heap.size + 1 + 1) (by omega) #[.slice B1 zs.length d1, .int .i64 cnt, .slice G (keptT th bs).length g, .slice H (keptT th os).length h]
  have hG' := ownsRow_setRow_below HG9.out (k := w.heap.size + 1 + 1) (by omega) #[.slice B1 zs.length d1, .int .i64 cnt, .slice G (keptT th bs).length g, .slice H (keptT th os).length h]
  have hH' := ownsRow_setRow_below HH9.out (k := w.heap.size + 1 + 1) (by omega) #[.slice B1 zs.length d1, .int .i64 cnt, .slice G (keptT th bs).length g, .slice H (keptT th os).length h]
  generalize w9.setRow (w.heap.size + 1 + 1) #[.slice B1 zs.length d1, .int .i64 cnt, .slice G (keptT th bs).length g, .slice H (keptT th os).length h] = wa at hr hb' hS' hG' hH' ⊢
  clear hx
  refine bodyPost_ret (v := .tuple #[.agg #[.slice B1 zs.length d1, .int .i64 cnt, .slice G (keptT th bs).length g, .slice H (keptT th os).length h], .int .i64 0]) (by simp [results, Try.results20, go_sem, hr]) rfl ⟨B1, d1, G, g, H, h, rfl, .of ((SegC.ofI hS').base (by omega)), .of ((SegC.ofW hG').base (by omega)), .of ((SegC.ofW hH').base (by omega)),
    fun _ => ⟨fun q hq => by have := World.ownsRow.lt hS' q hq; omega, fun q hq => by have := World.ownsRow.lt hG' q hq; omega, fun q hq => by have := World.ownsRow.lt hH' q hq; omega, fun q e1 e2 => by have := hlA q e1; have := hlG q e2; omega, fun q e1 e2 => by have := hlA q e1; have := hlH q e2; omega, fun q e1 e2 => by have := hlG q e1; have := hlH q e2; omega⟩, hb'⟩

end Go.Proofs.Ythianfhfamkcmaa

namespace Go.Proofs.Ythianfhfamkcmaa
open Go.RowKit

set_option maxHeartbeats 4000000 in
set_option maxRecDepth 100000 in
theorem smleave_no (A B O : Addr) (ca cb co : Nat) (zs : List Int) (bs os : List Wtr) (cnt th : Int) (w : World) (hz : zs.length ≤ 1048576) (ht : bs.length ≤ 1048576) (hc : os.length ≤ 1048576) (hA : Rd w (some A) zs) (hT : RdR Wtr.cs w (some B) bs) (hC : RdR Wtr.cs w (some O) os) (qm : mdB zs cnt bs os = false) :
    Calls Try.prog 19 #[.agg #[.slice (some A) zs.length ca, .int .i64 cnt, .slice (some B) bs.length cb, .slice (some O) os.length co], .int .i64 th] w (fun e w' => e = .returned (.tuple #[.agg #[.slice none 0 0, .int .i64 0, .slice none 0 0, .slice none 0 0], .int .i64 1]) ∧ Below w.heap.size w w') := by
  have HA := Lib.hid hA; have HT := Lib.hid hT; have HC := Lib.hid hC; clear hA hT hC
  have HB0 := Lib.hid (below_alloc2 w (.cells #[.slice (some A) zs.length ca, .int .i64 cnt, .slice (some B) bs.length cb, .slice (some O) os.length co] 31) (.cells #[.slice none 0 0, .int .i64 0, .slice none 0 0, .slice none 0 0] 31))
  have HX := Lib.hid ((BoxC.new 31 w #[.slice (some A) zs.length ca, .int .i64 cnt, .slice (some B) bs.length cb, .slice (some O) os.length co]).below (below_alloc _ (.cells #[.slice none 0 0, .int .i64 0, .slice none 0 0, .slice none 0 0] 31)))
  have HR := Lib.hid (by have h := BoxC.new 31 (w.alloc (.cells #[.slice (some A) zs.length ca, .int .i64 cnt, .slice (some B) bs.length cb, .slice (some O) os.length co] 31)) #[.slice none 0 0, .int .i64 0, .slice none 0 0, .slice none 0 0]; rw [size_alloc] at h; exact h)
  go_enter Try.func19, Try.ntmps19
  have hx := HX.out.cell
  go_wp2_with fail
  refine (specModelOK_any _ _ _ _ _ _ zs bs os cnt _ hz ht hc (HA.out.below HB0.out) (HT.out.below HB0.out) (HC.out.below HB0.out)).mono ?_
  rintro e w1 ⟨rfl, hb⟩
  rw [qm]
  have HB1 := Lib.hid (below_trans HB0.out hb)
  have HX1 := Lib.hid (HX.out.below hb); have HR1 := Lib.hid (HR.out.below hb)
  clear hb HB0 HX HR hx
  go_wp2_with (refine wpList_store_row rfl 31 _ _ rfl (w.heap.size + 1) _ rfl rfl 31 _ HR1.out info_model rfl (one4m _ _ _ _ _ _ _ _ _ _) ?_)
  have hr := (HR1.out.mrow #[.slice none 0 0, .int .i64 0, .slice none 0 0, .slice none 0 0]).cell
  have hb' := below_setRow HB1.out (Nat.le_succ _ : w.heap.size ≤ w.heap.size + 1) #[.slice none 0 0, .int .i64 0, .slice none 0 0, .slice none 0 0]
  generalize w1.setRow (w.heap.size + 1) #[.slice none 0 0, .int .i64 0, .slice none 0 0, .slice none 0 0] = w9 at hr hb' ⊢
  refine bodyPost_ret (v := .tuple #[.agg #[.slice none 0 0, .int .i64 0, .slice none 0 0, .slice none 0 0], .int .i64 1]) (by simp [results, Try.results19, go_sem, hr]) rfl ⟨rfl, hb'⟩

set_option maxHeartbeats 4000000 in
set_option maxRecDepth 100000 in
theorem smleave_idle (A B O : Addr) (ca cb co : Nat) (zs : List Int) (bs os : List Wtr) (cnt th : Int) (w : World) (hz : zs.length ≤ 1048576) (ht : bs.length ≤ 1048576) (hc : os.length ≤ 1048576) (hA : Rd w (some A) zs) (hT : RdR Wtr.cs w (some B) bs) (hC : RdR Wtr.cs w (some O) os) (qm : mdB zs cnt bs os = true) (qw : waitsB bs os th = false) :
    Calls Try.prog 19 #[.agg #[.slice (some A) zs.length ca, .int .i64 cnt, .slice (some B) bs.length cb, .slice (some O) os.length co], .int .i64 th] w (AnsP false w (fun v => .tuple #[v, .int .i64 10]) zs cnt bs os) := by
  have HA := Lib.hid hA; have HT := Lib.hid hT; have HC := Lib.hid hC; clear hA hT hC
  have HB0 := Lib.hid (below_alloc2 w (.cells #[.slice (some A) zs.length ca, .int .i64 cnt, .slice (some B) bs.length cb, .slice (some O) os.length co] 31) (.cells #[.slice none 0 0, .int .i64 0, .slice none 0 0, .slice none 0 0] 31))
  have HX := Lib.hid ((BoxC.new 31 w #[.slice (some A) zs.length ca, .int .i64 cnt, .slice (some B) bs.length cb, .slice (some O) os.length co]).below (below_alloc _ (.cells #[.slice none 0 0, .int .i64 0, .slice none 0 0, .slice none 0 0] 31)))
  have HR := Lib.hid (by have h := BoxC.new 31 (w.alloc (.cells #[.slice (some A) zs.length ca, .int .i64 cnt, .slice (some B) bs.length cb, .slice (some O) os.length co] 31)) #[.slice none 0 0, .int .i64 0, .slice none 0 0, .slice none 0 0]; rw [size_alloc] at h; exact h)
  go_enter Try.func19, Try.ntmps19
  have hx := HX.out.cell
  go_wp2_with fail
  refine (specModelOK_any _ _ _ _ _ _ zs bs os cnt _ hz ht hc (HA.out.below HB0.out) (HT.out.below HB0.out) (HC.out.below HB0.out)).mono ?_
  rintro e w1 ⟨rfl, hb⟩
  rw [qm]
  have HB1 := Lib.hid (below_trans HB0.out hb)
  have HX1 := Lib.hid (HX.out.below hb); have HR1 := Lib.hid (HR.out.below hb)
  clear hb HB0 HX HR hx
  have hx := HX1.out.cell
  go_wp2_with fail
  refine (l10Waits_any _ _ _ _ _ _ zs bs os cnt th _ ht (md_parts qm).2.2.2.1 (HT.out.below HB1.out) (HC.out.below HB1.out)).mono ?_
  rintro e w2 ⟨rfl, hb⟩
  rw [qw]
  have HB2 := Lib.hid (below_trans HB1.out hb)
  have HX2 := Lib.hid (HX1.out.below hb); have HR2 := Lib.hid (HR1.out.below hb)
  clear hb HB1 HX1 HR1 hx
  have hx := HX2.out.cell
  go_wp2_with fail
  refine (l10Own_any _ _ _ _ _ _ zs bs os cnt _ hz ht hc (HA.out.below HB2.out) (HT.out.below HB2.out) (HC.out.below HB2.out)).mono ?_
  rintro e w3 ⟨B1, d1, B2, d2, B3, d3, rfl, hO, hb⟩
  have hs2 : w.heap.size + 1 < w2.heap.size := HR2.out.lt
  have HB3 := Lib.hid (below_trans HB2.out hb)
  have HX3 := Lib.hid (HX2.out.below hb); have HR3 := Lib.hid (HR2.out.below hb)
  have HO3 := Lib.hid hO
  have hs3 : w2.heap.size ≤ w3.heap.size := hb.size
  clear hb hO HB2 HX2 HR2 hx
  go_wp2_with (refine wpList_store_row rfl 31 _ _ rfl (w.heap.size + 1) _ rfl rfl 31 _ HR3.out info_model rfl (one4m _ _ _ _ _ _ _ _ _ _) ?_)
  have hr := (HR3.out.mrow #[.slice B1 zs.length d1, .int .i64 cnt, .slice B2 bs.length d2, .slice B3 os.length d3]).cell
  have hb' := below_setRow HB3.out (Nat.le_succ _ : w.heap.size ≤ w.heap.size + 1) #[.slice B1 zs.length d1, .int .i64 cnt, .slice B2 bs.length d2, .slice B3 os.length d3]
  have hO' := OwnO.row HO3.out (k := w.heap.size + 1) (by omega) #[.slice B1 zs.length d1, .int .i64 cnt, .slice B2 bs.length d2, .slice B3 os.length d3]
  generalize w3.setRow (w.heap.size + 1) #[.slice B1 zs.length d1, .int .i64 cnt, .slice B2 bs.length d2, .slice B3 os.length d3] = w9 at hr hb' hO' ⊢
  refine bodyPost_ret (v := .tuple #[.agg #[.slice B1 zs.length d1, .int .i64 cnt, .slice B2 bs.length d2, .slice B3 os.length d3], .int .i64 10]) (by simp [results, Try.results19, go_sem, hr]) rfl ⟨B1, d1, B2, d2, B3, d3, rfl, .of ((SegC.ofI hO'.st).base (by omega)), .of ((SegC.ofW hO'.wt).base (by omega)), .of ((SegC.ofW hO'.of).base (by omega)), fun q => absurd q (by decide), hb'⟩

end Go.Proofs.Ythianfhfamkcmaa

namespace Go.Proofs.Ythianfhfamkcmaa
open Go.RowKit

set_option maxHeartbeats 4000000 in
set_option maxRecDepth 100000 in
theorem smleave_N (A B O : Addr) (ca cb co : Nat) (zs : List Int) (bs : List Wtr) (cnt th : Int) (w : World) (hz : zs.length ≤ 1048576) (ht : bs.length ≤ 1048576) (hc : ([] : List Wtr).length ≤ 1048576) (hA : Rd w (some A) zs) (hT : RdR Wtr.cs w (some B) bs) (hC : RdR Wtr.cs w (some O) ([] : List Wtr)) (qm : mdB zs cnt bs ([] : List Wtr) = true) (qw : waitsB bs ([] : List Wtr) th = true) :
    Calls Try.prog 19 #[.agg #[.slice (some A) zs.length ca, .int .i64 cnt, .slice (some B) bs.length cb, .slice (some O) ([] : List Wtr).length co], .int .i64 th] w (AnsP false w (fun v => .tuple #[v, .int .i64 0]) zs cnt (keptT th bs) ([] : List Wtr)) := by
  have HA := Lib.hid hA; have HT := Lib.hid hT; have HC := Lib.hid hC; clear hA hT hC
  have HB0 := Lib.hid (below_alloc2 w (.cells #[.slice (some A) zs.length ca, .int .i64 cnt, .slice (some B) bs.length cb, .slice (some O) ([] : List Wtr).length co] 31) (.cells #[.slice none 0 0, .int .i64 0, .slice none 0 0, .slice none 0 0] 31))
  have HX := Lib.hid ((BoxC.new 31 w #[.slice (some A) zs.length ca, .int .i64 cnt, .slice (some B) bs.length cb, .slice (some O) ([] : List Wtr).length co]).below (below_alloc _ (.cells #[.slice none 0 0, .int .i64 0, .slice none 0 0, .slice none 0 0] 31)))
  have HR := Lib.hid (by have h := BoxC.new 31 (w.alloc (.cells #[.slice (some A) zs.length ca, .int .i64 cnt, .slice (some B) bs.length cb, .slice (some O) ([] : List Wtr).length co] 31)) #[.slice none 0 0, .int .i64 0, .slice none 0 0, .slice none 0 0]; rw [size_alloc] at h; exact h)
  go_enter Try.func19, Try.ntmps19
  have hx := HX.out.cell
  go_wp2_with fail
  refine (specModelOK_any _ _ _ _ _ _ zs bs ([] : List Wtr) cnt _ hz ht hc (HA.out.below HB0.out) (HT.out.below HB0.out) (HC.out.below HB0.out)).mono ?_
  rintro e w1 ⟨rfl, hb⟩
  rw [qm]
  have HB1 := Lib.hid (below_trans HB0.out hb)
  have HX1 := Lib.hid (HX.out.below hb); have HR1 := Lib.hid (HR.out.below hb)
  clear hb HB0 HX HR hx
  have hx := HX1.out.cell
  go_wp2_with fail
  refine (l10Waits_any _ _ _ _ _ _ zs bs ([] : List Wtr) cnt th _ ht (md_parts qm).2.2.2.1 (HT.out.below HB1.out) (HC.out.below HB1.out)).mono ?_
  rintro e w2 ⟨rfl, hb⟩
  rw [qw]
  have HB2 := Lib.hid (below_trans HB1.out hb)
  have HX2 := Lib.hid (HX1.out.below hb); have HR2 := Lib.hid (HR1.out.below hb)
  clear hb HB1 HX1 HR1 hx
  have hx := HX2.out.cell
  go_wp2_with fail
  refine (l10Own_any _ _ _ _ _ _ zs bs ([] : List Wtr) cnt _ hz ht hc (HA.out.below HB2.out) (HT.out.below HB2.out) (HC.out.below HB2.out)).mono ?_
  rintro e w3 ⟨B1, d1, B2, d2, B3, d3, rfl, hO, hb⟩
  have hs2 : w.heap.size + 1 < w2.heap.size := HR2.out.lt
  have HB3 := Lib.hid (below_trans HB2.out hb)
  have HX3 := Lib.hid (HX2.out.below hb); have HR3 := Lib.hid (HR2.out.below hb)
  have HO3 := Lib.hid hO
  have hs3 : w2.heap.size ≤ w3.heap.size := hb.size
  clear hb hO HB2 HX2 HR2 hx
  obtain ⟨j0, hj, hy0, hy1, hy2⟩ := infoW
  have Hj := Lib.hid hj; have Hy0 := Lib.hid hy0; have Hy1 := Lib.hid hy1; have Hy2 := Lib.hid hy2
  clear hj hy0 hy1 hy2
  go_upto_region 6 with (refine wpList_store_row rfl 31 _ _ rfl w.heap.size _ rfl rfl 31 _ HX3.out info_model rfl (one4m _ _ _ _ _ _ _ _ _ _) ?_)
  have HX4 := Lib.hid (HX3.out.mrow #[.slice B1 zs.length d1, .int .i64 cnt, .slice B2 bs.length d2, .slice B3 ([] : List Wtr).length d3])
  have HR4 := Lib.hid (HR3.out.mrowO (b := w.heap.size) (by omega) #[.slice B1 zs.length d1, .int .i64 cnt, .slice B2 bs.length d2, .slice B3 ([] : List Wtr).length d3])
  have HB4 := Lib.hid (below_setRow HB3.out (Nat.le_refl _) #[.slice B1 zs.length d1, .int .i64 cnt, .slice B2 bs.length d2, .slice B3 ([] : List Wtr).length d3])
  have HO4 := Lib.hid (OwnO.row HO3.out (k := w.heap.size) (by omega) #[.slice B1 zs.length d1, .int .i64 cnt, .slice B2 bs.length d2, .slice B3 ([] : List Wtr).length d3])
  generalize w3.setRow w.heap.size #[.slice B1 zs.length d1, .int .i64 cnt, .slice B2 bs.length d2, .slice B3 ([] : List Wtr).length d3] = w4 at HX4 HR4 HB4 HO4 ⊢
  have hs4 : w.heap.size + 1 < w4.heap.size := HR4.out.lt
  clear HX3 HR3 HB3 HO3
  go_wp2_with fail
  go_loopw [6, 7] (fun lv i wr => ∃ (k : Nat) (G : Option Addr) (g : Nat), k ≤ bs.length ∧ i = .int .i64 k ∧ lv = .slice G (keptT th (bs.take k)).length g ∧ OwnR Wtr.cs 3 35 w4.heap.size wr G g (keptT th (bs.take k)) ∧ Below w4.heap.size w4 wr) (fun _ i _ => bs.length - (intOf i).toNat)
  case atStart => exact ⟨0, some ⟨w4.heap.size, 0, none⟩, 0, Nat.zero_le _, rfl, by simp [keptT], own_emptyW w4 w4.heap.size w4.heap.size rfl (Nat.le_refl _), below_alloc _ _⟩
  case round =>
    obtain ⟨k, G, g, hk, rfl, rfl, hG, hbl⟩ := hrel
    have HG := Lib.hid hG; have HBL := Lib.hid hbl
    have hsz := hbl.size
    clear hG hbl
    by_cases hlt : k < bs.length
    · obtain ⟨x, hx⟩ : ∃ x, bs[k]? = some x := ⟨_, List.getElem?_eq_getElem hlt⟩
      obtain ⟨b, o, rfl, hrow⟩ := (HO4.out.wt.rd.below HBL.out).row Wtr.len k x hx
      obtain ⟨xt, xo, xa⟩ := x
      have HXX := Lib.hid hx
      have HRW : Hid (wr.rangeAt b (o + k * 3) [.int .i64 xt, .int .i64 xo, .int .i64 xa]) := hrow
      dsimp only [Wtr.cs] at hrow
      have h00 := hrow 0 _ rfl
      rw [Nat.add_zero] at h00
      have HXr := Lib.hid (HX4.out.below HBL.out)
      have hm := HXr.out.cell
      have hyw : w.heap.size < wr.heap.size := HXr.out.lt
      have hlt' : (k : Int) < bs.length := by omega
      have hk1 : (k : Int) + 1 ≤ 9223372036854775807 := by omega
      have htl : (keptT th (bs.take k)).length ≤ bs.length := Nat.le_trans (keptT_len th (bs.take k)) (by rw [List.length_take]; omega)
      have hbk : w4.heap.size ≤ wr.heap.size := hsz
      clear hx hrow
      by_cases q : xt = th
      · have hkp : keptT th (bs.take (k + 1)) = keptT th (bs.take k) := by rw [List.take_add_one, HXX.out]; exact keptT_miss _ (by unfold keepT; simp [q])
        have HKP := Lib.hid hkp; have HTL := Lib.hid htl; clear hkp htl
        go_wp2_with fail
        go_roundw
        case rel => exact ⟨k + 1, G, g, by omega, by simp, by rw [HKP.out], by rw [HKP.out]; exact HG.out, HBL.out⟩
        case measure => simp [intOf]; omega
      · have hkp : keptT th (bs.take (k + 1)) = keptT th (bs.take k) ++ [⟨xt, xo, xa⟩] := by rw [List.take_add_one, HXX.out]; exact keptT_hit _ (by unfold keepT; simp [q])
        generalize keptT th (bs.take k) = ls at HG hkp htl ⊢
        have HKP := Lib.hid hkp; have HTL := Lib.hid htl; have HBK := Lib.hid hbk; clear hkp htl
        clear hm HXr hlt' hk1 hbk hyw hsz
        have hm := (HX4.out.below HBL.out).cell
        have hyw : w.heap.size < wr.heap.size := (HX4.out.below HBL.out).lt
        have hlt' : (k : Int) < bs.length := by omega
        go_wp2_with (first
          | (refine wpList_load_mid rfl 35 _ rfl b (o + k * 3) ?_ _ _ HRW.out Try.underlying35 rfl info_iWaiter ?_; rfl)
          | (at_builtin; refine wpList_append_rows Wtr.len (by decide) Wtr.one _ rfl (.tmp 36) (.tmp 42) 29 rfl w4.heap.size 35 j0 (.agg #[.int .i64 0, .int .i64 0, .int .i64 0]) 24 Try.underlying29 Hj.out Hy0.out Hy1.out Hy2.out rfl _ ls rfl (own_below HG.out (below_alloc _ _)) (some ⟨wr.heap.size, 0, none⟩) 1 [⟨xt, xo, xa⟩] rfl (.inr ⟨wr.heap.size, 0, rfl, fun j v hj => by rw [Nat.zero_add, (BoxC.new 35 wr #[.int .i64 xt, .int .i64 xo, .int .i64 xa]).cell j]; simpa [flatV, Wtr.cs] using hj⟩) ?_ ?_ (by have := HBK.out; simp <;> omega) ?_))
        · show (ls.length + 1) * _ ≤ _; have := HTL.out; omega
        · show ls.length + 1 ≤ maxLen; unfold maxLen; have := HTL.out; omega
        intro G' g' w6 hown hgr
        have hk1 : (k : Int) + 1 ≤ 9223372036854775807 := by omega
        go_wp2_with fail
        go_roundw
        case rel => exact ⟨k + 1, G', g', by omega, by simp, by rw [HKP.out] <;> simp, by rw [HKP.out]; first | exact hown | (unfold OwnR; simpa using hown), (HBL.out.alloc HBK.out _).grown hgr (by have := HBK.out; simp <;> omega) (fun r e => (World.ownsRow.lt HG.out r e).1)⟩
        case measure => simp [intOf]; omega
    · obtain rfl : k = bs.length := by omega
      rw [List.take_length] at HG ⊢
      have HX5 := Lib.hid (HX4.out.below HBL.out); have HR5 := Lib.hid (HR4.out.below HBL.out)
      have HB5 := Lib.hid (below_trans HB4.out HBL.out)
      have HO5 := Lib.hid (HO4.out.below HBL.out)
      have hx := HX5.out.cell; have hf := HX5.out.mfroz
      have hyw : w.heap.size < wr.heap.size := HX5.out.lt
      go_upto_region 13 with fail
      have HX6 : Hid (BoxC 31 (wr.setCell ⟨w.heap.size, 2, none⟩ (.slice G (keptT th bs).length g)) w.heap.size #[.slice B1 zs.length d1, .int .i64 cnt, .slice G (keptT th bs).length g, .slice B3 0 d3]) := Lib.hid (HX5.out.mset 2 _)
      have HR6 := Lib.hid (HR5.out.msetO ⟨w.heap.size, 2, none⟩ (.slice G (keptT th bs).length g) (by simp <;> omega))
      have HB6 := Lib.hid (HB5.out.setCell (p := ⟨w.heap.size, 2, none⟩) (Nat.le_refl _) (.slice G (keptT th bs).length g))
      have HA6 := Lib.hid (SegC.low ((SegC.ofI HO5.out.st).base (b1 := w.heap.size + 1 + 1) (by omega)) (k := w.heap.size) (o := 2) (by omega) (.slice G (keptT th bs).length g))
      have HC6 := Lib.hid (SegC.low ((SegC.ofW HO5.out.of).base (b1 := w.heap.size + 1 + 1) (by omega)) (k := w.heap.size) (o := 2) (by omega) (.slice G (keptT th bs).length g))
      have HG6 := Lib.hid (SegC.low ((SegC.ofW HG.out).base (b1 := w.heap.size + 1 + 1) (by omega)) (k := w.heap.size) (o := 2) (by omega) (.slice G (keptT th bs).length g))
      generalize wr.setCell ⟨w.heap.size, 2, none⟩ (.slice G (keptT th bs).length g) = w6 at HX6 HR6 HB6 HA6 HC6 HG6 ⊢
      clear hx hf HX5 HR5 HB5 HO5
      have hy6 : w.heap.size < w6.heap.size := HX6.out.lt
      have hx := HX6.out.cell
      go_wp2_with (refine wpList_store_row rfl 31 _ _ rfl (w.heap.size + 1) _ rfl rfl 31 _ HR6.out info_model rfl (one4m _ _ _ _ _ _ _ _ _ _) ?_)
      have hr := (HR6.out.mrow #[.slice B1 zs.length d1, .int .i64 cnt, .slice G (keptT th bs).length g, .slice B3 0 d3]).cell
      have hb' := below_setRow HB6.out (Nat.le_succ _ : w.heap.size ≤ w.heap.size + 1) #[.slice B1 zs.length d1, .int .i64 cnt, .slice G (keptT th bs).length g, .slice B3 0 d3]
      have sA := SegC.row (n := zs.length) (c := d1) HA6.out (k := w.heap.size + 1) (by omega) #[.slice B1 zs.length d1, .int .i64 cnt, .slice G (keptT th bs).length g, .slice B3 0 d3]
      have sB := SegC.row (n := (keptT th bs).length) (c := g) HG6.out (k := w.heap.size + 1) (by omega) #[.slice B1 zs.length d1, .int .i64 cnt, .slice G (keptT th bs).length g, .slice B3 0 d3]
      have sO := SegC.row (n := 0) (c := 0) HC6.out (k := w.heap.size + 1) (by omega) #[.slice B1 zs.length d1, .int .i64 cnt, .slice G (keptT th bs).length g, .slice B3 0 d3]
      generalize w6.setRow (w.heap.size + 1) #[.slice B1 zs.length d1, .int .i64 cnt, .slice G (keptT th bs).length g, .slice B3 0 d3] = wz at hr hb' sA sB sO ⊢
      clear hx
      refine bodyPost_ret (v := .tuple #[.agg #[.slice B1 zs.length d1, .int .i64 cnt, .slice G (keptT th bs).length g, .slice B3 0 d3], .int .i64 0]) (by simp [results, Try.results19, go_sem, hr]) rfl ⟨B1, d1, G, g, B3, d3, rfl, .of (sA.base (by omega)), .of (sB.base (by omega)), .of (sO.base (by omega)), fun q => absurd q (by decide), hb'⟩
end Go.Proofs.Ythianfhfamkcmaa

namespace Go.Proofs.Ythianfhfamkcmaa
open Go.RowKit

set_option maxHeartbeats 4000000 in
set_option maxRecDepth 100000 in
theorem smleave_K (A B O : Addr) (ca cb co : Nat) (zs : List Int) (bs : List Wtr) (x : Wtr) (cnt th : Int) (w : World) (hz : zs.length ≤ 1048576) (ht : bs.length ≤ 1048576) (hc : [x].length ≤ 1048576) (hA : Rd w (some A) zs) (hT : RdR Wtr.cs w (some B) bs) (hC : RdR Wtr.cs w (some O) [x]) (qm : mdB zs cnt bs [x] = true) (qw : waitsB bs [x] th = true) (qx : ¬ x.th = th) :
    Calls Try.prog 19 #[.agg #[.slice (some A) zs.length ca, .int .i64 cnt, .slice (some B) bs.length cb, .slice (some O) [x].length co], .int .i64 th] w (AnsP false w (fun v => .tuple #[v, .int .i64 0]) zs cnt (keptT th bs) [x]) := by
  have HA := Lib.hid hA; have HT := Lib.hid hT; have HC := Lib.hid hC; clear hA hT hC
  have HB0 := Lib.hid (below_alloc2 w (.cells #[.slice (some A) zs.length ca, .int .i64 cnt, .slice (some B) bs.length cb, .slice (some O) [x].length co] 31) (.cells #[.slice none 0 0, .int .i64 0, .slice none 0 0, .slice none 0 0] 31))
  have HX := Lib.hid ((BoxC.new 31 w #[.slice (some A) zs.length ca, .int .i64 cnt, .slice (some B) bs.length cb, .slice (some O) [x].length co]).below (below_alloc _ (.cells #[.slice none 0 0, .int .i64 0, .slice none 0 0, .slice none 0 0] 31)))
  have HR := Lib.hid (by have h := BoxC.new 31 (w.alloc (.cells #[.slice (some A) zs.length ca, .int .i64 cnt, .slice (some B) bs.length cb, .slice (some O) [x].length co] 31)) #[.slice none 0 0, .int .i64 0, .slice none 0 0, .slice none 0 0]; rw [size_alloc] at h; exact h)
  go_enter Try.func19, Try.ntmps19
  have hx := HX.out.cell
  go_wp2_with fail
  refine (specModelOK_any _ _ _ _ _ _ zs bs [x] cnt _ hz ht hc (HA.out.below HB0.out) (HT.out.below HB0.out) (HC.out.below HB0.out)).mono ?_
  rintro e w1 ⟨rfl, hb⟩
  rw [qm]
  have HB1 := Lib.hid (below_trans HB0.out hb)
  have HX1 := Lib.hid (HX.out.below hb); have HR1 := Lib.hid (HR.out.below hb)
  clear hb HB0 HX HR hx
  have hx := HX1.out.cell
  go_wp2_with fail
  refine (l10Waits_any _ _ _ _ _ _ zs bs [x] cnt th _ ht (md_parts qm).2.2.2.1 (HT.out.below HB1.out) (HC.out.below HB1.out)).mono ?_
  rintro e w2 ⟨rfl, hb⟩
  rw [qw]
  have HB2 := Lib.hid (below_trans HB1.out hb)
  have HX2 := Lib.hid (HX1.out.below hb); have HR2 := Lib.hid (HR1.out.below hb)
  clear hb HB1 HX1 HR1 hx
  have hx := HX2.out.cell
  go_wp2_with fail
  refine (l10Own_any _ _ _ _ _ _ zs bs [x] cnt _ hz ht hc (HA.out.below HB2.out) (HT.out.below HB2.out) (HC.out.below HB2.out)).mono ?_
  rintro e w3 ⟨B1, d1, B2, d2, B3, d3, rfl, hO, hb⟩
  have hs2 : w.heap.size + 1 < w2.heap.size := HR2.out.lt
  have HB3 := Lib.hid (below_trans HB2.out hb)
  have HX3 := Lib.hid (HX2.out.below hb); have HR3 := Lib.hid (HR2.out.below hb)
  have HO3 := Lib.hid hO
  have hs3 : w2.heap.size ≤ w3.heap.size := hb.size
  clear hb hO HB2 HX2 HR2 hx
  obtain ⟨j0, hj, hy0, hy1, hy2⟩ := infoW
  have Hj := Lib.hid hj; have Hy0 := Lib.hid hy0; have Hy1 := Lib.hid hy1; have Hy2 := Lib.hid hy2
  clear hj hy0 hy1 hy2
  go_upto_region 6 with (refine wpList_store_row rfl 31 _ _ rfl w.heap.size _ rfl rfl 31 _ HX3.out info_model rfl (one4m _ _ _ _ _ _ _ _ _ _) ?_)
  have HX4 := Lib.hid (HX3.out.mrow #[.slice B1 zs.length d1, .int .i64 cnt, .slice B2 bs.length d2, .slice B3 [x].length d3])
  have HR4 := Lib.hid (HR3.out.mrowO (b := w.heap.size) (by omega) #[.slice B1 zs.length d1, .int .i64 cnt, .slice B2 bs.length d2, .slice B3 [x].length d3])
  have HB4 := Lib.hid (below_setRow HB3.out (Nat.le_refl _) #[.slice B1 zs.length d1, .int .i64 cnt, .slice B2 bs.length d2, .slice B3 [x].length d3])
  have HO4 := Lib.hid (OwnO.row HO3.out (k := w.heap.size) (by omega) #[.slice B1 zs.length d1, .int .i64 cnt, .slice B2 bs.length d2, .slice B3 [x].length d3])
  generalize w3.setRow w.heap.size #[.slice B1 zs.length d1, .int .i64 cnt, .slice B2 bs.length d2, .slice B3 [x].length d3] = w4 at HX4 HR4 HB4 HO4 ⊢
  have hs4 : w.heap.size + 1 < w4.heap.size := HR4.out.lt
  clear HX3 HR3 HB3 HO3
  go_wp2_with fail
  go_loopw [6, 7] (fun lv i wr => ∃ (k : Nat) (G : Option Addr) (g : Nat), k ≤ bs.length ∧ i = .int .i64 k ∧ lv = .slice G (keptT th (bs.take k)).length g ∧ OwnR Wtr.cs 3 35 w4.heap.size wr G g (keptT th (bs.take k)) ∧ Below w4.heap.size w4 wr) (fun _ i _ => bs.length - (intOf i).toNat)
  case atStart => exact ⟨0, some ⟨w4.heap.size, 0, none⟩, 0, Nat.zero_le _, rfl, by simp [keptT], own_emptyW w4 w4.heap.size w4.heap.size rfl (Nat.le_refl _), below_alloc _ _⟩
  case round =>
    obtain ⟨k, G, g, hk, rfl, rfl, hG, hbl⟩ := hrel
    have HG := Lib.hid hG; have HBL := Lib.hid hbl
    have hsz := hbl.size
    clear hG hbl
    by_cases hlt : k < bs.length
    · obtain ⟨x, hx⟩ : ∃ x, bs[k]? = some x := ⟨_, List.getElem?_eq_getElem hlt⟩
      obtain ⟨b, o, rfl, hrow⟩ := (HO4.out.wt.rd.below HBL.out).row Wtr.len k x hx
      obtain ⟨xt, xo, xa⟩ := x
      have HXX := Lib.hid hx
      have HRW : Hid (wr.rangeAt b (o + k * 3) [.int .i64 xt, .int .i64 xo, .int .i64 xa]) := hrow
      dsimp only [Wtr.cs] at hrow
      have h00 := hrow 0 _ rfl
      rw [Nat.add_zero] at h00
      have HXr := Lib.hid (HX4.out.below HBL.out)
      have hm := HXr.out.cell
      have hyw : w.heap.size < wr.heap.size := HXr.out.lt
      have hlt' : (k : Int) < bs.length := by omega
      have hk1 : (k : Int) + 1 ≤ 9223372036854775807 := by omega
      have htl : (keptT th (bs.take k)).length ≤ bs.length := Nat.le_trans (keptT_len th (bs.take k)) (by rw [List.length_take]; omega)
      have hbk : w4.heap.size ≤ wr.heap.size := hsz
      clear hx hrow
      by_cases q : xt = th
      · have hkp : keptT th (bs.take (k + 1)) = keptT th (bs.take k) := by rw [List.take_add_one, HXX.out]; exact keptT_miss _ (by unfold keepT; simp [q])
        have HKP := Lib.hid hkp; have HTL := Lib.hid htl; clear hkp htl
        go_wp2_with fail
        go_roundw
        case rel => exact ⟨k + 1, G, g, by omega, by simp, by rw [HKP.out], by rw [HKP.out]; exact HG.out, HBL.out⟩
        case measure => simp [intOf]; omega
      · have hkp : keptT th (bs.take (k + 1)) = keptT th (bs.take k) ++ [⟨xt, xo, xa⟩] := by rw [List.take_add_one, HXX.out]; exact keptT_hit _ (by unfold keepT; simp [q])
        generalize keptT th (bs.take k) = ls at HG hkp htl ⊢
        have HKP := Lib.hid hkp; have HTL := Lib.hid htl; have HBK := Lib.hid hbk; clear hkp htl
        clear hm HXr hlt' hk1 hbk hyw hsz
        have hm := (HX4.out.below HBL.out).cell
        have hyw : w.heap.size < wr.heap.size := (HX4.out.below HBL.out).lt
        have hlt' : (k : Int) < bs.length := by omega
        go_wp2_with (first
          | (refine wpList_load_mid rfl 35 _ rfl b (o + k * 3) ?_ _ _ HRW.out Try.underlying35 rfl info_iWaiter ?_; rfl)
          | (at_builtin; refine wpList_append_rows Wtr.len (by decide) Wtr.one _ rfl (.tmp 36) (.tmp 42) 29 rfl w4.heap.size 35 j0 (.agg #[.int .i64 0, .int .i64 0, .int .i64 0]) 24 Try.underlying29 Hj.out Hy0.out Hy1.out Hy2.out rfl _ ls rfl (own_below HG.out (below_alloc _ _)) (some ⟨wr.heap.size, 0, none⟩) 1 [⟨xt, xo, xa⟩] rfl (.inr ⟨wr.heap.size, 0, rfl, fun j v hj => by rw [Nat.zero_add, (BoxC.new 35 wr #[.int .i64 xt, .int .i64 xo, .int .i64 xa]).cell j]; simpa [flatV, Wtr.cs] using hj⟩) ?_ ?_ (by have := HBK.out; simp <;> omega) ?_))
        · show (ls.length + 1) * _ ≤ _; have := HTL.out; omega
        · show ls.length + 1 ≤ maxLen; unfold maxLen; have := HTL.out; omega
        intro G' g' w6 hown hgr
        have hk1 : (k : Int) + 1 ≤ 9223372036854775807 := by omega
        go_wp2_with fail
        go_roundw
        case rel => exact ⟨k + 1, G', g', by omega, by simp, by rw [HKP.out] <;> simp, by rw [HKP.out]; first | exact hown | (unfold OwnR; simpa using hown), (HBL.out.alloc HBK.out _).grown hgr (by have := HBK.out; simp <;> omega) (fun r e => (World.ownsRow.lt HG.out r e).1)⟩
        case measure => simp [intOf]; omega
    · obtain rfl : k = bs.length := by omega
      rw [List.take_length] at HG ⊢
      have HX5 := Lib.hid (HX4.out.below HBL.out); have HR5 := Lib.hid (HR4.out.below HBL.out)
      have HB5 := Lib.hid (below_trans HB4.out HBL.out)
      have HO5 := Lib.hid (HO4.out.below HBL.out)
      have hx := HX5.out.cell; have hf := HX5.out.mfroz
      have hyw : w.heap.size < wr.heap.size := HX5.out.lt
      go_upto_region 13 with fail
      have HX6 : Hid (BoxC 31 (wr.setCell ⟨w.heap.size, 2, none⟩ (.slice G (keptT th bs).length g)) w.heap.size #[.slice B1 zs.length d1, .int .i64 cnt, .slice G (keptT th bs).length g, .slice B3 1 d3]) := Lib.hid (HX5.out.mset 2 _)
      have HR6 := Lib.hid (HR5.out.msetO ⟨w.heap.size, 2, none⟩ (.slice G (keptT th bs).length g) (by simp <;> omega))
      have HB6 := Lib.hid (HB5.out.setCell (p := ⟨w.heap.size, 2, none⟩) (Nat.le_refl _) (.slice G (keptT th bs).length g))
      have HA6 := Lib.hid (SegC.low ((SegC.ofI HO5.out.st).base (b1 := w.heap.size + 1 + 1) (by omega)) (k := w.heap.size) (o := 2) (by omega) (.slice G (keptT th bs).length g))
      have HC6 := Lib.hid (SegC.low ((SegC.ofW HO5.out.of).base (b1 := w.heap.size + 1 + 1) (by omega)) (k := w.heap.size) (o := 2) (by omega) (.slice G (keptT th bs).length g))
      have HG6 := Lib.hid (SegC.low ((SegC.ofW HG.out).base (b1 := w.heap.size + 1 + 1) (by omega)) (k := w.heap.size) (o := 2) (by omega) (.slice G (keptT th bs).length g))
      generalize wr.setCell ⟨w.heap.size, 2, none⟩ (.slice G (keptT th bs).length g) = w6 at HX6 HR6 HB6 HA6 HC6 HG6 ⊢
      clear hx hf HX5 HR5 HB5 HO5
      have hy6 : w.heap.size < w6.heap.size := HX6.out.lt
      obtain ⟨b3, o3, rfl, hrow⟩ := HC6.out.rdW.row Wtr.len 0 x rfl
      have h00 := hrow 0 _ rfl
      simp only [Nat.zero_mul, Nat.add_zero] at h00
      have hx := HX6.out.cell
      go_wp2_with (refine wpList_store_row rfl 31 _ _ rfl (w.heap.size + 1) _ rfl rfl 31 _ HR6.out info_model rfl (one4m _ _ _ _ _ _ _ _ _ _) ?_)
      have hr := (HR6.out.mrow #[.slice B1 zs.length d1, .int .i64 cnt, .slice G (keptT th bs).length g, .slice (some ⟨b3, o3, none⟩) 1 d3]).cell
      have hb' := below_setRow HB6.out (Nat.le_succ _ : w.heap.size ≤ w.heap.size + 1) #[.slice B1 zs.length d1, .int .i64 cnt, .slice G (keptT th bs).length g, .slice (some ⟨b3, o3, none⟩) 1 d3]
      have sA := SegC.row (n := zs.length) (c := d1) HA6.out (k := w.heap.size + 1) (by omega) #[.slice B1 zs.length d1, .int .i64 cnt, .slice G (keptT th bs).length g, .slice (some ⟨b3, o3, none⟩) 1 d3]
      have sB := SegC.row (n := (keptT th bs).length) (c := g) HG6.out (k := w.heap.size + 1) (by omega) #[.slice B1 zs.length d1, .int .i64 cnt, .slice G (keptT th bs).length g, .slice (some ⟨b3, o3, none⟩) 1 d3]
      have sO := SegC.row (n := 0) (c := 0) HC6.out (k := w.heap.size + 1) (by omega) #[.slice B1 zs.length d1, .int .i64 cnt, .slice G (keptT th bs).length g, .slice (some ⟨b3, o3, none⟩) 1 d3]
      generalize w6.setRow (w.heap.size + 1) #[.slice B1 zs.length d1, .int .i64 cnt, .slice G (keptT th bs).length g, .slice (some ⟨b3, o3, none⟩) 1 d3] = wz at hr hb' sA sB sO ⊢
      clear hx
      refine bodyPost_ret (v := .tuple #[.agg #[.slice B1 zs.length d1, .int .i64 cnt, .slice G (keptT th bs).length g, .slice (some ⟨b3, o3, none⟩) 1 d3], .int .i64 0]) (by simp [results, Try.results19, go_sem, hr]) rfl ⟨B1, d1, G, g, some ⟨b3, o3, none⟩, d3, rfl, .of (sA.base (by omega)), .of (sB.base (by omega)), .of (sO.base (by omega)), fun q => absurd q (by decide), hb'⟩
end Go.Proofs.Ythianfhfamkcmaa

namespace Go.Proofs.Ythianfhfamkcmaa
open Go.RowKit

set_option maxHeartbeats 4000000 in
set_option maxRecDepth 100000 in
theorem smleave_D (A B O : Addr) (ca cb co : Nat) (zs : List Int) (bs : List Wtr) (x : Wtr) (cnt th : Int) (w : World) (hz : zs.length ≤ 1048576) (ht : bs.length ≤ 1048576) (hc : [x].length ≤ 1048576) (hA : Rd w (some A) zs) (hT : RdR Wtr.cs w (some B) bs) (hC : RdR Wtr.cs w (some O) [x]) (qm : mdB zs cnt bs [x] = true) (qw : waitsB bs [x] th = true) (qx : x.th = th) :
    Calls Try.prog 19 #[.agg #[.slice (some A) zs.length ca, .int .i64 cnt, .slice (some B) bs.length cb, .slice (some O) [x].length co], .int .i64 th] w (AnsP false w (fun v => .tuple #[v, .int .i64 0]) zs cnt (keptT th bs) []) := by
  have HA := Lib.hid hA; have HT := Lib.hid hT; have HC := Lib.hid hC; clear hA hT hC
  have HB0 := Lib.hid (below_alloc2 w (.cells #[.slice (some A) zs.length ca, .int .i64 cnt, .slice (some B) bs.length cb, .slice (some O) [x].length co] 31) (.cells #[.slice none 0 0, .int .i64 0, .slice none 0 0, .slice none 0 0] 31))
  have HX := Lib.hid ((BoxC.new 31 w #[.slice (some A) zs.length ca, .int .i64 cnt, .slice (some B) bs.length cb, .slice (some O) [x].length co]).below (below_alloc _ (.cells #[.slice none 0 0, .int .i64 0, .slice none 0 0, .slice none 0 0] 31)))
  have HR := Lib.hid (by have h := BoxC.new 31 (w.alloc (.cells #[.slice (some A) zs.length ca, .int .i64 cnt, .slice (some B) bs.length cb, .slice (some O) [x].length co] 31)) #[.slice none 0 0, .int .i64 0, .slice none 0 0, .slice none 0 0]; rw [size_alloc] at h; exact h)
  go_enter Try.func19, Try.ntmps19
  have hx := HX.out.cell
  go_wp2_with fail
  refine (specModelOK_any _ _ _ _ _ _ zs bs [x] cnt _ hz ht hc (HA.out.below HB0.out) (HT.out.below HB0.out) (HC.out.below HB0.out)).mono ?_
  rintro e w1 ⟨rfl, hb⟩
  rw [qm]
  have HB1 := Lib.hid (below_trans HB0.out hb)
  have HX1 := Lib.hid (HX.out.below hb); have HR1 := Lib.hid (HR.out.below hb)
  clear hb HB0 HX HR hx
  have hx := HX1.out.cell
  go_wp2_with fail
  refine (l10Waits_any _ _ _ _ _ _ zs bs [x] cnt th _ ht (md_parts qm).2.2.2.1 (HT.out.below HB1.out) (HC.out.below HB1.out)).mono ?_
  rintro e w2 ⟨rfl, hb⟩
  rw [qw]
  have HB2 := Lib.hid (below_trans HB1.out hb)
  have HX2 := Lib.hid (HX1.out.below hb); have HR2 := Lib.hid (HR1.out.below hb)
  clear hb HB1 HX1 HR1 hx
  have hx := HX2.out.cell
  go_wp2_with fail
  refine (l10Own_any _ _ _ _ _ _ zs bs [x] cnt _ hz ht hc (HA.out.below HB2.out) (HT.out.below HB2.out) (HC.out.below HB2.out)).mono ?_
  rintro e w3 ⟨B1, d1, B2, d2, B3, d3, rfl, hO, hb⟩
  have hs2 : w.heap.size + 1 < w2.heap.size := HR2.out.lt
  have HB3 := Lib.hid (below_trans HB2.out hb)
  have HX3 := Lib.hid (HX2.out.below hb); have HR3 := Lib.hid (HR2.out.below hb)
  have HO3 := Lib.hid hO
  have hs3 : w2.heap.size ≤ w3.heap.size := hb.size
  clear hb hO HB2 HX2 HR2 hx
  obtain ⟨j0, hj, hy0, hy1, hy2⟩ := infoW
  have Hj := Lib.hid hj; have Hy0 := Lib.hid hy0; have Hy1 := Lib.hid hy1; have Hy2 := Lib.hid hy2
  clear hj hy0 hy1 hy2
  go_upto_region 6 with (refine wpList_store_row rfl 31 _ _ rfl w.heap.size _ rfl rfl 31 _ HX3.out info_model rfl (one4m _ _ _ _ _ _ _ _ _ _) ?_)
  have HX4 := Lib.hid (HX3.out.mrow #[.slice B1 zs.length d1, .int .i64 cnt, .slice B2 bs.length d2, .slice B3 [x].length d3])
  have HR4 := Lib.hid (HR3.out.mrowO (b := w.heap.size) (by omega) #[.slice B1 zs.length d1, .int .i64 cnt, .slice B2 bs.length d2, .slice B3 [x].length d3])
  have HB4 := Lib.hid (below_setRow HB3.out (Nat.le_refl _) #[.slice B1 zs.length d1, .int .i64 cnt, .slice B2 bs.length d2, .slice B3 [x].length d3])
  have HO4 := Lib.hid (OwnO.row HO3.out (k := w.heap.size) (by omega) #[.slice B1 zs.length d1, .int .i64 cnt, .slice B2 bs.length d2, .slice B3 [x].length d3])
  generalize w3.setRow w.heap.size #[.slice B1 zs.length d1, .int .i64 cnt, .slice B2 bs.length d2, .slice B3 [x].length d3] = w4 at HX4 HR4 HB4 HO4 ⊢
  have hs4 : w.heap.size + 1 < w4.heap.size := HR4.out.lt
  clear HX3 HR3 HB3 HO3
  go_wp2_with fail
  go_loopw [6, 7] (fun lv i wr => ∃ (k : Nat) (G : Option Addr) (g : Nat), k ≤ bs.length ∧ i = .int .i64 k ∧ lv = .slice G (keptT th (bs.take k)).length g ∧ OwnR Wtr.cs 3 35 w4.heap.size wr G g (keptT th (bs.take k)) ∧ Below w4.heap.size w4 wr) (fun _ i _ => bs.length - (intOf i).toNat)
  case atStart => exact ⟨0, some ⟨w4.heap.size, 0, none⟩, 0, Nat.zero_le _, rfl, by simp [keptT], own_emptyW w4 w4.heap.size w4.heap.size rfl (Nat.le_refl _), below_alloc _ _⟩
  case round =>
    obtain ⟨k, G, g, hk, rfl, rfl, hG, hbl⟩ := hrel
    have HG := Lib.hid hG; have HBL := Lib.hid hbl
    have hsz := hbl.size
    clear hG hbl
    by_cases hlt : k < bs.length
    · obtain ⟨x, hx⟩ : ∃ x, bs[k]? = some x := ⟨_, List.getElem?_eq_getElem hlt⟩
      obtain ⟨b, o, rfl, hrow⟩ := (HO4.out.wt.rd.below HBL.out).row Wtr.len k x hx
      obtain ⟨xt, xo, xa⟩ := x
      have HXX := Lib.hid hx
      have HRW : Hid (wr.rangeAt b (o + k * 3) [.int .i64 xt, .int .i64 xo, .int .i64 xa]) := hrow
      dsimp only [Wtr.cs] at hrow
      have h00 := hrow 0 _ rfl
      rw [Nat.add_zero] at h00
      have HXr := Lib.hid (HX4.out.below HBL.out)
      have hm := HXr.out.cell
      have hyw : w.heap.size < wr.heap.size := HXr.out.lt
      have hlt' : (k : Int) < bs.length := by omega
      have hk1 : (k : Int) + 1 ≤ 9223372036854775807 := by omega
      have htl : (keptT th (bs.take k)).length ≤ bs.length := Nat.le_trans (keptT_len th (bs.take k)) (by rw [List.length_take]; omega)
      have hbk : w4.heap.size ≤ wr.heap.size := hsz
      clear hx hrow
      by_cases q : xt = th
      · have hkp : keptT th (bs.take (k + 1)) = keptT th (bs.take k) := by rw [List.take_add_one, HXX.out]; exact keptT_miss _ (by unfold keepT; simp [q])
        have HKP := Lib.hid hkp; have HTL := Lib.hid htl; clear hkp htl
        go_wp2_with fail
        go_roundw
        case rel => exact ⟨k + 1, G, g, by omega, by simp, by rw [HKP.out], by rw [HKP.out]; exact HG.out, HBL.out⟩
        case measure => simp [intOf]; omega
      · have hkp : keptT th (bs.take (k + 1)) = keptT th (bs.take k) ++ [⟨xt, xo, xa⟩] := by rw [List.take_add_one, HXX.out]; exact keptT_hit _ (by unfold keepT; simp [q])
        generalize keptT th (bs.take k) = ls at HG hkp htl ⊢
        have HKP := Lib.hid hkp; have HTL := Lib.hid htl; have HBK := Lib.hid hbk; clear hkp htl
        clear hm HXr hlt' hk1 hbk hyw hsz
        have hm := (HX4.out.below HBL.out).cell
        have hyw : w.heap.size < wr.heap.size := (HX4.out.below HBL.out).lt
        have hlt' : (k : Int) < bs.length := by omega
        go_wp2_with (first
          | (refine wpList_load_mid rfl 35 _ rfl b (o + k * 3) ?_ _ _ HRW.out Try.underlying35 rfl info_iWaiter ?_; rfl)
          | (at_builtin; refine wpList_append_rows Wtr.len (by decide) Wtr.one _ rfl (.tmp 36) (.tmp 42) 29 rfl w4.heap.size 35 j0 (.agg #[.int .i64 0, .int .i64 0, .int .i64 0]) 24 Try.underlying29 Hj.out Hy0.out Hy1.out Hy2.out rfl _ ls rfl (own_below HG.out (below_alloc _ _)) (some ⟨wr.heap.size, 0, none⟩) 1 [⟨xt, xo, xa⟩] rfl (.inr ⟨wr.heap.size, 0, rfl, fun j v hj => by rw [Nat.zero_add, (BoxC.new 35 wr #[.int .i64 xt, .int .i64 xo, .int .i64 xa]).cell j]; simpa [flatV, Wtr.cs] using hj⟩) ?_ ?_ (by have := HBK.out; simp <;> omega) ?_))
        · show (ls.length + 1) * _ ≤ _; have := HTL.out; omega
        · show ls.length + 1 ≤ maxLen; unfold maxLen; have := HTL.out; omega
        intro G' g' w6 hown hgr
        have hk1 : (k : Int) + 1 ≤ 9223372036854775807 := by omega
        go_wp2_with fail
        go_roundw
        case rel => exact ⟨k + 1, G', g', by omega, by simp, by rw [HKP.out] <;> simp, by rw [HKP.out]; first | exact hown | (unfold OwnR; simpa using hown), (HBL.out.alloc HBK.out _).grown hgr (by have := HBK.out; simp <;> omega) (fun r e => (World.ownsRow.lt HG.out r e).1)⟩
        case measure => simp [intOf]; omega
    · obtain rfl : k = bs.length := by omega
      rw [List.take_length] at HG ⊢
      have HX5 := Lib.hid (HX4.out.below HBL.out); have HR5 := Lib.hid (HR4.out.below HBL.out)
      have HB5 := Lib.hid (below_trans HB4.out HBL.out)
      have HO5 := Lib.hid (HO4.out.below HBL.out)
      have hx := HX5.out.cell; have hf := HX5.out.mfroz
      have hyw : w.heap.size < wr.heap.size := HX5.out.lt
      go_upto_region 13 with fail
      have HX6 : Hid (BoxC 31 (wr.setCell ⟨w.heap.size, 2, none⟩ (.slice G (keptT th bs).length g)) w.heap.size #[.slice B1 zs.length d1, .int .i64 cnt, .slice G (keptT th bs).length g, .slice B3 1 d3]) := Lib.hid (HX5.out.mset 2 _)
      have HR6 := Lib.hid (HR5.out.msetO ⟨w.heap.size, 2, none⟩ (.slice G (keptT th bs).length g) (by simp <;> omega))
      have HB6 := Lib.hid (HB5.out.setCell (p := ⟨w.heap.size, 2, none⟩) (Nat.le_refl _) (.slice G (keptT th bs).length g))
      have HA6 := Lib.hid (SegC.low ((SegC.ofI HO5.out.st).base (b1 := w.heap.size + 1 + 1) (by omega)) (k := w.heap.size) (o := 2) (by omega) (.slice G (keptT th bs).length g))
      have HC6 := Lib.hid (SegC.low ((SegC.ofW HO5.out.of).base (b1 := w.heap.size + 1 + 1) (by omega)) (k := w.heap.size) (o := 2) (by omega) (.slice G (keptT th bs).length g))
      have HG6 := Lib.hid (SegC.low ((SegC.ofW HG.out).base (b1 := w.heap.size + 1 + 1) (by omega)) (k := w.heap.size) (o := 2) (by omega) (.slice G (keptT th bs).length g))
      generalize wr.setCell ⟨w.heap.size, 2, none⟩ (.slice G (keptT th bs).length g) = w6 at HX6 HR6 HB6 HA6 HC6 HG6 ⊢
      clear hx hf HX5 HR5 HB5 HO5
      have hy6 : w.heap.size < w6.heap.size := HX6.out.lt
      obtain ⟨b3, o3, rfl, hrow⟩ := HC6.out.rdW.row Wtr.len 0 x rfl
      have h00 := hrow 0 _ rfl
      simp only [Nat.zero_mul, Nat.add_zero] at h00
      have hx := HX6.out.cell; have hf := HX6.out.mfroz
      go_upto_region 15 with fail
      generalize hF : (some (⟨w6.heap.size, 0, none⟩ : Addr)) = F
      have hbe := below_alloc (w6.setCell ⟨w.heap.size, 3, none⟩ (.slice F 0 0)) (.cells #[] 35)
      have HX7 : Hid (BoxC 31 ((w6.setCell ⟨w.heap.size, 3, none⟩ (.slice F 0 0)).alloc (.cells #[] 35)) w.heap.size #[.slice B1 zs.length d1, .int .i64 cnt, .slice G (keptT th bs).length g, .slice F 0 0]) := Lib.hid (BoxC.below (HX6.out.mset 3 _) hbe)
      have HR7 := Lib.hid (BoxC.below (HR6.out.msetO ⟨w.heap.size, 3, none⟩ (.slice F 0 0) (by simp <;> omega)) hbe)
      have HB7 := Lib.hid (below_trans (HB6.out.setCell (p := ⟨w.heap.size, 3, none⟩) (Nat.le_refl _) (.slice F 0 0)) hbe)
      have HA7 := Lib.hid (SegC.below (HA6.out.low (k := w.heap.size) (o := 3) (by omega) (.slice F 0 0)) hbe)
      have HG7 := Lib.hid (SegC.below (HG6.out.low (k := w.heap.size) (o := 3) (by omega) (.slice F 0 0)) hbe)
      generalize (w6.setCell ⟨w.heap.size, 3, none⟩ (.slice F 0 0)).alloc (.cells #[] 35) = w7 at HX7 HR7 HB7 HA7 HG7 ⊢
      have HC7 : Hid (SegC (w.heap.size + 1 + 1) w7 F (flatV Wtr.cs [])) := Lib.hid (.inl rfl)
      clear hx hf hbe hF HX6 HR6 HB6 HA6 HG6 HC6
      have hx := HX7.out.cell
      go_wp2_with (refine wpList_store_row rfl 31 _ _ rfl (w.heap.size + 1) _ rfl rfl 31 _ HR7.out info_model rfl (one4m _ _ _ _ _ _ _ _ _ _) ?_)
      have hr := (HR7.out.mrow #[.slice B1 zs.length d1, .int .i64 cnt, .slice G (keptT th bs).length g, .slice F 0 0]).cell
      have hb' := below_setRow HB7.out (Nat.le_succ _ : w.heap.size ≤ w.heap.size + 1) #[.slice B1 zs.length d1, .int .i64 cnt, .slice G (keptT th bs).length g, .slice F 0 0]
      have sA := SegC.row (n := zs.length) (c := d1) HA7.out (k := w.heap.size + 1) (by omega) #[.slice B1 zs.length d1, .int .i64 cnt, .slice G (keptT th bs).length g, .slice F 0 0]
      have sB := SegC.row (n := (keptT th bs).length) (c := g) HG7.out (k := w.heap.size + 1) (by omega) #[.slice B1 zs.length d1, .int .i64 cnt, .slice G (keptT th bs).length g, .slice F 0 0]
      have sO := SegC.row (n := 0) (c := 0) HC7.out (k := w.heap.size + 1) (by omega) #[.slice B1 zs.length d1, .int .i64 cnt, .slice G (keptT th bs).length g, .slice F 0 0]
      generalize w7.setRow (w.heap.size + 1) #[.slice B1 zs.length d1, .int .i64 cnt, .slice G (keptT th bs).length g, .slice F 0 0] = wz at hr hb' sA sB sO ⊢
      clear hx
      refine bodyPost_ret (v := .tuple #[.agg #[.slice B1 zs.length d1, .int .i64 cnt, .slice G (keptT th bs).length g, .slice F 0 0], .int .i64 0]) (by simp [results, Try.results19, go_sem, hr]) rfl ⟨B1, d1, G, g, F, 0, rfl, .of (sA.base (by omega)), .of (sB.base (by omega)), .of (sO.base (by omega)), fun q => absurd q (by decide), hb'⟩
end Go.Proofs.Ythianfhfamkcmaa

namespace Go.Proofs.Ythianfhfamkcmaa
open Go.RowKit

set_option maxHeartbeats 4000000 in
set_option maxRecDepth 100000 in
theorem lawModelLeave_walk (A B O : Option Addr) (ca cb co : Nat) (zs : List Int) (bs os : List Wtr) (cnt : Int) (th : Int) (w : World) (hz : zs.length ≤ maxLen) (hA : Rd w A zs) (ht : bs.length ≤ maxLen) (hT : RdR Wtr.cs w B bs) (hc : os.length ≤ maxLen) (hC : RdR Wtr.cs w O os) (_ : (Lit.int .i64 th).wf = true) :
    Calls Try.prog 4 #[.agg #[.slice A zs.length ca, .int .i64 cnt, .slice B bs.length cb, .slice O os.length co], .int .i64 th] w fun e w' => e = .returned (.bool true) ∧ Below w.heap.size w w' := by
  by_cases hbig : leftO 1048576 zs.length bs.length os.length < 0
  · have hbd : decide (leftO 1048576 zs.length bs.length os.length < 0) = true := decide_eq_true hbig
    go_enter Try.func4, Try.ntmps4
    go_wp2_with fail
    refine (szModel_any _ _ _ _ _ _ _ _ _ _ _ _ hz ht hc (by decide) (by decide)).mono ?_
    rintro e w1 ⟨rfl, hb⟩
    have HB := Lib.hid (below_trans (below_alloc _ _) hb); clear hb
    go_wp2
    go_ret
    exact ⟨rfl, HB.out⟩
  obtain ⟨sz, st, sc⟩ := leftO_small (by decide) hbig
  cases qm : mdB zs cnt bs os
  · exact lawModelLeave_of A B O ca cb co zs bs os cnt th 0 0 [] 0 [] [] false 1 0 0 w hz hA ht hT hc hC hbig (by simp) (by simp) (by simp)
      (fun w A B O ca cb co hA hT hC => (smleave_no A B O ca cb co zs bs os cnt th w sz st sc hA hT hC qm).mono fun e w' h => ans_no (mk := (fun v => .tuple #[v, .int .i64 1])) h)
      (fun w A B O ca cb co hA hT hC => (mleave_no A B O ca cb co zs bs os cnt th w sz st sc hA hT hC qm).mono fun e w' h => ans_no (mk := (fun v => .tuple #[v, .int .i64 1])) h)
  cases qw : waitsB bs os th
  · exact lawModelLeave_of A B O ca cb co zs bs os cnt th 0 0 zs cnt bs os false 10 0 0 w hz hA ht hT hc hC hbig sz st sc
      (fun w A B O ca cb co hA hT hC => smleave_idle A B O ca cb co zs bs os cnt th w sz st sc hA hT hC qm qw)
      (fun w A B O ca cb co hA hT hC => mleave_idle A B O ca cb co zs bs os cnt th w sz st sc hA hT hC qm qw)
  have ho1 := (md_parts qm).2.2.2.1
  have l2 := keptT_len th bs
  have l3 := keptT_len th os
  refine lawModelLeave_of A B O ca cb co zs bs os cnt th 0 0 zs cnt (keptT th bs) (keptT th os) false 0 0 0 w hz hA ht hT hc hC hbig sz (by omega) (by omega) ?_
      (fun w A B O ca cb co hA hT hC => mleave_yes A B O ca cb co zs bs os cnt th w sz st sc hA hT hC qm qw)
  intro w A B O ca cb co hA hT hC
  match os, ho1 with
  | [], _ => exact smleave_N A B O ca cb co zs bs cnt th w sz st sc hA hT hC qm qw
  | [x], _ =>
    by_cases qx : x.th = th
    · rw [show keptT th [x] = [] from by simp [keptT, keepT, qx]]
      exact smleave_D A B O ca cb co zs bs x cnt th w sz st sc hA hT hC qm qw qx
    · rw [show keptT th [x] = [x] from by simp [keptT, keepT, qx]]
      exact smleave_K A B O ca cb co zs bs x cnt th w sz st sc hA hT hC qm qw qx
end Go.Proofs.Ythianfhfamkcmaa
