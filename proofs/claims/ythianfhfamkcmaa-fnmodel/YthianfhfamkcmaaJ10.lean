/-
  Waiters (chapter 11) as rows of a slice; a right waiter.
  A block by its type: what it holds, as long as it is let alone.
  Blocks by their type: a whole row or one cell of them set.
  Models as arguments of the laws: szModel, toModel, eqModel.
  Rows of waiters appended to one of the call's own; copies of models, the program's and the model's.
  Copies of models: the program's copyModel, the model's l10Own.
  Models (chapter 11): what a right one is, over lists.
  The laws' marks of rows of waiters and of models, and what they hold.
-/
import Derived.Test.YthianfhfamkcmaaJ09
import Derived.Test.YthianfhfamkcmaaJ07
import Derived.Test.YthianfhfamkcmaaJ01
import Derived.Laws.Tables
import Derived.Laws.Rows
import Derived.Laws.OwnMore
import Derived.Deep.DeepCutAuto
import Derived.Lib.SliceRun
namespace Go.Proofs.Ythianfhfamkcmaa
open Go.RowKit

structure Wtr where
  (th op arg : Int)
def Wtr.cs (t : Wtr) : List Value := [.int .i64 t.th, .int .i64 t.op, .int .i64 t.arg]
def Wtr.zero : Wtr := ⟨0, 0, 0⟩
theorem Wtr.len (t : Wtr) : t.cs.length = 3 := rfl
/-- A waiter that is right. -/
def wtB (th op arg : Int) : Bool := inB th 0 3 && opB op && argB op arg
theorem wtB_th (th op arg : Int) (h : inB th 0 3 = false) : wtB th op arg = false := by simp [wtB, h]
theorem wtB_op (th op arg : Int) (h : opB op = false) : wtB th op arg = false := by simp [wtB, h]
theorem wtB_all (th op arg : Int) (h1 : inB th 0 3 = true) (h2 : opB op = true) : wtB th op arg = argB op arg := by simp [wtB, h1, h2]

set_option maxHeartbeats 1000000 in
theorem toWaiter_any (th op arg : Int) (w : World) : Calls Try.prog 14 #[.agg #[.int .i64 th, .int .i64 op, .int .i64 arg]] w fun e w' => e = .returned (.agg #[.int .i64 th, .int .i64 op, .int .i64 arg]) ∧ Below w.heap.size w w' := by
  go_enter Try.func14, Try.ntmps14
  go_wp2
  refine bodyPost_ret (v := .agg #[.int .i64 th, .int .i64 op, .int .i64 arg]) (by simp [results, Try.results14, go_sem]) rfl ⟨rfl, ?_⟩
  exact below_alloc3 _ _ _ _

theorem info_lWaiter : (Try.prog.info? 27).map (·.size) = some 3 := by kernel_rfl
theorem info_iWaiter : (Try.prog.info? 35).map (·.size) = some 3 := by kernel_rfl
theorem made_Waiter (n : Nat) : (madeCells (Wtr.zero.cs).toArray (n * 3)).toList = flatV Wtr.cs (List.replicate n Wtr.zero) := by
  exact made_rows Wtr.len (by decide) Wtr.zero n
theorem parts_Waiter : ∃ i0, Try.prog.info? 35 = some i0 ∧ i0.zero = some (.agg (Wtr.zero.cs).toArray) ∧ i0.size = 3 ∧ i0.bytes ≤ 200 := by
  have h : (Try.prog.info? 35).map (fun i => (i.zero, i.size, decide (i.bytes ≤ 200))) = some (some (.agg (Wtr.zero.cs).toArray), 3, true) := by kernel_rfl
  cases hq : Try.prog.info? 35 with
  | none => rw [hq] at h; cases h
  | some i0 =>
    rw [hq] at h
    simp only [Option.map_some, Option.some.injEq, Prod.mk.injEq, decide_eq_true_eq] at h
    exact ⟨i0, rfl, h.1, h.2.1, h.2.2⟩
set_option maxHeartbeats 1000000 in
theorem toWaiterS_any (A : Option Addr) (c : Nat) (l : List Wtr) (w : World) (hn : l.length ≤ 1048576) (hA : RdR Wtr.cs w A l) :
    Calls Try.prog 53 #[.slice A l.length c] w fun e w' => e = .returned (.slice (some ⟨w.heap.size, 0, none⟩) l.length l.length) ∧
      OwnR Wtr.cs 3 35 w.heap.size w' (some ⟨w.heap.size, 0, none⟩) l.length l ∧ Below w.heap.size w w' := by
  obtain ⟨i0, hi, hz0, hz1, hz2⟩ := parts_Waiter
  have hb2 : i0.bytes * l.length ≤ 281474976710656 := by have h9 : i0.bytes * l.length ≤ 200 * 1048576 := Nat.mul_le_mul hz2 hn; omega
  have hml : l.length ≤ maxLen := by unfold maxLen; omega
  have Hi := Lib.hid hi; have Hz0 := Lib.hid hz0; have Hz1 := Lib.hid hz1
  have Hb2 := Lib.hid hb2; have Hml := Lib.hid hml
  clear hi hz0 hz1 hz2 hb2 hml
  have HA := Lib.hid hA; clear hA
  go_enter Try.func53, Try.ntmps53
  go_wp2_with (at_make; refine wpList_make_full _ rfl (.tmp 6) (.tmp 6) 29 rfl w.heap.size 35 i0 (.agg (Wtr.zero.cs).toArray) 3 Try.underlying29 Hi.out Hz0.out Hz1.out .i64 .i64 _ _ l.length rfl rfl rfl rfl Hb2.out Hml.out (Nat.le_refl _) ?_)
  intro w1 hown hgr
  have hb := below_grown hgr
  rw [made_Waiter, ← fillR_zero] at hown
  have HO : Hid (OwnR Wtr.cs 3 35 w.heap.size w1 (some ⟨w.heap.size, 0, none⟩) l.length (fillR Wtr.zero l 0)) := by unfold Hid OwnR; rw [fillR_len _ _ _ (Nat.zero_le _)]; exact hown
  have HB := Lib.hid hb
  clear hown hgr hb
  go_wp2
  go_loopw [4] (fun i wr => ∃ k : Nat, k ≤ l.length ∧ i = .int .i64 k ∧ OwnR Wtr.cs 3 35 w.heap.size wr (some ⟨w.heap.size, 0, none⟩) l.length (fillR Wtr.zero l k) ∧ Below w.heap.size w wr) (fun i _ => l.length - (intOf i).toNat)
  case atStart => exact ⟨0, Nat.zero_le _, rfl, HO.out, HB.out⟩
  case round =>
    obtain ⟨k, hk, rfl, hown, hbl⟩ := hrel
    have HO' := Lib.hid hown; have HB' := Lib.hid hbl
    clear hown hbl HO HB
    by_cases hlt : k < l.length
    · have hlt' : (k : Int) < l.length := by omega
      obtain ⟨x, hx⟩ : ∃ x, l[k]? = some x := ⟨_, List.getElem?_eq_getElem hlt⟩
      obtain ⟨b, o, rfl, hrow⟩ := (HA.out.below HB'.out).row Wtr.len k x hx
      have HX := Lib.hid hx; have HRW := Lib.hid hrow
      have HLn : Hid (k < (fillR Wtr.zero l k).length) := by unfold Hid; rw [fillR_len _ _ _ hk]; exact hlt
      clear hx hrow
      obtain ⟨th, op, arg⟩ := x
      go_wp2_with (refine wpList_load_mid rfl 27 _ rfl b (o + k * 3) ?_ _ _ HRW.out Try.underlying27 rfl info_lWaiter ?_)
      · rfl
      refine (toWaiter_any _ _ _ _).mono ?_
      rintro e w2 ⟨rfl, hb⟩
      have HO2 := Lib.hid (HO'.out.below hb)
      have HB2 := Lib.hid (below_trans HB'.out hb)
      clear hb
      have HT : Hid (w2.there w.heap.size (k * 3) (#[.int .i64 th, .int .i64 op, .int .i64 arg] : Array Value).size) := HO2.out.there Wtr.len k HLn.out
      have HON : Hid ((#[.int .i64 th, .int .i64 op, .int .i64 arg] : Array Value).all (·.oneCell') = true) := by unfold Hid; simp [Value.oneCell']
      go_wp2_with (refine wpList_store_mid rfl 35 (.tmp 21) (.tmp 20) rfl w.heap.size (k * 3) #[.int .i64 th, .int .i64 op, .int .i64 arg] ?_ ?_ ?_ info_iWaiter HON.out ?_)
      · rfl
      · rfl
      · exact HT.out
      go_wp2
      go_roundw
      case rel =>
        refine ⟨k + 1, by omega, by go_num, ?_, below_setCells (Nat.le_refl _) _ _ _ HB2.out⟩
        have h := HO2.out.set Wtr.len k ⟨th, op, arg⟩ HLn.out
        rw [fillR_set _ _ _ _ HX.out] at h
        exact h
      case measure => simp [intOf]; omega
    · have hfin : Hid (fillR Wtr.zero l k = l) := by unfold Hid; rw [show k = l.length from by omega, fillR_all]
      have hge : ¬ (k : Int) < l.length := by omega
      go_wp2
      go_ret
      refine ⟨rfl, ?_, HB'.out⟩
      have := HO'.out
      rw [hfin.out] at this
      exact this

set_option maxHeartbeats 1000000 in
theorem eqWaiter_same (th op arg : Int) (w : World) : Calls Try.prog 116 #[.agg #[.int .i64 th, .int .i64 op, .int .i64 arg], .agg #[.int .i64 th, .int .i64 op, .int .i64 arg]] w fun e w' => e = .returned (.bool true) ∧ Below w.heap.size w w' := by
  go_enter Try.func116, Try.ntmps116
  go_wp2
  go_ret
  exact ⟨rfl, below_alloc2 _ _ _⟩

theorem cellsWaiter {w : World} {b p : Nat} (th : Int) (op : Int) (arg : Int) (h : w.rangeAt b p [.int .i64 th, .int .i64 op, .int .i64 arg]) : w.cell? ⟨b, p, none⟩ = some (.int .i64 th) ∧ w.cell? ⟨b, p + 1, none⟩ = some (.int .i64 op) ∧ w.cell? ⟨b, p + 2, none⟩ = some (.int .i64 arg) :=
  ⟨h 0 _ rfl, h 1 _ rfl, h 2 _ rfl⟩
theorem keepWaiter {w w' : World} {b p b2 p2 : Nat} (th : Int) (op : Int) (arg : Int) (hb : Below w.heap.size w w') (h : (w.cell? ⟨b, p, none⟩ = some (.int .i64 th) ∧ w.cell? ⟨b, p + 1, none⟩ = some (.int .i64 op) ∧ w.cell? ⟨b, p + 2, none⟩ = some (.int .i64 arg)) ∧ (w.cell? ⟨b2, p2, none⟩ = some (.int .i64 th) ∧ w.cell? ⟨b2, p2 + 1, none⟩ = some (.int .i64 op) ∧ w.cell? ⟨b2, p2 + 2, none⟩ = some (.int .i64 arg))) : (w'.cell? ⟨b, p, none⟩ = some (.int .i64 th) ∧ w'.cell? ⟨b, p + 1, none⟩ = some (.int .i64 op) ∧ w'.cell? ⟨b, p + 2, none⟩ = some (.int .i64 arg)) ∧ (w'.cell? ⟨b2, p2, none⟩ = some (.int .i64 th) ∧ w'.cell? ⟨b2, p2 + 1, none⟩ = some (.int .i64 op) ∧ w'.cell? ⟨b2, p2 + 2, none⟩ = some (.int .i64 arg)) := by
  obtain ⟨⟨h0, h1, h2⟩, ⟨g0, g1, g2⟩⟩ := h
  exact ⟨⟨cell_keep hb h0, cell_keep hb h1, cell_keep hb h2⟩, ⟨cell_keep hb g0, cell_keep hb g1, cell_keep hb g2⟩⟩

set_option maxHeartbeats 4000000 in
set_option maxRecDepth 100000 in
theorem eqWaiterS_same (A B : Option Addr) (c d : Nat) (l : List Wtr) (w : World) (hn : l.length ≤ 1048576) (hA : RdR Wtr.cs w A l) (hB : RdR Wtr.cs w B l) :
    Calls Try.prog 58 #[.slice A l.length c, .slice B l.length d] w fun e w' => e = .returned (.bool true) ∧ Below w.heap.size w w' := by
  have HA := Lib.hid hA; have HBB := Lib.hid hB; clear hA hB
  go_enter Try.func58, Try.ntmps58
  go_wp2
  go_loopw [5] (fun i wr => ∃ k : Nat, k ≤ l.length ∧ i = .int .i64 k ∧ Below w.heap.size w wr) (fun i _ => l.length - (intOf i).toNat)
  case atStart => exact ⟨0, Nat.zero_le _, rfl, Below.refl _ _⟩
  case round =>
    obtain ⟨k, hk, rfl, hbl⟩ := hrel
    have HB' := Lib.hid hbl
    clear hbl
    by_cases hlt : k < l.length
    · have hlt' : (k : Int) < l.length := by omega
      obtain ⟨x, hx⟩ : ∃ x, l[k]? = some x := ⟨_, List.getElem?_eq_getElem hlt⟩
      obtain ⟨b, o, rfl, hr1⟩ := (HA.out.below HB'.out).row Wtr.len k x hx
      obtain ⟨b2, o2, rfl, hr2⟩ := (HBB.out.below HB'.out).row Wtr.len k x hx
      clear hx
      obtain ⟨th, op, arg⟩ := x
      have HC := Lib.hid (And.intro (cellsWaiter _ _ _ hr1) (cellsWaiter _ _ _ hr2))
      clear hr1 hr2
      go_wp2_with fail
      go_region_held3 (fun w' => (w'.cell? ⟨b, o + k * 3, none⟩ = some (.int .i64 th) ∧ w'.cell? ⟨b, o + k * 3 + 1, none⟩ = some (.int .i64 op) ∧ w'.cell? ⟨b, o + k * 3 + 2, none⟩ = some (.int .i64 arg)) ∧ (w'.cell? ⟨b2, o2 + k * 3, none⟩ = some (.int .i64 th) ∧ w'.cell? ⟨b2, o2 + k * 3 + 1, none⟩ = some (.int .i64 op) ∧ w'.cell? ⟨b2, o2 + k * 3 + 2, none⟩ = some (.int .i64 arg))) (first | exact HC.out | exact keepWaiter _ _ _ (below_drew_trans hb7) HC.out)
        (first | (go_at_call 116; (with_reducible refine (eqWaiter_same _ _ _ _).mono ?_); rintro e w7 ⟨rfl, hb7⟩))
      have HB7 := Lib.hid (below_trans HB'.out (below_drew_trans hb7))
      clear hb7
      go_wp2
      go_roundw
      case rel => exact ⟨k + 1, by omega, by go_num, HB7.out⟩
      case measure => simp [intOf]; omega
    · have hge : ¬ (k : Int) < l.length := by omega
      go_wp2
      go_ret
      exact ⟨rfl, HB'.out⟩

set_option maxHeartbeats 400000 in
theorem szWaiterS_any (A : Option Addr) (n c : Nat) (l : Int) (w : World) (hn : n ≤ maxLen) (h0 : 0 ≤ l) (h1 : l ≤ 1048576) :
    Calls Try.prog 46 #[.slice A n c, .int .i64 l] w fun e w' => e = .returned (.int .i64 (leftB l n)) ∧ w = w' := by
  unfold maxLen at hn
  by_cases hlt : l - (n : Int) < 0
  · have hL : leftB l n = -1 := by unfold leftB; rw [if_pos hlt]
    have HL := Lib.hid hL; clear hL
    go_enter Try.func46, Try.ntmps46
    go_wp2
    go_ret
    exact ⟨ret_int HL.out.symm, rfl⟩
  · have hL : leftB l n = l - n := by unfold leftB; rw [if_neg hlt]
    have HL := Lib.hid hL; clear hL
    go_enter Try.func46, Try.ntmps46
    go_wp2
    go_ret
    exact ⟨ret_int HL.out.symm, rfl⟩

set_option maxHeartbeats 2000000 in
theorem specWaiter_any (th op arg : Int) (w : World) : Calls Try.prog 48 #[.agg #[.int .i64 th, .int .i64 op, .int .i64 arg]] w fun e w' => e = .returned (.bool (wtB th op arg)) ∧ Below w.heap.size w w' := by
  cases h1 : inB th 0 3
  · have HV := Lib.hid (wtB_th th op arg h1)
    go_enter Try.func48, Try.ntmps48
    go_wp2_with (first | (go_at_call 102; refine (l01In_any _ _ _ _).mono ?_; rintro e w' ⟨rfl, rfl⟩) | (go_at_call 105; refine (l02Op_any _ _).mono ?_; rintro e w' ⟨rfl, rfl⟩) | (go_at_call 106; refine (l02Arg_any _ _ _).mono ?_; rintro e w' ⟨rfl, rfl⟩))
    go_ret
    exact ⟨ret_bool (HV.out.symm), below_alloc _ _⟩
  cases h2 : opB op
  · have HV := Lib.hid (wtB_op th op arg h2)
    go_enter Try.func48, Try.ntmps48
    go_wp2_with (first | (go_at_call 102; refine (l01In_any _ _ _ _).mono ?_; rintro e w' ⟨rfl, rfl⟩) | (go_at_call 105; refine (l02Op_any _ _).mono ?_; rintro e w' ⟨rfl, rfl⟩) | (go_at_call 106; refine (l02Arg_any _ _ _).mono ?_; rintro e w' ⟨rfl, rfl⟩))
    go_ret
    exact ⟨ret_bool (HV.out.symm), below_alloc _ _⟩
  have HV := Lib.hid (wtB_all th op arg h1 h2)
  cases h3 : argB op arg
  · have HX : Hid (wtB th op arg = false) := by unfold Hid; rw [HV.out, h3]
    clear HV
    have HV := Lib.hid HX.out; clear HX
    go_enter Try.func48, Try.ntmps48
    go_wp2_with (first | (go_at_call 102; refine (l01In_any _ _ _ _).mono ?_; rintro e w' ⟨rfl, rfl⟩) | (go_at_call 105; refine (l02Op_any _ _).mono ?_; rintro e w' ⟨rfl, rfl⟩) | (go_at_call 106; refine (l02Arg_any _ _ _).mono ?_; rintro e w' ⟨rfl, rfl⟩))
    go_ret
    exact ⟨ret_bool (HV.out.symm), below_alloc _ _⟩
  · have HX : Hid (wtB th op arg = true) := by unfold Hid; rw [HV.out, h3]
    clear HV
    have HV := Lib.hid HX.out; clear HX
    go_enter Try.func48, Try.ntmps48
    go_wp2_with (first | (go_at_call 102; refine (l01In_any _ _ _ _).mono ?_; rintro e w' ⟨rfl, rfl⟩) | (go_at_call 105; refine (l02Op_any _ _).mono ?_; rintro e w' ⟨rfl, rfl⟩) | (go_at_call 106; refine (l02Arg_any _ _ _).mono ?_; rintro e w' ⟨rfl, rfl⟩))
    go_ret
    exact ⟨ret_bool (HV.out.symm), below_alloc _ _⟩

set_option maxHeartbeats 2000000 in
theorem implWaiter_any (th op arg : Int) (w : World) : Calls Try.prog 54 #[.agg #[.int .i64 th, .int .i64 op, .int .i64 arg]] w fun e w' => e = .returned (.bool (wtB th op arg)) ∧ Below w.heap.size w w' := by
  cases h1 : inB th 0 3
  · have HV := Lib.hid (wtB_th th op arg h1)
    go_enter Try.func54, Try.ntmps54
    go_wp2_with (first | (go_at_call 107; refine (idOK_any _ _).mono ?_; rintro e w' ⟨rfl, rfl⟩) | (go_at_call 108; refine (opOK_any _ _).mono ?_; rintro e w' ⟨rfl, rfl⟩) | (go_at_call 74; refine (argOK_any _ _ _).mono ?_; rintro e w' ⟨rfl, rfl⟩))
    go_ret
    exact ⟨ret_bool (HV.out.symm), below_alloc _ _⟩
  cases h2 : opB op
  · have HV := Lib.hid (wtB_op th op arg h2)
    go_enter Try.func54, Try.ntmps54
    go_wp2_with (first | (go_at_call 107; refine (idOK_any _ _).mono ?_; rintro e w' ⟨rfl, rfl⟩) | (go_at_call 108; refine (opOK_any _ _).mono ?_; rintro e w' ⟨rfl, rfl⟩) | (go_at_call 74; refine (argOK_any _ _ _).mono ?_; rintro e w' ⟨rfl, rfl⟩))
    go_ret
    exact ⟨ret_bool (HV.out.symm), below_alloc _ _⟩
  have HV := Lib.hid (wtB_all th op arg h1 h2)
  cases h3 : argB op arg
  · have HX : Hid (wtB th op arg = false) := by unfold Hid; rw [HV.out, h3]
    clear HV
    have HV := Lib.hid HX.out; clear HX
    go_enter Try.func54, Try.ntmps54
    go_wp2_with (first | (go_at_call 107; refine (idOK_any _ _).mono ?_; rintro e w' ⟨rfl, rfl⟩) | (go_at_call 108; refine (opOK_any _ _).mono ?_; rintro e w' ⟨rfl, rfl⟩) | (go_at_call 74; refine (argOK_any _ _ _).mono ?_; rintro e w' ⟨rfl, rfl⟩))
    go_ret
    exact ⟨ret_bool (HV.out.symm), below_alloc _ _⟩
  · have HX : Hid (wtB th op arg = true) := by unfold Hid; rw [HV.out, h3]
    clear HV
    have HV := Lib.hid HX.out; clear HX
    go_enter Try.func54, Try.ntmps54
    go_wp2_with (first | (go_at_call 107; refine (idOK_any _ _).mono ?_; rintro e w' ⟨rfl, rfl⟩) | (go_at_call 108; refine (opOK_any _ _).mono ?_; rintro e w' ⟨rfl, rfl⟩) | (go_at_call 74; refine (argOK_any _ _ _).mono ?_; rintro e w' ⟨rfl, rfl⟩))
    go_ret
    exact ⟨ret_bool (HV.out.symm), below_alloc _ _⟩
end Go.Proofs.Ythianfhfamkcmaa

namespace Go.Proofs.Ythianfhfamkcmaa
open Go.RowKit

/-- A block of this type that holds this. -/
def BoxC (t : TypeId) (w : World) (k : Nat) (cs : Array Value) : Prop := w.heap[k]? = some (.cells cs t (0, 0))
theorem BoxC.lt {t : TypeId} {w : World} {k : Nat} {cs : Array Value} (h : BoxC t w k cs) : k < w.heap.size := (Array.getElem?_eq_some_iff.1 h).1
theorem BoxC.below {t : TypeId} {w w' : World} {k : Nat} {cs : Array Value} (h : BoxC t w k cs) (hb : Below w.heap.size w w') : BoxC t w' k cs := (hb.block k h.lt).trans h
theorem BoxC.new (t : TypeId) (w : World) (cs : Array Value) : BoxC t (w.alloc (.cells cs t)) w.heap.size cs := heap_alloc_new w _
theorem BoxC.cell {t : TypeId} {w : World} {k : Nat} {cs : Array Value} (h : BoxC t w k cs) (j : Nat) : w.cell? ⟨k, j, none⟩ = cs[j]? := cell_of_row w k j cs _ _ h
end Go.Proofs.Ythianfhfamkcmaa

namespace Go.Proofs.Ythianfhfamkcmaa
open Go.RowKit

theorem BoxC.mrow {t : TypeId} {w : World} {k : Nat} {cs : Array Value} (h : BoxC t w k cs) (bs : Array Value) : BoxC t (w.setRow k bs) k bs := setRow_heap w k cs bs _ _ h
theorem BoxC.mrowO {t : TypeId} {w : World} {k b : Nat} {cs : Array Value} (h : BoxC t w k cs) (hk : k ≠ b) (bs : Array Value) : BoxC t (w.setRow b bs) k cs := (setRow_other w b k bs hk).trans h
theorem BoxC.mset {t : TypeId} {w : World} {k : Nat} {cs : Array Value} (h : BoxC t w k cs) (i : Nat) (v : Value) : BoxC t (w.setCell ⟨k, i, none⟩ v) k (cs.setIfInBounds i v) := heap_setCell_same w k i cs _ v h
theorem BoxC.msetO {t : TypeId} {w : World} {k : Nat} {cs : Array Value} (h : BoxC t w k cs) (a : Addr) (v : Value) (hk : k ≠ a.block) : BoxC t (w.setCell a v) k cs := (heap_setCell_other w a k v hk).trans h
theorem BoxC.mfroz {t : TypeId} {w : World} {k : Nat} {cs : Array Value} (h : BoxC t w k cs) (j : Nat) : w.frozen? ⟨k, j, none⟩ = false := frozen_of_row w k j cs _ h
theorem size_setc2 (w : World) (a : Addr) (v : Value) : (w.setCell a v).heap.size = w.heap.size := by simp [World.setCell]
end Go.Proofs.Ythianfhfamkcmaa

namespace Go.Proofs.Ythianfhfamkcmaa
open Go.RowKit

/-- What the size check of a model leaves. -/
def leftO (l : Int) (a t c : Nat) : Int := if leftB l a < 0 then -1 else if leftB (leftB l a) t < 0 then -1 else if leftB (leftB (leftB l a) t) c < 0 then -1 else leftB (leftB (leftB l a) t) c
theorem leftB_up {l : Int} {n : Nat} (h : ¬ leftB l n < 0) : leftB l n = l - n ∧ (n : Int) ≤ l := by
  unfold leftB at *
  by_cases h' : l - n < 0
  · rw [if_pos h'] at h; omega
  · rw [if_neg h'] at h ⊢; omega
theorem leftO_small {l : Int} {a t c : Nat} (hl : l ≤ 1048576) (h : ¬ leftO l a t c < 0) : a ≤ 1048576 ∧ t ≤ 1048576 ∧ c ≤ 1048576 := by
  unfold leftO at h
  by_cases h1 : leftB l a < 0
  · rw [if_pos h1] at h; omega
  rw [if_neg h1] at h
  by_cases h2 : leftB (leftB l a) t < 0
  · rw [if_pos h2] at h; omega
  rw [if_neg h2] at h
  by_cases h3 : leftB (leftB (leftB l a) t) c < 0
  · rw [if_pos h3] at h; omega
  obtain ⟨e1, g1⟩ := leftB_up h1
  obtain ⟨e2, g2⟩ := leftB_up h2
  obtain ⟨e3, g3⟩ := leftB_up h3
  omega
theorem leftO_bounds {l : Int} {a t c : Nat} (hl : l ≤ 1048576) (h : ¬ leftO l a t c < 0) : 0 ≤ leftO l a t c ∧ leftO l a t c ≤ 1048576 := by
  refine ⟨by omega, ?_⟩
  unfold leftO at h ⊢
  by_cases h1 : leftB l a < 0
  · rw [if_pos h1] at h; omega
  rw [if_neg h1] at h ⊢
  by_cases h2 : leftB (leftB l a) t < 0
  · rw [if_pos h2] at h; omega
  rw [if_neg h2] at h ⊢
  by_cases h3 : leftB (leftB (leftB l a) t) c < 0
  · rw [if_pos h3] at h; omega
  rw [if_neg h3]
  obtain ⟨e1, g1⟩ := leftB_up h1
  obtain ⟨e2, g2⟩ := leftB_up h2
  obtain ⟨e3, g3⟩ := leftB_up h3
  omega

set_option maxHeartbeats 1000000 in
theorem szModel_any (A B O : Option Addr) (ca cb co : Nat) (zs : List Int) (bs os : List Wtr) (cnt : Int) (l : Int) (w : World) (hz : zs.length ≤ maxLen) (ht : bs.length ≤ maxLen) (hc : os.length ≤ maxLen) (h0 : 0 ≤ l) (h1 : l ≤ 1048576) :
    Calls Try.prog 11 #[.agg #[.slice A zs.length ca, .int .i64 cnt, .slice B bs.length cb, .slice O os.length co], .int .i64 l] w fun e w' => e = .returned (.int .i64 (leftO l zs.length bs.length os.length)) ∧ Below w.heap.size w w' := by
  have HZ := Lib.hid hz; have HT := Lib.hid ht; have HC := Lib.hid hc; clear hz ht hc
  by_cases q1 : leftB l zs.length < 0
  · have HL : Hid (leftO l zs.length bs.length os.length = -1) := by unfold Hid leftO; rw [if_pos q1]
    obtain ⟨v, hv⟩ : ∃ v, leftB l zs.length = v := ⟨_, rfl⟩
    have HV := Lib.hid hv
    rw [hv] at q1
    clear hv
    go_enter Try.func11, Try.ntmps11
    go_wp2_with (first | (go_at_call 45; refine (szIntS_any _ _ _ _ _ HZ.out h0 h1).mono ?_; rintro e w' ⟨rfl, rfl⟩; rw [HV.out]))
    go_ret
    exact ⟨ret_int HL.out.symm, below_alloc _ _⟩
  obtain ⟨e1, g1⟩ := leftB_up q1
  have p1 : 0 ≤ leftB l zs.length := by omega
  have p2 : leftB l zs.length ≤ 1048576 := by omega
  obtain ⟨v, hv⟩ : ∃ v, leftB l zs.length = v := ⟨_, rfl⟩
  have HV := Lib.hid hv
  by_cases q2 : leftB v bs.length < 0
  · have HL : Hid (leftO l zs.length bs.length os.length = -1) := by unfold Hid leftO; rw [if_neg q1, if_pos (by rw [hv]; exact q2)]
    rw [hv] at q1 p1 p2
    obtain ⟨u, hu⟩ : ∃ u, leftB v bs.length = u := ⟨_, rfl⟩
    have HU := Lib.hid hu
    rw [hu] at q2
    clear hv hu e1 g1
    go_enter Try.func11, Try.ntmps11
    go_wp2_with (first | (go_at_call 45; refine (szIntS_any _ _ _ _ _ HZ.out h0 h1).mono ?_; rintro e w' ⟨rfl, rfl⟩; rw [HV.out]) | (go_at_call 46; refine (szWaiterS_any _ _ _ _ _ HT.out p1 p2).mono ?_; rintro e w' ⟨rfl, rfl⟩; rw [HU.out]))
    go_ret
    exact ⟨ret_int HL.out.symm, below_alloc _ _⟩
  obtain ⟨e2, g2⟩ := leftB_up q2
  have p3 : 0 ≤ leftB v bs.length := by omega
  have p4 : leftB v bs.length ≤ 1048576 := by omega
  obtain ⟨u, hu⟩ : ∃ u, leftB v bs.length = u := ⟨_, rfl⟩
  have HU := Lib.hid hu
  obtain ⟨x, hx⟩ : ∃ x, leftB u os.length = x := ⟨_, rfl⟩
  have HX := Lib.hid hx
  have HL : Hid (leftO l zs.length bs.length os.length = if x < 0 then -1 else x) := by unfold Hid leftO; rw [if_neg q1, hv, if_neg q2, hu, hx]
  rw [hv] at q1 p1 p2
  rw [hu] at q2 p3 p4
  clear hv hu hx e1 g1 e2 g2
  by_cases q3 : x < 0
  · rw [if_pos q3] at HL
    go_enter Try.func11, Try.ntmps11
    go_wp2_with (first | (go_at_call 45; refine (szIntS_any _ _ _ _ _ HZ.out h0 h1).mono ?_; rintro e w' ⟨rfl, rfl⟩; rw [HV.out]) | (go_at_call 46; first | (with_reducible refine (szWaiterS_any _ _ _ _ _ HT.out p1 p2).mono ?_; rintro e w' ⟨rfl, rfl⟩; rw [HU.out]) | (with_reducible refine (szWaiterS_any _ _ _ _ _ HC.out p3 p4).mono ?_; rintro e w' ⟨rfl, rfl⟩; rw [HX.out])))
    go_ret
    exact ⟨ret_int HL.out.symm, below_alloc _ _⟩
  · rw [if_neg q3] at HL
    go_enter Try.func11, Try.ntmps11
    go_wp2_with (first | (go_at_call 45; refine (szIntS_any _ _ _ _ _ HZ.out h0 h1).mono ?_; rintro e w' ⟨rfl, rfl⟩; rw [HV.out]) | (go_at_call 46; first | (with_reducible refine (szWaiterS_any _ _ _ _ _ HT.out p1 p2).mono ?_; rintro e w' ⟨rfl, rfl⟩; rw [HU.out]) | (with_reducible refine (szWaiterS_any _ _ _ _ _ HC.out p3 p4).mono ?_; rintro e w' ⟨rfl, rfl⟩; rw [HX.out])))
    go_ret
    exact ⟨ret_int HL.out.symm, below_alloc _ _⟩

theorem eqIntS_same (A B : Option Addr) (c d : Nat) (xs : List Int) (w : World) (hn : xs.length ≤ 1048576) (hA : Rd w A xs) (hB : Rd w B xs) :
    Calls Try.prog 57 #[.slice A xs.length c, .slice B xs.length d] w fun e w' => e = .returned (.bool true) ∧ Below w.heap.size w w' := by
  refine (eqIntS_any A B c d xs xs w (by unfold maxLen; omega) (by unfold maxLen; omega) hA hB).mono ?_
  rintro e w' ⟨rfl, n, rfl⟩
  exact ⟨by simp, below_drewN n⟩

set_option maxHeartbeats 1000000 in
theorem eqModel_same (A B O : Option Addr) (ca cb co : Nat) (zs : List Int) (bs os : List Wtr) (cnt : Int) (A2 B2 O2 : Option Addr) (ca2 cb2 co2 : Nat) (w : World) (hz : zs.length ≤ 1048576) (ht : bs.length ≤ 1048576) (hc : os.length ≤ 1048576)
    (hA : Rd w A zs) (hT : RdR Wtr.cs w B bs) (hC : RdR Wtr.cs w O os) (hA2 : Rd w A2 zs) (hT2 : RdR Wtr.cs w B2 bs) (hC2 : RdR Wtr.cs w O2 os) :
    Calls Try.prog 16 #[.agg #[.slice A zs.length ca, .int .i64 cnt, .slice B bs.length cb, .slice O os.length co], .agg #[.slice A2 zs.length ca2, .int .i64 cnt, .slice B2 bs.length cb2, .slice O2 os.length co2]] w fun e w' => e = .returned (.bool true) ∧ Below w.heap.size w w' := by
  have HA := Lib.hid hA; have HT := Lib.hid hT; have HC := Lib.hid hC; have HA2 := Lib.hid hA2; have HT2 := Lib.hid hT2; have HC2 := Lib.hid hC2
  have HZn := Lib.hid hz; have HTn := Lib.hid ht; have HCn := Lib.hid hc
  clear hA hT hC hA2 hT2 hC2 hz ht hc
  have HX := Lib.hid ((BoxC.new 31 w #[.slice A zs.length ca, .int .i64 cnt, .slice B bs.length cb, .slice O os.length co]).below (below_alloc _ (.cells #[.slice A2 zs.length ca2, .int .i64 cnt, .slice B2 bs.length cb2, .slice O2 os.length co2] 31)))
  have HY := Lib.hid (by have h := BoxC.new 31 (w.alloc (.cells #[.slice A zs.length ca, .int .i64 cnt, .slice B bs.length cb, .slice O os.length co] 31)) #[.slice A2 zs.length ca2, .int .i64 cnt, .slice B2 bs.length cb2, .slice O2 os.length co2]; rw [size_alloc] at h; exact h)
  go_enter Try.func16, Try.ntmps16
  go_wp2_with fail
  refine (eqIntS_same _ _ _ _ zs _ HZn.out (HA.out.below (below_alloc2 _ _ _)) (HA2.out.below (below_alloc2 _ _ _))).mono ?_
  rintro e w1 ⟨rfl, hb⟩
  have HB1 := Lib.hid (below_trans (below_alloc2 _ _ _) hb)
  have HX1 := Lib.hid (HX.out.below hb); have HY1 := Lib.hid (HY.out.below hb)
  clear hb HX HY
  have hx := HX1.out.cell; have hy := HY1.out.cell
  go_wp2_with fail
  refine (eqWaiterS_same _ _ _ _ bs _ HTn.out (HT.out.below HB1.out) (HT2.out.below HB1.out)).mono ?_
  rintro e w2 ⟨rfl, hb⟩
  have HB2 := Lib.hid (below_trans HB1.out hb)
  have HX2 := Lib.hid (HX1.out.below hb); have HY2 := Lib.hid (HY1.out.below hb)
  clear hb HX1 HY1 HB1 hx hy
  have hx := HX2.out.cell; have hy := HY2.out.cell
  go_wp2_with fail
  refine (eqWaiterS_same _ _ _ _ os _ HCn.out (HC.out.below HB2.out) (HC2.out.below HB2.out)).mono ?_
  rintro e w3 ⟨rfl, hb⟩
  have HB3 := Lib.hid (below_trans HB2.out hb)
  clear hb HX2 HY2 HB2 hx hy
  go_wp2
  go_ret
  exact ⟨rfl, HB3.out⟩

theorem info_model : (Try.prog.info? 31).map (·.size) = some 4 := by kernel_rfl
theorem one4m (A B O : Option Addr) (a ca t ct c cc : Nat) (cnt : Int) : (#[.slice A a ca, .int .i64 cnt, .slice B t ct, .slice O c cc] : Array Value).all (·.oneCell') = true := by simp [Value.oneCell']
set_option maxHeartbeats 2000000 in
theorem toModel_any (A B O : Option Addr) (ca cb co : Nat) (zs : List Int) (bs os : List Wtr) (cnt : Int) (w : World) (hz : zs.length ≤ 1048576) (ht : bs.length ≤ 1048576) (hc : os.length ≤ 1048576) (hA : Rd w A zs) (hT : RdR Wtr.cs w B bs) (hC : RdR Wtr.cs w O os) :
    Calls Try.prog 13 #[.agg #[.slice A zs.length ca, .int .i64 cnt, .slice B bs.length cb, .slice O os.length co]] w fun e w' => ∃ g1 g2 g3, e = .returned (.agg #[.slice (some ⟨g1, 0, none⟩) zs.length zs.length, .int .i64 cnt, .slice (some ⟨g2, 0, none⟩) bs.length bs.length, .slice (some ⟨g3, 0, none⟩) os.length os.length]) ∧ w.heap.size ≤ g1 ∧ g1 < g2 ∧ g2 < g3 ∧
      NewA w.heap.size w' (some ⟨g1, 0, none⟩) zs.length zs ∧ OwnR Wtr.cs 3 35 w.heap.size w' (some ⟨g2, 0, none⟩) bs.length bs ∧ OwnR Wtr.cs 3 35 w.heap.size w' (some ⟨g3, 0, none⟩) os.length os ∧ Below w.heap.size w w' := by
  have HA := Lib.hid hA; have HT := Lib.hid hT; have HC := Lib.hid hC; clear hA hT hC
  have HZn := Lib.hid hz; have HTn := Lib.hid ht; have HCn := Lib.hid hc; clear hz ht hc
  have HB0 := Lib.hid (below_alloc3 w (.cells #[.slice A zs.length ca, .int .i64 cnt, .slice B bs.length cb, .slice O os.length co] 25) (.cells #[.slice none 0 0, .int .i64 0, .slice none 0 0, .slice none 0 0] 31) (.cells #[.slice none 0 0, .int .i64 0, .slice none 0 0, .slice none 0 0] 31))
  have HS := Lib.hid (((BoxC.new 25 w #[.slice A zs.length ca, .int .i64 cnt, .slice B bs.length cb, .slice O os.length co]).below (below_alloc _ (.cells #[.slice none 0 0, .int .i64 0, .slice none 0 0, .slice none 0 0] 31))).below (below_alloc _ (.cells #[.slice none 0 0, .int .i64 0, .slice none 0 0, .slice none 0 0] 31)))
  have HR := Lib.hid (by have h := (BoxC.new 31 (w.alloc (.cells #[.slice A zs.length ca, .int .i64 cnt, .slice B bs.length cb, .slice O os.length co] 25)) #[.slice none 0 0, .int .i64 0, .slice none 0 0, .slice none 0 0]).below (below_alloc _ (.cells #[.slice none 0 0, .int .i64 0, .slice none 0 0, .slice none 0 0] 31)); rw [size_alloc] at h; exact h)
  have HV := Lib.hid (by have h := BoxC.new 31 ((w.alloc (.cells #[.slice A zs.length ca, .int .i64 cnt, .slice B bs.length cb, .slice O os.length co] 25)).alloc (.cells #[.slice none 0 0, .int .i64 0, .slice none 0 0, .slice none 0 0] 31)) #[.slice none 0 0, .int .i64 0, .slice none 0 0, .slice none 0 0]; rw [size_alloc, size_alloc] at h; exact h)
  have hsz : w.heap.size + 1 + 1 + 1 = (((w.alloc (.cells #[.slice A zs.length ca, .int .i64 cnt, .slice B bs.length cb, .slice O os.length co] 25)).alloc (.cells #[.slice none 0 0, .int .i64 0, .slice none 0 0, .slice none 0 0] 31)).alloc (.cells #[.slice none 0 0, .int .i64 0, .slice none 0 0, .slice none 0 0] 31)).heap.size := by simp
  go_enter Try.func13, Try.ntmps13
  go_wp2_with fail
  refine (toIntS_any _ _ zs _ HZn.out (HA.out.below HB0.out)).mono ?_
  rintro e w1 ⟨rfl, hown, hb⟩
  rw [← hsz]
  have HB1 := Lib.hid (below_trans HB0.out hb)
  have HO1 : Hid (NewA (w.heap.size + 1 + 1 + 1) w1 (some ⟨w.heap.size + 1 + 1 + 1, 0, none⟩) zs.length zs) := by unfold Hid; rw [hsz]; exact hown
  have HS1 := Lib.hid (HS.out.below hb); have HR1 := Lib.hid (HR.out.below hb); have HV1 := Lib.hid (HV.out.below hb)
  have hl1 : w.heap.size + 1 + 1 + 1 < w1.heap.size := (World.ownsRow.lt HO1.out _ rfl).2
  clear hb hown HS HR HV HB0 hsz
  have hs := HS1.out.cell; have hv := HV1.out.cell; have hf := HV1.out.mfroz
  go_upto_region 4 with fail
  have HS2 := Lib.hid ((HS1.out.msetO ⟨w.heap.size + 1 + 1, 0, none⟩ (.slice (some ⟨w.heap.size + 1 + 1 + 1, 0, none⟩) zs.length zs.length) (by simp <;> omega)).msetO ⟨w.heap.size + 1 + 1, 1, none⟩ (.int .i64 cnt) (by simp <;> omega))
  have HR2 := Lib.hid ((HR1.out.msetO ⟨w.heap.size + 1 + 1, 0, none⟩ (.slice (some ⟨w.heap.size + 1 + 1 + 1, 0, none⟩) zs.length zs.length) (by simp <;> omega)).msetO ⟨w.heap.size + 1 + 1, 1, none⟩ (.int .i64 cnt) (by simp <;> omega))
  have HV2 : Hid (BoxC 31 ((w1.setCell ⟨w.heap.size + 1 + 1, 0, none⟩ (.slice (some ⟨w.heap.size + 1 + 1 + 1, 0, none⟩) zs.length zs.length)).setCell ⟨w.heap.size + 1 + 1, 1, none⟩ (.int .i64 cnt)) (w.heap.size + 1 + 1) #[.slice (some ⟨w.heap.size + 1 + 1 + 1, 0, none⟩) zs.length zs.length, .int .i64 cnt, .slice none 0 0, .slice none 0 0]) := Lib.hid ((HV1.out.mset 0 _).mset 1 _)
  have HB2 := Lib.hid ((HB1.out.setCell (p := ⟨w.heap.size + 1 + 1, 0, none⟩) (by simp <;> omega) (.slice (some ⟨w.heap.size + 1 + 1 + 1, 0, none⟩) zs.length zs.length)).setCell (p := ⟨w.heap.size + 1 + 1, 1, none⟩) (by simp <;> omega) (.int .i64 cnt))
  have HO2 := Lib.hid ((HO1.out.setCell (a := ⟨w.heap.size + 1 + 1, 0, none⟩) (by simp <;> omega) (.slice (some ⟨w.heap.size + 1 + 1 + 1, 0, none⟩) zs.length zs.length)).setCell (a := ⟨w.heap.size + 1 + 1, 1, none⟩) (by simp <;> omega) (.int .i64 cnt))
  have hl2 : w.heap.size + 1 + 1 + 1 < ((w1.setCell ⟨w.heap.size + 1 + 1, 0, none⟩ (.slice (some ⟨w.heap.size + 1 + 1 + 1, 0, none⟩) zs.length zs.length)).setCell ⟨w.heap.size + 1 + 1, 1, none⟩ (.int .i64 cnt)).heap.size := by rw [size_setc2, size_setc2]; exact hl1
  generalize (w1.setCell ⟨w.heap.size + 1 + 1, 0, none⟩ (.slice (some ⟨w.heap.size + 1 + 1 + 1, 0, none⟩) zs.length zs.length)).setCell ⟨w.heap.size + 1 + 1, 1, none⟩ (.int .i64 cnt) = w2 at HS2 HR2 HV2 HB2 HO2 hl2 ⊢
  clear hs hv hf HS1 HR1 HV1 HB1 HO1 hl1
  have hs := HS2.out.cell
  go_wp2_with fail
  refine (toWaiterS_any _ _ bs _ HTn.out (HT.out.below HB2.out)).mono ?_
  rintro e w3 ⟨rfl, hown, hb⟩
  have HB3 := Lib.hid (below_trans HB2.out hb)
  have HS3 := Lib.hid (HS2.out.below hb); have HR3 := Lib.hid (HR2.out.below hb); have HV3 := Lib.hid (HV2.out.below hb)
  have HO3 := Lib.hid (HO2.out.below hb)
  have HP3 := Lib.hid hown
  have hl3 : w2.heap.size < w3.heap.size := (World.ownsRow.lt HP3.out _ rfl).2
  generalize w2.heap.size = g2 at HP3 hl2 hl3 ⊢
  clear hb hown HS2 HR2 HV2 HB2 HO2 hs
  have hv := HV3.out.cell; have hf := HV3.out.mfroz
  go_upto_region 5 with fail
  have HS4 := Lib.hid (HS3.out.msetO ⟨w.heap.size + 1 + 1, 2, none⟩ (.slice (some ⟨g2, 0, none⟩) bs.length bs.length) (by simp <;> omega))
  have HR4 := Lib.hid (HR3.out.msetO ⟨w.heap.size + 1 + 1, 2, none⟩ (.slice (some ⟨g2, 0, none⟩) bs.length bs.length) (by simp <;> omega))
  have HV4 : Hid (BoxC 31 (w3.setCell ⟨w.heap.size + 1 + 1, 2, none⟩ (.slice (some ⟨g2, 0, none⟩) bs.length bs.length)) (w.heap.size + 1 + 1) #[.slice (some ⟨w.heap.size + 1 + 1 + 1, 0, none⟩) zs.length zs.length, .int .i64 cnt, .slice (some ⟨g2, 0, none⟩) bs.length bs.length, .slice none 0 0]) := Lib.hid (HV3.out.mset 2 _)
  have HB4 := Lib.hid (HB3.out.setCell (p := ⟨w.heap.size + 1 + 1, 2, none⟩) (by simp <;> omega) (.slice (some ⟨g2, 0, none⟩) bs.length bs.length))
  have HO4 := Lib.hid (HO3.out.setCell (a := ⟨w.heap.size + 1 + 1, 2, none⟩) (by simp <;> omega) (.slice (some ⟨g2, 0, none⟩) bs.length bs.length))
  have HP4 : Hid (OwnR Wtr.cs 3 35 g2 (w3.setCell ⟨w.heap.size + 1 + 1, 2, none⟩ (.slice (some ⟨g2, 0, none⟩) bs.length bs.length)) (some ⟨g2, 0, none⟩) bs.length bs) := Lib.hid (ownsRow_setCell_below HP3.out (by simp <;> omega) _)
  have hl4 : g2 < (w3.setCell ⟨w.heap.size + 1 + 1, 2, none⟩ (.slice (some ⟨g2, 0, none⟩) bs.length bs.length)).heap.size := by rw [size_setc2]; exact hl3
  generalize w3.setCell ⟨w.heap.size + 1 + 1, 2, none⟩ (.slice (some ⟨g2, 0, none⟩) bs.length bs.length) = w4 at HS4 HR4 HV4 HB4 HO4 HP4 hl4 ⊢
  clear hv hf HS3 HR3 HV3 HB3 HO3 HP3 hl3
  have hs := HS4.out.cell
  go_wp2_with fail
  refine (toWaiterS_any _ _ os _ HCn.out (HC.out.below HB4.out)).mono ?_
  rintro e w5 ⟨rfl, hown, hb⟩
  have HB5 := Lib.hid (below_trans HB4.out hb)
  have HR5 := Lib.hid (HR4.out.below hb); have HV5 := Lib.hid (HV4.out.below hb)
  have HO5 := Lib.hid (HO4.out.below hb)
  have HP5 := Lib.hid (OwnR.below HP4.out hb)
  have HQ5 := Lib.hid hown
  have hl5 : w4.heap.size < w5.heap.size := (World.ownsRow.lt HQ5.out _ rfl).2
  generalize w4.heap.size = g3 at HQ5 hl4 hl5 ⊢
  clear hb hown HS4 HR4 HV4 HB4 HO4 HP4 hs
  have hv := HV5.out.cell; have hf := HV5.out.mfroz
  go_upto_region 6 with fail
  have HR6 := Lib.hid (HR5.out.msetO ⟨w.heap.size + 1 + 1, 3, none⟩ (.slice (some ⟨g3, 0, none⟩) os.length os.length) (by simp <;> omega))
  have HV6 : Hid (BoxC 31 (w5.setCell ⟨w.heap.size + 1 + 1, 3, none⟩ (.slice (some ⟨g3, 0, none⟩) os.length os.length)) (w.heap.size + 1 + 1) #[.slice (some ⟨w.heap.size + 1 + 1 + 1, 0, none⟩) zs.length zs.length, .int .i64 cnt, .slice (some ⟨g2, 0, none⟩) bs.length bs.length, .slice (some ⟨g3, 0, none⟩) os.length os.length]) := Lib.hid (HV5.out.mset 3 _)
  have HB6 := Lib.hid (HB5.out.setCell (p := ⟨w.heap.size + 1 + 1, 3, none⟩) (by simp <;> omega) (.slice (some ⟨g3, 0, none⟩) os.length os.length))
  have HO6 := Lib.hid (HO5.out.setCell (a := ⟨w.heap.size + 1 + 1, 3, none⟩) (by simp <;> omega) (.slice (some ⟨g3, 0, none⟩) os.length os.length))
  have HP6 : Hid (OwnR Wtr.cs 3 35 g2 (w5.setCell ⟨w.heap.size + 1 + 1, 3, none⟩ (.slice (some ⟨g3, 0, none⟩) os.length os.length)) (some ⟨g2, 0, none⟩) bs.length bs) := Lib.hid (ownsRow_setCell_below HP5.out (by simp <;> omega) _)
  have HQ6 : Hid (OwnR Wtr.cs 3 35 g3 (w5.setCell ⟨w.heap.size + 1 + 1, 3, none⟩ (.slice (some ⟨g3, 0, none⟩) os.length os.length)) (some ⟨g3, 0, none⟩) os.length os) := Lib.hid (ownsRow_setCell_below HQ5.out (by simp <;> omega) _)
  generalize w5.setCell ⟨w.heap.size + 1 + 1, 3, none⟩ (.slice (some ⟨g3, 0, none⟩) os.length os.length) = w6 at HR6 HV6 HB6 HO6 HP6 HQ6 ⊢
  clear hv hf HR5 HV5 HB5 HO5 HP5 HQ5 hl5
  have hv := HV6.out.cell; have hr := HR6.out.cell; have hf := HR6.out.mfroz
  go_wp2
  refine bodyPost_ret (v := .agg #[.slice (some ⟨w.heap.size + 1 + 1 + 1, 0, none⟩) zs.length zs.length, .int .i64 cnt, .slice (some ⟨g2, 0, none⟩) bs.length bs.length, .slice (some ⟨g3, 0, none⟩) os.length os.length]) (by simp [results, Try.results13, go_sem, hr]) rfl ⟨w.heap.size + 1 + 1 + 1, g2, g3, rfl, by omega, hl2, hl4, ?_, ?_, ?_, ?_⟩
  · refine NewA.base (B := w.heap.size + 1 + 1 + 1) ?_ (by omega)
    repeat (refine NewA.setCell ?_ (by simp <;> omega) _)
    exact HO6.out
  · refine OwnR.base (B := g2) ?_ (by omega)
    repeat (refine ownsRow_setCell_below ?_ (by simp <;> omega) _)
    exact HP6.out
  · refine OwnR.base (B := g3) ?_ (by omega)
    repeat (refine ownsRow_setCell_below ?_ (by simp <;> omega) _)
    exact HQ6.out
  · repeat (refine Below.setCell ?_ (by simp <;> omega) _)
    exact HB6.out
end Go.Proofs.Ythianfhfamkcmaa

namespace Go.Proofs.Ythianfhfamkcmaa
open Go.RowKit

theorem flatV_append {α : Type} (f : α → List Value) (a b : List α) : flatV f (a ++ b) = flatV f a ++ flatV f b := by simp [flatV]
theorem RdR.cells {α : Type} {f : α → List Value} {w : World} {A : Option Addr} {l : List α} (h : RdR f w A l) (hl : l ≠ []) : ∃ b o, A = some ⟨b, o, none⟩ ∧ ∀ j u, (flatV f l)[j]? = some u → w.cell? ⟨b, o + j, none⟩ = some u := by
  rcases h with rfl | ⟨b, o, rfl, hr⟩
  · exact absurd rfl hl
  · exact ⟨b, o, rfl, hr⟩
theorem wpList_append_rows {P : Program} {α : Type} {f : α → List Value} {sz : Nat} (hf : ∀ x, (f x).length = sz) (h0 : 0 < sz) (h1 : ∀ x, ∀ u ∈ f x, u.oneCell' = true) (w : World) {ops : Array Oper} {rest : List Oper} {o : Oper} {a : Act} {Q : Exit → Act → World → Prop} (hgd : o.guard = none) (s x : Operand) (t : TypeId)
    (ho : o.op = .call { callee := .builtin .append, args := #[s, x], argTypes := #[t, t] })
    (base : Nat) (e : TypeId) (i : TypeInfo) (z : Value) (bytes : Nat) (ht : P.underlying t = some (.slice e)) (hi : P.info? e = some i) (hz : i.zero = some z)
    (hsize : i.size = sz) (hby : i.bytes = bytes) (hzs : z.cells.size = sz)
    (v : Value) (xs : List α) (hs : a.eval s = v) (hown : w.ownsRow base e sz v xs.length (flatV f xs))
    (A : Option Addr) (c : Nat) (ys : List α) (hx : a.eval x = .slice A ys.length c) (hA : RdR f w A ys)
    (hbytes : (xs.length + ys.length) * bytes ≤ 140737488355328) (h63 : xs.length + ys.length ≤ maxLen) (hbase : base ≤ w.heap.size)
    (h : ∀ B d w', w'.ownsRow base e sz (.slice B (xs ++ ys).length d) (xs ++ ys).length (flatV f (xs ++ ys)) → w.grownBy w' v.ownBlock → wpList P ops Q rest (a.put o.dst (.slice B (xs ++ ys).length d)) w') :
    wpList P ops Q (o :: rest) a w := by
  have hlen : (xs ++ ys).length = xs.length + ys.length := by simp
  have hform : ∀ (v' : Value) (w' : World), w'.ownsRow base e sz v' (xs.length + ys.length) (flatV f xs ++ flatV f ys) → ∃ B d, v' = .slice B (xs ++ ys).length d ∧ w'.ownsRow base e sz (.slice B (xs ++ ys).length d) (xs ++ ys).length (flatV f (xs ++ ys)) := by
    intro v' w' ho'
    rw [← flatV_append] at ho'
    rcases ho'.2 with ⟨rfl, h0⟩ | ⟨g, cap, cur, rfl, r⟩
    · refine ⟨none, 0, ?_, ?_⟩
      · rw [hlen, h0]
      · rw [hlen, h0]; rw [h0] at ho'; exact ho'
    · exact ⟨_, _, by rw [hlen], by rw [hlen]; exact ho'⟩
  rcases A with _ | ad
  · obtain rfl : ys = [] := by
      rcases hA with h9 | ⟨b, o, h9, _⟩
      · exact h9
      · cases h9
    refine wpList_plain hgd fun K hK' => ?_
    have hrun := run_app_nil (P := P) w base t o.type e i sz ht hi v xs.length (flatV f xs) hown c
    obtain ⟨B, d, hv, hown'⟩ := hform v w (by simpa [flatV] using hown)
    unfold Oper.wp
    simp [execOp, ho, resolve, invoke, builtin, hs, hx, hrun, Result.andThen]
    rw [hv]
    exact hK' _ _ (h B d w hown' (World.grownBy.refl _ _))
  · refine wpList_append_own w hgd s x t ho base e i z sz bytes ht hi hz hsize hby hzs h0 v xs.length (flatV f xs) hs hown ad ys.length c (flatV f ys) hx (flatV_len hf ys) ?_ ?_ h63 hbytes hbase ?_
    · intro j u hu
      have hne : ys ≠ [] := by rintro rfl; simp [flatV] at hu
      obtain ⟨b, o, e9, hc⟩ := hA.cells hne
      obtain rfl := Option.some.inj e9
      rw [Addr.add_mid]
      exact hc j u hu
    · intro u hu
      unfold flatV at hu
      rw [List.mem_flatten] at hu
      obtain ⟨l, hl, hu⟩ := hu
      rw [List.mem_map] at hl
      obtain ⟨y, _, rfl⟩ := hl
      exact h1 y u hu
    · intro v' w' h2 h3 _
      obtain ⟨B, d, rfl, hown'⟩ := hform v' w' h2
      exact h B d w' hown' h3
theorem Wtr.one (x : Wtr) : ∀ u ∈ x.cs, u.oneCell' = true := by intro u hu; simp [Wtr.cs] at hu; rcases hu with rfl | rfl | rfl <;> simp [Value.oneCell']
theorem infoW : ∃ i0, Try.prog.info? 35 = some i0 ∧ i0.zero = some (.agg #[.int .i64 0, .int .i64 0, .int .i64 0]) ∧ i0.size = 3 ∧ i0.bytes = 24 := by
  have h : (Try.prog.info? 35).map (fun i => (i.zero, i.size, i.bytes)) = some (some (.agg #[.int .i64 0, .int .i64 0, .int .i64 0]), 3, 24) := by kernel_rfl
  cases hq : Try.prog.info? 35 with
  | none => rw [hq] at h; cases h
  | some i0 =>
    rw [hq] at h
    simp only [Option.map_some, Option.some.injEq, Prod.mk.injEq] at h
    exact ⟨i0, rfl, h.1, h.2.1, h.2.2⟩
theorem own_emptyW (w0 : World) (base k : Nat) (hk : w0.heap.size = k) (hb : base ≤ k) : (w0.alloc (.cells #[] 35)).ownsRow base 35 3 (.slice (some ⟨k, 0, none⟩) 0 0) ([] : List Wtr).length (flatV Wtr.cs []) := by
  subst hk
  exact World.ownsRow_lit w0 #[] 0 hb (Nat.zero_le _) rfl

set_option maxHeartbeats 1000000 in
set_option maxRecDepth 100000 in
theorem cloneI_any (A : Option Addr) (c : Nat) (l : List Int) (w : World) (hn : l.length ≤ 1048576) (hc : A = none → c = 0) (hA : Rd w A l) :
    Calls Try.prog 109 #[.slice A l.length c] w fun e w' => ∃ B d, e = .returned (.slice B l.length d) ∧ NewA w.heap.size w' B d l ∧ Below w.heap.size w w' := by
  obtain ⟨i0, hi, hz0, hz1, hz2⟩ := info_parts Try.infoInt
  have Hi := Lib.hid hi; have Hz0 := Lib.hid hz0; have Hz1 := Lib.hid hz1; have Hz2 := Lib.hid hz2
  clear hi hz0 hz1 hz2
  rcases A with _ | ad
  · obtain rfl : l = [] := by
      rcases Nat.eq_zero_or_pos l.length with h0 | h0
      · exact List.eq_nil_of_length_eq_zero h0
      · obtain ⟨b, o, h9, _⟩ := hA 0 h0
        cases h9
    obtain rfl := hc rfl
    have hnil : ∀ wx : World, (binOp .eql 22 (.slice none 0 0) (.slice none 0 0)).run Try.prog wx = .ok (.bool true) wx := fun wx => Go.Lib.run_eql_slice_nil wx _ 3 none 0 0 0 0 Try.underlying22
    go_enter Try.func109, Try.ntmps109
    go_wp2
    go_ret
    exact ⟨none, 0, rfl, World.ownsRow_nil _ _ _ _, Below.refl _ _⟩
  have HA := Lib.hid hA; clear hA
  have hnil : ∀ wx : World, (binOp .eql 22 (.slice (some ad) l.length c) (.slice none 0 0)).run Try.prog wx = .ok (.bool false) wx := fun wx => Go.Lib.run_eql_slice_nil wx _ 3 (some ad) _ _ 0 0 Try.underlying22
  go_enter Try.func109, Try.ntmps109
  go_wp2_with (at_builtin; refine wpList_append_rd _ rfl (.tmp 5) (.tmp 6) 22 rfl w.heap.size 3 i0 (.int .i64 0) 8 Try.underlying22 Hi.out Hz0.out Hz1.out Hz2.out rfl _ [] rfl (own_empty _ _ _ _ rfl (Nat.le_refl _)) _ _ l rfl (HA.out.below (below_alloc _ _)) ?_ ?_ (by simp) ?_)
  · show ([].length + l.length) * _ ≤ _; simp only [List.length_nil]; omega
  · show [].length + l.length ≤ maxLen; unfold maxLen; simp only [List.length_nil]; omega
  intro B d w' hown hgr
  have HO := Lib.hid hown
  have HB := Lib.hid ((below_alloc w (.cells #[] 3)).grown hgr (by simp) (by intro q hq; cases hq; exact Nat.le_refl _))
  clear hown hgr
  go_wp2
  go_ret
  exact ⟨B, d, rfl, HO.out, HB.out⟩

set_option maxHeartbeats 1000000 in
set_option maxRecDepth 100000 in
theorem cloneW_any (A : Option Addr) (c : Nat) (l : List Wtr) (w : World) (hn : l.length ≤ 1048576) (hc : A = none → c = 0) (hA : RdR Wtr.cs w A l) :
    Calls Try.prog 110 #[.slice A l.length c] w fun e w' => ∃ B d, e = .returned (.slice B l.length d) ∧ OwnR Wtr.cs 3 35 w.heap.size w' B d l ∧ Below w.heap.size w w' := by
  obtain ⟨i0, hi, hz0, hz1, hz2⟩ := infoW
  have Hi := Lib.hid hi; have Hz0 := Lib.hid hz0; have Hz1 := Lib.hid hz1; have Hz2 := Lib.hid hz2
  clear hi hz0 hz1 hz2
  rcases A with _ | ad
  · obtain rfl : l = [] := by
      rcases hA with h9 | ⟨b, o, h9, _⟩
      · exact h9
      · cases h9
    obtain rfl := hc rfl
    have hnil : ∀ wx : World, (binOp .eql 29 (.slice none 0 0) (.slice none 0 0)).run Try.prog wx = .ok (.bool true) wx := fun wx => Go.Lib.run_eql_slice_nil wx _ 35 none 0 0 0 0 Try.underlying29
    go_enter Try.func110, Try.ntmps110
    go_wp2
    go_ret
    exact ⟨none, 0, rfl, World.ownsRow_nil _ _ _ _, Below.refl _ _⟩
  have HA := Lib.hid hA; clear hA
  have hnil : ∀ wx : World, (binOp .eql 29 (.slice (some ad) l.length c) (.slice none 0 0)).run Try.prog wx = .ok (.bool false) wx := fun wx => Go.Lib.run_eql_slice_nil wx _ 35 (some ad) _ _ 0 0 Try.underlying29
  go_enter Try.func110, Try.ntmps110
  go_wp2_with (at_builtin; refine wpList_append_rows Wtr.len (by decide) Wtr.one _ rfl (.tmp 5) (.tmp 6) 29 rfl w.heap.size 35 i0 (.agg #[.int .i64 0, .int .i64 0, .int .i64 0]) 24 Try.underlying29 Hi.out Hz0.out Hz1.out Hz2.out rfl _ [] rfl (own_emptyW _ _ _ rfl (Nat.le_refl _)) _ _ l rfl (HA.out.below (below_alloc _ _)) ?_ ?_ (by simp) ?_)
  · show ([].length + l.length) * _ ≤ _; simp only [List.length_nil]; omega
  · show [].length + l.length ≤ maxLen; unfold maxLen; simp only [List.length_nil]; omega
  intro B d w' hown hgr
  have HO := Lib.hid hown
  have HB := Lib.hid ((below_alloc w (.cells #[] 35)).grown hgr (by simp) (by intro q hq; cases hq; exact Nat.le_refl _))
  clear hown hgr
  go_wp2
  go_ret
  exact ⟨B, d, rfl, HO.out, HB.out⟩
end Go.Proofs.Ythianfhfamkcmaa

namespace Go.Proofs.Ythianfhfamkcmaa
open Go.RowKit

/-- Two slices share no block of their own. -/
def Dis (u v : Value) : Prop := ∀ q, u.ownBlock = some q → v.ownBlock ≠ some q
/-- A model whose lists are the call's own, each in a block for itself. -/
structure OwnO (b0 : Nat) (w : World) (B1 : Option Addr) (d1 : Nat) (zs : List Int) (B2 : Option Addr) (d2 : Nat) (bs : List Wtr) (B3 : Option Addr) (d3 : Nat) (os : List Wtr) : Prop where
  st : NewA b0 w B1 d1 zs
  wt : OwnR Wtr.cs 3 35 b0 w B2 d2 bs
  of : OwnR Wtr.cs 3 35 b0 w B3 d3 os
  d12 : Dis (.slice B1 zs.length d1) (.slice B2 bs.length d2)
  d13 : Dis (.slice B1 zs.length d1) (.slice B3 os.length d3)
  d23 : Dis (.slice B2 bs.length d2) (.slice B3 os.length d3)
theorem OwnO.below {b0 : Nat} {w w' : World} {B1 : Option Addr} {d1 : Nat} {zs : List Int} {B2 : Option Addr} {d2 : Nat} {bs : List Wtr} {B3 : Option Addr} {d3 : Nat} {os : List Wtr} (h : OwnO b0 w B1 d1 zs B2 d2 bs B3 d3 os) (hb : Below w.heap.size w w') : OwnO b0 w' B1 d1 zs B2 d2 bs B3 d3 os :=
  ⟨h.st.below hb, OwnR.below h.wt hb, OwnR.below h.of hb, h.d12, h.d13, h.d23⟩
theorem dis_of {u v : Value} {k : Nat} (hu : ∀ q, u.ownBlock = some q → q < k) (hv : ∀ q, v.ownBlock = some q → k ≤ q) : Dis u v := fun q h1 h2 => by
  have := hu q h1; have := hv q h2; omega

set_option maxHeartbeats 4000000 in
set_option maxRecDepth 100000 in
theorem copyModel_any (A B O : Option Addr) (ca cb co : Nat) (zs : List Int) (bs os : List Wtr) (cnt : Int) (w : World) (hz : zs.length ≤ 1048576) (ht : bs.length ≤ 1048576) (hc : os.length ≤ 1048576) (hA : Rd w A zs) (hT : RdR Wtr.cs w B bs) (hC : RdR Wtr.cs w O os) (nA : A = none → ca = 0) (nB : B = none → cb = 0) (nO : O = none → co = 0) :
    Calls Try.prog 55 #[.agg #[.slice A zs.length ca, .int .i64 cnt, .slice B bs.length cb, .slice O os.length co]] w fun e w' => ∃ B1 d1 B2 d2 B3 d3, e = .returned (.agg #[.slice B1 zs.length d1, .int .i64 cnt, .slice B2 bs.length d2, .slice B3 os.length d3]) ∧ OwnO w.heap.size w' B1 d1 zs B2 d2 bs B3 d3 os ∧ Below w.heap.size w w' := by
  have NA := Lib.hid nA; have NB := Lib.hid nB; have NO := Lib.hid nO; clear nA nB nO
  have HA := Lib.hid hA; have HT := Lib.hid hT; have HC := Lib.hid hC; clear hA hT hC
  have HZn := Lib.hid hz; have HTn := Lib.hid ht; have HCn := Lib.hid hc; clear hz ht hc
  have HB0 := Lib.hid (below_alloc2 w (.cells #[.slice A zs.length ca, .int .i64 cnt, .slice B bs.length cb, .slice O os.length co] 31) (.cells #[.slice none 0 0, .int .i64 0, .slice none 0 0, .slice none 0 0] 31))
  have HS := Lib.hid ((BoxC.new 31 w #[.slice A zs.length ca, .int .i64 cnt, .slice B bs.length cb, .slice O os.length co]).below (below_alloc _ (.cells #[.slice none 0 0, .int .i64 0, .slice none 0 0, .slice none 0 0] 31)))
  have HR := Lib.hid (by have h := BoxC.new 31 (w.alloc (.cells #[.slice A zs.length ca, .int .i64 cnt, .slice B bs.length cb, .slice O os.length co] 31)) #[.slice none 0 0, .int .i64 0, .slice none 0 0, .slice none 0 0]; rw [size_alloc] at h; exact h)
  have hsz : w.heap.size + 1 + 1 = ((w.alloc (.cells #[.slice A zs.length ca, .int .i64 cnt, .slice B bs.length cb, .slice O os.length co] 31)).alloc (.cells #[.slice none 0 0, .int .i64 0, .slice none 0 0, .slice none 0 0] 31)).heap.size := by simp
  go_enter Try.func55, Try.ntmps55
  go_wp2_with fail
  refine (cloneI_any _ _ zs _ HZn.out NA.out (HA.out.below HB0.out)).mono ?_
  rintro e w1 ⟨B1, d1, rfl, hown, hb⟩
  rw [← hsz] at hown
  have HB1 := Lib.hid (below_trans HB0.out hb)
  have HO1 := Lib.hid hown
  have HS1 := Lib.hid (HS.out.below hb); have HR1 := Lib.hid (HR.out.below hb)
  have hz1 : w.heap.size + 1 < w1.heap.size := HR1.out.lt
  clear hb hown HS HR HB0 hsz
  have hs := HS1.out.cell; have hf := HS1.out.mfroz
  go_upto_region 2 with fail
  have HS2 : Hid (BoxC 31 (w1.setCell ⟨w.heap.size, 0, none⟩ (.slice B1 zs.length d1)) w.heap.size #[.slice B1 zs.length d1, .int .i64 cnt, .slice B bs.length cb, .slice O os.length co]) := Lib.hid (HS1.out.mset 0 _)
  have HR2 := Lib.hid (HR1.out.msetO ⟨w.heap.size, 0, none⟩ (.slice B1 zs.length d1) (by simp <;> omega))
  have HB2 := Lib.hid (HB1.out.setCell (p := ⟨w.heap.size, 0, none⟩) (by simp) (.slice B1 zs.length d1))
  have HO2 := Lib.hid (NewA.setCell HO1.out (a := ⟨w.heap.size, 0, none⟩) (by simp <;> omega) (.slice B1 zs.length d1))
  have hz2 : w.heap.size + 1 < (w1.setCell ⟨w.heap.size, 0, none⟩ (.slice B1 zs.length d1)).heap.size := by rw [size_setc2]; exact hz1
  generalize w1.setCell ⟨w.heap.size, 0, none⟩ (.slice B1 zs.length d1) = w2 at HS2 HR2 HB2 HO2 hz2 ⊢
  clear hs hf HS1 HR1 HB1 HO1 hz1
  have hs := HS2.out.cell
  go_wp2_with fail
  refine (cloneW_any _ _ bs _ HTn.out NB.out (HT.out.below HB2.out)).mono ?_
  rintro e w3 ⟨B2, d2, rfl, hown, hb⟩
  have HB3 := Lib.hid (below_trans HB2.out hb)
  have HO3 := Lib.hid (HO2.out.below hb)
  have HP3 := Lib.hid hown
  have HL1 : Hid (∀ q, (Value.slice B1 zs.length d1).ownBlock = some q → q < w2.heap.size) := fun q hq => (World.ownsRow.lt HO2.out q hq).2
  have HG2 : Hid (∀ q, (Value.slice B2 bs.length d2).ownBlock = some q → w2.heap.size ≤ q) := fun q hq => (World.ownsRow.lt HP3.out q hq).1
  have HS3 := Lib.hid (HS2.out.below hb); have HR3 := Lib.hid (HR2.out.below hb)
  have HP3' := Lib.hid (OwnR.base HP3.out (B' := w.heap.size + 1 + 1) (by omega))
  have hz3 : w.heap.size + 1 < w3.heap.size := HR3.out.lt
  generalize w2.heap.size = s2 at HL1 HG2
  clear hb hown HS2 HR2 HB2 HO2 HP3 hs hz2
  have hs := HS3.out.cell; have hf := HS3.out.mfroz
  go_upto_region 3 with fail
  have HS4 : Hid (BoxC 31 (w3.setCell ⟨w.heap.size, 2, none⟩ (.slice B2 bs.length d2)) w.heap.size #[.slice B1 zs.length d1, .int .i64 cnt, .slice B2 bs.length d2, .slice O os.length co]) := Lib.hid (HS3.out.mset 2 _)
  have HR4 := Lib.hid (HR3.out.msetO ⟨w.heap.size, 2, none⟩ (.slice B2 bs.length d2) (by simp <;> omega))
  have HB4 := Lib.hid (HB3.out.setCell (p := ⟨w.heap.size, 2, none⟩) (by simp) (.slice B2 bs.length d2))
  have HO4 := Lib.hid (NewA.setCell HO3.out (a := ⟨w.heap.size, 2, none⟩) (by simp <;> omega) (.slice B2 bs.length d2))
  have HP4 : Hid (OwnR Wtr.cs 3 35 (w.heap.size + 1 + 1) (w3.setCell ⟨w.heap.size, 2, none⟩ (.slice B2 bs.length d2)) B2 d2 bs) := Lib.hid (ownsRow_setCell_below HP3'.out (by simp <;> omega) _)
  generalize w3.setCell ⟨w.heap.size, 2, none⟩ (.slice B2 bs.length d2) = w4 at HS4 HR4 HB4 HO4 HP4 ⊢
  clear hs hf HS3 HR3 HB3 HO3 HP3' hz3
  have hs := HS4.out.cell
  go_wp2_with fail
  refine (cloneW_any _ _ os _ HCn.out NO.out (HC.out.below HB4.out)).mono ?_
  rintro e w5 ⟨B3, d3, rfl, hown, hb⟩
  have HB5 := Lib.hid (below_trans HB4.out hb)
  have HO5 := Lib.hid (HO4.out.below hb)
  have HP5 := Lib.hid (OwnR.below HP4.out hb)
  have HL1b : Hid (∀ q, (Value.slice B1 zs.length d1).ownBlock = some q → q < w4.heap.size) := fun q hq => (World.ownsRow.lt HO4.out q hq).2
  have HL2 : Hid (∀ q, (Value.slice B2 bs.length d2).ownBlock = some q → q < w4.heap.size) := fun q hq => (World.ownsRow.lt HP4.out q hq).2
  have HG3 : Hid (∀ q, (Value.slice B3 os.length d3).ownBlock = some q → w4.heap.size ≤ q) := fun q hq => (World.ownsRow.lt hown q hq).1
  have hz4 : w.heap.size + 1 < w4.heap.size := HR4.out.lt
  have HQ5 := Lib.hid (OwnR.base hown (B' := w.heap.size + 1 + 1) (by omega))
  have HS5 := Lib.hid (HS4.out.below hb); have HR5 := Lib.hid (HR4.out.below hb)
  generalize w4.heap.size = s4 at HL1b HL2 HG3
  clear hb hown HS4 HR4 HB4 HO4 HP4 hs hz4
  have hs := HS5.out.cell; have hf := HS5.out.mfroz
  go_upto_region 4 with fail
  have HS6 : Hid (BoxC 31 (w5.setCell ⟨w.heap.size, 3, none⟩ (.slice B3 os.length d3)) w.heap.size #[.slice B1 zs.length d1, .int .i64 cnt, .slice B2 bs.length d2, .slice B3 os.length d3]) := Lib.hid (HS5.out.mset 3 _)
  have HR6 := Lib.hid (HR5.out.msetO ⟨w.heap.size, 3, none⟩ (.slice B3 os.length d3) (by simp <;> omega))
  have HB6 := Lib.hid (HB5.out.setCell (p := ⟨w.heap.size, 3, none⟩) (by simp) (.slice B3 os.length d3))
  have HO6 := Lib.hid (NewA.setCell HO5.out (a := ⟨w.heap.size, 3, none⟩) (by simp <;> omega) (.slice B3 os.length d3))
  have HP6 : Hid (OwnR Wtr.cs 3 35 (w.heap.size + 1 + 1) (w5.setCell ⟨w.heap.size, 3, none⟩ (.slice B3 os.length d3)) B2 d2 bs) := Lib.hid (ownsRow_setCell_below HP5.out (by simp <;> omega) _)
  have HQ6 : Hid (OwnR Wtr.cs 3 35 (w.heap.size + 1 + 1) (w5.setCell ⟨w.heap.size, 3, none⟩ (.slice B3 os.length d3)) B3 d3 os) := Lib.hid (ownsRow_setCell_below HQ5.out (by simp <;> omega) _)
  generalize w5.setCell ⟨w.heap.size, 3, none⟩ (.slice B3 os.length d3) = w6 at HS6 HR6 HB6 HO6 HP6 HQ6 ⊢
  clear hs hf HS5 HR5 HB5 HO5 HP5 HQ5
  have hs := HS6.out.cell; have hr := HR6.out.cell; have hf := HR6.out.mfroz
  go_wp2
  refine bodyPost_ret (v := .agg #[.slice B1 zs.length d1, .int .i64 cnt, .slice B2 bs.length d2, .slice B3 os.length d3]) (by simp [results, Try.results55, go_sem, hr]) rfl ⟨B1, d1, B2, d2, B3, d3, rfl, ⟨?_, ?_, ?_, dis_of HL1.out HG2.out, dis_of HL1b.out HG3.out, dis_of HL2.out HG3.out⟩, ?_⟩
  · refine NewA.base (B := w.heap.size + 1 + 1) ?_ (by omega)
    repeat (refine NewA.setCell ?_ (by simp <;> omega) _)
    exact HO6.out
  · refine OwnR.base (B := w.heap.size + 1 + 1) ?_ (by omega)
    repeat (refine ownsRow_setCell_below ?_ (by simp <;> omega) _)
    exact HP6.out
  · refine OwnR.base (B := w.heap.size + 1 + 1) ?_ (by omega)
    repeat (refine ownsRow_setCell_below ?_ (by simp <;> omega) _)
    exact HQ6.out
  · repeat (refine Below.setCell ?_ (by simp <;> omega) _)
    exact HB6.out


set_option maxHeartbeats 4000000 in
set_option maxRecDepth 100000 in
theorem l10Own_any (A B O : Option Addr) (ca cb co : Nat) (zs : List Int) (bs os : List Wtr) (cnt : Int) (w : World) (hz : zs.length ≤ 1048576) (ht : bs.length ≤ 1048576) (hc : os.length ≤ 1048576) (hA : Rd w A zs) (hT : RdR Wtr.cs w B bs) (hC : RdR Wtr.cs w O os) :
    Calls Try.prog 50 #[.agg #[.slice A zs.length ca, .int .i64 cnt, .slice B bs.length cb, .slice O os.length co]] w fun e w' => ∃ B1 d1 B2 d2 B3 d3, e = .returned (.agg #[.slice B1 zs.length d1, .int .i64 cnt, .slice B2 bs.length d2, .slice B3 os.length d3]) ∧ OwnO w.heap.size w' B1 d1 zs B2 d2 bs B3 d3 os ∧ Below w.heap.size w w' := by
  obtain ⟨i0, hi, hz0, hz1, hz2⟩ := info_parts Try.infoInt
  obtain ⟨j0, hj, hy0, hy1, hy2⟩ := infoW
  have Hi := Lib.hid hi; have Hz0 := Lib.hid hz0; have Hz1 := Lib.hid hz1; have Hz2 := Lib.hid hz2
  have Hj := Lib.hid hj; have Hy0 := Lib.hid hy0; have Hy1 := Lib.hid hy1; have Hy2 := Lib.hid hy2
  clear hi hz0 hz1 hz2 hj hy0 hy1 hy2
  have HA := Lib.hid hA; have HT := Lib.hid hT; have HC := Lib.hid hC; clear hA hT hC
  have HB0 := Lib.hid (below_alloc2 w (.cells #[.slice A zs.length ca, .int .i64 cnt, .slice B bs.length cb, .slice O os.length co] 31) (.cells #[.slice none 0 0, .int .i64 0, .slice none 0 0, .slice none 0 0] 31))
  have HS := Lib.hid ((BoxC.new 31 w #[.slice A zs.length ca, .int .i64 cnt, .slice B bs.length cb, .slice O os.length co]).below (below_alloc _ (.cells #[.slice none 0 0, .int .i64 0, .slice none 0 0, .slice none 0 0] 31)))
  have HR := Lib.hid (by have h := BoxC.new 31 (w.alloc (.cells #[.slice A zs.length ca, .int .i64 cnt, .slice B bs.length cb, .slice O os.length co] 31)) #[.slice none 0 0, .int .i64 0, .slice none 0 0, .slice none 0 0]; rw [size_alloc] at h; exact h)
  go_enter Try.func50, Try.ntmps50
  go_wp2_with (at_builtin; refine wpList_append_rd _ rfl (.tmp 3) (.tmp 5) 22 rfl (w.heap.size + 1 + 1) 3 i0 (.int .i64 0) 8 Try.underlying22 Hi.out Hz0.out Hz1.out Hz2.out rfl _ [] rfl (own_empty _ _ _ _ (by simp) (by omega)) A ca zs rfl (HA.out.below (below_alloc3 _ _ _ _)) ?_ ?_ (by simp) ?_)
  · show ([].length + zs.length) * _ ≤ _; simp only [List.length_nil]; omega
  · show [].length + zs.length ≤ maxLen; unfold maxLen; simp only [List.length_nil]; omega
  intro B1 d1 w1 hown hgr
  have hbe : Below ((w.alloc (.cells #[.slice A zs.length ca, .int .i64 cnt, .slice B bs.length cb, .slice O os.length co] 31)).alloc (.cells #[.slice none 0 0, .int .i64 0, .slice none 0 0, .slice none 0 0] 31)).heap.size ((w.alloc (.cells #[.slice A zs.length ca, .int .i64 cnt, .slice B bs.length cb, .slice O os.length co] 31)).alloc (.cells #[.slice none 0 0, .int .i64 0, .slice none 0 0, .slice none 0 0] 31)) w1 := (below_alloc _ (.cells #[] 3)).grown hgr (by simp) (by intro q hq; cases hq; simp)
  have HB1 := Lib.hid (below_trans HB0.out hbe)
  have HO1 : Hid (NewA (w.heap.size + 1 + 1) w1 B1 d1 zs) := hown
  have HS1 := Lib.hid (HS.out.below hbe); have HR1 := Lib.hid (HR.out.below hbe)
  have hz1 : w.heap.size + 1 < w1.heap.size := HR1.out.lt
  clear hown hgr hbe HS HR HB0
  have hs := HS1.out.cell; have hf := HS1.out.mfroz
  go_upto_region 2 with fail
  have HS2 : Hid (BoxC 31 (w1.setCell ⟨w.heap.size, 0, none⟩ (.slice B1 zs.length d1)) w.heap.size #[.slice B1 zs.length d1, .int .i64 cnt, .slice B bs.length cb, .slice O os.length co]) := Lib.hid (HS1.out.mset 0 _)
  have HR2 := Lib.hid (HR1.out.msetO ⟨w.heap.size, 0, none⟩ (.slice B1 zs.length d1) (by simp <;> omega))
  have HB2 := Lib.hid (HB1.out.setCell (p := ⟨w.heap.size, 0, none⟩) (by simp) (.slice B1 zs.length d1))
  have HO2 := Lib.hid (NewA.setCell HO1.out (a := ⟨w.heap.size, 0, none⟩) (by simp <;> omega) (.slice B1 zs.length d1))
  have hz2 : w.heap.size + 1 < (w1.setCell ⟨w.heap.size, 0, none⟩ (.slice B1 zs.length d1)).heap.size := by rw [size_setc2]; exact hz1
  generalize w1.setCell ⟨w.heap.size, 0, none⟩ (.slice B1 zs.length d1) = w2 at HS2 HR2 HB2 HO2 hz2 ⊢
  clear hs hf HS1 HR1 HB1 HO1 hz1
  have hs := HS2.out.cell
  have hy2 : w.heap.size < w2.heap.size := by omega
  go_wp2_with (at_builtin; refine wpList_append_rows Wtr.len (by decide) Wtr.one _ rfl (.tmp 8) (.tmp 10) 29 rfl w2.heap.size 35 j0 (.agg #[.int .i64 0, .int .i64 0, .int .i64 0]) 24 Try.underlying29 Hj.out Hy0.out Hy1.out Hy2.out rfl _ [] rfl (own_emptyW _ _ _ rfl (Nat.le_refl _)) _ _ bs rfl (HT.out.below (below_trans HB2.out (below_alloc _ _))) ?_ ?_ (by simp) ?_)
  · show ([].length + bs.length) * _ ≤ _; simp only [List.length_nil]; omega
  · show [].length + bs.length ≤ maxLen; unfold maxLen; simp only [List.length_nil]; omega
  intro B2 d2 w3 hown hgr
  have hbe : Below w2.heap.size w2 w3 := (below_alloc _ (.cells #[] 35)).grown hgr (by simp) (by intro q hq; cases hq; simp)
  have HB3 := Lib.hid (below_trans HB2.out hbe)
  have HO3 := Lib.hid (HO2.out.below hbe)
  have HL1 : Hid (∀ q, (Value.slice B1 zs.length d1).ownBlock = some q → q < w2.heap.size) := fun q hq => (World.ownsRow.lt HO2.out q hq).2
  have HG2 : Hid (∀ q, (Value.slice B2 bs.length d2).ownBlock = some q → w2.heap.size ≤ q) := fun q hq => (World.ownsRow.lt hown q hq).1
  have HS3 := Lib.hid (HS2.out.below hbe); have HR3 := Lib.hid (HR2.out.below hbe)
  have HP3' : Hid (OwnR Wtr.cs 3 35 (w.heap.size + 1 + 1) w3 B2 d2 bs) := Lib.hid (OwnR.base hown (B' := w.heap.size + 1 + 1) (by omega))
  have hz3 : w.heap.size + 1 < w3.heap.size := HR3.out.lt
  generalize w2.heap.size = s2 at HL1 HG2
  clear hown hgr hbe HS2 HR2 HB2 HO2 hs hz2 hy2
  have hs := HS3.out.cell; have hf := HS3.out.mfroz
  go_upto_region 3 with fail
  have HS4 : Hid (BoxC 31 (w3.setCell ⟨w.heap.size, 2, none⟩ (.slice B2 bs.length d2)) w.heap.size #[.slice B1 zs.length d1, .int .i64 cnt, .slice B2 bs.length d2, .slice O os.length co]) := Lib.hid (HS3.out.mset 2 _)
  have HR4 := Lib.hid (HR3.out.msetO ⟨w.heap.size, 2, none⟩ (.slice B2 bs.length d2) (by simp <;> omega))
  have HB4 := Lib.hid (HB3.out.setCell (p := ⟨w.heap.size, 2, none⟩) (by simp) (.slice B2 bs.length d2))
  have HO4 := Lib.hid (NewA.setCell HO3.out (a := ⟨w.heap.size, 2, none⟩) (by simp <;> omega) (.slice B2 bs.length d2))
  have HP4 : Hid (OwnR Wtr.cs 3 35 (w.heap.size + 1 + 1) (w3.setCell ⟨w.heap.size, 2, none⟩ (.slice B2 bs.length d2)) B2 d2 bs) := Lib.hid (ownsRow_setCell_below HP3'.out (by simp <;> omega) _)
  have hz4 : w.heap.size + 1 < (w3.setCell ⟨w.heap.size, 2, none⟩ (.slice B2 bs.length d2)).heap.size := by rw [size_setc2]; exact hz3
  generalize w3.setCell ⟨w.heap.size, 2, none⟩ (.slice B2 bs.length d2) = w4 at HS4 HR4 HB4 HO4 HP4 hz4 ⊢
  clear hs hf HS3 HR3 HB3 HO3 HP3' hz3
  have hs := HS4.out.cell
  have hy4 : w.heap.size < w4.heap.size := by omega
  go_wp2_with (at_builtin; refine wpList_append_rows Wtr.len (by decide) Wtr.one _ rfl (.tmp 13) (.tmp 15) 29 rfl w4.heap.size 35 j0 (.agg #[.int .i64 0, .int .i64 0, .int .i64 0]) 24 Try.underlying29 Hj.out Hy0.out Hy1.out Hy2.out rfl _ [] rfl (own_emptyW _ _ _ rfl (Nat.le_refl _)) _ _ os rfl (HC.out.below (below_trans HB4.out (below_alloc _ _))) ?_ ?_ (by simp) ?_)
  · show ([].length + os.length) * _ ≤ _; simp only [List.length_nil]; omega
  · show [].length + os.length ≤ maxLen; unfold maxLen; simp only [List.length_nil]; omega
  intro B3 d3 w5 hown hgr
  have hbe : Below w4.heap.size w4 w5 := (below_alloc _ (.cells #[] 35)).grown hgr (by simp) (by intro q hq; cases hq; simp)
  have HB5 := Lib.hid (below_trans HB4.out hbe)
  have HO5 := Lib.hid (HO4.out.below hbe)
  have HP5 := Lib.hid (OwnR.below HP4.out hbe)
  have HL1b : Hid (∀ q, (Value.slice B1 zs.length d1).ownBlock = some q → q < w4.heap.size) := fun q hq => (World.ownsRow.lt HO4.out q hq).2
  have HL2 : Hid (∀ q, (Value.slice B2 bs.length d2).ownBlock = some q → q < w4.heap.size) := fun q hq => (World.ownsRow.lt HP4.out q hq).2
  have HG3 : Hid (∀ q, (Value.slice B3 os.length d3).ownBlock = some q → w4.heap.size ≤ q) := fun q hq => (World.ownsRow.lt hown q hq).1
  have HQ5 : Hid (OwnR Wtr.cs 3 35 (w.heap.size + 1 + 1) w5 B3 d3 os) := Lib.hid (OwnR.base hown (B' := w.heap.size + 1 + 1) (by omega))
  have HS5 := Lib.hid (HS4.out.below hbe); have HR5 := Lib.hid (HR4.out.below hbe)
  generalize w4.heap.size = s4 at HL1b HL2 HG3
  clear hown hgr hbe HS4 HR4 HB4 HO4 HP4 hs hz4 hy4
  have hs := HS5.out.cell; have hf := HS5.out.mfroz
  go_upto_region 4 with fail
  have HS6 : Hid (BoxC 31 (w5.setCell ⟨w.heap.size, 3, none⟩ (.slice B3 os.length d3)) w.heap.size #[.slice B1 zs.length d1, .int .i64 cnt, .slice B2 bs.length d2, .slice B3 os.length d3]) := Lib.hid (HS5.out.mset 3 _)
  have HR6 := Lib.hid (HR5.out.msetO ⟨w.heap.size, 3, none⟩ (.slice B3 os.length d3) (by simp <;> omega))
  have HB6 := Lib.hid (HB5.out.setCell (p := ⟨w.heap.size, 3, none⟩) (by simp) (.slice B3 os.length d3))
  have HO6 := Lib.hid (NewA.setCell HO5.out (a := ⟨w.heap.size, 3, none⟩) (by simp <;> omega) (.slice B3 os.length d3))
  have HP6 : Hid (OwnR Wtr.cs 3 35 (w.heap.size + 1 + 1) (w5.setCell ⟨w.heap.size, 3, none⟩ (.slice B3 os.length d3)) B2 d2 bs) := Lib.hid (ownsRow_setCell_below HP5.out (by simp <;> omega) _)
  have HQ6 : Hid (OwnR Wtr.cs 3 35 (w.heap.size + 1 + 1) (w5.setCell ⟨w.heap.size, 3, none⟩ (.slice B3 os.length d3)) B3 d3 os) := Lib.hid (ownsRow_setCell_below HQ5.out (by simp <;> omega) _)
  generalize w5.setCell ⟨w.heap.size, 3, none⟩ (.slice B3 os.length d3) = w6 at HS6 HR6 HB6 HO6 HP6 HQ6 ⊢
  clear hs hf HS5 HR5 HB5 HO5 HP5 HQ5
  have hs := HS6.out.cell; have hr := HR6.out.cell; have hf := HR6.out.mfroz
  go_wp2
  refine bodyPost_ret (v := .agg #[.slice B1 zs.length d1, .int .i64 cnt, .slice B2 bs.length d2, .slice B3 os.length d3]) (by simp [results, Try.results50, go_sem, hr]) rfl ⟨B1, d1, B2, d2, B3, d3, rfl, ⟨?_, ?_, ?_, dis_of HL1.out HG2.out, dis_of HL1b.out HG3.out, dis_of HL2.out HG3.out⟩, ?_⟩
  · refine NewA.base (B := w.heap.size + 1 + 1) ?_ (by omega)
    repeat (refine NewA.setCell ?_ (by simp <;> omega) _)
    exact HO6.out
  · refine OwnR.base (B := w.heap.size + 1 + 1) ?_ (by omega)
    repeat (refine ownsRow_setCell_below ?_ (by simp <;> omega) _)
    exact HP6.out
  · refine OwnR.base (B := w.heap.size + 1 + 1) ?_ (by omega)
    repeat (refine ownsRow_setCell_below ?_ (by simp <;> omega) _)
    exact HQ6.out
  · repeat (refine Below.setCell ?_ (by simp <;> omega) _)
    exact HB6.out
end Go.Proofs.Ythianfhfamkcmaa

namespace Go.Proofs.Ythianfhfamkcmaa
open Go.RowKit

/-- Those that wait: each right, of this kind, none of them seen ahead. -/
def cmB (p : Wtr → Bool) : List Int → List Wtr → Bool
  | _, [] => true
  | s, x :: r => wtB x.th x.op x.arg && p x && !(s.contains x.th) && cmB p (s ++ [x.th]) r
def hdO : List Wtr → Int
  | [] => 0
  | x :: _ => x.op
def isW (o : Int) (x : Wtr) : Bool := x.op == o && (x.op == 1 || x.op == 2)
def isO (x : Wtr) : Bool := x.op == 3
def wsB (bs os : List Wtr) : Bool := cmB (isW (hdO bs)) [] bs && cmB isO (bs.map Wtr.th) os
def mdB (zs : List Int) (cnt : Int) (bs os : List Wtr) : Bool := decide (zs.length ≤ 400) && inB cnt 0 1000000000 && decide (os.length ≤ 1) && zs.all (fun v => inB v 0 999) && wsB bs os

theorem cm_no {p : Wtr → Bool} {s : List Int} {x : Wtr} {r : List Wtr} (h : (wtB x.th x.op x.arg && p x && !(s.contains x.th)) = false) : cmB p s (x :: r) = false := by rw [cmB, h]; rfl
theorem cm_yes {p : Wtr → Bool} {s : List Int} {x : Wtr} {r : List Wtr} (h : (wtB x.th x.op x.arg && p x && !(s.contains x.th)) = true) : cmB p s (x :: r) = cmB p (s ++ [x.th]) r := by rw [cmB, h]; rfl
theorem dropW {α : Type} {l : List α} {k : Nat} {x : α} (h : l[k]? = some x) : l.drop k = x :: l.drop (k + 1) := by
  have hk : k < l.length := (List.getElem?_eq_some_iff.1 h).1
  rw [List.drop_eq_getElem_cons hk]
  congr 1
  have := List.getElem?_eq_getElem hk
  rw [this] at h
  exact Option.some.inj h
theorem takeW {l : List Wtr} {k : Nat} {x : Wtr} (h : l[k]? = some x) : (l.take (k + 1)).map Wtr.th = (l.take k).map Wtr.th ++ [x.th] := by
  rw [List.take_add_one, h]; simp
theorem takeW0 {s : List Int} {l : List Wtr} {k : Nat} {x : Wtr} (h : l[k]? = some x) : s ++ (l.take (k + 1)).map Wtr.th = (s ++ (l.take k).map Wtr.th) ++ [x.th] := by
  rw [takeW h, List.append_assoc]
theorem hdO_at {l : List Wtr} {x : Wtr} (h : l[0]? = some x) : hdO l = x.op := by
  cases l with
  | nil => simp at h
  | cons y r => simp at h; subst h; rfl
theorem ws_no1 {bs os : List Wtr} (h : cmB (isW (hdO bs)) [] bs = false) : wsB bs os = false := by unfold wsB; rw [h]; rfl
theorem ws_yes1 {bs os : List Wtr} (h : cmB (isW (hdO bs)) [] bs = true) : wsB bs os = cmB isO (bs.map Wtr.th) os := by unfold wsB; rw [h]; rfl
end Go.Proofs.Ythianfhfamkcmaa

namespace Go.Proofs.Ythianfhfamkcmaa
open Go.RowKit

set_option maxHeartbeats 2000000 in
theorem markRowW_any (A : Option Addr) (c base n : Nat) (zs : List Int) (k : Int) (w : World) (hl : zs.length = n * 3) (hn : n ≤ 1048576) (h0 : 0 ≤ k) (h1 : k ≤ 1000000000)
    (hown : w.ownsRow base 35 3 (.slice A n c) n (ints zs)) :
    Calls Try.prog 60 #[.slice A n c, .int .i64 k] w fun e w' => e = .returned (.int .i64 (k + (n * 3 : Nat))) ∧
      w'.ownsRow base 35 3 (.slice A n c) n (ints (upFrom k (n * 3))) ∧ w.grownBy w' (Value.ownBlock (.slice A n c)) := by
  have HO := Lib.hid hown; clear hown
  have HLZ := Lib.hid hl; clear hl
  go_enter Try.func60, Try.ntmps60
  go_wp2
  go_loopw [1, 5] (fun kk i wr => ∃ j m : Nat, j ≤ n ∧ m = j * 3 ∧ i = .int .i64 j ∧ kk = .int .i64 (k + m) ∧ wr.ownsRow base 35 3 (.slice A n c) n (ints (markTo k zs m)) ∧ w.grownBy wr (Value.ownBlock (.slice A n c)))
    (fun _ i _ => n - (intOf i).toNat)
  case atStart => exact ⟨0, 0, Nat.zero_le _, rfl, rfl, by simp, by rw [markTo_zero]; exact HO.out, World.grownBy.refl _ _⟩
  case round =>
    obtain ⟨j, m, hj, hm, rfl, rfl, hown, hgr⟩ := hrel
    have HO' := Lib.hid hown; have HG := Lib.hid hgr; have HM := Lib.hid hm
    clear hown hgr
    have hmb : m ≤ 3145728 := by omega
    clear hm
    by_cases hlt : j < n
    · have hlt' : (j : Int) < n := by omega
      obtain ⟨g, rfl⟩ : ∃ g, A = some ⟨g, 0, none⟩ := by
        rcases HO'.out.2 with ⟨hv, h0⟩ | ⟨g, cap, cur, hv, _⟩
        · omega
        · simp only [Value.slice.injEq] at hv
          exact ⟨g, hv.1⟩
      have hml : (markTo k zs m).length = n * 3 := by rw [markTo_length _ _ _ (by rw [HLZ.out, HM.out]; omega)]; exact HLZ.out
      have hold : ∀ i, i < 3 → ∃ y, wr.cell? ⟨g, j * 3 + i, none⟩ = some (.int .i64 y) := fun i hi => by
        rw [World.ownsRow.cellAt HO'.out (j * 3 + i) (by omega)]; exact ⟨_, ints_get _ _ (by rw [hml]; omega)⟩
      obtain ⟨y0, c0⟩ := hold 0 (by decide)
      obtain ⟨y1, c1⟩ := hold 1 (by decide)
      obtain ⟨y2, c2⟩ := hold 2 (by decide)
      rw [Nat.add_zero] at c0
      have hfz : ∀ i, wr.frozen? ⟨g, i, none⟩ = false := fun i => HO'.out.frozenAt i
      have s0 := HO'.out.stored (j * 3) (.int .i64 (k + m))
      have s1 := s0.1.stored (j * 3 + 1) (.int .i64 (k + m + 1))
      have s2 := s1.1.stored (j * 3 + 2) (.int .i64 (k + m + 1 + 1))
      have HS := Lib.hid s2.1
      have HGS := Lib.hid (grown_trans s0.2 (grown_trans s1.2 s2.2))
      clear s0 s1 s2 hold hml
      have hne1 : ¬ j * 3 = j * 3 + 1 := by omega
      have hne2 : ¬ j * 3 = j * 3 + 2 := by omega
      go_wp2
      go_roundw
      case rel =>
        refine ⟨j + 1, m + 3, by omega, by rw [HM.out]; omega, by go_num, by go_num, ?_, grown_trans HG.out HGS.out⟩
        have e1 : k + (m : Int) + 1 = k + ((m + 1 : Nat) : Int) := by omega
        have e2 : k + (m : Int) + 1 + 1 = k + ((m + 1 + 1 : Nat) : Int) := by omega
        have hset : (((ints (markTo k zs m)).set (j * 3) (.int .i64 (k + m))).set (j * 3 + 1) (.int .i64 (k + m + 1))).set (j * 3 + 2) (.int .i64 (k + m + 1 + 1)) = ints (markTo k zs (m + 3)) := by
          rw [e2, e1, ← HM.out, ints_set, ints_set, ints_set, markTo_set _ _ _ (by rw [HLZ.out, HM.out]; omega), markTo_set _ _ _ (by rw [HLZ.out, HM.out]; omega), markTo_set _ _ _ (by rw [HLZ.out, HM.out]; omega)]
        rw [← hset]
        exact HS.out
      case measure => simp [intOf]; omega
    · obtain rfl : j = n := by omega
      have hme : m = j * 3 := HM.out
      have hge : ¬ (j : Int) < j := by omega
      go_wp2
      go_ret
      refine ⟨rfl, ?_, HG.out⟩
      have := HO'.out
      rwa [hme, markTo_all _ _ _ HLZ.out.symm, HLZ.out] at this

set_option maxHeartbeats 2000000 in
theorem heldRowW_any (A : Option Addr) (n c : Nat) (k : Int) (w : World) (hn : n ≤ 1048576) (h0 : 0 ≤ k) (h1 : k ≤ 1000000000) (hA : Rd w A (upFrom k (n * 3))) :
    Calls Try.prog 62 #[.slice A n c, .int .i64 k] w fun e w' => e = .returned (.int .i64 (k + (n * 3 : Nat))) ∧ w = w' := by
  have HA := Lib.hid hA; clear hA
  go_enter Try.func62, Try.ntmps62
  go_wp2
  go_loop [1, 5] (fun kk i => ∃ j m : Nat, j ≤ n ∧ m = j * 3 ∧ i = .int .i64 j ∧ kk = .int .i64 (k + m)) (fun _ i => n - (intOf i).toNat)
  case atStart => exact ⟨0, 0, Nat.zero_le _, rfl, rfl, by simp⟩
  case round =>
    obtain ⟨j, m, hj, hm, rfl, rfl⟩ := hrel
    have HM := Lib.hid hm
    have hmb : m ≤ 3145728 := by omega
    clear hm
    by_cases hlt : j < n
    · have hlt' : (j : Int) < n := by omega
      obtain ⟨b, o, rfl, c0⟩ := HA.out (j * 3) (by rw [upFrom_length]; omega)
      obtain ⟨b1, o1, e1, c1⟩ := HA.out (j * 3 + 1) (by rw [upFrom_length]; omega)
      obtain ⟨b2, o2, e2, c2⟩ := HA.out (j * 3 + 2) (by rw [upFrom_length]; omega)
      simp only [Option.some.injEq, Addr.mk.injEq, and_true] at e1 e2
      obtain ⟨rfl, rfl⟩ := e1
      obtain ⟨rfl, rfl⟩ := e2
      rw [upFrom_get _ _ _ (by omega), show (k + ((j * 3 : Nat) : Int)) = k + m from by rw [HM.out]] at c0
      rw [upFrom_get _ _ _ (by omega), show (k + ((j * 3 + 1 : Nat) : Int)) = k + m + 1 from by rw [HM.out]; omega, ← Nat.add_assoc] at c1
      rw [upFrom_get _ _ _ (by omega), show (k + ((j * 3 + 2 : Nat) : Int)) = k + m + 1 + 1 from by rw [HM.out]; omega, ← Nat.add_assoc] at c2
      go_wp2
      go_round
      case rel => exact ⟨j + 1, m + 3, by omega, by rw [HM.out]; omega, by go_num, by go_num⟩
      case measure => simp [intOf]; omega
    · obtain rfl : j = n := by omega
      have hme : m = j * 3 := HM.out
      go_wp2
      go_ret
      exact ⟨rfl, rfl⟩
end Go.Proofs.Ythianfhfamkcmaa
