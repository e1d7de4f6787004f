/-
  Waiters (chapter 11) as rows of a slice; a right waiter.
-/
import Derived.Test.YtiogebflfnicgaaRowT
import Derived.Test.YtiogebflfnicgaaThS
import Derived.Test.YtiogebflfnicgaaHelpB
import Derived.Test.YtiogebflfnicgaaStoreB
namespace Go.Proofs.Ytiogebflfnicgaa
open Go.RowKit

structure Wtr where
  (th op arg : Int)
def Wtr.cs (t : Wtr) : List Value := [.int .i64 t.th, .int .i64 t.op, .int .i64 t.arg]
def Wtr.zero : Wtr := ⟨0, 0, 0⟩
theorem Wtr.len (t : Wtr) : t.cs.length = 3 := rfl
/-- A waiter that is right. -/
def wtB (th op arg : Int) : Bool := inB th 0 3 && opB op && argB op arg
theorem wtB_th (th op arg : Int) (h : inB th 0 3 = false) : wtB th op arg = false := by simp [wtB, h]
theorem wtB_op (th op arg : Int) (h : opB op = false) : wtB th op arg = false := by simp [wtB, h]
theorem wtB_all (th op arg : Int) (h1 : inB th 0 3 = true) (h2 : opB op = true) : wtB th op arg = argB op arg := by simp [wtB, h1, h2]

set_option maxHeartbeats 1000000 in
theorem toWaiter_any (th op arg : Int) (w : World) : Calls Try.prog 21 #[.agg #[.int .i64 th, .int .i64 op, .int .i64 arg]] w fun e w' => e = .returned (.agg #[.int .i64 th, .int .i64 op, .int .i64 arg]) ∧ Below w.heap.size w w' := by
  go_enter Try.func21, Try.ntmps21
  go_wp2
  refine bodyPost_ret (v := .agg #[.int .i64 th, .int .i64 op, .int .i64 arg]) (by simp [results, Try.results21, go_sem]) rfl ⟨rfl, ?_⟩
  exact below_alloc3 _ _ _ _

theorem info_lWaiter : (Try.prog.info? 38).map (·.size) = some 3 := by kernel_rfl
theorem info_iWaiter : (Try.prog.info? 41).map (·.size) = some 3 := by kernel_rfl
theorem made_Waiter (n : Nat) : (madeCells (Wtr.zero.cs).toArray (n * 3)).toList = flatV Wtr.cs (List.replicate n Wtr.zero) := by
  exact made_rows Wtr.len (by decide) Wtr.zero n
theorem parts_Waiter : ∃ i0, Try.prog.info? 41 = some i0 ∧ i0.zero = some (.agg (Wtr.zero.cs).toArray) ∧ i0.size = 3 ∧ i0.bytes ≤ 200 := by
  have h : (Try.prog.info? 41).map (fun i => (i.zero, i.size, decide (i.bytes ≤ 200))) = some (some (.agg (Wtr.zero.cs).toArray), 3, true) := by kernel_rfl
  cases hq : Try.prog.info? 41 with
  | none => rw [hq] at h; cases h
  | some i0 =>
    rw [hq] at h
    simp only [Option.map_some, Option.some.injEq, Prod.mk.injEq, decide_eq_true_eq] at h
    exact ⟨i0, rfl, h.1, h.2.1, h.2.2⟩
set_option maxHeartbeats 1000000 in
theorem toWaiterS_any (A : Option Addr) (c : Nat) (l : List Wtr) (w : World) (hn : l.length ≤ 1048576) (hA : RdR Wtr.cs w A l) :
    Calls Try.prog 42 #[.slice A l.length c] w fun e w' => e = .returned (.slice (some ⟨w.heap.size, 0, none⟩) l.length l.length) ∧
      OwnR Wtr.cs 3 41 w.heap.size w' (some ⟨w.heap.size, 0, none⟩) l.length l ∧ Below w.heap.size w w' := by
  obtain ⟨i0, hi, hz0, hz1, hz2⟩ := parts_Waiter
  have hb2 : i0.bytes * l.length ≤ 281474976710656 := by have h9 : i0.bytes * l.length ≤ 200 * 1048576 := Nat.mul_le_mul hz2 hn; omega
  have hml : l.length ≤ maxLen := by unfold maxLen; omega
  have Hi := Lib.hid hi; have Hz0 := Lib.hid hz0; have Hz1 := Lib.hid hz1
  have Hb2 := Lib.hid hb2; have Hml := Lib.hid hml
  clear hi hz0 hz1 hz2 hb2 hml
  have HA := Lib.hid hA; clear hA
  go_enter Try.func42, Try.ntmps42
  go_wp2_with (at_make; refine wpList_make_full _ rfl (.tmp 6) (.tmp 6) 28 rfl w.heap.size 41 i0 (.agg (Wtr.zero.cs).toArray) 3 Try.underlying28 Hi.out Hz0.out Hz1.out .i64 .i64 _ _ l.length rfl rfl rfl rfl Hb2.out Hml.out (Nat.le_refl _) ?_)
  intro w1 hown hgr
  have hb := below_grown hgr
  rw [made_Waiter, ← fillR_zero] at hown
  have HO : Hid (OwnR Wtr.cs 3 41 w.heap.size w1 (some ⟨w.heap.size, 0, none⟩) l.length (fillR Wtr.zero l 0)) := by unfold Hid OwnR; rw [fillR_len _ _ _ (Nat.zero_le _)]; exact hown
  have HB := Lib.hid hb
  clear hown hgr hb
  go_wp2
  go_loopw [4] (fun i wr => ∃ k : Nat, k ≤ l.length ∧ i = .int .i64 k ∧ OwnR Wtr.cs 3 41 w.heap.size wr (some ⟨w.heap.size, 0, none⟩) l.length (fillR Wtr.zero l k) ∧ Below w.heap.size w wr) (fun i _ => l.length - (intOf i).toNat)
  case atStart => exact ⟨0, Nat.zero_le _, rfl, HO.out, HB.out⟩
  case round =>
    obtain ⟨k, hk, rfl, hown, hbl⟩ := hrel
    have HO' := Lib.hid hown; have HB' := Lib.hid hbl
    clear hown hbl HO HB
    by_cases hlt : k < l.length
    · have hlt' : (k : Int) < l.length := by omega
      obtain ⟨x, hx⟩ : ∃ x, l[k]? = some x := ⟨_, List.getElem?_eq_getElem hlt⟩
      obtain ⟨b, o, rfl, hrow⟩ := (HA.out.below HB'.out).row Wtr.len k x hx
      have HX := Lib.hid hx; have HRW := Lib.hid hrow
      have HLn : Hid (k < (fillR Wtr.zero l k).length) := by unfold Hid; rw [fillR_len _ _ _ hk]; exact hlt
      clear hx hrow
      obtain ⟨th, op, arg⟩ := x
      go_wp2_with (refine wpList_load_mid rfl 38 _ rfl b (o + k * 3) ?_ _ _ HRW.out Try.underlying38 rfl info_lWaiter ?_)
      · rfl
      refine (toWaiter_any _ _ _ _).mono ?_
      rintro e w2 ⟨rfl, hb⟩
      have HO2 := Lib.hid (HO'.out.below hb)
      have HB2 := Lib.hid (below_trans HB'.out hb)
      clear hb
      have HT : Hid (w2.there w.heap.size (k * 3) (#[.int .i64 th, .int .i64 op, .int .i64 arg] : Array Value).size) := HO2.out.there Wtr.len k HLn.out
      have HON : Hid ((#[.int .i64 th, .int .i64 op, .int .i64 arg] : Array Value).all (·.oneCell') = true) := by unfold Hid; simp [Value.oneCell']
      go_wp2_with (refine wpList_store_mid rfl 41 (.tmp 21) (.tmp 20) rfl w.heap.size (k * 3) #[.int .i64 th, .int .i64 op, .int .i64 arg] ?_ ?_ ?_ info_iWaiter HON.out ?_)
      · rfl
      · rfl
      · exact HT.out
      go_wp2
      go_roundw
      case rel =>
        refine ⟨k + 1, by omega, by go_num, ?_, below_setCells (Nat.le_refl _) _ _ _ HB2.out⟩
        have h := HO2.out.set Wtr.len k ⟨th, op, arg⟩ HLn.out
        rw [fillR_set _ _ _ _ HX.out] at h
        exact h
      case measure => simp [intOf]; omega
    · have hfin : Hid (fillR Wtr.zero l k = l) := by unfold Hid; rw [show k = l.length from by omega, fillR_all]
      have hge : ¬ (k : Int) < l.length := by omega
      go_wp2
      go_ret
      refine ⟨rfl, ?_, HB'.out⟩
      have := HO'.out
      rw [hfin.out] at this
      exact this

set_option maxHeartbeats 1000000 in
theorem eqWaiter_same (th op arg : Int) (w : World) : Calls Try.prog 93 #[.agg #[.int .i64 th, .int .i64 op, .int .i64 arg], .agg #[.int .i64 th, .int .i64 op, .int .i64 arg]] w fun e w' => e = .returned (.bool true) ∧ Below w.heap.size w w' := by
  go_enter Try.func93, Try.ntmps93
  go_wp2
  go_ret
  exact ⟨rfl, below_alloc2 _ _ _⟩

theorem cellsWaiter {w : World} {b p : Nat} (th : Int) (op : Int) (arg : Int) (h : w.rangeAt b p [.int .i64 th, .int .i64 op, .int .i64 arg]) : w.cell? ⟨b, p, none⟩ = some (.int .i64 th) ∧ w.cell? ⟨b, p + 1, none⟩ = some (.int .i64 op) ∧ w.cell? ⟨b, p + 2, none⟩ = some (.int .i64 arg) :=
  ⟨h 0 _ rfl, h 1 _ rfl, h 2 _ rfl⟩
theorem keepWaiter {w w' : World} {b p b2 p2 : Nat} (th : Int) (op : Int) (arg : Int) (hb : Below w.heap.size w w') (h : (w.cell? ⟨b, p, none⟩ = some (.int .i64 th) ∧ w.cell? ⟨b, p + 1, none⟩ = some (.int .i64 op) ∧ w.cell? ⟨b, p + 2, none⟩ = some (.int .i64 arg)) ∧ (w.cell? ⟨b2, p2, none⟩ = some (.int .i64 th) ∧ w.cell? ⟨b2, p2 + 1, none⟩ = some (.int .i64 op) ∧ w.cell? ⟨b2, p2 + 2, none⟩ = some (.int .i64 arg))) : (w'.cell? ⟨b, p, none⟩ = some (.int .i64 th) ∧ w'.cell? ⟨b, p + 1, none⟩ = some (.int .i64 op) ∧ w'.cell? ⟨b, p + 2, none⟩ = some (.int .i64 arg)) ∧ (w'.cell? ⟨b2, p2, none⟩ = some (.int .i64 th) ∧ w'.cell? ⟨b2, p2 + 1, none⟩ = some (.int .i64 op) ∧ w'.cell? ⟨b2, p2 + 2, none⟩ = some (.int .i64 arg)) := by
  obtain ⟨⟨h0, h1, h2⟩, ⟨g0, g1, g2⟩⟩ := h
  exact ⟨⟨cell_keep hb h0, cell_keep hb h1, cell_keep hb h2⟩, ⟨cell_keep hb g0, cell_keep hb g1, cell_keep hb g2⟩⟩

set_option maxHeartbeats 4000000 in
set_option maxRecDepth 100000 in
theorem eqWaiterS_same (A B : Option Addr) (c d : Nat) (l : List Wtr) (w : World) (hn : l.length ≤ 1048576) (hA : RdR Wtr.cs w A l) (hB : RdR Wtr.cs w B l) :
    Calls Try.prog 49 #[.slice A l.length c, .slice B l.length d] w fun e w' => e = .returned (.bool true) ∧ Below w.heap.size w w' := by
  have HA := Lib.hid hA; have HBB := Lib.hid hB; clear hA hB
  go_enter Try.func49, Try.ntmps49
  go_wp2
  go_loopw [5] (fun i wr => ∃ k : Nat, k ≤ l.length ∧ i = .int .i64 k ∧ Below w.heap.size w wr) (fun i _ => l.length - (intOf i).toNat)
  case atStart => exact ⟨0, Nat.zero_le _, rfl, Below.refl _ _⟩
  case round =>
    obtain ⟨k, hk, rfl, hbl⟩ := hrel
    have HB' := Lib.hid hbl
    clear hbl
    by_cases hlt : k < l.length
    · have hlt' : (k : Int) < l.length := by omega
      obtain ⟨x, hx⟩ : ∃ x, l[k]? = some x := ⟨_, List.getElem?_eq_getElem hlt⟩
      obtain ⟨b, o, rfl, hr1⟩ := (HA.out.below HB'.out).row Wtr.len k x hx
      obtain ⟨b2, o2, rfl, hr2⟩ := (HBB.out.below HB'.out).row Wtr.len k x hx
      clear hx
      obtain ⟨th, op, arg⟩ := x
      have HC := Lib.hid (And.intro (cellsWaiter _ _ _ hr1) (cellsWaiter _ _ _ hr2))
      clear hr1 hr2
      go_wp2_with fail
      go_region_held3 (fun w' => (w'.cell? ⟨b, o + k * 3, none⟩ = some (.int .i64 th) ∧ w'.cell? ⟨b, o + k * 3 + 1, none⟩ = some (.int .i64 op) ∧ w'.cell? ⟨b, o + k * 3 + 2, none⟩ = some (.int .i64 arg)) ∧ (w'.cell? ⟨b2, o2 + k * 3, none⟩ = some (.int .i64 th) ∧ w'.cell? ⟨b2, o2 + k * 3 + 1, none⟩ = some (.int .i64 op) ∧ w'.cell? ⟨b2, o2 + k * 3 + 2, none⟩ = some (.int .i64 arg))) (first | exact HC.out | exact keepWaiter _ _ _ (below_drew_trans hb7) HC.out)
        (first | (go_at_call 93; (with_reducible refine (eqWaiter_same _ _ _ _).mono ?_); rintro e w7 ⟨rfl, hb7⟩))
      have HB7 := Lib.hid (below_trans HB'.out (below_drew_trans hb7))
      clear hb7
      go_wp2
      go_roundw
      case rel => exact ⟨k + 1, by omega, by go_num, HB7.out⟩
      case measure => simp [intOf]; omega
    · have hge : ¬ (k : Int) < l.length := by omega
      go_wp2
      go_ret
      exact ⟨rfl, HB'.out⟩

set_option maxHeartbeats 400000 in
theorem szWaiterS_any (A : Option Addr) (n c : Nat) (l : Int) (w : World) (hn : n ≤ maxLen) (h0 : 0 ≤ l) (h1 : l ≤ 1048576) :
    Calls Try.prog 37 #[.slice A n c, .int .i64 l] w fun e w' => e = .returned (.int .i64 (leftB l n)) ∧ w = w' := by
  unfold maxLen at hn
  by_cases hlt : l - (n : Int) < 0
  · have hL : leftB l n = -1 := by unfold leftB; rw [if_pos hlt]
    have HL := Lib.hid hL; clear hL
    go_enter Try.func37, Try.ntmps37
    go_wp2
    go_ret
    exact ⟨ret_int HL.out.symm, rfl⟩
  · have hL : leftB l n = l - n := by unfold leftB; rw [if_neg hlt]
    have HL := Lib.hid hL; clear hL
    go_enter Try.func37, Try.ntmps37
    go_wp2
    go_ret
    exact ⟨ret_int HL.out.symm, rfl⟩

set_option maxHeartbeats 2000000 in
theorem specWaiter_any (th op arg : Int) (w : World) : Calls Try.prog 38 #[.agg #[.int .i64 th, .int .i64 op, .int .i64 arg]] w fun e w' => e = .returned (.bool (wtB th op arg)) ∧ Below w.heap.size w w' := by
  cases h1 : inB th 0 3
  · have HV := Lib.hid (wtB_th th op arg h1)
    go_enter Try.func38, Try.ntmps38
    go_wp2_with (first | (go_at_call 39; refine (l01In_any _ _ _ _).mono ?_; rintro e w' ⟨rfl, rfl⟩) | (go_at_call 89; refine (l02Op_any _ _).mono ?_; rintro e w' ⟨rfl, rfl⟩) | (go_at_call 90; refine (l02Arg_any _ _ _).mono ?_; rintro e w' ⟨rfl, rfl⟩))
    go_ret
    exact ⟨ret_bool (HV.out.symm), below_alloc _ _⟩
  cases h2 : opB op
  · have HV := Lib.hid (wtB_op th op arg h2)
    go_enter Try.func38, Try.ntmps38
    go_wp2_with (first | (go_at_call 39; refine (l01In_any _ _ _ _).mono ?_; rintro e w' ⟨rfl, rfl⟩) | (go_at_call 89; refine (l02Op_any _ _).mono ?_; rintro e w' ⟨rfl, rfl⟩) | (go_at_call 90; refine (l02Arg_any _ _ _).mono ?_; rintro e w' ⟨rfl, rfl⟩))
    go_ret
    exact ⟨ret_bool (HV.out.symm), below_alloc _ _⟩
  have HV := Lib.hid (wtB_all th op arg h1 h2)
  cases h3 : argB op arg
  · have HX : Hid (wtB th op arg = false) := by unfold Hid; rw [HV.out, h3]
    clear HV
    have HV := Lib.hid HX.out; clear HX
    go_enter Try.func38, Try.ntmps38
    go_wp2_with (first | (go_at_call 39; refine (l01In_any _ _ _ _).mono ?_; rintro e w' ⟨rfl, rfl⟩) | (go_at_call 89; refine (l02Op_any _ _).mono ?_; rintro e w' ⟨rfl, rfl⟩) | (go_at_call 90; refine (l02Arg_any _ _ _).mono ?_; rintro e w' ⟨rfl, rfl⟩))
    go_ret
    exact ⟨ret_bool (HV.out.symm), below_alloc _ _⟩
  · have HX : Hid (wtB th op arg = true) := by unfold Hid; rw [HV.out, h3]
    clear HV
    have HV := Lib.hid HX.out; clear HX
    go_enter Try.func38, Try.ntmps38
    go_wp2_with (first | (go_at_call 39; refine (l01In_any _ _ _ _).mono ?_; rintro e w' ⟨rfl, rfl⟩) | (go_at_call 89; refine (l02Op_any _ _).mono ?_; rintro e w' ⟨rfl, rfl⟩) | (go_at_call 90; refine (l02Arg_any _ _ _).mono ?_; rintro e w' ⟨rfl, rfl⟩))
    go_ret
    exact ⟨ret_bool (HV.out.symm), below_alloc _ _⟩

set_option maxHeartbeats 2000000 in
theorem implWaiter_any (th op arg : Int) (w : World) : Calls Try.prog 57 #[.agg #[.int .i64 th, .int .i64 op, .int .i64 arg]] w fun e w' => e = .returned (.bool (wtB th op arg)) ∧ Below w.heap.size w w' := by
  cases h1 : inB th 0 3
  · have HV := Lib.hid (wtB_th th op arg h1)
    go_enter Try.func57, Try.ntmps57
    go_wp2_with (first | (go_at_call 94; refine (idOK_any _ _).mono ?_; rintro e w' ⟨rfl, rfl⟩) | (go_at_call 95; refine (opOK_any _ _).mono ?_; rintro e w' ⟨rfl, rfl⟩) | (go_at_call 46; refine (argOK_any _ _ _).mono ?_; rintro e w' ⟨rfl, rfl⟩))
    go_ret
    exact ⟨ret_bool (HV.out.symm), below_alloc _ _⟩
  cases h2 : opB op
  · have HV := Lib.hid (wtB_op th op arg h2)
    go_enter Try.func57, Try.ntmps57
    go_wp2_with (first | (go_at_call 94; refine (idOK_any _ _).mono ?_; rintro e w' ⟨rfl, rfl⟩) | (go_at_call 95; refine (opOK_any _ _).mono ?_; rintro e w' ⟨rfl, rfl⟩) | (go_at_call 46; refine (argOK_any _ _ _).mono ?_; rintro e w' ⟨rfl, rfl⟩))
    go_ret
    exact ⟨ret_bool (HV.out.symm), below_alloc _ _⟩
  have HV := Lib.hid (wtB_all th op arg h1 h2)
  cases h3 : argB op arg
  · have HX : Hid (wtB th op arg = false) := by unfold Hid; rw [HV.out, h3]
    clear HV
    have HV := Lib.hid HX.out; clear HX
    go_enter Try.func57, Try.ntmps57
    go_wp2_with (first | (go_at_call 94; refine (idOK_any _ _).mono ?_; rintro e w' ⟨rfl, rfl⟩) | (go_at_call 95; refine (opOK_any _ _).mono ?_; rintro e w' ⟨rfl, rfl⟩) | (go_at_call 46; refine (argOK_any _ _ _).mono ?_; rintro e w' ⟨rfl, rfl⟩))
    go_ret
    exact ⟨ret_bool (HV.out.symm), below_alloc _ _⟩
  · have HX : Hid (wtB th op arg = true) := by unfold Hid; rw [HV.out, h3]
    clear HV
    have HV := Lib.hid HX.out; clear HX
    go_enter Try.func57, Try.ntmps57
    go_wp2_with (first | (go_at_call 94; refine (idOK_any _ _).mono ?_; rintro e w' ⟨rfl, rfl⟩) | (go_at_call 95; refine (opOK_any _ _).mono ?_; rintro e w' ⟨rfl, rfl⟩) | (go_at_call 46; refine (argOK_any _ _ _).mono ?_; rintro e w' ⟨rfl, rfl⟩))
    go_ret
    exact ⟨ret_bool (HV.out.symm), below_alloc _ _⟩
end Go.Proofs.Ytiogebflfnicgaa
