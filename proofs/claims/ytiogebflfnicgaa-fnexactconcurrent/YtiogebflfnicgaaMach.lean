/-
  Machines as arguments of the laws: szMachine, toMachine, eqMachine.
-/
import Derived.Test.YtiogebflfnicgaaRowE
import Derived.Test.YtiogebflfnicgaaHelpB
import Derived.Test.YtiogebflfnicgaaStoreB
namespace Go.Proofs.Ytiogebflfnicgaa
open Go.RowKit

theorem size_setc (w : World) (a : Addr) (v : Value) : (w.setCell a v).heap.size = w.heap.size := by simp [World.setCell]
theorem alloc_at (u : World) (cs : Array Value) (t : TypeId) (k : Nat) (hk : u.heap.size = k) (j : Nat) (v : Value) (hv : cs[j]? = some v) : (u.alloc (.cells cs t)).cell? ⟨k, j, none⟩ = some v := by
  subst hk
  rw [cell_of_row _ _ j cs t (0, 0) (heap_alloc_new u _)]
  exact hv
theorem alloc_fz (u : World) (cs : Array Value) (t : TypeId) (k : Nat) (hk : u.heap.size = k) (j : Nat) : (u.alloc (.cells cs t)).frozen? ⟨k, j, none⟩ = false := by
  subst hk
  simp
theorem below_three {B g : Nat} {W w : World} (h : Below B W w) (hg : B ≤ g) (v1 v2 v3 : Value) : Below B W (((w.setCell ⟨g, 1, none⟩ v1).setCell ⟨g, 2, none⟩ v2).setCell ⟨g, 3, none⟩ v3) :=
  ((h.setCell (p := ⟨g, 1, none⟩) hg v1).setCell (p := ⟨g, 2, none⟩) hg v2).setCell (p := ⟨g, 3, none⟩) hg v3
theorem own_three {B g n size : Nat} {T : TypeId} {v : Value} {xs : List Value} {w : World} (h : w.ownsRow B T size v n xs) (hg : g < B) (v1 v2 v3 : Value) :
    (((w.setCell ⟨g, 1, none⟩ v1).setCell ⟨g, 2, none⟩ v2).setCell ⟨g, 3, none⟩ v3).ownsRow B T size v n xs :=
  ownsRow_setCell_below (ownsRow_setCell_below (ownsRow_setCell_below h hg _) hg _) hg _

set_option maxHeartbeats 400000 in
theorem szThreadS_any (A : Option Addr) (n c : Nat) (l : Int) (w : World) (hn : n ≤ maxLen) (h0 : 0 ≤ l) (h1 : l ≤ 1048576) :
    Calls Try.prog 71 #[.slice A n c, .int .i64 l] w fun e w' => e = .returned (.int .i64 (leftB l n)) ∧ w = w' := by
  unfold maxLen at hn
  by_cases hlt : l - (n : Int) < 0
  · have hL : leftB l n = -1 := by unfold leftB; rw [if_pos hlt]
    have HL := Lib.hid hL; clear hL
    go_enter Try.func71, Try.ntmps71
    go_wp2
    go_ret
    exact ⟨ret_int HL.out.symm, rfl⟩
  · have hL : leftB l n = l - n := by unfold leftB; rw [if_neg hlt]
    have HL := Lib.hid hL; clear hL
    go_enter Try.func71, Try.ntmps71
    go_wp2
    go_ret
    exact ⟨ret_int HL.out.symm, rfl⟩

set_option maxHeartbeats 400000 in
theorem szCallS_any (A : Option Addr) (n c : Nat) (l : Int) (w : World) (hn : n ≤ maxLen) (h0 : 0 ≤ l) (h1 : l ≤ 1048576) :
    Calls Try.prog 72 #[.slice A n c, .int .i64 l] w fun e w' => e = .returned (.int .i64 (leftB l n)) ∧ w = w' := by
  unfold maxLen at hn
  by_cases hlt : l - (n : Int) < 0
  · have hL : leftB l n = -1 := by unfold leftB; rw [if_pos hlt]
    have HL := Lib.hid hL; clear hL
    go_enter Try.func72, Try.ntmps72
    go_wp2
    go_ret
    exact ⟨ret_int HL.out.symm, rfl⟩
  · have hL : leftB l n = l - n := by unfold leftB; rw [if_neg hlt]
    have HL := Lib.hid hL; clear hL
    go_enter Try.func72, Try.ntmps72
    go_wp2
    go_ret
    exact ⟨ret_int HL.out.symm, rfl⟩

/-- What the size check of a machine leaves. -/
def leftM (l : Int) (a t c : Nat) : Int := if leftB l a < 0 then -1 else if leftB (leftB l a) t < 0 then -1 else if leftB (leftB (leftB l a) t) c < 0 then -1 else leftB (leftB (leftB l a) t) c
theorem leftB_pos {l : Int} {n : Nat} (h : ¬ leftB l n < 0) : leftB l n = l - n ∧ (n : Int) ≤ l := by
  unfold leftB at *
  by_cases h' : l - n < 0
  · rw [if_pos h'] at h; omega
  · rw [if_neg h'] at h ⊢; omega
theorem leftM_small {l : Int} {a t c : Nat} (hl : l ≤ 1048576) (h : ¬ leftM l a t c < 0) : a ≤ 1048576 ∧ t ≤ 1048576 ∧ c ≤ 1048576 := by
  unfold leftM at h
  by_cases h1 : leftB l a < 0
  · rw [if_pos h1] at h; omega
  rw [if_neg h1] at h
  by_cases h2 : leftB (leftB l a) t < 0
  · rw [if_pos h2] at h; omega
  rw [if_neg h2] at h
  by_cases h3 : leftB (leftB (leftB l a) t) c < 0
  · rw [if_pos h3] at h; omega
  obtain ⟨e1, g1⟩ := leftB_pos h1
  obtain ⟨e2, g2⟩ := leftB_pos h2
  obtain ⟨e3, g3⟩ := leftB_pos h3
  omega

set_option maxHeartbeats 1000000 in
theorem szMachine_any (A T C : Option Addr) (ca ct cc : Nat) (zs : List Int) (ts : List Thd) (cs : List Cll) (clk stp : Int) (l : Int) (w : World) (hz : zs.length ≤ maxLen) (ht : ts.length ≤ maxLen) (hc : cs.length ≤ maxLen) (h0 : 0 ≤ l) (h1 : l ≤ 1048576) :
    Calls Try.prog 29 #[.agg #[.slice A zs.length ca, .slice T ts.length ct, .int .i64 clk, .int .i64 stp, .slice C cs.length cc], .int .i64 l] w fun e w' => e = .returned (.int .i64 (leftM l zs.length ts.length cs.length)) ∧ Below w.heap.size w w' := by
  have HZ := Lib.hid hz; have HT := Lib.hid ht; have HC := Lib.hid hc; clear hz ht hc
  by_cases q1 : leftB l zs.length < 0
  · have HL : Hid (leftM l zs.length ts.length cs.length = -1) := by unfold Hid leftM; rw [if_pos q1]
    obtain ⟨v, hv⟩ : ∃ v, leftB l zs.length = v := ⟨_, rfl⟩
    have HV := Lib.hid hv
    rw [hv] at q1
    clear hv
    go_enter Try.func29, Try.ntmps29
    go_wp2_with fail
    refine (szArena_any _ _ _ _ _ HZ.out h0 h1).mono ?_
    rintro e w1 ⟨rfl, hb⟩
    rw [HV.out]
    have HB := Lib.hid (below_trans (below_alloc _ _) hb); clear hb
    go_wp2
    go_ret
    exact ⟨ret_int HL.out.symm, HB.out⟩
  obtain ⟨e1, g1⟩ := leftB_pos q1
  have p1 : 0 ≤ leftB l zs.length := by omega
  have p2 : leftB l zs.length ≤ 1048576 := by omega
  obtain ⟨v, hv⟩ : ∃ v, leftB l zs.length = v := ⟨_, rfl⟩
  have HV := Lib.hid hv
  by_cases q2 : leftB v ts.length < 0
  · have HL : Hid (leftM l zs.length ts.length cs.length = -1) := by unfold Hid leftM; rw [if_neg q1, if_pos (by rw [hv]; exact q2)]
    rw [hv] at q1 p1 p2
    obtain ⟨u, hu⟩ : ∃ u, leftB v ts.length = u := ⟨_, rfl⟩
    have HU := Lib.hid hu
    rw [hu] at q2
    clear hv hu e1 g1
    go_enter Try.func29, Try.ntmps29
    go_wp2_with fail
    refine (szArena_any _ _ _ _ _ HZ.out h0 h1).mono ?_
    rintro e w1 ⟨rfl, hb⟩
    rw [HV.out]
    have HB := Lib.hid (below_trans (below_alloc _ _) hb)
    obtain ⟨hc1, hf1⟩ := bcell hb
    clear hb
    go_wp2_with (go_at_call 71; refine (szThreadS_any _ _ _ _ _ HT.out p1 p2).mono ?_; rintro e w' ⟨rfl, rfl⟩; rw [HU.out])
    go_ret
    exact ⟨ret_int HL.out.symm, HB.out⟩
  obtain ⟨e2, g2⟩ := leftB_pos q2
  have p3 : 0 ≤ leftB v ts.length := by omega
  have p4 : leftB v ts.length ≤ 1048576 := by omega
  obtain ⟨u, hu⟩ : ∃ u, leftB v ts.length = u := ⟨_, rfl⟩
  have HU := Lib.hid hu
  obtain ⟨x, hx⟩ : ∃ x, leftB u cs.length = x := ⟨_, rfl⟩
  have HX := Lib.hid hx
  have HL : Hid (leftM l zs.length ts.length cs.length = if x < 0 then -1 else x) := by unfold Hid leftM; rw [if_neg q1, hv, if_neg q2, hu, hx]
  rw [hv] at q1 p1 p2
  rw [hu] at q2 p3 p4
  clear hv hu hx e1 g1 e2 g2
  by_cases q3 : x < 0
  · rw [if_pos q3] at HL
    go_enter Try.func29, Try.ntmps29
    go_wp2_with fail
    refine (szArena_any _ _ _ _ _ HZ.out h0 h1).mono ?_
    rintro e w1 ⟨rfl, hb⟩
    rw [HV.out]
    have HB := Lib.hid (below_trans (below_alloc _ _) hb)
    obtain ⟨hc1, hf1⟩ := bcell hb
    clear hb
    go_wp2_with (first | (go_at_call 71; refine (szThreadS_any _ _ _ _ _ HT.out p1 p2).mono ?_; rintro e w' ⟨rfl, rfl⟩; rw [HU.out]) | (go_at_call 72; refine (szCallS_any _ _ _ _ _ HC.out p3 p4).mono ?_; rintro e w' ⟨rfl, rfl⟩; rw [HX.out]))
    go_ret
    exact ⟨ret_int HL.out.symm, HB.out⟩
  · rw [if_neg q3] at HL
    go_enter Try.func29, Try.ntmps29
    go_wp2_with fail
    refine (szArena_any _ _ _ _ _ HZ.out h0 h1).mono ?_
    rintro e w1 ⟨rfl, hb⟩
    rw [HV.out]
    have HB := Lib.hid (below_trans (below_alloc _ _) hb)
    obtain ⟨hc1, hf1⟩ := bcell hb
    clear hb
    go_wp2_with (first | (go_at_call 71; refine (szThreadS_any _ _ _ _ _ HT.out p1 p2).mono ?_; rintro e w' ⟨rfl, rfl⟩; rw [HU.out]) | (go_at_call 72; refine (szCallS_any _ _ _ _ _ HC.out p3 p4).mono ?_; rintro e w' ⟨rfl, rfl⟩; rw [HX.out]))
    go_ret
    exact ⟨ret_int HL.out.symm, HB.out⟩

set_option maxHeartbeats 1000000 in
theorem eqMachine_same (A T C : Option Addr) (ca ct cc : Nat) (zs : List Int) (ts : List Thd) (cs : List Cll) (clk stp : Int) (A2 T2 C2 : Option Addr) (ca2 ct2 cc2 : Nat) (w : World) (hz : zs.length ≤ 1048576) (ht : ts.length ≤ 1048576) (hc : cs.length ≤ 1048576)
    (hA : Rd w A zs) (hT : RdR Thd.cs w T ts) (hC : RdR Cll.cs w C cs) (hA2 : Rd w A2 zs) (hT2 : RdR Thd.cs w T2 ts) (hC2 : RdR Cll.cs w C2 cs) :
    Calls Try.prog 33 #[.agg #[.slice A zs.length ca, .slice T ts.length ct, .int .i64 clk, .int .i64 stp, .slice C cs.length cc], .agg #[.slice A2 zs.length ca2, .slice T2 ts.length ct2, .int .i64 clk, .int .i64 stp, .slice C2 cs.length cc2]] w fun e w' => e = .returned (.bool true) ∧ Below w.heap.size w w' := by
  have HA := Lib.hid hA; have HT := Lib.hid hT; have HC := Lib.hid hC; have HA2 := Lib.hid hA2; have HT2 := Lib.hid hT2; have HC2 := Lib.hid hC2
  have HZn : Hid (zs.length ≤ maxLen) := by unfold Hid maxLen; omega
  have HTn := Lib.hid ht; have HCn := Lib.hid hc
  clear hA hT hC hA2 hT2 hC2 hz ht hc
  go_enter Try.func33, Try.ntmps33
  go_wp2_with fail
  refine (eqArena_same _ _ _ _ zs _ HZn.out (HA.out.below (below_alloc2 _ _ _)) (HA2.out.below (below_alloc2 _ _ _))).mono ?_
  rintro e w1 ⟨rfl, hb⟩
  have HB1 := Lib.hid (below_trans (below_alloc2 _ _ _) hb)
  have hz1 : w.heap.size + 1 + 1 ≤ w1.heap.size := by have := hb.size; simp only [size_alloc] at this; exact this
  have hq1 : w.heap.size < w1.heap.size := by omega
  have hq2 : w.heap.size + 1 < w1.heap.size := by omega
  obtain ⟨hc1, hf1⟩ := bcell hb
  clear hb
  go_wp2_with fail
  refine (eqThreadS_same _ _ _ _ ts _ HTn.out (HT.out.below HB1.out) (HT2.out.below HB1.out)).mono ?_
  rintro e w2 ⟨rfl, hb⟩
  have HB2 := Lib.hid (below_trans HB1.out hb)
  obtain ⟨hc2, hf2⟩ := bcell hb
  have k2 : w2.cell? ⟨w.heap.size, 2, none⟩ = some (.int .i64 clk) := (hc2 _ _ hq1).trans ((hc1 _ _ (by simp only [size_alloc]; omega)).trans (cell_keep (below_alloc _ _) (by simp)))
  have m2 : w2.cell? ⟨w.heap.size + 1, 2, none⟩ = some (.int .i64 clk) := (hc2 _ _ hq2).trans ((hc1 _ _ (by simp only [size_alloc]; omega)).trans (by simp))
  have k3 : w2.cell? ⟨w.heap.size, 3, none⟩ = some (.int .i64 stp) := (hc2 _ _ hq1).trans ((hc1 _ _ (by simp only [size_alloc]; omega)).trans (cell_keep (below_alloc _ _) (by simp)))
  have m3 : w2.cell? ⟨w.heap.size + 1, 3, none⟩ = some (.int .i64 stp) := (hc2 _ _ hq2).trans ((hc1 _ _ (by simp only [size_alloc]; omega)).trans (by simp))
  have k4 : w2.cell? ⟨w.heap.size, 4, none⟩ = some (.slice C cs.length cc) := (hc2 _ _ hq1).trans ((hc1 _ _ (by simp only [size_alloc]; omega)).trans (cell_keep (below_alloc _ _) (by simp)))
  have m4 : w2.cell? ⟨w.heap.size + 1, 4, none⟩ = some (.slice C2 cs.length cc2) := (hc2 _ _ hq2).trans ((hc1 _ _ (by simp only [size_alloc]; omega)).trans (by simp))
  clear hb hc1 hf1 hc2 hf2
  go_wp2_with fail
  refine (eqCallS_same _ _ _ _ cs _ HCn.out (HC.out.below HB2.out) (HC2.out.below HB2.out)).mono ?_
  rintro e w3 ⟨rfl, hb⟩
  have HB3 := Lib.hid (below_trans HB2.out hb)
  clear hb
  go_wp2
  go_ret
  exact ⟨rfl, HB3.out⟩

set_option maxHeartbeats 2000000 in
theorem toMachine_any (A T C : Option Addr) (ca ct cc : Nat) (zs : List Int) (ts : List Thd) (cs : List Cll) (clk stp : Int) (w : World) (hz : zs.length ≤ 1048576) (ht : ts.length ≤ 1048576) (hc : cs.length ≤ 1048576) (hA : Rd w A zs) (hT : RdR Thd.cs w T ts) (hC : RdR Cll.cs w C cs) :
    Calls Try.prog 31 #[.agg #[.slice A zs.length ca, .slice T ts.length ct, .int .i64 clk, .int .i64 stp, .slice C cs.length cc]] w fun e w' => ∃ g1 g2 g3, e = .returned (.agg #[.slice (some ⟨g1, 0, none⟩) zs.length zs.length, .slice (some ⟨g2, 0, none⟩) ts.length ts.length, .int .i64 clk, .int .i64 stp, .slice (some ⟨g3, 0, none⟩) cs.length cs.length]) ∧ w.heap.size ≤ g1 ∧ g1 < g2 ∧ g2 < g3 ∧
      NewA w.heap.size w' (some ⟨g1, 0, none⟩) zs.length zs ∧ OwnR Thd.cs 15 103 w.heap.size w' (some ⟨g2, 0, none⟩) ts.length ts ∧ OwnR Cll.cs 7 109 w.heap.size w' (some ⟨g3, 0, none⟩) cs.length cs ∧ Below w.heap.size w w' := by
  have HA := Lib.hid hA; have HT := Lib.hid hT; have HC := Lib.hid hC; clear hA hT hC
  have HZn := Lib.hid hz; have HTn := Lib.hid ht; have HCn := Lib.hid hc; clear hz ht hc
  have HB0 := Lib.hid (below_alloc3 w (.cells #[.slice A zs.length ca, .slice T ts.length ct, .int .i64 clk, .int .i64 stp, .slice C cs.length cc] 57) (.cells #[.slice none 0 0, .slice none 0 0, .int .i64 0, .int .i64 0, .slice none 0 0] 64) (.cells #[.slice none 0 0, .slice none 0 0, .int .i64 0, .int .i64 0, .slice none 0 0] 64))
  go_enter Try.func31, Try.ntmps31
  go_wp2_with fail
  refine (toArena_any _ _ zs _ HZn.out (HA.out.below HB0.out)).mono ?_
  rintro e w1 ⟨g1, rfl, hown, hb⟩
  have HB1 := Lib.hid (below_trans HB0.out hb)
  have HO1 : Hid (NewA (w.heap.size + 3) w1 (some ⟨g1, 0, none⟩) zs.length zs) := by have h := hown; simp only [size_alloc] at h; exact h
  have hz1 : w.heap.size + 1 + 1 + 1 ≤ w1.heap.size := by have := hb.size; simp only [size_alloc] at this; exact this
  have HG1 : Hid (w.heap.size + 3 ≤ g1 ∧ g1 < w1.heap.size) := World.ownsRow.lt HO1.out g1 rfl
  have lt0 : w.heap.size < w1.heap.size := by omega
  have lt1 : w.heap.size + 1 < w1.heap.size := by omega
  have lt2 : w.heap.size + 1 + 1 < w1.heap.size := by omega
  obtain ⟨hc1, hf1⟩ := bcell hb
  have a01 : w1.cell? ⟨w.heap.size, 1, none⟩ = some (.slice T ts.length ct) := (hc1 _ _ (by simp only [size_alloc]; omega)).trans (cell_keep (below_alloc _ _) (cell_keep (below_alloc _ _) (by simp)))
  have a02 : w1.cell? ⟨w.heap.size, 2, none⟩ = some (.int .i64 clk) := (hc1 _ _ (by simp only [size_alloc]; omega)).trans (cell_keep (below_alloc _ _) (cell_keep (below_alloc _ _) (by simp)))
  have a03 : w1.cell? ⟨w.heap.size, 3, none⟩ = some (.int .i64 stp) := (hc1 _ _ (by simp only [size_alloc]; omega)).trans (cell_keep (below_alloc _ _) (cell_keep (below_alloc _ _) (by simp)))
  have a04 : w1.cell? ⟨w.heap.size, 4, none⟩ = some (.slice C cs.length cc) := (hc1 _ _ (by simp only [size_alloc]; omega)).trans (cell_keep (below_alloc _ _) (cell_keep (below_alloc _ _) (by simp)))
  have a10 : w1.cell? ⟨w.heap.size + 1, 0, none⟩ = some (.slice none 0 0) := (hc1 _ _ (by simp only [size_alloc]; omega)).trans (cell_keep (below_alloc _ _) (by simp))
  have a11 : w1.cell? ⟨w.heap.size + 1, 1, none⟩ = some (.slice none 0 0) := (hc1 _ _ (by simp only [size_alloc]; omega)).trans (cell_keep (below_alloc _ _) (by simp))
  have a12 : w1.cell? ⟨w.heap.size + 1, 2, none⟩ = some (.int .i64 0) := (hc1 _ _ (by simp only [size_alloc]; omega)).trans (cell_keep (below_alloc _ _) (by simp))
  have a13 : w1.cell? ⟨w.heap.size + 1, 3, none⟩ = some (.int .i64 0) := (hc1 _ _ (by simp only [size_alloc]; omega)).trans (cell_keep (below_alloc _ _) (by simp))
  have a14 : w1.cell? ⟨w.heap.size + 1, 4, none⟩ = some (.slice none 0 0) := (hc1 _ _ (by simp only [size_alloc]; omega)).trans (cell_keep (below_alloc _ _) (by simp))
  have a20 : w1.cell? ⟨w.heap.size + 1 + 1, 0, none⟩ = some (.slice none 0 0) := (hc1 _ _ (by simp only [size_alloc]; omega)).trans (alloc_at _ _ _ _ (by simp) _ _ rfl)
  have a21 : w1.cell? ⟨w.heap.size + 1 + 1, 1, none⟩ = some (.slice none 0 0) := (hc1 _ _ (by simp only [size_alloc]; omega)).trans (alloc_at _ _ _ _ (by simp) _ _ rfl)
  have a22 : w1.cell? ⟨w.heap.size + 1 + 1, 2, none⟩ = some (.int .i64 0) := (hc1 _ _ (by simp only [size_alloc]; omega)).trans (alloc_at _ _ _ _ (by simp) _ _ rfl)
  have a23 : w1.cell? ⟨w.heap.size + 1 + 1, 3, none⟩ = some (.int .i64 0) := (hc1 _ _ (by simp only [size_alloc]; omega)).trans (alloc_at _ _ _ _ (by simp) _ _ rfl)
  have a24 : w1.cell? ⟨w.heap.size + 1 + 1, 4, none⟩ = some (.slice none 0 0) := (hc1 _ _ (by simp only [size_alloc]; omega)).trans (alloc_at _ _ _ _ (by simp) _ _ rfl)
  have af1 : ∀ j, w1.frozen? ⟨w.heap.size + 1, j, none⟩ = false := fun j => (hf1 _ _ (by simp only [size_alloc]; omega)).trans (frozen_keep (below_alloc _ _) (by simp) (by simp))
  have af2 : ∀ j, w1.frozen? ⟨w.heap.size + 1 + 1, j, none⟩ = false := fun j => (hf1 _ _ (by simp only [size_alloc]; omega)).trans (alloc_fz _ _ _ _ (by simp) _)
  clear hb hown hc1 hf1
  go_wp2_with fail
  refine (toThreadS_any _ _ ts _ HTn.out (HT.out.below (HB1.out.setCell (by simp <;> omega) _))).mono ?_
  rintro e w2 ⟨rfl, hown, hb⟩
  have HB2 := Lib.hid (below_trans (HB1.out.setCell (by simp <;> omega) _) hb)
  have HO2 : Hid (OwnR Thd.cs 15 103 w1.heap.size w2 (some ⟨w1.heap.size, 0, none⟩) ts.length ts) := by have h := hown; simp only [size_setc] at h; exact h
  have HOA2 : Hid (NewA (w.heap.size + 3) w2 (some ⟨g1, 0, none⟩) zs.length zs) := (HO1.out.setCell (by simp <;> omega) _).below hb
  have hz2 : w1.heap.size < w2.heap.size := (World.ownsRow.lt HO2.out w1.heap.size rfl).2
  obtain ⟨hc2, hf2⟩ := bcell hb
  have b02 : w2.cell? ⟨w.heap.size, 2, none⟩ = some (.int .i64 clk) := (hc2 _ _ (by rw [size_setc]; omega)).trans ((World.cell?_setCell_other _ _ _ _ (by intro h; simp only [Addr.mk.injEq] at h; omega)).trans a02)
  have b03 : w2.cell? ⟨w.heap.size, 3, none⟩ = some (.int .i64 stp) := (hc2 _ _ (by rw [size_setc]; omega)).trans ((World.cell?_setCell_other _ _ _ _ (by intro h; simp only [Addr.mk.injEq] at h; omega)).trans a03)
  have b04 : w2.cell? ⟨w.heap.size, 4, none⟩ = some (.slice C cs.length cc) := (hc2 _ _ (by rw [size_setc]; omega)).trans ((World.cell?_setCell_other _ _ _ _ (by intro h; simp only [Addr.mk.injEq] at h; omega)).trans a04)
  have b10 : w2.cell? ⟨w.heap.size + 1, 0, none⟩ = some (.slice none 0 0) := (hc2 _ _ (by rw [size_setc]; omega)).trans ((World.cell?_setCell_other _ _ _ _ (by intro h; simp only [Addr.mk.injEq] at h; omega)).trans a10)
  have b11 : w2.cell? ⟨w.heap.size + 1, 1, none⟩ = some (.slice none 0 0) := (hc2 _ _ (by rw [size_setc]; omega)).trans ((World.cell?_setCell_other _ _ _ _ (by intro h; simp only [Addr.mk.injEq] at h; omega)).trans a11)
  have b12 : w2.cell? ⟨w.heap.size + 1, 2, none⟩ = some (.int .i64 0) := (hc2 _ _ (by rw [size_setc]; omega)).trans ((World.cell?_setCell_other _ _ _ _ (by intro h; simp only [Addr.mk.injEq] at h; omega)).trans a12)
  have b13 : w2.cell? ⟨w.heap.size + 1, 3, none⟩ = some (.int .i64 0) := (hc2 _ _ (by rw [size_setc]; omega)).trans ((World.cell?_setCell_other _ _ _ _ (by intro h; simp only [Addr.mk.injEq] at h; omega)).trans a13)
  have b14 : w2.cell? ⟨w.heap.size + 1, 4, none⟩ = some (.slice none 0 0) := (hc2 _ _ (by rw [size_setc]; omega)).trans ((World.cell?_setCell_other _ _ _ _ (by intro h; simp only [Addr.mk.injEq] at h; omega)).trans a14)
  have b20 : w2.cell? ⟨w.heap.size + 1 + 1, 0, none⟩ = some (.slice (some ⟨g1, 0, none⟩) zs.length zs.length) := (hc2 _ _ (by rw [size_setc]; omega)).trans (World.cell?_setCell_same _ _ _ a20)
  have b21 : w2.cell? ⟨w.heap.size + 1 + 1, 1, none⟩ = some (.slice none 0 0) := (hc2 _ _ (by rw [size_setc]; omega)).trans ((World.cell?_setCell_other _ _ _ _ (by intro h; simp only [Addr.mk.injEq] at h; omega)).trans a21)
  have b22 : w2.cell? ⟨w.heap.size + 1 + 1, 2, none⟩ = some (.int .i64 0) := (hc2 _ _ (by rw [size_setc]; omega)).trans ((World.cell?_setCell_other _ _ _ _ (by intro h; simp only [Addr.mk.injEq] at h; omega)).trans a22)
  have b23 : w2.cell? ⟨w.heap.size + 1 + 1, 3, none⟩ = some (.int .i64 0) := (hc2 _ _ (by rw [size_setc]; omega)).trans ((World.cell?_setCell_other _ _ _ _ (by intro h; simp only [Addr.mk.injEq] at h; omega)).trans a23)
  have b24 : w2.cell? ⟨w.heap.size + 1 + 1, 4, none⟩ = some (.slice none 0 0) := (hc2 _ _ (by rw [size_setc]; omega)).trans ((World.cell?_setCell_other _ _ _ _ (by intro h; simp only [Addr.mk.injEq] at h; omega)).trans a24)
  have bf1 : ∀ j, w2.frozen? ⟨w.heap.size + 1, j, none⟩ = false := fun j => (hf2 _ _ (by rw [size_setc]; omega)).trans (by simp [af1])
  have bf2 : ∀ j, w2.frozen? ⟨w.heap.size + 1 + 1, j, none⟩ = false := fun j => (hf2 _ _ (by rw [size_setc]; omega)).trans (by simp [af2])
  have lt3 : w.heap.size + 1 + 1 < w2.heap.size := by omega
  clear hb hown HO1 HB1 hc2 hf2 a01 a02 a03 a04 a10 a20 a11 a21 a12 a22 a13 a23 a14 a24 af1 af2
  go_wp2_with fail
  refine (toCallS_any _ _ cs _ HCn.out (HC.out.below (below_three HB2.out (g := w.heap.size + 1 + 1) (by omega) _ _ _))).mono ?_
  rintro e w3 ⟨rfl, hown, hb⟩
  have HB3 := Lib.hid (below_trans (below_three HB2.out (g := w.heap.size + 1 + 1) (by omega) _ _ _) hb)
  have HO3 : Hid (OwnR Cll.cs 7 109 w2.heap.size w3 (some ⟨w2.heap.size, 0, none⟩) cs.length cs) := by have h := hown; simp only [size_setc] at h; exact h
  have HOT3 : Hid (OwnR Thd.cs 15 103 w1.heap.size w3 (some ⟨w1.heap.size, 0, none⟩) ts.length ts) := OwnR.below (own_three HO2.out (g := w.heap.size + 1 + 1) (by omega) _ _ _) hb
  have HOA3 : Hid (NewA (w.heap.size + 3) w3 (some ⟨g1, 0, none⟩) zs.length zs) := NewA.below (own_three HOA2.out (g := w.heap.size + 1 + 1) (by omega) _ _ _) hb
  have hz3 : w2.heap.size < w3.heap.size := (World.ownsRow.lt HO3.out w2.heap.size rfl).2
  obtain ⟨hc3, hf3⟩ := bcell hb
  have c10 : w3.cell? ⟨w.heap.size + 1, 0, none⟩ = some (.slice none 0 0) := (hc3 _ _ (by rw [size_setc, size_setc, size_setc]; omega)).trans ((World.cell?_setCell_other _ _ _ _ (by intro h; simp only [Addr.mk.injEq] at h; omega)).trans ((World.cell?_setCell_other _ _ _ _ (by intro h; simp only [Addr.mk.injEq] at h; omega)).trans ((World.cell?_setCell_other _ _ _ _ (by intro h; simp only [Addr.mk.injEq] at h; omega)).trans (b10))))
  have c11 : w3.cell? ⟨w.heap.size + 1, 1, none⟩ = some (.slice none 0 0) := (hc3 _ _ (by rw [size_setc, size_setc, size_setc]; omega)).trans ((World.cell?_setCell_other _ _ _ _ (by intro h; simp only [Addr.mk.injEq] at h; omega)).trans ((World.cell?_setCell_other _ _ _ _ (by intro h; simp only [Addr.mk.injEq] at h; omega)).trans ((World.cell?_setCell_other _ _ _ _ (by intro h; simp only [Addr.mk.injEq] at h; omega)).trans (b11))))
  have c12 : w3.cell? ⟨w.heap.size + 1, 2, none⟩ = some (.int .i64 0) := (hc3 _ _ (by rw [size_setc, size_setc, size_setc]; omega)).trans ((World.cell?_setCell_other _ _ _ _ (by intro h; simp only [Addr.mk.injEq] at h; omega)).trans ((World.cell?_setCell_other _ _ _ _ (by intro h; simp only [Addr.mk.injEq] at h; omega)).trans ((World.cell?_setCell_other _ _ _ _ (by intro h; simp only [Addr.mk.injEq] at h; omega)).trans (b12))))
  have c13 : w3.cell? ⟨w.heap.size + 1, 3, none⟩ = some (.int .i64 0) := (hc3 _ _ (by rw [size_setc, size_setc, size_setc]; omega)).trans ((World.cell?_setCell_other _ _ _ _ (by intro h; simp only [Addr.mk.injEq] at h; omega)).trans ((World.cell?_setCell_other _ _ _ _ (by intro h; simp only [Addr.mk.injEq] at h; omega)).trans ((World.cell?_setCell_other _ _ _ _ (by intro h; simp only [Addr.mk.injEq] at h; omega)).trans (b13))))
  have c14 : w3.cell? ⟨w.heap.size + 1, 4, none⟩ = some (.slice none 0 0) := (hc3 _ _ (by rw [size_setc, size_setc, size_setc]; omega)).trans ((World.cell?_setCell_other _ _ _ _ (by intro h; simp only [Addr.mk.injEq] at h; omega)).trans ((World.cell?_setCell_other _ _ _ _ (by intro h; simp only [Addr.mk.injEq] at h; omega)).trans ((World.cell?_setCell_other _ _ _ _ (by intro h; simp only [Addr.mk.injEq] at h; omega)).trans (b14))))
  have c20 : w3.cell? ⟨w.heap.size + 1 + 1, 0, none⟩ = some (.slice (some ⟨g1, 0, none⟩) zs.length zs.length) := (hc3 _ _ (by rw [size_setc, size_setc, size_setc]; omega)).trans ((World.cell?_setCell_other _ _ _ _ (by intro h; simp only [Addr.mk.injEq] at h; omega)).trans ((World.cell?_setCell_other _ _ _ _ (by intro h; simp only [Addr.mk.injEq] at h; omega)).trans ((World.cell?_setCell_other _ _ _ _ (by intro h; simp only [Addr.mk.injEq] at h; omega)).trans (b20))))
  have c21 : w3.cell? ⟨w.heap.size + 1 + 1, 1, none⟩ = some (.slice (some ⟨w1.heap.size, 0, none⟩) ts.length ts.length) := (hc3 _ _ (by rw [size_setc, size_setc, size_setc]; omega)).trans ((World.cell?_setCell_other _ _ _ _ (by intro h; simp only [Addr.mk.injEq] at h; omega)).trans ((World.cell?_setCell_other _ _ _ _ (by intro h; simp only [Addr.mk.injEq] at h; omega)).trans (World.cell?_setCell_same _ _ _ b21)))
  have c22 : w3.cell? ⟨w.heap.size + 1 + 1, 2, none⟩ = some (.int .i64 clk) := (hc3 _ _ (by rw [size_setc, size_setc, size_setc]; omega)).trans ((World.cell?_setCell_other _ _ _ _ (by intro h; simp only [Addr.mk.injEq] at h; omega)).trans (World.cell?_setCell_same _ _ _ ((World.cell?_setCell_other _ _ _ _ (by intro h; simp only [Addr.mk.injEq] at h; omega)).trans (b22))))
  have c23 : w3.cell? ⟨w.heap.size + 1 + 1, 3, none⟩ = some (.int .i64 stp) := (hc3 _ _ (by rw [size_setc, size_setc, size_setc]; omega)).trans (World.cell?_setCell_same _ _ _ ((World.cell?_setCell_other _ _ _ _ (by intro h; simp only [Addr.mk.injEq] at h; omega)).trans ((World.cell?_setCell_other _ _ _ _ (by intro h; simp only [Addr.mk.injEq] at h; omega)).trans (b23))))
  have c24 : w3.cell? ⟨w.heap.size + 1 + 1, 4, none⟩ = some (.slice none 0 0) := (hc3 _ _ (by rw [size_setc, size_setc, size_setc]; omega)).trans ((World.cell?_setCell_other _ _ _ _ (by intro h; simp only [Addr.mk.injEq] at h; omega)).trans ((World.cell?_setCell_other _ _ _ _ (by intro h; simp only [Addr.mk.injEq] at h; omega)).trans ((World.cell?_setCell_other _ _ _ _ (by intro h; simp only [Addr.mk.injEq] at h; omega)).trans (b24))))
  have cf1 : ∀ j, w3.frozen? ⟨w.heap.size + 1, j, none⟩ = false := fun j => (hf3 _ _ (by rw [size_setc, size_setc, size_setc]; omega)).trans (by simp [bf1])
  have cf2 : ∀ j, w3.frozen? ⟨w.heap.size + 1 + 1, j, none⟩ = false := fun j => (hf3 _ _ (by rw [size_setc, size_setc, size_setc]; omega)).trans (by simp [bf2])
  clear hb hown HO2 HB2 HOA2 hc3 hf3 b02 b03 b04 b10 b20 b11 b21 b12 b22 b13 b23 b14 b24 bf1 bf2
  go_wp2
  refine bodyPost_ret (v := .agg #[.slice (some ⟨g1, 0, none⟩) zs.length zs.length, .slice (some ⟨w1.heap.size, 0, none⟩) ts.length ts.length, .int .i64 clk, .int .i64 stp, .slice (some ⟨w2.heap.size, 0, none⟩) cs.length cs.length]) (by simp [results, Try.results31, go_sem, c10, c11, c12, c13, c14]) rfl ⟨g1, w1.heap.size, w2.heap.size, rfl, by have := HG1.out; omega, by have := HG1.out; omega, hz2, ?_, ?_, ?_, ?_⟩
  · refine NewA.base (B := w.heap.size + 3) ?_ (by omega)
    repeat (refine NewA.setCell ?_ (by simp <;> omega) _)
    exact HOA3.out
  · refine OwnR.base (B := w1.heap.size) ?_ (by omega)
    repeat (refine ownsRow_setCell_below ?_ (by simp <;> omega) _)
    exact HOT3.out
  · refine OwnR.base (B := w2.heap.size) ?_ (by omega)
    repeat (refine ownsRow_setCell_below ?_ (by simp <;> omega) _)
    exact HO3.out
  · repeat (refine Below.setCell ?_ (by simp <;> omega) _)
    exact HB3.out
end Go.Proofs.Ytiogebflfnicgaa
