/-
  Models as arguments of the laws: szModel, toModel, eqModel.
-/
import Derived.Test.YtiogebflfnicgaaRowW
import Derived.Test.YtiogebflfnicgaaBoxD
import Derived.Test.YtiogebflfnicgaaHelpB
import Derived.Test.YtiogebflfnicgaaStoreB
import Derived.Deep.DeepCutAuto
namespace Go.Proofs.Ytiogebflfnicgaa
open Go.RowKit

/-- What the size check of a model leaves. -/
def leftO (l : Int) (a t c : Nat) : Int := if leftB l a < 0 then -1 else if leftB (leftB l a) t < 0 then -1 else if leftB (leftB (leftB l a) t) c < 0 then -1 else leftB (leftB (leftB l a) t) c
theorem leftB_up {l : Int} {n : Nat} (h : ¬ leftB l n < 0) : leftB l n = l - n ∧ (n : Int) ≤ l := by
  unfold leftB at *
  by_cases h' : l - n < 0
  · rw [if_pos h'] at h; omega
  · rw [if_neg h'] at h ⊢; omega
theorem leftO_small {l : Int} {a t c : Nat} (hl : l ≤ 1048576) (h : ¬ leftO l a t c < 0) : a ≤ 1048576 ∧ t ≤ 1048576 ∧ c ≤ 1048576 := by
  unfold leftO at h
  by_cases h1 : leftB l a < 0
  · rw [if_pos h1] at h; omega
  rw [if_neg h1] at h
  by_cases h2 : leftB (leftB l a) t < 0
  · rw [if_pos h2] at h; omega
  rw [if_neg h2] at h
  by_cases h3 : leftB (leftB (leftB l a) t) c < 0
  · rw [if_pos h3] at h; omega
  obtain ⟨e1, g1⟩ := leftB_up h1
  obtain ⟨e2, g2⟩ := leftB_up h2
  obtain ⟨e3, g3⟩ := leftB_up h3
  omega
theorem leftO_bounds {l : Int} {a t c : Nat} (hl : l ≤ 1048576) (h : ¬ leftO l a t c < 0) : 0 ≤ leftO l a t c ∧ leftO l a t c ≤ 1048576 := by
  refine ⟨by omega, ?_⟩
  unfold leftO at h ⊢
  by_cases h1 : leftB l a < 0
  · rw [if_pos h1] at h; omega
  rw [if_neg h1] at h ⊢
  by_cases h2 : leftB (leftB l a) t < 0
  · rw [if_pos h2] at h; omega
  rw [if_neg h2] at h ⊢
  by_cases h3 : leftB (leftB (leftB l a) t) c < 0
  · rw [if_pos h3] at h; omega
  rw [if_neg h3]
  obtain ⟨e1, g1⟩ := leftB_up h1
  obtain ⟨e2, g2⟩ := leftB_up h2
  obtain ⟨e3, g3⟩ := leftB_up h3
  omega

set_option maxHeartbeats 1000000 in
theorem szModel_any (A B O : Option Addr) (ca cb co : Nat) (zs : List Int) (bs os : List Wtr) (cnt : Int) (l : Int) (w : World) (hz : zs.length ≤ maxLen) (ht : bs.length ≤ maxLen) (hc : os.length ≤ maxLen) (h0 : 0 ≤ l) (h1 : l ≤ 1048576) :
    Calls Try.prog 11 #[.agg #[.slice A zs.length ca, .int .i64 cnt, .slice B bs.length cb, .slice O os.length co], .int .i64 l] w fun e w' => e = .returned (.int .i64 (leftO l zs.length bs.length os.length)) ∧ Below w.heap.size w w' := by
  have HZ := Lib.hid hz; have HT := Lib.hid ht; have HC := Lib.hid hc; clear hz ht hc
  by_cases q1 : leftB l zs.length < 0
  · have HL : Hid (leftO l zs.length bs.length os.length = -1) := by unfold Hid leftO; rw [if_pos q1]
    obtain ⟨v, hv⟩ : ∃ v, leftB l zs.length = v := ⟨_, rfl⟩
    have HV := Lib.hid hv
    rw [hv] at q1
    clear hv
    go_enter Try.func11, Try.ntmps11
    go_wp2_with (first | (go_at_call 36; refine (szIntS_any _ _ _ _ _ HZ.out h0 h1).mono ?_; rintro e w' ⟨rfl, rfl⟩; rw [HV.out]))
    go_ret
    exact ⟨ret_int HL.out.symm, below_alloc _ _⟩
  obtain ⟨e1, g1⟩ := leftB_up q1
  have p1 : 0 ≤ leftB l zs.length := by omega
  have p2 : leftB l zs.length ≤ 1048576 := by omega
  obtain ⟨v, hv⟩ : ∃ v, leftB l zs.length = v := ⟨_, rfl⟩
  have HV := Lib.hid hv
  by_cases q2 : leftB v bs.length < 0
  · have HL : Hid (leftO l zs.length bs.length os.length = -1) := by unfold Hid leftO; rw [if_neg q1, if_pos (by rw [hv]; exact q2)]
    rw [hv] at q1 p1 p2
    obtain ⟨u, hu⟩ : ∃ u, leftB v bs.length = u := ⟨_, rfl⟩
    have HU := Lib.hid hu
    rw [hu] at q2
    clear hv hu e1 g1
    go_enter Try.func11, Try.ntmps11
    go_wp2_with (first | (go_at_call 36; refine (szIntS_any _ _ _ _ _ HZ.out h0 h1).mono ?_; rintro e w' ⟨rfl, rfl⟩; rw [HV.out]) | (go_at_call 37; refine (szWaiterS_any _ _ _ _ _ HT.out p1 p2).mono ?_; rintro e w' ⟨rfl, rfl⟩; rw [HU.out]))
    go_ret
    exact ⟨ret_int HL.out.symm, below_alloc _ _⟩
  obtain ⟨e2, g2⟩ := leftB_up q2
  have p3 : 0 ≤ leftB v bs.length := by omega
  have p4 : leftB v bs.length ≤ 1048576 := by omega
  obtain ⟨u, hu⟩ : ∃ u, leftB v bs.length = u := ⟨_, rfl⟩
  have HU := Lib.hid hu
  obtain ⟨x, hx⟩ : ∃ x, leftB u os.length = x := ⟨_, rfl⟩
  have HX := Lib.hid hx
  have HL : Hid (leftO l zs.length bs.length os.length = if x < 0 then -1 else x) := by unfold Hid leftO; rw [if_neg q1, hv, if_neg q2, hu, hx]
  rw [hv] at q1 p1 p2
  rw [hu] at q2 p3 p4
  clear hv hu hx e1 g1 e2 g2
  by_cases q3 : x < 0
  · rw [if_pos q3] at HL
    go_enter Try.func11, Try.ntmps11
    go_wp2_with (first | (go_at_call 36; refine (szIntS_any _ _ _ _ _ HZ.out h0 h1).mono ?_; rintro e w' ⟨rfl, rfl⟩; rw [HV.out]) | (go_at_call 37; first | (with_reducible refine (szWaiterS_any _ _ _ _ _ HT.out p1 p2).mono ?_; rintro e w' ⟨rfl, rfl⟩; rw [HU.out]) | (with_reducible refine (szWaiterS_any _ _ _ _ _ HC.out p3 p4).mono ?_; rintro e w' ⟨rfl, rfl⟩; rw [HX.out])))
    go_ret
    exact ⟨ret_int HL.out.symm, below_alloc _ _⟩
  · rw [if_neg q3] at HL
    go_enter Try.func11, Try.ntmps11
    go_wp2_with (first | (go_at_call 36; refine (szIntS_any _ _ _ _ _ HZ.out h0 h1).mono ?_; rintro e w' ⟨rfl, rfl⟩; rw [HV.out]) | (go_at_call 37; first | (with_reducible refine (szWaiterS_any _ _ _ _ _ HT.out p1 p2).mono ?_; rintro e w' ⟨rfl, rfl⟩; rw [HU.out]) | (with_reducible refine (szWaiterS_any _ _ _ _ _ HC.out p3 p4).mono ?_; rintro e w' ⟨rfl, rfl⟩; rw [HX.out])))
    go_ret
    exact ⟨ret_int HL.out.symm, below_alloc _ _⟩

theorem eqIntS_same (A B : Option Addr) (c d : Nat) (xs : List Int) (w : World) (hn : xs.length ≤ 1048576) (hA : Rd w A xs) (hB : Rd w B xs) :
    Calls Try.prog 48 #[.slice A xs.length c, .slice B xs.length d] w fun e w' => e = .returned (.bool true) ∧ Below w.heap.size w w' := by
  refine (eqIntS_any A B c d xs xs w (by unfold maxLen; omega) (by unfold maxLen; omega) hA hB).mono ?_
  rintro e w' ⟨rfl, n, rfl⟩
  exact ⟨by simp, below_drewN n⟩

set_option maxHeartbeats 1000000 in
theorem eqModel_same (A B O : Option Addr) (ca cb co : Nat) (zs : List Int) (bs os : List Wtr) (cnt : Int) (A2 B2 O2 : Option Addr) (ca2 cb2 co2 : Nat) (w : World) (hz : zs.length ≤ 1048576) (ht : bs.length ≤ 1048576) (hc : os.length ≤ 1048576)
    (hA : Rd w A zs) (hT : RdR Wtr.cs w B bs) (hC : RdR Wtr.cs w O os) (hA2 : Rd w A2 zs) (hT2 : RdR Wtr.cs w B2 bs) (hC2 : RdR Wtr.cs w O2 os) :
    Calls Try.prog 15 #[.agg #[.slice A zs.length ca, .int .i64 cnt, .slice B bs.length cb, .slice O os.length co], .agg #[.slice A2 zs.length ca2, .int .i64 cnt, .slice B2 bs.length cb2, .slice O2 os.length co2]] w fun e w' => e = .returned (.bool true) ∧ Below w.heap.size w w' := by
  have HA := Lib.hid hA; have HT := Lib.hid hT; have HC := Lib.hid hC; have HA2 := Lib.hid hA2; have HT2 := Lib.hid hT2; have HC2 := Lib.hid hC2
  have HZn := Lib.hid hz; have HTn := Lib.hid ht; have HCn := Lib.hid hc
  clear hA hT hC hA2 hT2 hC2 hz ht hc
  have HX := Lib.hid ((BoxC.new 30 w #[.slice A zs.length ca, .int .i64 cnt, .slice B bs.length cb, .slice O os.length co]).below (below_alloc _ (.cells #[.slice A2 zs.length ca2, .int .i64 cnt, .slice B2 bs.length cb2, .slice O2 os.length co2] 30)))
  have HY := Lib.hid (by have h := BoxC.new 30 (w.alloc (.cells #[.slice A zs.length ca, .int .i64 cnt, .slice B bs.length cb, .slice O os.length co] 30)) #[.slice A2 zs.length ca2, .int .i64 cnt, .slice B2 bs.length cb2, .slice O2 os.length co2]; rw [size_alloc] at h; exact h)
  go_enter Try.func15, Try.ntmps15
  go_wp2_with fail
  refine (eqIntS_same _ _ _ _ zs _ HZn.out (HA.out.below (below_alloc2 _ _ _)) (HA2.out.below (below_alloc2 _ _ _))).mono ?_
  rintro e w1 ⟨rfl, hb⟩
  have HB1 := Lib.hid (below_trans (below_alloc2 _ _ _) hb)
  have HX1 := Lib.hid (HX.out.below hb); have HY1 := Lib.hid (HY.out.below hb)
  clear hb HX HY
  have hx := HX1.out.cell; have hy := HY1.out.cell
  go_wp2_with fail
  refine (eqWaiterS_same _ _ _ _ bs _ HTn.out (HT.out.below HB1.out) (HT2.out.below HB1.out)).mono ?_
  rintro e w2 ⟨rfl, hb⟩
  have HB2 := Lib.hid (below_trans HB1.out hb)
  have HX2 := Lib.hid (HX1.out.below hb); have HY2 := Lib.hid (HY1.out.below hb)
  clear hb HX1 HY1 HB1 hx hy
  have hx := HX2.out.cell; have hy := HY2.out.cell
  go_wp2_with fail
  refine (eqWaiterS_same _ _ _ _ os _ HCn.out (HC.out.below HB2.out) (HC2.out.below HB2.out)).mono ?_
  rintro e w3 ⟨rfl, hb⟩
  have HB3 := Lib.hid (below_trans HB2.out hb)
  clear hb HX2 HY2 HB2 hx hy
  go_wp2
  go_ret
  exact ⟨rfl, HB3.out⟩

theorem info_model : (Try.prog.info? 30).map (·.size) = some 4 := by kernel_rfl
theorem one4m (A B O : Option Addr) (a ca t ct c cc : Nat) (cnt : Int) : (#[.slice A a ca, .int .i64 cnt, .slice B t ct, .slice O c cc] : Array Value).all (·.oneCell') = true := by simp [Value.oneCell']
set_option maxHeartbeats 2000000 in
theorem toModel_any (A B O : Option Addr) (ca cb co : Nat) (zs : List Int) (bs os : List Wtr) (cnt : Int) (w : World) (hz : zs.length ≤ 1048576) (ht : bs.length ≤ 1048576) (hc : os.length ≤ 1048576) (hA : Rd w A zs) (hT : RdR Wtr.cs w B bs) (hC : RdR Wtr.cs w O os) :
    Calls Try.prog 13 #[.agg #[.slice A zs.length ca, .int .i64 cnt, .slice B bs.length cb, .slice O os.length co]] w fun e w' => ∃ g1 g2 g3, e = .returned (.agg #[.slice (some ⟨g1, 0, none⟩) zs.length zs.length, .int .i64 cnt, .slice (some ⟨g2, 0, none⟩) bs.length bs.length, .slice (some ⟨g3, 0, none⟩) os.length os.length]) ∧ w.heap.size ≤ g1 ∧ g1 < g2 ∧ g2 < g3 ∧
      NewA w.heap.size w' (some ⟨g1, 0, none⟩) zs.length zs ∧ OwnR Wtr.cs 3 41 w.heap.size w' (some ⟨g2, 0, none⟩) bs.length bs ∧ OwnR Wtr.cs 3 41 w.heap.size w' (some ⟨g3, 0, none⟩) os.length os ∧ Below w.heap.size w w' := by
  have HA := Lib.hid hA; have HT := Lib.hid hT; have HC := Lib.hid hC; clear hA hT hC
  have HZn := Lib.hid hz; have HTn := Lib.hid ht; have HCn := Lib.hid hc; clear hz ht hc
  have HB0 := Lib.hid (below_alloc3 w (.cells #[.slice A zs.length ca, .int .i64 cnt, .slice B bs.length cb, .slice O os.length co] 25) (.cells #[.slice none 0 0, .int .i64 0, .slice none 0 0, .slice none 0 0] 30) (.cells #[.slice none 0 0, .int .i64 0, .slice none 0 0, .slice none 0 0] 30))
  have HS := Lib.hid (((BoxC.new 25 w #[.slice A zs.length ca, .int .i64 cnt, .slice B bs.length cb, .slice O os.length co]).below (below_alloc _ (.cells #[.slice none 0 0, .int .i64 0, .slice none 0 0, .slice none 0 0] 30))).below (below_alloc _ (.cells #[.slice none 0 0, .int .i64 0, .slice none 0 0, .slice none 0 0] 30)))
  have HR := Lib.hid (by have h := (BoxC.new 30 (w.alloc (.cells #[.slice A zs.length ca, .int .i64 cnt, .slice B bs.length cb, .slice O os.length co] 25)) #[.slice none 0 0, .int .i64 0, .slice none 0 0, .slice none 0 0]).below (below_alloc _ (.cells #[.slice none 0 0, .int .i64 0, .slice none 0 0, .slice none 0 0] 30)); rw [size_alloc] at h; exact h)
  have HV := Lib.hid (by have h := BoxC.new 30 ((w.alloc (.cells #[.slice A zs.length ca, .int .i64 cnt, .slice B bs.length cb, .slice O os.length co] 25)).alloc (.cells #[.slice none 0 0, .int .i64 0, .slice none 0 0, .slice none 0 0] 30)) #[.slice none 0 0, .int .i64 0, .slice none 0 0, .slice none 0 0]; rw [size_alloc, size_alloc] at h; exact h)
  have hsz : w.heap.size + 1 + 1 + 1 = (((w.alloc (.cells #[.slice A zs.length ca, .int .i64 cnt, .slice B bs.length cb, .slice O os.length co] 25)).alloc (.cells #[.slice none 0 0, .int .i64 0, .slice none 0 0, .slice none 0 0] 30)).alloc (.cells #[.slice none 0 0, .int .i64 0, .slice none 0 0, .slice none 0 0] 30)).heap.size := by simp
  go_enter Try.func13, Try.ntmps13
  go_wp2_with fail
  refine (toIntS_any _ _ zs _ HZn.out (HA.out.below HB0.out)).mono ?_
  rintro e w1 ⟨rfl, hown, hb⟩
  rw [← hsz]
  have HB1 := Lib.hid (below_trans HB0.out hb)
  have HO1 : Hid (NewA (w.heap.size + 1 + 1 + 1) w1 (some ⟨w.heap.size + 1 + 1 + 1, 0, none⟩) zs.length zs) := by unfold Hid; rw [hsz]; exact hown
  have HS1 := Lib.hid (HS.out.below hb); have HR1 := Lib.hid (HR.out.below hb); have HV1 := Lib.hid (HV.out.below hb)
  have hl1 : w.heap.size + 1 + 1 + 1 < w1.heap.size := (World.ownsRow.lt HO1.out _ rfl).2
  clear hb hown HS HR HV HB0 hsz
  have hs := HS1.out.cell; have hv := HV1.out.cell; have hf := HV1.out.mfroz
  go_upto_region 4 with fail
  have HS2 := Lib.hid ((HS1.out.msetO ⟨w.heap.size + 1 + 1, 0, none⟩ (.slice (some ⟨w.heap.size + 1 + 1 + 1, 0, none⟩) zs.length zs.length) (by simp <;> omega)).msetO ⟨w.heap.size + 1 + 1, 1, none⟩ (.int .i64 cnt) (by simp <;> omega))
  have HR2 := Lib.hid ((HR1.out.msetO ⟨w.heap.size + 1 + 1, 0, none⟩ (.slice (some ⟨w.heap.size + 1 + 1 + 1, 0, none⟩) zs.length zs.length) (by simp <;> omega)).msetO ⟨w.heap.size + 1 + 1, 1, none⟩ (.int .i64 cnt) (by simp <;> omega))
  have HV2 : Hid (BoxC 30 ((w1.setCell ⟨w.heap.size + 1 + 1, 0, none⟩ (.slice (some ⟨w.heap.size + 1 + 1 + 1, 0, none⟩) zs.length zs.length)).setCell ⟨w.heap.size + 1 + 1, 1, none⟩ (.int .i64 cnt)) (w.heap.size + 1 + 1) #[.slice (some ⟨w.heap.size + 1 + 1 + 1, 0, none⟩) zs.length zs.length, .int .i64 cnt, .slice none 0 0, .slice none 0 0]) := Lib.hid ((HV1.out.mset 0 _).mset 1 _)
  have HB2 := Lib.hid ((HB1.out.setCell (p := ⟨w.heap.size + 1 + 1, 0, none⟩) (by simp <;> omega) (.slice (some ⟨w.heap.size + 1 + 1 + 1, 0, none⟩) zs.length zs.length)).setCell (p := ⟨w.heap.size + 1 + 1, 1, none⟩) (by simp <;> omega) (.int .i64 cnt))
  have HO2 := Lib.hid ((HO1.out.setCell (a := ⟨w.heap.size + 1 + 1, 0, none⟩) (by simp <;> omega) (.slice (some ⟨w.heap.size + 1 + 1 + 1, 0, none⟩) zs.length zs.length)).setCell (a := ⟨w.heap.size + 1 + 1, 1, none⟩) (by simp <;> omega) (.int .i64 cnt))
  have hl2 : w.heap.size + 1 + 1 + 1 < ((w1.setCell ⟨w.heap.size + 1 + 1, 0, none⟩ (.slice (some ⟨w.heap.size + 1 + 1 + 1, 0, none⟩) zs.length zs.length)).setCell ⟨w.heap.size + 1 + 1, 1, none⟩ (.int .i64 cnt)).heap.size := by rw [size_setc2, size_setc2]; exact hl1
  generalize (w1.setCell ⟨w.heap.size + 1 + 1, 0, none⟩ (.slice (some ⟨w.heap.size + 1 + 1 + 1, 0, none⟩) zs.length zs.length)).setCell ⟨w.heap.size + 1 + 1, 1, none⟩ (.int .i64 cnt) = w2 at HS2 HR2 HV2 HB2 HO2 hl2 ⊢
  clear hs hv hf HS1 HR1 HV1 HB1 HO1 hl1
  have hs := HS2.out.cell
  go_wp2_with fail
  refine (toWaiterS_any _ _ bs _ HTn.out (HT.out.below HB2.out)).mono ?_
  rintro e w3 ⟨rfl, hown, hb⟩
  have HB3 := Lib.hid (below_trans HB2.out hb)
  have HS3 := Lib.hid (HS2.out.below hb); have HR3 := Lib.hid (HR2.out.below hb); have HV3 := Lib.hid (HV2.out.below hb)
  have HO3 := Lib.hid (HO2.out.below hb)
  have HP3 := Lib.hid hown
  have hl3 : w2.heap.size < w3.heap.size := (World.ownsRow.lt HP3.out _ rfl).2
  generalize w2.heap.size = g2 at HP3 hl2 hl3 ⊢
  clear hb hown HS2 HR2 HV2 HB2 HO2 hs
  have hv := HV3.out.cell; have hf := HV3.out.mfroz
  go_upto_region 5 with fail
  have HS4 := Lib.hid (HS3.out.msetO ⟨w.heap.size + 1 + 1, 2, none⟩ (.slice (some ⟨g2, 0, none⟩) bs.length bs.length) (by simp <;> omega))
  have HR4 := Lib.hid (HR3.out.msetO ⟨w.heap.size + 1 + 1, 2, none⟩ (.slice (some ⟨g2, 0, none⟩) bs.length bs.length) (by simp <;> omega))
  have HV4 : Hid (BoxC 30 (w3.setCell ⟨w.heap.size + 1 + 1, 2, none⟩ (.slice (some ⟨g2, 0, none⟩) bs.length bs.length)) (w.heap.size + 1 + 1) #[.slice (some ⟨w.heap.size + 1 + 1 + 1, 0, none⟩) zs.length zs.length, .int .i64 cnt, .slice (some ⟨g2, 0, none⟩) bs.length bs.length, .slice none 0 0]) := Lib.hid (HV3.out.mset 2 _)
  have HB4 := Lib.hid (HB3.out.setCell (p := ⟨w.heap.size + 1 + 1, 2, none⟩) (by simp <;> omega) (.slice (some ⟨g2, 0, none⟩) bs.length bs.length))
  have HO4 := Lib.hid (HO3.out.setCell (a := ⟨w.heap.size + 1 + 1, 2, none⟩) (by simp <;> omega) (.slice (some ⟨g2, 0, none⟩) bs.length bs.length))
  have HP4 : Hid (OwnR Wtr.cs 3 41 g2 (w3.setCell ⟨w.heap.size + 1 + 1, 2, none⟩ (.slice (some ⟨g2, 0, none⟩) bs.length bs.length)) (some ⟨g2, 0, none⟩) bs.length bs) := Lib.hid (ownsRow_setCell_below HP3.out (by simp <;> omega) _)
  have hl4 : g2 < (w3.setCell ⟨w.heap.size + 1 + 1, 2, none⟩ (.slice (some ⟨g2, 0, none⟩) bs.length bs.length)).heap.size := by rw [size_setc2]; exact hl3
  generalize w3.setCell ⟨w.heap.size + 1 + 1, 2, none⟩ (.slice (some ⟨g2, 0, none⟩) bs.length bs.length) = w4 at HS4 HR4 HV4 HB4 HO4 HP4 hl4 ⊢
  clear hv hf HS3 HR3 HV3 HB3 HO3 HP3 hl3
  have hs := HS4.out.cell
  go_wp2_with fail
  refine (toWaiterS_any _ _ os _ HCn.out (HC.out.below HB4.out)).mono ?_
  rintro e w5 ⟨rfl, hown, hb⟩
  have HB5 := Lib.hid (below_trans HB4.out hb)
  have HR5 := Lib.hid (HR4.out.below hb); have HV5 := Lib.hid (HV4.out.below hb)
  have HO5 := Lib.hid (HO4.out.below hb)
  have HP5 := Lib.hid (OwnR.below HP4.out hb)
  have HQ5 := Lib.hid hown
  have hl5 : w4.heap.size < w5.heap.size := (World.ownsRow.lt HQ5.out _ rfl).2
  generalize w4.heap.size = g3 at HQ5 hl4 hl5 ⊢
  clear hb hown HS4 HR4 HV4 HB4 HO4 HP4 hs
  have hv := HV5.out.cell; have hf := HV5.out.mfroz
  go_upto_region 6 with fail
  have HR6 := Lib.hid (HR5.out.msetO ⟨w.heap.size + 1 + 1, 3, none⟩ (.slice (some ⟨g3, 0, none⟩) os.length os.length) (by simp <;> omega))
  have HV6 : Hid (BoxC 30 (w5.setCell ⟨w.heap.size + 1 + 1, 3, none⟩ (.slice (some ⟨g3, 0, none⟩) os.length os.length)) (w.heap.size + 1 + 1) #[.slice (some ⟨w.heap.size + 1 + 1 + 1, 0, none⟩) zs.length zs.length, .int .i64 cnt, .slice (some ⟨g2, 0, none⟩) bs.length bs.length, .slice (some ⟨g3, 0, none⟩) os.length os.length]) := Lib.hid (HV5.out.mset 3 _)
  have HB6 := Lib.hid (HB5.out.setCell (p := ⟨w.heap.size + 1 + 1, 3, none⟩) (by simp <;> omega) (.slice (some ⟨g3, 0, none⟩) os.length os.length))
  have HO6 := Lib.hid (HO5.out.setCell (a := ⟨w.heap.size + 1 + 1, 3, none⟩) (by simp <;> omega) (.slice (some ⟨g3, 0, none⟩) os.length os.length))
  have HP6 : Hid (OwnR Wtr.cs 3 41 g2 (w5.setCell ⟨w.heap.size + 1 + 1, 3, none⟩ (.slice (some ⟨g3, 0, none⟩) os.length os.length)) (some ⟨g2, 0, none⟩) bs.length bs) := Lib.hid (ownsRow_setCell_below HP5.out (by simp <;> omega) _)
  have HQ6 : Hid (OwnR Wtr.cs 3 41 g3 (w5.setCell ⟨w.heap.size + 1 + 1, 3, none⟩ (.slice (some ⟨g3, 0, none⟩) os.length os.length)) (some ⟨g3, 0, none⟩) os.length os) := Lib.hid (ownsRow_setCell_below HQ5.out (by simp <;> omega) _)
  generalize w5.setCell ⟨w.heap.size + 1 + 1, 3, none⟩ (.slice (some ⟨g3, 0, none⟩) os.length os.length) = w6 at HR6 HV6 HB6 HO6 HP6 HQ6 ⊢
  clear hv hf HR5 HV5 HB5 HO5 HP5 HQ5 hl5
  have hv := HV6.out.cell; have hr := HR6.out.cell; have hf := HR6.out.mfroz
  go_wp2
  refine bodyPost_ret (v := .agg #[.slice (some ⟨w.heap.size + 1 + 1 + 1, 0, none⟩) zs.length zs.length, .int .i64 cnt, .slice (some ⟨g2, 0, none⟩) bs.length bs.length, .slice (some ⟨g3, 0, none⟩) os.length os.length]) (by simp [results, Try.results13, go_sem, hr]) rfl ⟨w.heap.size + 1 + 1 + 1, g2, g3, rfl, by omega, hl2, hl4, ?_, ?_, ?_, ?_⟩
  · refine NewA.base (B := w.heap.size + 1 + 1 + 1) ?_ (by omega)
    repeat (refine NewA.setCell ?_ (by simp <;> omega) _)
    exact HO6.out
  · refine OwnR.base (B := g2) ?_ (by omega)
    repeat (refine ownsRow_setCell_below ?_ (by simp <;> omega) _)
    exact HP6.out
  · refine OwnR.base (B := g3) ?_ (by omega)
    repeat (refine ownsRow_setCell_below ?_ (by simp <;> omega) _)
    exact HQ6.out
  · repeat (refine Below.setCell ?_ (by simp <;> omega) _)
    exact HB6.out
end Go.Proofs.Ytiogebflfnicgaa
