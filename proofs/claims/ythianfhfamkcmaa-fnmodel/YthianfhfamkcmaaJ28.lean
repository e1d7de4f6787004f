/-
  Models (chapter 11): the model's ModelCall, one way of it.
  Models (chapter 11): the model's ModelCall, one way of it.
  Models (chapter 11): the model's ModelCall, one way of it.
  Models (chapter 11): the model's ModelCall, one way of it.
-/
import Derived.BigQuiet
import Derived.Test.YthianfhfamkcmaaJ26
namespace Go.Proofs.Ythianfhfamkcmaa
open Go.RowKit

set_option maxHeartbeats 4000000 in
set_option maxRecDepth 100000 in
theorem smc_full6 (A B O : Option Addr) (ca cb co : Nat) (zs : List Int) (bs os : List Wtr) (th arg : Int) (w : World) (hz : zs.length ≤ 1048576) (ht : bs.length ≤ 1048576) (hc : os.length ≤ 1048576) (hA : Rd w A zs) (hT : RdR Wtr.cs w B bs) (hC : RdR Wtr.cs w O os) (qm : mdB zs 1000000000 bs os = true) (qw : wtB th 6 arg = true) (hw0 : waitsB bs os th = false) :
    Calls Try.prog 12 #[.agg #[.slice A zs.length ca, .int .i64 1000000000, .slice B bs.length cb, .slice O os.length co], .agg #[.int .i64 th, .int .i64 6, .int .i64 arg]] w (SpecPost w ((false, 7, 0, -1), (zs, 1000000000, bs, os))) := by
  have HA := Lib.hid hA; have HT := Lib.hid hT; have HC := Lib.hid hC; clear hA hT hC
  have HB0 := Lib.hid (below_alloc3 w (.cells #[.slice A zs.length ca, .int .i64 1000000000, .slice B bs.length cb, .slice O os.length co] 31) (.cells #[.int .i64 th, .int .i64 6, .int .i64 arg] 35) (.cells #[.slice none 0 0, .int .i64 0, .slice none 0 0, .slice none 0 0] 31))
  have HX := Lib.hid ((BoxC.new 31 w #[.slice A zs.length ca, .int .i64 1000000000, .slice B bs.length cb, .slice O os.length co]).below (below_alloc2 _ (.cells #[.int .i64 th, .int .i64 6, .int .i64 arg] 35) (.cells #[.slice none 0 0, .int .i64 0, .slice none 0 0, .slice none 0 0] 31)))
  have HW := Lib.hid (by have h := (BoxC.new 35 (w.alloc (.cells #[.slice A zs.length ca, .int .i64 1000000000, .slice B bs.length cb, .slice O os.length co] 31)) #[.int .i64 th, .int .i64 6, .int .i64 arg]).below (below_alloc _ (.cells #[.slice none 0 0, .int .i64 0, .slice none 0 0, .slice none 0 0] 31)); rw [size_alloc] at h; exact h)
  have HR := Lib.hid (by have h := BoxC.new 31 ((w.alloc (.cells #[.slice A zs.length ca, .int .i64 1000000000, .slice B bs.length cb, .slice O os.length co] 31)).alloc (.cells #[.int .i64 th, .int .i64 6, .int .i64 arg] 35)) #[.slice none 0 0, .int .i64 0, .slice none 0 0, .slice none 0 0]; rw [size_alloc, size_alloc] at h; exact h)
  go_enter Try.func12, Try.ntmps12
  have hx := HX.out.cell
  go_wp2_with fail
  refine (specModelOK_any _ _ _ _ _ _ zs bs os 1000000000 _ hz ht hc (HA.out.below HB0.out) (HT.out.below HB0.out) (HC.out.below HB0.out)).mono ?_
  rintro e w1 ⟨rfl, hb⟩
  rw [qm]
  have HB1 := Lib.hid (below_trans HB0.out hb)
  have HX1 := Lib.hid (HX.out.below hb); have HW1 := Lib.hid (HW.out.below hb); have HR1 := Lib.hid (HR.out.below hb)
  clear hb HB0 HX HW HR hx
  have hx := HW1.out.cell
  go_wp2_with fail
  refine (specWaiter_any th 6 arg _).mono ?_
  rintro e w2 ⟨rfl, hb⟩
  rw [qw]
  have HB2 := Lib.hid (below_trans HB1.out hb)
  have HX2 := Lib.hid (HX1.out.below hb); have HW2 := Lib.hid (HW1.out.below hb); have HR2 := Lib.hid (HR1.out.below hb)
  clear hb HB1 HX1 HW1 HR1 hx
  have hx := HX2.out.cell; have hw := HW2.out.cell
  go_wp2_with fail
  refine (l10Waits_any _ _ _ _ _ _ zs bs os 1000000000 th _ ht (md_parts qm).2.2.2.1 (HT.out.below HB2.out) (HC.out.below HB2.out)).mono ?_
  rintro e w3 ⟨rfl, hb⟩
  rw [hw0]
  have HB3 := Lib.hid (below_trans HB2.out hb)
  have HX3 := Lib.hid (HX2.out.below hb); have HW3 := Lib.hid (HW2.out.below hb); have HR3 := Lib.hid (HR2.out.below hb)
  clear hb HB2 HX2 HW2 HR2 hx hw
  have hx := HX3.out.cell; have hw := HW3.out.cell
  go_wp2_with fail
  refine (l10Own_any _ _ _ _ _ _ zs bs os 1000000000 _ hz ht hc (HA.out.below HB3.out) (HT.out.below HB3.out) (HC.out.below HB3.out)).mono ?_
  rintro e w4 ⟨B1, d1, B2, d2, B3, d3, rfl, hO, hb⟩
  have HB4 := Lib.hid (below_trans HB3.out hb)
  have HR4 := Lib.hid (HR3.out.below hb)
  have hz3 := HR3.out.lt
  have HO4 := Lib.hid (OwnO.base hO (b1 := w.heap.size + 1 + 1 + 1) (by omega))
  clear hb hO HB3 HX3 HW3 HR3 hx hw
  go_wp2_with (refine wpList_store_row rfl 31 _ _ rfl (w.heap.size + 1 + 1) _ rfl rfl 31 _ HR4.out info_model rfl (one4m _ _ _ _ _ _ _ _ _ _) ?_)
  have hr := (HR4.out.mrow #[.slice B1 zs.length d1, .int .i64 1000000000, .slice B2 bs.length d2, .slice B3 os.length d3]).cell
  have hb' := below_setRow HB4.out (Nat.le_trans (Nat.le_succ _) (Nat.le_succ _) : w.heap.size ≤ w.heap.size + 1 + 1) #[.slice B1 zs.length d1, .int .i64 1000000000, .slice B2 bs.length d2, .slice B3 os.length d3]
  have hO' := OwnO.row HO4.out (k := w.heap.size + 1 + 1) (by omega) #[.slice B1 zs.length d1, .int .i64 1000000000, .slice B2 bs.length d2, .slice B3 os.length d3]
  generalize w4.setRow (w.heap.size + 1 + 1) #[.slice B1 zs.length d1, .int .i64 1000000000, .slice B2 bs.length d2, .slice B3 os.length d3] = w9 at hr hb' hO' ⊢
  refine bodyPost_ret (v := .tuple #[.agg #[.slice B1 zs.length d1, .int .i64 1000000000, .slice B2 bs.length d2, .slice B3 os.length d3], .bool false, .int .i64 7, .int .i64 0, .int .i64 (-1)]) (by simp [results, Try.results12, go_sem, hr]) rfl ⟨B1, d1, B2, d2, B3, d3, rfl, (SegC.ofI hO'.st).base (by omega), (SegC.ofW hO'.wt).base (by omega), (SegC.ofW hO'.of).base (by omega), hb'⟩

end Go.Proofs.Ythianfhfamkcmaa

namespace Go.Proofs.Ythianfhfamkcmaa
open Go.RowKit

set_option maxHeartbeats 4000000 in
set_option maxRecDepth 100000 in
theorem smc_go4 (A B O : Option Addr) (ca cb co : Nat) (zs : List Int) (bs os : List Wtr) (cnt th arg : Int) (w : World) (hz : zs.length ≤ 1048576) (ht : bs.length ≤ 1048576) (hc : os.length ≤ 1048576) (hA : Rd w A zs) (hT : RdR Wtr.cs w B bs) (hC : RdR Wtr.cs w O os) (qm : mdB zs cnt bs os = true) (qw : wtB th 4 arg = true) (hw0 : waitsB bs os th = false) (hf : ¬ zs.length = 400) :
    Calls Try.prog 12 #[.agg #[.slice A zs.length ca, .int .i64 cnt, .slice B bs.length cb, .slice O os.length co], .agg #[.int .i64 th, .int .i64 4, .int .i64 arg]] w (SpecPost w (doR zs cnt bs os th 4 arg)) := by
  have HA := Lib.hid hA; have HT := Lib.hid hT; have HC := Lib.hid hC; clear hA hT hC
  have HB0 := Lib.hid (below_alloc3 w (.cells #[.slice A zs.length ca, .int .i64 cnt, .slice B bs.length cb, .slice O os.length co] 31) (.cells #[.int .i64 th, .int .i64 4, .int .i64 arg] 35) (.cells #[.slice none 0 0, .int .i64 0, .slice none 0 0, .slice none 0 0] 31))
  have HX := Lib.hid ((BoxC.new 31 w #[.slice A zs.length ca, .int .i64 cnt, .slice B bs.length cb, .slice O os.length co]).below (below_alloc2 _ (.cells #[.int .i64 th, .int .i64 4, .int .i64 arg] 35) (.cells #[.slice none 0 0, .int .i64 0, .slice none 0 0, .slice none 0 0] 31)))
  have HW := Lib.hid (by have h := (BoxC.new 35 (w.alloc (.cells #[.slice A zs.length ca, .int .i64 cnt, .slice B bs.length cb, .slice O os.length co] 31)) #[.int .i64 th, .int .i64 4, .int .i64 arg]).below (below_alloc _ (.cells #[.slice none 0 0, .int .i64 0, .slice none 0 0, .slice none 0 0] 31)); rw [size_alloc] at h; exact h)
  have HR := Lib.hid (by have h := BoxC.new 31 ((w.alloc (.cells #[.slice A zs.length ca, .int .i64 cnt, .slice B bs.length cb, .slice O os.length co] 31)).alloc (.cells #[.int .i64 th, .int .i64 4, .int .i64 arg] 35)) #[.slice none 0 0, .int .i64 0, .slice none 0 0, .slice none 0 0]; rw [size_alloc, size_alloc] at h; exact h)
  go_enter Try.func12, Try.ntmps12
  have hx := HX.out.cell
  go_wp2_with fail
  refine (specModelOK_any _ _ _ _ _ _ zs bs os cnt _ hz ht hc (HA.out.below HB0.out) (HT.out.below HB0.out) (HC.out.below HB0.out)).mono ?_
  rintro e w1 ⟨rfl, hb⟩
  rw [qm]
  have HB1 := Lib.hid (below_trans HB0.out hb)
  have HX1 := Lib.hid (HX.out.below hb); have HW1 := Lib.hid (HW.out.below hb); have HR1 := Lib.hid (HR.out.below hb)
  clear hb HB0 HX HW HR hx
  have hx := HW1.out.cell
  go_wp2_with fail
  refine (specWaiter_any th 4 arg _).mono ?_
  rintro e w2 ⟨rfl, hb⟩
  rw [qw]
  have HB2 := Lib.hid (below_trans HB1.out hb)
  have HX2 := Lib.hid (HX1.out.below hb); have HW2 := Lib.hid (HW1.out.below hb); have HR2 := Lib.hid (HR1.out.below hb)
  clear hb HB1 HX1 HW1 HR1 hx
  have hx := HX2.out.cell; have hw := HW2.out.cell
  go_wp2_with fail
  refine (l10Waits_any _ _ _ _ _ _ zs bs os cnt th _ ht (md_parts qm).2.2.2.1 (HT.out.below HB2.out) (HC.out.below HB2.out)).mono ?_
  rintro e w3 ⟨rfl, hb⟩
  rw [hw0]
  have HB3 := Lib.hid (below_trans HB2.out hb)
  have HX3 := Lib.hid (HX2.out.below hb); have HW3 := Lib.hid (HW2.out.below hb); have HR3 := Lib.hid (HR2.out.below hb)
  clear hb HB2 HX2 HW2 HR2 hx hw
  have hfi : ¬ (zs.length : Int) = 400 := by omega
  have hx := HX3.out.cell; have hw := HW3.out.cell
  go_wp2_with fail
  refine (l10Call_any _ _ _ _ _ _ zs bs os cnt th 4 arg _ hz ht hc (HA.out.below HB3.out) (HT.out.below HB3.out) (HC.out.below HB3.out) qm qw hw0 (fun _ => hf) (fun h => absurd h (by decide))).mono ?_
  generalize hrr : doR zs cnt bs os th 4 arg = r
  rintro e w4 ⟨B1, d1, B2, d2, B3, d3, rfl, hsA, hsB, hsO, hb⟩
  have HB4 := Lib.hid (below_trans HB3.out hb)
  have HR4 := Lib.hid (HR3.out.below hb)
  have hz3 := HR3.out.lt
  have HA4 := Lib.hid (SegC.base hsA (b1 := w.heap.size + 1 + 1 + 1) (by omega)); have HT4 := Lib.hid (SegC.base hsB (b1 := w.heap.size + 1 + 1 + 1) (by omega)); have HC4 := Lib.hid (SegC.base hsO (b1 := w.heap.size + 1 + 1 + 1) (by omega))
  clear hb hsA hsB hsO HB3 HX3 HW3 HR3 hx hw
  go_wp2_with (refine wpList_store_row rfl 31 _ _ rfl (w.heap.size + 1 + 1) _ rfl rfl 31 _ HR4.out info_model rfl (one4m _ _ _ _ _ _ _ _ _ _) ?_)
  have hr := (HR4.out.mrow #[.slice B1 r.2.1.length d1, .int .i64 r.2.2.1, .slice B2 r.2.2.2.1.length d2, .slice B3 r.2.2.2.2.length d3]).cell
  have hb' := below_setRow HB4.out (Nat.le_trans (Nat.le_succ _) (Nat.le_succ _) : w.heap.size ≤ w.heap.size + 1 + 1) #[.slice B1 r.2.1.length d1, .int .i64 r.2.2.1, .slice B2 r.2.2.2.1.length d2, .slice B3 r.2.2.2.2.length d3]
  have hsA := SegC.base (b1 := w.heap.size) (SegC.row (n := r.2.1.length) (c := d1) HA4.out (k := w.heap.size + 1 + 1) (by omega) #[.slice B1 r.2.1.length d1, .int .i64 r.2.2.1, .slice B2 r.2.2.2.1.length d2, .slice B3 r.2.2.2.2.length d3]) (by omega)
  have hsB := SegC.base (b1 := w.heap.size) (SegC.row (n := r.2.2.2.1.length) (c := d2) HT4.out (k := w.heap.size + 1 + 1) (by omega) #[.slice B1 r.2.1.length d1, .int .i64 r.2.2.1, .slice B2 r.2.2.2.1.length d2, .slice B3 r.2.2.2.2.length d3]) (by omega)
  have hsO := SegC.base (b1 := w.heap.size) (SegC.row (n := r.2.2.2.2.length) (c := d3) HC4.out (k := w.heap.size + 1 + 1) (by omega) #[.slice B1 r.2.1.length d1, .int .i64 r.2.2.1, .slice B2 r.2.2.2.1.length d2, .slice B3 r.2.2.2.2.length d3]) (by omega)
  generalize w4.setRow (w.heap.size + 1 + 1) #[.slice B1 r.2.1.length d1, .int .i64 r.2.2.1, .slice B2 r.2.2.2.1.length d2, .slice B3 r.2.2.2.2.length d3] = w9 at hr hb' hsA hsB hsO ⊢
  refine bodyPost_ret (v := .tuple #[.agg #[.slice B1 r.2.1.length d1, .int .i64 r.2.2.1, .slice B2 r.2.2.2.1.length d2, .slice B3 r.2.2.2.2.length d3], .bool r.1.1, .int .i64 r.1.2.1, .int .i64 r.1.2.2.1, .int .i64 r.1.2.2.2]) (by simp [results, Try.results12, go_sem, hr]) rfl (by subst hrr; exact ⟨B1, d1, B2, d2, B3, d3, rfl, hsA, hsB, hsO, hb'⟩)

end Go.Proofs.Ythianfhfamkcmaa

namespace Go.Proofs.Ythianfhfamkcmaa
open Go.RowKit

set_option maxHeartbeats 4000000 in
set_option maxRecDepth 100000 in
theorem smc_go6 (A B O : Option Addr) (ca cb co : Nat) (zs : List Int) (bs os : List Wtr) (cnt th arg : Int) (w : World) (hz : zs.length ≤ 1048576) (ht : bs.length ≤ 1048576) (hc : os.length ≤ 1048576) (hA : Rd w A zs) (hT : RdR Wtr.cs w B bs) (hC : RdR Wtr.cs w O os) (qm : mdB zs cnt bs os = true) (qw : wtB th 6 arg = true) (hw0 : waitsB bs os th = false) (hf : ¬ cnt = 1000000000) :
    Calls Try.prog 12 #[.agg #[.slice A zs.length ca, .int .i64 cnt, .slice B bs.length cb, .slice O os.length co], .agg #[.int .i64 th, .int .i64 6, .int .i64 arg]] w (SpecPost w (doR zs cnt bs os th 6 arg)) := by
  have HA := Lib.hid hA; have HT := Lib.hid hT; have HC := Lib.hid hC; clear hA hT hC
  have HB0 := Lib.hid (below_alloc3 w (.cells #[.slice A zs.length ca, .int .i64 cnt, .slice B bs.length cb, .slice O os.length co] 31) (.cells #[.int .i64 th, .int .i64 6, .int .i64 arg] 35) (.cells #[.slice none 0 0, .int .i64 0, .slice none 0 0, .slice none 0 0] 31))
  have HX := Lib.hid ((BoxC.new 31 w #[.slice A zs.length ca, .int .i64 cnt, .slice B bs.length cb, .slice O os.length co]).below (below_alloc2 _ (.cells #[.int .i64 th, .int .i64 6, .int .i64 arg] 35) (.cells #[.slice none 0 0, .int .i64 0, .slice none 0 0, .slice none 0 0] 31)))
  have HW := Lib.hid (by have h := (BoxC.new 35 (w.alloc (.cells #[.slice A zs.length ca, .int .i64 cnt, .slice B bs.length cb, .slice O os.length co] 31)) #[.int .i64 th, .int .i64 6, .int .i64 arg]).below (below_alloc _ (.cells #[.slice none 0 0, .int .i64 0, .slice none 0 0, .slice none 0 0] 31)); rw [size_alloc] at h; exact h)
  have HR := Lib.hid (by have h := BoxC.new 31 ((w.alloc (.cells #[.slice A zs.length ca, .int .i64 cnt, .slice B bs.length cb, .slice O os.length co] 31)).alloc (.cells #[.int .i64 th, .int .i64 6, .int .i64 arg] 35)) #[.slice none 0 0, .int .i64 0, .slice none 0 0, .slice none 0 0]; rw [size_alloc, size_alloc] at h; exact h)
  go_enter Try.func12, Try.ntmps12
  have hx := HX.out.cell
  go_wp2_with fail
  refine (specModelOK_any _ _ _ _ _ _ zs bs os cnt _ hz ht hc (HA.out.below HB0.out) (HT.out.below HB0.out) (HC.out.below HB0.out)).mono ?_
  rintro e w1 ⟨rfl, hb⟩
  rw [qm]
  have HB1 := Lib.hid (below_trans HB0.out hb)
  have HX1 := Lib.hid (HX.out.below hb); have HW1 := Lib.hid (HW.out.below hb); have HR1 := Lib.hid (HR.out.below hb)
  clear hb HB0 HX HW HR hx
  have hx := HW1.out.cell
  go_wp2_with fail
  refine (specWaiter_any th 6 arg _).mono ?_
  rintro e w2 ⟨rfl, hb⟩
  rw [qw]
  have HB2 := Lib.hid (below_trans HB1.out hb)
  have HX2 := Lib.hid (HX1.out.below hb); have HW2 := Lib.hid (HW1.out.below hb); have HR2 := Lib.hid (HR1.out.below hb)
  clear hb HB1 HX1 HW1 HR1 hx
  have hx := HX2.out.cell; have hw := HW2.out.cell
  go_wp2_with fail
  refine (l10Waits_any _ _ _ _ _ _ zs bs os cnt th _ ht (md_parts qm).2.2.2.1 (HT.out.below HB2.out) (HC.out.below HB2.out)).mono ?_
  rintro e w3 ⟨rfl, hb⟩
  rw [hw0]
  have HB3 := Lib.hid (below_trans HB2.out hb)
  have HX3 := Lib.hid (HX2.out.below hb); have HW3 := Lib.hid (HW2.out.below hb); have HR3 := Lib.hid (HR2.out.below hb)
  clear hb HB2 HX2 HW2 HR2 hx hw
  have hx := HX3.out.cell; have hw := HW3.out.cell
  go_wp2_with fail
  refine (l10Call_any _ _ _ _ _ _ zs bs os cnt th 6 arg _ hz ht hc (HA.out.below HB3.out) (HT.out.below HB3.out) (HC.out.below HB3.out) qm qw hw0 (fun h => absurd h (by decide)) (fun _ => hf)).mono ?_
  generalize hrr : doR zs cnt bs os th 6 arg = r
  rintro e w4 ⟨B1, d1, B2, d2, B3, d3, rfl, hsA, hsB, hsO, hb⟩
  have HB4 := Lib.hid (below_trans HB3.out hb)
  have HR4 := Lib.hid (HR3.out.below hb)
  have hz3 := HR3.out.lt
  have HA4 := Lib.hid (SegC.base hsA (b1 := w.heap.size + 1 + 1 + 1) (by omega)); have HT4 := Lib.hid (SegC.base hsB (b1 := w.heap.size + 1 + 1 + 1) (by omega)); have HC4 := Lib.hid (SegC.base hsO (b1 := w.heap.size + 1 + 1 + 1) (by omega))
  clear hb hsA hsB hsO HB3 HX3 HW3 HR3 hx hw
  go_wp2_with (refine wpList_store_row rfl 31 _ _ rfl (w.heap.size + 1 + 1) _ rfl rfl 31 _ HR4.out info_model rfl (one4m _ _ _ _ _ _ _ _ _ _) ?_)
  have hr := (HR4.out.mrow #[.slice B1 r.2.1.length d1, .int .i64 r.2.2.1, .slice B2 r.2.2.2.1.length d2, .slice B3 r.2.2.2.2.length d3]).cell
  have hb' := below_setRow HB4.out (Nat.le_trans (Nat.le_succ _) (Nat.le_succ _) : w.heap.size ≤ w.heap.size + 1 + 1) #[.slice B1 r.2.1.length d1, .int .i64 r.2.2.1, .slice B2 r.2.2.2.1.length d2, .slice B3 r.2.2.2.2.length d3]
  have hsA := SegC.base (b1 := w.heap.size) (SegC.row (n := r.2.1.length) (c := d1) HA4.out (k := w.heap.size + 1 + 1) (by omega) #[.slice B1 r.2.1.length d1, .int .i64 r.2.2.1, .slice B2 r.2.2.2.1.length d2, .slice B3 r.2.2.2.2.length d3]) (by omega)
  have hsB := SegC.base (b1 := w.heap.size) (SegC.row (n := r.2.2.2.1.length) (c := d2) HT4.out (k := w.heap.size + 1 + 1) (by omega) #[.slice B1 r.2.1.length d1, .int .i64 r.2.2.1, .slice B2 r.2.2.2.1.length d2, .slice B3 r.2.2.2.2.length d3]) (by omega)
  have hsO := SegC.base (b1 := w.heap.size) (SegC.row (n := r.2.2.2.2.length) (c := d3) HC4.out (k := w.heap.size + 1 + 1) (by omega) #[.slice B1 r.2.1.length d1, .int .i64 r.2.2.1, .slice B2 r.2.2.2.1.length d2, .slice B3 r.2.2.2.2.length d3]) (by omega)
  generalize w4.setRow (w.heap.size + 1 + 1) #[.slice B1 r.2.1.length d1, .int .i64 r.2.2.1, .slice B2 r.2.2.2.1.length d2, .slice B3 r.2.2.2.2.length d3] = w9 at hr hb' hsA hsB hsO ⊢
  refine bodyPost_ret (v := .tuple #[.agg #[.slice B1 r.2.1.length d1, .int .i64 r.2.2.1, .slice B2 r.2.2.2.1.length d2, .slice B3 r.2.2.2.2.length d3], .bool r.1.1, .int .i64 r.1.2.1, .int .i64 r.1.2.2.1, .int .i64 r.1.2.2.2]) (by simp [results, Try.results12, go_sem, hr]) rfl (by subst hrr; exact ⟨B1, d1, B2, d2, B3, d3, rfl, hsA, hsB, hsO, hb'⟩)

end Go.Proofs.Ythianfhfamkcmaa

namespace Go.Proofs.Ythianfhfamkcmaa
open Go.RowKit

set_option maxHeartbeats 4000000 in
set_option maxRecDepth 100000 in
theorem smc_go (A B O : Option Addr) (ca cb co : Nat) (zs : List Int) (bs os : List Wtr) (cnt th op arg : Int) (w : World) (hz : zs.length ≤ 1048576) (ht : bs.length ≤ 1048576) (hc : os.length ≤ 1048576) (hA : Rd w A zs) (hT : RdR Wtr.cs w B bs) (hC : RdR Wtr.cs w O os) (qm : mdB zs cnt bs os = true) (qw : wtB th op arg = true) (hw0 : waitsB bs os th = false) (h4 : ¬ op = 4) (h6 : ¬ op = 6) :
    Calls Try.prog 12 #[.agg #[.slice A zs.length ca, .int .i64 cnt, .slice B bs.length cb, .slice O os.length co], .agg #[.int .i64 th, .int .i64 op, .int .i64 arg]] w (SpecPost w (doR zs cnt bs os th op arg)) := by
  have HA := Lib.hid hA; have HT := Lib.hid hT; have HC := Lib.hid hC; clear hA hT hC
  have HB0 := Lib.hid (below_alloc3 w (.cells #[.slice A zs.length ca, .int .i64 cnt, .slice B bs.length cb, .slice O os.length co] 31) (.cells #[.int .i64 th, .int .i64 op, .int .i64 arg] 35) (.cells #[.slice none 0 0, .int .i64 0, .slice none 0 0, .slice none 0 0] 31))
  have HX := Lib.hid ((BoxC.new 31 w #[.slice A zs.length ca, .int .i64 cnt, .slice B bs.length cb, .slice O os.length co]).below (below_alloc2 _ (.cells #[.int .i64 th, .int .i64 op, .int .i64 arg] 35) (.cells #[.slice none 0 0, .int .i64 0, .slice none 0 0, .slice none 0 0] 31)))
  have HW := Lib.hid (by have h := (BoxC.new 35 (w.alloc (.cells #[.slice A zs.length ca, .int .i64 cnt, .slice B bs.length cb, .slice O os.length co] 31)) #[.int .i64 th, .int .i64 op, .int .i64 arg]).below (below_alloc _ (.cells #[.slice none 0 0, .int .i64 0, .slice none 0 0, .slice none 0 0] 31)); rw [size_alloc] at h; exact h)
  have HR := Lib.hid (by have h := BoxC.new 31 ((w.alloc (.cells #[.slice A zs.length ca, .int .i64 cnt, .slice B bs.length cb, .slice O os.length co] 31)).alloc (.cells #[.int .i64 th, .int .i64 op, .int .i64 arg] 35)) #[.slice none 0 0, .int .i64 0, .slice none 0 0, .slice none 0 0]; rw [size_alloc, size_alloc] at h; exact h)
  go_enter Try.func12, Try.ntmps12
  have hx := HX.out.cell
  go_wp2_with fail
  refine (specModelOK_any _ _ _ _ _ _ zs bs os cnt _ hz ht hc (HA.out.below HB0.out) (HT.out.below HB0.out) (HC.out.below HB0.out)).mono ?_
  rintro e w1 ⟨rfl, hb⟩
  rw [qm]
  have HB1 := Lib.hid (below_trans HB0.out hb)
  have HX1 := Lib.hid (HX.out.below hb); have HW1 := Lib.hid (HW.out.below hb); have HR1 := Lib.hid (HR.out.below hb)
  clear hb HB0 HX HW HR hx
  have hx := HW1.out.cell
  go_wp2_with fail
  refine (specWaiter_any th op arg _).mono ?_
  rintro e w2 ⟨rfl, hb⟩
  rw [qw]
  have HB2 := Lib.hid (below_trans HB1.out hb)
  have HX2 := Lib.hid (HX1.out.below hb); have HW2 := Lib.hid (HW1.out.below hb); have HR2 := Lib.hid (HR1.out.below hb)
  clear hb HB1 HX1 HW1 HR1 hx
  have hx := HX2.out.cell; have hw := HW2.out.cell
  go_wp2_with fail
  refine (l10Waits_any _ _ _ _ _ _ zs bs os cnt th _ ht (md_parts qm).2.2.2.1 (HT.out.below HB2.out) (HC.out.below HB2.out)).mono ?_
  rintro e w3 ⟨rfl, hb⟩
  rw [hw0]
  have HB3 := Lib.hid (below_trans HB2.out hb)
  have HX3 := Lib.hid (HX2.out.below hb); have HW3 := Lib.hid (HW2.out.below hb); have HR3 := Lib.hid (HR2.out.below hb)
  clear hb HB2 HX2 HW2 HR2 hx hw
  have hx := HX3.out.cell; have hw := HW3.out.cell
  go_wp2_with fail
  refine (l10Call_any _ _ _ _ _ _ zs bs os cnt th op arg _ hz ht hc (HA.out.below HB3.out) (HT.out.below HB3.out) (HC.out.below HB3.out) qm qw hw0 (fun h => absurd h h4) (fun h => absurd h h6)).mono ?_
  generalize hrr : doR zs cnt bs os th op arg = r
  rintro e w4 ⟨B1, d1, B2, d2, B3, d3, rfl, hsA, hsB, hsO, hb⟩
  have HB4 := Lib.hid (below_trans HB3.out hb)
  have HR4 := Lib.hid (HR3.out.below hb)
  have hz3 := HR3.out.lt
  have HA4 := Lib.hid (SegC.base hsA (b1 := w.heap.size + 1 + 1 + 1) (by omega)); have HT4 := Lib.hid (SegC.base hsB (b1 := w.heap.size + 1 + 1 + 1) (by omega)); have HC4 := Lib.hid (SegC.base hsO (b1 := w.heap.size + 1 + 1 + 1) (by omega))
  clear hb hsA hsB hsO HB3 HX3 HW3 HR3 hx hw
  go_wp2_with (refine wpList_store_row rfl 31 _ _ rfl (w.heap.size + 1 + 1) _ rfl rfl 31 _ HR4.out info_model rfl (one4m _ _ _ _ _ _ _ _ _ _) ?_)
  have hr := (HR4.out.mrow #[.slice B1 r.2.1.length d1, .int .i64 r.2.2.1, .slice B2 r.2.2.2.1.length d2, .slice B3 r.2.2.2.2.length d3]).cell
  have hb' := below_setRow HB4.out (Nat.le_trans (Nat.le_succ _) (Nat.le_succ _) : w.heap.size ≤ w.heap.size + 1 + 1) #[.slice B1 r.2.1.length d1, .int .i64 r.2.2.1, .slice B2 r.2.2.2.1.length d2, .slice B3 r.2.2.2.2.length d3]
  have hsA := SegC.base (b1 := w.heap.size) (SegC.row (n := r.2.1.length) (c := d1) HA4.out (k := w.heap.size + 1 + 1) (by omega) #[.slice B1 r.2.1.length d1, .int .i64 r.2.2.1, .slice B2 r.2.2.2.1.length d2, .slice B3 r.2.2.2.2.length d3]) (by omega)
  have hsB := SegC.base (b1 := w.heap.size) (SegC.row (n := r.2.2.2.1.length) (c := d2) HT4.out (k := w.heap.size + 1 + 1) (by omega) #[.slice B1 r.2.1.length d1, .int .i64 r.2.2.1, .slice B2 r.2.2.2.1.length d2, .slice B3 r.2.2.2.2.length d3]) (by omega)
  have hsO := SegC.base (b1 := w.heap.size) (SegC.row (n := r.2.2.2.2.length) (c := d3) HC4.out (k := w.heap.size + 1 + 1) (by omega) #[.slice B1 r.2.1.length d1, .int .i64 r.2.2.1, .slice B2 r.2.2.2.1.length d2, .slice B3 r.2.2.2.2.length d3]) (by omega)
  generalize w4.setRow (w.heap.size + 1 + 1) #[.slice B1 r.2.1.length d1, .int .i64 r.2.2.1, .slice B2 r.2.2.2.1.length d2, .slice B3 r.2.2.2.2.length d3] = w9 at hr hb' hsA hsB hsO ⊢
  refine bodyPost_ret (v := .tuple #[.agg #[.slice B1 r.2.1.length d1, .int .i64 r.2.2.1, .slice B2 r.2.2.2.1.length d2, .slice B3 r.2.2.2.2.length d3], .bool r.1.1, .int .i64 r.1.2.1, .int .i64 r.1.2.2.1, .int .i64 r.1.2.2.2]) (by simp [results, Try.results12, go_sem, hr]) rfl (by subst hrr; exact ⟨B1, d1, B2, d2, B3, d3, rfl, hsA, hsB, hsO, hb'⟩)

end Go.Proofs.Ythianfhfamkcmaa
