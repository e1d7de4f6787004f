/-
  Models (chapter 11): the model's l10Call, one way of it.
-/
import Derived.BigQuiet
import Derived.Test.YthianfhfamkcmaaJ20
namespace Go.Proofs.Ythianfhfamkcmaa
open Go.RowKit

set_option maxHeartbeats 4000000 in
set_option maxRecDepth 100000 in
theorem l10_meetO (A B O : Option Addr) (ca cb co : Nat) (zs : List Int) (xt xa : Int) (bs : List Wtr) (cnt th arg : Int) (w : World) (hz : zs.length ≤ 1048576) (ht : bs.length ≤ 1048576) (hc : (([⟨xt, 3, xa⟩] : List Wtr)).length ≤ 1048576) (hA : Rd w A zs) (hT : RdR Wtr.cs w B bs) (hC : RdR Wtr.cs w O ([⟨xt, 3, xa⟩] : List Wtr)) :
    Calls Try.prog 51 #[.agg #[.slice A zs.length ca, .int .i64 cnt, .slice B bs.length cb, .slice O (([⟨xt, 3, xa⟩] : List Wtr)).length co], .agg #[.int .i64 th, .int .i64 3, .int .i64 arg]] w (SpecPost w ((true, 0, xa, xt), (zs, cnt, bs, ([]:List Wtr)))) := by
  have HA := Lib.hid hA; have HT := Lib.hid hT; have HC := Lib.hid hC; clear hA hT hC
  have HB0 := Lib.hid (below_alloc3 w (.cells #[.slice A zs.length ca, .int .i64 cnt, .slice B bs.length cb, .slice O (([⟨xt, 3, xa⟩] : List Wtr)).length co] 31) (.cells #[.int .i64 th, .int .i64 3, .int .i64 arg] 35) (.cells #[.slice none 0 0, .int .i64 0, .slice none 0 0, .slice none 0 0] 31))
  have HX := Lib.hid ((BoxC.new 31 w #[.slice A zs.length ca, .int .i64 cnt, .slice B bs.length cb, .slice O (([⟨xt, 3, xa⟩] : List Wtr)).length co]).below (below_alloc2 _ (.cells #[.int .i64 th, .int .i64 3, .int .i64 arg] 35) (.cells #[.slice none 0 0, .int .i64 0, .slice none 0 0, .slice none 0 0] 31)))
  have HW := Lib.hid (by have h := (BoxC.new 35 (w.alloc (.cells #[.slice A zs.length ca, .int .i64 cnt, .slice B bs.length cb, .slice O (([⟨xt, 3, xa⟩] : List Wtr)).length co] 31)) #[.int .i64 th, .int .i64 3, .int .i64 arg]).below (below_alloc _ (.cells #[.slice none 0 0, .int .i64 0, .slice none 0 0, .slice none 0 0] 31)); rw [size_alloc] at h; exact h)
  have HR := Lib.hid (by have h := BoxC.new 31 ((w.alloc (.cells #[.slice A zs.length ca, .int .i64 cnt, .slice B bs.length cb, .slice O (([⟨xt, 3, xa⟩] : List Wtr)).length co] 31)).alloc (.cells #[.int .i64 th, .int .i64 3, .int .i64 arg] 35)) #[.slice none 0 0, .int .i64 0, .slice none 0 0, .slice none 0 0]; rw [size_alloc, size_alloc] at h; exact h)
  have hsz : (((w.alloc (.cells #[.slice A zs.length ca, .int .i64 cnt, .slice B bs.length cb, .slice O (([⟨xt, 3, xa⟩] : List Wtr)).length co] 31)).alloc (.cells #[.int .i64 th, .int .i64 3, .int .i64 arg] 35)).alloc (.cells #[.slice none 0 0, .int .i64 0, .slice none 0 0, .slice none 0 0] 31)).heap.size = w.heap.size + 1 + 1 + 1 := by simp
  go_enter Try.func51, Try.ntmps51
  have hx := HX.out.cell
  go_wp2_with fail
  refine (l10Own_any _ _ _ _ _ _ zs bs ([⟨xt, 3, xa⟩] : List Wtr) cnt _ hz ht hc (HA.out.below HB0.out) (HT.out.below HB0.out) (HC.out.below HB0.out)).mono ?_
  rintro e w1 ⟨B1, d1, B2, d2, B3, d3, rfl, hO, hb⟩
  rw [hsz] at hO
  have HB1 := Lib.hid (below_trans HB0.out hb)
  have HX1 := Lib.hid (HX.out.below hb); have HW1 := Lib.hid (HW.out.below hb); have HR1 := Lib.hid (HR.out.below hb)
  have HO1 := Lib.hid hO
  clear hb hO HB0 HX HW HR hx hsz
  go_upto_region 2 with (refine wpList_store_row rfl 31 _ _ rfl w.heap.size _ rfl rfl 31 _ HX1.out info_model rfl (one4m _ _ _ _ _ _ _ _ _ _) ?_)
  have HX2 := Lib.hid (HX1.out.mrow #[.slice B1 zs.length d1, .int .i64 cnt, .slice B2 bs.length d2, .slice B3 (([⟨xt, 3, xa⟩] : List Wtr)).length d3])
  have HW2 := Lib.hid (HW1.out.mrowO (b := w.heap.size) (by omega) #[.slice B1 zs.length d1, .int .i64 cnt, .slice B2 bs.length d2, .slice B3 (([⟨xt, 3, xa⟩] : List Wtr)).length d3])
  have HR2 := Lib.hid (HR1.out.mrowO (b := w.heap.size) (by omega) #[.slice B1 zs.length d1, .int .i64 cnt, .slice B2 bs.length d2, .slice B3 (([⟨xt, 3, xa⟩] : List Wtr)).length d3])
  have HB2 := Lib.hid (below_setRow HB1.out (Nat.le_refl _) #[.slice B1 zs.length d1, .int .i64 cnt, .slice B2 bs.length d2, .slice B3 (([⟨xt, 3, xa⟩] : List Wtr)).length d3])
  have HO2 := Lib.hid (HO1.out.row (k := w.heap.size) (by omega) #[.slice B1 zs.length d1, .int .i64 cnt, .slice B2 bs.length d2, .slice B3 (([⟨xt, 3, xa⟩] : List Wtr)).length d3])
  generalize w1.setRow w.heap.size #[.slice B1 zs.length d1, .int .i64 cnt, .slice B2 bs.length d2, .slice B3 (([⟨xt, 3, xa⟩] : List Wtr)).length d3] = w2 at HX2 HW2 HR2 HB2 HO2 ⊢
  have hz2 : w.heap.size + 1 + 1 < w2.heap.size := HR2.out.lt
  have hy2 : w.heap.size < w2.heap.size := by omega
  have hy2' : w.heap.size + 1 < w2.heap.size := by omega
  clear HX1 HW1 HR1 HB1 HO1
  obtain ⟨j0, hj, hy0, hy1, hy2⟩ := infoW
  have Hj := Lib.hid hj; have Hy0 := Lib.hid hy0; have Hy1 := Lib.hid hy1; have Hy2 := Lib.hid hy2
  clear hj hy0 hy1 hy2
  have hx := HX2.out.cell; have hf := HX2.out.mfroz
  obtain ⟨g, ko, rfl, hrow⟩ := row_of (SegC.ofW HO2.out.of)
  have d0 := hrow 0 _ rfl; have d1' := hrow 1 _ rfl; have d2' := hrow 2 _ rfl
  rw [Nat.add_zero] at d0
  have hnb : ¬ (((([⟨xt, 3, xa⟩] : List Wtr)).length : Int) = 0) := by simp <;> omega
  have hw := HW2.out.cell
  have HRW := Lib.hid hrow
  go_upto_region 16 with (first | (refine wpList_load_mid rfl 35 _ rfl g ko ?_ _ _ hrow Try.underlying35 rfl info_iWaiter ?_; rfl) | (refine wpList_store_row rfl 35 _ _ rfl w2.heap.size _ rfl rfl 35 _ (BoxC.new 35 w2 _) info_iWaiter rfl (one3w _ _ _) ?_))
  have hbl := below_setRow (below_alloc w2 (.cells #[.int .i64 0, .int .i64 0, .int .i64 0] 35)) (Nat.le_refl _) #[.int .i64 xt, .int .i64 3, .int .i64 xa]
  have HX3 := Lib.hid (HX2.out.below hbl); have HW3 := Lib.hid (HW2.out.below hbl); have HR3 := Lib.hid (HR2.out.below hbl)
  have HB3 := Lib.hid (below_trans HB2.out hbl); have HO3 := Lib.hid (HO2.out.below hbl)
  have HK3 := Lib.hid ((BoxC.new 35 w2 #[.int .i64 0, .int .i64 0, .int .i64 0]).mrow #[.int .i64 xt, .int .i64 3, .int .i64 xa])
  generalize (w2.alloc (.cells #[.int .i64 0, .int .i64 0, .int .i64 0] 35)).setRow w2.heap.size #[.int .i64 xt, .int .i64 3, .int .i64 xa] = w3 at hbl HX3 HW3 HR3 HB3 HO3 HK3 ⊢
  have hk3 : w2.heap.size < w3.heap.size := HK3.out.lt
  generalize w2.heap.size = kx at HK3 hz2 hk3 ⊢
  clear hbl hx hf hw hrow HRW d0 d1' d2' HX2 HW2 HR2 HB2 HO2
  have hx := HX3.out.cell; have hf := HX3.out.mfroz
  have hy3 : w.heap.size < w3.heap.size := HX3.out.lt
  go_upto_region 17 with fail
  have hz3 : w.heap.size + 1 + 1 < w3.heap.size := HR3.out.lt
  generalize hF : (some (⟨w3.heap.size, 0, none⟩ : Addr)) = F
  have hbe := below_alloc (w3.setCell ⟨w.heap.size, 3, none⟩ (.slice F 0 0)) (.cells #[] 35)
  have HX5 : Hid (BoxC 31 ((w3.setCell ⟨w.heap.size, 3, none⟩ (.slice F 0 0)).alloc (.cells #[] 35)) w.heap.size #[.slice B1 zs.length d1, .int .i64 cnt, .slice B2 bs.length d2, .slice F 0 0]) := Lib.hid (BoxC.below (HX3.out.mset 3 _) hbe)
  have HR5 := Lib.hid (BoxC.below (HR3.out.msetO ⟨w.heap.size, 3, none⟩ (.slice F 0 0) (by simp <;> omega)) hbe)
  have HW5 := Lib.hid (BoxC.below (HW3.out.msetO ⟨w.heap.size, 3, none⟩ (.slice F 0 0) (by simp <;> omega)) hbe)
  have HK5 := Lib.hid (BoxC.below (HK3.out.msetO ⟨w.heap.size, 3, none⟩ (.slice F 0 0) (by simp <;> omega)) hbe)
  have HB5 := Lib.hid (below_trans (HB3.out.setCell (p := ⟨w.heap.size, 3, none⟩) (Nat.le_refl _) (.slice F 0 0)) hbe)
  have HA5 := Lib.hid (SegC.below ((SegC.ofI HO3.out.st).low (k := w.heap.size) (o := 3) (by omega) (.slice F 0 0)) hbe)
  have HT5 := Lib.hid (SegC.below ((SegC.ofW HO3.out.wt).low (k := w.heap.size) (o := 3) (by omega) (.slice F 0 0)) hbe)
  generalize (w3.setCell ⟨w.heap.size, 3, none⟩ (.slice F 0 0)).alloc (.cells #[] 35) = w5 at HX5 HR5 HW5 HK5 HB5 HA5 HT5 ⊢
  have HC5 : Hid (SegC (w.heap.size + 1 + 1 + 1) w5 F (flatV Wtr.cs [])) := Lib.hid (.inl rfl)
  clear hx hf hbe hF HX3 HW3 HR3 HB3 HO3 HK3
  have h0 := HX5.out.cell; have h1 := HW5.out.cell; have h2 := HK5.out.cell; have hr := HR5.out.cell; have hf := HR5.out.mfroz
  have hk0 : ¬ w.heap.size + 1 + 1 = w.heap.size := by omega
  have hk1 : ¬ w.heap.size + 1 + 1 = (w.heap.size + 1) := by omega
  have hk2 : ¬ w.heap.size + 1 + 1 = kx := by omega
  go_wp2_with fail
  go_region_held3 (fun w' => (∀ j : Nat, w'.cell? ⟨w.heap.size, j, none⟩ = (#[.slice B1 zs.length d1, .int .i64 cnt, .slice B2 bs.length d2, .slice F 0 0] : Array Value)[j]?) ∧ (∀ j : Nat, w'.cell? ⟨(w.heap.size + 1), j, none⟩ = (#[.int .i64 th, .int .i64 3, .int .i64 arg] : Array Value)[j]?) ∧ (∀ j : Nat, w'.cell? ⟨kx, j, none⟩ = (#[.int .i64 xt, .int .i64 3, .int .i64 xa] : Array Value)[j]?))
    (first | exact ⟨h0, h1, h2⟩ | (refine ⟨?_, ?_, ?_⟩ <;> (repeat (first | (with_reducible refine cellsK (by assumption) ?_) | (with_reducible refine cellsD ?_))) <;> assumption))
    (first | fail)
  all_goals
    have hb' : Below w.heap.size w ((((w5.setCell ⟨w.heap.size + 1 + 1, 0, none⟩ (.slice B1 zs.length d1)).setCell ⟨w.heap.size + 1 + 1, 1, none⟩ (.int .i64 cnt)).setCell ⟨w.heap.size + 1 + 1, 2, none⟩ (.slice B2 bs.length d2)).setCell ⟨w.heap.size + 1 + 1, 3, none⟩ (.slice F 0 0)).drew := by
      refine Below.drew ?_
      repeat (refine Below.setCell ?_ (by simp <;> omega) _)
      exact HB5.out
    have hr' : BoxC 31 ((((w5.setCell ⟨w.heap.size + 1 + 1, 0, none⟩ (.slice B1 zs.length d1)).setCell ⟨w.heap.size + 1 + 1, 1, none⟩ (.int .i64 cnt)).setCell ⟨w.heap.size + 1 + 1, 2, none⟩ (.slice B2 bs.length d2)).setCell ⟨w.heap.size + 1 + 1, 3, none⟩ (.slice F 0 0)).drew (w.heap.size + 1 + 1) #[.slice B1 zs.length d1, .int .i64 cnt, .slice B2 bs.length d2, .slice F 0 0] := BoxC.drewG ((((HR5.out.mset 0 _).mset 1 _).mset 2 _).mset 3 _)
    have hsA := SegC.drewG (SegC.base (b1 := w.heap.size) ((((HA5.out.low (k := w.heap.size + 1 + 1) (o := 0) (by omega) (.slice B1 zs.length d1)).low (k := w.heap.size + 1 + 1) (o := 1) (by omega) (.int .i64 cnt)).low (k := w.heap.size + 1 + 1) (o := 2) (by omega) (.slice B2 bs.length d2)).low (k := w.heap.size + 1 + 1) (o := 3) (by omega) (.slice F 0 0)) (by omega))
    have hsB := SegC.drewG (SegC.base (b1 := w.heap.size) ((((HT5.out.low (k := w.heap.size + 1 + 1) (o := 0) (by omega) (.slice B1 zs.length d1)).low (k := w.heap.size + 1 + 1) (o := 1) (by omega) (.int .i64 cnt)).low (k := w.heap.size + 1 + 1) (o := 2) (by omega) (.slice B2 bs.length d2)).low (k := w.heap.size + 1 + 1) (o := 3) (by omega) (.slice F 0 0)) (by omega))
    have hsO := SegC.drewG (SegC.base (b1 := w.heap.size) ((((HC5.out.low (k := w.heap.size + 1 + 1) (o := 0) (by omega) (.slice B1 zs.length d1)).low (k := w.heap.size + 1 + 1) (o := 1) (by omega) (.int .i64 cnt)).low (k := w.heap.size + 1 + 1) (o := 2) (by omega) (.slice B2 bs.length d2)).low (k := w.heap.size + 1 + 1) (o := 3) (by omega) (.slice F 0 0)) (by omega))
    generalize ((((w5.setCell ⟨w.heap.size + 1 + 1, 0, none⟩ (.slice B1 zs.length d1)).setCell ⟨w.heap.size + 1 + 1, 1, none⟩ (.int .i64 cnt)).setCell ⟨w.heap.size + 1 + 1, 2, none⟩ (.slice B2 bs.length d2)).setCell ⟨w.heap.size + 1 + 1, 3, none⟩ (.slice F 0 0)).drew = w9 at hb' hr' hsA hsB hsO ⊢
    have hr9 := hr'.cell
    clear hr' hr hf h0 h1 h2
    go_wp2_with fail
    refine bodyPost_ret (v := .tuple #[.agg #[.slice B1 zs.length d1, .int .i64 cnt, .slice B2 bs.length d2, .slice F 0 0], .bool true, .int .i64 0, .int .i64 xa, .int .i64 xt]) (by simp [results, Try.results51, go_sem, hr9]) rfl ⟨B1, d1, B2, d2, F, 0, rfl, hsA, hsB, hsO, hb'⟩

end Go.Proofs.Ythianfhfamkcmaa
