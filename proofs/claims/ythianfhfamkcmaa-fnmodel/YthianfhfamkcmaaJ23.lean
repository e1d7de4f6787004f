/-
  Models (chapter 11): the model's l10Call, one way of it.
-/
import Derived.BigQuiet
import Derived.Test.YthianfhfamkcmaaJ20
namespace Go.Proofs.Ythianfhfamkcmaa
open Go.RowKit

set_option maxHeartbeats 4000000 in
set_option maxRecDepth 100000 in
theorem l10_meet3 (A B O : Option Addr) (ca cb co : Nat) (zs : List Int) (xt xa : Int) (r os : List Wtr) (cnt th arg : Int) (w : World) (hz : zs.length ≤ 1048576) (ht : ((⟨xt, 1, xa⟩ :: r : List Wtr)).length ≤ 1048576) (hc : os.length ≤ 1048576) (hA : Rd w A zs) (hT : RdR Wtr.cs w B (⟨xt, 1, xa⟩ :: r : List Wtr)) (hC : RdR Wtr.cs w O os) (hm : ¬ arg < xa) :
    Calls Try.prog 51 #[.agg #[.slice A zs.length ca, .int .i64 cnt, .slice B ((⟨xt, 1, xa⟩ :: r : List Wtr)).length cb, .slice O os.length co], .agg #[.int .i64 th, .int .i64 2, .int .i64 arg]] w (SpecPost w ((true, 0, arg, xt), (zs, cnt, r, os))) := by
  have HA := Lib.hid hA; have HT := Lib.hid hT; have HC := Lib.hid hC; clear hA hT hC
  have HB0 := Lib.hid (below_alloc3 w (.cells #[.slice A zs.length ca, .int .i64 cnt, .slice B ((⟨xt, 1, xa⟩ :: r : List Wtr)).length cb, .slice O os.length co] 31) (.cells #[.int .i64 th, .int .i64 2, .int .i64 arg] 35) (.cells #[.slice none 0 0, .int .i64 0, .slice none 0 0, .slice none 0 0] 31))
  have HX := Lib.hid ((BoxC.new 31 w #[.slice A zs.length ca, .int .i64 cnt, .slice B ((⟨xt, 1, xa⟩ :: r : List Wtr)).length cb, .slice O os.length co]).below (below_alloc2 _ (.cells #[.int .i64 th, .int .i64 2, .int .i64 arg] 35) (.cells #[.slice none 0 0, .int .i64 0, .slice none 0 0, .slice none 0 0] 31)))
  have HW := Lib.hid (by have h := (BoxC.new 35 (w.alloc (.cells #[.slice A zs.length ca, .int .i64 cnt, .slice B ((⟨xt, 1, xa⟩ :: r : List Wtr)).length cb, .slice O os.length co] 31)) #[.int .i64 th, .int .i64 2, .int .i64 arg]).below (below_alloc _ (.cells #[.slice none 0 0, .int .i64 0, .slice none 0 0, .slice none 0 0] 31)); rw [size_alloc] at h; exact h)
  have HR := Lib.hid (by have h := BoxC.new 31 ((w.alloc (.cells #[.slice A zs.length ca, .int .i64 cnt, .slice B ((⟨xt, 1, xa⟩ :: r : List Wtr)).length cb, .slice O os.length co] 31)).alloc (.cells #[.int .i64 th, .int .i64 2, .int .i64 arg] 35)) #[.slice none 0 0, .int .i64 0, .slice none 0 0, .slice none 0 0]; rw [size_alloc, size_alloc] at h; exact h)
  have hsz : (((w.alloc (.cells #[.slice A zs.length ca, .int .i64 cnt, .slice B ((⟨xt, 1, xa⟩ :: r : List Wtr)).length cb, .slice O os.length co] 31)).alloc (.cells #[.int .i64 th, .int .i64 2, .int .i64 arg] 35)).alloc (.cells #[.slice none 0 0, .int .i64 0, .slice none 0 0, .slice none 0 0] 31)).heap.size = w.heap.size + 1 + 1 + 1 := by simp
  go_enter Try.func51, Try.ntmps51
  have hx := HX.out.cell
  go_wp2_with fail
  refine (l10Own_any _ _ _ _ _ _ zs (⟨xt, 1, xa⟩ :: r : List Wtr) os cnt _ hz ht hc (HA.out.below HB0.out) (HT.out.below HB0.out) (HC.out.below HB0.out)).mono ?_
  rintro e w1 ⟨B1, d1, B2, d2, B3, d3, rfl, hO, hb⟩
  rw [hsz] at hO
  have HB1 := Lib.hid (below_trans HB0.out hb)
  have HX1 := Lib.hid (HX.out.below hb); have HW1 := Lib.hid (HW.out.below hb); have HR1 := Lib.hid (HR.out.below hb)
  have HO1 := Lib.hid hO
  clear hb hO HB0 HX HW HR hx hsz
  go_upto_region 2 with (refine wpList_store_row rfl 31 _ _ rfl w.heap.size _ rfl rfl 31 _ HX1.out info_model rfl (one4m _ _ _ _ _ _ _ _ _ _) ?_)
  have HX2 := Lib.hid (HX1.out.mrow #[.slice B1 zs.length d1, .int .i64 cnt, .slice B2 ((⟨xt, 1, xa⟩ :: r : List Wtr)).length d2, .slice B3 os.length d3])
  have HW2 := Lib.hid (HW1.out.mrowO (b := w.heap.size) (by omega) #[.slice B1 zs.length d1, .int .i64 cnt, .slice B2 ((⟨xt, 1, xa⟩ :: r : List Wtr)).length d2, .slice B3 os.length d3])
  have HR2 := Lib.hid (HR1.out.mrowO (b := w.heap.size) (by omega) #[.slice B1 zs.length d1, .int .i64 cnt, .slice B2 ((⟨xt, 1, xa⟩ :: r : List Wtr)).length d2, .slice B3 os.length d3])
  have HB2 := Lib.hid (below_setRow HB1.out (Nat.le_refl _) #[.slice B1 zs.length d1, .int .i64 cnt, .slice B2 ((⟨xt, 1, xa⟩ :: r : List Wtr)).length d2, .slice B3 os.length d3])
  have HO2 := Lib.hid (HO1.out.row (k := w.heap.size) (by omega) #[.slice B1 zs.length d1, .int .i64 cnt, .slice B2 ((⟨xt, 1, xa⟩ :: r : List Wtr)).length d2, .slice B3 os.length d3])
  generalize w1.setRow w.heap.size #[.slice B1 zs.length d1, .int .i64 cnt, .slice B2 ((⟨xt, 1, xa⟩ :: r : List Wtr)).length d2, .slice B3 os.length d3] = w2 at HX2 HW2 HR2 HB2 HO2 ⊢
  have hz2 : w.heap.size + 1 + 1 < w2.heap.size := HR2.out.lt
  have hy2 : w.heap.size < w2.heap.size := by omega
  have hy2' : w.heap.size + 1 < w2.heap.size := by omega
  clear HX1 HW1 HR1 HB1 HO1
  obtain ⟨j0, hj, hy0, hy1, hy2⟩ := infoW
  have Hj := Lib.hid hj; have Hy0 := Lib.hid hy0; have Hy1 := Lib.hid hy1; have Hy2 := Lib.hid hy2
  clear hj hy0 hy1 hy2
  have hx := HX2.out.cell; have hf := HX2.out.mfroz
  obtain ⟨g, ko, rfl, hrow⟩ := row_of (SegC.ofW HO2.out.wt)
  have d0 := hrow 0 _ rfl; have d1' := hrow 1 _ rfl; have d2' := hrow 2 _ rfl
  rw [Nat.add_zero] at d0
  have hnb : ¬ ((((⟨xt, 1, xa⟩ :: r : List Wtr)).length : Int) = 0) := by simp <;> omega
  have hw := HW2.out.cell
  go_wp2_with fail
  go_quiet (fail)
  have hbq : Below w2.heap.size w2 (w2.drewN nq) := below_drewN _
  have HX2b := Lib.hid (HX2.out.below hbq); have HW2b := Lib.hid (HW2.out.below hbq); have HR2b := Lib.hid (HR2.out.below hbq)
  have HB2b := Lib.hid (below_trans HB2.out hbq); have HO2b := Lib.hid (HO2.out.below hbq)
  clear hx hf hw hbq
  try clear d0 d1' d2' hrow
  clear HX2 HW2 HR2 HB2 HO2 hz2 hy2 hy2'
  generalize w2.drewN nq = w2b at HX2b HW2b HR2b HB2b HO2b ⊢
  have hz2 : w.heap.size + 1 + 1 < w2b.heap.size := HR2b.out.lt
  have hy2 : w.heap.size < w2b.heap.size := by omega
  have hy2' : w.heap.size + 1 < w2b.heap.size := by omega
  have hx := HX2b.out.cell; have hf := HX2b.out.mfroz; have hw := HW2b.out.cell
  obtain ⟨g', ko', hgk, hrow⟩ := row_of (SegC.ofW HO2b.out.wt)
  obtain ⟨rfl, rfl⟩ : g = g' ∧ ko = ko' := by simpa using hgk
  clear hgk
  have d0 := hrow 0 _ rfl; have d1' := hrow 1 _ rfl; have d2' := hrow 2 _ rfl
  rw [Nat.add_zero] at d0
  have HRW := Lib.hid hrow
  go_upto_region 9 with (first | (refine wpList_load_mid rfl 35 _ rfl g ko ?_ _ _ hrow Try.underlying35 rfl info_iWaiter ?_; rfl) | (refine wpList_store_row rfl 35 _ _ rfl w2b.heap.size _ rfl rfl 35 _ (BoxC.new 35 w2b _) info_iWaiter rfl (one3w _ _ _) ?_))
  have hbl := below_setRow (below_alloc w2b (.cells #[.int .i64 0, .int .i64 0, .int .i64 0] 35)) (Nat.le_refl _) #[.int .i64 xt, .int .i64 1, .int .i64 xa]
  have HX3 := Lib.hid (HX2b.out.below hbl); have HW3 := Lib.hid (HW2b.out.below hbl); have HR3 := Lib.hid (HR2b.out.below hbl)
  have HB3 := Lib.hid (below_trans HB2b.out hbl); have HO3 := Lib.hid (HO2b.out.below hbl)
  have HK3 := Lib.hid ((BoxC.new 35 w2b #[.int .i64 0, .int .i64 0, .int .i64 0]).mrow #[.int .i64 xt, .int .i64 1, .int .i64 xa])
  generalize (w2b.alloc (.cells #[.int .i64 0, .int .i64 0, .int .i64 0] 35)).setRow w2b.heap.size #[.int .i64 xt, .int .i64 1, .int .i64 xa] = w3 at hbl HX3 HW3 HR3 HB3 HO3 HK3 ⊢
  have hk3 : w2b.heap.size < w3.heap.size := HK3.out.lt
  generalize w2b.heap.size = kx at HK3 hz2 hk3 ⊢
  clear hbl hx hf hw hrow HRW d0 d1' d2' HX2b HW2b HR2b HB2b HO2b
  have HTL : Hid (SegC (w.heap.size + 1 + 1 + 1) w3 (tailW g ko d2) (flatV Wtr.cs r)) := Lib.hid (seg_tailW (SegC.ofW HO3.out.wt) (OwnR.capW HO3.out.wt))
  have hcap := OwnR.capW HO3.out.wt
  have hn1 : 1 ≤ ((⟨xt, 1, xa⟩ :: r : List Wtr)).length := by simp <;> omega
  obtain ⟨TA, hTA⟩ : ∃ TA, tailW g ko d2 = TA := ⟨_, rfl⟩
  have HTA := Lib.hid hTA
  rw [hTA] at HTL
  clear hTA
  have hx := HX3.out.cell; have hf := HX3.out.mfroz
  have hz3' := HR3.out.lt
  have hy3 : w.heap.size < w3.heap.size := HX3.out.lt
  by_cases hq1 : d2 = 1
  · skip
    have ht9 : TA = some ⟨g, ko, none⟩ := HTA.out.symm.trans (if_pos hq1)
    subst ht9
    have hcq : (d2 = 1) = True := eq_true hq1
    clear hq1
    go_wp2_with (at_builtin; refine wpList_append_rows Wtr.len (by decide) Wtr.one _ rfl (.tmp 44) (.tmp 47) 29 rfl w3.heap.size 35 j0 (.agg #[.int .i64 0, .int .i64 0, .int .i64 0]) 24 Try.underlying29 Hj.out Hy0.out Hy1.out Hy2.out rfl _ [] rfl (own_emptyW _ _ _ rfl (Nat.le_refl _)) _ (d2 - 1) r rfl (HTL.out.rdW.below (below_alloc _ _)) ?_ ?_ (by simp) ?_)
    · show ([].length + r.length) * _ ≤ _; simp only [List.length_nil]; simp only [List.length_cons] at ht; omega
    · show [].length + r.length ≤ maxLen; unfold maxLen; simp only [List.length_nil]; simp only [List.length_cons] at ht; omega
    intro F f w4 hown hgr
    have hbe : Below w3.heap.size w3 w4 := (below_alloc _ (.cells #[] 35)).grown hgr (by simp) (by intro q hq; cases hq; simp)
    have HX4 := Lib.hid (HX3.out.below hbe); have HW4 := Lib.hid (HW3.out.below hbe); have HR4 := Lib.hid (HR3.out.below hbe); have HK4 := Lib.hid (HK3.out.below hbe)
    have HB4 := Lib.hid (below_trans HB3.out hbe)
    have HO4 := Lib.hid (HO3.out.below hbe)
    have HN4 : Hid (SegC w3.heap.size w4 F (flatV Wtr.cs r)) := Lib.hid (SegC.ofW hown)
    have hz3 : w.heap.size + 1 + 1 < w3.heap.size := HR3.out.lt
    clear hown hgr hbe hx HX3 HW3 HR3 HB3 HO3 HK3
    have hf := HX4.out.mfroz; have hx := HX4.out.cell
    go_upto_region 10 with fail
    have HX5 : Hid (BoxC 31 (w4.setCell ⟨w.heap.size, 2, none⟩ (.slice F r.length f)) w.heap.size #[.slice B1 zs.length d1, .int .i64 cnt, .slice F r.length f, .slice B3 os.length d3]) := Lib.hid (HX4.out.mset 2 _)
    have HR5 := Lib.hid (HR4.out.msetO ⟨w.heap.size, 2, none⟩ (.slice F r.length f) (by simp <;> omega))
    have HW5 := Lib.hid (HW4.out.msetO ⟨w.heap.size, 2, none⟩ (.slice F r.length f) (by simp <;> omega))
    have HK5 := Lib.hid (HK4.out.msetO ⟨w.heap.size, 2, none⟩ (.slice F r.length f) (by simp <;> omega))
    have HB5 := Lib.hid (HB4.out.setCell (p := ⟨w.heap.size, 2, none⟩) (Nat.le_refl _) (.slice F r.length f))
    have HA5 := Lib.hid ((SegC.ofI HO4.out.st).low (k := w.heap.size) (o := 2) (by omega) (.slice F r.length f))
    have HC5 := Lib.hid ((SegC.ofW HO4.out.of).low (k := w.heap.size) (o := 2) (by omega) (.slice F r.length f))
    have HT5 := Lib.hid (HN4.out.low (k := w.heap.size) (o := 2) (by omega) (.slice F r.length f))
    generalize w4.setCell ⟨w.heap.size, 2, none⟩ (.slice F r.length f) = w5 at HX5 HR5 HW5 HK5 HB5 HA5 HT5 HC5 ⊢
    clear hf hx HX4 HW4 HR4 HB4 HO4 HK4 HN4
    have h0 := HX5.out.cell; have h1 := HW5.out.cell; have h2 := HK5.out.cell; have hr := HR5.out.cell; have hf := HR5.out.mfroz
    have hk0 : ¬ w.heap.size + 1 + 1 = w.heap.size := by omega
    have hk1 : ¬ w.heap.size + 1 + 1 = (w.heap.size + 1) := by omega
    have hk2 : ¬ w.heap.size + 1 + 1 = kx := by omega
    go_wp2_with fail
    go_region_held3 (fun w' => (∀ j : Nat, w'.cell? ⟨w.heap.size, j, none⟩ = (#[.slice B1 zs.length d1, .int .i64 cnt, .slice F r.length f, .slice B3 os.length d3] : Array Value)[j]?) ∧ (∀ j : Nat, w'.cell? ⟨(w.heap.size + 1), j, none⟩ = (#[.int .i64 th, .int .i64 2, .int .i64 arg] : Array Value)[j]?) ∧ (∀ j : Nat, w'.cell? ⟨kx, j, none⟩ = (#[.int .i64 xt, .int .i64 1, .int .i64 xa] : Array Value)[j]?))
      (first | exact ⟨h0, h1, h2⟩ | (refine ⟨?_, ?_, ?_⟩ <;> (repeat (first | (with_reducible refine cellsK (by assumption) ?_) | (with_reducible refine cellsD ?_))) <;> assumption))
      (first | fail)
    all_goals
      have hb' : Below w.heap.size w ((((w5.setCell ⟨w.heap.size + 1 + 1, 0, none⟩ (.slice B1 zs.length d1)).setCell ⟨w.heap.size + 1 + 1, 1, none⟩ (.int .i64 cnt)).setCell ⟨w.heap.size + 1 + 1, 2, none⟩ (.slice F r.length f)).setCell ⟨w.heap.size + 1 + 1, 3, none⟩ (.slice B3 os.length d3)).drew := by
        refine Below.drew ?_
        repeat (refine Below.setCell ?_ (by simp <;> omega) _)
        exact HB5.out
      have hr' : BoxC 31 ((((w5.setCell ⟨w.heap.size + 1 + 1, 0, none⟩ (.slice B1 zs.length d1)).setCell ⟨w.heap.size + 1 + 1, 1, none⟩ (.int .i64 cnt)).setCell ⟨w.heap.size + 1 + 1, 2, none⟩ (.slice F r.length f)).setCell ⟨w.heap.size + 1 + 1, 3, none⟩ (.slice B3 os.length d3)).drew (w.heap.size + 1 + 1) #[.slice B1 zs.length d1, .int .i64 cnt, .slice F r.length f, .slice B3 os.length d3] := BoxC.drewG ((((HR5.out.mset 0 _).mset 1 _).mset 2 _).mset 3 _)
      have hsA := SegC.drewG (SegC.base (b1 := w.heap.size) ((((HA5.out.low (k := w.heap.size + 1 + 1) (o := 0) (by omega) (.slice B1 zs.length d1)).low (k := w.heap.size + 1 + 1) (o := 1) (by omega) (.int .i64 cnt)).low (k := w.heap.size + 1 + 1) (o := 2) (by omega) (.slice F r.length f)).low (k := w.heap.size + 1 + 1) (o := 3) (by omega) (.slice B3 os.length d3)) (by omega))
      have hsB := SegC.drewG (SegC.base (b1 := w.heap.size) ((((HT5.out.low (k := w.heap.size + 1 + 1) (o := 0) (by omega) (.slice B1 zs.length d1)).low (k := w.heap.size + 1 + 1) (o := 1) (by omega) (.int .i64 cnt)).low (k := w.heap.size + 1 + 1) (o := 2) (by omega) (.slice F r.length f)).low (k := w.heap.size + 1 + 1) (o := 3) (by omega) (.slice B3 os.length d3)) (by omega))
      have hsO := SegC.drewG (SegC.base (b1 := w.heap.size) ((((HC5.out.low (k := w.heap.size + 1 + 1) (o := 0) (by omega) (.slice B1 zs.length d1)).low (k := w.heap.size + 1 + 1) (o := 1) (by omega) (.int .i64 cnt)).low (k := w.heap.size + 1 + 1) (o := 2) (by omega) (.slice F r.length f)).low (k := w.heap.size + 1 + 1) (o := 3) (by omega) (.slice B3 os.length d3)) (by omega))
      generalize ((((w5.setCell ⟨w.heap.size + 1 + 1, 0, none⟩ (.slice B1 zs.length d1)).setCell ⟨w.heap.size + 1 + 1, 1, none⟩ (.int .i64 cnt)).setCell ⟨w.heap.size + 1 + 1, 2, none⟩ (.slice F r.length f)).setCell ⟨w.heap.size + 1 + 1, 3, none⟩ (.slice B3 os.length d3)).drew = w9 at hb' hr' hsA hsB hsO ⊢
      have hr9 := hr'.cell
      clear hr' hr hf h0 h1 h2
      go_wp2_with fail
      refine bodyPost_ret (v := .tuple #[.agg #[.slice B1 zs.length d1, .int .i64 cnt, .slice F r.length f, .slice B3 os.length d3], .bool true, .int .i64 0, .int .i64 arg, .int .i64 xt]) (by simp [results, Try.results51, go_sem, hr9]) rfl ⟨B1, d1, F, f, B3, d3, rfl, hsA, hsB, hsO, hb'⟩
  · skip
    have ht9 : TA = some ⟨g, ko + 3, none⟩ := HTA.out.symm.trans (if_neg hq1)
    subst ht9
    have hcq : (d2 = 1) = False := eq_false hq1
    clear hq1
    go_wp2_with (at_builtin; refine wpList_append_rows Wtr.len (by decide) Wtr.one _ rfl (.tmp 44) (.tmp 47) 29 rfl w3.heap.size 35 j0 (.agg #[.int .i64 0, .int .i64 0, .int .i64 0]) 24 Try.underlying29 Hj.out Hy0.out Hy1.out Hy2.out rfl _ [] rfl (own_emptyW _ _ _ rfl (Nat.le_refl _)) _ (d2 - 1) r rfl (HTL.out.rdW.below (below_alloc _ _)) ?_ ?_ (by simp) ?_)
    · show ([].length + r.length) * _ ≤ _; simp only [List.length_nil]; simp only [List.length_cons] at ht; omega
    · show [].length + r.length ≤ maxLen; unfold maxLen; simp only [List.length_nil]; simp only [List.length_cons] at ht; omega
    intro F f w4 hown hgr
    have hbe : Below w3.heap.size w3 w4 := (below_alloc _ (.cells #[] 35)).grown hgr (by simp) (by intro q hq; cases hq; simp)
    have HX4 := Lib.hid (HX3.out.below hbe); have HW4 := Lib.hid (HW3.out.below hbe); have HR4 := Lib.hid (HR3.out.below hbe); have HK4 := Lib.hid (HK3.out.below hbe)
    have HB4 := Lib.hid (below_trans HB3.out hbe)
    have HO4 := Lib.hid (HO3.out.below hbe)
    have HN4 : Hid (SegC w3.heap.size w4 F (flatV Wtr.cs r)) := Lib.hid (SegC.ofW hown)
    have hz3 : w.heap.size + 1 + 1 < w3.heap.size := HR3.out.lt
    clear hown hgr hbe hx HX3 HW3 HR3 HB3 HO3 HK3
    have hf := HX4.out.mfroz; have hx := HX4.out.cell
    go_upto_region 10 with fail
    have HX5 : Hid (BoxC 31 (w4.setCell ⟨w.heap.size, 2, none⟩ (.slice F r.length f)) w.heap.size #[.slice B1 zs.length d1, .int .i64 cnt, .slice F r.length f, .slice B3 os.length d3]) := Lib.hid (HX4.out.mset 2 _)
    have HR5 := Lib.hid (HR4.out.msetO ⟨w.heap.size, 2, none⟩ (.slice F r.length f) (by simp <;> omega))
    have HW5 := Lib.hid (HW4.out.msetO ⟨w.heap.size, 2, none⟩ (.slice F r.length f) (by simp <;> omega))
    have HK5 := Lib.hid (HK4.out.msetO ⟨w.heap.size, 2, none⟩ (.slice F r.length f) (by simp <;> omega))
    have HB5 := Lib.hid (HB4.out.setCell (p := ⟨w.heap.size, 2, none⟩) (Nat.le_refl _) (.slice F r.length f))
    have HA5 := Lib.hid ((SegC.ofI HO4.out.st).low (k := w.heap.size) (o := 2) (by omega) (.slice F r.length f))
    have HC5 := Lib.hid ((SegC.ofW HO4.out.of).low (k := w.heap.size) (o := 2) (by omega) (.slice F r.length f))
    have HT5 := Lib.hid (HN4.out.low (k := w.heap.size) (o := 2) (by omega) (.slice F r.length f))
    generalize w4.setCell ⟨w.heap.size, 2, none⟩ (.slice F r.length f) = w5 at HX5 HR5 HW5 HK5 HB5 HA5 HT5 HC5 ⊢
    clear hf hx HX4 HW4 HR4 HB4 HO4 HK4 HN4
    have h0 := HX5.out.cell; have h1 := HW5.out.cell; have h2 := HK5.out.cell; have hr := HR5.out.cell; have hf := HR5.out.mfroz
    have hk0 : ¬ w.heap.size + 1 + 1 = w.heap.size := by omega
    have hk1 : ¬ w.heap.size + 1 + 1 = (w.heap.size + 1) := by omega
    have hk2 : ¬ w.heap.size + 1 + 1 = kx := by omega
    go_wp2_with fail
    go_region_held3 (fun w' => (∀ j : Nat, w'.cell? ⟨w.heap.size, j, none⟩ = (#[.slice B1 zs.length d1, .int .i64 cnt, .slice F r.length f, .slice B3 os.length d3] : Array Value)[j]?) ∧ (∀ j : Nat, w'.cell? ⟨(w.heap.size + 1), j, none⟩ = (#[.int .i64 th, .int .i64 2, .int .i64 arg] : Array Value)[j]?) ∧ (∀ j : Nat, w'.cell? ⟨kx, j, none⟩ = (#[.int .i64 xt, .int .i64 1, .int .i64 xa] : Array Value)[j]?))
      (first | exact ⟨h0, h1, h2⟩ | (refine ⟨?_, ?_, ?_⟩ <;> (repeat (first | (with_reducible refine cellsK (by assumption) ?_) | (with_reducible refine cellsD ?_))) <;> assumption))
      (first | fail)
    all_goals
      have hb' : Below w.heap.size w ((((w5.setCell ⟨w.heap.size + 1 + 1, 0, none⟩ (.slice B1 zs.length d1)).setCell ⟨w.heap.size + 1 + 1, 1, none⟩ (.int .i64 cnt)).setCell ⟨w.heap.size + 1 + 1, 2, none⟩ (.slice F r.length f)).setCell ⟨w.heap.size + 1 + 1, 3, none⟩ (.slice B3 os.length d3)).drew := by
        refine Below.drew ?_
        repeat (refine Below.setCell ?_ (by simp <;> omega) _)
        exact HB5.out
      have hr' : BoxC 31 ((((w5.setCell ⟨w.heap.size + 1 + 1, 0, none⟩ (.slice B1 zs.length d1)).setCell ⟨w.heap.size + 1 + 1, 1, none⟩ (.int .i64 cnt)).setCell ⟨w.heap.size + 1 + 1, 2, none⟩ (.slice F r.length f)).setCell ⟨w.heap.size + 1 + 1, 3, none⟩ (.slice B3 os.length d3)).drew (w.heap.size + 1 + 1) #[.slice B1 zs.length d1, .int .i64 cnt, .slice F r.length f, .slice B3 os.length d3] := BoxC.drewG ((((HR5.out.mset 0 _).mset 1 _).mset 2 _).mset 3 _)
      have hsA := SegC.drewG (SegC.base (b1 := w.heap.size) ((((HA5.out.low (k := w.heap.size + 1 + 1) (o := 0) (by omega) (.slice B1 zs.length d1)).low (k := w.heap.size + 1 + 1) (o := 1) (by omega) (.int .i64 cnt)).low (k := w.heap.size + 1 + 1) (o := 2) (by omega) (.slice F r.length f)).low (k := w.heap.size + 1 + 1) (o := 3) (by omega) (.slice B3 os.length d3)) (by omega))
      have hsB := SegC.drewG (SegC.base (b1 := w.heap.size) ((((HT5.out.low (k := w.heap.size + 1 + 1) (o := 0) (by omega) (.slice B1 zs.length d1)).low (k := w.heap.size + 1 + 1) (o := 1) (by omega) (.int .i64 cnt)).low (k := w.heap.size + 1 + 1) (o := 2) (by omega) (.slice F r.length f)).low (k := w.heap.size + 1 + 1) (o := 3) (by omega) (.slice B3 os.length d3)) (by omega))
      have hsO := SegC.drewG (SegC.base (b1 := w.heap.size) ((((HC5.out.low (k := w.heap.size + 1 + 1) (o := 0) (by omega) (.slice B1 zs.length d1)).low (k := w.heap.size + 1 + 1) (o := 1) (by omega) (.int .i64 cnt)).low (k := w.heap.size + 1 + 1) (o := 2) (by omega) (.slice F r.length f)).low (k := w.heap.size + 1 + 1) (o := 3) (by omega) (.slice B3 os.length d3)) (by omega))
      generalize ((((w5.setCell ⟨w.heap.size + 1 + 1, 0, none⟩ (.slice B1 zs.length d1)).setCell ⟨w.heap.size + 1 + 1, 1, none⟩ (.int .i64 cnt)).setCell ⟨w.heap.size + 1 + 1, 2, none⟩ (.slice F r.length f)).setCell ⟨w.heap.size + 1 + 1, 3, none⟩ (.slice B3 os.length d3)).drew = w9 at hb' hr' hsA hsB hsO ⊢
      have hr9 := hr'.cell
      clear hr' hr hf h0 h1 h2
      go_wp2_with fail
      refine bodyPost_ret (v := .tuple #[.agg #[.slice B1 zs.length d1, .int .i64 cnt, .slice F r.length f, .slice B3 os.length d3], .bool true, .int .i64 0, .int .i64 arg, .int .i64 xt]) (by simp [results, Try.results51, go_sem, hr9]) rfl ⟨B1, d1, F, f, B3, d3, rfl, hsA, hsB, hsO, hb'⟩

end Go.Proofs.Ythianfhfamkcmaa
