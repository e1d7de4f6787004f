/-
  Models (chapter 11): the model's l10Call, one way of it.
  Models (chapter 11): the model's l10Call, one way of it.
  Models (chapter 11): the model's l10Call, one way of it.
  Models (chapter 11): the model's l10Call, one way of it.
  Models (chapter 11): the model's l10Call, one way of it.
-/
import Derived.BigQuiet
import Derived.Test.YthianfhfamkcmaaJ22
namespace Go.Proofs.Ythianfhfamkcmaa
open Go.RowKit

set_option maxHeartbeats 4000000 in
set_option maxRecDepth 100000 in
theorem l10_same2 (A B O : Option Addr) (ca cb co : Nat) (zs : List Int) (xt xa : Int) (r os : List Wtr) (cnt th arg : Int) (w : World) (hz : zs.length ≤ 1048576) (ht : ((⟨xt, 2, xa⟩ :: r : List Wtr)).length ≤ 1048576) (hc : os.length ≤ 1048576) (hA : Rd w A zs) (hT : RdR Wtr.cs w B (⟨xt, 2, xa⟩ :: r : List Wtr)) (hC : RdR Wtr.cs w O os) :
    Calls Try.prog 51 #[.agg #[.slice A zs.length ca, .int .i64 cnt, .slice B ((⟨xt, 2, xa⟩ :: r : List Wtr)).length cb, .slice O os.length co], .agg #[.int .i64 th, .int .i64 2, .int .i64 arg]] w (SpecPost w ((false, 0, 0, (-1)), (zs, cnt, ((⟨xt, 2, xa⟩ :: r) ++ [⟨th, 2, arg⟩] : List Wtr), os))) := by
  have HA := Lib.hid hA; have HT := Lib.hid hT; have HC := Lib.hid hC; clear hA hT hC
  have HB0 := Lib.hid (below_alloc3 w (.cells #[.slice A zs.length ca, .int .i64 cnt, .slice B ((⟨xt, 2, xa⟩ :: r : List Wtr)).length cb, .slice O os.length co] 31) (.cells #[.int .i64 th, .int .i64 2, .int .i64 arg] 35) (.cells #[.slice none 0 0, .int .i64 0, .slice none 0 0, .slice none 0 0] 31))
  have HX := Lib.hid ((BoxC.new 31 w #[.slice A zs.length ca, .int .i64 cnt, .slice B ((⟨xt, 2, xa⟩ :: r : List Wtr)).length cb, .slice O os.length co]).below (below_alloc2 _ (.cells #[.int .i64 th, .int .i64 2, .int .i64 arg] 35) (.cells #[.slice none 0 0, .int .i64 0, .slice none 0 0, .slice none 0 0] 31)))
  have HW := Lib.hid (by have h := (BoxC.new 35 (w.alloc (.cells #[.slice A zs.length ca, .int .i64 cnt, .slice B ((⟨xt, 2, xa⟩ :: r : List Wtr)).length cb, .slice O os.length co] 31)) #[.int .i64 th, .int .i64 2, .int .i64 arg]).below (below_alloc _ (.cells #[.slice none 0 0, .int .i64 0, .slice none 0 0, .slice none 0 0] 31)); rw [size_alloc] at h; exact h)
  have HR := Lib.hid (by have h := BoxC.new 31 ((w.alloc (.cells #[.slice A zs.length ca, .int .i64 cnt, .slice B ((⟨xt, 2, xa⟩ :: r : List Wtr)).length cb, .slice O os.length co] 31)).alloc (.cells #[.int .i64 th, .int .i64 2, .int .i64 arg] 35)) #[.slice none 0 0, .int .i64 0, .slice none 0 0, .slice none 0 0]; rw [size_alloc, size_alloc] at h; exact h)
  have hsz : (((w.alloc (.cells #[.slice A zs.length ca, .int .i64 cnt, .slice B ((⟨xt, 2, xa⟩ :: r : List Wtr)).length cb, .slice O os.length co] 31)).alloc (.cells #[.int .i64 th, .int .i64 2, .int .i64 arg] 35)).alloc (.cells #[.slice none 0 0, .int .i64 0, .slice none 0 0, .slice none 0 0] 31)).heap.size = w.heap.size + 1 + 1 + 1 := by simp
  go_enter Try.func51, Try.ntmps51
  have hx := HX.out.cell
  go_wp2_with fail
  refine (l10Own_any _ _ _ _ _ _ zs (⟨xt, 2, xa⟩ :: r : List Wtr) os cnt _ hz ht hc (HA.out.below HB0.out) (HT.out.below HB0.out) (HC.out.below HB0.out)).mono ?_
  rintro e w1 ⟨B1, d1, B2, d2, B3, d3, rfl, hO, hb⟩
  rw [hsz] at hO
  have HB1 := Lib.hid (below_trans HB0.out hb)
  have HX1 := Lib.hid (HX.out.below hb); have HW1 := Lib.hid (HW.out.below hb); have HR1 := Lib.hid (HR.out.below hb)
  have HO1 := Lib.hid hO
  clear hb hO HB0 HX HW HR hx hsz
  go_upto_region 2 with (refine wpList_store_row rfl 31 _ _ rfl w.heap.size _ rfl rfl 31 _ HX1.out info_model rfl (one4m _ _ _ _ _ _ _ _ _ _) ?_)
  have HX2 := Lib.hid (HX1.out.mrow #[.slice B1 zs.length d1, .int .i64 cnt, .slice B2 ((⟨xt, 2, xa⟩ :: r : List Wtr)).length d2, .slice B3 os.length d3])
  have HW2 := Lib.hid (HW1.out.mrowO (b := w.heap.size) (by omega) #[.slice B1 zs.length d1, .int .i64 cnt, .slice B2 ((⟨xt, 2, xa⟩ :: r : List Wtr)).length d2, .slice B3 os.length d3])
  have HR2 := Lib.hid (HR1.out.mrowO (b := w.heap.size) (by omega) #[.slice B1 zs.length d1, .int .i64 cnt, .slice B2 ((⟨xt, 2, xa⟩ :: r : List Wtr)).length d2, .slice B3 os.length d3])
  have HB2 := Lib.hid (below_setRow HB1.out (Nat.le_refl _) #[.slice B1 zs.length d1, .int .i64 cnt, .slice B2 ((⟨xt, 2, xa⟩ :: r : List Wtr)).length d2, .slice B3 os.length d3])
  have HO2 := Lib.hid (HO1.out.row (k := w.heap.size) (by omega) #[.slice B1 zs.length d1, .int .i64 cnt, .slice B2 ((⟨xt, 2, xa⟩ :: r : List Wtr)).length d2, .slice B3 os.length d3])
  generalize w1.setRow w.heap.size #[.slice B1 zs.length d1, .int .i64 cnt, .slice B2 ((⟨xt, 2, xa⟩ :: r : List Wtr)).length d2, .slice B3 os.length d3] = w2 at HX2 HW2 HR2 HB2 HO2 ⊢
  have hz2 : w.heap.size + 1 + 1 < w2.heap.size := HR2.out.lt
  have hy2 : w.heap.size < w2.heap.size := by omega
  have hy2' : w.heap.size + 1 < w2.heap.size := by omega
  clear HX1 HW1 HR1 HB1 HO1
  obtain ⟨j0, hj, hy0, hy1, hy2⟩ := infoW
  have Hj := Lib.hid hj; have Hy0 := Lib.hid hy0; have Hy1 := Lib.hid hy1; have Hy2 := Lib.hid hy2
  clear hj hy0 hy1 hy2
  have hx := HX2.out.cell; have hf := HX2.out.mfroz
  obtain ⟨g, ko, rfl, hrow⟩ := row_of (SegC.ofW HO2.out.wt)
  have d0 := hrow 0 _ rfl; have d1' := hrow 1 _ rfl; have d2' := hrow 2 _ rfl
  rw [Nat.add_zero] at d0
  have hw := HW2.out.cell
  go_wp2_with fail
  go_quiet (fail)
  have hbq : Below w2.heap.size w2 (w2.drewN nq) := below_drewN _
  have HX2b := Lib.hid (HX2.out.below hbq); have HW2b := Lib.hid (HW2.out.below hbq); have HR2b := Lib.hid (HR2.out.below hbq)
  have HB2b := Lib.hid (below_trans HB2.out hbq); have HO2b := Lib.hid (HO2.out.below hbq)
  clear hx hf hw hbq
  try clear d0 d1' d2' hrow
  clear HX2 HW2 HR2 HB2 HO2 hz2 hy2 hy2'
  generalize w2.drewN nq = w2b at HX2b HW2b HR2b HB2b HO2b ⊢
  have hz2 : w.heap.size + 1 + 1 < w2b.heap.size := HR2b.out.lt
  have hy2 : w.heap.size < w2b.heap.size := by omega
  have hy2' : w.heap.size + 1 < w2b.heap.size := by omega
  have hx := HX2b.out.cell; have hf := HX2b.out.mfroz; have hw := HW2b.out.cell
  go_wp2_with (at_builtin; refine wpList_append_rows Wtr.len (by decide) Wtr.one _ rfl (.tmp 34) (.tmp 36) 29 rfl (w.heap.size + 1 + 1 + 1) 35 j0 (.agg #[.int .i64 0, .int .i64 0, .int .i64 0]) 24 Try.underlying29 Hj.out Hy0.out Hy1.out Hy2.out rfl _ (⟨xt, 2, xa⟩ :: r : List Wtr) rfl (own_below HO2b.out.wt (below_alloc _ _)) (some ⟨w2b.heap.size, 0, none⟩) 1 [⟨th, 2, arg⟩] rfl (.inr ⟨w2b.heap.size, 0, rfl, fun j v hj => by rw [Nat.zero_add, (BoxC.new 35 w2b #[.int .i64 th, .int .i64 2, .int .i64 arg]).cell j]; simpa [flatV, Wtr.cs] using hj⟩) ?_ ?_ (by simp <;> omega) ?_)
  · show (((⟨xt, 2, xa⟩ :: r : List Wtr)).length + 1) * _ ≤ _; omega
  · show ((⟨xt, 2, xa⟩ :: r : List Wtr)).length + 1 ≤ maxLen; unfold maxLen; omega
  intro F f w3 hown hgr
  have hlo : ∀ q, (Value.slice (some ⟨g, ko, none⟩) ((⟨xt, 2, xa⟩ :: r : List Wtr)).length d2).ownBlock = some q → w.heap.size + 1 + 1 + 1 ≤ q := fun q hq => (World.ownsRow.lt HO2b.out.wt q hq).1
  have hbl := below_alloc w2b (.cells #[.int .i64 th, .int .i64 2, .int .i64 arg] 35)
  have HX3 := Lib.hid ((HX2b.out.below hbl).mgrown hgr (ne_own hlo (by omega)))
  have HR3 := Lib.hid ((HR2b.out.below hbl).mgrown hgr (ne_own hlo (by omega)))
  have HB3 := Lib.hid ((below_trans HB2b.out hbl).grown hgr (below_trans HB2b.out hbl).size (fun q hq => by have := hlo q hq; omega))
  have HA3 := Lib.hid (SegC.keptD (n := zs.length) (c := d1) (SegC.below (SegC.ofI HO2b.out.st) hbl) hgr HO2b.out.d12)
  have HC3 := Lib.hid (SegC.keptD (n := os.length) (c := d3) (SegC.below (SegC.ofW HO2b.out.of) hbl) hgr HO2b.out.d23.symm)
  have HT3 : Hid (SegC (w.heap.size + 1 + 1 + 1) w3 F (flatV Wtr.cs ((⟨xt, 2, xa⟩ :: r) ++ [⟨th, 2, arg⟩] : List Wtr))) := Lib.hid (SegC.ofW (c := f) (by first | exact hown | (unfold OwnR; simpa using hown)))
  clear hown hgr hbl hlo hx hw HX2b HW2b HR2b HB2b HO2b
  have hf := HX3.out.mfroz; have hx := HX3.out.cell
  go_upto_region 7 with fail
  have HX4 : Hid (BoxC 31 (w3.setCell ⟨w.heap.size, 2, none⟩ (.slice F (r.length + 1 + 1) f)) w.heap.size #[.slice B1 zs.length d1, .int .i64 cnt, .slice F (r.length + 1 + 1) f, .slice B3 os.length d3]) := Lib.hid (HX3.out.mset 2 _)
  have HR4 := Lib.hid (HR3.out.msetO ⟨w.heap.size, 2, none⟩ (.slice F (r.length + 1 + 1) f) (by simp <;> omega))
  have HB4 := Lib.hid (HB3.out.setCell (p := ⟨w.heap.size, 2, none⟩) (Nat.le_refl _) (.slice F (r.length + 1 + 1) f))
  have HA4 := Lib.hid (HA3.out.low (k := w.heap.size) (o := 2) (by omega) (.slice F (r.length + 1 + 1) f))
  have HT4 := Lib.hid (HT3.out.low (k := w.heap.size) (o := 2) (by omega) (.slice F (r.length + 1 + 1) f))
  have HC4 := Lib.hid (HC3.out.low (k := w.heap.size) (o := 2) (by omega) (.slice F (r.length + 1 + 1) f))
  generalize w3.setCell ⟨w.heap.size, 2, none⟩ (.slice F (r.length + 1 + 1) f) = w4 at HX4 HR4 HB4 HA4 HT4 HC4 ⊢
  clear hf hx HX3 HR3 HB3 HA3 HT3 HC3
  have hx := HX4.out.cell; have hf := HX4.out.mfroz
  go_wp2_with (refine wpList_store_row rfl 31 _ _ rfl (w.heap.size + 1 + 1) _ rfl rfl 31 _ HR4.out info_model rfl (one4m _ _ _ _ _ _ _ _ _ _) ?_)
  have hr := (HR4.out.mrow #[.slice B1 zs.length d1, .int .i64 cnt, .slice F (r.length + 1 + 1) f, .slice B3 os.length d3]).cell
  have hb' := below_setRow HB4.out (Nat.le_trans (Nat.le_succ _) (Nat.le_succ _) : w.heap.size ≤ w.heap.size + 1 + 1) #[.slice B1 zs.length d1, .int .i64 cnt, .slice F (r.length + 1 + 1) f, .slice B3 os.length d3]
  have hsA := SegC.base (b1 := w.heap.size) (SegC.row (n := zs.length) (c := d1) HA4.out (k := w.heap.size + 1 + 1) (by omega) #[.slice B1 zs.length d1, .int .i64 cnt, .slice F (r.length + 1 + 1) f, .slice B3 os.length d3]) (by omega)
  have hsB := SegC.base (b1 := w.heap.size) (SegC.row (n := (r.length + 1 + 1)) (c := f) HT4.out (k := w.heap.size + 1 + 1) (by omega) #[.slice B1 zs.length d1, .int .i64 cnt, .slice F (r.length + 1 + 1) f, .slice B3 os.length d3]) (by omega)
  have hsO := SegC.base (b1 := w.heap.size) (SegC.row (n := os.length) (c := d3) HC4.out (k := w.heap.size + 1 + 1) (by omega) #[.slice B1 zs.length d1, .int .i64 cnt, .slice F (r.length + 1 + 1) f, .slice B3 os.length d3]) (by omega)
  generalize w4.setRow (w.heap.size + 1 + 1) #[.slice B1 zs.length d1, .int .i64 cnt, .slice F (r.length + 1 + 1) f, .slice B3 os.length d3] = w9 at hr hb' hsA hsB hsO ⊢
  clear hx hf
  refine bodyPost_ret (v := .tuple #[.agg #[.slice B1 zs.length d1, .int .i64 cnt, .slice F (r.length + 1 + 1) f, .slice B3 os.length d3], .bool false, .int .i64 0, .int .i64 0, .int .i64 (-1)]) (by simp [results, Try.results51, go_sem, hr]) rfl ⟨B1, d1, F, f, B3, d3, (by simp), hsA, hsB, hsO, hb'⟩

end Go.Proofs.Ythianfhfamkcmaa

namespace Go.Proofs.Ythianfhfamkcmaa
open Go.RowKit

set_option maxHeartbeats 4000000 in
set_option maxRecDepth 100000 in
theorem l10_nilO (A B O : Option Addr) (ca cb co : Nat) (zs : List Int) (bs : List Wtr) (cnt th arg : Int) (w : World) (hz : zs.length ≤ 1048576) (ht : bs.length ≤ 1048576) (hc : (([] : List Wtr)).length ≤ 1048576) (hA : Rd w A zs) (hT : RdR Wtr.cs w B bs) (hC : RdR Wtr.cs w O ([] : List Wtr)) :
    Calls Try.prog 51 #[.agg #[.slice A zs.length ca, .int .i64 cnt, .slice B bs.length cb, .slice O (([] : List Wtr)).length co], .agg #[.int .i64 th, .int .i64 3, .int .i64 arg]] w (SpecPost w ((false, 0, 0, (-1)), (zs, cnt, bs, ([⟨th, 3, arg⟩] : List Wtr)))) := by
  have HA := Lib.hid hA; have HT := Lib.hid hT; have HC := Lib.hid hC; clear hA hT hC
  have HB0 := Lib.hid (below_alloc3 w (.cells #[.slice A zs.length ca, .int .i64 cnt, .slice B bs.length cb, .slice O (([] : List Wtr)).length co] 31) (.cells #[.int .i64 th, .int .i64 3, .int .i64 arg] 35) (.cells #[.slice none 0 0, .int .i64 0, .slice none 0 0, .slice none 0 0] 31))
  have HX := Lib.hid ((BoxC.new 31 w #[.slice A zs.length ca, .int .i64 cnt, .slice B bs.length cb, .slice O (([] : List Wtr)).length co]).below (below_alloc2 _ (.cells #[.int .i64 th, .int .i64 3, .int .i64 arg] 35) (.cells #[.slice none 0 0, .int .i64 0, .slice none 0 0, .slice none 0 0] 31)))
  have HW := Lib.hid (by have h := (BoxC.new 35 (w.alloc (.cells #[.slice A zs.length ca, .int .i64 cnt, .slice B bs.length cb, .slice O (([] : List Wtr)).length co] 31)) #[.int .i64 th, .int .i64 3, .int .i64 arg]).below (below_alloc _ (.cells #[.slice none 0 0, .int .i64 0, .slice none 0 0, .slice none 0 0] 31)); rw [size_alloc] at h; exact h)
  have HR := Lib.hid (by have h := BoxC.new 31 ((w.alloc (.cells #[.slice A zs.length ca, .int .i64 cnt, .slice B bs.length cb, .slice O (([] : List Wtr)).length co] 31)).alloc (.cells #[.int .i64 th, .int .i64 3, .int .i64 arg] 35)) #[.slice none 0 0, .int .i64 0, .slice none 0 0, .slice none 0 0]; rw [size_alloc, size_alloc] at h; exact h)
  have hsz : (((w.alloc (.cells #[.slice A zs.length ca, .int .i64 cnt, .slice B bs.length cb, .slice O (([] : List Wtr)).length co] 31)).alloc (.cells #[.int .i64 th, .int .i64 3, .int .i64 arg] 35)).alloc (.cells #[.slice none 0 0, .int .i64 0, .slice none 0 0, .slice none 0 0] 31)).heap.size = w.heap.size + 1 + 1 + 1 := by simp
  go_enter Try.func51, Try.ntmps51
  have hx := HX.out.cell
  go_wp2_with fail
  refine (l10Own_any _ _ _ _ _ _ zs bs ([] : List Wtr) cnt _ hz ht hc (HA.out.below HB0.out) (HT.out.below HB0.out) (HC.out.below HB0.out)).mono ?_
  rintro e w1 ⟨B1, d1, B2, d2, B3, d3, rfl, hO, hb⟩
  rw [hsz] at hO
  have HB1 := Lib.hid (below_trans HB0.out hb)
  have HX1 := Lib.hid (HX.out.below hb); have HW1 := Lib.hid (HW.out.below hb); have HR1 := Lib.hid (HR.out.below hb)
  have HO1 := Lib.hid hO
  clear hb hO HB0 HX HW HR hx hsz
  go_upto_region 2 with (refine wpList_store_row rfl 31 _ _ rfl w.heap.size _ rfl rfl 31 _ HX1.out info_model rfl (one4m _ _ _ _ _ _ _ _ _ _) ?_)
  have HX2 := Lib.hid (HX1.out.mrow #[.slice B1 zs.length d1, .int .i64 cnt, .slice B2 bs.length d2, .slice B3 (([] : List Wtr)).length d3])
  have HW2 := Lib.hid (HW1.out.mrowO (b := w.heap.size) (by omega) #[.slice B1 zs.length d1, .int .i64 cnt, .slice B2 bs.length d2, .slice B3 (([] : List Wtr)).length d3])
  have HR2 := Lib.hid (HR1.out.mrowO (b := w.heap.size) (by omega) #[.slice B1 zs.length d1, .int .i64 cnt, .slice B2 bs.length d2, .slice B3 (([] : List Wtr)).length d3])
  have HB2 := Lib.hid (below_setRow HB1.out (Nat.le_refl _) #[.slice B1 zs.length d1, .int .i64 cnt, .slice B2 bs.length d2, .slice B3 (([] : List Wtr)).length d3])
  have HO2 := Lib.hid (HO1.out.row (k := w.heap.size) (by omega) #[.slice B1 zs.length d1, .int .i64 cnt, .slice B2 bs.length d2, .slice B3 (([] : List Wtr)).length d3])
  generalize w1.setRow w.heap.size #[.slice B1 zs.length d1, .int .i64 cnt, .slice B2 bs.length d2, .slice B3 (([] : List Wtr)).length d3] = w2 at HX2 HW2 HR2 HB2 HO2 ⊢
  have hz2 : w.heap.size + 1 + 1 < w2.heap.size := HR2.out.lt
  have hy2 : w.heap.size < w2.heap.size := by omega
  have hy2' : w.heap.size + 1 < w2.heap.size := by omega
  clear HX1 HW1 HR1 HB1 HO1
  obtain ⟨j0, hj, hy0, hy1, hy2⟩ := infoW
  have Hj := Lib.hid hj; have Hy0 := Lib.hid hy0; have Hy1 := Lib.hid hy1; have Hy2 := Lib.hid hy2
  clear hj hy0 hy1 hy2
  have hx := HX2.out.cell; have hf := HX2.out.mfroz
  have hw := HW2.out.cell
  go_wp2_with (at_builtin; refine wpList_append_rows Wtr.len (by decide) Wtr.one _ rfl (.tmp 65) (.tmp 67) 29 rfl (w.heap.size + 1 + 1 + 1) 35 j0 (.agg #[.int .i64 0, .int .i64 0, .int .i64 0]) 24 Try.underlying29 Hj.out Hy0.out Hy1.out Hy2.out rfl _ ([] : List Wtr) rfl (own_below HO2.out.of (below_alloc _ _)) (some ⟨w2.heap.size, 0, none⟩) 1 [⟨th, 3, arg⟩] rfl (.inr ⟨w2.heap.size, 0, rfl, fun j v hj => by rw [Nat.zero_add, (BoxC.new 35 w2 #[.int .i64 th, .int .i64 3, .int .i64 arg]).cell j]; simpa [flatV, Wtr.cs] using hj⟩) ?_ ?_ (by simp <;> omega) ?_)
  · show ((([] : List Wtr)).length + 1) * _ ≤ _; omega
  · show (([] : List Wtr)).length + 1 ≤ maxLen; unfold maxLen; omega
  intro F f w3 hown hgr
  have hlo : ∀ q, (Value.slice B3 (([] : List Wtr)).length d3).ownBlock = some q → w.heap.size + 1 + 1 + 1 ≤ q := fun q hq => (World.ownsRow.lt HO2.out.of q hq).1
  have hbl := below_alloc w2 (.cells #[.int .i64 th, .int .i64 3, .int .i64 arg] 35)
  have HX3 := Lib.hid ((HX2.out.below hbl).mgrown hgr (ne_own hlo (by omega)))
  have HR3 := Lib.hid ((HR2.out.below hbl).mgrown hgr (ne_own hlo (by omega)))
  have HB3 := Lib.hid ((below_trans HB2.out hbl).grown hgr (below_trans HB2.out hbl).size (fun q hq => by have := hlo q hq; omega))
  have HA3 := Lib.hid (SegC.keptD (n := zs.length) (c := d1) (SegC.below (SegC.ofI HO2.out.st) hbl) hgr HO2.out.d13)
  have HT3 := Lib.hid (SegC.keptD (n := bs.length) (c := d2) (SegC.below (SegC.ofW HO2.out.wt) hbl) hgr HO2.out.d23)
  have HC3 : Hid (SegC (w.heap.size + 1 + 1 + 1) w3 F (flatV Wtr.cs ([⟨th, 3, arg⟩] : List Wtr))) := Lib.hid (SegC.ofW (c := f) (by first | exact hown | (unfold OwnR; simpa using hown)))
  clear hown hgr hbl hlo hx hw HX2 HW2 HR2 HB2 HO2
  have hf := HX3.out.mfroz; have hx := HX3.out.cell
  go_upto_region 14 with fail
  have HX4 : Hid (BoxC 31 (w3.setCell ⟨w.heap.size, 3, none⟩ (.slice F (([⟨th, 3, arg⟩] : List Wtr)).length f)) w.heap.size #[.slice B1 zs.length d1, .int .i64 cnt, .slice B2 bs.length d2, .slice F (([⟨th, 3, arg⟩] : List Wtr)).length f]) := Lib.hid (HX3.out.mset 3 _)
  have HR4 := Lib.hid (HR3.out.msetO ⟨w.heap.size, 3, none⟩ (.slice F (([⟨th, 3, arg⟩] : List Wtr)).length f) (by simp <;> omega))
  have HB4 := Lib.hid (HB3.out.setCell (p := ⟨w.heap.size, 3, none⟩) (Nat.le_refl _) (.slice F (([⟨th, 3, arg⟩] : List Wtr)).length f))
  have HA4 := Lib.hid (HA3.out.low (k := w.heap.size) (o := 3) (by omega) (.slice F (([⟨th, 3, arg⟩] : List Wtr)).length f))
  have HT4 := Lib.hid (HT3.out.low (k := w.heap.size) (o := 3) (by omega) (.slice F (([⟨th, 3, arg⟩] : List Wtr)).length f))
  have HC4 := Lib.hid (HC3.out.low (k := w.heap.size) (o := 3) (by omega) (.slice F (([⟨th, 3, arg⟩] : List Wtr)).length f))
  generalize w3.setCell ⟨w.heap.size, 3, none⟩ (.slice F (([⟨th, 3, arg⟩] : List Wtr)).length f) = w4 at HX4 HR4 HB4 HA4 HT4 HC4 ⊢
  clear hf hx HX3 HR3 HB3 HA3 HT3 HC3
  have hx := HX4.out.cell; have hf := HX4.out.mfroz
  go_wp2_with (refine wpList_store_row rfl 31 _ _ rfl (w.heap.size + 1 + 1) _ rfl rfl 31 _ HR4.out info_model rfl (one4m _ _ _ _ _ _ _ _ _ _) ?_)
  have hr := (HR4.out.mrow #[.slice B1 zs.length d1, .int .i64 cnt, .slice B2 bs.length d2, .slice F (([⟨th, 3, arg⟩] : List Wtr)).length f]).cell
  have hb' := below_setRow HB4.out (Nat.le_trans (Nat.le_succ _) (Nat.le_succ _) : w.heap.size ≤ w.heap.size + 1 + 1) #[.slice B1 zs.length d1, .int .i64 cnt, .slice B2 bs.length d2, .slice F (([⟨th, 3, arg⟩] : List Wtr)).length f]
  have hsA := SegC.base (b1 := w.heap.size) (SegC.row (n := zs.length) (c := d1) HA4.out (k := w.heap.size + 1 + 1) (by omega) #[.slice B1 zs.length d1, .int .i64 cnt, .slice B2 bs.length d2, .slice F (([⟨th, 3, arg⟩] : List Wtr)).length f]) (by omega)
  have hsB := SegC.base (b1 := w.heap.size) (SegC.row (n := bs.length) (c := d2) HT4.out (k := w.heap.size + 1 + 1) (by omega) #[.slice B1 zs.length d1, .int .i64 cnt, .slice B2 bs.length d2, .slice F (([⟨th, 3, arg⟩] : List Wtr)).length f]) (by omega)
  have hsO := SegC.base (b1 := w.heap.size) (SegC.row (n := (([⟨th, 3, arg⟩] : List Wtr)).length) (c := f) HC4.out (k := w.heap.size + 1 + 1) (by omega) #[.slice B1 zs.length d1, .int .i64 cnt, .slice B2 bs.length d2, .slice F (([⟨th, 3, arg⟩] : List Wtr)).length f]) (by omega)
  generalize w4.setRow (w.heap.size + 1 + 1) #[.slice B1 zs.length d1, .int .i64 cnt, .slice B2 bs.length d2, .slice F (([⟨th, 3, arg⟩] : List Wtr)).length f] = w9 at hr hb' hsA hsB hsO ⊢
  clear hx hf
  refine bodyPost_ret (v := .tuple #[.agg #[.slice B1 zs.length d1, .int .i64 cnt, .slice B2 bs.length d2, .slice F (([⟨th, 3, arg⟩] : List Wtr)).length f], .bool false, .int .i64 0, .int .i64 0, .int .i64 (-1)]) (by simp [results, Try.results51, go_sem, hr]) rfl ⟨B1, d1, B2, d2, F, f, rfl, hsA, hsB, hsO, hb'⟩

end Go.Proofs.Ythianfhfamkcmaa

namespace Go.Proofs.Ythianfhfamkcmaa
open Go.RowKit

set_option maxHeartbeats 4000000 in
set_option maxRecDepth 100000 in
theorem l10_push (A B O : Option Addr) (ca cb co : Nat) (zs : List Int) (bs os : List Wtr) (cnt th arg : Int) (w : World) (hz : zs.length ≤ 1048576) (ht : bs.length ≤ 1048576) (hc : os.length ≤ 1048576) (hA : Rd w A zs) (hT : RdR Wtr.cs w B bs) (hC : RdR Wtr.cs w O os) :
    Calls Try.prog 51 #[.agg #[.slice A zs.length ca, .int .i64 cnt, .slice B bs.length cb, .slice O os.length co], .agg #[.int .i64 th, .int .i64 4, .int .i64 arg]] w (SpecPost w ((true, 0, arg, (-1)), ((arg :: zs), cnt, bs, os))) := by
  have HA := Lib.hid hA; have HT := Lib.hid hT; have HC := Lib.hid hC; clear hA hT hC
  have HB0 := Lib.hid (below_alloc3 w (.cells #[.slice A zs.length ca, .int .i64 cnt, .slice B bs.length cb, .slice O os.length co] 31) (.cells #[.int .i64 th, .int .i64 4, .int .i64 arg] 35) (.cells #[.slice none 0 0, .int .i64 0, .slice none 0 0, .slice none 0 0] 31))
  have HX := Lib.hid ((BoxC.new 31 w #[.slice A zs.length ca, .int .i64 cnt, .slice B bs.length cb, .slice O os.length co]).below (below_alloc2 _ (.cells #[.int .i64 th, .int .i64 4, .int .i64 arg] 35) (.cells #[.slice none 0 0, .int .i64 0, .slice none 0 0, .slice none 0 0] 31)))
  have HW := Lib.hid (by have h := (BoxC.new 35 (w.alloc (.cells #[.slice A zs.length ca, .int .i64 cnt, .slice B bs.length cb, .slice O os.length co] 31)) #[.int .i64 th, .int .i64 4, .int .i64 arg]).below (below_alloc _ (.cells #[.slice none 0 0, .int .i64 0, .slice none 0 0, .slice none 0 0] 31)); rw [size_alloc] at h; exact h)
  have HR := Lib.hid (by have h := BoxC.new 31 ((w.alloc (.cells #[.slice A zs.length ca, .int .i64 cnt, .slice B bs.length cb, .slice O os.length co] 31)).alloc (.cells #[.int .i64 th, .int .i64 4, .int .i64 arg] 35)) #[.slice none 0 0, .int .i64 0, .slice none 0 0, .slice none 0 0]; rw [size_alloc, size_alloc] at h; exact h)
  have hsz : (((w.alloc (.cells #[.slice A zs.length ca, .int .i64 cnt, .slice B bs.length cb, .slice O os.length co] 31)).alloc (.cells #[.int .i64 th, .int .i64 4, .int .i64 arg] 35)).alloc (.cells #[.slice none 0 0, .int .i64 0, .slice none 0 0, .slice none 0 0] 31)).heap.size = w.heap.size + 1 + 1 + 1 := by simp
  go_enter Try.func51, Try.ntmps51
  have hx := HX.out.cell
  go_wp2_with fail
  refine (l10Own_any _ _ _ _ _ _ zs bs os cnt _ hz ht hc (HA.out.below HB0.out) (HT.out.below HB0.out) (HC.out.below HB0.out)).mono ?_
  rintro e w1 ⟨B1, d1, B2, d2, B3, d3, rfl, hO, hb⟩
  rw [hsz] at hO
  have HB1 := Lib.hid (below_trans HB0.out hb)
  have HX1 := Lib.hid (HX.out.below hb); have HW1 := Lib.hid (HW.out.below hb); have HR1 := Lib.hid (HR.out.below hb)
  have HO1 := Lib.hid hO
  clear hb hO HB0 HX HW HR hx hsz
  go_upto_region 2 with (refine wpList_store_row rfl 31 _ _ rfl w.heap.size _ rfl rfl 31 _ HX1.out info_model rfl (one4m _ _ _ _ _ _ _ _ _ _) ?_)
  have HX2 := Lib.hid (HX1.out.mrow #[.slice B1 zs.length d1, .int .i64 cnt, .slice B2 bs.length d2, .slice B3 os.length d3])
  have HW2 := Lib.hid (HW1.out.mrowO (b := w.heap.size) (by omega) #[.slice B1 zs.length d1, .int .i64 cnt, .slice B2 bs.length d2, .slice B3 os.length d3])
  have HR2 := Lib.hid (HR1.out.mrowO (b := w.heap.size) (by omega) #[.slice B1 zs.length d1, .int .i64 cnt, .slice B2 bs.length d2, .slice B3 os.length d3])
  have HB2 := Lib.hid (below_setRow HB1.out (Nat.le_refl _) #[.slice B1 zs.length d1, .int .i64 cnt, .slice B2 bs.length d2, .slice B3 os.length d3])
  have HO2 := Lib.hid (HO1.out.row (k := w.heap.size) (by omega) #[.slice B1 zs.length d1, .int .i64 cnt, .slice B2 bs.length d2, .slice B3 os.length d3])
  generalize w1.setRow w.heap.size #[.slice B1 zs.length d1, .int .i64 cnt, .slice B2 bs.length d2, .slice B3 os.length d3] = w2 at HX2 HW2 HR2 HB2 HO2 ⊢
  have hz2 : w.heap.size + 1 + 1 < w2.heap.size := HR2.out.lt
  have hy2 : w.heap.size < w2.heap.size := by omega
  have hy2' : w.heap.size + 1 < w2.heap.size := by omega
  clear HX1 HW1 HR1 HB1 HO1
  obtain ⟨i0, hi, hz0, hz1, hz2'⟩ := info_parts Try.infoInt
  have Hi := Lib.hid hi; have Hz0 := Lib.hid hz0; have Hz1 := Lib.hid hz1; have Hz2 := Lib.hid hz2'
  clear hi hz0 hz1 hz2'
  have hx := HX2.out.cell; have hf := HX2.out.mfroz
  have hw := HW2.out.cell
  go_wp2_with (at_builtin; refine wpList_append_rd _ rfl (.tmp 86) (.tmp 88) 22 rfl w2.heap.size 3 i0 (.int .i64 0) 8 Try.underlying22 Hi.out Hz0.out Hz1.out Hz2.out rfl _ [arg] rfl (NewA.one w2 arg) _ _ zs rfl ((SegC.ofI HO2.out.st).rd.below (below_alloc _ _)) ?_ ?_ (by simp) ?_)
  · show ([arg].length + zs.length) * _ ≤ _; simp only [List.length_cons, List.length_nil]; omega
  · show [arg].length + zs.length ≤ maxLen; unfold maxLen; simp only [List.length_cons, List.length_nil]; omega
  intro F f w3 hown hgr
  have hbe : Below w2.heap.size w2 w3 := (below_alloc _ (.cells #[.int .i64 arg] 3)).grown hgr (by simp) (by intro q hq; cases hq; simp)
  have HX3 := Lib.hid (HX2.out.below hbe); have HW3 := Lib.hid (HW2.out.below hbe); have HR3 := Lib.hid (HR2.out.below hbe)
  have HB3 := Lib.hid (below_trans HB2.out hbe)
  have HO3 := Lib.hid (HO2.out.below hbe)
  have HN3 : Hid (SegC w2.heap.size w3 F (ints (arg :: zs))) := Lib.hid (SegC.ofI (l := arg :: zs) hown)
  clear hown hgr hbe hx hf hw HX2 HW2 HR2 HB2 HO2
  have hf := HX3.out.mfroz; have hx := HX3.out.cell
  go_upto_region 20 with fail
  have HX4 : Hid (BoxC 31 (w3.setCell ⟨w.heap.size, 0, none⟩ (.slice F (arg :: zs).length f)) w.heap.size #[.slice F (arg :: zs).length f, .int .i64 cnt, .slice B2 bs.length d2, .slice B3 os.length d3]) := Lib.hid (HX3.out.mset 0 _)
  have HR4 := Lib.hid (HR3.out.msetO ⟨w.heap.size, 0, none⟩ (.slice F (arg :: zs).length f) (by simp <;> omega))
  have HW4 := Lib.hid (HW3.out.msetO ⟨w.heap.size, 0, none⟩ (.slice F (arg :: zs).length f) (by simp <;> omega))
  have HB4 := Lib.hid (HB3.out.setCell (p := ⟨w.heap.size, 0, none⟩) (Nat.le_refl _) (.slice F (arg :: zs).length f))
  have HA4 := Lib.hid (HN3.out.low (k := w.heap.size) (o := 0) (by omega) (.slice F (arg :: zs).length f))
  have HT4 := Lib.hid ((SegC.ofW HO3.out.wt).low (k := w.heap.size) (o := 0) (by omega) (.slice F (arg :: zs).length f))
  have HC4 := Lib.hid ((SegC.ofW HO3.out.of).low (k := w.heap.size) (o := 0) (by omega) (.slice F (arg :: zs).length f))
  have hF0 : w3.setCell ⟨w.heap.size, 0, none⟩ (.slice F ([arg] ++ zs).length f) = w3.setCell ⟨w.heap.size, 0, none⟩ (.slice F (arg :: zs).length f) := rfl
  try rw [hF0]
  generalize w3.setCell ⟨w.heap.size, 0, none⟩ (.slice F (arg :: zs).length f) = w4 at HX4 HR4 HW4 HB4 HA4 HT4 HC4 ⊢
  clear hf hx hF0 HX3 HW3 HR3 HB3 HO3 HN3
  have h0 := HX4.out.cell; have h1 := HW4.out.cell; have hr := HR4.out.cell; have hf := HR4.out.mfroz
  have hk0 : ¬ w.heap.size + 1 + 1 = w.heap.size := by omega
  have hk1 : ¬ w.heap.size + 1 + 1 = (w.heap.size + 1) := by omega
  go_wp2_with fail
  go_region_held3 (fun w' => (∀ j : Nat, w'.cell? ⟨w.heap.size, j, none⟩ = (#[.slice F (arg :: zs).length f, .int .i64 cnt, .slice B2 bs.length d2, .slice B3 os.length d3] : Array Value)[j]?) ∧ (∀ j : Nat, w'.cell? ⟨(w.heap.size + 1), j, none⟩ = (#[.int .i64 th, .int .i64 4, .int .i64 arg] : Array Value)[j]?))
    (first | exact ⟨h0, h1⟩ | (refine ⟨?_, ?_⟩ <;> (repeat (first | (with_reducible refine cellsK (by assumption) ?_) | (with_reducible refine cellsD ?_))) <;> assumption))
    (first | fail)
  all_goals
    have hb' : Below w.heap.size w ((((w4.setCell ⟨w.heap.size + 1 + 1, 0, none⟩ (.slice F ((arg :: zs)).length f)).setCell ⟨w.heap.size + 1 + 1, 1, none⟩ (.int .i64 cnt)).setCell ⟨w.heap.size + 1 + 1, 2, none⟩ (.slice B2 bs.length d2)).setCell ⟨w.heap.size + 1 + 1, 3, none⟩ (.slice B3 os.length d3)).drew := by
      refine Below.drew ?_
      repeat (refine Below.setCell ?_ (by simp <;> omega) _)
      exact HB4.out
    have hr' : BoxC 31 ((((w4.setCell ⟨w.heap.size + 1 + 1, 0, none⟩ (.slice F ((arg :: zs)).length f)).setCell ⟨w.heap.size + 1 + 1, 1, none⟩ (.int .i64 cnt)).setCell ⟨w.heap.size + 1 + 1, 2, none⟩ (.slice B2 bs.length d2)).setCell ⟨w.heap.size + 1 + 1, 3, none⟩ (.slice B3 os.length d3)).drew (w.heap.size + 1 + 1) #[.slice F ((arg :: zs)).length f, .int .i64 cnt, .slice B2 bs.length d2, .slice B3 os.length d3] := BoxC.drewG ((((HR4.out.mset 0 _).mset 1 _).mset 2 _).mset 3 _)
    have hsA := SegC.drewG (SegC.base (b1 := w.heap.size) ((((HA4.out.low (k := w.heap.size + 1 + 1) (o := 0) (by omega) (.slice F ((arg :: zs)).length f)).low (k := w.heap.size + 1 + 1) (o := 1) (by omega) (.int .i64 cnt)).low (k := w.heap.size + 1 + 1) (o := 2) (by omega) (.slice B2 bs.length d2)).low (k := w.heap.size + 1 + 1) (o := 3) (by omega) (.slice B3 os.length d3)) (by omega))
    have hsB := SegC.drewG (SegC.base (b1 := w.heap.size) ((((HT4.out.low (k := w.heap.size + 1 + 1) (o := 0) (by omega) (.slice F ((arg :: zs)).length f)).low (k := w.heap.size + 1 + 1) (o := 1) (by omega) (.int .i64 cnt)).low (k := w.heap.size + 1 + 1) (o := 2) (by omega) (.slice B2 bs.length d2)).low (k := w.heap.size + 1 + 1) (o := 3) (by omega) (.slice B3 os.length d3)) (by omega))
    have hsO := SegC.drewG (SegC.base (b1 := w.heap.size) ((((HC4.out.low (k := w.heap.size + 1 + 1) (o := 0) (by omega) (.slice F ((arg :: zs)).length f)).low (k := w.heap.size + 1 + 1) (o := 1) (by omega) (.int .i64 cnt)).low (k := w.heap.size + 1 + 1) (o := 2) (by omega) (.slice B2 bs.length d2)).low (k := w.heap.size + 1 + 1) (o := 3) (by omega) (.slice B3 os.length d3)) (by omega))
    generalize ((((w4.setCell ⟨w.heap.size + 1 + 1, 0, none⟩ (.slice F ((arg :: zs)).length f)).setCell ⟨w.heap.size + 1 + 1, 1, none⟩ (.int .i64 cnt)).setCell ⟨w.heap.size + 1 + 1, 2, none⟩ (.slice B2 bs.length d2)).setCell ⟨w.heap.size + 1 + 1, 3, none⟩ (.slice B3 os.length d3)).drew = w9 at hb' hr' hsA hsB hsO ⊢
    have hr9 := hr'.cell
    clear hr' hr hf h0 h1
    go_wp2_with fail
    refine bodyPost_ret (v := .tuple #[.agg #[.slice F ((arg :: zs)).length f, .int .i64 cnt, .slice B2 bs.length d2, .slice B3 os.length d3], .bool true, .int .i64 0, .int .i64 arg, .int .i64 (-1)]) (by simp [results, Try.results51, go_sem, hr9]) rfl ⟨F, f, B2, d2, B3, d3, rfl, hsA, hsB, hsO, hb'⟩

end Go.Proofs.Ythianfhfamkcmaa

namespace Go.Proofs.Ythianfhfamkcmaa
open Go.RowKit

set_option maxHeartbeats 4000000 in
set_option maxRecDepth 100000 in
theorem l10_popN (A B O : Option Addr) (ca cb co : Nat) (bs os : List Wtr) (cnt th arg : Int) (w : World) (hz : (([] : List Int)).length ≤ 1048576) (ht : bs.length ≤ 1048576) (hc : os.length ≤ 1048576) (hA : Rd w A ([] : List Int)) (hT : RdR Wtr.cs w B bs) (hC : RdR Wtr.cs w O os) :
    Calls Try.prog 51 #[.agg #[.slice A (([] : List Int)).length ca, .int .i64 cnt, .slice B bs.length cb, .slice O os.length co], .agg #[.int .i64 th, .int .i64 5, .int .i64 arg]] w (SpecPost w ((true, 14, 0, (-1)), (([] : List Int), cnt, bs, os))) := by
  have HA := Lib.hid hA; have HT := Lib.hid hT; have HC := Lib.hid hC; clear hA hT hC
  have HB0 := Lib.hid (below_alloc3 w (.cells #[.slice A (([] : List Int)).length ca, .int .i64 cnt, .slice B bs.length cb, .slice O os.length co] 31) (.cells #[.int .i64 th, .int .i64 5, .int .i64 arg] 35) (.cells #[.slice none 0 0, .int .i64 0, .slice none 0 0, .slice none 0 0] 31))
  have HX := Lib.hid ((BoxC.new 31 w #[.slice A (([] : List Int)).length ca, .int .i64 cnt, .slice B bs.length cb, .slice O os.length co]).below (below_alloc2 _ (.cells #[.int .i64 th, .int .i64 5, .int .i64 arg] 35) (.cells #[.slice none 0 0, .int .i64 0, .slice none 0 0, .slice none 0 0] 31)))
  have HW := Lib.hid (by have h := (BoxC.new 35 (w.alloc (.cells #[.slice A (([] : List Int)).length ca, .int .i64 cnt, .slice B bs.length cb, .slice O os.length co] 31)) #[.int .i64 th, .int .i64 5, .int .i64 arg]).below (below_alloc _ (.cells #[.slice none 0 0, .int .i64 0, .slice none 0 0, .slice none 0 0] 31)); rw [size_alloc] at h; exact h)
  have HR := Lib.hid (by have h := BoxC.new 31 ((w.alloc (.cells #[.slice A (([] : List Int)).length ca, .int .i64 cnt, .slice B bs.length cb, .slice O os.length co] 31)).alloc (.cells #[.int .i64 th, .int .i64 5, .int .i64 arg] 35)) #[.slice none 0 0, .int .i64 0, .slice none 0 0, .slice none 0 0]; rw [size_alloc, size_alloc] at h; exact h)
  have hsz : (((w.alloc (.cells #[.slice A (([] : List Int)).length ca, .int .i64 cnt, .slice B bs.length cb, .slice O os.length co] 31)).alloc (.cells #[.int .i64 th, .int .i64 5, .int .i64 arg] 35)).alloc (.cells #[.slice none 0 0, .int .i64 0, .slice none 0 0, .slice none 0 0] 31)).heap.size = w.heap.size + 1 + 1 + 1 := by simp
  go_enter Try.func51, Try.ntmps51
  have hx := HX.out.cell
  go_wp2_with fail
  refine (l10Own_any _ _ _ _ _ _ ([] : List Int) bs os cnt _ hz ht hc (HA.out.below HB0.out) (HT.out.below HB0.out) (HC.out.below HB0.out)).mono ?_
  rintro e w1 ⟨B1, d1, B2, d2, B3, d3, rfl, hO, hb⟩
  rw [hsz] at hO
  have HB1 := Lib.hid (below_trans HB0.out hb)
  have HX1 := Lib.hid (HX.out.below hb); have HW1 := Lib.hid (HW.out.below hb); have HR1 := Lib.hid (HR.out.below hb)
  have HO1 := Lib.hid hO
  clear hb hO HB0 HX HW HR hx hsz
  go_upto_region 2 with (refine wpList_store_row rfl 31 _ _ rfl w.heap.size _ rfl rfl 31 _ HX1.out info_model rfl (one4m _ _ _ _ _ _ _ _ _ _) ?_)
  have HX2 := Lib.hid (HX1.out.mrow #[.slice B1 (([] : List Int)).length d1, .int .i64 cnt, .slice B2 bs.length d2, .slice B3 os.length d3])
  have HW2 := Lib.hid (HW1.out.mrowO (b := w.heap.size) (by omega) #[.slice B1 (([] : List Int)).length d1, .int .i64 cnt, .slice B2 bs.length d2, .slice B3 os.length d3])
  have HR2 := Lib.hid (HR1.out.mrowO (b := w.heap.size) (by omega) #[.slice B1 (([] : List Int)).length d1, .int .i64 cnt, .slice B2 bs.length d2, .slice B3 os.length d3])
  have HB2 := Lib.hid (below_setRow HB1.out (Nat.le_refl _) #[.slice B1 (([] : List Int)).length d1, .int .i64 cnt, .slice B2 bs.length d2, .slice B3 os.length d3])
  have HO2 := Lib.hid (HO1.out.row (k := w.heap.size) (by omega) #[.slice B1 (([] : List Int)).length d1, .int .i64 cnt, .slice B2 bs.length d2, .slice B3 os.length d3])
  generalize w1.setRow w.heap.size #[.slice B1 (([] : List Int)).length d1, .int .i64 cnt, .slice B2 bs.length d2, .slice B3 os.length d3] = w2 at HX2 HW2 HR2 HB2 HO2 ⊢
  have hz2 : w.heap.size + 1 + 1 < w2.heap.size := HR2.out.lt
  have hy2 : w.heap.size < w2.heap.size := by omega
  have hy2' : w.heap.size + 1 < w2.heap.size := by omega
  clear HX1 HW1 HR1 HB1 HO1
  have HA2 := Lib.hid (SegC.ofI HO2.out.st); have HT2 := Lib.hid (SegC.ofW HO2.out.wt); have HC2 := Lib.hid (SegC.ofW HO2.out.of)
  have hw := HW2.out.cell; have hx := HX2.out.cell; have hf := HX2.out.mfroz
  go_wp2_with (refine wpList_store_row rfl 31 _ _ rfl (w.heap.size + 1 + 1) _ rfl rfl 31 _ HR2.out info_model rfl (one4m _ _ _ _ _ _ _ _ _ _) ?_)
  have hr := (HR2.out.mrow #[.slice B1 (([] : List Int)).length d1, .int .i64 cnt, .slice B2 bs.length d2, .slice B3 os.length d3]).cell
  have hb' := below_setRow HB2.out (Nat.le_trans (Nat.le_succ _) (Nat.le_succ _) : w.heap.size ≤ w.heap.size + 1 + 1) #[.slice B1 (([] : List Int)).length d1, .int .i64 cnt, .slice B2 bs.length d2, .slice B3 os.length d3]
  have hsA := SegC.base (b1 := w.heap.size) (SegC.row (n := (([] : List Int)).length) (c := d1) HA2.out (k := w.heap.size + 1 + 1) (by omega) #[.slice B1 (([] : List Int)).length d1, .int .i64 cnt, .slice B2 bs.length d2, .slice B3 os.length d3]) (by omega)
  have hsB := SegC.base (b1 := w.heap.size) (SegC.row (n := bs.length) (c := d2) HT2.out (k := w.heap.size + 1 + 1) (by omega) #[.slice B1 (([] : List Int)).length d1, .int .i64 cnt, .slice B2 bs.length d2, .slice B3 os.length d3]) (by omega)
  have hsO := SegC.base (b1 := w.heap.size) (SegC.row (n := os.length) (c := d3) HC2.out (k := w.heap.size + 1 + 1) (by omega) #[.slice B1 (([] : List Int)).length d1, .int .i64 cnt, .slice B2 bs.length d2, .slice B3 os.length d3]) (by omega)
  generalize w2.setRow (w.heap.size + 1 + 1) #[.slice B1 (([] : List Int)).length d1, .int .i64 cnt, .slice B2 bs.length d2, .slice B3 os.length d3] = w9 at hr hb' hsA hsB hsO ⊢
  clear hx hf
  refine bodyPost_ret (v := .tuple #[.agg #[.slice B1 (([] : List Int)).length d1, .int .i64 cnt, .slice B2 bs.length d2, .slice B3 os.length d3], .bool true, .int .i64 14, .int .i64 0, .int .i64 (-1)]) (by simp [results, Try.results51, go_sem, hr]) rfl ⟨B1, d1, B2, d2, B3, d3, rfl, hsA, hsB, hsO, hb'⟩

end Go.Proofs.Ythianfhfamkcmaa

namespace Go.Proofs.Ythianfhfamkcmaa
open Go.RowKit

set_option maxHeartbeats 4000000 in
set_option maxRecDepth 100000 in
theorem l10_pop (A B O : Option Addr) (ca cb co : Nat) (z : Int) (r : List Int) (bs os : List Wtr) (cnt th arg : Int) (w : World) (hz : ((z :: r : List Int)).length ≤ 1048576) (ht : bs.length ≤ 1048576) (hc : os.length ≤ 1048576) (hA : Rd w A (z :: r : List Int)) (hT : RdR Wtr.cs w B bs) (hC : RdR Wtr.cs w O os) :
    Calls Try.prog 51 #[.agg #[.slice A ((z :: r : List Int)).length ca, .int .i64 cnt, .slice B bs.length cb, .slice O os.length co], .agg #[.int .i64 th, .int .i64 5, .int .i64 arg]] w (SpecPost w ((true, 0, z, (-1)), (r, cnt, bs, os))) := by
  have HA := Lib.hid hA; have HT := Lib.hid hT; have HC := Lib.hid hC; clear hA hT hC
  have HB0 := Lib.hid (below_alloc3 w (.cells #[.slice A ((z :: r : List Int)).length ca, .int .i64 cnt, .slice B bs.length cb, .slice O os.length co] 31) (.cells #[.int .i64 th, .int .i64 5, .int .i64 arg] 35) (.cells #[.slice none 0 0, .int .i64 0, .slice none 0 0, .slice none 0 0] 31))
  have HX := Lib.hid ((BoxC.new 31 w #[.slice A ((z :: r : List Int)).length ca, .int .i64 cnt, .slice B bs.length cb, .slice O os.length co]).below (below_alloc2 _ (.cells #[.int .i64 th, .int .i64 5, .int .i64 arg] 35) (.cells #[.slice none 0 0, .int .i64 0, .slice none 0 0, .slice none 0 0] 31)))
  have HW := Lib.hid (by have h := (BoxC.new 35 (w.alloc (.cells #[.slice A ((z :: r : List Int)).length ca, .int .i64 cnt, .slice B bs.length cb, .slice O os.length co] 31)) #[.int .i64 th, .int .i64 5, .int .i64 arg]).below (below_alloc _ (.cells #[.slice none 0 0, .int .i64 0, .slice none 0 0, .slice none 0 0] 31)); rw [size_alloc] at h; exact h)
  have HR := Lib.hid (by have h := BoxC.new 31 ((w.alloc (.cells #[.slice A ((z :: r : List Int)).length ca, .int .i64 cnt, .slice B bs.length cb, .slice O os.length co] 31)).alloc (.cells #[.int .i64 th, .int .i64 5, .int .i64 arg] 35)) #[.slice none 0 0, .int .i64 0, .slice none 0 0, .slice none 0 0]; rw [size_alloc, size_alloc] at h; exact h)
  have hsz : (((w.alloc (.cells #[.slice A ((z :: r : List Int)).length ca, .int .i64 cnt, .slice B bs.length cb, .slice O os.length co] 31)).alloc (.cells #[.int .i64 th, .int .i64 5, .int .i64 arg] 35)).alloc (.cells #[.slice none 0 0, .int .i64 0, .slice none 0 0, .slice none 0 0] 31)).heap.size = w.heap.size + 1 + 1 + 1 := by simp
  go_enter Try.func51, Try.ntmps51
  have hx := HX.out.cell
  go_wp2_with fail
  refine (l10Own_any _ _ _ _ _ _ (z :: r : List Int) bs os cnt _ hz ht hc (HA.out.below HB0.out) (HT.out.below HB0.out) (HC.out.below HB0.out)).mono ?_
  rintro e w1 ⟨B1, d1, B2, d2, B3, d3, rfl, hO, hb⟩
  rw [hsz] at hO
  have HB1 := Lib.hid (below_trans HB0.out hb)
  have HX1 := Lib.hid (HX.out.below hb); have HW1 := Lib.hid (HW.out.below hb); have HR1 := Lib.hid (HR.out.below hb)
  have HO1 := Lib.hid hO
  clear hb hO HB0 HX HW HR hx hsz
  go_upto_region 2 with (refine wpList_store_row rfl 31 _ _ rfl w.heap.size _ rfl rfl 31 _ HX1.out info_model rfl (one4m _ _ _ _ _ _ _ _ _ _) ?_)
  have HX2 := Lib.hid (HX1.out.mrow #[.slice B1 ((z :: r : List Int)).length d1, .int .i64 cnt, .slice B2 bs.length d2, .slice B3 os.length d3])
  have HW2 := Lib.hid (HW1.out.mrowO (b := w.heap.size) (by omega) #[.slice B1 ((z :: r : List Int)).length d1, .int .i64 cnt, .slice B2 bs.length d2, .slice B3 os.length d3])
  have HR2 := Lib.hid (HR1.out.mrowO (b := w.heap.size) (by omega) #[.slice B1 ((z :: r : List Int)).length d1, .int .i64 cnt, .slice B2 bs.length d2, .slice B3 os.length d3])
  have HB2 := Lib.hid (below_setRow HB1.out (Nat.le_refl _) #[.slice B1 ((z :: r : List Int)).length d1, .int .i64 cnt, .slice B2 bs.length d2, .slice B3 os.length d3])
  have HO2 := Lib.hid (HO1.out.row (k := w.heap.size) (by omega) #[.slice B1 ((z :: r : List Int)).length d1, .int .i64 cnt, .slice B2 bs.length d2, .slice B3 os.length d3])
  generalize w1.setRow w.heap.size #[.slice B1 ((z :: r : List Int)).length d1, .int .i64 cnt, .slice B2 bs.length d2, .slice B3 os.length d3] = w2 at HX2 HW2 HR2 HB2 HO2 ⊢
  have hz2 : w.heap.size + 1 + 1 < w2.heap.size := HR2.out.lt
  have hy2 : w.heap.size < w2.heap.size := by omega
  have hy2' : w.heap.size + 1 < w2.heap.size := by omega
  clear HX1 HW1 HR1 HB1 HO1
  obtain ⟨i0, hi, hz0, hz1, hz2'⟩ := info_parts Try.infoInt
  have Hi := Lib.hid hi; have Hz0 := Lib.hid hz0; have Hz1 := Lib.hid hz1; have Hz2 := Lib.hid hz2'
  clear hi hz0 hz1 hz2'
  have hx := HX2.out.cell; have hf := HX2.out.mfroz; have hw := HW2.out.cell
  obtain ⟨g, ko, rfl, hcell⟩ := (SegC.ofI HO2.out.st).rd 0 (Nat.succ_pos _)
  have hcell' : w2.cell? ⟨g, ko, none⟩ = some (.int .i64 z) := by simpa using hcell
  have hcap := NewA.capI HO2.out.st
  have hnb : ¬ ((((z :: r : List Int)).length : Int) = 0) := by simp <;> omega
  have hn1 : 1 ≤ ((z :: r : List Int)).length := by simp <;> omega
  have HTL : Hid (SegC (w.heap.size + 1 + 1 + 1) w2 (tailA g ko d1) (ints r)) := Lib.hid (seg_tailI (SegC.ofI HO2.out.st) hcap)
  obtain ⟨TA, hTA⟩ : ∃ TA, tailA g ko d1 = TA := ⟨_, rfl⟩
  have HTA := Lib.hid hTA
  rw [hTA] at HTL
  clear hTA hcell
  by_cases hq1 : d1 = 1
  · skip
    have ht9 : TA = some ⟨g, ko, none⟩ := HTA.out.symm.trans (if_pos hq1)
    subst ht9
    have hcq : (d1 = 1) = True := eq_true hq1
    clear hq1
    go_wp2_with (at_builtin; refine wpList_append_rd _ rfl (.tmp 105) (.tmp 108) 22 rfl w2.heap.size 3 i0 (.int .i64 0) 8 Try.underlying22 Hi.out Hz0.out Hz1.out Hz2.out rfl _ [] rfl (own_empty _ _ _ _ (by simp) (by omega)) _ (d1 - 1) r rfl (HTL.out.rd.below (below_alloc _ _)) ?_ ?_ (by simp) ?_)
    · show ([].length + r.length) * _ ≤ _; simp only [List.length_nil]; simp only [List.length_cons] at hz; omega
    · show [].length + r.length ≤ maxLen; unfold maxLen; simp only [List.length_nil]; simp only [List.length_cons] at hz; omega
    intro F f w3 hown hgr
    have hbe : Below w2.heap.size w2 w3 := (below_alloc _ (.cells #[] 3)).grown hgr (by simp) (by intro q hq; cases hq; simp)
    have HX3 := Lib.hid (HX2.out.below hbe); have HW3 := Lib.hid (HW2.out.below hbe); have HR3 := Lib.hid (HR2.out.below hbe)
    have HB3 := Lib.hid (below_trans HB2.out hbe)
    have HO3 := Lib.hid (HO2.out.below hbe)
    have HN3 : Hid (SegC w2.heap.size w3 F (ints r)) := Lib.hid (SegC.ofI (l := r) hown)
    clear hown hgr hbe hx hf hw hcell' HX2 HW2 HR2 HB2 HO2
    have hf := HX3.out.mfroz; have hx := HX3.out.cell
    go_upto_region 26 with fail
    have HX4 : Hid (BoxC 31 (w3.setCell ⟨w.heap.size, 0, none⟩ (.slice F r.length f)) w.heap.size #[.slice F r.length f, .int .i64 cnt, .slice B2 bs.length d2, .slice B3 os.length d3]) := Lib.hid (HX3.out.mset 0 _)
    have HR4 := Lib.hid (HR3.out.msetO ⟨w.heap.size, 0, none⟩ (.slice F r.length f) (by simp <;> omega))
    have HB4 := Lib.hid (HB3.out.setCell (p := ⟨w.heap.size, 0, none⟩) (Nat.le_refl _) (.slice F r.length f))
    have HA4 := Lib.hid (HN3.out.low (k := w.heap.size) (o := 0) (by omega) (.slice F r.length f))
    have HT4 := Lib.hid ((SegC.ofW HO3.out.wt).low (k := w.heap.size) (o := 0) (by omega) (.slice F r.length f))
    have HC4 := Lib.hid ((SegC.ofW HO3.out.of).low (k := w.heap.size) (o := 0) (by omega) (.slice F r.length f))
    generalize w3.setCell ⟨w.heap.size, 0, none⟩ (.slice F r.length f) = w4 at HX4 HR4 HB4 HA4 HT4 HC4 ⊢
    clear hf hx HX3 HW3 HR3 HB3 HO3 HN3
    have hx := HX4.out.cell; have hf := HX4.out.mfroz
    go_wp2_with (refine wpList_store_row rfl 31 _ _ rfl (w.heap.size + 1 + 1) _ rfl rfl 31 _ HR4.out info_model rfl (one4m _ _ _ _ _ _ _ _ _ _) ?_)
    have hr := (HR4.out.mrow #[.slice F r.length f, .int .i64 cnt, .slice B2 bs.length d2, .slice B3 os.length d3]).cell
    have hb' := below_setRow HB4.out (Nat.le_trans (Nat.le_succ _) (Nat.le_succ _) : w.heap.size ≤ w.heap.size + 1 + 1) #[.slice F r.length f, .int .i64 cnt, .slice B2 bs.length d2, .slice B3 os.length d3]
    have hsA := SegC.base (b1 := w.heap.size) (SegC.row (n := r.length) (c := f) HA4.out (k := w.heap.size + 1 + 1) (by omega) #[.slice F r.length f, .int .i64 cnt, .slice B2 bs.length d2, .slice B3 os.length d3]) (by omega)
    have hsB := SegC.base (b1 := w.heap.size) (SegC.row (n := bs.length) (c := d2) HT4.out (k := w.heap.size + 1 + 1) (by omega) #[.slice F r.length f, .int .i64 cnt, .slice B2 bs.length d2, .slice B3 os.length d3]) (by omega)
    have hsO := SegC.base (b1 := w.heap.size) (SegC.row (n := os.length) (c := d3) HC4.out (k := w.heap.size + 1 + 1) (by omega) #[.slice F r.length f, .int .i64 cnt, .slice B2 bs.length d2, .slice B3 os.length d3]) (by omega)
    generalize w4.setRow (w.heap.size + 1 + 1) #[.slice F r.length f, .int .i64 cnt, .slice B2 bs.length d2, .slice B3 os.length d3] = w9 at hr hb' hsA hsB hsO ⊢
    clear hx hf
    refine bodyPost_ret (v := .tuple #[.agg #[.slice F r.length f, .int .i64 cnt, .slice B2 bs.length d2, .slice B3 os.length d3], .bool true, .int .i64 0, .int .i64 z, .int .i64 (-1)]) (by simp [results, Try.results51, go_sem, hr]) rfl ⟨F, f, B2, d2, B3, d3, rfl, hsA, hsB, hsO, hb'⟩
  · skip
    have ht9 : TA = some ⟨g, ko + 1, none⟩ := HTA.out.symm.trans (if_neg hq1)
    subst ht9
    have hcq : (d1 = 1) = False := eq_false hq1
    clear hq1
    go_wp2_with (at_builtin; refine wpList_append_rd _ rfl (.tmp 105) (.tmp 108) 22 rfl w2.heap.size 3 i0 (.int .i64 0) 8 Try.underlying22 Hi.out Hz0.out Hz1.out Hz2.out rfl _ [] rfl (own_empty _ _ _ _ (by simp) (by omega)) _ (d1 - 1) r rfl (HTL.out.rd.below (below_alloc _ _)) ?_ ?_ (by simp) ?_)
    · show ([].length + r.length) * _ ≤ _; simp only [List.length_nil]; simp only [List.length_cons] at hz; omega
    · show [].length + r.length ≤ maxLen; unfold maxLen; simp only [List.length_nil]; simp only [List.length_cons] at hz; omega
    intro F f w3 hown hgr
    have hbe : Below w2.heap.size w2 w3 := (below_alloc _ (.cells #[] 3)).grown hgr (by simp) (by intro q hq; cases hq; simp)
    have HX3 := Lib.hid (HX2.out.below hbe); have HW3 := Lib.hid (HW2.out.below hbe); have HR3 := Lib.hid (HR2.out.below hbe)
    have HB3 := Lib.hid (below_trans HB2.out hbe)
    have HO3 := Lib.hid (HO2.out.below hbe)
    have HN3 : Hid (SegC w2.heap.size w3 F (ints r)) := Lib.hid (SegC.ofI (l := r) hown)
    clear hown hgr hbe hx hf hw hcell' HX2 HW2 HR2 HB2 HO2
    have hf := HX3.out.mfroz; have hx := HX3.out.cell
    go_upto_region 26 with fail
    have HX4 : Hid (BoxC 31 (w3.setCell ⟨w.heap.size, 0, none⟩ (.slice F r.length f)) w.heap.size #[.slice F r.length f, .int .i64 cnt, .slice B2 bs.length d2, .slice B3 os.length d3]) := Lib.hid (HX3.out.mset 0 _)
    have HR4 := Lib.hid (HR3.out.msetO ⟨w.heap.size, 0, none⟩ (.slice F r.length f) (by simp <;> omega))
    have HB4 := Lib.hid (HB3.out.setCell (p := ⟨w.heap.size, 0, none⟩) (Nat.le_refl _) (.slice F r.length f))
    have HA4 := Lib.hid (HN3.out.low (k := w.heap.size) (o := 0) (by omega) (.slice F r.length f))
    have HT4 := Lib.hid ((SegC.ofW HO3.out.wt).low (k := w.heap.size) (o := 0) (by omega) (.slice F r.length f))
    have HC4 := Lib.hid ((SegC.ofW HO3.out.of).low (k := w.heap.size) (o := 0) (by omega) (.slice F r.length f))
    generalize w3.setCell ⟨w.heap.size, 0, none⟩ (.slice F r.length f) = w4 at HX4 HR4 HB4 HA4 HT4 HC4 ⊢
    clear hf hx HX3 HW3 HR3 HB3 HO3 HN3
    have hx := HX4.out.cell; have hf := HX4.out.mfroz
    go_wp2_with (refine wpList_store_row rfl 31 _ _ rfl (w.heap.size + 1 + 1) _ rfl rfl 31 _ HR4.out info_model rfl (one4m _ _ _ _ _ _ _ _ _ _) ?_)
    have hr := (HR4.out.mrow #[.slice F r.length f, .int .i64 cnt, .slice B2 bs.length d2, .slice B3 os.length d3]).cell
    have hb' := below_setRow HB4.out (Nat.le_trans (Nat.le_succ _) (Nat.le_succ _) : w.heap.size ≤ w.heap.size + 1 + 1) #[.slice F r.length f, .int .i64 cnt, .slice B2 bs.length d2, .slice B3 os.length d3]
    have hsA := SegC.base (b1 := w.heap.size) (SegC.row (n := r.length) (c := f) HA4.out (k := w.heap.size + 1 + 1) (by omega) #[.slice F r.length f, .int .i64 cnt, .slice B2 bs.length d2, .slice B3 os.length d3]) (by omega)
    have hsB := SegC.base (b1 := w.heap.size) (SegC.row (n := bs.length) (c := d2) HT4.out (k := w.heap.size + 1 + 1) (by omega) #[.slice F r.length f, .int .i64 cnt, .slice B2 bs.length d2, .slice B3 os.length d3]) (by omega)
    have hsO := SegC.base (b1 := w.heap.size) (SegC.row (n := os.length) (c := d3) HC4.out (k := w.heap.size + 1 + 1) (by omega) #[.slice F r.length f, .int .i64 cnt, .slice B2 bs.length d2, .slice B3 os.length d3]) (by omega)
    generalize w4.setRow (w.heap.size + 1 + 1) #[.slice F r.length f, .int .i64 cnt, .slice B2 bs.length d2, .slice B3 os.length d3] = w9 at hr hb' hsA hsB hsO ⊢
    clear hx hf
    refine bodyPost_ret (v := .tuple #[.agg #[.slice F r.length f, .int .i64 cnt, .slice B2 bs.length d2, .slice B3 os.length d3], .bool true, .int .i64 0, .int .i64 z, .int .i64 (-1)]) (by simp [results, Try.results51, go_sem, hr]) rfl ⟨F, f, B2, d2, B3, d3, rfl, hsA, hsB, hsO, hb'⟩

end Go.Proofs.Ythianfhfamkcmaa
