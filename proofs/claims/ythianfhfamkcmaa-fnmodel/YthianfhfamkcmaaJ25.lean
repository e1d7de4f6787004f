/-
  Models (chapter 11): the model's l10Call, one way of it.
  Models (chapter 11): the model's l10Call, one way of it.
  Models (chapter 11): the model's l10Call, one way of it.
  Waiters, and lists of them and of ints, compared.
-/
import Derived.BigQuiet
import Derived.Test.YthianfhfamkcmaaJ20
import Derived.Test.YthianfhfamkcmaaJ10
import Derived.Test.YthianfhfamkcmaaJ03
namespace Go.Proofs.Ythianfhfamkcmaa
open Go.RowKit

set_option maxHeartbeats 4000000 in
set_option maxRecDepth 100000 in
theorem l10_push (A B O : Option Addr) (ca cb co : Nat) (zs : List Int) (bs os : List Wtr) (cnt th arg : Int) (w : World) (hz : zs.length ≤ 1048576) (ht : bs.length ≤ 1048576) (hc : os.length ≤ 1048576) (hA : Rd w A zs) (hT : RdR Wtr.cs w B bs) (hC : RdR Wtr.cs w O os) :
    Calls Try.prog 51 #[.agg #[.slice A zs.length ca, .int .i64 cnt, .slice B bs.length cb, .slice O os.length co], .agg #[.int .i64 th, .int .i64 4, .int .i64 arg]] w (SpecPost w ((true, 0, arg, (-1)), ((arg :: zs), cnt, bs, os))) := by
  have HA := Lib.hid hA; have HT := Lib.hid hT; have HC := Lib.hid hC; clear hA hT hC
  have HB0 := Lib.hid (below_alloc3 w (.cells #[.slice A zs.length ca, .int .i64 cnt, .slice B bs.length cb, .slice O os.length co] 31) (.cells #[.int .i64 th, .int .i64 4, .int .i64 arg] 35) (.cells #[.slice none 0 0, .int .i64 0, .slice none 0 0, .slice none 0 0] 31))
  have HX := Lib.hid ((BoxC.new 31 w #[.slice A zs.length ca, .int .i64 cnt, .slice B bs.length cb, .slice O os.length co]).below (below_alloc2 _ (.cells #[.int .i64 th, .int .i64 4, .int .i64 arg] 35) (.cells #[.slice none 0 0, .int .i64 0, .slice none 0 0, .slice none 0 0] 31)))
  have HW := Lib.hid (by have h := (BoxC.new 35 (w.alloc (.cells #[.slice A zs.length ca, .int .i64 cnt, .slice B bs.length cb, .slice O os.length co] 31)) #[.int .i64 th, .int .i64 4, .int .i64 arg]).below (below_alloc _ (.cells #[.slice none 0 0, .int .i64 0, .slice none 0 0, .slice none 0 0] 31)); rw [size_alloc] at h; exact h)
  have HR := Lib.hid (by have h := BoxC.new 31 ((w.alloc (.cells #[.slice A zs.length ca, .int .i64 cnt, .slice B bs.length cb, .slice O os.length co] 31)).alloc (.cells #[.int .i64 th, .int .i64 4, .int .i64 arg] 35)) #[.slice none 0 0, .int .i64 0, .slice none 0 0, .slice none 0 0]; rw [size_alloc, size_alloc] at h; exact h)
  have hsz : (((w.alloc (.cells #[.slice A zs.length ca, .int .i64 cnt, .slice B bs.length cb, .slice O os.length co] 31)).alloc (.cells #[.int .i64 th, .int .i64 4, .int .i64 arg] 35)).alloc (.cells #[.slice none 0 0, .int .i64 0, .slice none 0 0, .slice none 0 0] 31)).heap.size = w.heap.size + 1 + 1 + 1 := by simp
  go_enter Try.func51, Try.ntmps51
  have hx := HX.out.cell
  go_wp2_with fail
  refine (l10Own_any _ _ _ _ _ _ zs bs os cnt _ hz ht hc (HA.out.below HB0.out) (HT.out.below HB0.out) (HC.out.below HB0.out)).mono ?_
  rintro e w1 ⟨B1, d1, B2, d2, B3, d3, rfl, hO, hb⟩
  rw [hsz] at hO
  have HB1 := Lib.hid (below_trans HB0.out hb)
  have HX1 := Lib.hid (HX.out.below hb); have HW1 := Lib.hid (HW.out.below hb); have HR1 := Lib.hid (HR.out.below hb)
  have HO1 := Lib.hid hO
  clear hb hO HB0 HX HW HR hx hsz
  go_upto_region 2 with (refine wpList_store_row rfl 31 _ _ rfl w.heap.size _ rfl rfl 31 _ HX1.out info_model rfl (one4m _ _ _ _ _ _ _ _ _ _) ?_)
  have HX2 := Lib.hid (HX1.out.mrow #[.slice B1 zs.length d1, .int .i64 cnt, .slice B2 bs.length d2, .slice B3 os.length d3])
  have HW2 := Lib.hid (HW1.out.mrowO (b := w.heap.size) (by omega) #[.slice B1 zs.length d1, .int .i64 cnt, .slice B2 bs.length d2, .slice B3 os.length d3])
  have HR2 := Lib.hid (HR1.out.mrowO (b := w.heap.size) (by omega) #[.slice B1 zs.length d1, .int .i64 cnt, .slice B2 bs.length d2, .slice B3 os.length d3])
  have HB2 := Lib.hid (below_setRow HB1.out (Nat.le_refl _) #[.slice B1 zs.length d1, .int .i64 cnt, .slice B2 bs.length d2, .slice B3 os.length d3])
  have HO2 := Lib.hid (HO1.out.row (k := w.heap.size) (by omega) #[.slice B1 zs.length d1, .int .i64 cnt, .slice B2 bs.length d2, .slice B3 os.length d3])
  generalize w1.setRow w.heap.size #[.slice B1 zs.length d1, .int .i64 cnt, .slice B2 bs.length d2, .slice B3 os.length d3] = w2 at HX2 HW2 HR2 HB2 HO2 ⊢
  have hz2 : w.heap.size + 1 + 1 < w2.heap.size := HR2.out.lt
  have hy2 : w.heap.size < w2.heap.size := by omega
  have hy2' : w.heap.size + 1 < w2.heap.size := by omega
  clear HX1 HW1 HR1 HB1 HO1
  obtain ⟨i0, hi, hz0, hz1, hz2'⟩ := info_parts Try.infoInt
  have Hi := Lib.hid hi; have Hz0 := Lib.hid hz0; have Hz1 := Lib.hid hz1; have Hz2 := Lib.hid hz2'
  clear hi hz0 hz1 hz2'
  have hx := HX2.out.cell; have hf := HX2.out.mfroz
  have hw := HW2.out.cell
  go_wp2_with (at_builtin; refine wpList_append_rd _ rfl (.tmp 86) (.tmp 88) 22 rfl w2.heap.size 3 i0 (.int .i64 0) 8 Try.underlying22 Hi.out Hz0.out Hz1.out Hz2.out rfl _ [arg] rfl (NewA.one w2 arg) _ _ zs rfl ((SegC.ofI HO2.out.st).rd.below (below_alloc _ _)) ?_ ?_ (by simp) ?_)
  · show ([arg].length + zs.length) * _ ≤ _; simp only [List.length_cons, List.length_nil]; omega
  · show [arg].length + zs.length ≤ maxLen; unfold maxLen; simp only [List.length_cons, List.length_nil]; omega
  intro F f w3 hown hgr
  have hbe : Below w2.heap.size w2 w3 := (below_alloc _ (.cells #[.int .i64 arg] 3)).grown hgr (by simp) (by intro q hq; cases hq; simp)
  have HX3 := Lib.hid (HX2.out.below hbe); have HW3 := Lib.hid (HW2.out.below hbe); have HR3 := Lib.hid (HR2.out.below hbe)
  have HB3 := Lib.hid (below_trans HB2.out hbe)
  have HO3 := Lib.hid (HO2.out.below hbe)
  have HN3 : Hid (SegC w2.heap.size w3 F (ints (arg :: zs))) := Lib.hid (SegC.ofI (l := arg :: zs) hown)
  clear hown hgr hbe hx hf hw HX2 HW2 HR2 HB2 HO2
  have hf := HX3.out.mfroz; have hx := HX3.out.cell
  go_upto_region 20 with fail
  have HX4 : Hid (BoxC 31 (w3.setCell ⟨w.heap.size, 0, none⟩ (.slice F (arg :: zs).length f)) w.heap.size #[.slice F (arg :: zs).length f, .int .i64 cnt, .slice B2 bs.length d2, .slice B3 os.length d3]) := Lib.hid (HX3.out.mset 0 _)
  have HR4 := Lib.hid (HR3.out.msetO ⟨w.heap.size, 0, none⟩ (.slice F (arg :: zs).length f) (by simp <;> omega))
  have HW4 := Lib.hid (HW3.out.msetO ⟨w.heap.size, 0, none⟩ (.slice F (arg :: zs).length f) (by simp <;> omega))
  have HB4 := Lib.hid (HB3.out.setCell (p := ⟨w.heap.size, 0, none⟩) (Nat.le_refl _) (.slice F (arg :: zs).length f))
  have HA4 := Lib.hid (HN3.out.low (k := w.heap.size) (o := 0) (by omega) (.slice F (arg :: zs).length f))
  have HT4 := Lib.hid ((SegC.ofW HO3.out.wt).low (k := w.heap.size) (o := 0) (by omega) (.slice F (arg :: zs).length f))
  have HC4 := Lib.hid ((SegC.ofW HO3.out.of).low (k := w.heap.size) (o := 0) (by omega) (.slice F (arg :: zs).length f))
  have hF0 : w3.setCell ⟨w.heap.size, 0, none⟩ (.slice F ([arg] ++ zs).length f) = w3.setCell ⟨w.heap.size, 0, none⟩ (.slice F (arg :: zs).length f) := rfl
  try rw [hF0]
  generalize w3.setCell ⟨w.heap.size, 0, none⟩ (.slice F (arg :: zs).length f) = w4 at HX4 HR4 HW4 HB4 HA4 HT4 HC4 ⊢
  clear hf hx hF0 HX3 HW3 HR3 HB3 HO3 HN3
  have h0 := HX4.out.cell; have h1 := HW4.out.cell; have hr := HR4.out.cell; have hf := HR4.out.mfroz
  have hk0 : ¬ w.heap.size + 1 + 1 = w.heap.size := by omega
  have hk1 : ¬ w.heap.size + 1 + 1 = (w.heap.size + 1) := by omega
  go_wp2_with fail
  go_region_held3 (fun w' => (∀ j : Nat, w'.cell? ⟨w.heap.size, j, none⟩ = (#[.slice F (arg :: zs).length f, .int .i64 cnt, .slice B2 bs.length d2, .slice B3 os.length d3] : Array Value)[j]?) ∧ (∀ j : Nat, w'.cell? ⟨(w.heap.size + 1), j, none⟩ = (#[.int .i64 th, .int .i64 4, .int .i64 arg] : Array Value)[j]?))
    (first | exact ⟨h0, h1⟩ | (refine ⟨?_, ?_⟩ <;> (repeat (first | (with_reducible refine cellsK (by assumption) ?_) | (with_reducible refine cellsD ?_))) <;> assumption))
    (first | fail)
  all_goals
    have hb' : Below w.heap.size w ((((w4.setCell ⟨w.heap.size + 1 + 1, 0, none⟩ (.slice F ((arg :: zs)).length f)).setCell ⟨w.heap.size + 1 + 1, 1, none⟩ (.int .i64 cnt)).setCell ⟨w.heap.size + 1 + 1, 2, none⟩ (.slice B2 bs.length d2)).setCell ⟨w.heap.size + 1 + 1, 3, none⟩ (.slice B3 os.length d3)).drew := by
      refine Below.drew ?_
      repeat (refine Below.setCell ?_ (by simp <;> omega) _)
      exact HB4.out
    have hr' : BoxC 31 ((((w4.setCell ⟨w.heap.size + 1 + 1, 0, none⟩ (.slice F ((arg :: zs)).length f)).setCell ⟨w.heap.size + 1 + 1, 1, none⟩ (.int .i64 cnt)).setCell ⟨w.heap.size + 1 + 1, 2, none⟩ (.slice B2 bs.length d2)).setCell ⟨w.heap.size + 1 + 1, 3, none⟩ (.slice B3 os.length d3)).drew (w.heap.size + 1 + 1) #[.slice F ((arg :: zs)).length f, .int .i64 cnt, .slice B2 bs.length d2, .slice B3 os.length d3] := BoxC.drewG ((((HR4.out.mset 0 _).mset 1 _).mset 2 _).mset 3 _)
    have hsA := SegC.drewG (SegC.base (b1 := w.heap.size) ((((HA4.out.low (k := w.heap.size + 1 + 1) (o := 0) (by omega) (.slice F ((arg :: zs)).length f)).low (k := w.heap.size + 1 + 1) (o := 1) (by omega) (.int .i64 cnt)).low (k := w.heap.size + 1 + 1) (o := 2) (by omega) (.slice B2 bs.length d2)).low (k := w.heap.size + 1 + 1) (o := 3) (by omega) (.slice B3 os.length d3)) (by omega))
    have hsB := SegC.drewG (SegC.base (b1 := w.heap.size) ((((HT4.out.low (k := w.heap.size + 1 + 1) (o := 0) (by omega) (.slice F ((arg :: zs)).length f)).low (k := w.heap.size + 1 + 1) (o := 1) (by omega) (.int .i64 cnt)).low (k := w.heap.size + 1 + 1) (o := 2) (by omega) (.slice B2 bs.length d2)).low (k := w.heap.size + 1 + 1) (o := 3) (by omega) (.slice B3 os.length d3)) (by omega))
    have hsO := SegC.drewG (SegC.base (b1 := w.heap.size) ((((HC4.out.low (k := w.heap.size + 1 + 1) (o := 0) (by omega) (.slice F ((arg :: zs)).length f)).low (k := w.heap.size + 1 + 1) (o := 1) (by omega) (.int .i64 cnt)).low (k := w.heap.size + 1 + 1) (o := 2) (by omega) (.slice B2 bs.length d2)).low (k := w.heap.size + 1 + 1) (o := 3) (by omega) (.slice B3 os.length d3)) (by omega))
    generalize ((((w4.setCell ⟨w.heap.size + 1 + 1, 0, none⟩ (.slice F ((arg :: zs)).length f)).setCell ⟨w.heap.size + 1 + 1, 1, none⟩ (.int .i64 cnt)).setCell ⟨w.heap.size + 1 + 1, 2, none⟩ (.slice B2 bs.length d2)).setCell ⟨w.heap.size + 1 + 1, 3, none⟩ (.slice B3 os.length d3)).drew = w9 at hb' hr' hsA hsB hsO ⊢
    have hr9 := hr'.cell
    clear hr' hr hf h0 h1
    go_wp2_with fail
    refine bodyPost_ret (v := .tuple #[.agg #[.slice F ((arg :: zs)).length f, .int .i64 cnt, .slice B2 bs.length d2, .slice B3 os.length d3], .bool true, .int .i64 0, .int .i64 arg, .int .i64 (-1)]) (by simp [results, Try.results51, go_sem, hr9]) rfl ⟨F, f, B2, d2, B3, d3, rfl, hsA, hsB, hsO, hb'⟩

end Go.Proofs.Ythianfhfamkcmaa

namespace Go.Proofs.Ythianfhfamkcmaa
open Go.RowKit

set_option maxHeartbeats 4000000 in
set_option maxRecDepth 100000 in
theorem l10_popN (A B O : Option Addr) (ca cb co : Nat) (bs os : List Wtr) (cnt th arg : Int) (w : World) (hz : (([] : List Int)).length ≤ 1048576) (ht : bs.length ≤ 1048576) (hc : os.length ≤ 1048576) (hA : Rd w A ([] : List Int)) (hT : RdR Wtr.cs w B bs) (hC : RdR Wtr.cs w O os) :
    Calls Try.prog 51 #[.agg #[.slice A (([] : List Int)).length ca, .int .i64 cnt, .slice B bs.length cb, .slice O os.length co], .agg #[.int .i64 th, .int .i64 5, .int .i64 arg]] w (SpecPost w ((true, 14, 0, (-1)), (([] : List Int), cnt, bs, os))) := by
  have HA := Lib.hid hA; have HT := Lib.hid hT; have HC := Lib.hid hC; clear hA hT hC
  have HB0 := Lib.hid (below_alloc3 w (.cells #[.slice A (([] : List Int)).length ca, .int .i64 cnt, .slice B bs.length cb, .slice O os.length co] 31) (.cells #[.int .i64 th, .int .i64 5, .int .i64 arg] 35) (.cells #[.slice none 0 0, .int .i64 0, .slice none 0 0, .slice none 0 0] 31))
  have HX := Lib.hid ((BoxC.new 31 w #[.slice A (([] : List Int)).length ca, .int .i64 cnt, .slice B bs.length cb, .slice O os.length co]).below (below_alloc2 _ (.cells #[.int .i64 th, .int .i64 5, .int .i64 arg] 35) (.cells #[.slice none 0 0, .int .i64 0, .slice none 0 0, .slice none 0 0] 31)))
  have HW := Lib.hid (by have h := (BoxC.new 35 (w.alloc (.cells #[.slice A (([] : List Int)).length ca, .int .i64 cnt, .slice B bs.length cb, .slice O os.length co] 31)) #[.int .i64 th, .int .i64 5, .int .i64 arg]).below (below_alloc _ (.cells #[.slice none 0 0, .int .i64 0, .slice none 0 0, .slice none 0 0] 31)); rw [size_alloc] at h; exact h)
  have HR := Lib.hid (by have h := BoxC.new 31 ((w.alloc (.cells #[.slice A (([] : List Int)).length ca, .int .i64 cnt, .slice B bs.length cb, .slice O os.length co] 31)).alloc (.cells #[.int .i64 th, .int .i64 5, .int .i64 arg] 35)) #[.slice none 0 0, .int .i64 0, .slice none 0 0, .slice none 0 0]; rw [size_alloc, size_alloc] at h; exact h)
  have hsz : (((w.alloc (.cells #[.slice A (([] : List Int)).length ca, .int .i64 cnt, .slice B bs.length cb, .slice O os.length co] 31)).alloc (.cells #[.int .i64 th, .int .i64 5, .int .i64 arg] 35)).alloc (.cells #[.slice none 0 0, .int .i64 0, .slice none 0 0, .slice none 0 0] 31)).heap.size = w.heap.size + 1 + 1 + 1 := by simp
  go_enter Try.func51, Try.ntmps51
  have hx := HX.out.cell
  go_wp2_with fail
  refine (l10Own_any _ _ _ _ _ _ ([] : List Int) bs os cnt _ hz ht hc (HA.out.below HB0.out) (HT.out.below HB0.out) (HC.out.below HB0.out)).mono ?_
  rintro e w1 ⟨B1, d1, B2, d2, B3, d3, rfl, hO, hb⟩
  rw [hsz] at hO
  have HB1 := Lib.hid (below_trans HB0.out hb)
  have HX1 := Lib.hid (HX.out.below hb); have HW1 := Lib.hid (HW.out.below hb); have HR1 := Lib.hid (HR.out.below hb)
  have HO1 := Lib.hid hO
  clear hb hO HB0 HX HW HR hx hsz
  go_upto_region 2 with (refine wpList_store_row rfl 31 _ _ rfl w.heap.size _ rfl rfl 31 _ HX1.out info_model rfl (one4m _ _ _ _ _ _ _ _ _ _) ?_)
  have HX2 := Lib.hid (HX1.out.mrow #[.slice B1 (([] : List Int)).length d1, .int .i64 cnt, .slice B2 bs.length d2, .slice B3 os.length d3])
  have HW2 := Lib.hid (HW1.out.mrowO (b := w.heap.size) (by omega) #[.slice B1 (([] : List Int)).length d1, .int .i64 cnt, .slice B2 bs.length d2, .slice B3 os.length d3])
  have HR2 := Lib.hid (HR1.out.mrowO (b := w.heap.size) (by omega) #[.slice B1 (([] : List Int)).length d1, .int .i64 cnt, .slice B2 bs.length d2, .slice B3 os.length d3])
  have HB2 := Lib.hid (below_setRow HB1.out (Nat.le_refl _) #[.slice B1 (([] : List Int)).length d1, .int .i64 cnt, .slice B2 bs.length d2, .slice B3 os.length d3])
  have HO2 := Lib.hid (HO1.out.row (k := w.heap.size) (by omega) #[.slice B1 (([] : List Int)).length d1, .int .i64 cnt, .slice B2 bs.length d2, .slice B3 os.length d3])
  generalize w1.setRow w.heap.size #[.slice B1 (([] : List Int)).length d1, .int .i64 cnt, .slice B2 bs.length d2, .slice B3 os.length d3] = w2 at HX2 HW2 HR2 HB2 HO2 ⊢
  have hz2 : w.heap.size + 1 + 1 < w2.heap.size := HR2.out.lt
  have hy2 : w.heap.size < w2.heap.size := by omega
  have hy2' : w.heap.size + 1 < w2.heap.size := by omega
  clear HX1 HW1 HR1 HB1 HO1
  have HA2 := Lib.hid (SegC.ofI HO2.out.st); have HT2 := Lib.hid (SegC.ofW HO2.out.wt); have HC2 := Lib.hid (SegC.ofW HO2.out.of)
  have hw := HW2.out.cell; have hx := HX2.out.cell; have hf := HX2.out.mfroz
  go_wp2_with (refine wpList_store_row rfl 31 _ _ rfl (w.heap.size + 1 + 1) _ rfl rfl 31 _ HR2.out info_model rfl (one4m _ _ _ _ _ _ _ _ _ _) ?_)
  have hr := (HR2.out.mrow #[.slice B1 (([] : List Int)).length d1, .int .i64 cnt, .slice B2 bs.length d2, .slice B3 os.length d3]).cell
  have hb' := below_setRow HB2.out (Nat.le_trans (Nat.le_succ _) (Nat.le_succ _) : w.heap.size ≤ w.heap.size + 1 + 1) #[.slice B1 (([] : List Int)).length d1, .int .i64 cnt, .slice B2 bs.length d2, .slice B3 os.length d3]
  have hsA := SegC.base (b1 := w.heap.size) (SegC.row (n := (([] : List Int)).length) (c := d1) HA2.out (k := w.heap.size + 1 + 1) (by omega) #[.slice B1 (([] : List Int)).length d1, .int .i64 cnt, .slice B2 bs.length d2, .slice B3 os.length d3]) (by omega)
  have hsB := SegC.base (b1 := w.heap.size) (SegC.row (n := bs.length) (c := d2) HT2.out (k := w.heap.size + 1 + 1) (by omega) #[.slice B1 (([] : List Int)).length d1, .int .i64 cnt, .slice B2 bs.length d2, .slice B3 os.length d3]) (by omega)
  have hsO := SegC.base (b1 := w.heap.size) (SegC.row (n := os.length) (c := d3) HC2.out (k := w.heap.size + 1 + 1) (by omega) #[.slice B1 (([] : List Int)).length d1, .int .i64 cnt, .slice B2 bs.length d2, .slice B3 os.length d3]) (by omega)
  generalize w2.setRow (w.heap.size + 1 + 1) #[.slice B1 (([] : List Int)).length d1, .int .i64 cnt, .slice B2 bs.length d2, .slice B3 os.length d3] = w9 at hr hb' hsA hsB hsO ⊢
  clear hx hf
  refine bodyPost_ret (v := .tuple #[.agg #[.slice B1 (([] : List Int)).length d1, .int .i64 cnt, .slice B2 bs.length d2, .slice B3 os.length d3], .bool true, .int .i64 14, .int .i64 0, .int .i64 (-1)]) (by simp [results, Try.results51, go_sem, hr]) rfl ⟨B1, d1, B2, d2, B3, d3, rfl, hsA, hsB, hsO, hb'⟩

end Go.Proofs.Ythianfhfamkcmaa

namespace Go.Proofs.Ythianfhfamkcmaa
open Go.RowKit

set_option maxHeartbeats 4000000 in
set_option maxRecDepth 100000 in
theorem l10_pop (A B O : Option Addr) (ca cb co : Nat) (z : Int) (r : List Int) (bs os : List Wtr) (cnt th arg : Int) (w : World) (hz : ((z :: r : List Int)).length ≤ 1048576) (ht : bs.length ≤ 1048576) (hc : os.length ≤ 1048576) (hA : Rd w A (z :: r : List Int)) (hT : RdR Wtr.cs w B bs) (hC : RdR Wtr.cs w O os) :
    Calls Try.prog 51 #[.agg #[.slice A ((z :: r : List Int)).length ca, .int .i64 cnt, .slice B bs.length cb, .slice O os.length co], .agg #[.int .i64 th, .int .i64 5, .int .i64 arg]] w (SpecPost w ((true, 0, z, (-1)), (r, cnt, bs, os))) := by
  have HA := Lib.hid hA; have HT := Lib.hid hT; have HC := Lib.hid hC; clear hA hT hC
  have HB0 := Lib.hid (below_alloc3 w (.cells #[.slice A ((z :: r : List Int)).length ca, .int .i64 cnt, .slice B bs.length cb, .slice O os.length co] 31) (.cells #[.int .i64 th, .int .i64 5, .int .i64 arg] 35) (.cells #[.slice none 0 0, .int .i64 0, .slice none 0 0, .slice none 0 0] 31))
  have HX := Lib.hid ((BoxC.new 31 w #[.slice A ((z :: r : List Int)).length ca, .int .i64 cnt, .slice B bs.length cb, .slice O os.length co]).below (below_alloc2 _ (.cells #[.int .i64 th, .int .i64 5, .int .i64 arg] 35) (.cells #[.slice none 0 0, .int .i64 0, .slice none 0 0, .slice none 0 0] 31)))
  have HW := Lib.hid (by have h := (BoxC.new 35 (w.alloc (.cells #[.slice A ((z :: r : List Int)).length ca, .int .i64 cnt, .slice B bs.length cb, .slice O os.length co] 31)) #[.int .i64 th, .int .i64 5, .int .i64 arg]).below (below_alloc _ (.cells #[.slice none 0 0, .int .i64 0, .slice none 0 0, .slice none 0 0] 31)); rw [size_alloc] at h; exact h)
  have HR := Lib.hid (by have h := BoxC.new 31 ((w.alloc (.cells #[.slice A ((z :: r : List Int)).length ca, .int .i64 cnt, .slice B bs.length cb, .slice O os.length co] 31)).alloc (.cells #[.int .i64 th, .int .i64 5, .int .i64 arg] 35)) #[.slice none 0 0, .int .i64 0, .slice none 0 0, .slice none 0 0]; rw [size_alloc, size_alloc] at h; exact h)
  have hsz : (((w.alloc (.cells #[.slice A ((z :: r : List Int)).length ca, .int .i64 cnt, .slice B bs.length cb, .slice O os.length co] 31)).alloc (.cells #[.int .i64 th, .int .i64 5, .int .i64 arg] 35)).alloc (.cells #[.slice none 0 0, .int .i64 0, .slice none 0 0, .slice none 0 0] 31)).heap.size = w.heap.size + 1 + 1 + 1 := by simp
  go_enter Try.func51, Try.ntmps51
  have hx := HX.out.cell
  go_wp2_with fail
  refine (l10Own_any _ _ _ _ _ _ (z :: r : List Int) bs os cnt _ hz ht hc (HA.out.below HB0.out) (HT.out.below HB0.out) (HC.out.below HB0.out)).mono ?_
  rintro e w1 ⟨B1, d1, B2, d2, B3, d3, rfl, hO, hb⟩
  rw [hsz] at hO
  have HB1 := Lib.hid (below_trans HB0.out hb)
  have HX1 := Lib.hid (HX.out.below hb); have HW1 := Lib.hid (HW.out.below hb); have HR1 := Lib.hid (HR.out.below hb)
  have HO1 := Lib.hid hO
  clear hb hO HB0 HX HW HR hx hsz
  go_upto_region 2 with (refine wpList_store_row rfl 31 _ _ rfl w.heap.size _ rfl rfl 31 _ HX1.out info_model rfl (one4m _ _ _ _ _ _ _ _ _ _) ?_)
  have HX2 := Lib.hid (HX1.out.mrow #[.slice B1 ((z :: r : List Int)).length d1, .int .i64 cnt, .slice B2 bs.length d2, .slice B3 os.length d3])
  have HW2 := Lib.hid (HW1.out.mrowO (b := w.heap.size) (by omega) #[.slice B1 ((z :: r : List Int)).length d1, .int .i64 cnt, .slice B2 bs.length d2, .slice B3 os.length d3])
  have HR2 := Lib.hid (HR1.out.mrowO (b := w.heap.size) (by omega) #[.slice B1 ((z :: r : List Int)).length d1, .int .i64 cnt, .slice B2 bs.length d2, .slice B3 os.length d3])
  have HB2 := Lib.hid (below_setRow HB1.out (Nat.le_refl _) #[.slice B1 ((z :: r : List Int)).length d1, .int .i64 cnt, .slice B2 bs.length d2, .slice B3 os.length d3])
  have HO2 := Lib.hid (HO1.out.row (k := w.heap.size) (by omega) #[.slice B1 ((z :: r : List Int)).length d1, .int .i64 cnt, .slice B2 bs.length d2, .slice B3 os.length d3])
  generalize w1.setRow w.heap.size #[.slice B1 ((z :: r : List Int)).length d1, .int .i64 cnt, .slice B2 bs.length d2, .slice B3 os.length d3] = w2 at HX2 HW2 HR2 HB2 HO2 ⊢
  have hz2 : w.heap.size + 1 + 1 < w2.heap.size := HR2.out.lt
  have hy2 : w.heap.size < w2.heap.size := by omega
  have hy2' : w.heap.size + 1 < w2.heap.size := by omega
  clear HX1 HW1 HR1 HB1 HO1
  obtain ⟨i0, hi, hz0, hz1, hz2'⟩ := info_parts Try.infoInt
  have Hi := Lib.hid hi; have Hz0 := Lib.hid hz0; have Hz1 := Lib.hid hz1; have Hz2 := Lib.hid hz2'
  clear hi hz0 hz1 hz2'
  have hx := HX2.out.cell; have hf := HX2.out.mfroz; have hw := HW2.out.cell
  obtain ⟨g, ko, rfl, hcell⟩ := (SegC.ofI HO2.out.st).rd 0 (Nat.succ_pos _)
  have hcell' : w2.cell? ⟨g, ko, none⟩ = some (.int .i64 z) := by simpa using hcell
  have hcap := NewA.capI HO2.out.st
  have hnb : ¬ ((((z :: r : List Int)).length : Int) = 0) := by simp <;> omega
  have hn1 : 1 ≤ ((z :: r : List Int)).length := by simp <;> omega
  have HTL : Hid (SegC (w.heap.size + 1 + 1 + 1) w2 (tailA g ko d1) (ints r)) := Lib.hid (seg_tailI (SegC.ofI HO2.out.st) hcap)
  obtain ⟨TA, hTA⟩ : ∃ TA, tailA g ko d1 = TA := ⟨_, rfl⟩
  have HTA := Lib.hid hTA
  rw [hTA] at HTL
  clear hTA hcell
  by_cases hq1 : d1 = 1
  · skip
    have ht9 : TA = some ⟨g, ko, none⟩ := HTA.out.symm.trans (if_pos hq1)
    subst ht9
    have hcq : (d1 = 1) = True := eq_true hq1
    clear hq1
    go_wp2_with (at_builtin; refine wpList_append_rd _ rfl (.tmp 105) (.tmp 108) 22 rfl w2.heap.size 3 i0 (.int .i64 0) 8 Try.underlying22 Hi.out Hz0.out Hz1.out Hz2.out rfl _ [] rfl (own_empty _ _ _ _ (by simp) (by omega)) _ (d1 - 1) r rfl (HTL.out.rd.below (below_alloc _ _)) ?_ ?_ (by simp) ?_)
    · show ([].length + r.length) * _ ≤ _; simp only [List.length_nil]; simp only [List.length_cons] at hz; omega
    · show [].length + r.length ≤ maxLen; unfold maxLen; simp only [List.length_nil]; simp only [List.length_cons] at hz; omega
    intro F f w3 hown hgr
    have hbe : Below w2.heap.size w2 w3 := (below_alloc _ (.cells #[] 3)).grown hgr (by simp) (by intro q hq; cases hq; simp)
    have HX3 := Lib.hid (HX2.out.below hbe); have HW3 := Lib.hid (HW2.out.below hbe); have HR3 := Lib.hid (HR2.out.below hbe)
    have HB3 := Lib.hid (below_trans HB2.out hbe)
    have HO3 := Lib.hid (HO2.out.below hbe)
    have HN3 : Hid (SegC w2.heap.size w3 F (ints r)) := Lib.hid (SegC.ofI (l := r) hown)
    clear hown hgr hbe hx hf hw hcell' HX2 HW2 HR2 HB2 HO2
    have hf := HX3.out.mfroz; have hx := HX3.out.cell
    go_upto_region 26 with fail
    have HX4 : Hid (BoxC 31 (w3.setCell ⟨w.heap.size, 0, none⟩ (.slice F r.length f)) w.heap.size #[.slice F r.length f, .int .i64 cnt, .slice B2 bs.length d2, .slice B3 os.length d3]) := Lib.hid (HX3.out.mset 0 _)
    have HR4 := Lib.hid (HR3.out.msetO ⟨w.heap.size, 0, none⟩ (.slice F r.length f) (by simp <;> omega))
    have HB4 := Lib.hid (HB3.out.setCell (p := ⟨w.heap.size, 0, none⟩) (Nat.le_refl _) (.slice F r.length f))
    have HA4 := Lib.hid (HN3.out.low (k := w.heap.size) (o := 0) (by omega) (.slice F r.length f))
    have HT4 := Lib.hid ((SegC.ofW HO3.out.wt).low (k := w.heap.size) (o := 0) (by omega) (.slice F r.length f))
    have HC4 := Lib.hid ((SegC.ofW HO3.out.of).low (k := w.heap.size) (o := 0) (by omega) (.slice F r.length f))
    generalize w3.setCell ⟨w.heap.size, 0, none⟩ (.slice F r.length f) = w4 at HX4 HR4 HB4 HA4 HT4 HC4 ⊢
    clear hf hx HX3 HW3 HR3 HB3 HO3 HN3
    have hx := HX4.out.cell; have hf := HX4.out.mfroz
    go_wp2_with (refine wpList_store_row rfl 31 _ _ rfl (w.heap.size + 1 + 1) _ rfl rfl 31 _ HR4.out info_model rfl (one4m _ _ _ _ _ _ _ _ _ _) ?_)
    have hr := (HR4.out.mrow #[.slice F r.length f, .int .i64 cnt, .slice B2 bs.length d2, .slice B3 os.length d3]).cell
    have hb' := below_setRow HB4.out (Nat.le_trans (Nat.le_succ _) (Nat.le_succ _) : w.heap.size ≤ w.heap.size + 1 + 1) #[.slice F r.length f, .int .i64 cnt, .slice B2 bs.length d2, .slice B3 os.length d3]
    have hsA := SegC.base (b1 := w.heap.size) (SegC.row (n := r.length) (c := f) HA4.out (k := w.heap.size + 1 + 1) (by omega) #[.slice F r.length f, .int .i64 cnt, .slice B2 bs.length d2, .slice B3 os.length d3]) (by omega)
    have hsB := SegC.base (b1 := w.heap.size) (SegC.row (n := bs.length) (c := d2) HT4.out (k := w.heap.size + 1 + 1) (by omega) #[.slice F r.length f, .int .i64 cnt, .slice B2 bs.length d2, .slice B3 os.length d3]) (by omega)
    have hsO := SegC.base (b1 := w.heap.size) (SegC.row (n := os.length) (c := d3) HC4.out (k := w.heap.size + 1 + 1) (by omega) #[.slice F r.length f, .int .i64 cnt, .slice B2 bs.length d2, .slice B3 os.length d3]) (by omega)
    generalize w4.setRow (w.heap.size + 1 + 1) #[.slice F r.length f, .int .i64 cnt, .slice B2 bs.length d2, .slice B3 os.length d3] = w9 at hr hb' hsA hsB hsO ⊢
    clear hx hf
    refine bodyPost_ret (v := .tuple #[.agg #[.slice F r.length f, .int .i64 cnt, .slice B2 bs.length d2, .slice B3 os.length d3], .bool true, .int .i64 0, .int .i64 z, .int .i64 (-1)]) (by simp [results, Try.results51, go_sem, hr]) rfl ⟨F, f, B2, d2, B3, d3, rfl, hsA, hsB, hsO, hb'⟩
  · skip
    have ht9 : TA = some ⟨g, ko + 1, none⟩ := HTA.out.symm.trans (if_neg hq1)
    subst ht9
    have hcq : (d1 = 1) = False := eq_false hq1
    clear hq1
    go_wp2_with (at_builtin; refine wpList_append_rd _ rfl (.tmp 105) (.tmp 108) 22 rfl w2.heap.size 3 i0 (.int .i64 0) 8 Try.underlying22 Hi.out Hz0.out Hz1.out Hz2.out rfl _ [] rfl (own_empty _ _ _ _ (by simp) (by omega)) _ (d1 - 1) r rfl (HTL.out.rd.below (below_alloc _ _)) ?_ ?_ (by simp) ?_)
    · show ([].length + r.length) * _ ≤ _; simp only [List.length_nil]; simp only [List.length_cons] at hz; omega
    · show [].length + r.length ≤ maxLen; unfold maxLen; simp only [List.length_nil]; simp only [List.length_cons] at hz; omega
    intro F f w3 hown hgr
    have hbe : Below w2.heap.size w2 w3 := (below_alloc _ (.cells #[] 3)).grown hgr (by simp) (by intro q hq; cases hq; simp)
    have HX3 := Lib.hid (HX2.out.below hbe); have HW3 := Lib.hid (HW2.out.below hbe); have HR3 := Lib.hid (HR2.out.below hbe)
    have HB3 := Lib.hid (below_trans HB2.out hbe)
    have HO3 := Lib.hid (HO2.out.below hbe)
    have HN3 : Hid (SegC w2.heap.size w3 F (ints r)) := Lib.hid (SegC.ofI (l := r) hown)
    clear hown hgr hbe hx hf hw hcell' HX2 HW2 HR2 HB2 HO2
    have hf := HX3.out.mfroz; have hx := HX3.out.cell
    go_upto_region 26 with fail
    have HX4 : Hid (BoxC 31 (w3.setCell ⟨w.heap.size, 0, none⟩ (.slice F r.length f)) w.heap.size #[.slice F r.length f, .int .i64 cnt, .slice B2 bs.length d2, .slice B3 os.length d3]) := Lib.hid (HX3.out.mset 0 _)
    have HR4 := Lib.hid (HR3.out.msetO ⟨w.heap.size, 0, none⟩ (.slice F r.length f) (by simp <;> omega))
    have HB4 := Lib.hid (HB3.out.setCell (p := ⟨w.heap.size, 0, none⟩) (Nat.le_refl _) (.slice F r.length f))
    have HA4 := Lib.hid (HN3.out.low (k := w.heap.size) (o := 0) (by omega) (.slice F r.length f))
    have HT4 := Lib.hid ((SegC.ofW HO3.out.wt).low (k := w.heap.size) (o := 0) (by omega) (.slice F r.length f))
    have HC4 := Lib.hid ((SegC.ofW HO3.out.of).low (k := w.heap.size) (o := 0) (by omega) (.slice F r.length f))
    generalize w3.setCell ⟨w.heap.size, 0, none⟩ (.slice F r.length f) = w4 at HX4 HR4 HB4 HA4 HT4 HC4 ⊢
    clear hf hx HX3 HW3 HR3 HB3 HO3 HN3
    have hx := HX4.out.cell; have hf := HX4.out.mfroz
    go_wp2_with (refine wpList_store_row rfl 31 _ _ rfl (w.heap.size + 1 + 1) _ rfl rfl 31 _ HR4.out info_model rfl (one4m _ _ _ _ _ _ _ _ _ _) ?_)
    have hr := (HR4.out.mrow #[.slice F r.length f, .int .i64 cnt, .slice B2 bs.length d2, .slice B3 os.length d3]).cell
    have hb' := below_setRow HB4.out (Nat.le_trans (Nat.le_succ _) (Nat.le_succ _) : w.heap.size ≤ w.heap.size + 1 + 1) #[.slice F r.length f, .int .i64 cnt, .slice B2 bs.length d2, .slice B3 os.length d3]
    have hsA := SegC.base (b1 := w.heap.size) (SegC.row (n := r.length) (c := f) HA4.out (k := w.heap.size + 1 + 1) (by omega) #[.slice F r.length f, .int .i64 cnt, .slice B2 bs.length d2, .slice B3 os.length d3]) (by omega)
    have hsB := SegC.base (b1 := w.heap.size) (SegC.row (n := bs.length) (c := d2) HT4.out (k := w.heap.size + 1 + 1) (by omega) #[.slice F r.length f, .int .i64 cnt, .slice B2 bs.length d2, .slice B3 os.length d3]) (by omega)
    have hsO := SegC.base (b1 := w.heap.size) (SegC.row (n := os.length) (c := d3) HC4.out (k := w.heap.size + 1 + 1) (by omega) #[.slice F r.length f, .int .i64 cnt, .slice B2 bs.length d2, .slice B3 os.length d3]) (by omega)
    generalize w4.setRow (w.heap.size + 1 + 1) #[.slice F r.length f, .int .i64 cnt, .slice B2 bs.length d2, .slice B3 os.length d3] = w9 at hr hb' hsA hsB hsO ⊢
    clear hx hf
    refine bodyPost_ret (v := .tuple #[.agg #[.slice F r.length f, .int .i64 cnt, .slice B2 bs.length d2, .slice B3 os.length d3], .bool true, .int .i64 0, .int .i64 z, .int .i64 (-1)]) (by simp [results, Try.results51, go_sem, hr]) rfl ⟨F, f, B2, d2, B3, d3, rfl, hsA, hsB, hsO, hb'⟩

end Go.Proofs.Ythianfhfamkcmaa

namespace Go.Proofs.Ythianfhfamkcmaa
open Go.RowKit

instance : DecidableEq Wtr := fun a b =>
  if h : a.th = b.th ∧ a.op = b.op ∧ a.arg = b.arg then .isTrue (by cases a; cases b; obtain ⟨h1, h2, h3⟩ := h; simp only at h1 h2 h3; subst h1 h2 h3; rfl)
  else .isFalse (fun e => h (by subst e; exact ⟨rfl, rfl, rfl⟩))
def eqW (th op arg th2 op2 arg2 : Int) : Bool := th == th2 && op == op2 && arg == arg2
theorem eqW_refl (th op arg : Int) : eqW th op arg th op arg = true := by simp [eqW]
theorem eqW_ne {th op arg th2 op2 arg2 : Int} (h : (⟨th, op, arg⟩ : Wtr) ≠ ⟨th2, op2, arg2⟩) : eqW th op arg th2 op2 arg2 = false := by
  cases e : eqW th op arg th2 op2 arg2
  · rfl
  · refine absurd ?_ h
    simp [eqW] at e
    obtain ⟨⟨rfl, rfl⟩, rfl⟩ := e
    rfl
theorem run_eq_waiter (th op arg th2 op2 arg2 : Int) (w : World) :
    (Op.equalIn 10000 35 (.agg #[.int .i64 th, .int .i64 op, .int .i64 arg]) (.agg #[.int .i64 th2, .int .i64 op2, .int .i64 arg2])).run Try.prog w = .ok (eqW th op arg th2 op2 arg2) w := by
  have hq : Try.prog.stoodInHeld 35 = false := by kernel_rfl
  rw [show (10000 : Nat) = 9999 + 1 from rfl, run_equalIn_struct w 9999 35 _ _ (by kernel_rfl) hq]
  simp [go_sem, Op.eqFields, Program.fieldsOf, Try.underlying35, part, isAgg, run_underlying Try.underlying3]
  unfold eqW
  refine if h0 : th = th2 then ?_ else (by simp [h0])
  refine if h1 : op = op2 then ?_ else (by simp [h1])
  refine if h2 : arg = arg2 then ?_ else (by simp [h2])
  simp [h0, h1, h2]
theorem run_neq_waiter (th op arg th2 op2 arg2 : Int) (w : World) :
    (binOp .neq 35 (.agg #[.int .i64 th, .int .i64 op, .int .i64 arg]) (.agg #[.int .i64 th2, .int .i64 op2, .int .i64 arg2])).run Try.prog w = .ok (.bool (!eqW th op arg th2 op2 arg2)) w := by
  rw [run_neq_struct, run_eq_waiter]; rfl

set_option maxHeartbeats 1000000 in
theorem eqIntsM_any (A B : Option Addr) (c d : Nat) (xs ys : List Int) (w : World) (hn : xs.length ≤ maxLen) (hm : ys.length ≤ maxLen) (hA : Rd w A xs) (hB : Rd w B ys) :
    Calls Try.prog 69 #[.slice A xs.length c, .slice B ys.length d] w fun e w' => e = .returned (.bool (decide (xs = ys))) ∧ ∃ n, w' = w.drewN n := by
  unfold maxLen at hn hm
  by_cases hl : xs.length = ys.length
  · have hl' : ((xs.length : Int) != (ys.length : Int)) = false := by simp [hl]
    have HL := Lib.hid hl; clear hl
    have HA := Lib.hid hA; have HB := Lib.hid hB; clear hA hB
    go_enter Try.func69, Try.ntmps69
    go_wp2
    go_loopw [13] (fun i wr => ∃ k : Nat, k ≤ xs.length ∧ i = .int .i64 k ∧ (∀ j, j < k → xs.getD j 0 = ys.getD j 0) ∧ ∃ n, wr = w.drewN n) (fun i _ => xs.length - (intOf i).toNat)
    case atStart => exact ⟨0, Nat.zero_le _, rfl, fun j hj => absurd hj (by omega), 0, rfl⟩
    case round =>
      obtain ⟨k, hk, rfl, hsame, n, rfl⟩ := hrel
      have HS := Lib.hid hsame; clear hsame
      by_cases hlt : k < xs.length
      · have hlt' : k < ys.length := by have := HL.out; omega
        obtain ⟨b, o, rfl, hcell⟩ := HA.out k hlt
        obtain ⟨b', o', rfl, hcell'⟩ := HB.out k hlt'
        generalize hx : xs.getD k 0 = x at *
        generalize hy : ys.getD k 0 = y at *
        have HX := Lib.hid hx; have HY := Lib.hid hy; clear hx hy
        by_cases hxy : x = y
        · subst hxy
          go_wp2
          go_region
          all_goals
            go_wp2
            go_roundw
            case rel => exact ⟨k + 1, by omega, by go_num, fun j hj => by
              by_cases e : j < k
              · exact HS.out j e
              · obtain rfl : j = k := by omega
                rw [HX.out, HY.out], n + 1, rfl⟩
            case measure => simp [intOf]; omega
        · have hne : (x != y) = true := by simp [hxy]
          have HN : Hid (decide (xs = ys) = false) := by
            apply decide_eq_false
            rintro rfl
            exact hxy (HX.out.symm.trans HY.out)
          clear hxy
          go_wp2
          go_region
          all_goals
            go_wp2
            go_ret
            exact ⟨ret_bool HN.out.symm, n + 1, rfl⟩
      · have HN : Hid (decide (xs = ys) = true) := by
          apply decide_eq_true
          apply List.ext_getElem? 
          intro j
          by_cases hj : j < xs.length
          · have h1 := HS.out j (by omega)
            have hj' : j < ys.length := by have := HL.out; omega
            simp only [List.getD, List.getElem?_eq_getElem hj, List.getElem?_eq_getElem hj', Option.getD_some] at h1
            rw [List.getElem?_eq_getElem hj, List.getElem?_eq_getElem hj', h1]
          · rw [List.getElem?_eq_none (by omega), List.getElem?_eq_none (by have := HL.out; omega)]
        go_wp2
        go_ret
        exact ⟨ret_bool HN.out.symm, n, rfl⟩
  · have hl' : ((xs.length : Int) != (ys.length : Int)) = true := by simp; omega
    have HN : Hid (decide (xs = ys) = false) := by
      apply decide_eq_false
      rintro rfl
      exact hl rfl
    clear hl
    go_enter Try.func69, Try.ntmps69
    go_wp2
    go_ret
    exact ⟨ret_bool HN.out.symm, 0, rfl⟩


set_option maxHeartbeats 4000000 in
set_option maxRecDepth 100000 in
theorem eqRowsW_any (A B : Option Addr) (c d : Nat) (l r : List Wtr) (w : World) (hn : l.length ≤ 1048576) (hm : r.length ≤ 1048576) (hA : RdR Wtr.cs w A l) (hB : RdR Wtr.cs w B r) :
    Calls Try.prog 70 #[.slice A l.length c, .slice B r.length d] w fun e w' => e = .returned (.bool (decide (l = r))) ∧ Below w.heap.size w w' := by
  have HA := Lib.hid hA; have HBB := Lib.hid hB; clear hA hB
  by_cases hl : l.length = r.length
  rotate_left
  · have hl' : ((l.length : Int) != (r.length : Int)) = true := by simp; omega
    have HN : Hid (decide (l = r) = false) := by
      apply decide_eq_false
      rintro rfl
      exact hl rfl
    clear hl
    go_enter Try.func70, Try.ntmps70
    go_wp2
    go_ret
    exact ⟨ret_bool HN.out.symm, Below.refl _ _⟩
  have hl' : ((l.length : Int) != (r.length : Int)) = false := by simp [hl]
  have HL := Lib.hid hl; clear hl
  go_enter Try.func70, Try.ntmps70
  go_wp2
  go_loopw [13] (fun i wr => ∃ k : Nat, k ≤ l.length ∧ i = .int .i64 k ∧ (∀ j, j < k → l[j]? = r[j]?) ∧ Below w.heap.size w wr) (fun i _ => l.length - (intOf i).toNat)
  case atStart => exact ⟨0, Nat.zero_le _, rfl, fun j hj => absurd hj (by omega), Below.refl _ _⟩
  case round =>
    obtain ⟨k, hk, rfl, hsame, hbl⟩ := hrel
    have HS := Lib.hid hsame; have HB' := Lib.hid hbl
    clear hsame hbl
    by_cases hlt : k < l.length
    · have hlt' : (k : Int) < l.length := by omega
      have hlr : k < r.length := by have := HL.out; omega
      obtain ⟨x, hx⟩ : ∃ x, l[k]? = some x := ⟨_, List.getElem?_eq_getElem hlt⟩
      obtain ⟨y, hy⟩ : ∃ y, r[k]? = some y := ⟨_, List.getElem?_eq_getElem hlr⟩
      obtain ⟨b, o, rfl, hr1⟩ := (HA.out.below HB'.out).row Wtr.len k x hx
      obtain ⟨b2, o2, rfl, hr2⟩ := (HBB.out.below HB'.out).row Wtr.len k y hy
      have HX := Lib.hid hx; have HY := Lib.hid hy
      clear hx hy
      obtain ⟨th, op, arg⟩ := x
      obtain ⟨th2, op2, arg2⟩ := y
      have HC := Lib.hid (And.intro (cellsWaiter _ _ _ hr1) (cellsWaiter _ _ _ hr2))
      clear hr1 hr2
      by_cases hxy : (⟨th, op, arg⟩ : Wtr) = ⟨th2, op2, arg2⟩
      · have e1 : th = th2 := congrArg Wtr.th hxy
        have e2 : op = op2 := congrArg Wtr.op hxy
        have e3 : arg = arg2 := congrArg Wtr.arg hxy
        subst e1 e2 e3
        have hneq : ∀ wx : World, (binOp .neq 35 (.agg #[.int .i64 th, .int .i64 op, .int .i64 arg]) (.agg #[.int .i64 th, .int .i64 op, .int .i64 arg])).run Try.prog wx = .ok (.bool false) wx := fun wx => by rw [run_neq_waiter, eqW_refl]; rfl
        have HS2 : Hid (∀ j, j < k + 1 → l[j]? = r[j]?) := by
          unfold Hid
          intro j hj
          by_cases e : j < k
          · exact HS.out j e
          · obtain rfl : j = k := by omega
            rw [HX.out, HY.out]
        clear hxy
        go_wp2_with fail
        go_region_held3 (fun w' => (w'.cell? ⟨b, o + k * 3, none⟩ = some (.int .i64 th) ∧ w'.cell? ⟨b, o + k * 3 + 1, none⟩ = some (.int .i64 op) ∧ w'.cell? ⟨b, o + k * 3 + 2, none⟩ = some (.int .i64 arg)) ∧ (w'.cell? ⟨b2, o2 + k * 3, none⟩ = some (.int .i64 th) ∧ w'.cell? ⟨b2, o2 + k * 3 + 1, none⟩ = some (.int .i64 op) ∧ w'.cell? ⟨b2, o2 + k * 3 + 2, none⟩ = some (.int .i64 arg))) (exact HC.out) (fail)
        go_wp2
        go_roundw
        case rel => exact ⟨k + 1, by omega, by go_num, HS2.out, HB'.out.drew⟩
        case measure => simp [intOf]; omega
      · have hq := eqW_ne hxy
        have hneq : ∀ wx : World, (binOp .neq 35 (.agg #[.int .i64 th, .int .i64 op, .int .i64 arg]) (.agg #[.int .i64 th2, .int .i64 op2, .int .i64 arg2])).run Try.prog wx = .ok (.bool true) wx := fun wx => by rw [run_neq_waiter, hq]; rfl
        have HN : Hid (decide (l = r) = false) := by
          apply decide_eq_false
          rintro rfl
          have := HX.out.symm.trans HY.out
          exact hxy (Option.some.inj this)
        clear hxy hq
        go_wp2_with fail
        go_region_held3 (fun w' => (w'.cell? ⟨b, o + k * 3, none⟩ = some (.int .i64 th) ∧ w'.cell? ⟨b, o + k * 3 + 1, none⟩ = some (.int .i64 op) ∧ w'.cell? ⟨b, o + k * 3 + 2, none⟩ = some (.int .i64 arg)) ∧ (w'.cell? ⟨b2, o2 + k * 3, none⟩ = some (.int .i64 th2) ∧ w'.cell? ⟨b2, o2 + k * 3 + 1, none⟩ = some (.int .i64 op2) ∧ w'.cell? ⟨b2, o2 + k * 3 + 2, none⟩ = some (.int .i64 arg2))) (exact HC.out) (fail)
        go_wp2
        go_ret
        exact ⟨ret_bool HN.out.symm, HB'.out.drew⟩
    · have hge : ¬ (k : Int) < l.length := by omega
      have HN : Hid (decide (l = r) = true) := by
        apply decide_eq_true
        apply List.ext_getElem?
        intro j
        by_cases hj : j < l.length
        · exact HS.out j (by omega)
        · rw [List.getElem?_eq_none (by omega), List.getElem?_eq_none (by have := HL.out; omega)]
      go_wp2
      go_ret
      exact ⟨ret_bool HN.out.symm, HB'.out⟩
end Go.Proofs.Ythianfhfamkcmaa
