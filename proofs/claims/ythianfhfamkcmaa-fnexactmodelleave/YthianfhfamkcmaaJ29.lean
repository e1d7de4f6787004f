/-
  Models (chapter 11): the model's l10Call, one way of it.
  Models (chapter 11): the model's l10Call, whole.
  Models (chapter 11): the model's ModelCall, one way of it.
  Models (chapter 11): the model's ModelCall, one way of it.
  Models (chapter 11): the model's ModelCall, one way of it.
  Models (chapter 11): the model's ModelCall, one way of it.
  Models (chapter 11): the model's ModelCall, one way of it.
-/
import Derived.BigQuiet
import Derived.Test.YthianfhfamkcmaaJ22
import Derived.Test.YthianfhfamkcmaaJ24
import Derived.Test.YthianfhfamkcmaaJ25
import Derived.Test.YthianfhfamkcmaaJ26
import Derived.Test.YthianfhfamkcmaaJ27
import Derived.Test.YthianfhfamkcmaaJ28
namespace Go.Proofs.Ythianfhfamkcmaa
open Go.RowKit

set_option maxHeartbeats 4000000 in
set_option maxRecDepth 100000 in
theorem l10_count (A B O : Option Addr) (ca cb co : Nat) (zs : List Int) (bs os : List Wtr) (cnt th arg : Int) (w : World) (hz : zs.length ≤ 1048576) (ht : bs.length ≤ 1048576) (hc : os.length ≤ 1048576) (hA : Rd w A zs) (hT : RdR Wtr.cs w B bs) (hC : RdR Wtr.cs w O os) (hc0 : 0 ≤ cnt) (hc1 : cnt < 1000000000) :
    Calls Try.prog 51 #[.agg #[.slice A zs.length ca, .int .i64 cnt, .slice B bs.length cb, .slice O os.length co], .agg #[.int .i64 th, .int .i64 6, .int .i64 arg]] w (SpecPost w ((true, 0, cnt, (-1)), (zs, (cnt + 1), bs, os))) := by
  have HA := Lib.hid hA; have HT := Lib.hid hT; have HC := Lib.hid hC; clear hA hT hC
  have HB0 := Lib.hid (below_alloc3 w (.cells #[.slice A zs.length ca, .int .i64 cnt, .slice B bs.length cb, .slice O os.length co] 31) (.cells #[.int .i64 th, .int .i64 6, .int .i64 arg] 35) (.cells #[.slice none 0 0, .int .i64 0, .slice none 0 0, .slice none 0 0] 31))
  have HX := Lib.hid ((BoxC.new 31 w #[.slice A zs.length ca, .int .i64 cnt, .slice B bs.length cb, .slice O os.length co]).below (below_alloc2 _ (.cells #[.int .i64 th, .int .i64 6, .int .i64 arg] 35) (.cells #[.slice none 0 0, .int .i64 0, .slice none 0 0, .slice none 0 0] 31)))
  have HW := Lib.hid (by have h := (BoxC.new 35 (w.alloc (.cells #[.slice A zs.length ca, .int .i64 cnt, .slice B bs.length cb, .slice O os.length co] 31)) #[.int .i64 th, .int .i64 6, .int .i64 arg]).below (below_alloc _ (.cells #[.slice none 0 0, .int .i64 0, .slice none 0 0, .slice none 0 0] 31)); rw [size_alloc] at h; exact h)
  have HR := Lib.hid (by have h := BoxC.new 31 ((w.alloc (.cells #[.slice A zs.length ca, .int .i64 cnt, .slice B bs.length cb, .slice O os.length co] 31)).alloc (.cells #[.int .i64 th, .int .i64 6, .int .i64 arg] 35)) #[.slice none 0 0, .int .i64 0, .slice none 0 0, .slice none 0 0]; rw [size_alloc, size_alloc] at h; exact h)
  have hsz : (((w.alloc (.cells #[.slice A zs.length ca, .int .i64 cnt, .slice B bs.length cb, .slice O os.length co] 31)).alloc (.cells #[.int .i64 th, .int .i64 6, .int .i64 arg] 35)).alloc (.cells #[.slice none 0 0, .int .i64 0, .slice none 0 0, .slice none 0 0] 31)).heap.size = w.heap.size + 1 + 1 + 1 := by simp
  go_enter Try.func51, Try.ntmps51
  have hx := HX.out.cell
  go_wp2_with fail
  refine (l10Own_any _ _ _ _ _ _ zs bs os cnt _ hz ht hc (HA.out.below HB0.out) (HT.out.below HB0.out) (HC.out.below HB0.out)).mono ?_
  rintro e w1 ⟨B1, d1, B2, d2, B3, d3, rfl, hO, hb⟩
  rw [hsz] at hO
  have HB1 := Lib.hid (below_trans HB0.out hb)
  have HX1 := Lib.hid (HX.out.below hb); have HW1 := Lib.hid (HW.out.below hb); have HR1 := Lib.hid (HR.out.below hb)
  have HO1 := Lib.hid hO
  clear hb hO HB0 HX HW HR hx hsz
  go_upto_region 2 with (refine wpList_store_row rfl 31 _ _ rfl w.heap.size _ rfl rfl 31 _ HX1.out info_model rfl (one4m _ _ _ _ _ _ _ _ _ _) ?_)
  have HX2 := Lib.hid (HX1.out.mrow #[.slice B1 zs.length d1, .int .i64 cnt, .slice B2 bs.length d2, .slice B3 os.length d3])
  have HW2 := Lib.hid (HW1.out.mrowO (b := w.heap.size) (by omega) #[.slice B1 zs.length d1, .int .i64 cnt, .slice B2 bs.length d2, .slice B3 os.length d3])
  have HR2 := Lib.hid (HR1.out.mrowO (b := w.heap.size) (by omega) #[.slice B1 zs.length d1, .int .i64 cnt, .slice B2 bs.length d2, .slice B3 os.length d3])
  have HB2 := Lib.hid (below_setRow HB1.out (Nat.le_refl _) #[.slice B1 zs.length d1, .int .i64 cnt, .slice B2 bs.length d2, .slice B3 os.length d3])
  have HO2 := Lib.hid (HO1.out.row (k := w.heap.size) (by omega) #[.slice B1 zs.length d1, .int .i64 cnt, .slice B2 bs.length d2, .slice B3 os.length d3])
  generalize w1.setRow w.heap.size #[.slice B1 zs.length d1, .int .i64 cnt, .slice B2 bs.length d2, .slice B3 os.length d3] = w2 at HX2 HW2 HR2 HB2 HO2 ⊢
  have hz2 : w.heap.size + 1 + 1 < w2.heap.size := HR2.out.lt
  have hy2 : w.heap.size < w2.heap.size := by omega
  have hy2' : w.heap.size + 1 < w2.heap.size := by omega
  clear HX1 HW1 HR1 HB1 HO1
  have hx := HX2.out.cell; have hf := HX2.out.mfroz; have hw := HW2.out.cell
  have e1 : IntKind.i64.wrap (cnt + 1) = cnt + 1 := IntWalk.i64_in _ (by omega)
  have e2 : IntKind.i64.wrap (cnt + 1 - 1) = cnt := by rw [Int.add_sub_cancel]; exact IntWalk.i64_in _ (by omega)
  have e3 : IntKind.i64.wrap cnt = cnt := IntWalk.i64_in _ (by omega)
  go_upto_region 28 with fail
  have HX3 : Hid (BoxC 31 (w2.setCell ⟨w.heap.size, 1, none⟩ (.int .i64 (cnt + 1))) w.heap.size #[.slice B1 zs.length d1, .int .i64 (cnt + 1), .slice B2 bs.length d2, .slice B3 os.length d3]) := Lib.hid (HX2.out.mset 1 _)
  have HR3 := Lib.hid (HR2.out.msetO ⟨w.heap.size, 1, none⟩ (.int .i64 (cnt + 1)) (by simp <;> omega))
  have HB3 := Lib.hid (HB2.out.setCell (p := ⟨w.heap.size, 1, none⟩) (Nat.le_refl _) (.int .i64 (cnt + 1)))
  have HA3 := Lib.hid ((SegC.ofI HO2.out.st).low (k := w.heap.size) (o := 1) (by omega) (.int .i64 (cnt + 1)))
  have HT3 := Lib.hid ((SegC.ofW HO2.out.wt).low (k := w.heap.size) (o := 1) (by omega) (.int .i64 (cnt + 1)))
  have HC3 := Lib.hid ((SegC.ofW HO2.out.of).low (k := w.heap.size) (o := 1) (by omega) (.int .i64 (cnt + 1)))
  generalize w2.setCell ⟨w.heap.size, 1, none⟩ (.int .i64 (cnt + 1)) = w3 at HX3 HR3 HB3 HA3 HT3 HC3 ⊢
  clear hf hx hw HX2 HW2 HR2 HB2 HO2
  have h0 := HX3.out.cell; have hr := HR3.out.cell; have hf := HR3.out.mfroz
  have hk0 : ¬ w.heap.size + 1 + 1 = w.heap.size := by omega
  go_wp2_with fail
  go_region_held3 (fun w' => (∀ j : Nat, w'.cell? ⟨w.heap.size, j, none⟩ = (#[.slice B1 zs.length d1, .int .i64 (cnt + 1), .slice B2 bs.length d2, .slice B3 os.length d3] : Array Value)[j]?))
    (first | exact h0 | (refine ?_ <;> (repeat (first | (with_reducible refine cellsK (by assumption) ?_) | (with_reducible refine cellsD ?_))) <;> assumption))
    (first | fail)
  all_goals
    have hb' : Below w.heap.size w ((((w3.setCell ⟨w.heap.size + 1 + 1, 0, none⟩ (.slice B1 zs.length d1)).setCell ⟨w.heap.size + 1 + 1, 1, none⟩ (.int .i64 (cnt + 1))).setCell ⟨w.heap.size + 1 + 1, 2, none⟩ (.slice B2 bs.length d2)).setCell ⟨w.heap.size + 1 + 1, 3, none⟩ (.slice B3 os.length d3)).drew := by
      refine Below.drew ?_
      repeat (refine Below.setCell ?_ (by simp <;> omega) _)
      exact HB3.out
    have hr' : BoxC 31 ((((w3.setCell ⟨w.heap.size + 1 + 1, 0, none⟩ (.slice B1 zs.length d1)).setCell ⟨w.heap.size + 1 + 1, 1, none⟩ (.int .i64 (cnt + 1))).setCell ⟨w.heap.size + 1 + 1, 2, none⟩ (.slice B2 bs.length d2)).setCell ⟨w.heap.size + 1 + 1, 3, none⟩ (.slice B3 os.length d3)).drew (w.heap.size + 1 + 1) #[.slice B1 zs.length d1, .int .i64 (cnt + 1), .slice B2 bs.length d2, .slice B3 os.length d3] := BoxC.drewG ((((HR3.out.mset 0 _).mset 1 _).mset 2 _).mset 3 _)
    have hsA := SegC.drewG (SegC.base (b1 := w.heap.size) ((((HA3.out.low (k := w.heap.size + 1 + 1) (o := 0) (by omega) (.slice B1 zs.length d1)).low (k := w.heap.size + 1 + 1) (o := 1) (by omega) (.int .i64 (cnt + 1))).low (k := w.heap.size + 1 + 1) (o := 2) (by omega) (.slice B2 bs.length d2)).low (k := w.heap.size + 1 + 1) (o := 3) (by omega) (.slice B3 os.length d3)) (by omega))
    have hsB := SegC.drewG (SegC.base (b1 := w.heap.size) ((((HT3.out.low (k := w.heap.size + 1 + 1) (o := 0) (by omega) (.slice B1 zs.length d1)).low (k := w.heap.size + 1 + 1) (o := 1) (by omega) (.int .i64 (cnt + 1))).low (k := w.heap.size + 1 + 1) (o := 2) (by omega) (.slice B2 bs.length d2)).low (k := w.heap.size + 1 + 1) (o := 3) (by omega) (.slice B3 os.length d3)) (by omega))
    have hsO := SegC.drewG (SegC.base (b1 := w.heap.size) ((((HC3.out.low (k := w.heap.size + 1 + 1) (o := 0) (by omega) (.slice B1 zs.length d1)).low (k := w.heap.size + 1 + 1) (o := 1) (by omega) (.int .i64 (cnt + 1))).low (k := w.heap.size + 1 + 1) (o := 2) (by omega) (.slice B2 bs.length d2)).low (k := w.heap.size + 1 + 1) (o := 3) (by omega) (.slice B3 os.length d3)) (by omega))
    generalize ((((w3.setCell ⟨w.heap.size + 1 + 1, 0, none⟩ (.slice B1 zs.length d1)).setCell ⟨w.heap.size + 1 + 1, 1, none⟩ (.int .i64 (cnt + 1))).setCell ⟨w.heap.size + 1 + 1, 2, none⟩ (.slice B2 bs.length d2)).setCell ⟨w.heap.size + 1 + 1, 3, none⟩ (.slice B3 os.length d3)).drew = w9 at hb' hr' hsA hsB hsO ⊢
    have hr9 := hr'.cell
    clear hr' hr hf h0
    go_wp2_with fail
    refine bodyPost_ret (v := .tuple #[.agg #[.slice B1 zs.length d1, .int .i64 (cnt + 1), .slice B2 bs.length d2, .slice B3 os.length d3], .bool true, .int .i64 0, .int .i64 cnt, .int .i64 (-1)]) (by simp [results, Try.results51, go_sem, hr9]) rfl ⟨B1, d1, B2, d2, B3, d3, rfl, hsA, hsB, hsO, hb'⟩

end Go.Proofs.Ythianfhfamkcmaa

namespace Go.Proofs.Ythianfhfamkcmaa
open Go.RowKit

theorem md_parts {zs : List Int} {cnt : Int} {bs os : List Wtr} (h : mdB zs cnt bs os = true) : zs.length ≤ 400 ∧ 0 ≤ cnt ∧ cnt ≤ 1000000000 ∧ os.length ≤ 1 ∧ wsB bs os = true := by
  simp only [mdB, Bool.and_eq_true, decide_eq_true_eq] at h
  obtain ⟨⟨⟨⟨h1, h2⟩, h3⟩, _⟩, h5⟩ := h
  exact ⟨h1, (inB_true h2).1, (inB_true h2).2, h3, h5⟩
theorem wt_parts {th op arg : Int} (h : wtB th op arg = true) : opB op = true ∧ argB op arg = true := by
  simp only [wtB, Bool.and_eq_true] at h
  exact ⟨h.1.2, h.2⟩
theorem ws_headB {x : Wtr} {r os : List Wtr} (h : wsB (x :: r) os = true) : (x.op = 1 ∨ x.op = 2) ∧ argB x.op x.arg = true := by
  simp only [wsB, cmB, isW, hdO, Bool.and_eq_true, Bool.or_eq_true, beq_iff_eq] at h
  exact ⟨h.1.1.1.2.2, (wt_parts h.1.1.1.1).2⟩
theorem ws_headO {x : Wtr} {bs r : List Wtr} (h : wsB bs (x :: r) = true) : x.op = 3 := by
  simp only [wsB, cmB, isO, Bool.and_eq_true, beq_iff_eq] at h
  exact h.2.1.1.2
theorem arg_put {arg : Int} (h : argB 1 arg = true) : 0 ≤ arg := (inB_true h).1
theorem arg_take {arg : Int} (h : argB 2 arg = true) : arg = 0 := by
  have := inB_true h; simp [bringsB] at this; omega

theorem l10Call_any (A B O : Option Addr) (ca cb co : Nat) (zs : List Int) (bs os : List Wtr) (cnt th op arg : Int) (w : World) (hz : zs.length ≤ 1048576) (ht : bs.length ≤ 1048576) (hc : os.length ≤ 1048576) (hA : Rd w A zs) (hT : RdR Wtr.cs w B bs) (hC : RdR Wtr.cs w O os) (qm : mdB zs cnt bs os = true) (qw : wtB th op arg = true) (hw : waitsB bs os th = false) (hf4 : op = 4 → ¬ zs.length = 400) (hf6 : op = 6 → ¬ cnt = 1000000000) :
    Calls Try.prog 51 #[.agg #[.slice A zs.length ca, .int .i64 cnt, .slice B bs.length cb, .slice O os.length co], .agg #[.int .i64 th, .int .i64 op, .int .i64 arg]] w (SpecPost w (doR zs cnt bs os th op arg)) := by
  obtain ⟨hz4, hc0, hc1, ho1, hws⟩ := md_parts qm
  obtain ⟨hop, harg⟩ := wt_parts qw
  have hq' : ¬ waitsB bs os th = true := by rw [hw]; decide
  have h6 : op = 1 ∨ op = 2 ∨ op = 3 ∨ op = 4 ∨ op = 5 ∨ op = 6 := by have := inB_true hop; omega
  rcases h6 with ho | ho | ho | ho | ho | ho <;> subst ho
  · cases bs with
    | nil =>
      rw [show doR zs cnt [] os th 1 arg = ((false, 0, 0, -1), (zs, cnt, [⟨th, 1, arg⟩], os)) from (if_neg hq').trans (if_pos (Or.inl rfl))]
      exact l10_nil1 A B O ca cb co zs os cnt th arg w hz ht hc hA hT hC
    | cons x r =>
      obtain ⟨xt, xo, xa⟩ := x
      obtain ⟨h12, hxa⟩ := ws_headB hws
      simp only at h12 hxa
      rcases h12 with hx | hx <;> subst hx
      · rw [show doR zs cnt (⟨xt, 1, xa⟩ :: r) os th 1 arg = ((false, 0, 0, -1), (zs, cnt, (⟨xt, 1, xa⟩ :: r) ++ [⟨th, 1, arg⟩], os)) from (if_neg hq').trans ((if_pos (Or.inl rfl)).trans (if_neg (by simp [partB])))]
        exact l10_same1 A B O ca cb co zs xt xa r os cnt th arg w hz ht hc hA hT hC
      · rw [show doR zs cnt (⟨xt, 2, xa⟩ :: r) os th 1 arg = ((true, 0, arg, xt), (zs, cnt, r, os)) from (if_neg hq').trans ((if_pos (Or.inl rfl)).trans ((if_pos (by simp [partB])).trans (by rw [if_pos rfl])))]
        exact l10_meet1 A B O ca cb co zs xt xa r os cnt th arg w hz ht hc hA hT hC (by have h0 := arg_put harg; have h1 := arg_take hxa; omega)
  · cases bs with
    | nil =>
      rw [show doR zs cnt [] os th 2 arg = ((false, 0, 0, -1), (zs, cnt, [⟨th, 2, arg⟩], os)) from (if_neg hq').trans (if_pos (Or.inr rfl))]
      exact l10_nil2 A B O ca cb co zs os cnt th arg w hz ht hc hA hT hC
    | cons x r =>
      obtain ⟨xt, xo, xa⟩ := x
      obtain ⟨h12, hxa⟩ := ws_headB hws
      simp only at h12 hxa
      rcases h12 with hx | hx <;> subst hx
      · rw [show doR zs cnt (⟨xt, 1, xa⟩ :: r) os th 2 arg = ((true, 0, xa, xt), (zs, cnt, r, os)) from (if_neg hq').trans ((if_pos (Or.inr rfl)).trans ((if_pos (by simp [partB])).trans (by rw [if_neg (by decide)])))]
        have h0 := arg_put hxa
        have h1 := arg_take harg
        by_cases hm : arg < xa
        · exact l10_meet2 A B O ca cb co zs xt xa r os cnt th arg w hz ht hc hA hT hC hm
        · obtain rfl : xa = arg := by omega
          exact l10_meet3 A B O ca cb co zs xt xa r os cnt th xa w hz ht hc hA hT hC hm
      · rw [show doR zs cnt (⟨xt, 2, xa⟩ :: r) os th 2 arg = ((false, 0, 0, -1), (zs, cnt, (⟨xt, 2, xa⟩ :: r) ++ [⟨th, 2, arg⟩], os)) from (if_neg hq').trans ((if_pos (Or.inr rfl)).trans (if_neg (by simp [partB])))]
        exact l10_same2 A B O ca cb co zs xt xa r os cnt th arg w hz ht hc hA hT hC
  · have ho' : ¬ ((3 : Int) = 1 ∨ (3 : Int) = 2) := by decide
    cases os with
    | nil =>
      rw [show doR zs cnt bs [] th 3 arg = ((false, 0, 0, -1), (zs, cnt, bs, [⟨th, 3, arg⟩])) from (if_neg hq').trans ((if_neg ho').trans (if_pos rfl))]
      exact l10_nilO A B O ca cb co zs bs cnt th arg w hz ht hc hA hT hC
    | cons x r =>
      obtain ⟨xt, xo, xa⟩ := x
      have hx := ws_headO hws
      simp only at hx
      subst hx
      obtain rfl : r = [] := by cases r with | nil => rfl | cons y r => simp at ho1
      rw [show doR zs cnt bs [⟨xt, 3, xa⟩] th 3 arg = ((true, 0, xa, xt), (zs, cnt, bs, [])) from (if_neg hq').trans ((if_neg ho').trans ((if_pos rfl).trans (if_pos (by simp [partB]))))]
      exact l10_meetO A B O ca cb co zs xt xa bs cnt th arg w hz ht hc hA hT hC
  · rw [show doR zs cnt bs os th 4 arg = ((true, 0, arg, -1), (arg :: zs, cnt, bs, os)) from by unfold doR; rw [if_neg hq', if_neg (by decide), if_neg (by decide), if_pos rfl, if_neg (hf4 rfl)]]
    exact l10_push A B O ca cb co zs bs os cnt th arg w hz ht hc hA hT hC
  · cases zs with
    | nil =>
      rw [show doR [] cnt bs os th 5 arg = ((true, 14, 0, -1), ([], cnt, bs, os)) from by unfold doR; rw [if_neg hq', if_neg (by decide), if_neg (by decide), if_neg (by decide), if_pos rfl]]
      exact l10_popN A B O ca cb co bs os cnt th arg w hz ht hc hA hT hC
    | cons z r =>
      rw [show doR (z :: r) cnt bs os th 5 arg = ((true, 0, z, -1), (r, cnt, bs, os)) from by unfold doR; rw [if_neg hq', if_neg (by decide), if_neg (by decide), if_neg (by decide), if_pos rfl]]
      exact l10_pop A B O ca cb co z r bs os cnt th arg w hz ht hc hA hT hC
  · rw [show doR zs cnt bs os th 6 arg = ((true, 0, cnt, -1), (zs, cnt + 1, bs, os)) from by unfold doR; rw [if_neg hq', if_neg (by decide), if_neg (by decide), if_neg (by decide), if_neg (by decide), if_neg (hf6 rfl)]]
    exact l10_count A B O ca cb co zs bs os cnt th arg w hz ht hc hA hT hC hc0 (by have := hf6 rfl; omega)
end Go.Proofs.Ythianfhfamkcmaa

namespace Go.Proofs.Ythianfhfamkcmaa
open Go.RowKit

set_option maxHeartbeats 4000000 in
set_option maxRecDepth 100000 in
theorem smc_no1 (A B O : Option Addr) (ca cb co : Nat) (zs : List Int) (bs os : List Wtr) (cnt th op arg : Int) (w : World) (hz : zs.length ≤ 1048576) (ht : bs.length ≤ 1048576) (hc : os.length ≤ 1048576) (hA : Rd w A zs) (hT : RdR Wtr.cs w B bs) (hC : RdR Wtr.cs w O os) (qm : mdB zs cnt bs os = false) :
    Calls Try.prog 12 #[.agg #[.slice A zs.length ca, .int .i64 cnt, .slice B bs.length cb, .slice O os.length co], .agg #[.int .i64 th, .int .i64 op, .int .i64 arg]] w (fun e w' => e = .returned (.tuple #[.agg #[.slice none 0 0, .int .i64 0, .slice none 0 0, .slice none 0 0], .bool false, .int .i64 1, .int .i64 0, .int .i64 0]) ∧ Below w.heap.size w w') := by
  have HA := Lib.hid hA; have HT := Lib.hid hT; have HC := Lib.hid hC; clear hA hT hC
  have HB0 := Lib.hid (below_alloc3 w (.cells #[.slice A zs.length ca, .int .i64 cnt, .slice B bs.length cb, .slice O os.length co] 31) (.cells #[.int .i64 th, .int .i64 op, .int .i64 arg] 35) (.cells #[.slice none 0 0, .int .i64 0, .slice none 0 0, .slice none 0 0] 31))
  have HX := Lib.hid ((BoxC.new 31 w #[.slice A zs.length ca, .int .i64 cnt, .slice B bs.length cb, .slice O os.length co]).below (below_alloc2 _ (.cells #[.int .i64 th, .int .i64 op, .int .i64 arg] 35) (.cells #[.slice none 0 0, .int .i64 0, .slice none 0 0, .slice none 0 0] 31)))
  have HW := Lib.hid (by have h := (BoxC.new 35 (w.alloc (.cells #[.slice A zs.length ca, .int .i64 cnt, .slice B bs.length cb, .slice O os.length co] 31)) #[.int .i64 th, .int .i64 op, .int .i64 arg]).below (below_alloc _ (.cells #[.slice none 0 0, .int .i64 0, .slice none 0 0, .slice none 0 0] 31)); rw [size_alloc] at h; exact h)
  have HR := Lib.hid (by have h := BoxC.new 31 ((w.alloc (.cells #[.slice A zs.length ca, .int .i64 cnt, .slice B bs.length cb, .slice O os.length co] 31)).alloc (.cells #[.int .i64 th, .int .i64 op, .int .i64 arg] 35)) #[.slice none 0 0, .int .i64 0, .slice none 0 0, .slice none 0 0]; rw [size_alloc, size_alloc] at h; exact h)
  go_enter Try.func12, Try.ntmps12
  have hx := HX.out.cell
  go_wp2_with fail
  refine (specModelOK_any _ _ _ _ _ _ zs bs os cnt _ hz ht hc (HA.out.below HB0.out) (HT.out.below HB0.out) (HC.out.below HB0.out)).mono ?_
  rintro e w1 ⟨rfl, hb⟩
  rw [qm]
  have HB1 := Lib.hid (below_trans HB0.out hb)
  have HX1 := Lib.hid (HX.out.below hb); have HW1 := Lib.hid (HW.out.below hb); have HR1 := Lib.hid (HR.out.below hb)
  clear hb HB0 HX HW HR hx
  go_wp2_with (refine wpList_store_row rfl 31 _ _ rfl (w.heap.size + 1 + 1) _ rfl rfl 31 _ HR1.out info_model rfl (one4m _ _ _ _ _ _ _ _ _ _) ?_)
  have hr := (HR1.out.mrow #[.slice none 0 0, .int .i64 0, .slice none 0 0, .slice none 0 0]).cell
  have hb' := below_setRow HB1.out (Nat.le_trans (Nat.le_succ _) (Nat.le_succ _) : w.heap.size ≤ w.heap.size + 1 + 1) #[.slice none 0 0, .int .i64 0, .slice none 0 0, .slice none 0 0]
  generalize w1.setRow (w.heap.size + 1 + 1) #[.slice none 0 0, .int .i64 0, .slice none 0 0, .slice none 0 0] = w9 at hr hb' ⊢
  refine bodyPost_ret (v := .tuple #[.agg #[.slice none 0 0, .int .i64 0, .slice none 0 0, .slice none 0 0], .bool false, .int .i64 1, .int .i64 0, .int .i64 0]) (by simp [results, Try.results12, go_sem, hr]) rfl ⟨rfl, hb'⟩

set_option maxHeartbeats 4000000 in
set_option maxRecDepth 100000 in
theorem smc_no2 (A B O : Option Addr) (ca cb co : Nat) (zs : List Int) (bs os : List Wtr) (cnt th op arg : Int) (w : World) (hz : zs.length ≤ 1048576) (ht : bs.length ≤ 1048576) (hc : os.length ≤ 1048576) (hA : Rd w A zs) (hT : RdR Wtr.cs w B bs) (hC : RdR Wtr.cs w O os) (qm : mdB zs cnt bs os = true) (qw : wtB th op arg = false) :
    Calls Try.prog 12 #[.agg #[.slice A zs.length ca, .int .i64 cnt, .slice B bs.length cb, .slice O os.length co], .agg #[.int .i64 th, .int .i64 op, .int .i64 arg]] w (fun e w' => e = .returned (.tuple #[.agg #[.slice none 0 0, .int .i64 0, .slice none 0 0, .slice none 0 0], .bool false, .int .i64 1, .int .i64 0, .int .i64 0]) ∧ Below w.heap.size w w') := by
  have HA := Lib.hid hA; have HT := Lib.hid hT; have HC := Lib.hid hC; clear hA hT hC
  have HB0 := Lib.hid (below_alloc3 w (.cells #[.slice A zs.length ca, .int .i64 cnt, .slice B bs.length cb, .slice O os.length co] 31) (.cells #[.int .i64 th, .int .i64 op, .int .i64 arg] 35) (.cells #[.slice none 0 0, .int .i64 0, .slice none 0 0, .slice none 0 0] 31))
  have HX := Lib.hid ((BoxC.new 31 w #[.slice A zs.length ca, .int .i64 cnt, .slice B bs.length cb, .slice O os.length co]).below (below_alloc2 _ (.cells #[.int .i64 th, .int .i64 op, .int .i64 arg] 35) (.cells #[.slice none 0 0, .int .i64 0, .slice none 0 0, .slice none 0 0] 31)))
  have HW := Lib.hid (by have h := (BoxC.new 35 (w.alloc (.cells #[.slice A zs.length ca, .int .i64 cnt, .slice B bs.length cb, .slice O os.length co] 31)) #[.int .i64 th, .int .i64 op, .int .i64 arg]).below (below_alloc _ (.cells #[.slice none 0 0, .int .i64 0, .slice none 0 0, .slice none 0 0] 31)); rw [size_alloc] at h; exact h)
  have HR := Lib.hid (by have h := BoxC.new 31 ((w.alloc (.cells #[.slice A zs.length ca, .int .i64 cnt, .slice B bs.length cb, .slice O os.length co] 31)).alloc (.cells #[.int .i64 th, .int .i64 op, .int .i64 arg] 35)) #[.slice none 0 0, .int .i64 0, .slice none 0 0, .slice none 0 0]; rw [size_alloc, size_alloc] at h; exact h)
  go_enter Try.func12, Try.ntmps12
  have hx := HX.out.cell
  go_wp2_with fail
  refine (specModelOK_any _ _ _ _ _ _ zs bs os cnt _ hz ht hc (HA.out.below HB0.out) (HT.out.below HB0.out) (HC.out.below HB0.out)).mono ?_
  rintro e w1 ⟨rfl, hb⟩
  rw [qm]
  have HB1 := Lib.hid (below_trans HB0.out hb)
  have HX1 := Lib.hid (HX.out.below hb); have HW1 := Lib.hid (HW.out.below hb); have HR1 := Lib.hid (HR.out.below hb)
  clear hb HB0 HX HW HR hx
  have hx := HW1.out.cell
  go_wp2_with fail
  refine (specWaiter_any th op arg _).mono ?_
  rintro e w2 ⟨rfl, hb⟩
  rw [qw]
  have HB2 := Lib.hid (below_trans HB1.out hb)
  have HX2 := Lib.hid (HX1.out.below hb); have HW2 := Lib.hid (HW1.out.below hb); have HR2 := Lib.hid (HR1.out.below hb)
  clear hb HB1 HX1 HW1 HR1 hx
  go_wp2_with (refine wpList_store_row rfl 31 _ _ rfl (w.heap.size + 1 + 1) _ rfl rfl 31 _ HR2.out info_model rfl (one4m _ _ _ _ _ _ _ _ _ _) ?_)
  have hr := (HR2.out.mrow #[.slice none 0 0, .int .i64 0, .slice none 0 0, .slice none 0 0]).cell
  have hb' := below_setRow HB2.out (Nat.le_trans (Nat.le_succ _) (Nat.le_succ _) : w.heap.size ≤ w.heap.size + 1 + 1) #[.slice none 0 0, .int .i64 0, .slice none 0 0, .slice none 0 0]
  generalize w2.setRow (w.heap.size + 1 + 1) #[.slice none 0 0, .int .i64 0, .slice none 0 0, .slice none 0 0] = w9 at hr hb' ⊢
  refine bodyPost_ret (v := .tuple #[.agg #[.slice none 0 0, .int .i64 0, .slice none 0 0, .slice none 0 0], .bool false, .int .i64 1, .int .i64 0, .int .i64 0]) (by simp [results, Try.results12, go_sem, hr]) rfl ⟨rfl, hb'⟩

set_option maxHeartbeats 4000000 in
set_option maxRecDepth 100000 in
theorem smc_busy (A B O : Option Addr) (ca cb co : Nat) (zs : List Int) (bs os : List Wtr) (cnt th op arg : Int) (w : World) (hz : zs.length ≤ 1048576) (ht : bs.length ≤ 1048576) (hc : os.length ≤ 1048576) (hA : Rd w A zs) (hT : RdR Wtr.cs w B bs) (hC : RdR Wtr.cs w O os) (qm : mdB zs cnt bs os = true) (qw : wtB th op arg = true) (hw0 : waitsB bs os th = true) :
    Calls Try.prog 12 #[.agg #[.slice A zs.length ca, .int .i64 cnt, .slice B bs.length cb, .slice O os.length co], .agg #[.int .i64 th, .int .i64 op, .int .i64 arg]] w (SpecPost w ((false, 9, 0, -1), (zs, cnt, bs, os))) := by
  have HA := Lib.hid hA; have HT := Lib.hid hT; have HC := Lib.hid hC; clear hA hT hC
  have HB0 := Lib.hid (below_alloc3 w (.cells #[.slice A zs.length ca, .int .i64 cnt, .slice B bs.length cb, .slice O os.length co] 31) (.cells #[.int .i64 th, .int .i64 op, .int .i64 arg] 35) (.cells #[.slice none 0 0, .int .i64 0, .slice none 0 0, .slice none 0 0] 31))
  have HX := Lib.hid ((BoxC.new 31 w #[.slice A zs.length ca, .int .i64 cnt, .slice B bs.length cb, .slice O os.length co]).below (below_alloc2 _ (.cells #[.int .i64 th, .int .i64 op, .int .i64 arg] 35) (.cells #[.slice none 0 0, .int .i64 0, .slice none 0 0, .slice none 0 0] 31)))
  have HW := Lib.hid (by have h := (BoxC.new 35 (w.alloc (.cells #[.slice A zs.length ca, .int .i64 cnt, .slice B bs.length cb, .slice O os.length co] 31)) #[.int .i64 th, .int .i64 op, .int .i64 arg]).below (below_alloc _ (.cells #[.slice none 0 0, .int .i64 0, .slice none 0 0, .slice none 0 0] 31)); rw [size_alloc] at h; exact h)
  have HR := Lib.hid (by have h := BoxC.new 31 ((w.alloc (.cells #[.slice A zs.length ca, .int .i64 cnt, .slice B bs.length cb, .slice O os.length co] 31)).alloc (.cells #[.int .i64 th, .int .i64 op, .int .i64 arg] 35)) #[.slice none 0 0, .int .i64 0, .slice none 0 0, .slice none 0 0]; rw [size_alloc, size_alloc] at h; exact h)
  go_enter Try.func12, Try.ntmps12
  have hx := HX.out.cell
  go_wp2_with fail
  refine (specModelOK_any _ _ _ _ _ _ zs bs os cnt _ hz ht hc (HA.out.below HB0.out) (HT.out.below HB0.out) (HC.out.below HB0.out)).mono ?_
  rintro e w1 ⟨rfl, hb⟩
  rw [qm]
  have HB1 := Lib.hid (below_trans HB0.out hb)
  have HX1 := Lib.hid (HX.out.below hb); have HW1 := Lib.hid (HW.out.below hb); have HR1 := Lib.hid (HR.out.below hb)
  clear hb HB0 HX HW HR hx
  have hx := HW1.out.cell
  go_wp2_with fail
  refine (specWaiter_any th op arg _).mono ?_
  rintro e w2 ⟨rfl, hb⟩
  rw [qw]
  have HB2 := Lib.hid (below_trans HB1.out hb)
  have HX2 := Lib.hid (HX1.out.below hb); have HW2 := Lib.hid (HW1.out.below hb); have HR2 := Lib.hid (HR1.out.below hb)
  clear hb HB1 HX1 HW1 HR1 hx
  have hx := HX2.out.cell; have hw := HW2.out.cell
  go_wp2_with fail
  refine (l10Waits_any _ _ _ _ _ _ zs bs os cnt th _ ht (md_parts qm).2.2.2.1 (HT.out.below HB2.out) (HC.out.below HB2.out)).mono ?_
  rintro e w3 ⟨rfl, hb⟩
  rw [hw0]
  have HB3 := Lib.hid (below_trans HB2.out hb)
  have HX3 := Lib.hid (HX2.out.below hb); have HW3 := Lib.hid (HW2.out.below hb); have HR3 := Lib.hid (HR2.out.below hb)
  clear hb HB2 HX2 HW2 HR2 hx hw
  have hx := HX3.out.cell; have hw := HW3.out.cell
  go_wp2_with fail
  refine (l10Own_any _ _ _ _ _ _ zs bs os cnt _ hz ht hc (HA.out.below HB3.out) (HT.out.below HB3.out) (HC.out.below HB3.out)).mono ?_
  rintro e w4 ⟨B1, d1, B2, d2, B3, d3, rfl, hO, hb⟩
  have HB4 := Lib.hid (below_trans HB3.out hb)
  have HR4 := Lib.hid (HR3.out.below hb)
  have hz3 := HR3.out.lt
  have HO4 := Lib.hid (OwnO.base hO (b1 := w.heap.size + 1 + 1 + 1) (by omega))
  clear hb hO HB3 HX3 HW3 HR3 hx hw
  go_wp2_with (refine wpList_store_row rfl 31 _ _ rfl (w.heap.size + 1 + 1) _ rfl rfl 31 _ HR4.out info_model rfl (one4m _ _ _ _ _ _ _ _ _ _) ?_)
  have hr := (HR4.out.mrow #[.slice B1 zs.length d1, .int .i64 cnt, .slice B2 bs.length d2, .slice B3 os.length d3]).cell
  have hb' := below_setRow HB4.out (Nat.le_trans (Nat.le_succ _) (Nat.le_succ _) : w.heap.size ≤ w.heap.size + 1 + 1) #[.slice B1 zs.length d1, .int .i64 cnt, .slice B2 bs.length d2, .slice B3 os.length d3]
  have hO' := OwnO.row HO4.out (k := w.heap.size + 1 + 1) (by omega) #[.slice B1 zs.length d1, .int .i64 cnt, .slice B2 bs.length d2, .slice B3 os.length d3]
  generalize w4.setRow (w.heap.size + 1 + 1) #[.slice B1 zs.length d1, .int .i64 cnt, .slice B2 bs.length d2, .slice B3 os.length d3] = w9 at hr hb' hO' ⊢
  refine bodyPost_ret (v := .tuple #[.agg #[.slice B1 zs.length d1, .int .i64 cnt, .slice B2 bs.length d2, .slice B3 os.length d3], .bool false, .int .i64 9, .int .i64 0, .int .i64 (-1)]) (by simp [results, Try.results12, go_sem, hr]) rfl ⟨B1, d1, B2, d2, B3, d3, rfl, (SegC.ofI hO'.st).base (by omega), (SegC.ofW hO'.wt).base (by omega), (SegC.ofW hO'.of).base (by omega), hb'⟩

end Go.Proofs.Ythianfhfamkcmaa

namespace Go.Proofs.Ythianfhfamkcmaa
open Go.RowKit

set_option maxHeartbeats 4000000 in
set_option maxRecDepth 100000 in
theorem smc_full4 (A B O : Option Addr) (ca cb co : Nat) (zs : List Int) (bs os : List Wtr) (cnt th arg : Int) (w : World) (hz : zs.length ≤ 1048576) (ht : bs.length ≤ 1048576) (hc : os.length ≤ 1048576) (hA : Rd w A zs) (hT : RdR Wtr.cs w B bs) (hC : RdR Wtr.cs w O os) (qm : mdB zs cnt bs os = true) (qw : wtB th 4 arg = true) (hw0 : waitsB bs os th = false) (hf : zs.length = 400) :
    Calls Try.prog 12 #[.agg #[.slice A zs.length ca, .int .i64 cnt, .slice B bs.length cb, .slice O os.length co], .agg #[.int .i64 th, .int .i64 4, .int .i64 arg]] w (SpecPost w ((false, 7, 0, -1), (zs, cnt, bs, os))) := by
  have HF := Lib.hid hf; clear hf
  have HA := Lib.hid hA; have HT := Lib.hid hT; have HC := Lib.hid hC; clear hA hT hC
  have HB0 := Lib.hid (below_alloc3 w (.cells #[.slice A zs.length ca, .int .i64 cnt, .slice B bs.length cb, .slice O os.length co] 31) (.cells #[.int .i64 th, .int .i64 4, .int .i64 arg] 35) (.cells #[.slice none 0 0, .int .i64 0, .slice none 0 0, .slice none 0 0] 31))
  have HX := Lib.hid ((BoxC.new 31 w #[.slice A zs.length ca, .int .i64 cnt, .slice B bs.length cb, .slice O os.length co]).below (below_alloc2 _ (.cells #[.int .i64 th, .int .i64 4, .int .i64 arg] 35) (.cells #[.slice none 0 0, .int .i64 0, .slice none 0 0, .slice none 0 0] 31)))
  have HW := Lib.hid (by have h := (BoxC.new 35 (w.alloc (.cells #[.slice A zs.length ca, .int .i64 cnt, .slice B bs.length cb, .slice O os.length co] 31)) #[.int .i64 th, .int .i64 4, .int .i64 arg]).below (below_alloc _ (.cells #[.slice none 0 0, .int .i64 0, .slice none 0 0, .slice none 0 0] 31)); rw [size_alloc] at h; exact h)
  have HR := Lib.hid (by have h := BoxC.new 31 ((w.alloc (.cells #[.slice A zs.length ca, .int .i64 cnt, .slice B bs.length cb, .slice O os.length co] 31)).alloc (.cells #[.int .i64 th, .int .i64 4, .int .i64 arg] 35)) #[.slice none 0 0, .int .i64 0, .slice none 0 0, .slice none 0 0]; rw [size_alloc, size_alloc] at h; exact h)
  go_enter Try.func12, Try.ntmps12
  have hx := HX.out.cell
  go_wp2_with fail
  refine (specModelOK_any _ _ _ _ _ _ zs bs os cnt _ hz ht hc (HA.out.below HB0.out) (HT.out.below HB0.out) (HC.out.below HB0.out)).mono ?_
  rintro e w1 ⟨rfl, hb⟩
  rw [qm]
  have HB1 := Lib.hid (below_trans HB0.out hb)
  have HX1 := Lib.hid (HX.out.below hb); have HW1 := Lib.hid (HW.out.below hb); have HR1 := Lib.hid (HR.out.below hb)
  clear hb HB0 HX HW HR hx
  have hx := HW1.out.cell
  go_wp2_with fail
  refine (specWaiter_any th 4 arg _).mono ?_
  rintro e w2 ⟨rfl, hb⟩
  rw [qw]
  have HB2 := Lib.hid (below_trans HB1.out hb)
  have HX2 := Lib.hid (HX1.out.below hb); have HW2 := Lib.hid (HW1.out.below hb); have HR2 := Lib.hid (HR1.out.below hb)
  clear hb HB1 HX1 HW1 HR1 hx
  have hx := HX2.out.cell; have hw := HW2.out.cell
  go_wp2_with fail
  refine (l10Waits_any _ _ _ _ _ _ zs bs os cnt th _ ht (md_parts qm).2.2.2.1 (HT.out.below HB2.out) (HC.out.below HB2.out)).mono ?_
  rintro e w3 ⟨rfl, hb⟩
  rw [hw0]
  have HB3 := Lib.hid (below_trans HB2.out hb)
  have HX3 := Lib.hid (HX2.out.below hb); have HW3 := Lib.hid (HW2.out.below hb); have HR3 := Lib.hid (HR2.out.below hb)
  clear hb HB2 HX2 HW2 HR2 hx hw
  have hfi : (zs.length : Int) = 400 := by have := HF.out; omega
  have hx := HX3.out.cell; have hw := HW3.out.cell
  go_wp2_with fail
  refine (l10Own_any _ _ _ _ _ _ zs bs os cnt _ hz ht hc (HA.out.below HB3.out) (HT.out.below HB3.out) (HC.out.below HB3.out)).mono ?_
  rintro e w4 ⟨B1, d1, B2, d2, B3, d3, rfl, hO, hb⟩
  have HB4 := Lib.hid (below_trans HB3.out hb)
  have HR4 := Lib.hid (HR3.out.below hb)
  have hz3 := HR3.out.lt
  have HO4 := Lib.hid (OwnO.base hO (b1 := w.heap.size + 1 + 1 + 1) (by omega))
  clear hb hO HB3 HX3 HW3 HR3 hx hw
  go_wp2_with (refine wpList_store_row rfl 31 _ _ rfl (w.heap.size + 1 + 1) _ rfl rfl 31 _ HR4.out info_model rfl (one4m _ _ _ _ _ _ _ _ _ _) ?_)
  have hr := (HR4.out.mrow #[.slice B1 zs.length d1, .int .i64 cnt, .slice B2 bs.length d2, .slice B3 os.length d3]).cell
  have hb' := below_setRow HB4.out (Nat.le_trans (Nat.le_succ _) (Nat.le_succ _) : w.heap.size ≤ w.heap.size + 1 + 1) #[.slice B1 zs.length d1, .int .i64 cnt, .slice B2 bs.length d2, .slice B3 os.length d3]
  have hO' := OwnO.row HO4.out (k := w.heap.size + 1 + 1) (by omega) #[.slice B1 zs.length d1, .int .i64 cnt, .slice B2 bs.length d2, .slice B3 os.length d3]
  generalize w4.setRow (w.heap.size + 1 + 1) #[.slice B1 zs.length d1, .int .i64 cnt, .slice B2 bs.length d2, .slice B3 os.length d3] = w9 at hr hb' hO' ⊢
  refine bodyPost_ret (v := .tuple #[.agg #[.slice B1 zs.length d1, .int .i64 cnt, .slice B2 bs.length d2, .slice B3 os.length d3], .bool false, .int .i64 7, .int .i64 0, .int .i64 (-1)]) (by simp [results, Try.results12, go_sem, hr]) rfl ⟨B1, d1, B2, d2, B3, d3, rfl, (SegC.ofI hO'.st).base (by omega), (SegC.ofW hO'.wt).base (by omega), (SegC.ofW hO'.of).base (by omega), hb'⟩

end Go.Proofs.Ythianfhfamkcmaa

namespace Go.Proofs.Ythianfhfamkcmaa
open Go.RowKit

set_option maxHeartbeats 4000000 in
set_option maxRecDepth 100000 in
theorem smc_full6 (A B O : Option Addr) (ca cb co : Nat) (zs : List Int) (bs os : List Wtr) (th arg : Int) (w : World) (hz : zs.length ≤ 1048576) (ht : bs.length ≤ 1048576) (hc : os.length ≤ 1048576) (hA : Rd w A zs) (hT : RdR Wtr.cs w B bs) (hC : RdR Wtr.cs w O os) (qm : mdB zs 1000000000 bs os = true) (qw : wtB th 6 arg = true) (hw0 : waitsB bs os th = false) :
    Calls Try.prog 12 #[.agg #[.slice A zs.length ca, .int .i64 1000000000, .slice B bs.length cb, .slice O os.length co], .agg #[.int .i64 th, .int .i64 6, .int .i64 arg]] w (SpecPost w ((false, 7, 0, -1), (zs, 1000000000, bs, os))) := by
  have HA := Lib.hid hA; have HT := Lib.hid hT; have HC := Lib.hid hC; clear hA hT hC
  have HB0 := Lib.hid (below_alloc3 w (.cells #[.slice A zs.length ca, .int .i64 1000000000, .slice B bs.length cb, .slice O os.length co] 31) (.cells #[.int .i64 th, .int .i64 6, .int .i64 arg] 35) (.cells #[.slice none 0 0, .int .i64 0, .slice none 0 0, .slice none 0 0] 31))
  have HX := Lib.hid ((BoxC.new 31 w #[.slice A zs.length ca, .int .i64 1000000000, .slice B bs.length cb, .slice O os.length co]).below (below_alloc2 _ (.cells #[.int .i64 th, .int .i64 6, .int .i64 arg] 35) (.cells #[.slice none 0 0, .int .i64 0, .slice none 0 0, .slice none 0 0] 31)))
  have HW := Lib.hid (by have h := (BoxC.new 35 (w.alloc (.cells #[.slice A zs.length ca, .int .i64 1000000000, .slice B bs.length cb, .slice O os.length co] 31)) #[.int .i64 th, .int .i64 6, .int .i64 arg]).below (below_alloc _ (.cells #[.slice none 0 0, .int .i64 0, .slice none 0 0, .slice none 0 0] 31)); rw [size_alloc] at h; exact h)
  have HR := Lib.hid (by have h := BoxC.new 31 ((w.alloc (.cells #[.slice A zs.length ca, .int .i64 1000000000, .slice B bs.length cb, .slice O os.length co] 31)).alloc (.cells #[.int .i64 th, .int .i64 6, .int .i64 arg] 35)) #[.slice none 0 0, .int .i64 0, .slice none 0 0, .slice none 0 0]; rw [size_alloc, size_alloc] at h; exact h)
  go_enter Try.func12, Try.ntmps12
  have hx := HX.out.cell
  go_wp2_with fail
  refine (specModelOK_any _ _ _ _ _ _ zs bs os 1000000000 _ hz ht hc (HA.out.below HB0.out) (HT.out.below HB0.out) (HC.out.below HB0.out)).mono ?_
  rintro e w1 ⟨rfl, hb⟩
  rw [qm]
  have HB1 := Lib.hid (below_trans HB0.out hb)
  have HX1 := Lib.hid (HX.out.below hb); have HW1 := Lib.hid (HW.out.below hb); have HR1 := Lib.hid (HR.out.below hb)
  clear hb HB0 HX HW HR hx
  have hx := HW1.out.cell
  go_wp2_with fail
  refine (specWaiter_any th 6 arg _).mono ?_
  rintro e w2 ⟨rfl, hb⟩
  rw [qw]
  have HB2 := Lib.hid (below_trans HB1.out hb)
  have HX2 := Lib.hid (HX1.out.below hb); have HW2 := Lib.hid (HW1.out.below hb); have HR2 := Lib.hid (HR1.out.below hb)
  clear hb HB1 HX1 HW1 HR1 hx
  have hx := HX2.out.cell; have hw := HW2.out.cell
  go_wp2_with fail
  refine (l10Waits_any _ _ _ _ _ _ zs bs os 1000000000 th _ ht (md_parts qm).2.2.2.1 (HT.out.below HB2.out) (HC.out.below HB2.out)).mono ?_
  rintro e w3 ⟨rfl, hb⟩
  rw [hw0]
  have HB3 := Lib.hid (below_trans HB2.out hb)
  have HX3 := Lib.hid (HX2.out.below hb); have HW3 := Lib.hid (HW2.out.below hb); have HR3 := Lib.hid (HR2.out.below hb)
  clear hb HB2 HX2 HW2 HR2 hx hw
  have hx := HX3.out.cell; have hw := HW3.out.cell
  go_wp2_with fail
  refine (l10Own_any _ _ _ _ _ _ zs bs os 1000000000 _ hz ht hc (HA.out.below HB3.out) (HT.out.below HB3.out) (HC.out.below HB3.out)).mono ?_
  rintro e w4 ⟨B1, d1, B2, d2, B3, d3, rfl, hO, hb⟩
  have HB4 := Lib.hid (below_trans HB3.out hb)
  have HR4 := Lib.hid (HR3.out.below hb)
  have hz3 := HR3.out.lt
  have HO4 := Lib.hid (OwnO.base hO (b1 := w.heap.size + 1 + 1 + 1) (by omega))
  clear hb hO HB3 HX3 HW3 HR3 hx hw
  go_wp2_with (refine wpList_store_row rfl 31 _ _ rfl (w.heap.size + 1 + 1) _ rfl rfl 31 _ HR4.out info_model rfl (one4m _ _ _ _ _ _ _ _ _ _) ?_)
  have hr := (HR4.out.mrow #[.slice B1 zs.length d1, .int .i64 1000000000, .slice B2 bs.length d2, .slice B3 os.length d3]).cell
  have hb' := below_setRow HB4.out (Nat.le_trans (Nat.le_succ _) (Nat.le_succ _) : w.heap.size ≤ w.heap.size + 1 + 1) #[.slice B1 zs.length d1, .int .i64 1000000000, .slice B2 bs.length d2, .slice B3 os.length d3]
  have hO' := OwnO.row HO4.out (k := w.heap.size + 1 + 1) (by omega) #[.slice B1 zs.length d1, .int .i64 1000000000, .slice B2 bs.length d2, .slice B3 os.length d3]
  generalize w4.setRow (w.heap.size + 1 + 1) #[.slice B1 zs.length d1, .int .i64 1000000000, .slice B2 bs.length d2, .slice B3 os.length d3] = w9 at hr hb' hO' ⊢
  refine bodyPost_ret (v := .tuple #[.agg #[.slice B1 zs.length d1, .int .i64 1000000000, .slice B2 bs.length d2, .slice B3 os.length d3], .bool false, .int .i64 7, .int .i64 0, .int .i64 (-1)]) (by simp [results, Try.results12, go_sem, hr]) rfl ⟨B1, d1, B2, d2, B3, d3, rfl, (SegC.ofI hO'.st).base (by omega), (SegC.ofW hO'.wt).base (by omega), (SegC.ofW hO'.of).base (by omega), hb'⟩

end Go.Proofs.Ythianfhfamkcmaa

namespace Go.Proofs.Ythianfhfamkcmaa
open Go.RowKit

set_option maxHeartbeats 4000000 in
set_option maxRecDepth 100000 in
theorem smc_go4 (A B O : Option Addr) (ca cb co : Nat) (zs : List Int) (bs os : List Wtr) (cnt th arg : Int) (w : World) (hz : zs.length ≤ 1048576) (ht : bs.length ≤ 1048576) (hc : os.length ≤ 1048576) (hA : Rd w A zs) (hT : RdR Wtr.cs w B bs) (hC : RdR Wtr.cs w O os) (qm : mdB zs cnt bs os = true) (qw : wtB th 4 arg = true) (hw0 : waitsB bs os th = false) (hf : ¬ zs.length = 400) :
    Calls Try.prog 12 #[.agg #[.slice A zs.length ca, .int .i64 cnt, .slice B bs.length cb, .slice O os.length co], .agg #[.int .i64 th, .int .i64 4, .int .i64 arg]] w (SpecPost w (doR zs cnt bs os th 4 arg)) := by
  have HA := Lib.hid hA; have HT := Lib.hid hT; have HC := Lib.hid hC; clear hA hT hC
  have HB0 := Lib.hid (below_alloc3 w (.cells #[.slice A zs.length ca, .int .i64 cnt, .slice B bs.length cb, .slice O os.length co] 31) (.cells #[.int .i64 th, .int .i64 4, .int .i64 arg] 35) (.cells #[.slice none 0 0, .int .i64 0, .slice none 0 0, .slice none 0 0] 31))
  have HX := Lib.hid ((BoxC.new 31 w #[.slice A zs.length ca, .int .i64 cnt, .slice B bs.length cb, .slice O os.length co]).below (below_alloc2 _ (.cells #[.int .i64 th, .int .i64 4, .int .i64 arg] 35) (.cells #[.slice none 0 0, .int .i64 0, .slice none 0 0, .slice none 0 0] 31)))
  have HW := Lib.hid (by have h := (BoxC.new 35 (w.alloc (.cells #[.slice A zs.length ca, .int .i64 cnt, .slice B bs.length cb, .slice O os.length co] 31)) #[.int .i64 th, .int .i64 4, .int .i64 arg]).below (below_alloc _ (.cells #[.slice none 0 0, .int .i64 0, .slice none 0 0, .slice none 0 0] 31)); rw [size_alloc] at h; exact h)
  have HR := Lib.hid (by have h := BoxC.new 31 ((w.alloc (.cells #[.slice A zs.length ca, .int .i64 cnt, .slice B bs.length cb, .slice O os.length co] 31)).alloc (.cells #[.int .i64 th, .int .i64 4, .int .i64 arg] 35)) #[.slice none 0 0, .int .i64 0, .slice none 0 0, .slice none 0 0]; rw [size_alloc, size_alloc] at h; exact h)
  go_enter Try.func12, Try.ntmps12
  have hx := HX.out.cell
  go_wp2_with fail
  refine (specModelOK_any _ _ _ _ _ _ zs bs os cnt _ hz ht hc (HA.out.below HB0.out) (HT.out.below HB0.out) (HC.out.below HB0.out)).mono ?_
  rintro e w1 ⟨rfl, hb⟩
  rw [qm]
  have HB1 := Lib.hid (below_trans HB0.out hb)
  have HX1 := Lib.hid (HX.out.below hb); have HW1 := Lib.hid (HW.out.below hb); have HR1 := Lib.hid (HR.out.below hb)
  clear hb HB0 HX HW HR hx
  have hx := HW1.out.cell
  go_wp2_with fail
  refine (specWaiter_any th 4 arg _).mono ?_
  rintro e w2 ⟨rfl, hb⟩
  rw [qw]
  have HB2 := Lib.hid (below_trans HB1.out hb)
  have HX2 := Lib.hid (HX1.out.below hb); have HW2 := Lib.hid (HW1.out.below hb); have HR2 := Lib.hid (HR1.out.below hb)
  clear hb HB1 HX1 HW1 HR1 hx
  have hx := HX2.out.cell; have hw := HW2.out.cell
  go_wp2_with fail
  refine (l10Waits_any _ _ _ _ _ _ zs bs os cnt th _ ht (md_parts qm).2.2.2.1 (HT.out.below HB2.out) (HC.out.below HB2.out)).mono ?_
  rintro e w3 ⟨rfl, hb⟩
  rw [hw0]
  have HB3 := Lib.hid (below_trans HB2.out hb)
  have HX3 := Lib.hid (HX2.out.below hb); have HW3 := Lib.hid (HW2.out.below hb); have HR3 := Lib.hid (HR2.out.below hb)
  clear hb HB2 HX2 HW2 HR2 hx hw
  have hfi : ¬ (zs.length : Int) = 400 := by omega
  have hx := HX3.out.cell; have hw := HW3.out.cell
  go_wp2_with fail
  refine (l10Call_any _ _ _ _ _ _ zs bs os cnt th 4 arg _ hz ht hc (HA.out.below HB3.out) (HT.out.below HB3.out) (HC.out.below HB3.out) qm qw hw0 (fun _ => hf) (fun h => absurd h (by decide))).mono ?_
  generalize hrr : doR zs cnt bs os th 4 arg = r
  rintro e w4 ⟨B1, d1, B2, d2, B3, d3, rfl, hsA, hsB, hsO, hb⟩
  have HB4 := Lib.hid (below_trans HB3.out hb)
  have HR4 := Lib.hid (HR3.out.below hb)
  have hz3 := HR3.out.lt
  have HA4 := Lib.hid (SegC.base hsA (b1 := w.heap.size + 1 + 1 + 1) (by omega)); have HT4 := Lib.hid (SegC.base hsB (b1 := w.heap.size + 1 + 1 + 1) (by omega)); have HC4 := Lib.hid (SegC.base hsO (b1 := w.heap.size + 1 + 1 + 1) (by omega))
  clear hb hsA hsB hsO HB3 HX3 HW3 HR3 hx hw
  go_wp2_with (refine wpList_store_row rfl 31 _ _ rfl (w.heap.size + 1 + 1) _ rfl rfl 31 _ HR4.out info_model rfl (one4m _ _ _ _ _ _ _ _ _ _) ?_)
  have hr := (HR4.out.mrow #[.slice B1 r.2.1.length d1, .int .i64 r.2.2.1, .slice B2 r.2.2.2.1.length d2, .slice B3 r.2.2.2.2.length d3]).cell
  have hb' := below_setRow HB4.out (Nat.le_trans (Nat.le_succ _) (Nat.le_succ _) : w.heap.size ≤ w.heap.size + 1 + 1) #[.slice B1 r.2.1.length d1, .int .i64 r.2.2.1, .slice B2 r.2.2.2.1.length d2, .slice B3 r.2.2.2.2.length d3]
  have hsA := SegC.base (b1 := w.heap.size) (SegC.row (n := r.2.1.length) (c := d1) HA4.out (k := w.heap.size + 1 + 1) (by omega) #[.slice B1 r.2.1.length d1, .int .i64 r.2.2.1, .slice B2 r.2.2.2.1.length d2, .slice B3 r.2.2.2.2.length d3]) (by omega)
  have hsB := SegC.base (b1 := w.heap.size) (SegC.row (n := r.2.2.2.1.length) (c := d2) HT4.out (k := w.heap.size + 1 + 1) (by omega) #[.slice B1 r.2.1.length d1, .int .i64 r.2.2.1, .slice B2 r.2.2.2.1.length d2, .slice B3 r.2.2.2.2.length d3]) (by omega)
  have hsO := SegC.base (b1 := w.heap.size) (SegC.row (n := r.2.2.2.2.length) (c := d3) HC4.out (k := w.heap.size + 1 + 1) (by omega) #[.slice B1 r.2.1.length d1, .int .i64 r.2.2.1, .slice B2 r.2.2.2.1.length d2, .slice B3 r.2.2.2.2.length d3]) (by omega)
  generalize w4.setRow (w.heap.size + 1 + 1) #[.slice B1 r.2.1.length d1, .int .i64 r.2.2.1, .slice B2 r.2.2.2.1.length d2, .slice B3 r.2.2.2.2.length d3] = w9 at hr hb' hsA hsB hsO ⊢
  refine bodyPost_ret (v := .tuple #[.agg #[.slice B1 r.2.1.length d1, .int .i64 r.2.2.1, .slice B2 r.2.2.2.1.length d2, .slice B3 r.2.2.2.2.length d3], .bool r.1.1, .int .i64 r.1.2.1, .int .i64 r.1.2.2.1, .int .i64 r.1.2.2.2]) (by simp [results, Try.results12, go_sem, hr]) rfl (by subst hrr; exact ⟨B1, d1, B2, d2, B3, d3, rfl, hsA, hsB, hsO, hb'⟩)

end Go.Proofs.Ythianfhfamkcmaa

namespace Go.Proofs.Ythianfhfamkcmaa
open Go.RowKit

set_option maxHeartbeats 4000000 in
set_option maxRecDepth 100000 in
theorem smc_go6 (A B O : Option Addr) (ca cb co : Nat) (zs : List Int) (bs os : List Wtr) (cnt th arg : Int) (w : World) (hz : zs.length ≤ 1048576) (ht : bs.length ≤ 1048576) (hc : os.length ≤ 1048576) (hA : Rd w A zs) (hT : RdR Wtr.cs w B bs) (hC : RdR Wtr.cs w O os) (qm : mdB zs cnt bs os = true) (qw : wtB th 6 arg = true) (hw0 : waitsB bs os th = false) (hf : ¬ cnt = 1000000000) :
    Calls Try.prog 12 #[.agg #[.slice A zs.length ca, .int .i64 cnt, .slice B bs.length cb, .slice O os.length co], .agg #[.int .i64 th, .int .i64 6, .int .i64 arg]] w (SpecPost w (doR zs cnt bs os th 6 arg)) := by
  have HA := Lib.hid hA; have HT := Lib.hid hT; have HC := Lib.hid hC; clear hA hT hC
  have HB0 := Lib.hid (below_alloc3 w (.cells #[.slice A zs.length ca, .int .i64 cnt, .slice B bs.length cb, .slice O os.length co] 31) (.cells #[.int .i64 th, .int .i64 6, .int .i64 arg] 35) (.cells #[.slice none 0 0, .int .i64 0, .slice none 0 0, .slice none 0 0] 31))
  have HX := Lib.hid ((BoxC.new 31 w #[.slice A zs.length ca, .int .i64 cnt, .slice B bs.length cb, .slice O os.length co]).below (below_alloc2 _ (.cells #[.int .i64 th, .int .i64 6, .int .i64 arg] 35) (.cells #[.slice none 0 0, .int .i64 0, .slice none 0 0, .slice none 0 0] 31)))
  have HW := Lib.hid (by have h := (BoxC.new 35 (w.alloc (.cells #[.slice A zs.length ca, .int .i64 cnt, .slice B bs.length cb, .slice O os.length co] 31)) #[.int .i64 th, .int .i64 6, .int .i64 arg]).below (below_alloc _ (.cells #[.slice none 0 0, .int .i64 0, .slice none 0 0, .slice none 0 0] 31)); rw [size_alloc] at h; exact h)
  have HR := Lib.hid (by have h := BoxC.new 31 ((w.alloc (.cells #[.slice A zs.length ca, .int .i64 cnt, .slice B bs.length cb, .slice O os.length co] 31)).alloc (.cells #[.int .i64 th, .int .i64 6, .int .i64 arg] 35)) #[.slice none 0 0, .int .i64 0, .slice none 0 0, .slice none 0 0]; rw [size_alloc, size_alloc] at h; exact h)
  go_enter Try.func12, Try.ntmps12
  have hx := HX.out.cell
  go_wp2_with fail
  refine (specModelOK_any _ _ _ _ _ _ zs bs os cnt _ hz ht hc (HA.out.below HB0.out) (HT.out.below HB0.out) (HC.out.below HB0.out)).mono ?_
  rintro e w1 ⟨rfl, hb⟩
  rw [qm]
  have HB1 := Lib.hid (below_trans HB0.out hb)
  have HX1 := Lib.hid (HX.out.below hb); have HW1 := Lib.hid (HW.out.below hb); have HR1 := Lib.hid (HR.out.below hb)
  clear hb HB0 HX HW HR hx
  have hx := HW1.out.cell
  go_wp2_with fail
  refine (specWaiter_any th 6 arg _).mono ?_
  rintro e w2 ⟨rfl, hb⟩
  rw [qw]
  have HB2 := Lib.hid (below_trans HB1.out hb)
  have HX2 := Lib.hid (HX1.out.below hb); have HW2 := Lib.hid (HW1.out.below hb); have HR2 := Lib.hid (HR1.out.below hb)
  clear hb HB1 HX1 HW1 HR1 hx
  have hx := HX2.out.cell; have hw := HW2.out.cell
  go_wp2_with fail
  refine (l10Waits_any _ _ _ _ _ _ zs bs os cnt th _ ht (md_parts qm).2.2.2.1 (HT.out.below HB2.out) (HC.out.below HB2.out)).mono ?_
  rintro e w3 ⟨rfl, hb⟩
  rw [hw0]
  have HB3 := Lib.hid (below_trans HB2.out hb)
  have HX3 := Lib.hid (HX2.out.below hb); have HW3 := Lib.hid (HW2.out.below hb); have HR3 := Lib.hid (HR2.out.below hb)
  clear hb HB2 HX2 HW2 HR2 hx hw
  have hx := HX3.out.cell; have hw := HW3.out.cell
  go_wp2_with fail
  refine (l10Call_any _ _ _ _ _ _ zs bs os cnt th 6 arg _ hz ht hc (HA.out.below HB3.out) (HT.out.below HB3.out) (HC.out.below HB3.out) qm qw hw0 (fun h => absurd h (by decide)) (fun _ => hf)).mono ?_
  generalize hrr : doR zs cnt bs os th 6 arg = r
  rintro e w4 ⟨B1, d1, B2, d2, B3, d3, rfl, hsA, hsB, hsO, hb⟩
  have HB4 := Lib.hid (below_trans HB3.out hb)
  have HR4 := Lib.hid (HR3.out.below hb)
  have hz3 := HR3.out.lt
  have HA4 := Lib.hid (SegC.base hsA (b1 := w.heap.size + 1 + 1 + 1) (by omega)); have HT4 := Lib.hid (SegC.base hsB (b1 := w.heap.size + 1 + 1 + 1) (by omega)); have HC4 := Lib.hid (SegC.base hsO (b1 := w.heap.size + 1 + 1 + 1) (by omega))
  clear hb hsA hsB hsO HB3 HX3 HW3 HR3 hx hw
  go_wp2_with (refine wpList_store_row rfl 31 _ _ rfl (w.heap.size + 1 + 1) _ rfl rfl 31 _ HR4.out info_model rfl (one4m _ _ _ _ _ _ _ _ _ _) ?_)
  have hr := (HR4.out.mrow #[.slice B1 r.2.1.length d1, .int .i64 r.2.2.1, .slice B2 r.2.2.2.1.length d2, .slice B3 r.2.2.2.2.length d3]).cell
  have hb' := below_setRow HB4.out (Nat.le_trans (Nat.le_succ _) (Nat.le_succ _) : w.heap.size ≤ w.heap.size + 1 + 1) #[.slice B1 r.2.1.length d1, .int .i64 r.2.2.1, .slice B2 r.2.2.2.1.length d2, .slice B3 r.2.2.2.2.length d3]
  have hsA := SegC.base (b1 := w.heap.size) (SegC.row (n := r.2.1.length) (c := d1) HA4.out (k := w.heap.size + 1 + 1) (by omega) #[.slice B1 r.2.1.length d1, .int .i64 r.2.2.1, .slice B2 r.2.2.2.1.length d2, .slice B3 r.2.2.2.2.length d3]) (by omega)
  have hsB := SegC.base (b1 := w.heap.size) (SegC.row (n := r.2.2.2.1.length) (c := d2) HT4.out (k := w.heap.size + 1 + 1) (by omega) #[.slice B1 r.2.1.length d1, .int .i64 r.2.2.1, .slice B2 r.2.2.2.1.length d2, .slice B3 r.2.2.2.2.length d3]) (by omega)
  have hsO := SegC.base (b1 := w.heap.size) (SegC.row (n := r.2.2.2.2.length) (c := d3) HC4.out (k := w.heap.size + 1 + 1) (by omega) #[.slice B1 r.2.1.length d1, .int .i64 r.2.2.1, .slice B2 r.2.2.2.1.length d2, .slice B3 r.2.2.2.2.length d3]) (by omega)
  generalize w4.setRow (w.heap.size + 1 + 1) #[.slice B1 r.2.1.length d1, .int .i64 r.2.2.1, .slice B2 r.2.2.2.1.length d2, .slice B3 r.2.2.2.2.length d3] = w9 at hr hb' hsA hsB hsO ⊢
  refine bodyPost_ret (v := .tuple #[.agg #[.slice B1 r.2.1.length d1, .int .i64 r.2.2.1, .slice B2 r.2.2.2.1.length d2, .slice B3 r.2.2.2.2.length d3], .bool r.1.1, .int .i64 r.1.2.1, .int .i64 r.1.2.2.1, .int .i64 r.1.2.2.2]) (by simp [results, Try.results12, go_sem, hr]) rfl (by subst hrr; exact ⟨B1, d1, B2, d2, B3, d3, rfl, hsA, hsB, hsO, hb'⟩)

end Go.Proofs.Ythianfhfamkcmaa
