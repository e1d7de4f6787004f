/-
  Models (chapter 11): the model's l10Call, one way of it.
  Models (chapter 11): the model's l10Call, whole.
  Models (chapter 11): what a call makes of a right model is right; who leaves is as if it had not come.
  Drawn waiters and models: each right.
  Drawn models: each right.
-/
import Derived.BigQuiet
import Derived.Test.YthianfhfamkcmaaJ20
import Derived.Test.YthianfhfamkcmaaJ21
import Derived.Test.YthianfhfamkcmaaJ22
import Derived.Test.YthianfhfamkcmaaJ23
import Derived.Test.YthianfhfamkcmaaJ24
import Derived.Test.YthianfhfamkcmaaJ25
import Derived.Test.YthianfhfamkcmaaJ14
import Derived.Test.YthianfhfamkcmaaJ03
namespace Go.Proofs.Ythianfhfamkcmaa
open Go.RowKit

set_option maxHeartbeats 4000000 in
set_option maxRecDepth 100000 in
theorem l10_count (A B O : Option Addr) (ca cb co : Nat) (zs : List Int) (bs os : List Wtr) (cnt th arg : Int) (w : World) (hz : zs.length ≤ 1048576) (ht : bs.length ≤ 1048576) (hc : os.length ≤ 1048576) (hA : Rd w A zs) (hT : RdR Wtr.cs w B bs) (hC : RdR Wtr.cs w O os) (hc0 : 0 ≤ cnt) (hc1 : cnt < 1000000000) :
    Calls Try.prog 51 #[.agg #[.slice A zs.length ca, .int .i64 cnt, .slice B bs.length cb, .slice O os.length co], .agg #[.int .i64 th, .int .i64 6, .int .i64 arg]] w (SpecPost w ((true, 0, cnt, (-1)), (zs, (cnt + 1), bs, os))) := by
  have HA := Lib.hid hA; have HT := Lib.hid hT; have HC := Lib.hid hC; clear hA hT hC
  have HB0 := Lib.hid (below_alloc3 w (.cells #[.slice A zs.length ca, .int .i64 cnt, .slice B bs.length cb, .slice O os.length co] 31) (.cells #[.int .i64 th, .int .i64 6, .int .i64 arg] 35) (.cells #[.slice none 0 0, .int .i64 0, .slice none 0 0, .slice none 0 0] 31))
  have HX := Lib.hid ((BoxC.new 31 w #[.slice A zs.length ca, .int .i64 cnt, .slice B bs.length cb, .slice O os.length co]).below (below_alloc2 _ (.cells #[.int .i64 th, .int .i64 6, .int .i64 arg] 35) (.cells #[.slice none 0 0, .int .i64 0, .slice none 0 0, .slice none 0 0] 31)))
  have HW := Lib.hid (by have h := (BoxC.new 35 (w.alloc (.cells #[.slice A zs.length ca, .int .i64 cnt, .slice B bs.length cb, .slice O os.length co] 31)) #[.int .i64 th, .int .i64 6, .int .i64 arg]).below (below_alloc _ (.cells #[.slice none 0 0, .int .i64 0, .slice none 0 0, .slice none 0 0] 31)); rw [size_alloc] at h; exact h)
  have HR := Lib.hid (by have h := BoxC.new 31 ((w.alloc (.cells #[.slice A zs.length ca, .int .i64 cnt, .slice B bs.length cb, .slice O os.length co] 31)).alloc (.cells #[.int .i64 th, .int .i64 6, .int .i64 arg] 35)) #[.slice none 0 0, .int .i64 0, .slice none 0 0, .slice none 0 0]; rw [size_alloc, size_alloc] at h; exact h)
  have hsz : (((w.alloc (.cells #[.slice A zs.length ca, .int .i64 cnt, .slice B bs.length cb, .slice O os.length co] 31)).alloc (.cells #[.int .i64 th, .int .i64 6, .int .i64 arg] 35)).alloc (.cells #[.slice none 0 0, .int .i64 0, .slice none 0 0, .slice none 0 0] 31)).heap.size = w.heap.size + 1 + 1 + 1 := by simp
  go_enter Try.func51, Try.ntmps51
  have hx := HX.out.cell
  go_wp2_with fail
  refine (l10Own_any _ _ _ _ _ _ zs bs os cnt _ hz ht hc (HA.out.below HB0.out) (HT.out.below HB0.out) (HC.out.below HB0.out)).mono ?_
  rintro e w1 ⟨B1, d1, B2, d2, B3, d3, rfl, hO, hb⟩
  rw [hsz] at hO
  have HB1 := Lib.hid (below_trans HB0.out hb)
  have HX1 := Lib.hid (HX.out.below hb); have HW1 := Lib.hid (HW.out.below hb); have HR1 := Lib.hid (HR.out.below hb)
  have HO1 := Lib.hid hO
  clear hb hO HB0 HX HW HR hx hsz
  go_upto_region 2 with (refine wpList_store_row rfl 31 _ _ rfl w.heap.size _ rfl rfl 31 _ HX1.out info_model rfl (one4m _ _ _ _ _ _ _ _ _ _) ?_)
  have HX2 := Lib.hid (HX1.out.mrow #[.slice B1 zs.length d1, .int .i64 cnt, .slice B2 bs.length d2, .slice B3 os.length d3])
  have HW2 := Lib.hid (HW1.out.mrowO (b := w.heap.size) (by omega) #[.slice B1 zs.length d1, .int .i64 cnt, .slice B2 bs.length d2, .slice B3 os.length d3])
  have HR2 := Lib.hid (HR1.out.mrowO (b := w.heap.size) (by omega) #[.slice B1 zs.length d1, .int .i64 cnt, .slice B2 bs.length d2, .slice B3 os.length d3])
  have HB2 := Lib.hid (below_setRow HB1.out (Nat.le_refl _) #[.slice B1 zs.length d1, .int .i64 cnt, .slice B2 bs.length d2, .slice B3 os.length d3])
  have HO2 := Lib.hid (HO1.out.row (k := w.heap.size) (by omega) #[.slice B1 zs.length d1, .int .i64 cnt, .slice B2 bs.length d2, .slice B3 os.length d3])
  generalize w1.setRow w.heap.size #[.slice B1 zs.length d1, .int .i64 cnt, .slice B2 bs.length d2, .slice B3 os.length d3] = w2 at HX2 HW2 HR2 HB2 HO2 ⊢
  have hz2 : w.heap.size + 1 + 1 < w2.heap.size := HR2.out.lt
  have hy2 : w.heap.size < w2.heap.size := by omega
  have hy2' : w.heap.size + 1 < w2.heap.size := by omega
  clear HX1 HW1 HR1 HB1 HO1
  have hx := HX2.out.cell; have hf := HX2.out.mfroz; have hw := HW2.out.cell
  have e1 : IntKind.i64.wrap (cnt + 1) = cnt + 1 := IntWalk.i64_in _ (by omega)
  have e2 : IntKind.i64.wrap (cnt + 1 - 1) = cnt := by rw [Int.add_sub_cancel]; exact IntWalk.i64_in _ (by omega)
  have e3 : IntKind.i64.wrap cnt = cnt := IntWalk.i64_in _ (by omega)
  go_upto_region 28 with fail
  have HX3 : Hid (BoxC 31 (w2.setCell ⟨w.heap.size, 1, none⟩ (.int .i64 (cnt + 1))) w.heap.size #[.slice B1 zs.length d1, .int .i64 (cnt + 1), .slice B2 bs.length d2, .slice B3 os.length d3]) := Lib.hid (HX2.out.mset 1 _)
  have HR3 := Lib.hid (HR2.out.msetO ⟨w.heap.size, 1, none⟩ (.int .i64 (cnt + 1)) (by simp <;> omega))
  have HB3 := Lib.hid (HB2.out.setCell (p := ⟨w.heap.size, 1, none⟩) (Nat.le_refl _) (.int .i64 (cnt + 1)))
  have HA3 := Lib.hid ((SegC.ofI HO2.out.st).low (k := w.heap.size) (o := 1) (by omega) (.int .i64 (cnt + 1)))
  have HT3 := Lib.hid ((SegC.ofW HO2.out.wt).low (k := w.heap.size) (o := 1) (by omega) (.int .i64 (cnt + 1)))
  have HC3 := Lib.hid ((SegC.ofW HO2.out.of).low (k := w.heap.size) (o := 1) (by omega) (.int .i64 (cnt + 1)))
  generalize w2.setCell ⟨w.heap.size, 1, none⟩ (.int .i64 (cnt + 1)) = w3 at HX3 HR3 HB3 HA3 HT3 HC3 ⊢
  clear hf hx hw HX2 HW2 HR2 HB2 HO2
  have h0 := HX3.out.cell; have hr := HR3.out.cell; have hf := HR3.out.mfroz
  have hk0 : ¬ w.heap.size + 1 + 1 = w.heap.size := by omega
  go_wp2_with fail
  go_region_held3 (fun w' => (∀ j : Nat, w'.cell? ⟨w.heap.size, j, none⟩ = (#[.slice B1 zs.length d1, .int .i64 (cnt + 1), .slice B2 bs.length d2, .slice B3 os.length d3] : Array Value)[j]?))
    (first | exact h0 | (refine ?_ <;> (repeat (first | (with_reducible refine cellsK (by assumption) ?_) | (with_reducible refine cellsD ?_))) <;> assumption))
    (first | fail)
  all_goals
    have hb' : Below w.heap.size w ((((w3.setCell ⟨w.heap.size + 1 + 1, 0, none⟩ (.slice B1 zs.length d1)).setCell ⟨w.heap.size + 1 + 1, 1, none⟩ (.int .i64 (cnt + 1))).setCell ⟨w.heap.size + 1 + 1, 2, none⟩ (.slice B2 bs.length d2)).setCell ⟨w.heap.size + 1 + 1, 3, none⟩ (.slice B3 os.length d3)).drew := by
      refine Below.drew ?_
      repeat (refine Below.setCell ?_ (by simp <;> omega) _)
      exact HB3.out
    have hr' : BoxC 31 ((((w3.setCell ⟨w.heap.size + 1 + 1, 0, none⟩ (.slice B1 zs.length d1)).setCell ⟨w.heap.size + 1 + 1, 1, none⟩ (.int .i64 (cnt + 1))).setCell ⟨w.heap.size + 1 + 1, 2, none⟩ (.slice B2 bs.length d2)).setCell ⟨w.heap.size + 1 + 1, 3, none⟩ (.slice B3 os.length d3)).drew (w.heap.size + 1 + 1) #[.slice B1 zs.length d1, .int .i64 (cnt + 1), .slice B2 bs.length d2, .slice B3 os.length d3] := BoxC.drewG ((((HR3.out.mset 0 _).mset 1 _).mset 2 _).mset 3 _)
    have hsA := SegC.drewG (SegC.base (b1 := w.heap.size) ((((HA3.out.low (k := w.heap.size + 1 + 1) (o := 0) (by omega) (.slice B1 zs.length d1)).low (k := w.heap.size + 1 + 1) (o := 1) (by omega) (.int .i64 (cnt + 1))).low (k := w.heap.size + 1 + 1) (o := 2) (by omega) (.slice B2 bs.length d2)).low (k := w.heap.size + 1 + 1) (o := 3) (by omega) (.slice B3 os.length d3)) (by omega))
    have hsB := SegC.drewG (SegC.base (b1 := w.heap.size) ((((HT3.out.low (k := w.heap.size + 1 + 1) (o := 0) (by omega) (.slice B1 zs.length d1)).low (k := w.heap.size + 1 + 1) (o := 1) (by omega) (.int .i64 (cnt + 1))).low (k := w.heap.size + 1 + 1) (o := 2) (by omega) (.slice B2 bs.length d2)).low (k := w.heap.size + 1 + 1) (o := 3) (by omega) (.slice B3 os.length d3)) (by omega))
    have hsO := SegC.drewG (SegC.base (b1 := w.heap.size) ((((HC3.out.low (k := w.heap.size + 1 + 1) (o := 0) (by omega) (.slice B1 zs.length d1)).low (k := w.heap.size + 1 + 1) (o := 1) (by omega) (.int .i64 (cnt + 1))).low (k := w.heap.size + 1 + 1) (o := 2) (by omega) (.slice B2 bs.length d2)).low (k := w.heap.size + 1 + 1) (o := 3) (by omega) (.slice B3 os.length d3)) (by omega))
    generalize ((((w3.setCell ⟨w.heap.size + 1 + 1, 0, none⟩ (.slice B1 zs.length d1)).setCell ⟨w.heap.size + 1 + 1, 1, none⟩ (.int .i64 (cnt + 1))).setCell ⟨w.heap.size + 1 + 1, 2, none⟩ (.slice B2 bs.length d2)).setCell ⟨w.heap.size + 1 + 1, 3, none⟩ (.slice B3 os.length d3)).drew = w9 at hb' hr' hsA hsB hsO ⊢
    have hr9 := hr'.cell
    clear hr' hr hf h0
    go_wp2_with fail
    refine bodyPost_ret (v := .tuple #[.agg #[.slice B1 zs.length d1, .int .i64 (cnt + 1), .slice B2 bs.length d2, .slice B3 os.length d3], .bool true, .int .i64 0, .int .i64 cnt, .int .i64 (-1)]) (by simp [results, Try.results51, go_sem, hr9]) rfl ⟨B1, d1, B2, d2, B3, d3, rfl, hsA, hsB, hsO, hb'⟩

end Go.Proofs.Ythianfhfamkcmaa

namespace Go.Proofs.Ythianfhfamkcmaa
open Go.RowKit

theorem md_parts {zs : List Int} {cnt : Int} {bs os : List Wtr} (h : mdB zs cnt bs os = true) : zs.length ≤ 400 ∧ 0 ≤ cnt ∧ cnt ≤ 1000000000 ∧ os.length ≤ 1 ∧ wsB bs os = true := by
  simp only [mdB, Bool.and_eq_true, decide_eq_true_eq] at h
  obtain ⟨⟨⟨⟨h1, h2⟩, h3⟩, _⟩, h5⟩ := h
  exact ⟨h1, (inB_true h2).1, (inB_true h2).2, h3, h5⟩
theorem wt_parts {th op arg : Int} (h : wtB th op arg = true) : opB op = true ∧ argB op arg = true := by
  simp only [wtB, Bool.and_eq_true] at h
  exact ⟨h.1.2, h.2⟩
theorem ws_headB {x : Wtr} {r os : List Wtr} (h : wsB (x :: r) os = true) : (x.op = 1 ∨ x.op = 2) ∧ argB x.op x.arg = true := by
  simp only [wsB, cmB, isW, hdO, Bool.and_eq_true, Bool.or_eq_true, beq_iff_eq] at h
  exact ⟨h.1.1.1.2.2, (wt_parts h.1.1.1.1).2⟩
theorem ws_headO {x : Wtr} {bs r : List Wtr} (h : wsB bs (x :: r) = true) : x.op = 3 := by
  simp only [wsB, cmB, isO, Bool.and_eq_true, beq_iff_eq] at h
  exact h.2.1.1.2
theorem arg_put {arg : Int} (h : argB 1 arg = true) : 0 ≤ arg := (inB_true h).1
theorem arg_take {arg : Int} (h : argB 2 arg = true) : arg = 0 := by
  have := inB_true h; simp [bringsB] at this; omega

theorem l10Call_any (A B O : Option Addr) (ca cb co : Nat) (zs : List Int) (bs os : List Wtr) (cnt th op arg : Int) (w : World) (hz : zs.length ≤ 1048576) (ht : bs.length ≤ 1048576) (hc : os.length ≤ 1048576) (hA : Rd w A zs) (hT : RdR Wtr.cs w B bs) (hC : RdR Wtr.cs w O os) (qm : mdB zs cnt bs os = true) (qw : wtB th op arg = true) (hw : waitsB bs os th = false) (hf4 : op = 4 → ¬ zs.length = 400) (hf6 : op = 6 → ¬ cnt = 1000000000) :
    Calls Try.prog 51 #[.agg #[.slice A zs.length ca, .int .i64 cnt, .slice B bs.length cb, .slice O os.length co], .agg #[.int .i64 th, .int .i64 op, .int .i64 arg]] w (SpecPost w (doR zs cnt bs os th op arg)) := by
  obtain ⟨hz4, hc0, hc1, ho1, hws⟩ := md_parts qm
  obtain ⟨hop, harg⟩ := wt_parts qw
  have hq' : ¬ waitsB bs os th = true := by rw [hw]; decide
  have h6 : op = 1 ∨ op = 2 ∨ op = 3 ∨ op = 4 ∨ op = 5 ∨ op = 6 := by have := inB_true hop; omega
  rcases h6 with ho | ho | ho | ho | ho | ho <;> subst ho
  · cases bs with
    | nil =>
      rw [show doR zs cnt [] os th 1 arg = ((false, 0, 0, -1), (zs, cnt, [⟨th, 1, arg⟩], os)) from (if_neg hq').trans (if_pos (Or.inl rfl))]
      exact l10_nil1 A B O ca cb co zs os cnt th arg w hz ht hc hA hT hC
    | cons x r =>
      obtain ⟨xt, xo, xa⟩ := x
      obtain ⟨h12, hxa⟩ := ws_headB hws
      simp only at h12 hxa
      rcases h12 with hx | hx <;> subst hx
      · rw [show doR zs cnt (⟨xt, 1, xa⟩ :: r) os th 1 arg = ((false, 0, 0, -1), (zs, cnt, (⟨xt, 1, xa⟩ :: r) ++ [⟨th, 1, arg⟩], os)) from (if_neg hq').trans ((if_pos (Or.inl rfl)).trans (if_neg (by simp [partB])))]
        exact l10_same1 A B O ca cb co zs xt xa r os cnt th arg w hz ht hc hA hT hC
      · rw [show doR zs cnt (⟨xt, 2, xa⟩ :: r) os th 1 arg = ((true, 0, arg, xt), (zs, cnt, r, os)) from (if_neg hq').trans ((if_pos (Or.inl rfl)).trans ((if_pos (by simp [partB])).trans (by rw [if_pos rfl])))]
        exact l10_meet1 A B O ca cb co zs xt xa r os cnt th arg w hz ht hc hA hT hC (by have h0 := arg_put harg; have h1 := arg_take hxa; omega)
  · cases bs with
    | nil =>
      rw [show doR zs cnt [] os th 2 arg = ((false, 0, 0, -1), (zs, cnt, [⟨th, 2, arg⟩], os)) from (if_neg hq').trans (if_pos (Or.inr rfl))]
      exact l10_nil2 A B O ca cb co zs os cnt th arg w hz ht hc hA hT hC
    | cons x r =>
      obtain ⟨xt, xo, xa⟩ := x
      obtain ⟨h12, hxa⟩ := ws_headB hws
      simp only at h12 hxa
      rcases h12 with hx | hx <;> subst hx
      · rw [show doR zs cnt (⟨xt, 1, xa⟩ :: r) os th 2 arg = ((true, 0, xa, xt), (zs, cnt, r, os)) from (if_neg hq').trans ((if_pos (Or.inr rfl)).trans ((if_pos (by simp [partB])).trans (by rw [if_neg (by decide)])))]
        have h0 := arg_put hxa
        have h1 := arg_take harg
        by_cases hm : arg < xa
        · exact l10_meet2 A B O ca cb co zs xt xa r os cnt th arg w hz ht hc hA hT hC hm
        · obtain rfl : xa = arg := by omega
          exact l10_meet3 A B O ca cb co zs xt xa r os cnt th xa w hz ht hc hA hT hC hm
      · rw [show doR zs cnt (⟨xt, 2, xa⟩ :: r) os th 2 arg = ((false, 0, 0, -1), (zs, cnt, (⟨xt, 2, xa⟩ :: r) ++ [⟨th, 2, arg⟩], os)) from (if_neg hq').trans ((if_pos (Or.inr rfl)).trans (if_neg (by simp [partB])))]
        exact l10_same2 A B O ca cb co zs xt xa r os cnt th arg w hz ht hc hA hT hC
  · have ho' : ¬ ((3 : Int) = 1 ∨ (3 : Int) = 2) := by decide
    cases os with
    | nil =>
      rw [show doR zs cnt bs [] th 3 arg = ((false, 0, 0, -1), (zs, cnt, bs, [⟨th, 3, arg⟩])) from (if_neg hq').trans ((if_neg ho').trans (if_pos rfl))]
      exact l10_nilO A B O ca cb co zs bs cnt th arg w hz ht hc hA hT hC
    | cons x r =>
      obtain ⟨xt, xo, xa⟩ := x
      have hx := ws_headO hws
      simp only at hx
      subst hx
      obtain rfl : r = [] := by cases r with | nil => rfl | cons y r => simp at ho1
      rw [show doR zs cnt bs [⟨xt, 3, xa⟩] th 3 arg = ((true, 0, xa, xt), (zs, cnt, bs, [])) from (if_neg hq').trans ((if_neg ho').trans ((if_pos rfl).trans (if_pos (by simp [partB]))))]
      exact l10_meetO A B O ca cb co zs xt xa bs cnt th arg w hz ht hc hA hT hC
  · rw [show doR zs cnt bs os th 4 arg = ((true, 0, arg, -1), (arg :: zs, cnt, bs, os)) from by unfold doR; rw [if_neg hq', if_neg (by decide), if_neg (by decide), if_pos rfl, if_neg (hf4 rfl)]]
    exact l10_push A B O ca cb co zs bs os cnt th arg w hz ht hc hA hT hC
  · cases zs with
    | nil =>
      rw [show doR [] cnt bs os th 5 arg = ((true, 14, 0, -1), ([], cnt, bs, os)) from by unfold doR; rw [if_neg hq', if_neg (by decide), if_neg (by decide), if_neg (by decide), if_pos rfl]]
      exact l10_popN A B O ca cb co bs os cnt th arg w hz ht hc hA hT hC
    | cons z r =>
      rw [show doR (z :: r) cnt bs os th 5 arg = ((true, 0, z, -1), (r, cnt, bs, os)) from by unfold doR; rw [if_neg hq', if_neg (by decide), if_neg (by decide), if_neg (by decide), if_pos rfl]]
      exact l10_pop A B O ca cb co z r bs os cnt th arg w hz ht hc hA hT hC
  · rw [show doR zs cnt bs os th 6 arg = ((true, 0, cnt, -1), (zs, cnt + 1, bs, os)) from by unfold doR; rw [if_neg hq', if_neg (by decide), if_neg (by decide), if_neg (by decide), if_neg (by decide), if_neg (hf6 rfl)]]
    exact l10_count A B O ca cb co zs bs os cnt th arg w hz ht hc hA hT hC hc0 (by have := hf6 rfl; omega)
end Go.Proofs.Ythianfhfamkcmaa

namespace Go.Proofs.Ythianfhfamkcmaa
open Go.RowKit

/-- Those that wait, told by what holds of each. -/
def Ws (p : Wtr → Bool) (s : List Int) (l : List Wtr) : Prop := (∀ x ∈ l, wtB x.th x.op x.arg = true ∧ p x = true ∧ x.th ∉ s) ∧ (l.map Wtr.th).Nodup
theorem cm_iff {p : Wtr → Bool} {s : List Int} {l : List Wtr} : cmB p s l = true ↔ Ws p s l := by
  induction l generalizing s with
  | nil => simp [cmB, Ws]
  | cons x r ih =>
    rw [cmB, Bool.and_eq_true, ih]
    simp only [Ws, Bool.and_eq_true, Bool.not_eq_true', List.mem_cons, forall_eq_or_imp, List.map_cons, List.nodup_cons, List.mem_append, List.not_mem_nil, or_false, not_or]
    have hc : s.contains x.th = false ↔ x.th ∉ s := by
      rw [← Bool.not_eq_true, List.contains_iff_mem]
    rw [hc]
    constructor
    · rintro ⟨⟨⟨h1, h2⟩, h3⟩, h4, h5⟩
      exact ⟨⟨⟨h1, h2, h3⟩, fun y hy => ⟨(h4 y hy).1, (h4 y hy).2.1, (h4 y hy).2.2.1⟩⟩, fun hm => by
        obtain ⟨y, hy, he⟩ := List.mem_map.1 hm
        exact (h4 y hy).2.2.2 he, h5⟩
    · rintro ⟨⟨⟨h1, h2, h3⟩, h4⟩, h5, h6⟩
      exact ⟨⟨⟨h1, h2⟩, h3⟩, fun y hy => ⟨(h4 y hy).1, (h4 y hy).2.1, (h4 y hy).2.2, fun e => h5 (List.mem_map.2 ⟨y, hy, e⟩)⟩, h6⟩
theorem isW_iff {o : Int} {x : Wtr} : isW o x = true ↔ x.op = o ∧ (x.op = 1 ∨ x.op = 2) := by simp [isW]
theorem isO_iff {x : Wtr} : isO x = true ↔ x.op = 3 := by simp [isO]
/-- A right model, told by what holds of its lists. -/
structure Md (zs : List Int) (cnt : Int) (bs os : List Wtr) : Prop where
  z : zs.length ≤ 400
  c0 : 0 ≤ cnt
  c1 : cnt ≤ 1000000000
  o1 : os.length ≤ 1
  v : ∀ x ∈ zs, inB x 0 999 = true
  b : ∀ x ∈ bs, wtB x.th x.op x.arg = true ∧ x.op = hdO bs ∧ (x.op = 1 ∨ x.op = 2)
  bn : (bs.map Wtr.th).Nodup
  o : ∀ x ∈ os, wtB x.th x.op x.arg = true ∧ x.op = 3 ∧ x.th ∉ bs.map Wtr.th
theorem md_iff {zs : List Int} {cnt : Int} {bs os : List Wtr} : mdB zs cnt bs os = true ↔ Md zs cnt bs os := by
  constructor
  · intro h
    have hp := md_parts h
    obtain ⟨h1, h2⟩ := Bool.and_eq_true_iff.1 (show (_ && wsB bs os) = true from h)
    have hv := (Bool.and_eq_true_iff.1 h1).2
    obtain ⟨w1, w2⟩ := Bool.and_eq_true_iff.1 (show (cmB (isW (hdO bs)) [] bs && cmB isO (bs.map Wtr.th) os) = true from h2)
    have w1 := cm_iff.1 w1
    have w2 := cm_iff.1 w2
    exact ⟨hp.1, hp.2.1, hp.2.2.1, hp.2.2.2.1, fun x hx => List.all_eq_true.1 hv x hx, fun x hx => ⟨(w1.1 x hx).1, (isW_iff.1 (w1.1 x hx).2.1).1, (isW_iff.1 (w1.1 x hx).2.1).2⟩, w1.2, fun x hx => ⟨(w2.1 x hx).1, isO_iff.1 (w2.1 x hx).2.1, (w2.1 x hx).2.2⟩⟩
  · intro h
    have hn : (os.map Wtr.th).Nodup := by
      match os, h.o1 with
      | [], _ => simp
      | [x], _ => simp
    have w1 : cmB (isW (hdO bs)) [] bs = true := cm_iff.2 ⟨fun x hx => ⟨(h.b x hx).1, isW_iff.2 ⟨(h.b x hx).2.1, (h.b x hx).2.2⟩, by simp⟩, h.bn⟩
    have w2 : cmB isO (bs.map Wtr.th) os = true := cm_iff.2 ⟨fun x hx => ⟨(h.o x hx).1, isO_iff.2 (h.o x hx).2.1, (h.o x hx).2.2⟩, hn⟩
    simp only [mdB, wsB, w1, w2, Bool.and_true, Bool.and_eq_true, decide_eq_true_eq]
    exact ⟨⟨⟨h.z, inB_iff.2 ⟨h.c0, h.c1⟩⟩, h.o1⟩, List.all_eq_true.2 h.v⟩
theorem waits_iff {bs os : List Wtr} {n : Int} : waitsB bs os n = false ↔ (∀ x ∈ bs, ¬ x.th = n) ∧ (∀ x ∈ os, ¬ x.th = n) := by
  simp [waitsB, isTh]
theorem hdO_append {l : List Wtr} (h : l ≠ []) (r : List Wtr) : hdO (l ++ r) = hdO l := by
  cases l with
  | nil => exact absurd rfl h
  | cons x t => rfl
theorem kept_all {n : Int} {l : List Wtr} (h : ∀ x ∈ l, ¬ x.th = n) : keptT n l = l := by
  unfold keptT
  rw [List.filter_eq_self]
  intro x hx
  simp [keepT, h x hx]
/-- The call waits behind the others of its kind. -/
theorem Md.join {zs : List Int} {cnt : Int} {bs os : List Wtr} (h : Md zs cnt bs os) {th op arg : Int} (hw : wtB th op arg = true) (ho : op = 1 ∨ op = 2) (hq : waitsB bs os th = false) (hk : bs = [] ∨ hdO bs = op) : Md zs cnt (bs ++ [⟨th, op, arg⟩]) os := by
  obtain ⟨q1, q2⟩ := waits_iff.1 hq
  have hd : hdO (bs ++ [⟨th, op, arg⟩]) = op := by
    rcases hk with rfl | hk
    · rfl
    · cases bs with
      | nil => rfl
      | cons x r => rw [hdO_append (by simp)]; exact hk
  refine ⟨h.z, h.c0, h.c1, h.o1, h.v, fun x hx => ?_, ?_, fun x hx => ?_⟩
  · rw [hd]
    rcases List.mem_append.1 hx with hx | hx
    · refine ⟨(h.b x hx).1, ?_, (h.b x hx).2.2⟩
      rcases hk with rfl | hk
      · cases hx
      · rw [← hk]; exact (h.b x hx).2.1
    · obtain rfl := List.mem_singleton.1 hx
      exact ⟨hw, rfl, ho⟩
  · rw [List.map_append, List.nodup_append]
    refine ⟨h.bn, by simp, ?_⟩
    intro a ha b hb e
    obtain ⟨y, hy, rfl⟩ := List.mem_map.1 ha
    obtain rfl := List.mem_singleton.1 (by simpa using hb : b ∈ [th])
    exact q1 y hy e
  · refine ⟨(h.o x hx).1, (h.o x hx).2.1, ?_⟩
    rw [List.map_append, List.mem_append]
    rintro (hm | hm)
    · exact (h.o x hx).2.2 hm
    · exact q2 x hx (by simpa using hm)
theorem Md.tail {zs : List Int} {cnt : Int} {x : Wtr} {r os : List Wtr} (h : Md zs cnt (x :: r) os) : Md zs cnt r os := by
  refine ⟨h.z, h.c0, h.c1, h.o1, h.v, fun y hy => ?_, ?_, fun y hy => ⟨(h.o y hy).1, (h.o y hy).2.1, fun hm => (h.o y hy).2.2 (by rw [List.map_cons]; exact List.mem_cons_of_mem _ hm)⟩⟩
  · obtain ⟨a, b, c⟩ := h.b y (List.mem_cons_of_mem _ hy)
    refine ⟨a, ?_, c⟩
    cases r with
    | nil => cases hy
    | cons z t => rw [b]; exact (h.b z (by simp)).2.1.symm
  · have := h.bn
    rw [List.map_cons, List.nodup_cons] at this
    exact this.2
theorem Md.offer {zs : List Int} {cnt : Int} {bs : List Wtr} (h : Md zs cnt bs []) {th arg : Int} (hw : wtB th 3 arg = true) (hq : waitsB bs [] th = false) : Md zs cnt bs [⟨th, 3, arg⟩] :=
  ⟨h.z, h.c0, h.c1, by simp, h.v, h.b, h.bn, fun x hx => by
    obtain rfl := List.mem_singleton.1 hx
    refine ⟨hw, rfl, fun hm => ?_⟩
    obtain ⟨y, hy, e⟩ := List.mem_map.1 hm
    exact (waits_iff.1 hq).1 y hy e⟩
theorem Md.gone {zs : List Int} {cnt : Int} {bs : List Wtr} {x : Wtr} {r : List Wtr} (h : Md zs cnt bs (x :: r)) : Md zs cnt bs r :=
  ⟨h.z, h.c0, h.c1, by have := h.o1; simp only [List.length_cons] at this; omega, h.v, h.b, h.bn, fun y hy => h.o y (List.mem_cons_of_mem _ hy)⟩

/-- What a right call makes of a right model is right. -/
theorem md_do {zs : List Int} {cnt : Int} {bs os : List Wtr} {th op arg : Int} (hm : Md zs cnt bs os) (hw : wtB th op arg = true) : Md (doR zs cnt bs os th op arg).2.1 (doR zs cnt bs os th op arg).2.2.1 (doR zs cnt bs os th op arg).2.2.2.1 (doR zs cnt bs os th op arg).2.2.2.2 := by
  obtain ⟨hop, harg⟩ := wt_parts hw
  have h6 : op = 1 ∨ op = 2 ∨ op = 3 ∨ op = 4 ∨ op = 5 ∨ op = 6 := by have := inB_true hop; omega
  unfold doR
  cases hq : waitsB bs os th
  rotate_left
  · rw [if_pos rfl]; exact hm
  rw [if_neg (by decide)]
  by_cases h12 : op = 1 ∨ op = 2
  · rw [if_pos h12]
    cases bs with
    | nil => exact hm.join hw h12 hq (.inl rfl)
    | cons x r =>
      simp only
      split
      · exact hm.tail
      · rename_i hne
        refine hm.join hw h12 hq (.inr ?_)
        have hx := (hm.b x (by simp)).2.2
        show x.op = op
        rcases h12 with rfl | rfl <;> rcases hx with hx | hx <;> first | exact hx | (exfalso; apply hne; rw [hx]; simp [partB])
  · rw [if_neg h12]
    by_cases h3 : op = 3
    · subst h3
      rw [if_pos rfl]
      cases os with
      | nil => exact hm.offer hw hq
      | cons x r =>
        simp only
        split
        · exact hm.gone
        · rename_i hne
          exact absurd (by rw [(hm.o x (by simp)).2.1]; simp [partB]) hne
    · rw [if_neg h3]
      by_cases h4 : op = 4
      · subst h4
        rw [if_pos rfl]
        split
        · exact hm
        · refine ⟨by have := hm.z; simp only [List.length_cons]; omega, hm.c0, hm.c1, hm.o1, fun v hv => ?_, hm.b, hm.bn, hm.o⟩
          rcases List.mem_cons.1 hv with rfl | hv
          · simpa [argB, bringsB] using harg
          · exact hm.v v hv
      · rw [if_neg h4]
        by_cases h5 : op = 5
        · rw [if_pos h5]
          cases zs with
          | nil => exact hm
          | cons z r => exact ⟨by have := hm.z; simp only [List.length_cons] at this; show r.length ≤ 400; omega, hm.c0, hm.c1, hm.o1, fun v hv => hm.v v (List.mem_cons_of_mem _ hv), hm.b, hm.bn, hm.o⟩
        · rw [if_neg h5]
          split
          · exact hm
          · exact ⟨hm.z, by have := hm.c0; show 0 ≤ cnt + 1; omega, by have := hm.c1; show cnt + 1 ≤ 1000000000; omega, hm.o1, hm.v, hm.b, hm.bn, hm.o⟩
end Go.Proofs.Ythianfhfamkcmaa

namespace Go.Proofs.Ythianfhfamkcmaa
open Go.RowKit

theorem SegC.keptG {b0 g : Nat} {w w' : World} {A : Option Addr} {vs : List Value} (h : SegC b0 w A vs) (hg : w.grownBy w' (some g)) (hb : g < b0) : SegC b0 w' A vs := by
  rcases h with h0 | ⟨q, o, rfl, h1, hc, hf⟩
  · exact .inl h0
  · exact SegC.kept (n := 0) (c := 0) (.inr ⟨q, o, rfl, h1, hc, hf⟩) hg (.inr (by intro e; have := Option.some.inj e; simp at this; omega))
theorem SrcF.rowM {w : World} {g B : Nat} {A : Option Addr} {n c k : Nat} (h : SrcF w g B A n c k) {b : Nat} (hb : g < b) (hB : B ≤ b) (cs : Array Value) : SrcF (w.setRow b cs) g B A n c k :=
  h.grown (gr_setRow w b cs) (fun j e => by cases e; exact ⟨hB, by omega⟩)
theorem SrcF.ofM {w : World} {g B : Nat} {A : Option Addr} {n c k : Nat} (h : Src w g B A n c 0) (hk : k ≤ 1000000) : SrcF w g B A n c k := Src.mono h (by omega)
def WaiterG (w : World) (g B : Nat) (A : Option Addr) (n c k : Nat) (e : Ending) (w' : World) : Prop :=
  ∃ t o a : Int, wtB t o a = true ∧ e = .returned (.agg #[.int .i64 t, .int .i64 o, .int .i64 a]) ∧ SrcF w' g B A n c k ∧ w.grownBy w' (some g)

set_option maxHeartbeats 1000000 in
theorem waiterG (g B : Nat) (A : Option Addr) (n c k : Nat) (w : World) (hn : n ≤ maxLen) (hB : B ≤ w.heap.size) (hS : SrcF w g B A n c (k + 5)) :
    Calls Try.prog 68 #[.pointer (some ⟨g, 0, none⟩)] w (WaiterG w g B A n c k) := by
  have HS := Lib.hid (hS.below (below_alloc w (.cells #[.int .i64 0, .int .i64 0, .int .i64 0] 35)))
  have hgw := hS.lt
  clear hS
  have HN := Lib.hid hn; clear hn
  go_enter Try.func68, Try.ntmps68
  go_wp2_with fail
  refine (callF g B A n c (k + 1) _ HN.out HS.out).mono ?_
  rintro e w1 ⟨o, a, u, ho, ha, hu, rfl, hS1, hg1⟩
  have HO := Lib.hid ho; have HA := Lib.hid ha; clear ho ha hu
  have HR1 := Lib.hid ((BoxC.new 35 w #[.int .i64 0, .int .i64 0, .int .i64 0]).mgrown hg1 (by simp; omega))
  have HG1 := Lib.hid (grown_trans (grown_below (some g) (below_alloc w _)) hg1)
  have HS1 := Lib.hid hS1
  clear hS1 hg1 HS
  go_wp2_with fail
  refine (nextF g B A n c k 4 _ HN.out (by decide) (by decide) HS1.out).mono ?_
  rintro e w2 ⟨t, ht0, ht1, rfl, hS2, hg2⟩
  have HT : Hid (wtB t o a = true) := Lib.hid (by
    have h1 : inB t 0 3 = true := inB_iff.2 (by omega)
    unfold wtB; rw [h1, HO.out, HA.out]; rfl)
  have HR2 := Lib.hid (HR1.out.mgrown hg2 (by simp; omega))
  have HG2 := Lib.hid (grown_trans HG1.out hg2)
  have HS2 := Lib.hid hS2
  clear hS2 hg2 HS1 HG1 HR1 ht0 ht1
  go_wp2_with (refine wpList_store_row rfl 35 _ _ rfl w.heap.size _ rfl rfl 35 _ HR2.out info_iWaiter rfl (one3w _ _ _) ?_)
  have hr := (HR2.out.mrow #[.int .i64 t, .int .i64 o, .int .i64 a]).cell
  have hs := HS2.out.rowM hgw hB #[.int .i64 t, .int .i64 o, .int .i64 a]
  have hg := gr_row HG2.out (Nat.le_refl _) #[.int .i64 t, .int .i64 o, .int .i64 a]
  generalize w2.setRow w.heap.size #[.int .i64 t, .int .i64 o, .int .i64 a] = w9 at hr hs hg ⊢
  exact bodyPost_ret (v := .agg #[.int .i64 t, .int .i64 o, .int .i64 a]) (by simp [results, Try.results68, go_sem, hr]) rfl ⟨_, _, _, HT.out, rfl, hs, hg⟩

set_option maxHeartbeats 1000000 in
theorem WaiterDrawnG (A : Option Addr) (n c : Nat) (w : World) (hn : n ≤ maxLen) (hA : RdB w A n) :
    Calls Try.prog 22 #[.slice A n c] w fun e w' => ∃ t o a : Int, wtB t o a = true ∧ e = .returned (.agg #[.int .i64 t, .int .i64 o, .int .i64 a]) ∧ Below w.heap.size w w' := by
  have HA := Lib.hid (hA.below (below_alloc w (.cells #[.int .i64 0, .int .i64 0, .int .i64 0] 35))); clear hA
  have HN := Lib.hid hn; clear hn
  go_enter Try.func22, Try.ntmps22
  go_wp2_with fail
  refine (l00Source_any A n c _ HN.out HA.out).mono ?_
  rintro e w1 ⟨rfl, hS1, hb⟩
  simp only [size_alloc] at hS1
  have HS1 := Lib.hid (SrcF.ofM (k := 5) hS1 (by omega))
  have HR1 := Lib.hid ((BoxC.new 35 w #[.int .i64 0, .int .i64 0, .int .i64 0]).below hb)
  have HB1 := Lib.hid (below_trans (below_alloc w _) hb)
  have hz1 : w.heap.size + 1 ≤ w1.heap.size := by have := hb.size; simp only [size_alloc] at this; exact this
  clear hS1 hb HA
  go_wp2_with fail
  refine (waiterG (w.heap.size + 1) (w.heap.size + 1) A n c 0 _ HN.out hz1 HS1.out).mono ?_
  rintro e w2 ⟨t, o, a, ht, rfl, hS2, hg2⟩
  have HR2 := Lib.hid (HR1.out.mgrown hg2 (by simp))
  have HB2 := Lib.hid (HB1.out.grown hg2 (by omega) (fun k hk => by simp only [Option.some.injEq] at hk; omega))
  have HT := Lib.hid ht
  clear hS2 hg2 HR1 HB1 HS1 ht
  go_wp2_with (refine wpList_store_row rfl 35 _ _ rfl w.heap.size _ rfl rfl 35 _ HR2.out info_iWaiter rfl (one3w _ _ _) ?_)
  have hr := (HR2.out.mrow #[.int .i64 t, .int .i64 o, .int .i64 a]).cell
  have hb := below_setRow HB2.out (Nat.le_refl _) #[.int .i64 t, .int .i64 o, .int .i64 a]
  generalize w2.setRow w.heap.size #[.int .i64 t, .int .i64 o, .int .i64 a] = w9 at hr hb ⊢
  exact bodyPost_ret (v := .agg #[.int .i64 t, .int .i64 o, .int .i64 a]) (by simp [results, Try.results22, go_sem, hr]) rfl ⟨_, _, _, HT.out, rfl, hb⟩

set_option maxHeartbeats 1000000 in
theorem l10Empty_any (w : World) : Calls Try.prog 121 #[] w fun e w' => ∃ a b c, e = .returned (.agg #[.slice a 0 0, .int .i64 0, .slice b 0 0, .slice c 0 0]) ∧ Below w.heap.size w w' := by
  go_enter Try.func121, Try.ntmps121
  have HR := Lib.hid (((BoxC.new 31 w #[.slice none 0 0, .int .i64 0, .slice none 0 0, .slice none 0 0]).below (below_alloc3 _ (.cells #[] 3) (.cells #[] 35) (.cells #[] 35))))
  have HB := Lib.hid (below_trans (below_alloc w (.cells #[.slice none 0 0, .int .i64 0, .slice none 0 0, .slice none 0 0] 31)) (below_alloc3 _ (.cells #[] 3) (.cells #[] 35) (.cells #[] 35)))
  go_wp2_with (refine wpList_store_row rfl 31 _ _ rfl w.heap.size _ rfl rfl 31 _ HR.out info_model rfl (one4m _ _ _ _ _ _ _ _ _ _) ?_)
  have hr := (HR.out.mrow #[.slice (some ⟨w.heap.size + 1, 0, none⟩) 0 0, .int .i64 0, .slice (some ⟨w.heap.size + 1 + 1, 0, none⟩) 0 0, .slice (some ⟨w.heap.size + 1 + 1 + 1, 0, none⟩) 0 0]).cell
  exact bodyPost_ret (v := .agg #[.slice (some ⟨w.heap.size + 1, 0, none⟩) 0 0, .int .i64 0, .slice (some ⟨w.heap.size + 1 + 1, 0, none⟩) 0 0, .slice (some ⟨w.heap.size + 1 + 1 + 1, 0, none⟩) 0 0]) (by simp [results, Try.results121, go_sem, hr]) rfl ⟨_, _, _, rfl, below_setRow HB.out (Nat.le_refl _) _⟩
end Go.Proofs.Ythianfhfamkcmaa

namespace Go.Proofs.Ythianfhfamkcmaa
open Go.RowKit

theorem doR_cnt (zs : List Int) (cnt : Int) (bs os : List Wtr) (th op arg : Int) : (doR zs cnt bs os th op arg).2.2.1 ≤ cnt + 1 := by
  unfold doR
  repeat' split
  all_goals (simp <;> omega)
theorem doR_lenM (zs : List Int) (cnt : Int) (bs os : List Wtr) (th op arg : Int) : (doR zs cnt bs os th op arg).2.1.length ≤ zs.length + 1 := by
  unfold doR
  repeat' split
  all_goals (simp <;> omega)
def DrawnM (w : World) (g : Nat) (e : Ending) (w' : World) : Prop :=
  ∃ (A : Option Addr) (ca : Nat) (zs : List Int) (B1 : Option Addr) (cb : Nat) (bs : List Wtr) (O : Option Addr) (co : Nat) (os : List Wtr) (cnt : Int),
    e = .returned (.agg #[.slice A zs.length ca, .int .i64 cnt, .slice B1 bs.length cb, .slice O os.length co]) ∧ Md zs cnt bs os ∧ OwnO w.heap.size w' A ca zs B1 cb bs O co os ∧ w.grownBy w' (some g)
theorem cm_fiveM {p : Wtr → Bool} {a b c d x : Wtr} {r : List Wtr} (h : cmB p [] (a :: b :: c :: d :: x :: r) = true) : False := by
  simp only [cmB, wtB, Bool.and_eq_true, List.nil_append, List.cons_append, List.contains_cons, List.contains_nil, Bool.or_false, Bool.not_eq_true', Bool.or_eq_false_iff, beq_eq_false_iff_ne, ne_eq] at h
  have ha := inB_true h.1.1.1.1.1
  have hb := inB_true h.2.1.1.1.1.1
  have hc := inB_true h.2.2.1.1.1.1.1
  have hd := inB_true h.2.2.2.1.1.1.1.1
  have hx := inB_true h.2.2.2.2.1.1.1.1.1
  have nb := h.2.1.2
  have nc := h.2.2.1.2
  have nd := h.2.2.2.1.2
  have nx := h.2.2.2.2.1.2
  omega
theorem md_fourM {zs : List Int} {cnt : Int} {bs os : List Wtr} (h : mdB zs cnt bs os = true) : bs.length ≤ 4 := by
  have hw := (md_parts h).2.2.2.2
  simp only [wsB, Bool.and_eq_true] at hw
  match bs, hw.1 with
  | [], _ => simp
  | [_], _ => simp
  | [_, _], _ => simp
  | [_, _, _], _ => simp
  | [_, _, _, _], _ => simp
  | _ :: _ :: _ :: _ :: _ :: _, h5 => exact (cm_fiveM h5).elim
theorem Md.four {zs : List Int} {cnt : Int} {bs os : List Wtr} (h : Md zs cnt bs os) : bs.length ≤ 1048576 ∧ os.length ≤ 1048576 ∧ zs.length ≤ 1048576 := by
  refine ⟨?_, by have := h.o1; omega, by have := h.z; omega⟩
  have := md_fourM (md_iff.2 h)
  omega

set_option maxHeartbeats 4000000 in
set_option maxRecDepth 100000 in
theorem modelG (g B : Nat) (A0 : Option Addr) (n c k : Nat) (w : World) (hn : n ≤ maxLen) (hB : B ≤ w.heap.size) (hS : SrcF w g B A0 n c (k + 61)) :
    Calls Try.prog 67 #[.pointer (some ⟨g, 0, none⟩)] w (DrawnM w g) := by
  have hgw := hS.lt
  have HS0 := Lib.hid (hS.below (below_alloc w (.cells #[.slice none 0 0, .int .i64 0, .slice none 0 0, .slice none 0 0] 31)))
  have HR0 := Lib.hid (BoxC.new 31 w #[.slice none 0 0, .int .i64 0, .slice none 0 0, .slice none 0 0])
  have HN := Lib.hid hn; clear hn hS
  go_enter Try.func67, Try.ntmps67
  go_wp2_with fail
  refine (l10Empty_any _).mono ?_
  rintro e w1 ⟨a0, b0, c0, rfl, hb⟩
  have HS1 := Lib.hid (HS0.out.below hb); have HR1 := Lib.hid (HR0.out.below hb)
  have HG1 := Lib.hid (grown_below (some g) (below_trans (below_alloc w (.cells #[.slice none 0 0, .int .i64 0, .slice none 0 0, .slice none 0 0] 31)) hb))
  have hs1 : w.heap.size < w1.heap.size := HR1.out.lt
  clear hb HS0 HR0
  go_upto_region 2 with (refine wpList_store_row rfl 31 _ _ rfl w1.heap.size _ rfl rfl 31 _ (BoxC.new 31 w1 _) info_model rfl (one4m _ _ _ _ _ _ _ _ _ _) ?_)
  have hbl := below_setRow (below_alloc w1 (.cells #[.slice none 0 0, .int .i64 0, .slice none 0 0, .slice none 0 0] 31)) (Nat.le_refl _) #[.slice a0 0 0, .int .i64 0, .slice b0 0 0, .slice c0 0 0]
  have hK := (BoxC.new 31 w1 #[.slice none 0 0, .int .i64 0, .slice none 0 0, .slice none 0 0]).mrow #[.slice a0 0 0, .int .i64 0, .slice b0 0 0, .slice c0 0 0]
  generalize (w1.alloc (.cells #[.slice none 0 0, .int .i64 0, .slice none 0 0, .slice none 0 0] 31)).setRow w1.heap.size #[.slice a0 0 0, .int .i64 0, .slice b0 0 0, .slice c0 0 0] = w2 at hbl hK ⊢
  have HS2 := Lib.hid (HS1.out.below hbl); have HR2 := Lib.hid (HR1.out.below hbl); have HK2 := Lib.hid hK
  have HG2 := Lib.hid (grown_trans HG1.out (grown_below (some g) hbl))
  generalize w1.heap.size = k3 at hK HK2 hs1 ⊢
  clear hbl hK HS1 HR1 HG1
  go_wp2_with fail
  refine (nextF g B A0 n c (k + 60) 12 _ HN.out (by decide) (by decide) HS2.out).mono ?_
  rintro e w3 ⟨r, hr0, hr1, rfl, hS3, hg3⟩
  obtain ⟨m, rfl⟩ : ∃ m : Nat, r = m := ⟨r.toNat, by omega⟩
  have HS3 := Lib.hid hS3; have HR3 := Lib.hid (HR2.out.mgrown hg3 (by simp; omega)); have HK3 := Lib.hid (HK2.out.mgrown hg3 (by simp; omega))
  have HG3 := Lib.hid (grown_trans HG2.out hg3)
  clear hS3 hg3 HS2 HR2 HK2 HG2
  go_wp2_with fail
  go_loopw [4] (fun i wr => ∃ (j : Nat) (A : Option Addr) (ca : Nat) (zs : List Int) (B1 : Option Addr) (cb : Nat) (bs : List Wtr) (O : Option Addr) (co : Nat) (os : List Wtr) (cnt : Int), i = .int .i64 j ∧ Md zs cnt bs os ∧ zs.length + j ≤ 12 ∧ cnt + j ≤ 12 ∧ BoxC 31 wr k3 #[.slice A zs.length ca, .int .i64 cnt, .slice B1 bs.length cb, .slice O os.length co] ∧ SegC (k3 + 1) wr A (ints zs) ∧ SegC (k3 + 1) wr B1 (flatV Wtr.cs bs) ∧ SegC (k3 + 1) wr O (flatV Wtr.cs os) ∧ SrcF wr g B A0 n c (k + 5 * j) ∧ w.grownBy wr (some g) ∧ BoxC 31 wr w.heap.size #[.slice none 0 0, .int .i64 0, .slice none 0 0, .slice none 0 0]) (fun i _ => (intOf i).toNat)
  case atStart =>
    exact ⟨m, a0, 0, [], b0, 0, [], c0, 0, [], 0, rfl, ⟨by simp, by decide, by decide, by simp, by simp, by simp, by simp, by simp⟩, by simp; omega, by omega, HK3.out, .inl rfl, .inl rfl, .inl rfl, HS3.out.mono (by omega), HG3.out, HR3.out⟩
  case round =>
    obtain ⟨j, A, ca, zs, B1, cb, bs, O, co, os, cnt, rfl, hmd, hzj, hcj, hK, sA, sB, sO, hS, hG, hR⟩ := hrel
    have HMD := Lib.hid hmd; have HK := Lib.hid hK; have HSA := Lib.hid sA; have HSB := Lib.hid sB; have HSO := Lib.hid sO
    have HSS := Lib.hid hS; have HG := Lib.hid hG; have HR := Lib.hid hR
    have hkw : k3 < wr.heap.size := hK.lt
    have hBw : B ≤ wr.heap.size := Nat.le_trans hB hG.size
    obtain ⟨lb, lo, lz⟩ := hmd.four
    clear hmd hK sA sB sO hS hG hR
    by_cases hj : 0 < j
    · have hj' : (0 : Int) < j := by omega
      go_wp2_with fail
      refine (waiterG g B A0 n c (k + 5 * (j - 1)) _ HN.out hBw (HSS.out.mono (by omega))).mono ?_
      rintro e w4 ⟨t, o, a, hw, rfl, hS4, hg4⟩
      have HW := Lib.hid hw; have HS4 := Lib.hid hS4
      have HK4 := Lib.hid (HK.out.mgrown hg4 (by simp; omega)); have HR4 := Lib.hid (HR.out.mgrown hg4 (by simp; omega))
      have HA4 := Lib.hid (HSA.out.keptG hg4 (by omega)); have HB4 := Lib.hid (HSB.out.keptG hg4 (by omega)); have HO4 := Lib.hid (HSO.out.keptG hg4 (by omega))
      have HG4 := Lib.hid (grown_trans HG.out hg4)
      clear hw hS4 hg4 HK HR HSA HSB HSO HSS HG
      go_upto_region 6 with (refine wpList_store_row rfl 35 _ _ rfl w4.heap.size _ rfl rfl 35 _ (BoxC.new 35 w4 _) info_iWaiter rfl (one3w _ _ _) ?_)
      have hbl := below_setRow (below_alloc w4 (.cells #[.int .i64 0, .int .i64 0, .int .i64 0] 35)) (Nat.le_refl _) #[.int .i64 t, .int .i64 o, .int .i64 a]
      have hT := (BoxC.new 35 w4 #[.int .i64 0, .int .i64 0, .int .i64 0]).mrow #[.int .i64 t, .int .i64 o, .int .i64 a]
      generalize (w4.alloc (.cells #[.int .i64 0, .int .i64 0, .int .i64 0] 35)).setRow w4.heap.size #[.int .i64 t, .int .i64 o, .int .i64 a] = w5 at hbl hT ⊢
      have HT5 := Lib.hid hT; have HS5 := Lib.hid (HS4.out.below hbl); have HK5 := Lib.hid (HK4.out.below hbl); have HR5 := Lib.hid (HR4.out.below hbl)
      have HA5 := Lib.hid (HA4.out.below hbl); have HB5 := Lib.hid (HB4.out.below hbl); have HO5 := Lib.hid (HO4.out.below hbl)
      have HG5 := Lib.hid (grown_trans HG4.out (grown_below (some g) hbl))
      generalize w4.heap.size = k5 at hT HT5 ⊢
      clear hbl hT HS4 HK4 HR4 HA4 HB4 HO4 HG4
      have hx := HK5.out.cell; have ht := HT5.out.cell
      go_wp2_with fail
      refine (l10Waits_any _ _ _ _ _ _ zs bs os cnt t _ lb HMD.out.o1 HB5.out.rdW HO5.out.rdW).mono ?_
      rintro e w6 ⟨rfl, hb⟩
      have HT6 := Lib.hid (HT5.out.below hb); have HS6 := Lib.hid (HS5.out.below hb); have HK6 := Lib.hid (HK5.out.below hb); have HR6 := Lib.hid (HR5.out.below hb)
      have HA6 := Lib.hid (HA5.out.below hb); have HB6 := Lib.hid (HB5.out.below hb); have HO6 := Lib.hid (HO5.out.below hb)
      have HG6 := Lib.hid (grown_trans HG5.out (grown_below (some g) hb))
      clear hb hx ht HT5 HS5 HK5 HR5 HA5 HB5 HO5 HG5
      cases qw : waitsB bs os t
      · have hx := HK6.out.cell; have ht := HT6.out.cell
        go_wp2_with fail
        refine (l10Call_any _ _ _ _ _ _ zs bs os cnt t o a _ lz lb lo HA6.out.rd HB6.out.rdW HO6.out.rdW (md_iff.2 HMD.out) HW.out qw (fun _ => by omega) (fun _ => by omega)).mono ?_
        have hmd' := Lib.hid (md_do (th := t) (op := o) (arg := a) HMD.out HW.out)
        have hl' := Lib.hid (doR_lenM zs cnt bs os t o a)
        have hc' := Lib.hid (doR_cnt zs cnt bs os t o a)
        generalize doR zs cnt bs os t o a = r at hmd' hl' hc' ⊢
        rintro e w7 ⟨A', ca', B1', cb', O', co', rfl, sA, sB, sO, hb⟩
        have hk6 : k3 < w6.heap.size := HK6.out.lt
        have HS7 := Lib.hid (HS6.out.below hb); have HK7 := Lib.hid (HK6.out.below hb); have HR7 := Lib.hid (HR6.out.below hb)
        have HA7 := Lib.hid (sA.base (b1 := k3 + 1) (by omega)); have HB7 := Lib.hid (sB.base (b1 := k3 + 1) (by omega)); have HO7 := Lib.hid (sO.base (b1 := k3 + 1) (by omega))
        have HG7 := Lib.hid (grown_trans HG6.out (grown_below (some g) hb))
        have hk7 : w6.heap.size ≤ w7.heap.size := hb.size
        clear hb sA sB sO hx ht HT6 HS6 HK6 HR6 HA6 HB6 HO6 HG6
        go_upto_region 8 with (refine wpList_store_row rfl 31 _ _ rfl w7.heap.size _ rfl rfl 31 _ (BoxC.new 31 w7 _) info_model rfl (one4m _ _ _ _ _ _ _ _ _ _) ?_)
        have hbl := below_setRow (below_alloc w7 (.cells #[.slice none 0 0, .int .i64 0, .slice none 0 0, .slice none 0 0] 31)) (Nat.le_refl _) #[.slice A' r.2.1.length ca', .int .i64 r.2.2.1, .slice B1' r.2.2.2.1.length cb', .slice O' r.2.2.2.2.length co']
        have hX := (BoxC.new 31 w7 #[.slice none 0 0, .int .i64 0, .slice none 0 0, .slice none 0 0]).mrow #[.slice A' r.2.1.length ca', .int .i64 r.2.2.1, .slice B1' r.2.2.2.1.length cb', .slice O' r.2.2.2.2.length co']
        generalize (w7.alloc (.cells #[.slice none 0 0, .int .i64 0, .slice none 0 0, .slice none 0 0] 31)).setRow w7.heap.size #[.slice A' r.2.1.length ca', .int .i64 r.2.2.1, .slice B1' r.2.2.2.1.length cb', .slice O' r.2.2.2.2.length co'] = w8 at hbl hX ⊢
        have HS8 := Lib.hid (HS7.out.below hbl); have HK8 := Lib.hid (HK7.out.below hbl); have HR8 := Lib.hid (HR7.out.below hbl); have HX8 := Lib.hid hX
        have HA8 := Lib.hid (HA7.out.below hbl); have HB8 := Lib.hid (HB7.out.below hbl); have HO8 := Lib.hid (HO7.out.below hbl)
        have HG8 := Lib.hid (grown_trans HG7.out (grown_below (some g) hbl))
        generalize w7.heap.size = k8 at hX HX8 ⊢
        clear hbl hX HS7 HK7 HR7 HA7 HB7 HO7 HG7
        have hx := HX8.out.cell
        have hj1 : (j : Int) - 1 ≤ 9223372036854775807 := by omega
        have hj2 : (-9223372036854775808 : Int) ≤ (j : Int) - 1 := by omega
        go_wp2_with (refine wpList_store_row rfl 31 _ _ rfl k3 _ rfl rfl 31 _ HK8.out info_model rfl (one4m _ _ _ _ _ _ _ _ _ _) ?_)
        go_roundw
        case rel => exact ⟨j - 1, A', ca', r.2.1, B1', cb', r.2.2.2.1, O', co', r.2.2.2.2, r.2.2.1, by congr 1; omega, hmd'.out, by have := hl'.out; omega, by have := hc'.out; omega, HK8.out.mrow _, SegC.row (n := 0) (c := 0) HA8.out (by omega) _, SegC.row (n := 0) (c := 0) HB8.out (by omega) _, SegC.row (n := 0) (c := 0) HO8.out (by omega) _, HS8.out.rowM (by omega) (by omega) _, gr_row HG8.out (by omega) _, HR8.out.mrowO (by omega) _⟩
        case measure => simp [intOf]; omega
      · have hj1 : (j : Int) - 1 ≤ 9223372036854775807 := by omega
        have hj2 : (-9223372036854775808 : Int) ≤ (j : Int) - 1 := by omega
        go_wp2_with fail
        go_roundw
        case rel => exact ⟨j - 1, A, ca, zs, B1, cb, bs, O, co, os, cnt, by congr 1; omega, HMD.out, by omega, by omega, HK6.out, HA6.out, HB6.out, HO6.out, HS6.out, HG6.out, HR6.out⟩
        case measure => simp [intOf]; omega
    · obtain rfl : j = 0 := by omega
      have hx := HK.out.cell
      go_wp2_with fail
      refine (l10Own_any _ _ _ _ _ _ zs bs os cnt _ lz lb lo HSA.out.rd HSB.out.rdW HSO.out.rdW).mono ?_
      rintro e w4 ⟨A1, d1, A2, d2, A3, d3, rfl, hO, hb⟩
      have HR4 := Lib.hid (HR.out.below hb)
      have HG4 := Lib.hid (grown_trans HG.out (grown_below (some g) hb))
      have hwr : w.heap.size < wr.heap.size := HR.out.lt
      have HO4 := Lib.hid (hO.base (b1 := w.heap.size + 1) (by omega))
      clear hO hb hx HK HR HG HSA HSB HSO HSS
      go_wp2_with (refine wpList_store_row rfl 31 _ _ rfl w.heap.size _ rfl rfl 31 _ HR4.out info_model rfl (one4m _ _ _ _ _ _ _ _ _ _) ?_)
      have hr := (HR4.out.mrow #[.slice A1 zs.length d1, .int .i64 cnt, .slice A2 bs.length d2, .slice A3 os.length d3]).cell
      have hg := gr_row HG4.out (Nat.le_refl _) #[.slice A1 zs.length d1, .int .i64 cnt, .slice A2 bs.length d2, .slice A3 os.length d3]
      have ho := OwnO.row HO4.out (k := w.heap.size) (by omega) #[.slice A1 zs.length d1, .int .i64 cnt, .slice A2 bs.length d2, .slice A3 os.length d3]
      generalize w4.setRow w.heap.size #[.slice A1 zs.length d1, .int .i64 cnt, .slice A2 bs.length d2, .slice A3 os.length d3] = w9 at hr hg ho ⊢
      exact bodyPost_ret (v := .agg #[.slice A1 zs.length d1, .int .i64 cnt, .slice A2 bs.length d2, .slice A3 os.length d3]) (by simp [results, Try.results67, go_sem, hr]) rfl ⟨A1, d1, zs, A2, d2, bs, A3, d3, os, cnt, rfl, HMD.out, ho.base (by omega), hg⟩

set_option maxHeartbeats 1000000 in
theorem ModelDrawnG (A0 : Option Addr) (n c : Nat) (w : World) (hn : n ≤ maxLen) (hA : RdB w A0 n) :
    Calls Try.prog 21 #[.slice A0 n c] w fun e w' => ∃ (A : Option Addr) (ca : Nat) (zs : List Int) (B1 : Option Addr) (cb : Nat) (bs : List Wtr) (O : Option Addr) (co : Nat) (os : List Wtr) (cnt : Int),
      e = .returned (.agg #[.slice A zs.length ca, .int .i64 cnt, .slice B1 bs.length cb, .slice O os.length co]) ∧ Md zs cnt bs os ∧ OwnO w.heap.size w' A ca zs B1 cb bs O co os ∧ Below w.heap.size w w' := by
  have HA := Lib.hid (hA.below (below_alloc w (.cells #[.slice none 0 0, .int .i64 0, .slice none 0 0, .slice none 0 0] 31))); clear hA
  have HN := Lib.hid hn; clear hn
  go_enter Try.func21, Try.ntmps21
  go_wp2_with fail
  refine (l00Source_any A0 n c _ HN.out HA.out).mono ?_
  rintro e w1 ⟨rfl, hS1, hb⟩
  simp only [size_alloc] at hS1
  have HS1 := Lib.hid (SrcF.ofM (k := 61) hS1 (by omega))
  have HR1 := Lib.hid ((BoxC.new 31 w #[.slice none 0 0, .int .i64 0, .slice none 0 0, .slice none 0 0]).below hb)
  have HB1 := Lib.hid (below_trans (below_alloc w _) hb)
  have hz1 : w.heap.size + 1 ≤ w1.heap.size := by have := hb.size; simp only [size_alloc] at this; exact this
  clear hS1 hb HA
  go_wp2_with fail
  refine (modelG (w.heap.size + 1) (w.heap.size + 1) A0 n c 0 _ HN.out hz1 HS1.out).mono ?_
  rintro e w2 ⟨A, ca, zs, B1, cb, bs, O, co, os, cnt, rfl, hmd, hO, hg2⟩
  have HR2 := Lib.hid (HR1.out.mgrown hg2 (by simp))
  have HB2 := Lib.hid (HB1.out.grown hg2 (by omega) (fun k hk => by simp only [Option.some.injEq] at hk; omega))
  have HMD := Lib.hid hmd; have HO := Lib.hid hO
  clear hg2 HR1 HB1 HS1 hmd hO
  go_wp2_with (refine wpList_store_row rfl 31 _ _ rfl w.heap.size _ rfl rfl 31 _ HR2.out info_model rfl (one4m _ _ _ _ _ _ _ _ _ _) ?_)
  have hr := (HR2.out.mrow #[.slice A zs.length ca, .int .i64 cnt, .slice B1 bs.length cb, .slice O os.length co]).cell
  have hb := below_setRow HB2.out (Nat.le_refl _) #[.slice A zs.length ca, .int .i64 cnt, .slice B1 bs.length cb, .slice O os.length co]
  have ho := OwnO.row HO.out (k := w.heap.size) (by omega) #[.slice A zs.length ca, .int .i64 cnt, .slice B1 bs.length cb, .slice O os.length co]
  generalize w2.setRow w.heap.size #[.slice A zs.length ca, .int .i64 cnt, .slice B1 bs.length cb, .slice O os.length co] = w9 at hr hb ho ⊢
  exact bodyPost_ret (v := .agg #[.slice A zs.length ca, .int .i64 cnt, .slice B1 bs.length cb, .slice O os.length co]) (by simp [results, Try.results21, go_sem, hr]) rfl ⟨A, ca, zs, B1, cb, bs, O, co, os, cnt, rfl, HMD.out, ho.base (by omega), hb⟩
end Go.Proofs.Ythianfhfamkcmaa
