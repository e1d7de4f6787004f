/-
  Models (chapter 11): the program's meet.
-/
import Derived.Test.YthianfhfamkcmaaJ15
namespace Go.Proofs.Ythianfhfamkcmaa
open Go.RowKit

theorem gr_cell {w w' : World} {r : Option Nat} (h : w.grownBy w' r) {k : Nat} (hk : w.heap.size ≤ k) (j : Nat) (v : Value) : w.grownBy (w'.setCell ⟨k, j, none⟩ v) r := by
  have b := (Below.refl w.heap.size w').setCell (p := ⟨k, j, none⟩) hk v
  exact ⟨b.os.trans h.os, b.tape.trans h.tape, b.output.trans h.output, Nat.le_trans h.size b.size, fun i hi hr => (b.block i hi).trans (h.block i hi hr)⟩
theorem BoxC.mdrewR {t : TypeId} {w : World} {k : Nat} {cs : Array Value} (h : BoxC t w k cs) : BoxC t w.drew k cs := h
/-- The first of a list fits the call. -/
def fitsB (l : List Wtr) (op : Int) : Bool := match l with | [] => false | x :: _ => x.op == partB op

set_option maxHeartbeats 8000000 in
set_option maxRecDepth 100000 in
theorem meet_wait (km j : Nat) (cs : Array Value) (A : Option Addr) (c : Nat) (l : List Wtr) (th op arg : Int) (w : World) (hj : cs[j]? = some (.slice A l.length c)) (hK : BoxC 31 w km cs) (R : List Wtr) (hR : R = l ++ [⟨th, op, arg⟩]) (hn : l.length ≤ 1048576) (hA : RdR Wtr.cs w A l) (hq : fitsB l op = false) :
    Calls Try.prog 112 #[.pointer (some ⟨km, j, none⟩), .agg #[.int .i64 th, .int .i64 op, .int .i64 arg]] w fun e w' => ∃ G d, e = .returned (.agg #[.bool false, .int .i64 0, .int .i64 0, .int .i64 (-1)]) ∧ BoxC 31 w' km (cs.setIfInBounds j (.slice G R.length d)) ∧ SegC (w.heap.size + 1 + 1) w' G (flatV Wtr.cs R) ∧ (∀ q, (Value.slice G R.length d).ownBlock = some q → w.heap.size < q ∧ q < w'.heap.size) ∧ R.length ≤ d ∧ d ≤ maxLen ∧ w.grownBy w' (some km) := by
  have HA := Lib.hid hA; have HQ := Lib.hid hq; have HRR := Lib.hid hR; clear hA hq hR
  have hlt : km < w.heap.size := hK.lt
  have HB0 := Lib.hid (below_alloc2 w (.cells #[.int .i64 th, .int .i64 op, .int .i64 arg] 35) (.cells #[.bool false, .int .i64 0, .int .i64 0, .int .i64 0] 86))
  have HX := Lib.hid ((BoxC.new 35 w #[.int .i64 th, .int .i64 op, .int .i64 arg]).below (below_alloc _ (.cells #[.bool false, .int .i64 0, .int .i64 0, .int .i64 0] 86)))
  have HR := Lib.hid (by have h := BoxC.new 86 (w.alloc (.cells #[.int .i64 th, .int .i64 op, .int .i64 arg] 35)) #[.bool false, .int .i64 0, .int .i64 0, .int .i64 0]; rw [size_alloc] at h; exact h)
  have HK := Lib.hid (hK.below HB0.out)
  have hkj : ((w.alloc (.cells #[.int .i64 th, .int .i64 op, .int .i64 arg] 35)).alloc (.cells #[.bool false, .int .i64 0, .int .i64 0, .int .i64 0] 86)).cell? ⟨km, j, none⟩ = some (.slice A l.length c) := (HK.out.cell j).trans hj
  clear hK
  go_enter Try.func112, Try.ntmps112
  go_wp2_with fail
  have HSV : Hid (Calls Try.prog 150 #[.slice A l.length c, .func (.func 151) #[] #[.pointer (some ⟨w.heap.size, 0, none⟩)]] ((w.alloc (.cells #[.int .i64 th, .int .i64 op, .int .i64 arg] 35)).alloc (.cells #[.bool false, .int .i64 0, .int .i64 0, .int .i64 0] 86)) fun e w' => e = .returned (.tuple #[.agg #[.int .i64 0, .int .i64 0, .int .i64 0], .slice none 0 0, .bool false]) ∧ Below ((w.alloc (.cells #[.int .i64 th, .int .i64 op, .int .i64 arg] 35)).alloc (.cells #[.bool false, .int .i64 0, .int .i64 0, .int .i64 0] 86)).heap.size ((w.alloc (.cells #[.int .i64 th, .int .i64 op, .int .i64 arg] 35)).alloc (.cells #[.bool false, .int .i64 0, .int .i64 0, .int .i64 0] 86)) w') := by
    by_cases h0 : l.length = 0
    · exact served_none w.heap.size l.length c A _ h0
    · obtain ⟨x, hx⟩ : ∃ x, l[0]? = some x := ⟨_, List.getElem?_eq_getElem (by omega)⟩
      obtain ⟨b, o, rfl, hr⟩ := (HA.out.below HB0.out).row Wtr.len 0 x hx
      rw [Nat.zero_mul, Nat.add_zero] at hr
      obtain ⟨th2, op2, arg2⟩ := x
      refine served_no w.heap.size b o l.length c th2 op2 arg2 th op arg _ (by omega) hr HX.out ?_
      have h9 := HQ.out
      cases l with
      | nil => simp at hx
      | cons y r => simp at hx; subst hx; exact h9
  refine HSV.out.mono ?_
  rintro e w3 ⟨rfl, hb⟩
  have HB3 := Lib.hid (below_trans HB0.out hb)
  have HX3 := Lib.hid (HX.out.below hb); have HR3 := Lib.hid (HR.out.below hb); have HK3 := Lib.hid (HK.out.below hb)
  clear hb HX HR HK HSV hkj
  have HY3 := Lib.hid (BoxC.new 35 w3 #[.int .i64 0, .int .i64 0, .int .i64 0])
  have hz3 : w.heap.size + 1 < w3.heap.size := HR3.out.lt
  go_upto_region 3 with (first | (refine wpList_store_row rfl 35 _ _ rfl w3.heap.size _ rfl rfl 35 _ HY3.out info_iWaiter rfl (one3w _ _ _) ?_))
  have hbx : Below w3.heap.size w3 ((w3.alloc (.cells #[.int .i64 0, .int .i64 0, .int .i64 0] 35)).setRow w3.heap.size #[.int .i64 0, .int .i64 0, .int .i64 0]) := below_setRow (below_alloc w3 _) (Nat.le_refl _) _
  have HB4 := Lib.hid (below_trans HB3.out hbx)
  have HX4 := Lib.hid (HX3.out.below hbx); have HR4 := Lib.hid (HR3.out.below hbx); have HK4 := Lib.hid (HK3.out.below hbx)
  have hz4 : w.heap.size + 1 < ((w3.alloc (.cells #[.int .i64 0, .int .i64 0, .int .i64 0] 35)).setRow w3.heap.size #[.int .i64 0, .int .i64 0, .int .i64 0]).heap.size := HR4.out.lt
  generalize (w3.alloc (.cells #[.int .i64 0, .int .i64 0, .int .i64 0] 35)).setRow w3.heap.size #[.int .i64 0, .int .i64 0, .int .i64 0] = w4 at HB4 HX4 HR4 HK4 hz4 ⊢
  generalize w3.heap.size = ky
  clear hbx HB3 HX3 HR3 HK3 HY3 hz3
  have hx := HX4.out.cell
  go_wp2_with fail
  refine (joined_any _ _ l R _ _ _ _ HRR.out hn (HA.out.below HB4.out)).mono ?_
  rintro e w5 ⟨G, d, rfl, hown, hb⟩
  have HB5 := Lib.hid (below_trans HB4.out hb)
  have HR5 := Lib.hid (HR4.out.below hb); have HK5 := Lib.hid (HK4.out.below hb)
  have HQ5 : Hid (∀ q, (Value.slice G R.length d).ownBlock = some q → w.heap.size < q ∧ q < w5.heap.size) := fun q hq => by have := World.ownsRow.lt hown q hq; omega
  have HL5 : Hid (R.length ≤ d ∧ d ≤ maxLen) := by
    rcases hown.2 with ⟨h1, h2⟩ | ⟨g, cap, cur, h1, _, _, h4, h5, _⟩
    · rw [HRR.out] at h2; simp at h2
    · simp only [Value.slice.injEq] at h1; obtain ⟨_, _, rfl⟩ := h1; exact ⟨h4, h5⟩
  have HO5 : Hid (SegC (w.heap.size + 1 + 1) w5 G (flatV Wtr.cs R)) := Lib.hid (SegC.base (SegC.ofW hown) (by omega))
  clear hb hown HB4 HX4 HR4 HK4 hx hz4
  have hf := HK5.out.mfroz
  have hkj : w5.cell? ⟨km, j, none⟩ = some (.slice A l.length c) := (HK5.out.cell j).trans hj
  go_upto_region 5 with fail
  have HK6 := Lib.hid (HK5.out.mset j (.slice G R.length d))
  have HR6 := Lib.hid (HR5.out.msetO ⟨km, j, none⟩ (.slice G R.length d) (by simp <;> omega))
  have HO6 : Hid (SegC (w.heap.size + 1 + 1) (w5.setCell ⟨km, j, none⟩ (.slice G R.length d)) G (flatV Wtr.cs R)) := Lib.hid (SegC.cell (n := R.length) (c := d) HO5.out (by omega) j _)
  have HG6 := Lib.hid (grown_trans (grown_below (some km) HB5.out) (gr_set (k := km) (Below.refl _ w5) j (.slice G R.length d)))
  have hs6 : (w5.setCell ⟨km, j, none⟩ (.slice G R.length d)).heap.size = w5.heap.size := size_setc2 _ _ _
  generalize w5.setCell ⟨km, j, none⟩ (.slice G R.length d) = w6 at HK6 HR6 HO6 HG6 hs6 ⊢
  clear HK5 HR5 HO5 HB5 hf hkj
  go_wp2_with (refine wpList_store_row rfl 86 _ _ rfl (w.heap.size + 1) _ rfl rfl 86 _ HR6.out info_out rfl (one4o _ _ _ _) ?_)
  exact bodyPost_ret (results_out Try.results112 _ _ (w.heap.size + 1) _ rfl (HR6.out.mrow _) rfl) rfl ⟨G, d, rfl, HK6.out.mrowO (by omega) _, SegC.row (n := R.length) (c := d) HO6.out (by omega) _, fun q hq => by have := HQ5.out q hq; have hz := (gr_setRow w6 (w.heap.size + 1) #[.bool false, .int .i64 0, .int .i64 0, .int .i64 (-1)]).size; omega, HL5.out.1, HL5.out.2, gr_row HG6.out (Nat.le_succ _) _⟩

set_option maxHeartbeats 8000000 in
set_option maxRecDepth 100000 in
theorem meet_done (km j : Nat) (cs : Array Value) (b ko n c : Nat) (th op arg th2 op2 arg2 : Int) (w : World) (hj : cs[j]? = some (.slice (some ⟨b, ko, none⟩) n c)) (hK : BoxC 31 w km cs) (hn : 0 < n) (hr : w.rangeAt b ko [.int .i64 th2, .int .i64 op2, .int .i64 arg2]) (hq : (op2 == partB op) = true) :
    Calls Try.prog 112 #[.pointer (some ⟨km, j, none⟩), .agg #[.int .i64 th, .int .i64 op, .int .i64 arg]] w fun e w' => e = .returned (.agg #[.bool true, .int .i64 0, .int .i64 (if op = 1 then arg else arg2), .int .i64 th2]) ∧ BoxC 31 w' km (cs.setIfInBounds j (.slice (tailW b ko c) (n - 1) (c - 1))) ∧ w.grownBy w' (some km) := by
  obtain ⟨TA, hTA⟩ : ∃ TA, tailW b ko c = TA := ⟨_, rfl⟩
  obtain ⟨rv, hrv⟩ : ∃ rv, (if op = 1 then arg else arg2) = rv := ⟨_, rfl⟩
  rw [hTA, hrv]
  have HTA := Lib.hid hTA; have HRV := Lib.hid hrv
  clear hTA hrv
  have hlt : km < w.heap.size := hK.lt
  have HB0 := Lib.hid (below_alloc2 w (.cells #[.int .i64 th, .int .i64 op, .int .i64 arg] 35) (.cells #[.bool false, .int .i64 0, .int .i64 0, .int .i64 0] 86))
  have HX := Lib.hid ((BoxC.new 35 w #[.int .i64 th, .int .i64 op, .int .i64 arg]).below (below_alloc _ (.cells #[.bool false, .int .i64 0, .int .i64 0, .int .i64 0] 86)))
  have HR := Lib.hid (by have h := BoxC.new 86 (w.alloc (.cells #[.int .i64 th, .int .i64 op, .int .i64 arg] 35)) #[.bool false, .int .i64 0, .int .i64 0, .int .i64 0]; rw [size_alloc] at h; exact h)
  have HK := Lib.hid (hK.below HB0.out)
  have hkj : ((w.alloc (.cells #[.int .i64 th, .int .i64 op, .int .i64 arg] 35)).alloc (.cells #[.bool false, .int .i64 0, .int .i64 0, .int .i64 0] 86)).cell? ⟨km, j, none⟩ = some (.slice (some ⟨b, ko, none⟩) n c) := (HK.out.cell j).trans hj
  clear hK
  go_enter Try.func112, Try.ntmps112
  go_wp2_with fail
  have hr0 : ((w.alloc (.cells #[.int .i64 th, .int .i64 op, .int .i64 arg] 35)).alloc (.cells #[.bool false, .int .i64 0, .int .i64 0, .int .i64 0] 86)).rangeAt b ko [.int .i64 th2, .int .i64 op2, .int .i64 arg2] := fun i v hv => cell_keep HB0.out (hr i v hv)
  refine (served_yes w.heap.size b ko n c th2 op2 arg2 th op arg _ hn hr0 HX.out hq).mono ?_
  rintro e w3 ⟨rfl, hb⟩
  have HB3 := Lib.hid (below_trans HB0.out hb)
  have HX3 := Lib.hid (HX.out.below hb); have HR3 := Lib.hid (HR.out.below hb); have HK3 := Lib.hid (HK.out.below hb)
  rw [HTA.out]
  clear hb HX HR HK hkj hr0 hr
  have HY3 := Lib.hid (BoxC.new 35 w3 #[.int .i64 0, .int .i64 0, .int .i64 0])
  have hz3 : w.heap.size + 1 < w3.heap.size := HR3.out.lt
  go_upto_region 3 with (first | (refine wpList_store_row rfl 35 _ _ rfl w3.heap.size _ rfl rfl 35 _ HY3.out info_iWaiter rfl (one3w _ _ _) ?_))
  have hbx : Below w3.heap.size w3 ((w3.alloc (.cells #[.int .i64 0, .int .i64 0, .int .i64 0] 35)).setRow w3.heap.size #[.int .i64 th2, .int .i64 op2, .int .i64 arg2]) := below_setRow (below_alloc w3 _) (Nat.le_refl _) _
  have HB4 := Lib.hid (below_trans HB3.out hbx)
  have HX4 := Lib.hid (HX3.out.below hbx); have HR4 := Lib.hid (HR3.out.below hbx); have HK4 := Lib.hid (HK3.out.below hbx)
  have HY4 := Lib.hid (HY3.out.mrow #[.int .i64 th2, .int .i64 op2, .int .i64 arg2])
  generalize (w3.alloc (.cells #[.int .i64 0, .int .i64 0, .int .i64 0] 35)).setRow w3.heap.size #[.int .i64 th2, .int .i64 op2, .int .i64 arg2] = w4 at HB4 HX4 HR4 HK4 HY4 ⊢
  generalize w3.heap.size = ky at HY4 hz3 ⊢
  clear hbx HB3 HX3 HR3 HK3 HY3
  have hf := HK4.out.mfroz
  have hkj : w4.cell? ⟨km, j, none⟩ = some (.slice (some ⟨b, ko, none⟩) n c) := (HK4.out.cell j).trans hj
  have hs6 : (w4.setCell ⟨km, j, none⟩ (.slice TA (n - 1) (c - 1))).heap.size = w4.heap.size := size_setc2 _ _ _
  have HK6 := Lib.hid (HK4.out.mset j (.slice TA (n - 1) (c - 1)))
  have HR6 := Lib.hid (HR4.out.msetO ⟨km, j, none⟩ (.slice TA (n - 1) (c - 1)) (by simp <;> omega))
  have HX6 := Lib.hid (HX4.out.msetO ⟨km, j, none⟩ (.slice TA (n - 1) (c - 1)) (by simp <;> omega))
  have HY6 := Lib.hid (HY4.out.msetO ⟨km, j, none⟩ (.slice TA (n - 1) (c - 1)) (by simp <;> omega))
  have HG6 := Lib.hid (grown_trans (grown_below (some km) HB4.out) (gr_set (k := km) (Below.refl _ w4) j (.slice TA (n - 1) (c - 1))))
  go_upto_region 7 with fail
  generalize w4.setCell ⟨km, j, none⟩ (.slice TA (n - 1) (c - 1)) = w6 at HK6 HR6 HX6 HY6 HG6 hs6 ⊢
  clear HK4 HR4 HX4 HY4 HB4 hf hkj
  have hx := HX6.out.cell; have hy := HY6.out.cell; have hrr := HR6.out.cell; have hf := HR6.out.mfroz
  go_region_with (first | (go_at_call 154; (with_reducible refine (resultWith_any _ _ _ _ _ _ _).mono ?_); rintro e w7 ⟨rfl, hb7⟩; rw [HRV.out]; have hx7 := (HX6.out.below (below_drew_trans hb7)).cell; have hy7 := (HY6.out.below (below_drew_trans hb7)).cell; have hr7 := (HR6.out.below (below_drew_trans hb7)).cell; have hf7 := (HR6.out.below (below_drew_trans hb7)).mfroz))
  all_goals (try go_wp2)
  all_goals
    have HR7 := HR6.out.below (below_drew_trans hb7)
    have HK7 := HK6.out.below (below_drew_trans hb7)
    have HG7 := below_grownN HG6.out (below_drew_trans hb7)
    exact bodyPost_ret (results_out Try.results112 _ _ (w.heap.size + 1) _ rfl ((((HR7.mset 0 _).mset 1 _).mset 2 _).mset 3 _) rfl) rfl ⟨rfl, (((HK7.msetO ⟨w.heap.size + 1, 0, none⟩ _ (by simp <;> omega)).msetO ⟨w.heap.size + 1, 1, none⟩ _ (by simp <;> omega)).msetO ⟨w.heap.size + 1, 2, none⟩ _ (by simp <;> omega)).msetO ⟨w.heap.size + 1, 3, none⟩ _ (by simp <;> omega), gr_cell (gr_cell (gr_cell (gr_cell HG7 (Nat.le_succ _) _ _) (Nat.le_succ _) _ _) (Nat.le_succ _) _ _) (Nat.le_succ _) _ _⟩
end Go.Proofs.Ythianfhfamkcmaa
