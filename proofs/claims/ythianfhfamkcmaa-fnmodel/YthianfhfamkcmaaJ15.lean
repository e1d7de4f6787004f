/-
  Models (chapter 11): the program's push; served, joined.
  Models (chapter 11): the program's served, joined, meet.
-/
import Derived.Test.YthianfhfamkcmaaJ14
namespace Go.Proofs.Ythianfhfamkcmaa
open Go.RowKit

theorem gr_setRow (w : World) (k : Nat) (cs : Array Value) : w.grownBy (w.setRow k cs) (some k) := by
  have b := below_setRow (Below.refl k w) (Nat.le_refl k) cs
  exact ⟨b.os, b.tape, b.output, b.size, fun i hi hr => setRow_other _ _ _ _ (by intro e; exact hr (by rw [e]))⟩
theorem SegC.row {b0 : Nat} {w : World} {A : Option Addr} {n c : Nat} {vs : List Value} (h : SegC b0 w A vs) {k : Nat} (hk : k < b0) (cs : Array Value) : SegC b0 (w.setRow k cs) A vs := by
  rcases h with h0 | ⟨g, o, rfl, h1, hc, hf⟩
  · exact .inl h0
  · exact SegC.kept (n := n) (c := c) (.inr ⟨g, o, rfl, h1, hc, hf⟩) (gr_setRow w k cs) (.inr (by intro e; have := Option.some.inj e; simp at this; omega))
theorem SegC.cell {b0 : Nat} {w : World} {A : Option Addr} {n c : Nat} {vs : List Value} (h : SegC b0 w A vs) {k : Nat} (hk : k < b0) (j : Nat) (v : Value) : SegC b0 (w.setCell ⟨k, j, none⟩ v) A vs := by
  rcases h with h0 | ⟨g, o, rfl, h1, hc, hf⟩
  · exact .inl h0
  · exact SegC.kept (n := n) (c := c) (.inr ⟨g, o, rfl, h1, hc, hf⟩) (gr_set (Below.refl _ w) j v) (.inr (by intro e; have := Option.some.inj e; simp at this; omega))

set_option maxHeartbeats 2000000 in
set_option maxRecDepth 100000 in
theorem pushM_full (km : Nat) (A B O : Option Addr) (ca cb co nz nb no : Nat) (cnt : Int) (v : Int) (w : World) (hq : nz = 400) (hK : BoxC 31 w km #[.slice A nz ca, .int .i64 cnt, .slice B nb cb, .slice O no co]) :
    Calls Try.prog 113 #[.pointer (some ⟨km, 0, none⟩), .int .i64 v] w fun e w' => e = .returned (.agg #[.bool false, .int .i64 7, .int .i64 0, .int .i64 (-1)]) ∧ Below w.heap.size w w' := by
  have hlt : km < w.heap.size := hK.lt
  have HR := Lib.hid (BoxC.new 86 w #[.bool false, .int .i64 0, .int .i64 0, .int .i64 0])
  have HK := Lib.hid (hK.below (below_alloc w (.cells #[.bool false, .int .i64 0, .int .i64 0, .int .i64 0] 86))); have HK0 := Lib.hid hK; clear hK
  have hk := HK.out.cell
  subst hq
  go_enter Try.func113, Try.ntmps113
  go_wp2_with fail
  refine (refused_any _ _).mono ?_
  rintro e w1 ⟨rfl, hb⟩
  have HR1 := Lib.hid (HR.out.below hb)
  have HB1 := Lib.hid (below_trans (below_alloc w _) hb)
  clear hb HR HK HK0 hk
  go_wp2_with (refine wpList_store_row rfl 86 _ _ rfl w.heap.size _ rfl rfl 86 _ HR1.out info_out rfl (one4o _ _ _ _) ?_)
  exact bodyPost_ret (results_out Try.results113 _ _ w.heap.size _ rfl (HR1.out.mrow _) rfl) rfl ⟨rfl, below_setRow HB1.out (Nat.le_refl _) _⟩

set_option maxHeartbeats 4000000 in
set_option maxRecDepth 100000 in
theorem pushM_any (km : Nat) (A B O : Option Addr) (ca cb co nb no : Nat) (zs R : List Int) (cnt v : Int) (w : World) (hR : R = v :: zs) (hn : zs.length < 400) (hA : Rd w A zs) (hK : BoxC 31 w km #[.slice A zs.length ca, .int .i64 cnt, .slice B nb cb, .slice O no co]) :
    Calls Try.prog 113 #[.pointer (some ⟨km, 0, none⟩), .int .i64 v] w fun e w' => ∃ G c, e = .returned (.agg #[.bool true, .int .i64 0, .int .i64 v, .int .i64 (-1)]) ∧ BoxC 31 w' km #[.slice G R.length c, .int .i64 cnt, .slice B nb cb, .slice O no co] ∧ SegC (w.heap.size + 1) w' G (ints R) ∧ (∀ q, (Value.slice G R.length c).ownBlock = some q → w.heap.size < q ∧ q < w'.heap.size) ∧ R.length ≤ c ∧ c ≤ maxLen ∧ w.grownBy w' (some km) := by
  have hlt : km < w.heap.size := hK.lt
  have HR := Lib.hid (BoxC.new 86 w #[.bool false, .int .i64 0, .int .i64 0, .int .i64 0])
  have HK := Lib.hid (hK.below (below_alloc w (.cells #[.bool false, .int .i64 0, .int .i64 0, .int .i64 0] 86))); have HK0 := Lib.hid hK; clear hK
  have hk := HK.out.cell
  have HA := Lib.hid hA; have HRR := Lib.hid hR; have HN := Lib.hid hn; clear hA hR
  have hnb : ¬ ((zs.length : Int) = 400) := by omega
  have hf := HK.out.mfroz
  go_enter Try.func113, Try.ntmps113
  go_wp2_with fail
  have HB3 := Lib.hid (below_alloc3 w (.cells #[.bool false, .int .i64 0, .int .i64 0, .int .i64 0] 86) (.cells #[.int .i64 v] 3) (.cells #[.slice (some ⟨w.heap.size + 1, 0, none⟩) 1 1, .slice A zs.length ca] 22))
  have HR3 : Hid (BoxC 86 (((w.alloc (.cells #[.bool false, .int .i64 0, .int .i64 0, .int .i64 0] 86)).alloc (.cells #[.int .i64 v] 3)).alloc (.cells #[.slice (some ⟨w.heap.size + 1, 0, none⟩) 1 1, .slice A zs.length ca] 22)) w.heap.size #[.bool false, .int .i64 0, .int .i64 0, .int .i64 0]) := Lib.hid (((BoxC.new 86 w #[.bool false, .int .i64 0, .int .i64 0, .int .i64 0]).below (below_alloc _ _)).below (below_alloc _ _))
  have HV3 : Hid (Rd (((w.alloc (.cells #[.bool false, .int .i64 0, .int .i64 0, .int .i64 0] 86)).alloc (.cells #[.int .i64 v] 3)).alloc (.cells #[.slice (some ⟨w.heap.size + 1, 0, none⟩) 1 1, .slice A zs.length ca] 22)) (some ⟨w.heap.size + 1, 0, none⟩) [v]) := Lib.hid (by have h := (rd_oneM (w.alloc (.cells #[.bool false, .int .i64 0, .int .i64 0, .int .i64 0] 86)) v _ rfl).below (below_alloc _ (.cells #[.slice (some ⟨w.heap.size + 1, 0, none⟩) 1 1, .slice A zs.length ca] 22)); rw [size_alloc] at h; exact h)
  have HS3 : Hid (BoxC 22 (((w.alloc (.cells #[.bool false, .int .i64 0, .int .i64 0, .int .i64 0] 86)).alloc (.cells #[.int .i64 v] 3)).alloc (.cells #[.slice (some ⟨w.heap.size + 1, 0, none⟩) 1 1, .slice A zs.length ca] 22)) (w.heap.size + 1 + 1) #[.slice (some ⟨w.heap.size + 1, 0, none⟩) 1 1, .slice A zs.length ca]) := Lib.hid (by have h := BoxC.new 22 ((w.alloc (.cells #[.bool false, .int .i64 0, .int .i64 0, .int .i64 0] 86)).alloc (.cells #[.int .i64 v] 3)) #[.slice (some ⟨w.heap.size + 1, 0, none⟩) 1 1, .slice A zs.length ca]; rw [size_alloc, size_alloc] at h; exact h)
  have HK3 := Lib.hid (HK0.out.below HB3.out)
  have hz3 : w.heap.size + 1 + 1 < (((w.alloc (.cells #[.bool false, .int .i64 0, .int .i64 0, .int .i64 0] 86)).alloc (.cells #[.int .i64 v] 3)).alloc (.cells #[.slice (some ⟨w.heap.size + 1, 0, none⟩) 1 1, .slice A zs.length ca] 22)).heap.size := HS3.out.lt
  generalize (((w.alloc (.cells #[.bool false, .int .i64 0, .int .i64 0, .int .i64 0] 86)).alloc (.cells #[.int .i64 v] 3)).alloc (.cells #[.slice (some ⟨w.heap.size + 1, 0, none⟩) 1 1, .slice A zs.length ca] 22)) = w3 at HB3 HR3 HV3 HS3 HK3 hz3 ⊢
  clear HR HK HK0 hk hf
  refine (concatI_any (w.heap.size + 1 + 1) _ _ 1 ca [v] zs R w3 (by rw [HRR.out]; rfl) (by simp) (by omega) (by simp only [List.length_cons, List.length_nil]; omega) (HS3.out.cell 0) (HS3.out.cell 1) HV3.out (HA.out.below HB3.out)).mono ?_
  rintro e w4 ⟨G, c, rfl, hown, hb⟩
  have HG4 := Lib.hid (grown_below (some km) (below_trans HB3.out hb))
  have HR4 := Lib.hid (HR3.out.below hb); have HK4 := Lib.hid (HK3.out.below hb)
  have HO4 := Lib.hid hown
  have HQ4 : Hid (∀ q, (Value.slice G R.length c).ownBlock = some q → w.heap.size < q ∧ q < w4.heap.size) := fun q hq => by have := World.ownsRow.lt HO4.out q hq; omega
  have hlt4 : w.heap.size < w4.heap.size := HR4.out.lt
  have HL4 : Hid (R.length ≤ c ∧ c ≤ maxLen) := by
    rcases HO4.out.2 with ⟨h1, h2⟩ | ⟨g, cap, cur, h1, _, _, h4, h5, _⟩
    · rw [HRR.out] at h2; simp at h2
    · simp only [Value.slice.injEq] at h1; obtain ⟨_, _, rfl⟩ := h1; exact ⟨h4, h5⟩
  clear hown hb HR3 HK3 HV3 HS3 HB3
  have hf := HK4.out.mfroz; have hk := HK4.out.cell
  go_upto_region 4 with fail
  have HK5 : Hid (BoxC 31 (w4.setCell ⟨km, 0, none⟩ (.slice G R.length c)) km #[.slice G R.length c, .int .i64 cnt, .slice B nb cb, .slice O no co]) := Lib.hid (HK4.out.mset 0 _)
  have HR5 := Lib.hid (HR4.out.msetO ⟨km, 0, none⟩ (.slice G R.length c) (by simp <;> omega))
  have HO5 : Hid (SegC (w.heap.size + 1) (w4.setCell ⟨km, 0, none⟩ (.slice G R.length c)) G (ints R)) := Lib.hid (SegC.cell (n := R.length) (c := c) (SegC.base (SegC.ofI HO4.out) (by omega)) (by omega) 0 _)
  have HG5 := Lib.hid (grown_trans HG4.out (gr_set (k := km) (Below.refl _ w4) 0 (.slice G R.length c)))
  have hs5 : (w4.setCell ⟨km, 0, none⟩ (.slice G R.length c)).heap.size = w4.heap.size := size_setc2 _ _ _
  generalize w4.setCell ⟨km, 0, none⟩ (.slice G R.length c) = w5 at HK5 HR5 HO5 HG5 hs5 ⊢
  clear HK4 HR4 HO4 HG4 hf hk
  go_wp2_with fail
  refine (endedAlone_any _ _ _).mono ?_
  rintro e w6 ⟨rfl, hb⟩
  have HR6 := Lib.hid (HR5.out.below hb); have HK6 := Lib.hid (HK5.out.below hb)
  have HO6 := Lib.hid (HO5.out.below hb)
  have HG6 := Lib.hid (below_grownN HG5.out hb)
  have hs6 : w4.heap.size ≤ w6.heap.size := by rw [← hs5]; exact hb.size
  clear hb HR5 HK5 HO5 HG5
  go_wp2_with (refine wpList_store_row rfl 86 _ _ rfl w.heap.size _ rfl rfl 86 _ HR6.out info_out rfl (one4o _ _ _ _) ?_)
  exact bodyPost_ret (results_out Try.results113 _ _ w.heap.size _ rfl (HR6.out.mrow _) rfl) rfl ⟨G, c, rfl, HK6.out.mrowO (by omega) _, SegC.row (n := R.length) (c := c) HO6.out (by omega) _, fun q hq => by have := HQ4.out q hq; have hz := (gr_setRow w6 w.heap.size #[.bool true, .int .i64 0, .int .i64 v, .int .i64 (-1)]).size; omega, HL4.out.1, HL4.out.2, gr_row HG6.out (Nat.le_refl _) _⟩
end Go.Proofs.Ythianfhfamkcmaa

namespace Go.Proofs.Ythianfhfamkcmaa
open Go.RowKit

theorem results_served {fn : Func} {p a b : Tmp} (h : fn.results = #[.cell p 35, .tmp a, .tmp b]) (tmps : Array Value) (w : World) (g : Nat) (cs : Array Value) (u v : Value)
    (hp : tmps.getD p undef = .pointer (some ⟨g, 0, none⟩)) (ha : tmps.getD a undef = u) (hb : tmps.getD b undef = v) (hg : BoxC 35 w g cs) (hs : cs.size = 3) :
    (results fn tmps).run Try.prog w = .ok (.tuple #[.agg cs, u, v]) w := by
  have hp' : tmps[p]?.getD undef = .pointer (some ⟨g, 0, none⟩) := by simpa using hp
  have ha' : tmps[a]?.getD undef = u := by simpa using ha
  have hb' : tmps[b]?.getD undef = v := by simpa using hb
  have hl := run_loadVar_row w g 35 35 cs (0, 0) _ hg Try.underlying35 rfl (by rw [hs]; exact info_iWaiter)
  simp [results, h, hp', ha', hb', asAddr, hl]

set_option maxHeartbeats 4000000 in
set_option maxRecDepth 100000 in
theorem served_none (kb n c : Nat) (A : Option Addr) (w : World) (hn : n = 0) :
    Calls Try.prog 150 #[.slice A n c, .func (.func 151) #[] #[.pointer (some ⟨kb, 0, none⟩)]] w fun e w' => e = .returned (.tuple #[.agg #[.int .i64 0, .int .i64 0, .int .i64 0], .slice none 0 0, .bool false]) ∧ Below w.heap.size w w' := by
  subst hn
  have HR := Lib.hid ((BoxC.new 35 w #[.int .i64 0, .int .i64 0, .int .i64 0]).below (below_alloc _ (.cells #[.int .i64 0, .int .i64 0, .int .i64 0] 35)))
  go_enter Try.func150, Try.ntmps150
  go_wp2_with (refine wpList_store_row rfl 35 _ _ rfl w.heap.size _ rfl rfl 35 _ HR.out info_iWaiter rfl (one3w _ _ _) ?_)
  exact bodyPost_ret (results_served Try.results150 _ _ w.heap.size _ _ _ rfl rfl rfl (HR.out.mrow _) rfl) rfl ⟨rfl, below_setRow (below_alloc2 w _ _) (Nat.le_refl _) _⟩

set_option maxHeartbeats 4000000 in
set_option maxRecDepth 100000 in
theorem served_no (kb b ko n c : Nat) (th op arg th2 op2 arg2 : Int) (w : World) (hn : 0 < n) (hr : w.rangeAt b ko [.int .i64 th, .int .i64 op, .int .i64 arg]) (hK : BoxC 35 w kb #[.int .i64 th2, .int .i64 op2, .int .i64 arg2]) (hq : (op == partB op2) = false) :
    Calls Try.prog 150 #[.slice (some ⟨b, ko, none⟩) n c, .func (.func 151) #[] #[.pointer (some ⟨kb, 0, none⟩)]] w fun e w' => e = .returned (.tuple #[.agg #[.int .i64 0, .int .i64 0, .int .i64 0], .slice none 0 0, .bool false]) ∧ Below w.heap.size w w' := by
  have HR := Lib.hid (BoxC.new 35 w #[.int .i64 0, .int .i64 0, .int .i64 0])
  have hr1 : (w.alloc (.cells #[.int .i64 0, .int .i64 0, .int .i64 0] 35)).rangeAt b ko [.int .i64 th, .int .i64 op, .int .i64 arg] := fun j v hv => cell_keep (below_alloc w _) (hr j v hv)
  have HRW := Lib.hid hr1
  have HK1 := Lib.hid (hK.below (below_alloc w (.cells #[.int .i64 0, .int .i64 0, .int .i64 0] 35)))
  clear hr hr1 hK
  have hnb : ¬ ((n : Int) = 0) := by omega
  have d0 := HRW.out 0 _ rfl
  have d1 := HRW.out 1 _ rfl
  have d2 := HRW.out 2 _ rfl
  rw [Nat.add_zero] at d0
  go_enter Try.func150, Try.ntmps150
  go_wp2_with fail
  refine (fits_any _ _ _ _ _ _ kb _ HK1.out).mono ?_
  rintro e w1 ⟨rfl, hb⟩
  rw [hq]
  have HB1 := Lib.hid (below_trans (below_alloc w _) hb)
  have HR1 := Lib.hid (HR.out.below (below_trans hb (below_alloc _ (.cells #[.int .i64 0, .int .i64 0, .int .i64 0] 35))))
  have hz1 : w.heap.size < w1.heap.size := (HR.out.below hb).lt
  clear hb HR HK1 HRW d0 d1 d2
  go_wp2_with (refine wpList_store_row rfl 35 _ _ rfl w.heap.size _ rfl rfl 35 _ HR1.out info_iWaiter rfl (one3w _ _ _) ?_)
  exact bodyPost_ret (results_served Try.results150 _ _ w.heap.size _ _ _ rfl rfl rfl (HR1.out.mrow _) rfl) rfl ⟨rfl, below_setRow (below_trans HB1.out (below_alloc _ _)) (Nat.le_refl _) _⟩

def tailW (g o c : Nat) : Option Addr := if c = 1 then some ⟨g, o, none⟩ else some ⟨g, o + 3, none⟩
set_option maxHeartbeats 4000000 in
set_option maxRecDepth 100000 in
theorem served_yes (kb b ko n c : Nat) (th op arg th2 op2 arg2 : Int) (w : World) (hn : 0 < n) (hr : w.rangeAt b ko [.int .i64 th, .int .i64 op, .int .i64 arg]) (hK : BoxC 35 w kb #[.int .i64 th2, .int .i64 op2, .int .i64 arg2]) (hq : (op == partB op2) = true) :
    Calls Try.prog 150 #[.slice (some ⟨b, ko, none⟩) n c, .func (.func 151) #[] #[.pointer (some ⟨kb, 0, none⟩)]] w fun e w' => e = .returned (.tuple #[.agg #[.int .i64 th, .int .i64 op, .int .i64 arg], .slice (tailW b ko c) (n - 1) (c - 1), .bool true]) ∧ Below w.heap.size w w' := by
  have HR := Lib.hid (BoxC.new 35 w #[.int .i64 0, .int .i64 0, .int .i64 0])
  have hr1 : (w.alloc (.cells #[.int .i64 0, .int .i64 0, .int .i64 0] 35)).rangeAt b ko [.int .i64 th, .int .i64 op, .int .i64 arg] := fun j v hv => cell_keep (below_alloc w _) (hr j v hv)
  have HRW := Lib.hid hr1
  have HK1 := Lib.hid (hK.below (below_alloc w (.cells #[.int .i64 0, .int .i64 0, .int .i64 0] 35)))
  clear hr hr1 hK
  have hnb : ¬ ((n : Int) = 0) := by omega
  have d0 := HRW.out 0 _ rfl
  have d1 := HRW.out 1 _ rfl
  have d2 := HRW.out 2 _ rfl
  rw [Nat.add_zero] at d0
  have hn1 : 1 ≤ n := hn
  obtain ⟨TA, hTA⟩ : ∃ TA, tailW b ko c = TA := ⟨_, rfl⟩
  have HTA := Lib.hid hTA
  rw [hTA]
  clear hTA
  go_enter Try.func150, Try.ntmps150
  go_wp2_with fail
  refine (fits_any _ _ _ _ _ _ kb _ HK1.out).mono ?_
  rintro e w1 ⟨rfl, hb⟩
  rw [hq]
  have HB1 := Lib.hid (below_trans (below_alloc w _) hb)
  have HR1 := Lib.hid (HR.out.below hb)
  have HC1 : Hid (w1.cell? ⟨b, ko, none⟩ = some (.int .i64 th) ∧ w1.cell? ⟨b, ko + 1, none⟩ = some (.int .i64 op) ∧ w1.cell? ⟨b, ko + 2, none⟩ = some (.int .i64 arg)) := Lib.hid ⟨cell_keep hb d0, cell_keep hb d1, cell_keep hb d2⟩
  clear hb HR HK1 HRW d0 d1 d2
  have hf := HR1.out.mfroz; have hx := HR1.out.cell
  obtain ⟨hc0, hc1, hc2⟩ := HC1.out
  have HRF : Hid (BoxC 35 (((w1.setCell ⟨w.heap.size, 0, none⟩ (.int .i64 th)).setCell ⟨w.heap.size, 1, none⟩ (.int .i64 op)).setCell ⟨w.heap.size, 2, none⟩ (.int .i64 arg)) w.heap.size #[.int .i64 th, .int .i64 op, .int .i64 arg]) := Lib.hid (((HR1.out.mset 0 _).mset 1 _).mset 2 _)
  by_cases hq1 : c = 1
  · skip
    have ht : TA = some ⟨b, ko, none⟩ := HTA.out.symm.trans (if_pos hq1)
    subst ht
    have hcq : (c = 1) = True := eq_true hq1
    clear hq1
    go_wp2_with fail
    go_region
    all_goals (try go_wp2)
    all_goals exact bodyPost_ret (results_served Try.results150 _ _ w.heap.size _ _ _ rfl rfl rfl HRF.out.mdrew rfl) rfl ⟨rfl, (((HB1.out.setCell (p := ⟨w.heap.size, 0, none⟩) (Nat.le_refl _) _).setCell (p := ⟨w.heap.size, 1, none⟩) (Nat.le_refl _) _).setCell (p := ⟨w.heap.size, 2, none⟩) (Nat.le_refl _) _).drew⟩
  · skip
    have ht : TA = some ⟨b, ko + 3, none⟩ := HTA.out.symm.trans (if_neg hq1)
    subst ht
    have hcq : (c = 1) = False := eq_false hq1
    clear hq1
    go_wp2_with fail
    go_region
    all_goals (try go_wp2)
    all_goals exact bodyPost_ret (results_served Try.results150 _ _ w.heap.size _ _ _ rfl rfl rfl HRF.out.mdrew rfl) rfl ⟨rfl, (((HB1.out.setCell (p := ⟨w.heap.size, 0, none⟩) (Nat.le_refl _) _).setCell (p := ⟨w.heap.size, 1, none⟩) (Nat.le_refl _) _).setCell (p := ⟨w.heap.size, 2, none⟩) (Nat.le_refl _) _).drew⟩

set_option maxHeartbeats 4000000 in
set_option maxRecDepth 100000 in
theorem joined_any (A : Option Addr) (c : Nat) (l R : List Wtr) (th op arg : Int) (w : World) (hR : R = l ++ [⟨th, op, arg⟩]) (hn : l.length ≤ 1048576) (hA : RdR Wtr.cs w A l) :
    Calls Try.prog 153 #[.slice A l.length c, .agg #[.int .i64 th, .int .i64 op, .int .i64 arg]] w fun e w' => ∃ G d, e = .returned (.slice G R.length d) ∧ OwnR Wtr.cs 3 35 (w.heap.size + 1) w' G d R ∧ Below w.heap.size w w' := by
  have HA := Lib.hid hA; have HRR := Lib.hid hR; clear hA hR
  have HB3 := Lib.hid (below_alloc3 w (.cells #[.int .i64 th, .int .i64 op, .int .i64 arg] 35) (.cells #[.int .i64 th, .int .i64 op, .int .i64 arg] 35) (.cells #[.slice A l.length c, .slice (some ⟨w.heap.size + 1, 0, none⟩) 1 1] 92))
  have HX1 := Lib.hid (BoxC.new 35 w #[.int .i64 th, .int .i64 op, .int .i64 arg])
  have hx := HX1.out.cell
  go_enter Try.func153, Try.ntmps153
  go_wp2_with fail
  have HV3 : Hid (RdR Wtr.cs (((w.alloc (.cells #[.int .i64 th, .int .i64 op, .int .i64 arg] 35)).alloc (.cells #[.int .i64 th, .int .i64 op, .int .i64 arg] 35)).alloc (.cells #[.slice A l.length c, .slice (some ⟨w.heap.size + 1, 0, none⟩) 1 1] 92)) (some ⟨w.heap.size + 1, 0, none⟩) [⟨th, op, arg⟩]) := Lib.hid (.inr ⟨w.heap.size + 1, 0, rfl, fun j v hj => by
    have h := (BoxC.new 35 (w.alloc (.cells #[.int .i64 th, .int .i64 op, .int .i64 arg] 35)) #[.int .i64 th, .int .i64 op, .int .i64 arg]).below (below_alloc _ (.cells #[.slice A l.length c, .slice (some ⟨w.heap.size + 1, 0, none⟩) 1 1] 92))
    rw [size_alloc] at h
    rw [Nat.zero_add, h.cell j]
    simpa [flatV, Wtr.cs] using hj⟩)
  have HS3 : Hid (BoxC 92 (((w.alloc (.cells #[.int .i64 th, .int .i64 op, .int .i64 arg] 35)).alloc (.cells #[.int .i64 th, .int .i64 op, .int .i64 arg] 35)).alloc (.cells #[.slice A l.length c, .slice (some ⟨w.heap.size + 1, 0, none⟩) 1 1] 92)) (w.heap.size + 1 + 1) #[.slice A l.length c, .slice (some ⟨w.heap.size + 1, 0, none⟩) 1 1]) := Lib.hid (by have h := BoxC.new 92 ((w.alloc (.cells #[.int .i64 th, .int .i64 op, .int .i64 arg] 35)).alloc (.cells #[.int .i64 th, .int .i64 op, .int .i64 arg] 35)) #[.slice A l.length c, .slice (some ⟨w.heap.size + 1, 0, none⟩) 1 1]; rw [size_alloc, size_alloc] at h; exact h)
  have hz3 : w.heap.size + 1 + 1 < ((((w.alloc (.cells #[.int .i64 th, .int .i64 op, .int .i64 arg] 35)).alloc (.cells #[.int .i64 th, .int .i64 op, .int .i64 arg] 35)).alloc (.cells #[.slice A l.length c, .slice (some ⟨w.heap.size + 1, 0, none⟩) 1 1] 92))).heap.size := HS3.out.lt
  generalize (((w.alloc (.cells #[.int .i64 th, .int .i64 op, .int .i64 arg] 35)).alloc (.cells #[.int .i64 th, .int .i64 op, .int .i64 arg] 35)).alloc (.cells #[.slice A l.length c, .slice (some ⟨w.heap.size + 1, 0, none⟩) 1 1] 92)) = w3 at HB3 HV3 HS3 hz3 ⊢
  clear HX1 hx
  refine (concatW_any (w.heap.size + 1 + 1) _ _ c 1 l [⟨th, op, arg⟩] R w3 HRR.out hn (by simp) (by simp) (HS3.out.cell 0) (HS3.out.cell 1) (HA.out.below HB3.out) HV3.out).mono ?_
  rintro e w4 ⟨G, d, rfl, hown, hb⟩
  have HO4 := Lib.hid (OwnR.base hown (B' := w.heap.size + 1) (by omega))
  have HB4 := Lib.hid (below_trans HB3.out hb)
  clear hown hb HV3 HS3 HB3
  go_wp2
  go_ret
  exact ⟨G, d, rfl, HO4.out, HB4.out⟩
end Go.Proofs.Ythianfhfamkcmaa
