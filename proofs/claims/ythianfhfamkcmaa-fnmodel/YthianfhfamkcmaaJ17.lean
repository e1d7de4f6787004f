/-
  Models (chapter 11): the program's do, way by way.
-/
import Derived.Test.YthianfhfamkcmaaJ16
namespace Go.Proofs.Ythianfhfamkcmaa
open Go.RowKit

theorem RdR.drewD {α : Type} {f : α → List Value} {w : World} {A : Option Addr} {l : List α} (h : RdR f w A l) : RdR f w.drew A l := h

set_option maxHeartbeats 4000000 in
set_option maxRecDepth 100000 in
theorem do_busy (km : Nat) (A B O : Option Addr) (ca cb co : Nat) (zs : List Int) (bs os : List Wtr) (cnt th op arg : Int) (w : World) (hK : BoxC 31 w km #[.slice A zs.length ca, .int .i64 cnt, .slice B bs.length cb, .slice O os.length co]) (ht : bs.length ≤ 1048576) (hc : os.length ≤ 1048576) (hT : RdR Wtr.cs w B bs) (hC : RdR Wtr.cs w O os) (hq : waitsB bs os th = true) :
    Calls Try.prog 56 #[.pointer (some ⟨km, 0, none⟩), .agg #[.int .i64 th, .int .i64 op, .int .i64 arg]] w fun e w' => e = .returned (.agg #[.bool false, .int .i64 9, .int .i64 0, .int .i64 (-1)]) ∧ Below w.heap.size w w' := by
  have hlt : km < w.heap.size := hK.lt
  have HT := Lib.hid hT; have HC := Lib.hid hC; have HQ := Lib.hid hq; clear hT hC hq
  have HB0 := Lib.hid (below_alloc2 w (.cells #[.int .i64 th, .int .i64 op, .int .i64 arg] 35) (.cells #[.bool false, .int .i64 0, .int .i64 0, .int .i64 0] 86))
  have HX := Lib.hid ((BoxC.new 35 w #[.int .i64 th, .int .i64 op, .int .i64 arg]).below (below_alloc _ (.cells #[.bool false, .int .i64 0, .int .i64 0, .int .i64 0] 86)))
  have HR := Lib.hid (by have h := BoxC.new 86 (w.alloc (.cells #[.int .i64 th, .int .i64 op, .int .i64 arg] 35)) #[.bool false, .int .i64 0, .int .i64 0, .int .i64 0]; rw [size_alloc] at h; exact h)
  have HK := Lib.hid (hK.below HB0.out)
  clear hK
  go_enter Try.func56, Try.ntmps56
  go_wp2_with fail
  go_region_held3 (fun w' => (∀ j : Nat, w'.cell? ⟨w.heap.size, j, none⟩ = (#[.int .i64 th, .int .i64 op, .int .i64 arg] : Array Value)[j]?) ∧ (∀ j : Nat, w'.cell? ⟨km, j, none⟩ = (#[.slice A zs.length ca, .int .i64 cnt, .slice B bs.length cb, .slice O os.length co] : Array Value)[j]?))
    (first | exact ⟨HX.out.cell, HK.out.cell⟩ | exact ⟨(HX.out.below (below_drew_trans h1)).cell, (HK.out.below (below_drew_trans h1)).cell⟩)
    (first | (go_at_call 63; (with_reducible refine (waits_any _ _ _ _ _ _ zs bs os _ th _ ht hc (HT.out.below HB0.out).drewD (HC.out.below HB0.out).drewD).mono ?_); rintro e w1 ⟨rfl, h1⟩; rw [HQ.out]))
  have HB1 := Lib.hid (below_trans HB0.out (below_drew_trans h1))
  have HX1 := Lib.hid (HX.out.below (below_drew_trans h1)); have HR1 := Lib.hid (HR.out.below (below_drew_trans h1)); have HK1 := Lib.hid (HK.out.below (below_drew_trans h1))
  have hz1 : w.heap.size + 1 < w1.heap.size := HR1.out.lt
  clear h1 HX HR HK
  have hx := HX1.out.cell
  go_wp2_with fail
  refine (refused_any _ _).mono ?_
  rintro e w2 ⟨rfl, hb⟩
  have HR2 := Lib.hid (HR1.out.below hb)
  have HB2 := Lib.hid (below_trans HB1.out hb)
  clear hb HR1 HK1 HX1 HB1 hx
  go_wp2_with (refine wpList_store_row rfl 86 _ _ rfl (w.heap.size + 1) _ rfl rfl 86 _ HR2.out info_out rfl (one4o _ _ _ _) ?_)
  exact bodyPost_ret (results_out Try.results56 _ _ (w.heap.size + 1) _ rfl (HR2.out.mrow _) rfl) rfl ⟨rfl, below_setRow HB2.out (Nat.le_succ _) _⟩

set_option maxHeartbeats 4000000 in
set_option maxRecDepth 100000 in
theorem do_pushF (km : Nat) (A B O : Option Addr) (ca cb co : Nat) (zs : List Int) (bs os : List Wtr) (cnt th op arg : Int) (w : World) (hK : BoxC 31 w km #[.slice A zs.length ca, .int .i64 cnt, .slice B bs.length cb, .slice O os.length co]) (ht : bs.length ≤ 1048576) (hc : os.length ≤ 1048576) (hT : RdR Wtr.cs w B bs) (hC : RdR Wtr.cs w O os) (hq : waitsB bs os th = false) (ho : op = 4) (hn : zs.length = 400) :
    Calls Try.prog 56 #[.pointer (some ⟨km, 0, none⟩), .agg #[.int .i64 th, .int .i64 op, .int .i64 arg]] w fun e w' => e = .returned (.agg #[.bool false, .int .i64 7, .int .i64 0, .int .i64 (-1)]) ∧ Below w.heap.size w w' := by
  subst ho
  replace hn := Lib.hid hn
  have hlt : km < w.heap.size := hK.lt
  have HT := Lib.hid hT; have HC := Lib.hid hC; have HQ := Lib.hid hq; clear hT hC hq
  have HB0 := Lib.hid (below_alloc2 w (.cells #[.int .i64 th, .int .i64 4, .int .i64 arg] 35) (.cells #[.bool false, .int .i64 0, .int .i64 0, .int .i64 0] 86))
  have HX := Lib.hid ((BoxC.new 35 w #[.int .i64 th, .int .i64 4, .int .i64 arg]).below (below_alloc _ (.cells #[.bool false, .int .i64 0, .int .i64 0, .int .i64 0] 86)))
  have HR := Lib.hid (by have h := BoxC.new 86 (w.alloc (.cells #[.int .i64 th, .int .i64 4, .int .i64 arg] 35)) #[.bool false, .int .i64 0, .int .i64 0, .int .i64 0]; rw [size_alloc] at h; exact h)
  have HK := Lib.hid (hK.below HB0.out)
  clear hK
  go_enter Try.func56, Try.ntmps56
  go_wp2_with fail
  go_region_held3 (fun w' => (∀ j : Nat, w'.cell? ⟨w.heap.size, j, none⟩ = (#[.int .i64 th, .int .i64 4, .int .i64 arg] : Array Value)[j]?) ∧ (∀ j : Nat, w'.cell? ⟨km, j, none⟩ = (#[.slice A zs.length ca, .int .i64 cnt, .slice B bs.length cb, .slice O os.length co] : Array Value)[j]?))
    (first | exact ⟨HX.out.cell, HK.out.cell⟩ | exact ⟨(HX.out.below (below_drew_trans h1)).cell, (HK.out.below (below_drew_trans h1)).cell⟩)
    (first | (go_at_call 63; (with_reducible refine (waits_any _ _ _ _ _ _ zs bs os _ th _ ht hc (HT.out.below HB0.out).drewD (HC.out.below HB0.out).drewD).mono ?_); rintro e w1 ⟨rfl, h1⟩; rw [HQ.out]))
  have HB1 := Lib.hid (below_trans HB0.out (below_drew_trans h1))
  have HX1 := Lib.hid (HX.out.below (below_drew_trans h1)); have HR1 := Lib.hid (HR.out.below (below_drew_trans h1)); have HK1 := Lib.hid (HK.out.below (below_drew_trans h1))
  have hz1 : w.heap.size + 1 < w1.heap.size := HR1.out.lt
  clear h1 HX HR HK
  have hx := HX1.out.cell
  go_wp2_with fail
  refine (pushM_full km _ _ _ _ _ _ zs.length _ _ _ _ _ hn.out HK1.out).mono ?_
  rintro e w2 ⟨rfl, hb⟩
  have HR2 := Lib.hid (HR1.out.below hb)
  have HB2 := Lib.hid (below_trans HB1.out hb)
  clear hb HR1 HK1 HX1 HB1 hx
  go_wp2_with (refine wpList_store_row rfl 86 _ _ rfl (w.heap.size + 1) _ rfl rfl 86 _ HR2.out info_out rfl (one4o _ _ _ _) ?_)
  exact bodyPost_ret (results_out Try.results56 _ _ (w.heap.size + 1) _ rfl (HR2.out.mrow _) rfl) rfl ⟨rfl, below_setRow HB2.out (Nat.le_succ _) _⟩

set_option maxHeartbeats 4000000 in
set_option maxRecDepth 100000 in
theorem do_push (km : Nat) (A B O : Option Addr) (ca cb co : Nat) (zs : List Int) (bs os : List Wtr) (cnt th op arg : Int) (w : World) (hK : BoxC 31 w km #[.slice A zs.length ca, .int .i64 cnt, .slice B bs.length cb, .slice O os.length co]) (ht : bs.length ≤ 1048576) (hc : os.length ≤ 1048576) (hT : RdR Wtr.cs w B bs) (hC : RdR Wtr.cs w O os) (hq : waitsB bs os th = false) (ho : op = 4) (hn : zs.length < 400) (R : List Int) (hR : R = arg :: zs) (hA : Rd w A zs) :
    Calls Try.prog 56 #[.pointer (some ⟨km, 0, none⟩), .agg #[.int .i64 th, .int .i64 op, .int .i64 arg]] w fun e w' => ∃ G d, e = .returned (.agg #[.bool true, .int .i64 0, .int .i64 arg, .int .i64 (-1)]) ∧ BoxC 31 w' km #[.slice G R.length d, .int .i64 cnt, .slice B bs.length cb, .slice O os.length co] ∧ SegC (w.heap.size + 1 + 1) w' G (ints R) ∧ (∀ q, (Value.slice G R.length d).ownBlock = some q → w.heap.size < q ∧ q < w'.heap.size) ∧ R.length ≤ d ∧ d ≤ maxLen ∧ w.grownBy w' (some km) := by
  subst ho
  replace hn := Lib.hid hn
  replace hR := Lib.hid hR
  replace hA := Lib.hid hA
  have hlt : km < w.heap.size := hK.lt
  have HT := Lib.hid hT; have HC := Lib.hid hC; have HQ := Lib.hid hq; clear hT hC hq
  have HB0 := Lib.hid (below_alloc2 w (.cells #[.int .i64 th, .int .i64 4, .int .i64 arg] 35) (.cells #[.bool false, .int .i64 0, .int .i64 0, .int .i64 0] 86))
  have HX := Lib.hid ((BoxC.new 35 w #[.int .i64 th, .int .i64 4, .int .i64 arg]).below (below_alloc _ (.cells #[.bool false, .int .i64 0, .int .i64 0, .int .i64 0] 86)))
  have HR := Lib.hid (by have h := BoxC.new 86 (w.alloc (.cells #[.int .i64 th, .int .i64 4, .int .i64 arg] 35)) #[.bool false, .int .i64 0, .int .i64 0, .int .i64 0]; rw [size_alloc] at h; exact h)
  have HK := Lib.hid (hK.below HB0.out)
  clear hK
  go_enter Try.func56, Try.ntmps56
  go_wp2_with fail
  go_region_held3 (fun w' => (∀ j : Nat, w'.cell? ⟨w.heap.size, j, none⟩ = (#[.int .i64 th, .int .i64 4, .int .i64 arg] : Array Value)[j]?) ∧ (∀ j : Nat, w'.cell? ⟨km, j, none⟩ = (#[.slice A zs.length ca, .int .i64 cnt, .slice B bs.length cb, .slice O os.length co] : Array Value)[j]?))
    (first | exact ⟨HX.out.cell, HK.out.cell⟩ | exact ⟨(HX.out.below (below_drew_trans h1)).cell, (HK.out.below (below_drew_trans h1)).cell⟩)
    (first | (go_at_call 63; (with_reducible refine (waits_any _ _ _ _ _ _ zs bs os _ th _ ht hc (HT.out.below HB0.out).drewD (HC.out.below HB0.out).drewD).mono ?_); rintro e w1 ⟨rfl, h1⟩; rw [HQ.out]))
  have HB1 := Lib.hid (below_trans HB0.out (below_drew_trans h1))
  have HX1 := Lib.hid (HX.out.below (below_drew_trans h1)); have HR1 := Lib.hid (HR.out.below (below_drew_trans h1)); have HK1 := Lib.hid (HK.out.below (below_drew_trans h1))
  have hz1 : w.heap.size + 1 < w1.heap.size := HR1.out.lt
  clear h1 HX HR HK
  have hx := HX1.out.cell
  go_wp2_with fail
  refine (pushM_any km _ _ _ _ _ _ bs.length os.length zs R _ _ _ hR.out hn.out (hA.out.below HB1.out) HK1.out).mono ?_
  rintro e w2 ⟨G, d, rfl, hK2, hS, hQ, hl, hcm, hg⟩
  have HR2 := Lib.hid (HR1.out.mgrown hg (by simp <;> omega))
  have HK2 := Lib.hid hK2
  have HG2 := Lib.hid (grown_trans (grown_below (some km) HB1.out) hg)
  have HS2 := Lib.hid (SegC.base hS (b1 := w.heap.size + 1 + 1) (by omega))
  have HQ2 := Lib.hid hQ; have HL2 := Lib.hid hl; have HC2 := Lib.hid hcm
  clear hS hQ hl hcm
  clear hg HR1 HK1 HX1 HB1 hx hK2
  go_wp2_with (refine wpList_store_row rfl 86 _ _ rfl (w.heap.size + 1) _ rfl rfl 86 _ HR2.out info_out rfl (one4o _ _ _ _) ?_)
  exact bodyPost_ret (results_out Try.results56 _ _ (w.heap.size + 1) _ rfl (HR2.out.mrow _) rfl) rfl ⟨G, d, rfl, HK2.out.mrowO (by omega) _, SegC.row (n := R.length) (c := d) HS2.out (by omega) _, fun q hq => by have := HQ2.out q hq; have hz := (gr_setRow w2 (w.heap.size + 1) #[.bool true, .int .i64 0, .int .i64 arg, .int .i64 (-1)]).size; omega, HL2.out, HC2.out, gr_row HG2.out (Nat.le_succ _) _⟩

set_option maxHeartbeats 4000000 in
set_option maxRecDepth 100000 in
theorem do_popN (km : Nat) (A B O : Option Addr) (ca cb co : Nat) (zs : List Int) (bs os : List Wtr) (cnt th op arg : Int) (w : World) (hK : BoxC 31 w km #[.slice A zs.length ca, .int .i64 cnt, .slice B bs.length cb, .slice O os.length co]) (ht : bs.length ≤ 1048576) (hc : os.length ≤ 1048576) (hT : RdR Wtr.cs w B bs) (hC : RdR Wtr.cs w O os) (hq : waitsB bs os th = false) (ho : op = 5) (hn : zs.length = 0) :
    Calls Try.prog 56 #[.pointer (some ⟨km, 0, none⟩), .agg #[.int .i64 th, .int .i64 op, .int .i64 arg]] w fun e w' => e = .returned (.agg #[.bool true, .int .i64 14, .int .i64 0, .int .i64 (-1)]) ∧ Below w.heap.size w w' := by
  subst ho
  replace hn := Lib.hid hn
  have hlt : km < w.heap.size := hK.lt
  have HT := Lib.hid hT; have HC := Lib.hid hC; have HQ := Lib.hid hq; clear hT hC hq
  have HB0 := Lib.hid (below_alloc2 w (.cells #[.int .i64 th, .int .i64 5, .int .i64 arg] 35) (.cells #[.bool false, .int .i64 0, .int .i64 0, .int .i64 0] 86))
  have HX := Lib.hid ((BoxC.new 35 w #[.int .i64 th, .int .i64 5, .int .i64 arg]).below (below_alloc _ (.cells #[.bool false, .int .i64 0, .int .i64 0, .int .i64 0] 86)))
  have HR := Lib.hid (by have h := BoxC.new 86 (w.alloc (.cells #[.int .i64 th, .int .i64 5, .int .i64 arg] 35)) #[.bool false, .int .i64 0, .int .i64 0, .int .i64 0]; rw [size_alloc] at h; exact h)
  have HK := Lib.hid (hK.below HB0.out)
  clear hK
  go_enter Try.func56, Try.ntmps56
  go_wp2_with fail
  go_region_held3 (fun w' => (∀ j : Nat, w'.cell? ⟨w.heap.size, j, none⟩ = (#[.int .i64 th, .int .i64 5, .int .i64 arg] : Array Value)[j]?) ∧ (∀ j : Nat, w'.cell? ⟨km, j, none⟩ = (#[.slice A zs.length ca, .int .i64 cnt, .slice B bs.length cb, .slice O os.length co] : Array Value)[j]?))
    (first | exact ⟨HX.out.cell, HK.out.cell⟩ | exact ⟨(HX.out.below (below_drew_trans h1)).cell, (HK.out.below (below_drew_trans h1)).cell⟩)
    (first | (go_at_call 63; (with_reducible refine (waits_any _ _ _ _ _ _ zs bs os _ th _ ht hc (HT.out.below HB0.out).drewD (HC.out.below HB0.out).drewD).mono ?_); rintro e w1 ⟨rfl, h1⟩; rw [HQ.out]))
  have HB1 := Lib.hid (below_trans HB0.out (below_drew_trans h1))
  have HX1 := Lib.hid (HX.out.below (below_drew_trans h1)); have HR1 := Lib.hid (HR.out.below (below_drew_trans h1)); have HK1 := Lib.hid (HK.out.below (below_drew_trans h1))
  have hz1 : w.heap.size + 1 < w1.heap.size := HR1.out.lt
  clear h1 HX HR HK
  have hx := HX1.out.cell
  go_wp2_with fail
  refine (popM_none km _ _ _ _ _ _ zs.length _ _ _ _ hn.out HK1.out).mono ?_
  rintro e w2 ⟨rfl, hb⟩
  have HR2 := Lib.hid (HR1.out.below hb)
  have HB2 := Lib.hid (below_trans HB1.out hb)
  clear hb HR1 HK1 HX1 HB1 hx
  go_wp2_with (refine wpList_store_row rfl 86 _ _ rfl (w.heap.size + 1) _ rfl rfl 86 _ HR2.out info_out rfl (one4o _ _ _ _) ?_)
  exact bodyPost_ret (results_out Try.results56 _ _ (w.heap.size + 1) _ rfl (HR2.out.mrow _) rfl) rfl ⟨rfl, below_setRow HB2.out (Nat.le_succ _) _⟩

set_option maxHeartbeats 4000000 in
set_option maxRecDepth 100000 in
theorem do_pop (km : Nat) (A B O : Option Addr) (ca cb co : Nat) (zs : List Int) (bs os : List Wtr) (cnt th op arg : Int) (w : World) (hK : BoxC 31 w km #[.slice A zs.length ca, .int .i64 cnt, .slice B bs.length cb, .slice O os.length co]) (ht : bs.length ≤ 1048576) (hc : os.length ≤ 1048576) (hT : RdR Wtr.cs w B bs) (hC : RdR Wtr.cs w O os) (hq : waitsB bs os th = false) (ho : op = 5) (g ko : Nat) (z : Int) (hA : A = some ⟨g, ko, none⟩) (hn : 0 < zs.length) (hz : w.cell? ⟨g, ko, none⟩ = some (.int .i64 z)) :
    Calls Try.prog 56 #[.pointer (some ⟨km, 0, none⟩), .agg #[.int .i64 th, .int .i64 op, .int .i64 arg]] w fun e w' => e = .returned (.agg #[.bool true, .int .i64 0, .int .i64 z, .int .i64 (-1)]) ∧ BoxC 31 w' km #[.slice (tailA g ko ca) (zs.length - 1) (ca - 1), .int .i64 cnt, .slice B bs.length cb, .slice O os.length co] ∧ w.grownBy w' (some km) := by
  subst ho
  subst hA
  replace hn := Lib.hid hn
  replace hz := Lib.hid hz
  have hlt : km < w.heap.size := hK.lt
  have HT := Lib.hid hT; have HC := Lib.hid hC; have HQ := Lib.hid hq; clear hT hC hq
  have HB0 := Lib.hid (below_alloc2 w (.cells #[.int .i64 th, .int .i64 5, .int .i64 arg] 35) (.cells #[.bool false, .int .i64 0, .int .i64 0, .int .i64 0] 86))
  have HX := Lib.hid ((BoxC.new 35 w #[.int .i64 th, .int .i64 5, .int .i64 arg]).below (below_alloc _ (.cells #[.bool false, .int .i64 0, .int .i64 0, .int .i64 0] 86)))
  have HR := Lib.hid (by have h := BoxC.new 86 (w.alloc (.cells #[.int .i64 th, .int .i64 5, .int .i64 arg] 35)) #[.bool false, .int .i64 0, .int .i64 0, .int .i64 0]; rw [size_alloc] at h; exact h)
  have HK := Lib.hid (hK.below HB0.out)
  clear hK
  go_enter Try.func56, Try.ntmps56
  go_wp2_with fail
  go_region_held3 (fun w' => (∀ j : Nat, w'.cell? ⟨w.heap.size, j, none⟩ = (#[.int .i64 th, .int .i64 5, .int .i64 arg] : Array Value)[j]?) ∧ (∀ j : Nat, w'.cell? ⟨km, j, none⟩ = (#[.slice (some ⟨g, ko, none⟩) zs.length ca, .int .i64 cnt, .slice B bs.length cb, .slice O os.length co] : Array Value)[j]?))
    (first | exact ⟨HX.out.cell, HK.out.cell⟩ | exact ⟨(HX.out.below (below_drew_trans h1)).cell, (HK.out.below (below_drew_trans h1)).cell⟩)
    (first | (go_at_call 63; (with_reducible refine (waits_any _ _ _ _ _ _ zs bs os _ th _ ht hc (HT.out.below HB0.out).drewD (HC.out.below HB0.out).drewD).mono ?_); rintro e w1 ⟨rfl, h1⟩; rw [HQ.out]))
  have HB1 := Lib.hid (below_trans HB0.out (below_drew_trans h1))
  have HX1 := Lib.hid (HX.out.below (below_drew_trans h1)); have HR1 := Lib.hid (HR.out.below (below_drew_trans h1)); have HK1 := Lib.hid (HK.out.below (below_drew_trans h1))
  have hz1 : w.heap.size + 1 < w1.heap.size := HR1.out.lt
  clear h1 HX HR HK
  have hx := HX1.out.cell
  go_wp2_with fail
  refine (popM_any km g ko _ _ _ _ _ zs.length _ _ _ _ _ hn.out (cell_keep HB1.out hz.out) HK1.out).mono ?_
  rintro e w2 ⟨rfl, hK2, hg⟩
  have HR2 := Lib.hid (HR1.out.mgrown hg (by simp <;> omega))
  have HK2 := Lib.hid hK2
  have HG2 := Lib.hid (grown_trans (grown_below (some km) HB1.out) hg)
  clear hg HR1 HK1 HX1 HB1 hx hK2
  go_wp2_with (refine wpList_store_row rfl 86 _ _ rfl (w.heap.size + 1) _ rfl rfl 86 _ HR2.out info_out rfl (one4o _ _ _ _) ?_)
  exact bodyPost_ret (results_out Try.results56 _ _ (w.heap.size + 1) _ rfl (HR2.out.mrow _) rfl) rfl ⟨rfl, HK2.out.mrowO (by omega) _, gr_row HG2.out (Nat.le_succ _) _⟩

set_option maxHeartbeats 4000000 in
set_option maxRecDepth 100000 in
theorem do_cntF (km : Nat) (A B O : Option Addr) (ca cb co : Nat) (zs : List Int) (bs os : List Wtr) (cnt th op arg : Int) (w : World) (hK : BoxC 31 w km #[.slice A zs.length ca, .int .i64 cnt, .slice B bs.length cb, .slice O os.length co]) (ht : bs.length ≤ 1048576) (hc : os.length ≤ 1048576) (hT : RdR Wtr.cs w B bs) (hC : RdR Wtr.cs w O os) (hq : waitsB bs os th = false) (ho : op = 6) (hn : cnt = 1000000000) :
    Calls Try.prog 56 #[.pointer (some ⟨km, 0, none⟩), .agg #[.int .i64 th, .int .i64 op, .int .i64 arg]] w fun e w' => e = .returned (.agg #[.bool false, .int .i64 7, .int .i64 0, .int .i64 (-1)]) ∧ Below w.heap.size w w' := by
  subst ho
  replace hn := Lib.hid hn
  have hlt : km < w.heap.size := hK.lt
  have HT := Lib.hid hT; have HC := Lib.hid hC; have HQ := Lib.hid hq; clear hT hC hq
  have HB0 := Lib.hid (below_alloc2 w (.cells #[.int .i64 th, .int .i64 6, .int .i64 arg] 35) (.cells #[.bool false, .int .i64 0, .int .i64 0, .int .i64 0] 86))
  have HX := Lib.hid ((BoxC.new 35 w #[.int .i64 th, .int .i64 6, .int .i64 arg]).below (below_alloc _ (.cells #[.bool false, .int .i64 0, .int .i64 0, .int .i64 0] 86)))
  have HR := Lib.hid (by have h := BoxC.new 86 (w.alloc (.cells #[.int .i64 th, .int .i64 6, .int .i64 arg] 35)) #[.bool false, .int .i64 0, .int .i64 0, .int .i64 0]; rw [size_alloc] at h; exact h)
  have HK := Lib.hid (hK.below HB0.out)
  clear hK
  go_enter Try.func56, Try.ntmps56
  go_wp2_with fail
  go_region_held3 (fun w' => (∀ j : Nat, w'.cell? ⟨w.heap.size, j, none⟩ = (#[.int .i64 th, .int .i64 6, .int .i64 arg] : Array Value)[j]?) ∧ (∀ j : Nat, w'.cell? ⟨km, j, none⟩ = (#[.slice A zs.length ca, .int .i64 cnt, .slice B bs.length cb, .slice O os.length co] : Array Value)[j]?))
    (first | exact ⟨HX.out.cell, HK.out.cell⟩ | exact ⟨(HX.out.below (below_drew_trans h1)).cell, (HK.out.below (below_drew_trans h1)).cell⟩)
    (first | (go_at_call 63; (with_reducible refine (waits_any _ _ _ _ _ _ zs bs os _ th _ ht hc (HT.out.below HB0.out).drewD (HC.out.below HB0.out).drewD).mono ?_); rintro e w1 ⟨rfl, h1⟩; rw [HQ.out]))
  have HB1 := Lib.hid (below_trans HB0.out (below_drew_trans h1))
  have HX1 := Lib.hid (HX.out.below (below_drew_trans h1)); have HR1 := Lib.hid (HR.out.below (below_drew_trans h1)); have HK1 := Lib.hid (HK.out.below (below_drew_trans h1))
  have hz1 : w.heap.size + 1 < w1.heap.size := HR1.out.lt
  clear h1 HX HR HK
  have hx := HX1.out.cell
  go_wp2_with fail
  refine (countM_full km _ _ _ _ _ _ _ _ _ cnt _ hn.out HK1.out).mono ?_
  rintro e w2 ⟨rfl, hb⟩
  have HR2 := Lib.hid (HR1.out.below hb)
  have HB2 := Lib.hid (below_trans HB1.out hb)
  clear hb HR1 HK1 HX1 HB1 hx
  go_wp2_with (refine wpList_store_row rfl 86 _ _ rfl (w.heap.size + 1) _ rfl rfl 86 _ HR2.out info_out rfl (one4o _ _ _ _) ?_)
  exact bodyPost_ret (results_out Try.results56 _ _ (w.heap.size + 1) _ rfl (HR2.out.mrow _) rfl) rfl ⟨rfl, below_setRow HB2.out (Nat.le_succ _) _⟩

set_option maxHeartbeats 4000000 in
set_option maxRecDepth 100000 in
theorem do_cnt (km : Nat) (A B O : Option Addr) (ca cb co : Nat) (zs : List Int) (bs os : List Wtr) (cnt th op arg : Int) (w : World) (hK : BoxC 31 w km #[.slice A zs.length ca, .int .i64 cnt, .slice B bs.length cb, .slice O os.length co]) (ht : bs.length ≤ 1048576) (hc : os.length ≤ 1048576) (hT : RdR Wtr.cs w B bs) (hC : RdR Wtr.cs w O os) (hq : waitsB bs os th = false) (ho : op = 6) (hn : ¬ cnt = 1000000000) (hc0 : 0 ≤ cnt) (hc1 : cnt ≤ 1000000000) :
    Calls Try.prog 56 #[.pointer (some ⟨km, 0, none⟩), .agg #[.int .i64 th, .int .i64 op, .int .i64 arg]] w fun e w' => e = .returned (.agg #[.bool true, .int .i64 0, .int .i64 cnt, .int .i64 (-1)]) ∧ BoxC 31 w' km #[.slice A zs.length ca, .int .i64 (cnt + 1), .slice B bs.length cb, .slice O os.length co] ∧ w.grownBy w' (some km) := by
  subst ho
  replace hn := Lib.hid hn
  have hlt : km < w.heap.size := hK.lt
  have HT := Lib.hid hT; have HC := Lib.hid hC; have HQ := Lib.hid hq; clear hT hC hq
  have HB0 := Lib.hid (below_alloc2 w (.cells #[.int .i64 th, .int .i64 6, .int .i64 arg] 35) (.cells #[.bool false, .int .i64 0, .int .i64 0, .int .i64 0] 86))
  have HX := Lib.hid ((BoxC.new 35 w #[.int .i64 th, .int .i64 6, .int .i64 arg]).below (below_alloc _ (.cells #[.bool false, .int .i64 0, .int .i64 0, .int .i64 0] 86)))
  have HR := Lib.hid (by have h := BoxC.new 86 (w.alloc (.cells #[.int .i64 th, .int .i64 6, .int .i64 arg] 35)) #[.bool false, .int .i64 0, .int .i64 0, .int .i64 0]; rw [size_alloc] at h; exact h)
  have HK := Lib.hid (hK.below HB0.out)
  clear hK
  go_enter Try.func56, Try.ntmps56
  go_wp2_with fail
  go_region_held3 (fun w' => (∀ j : Nat, w'.cell? ⟨w.heap.size, j, none⟩ = (#[.int .i64 th, .int .i64 6, .int .i64 arg] : Array Value)[j]?) ∧ (∀ j : Nat, w'.cell? ⟨km, j, none⟩ = (#[.slice A zs.length ca, .int .i64 cnt, .slice B bs.length cb, .slice O os.length co] : Array Value)[j]?))
    (first | exact ⟨HX.out.cell, HK.out.cell⟩ | exact ⟨(HX.out.below (below_drew_trans h1)).cell, (HK.out.below (below_drew_trans h1)).cell⟩)
    (first | (go_at_call 63; (with_reducible refine (waits_any _ _ _ _ _ _ zs bs os _ th _ ht hc (HT.out.below HB0.out).drewD (HC.out.below HB0.out).drewD).mono ?_); rintro e w1 ⟨rfl, h1⟩; rw [HQ.out]))
  have HB1 := Lib.hid (below_trans HB0.out (below_drew_trans h1))
  have HX1 := Lib.hid (HX.out.below (below_drew_trans h1)); have HR1 := Lib.hid (HR.out.below (below_drew_trans h1)); have HK1 := Lib.hid (HK.out.below (below_drew_trans h1))
  have hz1 : w.heap.size + 1 < w1.heap.size := HR1.out.lt
  clear h1 HX HR HK
  have hx := HX1.out.cell
  go_wp2_with fail
  refine (countM_any km _ _ _ _ _ _ _ _ _ cnt _ hc0 hc1 hn.out HK1.out).mono ?_
  rintro e w2 ⟨rfl, hK2, hg⟩
  have HR2 := Lib.hid (HR1.out.mgrown hg (by simp <;> omega))
  have HK2 := Lib.hid hK2
  have HG2 := Lib.hid (grown_trans (grown_below (some km) HB1.out) hg)
  clear hg HR1 HK1 HX1 HB1 hx hK2
  go_wp2_with (refine wpList_store_row rfl 86 _ _ rfl (w.heap.size + 1) _ rfl rfl 86 _ HR2.out info_out rfl (one4o _ _ _ _) ?_)
  exact bodyPost_ret (results_out Try.results56 _ _ (w.heap.size + 1) _ rfl (HR2.out.mrow _) rfl) rfl ⟨rfl, HK2.out.mrowO (by omega) _, gr_row HG2.out (Nat.le_succ _) _⟩

theorem seg4 {b0 : Nat} {w : World} {A : Option Addr} {n c : Nat} {vs : List Value} (h : SegC b0 w A vs) {k : Nat} (hk : k < b0) (u0 u1 u2 u3 : Value) : SegC b0 ((((w.setCell ⟨k, 0, none⟩ u0).setCell ⟨k, 1, none⟩ u1).setCell ⟨k, 2, none⟩ u2).setCell ⟨k, 3, none⟩ u3) A vs :=
  SegC.cell (n := n) (c := c) (SegC.cell (n := n) (c := c) (SegC.cell (n := n) (c := c) (SegC.cell (n := n) (c := c) h hk 0 u0) hk 1 u1) hk 2 u2) hk 3 u3
theorem box4 {t : TypeId} {w : World} {km k : Nat} {cs : Array Value} (h : BoxC t w km cs) (hk : km ≠ k) (u0 u1 u2 u3 : Value) : BoxC t ((((w.setCell ⟨k, 0, none⟩ u0).setCell ⟨k, 1, none⟩ u1).setCell ⟨k, 2, none⟩ u2).setCell ⟨k, 3, none⟩ u3) km cs :=
  (((h.msetO ⟨k, 0, none⟩ u0 hk).msetO ⟨k, 1, none⟩ u1 hk).msetO ⟨k, 2, none⟩ u2 hk).msetO ⟨k, 3, none⟩ u3 hk
theorem gr4 {w w' : World} {r : Option Nat} (h : w.grownBy w' r) {k : Nat} (hk : w.heap.size ≤ k) (u0 u1 u2 u3 : Value) : w.grownBy ((((w'.setCell ⟨k, 0, none⟩ u0).setCell ⟨k, 1, none⟩ u1).setCell ⟨k, 2, none⟩ u2).setCell ⟨k, 3, none⟩ u3) r :=
  gr_cell (gr_cell (gr_cell (gr_cell h hk 0 u0) hk 1 u1) hk 2 u2) hk 3 u3
theorem size4 (w : World) (k : Nat) (u0 u1 u2 u3 : Value) : ((((w.setCell ⟨k, 0, none⟩ u0).setCell ⟨k, 1, none⟩ u1).setCell ⟨k, 2, none⟩ u2).setCell ⟨k, 3, none⟩ u3).heap.size = w.heap.size := by rw [size_setc2, size_setc2, size_setc2, size_setc2]

set_option maxHeartbeats 8000000 in
set_option maxRecDepth 100000 in
theorem do_putW (km : Nat) (A B O : Option Addr) (ca cb co : Nat) (zs : List Int) (bs os : List Wtr) (cnt th op arg : Int) (w : World) (hK : BoxC 31 w km #[.slice A zs.length ca, .int .i64 cnt, .slice B bs.length cb, .slice O os.length co]) (ht : bs.length ≤ 1048576) (hc : os.length ≤ 1048576) (hT : RdR Wtr.cs w B bs) (hC : RdR Wtr.cs w O os) (hq : waitsB bs os th = false) (ho : op = 1) (R : List Wtr) (hR : R = bs ++ [⟨th, op, arg⟩]) (hfit : fitsB bs op = false) :
    Calls Try.prog 56 #[.pointer (some ⟨km, 0, none⟩), .agg #[.int .i64 th, .int .i64 op, .int .i64 arg]] w fun e w' => ∃ G d, e = .returned (.agg #[.bool false, .int .i64 0, .int .i64 0, .int .i64 (-1)]) ∧ BoxC 31 w' km #[.slice A zs.length ca, .int .i64 cnt, .slice G R.length d, .slice O os.length co] ∧ SegC (w.heap.size + 1 + 1) w' G (flatV Wtr.cs R) ∧ (∀ q, (Value.slice G R.length d).ownBlock = some q → w.heap.size < q ∧ q < w'.heap.size) ∧ R.length ≤ d ∧ d ≤ maxLen ∧ w.grownBy w' (some km) := by
  subst ho
  replace hR := Lib.hid hR; replace hfit := Lib.hid hfit
  have hlt : km < w.heap.size := hK.lt
  have HT := Lib.hid hT; have HC := Lib.hid hC; have HQ := Lib.hid hq; clear hT hC hq
  have HB0 := Lib.hid (below_alloc2 w (.cells #[.int .i64 th, .int .i64 1, .int .i64 arg] 35) (.cells #[.bool false, .int .i64 0, .int .i64 0, .int .i64 0] 86))
  have HX := Lib.hid ((BoxC.new 35 w #[.int .i64 th, .int .i64 1, .int .i64 arg]).below (below_alloc _ (.cells #[.bool false, .int .i64 0, .int .i64 0, .int .i64 0] 86)))
  have HR := Lib.hid (by have h := BoxC.new 86 (w.alloc (.cells #[.int .i64 th, .int .i64 1, .int .i64 arg] 35)) #[.bool false, .int .i64 0, .int .i64 0, .int .i64 0]; rw [size_alloc] at h; exact h)
  have HK := Lib.hid (hK.below HB0.out)
  clear hK
  go_enter Try.func56, Try.ntmps56
  go_wp2_with fail
  go_region_held3 (fun w' => (∀ j : Nat, w'.cell? ⟨w.heap.size, j, none⟩ = (#[.int .i64 th, .int .i64 1, .int .i64 arg] : Array Value)[j]?) ∧ (∀ j : Nat, w'.cell? ⟨km, j, none⟩ = (#[.slice A zs.length ca, .int .i64 cnt, .slice B bs.length cb, .slice O os.length co] : Array Value)[j]?))
    (first | exact ⟨HX.out.cell, HK.out.cell⟩ | exact ⟨(HX.out.below (below_drew_trans h1)).cell, (HK.out.below (below_drew_trans h1)).cell⟩)
    (first | (go_at_call 63; (with_reducible refine (waits_any _ _ _ _ _ _ zs bs os _ th _ ht hc (HT.out.below HB0.out).drewD (HC.out.below HB0.out).drewD).mono ?_); rintro e w1 ⟨rfl, h1⟩; rw [HQ.out]))
  have HB1 := Lib.hid (below_trans HB0.out (below_drew_trans h1))
  have HX1 := Lib.hid (HX.out.below (below_drew_trans h1)); have HR1 := Lib.hid (HR.out.below (below_drew_trans h1)); have HK1 := Lib.hid (HK.out.below (below_drew_trans h1))
  have hz1 : w.heap.size + 1 < w1.heap.size := HR1.out.lt
  clear h1 HX HR HK
  have hx := HX1.out.cell
  have hrr := HR1.out.cell; have hf := HR1.out.mfroz
  go_upto_region 6 with fail
  go_region_with (first | (go_at_call 112; (with_reducible refine (meet_wait km 2 _ _ _ bs _ _ _ _ rfl HK1.out.mdrew R hR.out ht (HT.out.below HB1.out).drewD hfit.out).mono ?_); rintro e w2 ⟨G, d, rfl, hK2, hS, hQ, hl, hcm, hg⟩; have HR2 := HR1.out.mdrew.mgrown hg (by simp <;> omega); have hr2 := HR2.cell; have hf2 := HR2.mfroz))
  all_goals (try go_wp2)
  all_goals
    have HG2 := grown_trans (grown_below (some km) HB1.out.drew) hg
    exact bodyPost_ret (results_out Try.results56 _ _ (w.heap.size + 1) _ rfl ((((HR2.mset 0 _).mset 1 _).mset 2 _).mset 3 _) rfl) rfl ⟨G, d, rfl, box4 hK2 (by omega) _ _ _ _, seg4 (n := R.length) (c := d) (SegC.base hS (b1 := w.heap.size + 1 + 1) (by simp <;> omega)) (by omega) _ _ _ _, fun q hq => by have := hQ q hq; rw [size4]; simp at this; omega, hl, hcm, gr4 HG2 (Nat.le_succ _) _ _ _ _⟩

set_option maxHeartbeats 8000000 in
set_option maxRecDepth 100000 in
theorem do_putD (km : Nat) (A B O : Option Addr) (ca cb co : Nat) (zs : List Int) (bs os : List Wtr) (cnt th op arg : Int) (w : World) (hK : BoxC 31 w km #[.slice A zs.length ca, .int .i64 cnt, .slice B bs.length cb, .slice O os.length co]) (ht : bs.length ≤ 1048576) (hc : os.length ≤ 1048576) (hT : RdR Wtr.cs w B bs) (hC : RdR Wtr.cs w O os) (hq : waitsB bs os th = false) (ho : op = 1) (g ko : Nat) (th2 op2 arg2 : Int) (hA : B = some ⟨g, ko, none⟩) (hn : 0 < bs.length) (hr : w.rangeAt g ko [.int .i64 th2, .int .i64 op2, .int .i64 arg2]) (hfit : (op2 == partB op) = true) :
    Calls Try.prog 56 #[.pointer (some ⟨km, 0, none⟩), .agg #[.int .i64 th, .int .i64 op, .int .i64 arg]] w fun e w' => e = .returned (.agg #[.bool true, .int .i64 0, .int .i64 arg, .int .i64 th2]) ∧ BoxC 31 w' km #[.slice A zs.length ca, .int .i64 cnt, .slice (tailW g ko cb) (bs.length - 1) (cb - 1), .slice O os.length co] ∧ w.grownBy w' (some km) := by
  subst ho
  subst hA
  replace hn := Lib.hid hn; replace hr := Lib.hid hr; replace hfit := Lib.hid hfit
  have hlt : km < w.heap.size := hK.lt
  have HT := Lib.hid hT; have HC := Lib.hid hC; have HQ := Lib.hid hq; clear hT hC hq
  have HB0 := Lib.hid (below_alloc2 w (.cells #[.int .i64 th, .int .i64 1, .int .i64 arg] 35) (.cells #[.bool false, .int .i64 0, .int .i64 0, .int .i64 0] 86))
  have HX := Lib.hid ((BoxC.new 35 w #[.int .i64 th, .int .i64 1, .int .i64 arg]).below (below_alloc _ (.cells #[.bool false, .int .i64 0, .int .i64 0, .int .i64 0] 86)))
  have HR := Lib.hid (by have h := BoxC.new 86 (w.alloc (.cells #[.int .i64 th, .int .i64 1, .int .i64 arg] 35)) #[.bool false, .int .i64 0, .int .i64 0, .int .i64 0]; rw [size_alloc] at h; exact h)
  have HK := Lib.hid (hK.below HB0.out)
  clear hK
  go_enter Try.func56, Try.ntmps56
  go_wp2_with fail
  go_region_held3 (fun w' => (∀ j : Nat, w'.cell? ⟨w.heap.size, j, none⟩ = (#[.int .i64 th, .int .i64 1, .int .i64 arg] : Array Value)[j]?) ∧ (∀ j : Nat, w'.cell? ⟨km, j, none⟩ = (#[.slice A zs.length ca, .int .i64 cnt, .slice (some ⟨g, ko, none⟩) bs.length cb, .slice O os.length co] : Array Value)[j]?))
    (first | exact ⟨HX.out.cell, HK.out.cell⟩ | exact ⟨(HX.out.below (below_drew_trans h1)).cell, (HK.out.below (below_drew_trans h1)).cell⟩)
    (first | (go_at_call 63; (with_reducible refine (waits_any _ _ _ _ _ _ zs bs os _ th _ ht hc (HT.out.below HB0.out).drewD (HC.out.below HB0.out).drewD).mono ?_); rintro e w1 ⟨rfl, h1⟩; rw [HQ.out]))
  have HB1 := Lib.hid (below_trans HB0.out (below_drew_trans h1))
  have HX1 := Lib.hid (HX.out.below (below_drew_trans h1)); have HR1 := Lib.hid (HR.out.below (below_drew_trans h1)); have HK1 := Lib.hid (HK.out.below (below_drew_trans h1))
  have hz1 : w.heap.size + 1 < w1.heap.size := HR1.out.lt
  clear h1 HX HR HK
  have hx := HX1.out.cell
  have hcall := meet_done km 2 _ g ko bs.length cb th 1 arg th2 op2 arg2 _ rfl HK1.out.mdrew hn.out (fun i v hv => cell_keep HB1.out.drew (hr.out i v hv)) hfit.out
  rw [if_pos rfl] at hcall
  have HCL := Lib.hid hcall; clear hcall
  have hrr := HR1.out.cell; have hf := HR1.out.mfroz
  go_upto_region 6 with fail
  go_region_with (first | (go_at_call 112; (with_reducible refine (HCL.out).mono ?_); rintro e w2 ⟨rfl, hK2, hg⟩; have HR2 := HR1.out.mdrew.mgrown hg (by simp <;> omega); have hr2 := HR2.cell; have hf2 := HR2.mfroz))
  all_goals (try go_wp2)
  all_goals
    have HG2 := grown_trans (grown_below (some km) HB1.out.drew) hg
    exact bodyPost_ret (results_out Try.results56 _ _ (w.heap.size + 1) _ rfl ((((HR2.mset 0 _).mset 1 _).mset 2 _).mset 3 _) rfl) rfl ⟨rfl, box4 hK2 (by omega) _ _ _ _, gr4 HG2 (Nat.le_succ _) _ _ _ _⟩

set_option maxHeartbeats 8000000 in
set_option maxRecDepth 100000 in
theorem do_takeW (km : Nat) (A B O : Option Addr) (ca cb co : Nat) (zs : List Int) (bs os : List Wtr) (cnt th op arg : Int) (w : World) (hK : BoxC 31 w km #[.slice A zs.length ca, .int .i64 cnt, .slice B bs.length cb, .slice O os.length co]) (ht : bs.length ≤ 1048576) (hc : os.length ≤ 1048576) (hT : RdR Wtr.cs w B bs) (hC : RdR Wtr.cs w O os) (hq : waitsB bs os th = false) (ho : op = 2) (R : List Wtr) (hR : R = bs ++ [⟨th, op, arg⟩]) (hfit : fitsB bs op = false) :
    Calls Try.prog 56 #[.pointer (some ⟨km, 0, none⟩), .agg #[.int .i64 th, .int .i64 op, .int .i64 arg]] w fun e w' => ∃ G d, e = .returned (.agg #[.bool false, .int .i64 0, .int .i64 0, .int .i64 (-1)]) ∧ BoxC 31 w' km #[.slice A zs.length ca, .int .i64 cnt, .slice G R.length d, .slice O os.length co] ∧ SegC (w.heap.size + 1 + 1) w' G (flatV Wtr.cs R) ∧ (∀ q, (Value.slice G R.length d).ownBlock = some q → w.heap.size < q ∧ q < w'.heap.size) ∧ R.length ≤ d ∧ d ≤ maxLen ∧ w.grownBy w' (some km) := by
  subst ho
  replace hR := Lib.hid hR; replace hfit := Lib.hid hfit
  have hlt : km < w.heap.size := hK.lt
  have HT := Lib.hid hT; have HC := Lib.hid hC; have HQ := Lib.hid hq; clear hT hC hq
  have HB0 := Lib.hid (below_alloc2 w (.cells #[.int .i64 th, .int .i64 2, .int .i64 arg] 35) (.cells #[.bool false, .int .i64 0, .int .i64 0, .int .i64 0] 86))
  have HX := Lib.hid ((BoxC.new 35 w #[.int .i64 th, .int .i64 2, .int .i64 arg]).below (below_alloc _ (.cells #[.bool false, .int .i64 0, .int .i64 0, .int .i64 0] 86)))
  have HR := Lib.hid (by have h := BoxC.new 86 (w.alloc (.cells #[.int .i64 th, .int .i64 2, .int .i64 arg] 35)) #[.bool false, .int .i64 0, .int .i64 0, .int .i64 0]; rw [size_alloc] at h; exact h)
  have HK := Lib.hid (hK.below HB0.out)
  clear hK
  go_enter Try.func56, Try.ntmps56
  go_wp2_with fail
  go_region_held3 (fun w' => (∀ j : Nat, w'.cell? ⟨w.heap.size, j, none⟩ = (#[.int .i64 th, .int .i64 2, .int .i64 arg] : Array Value)[j]?) ∧ (∀ j : Nat, w'.cell? ⟨km, j, none⟩ = (#[.slice A zs.length ca, .int .i64 cnt, .slice B bs.length cb, .slice O os.length co] : Array Value)[j]?))
    (first | exact ⟨HX.out.cell, HK.out.cell⟩ | exact ⟨(HX.out.below (below_drew_trans h1)).cell, (HK.out.below (below_drew_trans h1)).cell⟩)
    (first | (go_at_call 63; (with_reducible refine (waits_any _ _ _ _ _ _ zs bs os _ th _ ht hc (HT.out.below HB0.out).drewD (HC.out.below HB0.out).drewD).mono ?_); rintro e w1 ⟨rfl, h1⟩; rw [HQ.out]))
  have HB1 := Lib.hid (below_trans HB0.out (below_drew_trans h1))
  have HX1 := Lib.hid (HX.out.below (below_drew_trans h1)); have HR1 := Lib.hid (HR.out.below (below_drew_trans h1)); have HK1 := Lib.hid (HK.out.below (below_drew_trans h1))
  have hz1 : w.heap.size + 1 < w1.heap.size := HR1.out.lt
  clear h1 HX HR HK
  have hx := HX1.out.cell
  have hrr := HR1.out.cell; have hf := HR1.out.mfroz
  go_upto_region 6 with fail
  go_region_with (first | (go_at_call 112; (with_reducible refine (meet_wait km 2 _ _ _ bs _ _ _ _ rfl HK1.out.mdrew R hR.out ht (HT.out.below HB1.out).drewD hfit.out).mono ?_); rintro e w2 ⟨G, d, rfl, hK2, hS, hQ, hl, hcm, hg⟩; have HR2 := HR1.out.mdrew.mgrown hg (by simp <;> omega); have hr2 := HR2.cell; have hf2 := HR2.mfroz))
  all_goals (try go_wp2)
  all_goals
    have HG2 := grown_trans (grown_below (some km) HB1.out.drew) hg
    exact bodyPost_ret (results_out Try.results56 _ _ (w.heap.size + 1) _ rfl ((((HR2.mset 0 _).mset 1 _).mset 2 _).mset 3 _) rfl) rfl ⟨G, d, rfl, box4 hK2 (by omega) _ _ _ _, seg4 (n := R.length) (c := d) (SegC.base hS (b1 := w.heap.size + 1 + 1) (by simp <;> omega)) (by omega) _ _ _ _, fun q hq => by have := hQ q hq; rw [size4]; simp at this; omega, hl, hcm, gr4 HG2 (Nat.le_succ _) _ _ _ _⟩

set_option maxHeartbeats 8000000 in
set_option maxRecDepth 100000 in
theorem do_takeD (km : Nat) (A B O : Option Addr) (ca cb co : Nat) (zs : List Int) (bs os : List Wtr) (cnt th op arg : Int) (w : World) (hK : BoxC 31 w km #[.slice A zs.length ca, .int .i64 cnt, .slice B bs.length cb, .slice O os.length co]) (ht : bs.length ≤ 1048576) (hc : os.length ≤ 1048576) (hT : RdR Wtr.cs w B bs) (hC : RdR Wtr.cs w O os) (hq : waitsB bs os th = false) (ho : op = 2) (g ko : Nat) (th2 op2 arg2 : Int) (hA : B = some ⟨g, ko, none⟩) (hn : 0 < bs.length) (hr : w.rangeAt g ko [.int .i64 th2, .int .i64 op2, .int .i64 arg2]) (hfit : (op2 == partB op) = true) :
    Calls Try.prog 56 #[.pointer (some ⟨km, 0, none⟩), .agg #[.int .i64 th, .int .i64 op, .int .i64 arg]] w fun e w' => e = .returned (.agg #[.bool true, .int .i64 0, .int .i64 arg2, .int .i64 th2]) ∧ BoxC 31 w' km #[.slice A zs.length ca, .int .i64 cnt, .slice (tailW g ko cb) (bs.length - 1) (cb - 1), .slice O os.length co] ∧ w.grownBy w' (some km) := by
  subst ho
  subst hA
  replace hn := Lib.hid hn; replace hr := Lib.hid hr; replace hfit := Lib.hid hfit
  have hlt : km < w.heap.size := hK.lt
  have HT := Lib.hid hT; have HC := Lib.hid hC; have HQ := Lib.hid hq; clear hT hC hq
  have HB0 := Lib.hid (below_alloc2 w (.cells #[.int .i64 th, .int .i64 2, .int .i64 arg] 35) (.cells #[.bool false, .int .i64 0, .int .i64 0, .int .i64 0] 86))
  have HX := Lib.hid ((BoxC.new 35 w #[.int .i64 th, .int .i64 2, .int .i64 arg]).below (below_alloc _ (.cells #[.bool false, .int .i64 0, .int .i64 0, .int .i64 0] 86)))
  have HR := Lib.hid (by have h := BoxC.new 86 (w.alloc (.cells #[.int .i64 th, .int .i64 2, .int .i64 arg] 35)) #[.bool false, .int .i64 0, .int .i64 0, .int .i64 0]; rw [size_alloc] at h; exact h)
  have HK := Lib.hid (hK.below HB0.out)
  clear hK
  go_enter Try.func56, Try.ntmps56
  go_wp2_with fail
  go_region_held3 (fun w' => (∀ j : Nat, w'.cell? ⟨w.heap.size, j, none⟩ = (#[.int .i64 th, .int .i64 2, .int .i64 arg] : Array Value)[j]?) ∧ (∀ j : Nat, w'.cell? ⟨km, j, none⟩ = (#[.slice A zs.length ca, .int .i64 cnt, .slice (some ⟨g, ko, none⟩) bs.length cb, .slice O os.length co] : Array Value)[j]?))
    (first | exact ⟨HX.out.cell, HK.out.cell⟩ | exact ⟨(HX.out.below (below_drew_trans h1)).cell, (HK.out.below (below_drew_trans h1)).cell⟩)
    (first | (go_at_call 63; (with_reducible refine (waits_any _ _ _ _ _ _ zs bs os _ th _ ht hc (HT.out.below HB0.out).drewD (HC.out.below HB0.out).drewD).mono ?_); rintro e w1 ⟨rfl, h1⟩; rw [HQ.out]))
  have HB1 := Lib.hid (below_trans HB0.out (below_drew_trans h1))
  have HX1 := Lib.hid (HX.out.below (below_drew_trans h1)); have HR1 := Lib.hid (HR.out.below (below_drew_trans h1)); have HK1 := Lib.hid (HK.out.below (below_drew_trans h1))
  have hz1 : w.heap.size + 1 < w1.heap.size := HR1.out.lt
  clear h1 HX HR HK
  have hx := HX1.out.cell
  have hcall := meet_done km 2 _ g ko bs.length cb th 2 arg th2 op2 arg2 _ rfl HK1.out.mdrew hn.out (fun i v hv => cell_keep HB1.out.drew (hr.out i v hv)) hfit.out
  rw [if_neg (by decide)] at hcall
  have HCL := Lib.hid hcall; clear hcall
  have hrr := HR1.out.cell; have hf := HR1.out.mfroz
  go_upto_region 6 with fail
  go_region_with (first | (go_at_call 112; (with_reducible refine (HCL.out).mono ?_); rintro e w2 ⟨rfl, hK2, hg⟩; have HR2 := HR1.out.mdrew.mgrown hg (by simp <;> omega); have hr2 := HR2.cell; have hf2 := HR2.mfroz))
  all_goals (try go_wp2)
  all_goals
    have HG2 := grown_trans (grown_below (some km) HB1.out.drew) hg
    exact bodyPost_ret (results_out Try.results56 _ _ (w.heap.size + 1) _ rfl ((((HR2.mset 0 _).mset 1 _).mset 2 _).mset 3 _) rfl) rfl ⟨rfl, box4 hK2 (by omega) _ _ _ _, gr4 HG2 (Nat.le_succ _) _ _ _ _⟩

set_option maxHeartbeats 8000000 in
set_option maxRecDepth 100000 in
theorem do_swapW (km : Nat) (A B O : Option Addr) (ca cb co : Nat) (zs : List Int) (bs os : List Wtr) (cnt th op arg : Int) (w : World) (hK : BoxC 31 w km #[.slice A zs.length ca, .int .i64 cnt, .slice B bs.length cb, .slice O os.length co]) (ht : bs.length ≤ 1048576) (hc : os.length ≤ 1048576) (hT : RdR Wtr.cs w B bs) (hC : RdR Wtr.cs w O os) (hq : waitsB bs os th = false) (ho : op = 3) (R : List Wtr) (hR : R = os ++ [⟨th, op, arg⟩]) (hfit : fitsB os op = false) :
    Calls Try.prog 56 #[.pointer (some ⟨km, 0, none⟩), .agg #[.int .i64 th, .int .i64 op, .int .i64 arg]] w fun e w' => ∃ G d, e = .returned (.agg #[.bool false, .int .i64 0, .int .i64 0, .int .i64 (-1)]) ∧ BoxC 31 w' km #[.slice A zs.length ca, .int .i64 cnt, .slice B bs.length cb, .slice G R.length d] ∧ SegC (w.heap.size + 1 + 1) w' G (flatV Wtr.cs R) ∧ (∀ q, (Value.slice G R.length d).ownBlock = some q → w.heap.size < q ∧ q < w'.heap.size) ∧ R.length ≤ d ∧ d ≤ maxLen ∧ w.grownBy w' (some km) := by
  subst ho
  replace hR := Lib.hid hR; replace hfit := Lib.hid hfit
  have hlt : km < w.heap.size := hK.lt
  have HT := Lib.hid hT; have HC := Lib.hid hC; have HQ := Lib.hid hq; clear hT hC hq
  have HB0 := Lib.hid (below_alloc2 w (.cells #[.int .i64 th, .int .i64 3, .int .i64 arg] 35) (.cells #[.bool false, .int .i64 0, .int .i64 0, .int .i64 0] 86))
  have HX := Lib.hid ((BoxC.new 35 w #[.int .i64 th, .int .i64 3, .int .i64 arg]).below (below_alloc _ (.cells #[.bool false, .int .i64 0, .int .i64 0, .int .i64 0] 86)))
  have HR := Lib.hid (by have h := BoxC.new 86 (w.alloc (.cells #[.int .i64 th, .int .i64 3, .int .i64 arg] 35)) #[.bool false, .int .i64 0, .int .i64 0, .int .i64 0]; rw [size_alloc] at h; exact h)
  have HK := Lib.hid (hK.below HB0.out)
  clear hK
  go_enter Try.func56, Try.ntmps56
  go_wp2_with fail
  go_region_held3 (fun w' => (∀ j : Nat, w'.cell? ⟨w.heap.size, j, none⟩ = (#[.int .i64 th, .int .i64 3, .int .i64 arg] : Array Value)[j]?) ∧ (∀ j : Nat, w'.cell? ⟨km, j, none⟩ = (#[.slice A zs.length ca, .int .i64 cnt, .slice B bs.length cb, .slice O os.length co] : Array Value)[j]?))
    (first | exact ⟨HX.out.cell, HK.out.cell⟩ | exact ⟨(HX.out.below (below_drew_trans h1)).cell, (HK.out.below (below_drew_trans h1)).cell⟩)
    (first | (go_at_call 63; (with_reducible refine (waits_any _ _ _ _ _ _ zs bs os _ th _ ht hc (HT.out.below HB0.out).drewD (HC.out.below HB0.out).drewD).mono ?_); rintro e w1 ⟨rfl, h1⟩; rw [HQ.out]))
  have HB1 := Lib.hid (below_trans HB0.out (below_drew_trans h1))
  have HX1 := Lib.hid (HX.out.below (below_drew_trans h1)); have HR1 := Lib.hid (HR.out.below (below_drew_trans h1)); have HK1 := Lib.hid (HK.out.below (below_drew_trans h1))
  have hz1 : w.heap.size + 1 < w1.heap.size := HR1.out.lt
  clear h1 HX HR HK
  have hx := HX1.out.cell
  have hrr := HR1.out.cell; have hf := HR1.out.mfroz
  go_upto_region 8 with fail
  go_region_with (first | (go_at_call 112; (with_reducible refine (meet_wait km 3 _ _ _ os _ _ _ _ rfl HK1.out.mdrew R hR.out hc (HC.out.below HB1.out).drewD hfit.out).mono ?_); rintro e w2 ⟨G, d, rfl, hK2, hS, hQ, hl, hcm, hg⟩; have HR2 := HR1.out.mdrew.mgrown hg (by simp <;> omega); have hr2 := HR2.cell; have hf2 := HR2.mfroz))
  all_goals (try go_wp2)
  all_goals
    have HG2 := grown_trans (grown_below (some km) HB1.out.drew) hg
    exact bodyPost_ret (results_out Try.results56 _ _ (w.heap.size + 1) _ rfl ((((HR2.mset 0 _).mset 1 _).mset 2 _).mset 3 _) rfl) rfl ⟨G, d, rfl, box4 hK2 (by omega) _ _ _ _, seg4 (n := R.length) (c := d) (SegC.base hS (b1 := w.heap.size + 1 + 1) (by simp <;> omega)) (by omega) _ _ _ _, fun q hq => by have := hQ q hq; rw [size4]; simp at this; omega, hl, hcm, gr4 HG2 (Nat.le_succ _) _ _ _ _⟩

set_option maxHeartbeats 8000000 in
set_option maxRecDepth 100000 in
theorem do_swapD (km : Nat) (A B O : Option Addr) (ca cb co : Nat) (zs : List Int) (bs os : List Wtr) (cnt th op arg : Int) (w : World) (hK : BoxC 31 w km #[.slice A zs.length ca, .int .i64 cnt, .slice B bs.length cb, .slice O os.length co]) (ht : bs.length ≤ 1048576) (hc : os.length ≤ 1048576) (hT : RdR Wtr.cs w B bs) (hC : RdR Wtr.cs w O os) (hq : waitsB bs os th = false) (ho : op = 3) (g ko : Nat) (th2 op2 arg2 : Int) (hA : O = some ⟨g, ko, none⟩) (hn : 0 < os.length) (hr : w.rangeAt g ko [.int .i64 th2, .int .i64 op2, .int .i64 arg2]) (hfit : (op2 == partB op) = true) :
    Calls Try.prog 56 #[.pointer (some ⟨km, 0, none⟩), .agg #[.int .i64 th, .int .i64 op, .int .i64 arg]] w fun e w' => e = .returned (.agg #[.bool true, .int .i64 0, .int .i64 arg2, .int .i64 th2]) ∧ BoxC 31 w' km #[.slice A zs.length ca, .int .i64 cnt, .slice B bs.length cb, .slice (tailW g ko co) (os.length - 1) (co - 1)] ∧ w.grownBy w' (some km) := by
  subst ho
  subst hA
  replace hn := Lib.hid hn; replace hr := Lib.hid hr; replace hfit := Lib.hid hfit
  have hlt : km < w.heap.size := hK.lt
  have HT := Lib.hid hT; have HC := Lib.hid hC; have HQ := Lib.hid hq; clear hT hC hq
  have HB0 := Lib.hid (below_alloc2 w (.cells #[.int .i64 th, .int .i64 3, .int .i64 arg] 35) (.cells #[.bool false, .int .i64 0, .int .i64 0, .int .i64 0] 86))
  have HX := Lib.hid ((BoxC.new 35 w #[.int .i64 th, .int .i64 3, .int .i64 arg]).below (below_alloc _ (.cells #[.bool false, .int .i64 0, .int .i64 0, .int .i64 0] 86)))
  have HR := Lib.hid (by have h := BoxC.new 86 (w.alloc (.cells #[.int .i64 th, .int .i64 3, .int .i64 arg] 35)) #[.bool false, .int .i64 0, .int .i64 0, .int .i64 0]; rw [size_alloc] at h; exact h)
  have HK := Lib.hid (hK.below HB0.out)
  clear hK
  go_enter Try.func56, Try.ntmps56
  go_wp2_with fail
  go_region_held3 (fun w' => (∀ j : Nat, w'.cell? ⟨w.heap.size, j, none⟩ = (#[.int .i64 th, .int .i64 3, .int .i64 arg] : Array Value)[j]?) ∧ (∀ j : Nat, w'.cell? ⟨km, j, none⟩ = (#[.slice A zs.length ca, .int .i64 cnt, .slice B bs.length cb, .slice (some ⟨g, ko, none⟩) os.length co] : Array Value)[j]?))
    (first | exact ⟨HX.out.cell, HK.out.cell⟩ | exact ⟨(HX.out.below (below_drew_trans h1)).cell, (HK.out.below (below_drew_trans h1)).cell⟩)
    (first | (go_at_call 63; (with_reducible refine (waits_any _ _ _ _ _ _ zs bs os _ th _ ht hc (HT.out.below HB0.out).drewD (HC.out.below HB0.out).drewD).mono ?_); rintro e w1 ⟨rfl, h1⟩; rw [HQ.out]))
  have HB1 := Lib.hid (below_trans HB0.out (below_drew_trans h1))
  have HX1 := Lib.hid (HX.out.below (below_drew_trans h1)); have HR1 := Lib.hid (HR.out.below (below_drew_trans h1)); have HK1 := Lib.hid (HK.out.below (below_drew_trans h1))
  have hz1 : w.heap.size + 1 < w1.heap.size := HR1.out.lt
  clear h1 HX HR HK
  have hx := HX1.out.cell
  have hcall := meet_done km 3 _ g ko os.length co th 3 arg th2 op2 arg2 _ rfl HK1.out.mdrew hn.out (fun i v hv => cell_keep HB1.out.drew (hr.out i v hv)) hfit.out
  rw [if_neg (by decide)] at hcall
  have HCL := Lib.hid hcall; clear hcall
  have hrr := HR1.out.cell; have hf := HR1.out.mfroz
  go_upto_region 8 with fail
  go_region_with (first | (go_at_call 112; (with_reducible refine (HCL.out).mono ?_); rintro e w2 ⟨rfl, hK2, hg⟩; have HR2 := HR1.out.mdrew.mgrown hg (by simp <;> omega); have hr2 := HR2.cell; have hf2 := HR2.mfroz))
  all_goals (try go_wp2)
  all_goals
    have HG2 := grown_trans (grown_below (some km) HB1.out.drew) hg
    exact bodyPost_ret (results_out Try.results56 _ _ (w.heap.size + 1) _ rfl ((((HR2.mset 0 _).mset 1 _).mset 2 _).mset 3 _) rfl) rfl ⟨rfl, box4 hK2 (by omega) _ _ _ _, gr4 HG2 (Nat.le_succ _) _ _ _ _⟩
end Go.Proofs.Ythianfhfamkcmaa
