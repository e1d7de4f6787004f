/-
  Drawn waiters.
-/
import Derived.Test.YtepjaahclcpaaaaDoorDrawB
namespace Go.Proofs.YtepjaahclcpaaaaDoor
open Go.RowKit

/-- A waiter in a block of its own. -/
def BoxW (w : World) (k : Nat) (cs : Array Value) : Prop := w.heap[k]? = some (.cells cs 28 (0, 0))
theorem BoxW.lt {w : World} {k : Nat} {cs : Array Value} (h : BoxW w k cs) : k < w.heap.size := (Array.getElem?_eq_some_iff.1 h).1
theorem BoxW.below {w w' : World} {k : Nat} {cs : Array Value} (h : BoxW w k cs) (hb : Below w.heap.size w w') : BoxW w' k cs := (hb.block k h.lt).trans h
theorem BoxW.new (w : World) (cs : Array Value) : BoxW (w.alloc (.cells cs 28)) w.heap.size cs := heap_alloc_new w _
theorem BoxW.grown {w w' : World} {k : Nat} {cs : Array Value} {row : Option Nat} (h : BoxW w k cs) (hg : w.grownBy w' row) (hne : some k ≠ row) : BoxW w' k cs := (hg.block k h.lt hne).trans h
theorem BoxW.row {w : World} {k : Nat} {cs : Array Value} (h : BoxW w k cs) (bs : Array Value) : BoxW (w.setRow k bs) k bs := setRow_heap w k cs bs _ _ h
theorem BoxW.cell {w : World} {k : Nat} {cs : Array Value} (h : BoxW w k cs) (j : Nat) : w.cell? ⟨k, j, none⟩ = cs[j]? := cell_of_row w k j cs _ _ h
theorem info_w : (Tryd.prog.info? 28).map (·.size) = some 3 := by kernel_rfl
theorem one3 (a b c : Int) : (#[.int .i64 a, .int .i64 b, .int .i64 c] : Array Value).all (·.oneCell') = true := by simp [Value.oneCell']
theorem results_w {fn : Func} {p : Tmp} (h : fn.results = #[.cell p 28]) (tmps : Array Value) (w : World) (g : Nat) (cs : Array Value)
    (hp : tmps.getD p undef = .pointer (some ⟨g, 0, none⟩)) (hg : BoxW w g cs) (hs : cs.size = 3) :
    (results fn tmps).run Tryd.prog w = .ok (.agg cs) w :=
  results_cell_row h tmps w g 28 cs (0, 0) _ hp hg Tryd.underlying28 rfl (by rw [hs]; exact info_w)

def WaiterPost (w : World) (g B : Nat) (A : Option Addr) (n c k : Nat) (e : Ending) (w' : World) : Prop :=
  ∃ t o a : Int, opB o = true ∧ argB o a = true ∧ e = .returned (.agg #[.int .i64 t, .int .i64 o, .int .i64 a]) ∧ SrcF w' g B A n c k ∧ w.grownBy w' (some g)

set_option maxHeartbeats 1000000 in
theorem waiterF (g B : Nat) (A : Option Addr) (n c k : Nat) (w : World) (hn : n ≤ maxLen) (hS : SrcF w g B A n c (k + 5)) :
    Calls Tryd.prog 14 #[.pointer (some ⟨g, 0, none⟩)] w (WaiterPost w g B A n c k) := by
  have HS := Lib.hid (hS.below (below_alloc w (.cells #[.int .i64 0, .int .i64 0, .int .i64 0] 28)))
  have hgw := hS.lt
  clear hS
  have HN := Lib.hid hn; clear hn
  go_enter Tryd.func14, Tryd.ntmps14
  go_wp2_with fail
  refine (callF g B A n c (k + 1) _ HN.out HS.out).mono ?_
  rintro e w1 ⟨o, a, u, ho, ha, hu, rfl, hS1, hg1⟩
  have HO := Lib.hid ho; have HA := Lib.hid ha; clear ho ha hu
  have HR1 := Lib.hid ((BoxW.new w #[.int .i64 0, .int .i64 0, .int .i64 0]).grown hg1 (by simp; omega))
  have HG1 := Lib.hid (grown_trans (grown_below (some g) (below_alloc w _)) hg1)
  have HS1 := Lib.hid hS1
  clear hS1 hg1 HS
  go_wp2_with fail
  refine (nextF g B A n c k 4 _ HN.out (by decide) (by decide) HS1.out).mono ?_
  rintro e w2 ⟨t, ht0, ht1, rfl, hS2, hg2⟩
  have HR2 := Lib.hid (HR1.out.grown hg2 (by simp; omega))
  have HG2 := Lib.hid (grown_trans HG1.out hg2)
  have HS2 := Lib.hid hS2
  clear hS2 hg2 HS1 HG1 HR1
  go_wp2_with (refine wpList_store_row rfl 28 _ _ rfl w.heap.size _ rfl rfl 28 _ HR2.out info_w rfl (one3 _ _ _) ?_)
  exact bodyPost_ret (results_w Tryd.results14 _ _ w.heap.size _ rfl (HR2.out.row _) rfl) rfl ⟨_, _, _, HO.out, HA.out, rfl, HS2.out.row hgw _, grown_row HG2.out (Nat.le_refl _)⟩

/-- What a drawn waiter is, nothing old has turned. -/
def DrawnWaiter (w : World) (e : Ending) (w' : World) : Prop :=
  ∃ t o a : Int, opB o = true ∧ argB o a = true ∧ e = .returned (.agg #[.int .i64 t, .int .i64 o, .int .i64 a]) ∧ Below w.heap.size w w'

set_option maxHeartbeats 1000000 in
theorem WaiterDrawn_any (A : Option Addr) (n c : Nat) (w : World) (hn : n ≤ maxLen) (hA : RdB w A n) :
    Calls Tryd.prog 5 #[.slice A n c] w (DrawnWaiter w) := by
  have HA := Lib.hid (hA.below (below_alloc w (.cells #[.int .i64 0, .int .i64 0, .int .i64 0] 28))); clear hA
  have HN := Lib.hid hn; clear hn
  go_enter Tryd.func5, Tryd.ntmps5
  go_wp2_with fail
  refine (l00Source_any A n c _ HN.out HA.out).mono ?_
  rintro e w1 ⟨rfl, hS1, hb⟩
  simp only [size_alloc] at hS1
  have HS1 := Lib.hid (SrcF.of (k := 5) hS1 (by omega))
  have HR1 := Lib.hid ((BoxW.new w #[.int .i64 0, .int .i64 0, .int .i64 0]).below hb)
  have HB1 := Lib.hid (below_trans (below_alloc w _) hb)
  have hz1 : w.heap.size + 1 ≤ w1.heap.size := by have := hb.size; simp only [size_alloc] at this; exact this
  clear hS1 hb HA
  go_wp2_with fail
  refine (waiterF (w.heap.size + 1) (w.heap.size + 1) A n c 0 _ HN.out HS1.out).mono ?_
  rintro e w2 ⟨t, o, a, ho, ha, rfl, hS2, hg2⟩
  have HR2 := Lib.hid (HR1.out.grown hg2 (by simp))
  have HB2 := Lib.hid (HB1.out.grown hg2 (by omega) (fun k hk => by simp only [Option.some.injEq] at hk; omega))
  have HO := Lib.hid ho; have HAB := Lib.hid ha
  clear hS2 hg2 HR1 HB1 HS1 ho ha
  go_wp2_with (refine wpList_store_row rfl 28 _ _ rfl w.heap.size _ rfl rfl 28 _ HR2.out info_w rfl (one3 _ _ _) ?_)
  exact bodyPost_ret (results_w Tryd.results5 _ _ w.heap.size _ rfl (HR2.out.row _) rfl) rfl ⟨_, _, _, HO.out, HAB.out, rfl, below_row HB2.out (Nat.le_refl _) _⟩
end Go.Proofs.YtepjaahclcpaaaaDoor
