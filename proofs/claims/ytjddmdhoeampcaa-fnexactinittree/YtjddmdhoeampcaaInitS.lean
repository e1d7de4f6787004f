/-
  InitQueue: the model's.
-/
import Derived.Test.YtjddmdhoeampcaaInit
import Derived.Deep.DeepCutAuto
namespace Go.Proofs.Ytjddmdhoeampcaa
open Go.RowKit

theorem allocOne (A B : Option Addr) (c d : Nat) (w : World) (hA : Rd w A [0]) (hB : Rd w B [6, 6, -1, 0, 0]) :
    Calls Try.prog 41 #[.agg #[.slice A 1 c], .slice B 5 d] w fun e w' => ∃ C k, e = .returned (.tuple #[.agg #[.slice C 6 k], .int .i64 1]) ∧
      NewA w.heap.size w' C k [0, 6, 6, -1, 0, 0] ∧ Below w.heap.size w w' :=
  l01Alloc_any A B c d [0] [6, 6, -1, 0, 0] w (by decide) (by decide) hA hB
theorem ref3_any (w : World) : Calls Try.prog 125 #[.int .i64 3, .bool false] w fun e w' => e = .returned (.int .i64 6) ∧ w = w' :=
  l04Ref_any 3 false w (by decide)
theorem rd_lit2 (ls : List Int) (w : World) (o : Obj) (k : Nat) (hk : w.heap.size = k) : Rd ((w.alloc (.cells (ints ls).toArray 3)).alloc o) (some ⟨k, 0, none⟩) ls :=
  (rd_lit ls w k hk).below (below_alloc _ _)

theorem alloc2_cell (w : World) (o : Obj) (v : Value) (t : TypeId) : ((w.alloc o).alloc (.cells #[v] t)).cell? ⟨w.heap.size + 1, 0, none⟩ = some v := by simp
theorem alloc2_froz (w : World) (o : Obj) (v : Value) (t : TypeId) : ((w.alloc o).alloc (.cells #[v] t)).frozen? ⟨w.heap.size + 1, 0, none⟩ = false := by simp
theorem alloc1_cell (w : World) (o : Obj) (v : Value) (t : TypeId) : ((w.alloc (.cells #[v] t)).alloc o).cell? ⟨w.heap.size, 0, none⟩ = some v := by simp
theorem alloc1_froz (w : World) (o : Obj) (v : Value) (t : TypeId) : ((w.alloc (.cells #[v] t)).alloc o).frozen? ⟨w.heap.size, 0, none⟩ = false := by simp
theorem alloc2_lt (w : World) (o p : Obj) : w.heap.size + 1 < ((w.alloc o).alloc p).heap.size := by simp

/-- A box that holds an arena of our own, and a second one that is as it was. -/
def BoxedA (w : World) (L : List Int) (s : Value) (wx : World) : Prop :=
  ∃ g C k, s = .pointer (some ⟨g, 0, none⟩) ∧ w.heap.size + 1 < g ∧ wx.cell? ⟨g, 0, none⟩ = some (.slice C L.length k) ∧ NewA (w.heap.size + 1 + 1) wx C k L ∧ wx.cell? ⟨w.heap.size + 1, 0, none⟩ = some (.slice none 0 0) ∧ wx.frozen? ⟨w.heap.size + 1, 0, none⟩ = false ∧ Below w.heap.size w wx
theorem BoxedA.late {w u w1 : World} {L : List Int} {C : Option Addr} {k : Nat} {lo : Nat} (hz : u.heap.size = w.heap.size + 1 + 1) (hb : Below w.heap.size w u) (hr : u.cell? ⟨w.heap.size + 1, 0, none⟩ = some (.slice none 0 0)) (hf : u.frozen? ⟨w.heap.size + 1, 0, none⟩ = false) (hu : Below u.heap.size u w1) (hn : NewA lo w1 C k L) (hlo : u.heap.size ≤ lo) :
    BoxedA w L (.pointer (some ⟨w1.heap.size, 0, none⟩)) (w1.alloc (.cells #[.slice C L.length k] 26)) := by
  have hu2 := below_trans hu (below_alloc w1 (.cells #[.slice C L.length k] 26))
  refine ⟨_, C, k, rfl, ?_, by simp, (hn.below (below_alloc _ _)).base (by omega), cell_keep hu2 hr, frozen_keep hu2 (by omega) hf, below_trans hb hu2⟩
  have := hu.size; omega
theorem BoxedA.early {w u w1 : World} {L : List Int} {C : Option Addr} {k : Nat} {lo g : Nat} {v : Value} (hz : u.heap.size = w.heap.size + 1 + 1) (hb : Below w.heap.size w u) (hr : u.cell? ⟨w.heap.size + 1, 0, none⟩ = some (.slice none 0 0)) (hf : u.frozen? ⟨w.heap.size + 1, 0, none⟩ = false) (hu : Below u.heap.size u w1) (hn : NewA lo w1 C k L) (hlo : g < lo) (hlo2 : u.heap.size ≤ lo) (hg : u.heap.size ≤ g) (hx : w1.cell? ⟨g, 0, none⟩ = some v) :
    BoxedA w L (.pointer (some ⟨g, 0, none⟩)) (w1.setCell ⟨g, 0, none⟩ (.slice C L.length k)) := by
  refine ⟨g, C, k, rfl, by omega, World.cell?_setCell_same _ _ _ hx, (hn.setCell hlo _).base (by omega), ?_, ?_, ?_⟩
  · rw [World.cell?_setCell_other _ _ _ _ (by simp <;> omega)]; exact cell_keep hu hr
  · rw [World.frozen?_setCell]; exact frozen_keep hu (by omega) hf
  · exact (below_trans hb hu).setCell (by simp; omega) _

set_option maxHeartbeats 1000000 in
set_option maxRecDepth 100000 in
theorem l04Init_any (A : Option Addr) (c : Nat) (w : World) (hA : Rd w A [0]) :
    Calls Try.prog 123 #[.agg #[.slice A 1 c]] w fun e w' => ∃ B d, e = .returned (.agg #[.slice B 6 d]) ∧ NewA w.heap.size w' B d [0, 6, 6, -1, 0, 0] ∧ Below w.heap.size w w' := by
  have HA := Lib.hid (hA.below (below_alloc2 w (.cells #[.slice A 1 c] 26) (.cells #[.slice none 0 0] 26))); clear hA
  go_enter Try.func123, Try.ntmps123
  go_wp2
  have hx0 : ((w.alloc (.cells #[.slice A 1 c] 26)).alloc (.cells #[.slice none 0 0] 26)).cell? ⟨w.heap.size, 0, none⟩ = some (.slice A 1 c) := by simp
  have hr0 : ((w.alloc (.cells #[.slice A 1 c] 26)).alloc (.cells #[.slice none 0 0] 26)).cell? ⟨w.heap.size + 1, 0, none⟩ = some (.slice none 0 0) := by simp
  have hf0 : ((w.alloc (.cells #[.slice A 1 c] 26)).alloc (.cells #[.slice none 0 0] 26)).frozen? ⟨w.heap.size + 1, 0, none⟩ = false := by simp
  generalize hu : ((w.alloc (.cells #[.slice A 1 c] 26)).alloc (.cells #[.slice none 0 0] 26)) = u at *
  have hbu : Below w.heap.size w u := by rw [← hu]; exact below_alloc2 _ _ _
  have hzu : u.heap.size = w.heap.size + 1 + 1 := by rw [← hu]; simp
  have HBU := Lib.hid hbu; have HZU := Lib.hid hzu; clear hbu hzu hu
  go_cut [3] (fun s3 wx => BoxedA w [0, 6, 6, -1, 0, 0] s3 wx)
  case first =>
    have HA1 : Hid (Rd ((u.alloc (.cells #[.int .i64 6, .int .i64 6, .int .i64 (-1), .int .i64 0, .int .i64 0] 3)).drew) A [0]) := (HA.out.below (below_alloc u _)).drew
    have HA2 : Hid (Rd (((u.alloc (.cells #[.int .i64 6, .int .i64 6, .int .i64 (-1), .int .i64 0, .int .i64 0] 3)).alloc (.cells #[.slice none 0 0] 26)).drew) A [0]) := (HA.out.below (below_alloc2 u _ _)).drew
    have HL1 : Hid (Rd ((u.alloc (.cells #[.int .i64 6, .int .i64 6, .int .i64 (-1), .int .i64 0, .int .i64 0] 3)).drew) (some ⟨u.heap.size, 0, none⟩) [6, 6, -1, 0, 0]) := (rd_lit [6, 6, -1, 0, 0] u _ rfl).drew
    have HL2 : Hid (Rd (((u.alloc (.cells #[.int .i64 6, .int .i64 6, .int .i64 (-1), .int .i64 0, .int .i64 0] 3)).alloc (.cells #[.slice none 0 0] 26)).drew) (some ⟨u.heap.size, 0, none⟩) [6, 6, -1, 0, 0]) := (rd_lit2 [6, 6, -1, 0, 0] u _ _ rfl).drew
    have HX2 : Hid (∀ w1, Below (((u.alloc (.cells #[.int .i64 6, .int .i64 6, .int .i64 (-1), .int .i64 0, .int .i64 0] 3)).alloc (.cells #[.slice none 0 0] 26)).drew).heap.size (((u.alloc (.cells #[.int .i64 6, .int .i64 6, .int .i64 (-1), .int .i64 0, .int .i64 0] 3)).alloc (.cells #[.slice none 0 0] 26)).drew) w1 → w1.cell? ⟨u.heap.size + 1, 0, none⟩ = some (.slice none 0 0) ∧ w1.frozen? ⟨u.heap.size + 1, 0, none⟩ = false ∧ Below u.heap.size u w1) := fun w1 h => by
      have h' := below_drew_trans h
      exact ⟨cell_keep h' (alloc2_cell u _ _ _), frozen_keep h' (alloc2_lt u _ _) (alloc2_froz u _ _ _), below_trans (below_alloc2 _ _ _) h'⟩
    have HX1 : Hid (∀ w1, Below ((u.alloc (.cells #[.int .i64 6, .int .i64 6, .int .i64 (-1), .int .i64 0, .int .i64 0] 3)).drew).heap.size ((u.alloc (.cells #[.int .i64 6, .int .i64 6, .int .i64 (-1), .int .i64 0, .int .i64 0] 3)).drew) w1 → Below u.heap.size u w1) := fun w1 h => below_trans (below_alloc _ _) (below_drew_trans h)
    have HA3 : Hid (Rd (((u.alloc (.cells #[.slice none 0 0] 26)).alloc (.cells #[.int .i64 6, .int .i64 6, .int .i64 (-1), .int .i64 0, .int .i64 0] 3)).drew) A [0]) := (HA.out.below (below_alloc2 u _ _)).drew
    have HL3 : Hid (Rd (((u.alloc (.cells #[.slice none 0 0] 26)).alloc (.cells #[.int .i64 6, .int .i64 6, .int .i64 (-1), .int .i64 0, .int .i64 0] 3)).drew) (some ⟨u.heap.size + 1, 0, none⟩) [6, 6, -1, 0, 0]) := (rd_lit [6, 6, -1, 0, 0] (u.alloc _) _ (size_alloc _ _)).drew
    have HX3 : Hid (∀ w1, Below (((u.alloc (.cells #[.slice none 0 0] 26)).alloc (.cells #[.int .i64 6, .int .i64 6, .int .i64 (-1), .int .i64 0, .int .i64 0] 3)).drew).heap.size (((u.alloc (.cells #[.slice none 0 0] 26)).alloc (.cells #[.int .i64 6, .int .i64 6, .int .i64 (-1), .int .i64 0, .int .i64 0] 3)).drew) w1 → w1.cell? ⟨u.heap.size, 0, none⟩ = some (.slice none 0 0) ∧ w1.frozen? ⟨u.heap.size, 0, none⟩ = false ∧ Below u.heap.size u w1) := fun w1 h => by
      have h' := below_drew_trans h
      exact ⟨cell_keep h' (alloc1_cell u _ _ _), frozen_keep h' (Nat.lt_of_succ_lt (alloc2_lt u _ _)) (alloc1_froz u _ _ _), below_trans (below_alloc2 _ _ _) h'⟩
    have hx0a : ∀ o, (u.alloc o).cell? ⟨w.heap.size, 0, none⟩ = some (.slice A 1 c) := fun o => cell_keep (below_alloc _ _) hx0
    have hx0b : ∀ o p, ((u.alloc o).alloc p).cell? ⟨w.heap.size, 0, none⟩ = some (.slice A 1 c) := fun o p => cell_keep (below_alloc2 _ _ _) hx0
    go_region_law (first
      | (go_simp; go_at_call 125; refine (ref3_any _).mono ?_; rintro e w' ⟨rfl, rfl⟩)
      | (go_simp; go_at_call 41; (with_reducible refine (allocOne _ _ _ _ _ HA1.out HL1.out).mono ?_); rintro e w1 ⟨C, k, rfl, hnew, hr1⟩; have HU := Lib.hid (HX1.out w1 hr1); have HN := Lib.hid hnew; clear hr1 hnew)
      | (go_simp; go_at_call 41; (with_reducible refine (allocOne _ _ _ _ _ HA2.out HL2.out).mono ?_); rintro e w1 ⟨C, k, rfl, hnew, hr1⟩; have hx1 := (HX2.out w1 hr1).1; have hf1 := (HX2.out w1 hr1).2.1; have HU := Lib.hid (HX2.out w1 hr1).2.2; have HN := Lib.hid hnew; clear hr1 hnew)
      | (go_simp; go_at_call 41; (with_reducible refine (allocOne _ _ _ _ _ HA3.out HL3.out).mono ?_); rintro e w1 ⟨C, k, rfl, hnew, hr1⟩; have hx1 := (HX3.out w1 hr1).1; have hf1 := (HX3.out w1 hr1).2.1; have HU := Lib.hid (HX3.out w1 hr1).2.2; have HN := Lib.hid hnew; clear hr1 hnew))
    all_goals
      go_wp2_with fail
      go_meet
    all_goals first
      | exact BoxedA.late HZU.out HBU.out hr0 hf0 HU.out HN.out (below_alloc u _).size
      | exact BoxedA.early HZU.out HBU.out hr0 hf0 HU.out HN.out (alloc2_lt u _ _) (below_alloc2 u _ _).size (Nat.le_succ _) hx1
      | exact BoxedA.early HZU.out HBU.out hr0 hf0 HU.out HN.out (Nat.lt_of_succ_lt (alloc2_lt u _ _)) (below_alloc2 u _ _).size (Nat.le_refl _) hx1
  case rest =>
    obtain ⟨g, C, k, rfl, hg, hx, hn, hr, hf, hb⟩ := hcut
    have HN := Lib.hid hn; have HB := Lib.hid hb; clear hn hb HBU HZU HA hx0 hr0 hf0
    go_wp2
    refine bodyPost_ret (v := .agg #[.slice C 6 k]) (by simp [results, Try.results123, go_sem, hr]) rfl ⟨C, k, rfl, ?_, ?_⟩
    · exact (HN.out.setCell (by simp) _).base (by omega)
    · exact HB.out.setCell (by simp) _
end Go.Proofs.Ytjddmdhoeampcaa
