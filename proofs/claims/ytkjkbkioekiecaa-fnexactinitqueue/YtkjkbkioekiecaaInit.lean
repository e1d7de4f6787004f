/-
  InitQueue: the program's and the model's.
-/
import Derived.Test.YtkjkbkioekiecaaNodesB
import Derived.Test.YtkjkbkioekiecaaGoodB
import Derived.Test.YtkjkbkioekiecaaLawNewArena
namespace Go.Proofs.Ytkjkbkioekiecaa
open Go.RowKit

/-- The arena that InitQueue answers. -/
def initZs (zs : List Int) : List Int := if arenaB zs = true ∧ zs.length = 1 then [0, 6, 6, -1, 0, 0] else []
/-- The code that InitQueue answers. -/
def initCode (zs : List Int) : Int := if arenaB zs = true then (if zs.length = 1 then 0 else 8) else 1
theorem initZs_len (zs : List Int) : (initZs zs).length ≤ 6 := by
  unfold initZs; split <;> decide
theorem init_bad {zs : List Int} (h : arenaB zs = false) : initZs zs = [] ∧ initCode zs = 1 := by
  unfold initZs initCode; rw [h]; exact ⟨rfl, rfl⟩
theorem init_size {zs : List Int} (h : arenaB zs = true) (hl : zs.length ≠ 1) : initZs zs = [] ∧ initCode zs = 8 := by
  unfold initZs initCode; rw [if_neg (by simp [hl]), if_pos h, if_neg hl]; exact ⟨rfl, rfl⟩
theorem init_ok : initZs [0] = [0, 6, 6, -1, 0, 0] ∧ initCode [0] = 0 := by decide
theorem arena_one {zs : List Int} (h : arenaB zs = true) (hl : zs.length = 1) : zs = [0] := by
  obtain ⟨_, _, h3, _⟩ := arenaB_parts h
  match zs, hl with
  | [z], _ => simp [List.getD] at h3; rw [h3]

set_option maxHeartbeats 1000000 in
theorem implInit_any (A : Option Addr) (c : Nat) (zs : List Int) (w : World) (hn : zs.length ≤ 1048576) (hA : Rd w A zs) :
    Calls Try.prog 29 #[.agg #[.slice A zs.length c]] w fun e w' => ∃ B d, e = .returned (.tuple #[.agg #[.slice B (initZs zs).length d], .int .i64 (initCode zs)]) ∧
      NewA w.heap.size w' B d (initZs zs) ∧ Below w.heap.size w w' := by
  have HA := Lib.hid (hA.below (below_alloc2 w (.cells #[.slice A zs.length c] 32) (.cells #[.slice none 0 0] 32))); clear hA
  cases ha : arenaB zs
  · obtain ⟨hv, hc⟩ := init_bad ha
    have HV := Lib.hid hv; have HC := Lib.hid hc; clear hv hc
    go_enter Try.func29, Try.ntmps29
    go_wp2_with fail
    refine (implArenaOK_any _ _ zs _ hn HA.out).mono ?_
    rintro e w1 ⟨rfl, hb⟩
    have HB := Lib.hid (below_trans (below_alloc2 _ _ _) hb)
    have hr1 : w1.cell? ⟨w.heap.size + 1, 0, none⟩ = some (.slice none 0 0) := cell_keep hb (by simp)
    have hf1 : w1.frozen? ⟨w.heap.size + 1, 0, none⟩ = false := by rw [hb.frozen (p := ⟨w.heap.size + 1, 0, none⟩) (by simp)]; simp
    clear hb
    rw [ha]
    go_wp2
    refine bodyPost_ret (v := .tuple #[.agg #[.slice none 0 0], .int .i64 1]) (by simp [results, Try.results29, go_sem, hr1]) rfl ⟨none, 0, ?_, ?_, HB.out.setCell (by simp) _⟩
    · rw [HV.out, HC.out]; rfl
    · rw [HV.out]; exact NewA.nil _ _
  · have HR := Lib.hid ha
    have hm : zs.length ≤ maxLen := Nat.le_trans hn (by unfold maxLen; omega)
    by_cases hl : zs.length = 1
    · obtain rfl := arena_one ha hl
      clear hl
      go_enter Try.func29, Try.ntmps29
      go_wp2_with fail
      refine (implArenaOK_any _ _ [0] _ hn HA.out).mono ?_
      rintro e w1 ⟨rfl, hb⟩
      have HB := Lib.hid (below_trans (below_alloc2 _ _ _) hb)
      have HA1 := Lib.hid (HA.out.below hb)
      have hz1 : w.heap.size + 1 < w1.heap.size := by have := hb.size; simp at this; omega
      have hx1 : w1.cell? ⟨w.heap.size, 0, none⟩ = some (.slice A 1 c) := cell_keep hb (by simp)
      have hr1 : w1.cell? ⟨w.heap.size + 1, 0, none⟩ = some (.slice none 0 0) := cell_keep hb (by simp)
      have hf1 : w1.frozen? ⟨w.heap.size + 1, 0, none⟩ = false := by rw [hb.frozen (p := ⟨w.heap.size + 1, 0, none⟩) (by simp)]; simp
      clear hb HA
      rw [HR.out]
      go_wp2_with fail
      go_region_held3 (fun w' => w'.cell? ⟨w.heap.size, 0, none⟩ = some (.slice A 1 c))
        (first | exact hx1 | exact cell_keep hr0 hx1 | exact cell_keep hr2 (cell_keep hr0 hx1))
        (first
          | (go_at_call 62; (with_reducible refine (implNewArena_any _).mono ?_); rintro e u1 ⟨B, d, rfl, hnew, hr0⟩)
          | (go_at_call 61; (refine (sameArenaGood _ _ _ _ [0] _ hm (HA1.out.drew.below hr0) hnew.rd).mono ?_); rintro e u2 ⟨rfl, hr2⟩))
      have hb := below_drew_trans (below_trans hr0 hr2)
      clear hr0 hr2 hnew
      have HB2 := Lib.hid (below_trans HB.out hb)
      have HA2 := Lib.hid (HA1.out.below hb)
      have hz2 : w.heap.size + 1 < u2.heap.size := by have := hb.size; omega
      have hx2 : u2.cell? ⟨w.heap.size, 0, none⟩ = some (.slice A 1 c) := cell_keep hb hx1
      have hr2 : u2.cell? ⟨w.heap.size + 1, 0, none⟩ = some (.slice none 0 0) := cell_keep hb hr1
      have hf2 : u2.frozen? ⟨w.heap.size + 1, 0, none⟩ = false := by rw [hb.frozen (p := ⟨w.heap.size + 1, 0, none⟩) hz1]; exact hf1
      clear hb hx1 hr1 hf1 hz1 HB HA1
      go_wp2_with fail
      refine (implNodeRef_any 3 false _ 6 0 (by decide)).mono ?_
      rintro e w' ⟨rfl, rfl⟩
      go_wp2_with fail
      refine (allocGoodL _ _ _ _ [0] [6, 6, -1, 0, 0] _ HR.out (by decide) (by decide) (by decide) (by decide) (HA2.out.below (below_alloc _ _)) (rd_lit [6, 6, -1, 0, 0] _ _ rfl) [0, 6, 6, -1, 0, 0] rfl).mono ?_
      rintro e w3 ⟨C, k, rfl, hnew, hb⟩
      have HB3 := Lib.hid (below_trans (below_trans HB2.out (below_alloc _ _)) hb)
      have hz3 : w.heap.size + 1 < w3.heap.size := by have := hb.size; simp only [size_alloc] at this; omega
      have hr3 : w3.cell? ⟨w.heap.size + 1, 0, none⟩ = some (.slice none 0 0) := cell_keep hb (cell_keep (below_alloc _ _) hr2)
      have hf3 : w3.frozen? ⟨w.heap.size + 1, 0, none⟩ = false := by rw [hb.frozen (p := ⟨w.heap.size + 1, 0, none⟩) (by rw [size_alloc]; exact Nat.lt_succ_of_lt hz2), (below_alloc u2 _).frozen (p := ⟨w.heap.size + 1, 0, none⟩) hz2]; exact hf2
      have HO : Hid (NewA (w.heap.size + 2) w3 C k [0, 6, 6, -1, 0, 0]) := hnew.base (by rw [size_alloc]; omega)
      clear hb hnew hr2 hf2 hz2 HB2 HA2 hx2
      go_wp2
      refine bodyPost_ret (v := .tuple #[.agg #[.slice C 6 k], .int .i64 0]) (by simp [results, Try.results29, go_sem, hr3, hz3]) rfl ⟨C, k, ?_, ?_, ?_⟩
      · rw [init_ok.1, init_ok.2]; rfl
      · rw [init_ok.1]
        exact ((HO.out.setCell (by simp) _).below (below_alloc _ _)).base (by omega)
      · exact below_trans (HB3.out.setCell (by simp) _) (below_alloc _ _)
    · obtain ⟨hv, hc⟩ := init_size ha hl
      have hne : decide (zs = [0]) = false := by apply decide_eq_false; intro h; rw [h] at hl; exact hl rfl
      have HV := Lib.hid hv; have HC := Lib.hid hc; clear hv hc
      go_enter Try.func29, Try.ntmps29
      go_wp2_with fail
      refine (implArenaOK_any _ _ zs _ hn HA.out).mono ?_
      rintro e w1 ⟨rfl, hb⟩
      have HB := Lib.hid (below_trans (below_alloc2 _ _ _) hb)
      have HA1 := Lib.hid (HA.out.below hb)
      have hz1 : w.heap.size + 1 < w1.heap.size := by have := hb.size; simp at this; omega
      have hx1 : w1.cell? ⟨w.heap.size, 0, none⟩ = some (.slice A zs.length c) := cell_keep hb (by simp)
      have hr1 : w1.cell? ⟨w.heap.size + 1, 0, none⟩ = some (.slice none 0 0) := cell_keep hb (by simp)
      have hf1 : w1.frozen? ⟨w.heap.size + 1, 0, none⟩ = false := by rw [hb.frozen (p := ⟨w.heap.size + 1, 0, none⟩) (by simp)]; simp
      clear hb HA
      rw [HR.out]
      go_wp2_with fail
      go_region_held3 (fun w' => w'.cell? ⟨w.heap.size, 0, none⟩ = some (.slice A zs.length c))
        (first | exact hx1 | exact cell_keep hr0 hx1 | exact cell_keep hr2 (cell_keep hr0 hx1))
        (first
          | (go_at_call 62; (with_reducible refine (implNewArena_any _).mono ?_); rintro e u1 ⟨B, d, rfl, hnew, hr0⟩)
          | (go_at_call 61; (refine (implSameArena_any _ _ _ _ zs [0] _ hm (by decide) (HA1.out.drew.below hr0) hnew.rd).mono ?_); rintro e u2 ⟨rfl, hr2⟩))
      have hb := below_drew_trans (below_trans hr0 hr2)
      clear hr0 hr2 hnew
      have HB2 := Lib.hid (below_trans HB.out hb)
      have hr2 : u2.cell? ⟨w.heap.size + 1, 0, none⟩ = some (.slice none 0 0) := cell_keep hb hr1
      have hf2 : u2.frozen? ⟨w.heap.size + 1, 0, none⟩ = false := by rw [hb.frozen (p := ⟨w.heap.size + 1, 0, none⟩) hz1]; exact hf1
      clear hb hx1 hr1 hf1 hz1 HB HA1
      go_wp2
      refine bodyPost_ret (v := .tuple #[.agg #[.slice none 0 0], .int .i64 8]) (by simp [results, Try.results29, go_sem, hr2]) rfl ⟨none, 0, ?_, ?_, HB2.out.setCell (by simp) _⟩
      · rw [HV.out, HC.out]; rfl
      · rw [HV.out]; exact NewA.nil _ _
end Go.Proofs.Ytkjkbkioekiecaa
