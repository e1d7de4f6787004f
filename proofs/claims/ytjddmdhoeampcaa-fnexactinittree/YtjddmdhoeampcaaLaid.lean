/-
  laidBehind, what a layer starts with laid behind so many cells; InitQueue and InitSwap of the program go by it.
-/
import Derived.Test.YtjddmdhoeampcaaNodesB
import Derived.Test.YtjddmdhoeampcaaGoodB
import Derived.Test.YtjddmdhoeampcaaLawArenaOK
namespace Go.Proofs.Ytjddmdhoeampcaa
open Go.RowKit

/-- The arena that laidBehind answers. -/
def laidZs (zs : List Int) (n : Nat) (ls : List Int) : List Int := if arenaB zs = true ∧ zs.length = n then zs ++ ls else []
/-- The code that laidBehind answers. -/
def laidCode (zs : List Int) (n : Nat) : Int := if arenaB zs = true then (if zs.length = n then 0 else 8) else 1
theorem laid_bad {zs : List Int} {n : Nat} {ls : List Int} (h : arenaB zs = false) : laidZs zs n ls = [] ∧ laidCode zs n = 1 := by
  unfold laidZs laidCode; rw [h]; exact ⟨rfl, rfl⟩
theorem laid_size {zs : List Int} {n : Nat} {ls : List Int} (h : arenaB zs = true) (hl : zs.length ≠ n) : laidZs zs n ls = [] ∧ laidCode zs n = 8 := by
  unfold laidZs laidCode; rw [if_neg (by simp [hl]), if_pos h, if_neg hl]; exact ⟨rfl, rfl⟩
theorem laid_ok {zs : List Int} {n : Nat} {ls : List Int} (h : arenaB zs = true) (hl : zs.length = n) : laidZs zs n ls = zs ++ ls ∧ laidCode zs n = 0 := by
  unfold laidZs laidCode; rw [if_pos ⟨h, hl⟩, if_pos h, if_pos hl]; exact ⟨rfl, rfl⟩
theorem laidZs_len (zs : List Int) (n : Nat) (ls : List Int) : (laidZs zs n ls).length ≤ n + ls.length := by
  unfold laidZs; split
  · rename_i h; rw [List.length_append, h.2]; exact Nat.le_refl _
  · exact Nat.zero_le _

set_option maxHeartbeats 1000000 in
theorem implLaid_any (A B : Option Addr) (c d : Nat) (zs ls : List Int) (n : Nat) (w : World) (hn : zs.length ≤ 1048576) (h1 : 1 ≤ ls.length) (h8 : ls.length ≤ 8) (hw : wordsB ls = true) (hfit : n + ls.length ≤ 400) (hA : Rd w A zs) (hB : Rd w B ls) :
    Calls Try.prog 43 #[.agg #[.slice A zs.length c], .int .i64 n, .slice B ls.length d] w fun e w' => ∃ C k, e = .returned (.tuple #[.agg #[.slice C (laidZs zs n ls).length k], .int .i64 (laidCode zs n)]) ∧
      NewA w.heap.size w' C k (laidZs zs n ls) ∧ Below w.heap.size w w' := by
  have HA := Lib.hid (hA.below (below_alloc2 w (.cells #[.slice A zs.length c] 26) (.cells #[.slice none 0 0] 26)))
  have HL := Lib.hid (hB.below (below_alloc2 w (.cells #[.slice A zs.length c] 26) (.cells #[.slice none 0 0] 26)))
  clear hA hB
  cases ha : arenaB zs
  · obtain ⟨hv, hc⟩ := laid_bad (n := n) (ls := ls) ha
    have HV := Lib.hid hv; have HC := Lib.hid hc; clear hv hc
    go_enter Try.func43, Try.ntmps43
    go_wp2_with fail
    refine (implArenaOK_any _ _ zs _ hn HA.out).mono ?_
    rintro e w1 ⟨rfl, hb⟩
    have HB := Lib.hid (below_trans (below_alloc2 _ _ _) hb)
    have hr1 : w1.cell? ⟨w.heap.size + 1, 0, none⟩ = some (.slice none 0 0) := cell_keep hb (by simp)
    have hf1 : w1.frozen? ⟨w.heap.size + 1, 0, none⟩ = false := by rw [hb.frozen (p := ⟨w.heap.size + 1, 0, none⟩) (by simp)]; simp
    clear hb
    rw [ha]
    go_wp2
    refine bodyPost_ret (v := .tuple #[.agg #[.slice none 0 0], .int .i64 1]) (by simp [results, Try.results43, go_sem, hr1]) rfl ⟨none, 0, ?_, ?_, HB.out.setCell (by simp) _⟩
    · rw [HV.out, HC.out]; rfl
    · rw [HV.out]; exact NewA.nil _ _
  · have HR := Lib.hid ha
    by_cases hl : zs.length = n
    · obtain ⟨hv, hc⟩ := laid_ok (ls := ls) ha hl
      have HV := Lib.hid hv; have HC := Lib.hid hc; clear hv hc ha
      subst hl
      have hne : ((zs.length : Int) != (zs.length : Int)) = false := by simp
      go_enter Try.func43, Try.ntmps43
      go_wp2_with fail
      refine (implArenaOK_any _ _ zs _ hn HA.out).mono ?_
      rintro e w1 ⟨rfl, hb⟩
      have HB := Lib.hid (below_trans (below_alloc2 _ _ _) hb)
      have HA1 := Lib.hid (HA.out.below hb)
      have HL1 := Lib.hid (HL.out.below hb)
      have hz1 : w.heap.size + 1 < w1.heap.size := by have := hb.size; simp at this; omega
      have hx1 : w1.cell? ⟨w.heap.size, 0, none⟩ = some (.slice A zs.length c) := cell_keep hb (by simp)
      have hr1 : w1.cell? ⟨w.heap.size + 1, 0, none⟩ = some (.slice none 0 0) := cell_keep hb (by simp)
      have hf1 : w1.frozen? ⟨w.heap.size + 1, 0, none⟩ = false := by rw [hb.frozen (p := ⟨w.heap.size + 1, 0, none⟩) (by simp)]; simp
      clear hb HA HL
      rw [HR.out]
      go_wp2_with fail
      refine (allocGoodL _ _ _ _ zs ls _ HR.out h1 h8 hw hfit HA1.out HL1.out (zs ++ ls) rfl).mono ?_
      rintro e w3 ⟨C, k, rfl, hnew, hb⟩
      have HB3 := Lib.hid (below_trans HB.out hb)
      have hz3 : w.heap.size + 1 < w3.heap.size := by have := hb.size; omega
      have hr3 : w3.cell? ⟨w.heap.size + 1, 0, none⟩ = some (.slice none 0 0) := cell_keep hb hr1
      have hf3 : w3.frozen? ⟨w.heap.size + 1, 0, none⟩ = false := by rw [hb.frozen (p := ⟨w.heap.size + 1, 0, none⟩) hz1]; exact hf1
      have HO : Hid (NewA (w.heap.size + 2) w3 C k (zs ++ ls)) := hnew.base (by omega)
      clear hb hnew hr1 hf1 hz1 HB HA1 hx1
      generalize hM : zs ++ ls = M at *
      go_wp2
      refine bodyPost_ret (v := .tuple #[.agg #[.slice C M.length k], .int .i64 0]) (by simp [results, Try.results43, go_sem, hr3, hz3]) rfl ⟨C, k, ?_, ?_, ?_⟩
      · rw [HV.out, HC.out]
      · rw [HV.out]
        exact ((HO.out.setCell (by simp) _).below (below_alloc _ _)).base (by omega)
      · exact below_trans (HB3.out.setCell (by simp) _) (below_alloc _ _)
    · obtain ⟨hv, hc⟩ := laid_size (ls := ls) ha hl
      have hne : ((zs.length : Int) != (n : Int)) = true := by simp; omega
      have HV := Lib.hid hv; have HC := Lib.hid hc; clear hv hc
      go_enter Try.func43, Try.ntmps43
      go_wp2_with fail
      refine (implArenaOK_any _ _ zs _ hn HA.out).mono ?_
      rintro e w1 ⟨rfl, hb⟩
      have HB := Lib.hid (below_trans (below_alloc2 _ _ _) hb)
      have hx1 : w1.cell? ⟨w.heap.size, 0, none⟩ = some (.slice A zs.length c) := cell_keep hb (by simp)
      have hr1 : w1.cell? ⟨w.heap.size + 1, 0, none⟩ = some (.slice none 0 0) := cell_keep hb (by simp)
      have hf1 : w1.frozen? ⟨w.heap.size + 1, 0, none⟩ = false := by rw [hb.frozen (p := ⟨w.heap.size + 1, 0, none⟩) (by simp)]; simp
      clear hb HA
      rw [HR.out]
      go_wp2
      refine bodyPost_ret (v := .tuple #[.agg #[.slice none 0 0], .int .i64 8]) (by simp [results, Try.results43, go_sem, hr1]) rfl ⟨none, 0, ?_, ?_, HB.out.setCell (by simp) _⟩
      · rw [HV.out, HC.out]; rfl
      · rw [HV.out]; exact NewA.nil _ _

set_option maxHeartbeats 1000000 in
theorem implInitQ_any (A : Option Addr) (c : Nat) (zs : List Int) (w : World) (hn : zs.length ≤ 1048576) (hA : Rd w A zs) :
    Calls Try.prog 56 #[.agg #[.slice A zs.length c]] w fun e w' => ∃ B d, e = .returned (.tuple #[.agg #[.slice B (laidZs zs 1 [6, 6, -1, 0, 0]).length d], .int .i64 (laidCode zs 1)]) ∧
      NewA w.heap.size w' B d (laidZs zs 1 [6, 6, -1, 0, 0]) ∧ Below w.heap.size w w' := by
  have HA := Lib.hid (hA.below (below_alloc2 w (.cells #[.slice A zs.length c] 26) (.cells #[.slice none 0 0] 26))); clear hA
  go_enter Try.func56, Try.ntmps56
  go_wp2_with fail
  refine (implNodeRef_any 3 false _ 6 0 (by decide)).mono ?_
  rintro e w' ⟨rfl, rfl⟩
  go_wp2_with fail
  refine (implLaid_any _ _ _ _ zs [6, 6, -1, 0, 0] 1 _ hn (by decide) (by decide) (by decide) (by decide) (HA.out.below (below_alloc _ _)) (rd_lit [6, 6, -1, 0, 0] _ _ (by simp))).mono ?_
  rintro e w3 ⟨C, k, rfl, hnew, hb⟩
  have HB3 := Lib.hid (below_trans (below_trans (below_alloc2 w (.cells #[.slice A zs.length c] 26) (.cells #[.slice none 0 0] 26)) (below_alloc _ _)) hb)
  have hr3 : w3.cell? ⟨w.heap.size + 1, 0, none⟩ = some (.slice none 0 0) := cell_keep hb (cell_keep (below_alloc _ _) (by simp))
  have hf3 : w3.frozen? ⟨w.heap.size + 1, 0, none⟩ = false := frozen_keep hb (by simp) (frozen_keep (below_alloc _ _) (by simp) (by simp))
  have HO : Hid (NewA (w.heap.size + 2) w3 C k (laidZs zs 1 [6, 6, -1, 0, 0])) := hnew.base (by simp)
  clear hb hnew HA
  generalize hM : laidZs zs 1 [6, 6, -1, 0, 0] = M at *
  generalize hm : laidCode zs 1 = m at *
  have HM := Lib.hid hM; have Hm := Lib.hid hm; clear hM hm
  go_wp2
  refine bodyPost_ret (v := .tuple #[.agg #[.slice C M.length k], .int .i64 m]) (by simp [results, Try.results56, go_sem, hr3]) rfl ⟨C, k, by rw [HM.out, Hm.out], ?_, ?_⟩
  · rw [HM.out]; exact (HO.out.setCell (by simp) _).base (by omega)
  · exact HB3.out.setCell (by simp) _

set_option maxHeartbeats 1000000 in
theorem implInitW_any (A : Option Addr) (c : Nat) (zs : List Int) (w : World) (hn : zs.length ≤ 1048576) (hA : Rd w A zs) :
    Calls Try.prog 57 #[.agg #[.slice A zs.length c]] w fun e w' => ∃ B d, e = .returned (.tuple #[.agg #[.slice B (laidZs zs 6 [0]).length d], .int .i64 (laidCode zs 6)]) ∧
      NewA w.heap.size w' B d (laidZs zs 6 [0]) ∧ Below w.heap.size w w' := by
  have HA := Lib.hid (hA.below (below_alloc2 w (.cells #[.slice A zs.length c] 26) (.cells #[.slice none 0 0] 26))); clear hA
  go_enter Try.func57, Try.ntmps57
  go_wp2_with fail
  refine (implLaid_any _ _ _ _ zs [0] 6 _ hn (by decide) (by decide) (by decide) (by decide) (HA.out.below (below_alloc _ _)) (rd_lit [0] _ _ (by simp))).mono ?_
  rintro e w3 ⟨C, k, rfl, hnew, hb⟩
  have HB3 := Lib.hid (below_trans (below_trans (below_alloc2 w (.cells #[.slice A zs.length c] 26) (.cells #[.slice none 0 0] 26)) (below_alloc _ _)) hb)
  have hr3 : w3.cell? ⟨w.heap.size + 1, 0, none⟩ = some (.slice none 0 0) := cell_keep hb (cell_keep (below_alloc _ _) (by simp))
  have hf3 : w3.frozen? ⟨w.heap.size + 1, 0, none⟩ = false := frozen_keep hb (by simp) (frozen_keep (below_alloc _ _) (by simp) (by simp))
  have HO : Hid (NewA (w.heap.size + 2) w3 C k (laidZs zs 6 [0])) := hnew.base (by simp)
  clear hb hnew HA
  generalize hM : laidZs zs 6 [0] = M at *
  generalize hm : laidCode zs 6 = m at *
  have HM := Lib.hid hM; have Hm := Lib.hid hm; clear hM hm
  go_wp2
  refine bodyPost_ret (v := .tuple #[.agg #[.slice C M.length k], .int .i64 m]) (by simp [results, Try.results57, go_sem, hr3]) rfl ⟨C, k, by rw [HM.out, Hm.out], ?_, ?_⟩
  · rw [HM.out]; exact (HO.out.setCell (by simp) _).base (by omega)
  · exact HB3.out.setCell (by simp) _
end Go.Proofs.Ytjddmdhoeampcaa
