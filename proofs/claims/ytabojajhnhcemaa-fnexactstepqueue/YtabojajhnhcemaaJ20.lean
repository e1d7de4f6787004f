/-
  The program's makeNode, and join at 4.
-/
import Derived.Test.YtabojajhnhcemaaJ16
import Derived.Test.YtabojajhnhcemaaJ19
import Derived.Test.YtabojajhnhcemaaJ07
import Derived.StillTailTactics
namespace Go.Proofs.Ytabojajhnhcemaa
open Go.RowKit

/-- An arena of our own in a box of its own, beside a step under way. -/
def GotQ (w : World) (k lo : Nat) (A : Option Addr) (c : Nat) (zs : List Int) (cs : Array Value) (L : List Int) (s : Value) (wx : World) : Prop :=
  ∃ g B d, s = .pointer (some ⟨g, 0, none⟩) ∧ BoxA wx g (.slice B L.length d) ∧ NewA lo wx B d L ∧ Q w wx k lo A c zs cs
theorem GotQ.late {w w1 : World} {k lo lo' : Nat} {A B : Option Addr} {c d : Nat} {zs L : List Int} {cs : Array Value} (h : Q w w1 k lo A c zs cs) (hn : NewA lo' w1 B d L) (hlo : lo ≤ lo') :
    GotQ w k lo A c zs cs L (.pointer (some ⟨w1.heap.size, 0, none⟩)) (w1.alloc (.cells #[.slice B L.length d] 25)) :=
  ⟨_, B, d, rfl, BoxA.new _ _, (hn.below (below_alloc _ _)).base hlo, h.below (below_alloc _ _)⟩
theorem BoxQ.other {w : World} {k g : Nat} {cs : Array Value} (h : BoxQ w k cs) (hk : k ≠ g) (v : Value) : BoxQ (w.setCell ⟨g, 0, none⟩ v) k cs := (heap_setCell_other _ _ _ _ (by simpa using hk)).trans h
theorem BoxQ.ne {w : World} {k g : Nat} {cs : Array Value} {v : Value} (h : BoxQ w k cs) (hx : BoxA w g v) : k ≠ g := by
  intro e; subst e
  unfold BoxQ at h; unfold BoxA at hx
  rw [h] at hx
  injection hx with hx
  injection hx with _ ht
  exact absurd ht (by decide)
theorem NewA.setX {lo : Nat} {w : World} {B : Option Addr} {d g : Nat} {L : List Int} {u : Value} (ho : NewA lo w B d L) (h : BoxA w g u) (v : Value) : NewA lo (w.setCell ⟨g, 0, none⟩ v) B d L := by
  refine ho.kept (grown_set (grown_refl w (some g)) 0 v) ?_
  right; intro e; exact h.ne_own ho e.symm
theorem GotQ.early {w w1 : World} {k lo lo' g : Nat} {A B : Option Addr} {c d : Nat} {zs L : List Int} {cs : Array Value} {v : Value} (h : Q w w1 k lo A c zs cs) (hn : NewA lo' w1 B d L) (hlo : lo ≤ lo') (hx : BoxA w1 g v) (hg : w.heap.size ≤ g) :
    GotQ w k lo A c zs cs L (.pointer (some ⟨g, 0, none⟩)) (w1.setCell ⟨g, 0, none⟩ (.slice B L.length d)) :=
  ⟨g, B, d, rfl, hx.set _, (hn.setX hx _).base hlo, h.box.other (h.box.ne hx) _, h.own.setX hx _, h.gr.os, h.gr.tape, h.gr.output, by rw [World.size_setCell]; exact h.gr.size, fun i hi hr => (heap_setCell_other _ _ _ _ (by simp; omega)).trans (h.gr.block i hi hr)⟩
theorem alloc_room {zs ls : List Int} (ha : arenaB zs = true) (hl : ls.length = 3) (hw : wordsB ls = true) (hr : zs.length + 3 ≤ 400) : allocZs zs ls = zs ++ ls ∧ allocAt zs ls = zs.length ∧ allocCode zs ls = 0 := by
  have hf : faultCode zs ls = 0 := by unfold faultCode; rw [if_neg (by omega), if_neg (by rw [ha]; decide), if_neg (by omega), if_neg (by rw [hw]; decide)]
  unfold allocZs allocAt allocCode
  rw [if_pos hf, if_pos hf, if_pos hf, if_neg (by omega), if_neg (by omega), if_neg (by omega)]
  exact ⟨rfl, rfl, rfl⟩
theorem alloc_full {zs ls : List Int} (ha : arenaB zs = true) (hl : ls.length = 3) (hw : wordsB ls = true) (hr : 400 < zs.length + 3) : allocZs zs ls = zs ∧ allocAt zs ls = 0 ∧ allocCode zs ls = 7 := by
  have hf : faultCode zs ls = 0 := by unfold faultCode; rw [if_neg (by omega), if_neg (by rw [ha]; decide), if_neg (by omega), if_neg (by rw [hw]; decide)]
  unfold allocZs allocAt allocCode
  rw [if_pos hf, if_pos hf, if_pos hf, if_pos (by omega), if_pos (by omega), if_pos (by omega)]
  exact ⟨rfl, rfl, rfl⟩

theorem allocThree (A B : Option Addr) (c d : Nat) (zs : List Int) (f i : Int) (L : List Int) (p q : Int) (w : World) (hn : zs.length ≤ 1048576) (h1 : allocZs zs [f, 0, i] = L) (h2 : allocAt zs [f, 0, i] = p) (h3 : allocCode zs [f, 0, i] = q) (hA : Rd w A zs) (hB : Rd w B [f, 0, i]) :
    Calls Try.prog 91 #[.agg #[.slice A zs.length c], .slice B 3 d] w fun e w' => ∃ C k, e = .returned (.tuple #[.agg #[.slice C L.length k], .int .i64 p, .int .i64 q]) ∧ NewA w.heap.size w' C k L ∧ Below w.heap.size w w' := by
  subst h1 h2 h3
  exact implAllocCells_any A B c d zs [f, 0, i] w hn (by simp) hA hB

set_option maxHeartbeats 4000000 in
set_option maxRecDepth 100000 in
theorem qMake_full (id st op arg pc til : Int) (per can : Bool) (r0 r1 r2 r3 r4 code res : Int) (now wk f : Int) (zs : List Int) (k lo : Nat) (w : World) (A : Option Addr) (c : Nat) (hn : zs.length ≤ 1048576) (ha : arenaB zs = true) (hlo : lo ≤ w.heap.size) (hr : -1000000000000 ≤ arg ∧ arg ≤ 1000000000000) (hi : -1000000000000 ≤ id ∧ id ≤ 1000000000000) (hfi : firstI op arg = f) (hw : wordsB [f, 0, id + 1] = true) (hm : 400 < zs.length + 3) (hQ : BoxQ w k #[.slice A zs.length c, .int .i64 id, .int .i64 st, .int .i64 op, .int .i64 arg, .int .i64 pc, .int .i64 til, .bool per, .bool can, .int .i64 r0, .int .i64 r1, .int .i64 r2, .int .i64 r3, .int .i64 r4, .int .i64 code, .int .i64 res, .int .i64 now, .int .i64 wk]) (hA : NewA lo w A c zs) :
    Calls Try.prog 66 #[.pointer (some ⟨k, 0, none⟩)] w fun e w' => ∃ B d, e = .returned (.tuple #[]) ∧ Q w w' k lo B d (zs) #[.slice B (zs).length d, .int .i64 id, .int .i64 0, .int .i64 0, .int .i64 0, .int .i64 0, .int .i64 0, .bool false, .bool false, .int .i64 0, .int .i64 0, .int .i64 0, .int .i64 0, .int .i64 0, .int .i64 7, .int .i64 0, .int .i64 now, .int .i64 wk] := by
  have hq : IntKind.i64.wrap (id + 1) = id + 1 := IntWalk.i64_in _ (by omega)
  obtain ⟨hz1, hz2, hz3⟩ := alloc_full (ls := [f, 0, id + 1]) ha rfl hw hm
  have hc := hQ.cell
  have hca : ∀ o j, (w.alloc o).cell? ⟨k, j, none⟩ = (#[.slice A zs.length c, .int .i64 id, .int .i64 st, .int .i64 op, .int .i64 arg, .int .i64 pc, .int .i64 til, .bool per, .bool can, .int .i64 r0, .int .i64 r1, .int .i64 r2, .int .i64 r3, .int .i64 r4, .int .i64 code, .int .i64 res, .int .i64 now, .int .i64 wk] : Array Value)[j]? := fun o j => (hQ.below (below_alloc _ _)).cell j
  have hcb : ∀ o p j, ((w.alloc o).alloc p).cell? ⟨k, j, none⟩ = (#[.slice A zs.length c, .int .i64 id, .int .i64 st, .int .i64 op, .int .i64 arg, .int .i64 pc, .int .i64 til, .bool per, .bool can, .int .i64 r0, .int .i64 r1, .int .i64 r2, .int .i64 r3, .int .i64 r4, .int .i64 code, .int .i64 res, .int .i64 now, .int .i64 wk] : Array Value)[j]? := fun o p j => (hQ.below (below_alloc2 _ _ _)).cell j
  have HQ := Lib.hid (Q.start hQ hA)
  have HD : Hid (BoxQ w.drew k #[.slice A zs.length c, .int .i64 id, .int .i64 st, .int .i64 op, .int .i64 arg, .int .i64 pc, .int .i64 til, .bool per, .bool can, .int .i64 r0, .int .i64 r1, .int .i64 r2, .int .i64 r3, .int .i64 r4, .int .i64 code, .int .i64 res, .int .i64 now, .int .i64 wk]) := hQ
  have HE : Hid (BoxQ (w.alloc (.cells #[.slice none 0 0] 25)).drew k #[.slice A zs.length c, .int .i64 id, .int .i64 st, .int .i64 op, .int .i64 arg, .int .i64 pc, .int .i64 til, .bool per, .bool can, .int .i64 r0, .int .i64 r1, .int .i64 r2, .int .i64 r3, .int .i64 r4, .int .i64 code, .int .i64 res, .int .i64 now, .int .i64 wk]) := (hQ.below (below_alloc w _)).drew
  have HR := Lib.hid hr; have HFI := Lib.hid hfi; have HLO := Lib.hid hlo; have HZ1 := Lib.hid hz1; have HZ2 := Lib.hid hz2; have HZ3 := Lib.hid hz3; have HN := Lib.hid hn
  clear hQ hA hr hfi hlo hz1 hz2 hz3 ha hi hw hm
  have HQ1 : Hid (Q w ((w.alloc (.cells #[.int .i64 f, .int .i64 0, .int .i64 (id + 1)] 3)).drew) k lo A c zs #[.slice A zs.length c, .int .i64 id, .int .i64 st, .int .i64 op, .int .i64 arg, .int .i64 pc, .int .i64 til, .bool per, .bool can, .int .i64 r0, .int .i64 r1, .int .i64 r2, .int .i64 r3, .int .i64 r4, .int .i64 code, .int .i64 res, .int .i64 now, .int .i64 wk]) := (HQ.out.below (below_alloc _ _)).drew
  have HQ2 : Hid (Q w (((w.alloc (.cells #[.int .i64 f, .int .i64 0, .int .i64 (id + 1)] 3)).alloc (.cells #[.slice none 0 0] 25)).drew) k lo A c zs #[.slice A zs.length c, .int .i64 id, .int .i64 st, .int .i64 op, .int .i64 arg, .int .i64 pc, .int .i64 til, .bool per, .bool can, .int .i64 r0, .int .i64 r1, .int .i64 r2, .int .i64 r3, .int .i64 r4, .int .i64 code, .int .i64 res, .int .i64 now, .int .i64 wk]) := (HQ.out.below (below_alloc2 _ _ _)).drew
  have HQ3 : Hid (Q w (((w.alloc (.cells #[.slice none 0 0] 25)).alloc (.cells #[.int .i64 f, .int .i64 0, .int .i64 (id + 1)] 3)).drew) k lo A c zs #[.slice A zs.length c, .int .i64 id, .int .i64 st, .int .i64 op, .int .i64 arg, .int .i64 pc, .int .i64 til, .bool per, .bool can, .int .i64 r0, .int .i64 r1, .int .i64 r2, .int .i64 r3, .int .i64 r4, .int .i64 code, .int .i64 res, .int .i64 now, .int .i64 wk]) := (HQ.out.below (below_alloc2 _ _ _)).drew
  have HL1 : Hid (Rd ((w.alloc (.cells #[.int .i64 f, .int .i64 0, .int .i64 (id + 1)] 3)).drew) (some ⟨w.heap.size, 0, none⟩) [f, 0, id + 1]) := (rd_lit [f, 0, id + 1] w _ rfl).drew
  have HL2 : Hid (Rd (((w.alloc (.cells #[.int .i64 f, .int .i64 0, .int .i64 (id + 1)] 3)).alloc (.cells #[.slice none 0 0] 25)).drew) (some ⟨w.heap.size, 0, none⟩) [f, 0, id + 1]) := (rd_lit2 [f, 0, id + 1] w _ _ rfl).drew
  have HL3 : Hid (Rd (((w.alloc (.cells #[.slice none 0 0] 25)).alloc (.cells #[.int .i64 f, .int .i64 0, .int .i64 (id + 1)] 3)).drew) (some ⟨w.heap.size + 1, 0, none⟩) [f, 0, id + 1]) := (rd_lit [f, 0, id + 1] (w.alloc _) _ (size_alloc _ _)).drew
  have HX2 : Hid (BoxA (((w.alloc (.cells #[.int .i64 f, .int .i64 0, .int .i64 (id + 1)] 3)).alloc (.cells #[.slice none 0 0] 25)).drew) (w.heap.size + 1) (.slice none 0 0)) := by
    have h := BoxA.new (w.alloc (.cells #[.int .i64 f, .int .i64 0, .int .i64 (id + 1)] 3)) (.slice none 0 0)
    rw [size_alloc] at h; exact h
  have HX3 : Hid (BoxA (((w.alloc (.cells #[.slice none 0 0] 25)).alloc (.cells #[.int .i64 f, .int .i64 0, .int .i64 (id + 1)] 3)).drew) w.heap.size (.slice none 0 0)) := show BoxA (((w.alloc (.cells #[.slice none 0 0] 25)).alloc (.cells #[.int .i64 f, .int .i64 0, .int .i64 (id + 1)] 3))) w.heap.size (.slice none 0 0) from (BoxA.new w (.slice none 0 0)).below (below_alloc _ _)
  go_enter Try.func66, Try.ntmps66
  go_wp2_with fail
  go_cut [2, 3, 4] (fun s2 s3 s4 wx => s3 = .int .i64 0 ∧ s4 = .int .i64 7 ∧ GotQ w k lo A c zs #[.slice A zs.length c, .int .i64 id, .int .i64 st, .int .i64 op, .int .i64 arg, .int .i64 pc, .int .i64 til, .bool per, .bool can, .int .i64 r0, .int .i64 r1, .int .i64 r2, .int .i64 r3, .int .i64 r4, .int .i64 code, .int .i64 res, .int .i64 now, .int .i64 wk] (zs) s2 wx)
  case first =>
    go_region_law (first
      | (go_simp; go_at_call 69; (with_reducible refine (qFirst_any _ id st op arg pc til per can r0 r1 r2 r3 r4 code res now wk k w.drew HR.out HD.out).mono ?_); rintro e w' ⟨rfl, rfl⟩; rw [HFI.out])
      | (go_simp; go_at_call 69; (with_reducible refine (qFirst_any _ id st op arg pc til per can r0 r1 r2 r3 r4 code res now wk k (w.alloc (.cells #[.slice none 0 0] 25)).drew HR.out HE.out).mono ?_); rintro e w' ⟨rfl, rfl⟩; rw [HFI.out])
      | (go_simp; go_at_call 91; (with_reducible refine (allocThree A _ c 3 zs f (id + 1) _ _ _ _ HN.out HZ1.out HZ2.out HZ3.out HQ1.out.rd HL1.out).mono ?_); rintro e v1 ⟨B, d, rfl, hnew, hb⟩; have HQn := Lib.hid (HQ1.out.below hb); have HNn := Lib.hid hnew; clear hb hnew)
      | (go_simp; go_at_call 91; (with_reducible refine (allocThree A _ c 3 zs f (id + 1) _ _ _ _ HN.out HZ1.out HZ2.out HZ3.out HQ2.out.rd HL2.out).mono ?_); rintro e v1 ⟨B, d, rfl, hnew, hb⟩; have HQn := Lib.hid (HQ2.out.below hb); have HNn := Lib.hid hnew; have HXn := Lib.hid (BoxA.below HX2.out hb); have gx := HXn.out.cell; have gf := HXn.out.froz; clear hb hnew)
      | (go_simp; go_at_call 91; (with_reducible refine (allocThree A _ c 3 zs f (id + 1) _ _ _ _ HN.out HZ1.out HZ2.out HZ3.out HQ3.out.rd HL3.out).mono ?_); rintro e v1 ⟨B, d, rfl, hnew, hb⟩; have HQn := Lib.hid (HQ3.out.below hb); have HNn := Lib.hid hnew; have HXn := Lib.hid (BoxA.below HX3.out hb); have gx := HXn.out.cell; have gf := HXn.out.froz; clear hb hnew))
    all_goals
      go_wp2_with fail
      go_meet
    all_goals first
      | exact ⟨rfl, rfl, GotQ.late HQn.out HNn.out (Nat.le_trans HLO.out (below_alloc w _).size)⟩
      | exact ⟨rfl, rfl, GotQ.early HQn.out HNn.out (Nat.le_trans HLO.out (below_alloc2 w _ _).size) HXn.out (Nat.le_succ _)⟩
      | exact ⟨rfl, rfl, GotQ.early HQn.out HNn.out (Nat.le_trans HLO.out (below_alloc2 w _ _).size) HXn.out (Nat.le_refl _)⟩
  case rest =>
  generalize wc = w5 at hcut ⊢
  obtain ⟨rfl, rfl, g, B, d, rfl, hbx, hnw, hq5⟩ := hcut
  have HQ5 := Lib.hid hq5; have HX5 := Lib.hid hbx; have HN5 := Lib.hid hnw
  clear hq5 hbx hnw HQ HD HE HQ1 HQ2 HQ3 HL1 HL2 HL3 HX2 HX3 hc hca hcb HZ1 HZ2 HZ3
  have hc5 := HQ5.out.box.cell; have hf5 := HQ5.out.box.froz; have hx5 := HX5.out.cell
  go_wp2_with fail
  refine (ended_any _ _ _ _ _ _ _ _ _ _ _ _ _ _ _ _ _ _).mono ?_
  rintro e w6 ⟨rfl, hb⟩
  have HQ6 := Lib.hid (HQ5.out.below hb); clear hb
  have hc6 := HQ6.out.box.cell; have hf6 := HQ6.out.box.froz
  clear hc5 hf5 hx5 HQ5
  go_wp2
  exact bodyPost_ret (results_none rfl _ _ _) rfl ⟨A, c, rfl, HQ6.out.thread _ _ _ _ _ _ _ _ _ _ _ _ _ _ _⟩

set_option maxHeartbeats 4000000 in
set_option maxRecDepth 100000 in
theorem qMake_room (id st op arg pc til : Int) (per can : Bool) (r0 r1 r2 r3 r4 code res : Int) (now wk f y : Int) (zs : List Int) (L : List Int) (hL : zs ++ [f, 0, id + 1] = L) (k lo : Nat) (w : World) (A : Option Addr) (c : Nat) (hn : zs.length ≤ 1048576) (ha : arenaB zs = true) (hlo : lo ≤ w.heap.size) (hr : -1000000000000 ≤ arg ∧ arg ≤ 1000000000000) (hi : -1000000000000 ≤ id ∧ id ≤ 1000000000000) (hfi : firstI op arg = f) (hw : wordsB [f, 0, id + 1] = true) (hm : zs.length + 3 ≤ 400) (hy : 2 * (zs.length : Int) + bitI (mineB op) = y) (hQ : BoxQ w k #[.slice A zs.length c, .int .i64 id, .int .i64 st, .int .i64 op, .int .i64 arg, .int .i64 pc, .int .i64 til, .bool per, .bool can, .int .i64 r0, .int .i64 r1, .int .i64 r2, .int .i64 r3, .int .i64 r4, .int .i64 code, .int .i64 res, .int .i64 now, .int .i64 wk]) (hA : NewA lo w A c zs) :
    Calls Try.prog 66 #[.pointer (some ⟨k, 0, none⟩)] w fun e w' => ∃ B d, e = .returned (.tuple #[]) ∧ Q w w' k lo B d (L) #[.slice B (L).length d, .int .i64 id, .int .i64 st, .int .i64 op, .int .i64 arg, .int .i64 5, .int .i64 til, .bool per, .bool can, .int .i64 r0, .int .i64 r1, .int .i64 r2, .int .i64 y, .int .i64 r4, .int .i64 code, .int .i64 res, .int .i64 now, .int .i64 wk] := by
  have hq : IntKind.i64.wrap (id + 1) = id + 1 := IntWalk.i64_in _ (by omega)
  have HRF : Hid (refB (zs.length : Int) (mineB op) = (y, 0)) := by
    rw [refB_in (by rw [inB_iff]; have := (arenaB_parts ha).1; omega), hy]; rfl
  obtain ⟨hz1, hz2, hz3⟩ := alloc_room (ls := [f, 0, id + 1]) ha rfl hw hm
  rw [hL] at hz1; clear hL
  have hc := hQ.cell
  have hca : ∀ o j, (w.alloc o).cell? ⟨k, j, none⟩ = (#[.slice A zs.length c, .int .i64 id, .int .i64 st, .int .i64 op, .int .i64 arg, .int .i64 pc, .int .i64 til, .bool per, .bool can, .int .i64 r0, .int .i64 r1, .int .i64 r2, .int .i64 r3, .int .i64 r4, .int .i64 code, .int .i64 res, .int .i64 now, .int .i64 wk] : Array Value)[j]? := fun o j => (hQ.below (below_alloc _ _)).cell j
  have hcb : ∀ o p j, ((w.alloc o).alloc p).cell? ⟨k, j, none⟩ = (#[.slice A zs.length c, .int .i64 id, .int .i64 st, .int .i64 op, .int .i64 arg, .int .i64 pc, .int .i64 til, .bool per, .bool can, .int .i64 r0, .int .i64 r1, .int .i64 r2, .int .i64 r3, .int .i64 r4, .int .i64 code, .int .i64 res, .int .i64 now, .int .i64 wk] : Array Value)[j]? := fun o p j => (hQ.below (below_alloc2 _ _ _)).cell j
  have HQ := Lib.hid (Q.start hQ hA)
  have HD : Hid (BoxQ w.drew k #[.slice A zs.length c, .int .i64 id, .int .i64 st, .int .i64 op, .int .i64 arg, .int .i64 pc, .int .i64 til, .bool per, .bool can, .int .i64 r0, .int .i64 r1, .int .i64 r2, .int .i64 r3, .int .i64 r4, .int .i64 code, .int .i64 res, .int .i64 now, .int .i64 wk]) := hQ
  have HE : Hid (BoxQ (w.alloc (.cells #[.slice none 0 0] 25)).drew k #[.slice A zs.length c, .int .i64 id, .int .i64 st, .int .i64 op, .int .i64 arg, .int .i64 pc, .int .i64 til, .bool per, .bool can, .int .i64 r0, .int .i64 r1, .int .i64 r2, .int .i64 r3, .int .i64 r4, .int .i64 code, .int .i64 res, .int .i64 now, .int .i64 wk]) := (hQ.below (below_alloc w _)).drew
  have HR := Lib.hid hr; have HFI := Lib.hid hfi; have HLO := Lib.hid hlo; have HZ1 := Lib.hid hz1; have HZ2 := Lib.hid hz2; have HZ3 := Lib.hid hz3; have HN := Lib.hid hn
  clear hQ hA hr hfi hlo hz1 hz2 hz3 ha hi hw hm hy
  have HQ1 : Hid (Q w ((w.alloc (.cells #[.int .i64 f, .int .i64 0, .int .i64 (id + 1)] 3)).drew) k lo A c zs #[.slice A zs.length c, .int .i64 id, .int .i64 st, .int .i64 op, .int .i64 arg, .int .i64 pc, .int .i64 til, .bool per, .bool can, .int .i64 r0, .int .i64 r1, .int .i64 r2, .int .i64 r3, .int .i64 r4, .int .i64 code, .int .i64 res, .int .i64 now, .int .i64 wk]) := (HQ.out.below (below_alloc _ _)).drew
  have HQ2 : Hid (Q w (((w.alloc (.cells #[.int .i64 f, .int .i64 0, .int .i64 (id + 1)] 3)).alloc (.cells #[.slice none 0 0] 25)).drew) k lo A c zs #[.slice A zs.length c, .int .i64 id, .int .i64 st, .int .i64 op, .int .i64 arg, .int .i64 pc, .int .i64 til, .bool per, .bool can, .int .i64 r0, .int .i64 r1, .int .i64 r2, .int .i64 r3, .int .i64 r4, .int .i64 code, .int .i64 res, .int .i64 now, .int .i64 wk]) := (HQ.out.below (below_alloc2 _ _ _)).drew
  have HQ3 : Hid (Q w (((w.alloc (.cells #[.slice none 0 0] 25)).alloc (.cells #[.int .i64 f, .int .i64 0, .int .i64 (id + 1)] 3)).drew) k lo A c zs #[.slice A zs.length c, .int .i64 id, .int .i64 st, .int .i64 op, .int .i64 arg, .int .i64 pc, .int .i64 til, .bool per, .bool can, .int .i64 r0, .int .i64 r1, .int .i64 r2, .int .i64 r3, .int .i64 r4, .int .i64 code, .int .i64 res, .int .i64 now, .int .i64 wk]) := (HQ.out.below (below_alloc2 _ _ _)).drew
  have HL1 : Hid (Rd ((w.alloc (.cells #[.int .i64 f, .int .i64 0, .int .i64 (id + 1)] 3)).drew) (some ⟨w.heap.size, 0, none⟩) [f, 0, id + 1]) := (rd_lit [f, 0, id + 1] w _ rfl).drew
  have HL2 : Hid (Rd (((w.alloc (.cells #[.int .i64 f, .int .i64 0, .int .i64 (id + 1)] 3)).alloc (.cells #[.slice none 0 0] 25)).drew) (some ⟨w.heap.size, 0, none⟩) [f, 0, id + 1]) := (rd_lit2 [f, 0, id + 1] w _ _ rfl).drew
  have HL3 : Hid (Rd (((w.alloc (.cells #[.slice none 0 0] 25)).alloc (.cells #[.int .i64 f, .int .i64 0, .int .i64 (id + 1)] 3)).drew) (some ⟨w.heap.size + 1, 0, none⟩) [f, 0, id + 1]) := (rd_lit [f, 0, id + 1] (w.alloc _) _ (size_alloc _ _)).drew
  have HX2 : Hid (BoxA (((w.alloc (.cells #[.int .i64 f, .int .i64 0, .int .i64 (id + 1)] 3)).alloc (.cells #[.slice none 0 0] 25)).drew) (w.heap.size + 1) (.slice none 0 0)) := by
    have h := BoxA.new (w.alloc (.cells #[.int .i64 f, .int .i64 0, .int .i64 (id + 1)] 3)) (.slice none 0 0)
    rw [size_alloc] at h; exact h
  have HX3 : Hid (BoxA (((w.alloc (.cells #[.slice none 0 0] 25)).alloc (.cells #[.int .i64 f, .int .i64 0, .int .i64 (id + 1)] 3)).drew) w.heap.size (.slice none 0 0)) := show BoxA (((w.alloc (.cells #[.slice none 0 0] 25)).alloc (.cells #[.int .i64 f, .int .i64 0, .int .i64 (id + 1)] 3))) w.heap.size (.slice none 0 0) from (BoxA.new w (.slice none 0 0)).below (below_alloc _ _)
  go_enter Try.func66, Try.ntmps66
  go_wp2_with fail
  go_cut [2, 3, 4] (fun s2 s3 s4 wx => s3 = .int .i64 (zs.length : Nat) ∧ s4 = .int .i64 0 ∧ GotQ w k lo A c zs #[.slice A zs.length c, .int .i64 id, .int .i64 st, .int .i64 op, .int .i64 arg, .int .i64 pc, .int .i64 til, .bool per, .bool can, .int .i64 r0, .int .i64 r1, .int .i64 r2, .int .i64 r3, .int .i64 r4, .int .i64 code, .int .i64 res, .int .i64 now, .int .i64 wk] (L) s2 wx)
  case first =>
    go_region_law (first
      | (go_simp; go_at_call 69; (with_reducible refine (qFirst_any _ id st op arg pc til per can r0 r1 r2 r3 r4 code res now wk k w.drew HR.out HD.out).mono ?_); rintro e w' ⟨rfl, rfl⟩; rw [HFI.out])
      | (go_simp; go_at_call 69; (with_reducible refine (qFirst_any _ id st op arg pc til per can r0 r1 r2 r3 r4 code res now wk k (w.alloc (.cells #[.slice none 0 0] 25)).drew HR.out HE.out).mono ?_); rintro e w' ⟨rfl, rfl⟩; rw [HFI.out])
      | (go_simp; go_at_call 91; (with_reducible refine (allocThree A _ c 3 zs f (id + 1) _ _ _ _ HN.out HZ1.out HZ2.out HZ3.out HQ1.out.rd HL1.out).mono ?_); rintro e v1 ⟨B, d, rfl, hnew, hb⟩; have HQn := Lib.hid (HQ1.out.below hb); have HNn := Lib.hid hnew; clear hb hnew)
      | (go_simp; go_at_call 91; (with_reducible refine (allocThree A _ c 3 zs f (id + 1) _ _ _ _ HN.out HZ1.out HZ2.out HZ3.out HQ2.out.rd HL2.out).mono ?_); rintro e v1 ⟨B, d, rfl, hnew, hb⟩; have HQn := Lib.hid (HQ2.out.below hb); have HNn := Lib.hid hnew; have HXn := Lib.hid (BoxA.below HX2.out hb); have gx := HXn.out.cell; have gf := HXn.out.froz; clear hb hnew)
      | (go_simp; go_at_call 91; (with_reducible refine (allocThree A _ c 3 zs f (id + 1) _ _ _ _ HN.out HZ1.out HZ2.out HZ3.out HQ3.out.rd HL3.out).mono ?_); rintro e v1 ⟨B, d, rfl, hnew, hb⟩; have HQn := Lib.hid (HQ3.out.below hb); have HNn := Lib.hid hnew; have HXn := Lib.hid (BoxA.below HX3.out hb); have gx := HXn.out.cell; have gf := HXn.out.froz; clear hb hnew))
    all_goals
      go_wp2_with fail
      go_meet
    all_goals first
      | exact ⟨rfl, rfl, GotQ.late HQn.out HNn.out (Nat.le_trans HLO.out (below_alloc w _).size)⟩
      | exact ⟨rfl, rfl, GotQ.early HQn.out HNn.out (Nat.le_trans HLO.out (below_alloc2 w _ _).size) HXn.out (Nat.le_succ _)⟩
      | exact ⟨rfl, rfl, GotQ.early HQn.out HNn.out (Nat.le_trans HLO.out (below_alloc2 w _ _).size) HXn.out (Nat.le_refl _)⟩
  case rest =>
  generalize wc = w5 at hcut ⊢
  obtain ⟨rfl, rfl, g, B, d, rfl, hbx, hnw, hq5⟩ := hcut
  have HQ5 := Lib.hid hq5; have HX5 := Lib.hid hbx; have HN5 := Lib.hid hnw
  clear hq5 hbx hnw HQ HD HE HQ1 HQ2 HQ3 HL1 HL2 HL3 HX2 HX3 hc hca hcb HZ1 HZ2 HZ3
  have hc5 := HQ5.out.box.cell; have hf5 := HQ5.out.box.froz; have hx5 := HX5.out.cell
  have HQ6 : Hid (Q w (w5.setCell ⟨k, 0, none⟩ (.slice B (L).length d)) k lo B d (L) #[.slice B (L).length d, .int .i64 id, .int .i64 st, .int .i64 op, .int .i64 arg, .int .i64 pc, .int .i64 til, .bool per, .bool can, .int .i64 r0, .int .i64 r1, .int .i64 r2, .int .i64 r3, .int .i64 r4, .int .i64 code, .int .i64 res, .int .i64 now, .int .i64 wk]) := HQ5.out.arena HN5.out _
  go_upto_region 4 with fail
  generalize w5.setCell ⟨k, 0, none⟩ (.slice B (L).length d) = w6 at HQ6 ⊢
  clear hc5 hf5 hx5 HQ5 HX5 HN5
  have hc6 := HQ6.out.box.cell; have hf6 := HQ6.out.box.froz
  have HD6 := Lib.hid HQ6.out.drew
  go_region_law (first
    | (go_simp; go_at_call 61; (with_reducible refine (qIsPut_any _ id st op arg pc til per can r0 r1 r2 r3 r4 code res now wk k w6.drew HD6.out.box).mono ?_); rintro e w' ⟨rfl, rfl⟩)
    | (go_simp; go_at_call 93; (with_reducible refine (implNodeRef_any _ _ w6.drew y 0 HRF.out).mono ?_); rintro e w' ⟨rfl, rfl⟩))
  all_goals
    go_wp2
    exact bodyPost_end (results_none rfl _ _ _) rfl ⟨B, d, rfl, (HD6.out.set 12 _).set 5 _⟩

set_option maxHeartbeats 4000000 in
set_option maxRecDepth 100000 in
theorem qjoin4a (id : Int) (st : Int) (op : Int) (arg : Int) (til : Int) (per : Bool) (can : Bool) (r0 : Int) (r1 : Int) (r2 : Int) (r3 : Int) (r4 : Int) (code : Int) (res : Int) (now wk : Int) (f : Int) (y : Int) (L : List Int) (k lo : Nat) (w : World) (A : Option Addr) (c : Nat) (zs : List Int) (hn : zs.length ≤ 1048576) (ha : arenaB zs = true) (h0 : zs.getD 0 0 = 0) (hlo : lo ≤ w.heap.size) (hr : -1000000000000 ≤ arg ∧ arg ≤ 1000000000000) (hi : -1000000000000 ≤ id ∧ id ≤ 1000000000000) (hfi : firstI op arg = f) (hw : wordsB [f, 0, id + 1] = true) (hm : zs.length + 3 ≤ 400) (hy : 2 * (zs.length : Int) + bitI (mineB op) = y) (hl : zs ++ [f, 0, id + 1] = L) (hQ : BoxQ w k #[.slice A zs.length c, .int .i64 id, .int .i64 st, .int .i64 op, .int .i64 arg, .int .i64 4, .int .i64 til, .bool per, .bool can, .int .i64 r0, .int .i64 r1, .int .i64 r2, .int .i64 r3, .int .i64 r4, .int .i64 code, .int .i64 res, .int .i64 now, .int .i64 wk]) (hA : NewA lo w A c zs) :
    Calls Try.prog 28 #[.pointer (some ⟨k, 0, none⟩)] w fun e w' => ∃ B d, e = .returned (.tuple #[]) ∧ Q w w' k lo B d (L) #[.slice B (L).length d, .int .i64 id, .int .i64 st, .int .i64 op, .int .i64 arg, .int .i64 5, .int .i64 til, .bool per, .bool can, .int .i64 r0, .int .i64 r1, .int .i64 r2, .int .i64 y, .int .i64 r4, .int .i64 code, .int .i64 res, .int .i64 now, .int .i64 wk] := by
  have hc := hQ.cell
  have hf := hQ.froz
  have HQ := Lib.hid (Q.start hQ hA); clear hQ hA
  have H0 := Lib.hid h0; have HA := Lib.hid ha; have HLO := Lib.hid hlo; clear h0 ha hlo
  have HR := Lib.hid hr; clear hr
  have HI := Lib.hid hi; clear hi
  have HFI := Lib.hid hfi; clear hfi
  have HW := Lib.hid hw; clear hw
  have HM := Lib.hid hm; clear hm
  have HY := Lib.hid hy; clear hy
  have HL := Lib.hid hl; clear hl
  have HD := Lib.hid HQ.out.drew; have HLD : Hid (lo ≤ w.drew.heap.size) := HLO.out
  go_enter Try.func28, Try.ntmps28
  go_upto_region 16 with fail
  go_wp2_with fail
  refine (qMake_room _ _ _ _ _ _ _ _ _ _ _ _ _ _ _ _ _ f y zs L HL.out _ lo _ _ _ hn HA.out HLO.out HR.out HI.out HFI.out HW.out HM.out HY.out HQ.out.box HQ.out.own).mono ?_
  rintro e w1 ⟨B, d, rfl, hq1⟩; have HQ1 := Lib.hid hq1; clear hq1
  go_wp2
  exact bodyPost_end (results_none rfl _ _ _) rfl ⟨_, _, rfl, HQ1.out⟩

set_option maxHeartbeats 4000000 in
set_option maxRecDepth 100000 in
theorem qjoin4b (id : Int) (st : Int) (op : Int) (arg : Int) (til : Int) (per : Bool) (can : Bool) (r0 : Int) (r1 : Int) (r2 : Int) (r3 : Int) (r4 : Int) (code : Int) (res : Int) (now wk : Int) (f : Int) (k lo : Nat) (w : World) (A : Option Addr) (c : Nat) (zs : List Int) (hn : zs.length ≤ 1048576) (ha : arenaB zs = true) (h0 : zs.getD 0 0 = 0) (hlo : lo ≤ w.heap.size) (hr : -1000000000000 ≤ arg ∧ arg ≤ 1000000000000) (hi : -1000000000000 ≤ id ∧ id ≤ 1000000000000) (hfi : firstI op arg = f) (hw : wordsB [f, 0, id + 1] = true) (hm : 400 < zs.length + 3) (hQ : BoxQ w k #[.slice A zs.length c, .int .i64 id, .int .i64 st, .int .i64 op, .int .i64 arg, .int .i64 4, .int .i64 til, .bool per, .bool can, .int .i64 r0, .int .i64 r1, .int .i64 r2, .int .i64 r3, .int .i64 r4, .int .i64 code, .int .i64 res, .int .i64 now, .int .i64 wk]) (hA : NewA lo w A c zs) :
    Calls Try.prog 28 #[.pointer (some ⟨k, 0, none⟩)] w fun e w' => ∃ B d, e = .returned (.tuple #[]) ∧ Q w w' k lo B d (zs) #[.slice B (zs).length d, .int .i64 id, .int .i64 0, .int .i64 0, .int .i64 0, .int .i64 0, .int .i64 0, .bool false, .bool false, .int .i64 0, .int .i64 0, .int .i64 0, .int .i64 0, .int .i64 0, .int .i64 7, .int .i64 0, .int .i64 now, .int .i64 wk] := by
  have hc := hQ.cell
  have hf := hQ.froz
  have HQ := Lib.hid (Q.start hQ hA); clear hQ hA
  have H0 := Lib.hid h0; have HA := Lib.hid ha; have HLO := Lib.hid hlo; clear h0 ha hlo
  have HR := Lib.hid hr; clear hr
  have HI := Lib.hid hi; clear hi
  have HFI := Lib.hid hfi; clear hfi
  have HW := Lib.hid hw; clear hw
  have HM := Lib.hid hm; clear hm
  have HD := Lib.hid HQ.out.drew; have HLD : Hid (lo ≤ w.drew.heap.size) := HLO.out
  go_enter Try.func28, Try.ntmps28
  go_upto_region 16 with fail
  go_wp2_with fail
  refine (qMake_full _ _ _ _ _ _ _ _ _ _ _ _ _ _ _ _ _ f zs _ lo _ _ _ hn HA.out HLO.out HR.out HI.out HFI.out HW.out HM.out HQ.out.box HQ.out.own).mono ?_
  rintro e w1 ⟨B, d, rfl, hq1⟩; have HQ1 := Lib.hid hq1; clear hq1
  go_wp2
  exact bodyPost_end (results_none rfl _ _ _) rfl ⟨_, _, rfl, HQ1.out⟩
end Go.Proofs.Ytabojajhnhcemaa
