/-
  The program's functions over a step under way: meets, joinTail, await.
  The ways of a step of the queue (chapter 5), one by one, and that there is one for every right thread.
  What a step may take for granted: a right arena, a right thread that runs with put or take, a time.
  What StepQueue refuses.
  The program's StepQueue: what lies beside its frame.
  The program's join, by Pc.
  The program's serve, by Pc.
-/
import Derived.Test.YtabojajhnhcemaaJ15
import Derived.Test.YtabojajhnhcemaaJ10
import Derived.StillTailTactics
namespace Go.Proofs.Ytabojajhnhcemaa
open Go.RowKit

/-- N's node is of the other kind, and its item waits. -/
def meetB (op n x : Int) : Bool := (bringsR n != mineB op) && waitsB (bringsR n) x

set_option maxHeartbeats 1000000 in
theorem qMeets_any (v : Value) (id st op arg pc til : Int) (per can : Bool) (r0 r1 r2 r3 r4 code res : Int) (now wk : Int) (k : Nat) (w : World) (hQ : BoxQ w k #[v, .int .i64 id, .int .i64 st, .int .i64 op, .int .i64 arg, .int .i64 pc, .int .i64 til, .bool per, .bool can, .int .i64 r0, .int .i64 r1, .int .i64 r2, .int .i64 r3, .int .i64 r4, .int .i64 code, .int .i64 res, .int .i64 now, .int .i64 wk]) :
    Calls Try.prog 72 #[.pointer (some ⟨k, 0, none⟩)] w fun e w' => e = .returned (.bool (meetB op r2 r4)) ∧ w = w' := by
  have hc := hQ.cell
  have HQ := Lib.hid hQ; clear hQ
  cases hb : bringsR r2
  all_goals
    cases hm : mineB op
    all_goals
      have HB := Lib.hid hb
      have HM := Lib.hid hm
      have HV : Hid (meetB op r2 r4 = ((bringsR r2 != mineB op) && waitsB (bringsR r2) r4)) := rfl
      rw [hb, hm] at HV
      simp only [bne_self_eq_false, Bool.false_and, Bool.true_bne, Bool.false_bne, Bool.not_false, Bool.true_and] at HV
      clear hb hm
      go_enter Try.func72, Try.ntmps72
      go_wp2_with (first
        | (go_at_call 95; refine (brings_any _ _).mono ?_; rintro e w' ⟨rfl, rfl⟩; rw [HB.out])
        | (go_at_call 61; refine (qIsPut_any _ _ _ _ _ _ _ _ _ _ _ _ _ _ _ _ _ _ _ _ HQ.out).mono ?_; rintro e w' ⟨rfl, rfl⟩; rw [HM.out])
        | (go_at_call 96; refine (implItemWaits_any _ _ _).mono ?_; rintro e w' ⟨rfl, rfl⟩))
      go_ret
      exact ⟨ret_bool HV.out.symm, rfl⟩

/-- What a thread is behind joinTail. -/
def tailT (id st op arg _pc til : Int) (per can : Bool) (r0 r1 r2 r3 r4 code res : Int) (now : Int) : Th :=
  if r2 = 0 then (if gvB can til now = true then endT id (gvCode can) 0 else ⟨id, st, op, arg, if (r3 == 0) = true then 4 else 5, til, per, can, r0, r1, r2, r3, r4, code, res⟩)
  else ⟨id, st, op, arg, 3, til, per, can, r0, r1, r2, r3, r4, code, res⟩

set_option maxHeartbeats 2000000 in
theorem qTail_help (id st op arg pc til : Int) (per can : Bool) (r0 r1 r2 r3 r4 code res : Int) (now wk : Int) (k lo : Nat) (w : World) (A : Option Addr) (c : Nat) (zs : List Int) (h2 : (r2 != 0) = true) (hQ : BoxQ w k #[.slice A zs.length c, .int .i64 id, .int .i64 st, .int .i64 op, .int .i64 arg, .int .i64 pc, .int .i64 til, .bool per, .bool can, .int .i64 r0, .int .i64 r1, .int .i64 r2, .int .i64 r3, .int .i64 r4, .int .i64 code, .int .i64 res, .int .i64 now, .int .i64 wk]) (hA : NewA lo w A c zs) :
    Calls Try.prog 64 #[.pointer (some ⟨k, 0, none⟩)] w fun e w' => e = .returned (.tuple #[]) ∧ Q w w' k lo A c zs #[.slice A zs.length c, .int .i64 id, .int .i64 st, .int .i64 op, .int .i64 arg, .int .i64 3, .int .i64 til, .bool per, .bool can, .int .i64 r0, .int .i64 r1, .int .i64 r2, .int .i64 r3, .int .i64 r4, .int .i64 code, .int .i64 res, .int .i64 now, .int .i64 wk] := by
  have hc := hQ.cell
  have hf := hQ.froz
  have HQ := Lib.hid (Q.start hQ hA); clear hQ hA
  go_enter Try.func64, Try.ntmps64
  go_wp2
  exact bodyPost_end (results_none rfl _ _ _) rfl ⟨rfl, HQ.out.set 5 _⟩

set_option maxHeartbeats 2000000 in
theorem qTail_give (id st op arg pc til : Int) (per can : Bool) (r0 r1 r2 r3 r4 code res : Int) (now wk : Int) (k lo : Nat) (w : World) (A : Option Addr) (c : Nat) (zs : List Int) (h2 : (r2 != 0) = false) (ht : thB id st op arg pc til per can r0 r1 r2 r3 r4 code res = true) (hi : inB now 0 1000000 = true) (hg : gvB can til now = true) (hQ : BoxQ w k #[.slice A zs.length c, .int .i64 id, .int .i64 st, .int .i64 op, .int .i64 arg, .int .i64 pc, .int .i64 til, .bool per, .bool can, .int .i64 r0, .int .i64 r1, .int .i64 r2, .int .i64 r3, .int .i64 r4, .int .i64 code, .int .i64 res, .int .i64 now, .int .i64 wk]) (hA : NewA lo w A c zs) :
    Calls Try.prog 64 #[.pointer (some ⟨k, 0, none⟩)] w fun e w' => e = .returned (.tuple #[]) ∧ Q w w' k lo A c zs #[.slice A zs.length c, .int .i64 id, .int .i64 0, .int .i64 0, .int .i64 0, .int .i64 0, .int .i64 0, .bool false, .bool false, .int .i64 0, .int .i64 0, .int .i64 0, .int .i64 0, .int .i64 0, .int .i64 (gvCode can), .int .i64 0, .int .i64 now, .int .i64 wk] := by
  have hc := hQ.cell
  have HQ := Lib.hid (Q.start hQ hA); clear hQ hA
  have HT := Lib.hid ht; have HI := Lib.hid hi; have HG := Lib.hid hg; clear ht hi hg
  go_enter Try.func64, Try.ntmps64
  go_wp2_with fail
  refine (qGives_any _ _ _ _ _ _ _ _ _ _ _ _ _ _ _ _ _ _ _ _ HT.out HI.out HQ.out.box).mono ?_
  rintro e w1 ⟨rfl, hb⟩
  rw [HG.out]
  have HQ1 := Lib.hid (HQ.out.below hb)
  have hc1 := HQ1.out.box.cell
  clear hb hc HQ
  go_wp2_with fail
  refine (givenUp_any _ _ _ _ _ _ _ _ _ _ _ _ _ _ _ _).mono ?_
  rintro e w2 ⟨rfl, hb⟩
  have HQ2 := Lib.hid (HQ1.out.below hb)
  have hc2 := HQ2.out.box.cell
  have hf2 := HQ2.out.box.froz
  clear hb hc1 HQ1
  go_wp2
  exact bodyPost_end (results_none rfl _ _ _) rfl ⟨rfl, HQ2.out.thread _ _ _ _ _ _ _ _ _ _ _ _ _ _ _⟩

set_option maxHeartbeats 2000000 in
theorem qTail_go (id st op arg pc til : Int) (per can : Bool) (r0 r1 r2 r3 r4 code res : Int) (now wk m : Int) (hm : (if (r3 == 0) = true then 4 else 5) = m) (k lo : Nat) (w : World) (A : Option Addr) (c : Nat) (zs : List Int) (h2 : (r2 != 0) = false) (ht : thB id st op arg pc til per can r0 r1 r2 r3 r4 code res = true) (hi : inB now 0 1000000 = true) (hg : gvB can til now = false) (hQ : BoxQ w k #[.slice A zs.length c, .int .i64 id, .int .i64 st, .int .i64 op, .int .i64 arg, .int .i64 pc, .int .i64 til, .bool per, .bool can, .int .i64 r0, .int .i64 r1, .int .i64 r2, .int .i64 r3, .int .i64 r4, .int .i64 code, .int .i64 res, .int .i64 now, .int .i64 wk]) (hA : NewA lo w A c zs) :
    Calls Try.prog 64 #[.pointer (some ⟨k, 0, none⟩)] w fun e w' => e = .returned (.tuple #[]) ∧ Q w w' k lo A c zs #[.slice A zs.length c, .int .i64 id, .int .i64 st, .int .i64 op, .int .i64 arg, .int .i64 m, .int .i64 til, .bool per, .bool can, .int .i64 r0, .int .i64 r1, .int .i64 r2, .int .i64 r3, .int .i64 r4, .int .i64 code, .int .i64 res, .int .i64 now, .int .i64 wk] := by
  have HM := Lib.hid hm; clear hm
  have hc := hQ.cell
  have HQ := Lib.hid (Q.start hQ hA); clear hQ hA
  have HT := Lib.hid ht; have HI := Lib.hid hi; have HG := Lib.hid hg; clear ht hi hg
  go_enter Try.func64, Try.ntmps64
  go_wp2_with fail
  refine (qGives_any _ _ _ _ _ _ _ _ _ _ _ _ _ _ _ _ _ _ _ _ HT.out HI.out HQ.out.box).mono ?_
  rintro e w1 ⟨rfl, hb⟩
  rw [HG.out]
  have HQ1 := Lib.hid (HQ.out.below hb)
  have hc1 := HQ1.out.box.cell
  clear hb hc HQ
  go_wp2_with fail
  refine (qChoose_any _ _ _ m HM.out _ _ _ _ _ _ _ _ _ _ _ _ _ _ _ _ _ _ lo _ _ _ zs HQ1.out.box HQ1.out.own).mono ?_
  rintro e w2 ⟨rfl, hq⟩
  have HQ2 := Lib.hid (HQ1.out.then hq)
  clear hq hc1 HQ1
  go_wp2
  exact bodyPost_end (results_none rfl _ _ _) rfl ⟨rfl, HQ2.out⟩

set_option maxHeartbeats 2000000 in
theorem qAwait_leave (id st op arg pc til : Int) (per can : Bool) (r0 r1 r2 r3 r4 code res : Int) (now wk : Int) (k lo : Nat) (w : World) (A : Option Addr) (c : Nat) (zs : List Int) (hr : -1000000000000 ≤ arg ∧ arg ≤ 1000000000000) (h2 : (r4 != firstI op arg) = true) (hQ : BoxQ w k #[.slice A zs.length c, .int .i64 id, .int .i64 st, .int .i64 op, .int .i64 arg, .int .i64 pc, .int .i64 til, .bool per, .bool can, .int .i64 r0, .int .i64 r1, .int .i64 r2, .int .i64 r3, .int .i64 r4, .int .i64 code, .int .i64 res, .int .i64 now, .int .i64 wk]) (hA : NewA lo w A c zs) :
    Calls Try.prog 68 #[.pointer (some ⟨k, 0, none⟩)] w fun e w' => e = .returned (.tuple #[]) ∧ Q w w' k lo A c zs #[.slice A zs.length c, .int .i64 id, .int .i64 st, .int .i64 op, .int .i64 arg, .int .i64 11, .int .i64 til, .bool per, .bool can, .int .i64 r0, .int .i64 r1, .int .i64 r2, .int .i64 r3, .int .i64 r4, .int .i64 code, .int .i64 res, .int .i64 now, .int .i64 wk] := by
  have hc := hQ.cell
  have HQ := Lib.hid (Q.start hQ hA)
  have HBx := Lib.hid hQ; clear hQ hA
  have HR := Lib.hid hr; clear hr
  go_enter Try.func68, Try.ntmps68
  go_wp2_with fail
  go_quiet (first | (go_at_call 69; exact Calls.quiet_of_same ((qFirst_any _ _ _ _ _ _ _ _ _ _ _ _ _ _ _ _ _ _ _ _ HR.out (HBx.out.below (below_drewN _))).mono fun _ _ h => ⟨h.1, h.2.symm⟩)))
  go_upto_region 2 with fail
  have HQ1 := Lib.hid (HQ.out.below (below_drewN nq))
  generalize w.drewN nq = w1 at HQ1 ⊢
  have hc1 := HQ1.out.box.cell
  have hf1 := HQ1.out.box.froz
  go_wp2
  exact bodyPost_end (results_none rfl _ _ _) rfl ⟨rfl, HQ1.out.set 5 _⟩

set_option maxHeartbeats 2000000 in
theorem qAwait_give (id st op arg pc til : Int) (per can : Bool) (r0 r1 r2 r3 r4 code res : Int) (now wk : Int) (k lo : Nat) (w : World) (A : Option Addr) (c : Nat) (zs : List Int) (hr : -1000000000000 ≤ arg ∧ arg ≤ 1000000000000) (h2 : (r4 != firstI op arg) = false) (ht : thB id st op arg pc til per can r0 r1 r2 r3 r4 code res = true) (hi : inB now 0 1000000 = true) (hg : gvB can til now = true) (hQ : BoxQ w k #[.slice A zs.length c, .int .i64 id, .int .i64 st, .int .i64 op, .int .i64 arg, .int .i64 pc, .int .i64 til, .bool per, .bool can, .int .i64 r0, .int .i64 r1, .int .i64 r2, .int .i64 r3, .int .i64 r4, .int .i64 code, .int .i64 res, .int .i64 now, .int .i64 wk]) (hA : NewA lo w A c zs) :
    Calls Try.prog 68 #[.pointer (some ⟨k, 0, none⟩)] w fun e w' => e = .returned (.tuple #[]) ∧ Q w w' k lo A c zs #[.slice A zs.length c, .int .i64 id, .int .i64 st, .int .i64 op, .int .i64 arg, .int .i64 10, .int .i64 til, .bool per, .bool can, .int .i64 r0, .int .i64 r1, .int .i64 r2, .int .i64 r3, .int .i64 r4, .int .i64 code, .int .i64 res, .int .i64 now, .int .i64 wk] := by
  have hc := hQ.cell
  have HQ := Lib.hid (Q.start hQ hA)
  have HBx := Lib.hid hQ; clear hQ hA
  have HR := Lib.hid hr; clear hr
  have HT := Lib.hid ht; have HI := Lib.hid hi; have HG := Lib.hid hg; clear ht hi hg
  go_enter Try.func68, Try.ntmps68
  go_wp2_with fail
  go_quiet (first | (go_at_call 69; exact Calls.quiet_of_same ((qFirst_any _ _ _ _ _ _ _ _ _ _ _ _ _ _ _ _ _ _ _ _ HR.out (HBx.out.below (below_drewN _))).mono fun _ _ h => ⟨h.1, h.2.symm⟩)))
  go_upto_region 3 with fail
  have HQ1 := Lib.hid (HQ.out.below (below_drewN nq))
  generalize w.drewN nq = w1 at HQ1 ⊢
  have hc1 := HQ1.out.box.cell
  clear hc HQ HBx
  go_wp2_with fail
  refine (qGives_any _ _ _ _ _ _ _ _ _ _ _ _ _ _ _ _ _ _ _ _ HT.out HI.out HQ1.out.box).mono ?_
  rintro e w2 ⟨rfl, hb⟩
  rw [HG.out]
  have HQ2 := Lib.hid (HQ1.out.below hb)
  have hc2 := HQ2.out.box.cell
  clear hb hc1 HQ1
  have hf2 := HQ2.out.box.froz
  go_wp2
  exact bodyPost_end (results_none rfl _ _ _) rfl ⟨rfl, HQ2.out.set 5 _⟩

set_option maxHeartbeats 2000000 in
theorem qAwait_park (id st op arg pc til : Int) (per can : Bool) (r0 r1 r2 r3 r4 code res : Int) (now wk : Int) (k lo : Nat) (w : World) (A : Option Addr) (c : Nat) (zs : List Int) (hr : -1000000000000 ≤ arg ∧ arg ≤ 1000000000000) (h2 : (r4 != firstI op arg) = false) (ht : thB id st op arg pc til per can r0 r1 r2 r3 r4 code res = true) (hi : inB now 0 1000000 = true) (hg : gvB can til now = false) (st' : Int) (per' : Bool) (hp : parkB id st op arg pc til per can r0 r1 r2 r3 r4 code res = (⟨id, st', op, arg, pc, til, per', can, r0, r1, r2, r3, r4, code, res⟩, 0)) (hQ : BoxQ w k #[.slice A zs.length c, .int .i64 id, .int .i64 st, .int .i64 op, .int .i64 arg, .int .i64 pc, .int .i64 til, .bool per, .bool can, .int .i64 r0, .int .i64 r1, .int .i64 r2, .int .i64 r3, .int .i64 r4, .int .i64 code, .int .i64 res, .int .i64 now, .int .i64 wk]) (hA : NewA lo w A c zs) :
    Calls Try.prog 68 #[.pointer (some ⟨k, 0, none⟩)] w fun e w' => e = .returned (.tuple #[]) ∧ Q w w' k lo A c zs #[.slice A zs.length c, .int .i64 id, .int .i64 st', .int .i64 op, .int .i64 arg, .int .i64 pc, .int .i64 til, .bool per', .bool can, .int .i64 r0, .int .i64 r1, .int .i64 r2, .int .i64 r3, .int .i64 r4, .int .i64 code, .int .i64 res, .int .i64 now, .int .i64 wk] := by
  have hc := hQ.cell
  have HQ := Lib.hid (Q.start hQ hA)
  have HBx := Lib.hid hQ; clear hQ hA
  have HR := Lib.hid hr; clear hr
  have HT := Lib.hid ht; have HI := Lib.hid hi; have HG := Lib.hid hg; clear ht hi hg
  have HP := Lib.hid hp; clear hp
  go_enter Try.func68, Try.ntmps68
  go_wp2_with fail
  go_quiet (first | (go_at_call 69; exact Calls.quiet_of_same ((qFirst_any _ _ _ _ _ _ _ _ _ _ _ _ _ _ _ _ _ _ _ _ HR.out (HBx.out.below (below_drewN _))).mono fun _ _ h => ⟨h.1, h.2.symm⟩)))
  go_upto_region 3 with fail
  have HQ1 := Lib.hid (HQ.out.below (below_drewN nq))
  generalize w.drewN nq = w1 at HQ1 ⊢
  have hc1 := HQ1.out.box.cell
  clear hc HQ HBx
  go_wp2_with fail
  refine (qGives_any _ _ _ _ _ _ _ _ _ _ _ _ _ _ _ _ _ _ _ _ HT.out HI.out HQ1.out.box).mono ?_
  rintro e w2 ⟨rfl, hb⟩
  rw [HG.out]
  have HQ2 := Lib.hid (HQ1.out.below hb)
  have hc2 := HQ2.out.box.cell
  clear hb hc1 HQ1
  go_wp2_with fail
  refine (implPark_any _ _ _ _ _ _ _ _ _ _ _ _ _ _ _ _ _ _ _ _ _ _ _ _ _ _ _ _ _ _ _ _ HP.out).mono ?_
  rintro e w3 ⟨rfl, hb⟩
  have HQ3 := Lib.hid (HQ2.out.below hb)
  have hc3 := HQ3.out.box.cell
  have hf3 := HQ3.out.box.froz
  clear hb hc2 HQ2
  go_wp2
  exact bodyPost_end (results_none rfl _ _ _) rfl ⟨rfl, HQ3.out.thread _ _ _ _ _ _ _ _ _ _ _ _ _ _ _⟩
end Go.Proofs.Ytabojajhnhcemaa

namespace Go.Proofs.Ytabojajhnhcemaa
open Go.RowKit

/-- A step leads from Pc to a list, a thread, and whom it wakes. -/
inductive StepTo (zs : List Int) (id st op arg til : Int) (per can : Bool) (r0 r1 r2 r3 r4 code res now : Int) : Int → List Int → Th → Int → Prop
  | s0  : StepTo zs id st op arg til per can r0 r1 r2 r3 r4 code res now 0 zs ⟨id, st, op, arg, 1, til, per, can, loadZ zs 2, r1, r2, r3, r4, code, res⟩ (-1)
  | s1a (h1 : loadZ zs 1 = r0) : StepTo zs id st op arg til per can r0 r1 r2 r3 r4 code res now 1 zs ⟨id, st, op, arg, 2, til, per, can, r0, r0, r2, r3, r4, code, res⟩ (-1)
  | s1b (h1 : (loadZ zs 1 == r0) = false) (h2 : (r0.tmod 2 == bitI (mineB op)) = true) : StepTo zs id st op arg til per can r0 r1 r2 r3 r4 code res now 1 zs ⟨id, st, op, arg, 2, til, per, can, r0, loadZ zs 1, r2, r3, r4, code, res⟩ (-1)
  | s1c (h1 : (loadZ zs 1 == r0) = false) (h2 : (r0.tmod 2 == bitI (mineB op)) = false) : StepTo zs id st op arg til per can r0 r1 r2 r3 r4 code res now 1 zs ⟨id, st, op, arg, 6, til, per, can, r0, loadZ zs 1, r2, r3, r4, code, res⟩ (-1)
  | s2a (h1 : (loadZ zs (halfI r0 + 1) != 0) = true) : StepTo zs id st op arg til per can r0 r1 r2 r3 r4 code res now 2 zs ⟨id, st, op, arg, 3, til, per, can, r0, r1, loadZ zs (halfI r0 + 1), r3, r4, code, res⟩ (-1)
  | s2b (h1 : (loadZ zs (halfI r0 + 1) != 0) = false) (h2 : gvB can til now = true) : StepTo zs id st op arg til per can r0 r1 r2 r3 r4 code res now 2 zs ⟨id, 0, 0, 0, 0, 0, false, false, 0, 0, 0, 0, 0, gvCode can, 0⟩ (-1)
  | s2c (h1 : (loadZ zs (halfI r0 + 1) != 0) = false) (h2 : gvB can til now = false) (h3 : (r3 == 0) = true) : StepTo zs id st op arg til per can r0 r1 r2 r3 r4 code res now 2 zs ⟨id, st, op, arg, 4, til, per, can, r0, r1, loadZ zs (halfI r0 + 1), r3, r4, code, res⟩ (-1)
  | s2d (h1 : (loadZ zs (halfI r0 + 1) != 0) = false) (h2 : gvB can til now = false) (h3 : (r3 == 0) = false) : StepTo zs id st op arg til per can r0 r1 r2 r3 r4 code res now 2 zs ⟨id, st, op, arg, 5, til, per, can, r0, r1, loadZ zs (halfI r0 + 1), r3, r4, code, res⟩ (-1)
  | s3  : StepTo zs id st op arg til per can r0 r1 r2 r3 r4 code res now 3 (casZ zs 2 r0 r2) ⟨id, st, op, arg, 0, til, per, can, r0, r1, r2, r3, r4, code, res⟩ (-1)
  | s4a (h1 : zs.length + 3 ≤ 400) : StepTo zs id st op arg til per can r0 r1 r2 r3 r4 code res now 4 (zs ++ [firstI op arg, 0, id + 1]) ⟨id, st, op, arg, 5, til, per, can, r0, r1, r2, 2 * (zs.length : Int) + bitI (mineB op), r4, code, res⟩ (-1)
  | s4b (h1 : 400 < zs.length + 3) : StepTo zs id st op arg til per can r0 r1 r2 r3 r4 code res now 4 zs ⟨id, 0, 0, 0, 0, 0, false, false, 0, 0, 0, 0, 0, 7, 0⟩ (-1)
  | s5t (h1 : casOk zs (halfI r0 + 1) 0 = true) : StepTo zs id st op arg til per can r0 r1 r2 r3 r4 code res now 5 (casZ zs (halfI r0 + 1) 0 r3) ⟨id, st, op, arg, 8, til, per, can, r0, r1, r2, r3, r4, code, res⟩ (-1)
  | s5f (h1 : casOk zs (halfI r0 + 1) 0 = false) : StepTo zs id st op arg til per can r0 r1 r2 r3 r4 code res now 5 (casZ zs (halfI r0 + 1) 0 r3) ⟨id, st, op, arg, 0, til, per, can, r0, r1, r2, r3, r4, code, res⟩ (-1)
  | s8  : StepTo zs id st op arg til per can r0 r1 r2 r3 r4 code res now 8 (casZ zs 2 r0 r3) ⟨id, st, op, arg, 9, til, per, can, r0, r1, r2, r3, r4, code, res⟩ (-1)
  | s9a (h1 : (loadZ zs (halfI r3) != firstI op arg) = true) : StepTo zs id st op arg til per can r0 r1 r2 r3 r4 code res now 9 zs ⟨id, st, op, arg, 11, til, per, can, r0, r1, r2, r3, loadZ zs (halfI r3), code, res⟩ (-1)
  | s9b (h1 : (loadZ zs (halfI r3) != firstI op arg) = false) (h2 : gvB can til now = true) : StepTo zs id st op arg til per can r0 r1 r2 r3 r4 code res now 9 zs ⟨id, st, op, arg, 10, til, per, can, r0, r1, r2, r3, loadZ zs (halfI r3), code, res⟩ (-1)
  | s9c (h1 : (loadZ zs (halfI r3) != firstI op arg) = false) (h2 : gvB can til now = false) (h3 : per = true) : StepTo zs id st op arg til per can r0 r1 r2 r3 r4 code res now 9 zs ⟨id, st, op, arg, 9, til, false, can, r0, r1, r2, r3, loadZ zs (halfI r3), code, res⟩ (-1)
  | s9d (h1 : (loadZ zs (halfI r3) != firstI op arg) = false) (h2 : gvB can til now = false) (h3 : per = false) : StepTo zs id st op arg til per can r0 r1 r2 r3 r4 code res now 9 zs ⟨id, 2, op, arg, 9, til, per, can, r0, r1, r2, r3, loadZ zs (halfI r3), code, res⟩ (-1)
  | s10t (h1 : casOk zs (halfI r3) (firstI op arg) = true) : StepTo zs id st op arg til per can r0 r1 r2 r3 r4 code res now 10 (casZ zs (halfI r3) (firstI op arg) (-1)) ⟨id, 0, 0, 0, 0, 0, false, false, 0, 0, 0, 0, 0, gvCode can, 0⟩ (-1)
  | s10f (h1 : casOk zs (halfI r3) (firstI op arg) = false) : StepTo zs id st op arg til per can r0 r1 r2 r3 r4 code res now 10 (casZ zs (halfI r3) (firstI op arg) (-1)) ⟨id, st, op, arg, 9, til, per, can, r0, r1, r2, r3, r4, code, res⟩ (-1)
  | s11  : StepTo zs id st op arg til per can r0 r1 r2 r3 r4 code res now 11 (casZ zs 1 r0 r3) ⟨id, 0, 0, 0, 0, 0, false, false, 0, 0, 0, 0, 0, 0, wellI op arg r4⟩ (-1)
  | s6t (h1 : (loadZ zs (halfI r1 + 1) != 0) = true) : StepTo zs id st op arg til per can r0 r1 r2 r3 r4 code res now 6 zs ⟨id, st, op, arg, 7, til, per, can, r0, r1, loadZ zs (halfI r1 + 1), r3, r4, code, res⟩ (-1)
  | s6f (h1 : (loadZ zs (halfI r1 + 1) != 0) = false) : StepTo zs id st op arg til per can r0 r1 r2 r3 r4 code res now 6 zs ⟨id, st, op, arg, 0, til, per, can, r0, r1, loadZ zs (halfI r1 + 1), r3, r4, code, res⟩ (-1)
  | s7tt (h1 : (r2.tmod 2 == 1) = true) (h2 : mineB op = true) : StepTo zs id st op arg til per can r0 r1 r2 r3 r4 code res now 7 zs ⟨id, st, op, arg, 12, til, per, can, r0, r1, r2, r3, loadZ zs (halfI r2), code, res⟩ (-1)
  | s7ff (h1 : (r2.tmod 2 == 1) = false) (h2 : mineB op = false) : StepTo zs id st op arg til per can r0 r1 r2 r3 r4 code res now 7 zs ⟨id, st, op, arg, 12, til, per, can, r0, r1, r2, r3, loadZ zs (halfI r2), code, res⟩ (-1)
  | s7tft (h1 : (r2.tmod 2 == 1) = true) (h2 : mineB op = false) (h3 : waitsB true (loadZ zs (halfI r2)) = true) : StepTo zs id st op arg til per can r0 r1 r2 r3 r4 code res now 7 zs ⟨id, st, op, arg, 13, til, per, can, r0, r1, r2, r3, loadZ zs (halfI r2), code, res⟩ (-1)
  | s7tff (h1 : (r2.tmod 2 == 1) = true) (h2 : mineB op = false) (h3 : waitsB true (loadZ zs (halfI r2)) = false) : StepTo zs id st op arg til per can r0 r1 r2 r3 r4 code res now 7 zs ⟨id, st, op, arg, 12, til, per, can, r0, r1, r2, r3, loadZ zs (halfI r2), code, res⟩ (-1)
  | s7ftt (h1 : (r2.tmod 2 == 1) = false) (h2 : mineB op = true) (h3 : waitsB false (loadZ zs (halfI r2)) = true) : StepTo zs id st op arg til per can r0 r1 r2 r3 r4 code res now 7 zs ⟨id, st, op, arg, 13, til, per, can, r0, r1, r2, r3, loadZ zs (halfI r2), code, res⟩ (-1)
  | s7ftf (h1 : (r2.tmod 2 == 1) = false) (h2 : mineB op = true) (h3 : waitsB false (loadZ zs (halfI r2)) = false) : StepTo zs id st op arg til per can r0 r1 r2 r3 r4 code res now 7 zs ⟨id, st, op, arg, 12, til, per, can, r0, r1, r2, r3, loadZ zs (halfI r2), code, res⟩ (-1)
  | s12  : StepTo zs id st op arg til per can r0 r1 r2 r3 r4 code res now 12 (casZ zs 1 r1 r2) ⟨id, st, op, arg, 0, til, per, can, r0, r1, r2, r3, r4, code, res⟩ (-1)
  | s13t (h1 : casOk zs (halfI r2) r4 = true) : StepTo zs id st op arg til per can r0 r1 r2 r3 r4 code res now 13 (casZ zs (halfI r2) r4 (firstI op arg)) ⟨id, st, op, arg, 14, til, per, can, r0, r1, r2, r3, r4, code, res⟩ (-1)
  | s13f (h1 : casOk zs (halfI r2) r4 = false) : StepTo zs id st op arg til per can r0 r1 r2 r3 r4 code res now 13 (casZ zs (halfI r2) r4 (firstI op arg)) ⟨id, st, op, arg, 12, til, per, can, r0, r1, r2, r3, r4, code, res⟩ (-1)
  | s14  : StepTo zs id st op arg til per can r0 r1 r2 r3 r4 code res now 14 (casZ zs 1 r1 r2) ⟨id, st, op, arg, 15, til, per, can, r0, r1, r2, r3, r4, code, res⟩ (-1)
  | s15 (pc : Int) (h6 : (pc == 6) = false) (h7 : (pc == 7) = false) (h12 : (pc == 12) = false) (h13 : (pc == 13) = false) (h14 : (pc == 14) = false) (hl : 15 ≤ pc) : StepTo zs id st op arg til per can r0 r1 r2 r3 r4 code res now pc zs ⟨id, 0, 0, 0, 0, 0, false, false, 0, 0, 0, 0, 0, 0, wellI op arg r4⟩ (loadZ zs (halfI r2 + 2) - 1)

theorem loadZ_word {zs : List Int} (ha : arenaB zs = true) (p : Int) : wordB (loadZ zs p) = true := by
  unfold loadZ
  by_cases h : inB p 1 ((zs.length : Int) - 1) = true
  · rw [if_pos h]
    have := inB_iff.1 h
    exact (wordsB_iff zs).1 (arenaB_parts ha).2.2.2 _ (by omega)
  · rw [if_neg h]; decide
theorem bool_two (b : Bool) : b = true ∨ b = false := by cases b <;> simp

theorem step_exists (zs : List Int) (id st op arg til : Int) (per can : Bool) (r0 r1 r2 r3 r4 code res now : Int) (pc : Int) (hp : inB pc 0 16 = true) : ∃ L T wk, StepTo zs id st op arg til per can r0 r1 r2 r3 r4 code res now pc L T wk := by
  have h := inB_iff.1 hp
  by_cases h15 : 15 ≤ pc
  · exact ⟨_, _, _, .s15 pc (by simp; omega) (by simp; omega) (by simp; omega) (by simp; omega) (by simp; omega) h15⟩
  have hc : pc = 0 ∨ pc = 1 ∨ pc = 2 ∨ pc = 3 ∨ pc = 4 ∨ pc = 5 ∨ pc = 6 ∨ pc = 7 ∨ pc = 8 ∨ pc = 9 ∨ pc = 10 ∨ pc = 11 ∨ pc = 12 ∨ pc = 13 ∨ pc = 14 := by omega
  rcases hc with rfl | rfl | rfl | rfl | rfl | rfl | rfl | rfl | rfl | rfl | rfl | rfl | rfl | rfl | rfl
  · exact ⟨_, _, _, .s0⟩
  · by_cases e : loadZ zs 1 = r0
    · exact ⟨_, _, _, .s1a e⟩
    · have e1 : (loadZ zs 1 == r0) = false := by simp [e]
      rcases bool_two (r0.tmod 2 == bitI (mineB op)) with e2 | e2
      · exact ⟨_, _, _, .s1b e1 e2⟩
      · exact ⟨_, _, _, .s1c e1 e2⟩
  · rcases bool_two (loadZ zs (halfI r0 + 1) != 0) with e | e
    · exact ⟨_, _, _, .s2a e⟩
    · rcases bool_two (gvB can til now) with g | g
      · exact ⟨_, _, _, .s2b e g⟩
      · rcases bool_two (r3 == 0) with r | r
        · exact ⟨_, _, _, .s2c e g r⟩
        · exact ⟨_, _, _, .s2d e g r⟩
  · exact ⟨_, _, _, .s3⟩
  · by_cases e : zs.length + 3 ≤ 400
    · exact ⟨_, _, _, .s4a e⟩
    · exact ⟨_, _, _, .s4b (by omega)⟩
  · rcases bool_two (casOk zs (halfI r0 + 1) 0) with e | e
    · exact ⟨_, _, _, .s5t e⟩
    · exact ⟨_, _, _, .s5f e⟩
  · rcases bool_two (loadZ zs (halfI r1 + 1) != 0) with e | e
    · exact ⟨_, _, _, .s6t e⟩
    · exact ⟨_, _, _, .s6f e⟩
  · rcases bool_two (r2.tmod 2 == 1) with d | d
    · rcases bool_two (mineB op) with m | m
      · exact ⟨_, _, _, .s7tt d m⟩
      · rcases bool_two (waitsB true (loadZ zs (halfI r2))) with t | t
        · exact ⟨_, _, _, .s7tft d m t⟩
        · exact ⟨_, _, _, .s7tff d m t⟩
    · rcases bool_two (mineB op) with m | m
      · rcases bool_two (waitsB false (loadZ zs (halfI r2))) with t | t
        · exact ⟨_, _, _, .s7ftt d m t⟩
        · exact ⟨_, _, _, .s7ftf d m t⟩
      · exact ⟨_, _, _, .s7ff d m⟩
  · exact ⟨_, _, _, .s8⟩
  · rcases bool_two (loadZ zs (halfI r3) != firstI op arg) with e | e
    · exact ⟨_, _, _, .s9a e⟩
    · rcases bool_two (gvB can til now) with g | g
      · exact ⟨_, _, _, .s9b e g⟩
      · rcases bool_two per with r | r
        · exact ⟨_, _, _, .s9c e g r⟩
        · exact ⟨_, _, _, .s9d e g r⟩
  · rcases bool_two (casOk zs (halfI r3) (firstI op arg)) with e | e
    · exact ⟨_, _, _, .s10t e⟩
    · exact ⟨_, _, _, .s10f e⟩
  · exact ⟨_, _, _, .s11⟩
  · exact ⟨_, _, _, .s12⟩
  · rcases bool_two (casOk zs (halfI r2) r4) with e | e
    · exact ⟨_, _, _, .s13t e⟩
    · exact ⟨_, _, _, .s13f e⟩
  · exact ⟨_, _, _, .s14⟩
end Go.Proofs.Ytabojajhnhcemaa

namespace Go.Proofs.Ytabojajhnhcemaa
open Go.RowKit

/-- What StepQueue asks of its arguments. -/
structure Cond (zs : List Int) (id st op arg pc til : Int) (per can : Bool) (r0 r1 r2 r3 r4 code res now : Int) : Prop where
  ha : arenaB zs = true
  ht : thB id st op arg pc til per can r0 r1 r2 r3 r4 code res = true
  hi : inB now 0 1000000 = true
  hs : st = 1
  ho : op = 1 ∨ op = 2
theorem Cond.len {zs : List Int} {id st op arg pc til : Int} {per can : Bool} {r0 r1 r2 r3 r4 code res now : Int} (h : Cond zs id st op arg pc til per can r0 r1 r2 r3 r4 code res now) : zs.length ≤ 1048576 := by have := (arenaB_parts h.ha).2.1; omega
theorem Cond.zero {zs : List Int} {id st op arg pc til : Int} {per can : Bool} {r0 r1 r2 r3 r4 code res now : Int} (h : Cond zs id st op arg pc til per can r0 r1 r2 r3 r4 code res now) : zs.getD 0 0 = 0 := (arenaB_parts h.ha).2.2.1
theorem Cond.id3 {zs : List Int} {id st op arg pc til : Int} {per can : Bool} {r0 r1 r2 r3 r4 code res now : Int} (h : Cond zs id st op arg pc til per can r0 r1 r2 r3 r4 code res now) : inB id 0 3 = true := by
  have := h.ht; unfold thB at this; rw [Bool.and_eq_true] at this; exact this.1
theorem Cond.call {zs : List Int} {id st op arg pc til : Int} {per can : Bool} {r0 r1 r2 r3 r4 code res now : Int} (h : Cond zs id st op arg pc til per can r0 r1 r2 r3 r4 code res now) : callB op arg pc til r0 r1 r2 r3 r4 code res = true := by
  have h1 := h.ht; have h2 := h.hs; subst h2; rwa [thB_runs _ _ _ _ _ _ _ _ _ _ _ _ _ _ h.id3] at h1
theorem Cond.parts {zs : List Int} {id st op arg pc til : Int} {per can : Bool} {r0 r1 r2 r3 r4 code res now : Int} (h : Cond zs id st op arg pc til per can r0 r1 r2 r3 r4 code res now) :
    argB op arg = true ∧ tilB op til = true ∧ inB pc 0 16 = true ∧ regsB r0 r1 r2 r3 r4 = true ∧ code = 0 ∧ res = 0 := by
  have := h.call
  unfold callB at this
  simp only [Bool.and_eq_true, beq_iff_eq] at this
  obtain ⟨⟨⟨⟨⟨⟨_, h1⟩, h2⟩, h3⟩, h4⟩, h5⟩, h6⟩ := this
  exact ⟨h1, h2, h3, h4, h5, h6⟩
theorem Cond.regs {zs : List Int} {id st op arg pc til : Int} {per can : Bool} {r0 r1 r2 r3 r4 code res now : Int} (h : Cond zs id st op arg pc til per can r0 r1 r2 r3 r4 code res now) :
    wordB r0 = true ∧ wordB r1 = true ∧ wordB r2 = true ∧ wordB r3 = true ∧ wordB r4 = true := by
  have := h.parts.2.2.2.1
  unfold regsB at this
  simp only [Bool.and_eq_true] at this
  obtain ⟨⟨⟨⟨h0, h1⟩, h2⟩, h3⟩, h4⟩ := this
  exact ⟨h0, h1, h2, h3, h4⟩
theorem wide {v : Int} (h : wordB v = true) : -1000000000000 ≤ v ∧ v ≤ 1000000000000 := by rw [wordB_iff] at h; omega
theorem Cond.arg {zs : List Int} {id st op arg pc til : Int} {per can : Bool} {r0 r1 r2 r3 r4 code res now : Int} (h : Cond zs id st op arg pc til per can r0 r1 r2 r3 r4 code res now) : 0 ≤ arg ∧ arg ≤ 999 := by
  have := h.parts.1
  unfold argB at this
  have := inB_iff.1 this
  split at this <;> omega
theorem Cond.argw {zs : List Int} {id st op arg pc til : Int} {per can : Bool} {r0 r1 r2 r3 r4 code res now : Int} (h : Cond zs id st op arg pc til per can r0 r1 r2 r3 r4 code res now) : -1000000000000 ≤ arg ∧ arg ≤ 1000000000000 := by have := h.arg; omega
theorem Cond.idw {zs : List Int} {id st op arg pc til : Int} {per can : Bool} {r0 r1 r2 r3 r4 code res now : Int} (h : Cond zs id st op arg pc til per can r0 r1 r2 r3 r4 code res now) : -1000000000000 ≤ id ∧ id ≤ 1000000000000 := by have := inB_iff.1 h.id3; omega
theorem Cond.first {zs : List Int} {id st op arg pc til : Int} {per can : Bool} {r0 r1 r2 r3 r4 code res now : Int} (h : Cond zs id st op arg pc til per can r0 r1 r2 r3 r4 code res now) : wordB (firstI op arg) = true := by
  have := h.arg
  rw [wordB_iff]
  unfold firstI
  split <;> omega
theorem Cond.three {zs : List Int} {id st op arg pc til : Int} {per can : Bool} {r0 r1 r2 r3 r4 code res now : Int} (h : Cond zs id st op arg pc til per can r0 r1 r2 r3 r4 code res now) : wordsB [firstI op arg, 0, id + 1] = true := by
  have h1 := h.first
  have h2 : wordB (id + 1) = true := by have := inB_iff.1 h.id3; rw [wordB_iff]; omega
  unfold wordsB
  simp only [List.all_cons, List.all_nil, h1, h2, Bool.and_true, Bool.true_and]
  decide
theorem Cond.til {zs : List Int} {id st op arg pc til : Int} {per can : Bool} {r0 r1 r2 r3 r4 code res now : Int} (h : Cond zs id st op arg pc til per can r0 r1 r2 r3 r4 code res now) : 0 ≤ til := thB_til id st op arg pc til per can r0 r1 r2 r3 r4 code res h.ht
/-- A register is set to a word. -/
theorem thB_set {id op arg pc til : Int} {per can : Bool} {r0 r1 r2 r3 r4 s0 s1 s2 s3 s4 code res : Int} (h : thB id 1 op arg pc til per can r0 r1 r2 r3 r4 code res = true) (hr : regsB s0 s1 s2 s3 s4 = true) : thB id 1 op arg pc til per can s0 s1 s2 s3 s4 code res = true := by
  have hid : inB id 0 3 = true := by have := h; unfold thB at this; rw [Bool.and_eq_true] at this; exact this.1
  rw [thB_runs _ _ _ _ _ _ _ _ _ _ _ _ _ _ hid] at h ⊢
  unfold callB at *
  simp only [Bool.and_eq_true] at *
  obtain ⟨⟨⟨⟨⟨⟨a, h1⟩, h2⟩, h3⟩, h4⟩, h5⟩, h6⟩ := h
  exact ⟨⟨⟨⟨⟨⟨a, h1⟩, h2⟩, h3⟩, hr⟩, h5⟩, h6⟩
theorem Cond.reg2 {zs : List Int} {id st op arg pc til : Int} {per can : Bool} {r0 r1 r2 r3 r4 code res now : Int} (h : Cond zs id st op arg pc til per can r0 r1 r2 r3 r4 code res now) (p : Int) : thB id st op arg pc til per can r0 r1 (loadZ zs p) r3 r4 code res = true := by
  obtain ⟨a0, a1, a2, a3, a4⟩ := h.regs
  have h1 := h.ht
  have hs := h.hs
  have hw := loadZ_word h.ha p
  subst hs
  refine thB_set h1 ?_
  unfold regsB
  rw [a0, a1, hw, a3, a4]; rfl
theorem Cond.reg4 {zs : List Int} {id st op arg pc til : Int} {per can : Bool} {r0 r1 r2 r3 r4 code res now : Int} (h : Cond zs id st op arg pc til per can r0 r1 r2 r3 r4 code res now) (p : Int) : thB id st op arg pc til per can r0 r1 r2 r3 (loadZ zs p) code res = true := by
  obtain ⟨a0, a1, a2, a3, a4⟩ := h.regs
  have h1 := h.ht
  have hs := h.hs
  have hw := loadZ_word h.ha p
  subst hs
  refine thB_set h1 ?_
  unfold regsB
  rw [a0, a1, a2, a3, hw]; rfl
theorem Cond.waits {zs : List Int} {id st op arg pc til : Int} {per can : Bool} {r0 r1 r2 r3 r4 code res now : Int} (h : Cond zs id st op arg pc til per can r0 r1 r2 r3 r4 code res now) : waitB op = true := by
  unfold waitB; rw [inB_iff]; have := h.ho; omega
theorem meet_of {op n x : Int} {d m t : Bool} (hd : (n.tmod 2 == 1) = d) (hm : mineB op = m) (ht : ((d != m) && waitsB d x) = t) : meetB op n x = t := by
  unfold meetB
  have e : bringsR n = d := by unfold bringsR; rw [← hd]; exact Bool.eq_iff_iff.2 (by simp)
  rw [e, hm]; exact ht
end Go.Proofs.Ytabojajhnhcemaa

namespace Go.Proofs.Ytabojajhnhcemaa
open Go.RowKit

/-- The code of what StepQueue refuses. -/
def askB (zs : List Int) (id st op arg pc til : Int) (per can : Bool) (r0 r1 r2 r3 r4 code res : Int) (now : Int) : Int :=
  if arenaB zs = true ∧ thB id st op arg pc til per can r0 r1 r2 r3 r4 code res = true then (if 6 ≤ zs.length ∧ inB now 0 1000000 = true then (if st = 1 ∧ (op = 1 ∨ op = 2) then 0 else 10) else 4) else 1
theorem askB_cond {zs : List Int} {id st op arg pc til : Int} {per can : Bool} {r0 r1 r2 r3 r4 code res now : Int} (h : askB zs id st op arg pc til per can r0 r1 r2 r3 r4 code res now = 0) : Cond zs id st op arg pc til per can r0 r1 r2 r3 r4 code res now := by
  unfold askB at h
  by_cases h1 : arenaB zs = true ∧ thB id st op arg pc til per can r0 r1 r2 r3 r4 code res = true
  · rw [if_pos h1] at h
    by_cases h2 : 6 ≤ zs.length ∧ inB now 0 1000000 = true
    · rw [if_pos h2] at h
      by_cases h3 : st = 1 ∧ (op = 1 ∨ op = 2)
      · exact ⟨h1.1, h1.2, h2.2, h3.1, h3.2⟩
      · rw [if_neg h3] at h; exact absurd h (by decide)
    · rw [if_neg h2] at h; exact absurd h (by decide)
  · rw [if_neg h1] at h; exact absurd h (by decide)

end Go.Proofs.Ytabojajhnhcemaa

namespace Go.Proofs.Ytabojajhnhcemaa
open Go.RowKit

theorem row18 {w : World} {g : Nat} {c0 c1 c2 c3 c4 c5 c6 c7 c8 c9 c10 c11 c12 c13 c14 c15 c16 c17 v0 v1 v2 v3 v4 v5 v6 v7 v8 v9 v10 v11 v12 v13 v14 v15 v16 v17 : Value} (h : BoxQ w g #[c0, c1, c2, c3, c4, c5, c6, c7, c8, c9, c10, c11, c12, c13, c14, c15, c16, c17]) :
    ((((((((((((((((((w.setCell ⟨g, 0, none⟩ v0).setCell ⟨g, 1, none⟩ v1).setCell ⟨g, 2, none⟩ v2).setCell ⟨g, 3, none⟩ v3).setCell ⟨g, 4, none⟩ v4).setCell ⟨g, 5, none⟩ v5).setCell ⟨g, 6, none⟩ v6).setCell ⟨g, 7, none⟩ v7).setCell ⟨g, 8, none⟩ v8).setCell ⟨g, 9, none⟩ v9).setCell ⟨g, 10, none⟩ v10).setCell ⟨g, 11, none⟩ v11).setCell ⟨g, 12, none⟩ v12).setCell ⟨g, 13, none⟩ v13).setCell ⟨g, 14, none⟩ v14).setCell ⟨g, 15, none⟩ v15).setCell ⟨g, 16, none⟩ v16).setCell ⟨g, 17, none⟩ v17) = w.setRow g #[v0, v1, v2, v3, v4, v5, v6, v7, v8, v9, v10, v11, v12, v13, v14, v15, v16, v17] := by
  rw [setCell_eq_setRow w g 0 _ _ _ v0 h]
  rw [setCell_eq_setRow _ g 1 _ _ _ v1 (h.row _), setRow_setRow]
  rw [setCell_eq_setRow _ g 2 _ _ _ v2 (h.row _), setRow_setRow]
  rw [setCell_eq_setRow _ g 3 _ _ _ v3 (h.row _), setRow_setRow]
  rw [setCell_eq_setRow _ g 4 _ _ _ v4 (h.row _), setRow_setRow]
  rw [setCell_eq_setRow _ g 5 _ _ _ v5 (h.row _), setRow_setRow]
  rw [setCell_eq_setRow _ g 6 _ _ _ v6 (h.row _), setRow_setRow]
  rw [setCell_eq_setRow _ g 7 _ _ _ v7 (h.row _), setRow_setRow]
  rw [setCell_eq_setRow _ g 8 _ _ _ v8 (h.row _), setRow_setRow]
  rw [setCell_eq_setRow _ g 9 _ _ _ v9 (h.row _), setRow_setRow]
  rw [setCell_eq_setRow _ g 10 _ _ _ v10 (h.row _), setRow_setRow]
  rw [setCell_eq_setRow _ g 11 _ _ _ v11 (h.row _), setRow_setRow]
  rw [setCell_eq_setRow _ g 12 _ _ _ v12 (h.row _), setRow_setRow]
  rw [setCell_eq_setRow _ g 13 _ _ _ v13 (h.row _), setRow_setRow]
  rw [setCell_eq_setRow _ g 14 _ _ _ v14 (h.row _), setRow_setRow]
  rw [setCell_eq_setRow _ g 15 _ _ _ v15 (h.row _), setRow_setRow]
  rw [setCell_eq_setRow _ g 16 _ _ _ v16 (h.row _), setRow_setRow]
  rw [setCell_eq_setRow _ g 17 _ _ _ v17 (h.row _), setRow_setRow]
  simp only [List.setIfInBounds_toArray, List.set_cons_zero, List.set_cons_succ]
theorem BoxQ.new (w : World) (cs : Array Value) : BoxQ (w.alloc (.cells cs 60)) w.heap.size cs := heap_alloc_new w _
theorem Rd.low {w : World} {A : Option Addr} {zs : List Int} (h : Rd w A zs) (hl : 1 ≤ zs.length) {k : Nat} (hk : w.heap.size ≤ k) : ∀ a, A = some a → some a.block ≠ some k := by
  intro a ha e
  obtain ⟨b, o, hb, hc⟩ := h 0 (by omega)
  rw [ha] at hb
  have := block_lt_of_cell hc
  cases hb
  simp at this e
  omega
theorem Fr.grown {w0 wi wj : World} {A : Option Addr} {c : Nat} {zs : List Int} {cs : Array Value} {k : Nat} (h : Fr w0 wi A c zs cs) (hA : Rd w0 A zs) (hl : 1 ≤ zs.length) (hg : wi.grownBy wj (some k)) (hk : w0.heap.size + 1 + 1 + 1 < k) : Fr w0 wj A c zs cs := by
  have hz := h.size
  refine ⟨(hg.block _ (by omega) (by simp; omega)).trans h.a, (hg.block _ (by omega) (by simp; omega)).trans h.t, (hg.block _ (by omega) (by simp; omega)).trans h.ra, (hg.block _ (by omega) (by simp; omega)).trans h.rt, h.rd.grown hg (hA.low hl (by omega)), ?_⟩
  exact ⟨hg.os.trans h.b.os, hg.tape.trans h.b.tape, hg.output.trans h.b.output, Nat.le_trans h.b.size hg.size, fun i hi => (hg.block i (Nat.lt_of_lt_of_le hi h.b.size) (by simp; omega)).trans (h.b.block i hi)⟩
/-- A step under way, laid beside the frame. -/
def GotS (w0 : World) (A : Option Addr) (c : Nat) (zs : List Int) (ts : Array Value) (qs : Value → Array Value) (s : Value) (wx : World) : Prop :=
  ∃ k B d, s = .pointer (some ⟨k, 0, none⟩) ∧ w0.heap.size + 1 + 1 + 1 < k ∧ BoxQ wx k (qs (.slice B zs.length d)) ∧ NewA (w0.heap.size + 1 + 1 + 1 + 1) wx B d zs ∧ Fr w0 wx A c zs ts
theorem GotS.late {w0 w1 : World} {A B : Option Addr} {c d lo : Nat} {zs : List Int} {ts : Array Value} (qs : Value → Array Value) (h : Fr w0 w1 A c zs ts) (hn : NewA lo w1 B d zs) (hlo : w0.heap.size + 1 + 1 + 1 < lo) :
    GotS w0 A c zs ts qs (.pointer (some ⟨w1.heap.size, 0, none⟩)) (w1.alloc (.cells (qs (.slice B zs.length d)) 60)) :=
  ⟨_, B, d, rfl, h.size, BoxQ.new _ _, (hn.below (below_alloc _ _)).base (by omega), h.below (below_alloc _ _)⟩
theorem GotS.early {w0 w1 : World} {A B : Option Addr} {c d lo k : Nat} {zs : List Int} {ts os : Array Value} (qs : Value → Array Value) (h : Fr w0 w1 A c zs ts) (hA : Rd w0 A zs) (hl : 1 ≤ zs.length) (hn : NewA lo w1 B d zs) (hlo : w0.heap.size + 1 + 1 + 1 < lo) (hb : BoxQ w1 k os) (hk : w0.heap.size + 1 + 1 + 1 < k) :
    GotS w0 A c zs ts qs (.pointer (some ⟨k, 0, none⟩)) (w1.setRow k (qs (.slice B zs.length d))) :=
  ⟨k, B, d, rfl, hk, hb.row _, (hn.kept (grown_row (grown_refl w1 (some k)) _) (hb.ne_own hn)).base (by omega), h.grown hA hl (grown_row (grown_refl w1 (some k)) _) hk⟩
theorem GotS.early18 {w0 w : World} {A B : Option Addr} {c d lo g : Nat} {zs : List Int} {ts : Array Value} {c0 c1 c2 c3 c4 c5 c6 c7 c8 c9 c10 c11 c12 c13 c14 c15 c16 c17 v0 v1 v2 v3 v4 v5 v6 v7 v8 v9 v10 v11 v12 v13 v14 v15 v16 v17 : Value} (qs : Value → Array Value) (hqs : qs (.slice B zs.length d) = #[v0, v1, v2, v3, v4, v5, v6, v7, v8, v9, v10, v11, v12, v13, v14, v15, v16, v17]) (h : Fr w0 w A c zs ts) (hA : Rd w0 A zs) (hl : 1 ≤ zs.length) (hn : NewA lo w B d zs) (hlo : w0.heap.size + 1 + 1 + 1 < lo) (hb : BoxQ w g #[c0, c1, c2, c3, c4, c5, c6, c7, c8, c9, c10, c11, c12, c13, c14, c15, c16, c17]) (hk : w0.heap.size + 1 + 1 + 1 < g) :
    GotS w0 A c zs ts qs (.pointer (some ⟨g, 0, none⟩)) ((((((((((((((((((w.setCell ⟨g, 0, none⟩ v0).setCell ⟨g, 1, none⟩ v1).setCell ⟨g, 2, none⟩ v2).setCell ⟨g, 3, none⟩ v3).setCell ⟨g, 4, none⟩ v4).setCell ⟨g, 5, none⟩ v5).setCell ⟨g, 6, none⟩ v6).setCell ⟨g, 7, none⟩ v7).setCell ⟨g, 8, none⟩ v8).setCell ⟨g, 9, none⟩ v9).setCell ⟨g, 10, none⟩ v10).setCell ⟨g, 11, none⟩ v11).setCell ⟨g, 12, none⟩ v12).setCell ⟨g, 13, none⟩ v13).setCell ⟨g, 14, none⟩ v14).setCell ⟨g, 15, none⟩ v15).setCell ⟨g, 16, none⟩ v16).setCell ⟨g, 17, none⟩ v17) := by
  rw [row18 hb, ← hqs]
  exact GotS.early qs h hA hl hn hlo hb hk
theorem results_at4 {fn : Func} {p q r u : Tmp} (h : fn.results = #[.cell p 25, .cell q 29, .tmp r, .tmp u]) (tmps : Array Value) (w : World) (g k : Nat) (v x y : Value) (cs : Array Value)
    (hp : tmps.getD p undef = .pointer (some ⟨g, 0, none⟩)) (hq : tmps.getD q undef = .pointer (some ⟨k, 0, none⟩)) (hr : tmps.getD r undef = x) (hu : tmps.getD u undef = y) (hg : BoxA w g v) (hk : BoxT w k cs) (hs : cs.size = 15) :
    (results fn tmps).run Try.prog w = .ok (.tuple #[.agg #[v], .agg cs, x, y]) w := by
  have hp' : tmps[p]?.getD undef = .pointer (some ⟨g, 0, none⟩) := by simpa using hp
  have hq' : tmps[q]?.getD undef = .pointer (some ⟨k, 0, none⟩) := by simpa using hq
  have hr' : tmps[r]?.getD undef = x := by simpa using hr
  have hu' : tmps[u]?.getD undef = y := by simpa using hu
  have ha := run_loadVar_arena w g v hg
  have hl := run_loadVar_row w k 29 29 cs (0, 0) _ hk Try.underlying29 rfl (by rw [hs]; exact info_th)
  simp [results, h, hp', hq', hr', hu', asAddr, ha, hl]
end Go.Proofs.Ytabojajhnhcemaa

namespace Go.Proofs.Ytabojajhnhcemaa
open Go.RowKit

set_option maxHeartbeats 4000000 in
set_option maxRecDepth 100000 in
theorem qjoin0 (id : Int) (st : Int) (op : Int) (arg : Int) (til : Int) (per : Bool) (can : Bool) (r0 : Int) (r1 : Int) (r2 : Int) (r3 : Int) (r4 : Int) (code : Int) (res : Int) (now wk : Int) (x : Int) (k lo : Nat) (w : World) (A : Option Addr) (c : Nat) (zs : List Int) (hn : zs.length ≤ 1048576) (ha : arenaB zs = true) (h0 : zs.getD 0 0 = 0) (hlo : lo ≤ w.heap.size) (hx : loadZ zs (2) = x) (hQ : BoxQ w k #[.slice A zs.length c, .int .i64 id, .int .i64 st, .int .i64 op, .int .i64 arg, .int .i64 0, .int .i64 til, .bool per, .bool can, .int .i64 r0, .int .i64 r1, .int .i64 r2, .int .i64 r3, .int .i64 r4, .int .i64 code, .int .i64 res, .int .i64 now, .int .i64 wk]) (hA : NewA lo w A c zs) :
    Calls Try.prog 28 #[.pointer (some ⟨k, 0, none⟩)] w fun e w' => ∃ B d, e = .returned (.tuple #[]) ∧ Q w w' k lo B d (zs) #[.slice B (zs).length d, .int .i64 id, .int .i64 st, .int .i64 op, .int .i64 arg, .int .i64 1, .int .i64 til, .bool per, .bool can, .int .i64 x, .int .i64 r1, .int .i64 r2, .int .i64 r3, .int .i64 r4, .int .i64 code, .int .i64 res, .int .i64 now, .int .i64 wk] := by
  have hc := hQ.cell
  have hf := hQ.froz
  have HQ := Lib.hid (Q.start hQ hA); clear hQ hA
  have H0 := Lib.hid h0; have HA := Lib.hid ha; have HLO := Lib.hid hlo; clear h0 ha hlo
  have HX := Lib.hid hx; clear hx
  have HD := Lib.hid HQ.out.drew; have HLD : Hid (lo ≤ w.drew.heap.size) := HLO.out
  go_enter Try.func28, Try.ntmps28
  go_upto_region 3 with fail
  go_region_law (first
    | (go_simp; go_at_call 59; (with_reducible refine (qload_any A c zs _ w.drew hn H0.out HD.out.rd).mono ?_); rintro e v1 ⟨rfl, hb⟩; rw [HX.out]; have HQ1 := Lib.hid (HD.out.below hb); clear hb; have hc1 := HQ1.out.box.cell; have hf1 := HQ1.out.box.froz))
  all_goals
    have HQ2 : Hid (Q w (v1.setCell ⟨k, 9, none⟩ (.int .i64 x)) k lo A c zs #[.slice A zs.length c, .int .i64 id, .int .i64 st, .int .i64 op, .int .i64 arg, .int .i64 0, .int .i64 til, .bool per, .bool can, .int .i64 x, .int .i64 r1, .int .i64 r2, .int .i64 r3, .int .i64 r4, .int .i64 code, .int .i64 res, .int .i64 now, .int .i64 wk]) := HQ1.out.set 9 _
    go_upto_region 4 with fail
    generalize v1.setCell ⟨k, 9, none⟩ (.int .i64 x) = w2 at HQ2 ⊢
    clear hc hf hc1 hf1 HQ1 HQ HD
    have hc2 := HQ2.out.box.cell; have hf2 := HQ2.out.box.froz
    go_wp2
    exact bodyPost_end (results_none rfl _ _ _) rfl ⟨_, _, rfl, HQ2.out.set 5 _⟩

set_option maxHeartbeats 4000000 in
set_option maxRecDepth 100000 in
theorem qjoin1a (id : Int) (st : Int) (op : Int) (arg : Int) (til : Int) (per : Bool) (can : Bool) (r0 : Int) (r1 : Int) (r2 : Int) (r3 : Int) (r4 : Int) (code : Int) (res : Int) (now wk : Int)  (k lo : Nat) (w : World) (A : Option Addr) (c : Nat) (zs : List Int) (hn : zs.length ≤ 1048576) (ha : arenaB zs = true) (h0 : zs.getD 0 0 = 0) (hlo : lo ≤ w.heap.size) (hx : loadZ zs 1 = r0) (hQ : BoxQ w k #[.slice A zs.length c, .int .i64 id, .int .i64 st, .int .i64 op, .int .i64 arg, .int .i64 1, .int .i64 til, .bool per, .bool can, .int .i64 r0, .int .i64 r1, .int .i64 r2, .int .i64 r3, .int .i64 r4, .int .i64 code, .int .i64 res, .int .i64 now, .int .i64 wk]) (hA : NewA lo w A c zs) :
    Calls Try.prog 28 #[.pointer (some ⟨k, 0, none⟩)] w fun e w' => ∃ B d, e = .returned (.tuple #[]) ∧ Q w w' k lo B d (zs) #[.slice B (zs).length d, .int .i64 id, .int .i64 st, .int .i64 op, .int .i64 arg, .int .i64 2, .int .i64 til, .bool per, .bool can, .int .i64 r0, .int .i64 r0, .int .i64 r2, .int .i64 r3, .int .i64 r4, .int .i64 code, .int .i64 res, .int .i64 now, .int .i64 wk] := by
  have hc := hQ.cell
  have hf := hQ.froz
  have HQ := Lib.hid (Q.start hQ hA); clear hQ hA
  have H0 := Lib.hid h0; have HA := Lib.hid ha; have HLO := Lib.hid hlo; clear h0 ha hlo
  have HX := Lib.hid hx; clear hx
  have hq := wrap_rest r0
  have HD := Lib.hid HQ.out.drew; have HLD : Hid (lo ≤ w.drew.heap.size) := HLO.out
  go_enter Try.func28, Try.ntmps28
  go_upto_region 6 with fail
  go_region_law (first
    | (go_simp; go_at_call 59; (with_reducible refine (qload_any A c zs _ w.drew hn H0.out HD.out.rd).mono ?_); rintro e v1 ⟨rfl, hb⟩; rw [HX.out]; have HQ1 := Lib.hid (HD.out.below hb); clear hb; have hc1 := HQ1.out.box.cell; have hf1 := HQ1.out.box.froz))
  all_goals
    have HQ2 : Hid (Q w (v1.setCell ⟨k, 10, none⟩ (.int .i64 r0)) k lo A c zs #[.slice A zs.length c, .int .i64 id, .int .i64 st, .int .i64 op, .int .i64 arg, .int .i64 1, .int .i64 til, .bool per, .bool can, .int .i64 r0, .int .i64 r0, .int .i64 r2, .int .i64 r3, .int .i64 r4, .int .i64 code, .int .i64 res, .int .i64 now, .int .i64 wk]) := HQ1.out.set 10 _
    go_upto_region 7 with fail
    generalize v1.setCell ⟨k, 10, none⟩ (.int .i64 r0) = w2 at HQ2 ⊢
    clear hc hf hc1 hf1 HQ1 HQ HD
    have hc2 := HQ2.out.box.cell; have hf2 := HQ2.out.box.froz
    go_quiet (first | (go_at_call 61; exact Calls.quiet_of_same ((qIsPut_any _ _ _ _ _ _ _ _ _ _ _ _ _ _ _ _ _ _ _ _ (HQ2.out.box.below (below_drewN _))).mono fun _ _ h => ⟨h.1, h.2.symm⟩)) | (go_at_call 60; exact Calls.quiet_of_same ((kindBit_any _ _).mono fun _ _ h => ⟨h.1, h.2.symm⟩)))
    go_upto_region 8 with fail
    have HQ3 := Lib.hid (HQ2.out.below (below_drewN nq))
    generalize w2.drewN nq = w3 at HQ3 ⊢
    have hc3 := HQ3.out.box.cell; have hf3 := HQ3.out.box.froz
    clear hc2 hf2 HQ2
    have HD3 := Lib.hid HQ3.out.drew
    go_still_tail 13, (by kernel_rfl)
    change wpList _ _ _ _ _ w3.drew
    generalize w3.drew = w4 at HD3 ⊢
    clear hc3 hf3 HQ3
    have hc4 := HD3.out.box.cell
    go_wp2_with fail
    refine (qChoose_any true 2 6 2 rfl id st op arg 1 til per can r0 r0 r2 r3 r4 code res now wk k lo w4 A c zs HD3.out.box HD3.out.own).mono ?_
    rintro e w5 ⟨rfl, hq5⟩; have HQ5 := Lib.hid (HD3.out.then hq5); clear hq5
    go_wp2
    exact bodyPost_end (results_none rfl _ _ _) rfl ⟨_, _, rfl, HQ5.out⟩

set_option maxHeartbeats 4000000 in
set_option maxRecDepth 100000 in
theorem qjoin1b (id : Int) (st : Int) (op : Int) (arg : Int) (til : Int) (per : Bool) (can : Bool) (r0 : Int) (r1 : Int) (r2 : Int) (r3 : Int) (r4 : Int) (code : Int) (res : Int) (now wk : Int) (x : Int) (k lo : Nat) (w : World) (A : Option Addr) (c : Nat) (zs : List Int) (hn : zs.length ≤ 1048576) (ha : arenaB zs = true) (h0 : zs.getD 0 0 = 0) (hlo : lo ≤ w.heap.size) (hx : loadZ zs 1 = x) (h1 : (x == r0) = false) (h2 : (r0.tmod 2 == bitI (mineB op)) = true) (hQ : BoxQ w k #[.slice A zs.length c, .int .i64 id, .int .i64 st, .int .i64 op, .int .i64 arg, .int .i64 1, .int .i64 til, .bool per, .bool can, .int .i64 r0, .int .i64 r1, .int .i64 r2, .int .i64 r3, .int .i64 r4, .int .i64 code, .int .i64 res, .int .i64 now, .int .i64 wk]) (hA : NewA lo w A c zs) :
    Calls Try.prog 28 #[.pointer (some ⟨k, 0, none⟩)] w fun e w' => ∃ B d, e = .returned (.tuple #[]) ∧ Q w w' k lo B d (zs) #[.slice B (zs).length d, .int .i64 id, .int .i64 st, .int .i64 op, .int .i64 arg, .int .i64 2, .int .i64 til, .bool per, .bool can, .int .i64 r0, .int .i64 x, .int .i64 r2, .int .i64 r3, .int .i64 r4, .int .i64 code, .int .i64 res, .int .i64 now, .int .i64 wk] := by
  have hc := hQ.cell
  have hf := hQ.froz
  have HQ := Lib.hid (Q.start hQ hA); clear hQ hA
  have H0 := Lib.hid h0; have HA := Lib.hid ha; have HLO := Lib.hid hlo; clear h0 ha hlo
  have HX := Lib.hid hx; clear hx
  have hq := wrap_rest r0
  have HD := Lib.hid HQ.out.drew; have HLD : Hid (lo ≤ w.drew.heap.size) := HLO.out
  go_enter Try.func28, Try.ntmps28
  go_upto_region 6 with fail
  go_region_law (first
    | (go_simp; go_at_call 59; (with_reducible refine (qload_any A c zs _ w.drew hn H0.out HD.out.rd).mono ?_); rintro e v1 ⟨rfl, hb⟩; rw [HX.out]; have HQ1 := Lib.hid (HD.out.below hb); clear hb; have hc1 := HQ1.out.box.cell; have hf1 := HQ1.out.box.froz))
  all_goals
    have HQ2 : Hid (Q w (v1.setCell ⟨k, 10, none⟩ (.int .i64 x)) k lo A c zs #[.slice A zs.length c, .int .i64 id, .int .i64 st, .int .i64 op, .int .i64 arg, .int .i64 1, .int .i64 til, .bool per, .bool can, .int .i64 r0, .int .i64 x, .int .i64 r2, .int .i64 r3, .int .i64 r4, .int .i64 code, .int .i64 res, .int .i64 now, .int .i64 wk]) := HQ1.out.set 10 _
    go_upto_region 7 with fail
    generalize v1.setCell ⟨k, 10, none⟩ (.int .i64 x) = w2 at HQ2 ⊢
    clear hc hf hc1 hf1 HQ1 HQ HD
    have hc2 := HQ2.out.box.cell; have hf2 := HQ2.out.box.froz
    go_quiet (first | (go_at_call 61; exact Calls.quiet_of_same ((qIsPut_any _ _ _ _ _ _ _ _ _ _ _ _ _ _ _ _ _ _ _ _ (HQ2.out.box.below (below_drewN _))).mono fun _ _ h => ⟨h.1, h.2.symm⟩)) | (go_at_call 60; exact Calls.quiet_of_same ((kindBit_any _ _).mono fun _ _ h => ⟨h.1, h.2.symm⟩)))
    go_upto_region 8 with fail
    have HQ3 := Lib.hid (HQ2.out.below (below_drewN nq))
    generalize w2.drewN nq = w3 at HQ3 ⊢
    have hc3 := HQ3.out.box.cell; have hf3 := HQ3.out.box.froz
    clear hc2 hf2 HQ2
    have HD3 := Lib.hid HQ3.out.drew
    go_region_law (first
      | (go_simp; go_at_call 62; (with_reducible refine (qChoose_any true 2 6 2 rfl id st op arg 1 til per can r0 x r2 r3 r4 code res now wk k lo w3.drew A c zs HD3.out.box HD3.out.own).mono ?_); rintro e v4 ⟨rfl, hq4⟩; have HQ4 := Lib.hid (HD3.out.then hq4); clear hq4))
    all_goals
      go_wp2
      exact bodyPost_end (results_none rfl _ _ _) rfl ⟨_, _, rfl, HQ4.out⟩

set_option maxHeartbeats 4000000 in
set_option maxRecDepth 100000 in
theorem qjoin1c (id : Int) (st : Int) (op : Int) (arg : Int) (til : Int) (per : Bool) (can : Bool) (r0 : Int) (r1 : Int) (r2 : Int) (r3 : Int) (r4 : Int) (code : Int) (res : Int) (now wk : Int) (x : Int) (k lo : Nat) (w : World) (A : Option Addr) (c : Nat) (zs : List Int) (hn : zs.length ≤ 1048576) (ha : arenaB zs = true) (h0 : zs.getD 0 0 = 0) (hlo : lo ≤ w.heap.size) (hx : loadZ zs 1 = x) (h1 : (x == r0) = false) (h2 : (r0.tmod 2 == bitI (mineB op)) = false) (hQ : BoxQ w k #[.slice A zs.length c, .int .i64 id, .int .i64 st, .int .i64 op, .int .i64 arg, .int .i64 1, .int .i64 til, .bool per, .bool can, .int .i64 r0, .int .i64 r1, .int .i64 r2, .int .i64 r3, .int .i64 r4, .int .i64 code, .int .i64 res, .int .i64 now, .int .i64 wk]) (hA : NewA lo w A c zs) :
    Calls Try.prog 28 #[.pointer (some ⟨k, 0, none⟩)] w fun e w' => ∃ B d, e = .returned (.tuple #[]) ∧ Q w w' k lo B d (zs) #[.slice B (zs).length d, .int .i64 id, .int .i64 st, .int .i64 op, .int .i64 arg, .int .i64 6, .int .i64 til, .bool per, .bool can, .int .i64 r0, .int .i64 x, .int .i64 r2, .int .i64 r3, .int .i64 r4, .int .i64 code, .int .i64 res, .int .i64 now, .int .i64 wk] := by
  have hc := hQ.cell
  have hf := hQ.froz
  have HQ := Lib.hid (Q.start hQ hA); clear hQ hA
  have H0 := Lib.hid h0; have HA := Lib.hid ha; have HLO := Lib.hid hlo; clear h0 ha hlo
  have HX := Lib.hid hx; clear hx
  have hq := wrap_rest r0
  have HD := Lib.hid HQ.out.drew; have HLD : Hid (lo ≤ w.drew.heap.size) := HLO.out
  go_enter Try.func28, Try.ntmps28
  go_upto_region 6 with fail
  go_region_law (first
    | (go_simp; go_at_call 59; (with_reducible refine (qload_any A c zs _ w.drew hn H0.out HD.out.rd).mono ?_); rintro e v1 ⟨rfl, hb⟩; rw [HX.out]; have HQ1 := Lib.hid (HD.out.below hb); clear hb; have hc1 := HQ1.out.box.cell; have hf1 := HQ1.out.box.froz))
  all_goals
    have HQ2 : Hid (Q w (v1.setCell ⟨k, 10, none⟩ (.int .i64 x)) k lo A c zs #[.slice A zs.length c, .int .i64 id, .int .i64 st, .int .i64 op, .int .i64 arg, .int .i64 1, .int .i64 til, .bool per, .bool can, .int .i64 r0, .int .i64 x, .int .i64 r2, .int .i64 r3, .int .i64 r4, .int .i64 code, .int .i64 res, .int .i64 now, .int .i64 wk]) := HQ1.out.set 10 _
    go_upto_region 7 with fail
    generalize v1.setCell ⟨k, 10, none⟩ (.int .i64 x) = w2 at HQ2 ⊢
    clear hc hf hc1 hf1 HQ1 HQ HD
    have hc2 := HQ2.out.box.cell; have hf2 := HQ2.out.box.froz
    go_quiet (first | (go_at_call 61; exact Calls.quiet_of_same ((qIsPut_any _ _ _ _ _ _ _ _ _ _ _ _ _ _ _ _ _ _ _ _ (HQ2.out.box.below (below_drewN _))).mono fun _ _ h => ⟨h.1, h.2.symm⟩)) | (go_at_call 60; exact Calls.quiet_of_same ((kindBit_any _ _).mono fun _ _ h => ⟨h.1, h.2.symm⟩)))
    go_upto_region 8 with fail
    have HQ3 := Lib.hid (HQ2.out.below (below_drewN nq))
    generalize w2.drewN nq = w3 at HQ3 ⊢
    have hc3 := HQ3.out.box.cell; have hf3 := HQ3.out.box.froz
    clear hc2 hf2 HQ2
    have HD3 := Lib.hid HQ3.out.drew
    go_region_law (first
      | (go_simp; go_at_call 62; (with_reducible refine (qChoose_any false 2 6 6 rfl id st op arg 1 til per can r0 x r2 r3 r4 code res now wk k lo w3.drew A c zs HD3.out.box HD3.out.own).mono ?_); rintro e v4 ⟨rfl, hq4⟩; have HQ4 := Lib.hid (HD3.out.then hq4); clear hq4))
    all_goals
      go_wp2
      exact bodyPost_end (results_none rfl _ _ _) rfl ⟨_, _, rfl, HQ4.out⟩
end Go.Proofs.Ytabojajhnhcemaa

namespace Go.Proofs.Ytabojajhnhcemaa
open Go.RowKit

set_option maxHeartbeats 1000000 in
theorem ownerOf_any (A : Option Addr) (c : Nat) (zs : List Int) (r x : Int) (w : World) (hn : zs.length ≤ 1048576) (h0 : zs.getD 0 0 = 0) (hx : loadZ zs (halfI r + 2) = x) (hr : -1000000000000 ≤ r ∧ r ≤ 1000000000000) (hb : -1000000000000 ≤ x ∧ x ≤ 1000000000000) (hA : Rd w A zs) :
    Calls Try.prog 73 #[.agg #[.slice A zs.length c], .int .i64 r] w fun e w' => e = .returned (.int .i64 (x - 1)) ∧ Below w.heap.size w w' := by
  have HA := Lib.hid (hA.below (below_alloc w (.cells #[.slice A zs.length c] 25))); clear hA
  have hq : IntKind.i64.wrap (x - 1) = x - 1 := IntWalk.i64_in _ (by omega)
  have hh := half_bounds r hr
  have hw := wrap_half r hr
  have hw2 : IntKind.i64.wrap (r.tdiv 2 + 2) = r.tdiv 2 + 2 := IntWalk.i64_in _ (by omega)
  have HX := Lib.hid hx; have H0 := Lib.hid h0; clear hx h0 hb hr hh
  go_enter Try.func73, Try.ntmps73
  go_wp2_with fail
  refine (qload_any _ _ zs _ _ hn H0.out HA.out).mono ?_
  rintro e w1 ⟨rfl, hb⟩
  rw [show loadZ zs (r.tdiv 2 + 2) = x from HX.out]
  have HB := Lib.hid (below_trans (below_alloc _ _) hb); clear hb
  go_wp2
  go_ret
  exact ⟨rfl, HB.out⟩

set_option maxHeartbeats 4000000 in
set_option maxRecDepth 100000 in
theorem qserve15 (id : Int) (st : Int) (op : Int) (arg : Int) (pc : Int) (til : Int) (per : Bool) (can : Bool) (r0 : Int) (r1 : Int) (r2 : Int) (r3 : Int) (r4 : Int) (code : Int) (res : Int) (now wk : Int) (y x : Int) (k lo : Nat) (w : World) (A : Option Addr) (c : Nat) (zs : List Int) (hn : zs.length ≤ 1048576) (ha : arenaB zs = true) (h0 : zs.getD 0 0 = 0) (hlo : lo ≤ w.heap.size) (h6 : (pc == 6) = false) (h7 : (pc == 7) = false) (h13 : (pc == 13) = false) (h14 : (pc == 14) = false) (h12 : (pc == 12) = false) (hb0 : -1000000000000 ≤ r2 ∧ r2 ≤ 1000000000000) (hb4 : -1000000000000 ≤ r4 ∧ r4 ≤ 1000000000000) (hx : loadZ zs (halfI r2 + 2) = x) (hbx : -1000000000000 ≤ x ∧ x ≤ 1000000000000) (hy : wellI op arg r4 = y) (hQ : BoxQ w k #[.slice A zs.length c, .int .i64 id, .int .i64 st, .int .i64 op, .int .i64 arg, .int .i64 pc, .int .i64 til, .bool per, .bool can, .int .i64 r0, .int .i64 r1, .int .i64 r2, .int .i64 r3, .int .i64 r4, .int .i64 code, .int .i64 res, .int .i64 now, .int .i64 wk]) (hA : NewA lo w A c zs) :
    Calls Try.prog 30 #[.pointer (some ⟨k, 0, none⟩)] w fun e w' => ∃ B d, e = .returned (.tuple #[]) ∧ Q w w' k lo B d (zs) #[.slice B (zs).length d, .int .i64 id, .int .i64 0, .int .i64 0, .int .i64 0, .int .i64 0, .int .i64 0, .bool false, .bool false, .int .i64 0, .int .i64 0, .int .i64 0, .int .i64 0, .int .i64 0, .int .i64 0, .int .i64 y, .int .i64 now, .int .i64 (x - 1)] := by
  have hc := hQ.cell
  have hf := hQ.froz
  have HQ := Lib.hid (Q.start hQ hA); clear hQ hA
  have H0 := Lib.hid h0; have HA := Lib.hid ha; have HLO := Lib.hid hlo; clear h0 ha hlo
  have HB0 := Lib.hid hb0; clear hb0
  have HB4 := Lib.hid hb4; clear hb4
  have HX := Lib.hid hx; clear hx
  have HBX := Lib.hid hbx; clear hbx
  have HY := Lib.hid hy; clear hy
  have HD := Lib.hid HQ.out.drew; have HLD : Hid (lo ≤ w.drew.heap.size) := HLO.out
  go_enter Try.func30, Try.ntmps30
  go_upto_region 16 with fail
  go_region_law (first
    | (go_simp; go_at_call 73; (with_reducible refine (ownerOf_any A c zs r2 x w.drew hn H0.out HX.out HB0.out HBX.out HD.out.rd).mono ?_); rintro e v1 ⟨rfl, hb⟩; have HQ1 := Lib.hid (HD.out.below hb); clear hb; have hc1 := HQ1.out.box.cell; have hf1 := HQ1.out.box.froz))
  all_goals
    have HQ2 : Hid (Q w (v1.setCell ⟨k, 17, none⟩ (.int .i64 (x - 1))) k lo A c zs #[.slice A zs.length c, .int .i64 id, .int .i64 st, .int .i64 op, .int .i64 arg, .int .i64 pc, .int .i64 til, .bool per, .bool can, .int .i64 r0, .int .i64 r1, .int .i64 r2, .int .i64 r3, .int .i64 r4, .int .i64 code, .int .i64 res, .int .i64 now, .int .i64 (x - 1)]) := HQ1.out.set 17 _
    go_upto_region 17 with fail
    generalize v1.setCell ⟨k, 17, none⟩ (.int .i64 (x - 1)) = w2 at HQ2 ⊢
    clear hc hf hc1 hf1 HQ1 HQ HD
    have hc2 := HQ2.out.box.cell; have hf2 := HQ2.out.box.froz
    go_wp2_with fail
    refine (qEnd_any _ _ _ _ _ _ _ _ _ _ _ _ _ _ _ _ _ y _ lo _ _ _ zs HY.out HB4.out HQ2.out.box HQ2.out.own).mono ?_
    rintro e w3 ⟨rfl, hb⟩
    have HQ3 := Lib.hid (HQ2.out.then hb); clear hb
    clear hc2 hf2 HQ2
    go_wp2
    exact bodyPost_end (results_none rfl _ _ _) rfl ⟨_, _, rfl, HQ3.out⟩
end Go.Proofs.Ytabojajhnhcemaa
