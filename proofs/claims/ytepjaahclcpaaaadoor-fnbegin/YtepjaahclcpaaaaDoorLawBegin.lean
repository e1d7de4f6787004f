/-
  The walk of the law FnBegin.
-/
import Derived.Test.YtepjaahclcpaaaaDoorDrawW
import Derived.Test.YtepjaahclcpaaaaDoorOps
import Derived.Test.YtepjaahclcpaaaaDoorThQ
namespace Go.Proofs.YtepjaahclcpaaaaDoor
open Go.RowKit

theorem implThreadOK_true (id st op arg pc til : Int) (per can : Bool) (r0 r1 r2 r3 r4 code res : Int) (w : World) (h : thB id st op arg pc til per can r0 r1 r2 r3 r4 code res = true) : Calls Tryd.prog 11 #[.agg #[.int .i64 id, .int .i64 st, .int .i64 op, .int .i64 arg, .int .i64 pc, .int .i64 til, .bool per, .bool can, .int .i64 r0, .int .i64 r1, .int .i64 r2, .int .i64 r3, .int .i64 r4, .int .i64 code, .int .i64 res]] w fun e w' => e = .returned (.bool true) ∧ Below w.heap.size w w' := by
  have := implThreadOK_any id st op arg pc til per can r0 r1 r2 r3 r4 code res w
  rw [h] at this
  exact this
theorem thB_inId (id st op arg pc til : Int) (per can : Bool) (r0 r1 r2 r3 r4 code res : Int) (h : thB id st op arg pc til per can r0 r1 r2 r3 r4 code res = true) : inB id 0 3 = true := by
  cases h0 : inB id 0 3
  · rw [thB_id id st op arg pc til per can r0 r1 r2 r3 r4 code res h0] at h; cases h
  · rfl
theorem newB_ok {id : Int} (h : inB id 0 3 = true) : newB id = (⟨id, 0, 0, 0, 0, 0, false, false, 0, 0, 0, 0, 0, 0, 0⟩, 0) := by unfold newB; rw [if_pos h]
theorem implOpWord_ok (n : Int) (w : World) (ht : opTab w) (h : opB n = true) : Calls Tryd.prog 8 #[.int .i64 n] w fun e w' => e = .returned (.tuple #[.string (opText n), .int .i64 0]) ∧ w = w' := by
  have hc : opCode n = 0 := by unfold opCode; rw [h]; rfl
  have := implOpWord_any n w ht
  rw [hc] at this
  exact this
theorem opOf_text {n : Int} (h : opB n = true) : opOf (opText n) = n := by
  rcases six ((opB_iff n).1 h) with rfl | rfl | rfl | rfl | rfl | rfl
  all_goals decide
theorem implOpOf_back (n : Int) (w : World) (ht : opTab w) (h : opB n = true) (s : ByteArray) (hs : opText n = s) : Calls Tryd.prog 10 #[.string s] w fun e w' => e = .returned (.int .i64 n) ∧ w = w' := by
  subst hs
  have := implOpOf_any (opText n) w ht
  rw [opOf_text h] at this
  exact this

set_option maxHeartbeats 4000000 in
set_option maxRecDepth 100000 in
theorem lawBegin_walk (A1 : Option Addr) (c1 n1 : Nat) (A2 : Option Addr) (c2 n2 : Nat) (w : World) (hm1 : n1 ≤ maxLen) (hA1 : RdB w A1 n1) (hm2 : n2 ≤ maxLen) (hA2 : RdB w A2 n2) (ht : opTab w) :
    Calls Tryd.prog 3 #[.slice A1 n1 c1, .slice A2 n2 c2] w fun e w' => e = .returned (.bool true) ∧ Below w.heap.size w w' := by
  by_cases hb1 : 1048576 < n1
  · clear hA1 hA2 ht
    go_enter Tryd.func3, Tryd.ntmps3
    go_wp2
    go_ret
    exact ⟨rfl, Below.refl _ _⟩
  have hd1 : decide (1048576 < n1) = false := decide_eq_false hb1
  by_cases hb2 : 1048576 < n2
  · clear hA1 hA2 ht
    go_enter Tryd.func3, Tryd.ntmps3
    go_wp2
    go_ret
    exact ⟨rfl, Below.refl _ _⟩
  have hd2 : decide (1048576 < n2) = false := decide_eq_false hb2
  go_enter Tryd.func3, Tryd.ntmps3
  go_wp2_with fail
  refine (ThreadDrawn_any A1 n1 c1 _ hm1 hA1).mono ?_
  rintro e w1 ⟨id, st, op, arg, pc, til, per, can, r0, r1, r2, r3, r4, code, res, hth, rfl, hb⟩
  have HB1 := Lib.hid hb; clear hb hA1
  by_cases hs : st = 0
  · subst hs
    as_aux_lemma =>
      have HT := Lib.hid hth; clear hth
      have HX2 := Lib.hid (BoxT.new w1 #[.int .i64 id, .int .i64 0, .int .i64 op, .int .i64 arg, .int .i64 pc, .int .i64 til, .bool per, .bool can, .int .i64 r0, .int .i64 r1, .int .i64 r2, .int .i64 r3, .int .i64 r4, .int .i64 code, .int .i64 res])
      have HA2 := Lib.hid (hA2.below (below_trans HB1.out (below_alloc w1 (.cells #[.int .i64 id, .int .i64 0, .int .i64 op, .int .i64 arg, .int .i64 pc, .int .i64 til, .bool per, .bool can, .int .i64 r0, .int .i64 r1, .int .i64 r2, .int .i64 r3, .int .i64 r4, .int .i64 code, .int .i64 res] 25)))); clear hA2
      go_wp2_with fail
      refine (WaiterDrawn_any A2 n2 c2 _ hm2 HA2.out).mono ?_
      rintro e w2 ⟨tt, o, a, ho, ha, rfl, hb⟩
      have HO := Lib.hid ho; have HAA := Lib.hid ha; clear ho ha
      have HU : Hid (tilB o 0 = true) := tilB_zero o
      have HB2 := Lib.hid (below_trans (below_trans HB1.out (below_alloc _ _)) hb)
      have HX3 := Lib.hid ((HX2.out.below hb).below (below_alloc w2 (.cells #[.int .i64 tt, .int .i64 o, .int .i64 a] 28)))
      have HW3 := Lib.hid (BoxW.new w2 #[.int .i64 tt, .int .i64 o, .int .i64 a])
      have ho3 : (w2.alloc (.cells #[.int .i64 tt, .int .i64 o, .int .i64 a] 28)).cell? ⟨w2.heap.size, 1, none⟩ = some (.int .i64 o) := HW3.out.cell 1
      have ha3 : (w2.alloc (.cells #[.int .i64 tt, .int .i64 o, .int .i64 a] 28)).cell? ⟨w2.heap.size, 2, none⟩ = some (.int .i64 a) := HW3.out.cell 2
      clear hb HB1 HX2 HA2
      go_wp2_with (refine wpList_load_row rfl 25 _ rfl w1.heap.size rfl 25 _ (0, 0) _ HX3.out Tryd.underlying25 rfl info_th ?_)
      refine (implBegin_ok id 0 op arg pc til per can r0 r1 r2 r3 r4 code res o a 0 _ HT.out HO.out HAA.out HU.out rfl).mono ?_
      rintro e w3 ⟨rfl, hb⟩
      have HB3 := Lib.hid (below_trans (below_trans HB2.out (below_alloc _ _)) hb)
      have hbt := below_trans hb (below_alloc w3 (.cells #[.int .i64 id, .int .i64 1, .int .i64 o, .int .i64 a, .int .i64 0, .int .i64 0, .bool false, .bool false, .int .i64 0, .int .i64 0, .int .i64 0, .int .i64 0, .int .i64 0, .int .i64 0, .int .i64 0] 25))
      have HX4 := Lib.hid (HX3.out.below hbt)
      have HW4 := Lib.hid (HW3.out.below hbt)
      have HP4 := Lib.hid (BoxT.new w3 #[.int .i64 id, .int .i64 1, .int .i64 o, .int .i64 a, .int .i64 0, .int .i64 0, .bool false, .bool false, .int .i64 0, .int .i64 0, .int .i64 0, .int .i64 0, .int .i64 0, .int .i64 0, .int .i64 0])
      have ho4 : (w3.alloc (.cells #[.int .i64 id, .int .i64 1, .int .i64 o, .int .i64 a, .int .i64 0, .int .i64 0, .bool false, .bool false, .int .i64 0, .int .i64 0, .int .i64 0, .int .i64 0, .int .i64 0, .int .i64 0, .int .i64 0] 25)).cell? ⟨w2.heap.size, 1, none⟩ = some (.int .i64 o) := HW4.out.cell 1
      have ha4 : (w3.alloc (.cells #[.int .i64 id, .int .i64 1, .int .i64 o, .int .i64 a, .int .i64 0, .int .i64 0, .bool false, .bool false, .int .i64 0, .int .i64 0, .int .i64 0, .int .i64 0, .int .i64 0, .int .i64 0, .int .i64 0] 25)).cell? ⟨w2.heap.size, 2, none⟩ = some (.int .i64 a) := HW4.out.cell 2
      clear hb hbt HB2 HX3 HW3 ho3 ha3
      as_aux_lemma =>
        go_wp2_with (refine wpList_load_row rfl 25 _ rfl w1.heap.size rfl 25 _ (0, 0) _ HX4.out Tryd.underlying25 rfl info_th ?_)
        refine (specBegin_ok id 0 op arg pc til per can r0 r1 r2 r3 r4 code res o a 0 _ HT.out HO.out HAA.out HU.out rfl).mono ?_
        rintro e w4 ⟨rfl, hb⟩
        have HB4 := Lib.hid (below_trans (below_trans HB3.out (below_alloc _ _)) hb)
        have hbt := below_trans hb (below_alloc w4 (.cells #[.int .i64 id, .int .i64 1, .int .i64 o, .int .i64 a, .int .i64 0, .int .i64 0, .bool false, .bool false, .int .i64 0, .int .i64 0, .int .i64 0, .int .i64 0, .int .i64 0, .int .i64 0, .int .i64 0] 25))
        have HX5 := Lib.hid (HX4.out.below hbt)
        have HW5 := Lib.hid (HW4.out.below hbt)
        have HP5 := Lib.hid (HP4.out.below hbt)
        have HQ5 := Lib.hid (BoxT.new w4 #[.int .i64 id, .int .i64 1, .int .i64 o, .int .i64 a, .int .i64 0, .int .i64 0, .bool false, .bool false, .int .i64 0, .int .i64 0, .int .i64 0, .int .i64 0, .int .i64 0, .int .i64 0, .int .i64 0])
        have ho5 : (w4.alloc (.cells #[.int .i64 id, .int .i64 1, .int .i64 o, .int .i64 a, .int .i64 0, .int .i64 0, .bool false, .bool false, .int .i64 0, .int .i64 0, .int .i64 0, .int .i64 0, .int .i64 0, .int .i64 0, .int .i64 0] 25)).cell? ⟨w2.heap.size, 1, none⟩ = some (.int .i64 o) := HW5.out.cell 1
        have hi5 : (w4.alloc (.cells #[.int .i64 id, .int .i64 1, .int .i64 o, .int .i64 a, .int .i64 0, .int .i64 0, .bool false, .bool false, .int .i64 0, .int .i64 0, .int .i64 0, .int .i64 0, .int .i64 0, .int .i64 0, .int .i64 0] 25)).cell? ⟨w1.heap.size, 0, none⟩ = some (.int .i64 id) := HX5.out.cell 0
        have HTB5 := Lib.hid (ht.below (below_trans HB4.out (below_alloc w4 (.cells #[.int .i64 id, .int .i64 1, .int .i64 o, .int .i64 a, .int .i64 0, .int .i64 0, .bool false, .bool false, .int .i64 0, .int .i64 0, .int .i64 0, .int .i64 0, .int .i64 0, .int .i64 0, .int .i64 0] 25))))
        clear hb hbt HB3 HX4 HW4 HP4 ho4 ha4 ht
        as_aux_lemma =>
          go_wp2_with fail
          refine (implOpWord_ok o _ HTB5.out HO.out).mono ?_
          rintro e w' ⟨rfl, rfl⟩
          obtain ⟨s, hstr⟩ : ∃ s, opText o = s := ⟨_, rfl⟩
          rw [hstr]
          have HSTR := Lib.hid hstr; clear hstr
          go_wp2_with fail
          refine (implNewThread_any id _ id 0 0 0 0 0 false false 0 0 0 0 0 0 0 0 (newB_ok (thB_inId id 0 op arg pc til per can r0 r1 r2 r3 r4 code res HT.out))).mono ?_
          rintro e w5 ⟨rfl, hb⟩
          have HB5 := Lib.hid (below_trans (below_trans HB4.out (below_alloc _ _)) hb)
          have hbt := below_trans hb (below_alloc w5 (.cells #[.int .i64 id, .int .i64 0, .int .i64 0, .int .i64 0, .int .i64 0, .int .i64 0, .bool false, .bool false, .int .i64 0, .int .i64 0, .int .i64 0, .int .i64 0, .int .i64 0, .int .i64 0, .int .i64 0] 25))
          have HX6 := Lib.hid (HX5.out.below hbt)
          have HW6 := Lib.hid (HW5.out.below hbt)
          have HP6 := Lib.hid (HP5.out.below hbt)
          have HQ6 := Lib.hid (HQ5.out.below hbt)
          have HTB6 := Lib.hid (HTB5.out.below hbt)
          have HN6 := Lib.hid (BoxT.new w5 #[.int .i64 id, .int .i64 0, .int .i64 0, .int .i64 0, .int .i64 0, .int .i64 0, .bool false, .bool false, .int .i64 0, .int .i64 0, .int .i64 0, .int .i64 0, .int .i64 0, .int .i64 0, .int .i64 0])
          have ho6 : (w5.alloc (.cells #[.int .i64 id, .int .i64 0, .int .i64 0, .int .i64 0, .int .i64 0, .int .i64 0, .bool false, .bool false, .int .i64 0, .int .i64 0, .int .i64 0, .int .i64 0, .int .i64 0, .int .i64 0, .int .i64 0] 25)).cell? ⟨w2.heap.size, 1, none⟩ = some (.int .i64 o) := HW6.out.cell 1
          have ha6 : (w5.alloc (.cells #[.int .i64 id, .int .i64 0, .int .i64 0, .int .i64 0, .int .i64 0, .int .i64 0, .bool false, .bool false, .int .i64 0, .int .i64 0, .int .i64 0, .int .i64 0, .int .i64 0, .int .i64 0, .int .i64 0] 25)).cell? ⟨w2.heap.size, 2, none⟩ = some (.int .i64 a) := HW6.out.cell 2
          have HNT : Hid (thB id 0 0 0 0 0 false false 0 0 0 0 0 0 0 = true) := by have := inB_true (thB_inId id 0 op arg pc til per can r0 r1 r2 r3 r4 code res HT.out); exact th_idle_ok (by omega) (by omega) (by omega) (by omega) (by omega) (by omega)
          clear hb hbt HB4 HX5 HW5 HP5 HQ5 HTB5 ho5 hi5
          as_aux_lemma =>
            go_wp2_with (refine wpList_load_row rfl 25 _ rfl w5.heap.size rfl 25 _ (0, 0) _ HN6.out Tryd.underlying25 rfl info_th ?_)
            refine (implBegin_ok id 0 0 0 0 0 false false 0 0 0 0 0 0 0 o a 0 _ HNT.out HO.out HAA.out HU.out rfl).mono ?_
            rintro e w6 ⟨rfl, hb⟩
            have HB6 := Lib.hid (below_trans (below_trans HB5.out (below_alloc _ _)) hb)
            have hbt := below_trans hb (below_alloc w6 (.cells #[.int .i64 id, .int .i64 1, .int .i64 o, .int .i64 a, .int .i64 0, .int .i64 0, .bool false, .bool false, .int .i64 0, .int .i64 0, .int .i64 0, .int .i64 0, .int .i64 0, .int .i64 0, .int .i64 0] 25))
            have HX7 := Lib.hid (HX6.out.below hbt)
            have HW7 := Lib.hid (HW6.out.below hbt)
            have HP7 := Lib.hid (HP6.out.below hbt)
            have HQ7 := Lib.hid (HQ6.out.below hbt)
            have HTB7 := Lib.hid (HTB6.out.below hbt)
            have HY7 := Lib.hid (BoxT.new w6 #[.int .i64 id, .int .i64 1, .int .i64 o, .int .i64 a, .int .i64 0, .int .i64 0, .bool false, .bool false, .int .i64 0, .int .i64 0, .int .i64 0, .int .i64 0, .int .i64 0, .int .i64 0, .int .i64 0])
            have HYT : Hid (thB id 1 o a 0 0 false false 0 0 0 0 0 0 0 = true) := by have := inB_true (thB_inId id 0 op arg pc til per can r0 r1 r2 r3 r4 code res HT.out); exact th_call_ok (by omega) (by omega) HO.out HAA.out HU.out (by omega) (by omega)
            have hz6 : w2.heap.size < w6.heap.size := by have := HW6.out.lt; have := hb.size; (try simp only [size_alloc] at *); omega
            clear hb hbt HB5 HX6 HW6 HP6 HQ6 HTB6 ho6 ha6 HN6 HNT
            have HB7 := Lib.hid (below_trans HB6.out (below_alloc w6 (.cells #[.int .i64 id, .int .i64 1, .int .i64 o, .int .i64 a, .int .i64 0, .int .i64 0, .bool false, .bool false, .int .i64 0, .int .i64 0, .int .i64 0, .int .i64 0, .int .i64 0, .int .i64 0, .int .i64 0] 25)))
            clear HB6
            go_wp2_with fail
            generalize w6.alloc (.cells #[.int .i64 id, .int .i64 1, .int .i64 o, .int .i64 a, .int .i64 0, .int .i64 0, .bool false, .bool false, .int .i64 0, .int .i64 0, .int .i64 0, .int .i64 0, .int .i64 0, .int .i64 0, .int .i64 0] 25) = w7 at HX7 HW7 HP7 HQ7 HTB7 HY7 HB7 ⊢
            as_aux_lemma =>
              have hneq : ∀ wx : World, (binOp .neq 25 (.agg #[.int .i64 id, .int .i64 1, .int .i64 o, .int .i64 a, .int .i64 0, .int .i64 0, .bool false, .bool false, .int .i64 0, .int .i64 0, .int .i64 0, .int .i64 0, .int .i64 0, .int .i64 0, .int .i64 0]) (.agg #[.int .i64 id, .int .i64 1, .int .i64 o, .int .i64 a, .int .i64 0, .int .i64 0, .bool false, .bool false, .int .i64 0, .int .i64 0, .int .i64 0, .int .i64 0, .int .i64 0, .int .i64 0, .int .i64 0])).run Tryd.prog wx = .ok (.bool false) wx := fun wx => by rw [run_neq_thread id 1 o a 0 0 false false 0 0 0 0 0 0 0 id 1 o a 0 0 false false 0 0 0 0 0 0 0 wx, eqTh_refl]; rfl
              have HTBd : Hid (opTab w7.drew) := HTB7.out
              have HBd : Hid (∀ u : World, Below w7.drew.heap.size w7.drew u → Below w7.heap.size w7 u) := fun u h => below_drew_trans h
              go_region_held3 (fun w' => (∀ j : Nat, w'.cell? ⟨w3.heap.size, j, none⟩ = (#[.int .i64 id, .int .i64 1, .int .i64 o, .int .i64 a, .int .i64 0, .int .i64 0, .bool false, .bool false, .int .i64 0, .int .i64 0, .int .i64 0, .int .i64 0, .int .i64 0, .int .i64 0, .int .i64 0] : Array Value)[j]?) ∧ (∀ j : Nat, w'.cell? ⟨w4.heap.size, j, none⟩ = (#[.int .i64 id, .int .i64 1, .int .i64 o, .int .i64 a, .int .i64 0, .int .i64 0, .bool false, .bool false, .int .i64 0, .int .i64 0, .int .i64 0, .int .i64 0, .int .i64 0, .int .i64 0, .int .i64 0] : Array Value)[j]?) ∧ (∀ j : Nat, w'.cell? ⟨w2.heap.size, j, none⟩ = (#[.int .i64 tt, .int .i64 o, .int .i64 a] : Array Value)[j]?) ∧ (∀ j : Nat, w'.cell? ⟨w6.heap.size, j, none⟩ = (#[.int .i64 id, .int .i64 1, .int .i64 o, .int .i64 a, .int .i64 0, .int .i64 0, .bool false, .bool false, .int .i64 0, .int .i64 0, .int .i64 0, .int .i64 0, .int .i64 0, .int .i64 0, .int .i64 0] : Array Value)[j]?) ∧ (∀ j : Nat, w'.cell? ⟨w1.heap.size, j, none⟩ = (#[.int .i64 id, .int .i64 0, .int .i64 op, .int .i64 arg, .int .i64 pc, .int .i64 til, .bool per, .bool can, .int .i64 r0, .int .i64 r1, .int .i64 r2, .int .i64 r3, .int .i64 r4, .int .i64 code, .int .i64 res] : Array Value)[j]?))
                (first | exact ⟨HP7.out.cell, HQ7.out.cell, HW7.out.cell, HY7.out.cell, HX7.out.cell⟩ | exact ⟨(HP7.out.below (HBd.out _ hr0)).cell, (HQ7.out.below (HBd.out _ hr0)).cell, (HW7.out.below (HBd.out _ hr0)).cell, (HY7.out.below (HBd.out _ hr0)).cell, (HX7.out.below (HBd.out _ hr0)).cell⟩ | exact ⟨((HP7.out.below (HBd.out _ hr0)).below hr1).cell, ((HQ7.out.below (HBd.out _ hr0)).below hr1).cell, ((HW7.out.below (HBd.out _ hr0)).below hr1).cell, ((HY7.out.below (HBd.out _ hr0)).below hr1).cell, ((HX7.out.below (HBd.out _ hr0)).below hr1).cell⟩)
                (first
                  | (go_at_call 10; (with_reducible refine (implOpOf_back o _ HTBd.out HO.out s HSTR.out).mono ?_); rintro e w' ⟨rfl, rfl⟩)
                  | (go_at_call 11; (with_reducible refine (implThreadOK_true id 1 o a 0 0 false false 0 0 0 0 0 0 0 _ HYT.out).mono ?_); rintro e u0 ⟨rfl, hr0⟩)
                  | (go_at_call 11; (with_reducible refine (implThreadOK_true id 0 op arg pc til per can r0 r1 r2 r3 r4 code res _ HT.out).mono ?_); rintro e u1 ⟨rfl, hr1⟩))
              have HB8 := Lib.hid (below_trans (below_trans HB7.out (HBd.out _ hr0)) hr1)
              have hcP := ((HP7.out.below (HBd.out _ hr0)).below hr1).cell
              have hcX := ((HX7.out.below (HBd.out _ hr0)).below hr1).cell
              clear hr0 hr1 HBd HTBd HB7 HX7 HW7 HP7 HQ7 HTB7 HY7 hneq
              as_aux_lemma =>
                go_wp2
                go_ret
                exact ⟨rfl, HB8.out⟩
  · skip
    as_aux_lemma =>
      have HT := Lib.hid hth; clear hth
      have HX2 := Lib.hid (BoxT.new w1 #[.int .i64 id, .int .i64 st, .int .i64 op, .int .i64 arg, .int .i64 pc, .int .i64 til, .bool per, .bool can, .int .i64 r0, .int .i64 r1, .int .i64 r2, .int .i64 r3, .int .i64 r4, .int .i64 code, .int .i64 res])
      have HA2 := Lib.hid (hA2.below (below_trans HB1.out (below_alloc w1 (.cells #[.int .i64 id, .int .i64 st, .int .i64 op, .int .i64 arg, .int .i64 pc, .int .i64 til, .bool per, .bool can, .int .i64 r0, .int .i64 r1, .int .i64 r2, .int .i64 r3, .int .i64 r4, .int .i64 code, .int .i64 res] 25)))); clear hA2
      go_wp2_with fail
      refine (WaiterDrawn_any A2 n2 c2 _ hm2 HA2.out).mono ?_
      rintro e w2 ⟨tt, o, a, ho, ha, rfl, hb⟩
      have HO := Lib.hid ho; have HAA := Lib.hid ha; clear ho ha
      have HU : Hid (tilB o 0 = true) := tilB_zero o
      have HB2 := Lib.hid (below_trans (below_trans HB1.out (below_alloc _ _)) hb)
      have HX3 := Lib.hid ((HX2.out.below hb).below (below_alloc w2 (.cells #[.int .i64 tt, .int .i64 o, .int .i64 a] 28)))
      have HW3 := Lib.hid (BoxW.new w2 #[.int .i64 tt, .int .i64 o, .int .i64 a])
      have ho3 : (w2.alloc (.cells #[.int .i64 tt, .int .i64 o, .int .i64 a] 28)).cell? ⟨w2.heap.size, 1, none⟩ = some (.int .i64 o) := HW3.out.cell 1
      have ha3 : (w2.alloc (.cells #[.int .i64 tt, .int .i64 o, .int .i64 a] 28)).cell? ⟨w2.heap.size, 2, none⟩ = some (.int .i64 a) := HW3.out.cell 2
      clear hb HB1 HX2 HA2
      have HSB := Lib.hid (show (st != 0) = true by simpa using hs)
      go_wp2_with (refine wpList_load_row rfl 25 _ rfl w1.heap.size rfl 25 _ (0, 0) _ HX3.out Tryd.underlying25 rfl info_th ?_)
      refine (implBegin_busy id st op arg pc til per can r0 r1 r2 r3 r4 code res o a 0 _ HT.out HO.out HAA.out HU.out HSB.out).mono ?_
      rintro e w3 ⟨rfl, hb⟩
      have HB3 := Lib.hid (below_trans (below_trans HB2.out (below_alloc _ _)) hb)
      have hbt := below_trans hb (below_alloc w3 (.cells #[.int .i64 id, .int .i64 st, .int .i64 op, .int .i64 arg, .int .i64 pc, .int .i64 til, .bool per, .bool can, .int .i64 r0, .int .i64 r1, .int .i64 r2, .int .i64 r3, .int .i64 r4, .int .i64 code, .int .i64 res] 25))
      have HX4 := Lib.hid (HX3.out.below hbt)
      have HW4 := Lib.hid (HW3.out.below hbt)
      have HP4 := Lib.hid (BoxT.new w3 #[.int .i64 id, .int .i64 st, .int .i64 op, .int .i64 arg, .int .i64 pc, .int .i64 til, .bool per, .bool can, .int .i64 r0, .int .i64 r1, .int .i64 r2, .int .i64 r3, .int .i64 r4, .int .i64 code, .int .i64 res])
      have ho4 : (w3.alloc (.cells #[.int .i64 id, .int .i64 st, .int .i64 op, .int .i64 arg, .int .i64 pc, .int .i64 til, .bool per, .bool can, .int .i64 r0, .int .i64 r1, .int .i64 r2, .int .i64 r3, .int .i64 r4, .int .i64 code, .int .i64 res] 25)).cell? ⟨w2.heap.size, 1, none⟩ = some (.int .i64 o) := HW4.out.cell 1
      have ha4 : (w3.alloc (.cells #[.int .i64 id, .int .i64 st, .int .i64 op, .int .i64 arg, .int .i64 pc, .int .i64 til, .bool per, .bool can, .int .i64 r0, .int .i64 r1, .int .i64 r2, .int .i64 r3, .int .i64 r4, .int .i64 code, .int .i64 res] 25)).cell? ⟨w2.heap.size, 2, none⟩ = some (.int .i64 a) := HW4.out.cell 2
      clear hb hbt HB2 HX3 HW3 ho3 ha3
      as_aux_lemma =>
        go_wp2_with (refine wpList_load_row rfl 25 _ rfl w1.heap.size rfl 25 _ (0, 0) _ HX4.out Tryd.underlying25 rfl info_th ?_)
        refine (specBegin_busy id st op arg pc til per can r0 r1 r2 r3 r4 code res o a 0 _ HT.out HO.out HAA.out HU.out HSB.out).mono ?_
        rintro e w4 ⟨rfl, hb⟩
        have HB4 := Lib.hid (below_trans (below_trans HB3.out (below_alloc _ _)) hb)
        have hbt := below_trans hb (below_alloc w4 (.cells #[.int .i64 id, .int .i64 st, .int .i64 op, .int .i64 arg, .int .i64 pc, .int .i64 til, .bool per, .bool can, .int .i64 r0, .int .i64 r1, .int .i64 r2, .int .i64 r3, .int .i64 r4, .int .i64 code, .int .i64 res] 25))
        have HX5 := Lib.hid (HX4.out.below hbt)
        have HW5 := Lib.hid (HW4.out.below hbt)
        have HP5 := Lib.hid (HP4.out.below hbt)
        have HQ5 := Lib.hid (BoxT.new w4 #[.int .i64 id, .int .i64 st, .int .i64 op, .int .i64 arg, .int .i64 pc, .int .i64 til, .bool per, .bool can, .int .i64 r0, .int .i64 r1, .int .i64 r2, .int .i64 r3, .int .i64 r4, .int .i64 code, .int .i64 res])
        have ho5 : (w4.alloc (.cells #[.int .i64 id, .int .i64 st, .int .i64 op, .int .i64 arg, .int .i64 pc, .int .i64 til, .bool per, .bool can, .int .i64 r0, .int .i64 r1, .int .i64 r2, .int .i64 r3, .int .i64 r4, .int .i64 code, .int .i64 res] 25)).cell? ⟨w2.heap.size, 1, none⟩ = some (.int .i64 o) := HW5.out.cell 1
        have hi5 : (w4.alloc (.cells #[.int .i64 id, .int .i64 st, .int .i64 op, .int .i64 arg, .int .i64 pc, .int .i64 til, .bool per, .bool can, .int .i64 r0, .int .i64 r1, .int .i64 r2, .int .i64 r3, .int .i64 r4, .int .i64 code, .int .i64 res] 25)).cell? ⟨w1.heap.size, 0, none⟩ = some (.int .i64 id) := HX5.out.cell 0
        have HTB5 := Lib.hid (ht.below (below_trans HB4.out (below_alloc w4 (.cells #[.int .i64 id, .int .i64 st, .int .i64 op, .int .i64 arg, .int .i64 pc, .int .i64 til, .bool per, .bool can, .int .i64 r0, .int .i64 r1, .int .i64 r2, .int .i64 r3, .int .i64 r4, .int .i64 code, .int .i64 res] 25))))
        clear hb hbt HB3 HX4 HW4 HP4 ho4 ha4 ht
        as_aux_lemma =>
          go_wp2_with fail
          refine (implOpWord_ok o _ HTB5.out HO.out).mono ?_
          rintro e w' ⟨rfl, rfl⟩
          obtain ⟨s, hstr⟩ : ∃ s, opText o = s := ⟨_, rfl⟩
          rw [hstr]
          have HSTR := Lib.hid hstr; clear hstr
          go_wp2_with fail
          refine (implNewThread_any id _ id 0 0 0 0 0 false false 0 0 0 0 0 0 0 0 (newB_ok (thB_inId id st op arg pc til per can r0 r1 r2 r3 r4 code res HT.out))).mono ?_
          rintro e w5 ⟨rfl, hb⟩
          have HB5 := Lib.hid (below_trans (below_trans HB4.out (below_alloc _ _)) hb)
          have hbt := below_trans hb (below_alloc w5 (.cells #[.int .i64 id, .int .i64 0, .int .i64 0, .int .i64 0, .int .i64 0, .int .i64 0, .bool false, .bool false, .int .i64 0, .int .i64 0, .int .i64 0, .int .i64 0, .int .i64 0, .int .i64 0, .int .i64 0] 25))
          have HX6 := Lib.hid (HX5.out.below hbt)
          have HW6 := Lib.hid (HW5.out.below hbt)
          have HP6 := Lib.hid (HP5.out.below hbt)
          have HQ6 := Lib.hid (HQ5.out.below hbt)
          have HTB6 := Lib.hid (HTB5.out.below hbt)
          have HN6 := Lib.hid (BoxT.new w5 #[.int .i64 id, .int .i64 0, .int .i64 0, .int .i64 0, .int .i64 0, .int .i64 0, .bool false, .bool false, .int .i64 0, .int .i64 0, .int .i64 0, .int .i64 0, .int .i64 0, .int .i64 0, .int .i64 0])
          have ho6 : (w5.alloc (.cells #[.int .i64 id, .int .i64 0, .int .i64 0, .int .i64 0, .int .i64 0, .int .i64 0, .bool false, .bool false, .int .i64 0, .int .i64 0, .int .i64 0, .int .i64 0, .int .i64 0, .int .i64 0, .int .i64 0] 25)).cell? ⟨w2.heap.size, 1, none⟩ = some (.int .i64 o) := HW6.out.cell 1
          have ha6 : (w5.alloc (.cells #[.int .i64 id, .int .i64 0, .int .i64 0, .int .i64 0, .int .i64 0, .int .i64 0, .bool false, .bool false, .int .i64 0, .int .i64 0, .int .i64 0, .int .i64 0, .int .i64 0, .int .i64 0, .int .i64 0] 25)).cell? ⟨w2.heap.size, 2, none⟩ = some (.int .i64 a) := HW6.out.cell 2
          have HNT : Hid (thB id 0 0 0 0 0 false false 0 0 0 0 0 0 0 = true) := by have := inB_true (thB_inId id st op arg pc til per can r0 r1 r2 r3 r4 code res HT.out); exact th_idle_ok (by omega) (by omega) (by omega) (by omega) (by omega) (by omega)
          clear hb hbt HB4 HX5 HW5 HP5 HQ5 HTB5 ho5 hi5
          as_aux_lemma =>
            go_wp2_with (refine wpList_load_row rfl 25 _ rfl w5.heap.size rfl 25 _ (0, 0) _ HN6.out Tryd.underlying25 rfl info_th ?_)
            refine (implBegin_ok id 0 0 0 0 0 false false 0 0 0 0 0 0 0 o a 0 _ HNT.out HO.out HAA.out HU.out rfl).mono ?_
            rintro e w6 ⟨rfl, hb⟩
            have HB6 := Lib.hid (below_trans (below_trans HB5.out (below_alloc _ _)) hb)
            have hbt := below_trans hb (below_alloc w6 (.cells #[.int .i64 id, .int .i64 1, .int .i64 o, .int .i64 a, .int .i64 0, .int .i64 0, .bool false, .bool false, .int .i64 0, .int .i64 0, .int .i64 0, .int .i64 0, .int .i64 0, .int .i64 0, .int .i64 0] 25))
            have HX7 := Lib.hid (HX6.out.below hbt)
            have HW7 := Lib.hid (HW6.out.below hbt)
            have HP7 := Lib.hid (HP6.out.below hbt)
            have HQ7 := Lib.hid (HQ6.out.below hbt)
            have HTB7 := Lib.hid (HTB6.out.below hbt)
            have HY7 := Lib.hid (BoxT.new w6 #[.int .i64 id, .int .i64 1, .int .i64 o, .int .i64 a, .int .i64 0, .int .i64 0, .bool false, .bool false, .int .i64 0, .int .i64 0, .int .i64 0, .int .i64 0, .int .i64 0, .int .i64 0, .int .i64 0])
            have HYT : Hid (thB id 1 o a 0 0 false false 0 0 0 0 0 0 0 = true) := by have := inB_true (thB_inId id st op arg pc til per can r0 r1 r2 r3 r4 code res HT.out); exact th_call_ok (by omega) (by omega) HO.out HAA.out HU.out (by omega) (by omega)
            have hz6 : w2.heap.size < w6.heap.size := by have := HW6.out.lt; have := hb.size; (try simp only [size_alloc] at *); omega
            clear hb hbt HB5 HX6 HW6 HP6 HQ6 HTB6 ho6 ha6 HN6 HNT
            have HB7 := Lib.hid (below_trans HB6.out (below_alloc w6 (.cells #[.int .i64 id, .int .i64 1, .int .i64 o, .int .i64 a, .int .i64 0, .int .i64 0, .bool false, .bool false, .int .i64 0, .int .i64 0, .int .i64 0, .int .i64 0, .int .i64 0, .int .i64 0, .int .i64 0] 25)))
            clear HB6
            go_wp2_with fail
            generalize w6.alloc (.cells #[.int .i64 id, .int .i64 1, .int .i64 o, .int .i64 a, .int .i64 0, .int .i64 0, .bool false, .bool false, .int .i64 0, .int .i64 0, .int .i64 0, .int .i64 0, .int .i64 0, .int .i64 0, .int .i64 0] 25) = w7 at HX7 HW7 HP7 HQ7 HTB7 HY7 HB7 ⊢
            as_aux_lemma =>
              have hneq : ∀ wx : World, (binOp .neq 25 (.agg #[.int .i64 id, .int .i64 st, .int .i64 op, .int .i64 arg, .int .i64 pc, .int .i64 til, .bool per, .bool can, .int .i64 r0, .int .i64 r1, .int .i64 r2, .int .i64 r3, .int .i64 r4, .int .i64 code, .int .i64 res]) (.agg #[.int .i64 id, .int .i64 st, .int .i64 op, .int .i64 arg, .int .i64 pc, .int .i64 til, .bool per, .bool can, .int .i64 r0, .int .i64 r1, .int .i64 r2, .int .i64 r3, .int .i64 r4, .int .i64 code, .int .i64 res])).run Tryd.prog wx = .ok (.bool false) wx := fun wx => by rw [run_neq_thread id st op arg pc til per can r0 r1 r2 r3 r4 code res id st op arg pc til per can r0 r1 r2 r3 r4 code res wx, eqTh_refl]; rfl
              have HTBd : Hid (opTab w7.drew) := HTB7.out
              have HBd : Hid (∀ u : World, Below w7.drew.heap.size w7.drew u → Below w7.heap.size w7 u) := fun u h => below_drew_trans h
              go_region_held3 (fun w' => (∀ j : Nat, w'.cell? ⟨w3.heap.size, j, none⟩ = (#[.int .i64 id, .int .i64 st, .int .i64 op, .int .i64 arg, .int .i64 pc, .int .i64 til, .bool per, .bool can, .int .i64 r0, .int .i64 r1, .int .i64 r2, .int .i64 r3, .int .i64 r4, .int .i64 code, .int .i64 res] : Array Value)[j]?) ∧ (∀ j : Nat, w'.cell? ⟨w4.heap.size, j, none⟩ = (#[.int .i64 id, .int .i64 st, .int .i64 op, .int .i64 arg, .int .i64 pc, .int .i64 til, .bool per, .bool can, .int .i64 r0, .int .i64 r1, .int .i64 r2, .int .i64 r3, .int .i64 r4, .int .i64 code, .int .i64 res] : Array Value)[j]?) ∧ (∀ j : Nat, w'.cell? ⟨w2.heap.size, j, none⟩ = (#[.int .i64 tt, .int .i64 o, .int .i64 a] : Array Value)[j]?) ∧ (∀ j : Nat, w'.cell? ⟨w6.heap.size, j, none⟩ = (#[.int .i64 id, .int .i64 1, .int .i64 o, .int .i64 a, .int .i64 0, .int .i64 0, .bool false, .bool false, .int .i64 0, .int .i64 0, .int .i64 0, .int .i64 0, .int .i64 0, .int .i64 0, .int .i64 0] : Array Value)[j]?) ∧ (∀ j : Nat, w'.cell? ⟨w1.heap.size, j, none⟩ = (#[.int .i64 id, .int .i64 st, .int .i64 op, .int .i64 arg, .int .i64 pc, .int .i64 til, .bool per, .bool can, .int .i64 r0, .int .i64 r1, .int .i64 r2, .int .i64 r3, .int .i64 r4, .int .i64 code, .int .i64 res] : Array Value)[j]?))
                (first | exact ⟨HP7.out.cell, HQ7.out.cell, HW7.out.cell, HY7.out.cell, HX7.out.cell⟩ | exact ⟨(HP7.out.below (HBd.out _ hr0)).cell, (HQ7.out.below (HBd.out _ hr0)).cell, (HW7.out.below (HBd.out _ hr0)).cell, (HY7.out.below (HBd.out _ hr0)).cell, (HX7.out.below (HBd.out _ hr0)).cell⟩ | exact ⟨((HP7.out.below (HBd.out _ hr0)).below hr1).cell, ((HQ7.out.below (HBd.out _ hr0)).below hr1).cell, ((HW7.out.below (HBd.out _ hr0)).below hr1).cell, ((HY7.out.below (HBd.out _ hr0)).below hr1).cell, ((HX7.out.below (HBd.out _ hr0)).below hr1).cell⟩)
                (first
                  | (go_at_call 10; (with_reducible refine (implOpOf_back o _ HTBd.out HO.out s HSTR.out).mono ?_); rintro e w' ⟨rfl, rfl⟩)
                  | (go_at_call 11; (with_reducible refine (implThreadOK_true id 1 o a 0 0 false false 0 0 0 0 0 0 0 _ HYT.out).mono ?_); rintro e u0 ⟨rfl, hr0⟩)
                  | (go_at_call 11; (with_reducible refine (implThreadOK_true id st op arg pc til per can r0 r1 r2 r3 r4 code res _ HT.out).mono ?_); rintro e u1 ⟨rfl, hr1⟩))
              have HB8 := Lib.hid (below_trans (below_trans HB7.out (HBd.out _ hr0)) hr1)
              have hcP := ((HP7.out.below (HBd.out _ hr0)).below hr1).cell
              have hcX := ((HX7.out.below (HBd.out _ hr0)).below hr1).cell
              clear hr0 hr1 HBd HTBd HB7 HX7 HW7 HP7 HQ7 HTB7 HY7 hneq
              have g0 : (st == 0) = false := by simpa using hs
              have heq : ∀ wx : World, (binOp .eql 25 (.agg #[.int .i64 id, .int .i64 st, .int .i64 op, .int .i64 arg, .int .i64 pc, .int .i64 til, .bool per, .bool can, .int .i64 r0, .int .i64 r1, .int .i64 r2, .int .i64 r3, .int .i64 r4, .int .i64 code, .int .i64 res]) (.agg #[.int .i64 id, .int .i64 st, .int .i64 op, .int .i64 arg, .int .i64 pc, .int .i64 til, .bool per, .bool can, .int .i64 r0, .int .i64 r1, .int .i64 r2, .int .i64 r3, .int .i64 r4, .int .i64 code, .int .i64 res])).run Tryd.prog wx = .ok (.bool true) wx := fun wx => by rw [run_eql_thread id st op arg pc til per can r0 r1 r2 r3 r4 code res id st op arg pc til per can r0 r1 r2 r3 r4 code res wx, eqTh_refl]
              clear hs
              as_aux_lemma =>
                go_wp2
                go_ret
                exact ⟨rfl, HB8.out⟩
end Go.Proofs.YtepjaahclcpaaaaDoor
