/-
  The laws' draws of calls: finished, CallDrawn.
-/
import Derived.Test.YtankgijibenehaaDrawB
import Derived.Test.YtankgijibenehaaHCall
import Derived.Test.YtankgijibenehaaBoxC
namespace Go.Proofs.Ytankgijibenehaa
open Go.RowKit

theorem BoxC.grown {t : TypeId} {w w' : World} {k : Nat} {cs : Array Value} {row : Option Nat} (h : BoxC t w k cs) (hg : w.grownBy w' row) (hne : some k ≠ row) : BoxC t w' k cs := (hg.block k h.lt hne).trans h
theorem BoxC.row {t : TypeId} {w : World} {k : Nat} {cs : Array Value} (h : BoxC t w k cs) (bs : Array Value) : BoxC t (w.setRow k bs) k bs := setRow_heap w k cs bs _ _ h
theorem info_call7 : (Try.prog.info? 24).map (·.size) = some 7 := by kernel_rfl
theorem one7 (th op arg fr to code res : Int) : (#[.int .i64 th, .int .i64 op, .int .i64 arg, .int .i64 fr, .int .i64 to, .int .i64 code, .int .i64 res] : Array Value).all (·.oneCell') = true := by simp [Value.oneCell']
theorem results_call {fn : Func} {p : Tmp} (h : fn.results = #[.cell p 24]) (tmps : Array Value) (w : World) (g : Nat) (cs : Array Value)
    (hp : tmps.getD p undef = .pointer (some ⟨g, 0, none⟩)) (hg : BoxC 24 w g cs) (hs : cs.size = 7) :
    (results fn tmps).run Try.prog w = .ok (.agg cs) w :=
  results_cell_row h tmps w g 24 cs (0, 0) _ hp hg Try.underlying24 rfl (by rw [hs]; exact info_call7)

theorem fin_ok {th op arg fr to : Int} (h0 : 0 ≤ th) (h1 : th < 4) (ho : opB op = true) (ha : argB op arg = true) (f0 : 0 ≤ fr) (f1 : fr < 9) (ht : to = 0 ∨ 9 ≤ to ∧ to < 18) : clB th op arg fr to 0 0 = true := by
  unfold clB
  rw [inB_iff.2 (by omega), ho, ha, inB_iff.2 (by omega)]
  rcases ht with rfl | ht
  · rfl
  · rw [if_neg (by omega), inB_iff.2 (by omega)]; rfl
theorem two0 {n : Int} (h0 : 0 ≤ n) (h : n < 2) : n = 0 ∨ n = 1 := by omega
theorem argB_none {o : Int} (h : bringsB o = false) : argB o 0 = true := by unfold argB; rw [h]; rfl

/-- What a drawn call is. -/
def FinPost (w : World) (g B : Nat) (A : Option Addr) (n c k : Nat) (e : Ending) (w' : World) : Prop :=
  ∃ th op arg fr to : Int, (0 ≤ th ∧ th < 4) ∧ opB op = true ∧ argB op arg = true ∧ (0 ≤ fr ∧ fr < 9) ∧ (to = 0 ∨ 9 ≤ to ∧ to < 18) ∧
    e = .returned (.agg #[.int .i64 th, .int .i64 op, .int .i64 arg, .int .i64 fr, .int .i64 to, .int .i64 0, .int .i64 0]) ∧ SrcF w' g B A n c k ∧ w.grownBy w' (some g)

set_option maxHeartbeats 4000000 in
set_option maxRecDepth 100000 in
theorem finF (g B : Nat) (A : Option Addr) (n c k : Nat) (w : World) (hn : n ≤ maxLen) (hS : SrcF w g B A n c (k + 6)) :
    Calls Try.prog 43 #[.pointer (some ⟨g, 0, none⟩)] w (FinPost w g B A n c k) := by
  have HS := Lib.hid (hS.below (below_alloc w (.cells #[.int .i64 0, .int .i64 0, .int .i64 0, .int .i64 0, .int .i64 0, .int .i64 0, .int .i64 0] 24)))
  have hgw := hS.lt
  clear hS
  have HN := Lib.hid hn; clear hn
  go_enter Try.func43, Try.ntmps43
  go_wp2_with fail
  refine (nextF g B A n c (k + 5) 6 _ HN.out (by decide) (by decide) HS.out).mono ?_
  rintro e w1 ⟨r, hr0, hr1, rfl, hS1, hg1⟩
  have HR1 := Lib.hid ((BoxC.new 24 w #[.int .i64 0, .int .i64 0, .int .i64 0, .int .i64 0, .int .i64 0, .int .i64 0, .int .i64 0]).grown hg1 (by simp; omega))
  have HG1 := Lib.hid (grown_trans (grown_below (some g) (below_alloc w _)) hg1)
  have HS1 := Lib.hid hS1
  clear hS1 hg1 HS
  rcases six0 hr0 hr1 with rfl | rfl | rfl | rfl | rfl | rfl
  all_goals
    clear hr0 hr1
    go_wp2_with fail
    refine (nextF g B A n c (k + 4) 4 _ HN.out (by decide) (by decide) HS1.out).mono ?_
    rintro e w2 ⟨th, ht0, ht1, rfl, hS2, hg2⟩
    have HR2 := Lib.hid (HR1.out.grown hg2 (by simp; omega))
    have HG2 := Lib.hid (grown_trans HG1.out hg2)
    have HS2 := Lib.hid hS2
    clear hS2 hg2 HR1 HG1 HS1
    go_wp2_with fail
    refine (nextF g B A n c (k + 3) 90 _ HN.out (by decide) (by decide) HS2.out).mono ?_
    rintro e w3 ⟨a, ha0, ha1, rfl, hS3, hg3⟩
    have HR3 := Lib.hid (HR2.out.grown hg3 (by simp; omega))
    have HG3 := Lib.hid (grown_trans HG2.out hg3)
    have HS3 := Lib.hid hS3
    clear hS3 hg3 HR2 HG2 HS2
    have q1 : IntKind.i64.wrap (a * 1) = a := by rw [Int.mul_one]; exact IntWalk.i64_in _ (by omega)
    have q2 : IntKind.i64.wrap a = a := IntWalk.i64_in _ (by omega)
    go_wp2_with (go_at_call 61; (first | refine (bit_true _).mono ?_ | refine (bit_false _).mono ?_); rintro e w' ⟨rfl, rfl⟩)
    refine (nextF g B A n c (k + 2) 9 _ HN.out (by decide) (by decide) HS3.out).mono ?_
    rintro e w4 ⟨fr, hf0, hf1, rfl, hS4, hg4⟩
    have HR4 := Lib.hid (HR3.out.grown hg4 (by simp; omega))
    have HG4 := Lib.hid (grown_trans HG3.out hg4)
    have HS4 := Lib.hid hS4
    clear hS4 hg4 HR3 HG3 HS3
    go_wp2_with fail
    refine (nextF g B A n c (k + 1) 9 _ HN.out (by decide) (by decide) HS4.out).mono ?_
    rintro e w5 ⟨x, hx0, hx1, rfl, hS5, hg5⟩
    have HR5 := Lib.hid (HR4.out.grown hg5 (by simp; omega))
    have HG5 := Lib.hid (grown_trans HG4.out hg5)
    have HS5 := Lib.hid (hS5.below (below_alloc w5 (.cells #[.int .i64 0, .int .i64 (9 + x)] 3)))
    clear hS5 hg5 HR4 HG4 HS4
    have q3 : IntKind.i64.wrap (9 + x) = 9 + x := IntWalk.i64_in _ (by omega)
    have hz5 : w.heap.size < w5.heap.size := HR5.out.lt
    go_wp2_with fail
    refine (nextF g B A n c k 2 _ HN.out (by decide) (by decide) HS5.out).mono ?_
    rintro e w6 ⟨y, hy0, hy1, rfl, hS6, hg6⟩
    have hc6 : ∀ j : Nat, w6.cell? ⟨w5.heap.size, j, none⟩ = (#[.int .i64 0, .int .i64 (9 + x)] : Array Value)[j]? := ((BoxC.new 3 w5 #[.int .i64 0, .int .i64 (9 + x)]).grown hg6 (by have := HG5.out.size; simp; omega)).cell
    have hd0 : w6.cell? ⟨w5.heap.size, 0, none⟩ = some (.int .i64 0) := hc6 0
    have hd1 : w6.cell? ⟨w5.heap.size, 1, none⟩ = some (.int .i64 (9 + x)) := hc6 1
    have HR6 := Lib.hid ((HR5.out.below (below_alloc w5 (.cells #[.int .i64 0, .int .i64 (9 + x)] 3))).grown hg6 (by simp; omega))
    have HG6 := Lib.hid (grown_trans (grown_trans HG5.out (grown_below (some g) (below_alloc w5 (.cells #[.int .i64 0, .int .i64 (9 + x)] 3)))) hg6)
    have HS6 := Lib.hid hS6
    clear hS6 hg6 HR5 HG5 HS5 hc6
    rcases two0 hy0 hy1 with rfl | rfl
    all_goals
      clear hy0 hy1
      go_wp2_with (refine wpList_store_row rfl 24 _ _ rfl w.heap.size _ rfl rfl 24 _ HR6.out info_call7 rfl (one7 _ _ _ _ _ _ _) ?_)
      exact bodyPost_ret (results_call Try.results43 _ _ w.heap.size _ rfl (HR6.out.row _) rfl) rfl ⟨th, _, _, fr, _, ⟨ht0, ht1⟩, by decide, (by first | exact argB_brings (by decide) ha0 ha1 | exact argB_none (by decide)), ⟨hf0, hf1⟩, by omega, rfl, HS6.out.row hgw _, grown_row HG6.out (Nat.le_refl _)⟩

/-- What a drawn call is, nothing old has turned. -/
def DrawnCall (w : World) (e : Ending) (w' : World) : Prop :=
  ∃ th op arg fr to : Int, (0 ≤ th ∧ th < 4) ∧ opB op = true ∧ argB op arg = true ∧ (0 ≤ fr ∧ fr < 9) ∧ (to = 0 ∨ 9 ≤ to ∧ to < 18) ∧
    e = .returned (.agg #[.int .i64 th, .int .i64 op, .int .i64 arg, .int .i64 fr, .int .i64 to, .int .i64 0, .int .i64 0]) ∧ Below w.heap.size w w'

set_option maxHeartbeats 1000000 in
theorem CallDrawn_any (A : Option Addr) (n c : Nat) (w : World) (hn : n ≤ maxLen) (hA : RdB w A n) :
    Calls Try.prog 13 #[.slice A n c] w (DrawnCall w) := by
  have HA := Lib.hid (hA.below (below_alloc w (.cells #[.int .i64 0, .int .i64 0, .int .i64 0, .int .i64 0, .int .i64 0, .int .i64 0, .int .i64 0] 24))); clear hA
  have HN := Lib.hid hn; clear hn
  go_enter Try.func13, Try.ntmps13
  go_wp2_with fail
  refine (l00Source_any A n c _ HN.out HA.out).mono ?_
  rintro e w1 ⟨rfl, hS1, hb⟩
  simp only [size_alloc] at hS1
  have HS1 := Lib.hid (SrcF.of (k := 6) hS1 (by omega))
  have HR1 := Lib.hid ((BoxC.new 24 w #[.int .i64 0, .int .i64 0, .int .i64 0, .int .i64 0, .int .i64 0, .int .i64 0, .int .i64 0]).below hb)
  have HB1 := Lib.hid (below_trans (below_alloc w _) hb)
  have hz1 : w.heap.size + 1 ≤ w1.heap.size := by have := hb.size; simp only [size_alloc] at this; exact this
  clear hS1 hb HA
  go_wp2_with fail
  refine (finF (w.heap.size + 1) (w.heap.size + 1) A n c 0 _ HN.out HS1.out).mono ?_
  rintro e w2 ⟨th, op, arg, fr, to, h1, h2, h3, h4, h5, rfl, hS2, hg2⟩
  have HR2 := Lib.hid (HR1.out.grown hg2 (by simp))
  have HB2 := Lib.hid (HB1.out.grown hg2 (by omega) (fun k hk => by simp only [Option.some.injEq] at hk; omega))
  have HT := Lib.hid (And.intro h1 (And.intro h2 (And.intro h3 (And.intro h4 h5))))
  clear hS2 hg2 HR1 HB1 HS1 h1 h2 h3 h4 h5
  go_wp2_with (refine wpList_store_row rfl 24 _ _ rfl w.heap.size _ rfl rfl 24 _ HR2.out info_call7 rfl (one7 _ _ _ _ _ _ _) ?_)
  exact bodyPost_ret (results_call Try.results13 _ _ w.heap.size _ rfl (HR2.out.row _) rfl) rfl ⟨th, op, arg, fr, to, HT.out.1, HT.out.2.1, HT.out.2.2.1, HT.out.2.2.2.1, HT.out.2.2.2.2, rfl, below_row HB2.out (Nat.le_refl _) _⟩
end Go.Proofs.Ytankgijibenehaa
