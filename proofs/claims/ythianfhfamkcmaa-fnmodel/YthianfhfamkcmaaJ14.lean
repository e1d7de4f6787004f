/-
  Models (chapter 11): whether a thread waits, the program's and the model's.
  A range over a function, at waiters: whole rows inside a fence; slices.Values's closure; the test of ModelLeave.
  A range over a function, at waiters: filtered, over what slices.Values hands back; only.
  Models (chapter 11): the small functions of the program's ModelCall.
  Segments of rows of the call's own, and the laws' marks of them and of models.
  The laws' marks of models, and what they hold.
  The library's slices.Grow of nil and slices.Concat of two slices, over ints and over waiters.
  Models (chapter 11): the program's count, pop, push; served, joined, meet.
-/
import Derived.Test.YthianfhfamkcmaaJ13
import Derived.RangeFuncNested
import Derived.RangeFuncLeaves
import Derived.Shelf.Abstract
import Derived.WalkKit
import Derived.OwnWalkIn
import Derived.TacticsInMore
import Derived.LoopNIn
import Derived.LoopIn
import Derived.Maps.AppendAt
import Derived.Test.YthianfhfamkcmaaJ10
import Derived.Test.YthianfhfamkcmaaJ11
import Derived.Lib.AppendZeros
namespace Go.Proofs.Ythianfhfamkcmaa
open Go.RowKit

def isTh (n : Int) (x : Wtr) : Bool := x.th == n
/-- A thread waits. -/
def waitsB (bs os : List Wtr) (n : Int) : Bool := bs.any (isTh n) || os.any (isTh n)
theorem any_no {l : List Wtr} {k : Nat} {x : Wtr} {n : Int} (h : l[k]? = some x) (hx : ¬ x.th = n) : (l.drop k).any (isTh n) = (l.drop (k + 1)).any (isTh n) := by
  rw [dropW h, List.any_cons, show isTh n x = false from by simp [isTh, hx]]; rfl
theorem any_yes {l : List Wtr} {k : Nat} {x : Wtr} {n : Int} (h : l[k]? = some x) (hx : x.th = n) : (l.drop k).any (isTh n) = true := by
  rw [dropW h, List.any_cons, show isTh n x = true from by simp [isTh, hx]]; rfl
theorem any_one {l : List Wtr} {x : Wtr} {n : Int} (hl : l.length ≤ 1) (h : l[0]? = some x) : l.any (isTh n) = (x.th == n) := by
  match l, hl with
  | [], _ => simp at h
  | [y], _ => simp at h; subst h; simp [isTh]

set_option maxHeartbeats 1000000 in
theorem isTh_any (kb : Nat) (n th op arg : Int) (w : World) (hK : BoxC 3 w kb #[.int .i64 n]) :
    Calls Try.prog 117 #[.agg #[.int .i64 th, .int .i64 op, .int .i64 arg], .pointer (some ⟨kb, 0, none⟩)] w fun e w' => e = .returned (.bool (th == n)) ∧ Below w.heap.size w w' := by
  have hlt : kb < w.heap.size := hK.lt
  have HK := Lib.hid (hK.below (below_alloc w (.cells #[.int .i64 th, .int .i64 op, .int .i64 arg] 35))); clear hK
  have hk := HK.out.cell
  go_enter Try.func117, Try.ntmps117
  go_wp2
  go_ret
  exact ⟨rfl, below_alloc _ _⟩

set_option maxHeartbeats 2000000 in
set_option maxRecDepth 100000 in
theorem idxTh_any (kb : Nat) (n : Int) (A : Option Addr) (c : Nat) (l : List Wtr) (w : World) (hz : l.length ≤ 1048576) (hK : BoxC 3 w kb #[.int .i64 n]) (hA : RdR Wtr.cs w A l) :
    Calls Try.prog 157 #[.slice A l.length c, .func (.func 117) #[] #[.pointer (some ⟨kb, 0, none⟩)]] w fun e w' => (∃ i : Int, e = .returned (.int .i64 i) ∧ decide (0 ≤ i) = l.any (isTh n)) ∧ Below w.heap.size w w' := by
  have HA := Lib.hid hA; have HK := Lib.hid hK; clear hA hK
  go_enter Try.func157, Try.ntmps157
  go_wp2_with fail
  go_loopw [8] (fun i wr => ∃ k : Nat, k ≤ l.length ∧ i = .int .i64 k ∧ l.any (isTh n) = (l.drop k).any (isTh n) ∧ Below w.heap.size w wr) (fun i _ => l.length - (intOf i).toNat)
  case atStart => exact ⟨0, Nat.zero_le _, rfl, rfl, Below.refl _ _⟩
  case round =>
    obtain ⟨k, hk, rfl, hall, hbl⟩ := hrel
    have HL := Lib.hid hall; have HB := Lib.hid hbl
    clear hall hbl
    by_cases hlt : k < l.length
    · have hlt' : (k : Int) < l.length := by omega
      obtain ⟨x, hx⟩ : ∃ x, l[k]? = some x := ⟨_, List.getElem?_eq_getElem hlt⟩
      obtain ⟨b, o, rfl, hrow⟩ := (HA.out.below HB.out).row Wtr.len k x hx
      have HX := Lib.hid hx
      clear hx
      obtain ⟨th, op, arg⟩ := x
      have HRW : Hid (wr.rangeAt b (o + k * 3) [.int .i64 th, .int .i64 op, .int .i64 arg]) := hrow
      clear hrow
      by_cases q : th = n
      · have HN := Lib.hid (any_yes HX.out q)
        subst q
        have hq : (th == th) = true := by simp
        go_wp2_with (refine wpList_load_mid rfl 35 _ rfl b (o + k * 3) ?_ _ _ HRW.out Try.underlying35 rfl info_iWaiter ?_; rfl)
        refine (isTh_any kb _ _ _ _ _ (HK.out.below HB.out)).mono ?_
        rintro e w2 ⟨rfl, hb⟩
        rw [hq]
        have HB2 := Lib.hid (below_trans HB.out hb)
        clear hb
        go_wp2
        go_ret
        refine ⟨⟨k, rfl, ?_⟩, HB2.out⟩
        rw [HL.out, HN.out, decide_eq_true (by omega)]
      · have HN := Lib.hid (any_no HX.out q)
        have hq : (th == n) = false := by simpa using q
        go_wp2_with (refine wpList_load_mid rfl 35 _ rfl b (o + k * 3) ?_ _ _ HRW.out Try.underlying35 rfl info_iWaiter ?_; rfl)
        refine (isTh_any kb _ _ _ _ _ (HK.out.below HB.out)).mono ?_
        rintro e w2 ⟨rfl, hb⟩
        rw [hq]
        have HB2 := Lib.hid (below_trans HB.out hb)
        clear hb
        go_wp2
        go_roundw
        case rel => exact ⟨k + 1, by omega, by go_num, HL.out.trans HN.out, HB2.out⟩
        case measure => simp [intOf]; omega
    · have hge : ¬ (k : Int) < l.length := by omega
      have HF : Hid (l.any (isTh n) = false) := by unfold Hid; rw [HL.out, show k = l.length from by omega, List.drop_length]; rfl
      go_wp2
      go_ret
      exact ⟨⟨-1, rfl, by rw [HF.out]; rfl⟩, HB.out⟩

set_option maxHeartbeats 1000000 in
theorem hasTh_any (kb : Nat) (n : Int) (A : Option Addr) (c : Nat) (l : List Wtr) (w : World) (hz : l.length ≤ 1048576) (hK : BoxC 3 w kb #[.int .i64 n]) (hA : RdR Wtr.cs w A l) :
    Calls Try.prog 118 #[.slice A l.length c, .func (.func 117) #[] #[.pointer (some ⟨kb, 0, none⟩)]] w fun e w' => e = .returned (.bool (l.any (isTh n))) ∧ Below w.heap.size w w' := by
  go_enter Try.func118, Try.ntmps118
  go_wp2_with fail
  refine (idxTh_any kb n A c l w hz hK hA).mono ?_
  rintro e w1 ⟨⟨i, rfl, hn⟩, hb⟩
  have HN := Lib.hid hn; have HB := Lib.hid hb
  clear hn hb
  by_cases h0 : 0 ≤ i
  · have hd : decide (0 ≤ i) = true := decide_eq_true h0
    go_wp2
    go_ret
    exact ⟨ret_bool (hd.symm.trans HN.out), HB.out⟩
  · have hd : decide (0 ≤ i) = false := decide_eq_false h0
    go_wp2
    go_ret
    exact ⟨ret_bool (hd.symm.trans HN.out), HB.out⟩

set_option maxHeartbeats 2000000 in
theorem waits_any (A B O : Option Addr) (ca cb co : Nat) (zs : List Int) (bs os : List Wtr) (cnt : Int) (n : Int) (w : World) (ht : bs.length ≤ 1048576) (hc : os.length ≤ 1048576) (hT : RdR Wtr.cs w B bs) (hC : RdR Wtr.cs w O os) :
    Calls Try.prog 63 #[.agg #[.slice A zs.length ca, .int .i64 cnt, .slice B bs.length cb, .slice O os.length co], .int .i64 n] w fun e w' => e = .returned (.bool (waitsB bs os n)) ∧ Below w.heap.size w w' := by
  have HT := Lib.hid hT; have HC := Lib.hid hC; clear hT hC
  have HM := Lib.hid ((BoxC.new 31 w #[.slice A zs.length ca, .int .i64 cnt, .slice B bs.length cb, .slice O os.length co]).below (below_alloc _ (.cells #[.int .i64 n] 3)))
  have HK := Lib.hid (by have h := BoxC.new 3 (w.alloc (.cells #[.slice A zs.length ca, .int .i64 cnt, .slice B bs.length cb, .slice O os.length co] 31)) #[.int .i64 n]; rw [size_alloc] at h; exact h)
  cases q1 : bs.any (isTh n)
  · obtain ⟨v, hv⟩ : ∃ v, os.any (isTh n) = v := ⟨_, rfl⟩
    have HV : Hid (waitsB bs os n = v) := by unfold Hid waitsB; rw [q1, hv]; rfl
    go_enter Try.func63, Try.ntmps63
    go_wp2_with fail
    refine (hasTh_any _ n _ _ bs _ ht HK.out (HT.out.below (below_alloc2 _ _ _))).mono ?_
    rintro e w1 ⟨rfl, hb⟩
    rw [q1]
    have HB := Lib.hid (below_trans (below_alloc2 _ _ _) hb)
    have HM1 := Lib.hid (HM.out.below hb); have HK1 := Lib.hid (HK.out.below hb)
    clear hb
    have hm := HM1.out.cell
    go_wp2_with fail
    refine (hasTh_any _ n _ _ os _ hc HK1.out (HC.out.below HB.out)).mono ?_
    rintro e w2 ⟨rfl, hb⟩
    rw [hv]
    have HB2 := Lib.hid (below_trans HB.out hb)
    clear hb
    go_wp2
    go_ret
    exact ⟨ret_bool HV.out.symm, HB2.out⟩
  · have HV : Hid (waitsB bs os n = true) := by unfold Hid waitsB; rw [q1]; rfl
    go_enter Try.func63, Try.ntmps63
    go_wp2_with fail
    refine (hasTh_any _ n _ _ bs _ ht HK.out (HT.out.below (below_alloc2 _ _ _))).mono ?_
    rintro e w1 ⟨rfl, hb⟩
    rw [q1]
    have HB := Lib.hid (below_trans (below_alloc2 _ _ _) hb)
    clear hb
    go_wp2
    go_ret
    exact ⟨ret_bool HV.out.symm, HB.out⟩

set_option maxHeartbeats 2000000 in
theorem l10Waits_any (A B O : Option Addr) (ca cb co : Nat) (zs : List Int) (bs os : List Wtr) (cnt : Int) (n : Int) (w : World) (ht : bs.length ≤ 1048576) (hc : os.length ≤ 1) (hT : RdR Wtr.cs w B bs) (hC : RdR Wtr.cs w O os) :
    Calls Try.prog 49 #[.agg #[.slice A zs.length ca, .int .i64 cnt, .slice B bs.length cb, .slice O os.length co], .int .i64 n] w fun e w' => e = .returned (.bool (waitsB bs os n)) ∧ Below w.heap.size w w' := by
  have HT := Lib.hid hT; have HC := Lib.hid hC; have HCL := Lib.hid hc; clear hT hC hc
  go_enter Try.func49, Try.ntmps49
  go_wp2_with fail
  go_loopw [5] (fun i wr => ∃ k : Nat, k ≤ bs.length ∧ i = .int .i64 k ∧ bs.any (isTh n) = (bs.drop k).any (isTh n) ∧ BoxC 31 wr w.heap.size #[.slice A zs.length ca, .int .i64 cnt, .slice B bs.length cb, .slice O os.length co] ∧ Below w.heap.size w wr) (fun i _ => bs.length - (intOf i).toNat)
  case atStart => exact ⟨0, Nat.zero_le _, rfl, rfl, BoxC.new 31 w #[.slice A zs.length ca, .int .i64 cnt, .slice B bs.length cb, .slice O os.length co], below_alloc _ _⟩
  case round =>
    obtain ⟨k, hk, rfl, hall, hmb, hbl⟩ := hrel
    have HL := Lib.hid hall; have HB := Lib.hid hbl; have HM := Lib.hid hmb
    clear hall hbl hmb
    have hm := HM.out.cell
    by_cases hlt : k < bs.length
    · have hlt' : (k : Int) < bs.length := by omega
      obtain ⟨x, hx⟩ : ∃ x, bs[k]? = some x := ⟨_, List.getElem?_eq_getElem hlt⟩
      obtain ⟨b, o, rfl, hrow⟩ := (HT.out.below HB.out).row Wtr.len k x hx
      have HX := Lib.hid hx
      clear hx
      obtain ⟨th, op, arg⟩ := x
      have hc0 : wr.cell? ⟨b, o + k * 3, none⟩ = some (.int .i64 th) := hrow 0 _ rfl
      clear hrow
      by_cases q : th = n
      · have HN := Lib.hid (any_yes HX.out q)
        have HV : Hid (waitsB bs os n = true) := by unfold Hid waitsB; rw [HL.out, HN.out]; rfl
        subst q
        have hq : (th == th) = true := by simp
        go_wp2
        go_ret
        exact ⟨ret_bool HV.out.symm, HB.out⟩
      · have HN := Lib.hid (any_no HX.out q)
        have hq : (th == n) = false := by simpa using q
        go_wp2
        go_roundw
        case rel => exact ⟨k + 1, by omega, by go_num, HL.out.trans HN.out, HM.out, HB.out⟩
        case measure => simp [intOf]; omega
    · have hge : ¬ (k : Int) < bs.length := by omega
      have HF : Hid (bs.any (isTh n) = false) := by unfold Hid; rw [HL.out, show k = bs.length from by omega, List.drop_length]; rfl
      by_cases h0 : os.length = 0
      · have hn : os = [] := List.eq_nil_of_length_eq_zero h0
        have HV : Hid (waitsB bs os n = false) := by unfold Hid waitsB; rw [HF.out, hn]; rfl
        have h0' : ¬ (0 : Int) < (os.length : Int) := by omega
        clear h0 hn
        go_wp2
        go_ret
        exact ⟨ret_bool HV.out.symm, HB.out⟩
      · have hpos : 0 < os.length := by omega
        have h0' : (0 : Int) < (os.length : Int) := by omega
        obtain ⟨y, hy⟩ : ∃ y, os[0]? = some y := ⟨_, List.getElem?_eq_getElem hpos⟩
        obtain ⟨b, o, rfl, hrow⟩ := (HC.out.below HB.out).row Wtr.len 0 y hy
        obtain ⟨th, op, arg⟩ := y
        have HV : Hid (waitsB bs os n = (th == n)) := by unfold Hid waitsB; rw [HF.out, any_one HCL.out hy]; rfl
        have hc0 : wr.cell? ⟨b, o, none⟩ = some (.int .i64 th) := by simpa using hrow 0 _ rfl
        clear hy hrow
        obtain ⟨v, hv⟩ : ∃ v, (th == n) = v := ⟨_, rfl⟩
        go_wp2
        go_ret
        exact ⟨by rw [HV.out, hv]; rfl, HB.out⟩
end Go.Proofs.Ythianfhfamkcmaa

namespace Go.Proofs.Ythianfhfamkcmaa
open Go.RowKit Go.Shelf
attribute [local go_sem] Oper.semAt_some

theorem wpListIn_load_mid {F : Fence} {n : Nat} {P : Program} {ops : Array Oper} {rest : List Oper} {op : Oper} {a : Act} {w : World} {Q : Exit → Act → World → Prop} (hgd : op.guard = none) (ty : TypeId) (x : Operand) (ho : op.op = .load ty x)
    (b o : Nat) (hx : a.eval x = .pointer (some ⟨b, o, none⟩)) (cs : List Value) (d : TypeDesc) (hc : w.rangeAt b o cs)
    (hu : P.underlying ty = some d) (hd : d.isRow = true) (hi : (P.info? ty).map (·.size) = some cs.length)
    (h : wpListIn F n P ops Q rest (a.put op.dst (.agg cs.toArray)) w) : wpListIn F n P ops Q (op :: rest) a w := by
  refine wpListIn_plain hgd fun K hK' => ?_
  unfold Oper.wpIn
  refine ⟨?_, ?_⟩
  · simp [Oper.about, ho]
  · rw [Oper.semAt_plain F _ _ (by rw [ho]; intro c hc'; cases hc')]
    unfold execOp
    simp only [ho, hx, Instr.loadAt, Instr.sureAddr, Sem.run_bind, Sem.run_pure, Result.andThen_ok, run_loadVar_mid w b o ty cs d hc hu hd hi]
    exact hK' _ _ h
theorem wpListIn_store_row {F : Fence} {n : Nat} {P : Program} {ops : Array Oper} {rest : List Oper} {o : Oper} {a : Act} {w : World} {Q : Exit → Act → World → Prop} (hgd : o.guard = none) (ty : TypeId) (x y : Operand) (ho : o.op = .store ty x y)
    (g : Nat) (cells : Array Value) (hx : a.eval x = .pointer (some ⟨g, 0, none⟩)) (hy : a.eval y = .agg cells)
    (t : TypeId) (old : Array Value) (hg : w.heap[g]? = some (.cells old t (0, 0))) (hi : (P.info? ty).map (·.size) = some cells.size)
    (hold : old.size = cells.size) (h1 : cells.all (·.oneCell') = true)
    (h : wpListIn F n P ops Q rest (a.put o.dst undef) (w.setRow g cells)) : wpListIn F n P ops Q (o :: rest) a w := by
  refine wpListIn_plain hgd fun K hK' => ?_
  unfold Oper.wpIn
  refine ⟨?_, ?_⟩
  · simp [Oper.about, ho]
  · rw [Oper.semAt_plain F _ _ (by rw [ho]; intro c hc'; cases hc')]
    unfold execOp
    simp only [ho, hx, hy, Instr.storeAt, Instr.sureAddr, Sem.run_bind, Sem.run_pure, Result.andThen_ok, run_storeVar_row w g t ty old cells hg hi hold h1]
    exact hK' _ _ h

set_option maxHeartbeats 1000000 in
theorem stays_any (kb : Nat) (n th op arg : Int) (w : World) (hK : BoxC 3 w kb #[.int .i64 n]) :
    Calls Try.prog 64 #[.agg #[.int .i64 th, .int .i64 op, .int .i64 arg], .pointer (some ⟨kb, 0, none⟩)] w fun e w' => e = .returned (.bool (!(th == n))) ∧ Below w.heap.size w w' := by
  have hlt : kb < w.heap.size := hK.lt
  have HK := Lib.hid (hK.below (below_alloc w (.cells #[.int .i64 th, .int .i64 op, .int .i64 arg] 35))); clear hK
  have hk := HK.out.cell
  go_enter Try.func64, Try.ntmps64
  go_wp2
  go_ret
  exact ⟨by first | rfl | simp, below_alloc _ _⟩

theorem grown_new2 (W : World) (t : TypeId) (cs bs : Array Value) : W.grownBy ((W.alloc (.cells cs t)).setRow W.heap.size bs) none :=
  grown_below none (below_setRow (below_alloc W _) (Nat.le_refl _) bs)

set_option maxRecDepth 100000 in
set_option maxHeartbeats 4000000 in
/-- slices.Values's closure over waiters, for every loop body that keeps what lay at first. -/
theorem valuesW1_in (n : Nat) (hn : 1 ≤ n) (l Bs : Nat) (w0 : World) (A : Option Addr) (c : Nat) (zs : List Wtr) (hA : RdR Wtr.cs w0 A zs) (hz : zs.length ≤ 1048576) (J Jx : List Wtr → World → Prop)
    (W : World) (hJ : AbidesFrom W.heap.size J)
    (hY : ∀ pre x W, J pre W → pre.length < zs.length → YieldAt Fence.wide (n - 1) Try.prog l #[.agg #[.int .i64 x.th, .int .i64 x.op, .int .i64 x.arg]] W fun e W' =>
      (e = .returned (.bool true) ∧ J (pre ++ [x]) W' ∧ Below w0.heap.size W W') ∨ (e = .returned (.bool false) ∧ Jx (pre ++ [x]) W'))
    (hW : Below w0.heap.size w0 W) (hBs : W.cell? ⟨Bs, 0, none⟩ = some (.slice A zs.length c)) (h0 : J [] W) :
    CallsIn Fence.wide n Try.prog 158 #[.func (.yield l) #[] #[], .pointer (some ⟨Bs, 0, none⟩)] W fun e W' => (∃ v, e = .returned v) ∧
      ((∃ ys, ys = zs ∧ J ys W') ∨ (∃ pre, pre <+: zs ∧ Jx pre W')) := by
  have HA := Lib.hid hA; clear hA
  refine callsIn_of_wp Try.func158 rfl trivial ?_ rfl
  simp only [Try.ntmps158, List.size_toArray, List.length_cons, List.length_nil, Nat.reduceAdd, Nat.reduceSub, Array.replicate_succ, Array.replicate_zero, List.push_toArray, List.append_toArray, List.nil_append, List.cons_append]
  gi_wp2
  gi_loopw [7] (fun i wr => ∃ k : Nat, k ≤ zs.length ∧ i = .int .i64 k ∧ J (zs.take k) wr ∧ Below w0.heap.size w0 wr ∧ W.heap.size ≤ wr.heap.size)
    (fun i _ => zs.length - (intOf i).toNat)
  case atStart => exact ⟨0, Nat.zero_le _, rfl, by simpa using h0, hW, Nat.le_refl _⟩
  case round =>
    obtain ⟨k, hk, rfl, hJs, hnx, hsz⟩ := hrel
    by_cases hlt : k < zs.length
    · obtain ⟨x, hx⟩ : ∃ x, zs[k]? = some x := ⟨_, List.getElem?_eq_getElem hlt⟩
      obtain ⟨b, o, rfl, hrow⟩ := (HA.out.below hnx).row Wtr.len k x hx
      have HX := Lib.hid hx
      have HRW : Hid (wr.rangeAt b (o + k * 3) [.int .i64 x.th, .int .i64 x.op, .int .i64 x.arg]) := hrow
      have hgr := grown_new2 wr 35 #[.int .i64 0, .int .i64 0, .int .i64 0] #[.int .i64 x.th, .int .i64 x.op, .int .i64 x.arg]
      have hJ2 := hJ _ _ _ none hJs hgr (fun r e => by cases e)
      obtain ⟨fn, tmps, assign, body, hy, hR⟩ := hY _ x _ hJ2 (by rw [List.length_take]; omega)
      have hb2 : Below w0.heap.size wr ((wr.alloc (.cells #[.int .i64 0, .int .i64 0, .int .i64 0] 35)).setRow wr.heap.size #[.int .i64 x.th, .int .i64 x.op, .int .i64 x.arg]) := (below_setRow (below_alloc wr _) (Nat.le_refl _) _).mono hnx.size
      have hbx := (BoxC.new 35 wr #[.int .i64 0, .int .i64 0, .int .i64 0]).mrow #[.int .i64 x.th, .int .i64 x.op, .int .i64 x.arg]
      have hcx := hbx.cell
      have hlt' : (k : Int) < zs.length := by omega
      clear hx hrow
      gi_wp2_with (first | (refine wpListIn_load_mid rfl 35 _ rfl b (o + k * 3) ?_ _ _ HRW.out Try.underlying35 rfl info_iWaiter ?_; rfl) | (refine wpListIn_store_row rfl 35 _ _ rfl wr.heap.size _ rfl rfl 35 _ (BoxC.new 35 wr _) info_iWaiter rfl (one3w _ _ _) ?_))
      refine hR.mono ?_
      rintro e W3 (⟨rfl, hJ3, hk3⟩ | ⟨rfl, hJx3⟩)
      · clear hR hy hcx
        have hk1 : (k : Int) + 1 ≤ 9223372036854775807 := by omega
        gi_wp2
        go_roundw
        case rel => exact ⟨k + 1, by omega, by simp, by rw [List.take_add_one, HX.out]; exact hJ3, hnx.trans (hb2.trans hk3), Nat.le_trans hsz (Nat.le_trans hgr.size hk3.size)⟩
        case measure => simp [intOf]; omega
      · clear hR hy hcx
        gi_wp2
        refine bodyPost_ret (results_none rfl _ _ _) rfl ?_
        exact ⟨⟨_, rfl⟩, .inr ⟨zs.take k ++ [x], by rw [show zs.take k ++ [x] = zs.take (k + 1) from by rw [List.take_add_one, HX.out]; rfl]; exact List.take_prefix _ _, hJx3⟩⟩
    · obtain rfl : k = zs.length := by omega
      gi_wp2
      go_end0
      exact ⟨⟨_, rfl⟩, .inl ⟨_, rfl, by simpa using hJs⟩⟩

set_option maxHeartbeats 1000000 in
theorem valuesW_any (A : Option Addr) (nz c : Nat) (w : World) :
    Calls Try.prog 120 #[.slice A nz c] w fun e w' => e = .returned (.func (.func 158) #[] #[.pointer (some ⟨w.heap.size, 0, none⟩)]) ∧ w' = w.alloc (.cells #[.slice A nz c] 92) := by
  go_enter Try.func120, Try.ntmps120
  go_wp2
  go_ret
  exact ⟨rfl, rfl⟩

/-- What slices.Values hands back yields the waiters, in their order. -/
theorem valuesW_stops (n : Nat) (hn : 1 ≤ n) (Bs : Nat) (w0 : World) (A : Option Addr) (c : Nat) (zs : List Wtr) (hA : RdR Wtr.cs w0 A zs) (hz : zs.length ≤ 1048576) (w : World) (hB : Below w0.heap.size w0 w) (hlt : Bs < w.heap.size) (hBs : w.cell? ⟨Bs, 0, none⟩ = some (.slice A zs.length c)) :
    SeqStopsK Fence.wide n Try.prog 158 #[.pointer (some ⟨Bs, 0, none⟩)] (fun x : Wtr => #[.agg #[.int .i64 x.th, .int .i64 x.op, .int .i64 x.arg]]) (Below w0.heap.size) (fun ys => ys = zs) (fun pre => pre <+: zs) zs.length w := fun l J Jx W hW hJ _ hY h0 =>
  valuesW1_in n hn l Bs w0 A c zs hA hz J Jx W hJ hY (hB.trans (hW.mono hB.size)) ((hW.cell (p := ⟨Bs, 0, none⟩) hlt).trans hBs) h0
end Go.Proofs.Ythianfhfamkcmaa

namespace Go.Proofs.Ythianfhfamkcmaa
open Go.RowKit Go.Shelf
attribute [local go_sem] Oper.semAt_some

/-- Those whose thread is another one. -/
def keepT (n : Int) (x : Wtr) : Bool := !(x.th == n)
theorem keeps_below {B : Nat} {W W' : World} (h : Below W.heap.size W W') : KeepsFrom B W W' :=
  ⟨h.size, fun k _ _ hk _ => (h.block k (Array.getElem?_eq_some_iff.1 hk).1).trans hk⟩
def keptT (n : Int) (l : List Wtr) : List Wtr := l.filter (keepT n)
theorem keptT_hit {n : Int} (pre : List Wtr) {x : Wtr} (h : keepT n x = true) : keptT n (pre ++ [x]) = keptT n pre ++ [x] := by simp [keptT, h]
theorem keptT_miss {n : Int} (pre : List Wtr) {x : Wtr} (h : keepT n x = false) : keptT n (pre ++ [x]) = keptT n pre := by simp [keptT, h]
theorem keptT_len (n : Int) (l : List Wtr) : (keptT n l).length ≤ l.length := List.length_filter_le _ _
theorem cells_one (W : World) (x : Wtr) : ∀ (j : Nat) (u : Value), [Value.int .i64 x.th, .int .i64 x.op, .int .i64 x.arg][j]? = some u → (W.alloc (.cells #[.int .i64 x.th, .int .i64 x.op, .int .i64 x.arg] 35)).cell? ((⟨W.heap.size, 0, none⟩ : Addr).add j) = some u := fun j u h => by
  rw [Addr.add_mid, Nat.zero_add, (BoxC.new 35 W #[.int .i64 x.th, .int .i64 x.op, .int .i64 x.arg]).cell j]
  simpa using h

set_option maxRecDepth 100000 in
set_option maxHeartbeats 4000000 in
theorem filteredW_any (kb : Nat) (num : Int) (Bs : Nat) (A : Option Addr) (c : Nat) (zs : List Wtr) (w : World) (hA : RdR Wtr.cs w A zs) (hz : zs.length ≤ 1048576) (hK : BoxC 3 w kb #[.int .i64 num]) (hlt : Bs < w.heap.size) (hBs : w.cell? ⟨Bs, 0, none⟩ = some (.slice A zs.length c)) :
    Calls Try.prog 119 #[.func (.func 158) #[] #[.pointer (some ⟨Bs, 0, none⟩)], .func (.func 64) #[] #[.pointer (some ⟨kb, 0, none⟩)]] w fun e w' =>
      ∃ G d, e = .returned (.slice G (keptT num zs).length d) ∧ OwnR Wtr.cs 3 35 w.heap.size w' G d (keptT num zs) ∧ Below w.heap.size w w' := by
  obtain ⟨j0, hj, hy0, hy1, hy2⟩ := infoW
  have Hj := Lib.hid hj; have Hy0 := Lib.hid hy0; have Hy1 := Lib.hid hy1; have Hy2 := Lib.hid hy2
  clear hj hy0 hy1 hy2
  have HA := Lib.hid hA; have HK := Lib.hid hK; clear hA hK
  refine (callsIn_wide (n := 5)).1 ?_
  refine callsIn_of_wp_marks Try.func119 rfl trivial ?_ rfl
  simp only [Try.ntmps119, List.size_toArray, List.length_cons, List.length_nil, Nat.reduceAdd, Nat.reduceSub, Array.replicate_succ, Array.replicate_zero, List.push_toArray, List.append_toArray, List.nil_append, List.cons_append]
  gi_wp2
  have bF := Boxed.new w 79 (.func (.func 64) #[] #[.pointer (some ⟨kb, 0, none⟩)])
  have bO := Boxed.new (w.alloc (.cells #[.func (.func 64) #[] #[.pointer (some ⟨kb, 0, none⟩)]] 79)) 29 (.slice none 0 0)
  rw [World.size_alloc] at bO
  have hB0 : Below w.heap.size w ((w.alloc (.cells #[.func (.func 64) #[] #[.pointer (some ⟨kb, 0, none⟩)]] 79)).alloc (.cells #[.slice none 0 0] 29)) := ((Below.refl _ w).alloc (Nat.le_refl _) _).alloc (by simp) _
  have hsz : ((w.alloc (.cells #[.func (.func 64) #[] #[.pointer (some ⟨kb, 0, none⟩)]] 79)).alloc (.cells #[.slice none 0 0] 29)).heap.size = w.heap.size + 2 := by simp
  have hBs2 := cell_keep hB0 hBs
  refine wpIn_rangeFunc_ownH rfl (by decide) (gf := 158) (lb := #[.pointer (some ⟨Bs, 0, none⟩)]) rfl trivial (enters_of Try.func158 (by kernel_rfl) rfl)
    (valuesW_stops 4 (by decide) Bs w A c zs HA.out hz _ hB0 (by rw [hsz]; omega) hBs2) belowK_t (belowK_b (by rw [hsz]; omega)) (Below.refl _ _) (fun _ => rfl)
    (fun pre W => ((∃ v, Boxed W (w.heap.size + 1) 29 v ∧ W.ownsRow w.heap.size 35 3 v (keptT num pre).length (flatV Wtr.cs (keptT num pre)) ∧ True) ∧ Boxed W w.heap.size 79 (.func (.func 64) #[] #[.pointer (some ⟨kb, 0, none⟩)])) ∧ Below w.heap.size w W)
    (fun _ _ _ => False)
    (OwnFrom.and (OwnFrom.and (Own.from (holdsRow_own w.heap.size (w.heap.size + 1) 29 35 3 (fun pre => (keptT num pre).length) (fun pre => flatV Wtr.cs (keptT num pre)) (fun _ _ => True)) _) (Own.from (boxed_own _ _ _) _)) (ownFrom_below (Nat.le_refl _) (by rw [hsz]; omega)))
    (fun _ _ _ _ _ hs _ _ => hs)
    ⟨⟨⟨_, bO, World.ownsRow_nil _ _ _ _, trivial⟩, bF.alloc _⟩, hB0⟩
    (fun x a' W => ∃ Bx, w.heap.size + 1 < Bx ∧ BoxC 35 W Bx #[.int .i64 x.th, .int .i64 x.op, .int .i64 x.arg] ∧ a' = { tmps := #[.func (.func 158) #[] #[.pointer (some ⟨Bs, 0, none⟩)], .func (.func 64) #[] #[.pointer (some ⟨kb, 0, none⟩)], undef, .pointer (some ⟨w.heap.size, 0, none⟩), .slice none 0 0, .pointer (some ⟨w.heap.size + 1, 0, none⟩), .pointer (some ⟨Bx, 0, none⟩), .func (.func 158) #[] #[.pointer (some ⟨Bs, 0, none⟩)], .agg #[.int .i64 x.th, .int .i64 x.op, .int .i64 x.arg], undef, undef, undef, undef, undef, undef, undef, undef], defers := [] })
    (fun x a' _ X Y row hs hg hr => by
      obtain ⟨Bx, h1, h2, h3⟩ := hs
      exact ⟨Bx, h1, h2.mgrown hg (fun e => by
        obtain ⟨_, o, ho, hc⟩ := hr Bx e.symm
        rw [show X.heap[Bx]? = _ from h2] at ho; cases ho; cases hc), h3⟩)
    ?assign ?body ?done ?stop
  case assign =>
    rintro l pre x W K ⟨⟨⟨v, hv, hrow, _⟩, hf⟩, hB⟩ hK
    have hgr := grown_new2 W 35 #[.int .i64 0, .int .i64 0, .int .i64 0] #[.int .i64 x.th, .int .i64 x.op, .int .i64 x.arg]
    have hbl : Below W.heap.size W ((W.alloc (.cells #[.int .i64 0, .int .i64 0, .int .i64 0] 35)).setRow W.heap.size #[.int .i64 x.th, .int .i64 x.op, .int .i64 x.arg]) := below_setRow (below_alloc W _) (Nat.le_refl _) _
    gi_wp2_with (refine wpListIn_store_row rfl 35 _ _ rfl W.heap.size _ rfl rfl 35 _ (BoxC.new 35 W _) info_iWaiter rfl (one3w _ _ _) ?_)
    exact hK _ _ (keeps_below hbl) (hbl.mono hB.size) ⟨⟨⟨v, hv.kept hgr (by simp), own_below hrow hbl, trivial⟩, hf.kept hgr (by simp)⟩, hB.trans (hbl.mono hB.size)⟩ ⟨W.heap.size, hv.lt, (BoxC.new 35 W #[.int .i64 0, .int .i64 0, .int .i64 0]).mrow #[.int .i64 x.th, .int .i64 x.op, .int .i64 x.arg], rfl⟩
  case body =>
    rintro l pre x a' W hl ⟨r, hr⟩ ⟨⟨⟨v, hv, hrow, _⟩, hf⟩, hB⟩ ⟨Bx, hBx, bX, rfl⟩ hltp
    have HV := Lib.hid hv; have HR := Lib.hid hrow; have HF := Lib.hid hf; have HX := Lib.hid bX
    have HKW := Lib.hid (HK.out.below hB)
    have cf := hf.cell; have cx := bX.cell
    have hsW := hB.size
    have hpl := keptT_len num pre
    clear hrow hf bX hv
    cases q : (x.th == num)
    · have hk : keepT num x = true := by unfold keepT; rw [q]; rfl
      gi_wp2_with (first
        | (refine ⟨trivial, ?_⟩; gi_at_call 64; refine (CallsIn.inRound l (callsIn_wide.2 (stays_any kb num _ _ _ _ HKW.out))).mono ?_; rintro e w1 ⟨rfl, hb⟩; rw [q]; have hv1 : Boxed w1 (w.heap.size + 1) 29 v := BoxC.below HV.out hb; have cv1 := hv1.cell; have hr1 := own_below HR.out hb; have hf1 : Boxed w1 w.heap.size 79 (.func (.func 64) #[] #[.pointer (some ⟨kb, 0, none⟩)]) := BoxC.below HF.out hb; have cx1 := (BoxC.below HX.out hb).cell; have hB1 := hB.trans (hb.mono hsW); clear cf cx)
        | (gi_at_builtin; refine wpListIn_append_own _ rfl _ _ 29 rfl w.heap.size 35 j0 (.agg #[.int .i64 0, .int .i64 0, .int .i64 0]) 3 24 Try.underlying29 Hj.out Hy0.out Hy1.out Hy2.out rfl (by decide) _ _ _ rfl (hr1.alloc _) ⟨w1.heap.size, 0, none⟩ 1 1 [.int .i64 x.th, .int .i64 x.op, .int .i64 x.arg] rfl rfl (cells_one _ _) (by simp [Value.oneCell']) (by unfold maxLen; omega) (by omega) (by have := hB1.size; simp; omega) ?_; intro v' w2 hown' hgrow _; obtain ⟨g', cap', rfl⟩ := ownsRow_succ hown'; obtain ⟨hv1', hv2, hr2, hk2, hb2⟩ := hv1.appended (by decide) hr1 hB1.size (Nat.le_succ _) hown' hgrow; have hc2 := hv1'.cell; have hfz2 := hv1'.frozen))
      exact ⟨(keeps_below hb).trans (hk2.from _), (hb.mono hsW).trans hb2, ⟨⟨_, hv2, by rw [keptT_hit pre hk, flatV_append]; simpa [flatV, Wtr.cs] using hr2, trivial⟩, ((hf1.alloc _).kept (row := v.ownBlock) hgrow (hf1.not_row (by decide) hr1)).other (by omega) _⟩, hB1.trans hb2⟩
    · have hk : keepT num x = false := by unfold keepT; rw [q]; rfl
      gi_wp2_with (refine ⟨trivial, ?_⟩; gi_at_call 64; refine (CallsIn.inRound l (callsIn_wide.2 (stays_any kb num _ _ _ _ HKW.out))).mono ?_; rintro e w1 ⟨rfl, hb⟩; rw [q])
      exact ⟨keeps_below hb, hb.mono hsW, ⟨⟨v, BoxC.below HV.out hb, by rw [keptT_miss pre hk]; exact own_below HR.out hb, trivial⟩, BoxC.below HF.out hb⟩, hB.trans (hb.mono hsW)⟩
  case done =>
    rintro D ys W hD rfl ⟨⟨⟨v, hv, hrow, _⟩, hf⟩, hB⟩ hK
    have hc := hv.cell
    obtain ⟨G, d, rfl⟩ : ∃ G d, v = .slice G (keptT num ys).length d := by
      rcases hrow.2 with ⟨rfl, h0⟩ | ⟨g, cap, _, rfl, _⟩
      · exact ⟨none, 0, by rw [h0]⟩
      · exact ⟨_, _, rfl⟩
    gi_wp2
    refine ⟨by simp, .inl ⟨_, _, rfl, run_takeDeferred hK, ?_⟩⟩
    exact ⟨_, results_tmp rfl _ _ _, G, d, rfl, ownsRow_putObj hrow _ hK rfl, hB.trans (belowK_b (w := w) (Nat.le_refl _) W D _ _ (by rw [hsz] at hD; omega) hK rfl rfl)⟩
  case stop =>
    rintro D c pre W _ _ h _
    exact h.elim

set_option maxHeartbeats 1000000 in
theorem onlyW_any (kb : Nat) (num : Int) (A : Option Addr) (c : Nat) (zs : List Wtr) (w : World) (hA : RdR Wtr.cs w A zs) (hz : zs.length ≤ 1048576) (hK : BoxC 3 w kb #[.int .i64 num]) :
    Calls Try.prog 65 #[.slice A zs.length c, .func (.func 64) #[] #[.pointer (some ⟨kb, 0, none⟩)]] w fun e w' =>
      ∃ G d, e = .returned (.slice G (keptT num zs).length d) ∧ OwnR Wtr.cs 3 35 w.heap.size w' G d (keptT num zs) ∧ Below w.heap.size w w' := by
  have HA := Lib.hid hA; have HK := Lib.hid hK; clear hA hK
  go_enter Try.func65, Try.ntmps65
  go_wp2_with fail
  refine (valuesW_any _ _ _ _).mono ?_
  rintro e w1 ⟨rfl, rfl⟩
  have hb := below_alloc w (.cells #[.slice A zs.length c] 92)
  have hx := (BoxC.new 92 w #[.slice A zs.length c])
  go_wp2_with fail
  refine (filteredW_any kb num w.heap.size A c zs _ (HA.out.below hb) hz (HK.out.below hb) (by simp) (hx.cell 0)).mono ?_
  rintro e w2 ⟨G, d, rfl, ho, hb2⟩
  have HO := Lib.hid (OwnR.base ho (B' := w.heap.size) (by simp))
  have HB := Lib.hid (below_trans hb hb2)
  clear ho hb2 hb hx
  go_wp2
  go_ret
  exact ⟨G, d, rfl, HO.out, HB.out⟩
end Go.Proofs.Ythianfhfamkcmaa

namespace Go.Proofs.Ythianfhfamkcmaa
open Go.RowKit

theorem info_out : (Try.prog.info? 86).map (·.size) = some 4 := by kernel_rfl
theorem one4o (e : Bool) (c r m : Int) : (#[.bool e, .int .i64 c, .int .i64 r, .int .i64 m] : Array Value).all (·.oneCell') = true := by simp [Value.oneCell']
theorem results_out {fn : Func} {p : Tmp} (h : fn.results = #[.cell p 86]) (tmps : Array Value) (w : World) (g : Nat) (cs : Array Value)
    (hp : tmps.getD p undef = .pointer (some ⟨g, 0, none⟩)) (hg : BoxC 86 w g cs) (hs : cs.size = 4) :
    (results fn tmps).run Try.prog w = .ok (.agg cs) w :=
  results_cell_row h tmps w g 86 cs (0, 0) _ hp hg Try.underlying86 rfl (by rw [hs]; exact info_out)

set_option maxHeartbeats 1000000 in
theorem refused_any (c : Int) (w : World) : Calls Try.prog 111 #[.int .i64 c] w fun e w' => e = .returned (.agg #[.bool false, .int .i64 c, .int .i64 0, .int .i64 (-1)]) ∧ Below w.heap.size w w' := by
  have HR := Lib.hid (BoxC.new 86 w #[.bool false, .int .i64 0, .int .i64 0, .int .i64 0])
  go_enter Try.func111, Try.ntmps111
  go_wp2_with (refine wpList_store_row rfl 86 _ _ rfl w.heap.size _ rfl rfl 86 _ HR.out info_out rfl (one4o _ _ _ _) ?_)
  exact bodyPost_ret (results_out Try.results111 _ _ w.heap.size _ rfl (HR.out.mrow _) rfl) rfl ⟨rfl, below_setRow (below_alloc w _) (Nat.le_refl _) _⟩

set_option maxHeartbeats 1000000 in
theorem endedAlone_any (c r : Int) (w : World) : Calls Try.prog 156 #[.int .i64 c, .int .i64 r] w fun e w' => e = .returned (.agg #[.bool true, .int .i64 c, .int .i64 r, .int .i64 (-1)]) ∧ Below w.heap.size w w' := by
  have HR := Lib.hid (BoxC.new 86 w #[.bool false, .int .i64 0, .int .i64 0, .int .i64 0])
  go_enter Try.func156, Try.ntmps156
  go_wp2_with (refine wpList_store_row rfl 86 _ _ rfl w.heap.size _ rfl rfl 86 _ HR.out info_out rfl (one4o _ _ _ _) ?_)
  exact bodyPost_ret (results_out Try.results156 _ _ w.heap.size _ rfl (HR.out.mrow _) rfl) rfl ⟨rfl, below_setRow (below_alloc w _) (Nat.le_refl _) _⟩

def partB (op : Int) : Int := if op = 1 then 2 else if op = 2 then 1 else 3
set_option maxHeartbeats 1000000 in
theorem partner_any (th op arg : Int) (w : World) : Calls Try.prog 152 #[.agg #[.int .i64 th, .int .i64 op, .int .i64 arg]] w fun e w' => e = .returned (.int .i64 (partB op)) ∧ Below w.heap.size w w' := by
  by_cases h1 : op = 1
  · subst h1
    go_enter Try.func152, Try.ntmps152
    go_wp2
    go_ret
    exact ⟨rfl, below_alloc _ _⟩
  by_cases h2 : op = 2
  · subst h2
    go_enter Try.func152, Try.ntmps152
    go_wp2
    go_ret
    exact ⟨rfl, below_alloc _ _⟩
  have HV : Hid (partB op = 3) := by unfold Hid partB; rw [if_neg h1, if_neg h2]
  have b1 : (op == 1) = false := by simpa using h1
  have b2 : (op == 2) = false := by simpa using h2
  go_enter Try.func152, Try.ntmps152
  go_wp2
  go_ret
  exact ⟨ret_int HV.out.symm, below_alloc _ _⟩

set_option maxHeartbeats 1000000 in
theorem resultWith_any (th op arg th2 op2 arg2 : Int) (w : World) : Calls Try.prog 154 #[.agg #[.int .i64 th, .int .i64 op, .int .i64 arg], .agg #[.int .i64 th2, .int .i64 op2, .int .i64 arg2]] w fun e w' => e = .returned (.int .i64 (if op = 1 then arg else arg2)) ∧ Below w.heap.size w w' := by
  by_cases h1 : op = 1
  · subst h1
    rw [if_pos rfl]
    go_enter Try.func154, Try.ntmps154
    go_wp2
    go_ret
    exact ⟨rfl, below_alloc2 _ _ _⟩
  rw [if_neg h1]
  have b1 : (op == 1) = false := by simpa using h1
  go_enter Try.func154, Try.ntmps154
  go_wp2
  go_ret
  exact ⟨rfl, below_alloc2 _ _ _⟩

set_option maxHeartbeats 1000000 in
theorem fits_any (th op arg th2 op2 arg2 : Int) (k : Nat) (w : World) (hK : BoxC 35 w k #[.int .i64 th2, .int .i64 op2, .int .i64 arg2]) :
    Calls Try.prog 151 #[.agg #[.int .i64 th, .int .i64 op, .int .i64 arg], .pointer (some ⟨k, 0, none⟩)] w fun e w' => e = .returned (.bool (op == partB op2)) ∧ Below w.heap.size w w' := by
  have hlt : k < w.heap.size := hK.lt
  have HX := Lib.hid (BoxC.new 35 w #[.int .i64 th, .int .i64 op, .int .i64 arg])
  have HK := Lib.hid (hK.below (below_alloc w (.cells #[.int .i64 th, .int .i64 op, .int .i64 arg] 35))); clear hK
  obtain ⟨v, hv⟩ : ∃ v, (op == partB op2) = v := ⟨_, rfl⟩
  obtain ⟨pv, hpv⟩ : ∃ pv, partB op2 = pv := ⟨_, rfl⟩
  have HP := Lib.hid hpv
  rw [hpv] at hv ⊢
  clear hpv
  rw [hv]
  go_enter Try.func151, Try.ntmps151
  go_wp2_with fail
  go_region_held3 (fun w' => (∀ j : Nat, w'.cell? ⟨w.heap.size, j, none⟩ = (#[.int .i64 th, .int .i64 op, .int .i64 arg] : Array Value)[j]?) ∧ (∀ j : Nat, w'.cell? ⟨k, j, none⟩ = (#[.int .i64 th2, .int .i64 op2, .int .i64 arg2] : Array Value)[j]?))
    (first | exact ⟨HX.out.cell, HK.out.cell⟩ | exact ⟨(HX.out.below (below_drew_trans h1)).cell, (HK.out.below (below_drew_trans h1)).cell⟩)
    (first | (go_at_call 152; (with_reducible refine (partner_any th2 op2 arg2 _).mono ?_); rintro e w7 ⟨rfl, h1⟩; rw [HP.out]))
  have HB := Lib.hid (below_trans (below_alloc w _) (below_drew_trans h1))
  clear h1
  go_wp2
  go_ret
  exact ⟨by rw [← hv]; rfl, HB.out⟩
end Go.Proofs.Ythianfhfamkcmaa

namespace Go.Proofs.Ythianfhfamkcmaa
open Go.RowKit

/-- A slice whose cells lie in a block of the call's own. -/
def SegC (b0 : Nat) (w : World) (A : Option Addr) (vs : List Value) : Prop :=
  vs = [] ∨ ∃ g o, A = some ⟨g, o, none⟩ ∧ b0 ≤ g ∧ (∀ j v, vs[j]? = some v → w.cell? ⟨g, o + j, none⟩ = some v) ∧ (∀ j, w.frozen? ⟨g, j, none⟩ = false)
theorem SegC.ofI {b0 : Nat} {w : World} {A : Option Addr} {c : Nat} {l : List Int} (h : NewA b0 w A c l) : SegC b0 w A (ints l) := by
  rcases Nat.eq_zero_or_pos l.length with h0 | h0
  · exact .inl (by rw [List.eq_nil_of_length_eq_zero h0]; rfl)
  rcases h.2 with ⟨hv, h1⟩ | ⟨g, cap, cur, hv, hb, _⟩
  · omega
  · simp only [Value.slice.injEq] at hv
    obtain ⟨rfl, _, rfl⟩ := hv
    refine .inr ⟨g, 0, rfl, hb, fun j v hj => ?_, fun j => World.ownsRow.frozenAt h j⟩
    have hlt : j < (ints l).length := (List.getElem?_eq_some_iff.1 hj).1
    rw [length_ints] at hlt
    rw [Nat.zero_add, World.ownsRow.cellAt h j (by omega), hj]
theorem SegC.ofW {b0 : Nat} {w : World} {A : Option Addr} {c : Nat} {l : List Wtr} (h : OwnR Wtr.cs 3 35 b0 w A c l) : SegC b0 w A (flatV Wtr.cs l) := by
  rcases Nat.eq_zero_or_pos l.length with h0 | h0
  · exact .inl (by rw [List.eq_nil_of_length_eq_zero h0]; rfl)
  rcases h.2 with ⟨hv, h1⟩ | ⟨g, cap, cur, hv, hb, _⟩
  · omega
  · simp only [Value.slice.injEq] at hv
    obtain ⟨rfl, _, rfl⟩ := hv
    refine .inr ⟨g, 0, rfl, hb, fun j v hj => ?_, fun j => World.ownsRow.frozenAt h j⟩
    have hlt : j < (flatV Wtr.cs l).length := (List.getElem?_eq_some_iff.1 hj).1
    rw [flatV_len Wtr.len] at hlt
    rw [Nat.zero_add, World.ownsRow.cellAt h j (by omega), hj]
theorem SegC.rd {b0 : Nat} {w : World} {A : Option Addr} {l : List Int} (h : SegC b0 w A (ints l)) : Rd w A l := by
  intro i hi
  rcases h with h | ⟨g, o, rfl, _, hc, _⟩
  · have : (ints l).length = 0 := by rw [h]; rfl
    rw [length_ints] at this; omega
  · exact ⟨g, o, rfl, hc i _ (ints_get l i hi)⟩
theorem SegC.rdW {b0 : Nat} {w : World} {A : Option Addr} {l : List Wtr} (h : SegC b0 w A (flatV Wtr.cs l)) : RdR Wtr.cs w A l := by
  rcases h with h | ⟨g, o, rfl, _, hc, _⟩
  · have : (flatV Wtr.cs l).length = 0 := by rw [h]; rfl
    rw [flatV_len Wtr.len] at this
    exact .inl (List.eq_nil_of_length_eq_zero (by omega))
  · exact .inr ⟨g, o, rfl, hc⟩
theorem SegC.below {b0 : Nat} {w w' : World} {A : Option Addr} {vs : List Value} (h : SegC b0 w A vs) (hb : Below w.heap.size w w') : SegC b0 w' A vs := by
  rcases h with h | ⟨g, o, rfl, h1, hc, hf⟩
  · exact .inl h
  · by_cases he : vs = []
    · exact .inl he
    · have h0 : vs[0]? = some (vs[0]'(List.length_pos_iff.2 he)) := List.getElem?_eq_getElem _
      have hlt := block_lt_of_cell (hc 0 _ h0)
      exact .inr ⟨g, o, rfl, h1, fun j v hj => cell_keep hb (hc j v hj), fun j => (hb.frozen (p := ⟨g, j, none⟩) hlt).trans (hf j)⟩
theorem SegC.base {b0 b1 : Nat} {w : World} {A : Option Addr} {vs : List Value} (h : SegC b0 w A vs) (hb : b1 ≤ b0) : SegC b1 w A vs := by
  rcases h with h | ⟨g, o, rfl, h1, hc, hf⟩
  · exact .inl h
  · exact .inr ⟨g, o, rfl, by omega, hc, hf⟩
/-- What is done to another block leaves it. -/
theorem SegC.kept {b0 : Nat} {w w' : World} {A : Option Addr} {n c : Nat} {vs : List Value} (h : SegC b0 w A vs) {row : Option Nat} (hg : w.grownBy w' row) (hne : vs = [] ∨ (Value.slice A n c).ownBlock ≠ row) : SegC b0 w' A vs := by
  rcases h with h | ⟨g, o, rfl, h1, hc, hf⟩
  · exact .inl h
  · by_cases he : vs = []
    · exact .inl he
    · have h0 : vs[0]? = some (vs[0]'(List.length_pos_iff.2 he)) := List.getElem?_eq_getElem _
      have hlt := block_lt_of_cell (hc 0 _ h0)
      have hr : some g ≠ row := by rcases hne with h9 | h9; exact absurd h9 he; exact h9
      refine .inr ⟨g, o, rfl, h1, fun j v hj => ?_, fun j => ?_⟩
      · have := hc j v hj
        unfold World.cell? at this ⊢
        rw [hg.block g hlt hr]; exact this
      · have := hf j
        unfold World.frozen? at this ⊢
        rw [hg.block g hlt hr]; exact this
theorem SegC.stored {b0 g o : Nat} {w : World} {vs : List Value} (h : SegC b0 w (some ⟨g, o, none⟩) vs) (j : Nat) (u : Value) (hj : j < vs.length) :
    SegC b0 (w.setCell ⟨g, o + j, none⟩ u) (some ⟨g, o, none⟩) (vs.set j u) ∧ w.grownBy (w.setCell ⟨g, o + j, none⟩ u) (some g) := by
  have hgr : w.grownBy (w.setCell ⟨g, o + j, none⟩ u) (some g) := ⟨rfl, rfl, rfl, by rw [size_setc2]; exact Nat.le_refl _, fun i hi hr => heap_setCell_other _ _ _ _ (by intro e; exact hr (by rw [e]))⟩
  refine ⟨?_, hgr⟩
  rcases h with h | ⟨g', o', he, h1, hc, hf⟩
  · rw [h] at hj; simp at hj
  · simp only [Option.some.injEq, Addr.mk.injEq, and_true] at he
    obtain ⟨rfl, rfl⟩ := he
    refine .inr ⟨g, o, rfl, h1, fun i v hi => ?_, fun i => ?_⟩
    · by_cases e : i = j
      · subst e
        rw [List.getElem?_set, if_pos rfl, if_pos hj] at hi
        obtain rfl := Option.some.inj hi
        exact World.cell?_setCell_same _ _ _ (hc i _ (List.getElem?_eq_getElem hj))
      · rw [List.getElem?_set, if_neg (Ne.symm e)] at hi
        rw [World.cell?_setCell_other _ _ _ _ (by intro h; simp only [Addr.mk.injEq] at h; omega)]
        exact hc i v hi
    · have := hf i
      simpa using this

set_option maxHeartbeats 1000000 in
theorem markI_seg (A : Option Addr) (c base : Nat) (zs : List Int) (k : Int) (w : World) (hn : zs.length ≤ 1048576) (h0 : 0 ≤ k) (h1 : k ≤ 1000000000) (hown : SegC base w A (ints zs)) :
    Calls Try.prog 59 #[.slice A zs.length c, .int .i64 k] w fun e w' => e = .returned (.int .i64 (k + zs.length)) ∧ SegC base w' A (ints (upFrom k zs.length)) ∧ w.grownBy w' (Value.ownBlock (.slice A zs.length c)) := by
  have HO := Lib.hid hown; clear hown
  go_enter Try.func59, Try.ntmps59
  go_wp2
  go_loopw [1, 5] (fun kk i wr => ∃ j : Nat, j ≤ zs.length ∧ i = .int .i64 j ∧ kk = .int .i64 (k + j) ∧ SegC base wr A (ints (markTo k zs j)) ∧ w.grownBy wr (Value.ownBlock (.slice A zs.length c)))
    (fun _ i _ => zs.length - (intOf i).toNat)
  case atStart => exact ⟨0, Nat.zero_le _, rfl, by simp, by rw [markTo_zero]; exact HO.out, World.grownBy.refl _ _⟩
  case round =>
    obtain ⟨j, hj, rfl, rfl, hown, hgr⟩ := hrel
    have HO' := Lib.hid hown; have HG := Lib.hid hgr
    clear hown hgr
    by_cases hlt : j < zs.length
    · have hlt' : (j : Int) < zs.length := by omega
      have hml : (ints (markTo k zs j)).length = zs.length := by rw [length_ints]; exact markTo_length _ _ _ hj
      obtain ⟨g, o, rfl, hold, hfz⟩ : ∃ g o, A = some ⟨g, o, none⟩ ∧ (∃ y, wr.cell? ⟨g, o + j, none⟩ = some (.int .i64 y)) ∧ ∀ i, wr.frozen? ⟨g, i, none⟩ = false := by
        rcases HO'.out with h | ⟨g, o, rfl, _, hc, hf⟩
        · rw [h] at hml; simp at hml; omega
        · exact ⟨g, o, rfl, ⟨_, hc j _ (ints_get _ _ (by rw [markTo_length _ _ _ hj]; exact hlt))⟩, hf⟩
      obtain ⟨y, c0⟩ := hold
      have HS := Lib.hid (HO'.out.stored j (.int .i64 (k + j)) (by omega))
      clear hml
      go_wp2
      go_roundw
      case rel =>
        have h1 := HS.out.1
        rw [ints_set, markTo_set _ _ _ hlt] at h1
        exact ⟨j + 1, by omega, by go_num, by go_num, h1, grown_trans HG.out HS.out.2⟩
      case measure => simp [intOf]; omega
    · obtain rfl : j = zs.length := by omega
      go_wp2
      go_ret
      refine ⟨rfl, ?_, HG.out⟩
      have := HO'.out
      rwa [markTo_all _ _ _ rfl] at this

set_option maxHeartbeats 2000000 in
theorem markW_seg (A : Option Addr) (c base n : Nat) (zs : List Int) (k : Int) (w : World) (hl : zs.length = n * 3) (hn : n ≤ 1048576) (h0 : 0 ≤ k) (h1 : k ≤ 1000000000) (hown : SegC base w A (ints zs)) :
    Calls Try.prog 60 #[.slice A n c, .int .i64 k] w fun e w' => e = .returned (.int .i64 (k + (n * 3 : Nat))) ∧ SegC base w' A (ints (upFrom k (n * 3))) ∧ w.grownBy w' (Value.ownBlock (.slice A n c)) := by
  have HO := Lib.hid hown; clear hown
  have HLZ := Lib.hid hl; clear hl
  go_enter Try.func60, Try.ntmps60
  go_wp2
  go_loopw [1, 5] (fun kk i wr => ∃ j m : Nat, j ≤ n ∧ m = j * 3 ∧ i = .int .i64 j ∧ kk = .int .i64 (k + m) ∧ SegC base wr A (ints (markTo k zs m)) ∧ w.grownBy wr (Value.ownBlock (.slice A n c)))
    (fun _ i _ => n - (intOf i).toNat)
  case atStart => exact ⟨0, 0, Nat.zero_le _, rfl, rfl, by simp, by rw [markTo_zero]; exact HO.out, World.grownBy.refl _ _⟩
  case round =>
    obtain ⟨j, m, hj, hm, rfl, rfl, hown, hgr⟩ := hrel
    have HO' := Lib.hid hown; have HG := Lib.hid hgr; have HM := Lib.hid hm
    clear hown hgr
    have hmb : m ≤ 3145728 := by omega
    clear hm
    by_cases hlt : j < n
    · have hlt' : (j : Int) < n := by omega
      have hml : (markTo k zs m).length = n * 3 := by rw [markTo_length _ _ _ (by rw [HLZ.out, HM.out]; omega)]; exact HLZ.out
      have hmi : (ints (markTo k zs m)).length = n * 3 := by rw [length_ints]; exact hml
      obtain ⟨g, o, rfl, hold, hfz⟩ : ∃ g o, A = some ⟨g, o, none⟩ ∧ (∀ i, i < 3 → ∃ y, wr.cell? ⟨g, o + (j * 3 + i), none⟩ = some (.int .i64 y)) ∧ ∀ i, wr.frozen? ⟨g, i, none⟩ = false := by
        rcases HO'.out with h | ⟨g, o, rfl, _, hc, hf⟩
        · rw [h] at hmi; simp at hmi; omega
        · exact ⟨g, o, rfl, fun i hi => ⟨_, hc (j * 3 + i) _ (ints_get _ _ (by rw [hml]; omega))⟩, hf⟩
      obtain ⟨y0, c0⟩ := hold 0 (by decide)
      obtain ⟨y1, c1⟩ := hold 1 (by decide)
      obtain ⟨y2, c2⟩ := hold 2 (by decide)
      rw [Nat.add_zero] at c0
      rw [← Nat.add_assoc] at c1 c2
      have s0 := HO'.out.stored (j * 3) (.int .i64 (k + m)) (by omega)
      have s1 := s0.1.stored (j * 3 + 1) (.int .i64 (k + m + 1)) (by rw [List.length_set]; omega)
      have s2 := s1.1.stored (j * 3 + 2) (.int .i64 (k + m + 1 + 1)) (by rw [List.length_set, List.length_set]; omega)
      rw [← Nat.add_assoc, ← Nat.add_assoc] at s2
      rw [← Nat.add_assoc] at s1
      have HS := Lib.hid s2.1
      have HGS := Lib.hid (grown_trans s0.2 (grown_trans s1.2 s2.2))
      clear s0 s1 s2 hold hml hmi
      have hne1 : ¬ o + j * 3 = o + j * 3 + 1 := by omega
      have hne2 : ¬ o + j * 3 = o + j * 3 + 2 := by omega
      go_wp2
      go_roundw
      case rel =>
        refine ⟨j + 1, m + 3, by omega, by rw [HM.out]; omega, by go_num, by go_num, ?_, grown_trans HG.out HGS.out⟩
        have e1 : k + (m : Int) + 1 = k + ((m + 1 : Nat) : Int) := by omega
        have e2 : k + (m : Int) + 1 + 1 = k + ((m + 1 + 1 : Nat) : Int) := by omega
        have hset : (((ints (markTo k zs m)).set (j * 3) (.int .i64 (k + m))).set (j * 3 + 1) (.int .i64 (k + m + 1))).set (j * 3 + 2) (.int .i64 (k + m + 1 + 1)) = ints (markTo k zs (m + 3)) := by
          rw [e2, e1, ← HM.out, ints_set, ints_set, ints_set, markTo_set _ _ _ (by rw [HLZ.out, HM.out]; omega), markTo_set _ _ _ (by rw [HLZ.out, HM.out]; omega), markTo_set _ _ _ (by rw [HLZ.out, HM.out]; omega)]
        rw [← hset]
        exact HS.out
      case measure => simp [intOf]; omega
    · obtain rfl : j = n := by omega
      have hme : m = j * 3 := HM.out
      have hge : ¬ (j : Int) < j := by omega
      go_wp2
      go_ret
      refine ⟨rfl, ?_, HG.out⟩
      have := HO'.out
      rwa [hme, markTo_all _ _ _ HLZ.out.symm, HLZ.out] at this
end Go.Proofs.Ythianfhfamkcmaa

namespace Go.Proofs.Ythianfhfamkcmaa
open Go.RowKit

def flatI (l : List Wtr) : List Int := (l.map (fun x => [x.th, x.op, x.arg])).flatten
theorem flat_ints (l : List Wtr) : flatV Wtr.cs l = ints (flatI l) := by
  induction l with
  | nil => rfl
  | cons x r ih =>
    unfold flatV flatI at ih ⊢
    rw [List.map_cons, List.flatten_cons, ih, List.map_cons, List.flatten_cons]
    simp [ints, Wtr.cs]
theorem flatI_len (l : List Wtr) : (flatI l).length = l.length * 3 := by
  have h := flatV_len Wtr.len l
  rw [flat_ints, length_ints] at h
  exact h
theorem SegC.dis {b0 : Nat} {w w' : World} {A : Option Addr} {n c : Nat} {vs : List Value} {u : Value} (h : SegC b0 w A vs) (hg : w.grownBy w' u.ownBlock) (hd : Dis u (.slice A n c)) : SegC b0 w' A vs := by
  rcases h with h0 | ⟨g, o, rfl, h1, hc, hf⟩
  · exact .inl h0
  · exact SegC.kept (n := n) (c := c) (.inr ⟨g, o, rfl, h1, hc, hf⟩) hg (.inr (fun e => hd g e.symm rfl))
theorem Dis.symm {u v : Value} (h : Dis u v) : Dis v u := fun q h1 h2 => h q h2 h1

set_option maxHeartbeats 2000000 in
set_option maxRecDepth 100000 in
theorem markModel_any (A B O : Option Addr) (ca cb co nz nb no base : Nat) (zs xb xo : List Int) (cnt k : Int) (w : World) (hz : zs.length = nz) (hb : xb.length = nb * 3) (ho : xo.length = no * 3) (nz1 : nz ≤ 1048576) (nb1 : nb ≤ 1048576) (no1 : no ≤ 1048576) (h0 : 0 ≤ k) (h1 : k ≤ 1000)
    (sA : SegC base w A (ints zs)) (sB : SegC base w B (ints xb)) (sO : SegC base w O (ints xo)) (lA : ∀ q, (Value.slice A nz ca).ownBlock = some q → q < w.heap.size) (lB : ∀ q, (Value.slice B nb cb).ownBlock = some q → q < w.heap.size) (d12 : Dis (.slice A nz ca) (.slice B nb cb)) (d13 : Dis (.slice A nz ca) (.slice O no co)) (d23 : Dis (.slice B nb cb) (.slice O no co)) :
    Calls Try.prog 17 #[.agg #[.slice A nz ca, .int .i64 cnt, .slice B nb cb, .slice O no co], .int .i64 k] w fun e w' => e = .returned (.int .i64 (k + nz + (nb * 3 : Nat) + (no * 3 : Nat))) ∧
      SegC base w' A (ints (upFrom k nz)) ∧ SegC base w' B (ints (upFrom (k + nz) (nb * 3))) ∧ SegC base w' O (ints (upFrom (k + nz + (nb * 3 : Nat)) (no * 3))) ∧
      ∃ w1 w2, w.grownBy w1 (Value.ownBlock (.slice A nz ca)) ∧ w1.grownBy w2 (Value.ownBlock (.slice B nb cb)) ∧ w2.grownBy w' (Value.ownBlock (.slice O no co)) := by
  subst hz
  have SA := Lib.hid (sA.below (below_alloc w (.cells #[.slice A zs.length ca, .int .i64 cnt, .slice B nb cb, .slice O no co] 31))); have SB := Lib.hid (sB.below (below_alloc w (.cells #[.slice A zs.length ca, .int .i64 cnt, .slice B nb cb, .slice O no co] 31))); have SO := Lib.hid (sO.below (below_alloc w (.cells #[.slice A zs.length ca, .int .i64 cnt, .slice B nb cb, .slice O no co] 31)))
  have D12 := Lib.hid d12; have D13 := Lib.hid d13; have D23 := Lib.hid d23
  have HLB := Lib.hid hb; have HLO := Lib.hid ho
  have HM := Lib.hid (BoxC.new 31 w #[.slice A zs.length ca, .int .i64 cnt, .slice B nb cb, .slice O no co])
  have HNB := Lib.hid nb1; have HNO := Lib.hid no1
  have LA : Hid (some w.heap.size ≠ (Value.slice A zs.length ca).ownBlock) := fun e => by have := lA _ e.symm; omega
  have LB : Hid (some w.heap.size ≠ (Value.slice B nb cb).ownBlock) := fun e => by have := lB _ e.symm; omega
  clear sA sB sO d12 d13 d23 hb ho lA lB
  obtain ⟨mb, hmb⟩ : ∃ mb, nb * 3 = mb := ⟨_, rfl⟩
  obtain ⟨mo, hmo⟩ : ∃ mo, no * 3 = mo := ⟨_, rfl⟩
  have HMB := Lib.hid hmb; have HMO := Lib.hid hmo
  have bmb : mb ≤ 3145728 := by omega
  have bmo : mo ≤ 3145728 := by omega
  rw [hmb, hmo]
  clear hmb hmo nb1 no1
  go_enter Try.func17, Try.ntmps17
  go_wp2_with fail
  refine (markI_seg _ _ base zs _ _ nz1 h0 (by omega) SA.out).mono ?_
  rintro e w1 ⟨rfl, s1, g1⟩
  have G1 := Lib.hid g1
  have S1 := Lib.hid s1
  have SB1 := Lib.hid (SB.out.dis g1 D12.out); have SO1 := Lib.hid (SO.out.dis g1 D13.out)
  have HM1 := Lib.hid (HM.out.mgrown g1 LA.out)
  clear s1 g1 HM SA SB SO
  have hm := HM1.out.cell
  go_wp2_with fail
  refine (markW_seg _ _ base nb xb _ _ HLB.out HNB.out (by omega) (by omega) SB1.out).mono ?_
  rintro e w2 ⟨rfl, s2, g2⟩
  have G2 := Lib.hid g2
  have S2 := Lib.hid s2
  have SA2 := Lib.hid (S1.out.dis g2 D12.out.symm); have SO2 := Lib.hid (SO1.out.dis g2 D23.out)
  have HM2 := Lib.hid (HM1.out.mgrown g2 LB.out)
  clear s2 g2 HM1 S1 SB1 SO1 hm
  have hm := HM2.out.cell
  rw [HMB.out]
  go_wp2_with fail
  refine (markW_seg _ _ base no xo _ _ HLO.out HNO.out (by omega) (by omega) SO2.out).mono ?_
  rintro e w3 ⟨rfl, s3, g3⟩
  have G3 := Lib.hid g3
  have S3 := Lib.hid s3
  have SA3 := Lib.hid (SA2.out.dis g3 D13.out.symm); have SB3 := Lib.hid (S2.out.dis g3 D23.out.symm)
  clear s3 g3 HM2 SA2 S2 SO2 hm
  rw [HMO.out]
  go_wp2
  go_ret
  refine ⟨rfl, SA3.out, ?_, ?_, w1, w2, grown_trans (grown_below _ (below_alloc w _)) G1.out, G2.out, G3.out⟩
  · rw [← HMB.out]; exact SB3.out
  · rw [← HMO.out, ← HMB.out]; have h := S3.out; rw [← HMB.out] at h; exact h

set_option maxHeartbeats 2000000 in
set_option maxRecDepth 100000 in
theorem heldModel_any (A B O : Option Addr) (ca cb co nz nb no : Nat) (cnt k : Int) (w : World) (nz1 : nz ≤ 1048576) (nb1 : nb ≤ 1048576) (no1 : no ≤ 1048576) (h0 : 0 ≤ k) (h1 : k ≤ 1000)
    (rA : Rd w A (upFrom k nz)) (rB : Rd w B (upFrom (k + nz) (nb * 3))) (rO : Rd w O (upFrom (k + nz + (nb * 3 : Nat)) (no * 3))) :
    Calls Try.prog 18 #[.agg #[.slice A nz ca, .int .i64 cnt, .slice B nb cb, .slice O no co], .int .i64 k] w fun e w' => e = .returned (.int .i64 (k + nz + (nb * 3 : Nat) + (no * 3 : Nat))) ∧ Below w.heap.size w w' := by
  have RA := Lib.hid (rA.below (below_alloc w (.cells #[.slice A nz ca, .int .i64 cnt, .slice B nb cb, .slice O no co] 31))); have RB := Lib.hid (rB.below (below_alloc w (.cells #[.slice A nz ca, .int .i64 cnt, .slice B nb cb, .slice O no co] 31))); have RO := Lib.hid (rO.below (below_alloc w (.cells #[.slice A nz ca, .int .i64 cnt, .slice B nb cb, .slice O no co] 31)))
  clear rA rB rO
  have HNB := Lib.hid nb1; have HNO := Lib.hid no1
  obtain ⟨mb, hmb⟩ : ∃ mb, nb * 3 = mb := ⟨_, rfl⟩
  obtain ⟨mo, hmo⟩ : ∃ mo, no * 3 = mo := ⟨_, rfl⟩
  have HMB := Lib.hid hmb; have HMO := Lib.hid hmo
  have bmb : mb ≤ 3145728 := by omega
  have bmo : mo ≤ 3145728 := by omega
  rw [hmb, hmo]
  clear hmb hmo nb1 no1
  go_enter Try.func18, Try.ntmps18
  go_wp2_with fail
  refine (heldIntS_any _ nz _ _ _ nz1 h0 (by omega) RA.out).mono ?_
  rintro e w1 ⟨rfl, rfl⟩
  have e1 : ¬ (k + (nz : Int) < 0) := by omega
  go_wp2_with fail
  refine (heldRowW_any _ nb _ _ _ HNB.out (by omega) (by omega) RB.out).mono ?_
  rintro e w1 ⟨rfl, rfl⟩
  rw [HMB.out]
  have e2 : ¬ (k + (nz : Int) + (mb : Int) < 0) := by omega
  go_wp2_with fail
  refine (heldRowW_any _ no _ _ _ HNO.out (by omega) (by omega) (by have h := RO.out; rw [HMB.out] at h; exact h)).mono ?_
  rintro e w1 ⟨rfl, rfl⟩
  rw [HMO.out]
  have e3 : ¬ (k + (nz : Int) + (mb : Int) + (mo : Int) < 0) := by omega
  go_wp2
  go_ret
  exact ⟨rfl, below_alloc _ _⟩
end Go.Proofs.Ythianfhfamkcmaa

namespace Go.Proofs.Ythianfhfamkcmaa
open Go.RowKit

theorem own_zeros {w : World} {e : TypeId} {size n : Nat} {z : Array Value} (hz : z.size = size) (hn : n ≤ maxLen) (base : Nat) (hb : base ≤ w.heap.size) :
    (w.drew.alloc (.cells (Builtin.zeroCells z n ++ Builtin.zeroCells z (grownCap w n 0 e - n)) e)).ownsRow base e size (.slice (some ⟨w.heap.size, 0, none⟩) 0 (grownCap w n 0 e)) 0 [] := by
  refine ⟨by simp, .inr ⟨w.heap.size, grownCap w n 0 e, _, rfl, hb, heap_alloc_new w.drew _, Nat.zero_le _, grownCap_le_maxLen w n 0 e hn, ?_, by simp⟩⟩
  have h := grownCap_ge w n 0 e
  rw [Array.size_append, size_zeroCells, size_zeroCells, hz, ← Nat.add_mul]
  congr 1
  omega

theorem wpList_append_rdL {P : Program} (w : World) {ops : Array Oper} {rest : List Oper} {o : Oper} {a : Act} {Q : Exit → Act → World → Prop} (hgd : o.guard = none) (s x : Operand) (t : TypeId)
    (ho : o.op = .call { callee := .builtin .append, args := #[s, x], argTypes := #[t, t] })
    (base : Nat) (e : TypeId) (i : TypeInfo) (z : Value) (bytes : Nat) (ht : P.underlying t = some (.slice e)) (hi : P.info? e = some i) (hz : i.zero = some z)
    (hsize : i.size = 1) (hby : i.bytes = bytes) (hzs : z.cells.size = 1)
    (v : Value) (xs : List Int) (hs : a.eval s = v) (hown : w.ownsRow base e 1 v xs.length (ints xs))
    (A : Option Addr) (c : Nat) (ys : List Int) (hx : a.eval x = .slice A ys.length c) (hA : Rd w A ys)
    (hbytes : (xs.length + ys.length) * bytes ≤ 140737488355328) (h63 : xs.length + ys.length ≤ maxLen) (hbase : base ≤ w.heap.size)
    (R : List Int) (hR : R = xs ++ ys) (h : ∀ B d w', w'.ownsRow base e 1 (.slice B R.length d) R.length (ints R) → w.grownBy w' v.ownBlock → wpList P ops Q rest (a.put o.dst (.slice B R.length d)) w') :
    wpList P ops Q (o :: rest) a w := by
  subst hR
  exact wpList_append_rd w hgd s x t ho base e i z bytes ht hi hz hsize hby hzs v xs hs hown A c ys hx hA hbytes h63 hbase h

theorem wpList_append_rowsL {P : Program} {α : Type} {f : α → List Value} {sz : Nat} (hf : ∀ x, (f x).length = sz) (h0 : 0 < sz) (h1 : ∀ x, ∀ u ∈ f x, u.oneCell' = true) (w : World) {ops : Array Oper} {rest : List Oper} {o : Oper} {a : Act} {Q : Exit → Act → World → Prop} (hgd : o.guard = none) (s x : Operand) (t : TypeId)
    (ho : o.op = .call { callee := .builtin .append, args := #[s, x], argTypes := #[t, t] })
    (base : Nat) (e : TypeId) (i : TypeInfo) (z : Value) (bytes : Nat) (ht : P.underlying t = some (.slice e)) (hi : P.info? e = some i) (hz : i.zero = some z)
    (hsize : i.size = sz) (hby : i.bytes = bytes) (hzs : z.cells.size = sz)
    (v : Value) (xs : List α) (hs : a.eval s = v) (hown : w.ownsRow base e sz v xs.length (flatV f xs))
    (A : Option Addr) (c : Nat) (ys : List α) (hx : a.eval x = .slice A ys.length c) (hA : RdR f w A ys)
    (hbytes : (xs.length + ys.length) * bytes ≤ 140737488355328) (h63 : xs.length + ys.length ≤ maxLen) (hbase : base ≤ w.heap.size)
    (R : List α) (hR : R = xs ++ ys) (h : ∀ B d w', w'.ownsRow base e sz (.slice B R.length d) R.length (flatV f R) → w.grownBy w' v.ownBlock → wpList P ops Q rest (a.put o.dst (.slice B R.length d)) w') :
    wpList P ops Q (o :: rest) a w := by
  subst hR
  exact wpList_append_rows hf h0 h1 w hgd s x t ho base e i z bytes ht hi hz hsize hby hzs v xs hs hown A c ys hx hA hbytes h63 hbase h

set_option maxHeartbeats 2000000 in
set_option maxRecDepth 100000 in
theorem growI_any (n : Nat) (w : World) (h0 : 0 < n) (hn : n ≤ 2097152) :
    Calls Try.prog 173 #[.slice none 0 0, .int .i64 n] w fun e w' => ∃ G c, e = .returned (.slice G 0 c) ∧ NewA w.heap.size w' G c [] ∧ Below w.heap.size w w' := by
  obtain ⟨i0, hi, hz0, hz1, hz2⟩ := info_parts Try.infoInt
  have hr := fun (wx : World) => Lib.run_append_nil_zeros (P := Try.prog) wx 22 3 22 3 i0 (.int .i64 0) .i64 .i64 Try.underlying22 Try.underlying3 hi hz0 n h0 (by rw [hz1]; decide) (by omega) (by rw [hz2]; omega)
  have HR := Lib.hid hr
  clear hr hi hz0 hz1 hz2
  have h0' : (0 : Int) < n := by omega
  go_enter Try.func173, Try.ntmps173
  go_wp2_with (at_builtin; refine Lib.wpList_append_run _ rfl (.tmp 20) (.tmp 21) 22 3 rfl _ _ rfl rfl _ _ (HR.out _) ?_)
  have HO : Hid (NewA w.heap.size (w.drew.alloc (.cells (Builtin.zeroCells #[.int .i64 0] n ++ Builtin.zeroCells #[.int .i64 0] (grownCap w n 0 3 - n)) 3)) (some ⟨w.heap.size, 0, none⟩) (grownCap w n 0 3) []) := own_zeros (w := w) (e := 3) (z := #[.int .i64 0]) (n := n) rfl (by unfold maxLen; omega) w.heap.size (Nat.le_refl _)
  have HC := Lib.hid (grownCap_ge w n 0 3)
  generalize grownCap w n 0 3 = c at HO HC ⊢
  have hc0 : 0 ≤ c := Nat.zero_le _
  go_wp2
  go_ret
  exact ⟨_, c, rfl, HO.out, (below_alloc w _).drew⟩

set_option maxHeartbeats 4000000 in
set_option maxRecDepth 100000 in
theorem concatI_any (s : Nat) (A B : Option Addr) (ca cb : Nat) (zs ys R : List Int) (w : World) (hR : R = zs ++ ys) (hz : zs.length ≤ 1048576) (hy : ys.length ≤ 1048576) (hpos : 0 < zs.length + ys.length)
    (hs0 : w.cell? ⟨s, 0, none⟩ = some (.slice A zs.length ca)) (hs1 : w.cell? ⟨s, 1, none⟩ = some (.slice B ys.length cb)) (hA : Rd w A zs) (hY : Rd w B ys) :
    Calls Try.prog 155 #[.slice (some ⟨s, 0, none⟩) 2 2] w fun e w' => ∃ G c, e = .returned (.slice G R.length c) ∧ NewA w.heap.size w' G c R ∧ Below w.heap.size w w' := by
  obtain ⟨i0, hi, hz0, hz1, hz2⟩ := info_parts Try.infoInt
  have Hi := Lib.hid hi; have Hz0 := Lib.hid hz0; have Hz1 := Lib.hid hz1; have Hz2 := Lib.hid hz2
  clear hi hz0 hz1 hz2
  have HA := Lib.hid hA; have HY := Lib.hid hY; have HS0 := Lib.hid hs0; have HS1 := Lib.hid hs1; clear hA hY hs0 hs1
  have HP := Lib.hid hpos; have HRR := Lib.hid hR; clear hpos hR
  go_enter Try.func155, Try.ntmps155
  go_wp2_with fail
  go_loopw [3, 11] (fun sv i wr => ((i = .int .i64 0 ∧ sv = .int .i64 0) ∨ (i = .int .i64 1 ∧ sv = .int .i64 zs.length) ∨ (i = .int .i64 2 ∧ sv = .int .i64 (zs.length + ys.length : Nat))) ∧ Below w.heap.size w wr) (fun _ i _ => 2 - (intOf i).toNat)
  case atStart => exact ⟨.inl ⟨rfl, rfl⟩, Below.refl _ _⟩
  case round =>
    obtain ⟨hst, hbl⟩ := hrel
    have HB := Lib.hid hbl
    clear hbl
    rcases hst with ⟨rfl, rfl⟩ | ⟨rfl, rfl⟩ | ⟨rfl, rfl⟩
    · have hc := cell_keep HB.out HS0.out
      have e1 : ¬ ((zs.length : Int) < 0) := by omega
      go_wp2
      go_roundw
      case rel => exact ⟨.inr (.inl ⟨rfl, by simp⟩), HB.out⟩
      case measure => simp [intOf]
    · have hc := cell_keep HB.out HS1.out
      have e1 : ¬ ((zs.length : Int) + (ys.length : Int) < 0) := by omega
      go_wp2
      go_roundw
      case rel => exact ⟨.inr (.inr ⟨rfl, by simp⟩), HB.out⟩
      case measure => simp [intOf]
    go_wp2_with fail
    refine (growI_any _ _ HP.out (by omega)).mono ?_
    rintro e w1 ⟨G, c, rfl, hown, hb⟩
    have HB1 := Lib.hid (below_trans HB.out hb)
    have HO1 := Lib.hid hown
    have HSW := Lib.hid HB.out.size
    clear hb hown
    go_wp2_with fail
    go_loopw [6, 27] (fun sv i wr => ∃ (L : List Int) (G : Option Addr) (c : Nat), sv = .slice G L.length c ∧ NewA w.heap.size wr G c L ∧ ((i = .int .i64 0 ∧ L = []) ∨ (i = .int .i64 1 ∧ L = zs) ∨ (i = .int .i64 2 ∧ L = R)) ∧ Below w.heap.size w wr) (fun _ i _ => 2 - (intOf i).toNat)
    case atStart => exact ⟨[], G, c, rfl, NewA.base HO1.out HSW.out, .inl ⟨rfl, rfl⟩, HB1.out⟩
    case round =>
      clear HB HB1 HO1 HSW
      obtain ⟨L, G, c, rfl, hown, hst, hbl⟩ := hrel
      have HB := Lib.hid hbl; have HO := Lib.hid hown
      have HSZ := Lib.hid hbl.size
      clear hbl hown
      rcases hst with ⟨rfl, hL⟩ | ⟨rfl, hL⟩ | ⟨rfl, hL⟩
      · have HLL : Hid (L.length ≤ 1048576) := by unfold Hid; rw [hL]; simp
        have HLE : Hid (zs = L ++ zs) := by unfold Hid; rw [hL]; rfl
        clear hL
        have hll := HLL.out
        have hc := cell_keep HB.out HS0.out
        go_wp2_with (at_builtin; refine wpList_append_rdL _ rfl (.tmp 31) (.tmp 32) 22 rfl w.heap.size 3 i0 (.int .i64 0) 8 Try.underlying22 Hi.out Hz0.out Hz1.out Hz2.out rfl _ L rfl HO.out _ _ zs rfl (HA.out.below HB.out) ?_ ?_ HSZ.out zs HLE.out ?_)
        · show (L.length + zs.length) * _ ≤ _; omega
        · show L.length + zs.length ≤ maxLen; unfold maxLen; omega
        intro G2 c2 w2 hown hgr
        have HO2 := Lib.hid hown
        have HB2 := Lib.hid (HB.out.grown hgr HSZ.out (fun q hq => (World.ownsRow.lt HO.out q hq).1))
        clear hown hgr
        go_wp2
        go_roundw
        case rel => exact ⟨_, G2, c2, rfl, HO2.out, .inr (.inl ⟨rfl, rfl⟩), HB2.out⟩
        case measure => simp [intOf]
      · have HLL : Hid (L.length ≤ 1048576) := by unfold Hid; rw [hL]; exact hz
        have HLE : Hid (R = L ++ ys) := by unfold Hid; rw [hL, HRR.out]
        clear hL
        have hll := HLL.out
        have hc := cell_keep HB.out HS1.out
        go_wp2_with (at_builtin; refine wpList_append_rdL _ rfl (.tmp 31) (.tmp 32) 22 rfl w.heap.size 3 i0 (.int .i64 0) 8 Try.underlying22 Hi.out Hz0.out Hz1.out Hz2.out rfl _ L rfl HO.out _ _ ys rfl (HY.out.below HB.out) ?_ ?_ HSZ.out R HLE.out ?_)
        · show (L.length + ys.length) * _ ≤ _; omega
        · show L.length + ys.length ≤ maxLen; unfold maxLen; omega
        intro G2 c2 w2 hown hgr
        have HO2 := Lib.hid hown
        have HB2 := Lib.hid (HB.out.grown hgr HSZ.out (fun q hq => (World.ownsRow.lt HO.out q hq).1))
        clear hown hgr
        go_wp2
        go_roundw
        case rel => exact ⟨_, G2, c2, rfl, HO2.out, .inr (.inr ⟨rfl, rfl⟩), HB2.out⟩
        case measure => simp [intOf]
      · have HLE := Lib.hid hL
        clear hL
        go_wp2
        go_ret
        exact ⟨G, c, by rw [← HLE.out]; rfl, by rw [← HLE.out]; exact HO.out, HB.out⟩

set_option maxHeartbeats 2000000 in
set_option maxRecDepth 100000 in
theorem growW_any (n : Nat) (w : World) (h0 : 0 < n) (hn : n ≤ 2097152) :
    Calls Try.prog 179 #[.slice none 0 0, .int .i64 n] w fun e w' => ∃ G c, e = .returned (.slice G 0 c) ∧ OwnR Wtr.cs 3 35 w.heap.size w' G c [] ∧ Below w.heap.size w w' := by
  obtain ⟨i0, hi, hz0, hz1, hz2⟩ := infoW
  have hr := fun (wx : World) => Lib.run_append_nil_zeros (P := Try.prog) wx 92 3 92 35 i0 (.agg #[.int .i64 0, .int .i64 0, .int .i64 0]) .i64 .i64 Try.underlying92 Try.underlying3 hi hz0 n h0 (by rw [hz1]; decide) (by omega) (by rw [hz2]; omega)
  have HR := Lib.hid hr
  clear hr hi hz0 hz1 hz2
  have h0' : (0 : Int) < n := by omega
  go_enter Try.func179, Try.ntmps179
  go_wp2_with (at_builtin; refine Lib.wpList_append_run _ rfl (.tmp 20) (.tmp 21) 92 3 rfl _ _ rfl rfl _ _ (HR.out _) ?_)
  have HO : Hid (OwnR Wtr.cs 3 35 w.heap.size (w.drew.alloc (.cells (Builtin.zeroCells #[.int .i64 0, .int .i64 0, .int .i64 0] n ++ Builtin.zeroCells #[.int .i64 0, .int .i64 0, .int .i64 0] (grownCap w n 0 35 - n)) 35)) (some ⟨w.heap.size, 0, none⟩) (grownCap w n 0 35) []) := own_zeros (w := w) (e := 35) (z := #[.int .i64 0, .int .i64 0, .int .i64 0]) (n := n) rfl (by unfold maxLen; omega) w.heap.size (Nat.le_refl _)
  have HC := Lib.hid (grownCap_ge w n 0 35)
  generalize grownCap w n 0 35 = c at HO HC ⊢
  have hc0 : 0 ≤ c := Nat.zero_le _
  go_wp2
  go_ret
  exact ⟨_, c, rfl, HO.out, (below_alloc w _).drew⟩

set_option maxHeartbeats 4000000 in
set_option maxRecDepth 100000 in
theorem concatW_any (s : Nat) (A B : Option Addr) (ca cb : Nat) (zs ys R : List Wtr) (w : World) (hR : R = zs ++ ys) (hz : zs.length ≤ 1048576) (hy : ys.length ≤ 1048576) (hpos : 0 < zs.length + ys.length)
    (hs0 : w.cell? ⟨s, 0, none⟩ = some (.slice A zs.length ca)) (hs1 : w.cell? ⟨s, 1, none⟩ = some (.slice B ys.length cb)) (hA : RdR Wtr.cs w A zs) (hY : RdR Wtr.cs w B ys) :
    Calls Try.prog 172 #[.slice (some ⟨s, 0, none⟩) 2 2] w fun e w' => ∃ G c, e = .returned (.slice G R.length c) ∧ OwnR Wtr.cs 3 35 w.heap.size w' G c R ∧ Below w.heap.size w w' := by
  obtain ⟨i0, hi, hz0, hz1, hz2⟩ := infoW
  have Hi := Lib.hid hi; have Hz0 := Lib.hid hz0; have Hz1 := Lib.hid hz1; have Hz2 := Lib.hid hz2
  clear hi hz0 hz1 hz2
  have HA := Lib.hid hA; have HY := Lib.hid hY; have HS0 := Lib.hid hs0; have HS1 := Lib.hid hs1; clear hA hY hs0 hs1
  have HP := Lib.hid hpos; have HRR := Lib.hid hR; clear hpos hR
  go_enter Try.func172, Try.ntmps172
  go_wp2_with fail
  go_loopw [3, 11] (fun sv i wr => ((i = .int .i64 0 ∧ sv = .int .i64 0) ∨ (i = .int .i64 1 ∧ sv = .int .i64 zs.length) ∨ (i = .int .i64 2 ∧ sv = .int .i64 (zs.length + ys.length : Nat))) ∧ Below w.heap.size w wr) (fun _ i _ => 2 - (intOf i).toNat)
  case atStart => exact ⟨.inl ⟨rfl, rfl⟩, Below.refl _ _⟩
  case round =>
    obtain ⟨hst, hbl⟩ := hrel
    have HB := Lib.hid hbl
    clear hbl
    rcases hst with ⟨rfl, rfl⟩ | ⟨rfl, rfl⟩ | ⟨rfl, rfl⟩
    · have hc := cell_keep HB.out HS0.out
      have e1 : ¬ ((zs.length : Int) < 0) := by omega
      go_wp2
      go_roundw
      case rel => exact ⟨.inr (.inl ⟨rfl, by simp⟩), HB.out⟩
      case measure => simp [intOf]
    · have hc := cell_keep HB.out HS1.out
      have e1 : ¬ ((zs.length : Int) + (ys.length : Int) < 0) := by omega
      go_wp2
      go_roundw
      case rel => exact ⟨.inr (.inr ⟨rfl, by simp⟩), HB.out⟩
      case measure => simp [intOf]
    go_wp2_with fail
    refine (growW_any _ _ HP.out (by omega)).mono ?_
    rintro e w1 ⟨G, c, rfl, hown, hb⟩
    have HB1 := Lib.hid (below_trans HB.out hb)
    have HO1 := Lib.hid hown
    have HSW := Lib.hid HB.out.size
    clear hb hown
    go_wp2_with fail
    go_loopw [6, 27] (fun sv i wr => ∃ (L : List Wtr) (G : Option Addr) (c : Nat), sv = .slice G L.length c ∧ OwnR Wtr.cs 3 35 w.heap.size wr G c L ∧ ((i = .int .i64 0 ∧ L = []) ∨ (i = .int .i64 1 ∧ L = zs) ∨ (i = .int .i64 2 ∧ L = R)) ∧ Below w.heap.size w wr) (fun _ i _ => 2 - (intOf i).toNat)
    case atStart => exact ⟨[], G, c, rfl, OwnR.base HO1.out HSW.out, .inl ⟨rfl, rfl⟩, HB1.out⟩
    case round =>
      clear HB HB1 HO1 HSW
      obtain ⟨L, G, c, rfl, hown, hst, hbl⟩ := hrel
      have HB := Lib.hid hbl; have HO := Lib.hid hown
      have HSZ := Lib.hid hbl.size
      clear hbl hown
      rcases hst with ⟨rfl, hL⟩ | ⟨rfl, hL⟩ | ⟨rfl, hL⟩
      · have HLL : Hid (L.length ≤ 1048576) := by unfold Hid; rw [hL]; simp
        have HLE : Hid (zs = L ++ zs) := by unfold Hid; rw [hL]; rfl
        clear hL
        have hll := HLL.out
        have hc := cell_keep HB.out HS0.out
        go_wp2_with (at_builtin; refine wpList_append_rowsL Wtr.len (by decide) Wtr.one _ rfl (.tmp 31) (.tmp 32) 92 rfl w.heap.size 35 i0 (.agg #[.int .i64 0, .int .i64 0, .int .i64 0]) 24 Try.underlying92 Hi.out Hz0.out Hz1.out Hz2.out rfl _ L rfl HO.out _ _ zs rfl (HA.out.below HB.out) ?_ ?_ HSZ.out zs HLE.out ?_)
        · show (L.length + zs.length) * _ ≤ _; omega
        · show L.length + zs.length ≤ maxLen; unfold maxLen; omega
        intro G2 c2 w2 hown hgr
        have HO2 := Lib.hid hown
        have HB2 := Lib.hid (HB.out.grown hgr HSZ.out (fun q hq => (World.ownsRow.lt HO.out q hq).1))
        clear hown hgr
        go_wp2
        go_roundw
        case rel => exact ⟨_, G2, c2, rfl, HO2.out, .inr (.inl ⟨rfl, rfl⟩), HB2.out⟩
        case measure => simp [intOf]
      · have HLL : Hid (L.length ≤ 1048576) := by unfold Hid; rw [hL]; exact hz
        have HLE : Hid (R = L ++ ys) := by unfold Hid; rw [hL, HRR.out]
        clear hL
        have hll := HLL.out
        have hc := cell_keep HB.out HS1.out
        go_wp2_with (at_builtin; refine wpList_append_rowsL Wtr.len (by decide) Wtr.one _ rfl (.tmp 31) (.tmp 32) 92 rfl w.heap.size 35 i0 (.agg #[.int .i64 0, .int .i64 0, .int .i64 0]) 24 Try.underlying92 Hi.out Hz0.out Hz1.out Hz2.out rfl _ L rfl HO.out _ _ ys rfl (HY.out.below HB.out) ?_ ?_ HSZ.out R HLE.out ?_)
        · show (L.length + ys.length) * _ ≤ _; omega
        · show L.length + ys.length ≤ maxLen; unfold maxLen; omega
        intro G2 c2 w2 hown hgr
        have HO2 := Lib.hid hown
        have HB2 := Lib.hid (HB.out.grown hgr HSZ.out (fun q hq => (World.ownsRow.lt HO.out q hq).1))
        clear hown hgr
        go_wp2
        go_roundw
        case rel => exact ⟨_, G2, c2, rfl, HO2.out, .inr (.inr ⟨rfl, rfl⟩), HB2.out⟩
        case measure => simp [intOf]
      · have HLE := Lib.hid hL
        clear hL
        go_wp2
        go_ret
        exact ⟨G, c, by rw [← HLE.out]; rfl, by rw [← HLE.out]; exact HO.out, HB.out⟩
end Go.Proofs.Ythianfhfamkcmaa

namespace Go.Proofs.Ythianfhfamkcmaa
open Go.RowKit

theorem gr_set {w w' : World} {k : Nat} (h : Below w.heap.size w w') (j : Nat) (v : Value) : w.grownBy (w'.setCell ⟨k, j, none⟩ v) (some k) := grown_set h j v
theorem gr_row {w w' : World} {r : Option Nat} (h : w.grownBy w' r) {k : Nat} (hk : w.heap.size ≤ k) (cs : Array Value) : w.grownBy (w'.setRow k cs) r := by
  have b := below_setRow (Below.refl w.heap.size w') hk cs
  exact ⟨b.os.trans h.os, b.tape.trans h.tape, b.output.trans h.output, Nat.le_trans h.size b.size, fun i hi hr => (b.block i hi).trans (h.block i hi hr)⟩
theorem below_grownN {w w1 w2 : World} {row : Option Nat} (h : w.grownBy w1 row) (hb : Below w1.heap.size w1 w2) : w.grownBy w2 row := grown_trans h (grown_below _ hb)

set_option maxHeartbeats 2000000 in
set_option maxRecDepth 100000 in
theorem countM_full (km : Nat) (A B O : Option Addr) (ca cb co nz nb no : Nat) (cnt : Int) (w : World) (hq : cnt = 1000000000) (hK : BoxC 31 w km #[.slice A nz ca, .int .i64 cnt, .slice B nb cb, .slice O no co]) :
    Calls Try.prog 115 #[.pointer (some ⟨km, 0, none⟩)] w fun e w' => e = .returned (.agg #[.bool false, .int .i64 7, .int .i64 0, .int .i64 (-1)]) ∧ Below w.heap.size w w' := by
  have hlt : km < w.heap.size := hK.lt
  have HR := Lib.hid (BoxC.new 86 w #[.bool false, .int .i64 0, .int .i64 0, .int .i64 0])
  have HK := Lib.hid (hK.below (below_alloc w (.cells #[.bool false, .int .i64 0, .int .i64 0, .int .i64 0] 86))); have HK0 := Lib.hid hK; clear hK
  have hk := HK.out.cell
  subst hq
  go_enter Try.func115, Try.ntmps115
  go_wp2_with fail
  refine (refused_any _ _).mono ?_
  rintro e w1 ⟨rfl, hb⟩
  have HR1 := Lib.hid (HR.out.below hb)
  have HB1 := Lib.hid (below_trans (below_alloc w _) hb)
  clear hb HR HK hk
  go_wp2_with (refine wpList_store_row rfl 86 _ _ rfl w.heap.size _ rfl rfl 86 _ HR1.out info_out rfl (one4o _ _ _ _) ?_)
  exact bodyPost_ret (results_out Try.results115 _ _ w.heap.size _ rfl (HR1.out.mrow _) rfl) rfl ⟨rfl, below_setRow HB1.out (Nat.le_refl _) _⟩

set_option maxHeartbeats 2000000 in
set_option maxRecDepth 100000 in
theorem countM_any (km : Nat) (A B O : Option Addr) (ca cb co nz nb no : Nat) (cnt : Int) (w : World) (hc0 : 0 ≤ cnt) (hc1 : cnt ≤ 1000000000) (hq : ¬ cnt = 1000000000) (hK : BoxC 31 w km #[.slice A nz ca, .int .i64 cnt, .slice B nb cb, .slice O no co]) :
    Calls Try.prog 115 #[.pointer (some ⟨km, 0, none⟩)] w fun e w' => e = .returned (.agg #[.bool true, .int .i64 0, .int .i64 cnt, .int .i64 (-1)]) ∧ BoxC 31 w' km #[.slice A nz ca, .int .i64 (cnt + 1), .slice B nb cb, .slice O no co] ∧ w.grownBy w' (some km) := by
  have hlt : km < w.heap.size := hK.lt
  have HR := Lib.hid (BoxC.new 86 w #[.bool false, .int .i64 0, .int .i64 0, .int .i64 0])
  have HK := Lib.hid (hK.below (below_alloc w (.cells #[.bool false, .int .i64 0, .int .i64 0, .int .i64 0] 86))); have HK0 := Lib.hid hK; clear hK
  have hk := HK.out.cell
  have e1 : IntKind.i64.wrap (cnt + 1) = cnt + 1 := IntWalk.i64_in _ (by omega)
  have hqb : (cnt == 1000000000) = false := by simpa using hq
  have hf := HK.out.mfroz
  go_enter Try.func115, Try.ntmps115
  go_upto_region 4 with fail
  have HK1 : Hid (BoxC 31 ((w.setCell ⟨km, 1, none⟩ (.int .i64 (cnt + 1))).alloc (.cells #[.bool false, .int .i64 0, .int .i64 0, .int .i64 0] 86)) km #[.slice A nz ca, .int .i64 (cnt + 1), .slice B nb cb, .slice O no co]) := Lib.hid ((HK0.out.mset 1 _).below (below_alloc _ _))
  have HR1 : Hid (BoxC 86 ((w.setCell ⟨km, 1, none⟩ (.int .i64 (cnt + 1))).alloc (.cells #[.bool false, .int .i64 0, .int .i64 0, .int .i64 0] 86)) w.heap.size #[.bool false, .int .i64 0, .int .i64 0, .int .i64 0]) := Lib.hid (by have h := BoxC.new 86 (w.setCell ⟨km, 1, none⟩ (.int .i64 (cnt + 1))) #[.bool false, .int .i64 0, .int .i64 0, .int .i64 0]; rw [size_setc2] at h; exact h)
  have HG1 : Hid (w.grownBy ((w.setCell ⟨km, 1, none⟩ (.int .i64 (cnt + 1))).alloc (.cells #[.bool false, .int .i64 0, .int .i64 0, .int .i64 0] 86)) (some km)) := Lib.hid (grown_trans (gr_set (k := km) (Below.refl _ w) 1 (.int .i64 (cnt + 1))) (grown_below _ (below_alloc _ _)))
  have hsz : w.heap.size < ((w.setCell ⟨km, 1, none⟩ (.int .i64 (cnt + 1))).alloc (.cells #[.bool false, .int .i64 0, .int .i64 0, .int .i64 0] 86)).heap.size := HR1.out.lt
  generalize (w.setCell ⟨km, 1, none⟩ (.int .i64 (cnt + 1))).alloc (.cells #[.bool false, .int .i64 0, .int .i64 0, .int .i64 0] 86) = w1 at HK1 HR1 HG1 hsz ⊢
  clear HK HK0 HR hk hf
  have hk := HK1.out.cell
  have e2 : IntKind.i64.wrap (cnt + 1 - 1) = cnt := by rw [Int.add_sub_cancel]; exact IntWalk.i64_in _ (by omega)
  have e3 : IntKind.i64.wrap cnt = cnt := IntWalk.i64_in _ (by omega)
  go_wp2_with fail
  refine (endedAlone_any _ _ _).mono ?_
  rintro e w2 ⟨rfl, hb⟩
  have HR2 := Lib.hid (HR1.out.below hb)
  have HK2 := Lib.hid (HK1.out.below hb)
  have HG2 := Lib.hid (below_grownN HG1.out hb)
  clear hb HR1 HK1 HG1 hk
  go_wp2_with (refine wpList_store_row rfl 86 _ _ rfl w.heap.size _ rfl rfl 86 _ HR2.out info_out rfl (one4o _ _ _ _) ?_)
  exact bodyPost_ret (results_out Try.results115 _ _ w.heap.size _ rfl (HR2.out.mrow _) rfl) rfl ⟨rfl, HK2.out.mrowO (by omega) _, gr_row HG2.out (Nat.le_refl _) _⟩

set_option maxHeartbeats 2000000 in
set_option maxRecDepth 100000 in
theorem popM_none (km : Nat) (A B O : Option Addr) (ca cb co nz nb no : Nat) (cnt : Int) (w : World) (hq : nz = 0) (hK : BoxC 31 w km #[.slice A nz ca, .int .i64 cnt, .slice B nb cb, .slice O no co]) :
    Calls Try.prog 114 #[.pointer (some ⟨km, 0, none⟩)] w fun e w' => e = .returned (.agg #[.bool true, .int .i64 14, .int .i64 0, .int .i64 (-1)]) ∧ Below w.heap.size w w' := by
  have hlt : km < w.heap.size := hK.lt
  have HR := Lib.hid (BoxC.new 86 w #[.bool false, .int .i64 0, .int .i64 0, .int .i64 0])
  have HK := Lib.hid (hK.below (below_alloc w (.cells #[.bool false, .int .i64 0, .int .i64 0, .int .i64 0] 86))); have HK0 := Lib.hid hK; clear hK
  have hk := HK.out.cell
  subst hq
  go_enter Try.func114, Try.ntmps114
  go_wp2_with fail
  refine (endedAlone_any _ _ _).mono ?_
  rintro e w1 ⟨rfl, hb⟩
  have HR1 := Lib.hid (HR.out.below hb)
  have HB1 := Lib.hid (below_trans (below_alloc w _) hb)
  clear hb HR HK hk
  go_wp2_with (refine wpList_store_row rfl 86 _ _ rfl w.heap.size _ rfl rfl 86 _ HR1.out info_out rfl (one4o _ _ _ _) ?_)
  exact bodyPost_ret (results_out Try.results114 _ _ w.heap.size _ rfl (HR1.out.mrow _) rfl) rfl ⟨rfl, below_setRow HB1.out (Nat.le_refl _) _⟩

/-- The tail of a segment: where it begins, and its cells. -/
def tailA (g o c : Nat) : Option Addr := if c = 1 then some ⟨g, o, none⟩ else some ⟨g, o + 1, none⟩
set_option maxHeartbeats 4000000 in
set_option maxRecDepth 100000 in
theorem popM_any (km g ko : Nat) (B O : Option Addr) (ca cb co nz nb no : Nat) (cnt z : Int) (w : World) (hn0 : 0 < nz) (hz : w.cell? ⟨g, ko, none⟩ = some (.int .i64 z)) (hK : BoxC 31 w km #[.slice (some ⟨g, ko, none⟩) nz ca, .int .i64 cnt, .slice B nb cb, .slice O no co]) :
    Calls Try.prog 114 #[.pointer (some ⟨km, 0, none⟩)] w fun e w' => e = .returned (.agg #[.bool true, .int .i64 0, .int .i64 z, .int .i64 (-1)]) ∧ BoxC 31 w' km #[.slice (tailA g ko ca) (nz - 1) (ca - 1), .int .i64 cnt, .slice B nb cb, .slice O no co] ∧ w.grownBy w' (some km) := by
  have hlt : km < w.heap.size := hK.lt
  have HR := Lib.hid (BoxC.new 86 w #[.bool false, .int .i64 0, .int .i64 0, .int .i64 0])
  have HK := Lib.hid (hK.below (below_alloc w (.cells #[.bool false, .int .i64 0, .int .i64 0, .int .i64 0] 86))); have HK0 := Lib.hid hK; clear hK
  have hk := HK.out.cell
  have HZ := Lib.hid (cell_keep (below_alloc w (.cells #[.bool false, .int .i64 0, .int .i64 0, .int .i64 0] 86)) hz)
  have hz' := HZ.out
  have hf := HK.out.mfroz
  have hnb : ¬ ((nz : Int) = 0) := by omega
  have hn1' : 1 ≤ nz := hn0
  by_cases hc1 : ca = 1
  · have ht : tailA g ko ca = some ⟨g, ko, none⟩ := if_pos hc1
    have hcq : (ca = 1) = True := eq_true hc1
    have HT := Lib.hid ht
    rw [ht]
    clear ht hc1
    go_enter Try.func114, Try.ntmps114
    go_upto_region 5 with fail
    have HK1 : Hid (BoxC 31 ((w.setCell ⟨km, 0, none⟩ (.slice (some ⟨g, ko, none⟩) (nz - 1) (ca - 1))).alloc (.cells #[.bool false, .int .i64 0, .int .i64 0, .int .i64 0] 86)) km #[.slice (some ⟨g, ko, none⟩) (nz - 1) (ca - 1), .int .i64 cnt, .slice B nb cb, .slice O no co]) := Lib.hid ((HK0.out.mset 0 _).below (below_alloc _ _))
    have HR1 : Hid (BoxC 86 ((w.setCell ⟨km, 0, none⟩ (.slice (some ⟨g, ko, none⟩) (nz - 1) (ca - 1))).alloc (.cells #[.bool false, .int .i64 0, .int .i64 0, .int .i64 0] 86)) w.heap.size #[.bool false, .int .i64 0, .int .i64 0, .int .i64 0]) := Lib.hid (by have h := BoxC.new 86 (w.setCell ⟨km, 0, none⟩ (.slice (some ⟨g, ko, none⟩) (nz - 1) (ca - 1))) #[.bool false, .int .i64 0, .int .i64 0, .int .i64 0]; rw [size_setc2] at h; exact h)
    have HG1 : Hid (w.grownBy ((w.setCell ⟨km, 0, none⟩ (.slice (some ⟨g, ko, none⟩) (nz - 1) (ca - 1))).alloc (.cells #[.bool false, .int .i64 0, .int .i64 0, .int .i64 0] 86)) (some km)) := Lib.hid (grown_trans (gr_set (k := km) (Below.refl _ w) 0 (.slice (some ⟨g, ko, none⟩) (nz - 1) (ca - 1))) (grown_below _ (below_alloc _ _)))
    have hsz : w.heap.size < ((w.setCell ⟨km, 0, none⟩ (.slice (some ⟨g, ko, none⟩) (nz - 1) (ca - 1))).alloc (.cells #[.bool false, .int .i64 0, .int .i64 0, .int .i64 0] 86)).heap.size := HR1.out.lt
    generalize (w.setCell ⟨km, 0, none⟩ (.slice (some ⟨g, ko, none⟩) (nz - 1) (ca - 1))).alloc (.cells #[.bool false, .int .i64 0, .int .i64 0, .int .i64 0] 86) = w1 at HK1 HR1 HG1 hsz ⊢
    clear HK HK0 HR hk hf
    go_wp2_with fail
    refine (endedAlone_any _ _ _).mono ?_
    rintro e w2 ⟨rfl, hb⟩
    have HR2 := Lib.hid (HR1.out.below hb)
    have HK2 := Lib.hid (HK1.out.below hb)
    have HG2 := Lib.hid (below_grownN HG1.out hb)
    clear hb HR1 HK1 HG1
    go_wp2_with (refine wpList_store_row rfl 86 _ _ rfl w.heap.size _ rfl rfl 86 _ HR2.out info_out rfl (one4o _ _ _ _) ?_)
    exact bodyPost_ret (results_out Try.results114 _ _ w.heap.size _ rfl (HR2.out.mrow _) rfl) rfl ⟨rfl, HK2.out.mrowO (by omega) _, gr_row HG2.out (Nat.le_refl _) _⟩
  · have ht : tailA g ko ca = some ⟨g, ko + 1, none⟩ := if_neg hc1
    have HT := Lib.hid ht
    rw [ht]
    clear ht
    go_enter Try.func114, Try.ntmps114
    go_upto_region 5 with fail
    have HK1 : Hid (BoxC 31 ((w.setCell ⟨km, 0, none⟩ (.slice (some ⟨g, ko + 1, none⟩) (nz - 1) (ca - 1))).alloc (.cells #[.bool false, .int .i64 0, .int .i64 0, .int .i64 0] 86)) km #[.slice (some ⟨g, ko + 1, none⟩) (nz - 1) (ca - 1), .int .i64 cnt, .slice B nb cb, .slice O no co]) := Lib.hid ((HK0.out.mset 0 _).below (below_alloc _ _))
    have HR1 : Hid (BoxC 86 ((w.setCell ⟨km, 0, none⟩ (.slice (some ⟨g, ko + 1, none⟩) (nz - 1) (ca - 1))).alloc (.cells #[.bool false, .int .i64 0, .int .i64 0, .int .i64 0] 86)) w.heap.size #[.bool false, .int .i64 0, .int .i64 0, .int .i64 0]) := Lib.hid (by have h := BoxC.new 86 (w.setCell ⟨km, 0, none⟩ (.slice (some ⟨g, ko + 1, none⟩) (nz - 1) (ca - 1))) #[.bool false, .int .i64 0, .int .i64 0, .int .i64 0]; rw [size_setc2] at h; exact h)
    have HG1 : Hid (w.grownBy ((w.setCell ⟨km, 0, none⟩ (.slice (some ⟨g, ko + 1, none⟩) (nz - 1) (ca - 1))).alloc (.cells #[.bool false, .int .i64 0, .int .i64 0, .int .i64 0] 86)) (some km)) := Lib.hid (grown_trans (gr_set (k := km) (Below.refl _ w) 0 (.slice (some ⟨g, ko + 1, none⟩) (nz - 1) (ca - 1))) (grown_below _ (below_alloc _ _)))
    have hsz : w.heap.size < ((w.setCell ⟨km, 0, none⟩ (.slice (some ⟨g, ko + 1, none⟩) (nz - 1) (ca - 1))).alloc (.cells #[.bool false, .int .i64 0, .int .i64 0, .int .i64 0] 86)).heap.size := HR1.out.lt
    generalize (w.setCell ⟨km, 0, none⟩ (.slice (some ⟨g, ko + 1, none⟩) (nz - 1) (ca - 1))).alloc (.cells #[.bool false, .int .i64 0, .int .i64 0, .int .i64 0] 86) = w1 at HK1 HR1 HG1 hsz ⊢
    clear HK HK0 HR hk hf
    go_wp2_with fail
    refine (endedAlone_any _ _ _).mono ?_
    rintro e w2 ⟨rfl, hb⟩
    have HR2 := Lib.hid (HR1.out.below hb)
    have HK2 := Lib.hid (HK1.out.below hb)
    have HG2 := Lib.hid (below_grownN HG1.out hb)
    clear hb HR1 HK1 HG1
    go_wp2_with (refine wpList_store_row rfl 86 _ _ rfl w.heap.size _ rfl rfl 86 _ HR2.out info_out rfl (one4o _ _ _ _) ?_)
    exact bodyPost_ret (results_out Try.results114 _ _ w.heap.size _ rfl (HR2.out.mrow _) rfl) rfl ⟨rfl, HK2.out.mrowO (by omega) _, gr_row HG2.out (Nat.le_refl _) _⟩
end Go.Proofs.Ythianfhfamkcmaa
