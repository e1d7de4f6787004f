/-
  Threads and calls as rows of a slice: structures, and the laws' helpers over them.
-/
import Derived.Test.YthianfhfamkcmaaJ01
import Derived.Test.YthianfhfamkcmaaJ04
import Derived.Test.YthianfhfamkcmaaJ08
import Derived.OwnWalk
namespace Go.Proofs.Ythianfhfamkcmaa
open Go.RowKit

structure Thd where
  (id st op arg pc til : Int)
  (per can : Bool)
  (r0 r1 r2 r3 r4 code res : Int)
def Thd.cs (t : Thd) : List Value := [.int .i64 t.id, .int .i64 t.st, .int .i64 t.op, .int .i64 t.arg, .int .i64 t.pc, .int .i64 t.til, .bool t.per, .bool t.can, .int .i64 t.r0, .int .i64 t.r1, .int .i64 t.r2, .int .i64 t.r3, .int .i64 t.r4, .int .i64 t.code, .int .i64 t.res]
def Thd.zero : Thd := ⟨0, 0, 0, 0, 0, 0, false, false, 0, 0, 0, 0, 0, 0, 0⟩
theorem Thd.len (t : Thd) : t.cs.length = 15 := rfl
structure Cll where
  (th op arg fr to code res : Int)
def Cll.cs (t : Cll) : List Value := [.int .i64 t.th, .int .i64 t.op, .int .i64 t.arg, .int .i64 t.fr, .int .i64 t.to, .int .i64 t.code, .int .i64 t.res]
def Cll.zero : Cll := ⟨0, 0, 0, 0, 0, 0, 0⟩
theorem Cll.len (t : Cll) : t.cs.length = 7 := rfl

/-- What is converted so far. -/
def fillR {α : Type} (z : α) (l : List α) (k : Nat) : List α := l.take k ++ List.replicate (l.length - k) z
theorem fillR_len {α : Type} (z : α) (l : List α) (k : Nat) (h : k ≤ l.length) : (fillR z l k).length = l.length := by simp [fillR]; omega
theorem fillR_zero {α : Type} (z : α) (l : List α) : fillR z l 0 = List.replicate l.length z := by simp [fillR]
theorem fillR_all {α : Type} (z : α) (l : List α) : fillR z l l.length = l := by simp [fillR]
theorem fillR_set {α : Type} (z : α) (l : List α) (k : Nat) (x : α) (h : l[k]? = some x) : (fillR z l k).set k x = fillR z l (k + 1) := by
  have hk : k < l.length := (List.getElem?_eq_some_iff.1 h).1
  apply List.ext_getElem?
  intro i
  unfold fillR
  rw [List.getElem?_set]
  by_cases h1 : k = i
  · subst h1
    rw [if_pos rfl, if_pos (by simp; omega), List.getElem?_append_left (by simp; omega), List.getElem?_take, if_pos (by omega), h]
  · rw [if_neg h1]
    by_cases h2 : i < k
    · rw [List.getElem?_append_left (by simp; omega), List.getElem?_append_left (by simp; omega), List.getElem?_take, List.getElem?_take, if_pos h2, if_pos (by omega)]
    · rw [List.getElem?_append_right (by simp; omega), List.getElem?_append_right (by simp; omega), List.getElem?_replicate, List.getElem?_replicate, List.length_take, List.length_take, Nat.min_eq_left (by omega), Nat.min_eq_left (by omega)]
      by_cases h3 : i < l.length
      · rw [if_pos (by omega), if_pos (by omega)]
      · rw [if_neg (by omega), if_neg (by omega)]
theorem made_rows {α : Type} {f : α → List Value} {s : Nat} (hf : ∀ x, (f x).length = s) (h0 : 0 < s) (x : α) (n : Nat) : (madeCells (f x).toArray (n * s)).toList = flatV f (List.replicate n x) := by
  apply List.ext_getElem?
  intro i
  unfold madeCells
  by_cases hi : i < n * s
  · have hq : i / s < n := (Nat.div_lt_iff_lt_mul h0).2 hi
    have hr : i % s < s := Nat.mod_lt _ h0
    have hd : i / s * s + i % s = i := by rw [Nat.mul_comm]; exact Nat.div_add_mod i s
    have hg := flatV_get hf (List.replicate n x) (i / s) (i % s) x (by rw [List.getElem?_replicate, if_pos hq]) hr
    rw [hd] at hg
    rw [hg]
    have hl : i % s < (f x).length := by rw [hf]; exact hr
    simp [hi, hf]
    rw [List.getElem?_eq_getElem hl]; rfl
  · rw [List.getElem?_eq_none (by simp; omega), List.getElem?_eq_none (by rw [flatV_len hf]; simp; omega)]
theorem flatV_rep {α : Type} (f : α → List Value) (z : α) (n : Nat) : flatV f (List.replicate n z) = (List.replicate n (f z)).flatten := by simp [flatV]

theorem info_lThread : (Try.prog.info? 154).map (·.size) = some 15 := by kernel_rfl
theorem info_iThread : (Try.prog.info? 150).map (·.size) = some 15 := by kernel_rfl
theorem made_Thread (n : Nat) : (madeCells (Thd.zero.cs).toArray (n * 15)).toList = flatV Thd.cs (List.replicate n Thd.zero) := by
  exact made_rows Thd.len (by decide) Thd.zero n
theorem parts_Thread : ∃ i0, Try.prog.info? 150 = some i0 ∧ i0.zero = some (.agg (Thd.zero.cs).toArray) ∧ i0.size = 15 ∧ i0.bytes ≤ 200 := by
  have h : (Try.prog.info? 150).map (fun i => (i.zero, i.size, decide (i.bytes ≤ 200))) = some (some (.agg (Thd.zero.cs).toArray), 15, true) := by kernel_rfl
  cases hq : Try.prog.info? 150 with
  | none => rw [hq] at h; cases h
  | some i0 =>
    rw [hq] at h
    simp only [Option.map_some, Option.some.injEq, Prod.mk.injEq, decide_eq_true_eq] at h
    exact ⟨i0, rfl, h.1, h.2.1, h.2.2⟩
set_option maxHeartbeats 1000000 in
theorem toThreadS_any (A : Option Addr) (c : Nat) (l : List Thd) (w : World) (hn : l.length ≤ 1048576) (hA : RdR Thd.cs w A l) :
    Calls Try.prog 90 #[.slice A l.length c] w fun e w' => e = .returned (.slice (some ⟨w.heap.size, 0, none⟩) l.length l.length) ∧
      OwnR Thd.cs 15 150 w.heap.size w' (some ⟨w.heap.size, 0, none⟩) l.length l ∧ Below w.heap.size w w' := by
  obtain ⟨i0, hi, hz0, hz1, hz2⟩ := parts_Thread
  have hb2 : i0.bytes * l.length ≤ 281474976710656 := by have h9 : i0.bytes * l.length ≤ 200 * 1048576 := Nat.mul_le_mul hz2 hn; omega
  have hml : l.length ≤ maxLen := by unfold maxLen; omega
  have Hi := Lib.hid hi; have Hz0 := Lib.hid hz0; have Hz1 := Lib.hid hz1
  have Hb2 := Lib.hid hb2; have Hml := Lib.hid hml
  clear hi hz0 hz1 hz2 hb2 hml
  have HA := Lib.hid hA; clear hA
  go_enter Try.func90, Try.ntmps90
  go_wp2_with (at_make; refine wpList_make_full _ rfl (.tmp 6) (.tmp 6) 71 rfl w.heap.size 150 i0 (.agg (Thd.zero.cs).toArray) 15 Try.underlying71 Hi.out Hz0.out Hz1.out .i64 .i64 _ _ l.length rfl rfl rfl rfl Hb2.out Hml.out (Nat.le_refl _) ?_)
  intro w1 hown hgr
  have hb := below_grown hgr
  rw [made_Thread, ← fillR_zero] at hown
  have HO : Hid (OwnR Thd.cs 15 150 w.heap.size w1 (some ⟨w.heap.size, 0, none⟩) l.length (fillR Thd.zero l 0)) := by unfold Hid OwnR; rw [fillR_len _ _ _ (Nat.zero_le _)]; exact hown
  have HB := Lib.hid hb
  clear hown hgr hb
  go_wp2
  go_loopw [4] (fun i wr => ∃ k : Nat, k ≤ l.length ∧ i = .int .i64 k ∧ OwnR Thd.cs 15 150 w.heap.size wr (some ⟨w.heap.size, 0, none⟩) l.length (fillR Thd.zero l k) ∧ Below w.heap.size w wr) (fun i _ => l.length - (intOf i).toNat)
  case atStart => exact ⟨0, Nat.zero_le _, rfl, HO.out, HB.out⟩
  case round =>
    obtain ⟨k, hk, rfl, hown, hbl⟩ := hrel
    have HO' := Lib.hid hown; have HB' := Lib.hid hbl
    clear hown hbl HO HB
    by_cases hlt : k < l.length
    · have hlt' : (k : Int) < l.length := by omega
      obtain ⟨x, hx⟩ : ∃ x, l[k]? = some x := ⟨_, List.getElem?_eq_getElem hlt⟩
      obtain ⟨b, o, rfl, hrow⟩ := (HA.out.below HB'.out).row Thd.len k x hx
      have HX := Lib.hid hx; have HRW := Lib.hid hrow
      have HLn : Hid (k < (fillR Thd.zero l k).length) := by unfold Hid; rw [fillR_len _ _ _ hk]; exact hlt
      clear hx hrow
      obtain ⟨id, st, op, arg, pc, til, per, can, r0, r1, r2, r3, r4, code, res⟩ := x
      go_wp2_with (refine wpList_load_mid rfl 154 _ rfl b (o + k * 15) ?_ _ _ HRW.out Try.underlying154 rfl info_lThread ?_)
      · rfl
      refine (toThread_any _ _ _ _ _ _ _ _ _ _ _ _ _ _ _ _).mono ?_
      rintro e w2 ⟨rfl, hb⟩
      have HO2 := Lib.hid (HO'.out.below hb)
      have HB2 := Lib.hid (below_trans HB'.out hb)
      clear hb
      have HT : Hid (w2.there w.heap.size (k * 15) (#[.int .i64 id, .int .i64 st, .int .i64 op, .int .i64 arg, .int .i64 pc, .int .i64 til, .bool per, .bool can, .int .i64 r0, .int .i64 r1, .int .i64 r2, .int .i64 r3, .int .i64 r4, .int .i64 code, .int .i64 res] : Array Value).size) := HO2.out.there Thd.len k HLn.out
      have HON : Hid ((#[.int .i64 id, .int .i64 st, .int .i64 op, .int .i64 arg, .int .i64 pc, .int .i64 til, .bool per, .bool can, .int .i64 r0, .int .i64 r1, .int .i64 r2, .int .i64 r3, .int .i64 r4, .int .i64 code, .int .i64 res] : Array Value).all (·.oneCell') = true) := by unfold Hid; simp [Value.oneCell']
      go_wp2_with (refine wpList_store_mid rfl 150 (.tmp 21) (.tmp 20) rfl w.heap.size (k * 15) #[.int .i64 id, .int .i64 st, .int .i64 op, .int .i64 arg, .int .i64 pc, .int .i64 til, .bool per, .bool can, .int .i64 r0, .int .i64 r1, .int .i64 r2, .int .i64 r3, .int .i64 r4, .int .i64 code, .int .i64 res] ?_ ?_ ?_ info_iThread HON.out ?_)
      · rfl
      · rfl
      · exact HT.out
      go_wp2
      go_roundw
      case rel =>
        refine ⟨k + 1, by omega, by go_num, ?_, below_setCells (Nat.le_refl _) _ _ _ HB2.out⟩
        have h := HO2.out.set Thd.len k ⟨id, st, op, arg, pc, til, per, can, r0, r1, r2, r3, r4, code, res⟩ HLn.out
        rw [fillR_set _ _ _ _ HX.out] at h
        exact h
      case measure => simp [intOf]; omega
    · have hfin : Hid (fillR Thd.zero l k = l) := by unfold Hid; rw [show k = l.length from by omega, fillR_all]
      have hge : ¬ (k : Int) < l.length := by omega
      go_wp2
      go_ret
      refine ⟨rfl, ?_, HB'.out⟩
      have := HO'.out
      rw [hfin.out] at this
      exact this

theorem info_lCall : (Try.prog.info? 52).map (·.size) = some 7 := by kernel_rfl
theorem info_iCall : (Try.prog.info? 58).map (·.size) = some 7 := by kernel_rfl
theorem made_Call (n : Nat) : (madeCells (Cll.zero.cs).toArray (n * 7)).toList = flatV Cll.cs (List.replicate n Cll.zero) := by
  exact made_rows Cll.len (by decide) Cll.zero n
theorem parts_Call : ∃ i0, Try.prog.info? 58 = some i0 ∧ i0.zero = some (.agg (Cll.zero.cs).toArray) ∧ i0.size = 7 ∧ i0.bytes ≤ 200 := by
  have h : (Try.prog.info? 58).map (fun i => (i.zero, i.size, decide (i.bytes ≤ 200))) = some (some (.agg (Cll.zero.cs).toArray), 7, true) := by kernel_rfl
  cases hq : Try.prog.info? 58 with
  | none => rw [hq] at h; cases h
  | some i0 =>
    rw [hq] at h
    simp only [Option.map_some, Option.some.injEq, Prod.mk.injEq, decide_eq_true_eq] at h
    exact ⟨i0, rfl, h.1, h.2.1, h.2.2⟩
set_option maxHeartbeats 1000000 in
theorem toCallS_any (A : Option Addr) (c : Nat) (l : List Cll) (w : World) (hn : l.length ≤ 1048576) (hA : RdR Cll.cs w A l) :
    Calls Try.prog 28 #[.slice A l.length c] w fun e w' => e = .returned (.slice (some ⟨w.heap.size, 0, none⟩) l.length l.length) ∧
      OwnR Cll.cs 7 58 w.heap.size w' (some ⟨w.heap.size, 0, none⟩) l.length l ∧ Below w.heap.size w w' := by
  obtain ⟨i0, hi, hz0, hz1, hz2⟩ := parts_Call
  have hb2 : i0.bytes * l.length ≤ 281474976710656 := by have h9 : i0.bytes * l.length ≤ 200 * 1048576 := Nat.mul_le_mul hz2 hn; omega
  have hml : l.length ≤ maxLen := by unfold maxLen; omega
  have Hi := Lib.hid hi; have Hz0 := Lib.hid hz0; have Hz1 := Lib.hid hz1
  have Hb2 := Lib.hid hb2; have Hml := Lib.hid hml
  clear hi hz0 hz1 hz2 hb2 hml
  have HA := Lib.hid hA; clear hA
  go_enter Try.func28, Try.ntmps28
  go_wp2_with (at_make; refine wpList_make_full _ rfl (.tmp 6) (.tmp 6) 54 rfl w.heap.size 58 i0 (.agg (Cll.zero.cs).toArray) 7 Try.underlying54 Hi.out Hz0.out Hz1.out .i64 .i64 _ _ l.length rfl rfl rfl rfl Hb2.out Hml.out (Nat.le_refl _) ?_)
  intro w1 hown hgr
  have hb := below_grown hgr
  rw [made_Call, ← fillR_zero] at hown
  have HO : Hid (OwnR Cll.cs 7 58 w.heap.size w1 (some ⟨w.heap.size, 0, none⟩) l.length (fillR Cll.zero l 0)) := by unfold Hid OwnR; rw [fillR_len _ _ _ (Nat.zero_le _)]; exact hown
  have HB := Lib.hid hb
  clear hown hgr hb
  go_wp2
  go_loopw [4] (fun i wr => ∃ k : Nat, k ≤ l.length ∧ i = .int .i64 k ∧ OwnR Cll.cs 7 58 w.heap.size wr (some ⟨w.heap.size, 0, none⟩) l.length (fillR Cll.zero l k) ∧ Below w.heap.size w wr) (fun i _ => l.length - (intOf i).toNat)
  case atStart => exact ⟨0, Nat.zero_le _, rfl, HO.out, HB.out⟩
  case round =>
    obtain ⟨k, hk, rfl, hown, hbl⟩ := hrel
    have HO' := Lib.hid hown; have HB' := Lib.hid hbl
    clear hown hbl HO HB
    by_cases hlt : k < l.length
    · have hlt' : (k : Int) < l.length := by omega
      obtain ⟨x, hx⟩ : ∃ x, l[k]? = some x := ⟨_, List.getElem?_eq_getElem hlt⟩
      obtain ⟨b, o, rfl, hrow⟩ := (HA.out.below HB'.out).row Cll.len k x hx
      have HX := Lib.hid hx; have HRW := Lib.hid hrow
      have HLn : Hid (k < (fillR Cll.zero l k).length) := by unfold Hid; rw [fillR_len _ _ _ hk]; exact hlt
      clear hx hrow
      obtain ⟨th, op, arg, fr, to, code, res⟩ := x
      go_wp2_with (refine wpList_load_mid rfl 52 _ rfl b (o + k * 7) ?_ _ _ HRW.out Try.underlying52 rfl info_lCall ?_)
      · rfl
      refine (toCall_any _ _ _ _ _ _ _ _).mono ?_
      rintro e w2 ⟨rfl, hb⟩
      have HO2 := Lib.hid (HO'.out.below hb)
      have HB2 := Lib.hid (below_trans HB'.out hb)
      clear hb
      have HT : Hid (w2.there w.heap.size (k * 7) (#[.int .i64 th, .int .i64 op, .int .i64 arg, .int .i64 fr, .int .i64 to, .int .i64 code, .int .i64 res] : Array Value).size) := HO2.out.there Cll.len k HLn.out
      have HON : Hid ((#[.int .i64 th, .int .i64 op, .int .i64 arg, .int .i64 fr, .int .i64 to, .int .i64 code, .int .i64 res] : Array Value).all (·.oneCell') = true) := by unfold Hid; simp [Value.oneCell']
      go_wp2_with (refine wpList_store_mid rfl 58 (.tmp 21) (.tmp 20) rfl w.heap.size (k * 7) #[.int .i64 th, .int .i64 op, .int .i64 arg, .int .i64 fr, .int .i64 to, .int .i64 code, .int .i64 res] ?_ ?_ ?_ info_iCall HON.out ?_)
      · rfl
      · rfl
      · exact HT.out
      go_wp2
      go_roundw
      case rel =>
        refine ⟨k + 1, by omega, by go_num, ?_, below_setCells (Nat.le_refl _) _ _ _ HB2.out⟩
        have h := HO2.out.set Cll.len k ⟨th, op, arg, fr, to, code, res⟩ HLn.out
        rw [fillR_set _ _ _ _ HX.out] at h
        exact h
      case measure => simp [intOf]; omega
    · have hfin : Hid (fillR Cll.zero l k = l) := by unfold Hid; rw [show k = l.length from by omega, fillR_all]
      have hge : ¬ (k : Int) < l.length := by omega
      go_wp2
      go_ret
      refine ⟨rfl, ?_, HB'.out⟩
      have := HO'.out
      rw [hfin.out] at this
      exact this
end Go.Proofs.Ythianfhfamkcmaa
