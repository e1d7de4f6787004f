/-
  Contracts of the program's list of cells: grown, with, joined; list, copyArena (chapter 2).
-/
import Derived.Test.YtankgijibenehaaArenaB
namespace Go.Proofs.Ytankgijibenehaa
open Go.RowKit

theorem Try.sizeInt : (Try.prog.info? 3).map (·.size) = some 1 := by kernel_rfl
theorem splice_front (zs : List Int) (m : Nat) : splice (ints (List.replicate (zs.length + m) 0)) 0 (ints zs) = ints (zs ++ List.replicate m 0) := by
  simp [splice, ints, List.drop_replicate]

set_option maxHeartbeats 1000000 in
theorem grown_any (A : Option Addr) (c m : Nat) (zs : List Int) (w : World) (hn : zs.length ≤ 1048576) (hm : m ≤ 1048576) (hA : Rd w A zs) :
    Calls Try.prog 131 #[.slice A zs.length c, .int .i64 (m : Nat)] w fun e w' => e = .returned (.slice (some ⟨w.heap.size, 0, none⟩) (zs.length + m) (zs.length + m)) ∧
      w'.ownsRow w.heap.size 3 1 (.slice (some ⟨w.heap.size, 0, none⟩) (zs.length + m) (zs.length + m)) (zs.length + m) (ints (zs ++ List.replicate m 0)) ∧ Below w.heap.size w w' := by
  obtain ⟨i0, hi, hz0, hz1, hz2⟩ := info_parts Try.infoInt
  have hb2 : i0.bytes * (zs.length + m) ≤ 281474976710656 := by rw [hz2]; omega
  have hml : zs.length + m ≤ maxLen := by unfold maxLen; omega
  have Hi := Lib.hid hi; have Hz0 := Lib.hid hz0; have Hz1 := Lib.hid hz1; have Hz2 := Lib.hid hz2
  have Hb2 := Lib.hid hb2; have Hml := Lib.hid hml
  clear hi hz0 hz1 hz2 hb2 hml
  have HA := Lib.hid hA; clear hA
  go_enter Try.func131, Try.ntmps131
  go_wp2_with (at_make; refine wpList_make_full _ rfl (.tmp 9) (.tmp 9) 106 rfl w.heap.size 3 i0 (.int .i64 0) 1 Try.underlying106 Hi.out Hz0.out Hz1.out .i64 .i64 _ _ (zs.length + m) rfl rfl (by simp) (by simp) Hb2.out Hml.out (Nat.le_refl _) ?_)
  intro w1 hown hgr
  have hb := below_grown hgr
  rw [made_zero] at hown
  have HO := Lib.hid (own_full hown); have HB := Lib.hid hb
  clear hown hgr hb
  have HC := Lib.hid (fun h => rd_cells (HA.out.below HB.out) h)
  go_wp2_with (with_reducible refine wpList_copy_splice rfl (.tmp 11) (.tmp 12) 106 106 rfl 3 Try.underlying106 Try.sizeInt _ _ _ _ _ _ rfl rfl w.heap.size 0 (ints (List.replicate (zs.length + m) 0)) 3 HO.out.1 (ints zs) ?_ ?_ ?_ (ints_one _) w.heap.size w HB.out (Nat.le_refl _) ?_)
  · rw [length_ints]; simp
  · rw [length_ints]
    intro h
    exact HC.out h
  · rw [length_ints, length_ints]; simp
  intro w2 HG2 hB2
  have HB2 := Lib.hid hB2; clear hB2
  go_wp2
  go_ret
  refine ⟨rfl, ?_, HB2.out⟩
  have := HG2.out
  rw [splice_front] at this
  exact own_of_full this (Nat.le_refl _) (by simp [length_ints]) Hml.out

theorem set_toNat (zs : List Int) (k : Nat) (v : Int) : zs.set ((k : Int).toNat) v = zs.set k v := by rw [Int.toNat_natCast]

set_option maxHeartbeats 1000000 in
theorem list_any (A : Option Addr) (n c : Nat) (w : World) :
    Calls Try.prog 108 #[.agg #[.slice A n c]] w fun e w' => e = .returned (.slice A n c) ∧ Below w.heap.size w w' := by
  go_enter Try.func108, Try.ntmps108
  go_wp2
  go_ret
  exact ⟨rfl, below_alloc _ _⟩

/-- A new arena of the list zs, in memory from B on. -/
def NewA (B : Nat) (w : World) (A : Option Addr) (c : Nat) (zs : List Int) : Prop := w.ownsRow B 3 1 (.slice A zs.length c) zs.length (ints zs)
theorem NewA.rd {B : Nat} {w : World} {A : Option Addr} {c : Nat} {zs : List Int} (h : NewA B w A c zs) : Rd w A zs := Rd.of_own h
theorem NewA.nil (B : Nat) (w : World) : NewA B w none 0 [] := World.ownsRow_nil _ _ _ _
theorem NewA.below {B : Nat} {w w' : World} {A : Option Addr} {c : Nat} {zs : List Int} (h : NewA B w A c zs) (hb : Below w.heap.size w w') : NewA B w' A c zs := own_below h hb
theorem NewA.base {B B' : Nat} {w : World} {A : Option Addr} {c : Nat} {zs : List Int} (h : NewA B w A c zs) (hb : B' ≤ B) : NewA B' w A c zs := own_base h hb
theorem NewA.setCell {B : Nat} {w : World} {A : Option Addr} {c : Nat} {zs : List Int} (h : NewA B w A c zs) {a : Addr} (ha : a.block < B) (u : Value) : NewA B (w.setCell a u) A c zs := ownsRow_setCell_below h ha u

set_option maxHeartbeats 1000000 in
theorem copyArena_any (A : Option Addr) (c : Nat) (zs : List Int) (w : World) (hn : zs.length ≤ 1048576) (hA : Rd w A zs) :
    Calls Try.prog 127 #[.agg #[.slice A zs.length c]] w fun e w' => ∃ B d, e = .returned (.agg #[.slice B zs.length d]) ∧ NewA w.heap.size w' B d zs ∧ Below w.heap.size w w' := by
  have HA := Lib.hid hA; clear hA
  go_enter Try.func127, Try.ntmps127
  go_wp2_with fail
  refine (list_any _ _ _ _).mono ?_
  rintro e w1 ⟨rfl, hb⟩
  have HB := Lib.hid hb
  have hz : w.heap.size + 1 < w1.heap.size := by have := hb.size; simp at this; omega
  obtain ⟨hc, hf⟩ := bcell hb
  clear hb
  go_wp2_with fail
  refine (grown_any _ _ 0 zs _ hn (by omega) (HA.out.below (below_trans ((below_alloc _ _).alloc (by simp) _) (HB.out)))).mono ?_
  rintro e w2 ⟨rfl, hown, hb⟩
  simp only [Nat.add_zero, List.replicate_zero, List.append_nil] at hown ⊢
  have HO : Hid (NewA w1.heap.size w2 (some ⟨w1.heap.size, 0, none⟩) zs.length zs) := hown
  have HB2 := Lib.hid (below_trans (below_trans ((below_alloc _ _).alloc (by simp) _) HB.out) hb)
  obtain ⟨hc2, hf2⟩ := bcell hb
  clear hown hb
  go_wp2
  refine bodyPost_ret (v := .agg #[.slice (some ⟨w1.heap.size, 0, none⟩) zs.length zs.length]) (by simp [results, Try.results127, go_sem, hc, hc2, hz]) rfl ⟨_, _, rfl, (HO.out.setCell (by simp <;> omega) _).base (by omega), HB2.out.setCell (by simp) _⟩
end Go.Proofs.Ytankgijibenehaa
