/-
  Contracts: CasCell of the program; l01Cas, CasCell of the model (chapter 2).
-/
import Derived.Test.YtodniogcpeadpaaStoreB
namespace Go.Proofs.Ytodniogcpeadpaa
open Go.RowKit

def casB (zs : List Int) (p old v : Int) : Bool := (writeCode zs p v == 0) && (zs.getD p.toNat 0 == old)
def casZs (zs : List Int) (p old v : Int) : List Int := if writeCode zs p v = 0 then (if (zs.getD p.toNat 0 == old) = true then zs.set p.toNat v else zs) else []
theorem casZs_len (zs : List Int) (p old v : Int) : (casZs zs p old v).length ≤ zs.length := by
  unfold casZs; split
  · split <;> simp
  · simp
theorem ret_agg_bool_int {k : IntKind} {v : Value} {b b' : Bool} {x y : Int} (h : x = y) (hb : b = b') : Ending.returned (.tuple #[.agg #[v], .bool b, .int k x]) = .returned (.tuple #[.agg #[v], .bool b', .int k y]) := by rw [h, hb]
theorem ret_agg_int_int {k : IntKind} {v : Value} {b b' : Int} {x y : Int} (h : x = y) (hb : b = b') : Ending.returned (.tuple #[.agg #[v], .int k b, .int k x]) = .returned (.tuple #[.agg #[v], .int k b', .int k y]) := by rw [h, hb]

/-- l01Cas: where the cell is there and the number fits. -/
theorem putZ_of {zs : List Int} {k : Nat} {v : Int} (hk1 : 1 ≤ k) (hk : k < zs.length) (hw : wordB v = true) : putZ zs k v = zs.set k v := by
  unfold putZ; rw [if_pos ⟨by simp [inB]; omega, hw⟩, Int.toNat_natCast]
theorem loadZ_of {zs : List Int} {k : Nat} (hk1 : 1 ≤ k) (hk : k < zs.length) : loadZ zs k = zs.getD k 0 := by
  unfold loadZ; rw [if_pos (by simp [inB]; omega), Int.toNat_natCast]

set_option maxHeartbeats 1000000 in
theorem l01Cas_any (A : Option Addr) (c k : Nat) (zs : List Int) (old v : Int) (w : World) (hn : zs.length ≤ 1048576) (hk1 : 1 ≤ k) (hk : k < zs.length) (hw : wordB v = true) (hA : Rd w A zs) :
    Calls Try.prog 78 #[.agg #[.slice A zs.length c], .int .i64 (k : Nat), .int .i64 old, .int .i64 v] w fun e w' => ∃ B d, e = .returned (.tuple #[.agg #[.slice B zs.length d], .bool (zs.getD k 0 == old)]) ∧
      NewA w.heap.size w' B d (if (zs.getD k 0 == old) = true then zs.set k v else zs) ∧ Below w.heap.size w w' := by
  have HA := Lib.hid (hA.below (below_alloc2 w (.cells #[.slice A zs.length c] 29) (.cells #[.slice none 0 0] 29))); clear hA
  have HP := Lib.hid (putZ_of hk1 hk hw)
  have HZ := Lib.hid (loadZ_of hk1 hk)
  clear hw
  cases he : (zs.getD k 0 == old)
  · have hne : (zs.getD k 0 != old) = true := by simp only [bne, he]; rfl
    go_enter Try.func78, Try.ntmps78
    go_wp2_with fail
    refine (l01Load_any _ _ zs _ _ hn HA.out).mono ?_
    rintro e w1 ⟨rfl, hb⟩
    have HB := Lib.hid (below_trans (below_alloc2 _ _ _) hb)
    have HA1 := Lib.hid (HA.out.below hb)
    have hz1 : w.heap.size + 1 < w1.heap.size := by have := hb.size; simp at this; omega
    have hx1 : w1.cell? ⟨w.heap.size, 0, none⟩ = some (.slice A zs.length c) := cell_keep hb (by simp)
    have hr1 : w1.cell? ⟨w.heap.size + 1, 0, none⟩ = some (.slice none 0 0) := cell_keep hb (by simp)
    have hf1 : w1.frozen? ⟨w.heap.size + 1, 0, none⟩ = false := frozen_keep hb (by simp) (by simp)
    clear hb
    rw [HZ.out]
    generalize zs.getD k 0 = x at *
    go_wp2_with fail
    refine (l01Own_any _ _ zs _ hn HA1.out).mono ?_
    rintro e w2 ⟨B, d, rfl, hnew, hb⟩
    have HB2 := Lib.hid (below_trans HB.out hb)
    have hr2 : w2.cell? ⟨w.heap.size + 1, 0, none⟩ = some (.slice none 0 0) := cell_keep hb hr1
    have hf2 : w2.frozen? ⟨w.heap.size + 1, 0, none⟩ = false := frozen_keep hb hz1 hf1
    have HO := Lib.hid hnew
    clear hb hnew hx1 hr1 hf1
    go_wp2
    refine bodyPost_ret (v := .tuple #[.agg #[.slice B zs.length d], .bool false]) (by simp [results, Try.results78, go_sem, hr2]) rfl ⟨B, d, rfl, ?_, HB2.out.setCell (by simp) _⟩
    exact (HO.out.setCell (by simp <;> omega) _).base (by omega)
  · have hne : (zs.getD k 0 != old) = false := by simp only [bne, he]; rfl
    go_enter Try.func78, Try.ntmps78
    go_wp2_with fail
    refine (l01Load_any _ _ zs _ _ hn HA.out).mono ?_
    rintro e w1 ⟨rfl, hb⟩
    have HB := Lib.hid (below_trans (below_alloc2 _ _ _) hb)
    have HA1 := Lib.hid (HA.out.below hb)
    have hz1 : w.heap.size + 1 < w1.heap.size := by have := hb.size; simp at this; omega
    have hx1 : w1.cell? ⟨w.heap.size, 0, none⟩ = some (.slice A zs.length c) := cell_keep hb (by simp)
    have hr1 : w1.cell? ⟨w.heap.size + 1, 0, none⟩ = some (.slice none 0 0) := cell_keep hb (by simp)
    have hf1 : w1.frozen? ⟨w.heap.size + 1, 0, none⟩ = false := frozen_keep hb (by simp) (by simp)
    clear hb
    rw [HZ.out]
    generalize zs.getD k 0 = x at *
    go_wp2_with fail
    refine (l01Store_any _ _ zs _ _ _ hn HA1.out).mono ?_
    rintro e w2 ⟨B, d, rfl, hnew, hb⟩
    have HB2 := Lib.hid (below_trans HB.out hb)
    have hr2 : w2.cell? ⟨w.heap.size + 1, 0, none⟩ = some (.slice none 0 0) := cell_keep hb hr1
    have hf2 : w2.frozen? ⟨w.heap.size + 1, 0, none⟩ = false := frozen_keep hb hz1 hf1
    rw [HP.out] at hnew
    have HO := Lib.hid hnew
    clear hb hnew hx1 hr1 hf1
    go_wp2
    refine bodyPost_ret (v := .tuple #[.agg #[.slice B zs.length d], .bool true]) (by simp [results, Try.results78, go_sem, hr2]) rfl ⟨B, d, rfl, ?_, HB2.out.setCell (by simp) _⟩
    exact (HO.out.setCell (by simp <;> omega) _).base (by omega)
end Go.Proofs.Ytodniogcpeadpaa
