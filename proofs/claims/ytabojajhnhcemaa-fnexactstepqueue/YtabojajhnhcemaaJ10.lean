/-
  The model's l04Result and l01Cas at any number.
  The source of choices: byte, next (the draws of the laws).
  The source of choices: next, l00Source.
  The walk of the law FnExactNewArena.
  The source of choices: arena, ArenaDrawn.
  Parking (chapter 4): rightThen.
  The frame of a step of the model: a box of the arena, one of the thread, and those of both results.
  The laws' choices out of bytes: at.
  How many cells are not what they were: turned.
  An arena that a step of the model hands on.
-/
import Derived.Test.YtabojajhnhcemaaJ09
import Derived.Test.YtabojajhnhcemaaJ01
import Derived.Deep.RegionWith
import Derived.StillTailTactics
import Derived.BigRegion
import Derived.Test.YtabojajhnhcemaaJ07
namespace Go.Proofs.Ytabojajhnhcemaa
open Go.RowKit

set_option maxHeartbeats 1000000 in
theorem l04Result_any (id st op arg pc til : Int) (per can : Bool) (r0 r1 r2 r3 r4 code res : Int) (x : Int) (w : World) (hx : -1000000000000 ≤ x ∧ x ≤ 1000000000000) : Calls Try.prog 109 #[.agg #[.int .i64 id, .int .i64 st, .int .i64 op, .int .i64 arg, .int .i64 pc, .int .i64 til, .bool per, .bool can, .int .i64 r0, .int .i64 r1, .int .i64 r2, .int .i64 r3, .int .i64 r4, .int .i64 code, .int .i64 res], .int .i64 x] w fun e w' => e = .returned (.agg #[.int .i64 id, .int .i64 0, .int .i64 0, .int .i64 0, .int .i64 0, .int .i64 0, .bool false, .bool false, .int .i64 0, .int .i64 0, .int .i64 0, .int .i64 0, .int .i64 0, .int .i64 0, .int .i64 (wellI op arg x)]) ∧ Below w.heap.size w w' := by
  have hq : IntKind.i64.wrap (x - 1) = x - 1 := IntWalk.i64_in _ (by omega)
  have HL := Lib.hid (BoxT.two w #[.int .i64 id, .int .i64 st, .int .i64 op, .int .i64 arg, .int .i64 pc, .int .i64 til, .bool per, .bool can, .int .i64 r0, .int .i64 r1, .int .i64 r2, .int .i64 r3, .int .i64 r4, .int .i64 code, .int .i64 res] #[.int .i64 0, .int .i64 0, .int .i64 0, .int .i64 0, .int .i64 0, .int .i64 0, .bool false, .bool false, .int .i64 0, .int .i64 0, .int .i64 0, .int .i64 0, .int .i64 0, .int .i64 0, .int .i64 0])
  have HR := Lib.hid (BoxT.two' w #[.int .i64 id, .int .i64 st, .int .i64 op, .int .i64 arg, .int .i64 pc, .int .i64 til, .bool per, .bool can, .int .i64 r0, .int .i64 r1, .int .i64 r2, .int .i64 r3, .int .i64 r4, .int .i64 code, .int .i64 res] #[.int .i64 0, .int .i64 0, .int .i64 0, .int .i64 0, .int .i64 0, .int .i64 0, .bool false, .bool false, .int .i64 0, .int .i64 0, .int .i64 0, .int .i64 0, .int .i64 0, .int .i64 0, .int .i64 0])
  by_cases ho : op = 1
  · subst ho
    have hm : mineB 1 = true := rfl
    have HV : Hid (wellI 1 arg x = arg) := rfl
    go_enter Try.func109, Try.ntmps109
    go_wp2_with fail
    refine (l04Mine_any _ _ _ _ _ _ _ _ _ _ _ _ _ _ _ _).mono ?_
    rintro e w1 ⟨rfl, hb⟩
    have HB := Lib.hid (below_trans (below_alloc2 _ _ _) hb)
    have HL1 := Lib.hid (HL.out.below hb); have HR1 := Lib.hid (HR.out.below hb)
    have hc := HL1.out.cell
    clear hb HL HR
    go_wp2_with (refine wpList_load_row rfl 29 _ rfl (w.heap.size) rfl 29 _ (0, 0) _ HL1.out Try.underlying29 rfl info_th ?_)
    refine (l02End_any _ _ _ _ _ _ _ _ _ _ _ _ _ _ _ 0 arg _).mono ?_
    rintro e w2 ⟨rfl, hb⟩
    have HB2 := Lib.hid (below_trans HB.out hb)
    have HR2 := Lib.hid (HR1.out.below hb)
    clear hb HB HR1 HL1 hc
    go_wp2_with (refine wpList_store_row rfl 29 _ _ rfl (w.heap.size + 1) _ rfl rfl 29 _ HR2.out info_th rfl (one15 _ _ _ _ _ _ _ _ _ _ _ _ _ _ _) ?_)
    refine bodyPost_ret (results_th1 Try.results109 _ _ (w.heap.size + 1) _ rfl (HR2.out.row _) rfl) rfl ⟨?_, ?_⟩
    · rw [HV.out]
    · exact below_row HB2.out (by omega) _
  · have hm : mineB op = false := by unfold mineB; simp [ho]
    have HV : Hid (wellI op arg x = x - 1) := by unfold wellI; rw [if_neg ho]; rfl
    go_enter Try.func109, Try.ntmps109
    go_wp2_with fail
    refine (l04Mine_any _ _ _ _ _ _ _ _ _ _ _ _ _ _ _ _).mono ?_
    rintro e w1 ⟨rfl, hb⟩
    have HB := Lib.hid (below_trans (below_alloc2 _ _ _) hb)
    have HL1 := Lib.hid (HL.out.below hb); have HR1 := Lib.hid (HR.out.below hb)
    have hc := HL1.out.cell
    clear hb HL HR
    go_wp2_with (refine wpList_load_row rfl 29 _ rfl (w.heap.size) rfl 29 _ (0, 0) _ HL1.out Try.underlying29 rfl info_th ?_)
    refine (l02End_any _ _ _ _ _ _ _ _ _ _ _ _ _ _ _ 0 (x - 1) _).mono ?_
    rintro e w2 ⟨rfl, hb⟩
    have HB2 := Lib.hid (below_trans HB.out hb)
    have HR2 := Lib.hid (HR1.out.below hb)
    clear hb HB HR1 HL1 hc
    go_wp2_with (refine wpList_store_row rfl 29 _ _ rfl (w.heap.size + 1) _ rfl rfl 29 _ HR2.out info_th rfl (one15 _ _ _ _ _ _ _ _ _ _ _ _ _ _ _) ?_)
    refine bodyPost_ret (results_th1 Try.results109 _ _ (w.heap.size + 1) _ rfl (HR2.out.row _) rfl) rfl ⟨?_, ?_⟩
    · rw [HV.out]
    · exact below_row HB2.out (by omega) _

set_option maxHeartbeats 1000000 in
theorem l01CasZ_any (A : Option Addr) (c : Nat) (zs : List Int) (p old v : Int) (w : World) (hn : zs.length ≤ 1048576) (hA : Rd w A zs) :
    Calls Try.prog 106 #[.agg #[.slice A zs.length c], .int .i64 p, .int .i64 old, .int .i64 v] w fun e w' => ∃ B d, e = .returned (.tuple #[.agg #[.slice B (casZ zs p old v).length d], .bool (casOk zs p old)]) ∧
      NewA w.heap.size w' B d (casZ zs p old v) ∧ Below w.heap.size w w' := by
  rw [casZ_length]
  have HA := Lib.hid (hA.below (below_alloc2 w (.cells #[.slice A zs.length c] 25) (.cells #[.slice none 0 0] 25))); clear hA
  by_cases he : loadZ zs p = old
  · have HV : Hid (casZ zs p old v = putZ zs p v) := by unfold casZ; rw [if_pos he]; rfl
    have HK : Hid (casOk zs p old = true) := decide_eq_true he
    have hne : (loadZ zs p != old) = false := by simp [he]
    clear he
    go_enter Try.func106, Try.ntmps106
    go_wp2_with fail
    refine (l01Load_any _ _ zs _ _ hn HA.out).mono ?_
    rintro e w1 ⟨rfl, hb⟩
    have HB := Lib.hid (below_trans (below_alloc2 _ _ _) hb)
    have HA1 := Lib.hid (HA.out.below hb)
    have hz1 : w.heap.size + 1 < w1.heap.size := by have := hb.size; simp at this; omega
    have hx1 : w1.cell? ⟨w.heap.size, 0, none⟩ = some (.slice A zs.length c) := cell_keep hb (by simp)
    have hr1 : w1.cell? ⟨w.heap.size + 1, 0, none⟩ = some (.slice none 0 0) := cell_keep hb (by simp)
    have hf1 : w1.frozen? ⟨w.heap.size + 1, 0, none⟩ = false := frozen_keep hb (by simp) (by simp)
    clear hb
    generalize loadZ zs p = x at *
    go_wp2_with fail
    refine (l01Store_any _ _ zs _ _ _ hn HA1.out).mono ?_
    rintro e w2 ⟨B, d, rfl, hnew, hb⟩
    have HB2 := Lib.hid (below_trans HB.out hb)
    have hr2 : w2.cell? ⟨w.heap.size + 1, 0, none⟩ = some (.slice none 0 0) := cell_keep hb hr1
    have hf2 : w2.frozen? ⟨w.heap.size + 1, 0, none⟩ = false := frozen_keep hb hz1 hf1
    have HO := Lib.hid hnew
    clear hb hnew hx1 hr1 hf1
    go_wp2
    refine bodyPost_ret (v := .tuple #[.agg #[.slice B zs.length d], .bool true]) (by simp [results, Try.results106, go_sem, hr2]) rfl ⟨B, d, ?_, ?_, HB2.out.setCell (by simp) _⟩
    · rw [HK.out]
    · rw [HV.out]; exact (HO.out.setCell (by simp <;> omega) _).base (by omega)
  · have HV : Hid (casZ zs p old v = zs) := by unfold casZ; rw [if_neg he]; rfl
    have HK : Hid (casOk zs p old = false) := decide_eq_false he
    have hne : (loadZ zs p != old) = true := by simp [he]
    clear he
    go_enter Try.func106, Try.ntmps106
    go_wp2_with fail
    refine (l01Load_any _ _ zs _ _ hn HA.out).mono ?_
    rintro e w1 ⟨rfl, hb⟩
    have HB := Lib.hid (below_trans (below_alloc2 _ _ _) hb)
    have HA1 := Lib.hid (HA.out.below hb)
    have hz1 : w.heap.size + 1 < w1.heap.size := by have := hb.size; simp at this; omega
    have hx1 : w1.cell? ⟨w.heap.size, 0, none⟩ = some (.slice A zs.length c) := cell_keep hb (by simp)
    have hr1 : w1.cell? ⟨w.heap.size + 1, 0, none⟩ = some (.slice none 0 0) := cell_keep hb (by simp)
    have hf1 : w1.frozen? ⟨w.heap.size + 1, 0, none⟩ = false := frozen_keep hb (by simp) (by simp)
    clear hb
    generalize loadZ zs p = x at *
    go_wp2_with fail
    refine (l01Own_any _ _ zs _ hn HA1.out).mono ?_
    rintro e w2 ⟨B, d, rfl, hnew, hb⟩
    have HB2 := Lib.hid (below_trans HB.out hb)
    have hr2 : w2.cell? ⟨w.heap.size + 1, 0, none⟩ = some (.slice none 0 0) := cell_keep hb hr1
    have hf2 : w2.frozen? ⟨w.heap.size + 1, 0, none⟩ = false := frozen_keep hb hz1 hf1
    have HO := Lib.hid hnew
    clear hb hnew hx1 hr1 hf1
    go_wp2
    refine bodyPost_ret (v := .tuple #[.agg #[.slice B zs.length d], .bool false]) (by simp [results, Try.results106, go_sem, hr2]) rfl ⟨B, d, ?_, ?_, HB2.out.setCell (by simp) _⟩
    · rw [HK.out]
    · rw [HV.out]; exact (HO.out.setCell (by simp <;> omega) _).base (by omega)

end Go.Proofs.Ytabojajhnhcemaa

namespace Go.Proofs.Ytabojajhnhcemaa
open Go.RowKit

/-- A slice of bytes at A, n of them. -/
def RdB (w : World) (A : Option Addr) (n : Nat) : Prop :=
  ∀ i, i < n → ∃ b o u, A = some ⟨b, o, none⟩ ∧ w.cell? ⟨b, o + i, none⟩ = some (.int .u8 u) ∧ 0 ≤ u ∧ u ≤ 255
theorem RdB.below {w w' : World} {A : Option Addr} {n : Nat} (h : RdB w A n) (hb : Below w.heap.size w w') : RdB w' A n := by
  intro i hi
  obtain ⟨b, o, u, hA, hc, hu⟩ := h i hi
  exact ⟨b, o, u, hA, by rw [hb.cell (p := ⟨b, o + i, none⟩) (block_lt_of_cell hc)]; exact hc, hu⟩

/-- The source at block g over the bytes at A: how many bytes were asked for is at most m. B: the bytes lie below block B, the source from B on. -/
structure Src (w : World) (g B : Nat) (A : Option Addr) (n c : Nat) (m : Int) : Prop where
  code : w.cell? ⟨g, 0, none⟩ = some (.slice A n c)
  rest : ∃ p s : Int, w.cell? ⟨g, 1, none⟩ = some (.int .i64 p) ∧ w.cell? ⟨g, 2, none⟩ = some (.int .i64 s) ∧ 0 ≤ p ∧ p ≤ m ∧ 0 ≤ s ∧ s < 2147483648
  froz : ∀ i, w.frozen? ⟨g, i, none⟩ = false
  bytes : RdB w A n
  low : ∀ a, A = some a → 0 < n → a.block < B
  high : B ≤ g

theorem Src.mono {w : World} {g B : Nat} {A : Option Addr} {n c : Nat} {m m' : Int} (h : Src w g B A n c m) (hm : m ≤ m') : Src w g B A n c m' := by
  obtain ⟨p, s, h1, h2, h3, h4, h5, h6⟩ := h.rest
  exact ⟨h.code, ⟨p, s, h1, h2, h3, by omega, h5, h6⟩, h.froz, h.bytes, h.low, h.high⟩
theorem Src.lt {w : World} {g B : Nat} {A : Option Addr} {n c : Nat} {m : Int} (h : Src w g B A n c m) : g < w.heap.size := block_lt_of_cell h.code
/-- It stays where its block and all below B stay. -/
theorem Src.kept {w w' : World} {g B : Nat} {A : Option Addr} {n c : Nat} {m : Int} (h : Src w g B A n c m) (hg : w'.heap[g]? = w.heap[g]?) (hb : ∀ k, k < B → w'.heap[k]? = w.heap[k]?) : Src w' g B A n c m := by
  have hc : ∀ i, w'.cell? ⟨g, i, none⟩ = w.cell? ⟨g, i, none⟩ := fun i => World.cell?_of_block (a := ⟨g, i, none⟩) hg
  have hf : ∀ i, w'.frozen? ⟨g, i, none⟩ = w.frozen? ⟨g, i, none⟩ := fun i => World.frozen?_of_block (a := ⟨g, i, none⟩) hg
  refine ⟨by rw [hc]; exact h.code, ?_, fun i => by rw [hf]; exact h.froz i, ?_, h.low, h.high⟩
  · obtain ⟨p, s, h1, h2, h3⟩ := h.rest
    exact ⟨p, s, by rw [hc]; exact h1, by rw [hc]; exact h2, h3⟩
  · intro i hi
    obtain ⟨b, o, u, hA, hcell, hu⟩ := h.bytes i hi
    have hlt := h.low _ hA (by omega)
    exact ⟨b, o, u, hA, (World.cell?_of_block (a := ⟨b, o + i, none⟩) (hb b hlt)).trans hcell, hu⟩
theorem Src.below {w w' : World} {g B : Nat} {A : Option Addr} {n c : Nat} {m : Int} (h : Src w g B A n c m) (hb : Below w.heap.size w w') : Src w' g B A n c m :=
  h.kept (hb.block g h.lt) (fun k hk => hb.block k (by have := h.high; have := h.lt; omega))
theorem Src.grown {w w' : World} {g B : Nat} {A : Option Addr} {n c : Nat} {m : Int} {row : Option Nat} (h : Src w g B A n c m) (hg : w.grownBy w' row) (hr : ∀ k, row = some k → B ≤ k ∧ k ≠ g) : Src w' g B A n c m :=
  h.kept (hg.block g h.lt (fun e => (hr g e.symm).2 rfl)) (fun k hk => hg.block k (by have := h.high; have := h.lt; omega) (fun e => by have := (hr k e.symm).1; omega))

theorem Src.heap {w w' : World} {g B : Nat} {A : Option Addr} {n c : Nat} {m : Int} (h : Src w g B A n c m) (hh : w'.heap = w.heap) : Src w' g B A n c m := h.kept (by rw [hh]) (fun k _ => by rw [hh])
/-- One number of the source is stored anew. -/
theorem Src.put1 {w : World} {g B : Nat} {A : Option Addr} {n c : Nat} {m m' p : Int} (h : Src w g B A n c m) (hp : 0 ≤ p) (hpm : p ≤ m') : Src (w.setCell ⟨g, 1, none⟩ (.int .i64 p)) g B A n c m' := by
  obtain ⟨p0, s0, h1, h2, _, _, h5, h6⟩ := h.rest
  refine ⟨(World.cell?_setCell_other _ _ _ _ (by simp)).trans h.code, ⟨p, s0, World.cell?_setCell_same _ _ _ h1, (World.cell?_setCell_other _ _ _ _ (by simp)).trans h2, hp, hpm, h5, h6⟩, fun i => ?_, ?_, h.low, h.high⟩
  · rw [World.frozen?_setCell]; exact h.froz i
  · intro i hi
    obtain ⟨b, o, u, hA, hcell, hu⟩ := h.bytes i hi
    have hlt := h.low _ hA (by omega)
    have hh := h.high
    exact ⟨b, o, u, hA, (World.cell?_setCell_other _ _ _ _ (by simp; intro e; dsimp only at hlt; omega)).trans hcell, hu⟩
theorem Src.put2 {w : World} {g B : Nat} {A : Option Addr} {n c : Nat} {m s : Int} (h : Src w g B A n c m) (hs : 0 ≤ s) (hsm : s < 2147483648) : Src (w.setCell ⟨g, 2, none⟩ (.int .i64 s)) g B A n c m := by
  obtain ⟨p0, s0, h1, h2, h3, h4, _, _⟩ := h.rest
  refine ⟨(World.cell?_setCell_other _ _ _ _ (by simp)).trans h.code, ⟨p0, s, (World.cell?_setCell_other _ _ _ _ (by simp)).trans h1, World.cell?_setCell_same _ _ _ h2, h3, h4, hs, hsm⟩, fun i => ?_, ?_, h.low, h.high⟩
  · rw [World.frozen?_setCell]; exact h.froz i
  · intro i hi
    obtain ⟨b, o, u, hA, hcell, hu⟩ := h.bytes i hi
    have hlt := h.low _ hA (by omega)
    have hh := h.high
    exact ⟨b, o, u, hA, (World.cell?_setCell_other _ _ _ _ (by simp; intro e; dsimp only at hlt; omega)).trans hcell, hu⟩
theorem grown_setCell (w : World) (g i : Nat) (v : Value) : w.grownBy (w.setCell ⟨g, i, none⟩ v) (some g) :=
  ⟨rfl, rfl, rfl, by simp [World.setCell], fun k _ hk => Below.heap_setCell w ⟨g, i, none⟩ v k (fun e => hk (by rw [e]))⟩

set_option maxHeartbeats 2000000 in
theorem byte_any (g B : Nat) (A : Option Addr) (n c : Nat) (m : Int) (w : World) (hm : m ≤ 1000000000000) (hn : n ≤ maxLen) (hS : Src w g B A n c m) :
    Calls Try.prog 87 #[.pointer (some ⟨g, 0, none⟩)] w fun e w' => ∃ r : Int, 0 ≤ r ∧ r ≤ 255 ∧ e = .returned (.int .i64 r) ∧ Src w' g B A n c (m + 1) ∧ w.grownBy w' (some g) := by
  obtain ⟨p, s, hp, hs, hp0, hpm, hs0, hsm⟩ := hS.rest
  have hco := hS.code
  have hf1 := hS.froz 1
  have hf2 := hS.froz 2
  have HS := Lib.hid hS; clear hS
  unfold maxLen at hn
  by_cases hle : p + 1 ≤ n
  · obtain ⟨k, rfl⟩ := Int.eq_ofNat_of_zero_le hp0
    obtain ⟨b, o, u, rfl, hcell, hu0, hu1⟩ := HS.out.bytes k (by omega)
    have hbg : b ≠ g := by have h1 := HS.out.low _ rfl (by omega); have h2 := HS.out.high; dsimp only at h1; omega
    have hst := HS.out
    have E : Hid (∀ nq, ∃ W1, ((w.setCell ⟨g, 1, none⟩ (.int .i64 ((k : Int) + 1))).drewN nq) = W1 ∧ W1.cell? ⟨g, 0, none⟩ = some (.slice (some ⟨b, o, none⟩) n c) ∧ W1.cell? ⟨g, 1, none⟩ = some (.int .i64 ((k : Int) + 1)) ∧ W1.cell? ⟨g, 2, none⟩ = some (.int .i64 s) ∧ W1.cell? ⟨b, o + k, none⟩ = some (.int .u8 u) ∧ W1.frozen? ⟨g, 2, none⟩ = false) := fun nq =>
      ⟨_, rfl, (World.cell?_setCell_other _ _ _ _ (by simp)).trans hco, World.cell?_setCell_same _ _ _ hp, (World.cell?_setCell_other _ _ _ _ (by simp)).trans hs, (World.cell?_setCell_other _ _ _ _ (by first | (simp; done) | simp [hbg])).trans hcell, (World.frozen?_setCell _ _ _ _).trans hf2⟩
    clear hst
    go_enter Try.func87, Try.ntmps87
    go_wp2
    go_quiet (fail)
    go_wp2
    obtain ⟨W1, hW1, c0, c1, c2, c3, f2⟩ := E.out nq
    rw [hW1]
    have HW1 := Lib.hid hW1
    clear hW1 hco hp hs hcell hf1 hf2 E
    have q1 : IntKind.i64.wrap (s * 31) = s * 31 := IntWalk.i64_in _ (by omega)
    have q2 : IntKind.i64.wrap (s * 31 + u) = s * 31 + u := IntWalk.i64_in _ (by omega)
    have q3 : IntKind.i64.wrap (s * 31 + u + 7) = s * 31 + u + 7 := IntWalk.i64_in _ (by omega)
    have q4 : IntKind.i64.wrap ((k : Int) + 1 - 1) = (k : Int) := by rw [IntWalk.i64_in _ (by omega)]; omega
    go_region
    go_wp2
    have hgb : ¬ g = b := Ne.symm hbg
    go_region
    go_wp2
    go_ret
    refine ⟨u, hu0, hu1, rfl, ?_, ?_⟩
    · have h1 := (HS.out.put1 (m' := m + 1) (p := (k : Int) + 1) (by omega) (by omega)).put2 (s := (s * 31 + u + 7) % 2147483648) (by omega) (by omega)
      exact h1.heap (by rw [← HW1.out]; rfl)
    · have h1 := grown_trans (grown_setCell w g 1 (.int .i64 ((k : Int) + 1))) (grown_setCell _ g 2 (.int .i64 ((s * 31 + u + 7) % 2147483648)))
      rw [← HW1.out]
      exact ⟨h1.os, h1.tape, h1.output, h1.size, h1.block⟩
  · have hle' : decide (p + 1 ≤ (n : Int)) = false := decide_eq_false hle
    have E : Hid (∀ nq, ∃ W1, ((w.setCell ⟨g, 1, none⟩ (.int .i64 (p + 1))).drewN nq) = W1 ∧ W1.cell? ⟨g, 1, none⟩ = some (.int .i64 (p + 1)) ∧ W1.cell? ⟨g, 2, none⟩ = some (.int .i64 s) ∧ W1.frozen? ⟨g, 2, none⟩ = false) := fun nq =>
      ⟨_, rfl, World.cell?_setCell_same _ _ _ hp, (World.cell?_setCell_other _ _ _ _ (by simp)).trans hs, (World.frozen?_setCell _ _ _ _).trans hf2⟩
    have q0 : IntKind.i64.wrap (p + 1) = p + 1 := IntWalk.i64_in _ (by omega)
    by_cases h3 : 3000 < p + 1
    · go_enter Try.func87, Try.ntmps87
      go_wp2
      go_quiet (fail)
      obtain ⟨W1, hW1, c1, c2, f2⟩ := E.out nq
      rw [hW1]
      have HW1 := Lib.hid hW1
      clear hW1 hco hp hs hf1 hf2 E
      go_wp2
      go_ret
      refine ⟨0, by omega, by omega, rfl, ?_, ?_⟩
      · have h1 := HS.out.put1 (m' := m + 1) (p := p + 1) (by omega) (by omega)
        exact h1.heap (by rw [← HW1.out]; rfl)
      · have h1 := grown_setCell w g 1 (.int .i64 (p + 1))
        rw [← HW1.out]
        exact ⟨h1.os, h1.tape, h1.output, h1.size, h1.block⟩
    · go_enter Try.func87, Try.ntmps87
      go_wp2
      go_quiet (fail)
      obtain ⟨W1, hW1, c1, c2, f2⟩ := E.out nq
      rw [hW1]
      have HW1 := Lib.hid hW1
      clear hW1 hco hp hs hf1 hf2 E
      have q2 : 0 ≤ (s * 1103515245 + 12345) % 2147483648 := by omega
      have q3 : (s * 1103515245 + 12345) % 2147483648 < 2147483648 := by omega
      go_wp2
      go_ret
      refine ⟨_, ?_, ?_, rfl, ?_, ?_⟩
      · omega
      · omega
      · have h1 := (HS.out.put1 (m' := m + 1) (p := p + 1) (by omega) (by omega)).put2 (s := (s * 1103515245 + 12345) % 2147483648) (by omega) (by omega)
        exact h1.heap (by rw [← HW1.out]; rfl)
      · have h1 := grown_trans (grown_setCell w g 1 (.int .i64 (p + 1))) (grown_setCell _ g 2 (.int .i64 ((s * 1103515245 + 12345) % 2147483648)))
        rw [← HW1.out]
        exact ⟨h1.os, h1.tape, h1.output, h1.size, h1.block⟩
end Go.Proofs.Ytabojajhnhcemaa

namespace Go.Proofs.Ytabojajhnhcemaa
open Go.RowKit

set_option maxHeartbeats 1000000 in
theorem next_small (g B : Nat) (A : Option Addr) (n c : Nat) (m q : Int) (w : World) (hm : m ≤ 1000000000000) (hn : n ≤ maxLen) (hq1 : 1 < q) (hq2 : q ≤ 256) (hS : Src w g B A n c m) :
    Calls Try.prog 48 #[.pointer (some ⟨g, 0, none⟩), .int .i64 q] w fun e w' => ∃ r : Int, 0 ≤ r ∧ r < q ∧ e = .returned (.int .i64 r) ∧ Src w' g B A n c (m + 1) ∧ w.grownBy w' (some g) := by
  have HS := Lib.hid hS; clear hS
  go_enter Try.func48, Try.ntmps48
  go_wp2_with fail
  refine (byte_any g B A n c m _ hm hn HS.out).mono ?_
  rintro e w1 ⟨r, hr0, hr1, rfl, hS1, hg1⟩
  have HS1 := Lib.hid hS1; have HG1 := Lib.hid hg1; clear hS1 hg1
  have hqz : (q == 0) = false := by simp; omega
  go_wp2
  go_ret
  refine ⟨r % q, ?_, ?_, ?_, HS1.out, HG1.out⟩
  · exact Int.emod_nonneg _ (by omega)
  · exact Int.emod_lt_of_pos _ (by omega)
  · rfl

set_option maxHeartbeats 1000000 in
theorem l00Source_any (A : Option Addr) (n c : Nat) (w : World) (hn : n ≤ maxLen) (hA : RdB w A n) :
    Calls Try.prog 22 #[.slice A n c] w fun e w' => e = .returned (.pointer (some ⟨w.heap.size, 0, none⟩)) ∧ Src w' w.heap.size w.heap.size A n c 0 ∧ Below w.heap.size w w' := by
  unfold maxLen at hn
  have HA := Lib.hid hA; clear hA
  go_enter Try.func22, Try.ntmps22
  go_wp2
  go_ret
  refine ⟨rfl, ?_, below_alloc _ _⟩
  refine ⟨by simp, ⟨0, (n : Int) % 1000, by simp, by simp, by omega, by omega, by omega, by omega⟩, fun i => by simp, HA.out.below (below_alloc _ _), ?_, Nat.le_refl _⟩
  intro a ha hp
  obtain ⟨b, o, u, hb, hc, _⟩ := HA.out 0 hp
  rw [ha] at hb
  have := block_lt_of_cell hc
  cases hb
  exact this
end Go.Proofs.Ytabojajhnhcemaa

namespace Go.Proofs.Ytabojajhnhcemaa
open Go.RowKit

set_option maxHeartbeats 1000000 in
theorem specNewArena_any (w : World) :
    Calls Try.prog 47 #[] w fun e w' => ∃ B d, e = .returned (.agg #[.slice B ([0] : List Int).length d]) ∧ NewA w.heap.size w' B d [0] ∧ Below w.heap.size w w' := by
  have hO : Hid (NewA (w.heap.size + 1) ((w.alloc (.cells #[.slice (some ⟨w.heap.size + 1, 0, none⟩) 1 1] 25)).alloc (.cells #[.int .i64 0] 3)) (some ⟨w.heap.size + 1, 0, none⟩) 1 [0]) := by
    have h := World.ownsRow_lit (base := w.heap.size + 1) (e := 3) (size := 1) (w.alloc (.cells #[.slice (some ⟨w.heap.size + 1, 0, none⟩) 1 1] 25)) #[.int .i64 0] 1 (by simp) (by unfold maxLen; omega) rfl
    exact Lib.hid (by simpa [NewA, ints] using h)
  go_enter Try.func47, Try.ntmps47
  go_wp2
  refine bodyPost_ret (v := .agg #[.slice (some ⟨w.heap.size + 1, 0, none⟩) 1 1]) (by simp [results, Try.results47, go_sem]) rfl ⟨some ⟨w.heap.size + 1, 0, none⟩, 1, rfl, ?_, ?_⟩
  · exact hO.out.base (by omega)
  · exact below_alloc2 _ _ _

end Go.Proofs.Ytabojajhnhcemaa

namespace Go.Proofs.Ytabojajhnhcemaa
open Go.RowKit

/-- What a drawn arena is. -/
def Good (zs : List Int) : Prop := 1 ≤ zs.length ∧ zs.getD 0 0 = 0 ∧ wordsB zs = true
theorem Good.start : Good [0] := ⟨by simp, rfl, by decide⟩
theorem Good.snoc {zs : List Int} (h : Good zs) {x : Int} (hx : wordB x = true) : Good (zs ++ [x]) := by
  obtain ⟨h1, h2, h3⟩ := h
  refine ⟨by simp, ?_, ?_⟩
  · rw [List.getD, List.getElem?_append_left (by omega)]; exact h2
  · unfold wordsB at *; rw [List.all_append, h3]; simp [hx]
theorem Good.arena {zs : List Int} (h : Good zs) (hl : zs.length ≤ 400) : arenaB zs = true := arenaB_true h.1 hl (by rw [h.2.1]; rfl) h.2.2

/-- A struct of one slice in a block of its own. -/
def BoxA (w : World) (k : Nat) (v : Value) : Prop := w.heap[k]? = some (.cells #[v] 25 (0, 0))
theorem BoxA.cell {w : World} {k : Nat} {v : Value} (h : BoxA w k v) : w.cell? ⟨k, 0, none⟩ = some v := by rw [cell_of_row w k 0 #[v] _ _ h]; rfl
theorem BoxA.froz {w : World} {k : Nat} {v : Value} (h : BoxA w k v) : w.frozen? ⟨k, 0, none⟩ = false := frozen_of_row w k 0 #[v] _ h
theorem BoxA.new (w : World) (v : Value) : BoxA (w.alloc (.cells #[v] 25)) w.heap.size v := heap_alloc_new w _
theorem BoxA.set {w : World} {k : Nat} {v : Value} (h : BoxA w k v) (u : Value) : BoxA (w.setCell ⟨k, 0, none⟩ u) k u := heap_setCell_same w k 0 #[v] _ u h
theorem BoxA.lt {w : World} {k : Nat} {v : Value} (h : BoxA w k v) : k < w.heap.size := block_lt_of_cell h.cell
theorem BoxA.grown {w w' : World} {k : Nat} {v : Value} {row : Option Nat} (h : BoxA w k v) (hg : w.grownBy w' row) (hne : some k ≠ row) : BoxA w' k v := (hg.block k h.lt hne).trans h
theorem BoxA.below {w w' : World} {k : Nat} {v : Value} (h : BoxA w k v) (hb : Below w.heap.size w w') : BoxA w' k v := (hb.block k h.lt).trans h
/-- A row of integers never lies in such a block. -/
theorem BoxA.ne_own {w : World} {k base n : Nat} {v u : Value} {xs : List Value} (h : BoxA w k v) (ho : w.ownsRow base 3 1 u n xs) : some k ≠ u.ownBlock := by
  rcases ho.2 with ⟨rfl, _⟩ | ⟨g', cap, cur, rfl, _, hh, _⟩
  · simp [Value.ownBlock]
  · intro he
    have : k = g' := by simpa [Value.ownBlock] using he
    subst this
    unfold BoxA at h
    rw [h] at hh
    injection hh with hh
    injection hh with _ ht
    exact absurd ht (by decide)

theorem le_alloc {w : World} {k : Nat} (h : k ≤ w.heap.size) (o : Obj) : k ≤ (w.alloc o).heap.size := by rw [size_alloc]; omega
theorem rd_one (w : World) (x : Int) (k : Nat) (hk : w.heap.size = k) : Rd (w.alloc (.cells #[.int .i64 x] 3)) (some ⟨k, 0, none⟩) [x] := by
  subst hk
  intro i hi
  obtain rfl : i = 0 := by simp at hi; omega
  exact ⟨_, 0, rfl, by simp⟩

/-- One integer appended to a row of the call's own, as a step of a region that draws its order. -/
theorem step_append_one {ops : Array Oper} {o : Oper} {a : Act} {w : World} {K : Act → World → Prop} {Q : Exit → Act → World → Prop} {E : Prop}
    (hgd : o.guard = none) (s x : Operand) (ho : o.op = Op.call { callee := Callee.builtin Builtin.append, args := #[s, x], argTypes := #[23, 23] })
    (base : Nat) (C : Option Addr) (d : Nat) (xs : List Int) (y : Int) (hs : a.eval s = .slice C xs.length d) (hx : a.eval x = .slice (some ⟨w.heap.size, 0, none⟩) 1 1)
    (hown : NewA base w C d xs) (hlen : xs.length ≤ 1048576) (hbase : base ≤ w.heap.size)
    (h : ∀ C' d' w', NewA base w' C' d' (xs ++ [y]) → (w.alloc (.cells #[.int .i64 y] 3)).grownBy w' (Value.ownBlock (.slice C xs.length d)) → K (a.put o.dst (.slice C' (xs.length + 1) d')) w') :
    if Region.wanted o (yielded ops a.tmps) = true then Oper.wp Try.prog o a (w.alloc (.cells #[.int .i64 y] 3)) K Q else E := by
  obtain ⟨i0, hi, hz0, hz1, hz2⟩ := info_parts Try.infoInt
  refine step_append_rd hgd s x 23 ho base 3 i0 (.int .i64 0) 8 Try.underlying23 hi hz0 hz1 hz2 rfl _ xs hs (World.ownsRow.alloc hown _) _ _ [y] hx (rd_one _ _ _ rfl) ?_ ?_ (le_alloc hbase _) ?_
  · show (xs.length + 1) * 8 ≤ _; omega
  · unfold maxLen; show xs.length + 1 ≤ _; omega
  · intro C' d' w' h1 h2
    have e : (xs ++ [y]).length = xs.length + 1 := by simp
    have := h C' d' w' h1 h2
    rw [e]
    exact this

/-- What holds at each round of the drawing of an arena. -/
def ARel (w : World) (a g B : Nat) (A : Option Addr) (n c : Nat) (m : Int) (i : Value) (wr : World) : Prop :=
  ∃ (j : Nat) (zs : List Int) (C : Option Addr) (d : Nat), i = .int .i64 j ∧ zs.length + j ≤ 9 ∧ Good zs ∧ BoxA wr a (.slice C zs.length d) ∧ BoxA wr w.heap.size (.slice none 0 0) ∧ NewA (w.heap.size + 1) wr C d zs ∧ Src wr g B A n c (m + 9 - j) ∧ w.grownBy wr (some g)

theorem arel_step {w w3 w4 wr : World} {a g B n c j d d4 : Nat} {A C C4 : Option Addr} {m x : Int} {zs : List Int} (hj : 0 < j) (hj9 : zs.length + j ≤ 9) (hgood : Good zs) (hx : wordB x = true) (hga : g < w.heap.size) (haw : w.heap.size < a)
    (hw : w.grownBy wr (some g)) (hg3 : wr.drew.grownBy w3 (some g)) (hS3 : Src w3 g B A n c (m + 9 - j + 1)) (_hX3 : BoxA w3 a (.slice C zs.length d)) (hR3 : BoxA w3 w.heap.size (.slice none 0 0)) (hN3 : NewA (w.heap.size + 1) w3 C d zs)
    (hnew4 : NewA (w.heap.size + 1) w4 C4 d4 (zs ++ [x])) (hgr4 : (w3.alloc (.cells #[.int .i64 x] 3)).grownBy w4 (Value.ownBlock (.slice C zs.length d))) (hb4 : BoxA w4 a (.slice C zs.length d)) :
    ARel w a g B A n c m (.int .i64 ((j : Int) - 1)) (w4.setCell ⟨a, 0, none⟩ (.slice C4 (zs.length + 1) d4)) := by
  have hrow : ∀ q, Value.ownBlock (.slice C zs.length d) = some q → w.heap.size + 1 ≤ q := fun q hq => (World.ownsRow.lt hN3 q hq).1
  have hl : (zs ++ [x]).length = zs.length + 1 := by simp
  have hset := grown_setCell w4 a 0 (.slice C4 (zs.length + 1) d4)
  refine ⟨j - 1, zs ++ [x], C4, d4, ?_, by rw [hl]; omega, hgood.snoc hx, ?_, ?_, ?_, ?_, ?_⟩
  · congr 1; omega
  · rw [hl]; exact hb4.set _
  · exact (((hR3.below (below_alloc _ _)).grown hgr4 (BoxA.ne_own hR3 hN3)).grown hset (by simp; omega))
  · exact hnew4.kept hset (.inr fun e => BoxA.ne_own hb4 hnew4 e.symm)
  · refine ((Src.grown (hS3.below (below_alloc _ _)) hgr4 (fun k hk => ?_)).grown hset (fun k hk => ?_)).mono (by omega)
    · have := hrow k hk; have := hS3.high; omega
    · have := hS3.high; simp only [Option.some.injEq] at hk; omega
  · have h1 : w.grownBy w3 (some g) := grown_trans (b := wr.drew) (grown_drew hw) hg3
    have h2 := grown_trans h1 (grown_below (some g) (below_alloc w3 (.cells #[.int .i64 x] 3)))
    have h3 := grown_new h2 hgr4 (fun q hq => by have := hrow q hq; omega)
    exact grown_new h3 hset (fun q hq => by simp only [Option.some.injEq] at hq; omega)

end Go.Proofs.Ytabojajhnhcemaa

namespace Go.Proofs.Ytabojajhnhcemaa
open Go.RowKit

set_option maxHeartbeats 1000000 in
theorem rightThen_bad (id st op arg pc til : Int) (per can : Bool) (r0 r1 r2 r3 r4 code res : Int) (f : Value) (w : World) (h : thB id st op arg pc til per can r0 r1 r2 r3 r4 code res = false) :
    Calls Try.prog 24 #[.agg #[.int .i64 id, .int .i64 st, .int .i64 op, .int .i64 arg, .int .i64 pc, .int .i64 til, .bool per, .bool can, .int .i64 r0, .int .i64 r1, .int .i64 r2, .int .i64 r3, .int .i64 r4, .int .i64 code, .int .i64 res], f] w fun e w' => e = .returned (.tuple #[.agg #[.int .i64 0, .int .i64 0, .int .i64 0, .int .i64 0, .int .i64 0, .int .i64 0, .bool false, .bool false, .int .i64 0, .int .i64 0, .int .i64 0, .int .i64 0, .int .i64 0, .int .i64 0, .int .i64 0], .int .i64 1]) ∧ Below w.heap.size w w' := by
  go_enter Try.func24, Try.ntmps24
  go_wp2_with fail
  refine (implThreadOK_any _ _ _ _ _ _ _ _ _ _ _ _ _ _ _ _).mono ?_
  rintro e w1 ⟨rfl, hb⟩
  rw [h]
  have HB := Lib.hid (below_trans (below_alloc2 _ _ _) hb)
  have HX := Lib.hid ((BoxT.two w _ _).below hb)
  have HR := Lib.hid ((BoxT.two' w _ _).below hb)
  clear hb h
  go_wp2_with (refine wpList_store_row rfl 29 _ _ rfl (w.heap.size + 1) _ rfl rfl 29 _ HR.out info_th rfl (one15 _ _ _ _ _ _ _ _ _ _ _ _ _ _ _) ?_)
  exact bodyPost_ret (results_th Try.results24 _ _ (w.heap.size + 1) _ _ rfl rfl (HR.out.row _) rfl) rfl ⟨rfl, below_row HB.out (by omega) _⟩

set_option maxHeartbeats 1000000 in
theorem rightThen_ok (id st op arg pc til : Int) (per can : Bool) (r0 r1 r2 r3 r4 code res : Int) (K : FuncId) (w : World) (hE : ∀ wx : World, (callFunc K #[.agg #[.int .i64 id, .int .i64 st, .int .i64 op, .int .i64 arg, .int .i64 pc, .int .i64 til, .bool per, .bool can, .int .i64 r0, .int .i64 r1, .int .i64 r2, .int .i64 r3, .int .i64 r4, .int .i64 code, .int .i64 res]]).run Try.prog wx = .ok (.enter K #[.agg #[.int .i64 id, .int .i64 st, .int .i64 op, .int .i64 arg, .int .i64 pc, .int .i64 til, .bool per, .bool can, .int .i64 r0, .int .i64 r1, .int .i64 r2, .int .i64 r3, .int .i64 r4, .int .i64 code, .int .i64 res]]) wx) (h : thB id st op arg pc til per can r0 r1 r2 r3 r4 code res = true) (id' st' op' arg' pc' til' : Int) (per' can' : Bool) (s0 s1 s2 s3 s4 code' res' c : Int)
    (hK : ∀ w0 : World, Calls Try.prog K #[.agg #[.int .i64 id, .int .i64 st, .int .i64 op, .int .i64 arg, .int .i64 pc, .int .i64 til, .bool per, .bool can, .int .i64 r0, .int .i64 r1, .int .i64 r2, .int .i64 r3, .int .i64 r4, .int .i64 code, .int .i64 res]] w0 fun e w' => e = .returned (.tuple #[.agg #[.int .i64 id', .int .i64 st', .int .i64 op', .int .i64 arg', .int .i64 pc', .int .i64 til', .bool per', .bool can', .int .i64 s0, .int .i64 s1, .int .i64 s2, .int .i64 s3, .int .i64 s4, .int .i64 code', .int .i64 res'], .int .i64 c]) ∧ Below w0.heap.size w0 w') :
    Calls Try.prog 24 #[.agg #[.int .i64 id, .int .i64 st, .int .i64 op, .int .i64 arg, .int .i64 pc, .int .i64 til, .bool per, .bool can, .int .i64 r0, .int .i64 r1, .int .i64 r2, .int .i64 r3, .int .i64 r4, .int .i64 code, .int .i64 res], .func (.func K) #[.agg #[.int .i64 id, .int .i64 st, .int .i64 op, .int .i64 arg, .int .i64 pc, .int .i64 til, .bool per, .bool can, .int .i64 r0, .int .i64 r1, .int .i64 r2, .int .i64 r3, .int .i64 r4, .int .i64 code, .int .i64 res]] #[]] w fun e w' => e = .returned (.tuple #[.agg #[.int .i64 id', .int .i64 st', .int .i64 op', .int .i64 arg', .int .i64 pc', .int .i64 til', .bool per', .bool can', .int .i64 s0, .int .i64 s1, .int .i64 s2, .int .i64 s3, .int .i64 s4, .int .i64 code', .int .i64 res'], .int .i64 c]) ∧ Below w.heap.size w w' := by
  have HK := Lib.hid hK; clear hK
  go_enter Try.func24, Try.ntmps24
  go_wp2_with fail
  refine (implThreadOK_any _ _ _ _ _ _ _ _ _ _ _ _ _ _ _ _).mono ?_
  rintro e w1 ⟨rfl, hb⟩
  rw [h]
  have HB := Lib.hid (below_trans (below_alloc2 _ _ _) hb)
  have HX := Lib.hid ((BoxT.two w _ _).below hb)
  have HR := Lib.hid ((BoxT.two' w _ _).below hb)
  clear hb h
  go_wp2_with fail
  refine (HK.out _).mono ?_
  rintro e w2 ⟨rfl, hb⟩
  have HB2 := Lib.hid (below_trans HB.out hb)
  have HR2 := Lib.hid (HR.out.below hb)
  clear hb HB HX HR
  go_wp2_with (refine wpList_store_row rfl 29 _ _ rfl (w.heap.size + 1) _ rfl rfl 29 _ HR2.out info_th rfl (one15 _ _ _ _ _ _ _ _ _ _ _ _ _ _ _) ?_)
  exact bodyPost_ret (results_th Try.results24 _ _ (w.heap.size + 1) _ _ rfl rfl (HR2.out.row _) rfl) rfl ⟨rfl, below_row HB2.out (by omega) _⟩

theorem enters_park (id st op arg pc til : Int) (per can : Bool) (r0 r1 r2 r3 r4 code res : Int) (w : World) : (callFunc 116 #[.agg #[.int .i64 id, .int .i64 st, .int .i64 op, .int .i64 arg, .int .i64 pc, .int .i64 til, .bool per, .bool can, .int .i64 r0, .int .i64 r1, .int .i64 r2, .int .i64 r3, .int .i64 r4, .int .i64 code, .int .i64 res]]).run Try.prog w = .ok (.enter 116 #[.agg #[.int .i64 id, .int .i64 st, .int .i64 op, .int .i64 arg, .int .i64 pc, .int .i64 til, .bool per, .bool can, .int .i64 r0, .int .i64 r1, .int .i64 r2, .int .i64 r3, .int .i64 r4, .int .i64 code, .int .i64 res]]) w := by kernel_rfl
theorem enters_wake (id st op arg pc til : Int) (per can : Bool) (r0 r1 r2 r3 r4 code res : Int) (w : World) : (callFunc 25 #[.agg #[.int .i64 id, .int .i64 st, .int .i64 op, .int .i64 arg, .int .i64 pc, .int .i64 til, .bool per, .bool can, .int .i64 r0, .int .i64 r1, .int .i64 r2, .int .i64 r3, .int .i64 r4, .int .i64 code, .int .i64 res]]).run Try.prog w = .ok (.enter 25 #[.agg #[.int .i64 id, .int .i64 st, .int .i64 op, .int .i64 arg, .int .i64 pc, .int .i64 til, .bool per, .bool can, .int .i64 r0, .int .i64 r1, .int .i64 r2, .int .i64 r3, .int .i64 r4, .int .i64 code, .int .i64 res]]) w := by kernel_rfl
end Go.Proofs.Ytabojajhnhcemaa

namespace Go.Proofs.Ytabojajhnhcemaa
open Go.RowKit

theorem run_loadVar_arena (w : World) (g : Nat) (v : Value) (h : BoxA w g v) : (loadVar 25 ⟨g, 0, none⟩).run Try.prog w = .ok (.agg #[v]) w :=
  run_loadVar_row w g 25 25 #[v] (0, 0) _ h Try.underlying25 rfl (by kernel_rfl)

/-- The four boxes of a step, the first at k. -/
structure Fr (w0 wi : World) (A : Option Addr) (c : Nat) (zs : List Int) (cs : Array Value) : Prop where
  a : BoxA wi w0.heap.size (.slice A zs.length c)
  t : BoxT wi (w0.heap.size + 1) cs
  ra : BoxA wi (w0.heap.size + 1 + 1) (.slice none 0 0)
  rt : BoxT wi (w0.heap.size + 1 + 1 + 1) #[.int .i64 0, .int .i64 0, .int .i64 0, .int .i64 0, .int .i64 0, .int .i64 0, .bool false, .bool false, .int .i64 0, .int .i64 0, .int .i64 0, .int .i64 0, .int .i64 0, .int .i64 0, .int .i64 0]
  rd : Rd wi A zs
  b : Below w0.heap.size w0 wi
theorem Fr.below {w0 wi wj : World} {A : Option Addr} {c : Nat} {zs : List Int} {cs : Array Value} (h : Fr w0 wi A c zs cs) (hb : Below wi.heap.size wi wj) : Fr w0 wj A c zs cs :=
  ⟨h.a.below hb, h.t.below hb, h.ra.below hb, h.rt.below hb, h.rd.below hb, below_trans h.b hb⟩
theorem Fr.drew {w0 wi : World} {A : Option Addr} {c : Nat} {zs : List Int} {cs : Array Value} (h : Fr w0 wi A c zs cs) : Fr w0 wi.drew A c zs cs :=
  ⟨h.a, h.t, h.ra, h.rt, h.rd.drew, h.b.drew⟩
theorem Fr.size {w0 wi : World} {A : Option Addr} {c : Nat} {zs : List Int} {cs : Array Value} (h : Fr w0 wi A c zs cs) : w0.heap.size + 1 + 1 + 1 < wi.heap.size := h.rt.lt
theorem rd_set {w : World} {A : Option Addr} {zs : List Int} (h : Rd w A zs) {k j : Nat} {v : Value} (hk : ∀ b o, A = some ⟨b, o, none⟩ → zs.length ≠ 0 → b ≠ k) : Rd (w.setCell ⟨k, j, none⟩ v) A zs := by
  intro i hi
  obtain ⟨b, o, hA, hc⟩ := h i hi
  refine ⟨b, o, hA, ?_⟩
  rw [World.cell?_setCell_other _ _ _ _ (by simp; intro e; exact absurd e.symm (hk b o hA (by omega)))]
  exact hc
theorem Fr.start (w : World) (A : Option Addr) (c : Nat) (zs : List Int) (cs : Array Value) (hA : Rd w A zs) :
    Fr w ((((w.alloc (.cells #[.slice A zs.length c] 25)).alloc (.cells cs 29)).alloc (.cells #[.slice none 0 0] 25)).alloc (.cells #[.int .i64 0, .int .i64 0, .int .i64 0, .int .i64 0, .int .i64 0, .int .i64 0, .bool false, .bool false, .int .i64 0, .int .i64 0, .int .i64 0, .int .i64 0, .int .i64 0, .int .i64 0, .int .i64 0] 29)) A c zs cs := by
  refine ⟨?_, ?_, ?_, ?_, hA.below (below_alloc4 _ _ _ _ _), below_alloc4 _ _ _ _ _⟩
  · exact (((BoxA.new w _).below (below_alloc _ _)).below (below_alloc _ _)).below (below_alloc _ _)
  · have h := ((BoxT.new (w.alloc (.cells #[.slice A zs.length c] 25)) cs).below (below_alloc _ (.cells #[.slice none 0 0] 25))).below (below_alloc _ (.cells #[.int .i64 0, .int .i64 0, .int .i64 0, .int .i64 0, .int .i64 0, .int .i64 0, .bool false, .bool false, .int .i64 0, .int .i64 0, .int .i64 0, .int .i64 0, .int .i64 0, .int .i64 0, .int .i64 0] 29))
    rw [size_alloc] at h; exact h
  · have h := (BoxA.new ((w.alloc (.cells #[.slice A zs.length c] 25)).alloc (.cells cs 29)) (.slice none 0 0)).below (below_alloc _ (.cells #[.int .i64 0, .int .i64 0, .int .i64 0, .int .i64 0, .int .i64 0, .int .i64 0, .bool false, .bool false, .int .i64 0, .int .i64 0, .int .i64 0, .int .i64 0, .int .i64 0, .int .i64 0, .int .i64 0] 29))
    rw [size_alloc, size_alloc] at h; exact h
  · have h := BoxT.new (((w.alloc (.cells #[.slice A zs.length c] 25)).alloc (.cells cs 29)).alloc (.cells #[.slice none 0 0] 25)) #[.int .i64 0, .int .i64 0, .int .i64 0, .int .i64 0, .int .i64 0, .int .i64 0, .bool false, .bool false, .int .i64 0, .int .i64 0, .int .i64 0, .int .i64 0, .int .i64 0, .int .i64 0, .int .i64 0]
    rw [size_alloc, size_alloc, size_alloc] at h; exact h
theorem Fr.set {w0 wi : World} {A : Option Addr} {c : Nat} {zs : List Int} {cs : Array Value} (h : Fr w0 wi A c zs cs) (hA : Rd w0 A zs) (j : Nat) (v : Value) : Fr w0 (wi.setCell ⟨w0.heap.size + 1, j, none⟩ v) A c zs (cs.setIfInBounds j v) := by
  refine ⟨?_, h.t.set j v, ?_, h.rt.other _ _ (by simp <;> omega), rd_set h.rd ?_, h.b.setCell (by simp) v⟩
  · exact (heap_setCell_other _ _ _ _ (by simp <;> omega)).trans h.a
  · exact (heap_setCell_other _ _ _ _ (by simp <;> omega)).trans h.ra
  · intro b o hb hn e
    obtain ⟨b', o', hb', hc⟩ := hA 0 (by omega)
    rw [hb] at hb'
    simp only [Option.some.injEq, Addr.mk.injEq, and_true] at hb'
    have := block_lt_of_cell hc
    simp at this
    omega

theorem NewA.row {lo : Nat} {w : World} {A : Option Addr} {c : Nat} {zs : List Int} (h : NewA lo w A c zs) {k : Nat} (hk : k < lo) (bs : Array Value) : NewA lo (w.setRow k bs) A c zs := by
  refine ⟨h.1, ?_⟩
  rcases h.2 with h2 | ⟨g, cap, cur, hv, hg, hh, r⟩
  · exact .inl h2
  · exact .inr ⟨g, cap, cur, hv, hg, (setRow_other _ _ _ _ (by omega)).trans hh, r⟩
theorem cell_set2 {w : World} {b k o : Nat} {u v : Value} (hk : b ≠ k) (h : w.cell? ⟨b, 0, none⟩ = some u) : (w.setCell ⟨k, o, none⟩ v).cell? ⟨b, 0, none⟩ = some u := by
  rw [World.cell?_setCell_other _ _ _ _ (by simp)]; exact h
theorem cells_set2 {w : World} {b k o : Nat} {v : Value} {cs : Array Value} (hk : b ≠ k) (h : ∀ j, w.cell? ⟨b, j, none⟩ = cs[j]?) : ∀ j, (w.setCell ⟨k, o, none⟩ v).cell? ⟨b, j, none⟩ = cs[j]? := fun j => by
  rw [World.cell?_setCell_other _ _ _ _ (by simp)]; exact h j
/-- The results' boxes are filled. -/
theorem Fr.done {w0 wi : World} {A : Option Addr} {c : Nat} {zs : List Int} {cs : Array Value} (h : Fr w0 wi A c zs cs) (v : Value) (bs : Array Value) :
    BoxA ((wi.setCell ⟨w0.heap.size + 1 + 1, 0, none⟩ v).setRow (w0.heap.size + 1 + 1 + 1) bs) (w0.heap.size + 1 + 1) v ∧ BoxT ((wi.setCell ⟨w0.heap.size + 1 + 1, 0, none⟩ v).setRow (w0.heap.size + 1 + 1 + 1) bs) (w0.heap.size + 1 + 1 + 1) bs ∧ Below w0.heap.size w0 ((wi.setCell ⟨w0.heap.size + 1 + 1, 0, none⟩ v).setRow (w0.heap.size + 1 + 1 + 1) bs) := by
  have ht := h.rt.other ⟨w0.heap.size + 1 + 1, 0, none⟩ v (by simp)
  refine ⟨?_, ht.row bs, below_row (h.b.setCell (by simp; omega) v) (by omega) bs⟩
  exact (setRow_other _ _ _ _ (by omega)).trans (h.ra.set v)
theorem Fr.rtSet {w0 wi : World} {A : Option Addr} {c : Nat} {zs : List Int} {cs : Array Value} (h : Fr w0 wi A c zs cs) (v : Value) : BoxT (wi.setCell ⟨w0.heap.size + 1 + 1, 0, none⟩ v) (w0.heap.size + 1 + 1 + 1) #[.int .i64 0, .int .i64 0, .int .i64 0, .int .i64 0, .int .i64 0, .int .i64 0, .bool false, .bool false, .int .i64 0, .int .i64 0, .int .i64 0, .int .i64 0, .int .i64 0, .int .i64 0, .int .i64 0] :=
  h.rt.other _ _ (by simp)

theorem rd_low {w : World} {A : Option Addr} {zs : List Int} (h : Rd w A zs) {k : Nat} (hk : w.heap.size ≤ k) : ∀ b o, A = some ⟨b, o, none⟩ → zs.length ≠ 0 → b ≠ k := by
  intro b o hb hn e
  obtain ⟨b', o', hb', hc⟩ := h 0 (by omega)
  rw [hb] at hb'
  simp only [Option.some.injEq, Addr.mk.injEq, and_true] at hb'
  have := block_lt_of_cell hc
  simp at this
  omega
theorem Fr.high {w0 wi : World} {A : Option Addr} {c : Nat} {zs : List Int} {cs : Array Value} (h : Fr w0 wi A c zs cs) (hA : Rd w0 A zs) {g : Nat} (hg : w0.heap.size + 1 + 1 + 1 < g) (v : Value) : Fr w0 (wi.setCell ⟨g, 0, none⟩ v) A c zs cs := by
  refine ⟨?_, h.t.other _ _ (by simp <;> omega), ?_, h.rt.other _ _ (by simp <;> omega), rd_set h.rd (rd_low hA (by omega)), h.b.setCell (by simp <;> omega) v⟩
  · exact (heap_setCell_other _ _ _ _ (by simp <;> omega)).trans h.a
  · exact (heap_setCell_other _ _ _ _ (by simp <;> omega)).trans h.ra
/-- An arena of our own in a box of its own, beside the frame. -/
def Got (w0 : World) (A : Option Addr) (c : Nat) (zs : List Int) (cs : Array Value) (L : List Int) (s : Value) (wx : World) : Prop :=
  ∃ g B d, s = .pointer (some ⟨g, 0, none⟩) ∧ w0.heap.size + 1 + 1 + 1 < g ∧ BoxA wx g (.slice B L.length d) ∧ NewA (w0.heap.size + 1 + 1 + 1 + 1) wx B d L ∧ Fr w0 wx A c zs cs
theorem Got.late {w0 w1 : World} {A B : Option Addr} {c d lo : Nat} {zs L : List Int} {cs : Array Value} (h : Fr w0 w1 A c zs cs) (hn : NewA lo w1 B d L) (hlo : w0.heap.size + 1 + 1 + 1 < lo) :
    Got w0 A c zs cs L (.pointer (some ⟨w1.heap.size, 0, none⟩)) (w1.alloc (.cells #[.slice B L.length d] 25)) :=
  ⟨_, B, d, rfl, h.size, BoxA.new _ _, (hn.below (below_alloc _ _)).base (by omega), h.below (below_alloc _ _)⟩
theorem Got.early {w0 w1 : World} {A B : Option Addr} {c d lo g : Nat} {zs L : List Int} {cs : Array Value} {v : Value} (h : Fr w0 w1 A c zs cs) (hA : Rd w0 A zs) (hn : NewA lo w1 B d L) (hx : BoxA w1 g v) (hlo : g < lo) (hg : w0.heap.size + 1 + 1 + 1 < g) :
    Got w0 A c zs cs L (.pointer (some ⟨g, 0, none⟩)) (w1.setCell ⟨g, 0, none⟩ (.slice B L.length d)) :=
  ⟨g, B, d, rfl, hg, hx.set _, (hn.setCell hlo _).base (by omega), h.high hA hg _⟩
theorem bitOne (w : World) : Calls Try.prog 49 #[.bool true] w fun e w' => e = .returned (.int .i64 1) ∧ w = w' := bitOf_any true w
theorem bitZero (w : World) : Calls Try.prog 49 #[.bool false] w fun e w' => e = .returned (.int .i64 0) ∧ w = w' := bitOf_any false w

/-- What the step leaves in the results' boxes. -/
theorem results_at {fn : Func} {p q : Tmp} (h : fn.results = #[.cell p 25, .cell q 29]) (tmps : Array Value) (w : World) (g k : Nat) (v : Value) (cs : Array Value)
    (hp : tmps.getD p undef = .pointer (some ⟨g, 0, none⟩)) (hq : tmps.getD q undef = .pointer (some ⟨k, 0, none⟩)) (hg : BoxA w g v) (hk : BoxT w k cs) (hs : cs.size = 15) :
    (results fn tmps).run Try.prog w = .ok (.tuple #[.agg #[v], .agg cs]) w := by
  have hp' : tmps[p]?.getD undef = .pointer (some ⟨g, 0, none⟩) := by simpa using hp
  have hq' : tmps[q]?.getD undef = .pointer (some ⟨k, 0, none⟩) := by simpa using hq
  have ha := run_loadVar_arena w g v hg
  have hl := run_loadVar_row w k 29 29 cs (0, 0) _ hk Try.underlying29 rfl (by rw [hs]; exact info_th)
  simp [results, h, hp', hq', asAddr, ha, hl]
theorem results_ati {fn : Func} {p q r : Tmp} (h : fn.results = #[.cell p 25, .cell q 29, .tmp r]) (tmps : Array Value) (w : World) (g k : Nat) (v x : Value) (cs : Array Value)
    (hp : tmps.getD p undef = .pointer (some ⟨g, 0, none⟩)) (hq : tmps.getD q undef = .pointer (some ⟨k, 0, none⟩)) (hr : tmps.getD r undef = x) (hg : BoxA w g v) (hk : BoxT w k cs) (hs : cs.size = 15) :
    (results fn tmps).run Try.prog w = .ok (.tuple #[.agg #[v], .agg cs, x]) w := by
  have hp' : tmps[p]?.getD undef = .pointer (some ⟨g, 0, none⟩) := by simpa using hp
  have hq' : tmps[q]?.getD undef = .pointer (some ⟨k, 0, none⟩) := by simpa using hq
  have hr' : tmps[r]?.getD undef = x := by simpa using hr
  have ha := run_loadVar_arena w g v hg
  have hl := run_loadVar_row w k 29 29 cs (0, 0) _ hk Try.underlying29 rfl (by rw [hs]; exact info_th)
  simp [results, h, hp', hq', hr', asAddr, ha, hl]
end Go.Proofs.Ytabojajhnhcemaa

namespace Go.Proofs.Ytabojajhnhcemaa
open Go.RowKit

set_option maxHeartbeats 1000000 in
theorem at_any (A : Option Addr) (n c k : Nat) (q : Int) (w : World) (hn : n ≤ 1048576) (hk : k ≤ 1000000) (hq1 : 1 < q) (hq2 : q ≤ 1000000) (hA : RdB w A n) :
    Calls Try.prog 7 #[.slice A n c, .int .i64 (k : Nat), .int .i64 q] w fun e w' => ∃ r : Int, 0 ≤ r ∧ r < q ∧ e = .returned (.int .i64 r) ∧ Below w.heap.size w w' := by
  have hqz : (q == 0) = false := by simp; omega
  by_cases hz : n = 0
  · subst hz
    go_enter Try.func7, Try.ntmps7
    go_wp2
    go_ret
    refine ⟨(k : Int) * 7 % q, Int.emod_nonneg _ (by omega), Int.emod_lt_of_pos _ (by omega), ?_, Below.refl _ _⟩
    rfl
  · have hnz : ((n : Int) == 0) = false := by simp; omega
    obtain ⟨p1, hp1, ht1⟩ : ∃ p1 : Nat, p1 < n ∧ (k : Int).tmod (n : Int) = (p1 : Int) := ⟨k % n, Nat.mod_lt _ (by omega), by rw [Int.tmod_eq_emod_of_nonneg (by omega)]; rfl⟩
    obtain ⟨p2, hp2, ht2⟩ : ∃ p2 : Nat, p2 < n ∧ ((k : Int) + 1).tmod (n : Int) = (p2 : Int) := ⟨(k + 1) % n, Nat.mod_lt _ (by omega), by rw [Int.tmod_eq_emod_of_nonneg (by omega)]; rfl⟩
    obtain ⟨p3, hp3, ht3⟩ : ∃ p3 : Int, (0 ≤ p3 ∧ p3 ≤ k) ∧ (k : Int).tdiv (n : Int) = p3 := ⟨_, by rw [Int.tdiv_eq_ediv_of_nonneg (by omega)]; exact ⟨Int.ediv_nonneg (by omega) (by omega), Int.ediv_le_self _ (by omega)⟩, rfl⟩
    obtain ⟨b, o, u, rfl, hc1, hu0, hu1⟩ := hA p1 hp1
    obtain ⟨b', o', u', hbo, hc2, hv0, hv1⟩ := hA p2 hp2
    simp only [Option.some.injEq, Addr.mk.injEq, and_true] at hbo
    obtain ⟨rfl, rfl⟩ := hbo
    have q0 : IntKind.i64.wrap ((k : Int) + 1) = (k : Int) + 1 := IntWalk.i64_in _ (by omega)
    have q1 : IntKind.i64.wrap (u * 31) = u * 31 := IntWalk.i64_in _ (by omega)
    have q2 : IntKind.i64.wrap (u * 31 + u') = u * 31 + u' := IntWalk.i64_in _ (by omega)
    have q3 : IntKind.i64.wrap p3 = p3 := IntWalk.i64_in _ (by omega)
    have q4 : IntKind.i64.wrap (u * 31 + u' + p3) = u * 31 + u' + p3 := IntWalk.i64_in _ (by omega)
    have q5 : IntKind.i64.wrap u = u := IntWalk.i64_in _ (by omega)
    have q6 : IntKind.i64.wrap u' = u' := IntWalk.i64_in _ (by omega)
    have q7 : (u * 31 + u' + p3).tmod q = (u * 31 + u' + p3) % q := Int.tmod_eq_emod_of_nonneg (by omega)
    clear hA
    go_enter Try.func7, Try.ntmps7
    go_wp2
    go_quiet (fail)
    go_wp2
    go_ret
    refine ⟨(u * 31 + u' + p3) % q, Int.emod_nonneg _ (by omega), Int.emod_lt_of_pos _ (by omega), ?_, below_drewN _⟩
    rfl

end Go.Proofs.Ytabojajhnhcemaa

namespace Go.Proofs.Ytabojajhnhcemaa
open Go.RowKit

/-- How many of the first k places differ. -/
def diffTo (xs ys : List Int) : Nat → Nat
  | 0 => 0
  | k + 1 => diffTo xs ys k + if xs.getD k 0 = ys.getD k 0 then 0 else 1
theorem diffTo_le (xs ys : List Int) (k : Nat) : diffTo xs ys k ≤ k := by
  induction k with
  | zero => exact Nat.le_refl _
  | succ k ih => unfold diffTo; split <;> omega
theorem diffTo_set (xs : List Int) (i : Nat) (v : Int) (k : Nat) : (k ≤ i → diffTo xs (xs.set i v) k = 0) ∧ diffTo xs (xs.set i v) k ≤ 1 := by
  induction k with
  | zero => exact ⟨fun _ => rfl, Nat.zero_le _⟩
  | succ k ih =>
    have hs : diffTo xs (xs.set i v) (k + 1) = diffTo xs (xs.set i v) k + (if xs.getD k 0 = (xs.set i v).getD k 0 then 0 else 1) := rfl
    by_cases h : i = k
    · refine ⟨fun hk => by omega, ?_⟩
      rw [hs, ih.1 (by omega)]
      split <;> omega
    · have e : xs.getD k 0 = (xs.set i v).getD k 0 := by
        simp only [List.getD]
        rw [List.getElem?_set_ne h]
      rw [if_pos e] at hs
      exact ⟨fun hk => by rw [hs, ih.1 (by omega)], by rw [hs]; exact ih.2⟩

set_option maxHeartbeats 2000000 in
theorem turned_any (A B : Option Addr) (c d : Nat) (xs ys : List Int) (w : World) (hl : xs.length = ys.length) (hn : xs.length ≤ 1048576) (hA : Rd w A xs) (hB : Rd w B ys) :
    Calls Try.prog 12 #[.agg #[.slice A xs.length c], .agg #[.slice B ys.length d]] w fun e w' => e = .returned (.int .i64 (diffTo xs ys xs.length : Nat)) ∧ Below w.heap.size w w' := by
  have hnl : ((ys.length : Int) != (xs.length : Int)) = false := by simp [hl]
  have hm : ys.length ≤ 1048576 := by omega
  have HL := Lib.hid hl; clear hl
  have HA := Lib.hid (hA.below (below_alloc2 w (.cells #[.slice A xs.length c] 25) (.cells #[.slice B ys.length d] 25)))
  have HB := Lib.hid (hB.below (below_alloc2 w (.cells #[.slice A xs.length c] 25) (.cells #[.slice B ys.length d] 25)))
  have HX : Hid (∀ k, ((w.alloc (.cells #[.slice A xs.length c] 25)).alloc (.cells #[.slice B ys.length d] 25)).drewN k |>.cell? ⟨w.heap.size, 0, none⟩ |> (· = some (.slice A xs.length c))) := fun k => by
    show ((w.alloc _).alloc _).cell? ⟨w.heap.size, 0, none⟩ = _
    exact cell_keep (below_alloc _ _) (by simp)
  clear hA hB
  go_enter Try.func12, Try.ntmps12
  go_wp2
  go_loopw [5, 6] (fun m i wr => ∃ k q : Nat, k ≤ xs.length ∧ i = .int .i64 k ∧ m = .int .i64 (diffTo xs ys k : Nat) ∧ wr = ((w.alloc (.cells #[.slice A xs.length c] 25)).alloc (.cells #[.slice B ys.length d] 25)).drewN q)
    (fun _ i _ => xs.length - (intOf i).toNat)
  case atStart => exact ⟨0, 0, Nat.zero_le _, rfl, rfl, rfl⟩
  case round =>
    obtain ⟨k, q, hk, rfl, rfl, rfl⟩ := hrel
    have hdl := diffTo_le xs ys k
    by_cases hlt : k < xs.length
    · have hlt' : k < ys.length := by have := HL.out; omega
      obtain ⟨b, o, rfl, hcell⟩ := HA.out k hlt
      obtain ⟨b', o', rfl, hcell'⟩ := HB.out k hlt'
      have HD : Hid (diffTo xs ys (k + 1) = diffTo xs ys k + if xs.getD k 0 = ys.getD k 0 then 0 else 1) := rfl
      generalize hx : xs.getD k 0 = x at *
      generalize hy : ys.getD k 0 = y at *
      generalize hdd : diffTo xs ys k = dd at *
      clear hx hy hdd
      by_cases hxy : x = y
      · subst hxy
        rw [if_pos rfl, Nat.add_zero] at HD
        go_wp2
        go_region
        all_goals
          go_wp2
          go_roundw
          case rel => exact ⟨k + 1, q + 1, by omega, by go_num, by rw [HD.out]; go_num, rfl⟩
          case measure => simp [intOf]; omega
      · have hne : (x != y) = true := by simp [hxy]
        rw [if_neg hxy] at HD
        clear hxy
        go_wp2
        go_region
        all_goals
          go_wp2
          go_roundw
          case rel => exact ⟨k + 1, q + 1, by omega, by go_num, by rw [HD.out]; go_num, rfl⟩
          case measure => simp [intOf]; omega
    · obtain rfl : k = xs.length := by omega
      go_wp2
      go_ret
      exact ⟨rfl, below_trans (below_alloc2 _ _ _) (below_drewN _)⟩
end Go.Proofs.Ytabojajhnhcemaa

namespace Go.Proofs.Ytabojajhnhcemaa
open Go.RowKit

/-- An arena that is handed on as it was, or one in memory of our own. -/
def Res (lo : Nat) (w : World) (A : Option Addr) (zs : List Int) (B : Option Addr) (d : Nat) (L : List Int) : Prop := (B = A ∧ L = zs) ∨ NewA lo w B d L
theorem Res.below {lo : Nat} {w w' : World} {A B : Option Addr} {zs L : List Int} {d : Nat} (h : Res lo w A zs B d L) (hb : Below w.heap.size w w') : Res lo w' A zs B d L := by
  rcases h with h | h
  · exact .inl h
  · exact .inr (h.below hb)
theorem Res.drew {lo : Nat} {w : World} {A B : Option Addr} {zs L : List Int} {d : Nat} (h : Res lo w A zs B d L) : Res lo w.drew A zs B d L := h
theorem Res.done {lo lo' g k : Nat} {w : World} {A B : Option Addr} {zs L : List Int} {d : Nat} (h : Res lo w A zs B d L) (h1 : g < lo) (h2 : k < lo) (h3 : lo' ≤ lo) (v : Value) (bs : Array Value) : Res lo' ((w.setCell ⟨g, 0, none⟩ v).setRow k bs) A zs B d L := by
  rcases h with h | h
  · exact .inl h
  · exact .inr (((h.setCell h1 v).row h2 bs).base h3)
theorem Res.rd {lo : Nat} {w : World} {A B : Option Addr} {zs L : List Int} {d : Nat} (h : Res lo w A zs B d L) (hA : Rd w A zs) : Rd w B L := by
  rcases h with ⟨rfl, rfl⟩ | h
  · exact hA
  · exact h.rd

end Go.Proofs.Ytabojajhnhcemaa
