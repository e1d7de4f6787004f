/-
  Contracts: l01Alloc and AllocCells of the model (chapter 2).
-/
import Derived.Test.YtjddmdhoeampcaaAllocB
import Derived.Deep.RegionLaw
namespace Go.Proofs.Ytjddmdhoeampcaa
open Go.RowKit

theorem run_append_rd {P : Program} (w : World) (t ty : TypeId) (base : Nat) (e : TypeId) (i : TypeInfo) (z : Value) (bytes : Nat) (ht : P.underlying t = some (.slice e)) (hi : P.info? e = some i) (hz : i.zero = some z)
    (hsize : i.size = 1) (hby : i.bytes = bytes) (hzs : z.cells.size = 1)
    (v : Value) (xs : List Int) (hown : w.ownsRow base e 1 v xs.length (ints xs))
    (A : Option Addr) (c : Nat) (ys : List Int) (hA : Rd w A ys)
    (hbytes : (xs.length + ys.length) * bytes ≤ 140737488355328) (h63 : xs.length + ys.length ≤ maxLen) (hbase : base ≤ w.heap.size) :
    ∃ B d w', (Builtin.append_ #[t, t] ty #[v, .slice A ys.length c]).run P w = .ok (.slice B (xs ++ ys).length d) w' ∧ w'.ownsRow base e 1 (.slice B (xs ++ ys).length d) (xs ++ ys).length (ints (xs ++ ys)) ∧ w.grownBy w' v.ownBlock := by
  have hlen : (xs ++ ys).length = xs.length + ys.length := by simp
  have he : ints xs ++ ints ys = ints (xs ++ ys) := by simp [ints]
  have hform : ∀ (v' : Value) (w' : World), w'.ownsRow base e 1 v' (xs.length + ys.length) (ints xs ++ ints ys) → ∃ B d, v' = .slice B (xs ++ ys).length d ∧ w'.ownsRow base e 1 (.slice B (xs ++ ys).length d) (xs ++ ys).length (ints (xs ++ ys)) := by
    intro v' w' ho'
    rw [he] at ho'
    rcases ho'.2 with ⟨rfl, h0⟩ | ⟨g, cap, cur, rfl, r⟩
    · refine ⟨none, 0, ?_, ?_⟩
      · rw [hlen, h0]
      · rw [hlen, h0]; rw [h0] at ho'; exact ho'
    · exact ⟨_, _, by rw [hlen], by rw [hlen]; exact ho'⟩
  rcases A with _ | ad
  · have hm : ys.length = 0 := by
      rcases Nat.eq_zero_or_pos ys.length with h0 | h0
      · exact h0
      · obtain ⟨b, o, h, _⟩ := hA 0 h0
        cases h
    obtain rfl : ys = [] := List.eq_nil_of_length_eq_zero hm
    obtain ⟨B, d, hv, hown'⟩ := hform v w (by simpa [ints] using hown)
    refine ⟨B, d, w, ?_, hown', World.grownBy.refl _ _⟩
    rw [← hv]
    exact run_app_nil (P := P) w base t ty e i 1 ht hi v xs.length (ints xs) hown c
  · obtain ⟨v', w', hr, h2, h3, _⟩ := run_append_own (P := P) w base t ty e i z 1 bytes ht hi hz hsize hby hzs (by decide) v xs.length (ints xs) hown ad ys.length c (ints ys) (by rw [length_ints]; omega)
      (by
        intro j u hu
        have hj : j < ys.length := by have := (List.getElem?_eq_some_iff.1 hu).1; rwa [length_ints] at this
        obtain ⟨ad', hA', hc⟩ := rd_cells hA (by omega)
        obtain rfl := Option.some.inj hA'
        exact hc j u hu) (ints_one _) h63 hbytes hbase
    obtain ⟨B, d, rfl, hown'⟩ := hform v' w' h2
    exact ⟨B, d, w', hr, hown', h3⟩

/-- The same as one step of a region that draws its order. -/
theorem step_append_rd {P : Program} {ops : Array Oper} {o : Oper} {a : Act} {w : World} {K : Act → World → Prop} {Q : Exit → Act → World → Prop} {E : Prop}
    (hgd : o.guard = none) (s x : Operand) (t : TypeId) (ho : o.op = Op.call { callee := Callee.builtin Builtin.append, args := #[s, x], argTypes := #[t, t] })
    (base : Nat) (e : TypeId) (i : TypeInfo) (z : Value) (bytes : Nat) (ht : P.underlying t = some (.slice e)) (hi : P.info? e = some i) (hz : i.zero = some z)
    (hsize : i.size = 1) (hby : i.bytes = bytes) (hzs : z.cells.size = 1)
    (v : Value) (xs : List Int) (hs : a.eval s = v) (hown : w.ownsRow base e 1 v xs.length (ints xs))
    (A : Option Addr) (c : Nat) (ys : List Int) (hx : a.eval x = .slice A ys.length c) (hA : Rd w A ys)
    (hbytes : (xs.length + ys.length) * bytes ≤ 140737488355328) (h63 : xs.length + ys.length ≤ maxLen) (hbase : base ≤ w.heap.size)
    (h : ∀ B d w', w'.ownsRow base e 1 (.slice B (xs ++ ys).length d) (xs ++ ys).length (ints (xs ++ ys)) → w.grownBy w' v.ownBlock → K (a.put o.dst (.slice B (xs ++ ys).length d)) w') :
    if Region.wanted o (yielded ops a.tmps) = true then Oper.wp P o a w K Q else E := by
  have hw : Region.wanted o (yielded ops a.tmps) = true := by simp [Region.wanted, hgd]
  rw [if_pos hw]
  obtain ⟨B, d, w', hrun, h2, h3⟩ := run_append_rd (P := P) w t o.type base e i z bytes ht hi hz hsize hby hzs v xs hown A c ys hA hbytes h63 hbase
  unfold Oper.wp execOp
  simp only [ho, resolve, invoke, builtin, Sem.run_bind, Sem.run_pure, Result.andThen_ok, List.map_toArray, List.map_cons, List.map_nil, hs, hx, hrun]
  exact h B d w' h2 h3

theorem grown_frozen {w w' : World} {row : Option Nat} (hg : w.grownBy w' row) {b o : Nat} (hlt : b < w.heap.size) (hne : some b ≠ row) (h : w.frozen? ⟨b, o, none⟩ = false) : w'.frozen? ⟨b, o, none⟩ = false :=
  (World.frozen?_of_block (a := ⟨b, o, none⟩) (hg.block b hlt hne)).trans h

set_option maxHeartbeats 1000000 in
theorem l01Alloc_any (A B : Option Addr) (c d : Nat) (zs ls : List Int) (w : World) (hn : zs.length ≤ 1048576) (hm : ls.length ≤ 1048576) (hA : Rd w A zs) (hB : Rd w B ls) :
    Calls Try.prog 41 #[.agg #[.slice A zs.length c], .slice B ls.length d] w fun e w' => ∃ C k, e = .returned (.tuple #[.agg #[.slice C (if 400 < zs.length + ls.length then zs else zs ++ ls).length k], .int .i64 (if 400 < zs.length + ls.length then 0 else zs.length)]) ∧
      NewA w.heap.size w' C k (if 400 < zs.length + ls.length then zs else zs ++ ls) ∧ Below w.heap.size w w' := by
  have HA0 := Lib.hid hA; have HB0 := Lib.hid hB
  have HA := Lib.hid (hA.below (below_alloc2 w (.cells #[.slice A zs.length c] 26) (.cells #[.slice none 0 0] 26)))
  have HBB := Lib.hid (hB.below (below_alloc2 w (.cells #[.slice A zs.length c] 26) (.cells #[.slice none 0 0] 26)))
  clear hA hB
  by_cases hf : 400 < zs.length + ls.length
  · rw [if_pos hf, if_pos hf]
    have hf' : (400 : Int) < (zs.length : Int) + (ls.length : Int) := by omega
    go_enter Try.func41, Try.ntmps41
    go_wp2_with fail
    refine (l01Own_any _ _ zs _ hn HA.out).mono ?_
    rintro e w2 ⟨C, k, rfl, hnew, hb⟩
    have HB2 := Lib.hid (below_trans (below_alloc2 _ _ _) hb)
    have hr2 : w2.cell? ⟨w.heap.size + 1, 0, none⟩ = some (.slice none 0 0) := cell_keep hb (by simp)
    have hf2 : w2.frozen? ⟨w.heap.size + 1, 0, none⟩ = false := frozen_keep hb (by simp) (by simp)
    have HO := Lib.hid hnew
    clear hb hnew
    go_wp2
    refine bodyPost_ret (v := .tuple #[.agg #[.slice C zs.length k], .int .i64 0]) (by simp [results, Try.results41, go_sem, hr2]) rfl ⟨C, k, rfl, ?_, HB2.out.setCell (by simp) _⟩
    exact (HO.out.setCell (by simp <;> omega) _).base (by simp <;> omega)
  · rw [if_neg hf, if_neg hf]
    have hf' : ¬ (400 : Int) < (zs.length : Int) + (ls.length : Int) := by omega
    obtain ⟨i0, hi, hz0, hz1, hz2⟩ := info_parts Try.infoInt
    have Hi := Lib.hid hi; have Hz0 := Lib.hid hz0; have Hz1 := Lib.hid hz1; have Hz2 := Lib.hid hz2
    clear hi hz0 hz1 hz2
    go_enter Try.func41, Try.ntmps41
    go_wp2_with fail
    have HBa : Hid (Below w.heap.size w (((w.alloc (.cells #[.slice A zs.length c] 26)).alloc (.cells #[.slice none 0 0] 26)).alloc (.cells #[] 3)).drew) := (below_alloc3 _ _ _ _).drew
    have HO1 : Hid (((((w.alloc (.cells #[.slice A zs.length c] 26)).alloc (.cells #[.slice none 0 0] 26)).alloc (.cells #[] 3)).drew).ownsRow (w.heap.size + 1 + 1) 3 1 (.slice (some ⟨w.heap.size + 1 + 1, 0, none⟩) 0 0) ([] : List Int).length (ints [])) := World.ownsRow.drew (own_empty _ _ _ _ (by simp) (by omega))
    have HS1 : Hid (([] : List Int).length + zs.length ≤ maxLen) := by unfold maxLen; show 0 + zs.length ≤ _; omega
    have HS2 : Hid ((([] : List Int).length + zs.length) * 8 ≤ 140737488355328) := by show (0 + zs.length) * 8 ≤ _; omega
    have hs3 : (((w.alloc (.cells #[.slice A zs.length c] 26)).alloc (.cells #[.slice none 0 0] 26)).alloc (.cells #[] 3)).heap.size = w.heap.size + 1 + 1 + 1 := by simp
    have HS3 : Hid (w.heap.size + 1 + 1 ≤ ((((w.alloc (.cells #[.slice A zs.length c] 26)).alloc (.cells #[.slice none 0 0] 26)).alloc (.cells #[] 3)).drew).heap.size) := Nat.le_trans (by omega) (Nat.le_of_eq hs3.symm)
    clear hs3
    have HS4 : Hid (zs.length + ls.length ≤ maxLen) := by unfold maxLen; show zs.length + ls.length ≤ _; omega
    have hx0 : (((w.alloc (.cells #[.slice A zs.length c] 26)).alloc (.cells #[.slice none 0 0] 26)).alloc (.cells #[] 3)).cell? ⟨w.heap.size, 0, none⟩ = some (.slice A zs.length c) := cell_keep (below_alloc _ _) (by simp)
    have HX0 : Hid (((((w.alloc (.cells #[.slice A zs.length c] 26)).alloc (.cells #[.slice none 0 0] 26)).alloc (.cells #[] 3)).drew).cell? ⟨w.heap.size, 0, none⟩ = some (.slice A zs.length c)) := hx0
    have hr0 : (((w.alloc (.cells #[.slice A zs.length c] 26)).alloc (.cells #[.slice none 0 0] 26)).alloc (.cells #[] 3)).cell? ⟨w.heap.size + 1, 0, none⟩ = some (.slice none 0 0) := cell_keep (below_alloc _ _) (by simp)
    have HR0 : Hid (((((w.alloc (.cells #[.slice A zs.length c] 26)).alloc (.cells #[.slice none 0 0] 26)).alloc (.cells #[] 3)).drew).cell? ⟨w.heap.size + 1, 0, none⟩ = some (.slice none 0 0)) := hr0
    have hf0 : (((w.alloc (.cells #[.slice A zs.length c] 26)).alloc (.cells #[.slice none 0 0] 26)).alloc (.cells #[] 3)).frozen? ⟨w.heap.size + 1, 0, none⟩ = false := frozen_keep (below_alloc _ _) (by simp) (by simp)
    have HF0 : Hid (((((w.alloc (.cells #[.slice A zs.length c] 26)).alloc (.cells #[.slice none 0 0] 26)).alloc (.cells #[] 3)).drew).frozen? ⟨w.heap.size + 1, 0, none⟩ = false) := hf0
    clear hx0 hr0 hf0
    have HN1 : Hid (∀ q, Value.ownBlock (.slice (some ⟨w.heap.size + 1 + 1, 0, none⟩) 0 0) = some q → q = w.heap.size + 1 + 1) := by intro q hq; simp [Value.ownBlock] at hq; exact hq.symm
    go_region_held3 (fun w' => w'.cell? ⟨w.heap.size, 0, none⟩ = some (.slice A zs.length c))
      (first | exact hx4 | exact hx3 | exact (World.cell?_setCell_other _ _ _ _ (by simp)).trans hx4 | (simp [go_sem]; done))
      (first
        | (refine step_append_rd rfl (.tmp 15) (.tmp 17) 22 rfl (w.heap.size + 1 + 1) 3 i0 (.int .i64 0) 8 Try.underlying22 Hi.out Hz0.out Hz1.out Hz2.out rfl _ [] rfl HO1.out _ _ zs rfl (HA0.out.below HBa.out) HS2.out HS1.out HS3.out ?_; intro C1 k1 w3 hown3 hgr3; have hb3 := HBa.out.grown hgr3 (Nat.le_trans (by omega) HS3.out) (fun q hq => by have := HN1.out q hq; omega); have hx3 : w3.cell? ⟨w.heap.size, 0, none⟩ = some (.slice A zs.length c) := hgr3.cell HX0.out (fun h => by have := HN1.out _ h.symm; dsimp only at this; omega))
        | (refine step_append_rd rfl (.tmp 18) (.tmp 19) 22 rfl (w.heap.size + 1 + 1) 3 i0 (.int .i64 0) 8 Try.underlying22 Hi.out Hz0.out Hz1.out Hz2.out rfl _ zs rfl hown3 _ _ ls rfl (HB0.out.below hb3) (by omega) HS4.out (Nat.le_trans HS3.out hgr3.size) ?_; intro C2 k2 w4 hown4 hgr4; have hx4 : w4.cell? ⟨w.heap.size, 0, none⟩ = some (.slice A zs.length c) := hgr4.cell hx3 (fun h => by have := (World.ownsRow.lt hown3 _ h.symm).1; dsimp only at this; omega); have hb4 := hb3.grown hgr4 hb3.size (fun q hq => by have := (World.ownsRow.lt hown3 _ hq).1; omega); have hr4 : w4.cell? ⟨w.heap.size + 1, 0, none⟩ = some (.slice none 0 0) := hgr4.cell (hgr3.cell HR0.out (fun h => by have := HN1.out _ h.symm; dsimp only at this; omega)) (fun h => by have := (World.ownsRow.lt hown3 _ h.symm).1; dsimp only at this; omega); have hf4 : w4.frozen? ⟨w.heap.size + 1, 0, none⟩ = false := grown_frozen hgr4 (Nat.lt_of_lt_of_le HS3.out hgr3.size) (fun h => by have := (World.ownsRow.lt hown3 _ h.symm).1; omega) (grown_frozen hgr3 HS3.out (fun h => by have := HN1.out _ h.symm; omega) HF0.out)))
    have HB4 := Lib.hid hb4
    have HO4 : Hid (NewA (w.heap.size + 1 + 1) w4 C2 k2 (zs ++ ls)) := hown4
    have HL : Hid ((zs ++ ls).length = zs.length + ls.length) := List.length_append
    clear hx3 hx4 hgr3 hgr4 hown3 hown4 hb3 hb4
    go_wp2
    refine bodyPost_ret (v := .tuple #[.agg #[.slice C2 (zs.length + ls.length) k2], .int .i64 zs.length]) (by simp [results, Try.results41, go_sem, hr4]) rfl ⟨C2, k2, ?_, ?_, HB4.out.setCell (by simp) _⟩
    · rw [HL.out]
    · exact (HO4.out.setCell (by simp) _).base (by omega)
end Go.Proofs.Ytjddmdhoeampcaa
