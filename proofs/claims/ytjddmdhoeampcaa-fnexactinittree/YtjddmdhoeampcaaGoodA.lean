/-
  The arena's functions where all is right: contracts with the answers written out (for the laws over drawn arenas).
-/
import Derived.Test.YtjddmdhoeampcaaAt
import Derived.Test.YtjddmdhoeampcaaLawSameArena
import Derived.Test.YtjddmdhoeampcaaLawAllocCells
namespace Go.Proofs.Ytjddmdhoeampcaa
open Go.RowKit

theorem faultCode_good {zs ls : List Int} (ha : arenaB zs = true) (h1 : 1 ≤ ls.length) (h8 : ls.length ≤ 8) (hw : wordsB ls = true) : faultCode zs ls = 0 := by
  unfold faultCode
  rw [if_neg (by omega), if_neg (by rw [ha]; decide), if_neg (by omega), if_neg (by rw [hw]; decide)]

theorem allocGood (A B : Option Addr) (c d : Nat) (zs ls : List Int) (w : World) (ha : arenaB zs = true) (h1 : 1 ≤ ls.length) (h8 : ls.length ≤ 8) (hw : wordsB ls = true) (hfit : zs.length + ls.length ≤ 400) (hA : Rd w A zs) (hB : Rd w B ls) :
    Calls Try.prog 93 #[.agg #[.slice A zs.length c], .slice B ls.length d] w fun e w' => ∃ C k, e = .returned (.tuple #[.agg #[.slice C (zs ++ ls).length k], .int .i64 zs.length, .int .i64 0]) ∧ NewA w.heap.size w' C k (zs ++ ls) ∧ Below w.heap.size w w' := by
  have hf := faultCode_good ha h1 h8 hw
  have e1 : allocZs zs ls = zs ++ ls := by unfold allocZs; rw [if_pos hf, if_neg (by omega)]
  have e2 : allocAt zs ls = zs.length := by unfold allocAt; rw [if_pos hf, if_neg (by omega)]
  have e3 : allocCode zs ls = 0 := by unfold allocCode; rw [if_pos hf, if_neg (by omega)]
  have h := implAllocCells_any A B c d zs ls w (by omega) (by omega) hA hB
  rw [e1, e2, e3] at h
  exact h
theorem allocFull (A B : Option Addr) (c d : Nat) (zs ls : List Int) (w : World) (ha : arenaB zs = true) (h1 : 1 ≤ ls.length) (h8 : ls.length ≤ 8) (hw : wordsB ls = true) (hfit : 400 < zs.length + ls.length) (hA : Rd w A zs) (hB : Rd w B ls) :
    Calls Try.prog 93 #[.agg #[.slice A zs.length c], .slice B ls.length d] w fun e w' => ∃ C k, e = .returned (.tuple #[.agg #[.slice C zs.length k], .int .i64 0, .int .i64 7]) ∧ NewA w.heap.size w' C k zs ∧ Below w.heap.size w w' := by
  have hf := faultCode_good ha h1 h8 hw
  have hz := (arenaB_parts ha).2.1
  have e1 : allocZs zs ls = zs := by unfold allocZs; rw [if_pos hf, if_pos hfit]
  have e2 : allocAt zs ls = 0 := by unfold allocAt; rw [if_pos hf, if_pos hfit]
  have e3 : allocCode zs ls = 7 := by unfold allocCode; rw [if_pos hf, if_pos hfit]
  have h := implAllocCells_any A B c d zs ls w (by omega) (by omega) hA hB
  rw [e1, e2, e3] at h
  exact h

theorem cellCode_good {zs : List Int} {p : Int} {k : Nat} (hp : p = k) (ha : arenaB zs = true) (h1 : 1 ≤ k) (hk : k < zs.length) : cellCode zs p = 0 := cellCode_ok ha (by omega)
theorem writeCode_good {zs : List Int} {p v : Int} {k : Nat} (hp : p = k) (ha : arenaB zs = true) (h1 : 1 ≤ k) (hk : k < zs.length) (hv : wordB v = true) : writeCode zs p v = 0 := by
  unfold writeCode; rw [if_pos (cellCode_good hp ha h1 hk), hv]; rfl

theorem addCode_good {zs : List Int} {p n x : Int} {k : Nat} (hp : p = k) (ha : arenaB zs = true) (h1 : 1 ≤ k) (hk : k < zs.length) (hv : wordB n = true) (ho : zs.getD k 0 = x) (hs : wordB (x + n) = true) : addCode zs p n = 0 ∧ addZs zs p n = zs.set k (x + n) ∧ addWas zs p n = x := by
  have e2 := writeCode_good hp ha h1 hk hv
  have hx : zs.getD p.toNat 0 = x := by rw [hp, Int.toNat_natCast, ho]
  have e3 : addCode zs p n = 0 := by unfold addCode; rw [if_pos e2, hx, hs]; rfl
  refine ⟨e3, ?_, ?_⟩
  · unfold addZs; rw [if_pos e3, hx, hp, Int.toNat_natCast]
  · unfold addWas; rw [if_pos e3, hx]
theorem okGood (A : Option Addr) (c : Nat) (zs : List Int) (w : World) (ha : arenaB zs = true) (hA : Rd w A zs) :
    Calls Try.prog 48 #[.agg #[.slice A zs.length c]] w fun e w' => e = .returned (.bool true) ∧ Below w.heap.size w w' := by
  have hz := (arenaB_parts ha).2.1
  have h := implArenaOK_any A c zs w (by omega) hA
  rw [ha] at h
  exact h
theorem sameArenaGood (A B : Option Addr) (c d : Nat) (xs : List Int) (w : World) (hn : xs.length ≤ maxLen) (hA : Rd w A xs) (hB : Rd w B xs) :
    Calls Try.prog 88 #[.agg #[.slice A xs.length c], .agg #[.slice B xs.length d]] w fun e w' => e = .returned (.bool true) ∧ Below w.heap.size w w' :=
  (implSameArena_any A B c d xs xs w hn hn hA hB).mono fun e w' ⟨he, hb⟩ => ⟨by rw [he, decide_eq_true rfl], hb⟩

/-- Lists behind a drawn arena. -/
theorem arenaB_append {zs ls : List Int} (hz : Good zs) (hw : wordsB ls = true) (hl : zs.length + ls.length ≤ 400) : arenaB (zs ++ ls) = true := by
  obtain ⟨h1, h2, h3⟩ := hz
  refine arenaB_true (by simp; omega) (by simp; omega) ?_ ?_
  · rw [List.getD, List.getElem?_append_left (by omega)]; rw [List.getD] at h2; rw [h2]; rfl
  · unfold wordsB at *; rw [List.all_append, h3, hw]; rfl
theorem arenaB_set {zs : List Int} {k : Nat} {v : Int} (h : arenaB zs = true) (h1 : 1 ≤ k) (hv : wordB v = true) : arenaB (zs.set k v) = true := by
  obtain ⟨p1, p2, p3, p4⟩ := arenaB_parts h
  refine arenaB_true (by simpa using p1) (by simpa using p2) ?_ ?_
  · simp only [List.getD]; rw [List.getElem?_set_ne (by omega)]; rw [List.getD] at p3; rw [p3]; rfl
  · rw [wordsB_iff] at *
    intro j hj
    rw [List.length_set] at hj
    by_cases e : k = j
    · subst e; simp only [List.getD, List.getElem?_set_self hj, Option.getD_some]; exact hv
    · have := p4 j hj
      simp only [List.getD] at *
      rw [List.getElem?_set_ne e]; exact this
theorem getD_append {zs ls : List Int} {i k : Nat} (h : k = zs.length + i) : (zs ++ ls).getD k 0 = ls.getD i 0 := by
  subst h; simp only [List.getD]; rw [List.getElem?_append_right (by omega)]; congr 2; omega
theorem getD_set_ne {zs : List Int} {k j : Nat} {v : Int} (h : k ≠ j) : (zs.set k v).getD j 0 = zs.getD j 0 := by
  simp only [List.getD]; rw [List.getElem?_set_ne h]
theorem getD_set_self {zs : List Int} {k : Nat} {v : Int} (h : k < zs.length) : (zs.set k v).getD k 0 = v := by
  simp only [List.getD, List.getElem?_set_self h, Option.getD_some]
end Go.Proofs.Ytjddmdhoeampcaa
