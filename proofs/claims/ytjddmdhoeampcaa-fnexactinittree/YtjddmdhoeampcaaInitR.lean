/-
  InitTree: the program's and the model's contract.
-/
import Derived.Test.YtjddmdhoeampcaaInitV
import Derived.Test.YtjddmdhoeampcaaAppOne
import Derived.ArgAppend
namespace Go.Proofs.Ytjddmdhoeampcaa
open Go.RowKit

theorem rd_new0 (w : World) (y : Int) : (w.alloc (.cells #[.int .i64 y] 3)).cell? ⟨w.heap.size, 0 + 0, none⟩ = some (.int .i64 y) := by simp
theorem rd_three (u : World) (k : Nat) (hk : u.heap.size = k) (t : TypeId) : Rd (u.alloc (.cells #[.int .i64 0, .int .i64 0, .int .i64 0] t)) (some ⟨k, 0, none⟩) [0, 0, 0] := by
  subst hk
  intro i hi
  refine ⟨_, 0, rfl, ?_⟩
  have hi' : i < 3 := hi
  obtain rfl | rfl | rfl : i = 0 ∨ i = 1 ∨ i = 2 := by omega
  all_goals simp

/-- One integer appended to a full row that lies anywhere: it moves. -/
theorem wpList_append_full {ops : Array Oper} {rest : List Oper} {o : Oper} {a : Act} {w : World} {Q : Exit → Act → World → Prop}
    (hgd : o.guard = none) (s x : Operand) (ho : o.op = Op.call { callee := Callee.builtin Builtin.append, args := #[s, x], argTypes := #[22, 22] })
    (b : Nat) (xs : List Int) (y : Int) (hs : a.eval s = .slice (some ⟨b, 0, none⟩) xs.length xs.length) (hx : a.eval x = .slice (some ⟨w.heap.size, 0, none⟩) 1 1)
    (hR : Rd w (some ⟨b, 0, none⟩) xs) (hlen : xs.length ≤ 1048576) (base : Nat) (hbase : base ≤ w.heap.size) (L : List Int) (hL : L = xs ++ [y])
    (h : ∀ C' d' w', NewA base w' C' d' L → Below w.heap.size w w' → wpList Try.prog ops Q rest (a.put o.dst (.slice C' L.length d')) w') :
    wpList Try.prog ops Q (o :: rest) a (w.alloc (.cells #[.int .i64 y] 3)) := by
  subst hL
  obtain ⟨i0, hi, hz0, hz1, hz2⟩ := info_parts Try.infoInt
  have hR1 := hR.below (below_alloc w (.cells #[.int .i64 y] 3))
  refine wpList_append_arg _ hgd s x 22 ho 3 i0 (.int .i64 0) 1 8 Try.underlying22 hi hz0 hz1 hz2 rfl (by decide) b 0 xs.length xs.length (ints xs) hs (by rw [length_ints]; omega) ?_ ⟨w.heap.size, 0, none⟩ 1 1 [.int .i64 y] hx rfl ?_ ?_ (fun hh => absurd hh (by omega)) (by unfold maxLen; omega) (by omega) (fun hh => absurd hh (by omega)) ?_
  · intro j u hu
    have hj : j < xs.length := by have := (List.getElem?_eq_some_iff.1 hu).1; rwa [length_ints] at this
    obtain ⟨ad', hA', hc⟩ := rd_cells hR1 (by omega)
    obtain rfl := Option.some.inj hA'
    have := hc j u hu
    rwa [Addr.add_lit] at this
  · intro j u hu
    match j, hu with
    | 0, hu => simp at hu; subst hu; rw [Addr.add_lit]; exact rd_new0 w y
  · intro u hu
    simp at hu; subst hu; rfl
  · intro _ v' w' hown hgr
    have he : ints xs ++ [Value.int .i64 y] = ints (xs ++ [y]) := by simp [ints]
    have hlen2 : (xs ++ [y]).length = xs.length + 1 := by simp
    rw [he] at hown
    have hB : Below w.heap.size w w' := below_trans (below_alloc w (.cells #[.int .i64 y] 3)) ((Below.refl _ _).grown hgr (Nat.le_refl _) (fun k h => by cases h))
    rcases hown.2 with ⟨rfl, h0⟩ | ⟨g, cap, cur, rfl, r⟩
    · omega
    · rw [← hlen2] at hown ⊢
      exact h _ _ w' (own_base hown (by simp; omega)) hB

theorem allocOnlyR (A B : Option Addr) (c d : Nat) (zs : List Int) (w : World) (h8 : zs.length = 8) (hA : Rd w A zs) (hB : Rd w B [0, 0, 0, 0, 1, 2, 3]) :
    Calls Try.prog 41 #[.agg #[.slice A zs.length c], .slice B 7 d] w fun e w' => ∃ C k, e = .returned (.tuple #[.agg #[.slice C (zs ++ [0, 0, 0, 0, 1, 2, 3]).length k], .int .i64 8]) ∧
      NewA w.heap.size w' C k (zs ++ [0, 0, 0, 0, 1, 2, 3]) ∧ Below w.heap.size w w' := by
  have h := l01Alloc_any A B c d zs [0, 0, 0, 0, 1, 2, 3] w (by omega) (by decide) hA hB
  have hf : ¬ 400 < zs.length + [(0 : Int), 0, 0, 0, 1, 2, 3].length := by simp; omega
  rw [if_neg hf, if_neg hf, show (zs.length : Int) = 8 by omega] at h
  exact h

set_option maxHeartbeats 1000000 in
set_option maxRecDepth 100000 in
theorem specInitR_any (A : Option Addr) (c : Nat) (zs : List Int) (w : World) (hn : zs.length ≤ 1048576) (hA : Rd w A zs) :
    Calls Try.prog 12 #[.agg #[.slice A zs.length c]] w fun e w' => ∃ B d, e = .returned (.tuple #[.agg #[.slice B (laidZs zs 8 [0, 0, 0, 0, 1, 2, 3]).length d], .int .i64 (laidCode zs 8)]) ∧
      NewA w.heap.size w' B d (laidZs zs 8 [0, 0, 0, 0, 1, 2, 3]) ∧ Below w.heap.size w w' := by
  have HA := Lib.hid (hA.below (below_alloc2 w (.cells #[.slice A zs.length c] 26) (.cells #[.slice none 0 0] 26))); clear hA
  cases ha : arenaB zs
  · obtain ⟨hv, hc⟩ := laid_bad (n := 8) (ls := [0, 0, 0, 0, 1, 2, 3]) ha
    have HV := Lib.hid hv; have HC := Lib.hid hc; clear hv hc
    go_enter Try.func12, Try.ntmps12
    go_wp2_with fail
    refine (specArenaOK_any _ _ zs _ hn HA.out).mono ?_
    rintro e w1 ⟨rfl, hb⟩
    have HB := Lib.hid (below_trans (below_alloc2 _ _ _) hb)
    have hr1 : w1.cell? ⟨w.heap.size + 1, 0, none⟩ = some (.slice none 0 0) := cell_keep hb (by simp)
    have hf1 : w1.frozen? ⟨w.heap.size + 1, 0, none⟩ = false := frozen_keep hb (by simp) (by simp)
    clear hb
    rw [ha]
    go_wp2
    refine bodyPost_ret (v := .tuple #[.agg #[.slice none 0 0], .int .i64 1]) (by simp [results, Try.results12, go_sem, hr1]) rfl ⟨none, 0, ?_, ?_, HB.out.setCell (by simp) _⟩
    · rw [HV.out, HC.out]; rfl
    · rw [HV.out]; exact NewA.nil _ _
  · have HR := Lib.hid ha
    by_cases hl : zs.length = 8
    · obtain ⟨hv, hc⟩ := laid_ok (ls := [0, 0, 0, 0, 1, 2, 3]) ha hl
      have HV := Lib.hid hv; have HC := Lib.hid hc; clear hv hc ha
      have hne : ((zs.length : Int) != 8) = false := by simp; omega
      have HN := Lib.hid hl; clear hl
      go_enter Try.func12, Try.ntmps12
      go_wp2_with fail
      refine (specArenaOK_any _ _ zs _ hn HA.out).mono ?_
      rintro e w1 ⟨rfl, hb⟩
      have HB := Lib.hid (below_trans (below_alloc2 _ _ _) hb)
      have HA1 := Lib.hid (HA.out.below hb)
      have hz1 : w.heap.size + 1 < w1.heap.size := by have := hb.size; simp at this; omega
      have hx1 : w1.cell? ⟨w.heap.size, 0, none⟩ = some (.slice A zs.length c) := cell_keep hb (by simp)
      have hr1 : w1.cell? ⟨w.heap.size + 1, 0, none⟩ = some (.slice none 0 0) := cell_keep hb (by simp)
      have hf1 : w1.frozen? ⟨w.heap.size + 1, 0, none⟩ = false := frozen_keep hb (by simp) (by simp)
      clear hb HA
      rw [HR.out]
      go_wp2_with fail
      refine (allocOnlyR _ _ _ _ zs _ HN.out (HA1.out.below (below_alloc _ _)) (rd_lit [0, 0, 0, 0, 1, 2, 3] _ _ rfl)).mono ?_
      rintro e w3 ⟨C, k, rfl, hnew, hb⟩
      have HB3 := Lib.hid (below_trans (below_trans HB.out (below_alloc _ _)) hb)
      have hz3 : w.heap.size + 1 < w3.heap.size := by have := hb.size; simp only [size_alloc] at this; omega
      have hr3 : w3.cell? ⟨w.heap.size + 1, 0, none⟩ = some (.slice none 0 0) := cell_keep hb (cell_keep (below_alloc _ _) hr1)
      have hf3 : w3.frozen? ⟨w.heap.size + 1, 0, none⟩ = false := frozen_keep hb (by rw [size_alloc]; omega) (frozen_keep (below_alloc _ _) hz1 hf1)
      have HO : Hid (NewA (w.heap.size + 2) w3 C k (zs ++ [0, 0, 0, 0, 1, 2, 3])) := hnew.base (by rw [size_alloc]; omega)
      clear hb hnew hr1 hf1 hz1 HB HA1 hx1
      generalize hM : zs ++ [0, 0, 0, 0, 1, 2, 3] = M at *
      clear hM
      go_wp2
      refine bodyPost_ret (v := .tuple #[.agg #[.slice C M.length k], .int .i64 0]) (by simp [results, Try.results12, go_sem, hr3, hz3]) rfl ⟨C, k, ?_, ?_, ?_⟩
      · rw [HV.out, HC.out]
      · rw [HV.out]
        exact ((HO.out.setCell (by simp) _).below (below_alloc _ _)).base (by omega)
      · exact below_trans (HB3.out.setCell (by simp) _) (below_alloc _ _)
    · obtain ⟨hv, hc⟩ := laid_size (ls := [0, 0, 0, 0, 1, 2, 3]) ha hl
      have hne : ((zs.length : Int) != 8) = true := by simp; omega
      have HV := Lib.hid hv; have HC := Lib.hid hc; clear hv hc
      go_enter Try.func12, Try.ntmps12
      go_wp2_with fail
      refine (specArenaOK_any _ _ zs _ hn HA.out).mono ?_
      rintro e w1 ⟨rfl, hb⟩
      have HB := Lib.hid (below_trans (below_alloc2 _ _ _) hb)
      have hx1 : w1.cell? ⟨w.heap.size, 0, none⟩ = some (.slice A zs.length c) := cell_keep hb (by simp)
      have hr1 : w1.cell? ⟨w.heap.size + 1, 0, none⟩ = some (.slice none 0 0) := cell_keep hb (by simp)
      have hf1 : w1.frozen? ⟨w.heap.size + 1, 0, none⟩ = false := frozen_keep hb (by simp) (by simp)
      clear hb HA
      rw [HR.out]
      go_wp2
      refine bodyPost_ret (v := .tuple #[.agg #[.slice none 0 0], .int .i64 8]) (by simp [results, Try.results12, go_sem, hr1]) rfl ⟨none, 0, ?_, ?_, HB.out.setCell (by simp) _⟩
      · rw [HV.out, HC.out]; rfl
      · rw [HV.out]; exact NewA.nil _ _

/-- What is laid so far. -/
def treeLs (k : Nat) : List Int := [0, 0, 0] ++ (List.range k).map (fun (j : Nat) => (j : Int))
theorem treeLs_next (k : Nat) : treeLs (k + 1) = treeLs k ++ [(k : Int)] := by simp [treeLs, List.range_succ]
theorem treeLs_len (k : Nat) : (treeLs k).length = 3 + k := by simp [treeLs]; omega

def TreeRel (w : World) (A : Option Addr) (c n : Nat) (s i : Value) (wr : World) : Prop :=
  ∃ k : Nat, k ≤ 4 ∧ i = .int .i64 k ∧ wr.cell? ⟨w.heap.size, 0, none⟩ = some (.slice A n c) ∧ wr.cell? ⟨w.heap.size + 1, 0, none⟩ = some (.slice none 0 0) ∧ wr.frozen? ⟨w.heap.size + 1, 0, none⟩ = false ∧
    w.heap.size + 3 ≤ wr.heap.size ∧ Below w.heap.size w wr ∧
    ((k = 0 ∧ s = .slice (some ⟨w.heap.size + 2, 0, none⟩) 3 3 ∧ Rd wr (some ⟨w.heap.size + 2, 0, none⟩) [0, 0, 0]) ∨ (1 ≤ k ∧ ∃ C d, s = .slice C (treeLs k).length d ∧ NewA (w.heap.size + 2) wr C d (treeLs k)))

set_option maxHeartbeats 2000000 in
set_option maxRecDepth 100000 in
theorem implInitR_any (A : Option Addr) (c : Nat) (zs : List Int) (w : World) (hn : zs.length ≤ 1048576) (hA : Rd w A zs) :
    Calls Try.prog 14 #[.agg #[.slice A zs.length c]] w fun e w' => ∃ B d, e = .returned (.tuple #[.agg #[.slice B (laidZs zs 8 [0, 0, 0, 0, 1, 2, 3]).length d], .int .i64 (laidCode zs 8)]) ∧
      NewA w.heap.size w' B d (laidZs zs 8 [0, 0, 0, 0, 1, 2, 3]) ∧ Below w.heap.size w w' := by
  have HA := Lib.hid hA; clear hA
  have HB0 := Lib.hid (below_trans (below_alloc2 w (.cells #[.slice A zs.length c] 26) (.cells #[.slice none 0 0] 26)) (below_alloc _ (.cells #[.int .i64 0, .int .i64 0, .int .i64 0] 70)))
  have HR0 : Hid (Rd (((w.alloc (.cells #[.slice A zs.length c] 26)).alloc (.cells #[.slice none 0 0] 26)).alloc (.cells #[.int .i64 0, .int .i64 0, .int .i64 0] 70)) (some ⟨w.heap.size + 2, 0, none⟩) [0, 0, 0]) := rd_three _ _ (by simp) _
  go_enter Try.func14, Try.ntmps14
  go_wp2
  go_loopw [5, 8] (fun s i wr => TreeRel w A c zs.length s i wr) (fun _ i _ => 4 - (intOf i).toNat)
  case atStart => exact ⟨0, by decide, rfl, cell_keep (below_alloc _ _) (by simp), cell_keep (below_alloc _ _) (by simp), frozen_keep (below_alloc _ _) (by simp) (by simp), by simp, HB0.out, .inl ⟨rfl, rfl, HR0.out⟩⟩
  case round =>
    clear HB0 HR0
    obtain ⟨k, hk, rfl, ha, hr, hf, hz, hbw, hs⟩ := hrel
    have HBW := Lib.hid hbw
    clear hbw
    by_cases hlt : k < 4
    · have hlt' : (k : Int) < 4 := by omega
      rcases hs with ⟨rfl, rfl, hr0⟩ | ⟨h1, C, d, rfl, hnew⟩
      · have HR0 := Lib.hid hr0; clear hr0
        go_wp2_with (at_builtin; refine wpList_append_full rfl (.tmp 11) (.tmp 13) rfl (w.heap.size + 2) [0, 0, 0] 0 rfl rfl HR0.out (by decide) (w.heap.size + 2) (by omega) (treeLs 1) rfl ?_)
        intro C' d' w' hnew hb
        have ha' : w'.cell? ⟨w.heap.size, 0, none⟩ = some (.slice A zs.length c) := cell_keep hb ha
        have hr' : w'.cell? ⟨w.heap.size + 1, 0, none⟩ = some (.slice none 0 0) := cell_keep hb hr
        have hf' : w'.frozen? ⟨w.heap.size + 1, 0, none⟩ = false := frozen_keep hb (by omega) hf
        have hz' : w.heap.size + 3 ≤ w'.heap.size := Nat.le_trans hz hb.size
        have HB' := Lib.hid (below_trans HBW.out hb)
        have HN' := Lib.hid hnew
        clear hnew hb
        go_wp2
        go_roundw
        case rel => exact ⟨1, by decide, rfl, ha', hr', hf', hz', HB'.out, .inr ⟨Nat.le_refl _, C', d', rfl, HN'.out⟩⟩
        case measure => simp [intOf]
      · have HN := Lib.hid hnew
        obtain ⟨L, hL⟩ : ∃ L, L = treeLs (k + 1) := ⟨_, rfl⟩
        obtain ⟨M, hM⟩ : ∃ M, treeLs k = M := ⟨_, rfl⟩
        rw [hM] at HN ⊢
        have HLM : Hid (L = M ++ [(k : Int)]) := by unfold Hid; rw [hL, treeLs_next, hM]
        have HML : Hid (M.length ≤ 1048576) := by unfold Hid; rw [← hM, treeLs_len]; omega
        have HL := Lib.hid hL
        clear hnew hM hL
        have hz2 : w.heap.size + 2 ≤ wr.heap.size := by omega
        go_wp2_with (at_builtin; refine wpList_append_one rfl (.tmp 11) (.tmp 13) rfl (w.heap.size + 2) C d M k rfl rfl HN.out HML.out hz2 L HLM.out ?_)
        intro C' d' w' hnew hgr
        have hrow : ∀ q, Value.ownBlock (.slice C M.length d) = some q → w.heap.size + 2 ≤ q := fun q hq => (World.ownsRow.lt HN.out q hq).1
        have ha' : w'.cell? ⟨w.heap.size, 0, none⟩ = some (.slice A zs.length c) := hgr.cell (cell_keep (below_alloc _ _) ha) (fun h => by have := hrow _ h.symm; dsimp only at this; omega)
        have hr' : w'.cell? ⟨w.heap.size + 1, 0, none⟩ = some (.slice none 0 0) := hgr.cell (cell_keep (below_alloc _ _) hr) (fun h => by have := hrow _ h.symm; dsimp only at this; omega)
        have hf' : w'.frozen? ⟨w.heap.size + 1, 0, none⟩ = false := (World.frozen?_of_block (a := ⟨w.heap.size + 1, 0, none⟩) (hgr.block (w.heap.size + 1) (by simp only [size_alloc]; omega) (fun h => by have := hrow _ h.symm; omega))).trans (frozen_keep (below_alloc _ _) (by omega) hf)
        have hz' : w.heap.size + 3 ≤ w'.heap.size := by have := hgr.size; simp only [size_alloc] at this; omega
        have HB' : Hid (Below w.heap.size w w') := Lib.hid ((below_trans HBW.out (below_alloc _ _)).grown hgr (by simp only [size_alloc]; omega) (fun q hq => by have := hrow q hq; omega))
        have HN' := Lib.hid hnew
        clear hnew hgr hrow
        go_wp2
        go_roundw
        case rel => exact ⟨k + 1, by omega, by go_num, ha', hr', hf', hz', HB'.out, .inr ⟨by omega, C', d', by rw [HL.out], by rw [← HL.out]; exact HN'.out⟩⟩
        case measure => simp [intOf]; omega
    · have hge : ¬ (k : Int) < 4 := by omega
      have hk4 : k = 4 := by omega
      rcases hs with ⟨h0, _⟩ | ⟨_, C, d, rfl, hnew⟩
      · omega
      have e4 : treeLs k = [0, 0, 0, 0, 1, 2, 3] := by rw [hk4]; rfl
      rw [e4] at hnew ⊢
      have HN := Lib.hid hnew
      clear hnew e4 hk4
      go_wp2_with fail
      refine (implLaid_any _ _ _ _ zs [0, 0, 0, 0, 1, 2, 3] 8 _ hn (by decide) (by decide) (by decide) (by decide) (HA.out.below HBW.out) HN.out.rd).mono ?_
      rintro e w3 ⟨C3, k3, rfl, hnew, hb⟩
      have HB3 := Lib.hid (below_trans HBW.out hb)
      have hr3 : w3.cell? ⟨w.heap.size + 1, 0, none⟩ = some (.slice none 0 0) := cell_keep hb hr
      have hf3 : w3.frozen? ⟨w.heap.size + 1, 0, none⟩ = false := frozen_keep hb (by omega) hf
      have HO : Hid (NewA (w.heap.size + 2) w3 C3 k3 (laidZs zs 8 [0, 0, 0, 0, 1, 2, 3])) := hnew.base (by omega)
      clear hb hnew
      generalize hM : laidZs zs 8 [0, 0, 0, 0, 1, 2, 3] = M at *
      generalize hm : laidCode zs 8 = m at *
      have HM := Lib.hid hM; have Hm := Lib.hid hm; clear hM hm
      go_wp2
      refine bodyPost_ret (v := .tuple #[.agg #[.slice C3 M.length k3], .int .i64 m]) (by simp [results, Try.results14, go_sem, hr3]) rfl ⟨C3, k3, by rw [HM.out, Hm.out], ?_, ?_⟩
      · rw [HM.out]; exact (HO.out.setCell (by simp) _).base (by omega)
      · exact HB3.out.setCell (by simp) _
end Go.Proofs.Ytjddmdhoeampcaa
