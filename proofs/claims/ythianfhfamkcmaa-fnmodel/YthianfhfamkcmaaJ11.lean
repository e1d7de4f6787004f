/-
  Models (chapter 11): the program's waitersOK.
-/
import Derived.Test.YthianfhfamkcmaaJ10
import Derived.Deep.DeepCutAuto
import Derived.Deep.RegionLaw
namespace Go.Proofs.Ythianfhfamkcmaa
open Go.RowKit

theorem take_d {P : Program} {md : Region.Mode} {ops : Array Oper} {Q : Exit → Act → World → Prop} {S : World → Prop} {i : Nat} {oi : Oper} {v : Value} {d : Option Tmp} {fuel : Nat} {listed : Array Bool} {a : Act} {w : World} (hi : ops[i]? = some oi) (hd : oi.dst = d)
    (hs : Region.noSelect ops = true) (hf : Region.free md ops listed i = true) (hr : (Region.ready md ops listed).contains i = true)
    (hQ : ∀ c a w, Q (.panic c) (a.put d v) w → Q (.panic c) a w) (hy : YieldsIf P ops S oi v a) (hS : S w)
    (h : wpAnyH P md ops Q S fuel (listed.setIfInBounds i true) (a.put d v) w) : wpAnyH P md ops Q S (fuel + 1) listed a w := by
  subst hd
  exact wpAnyH_take hi hs hf hr hQ hy hS h

/-- Who was seen, as the program has it. -/
def waitsA (s : List Int) : Array Value := #[.bool (s.contains 0), .bool (s.contains 1), .bool (s.contains 2), .bool (s.contains 3)]
theorem waits_put0 (s : List Int) : (waitsA s).setIfInBounds 0 (.bool true) = waitsA (s ++ [0]) := by simp [waitsA]
theorem waits_put1 (s : List Int) : (waitsA s).setIfInBounds 1 (.bool true) = waitsA (s ++ [1]) := by simp [waitsA]
theorem waits_put2 (s : List Int) : (waitsA s).setIfInBounds 2 (.bool true) = waitsA (s ++ [2]) := by simp [waitsA]
theorem waits_put3 (s : List Int) : (waitsA s).setIfInBounds 3 (.bool true) = waitsA (s ++ [3]) := by simp [waitsA]
theorem four_th {n : Int} (h : inB n 0 3 = true) : n = 0 ∨ n = 1 ∨ n = 2 ∨ n = 3 := by have := inB_true h; omega
theorem wtB_four {th op arg : Int} (h : wtB th op arg = true) : th = 0 ∨ th = 1 ∨ th = 2 ∨ th = 3 := by
  unfold wtB at h
  simp only [Bool.and_eq_true] at h
  exact four_th h.1.1
theorem one3w (th op arg : Int) : (#[.int .i64 th, .int .i64 op, .int .i64 arg] : Array Value).all (·.oneCell') = true := by simp [Value.oneCell']
theorem grown_of {w w' : World} (k : Nat) (h : Below w.heap.size w w') : w.grownBy w' (some k) := ⟨h.os, h.tape, h.output, h.size, fun i hi _ => h.block i hi⟩
theorem grown_set {w w' : World} {k : Nat} (h : Below w.heap.size w w') (j : Nat) (v : Value) : w.grownBy (w'.setCell ⟨k, j, none⟩ v) (some k) :=
  ⟨h.os, h.tape, h.output, by rw [size_setc2]; exact h.size, fun i hi hr => (heap_setCell_other _ _ _ _ (by intro e; exact hr (by rw [e]))).trans (h.block i hi)⟩
theorem BoxC.mgrown {t : TypeId} {w w' : World} {k : Nat} {cs : Array Value} {row : Option Nat} (h : BoxC t w k cs) (hg : w.grownBy w' row) (hne : some k ≠ row) : BoxC t w' k cs := (hg.block k h.lt hne).trans h
theorem BoxC.mdrew {t : TypeId} {w : World} {k : Nat} {cs : Array Value} (h : BoxC t w k cs) : BoxC t w.drew k cs := h
theorem BoxC.mgd {t : TypeId} {w w' : World} {k kb : Nat} {cs : Array Value} (h : BoxC t w k cs) (hg : w.drew.grownBy w' (some kb)) (hne : k ≠ kb) : BoxC t w' k cs := h.mdrew.mgrown hg (by simp [hne])
theorem gr_below {w w2 w4 : World} {k : Nat} (hb : Below w.heap.size w w2) (hg : w2.drew.grownBy w4 (some k)) (hk : w.heap.size ≤ k) : Below w.heap.size w w4 := hb.drew.grown hg hb.size (by intro j hj; cases hj; exact hk)

/-- What the closure answers, and leaves. -/
def ComesPost (w : World) (kb : Nat) (s : List Int) (th op arg : Int) (e : Ending) (w' : World) : Prop :=
  e = .returned (.bool (wtB th op arg && !(s.contains th))) ∧ w.grownBy w' (some kb) ∧
    BoxC 144 w' kb (if (wtB th op arg && !(s.contains th)) = true then waitsA (s ++ [th]) else waitsA s)

set_option maxHeartbeats 4000000 in
theorem comes_any (kb : Nat) (s : List Int) (th op arg : Int) (w : World) (hK : BoxC 144 w kb (waitsA s)) :
    Calls Try.prog 125 #[.agg #[.int .i64 th, .int .i64 op, .int .i64 arg], .pointer (some ⟨kb, 0, none⟩)] w (ComesPost w kb s th op arg) := by
  have hlt : kb < w.heap.size := hK.lt
  have HK := Lib.hid hK; clear hK
  have HX := Lib.hid (BoxC.new 35 w #[.int .i64 th, .int .i64 op, .int .i64 arg])
  have HK1 := Lib.hid (HK.out.below (below_alloc w (.cells #[.int .i64 th, .int .i64 op, .int .i64 arg] 35)))
  cases QW : wtB th op arg
  · go_enter Try.func125, Try.ntmps125
    go_wp2_with fail
    refine (implWaiter_any _ _ _ _).mono ?_
    rintro e w1 ⟨rfl, hb⟩
    rw [QW]
    have HB := Lib.hid (below_trans (below_alloc _ _) hb)
    have HK2 := Lib.hid (HK1.out.below hb)
    clear hb
    go_wp2
    go_ret
    exact ⟨by rw [QW]; rfl, grown_of _ HB.out, by rw [QW]; exact HK2.out⟩
  have q4 := wtB_four QW

  rcases q4 with rfl | q4
  · cases QC : s.contains 0
    · go_enter Try.func125, Try.ntmps125
      go_wp2_with fail
      refine (implWaiter_any _ _ _ _).mono ?_
      rintro e w1 ⟨rfl, hb⟩
      rw [QW]
      have HB := Lib.hid (below_trans (below_alloc _ _) hb)
      have HK2 := Lib.hid (HK1.out.below hb)
      have HX2 := Lib.hid (HX.out.below hb)
      clear hb
      have hx := HX2.out.cell; have hf := HK2.out.mfroz
      have hk : w1.cell? ⟨kb, 0, none⟩ = some (.bool false) := by rw [HK2.out.cell, ← QC]; rfl
      go_wp2
      go_ret
      exact ⟨by rw [QW, QC]; rfl, grown_set HB.out _ _, by rw [QW, QC, if_pos (show (true && !false) = true from rfl), ← waits_put0]; exact HK2.out.mset 0 _⟩
    · go_enter Try.func125, Try.ntmps125
      go_wp2_with fail
      refine (implWaiter_any _ _ _ _).mono ?_
      rintro e w1 ⟨rfl, hb⟩
      rw [QW]
      have HB := Lib.hid (below_trans (below_alloc _ _) hb)
      have HK2 := Lib.hid (HK1.out.below hb)
      have HX2 := Lib.hid (HX.out.below hb)
      clear hb
      have hx := HX2.out.cell
      have hk : w1.cell? ⟨kb, 0, none⟩ = some (.bool true) := by rw [HK2.out.cell, ← QC]; rfl
      go_wp2
      go_ret
      exact ⟨by rw [QW, QC]; rfl, grown_of _ HB.out, by rw [QW, QC]; exact HK2.out⟩
  rcases q4 with rfl | q4
  · cases QC : s.contains 1
    · go_enter Try.func125, Try.ntmps125
      go_wp2_with fail
      refine (implWaiter_any _ _ _ _).mono ?_
      rintro e w1 ⟨rfl, hb⟩
      rw [QW]
      have HB := Lib.hid (below_trans (below_alloc _ _) hb)
      have HK2 := Lib.hid (HK1.out.below hb)
      have HX2 := Lib.hid (HX.out.below hb)
      clear hb
      have hx := HX2.out.cell; have hf := HK2.out.mfroz
      have hk : w1.cell? ⟨kb, 1, none⟩ = some (.bool false) := by rw [HK2.out.cell, ← QC]; rfl
      go_wp2
      go_ret
      exact ⟨by rw [QW, QC]; rfl, grown_set HB.out _ _, by rw [QW, QC, if_pos (show (true && !false) = true from rfl), ← waits_put1]; exact HK2.out.mset 1 _⟩
    · go_enter Try.func125, Try.ntmps125
      go_wp2_with fail
      refine (implWaiter_any _ _ _ _).mono ?_
      rintro e w1 ⟨rfl, hb⟩
      rw [QW]
      have HB := Lib.hid (below_trans (below_alloc _ _) hb)
      have HK2 := Lib.hid (HK1.out.below hb)
      have HX2 := Lib.hid (HX.out.below hb)
      clear hb
      have hx := HX2.out.cell
      have hk : w1.cell? ⟨kb, 1, none⟩ = some (.bool true) := by rw [HK2.out.cell, ← QC]; rfl
      go_wp2
      go_ret
      exact ⟨by rw [QW, QC]; rfl, grown_of _ HB.out, by rw [QW, QC]; exact HK2.out⟩
  rcases q4 with rfl | q4
  · cases QC : s.contains 2
    · go_enter Try.func125, Try.ntmps125
      go_wp2_with fail
      refine (implWaiter_any _ _ _ _).mono ?_
      rintro e w1 ⟨rfl, hb⟩
      rw [QW]
      have HB := Lib.hid (below_trans (below_alloc _ _) hb)
      have HK2 := Lib.hid (HK1.out.below hb)
      have HX2 := Lib.hid (HX.out.below hb)
      clear hb
      have hx := HX2.out.cell; have hf := HK2.out.mfroz
      have hk : w1.cell? ⟨kb, 2, none⟩ = some (.bool false) := by rw [HK2.out.cell, ← QC]; rfl
      go_wp2
      go_ret
      exact ⟨by rw [QW, QC]; rfl, grown_set HB.out _ _, by rw [QW, QC, if_pos (show (true && !false) = true from rfl), ← waits_put2]; exact HK2.out.mset 2 _⟩
    · go_enter Try.func125, Try.ntmps125
      go_wp2_with fail
      refine (implWaiter_any _ _ _ _).mono ?_
      rintro e w1 ⟨rfl, hb⟩
      rw [QW]
      have HB := Lib.hid (below_trans (below_alloc _ _) hb)
      have HK2 := Lib.hid (HK1.out.below hb)
      have HX2 := Lib.hid (HX.out.below hb)
      clear hb
      have hx := HX2.out.cell
      have hk : w1.cell? ⟨kb, 2, none⟩ = some (.bool true) := by rw [HK2.out.cell, ← QC]; rfl
      go_wp2
      go_ret
      exact ⟨by rw [QW, QC]; rfl, grown_of _ HB.out, by rw [QW, QC]; exact HK2.out⟩
  subst q4
  cases QC : s.contains 3
  · go_enter Try.func125, Try.ntmps125
    go_wp2_with fail
    refine (implWaiter_any _ _ _ _).mono ?_
    rintro e w1 ⟨rfl, hb⟩
    rw [QW]
    have HB := Lib.hid (below_trans (below_alloc _ _) hb)
    have HK2 := Lib.hid (HK1.out.below hb)
    have HX2 := Lib.hid (HX.out.below hb)
    clear hb
    have hx := HX2.out.cell; have hf := HK2.out.mfroz
    have hk : w1.cell? ⟨kb, 3, none⟩ = some (.bool false) := by rw [HK2.out.cell, ← QC]; rfl
    go_wp2
    go_ret
    exact ⟨by rw [QW, QC]; rfl, grown_set HB.out _ _, by rw [QW, QC, if_pos (show (true && !false) = true from rfl), ← waits_put3]; exact HK2.out.mset 3 _⟩
  · go_enter Try.func125, Try.ntmps125
    go_wp2_with fail
    refine (implWaiter_any _ _ _ _).mono ?_
    rintro e w1 ⟨rfl, hb⟩
    rw [QW]
    have HB := Lib.hid (below_trans (below_alloc _ _) hb)
    have HK2 := Lib.hid (HK1.out.below hb)
    have HX2 := Lib.hid (HX.out.below hb)
    clear hb
    have hx := HX2.out.cell
    have hk : w1.cell? ⟨kb, 3, none⟩ = some (.bool true) := by rw [HK2.out.cell, ← QC]; rfl
    go_wp2
    go_ret
    exact ⟨by rw [QW, QC]; rfl, grown_of _ HB.out, by rw [QW, QC]; exact HK2.out⟩

set_option maxHeartbeats 16000000 in
set_option maxRecDepth 100000 in
theorem waitersOK_any (A B O : Option Addr) (ca cb co : Nat) (zs : List Int) (bs os : List Wtr) (cnt : Int) (w : World) (ht : bs.length ≤ 1048576) (hc : os.length ≤ 1048576) (hT : RdR Wtr.cs w B bs) (hC : RdR Wtr.cs w O os) :
    Calls Try.prog 75 #[.agg #[.slice A zs.length ca, .int .i64 cnt, .slice B bs.length cb, .slice O os.length co]] w fun e w' => e = .returned (.bool (wsB bs os)) ∧ Below w.heap.size w w' := by
  have HT := Lib.hid hT; have HC := Lib.hid hC; clear hT hC
  go_enter Try.func75, Try.ntmps75
  go_wp2_with fail
  go_loopw [13] (fun i wr => ∃ k : Nat, k ≤ bs.length ∧ i = .int .i64 k ∧ cmB (isW (hdO bs)) [] bs = cmB (isW (hdO bs)) ((bs.take k).map Wtr.th) (bs.drop k) ∧ BoxC 144 wr (w.heap.size + 1) (waitsA ((bs.take k).map Wtr.th)) ∧ BoxC 31 wr w.heap.size #[.slice A zs.length ca, .int .i64 cnt, .slice B bs.length cb, .slice O os.length co] ∧ Below w.heap.size w wr) (fun i _ => bs.length - (intOf i).toNat)
  case atStart => exact ⟨0, Nat.zero_le _, rfl, rfl, (by have h := BoxC.new 144 (w.alloc (.cells #[.slice A zs.length ca, .int .i64 cnt, .slice B bs.length cb, .slice O os.length co] 31)) #[.bool false, .bool false, .bool false, .bool false]; rw [size_alloc] at h; exact h), (BoxC.new 31 w #[.slice A zs.length ca, .int .i64 cnt, .slice B bs.length cb, .slice O os.length co]).below (below_alloc _ _), below_alloc2 _ _ _⟩
  case round =>
    obtain ⟨k, hk, rfl, hcm, hkb, hmb, hbl⟩ := hrel
    have HB := Lib.hid hbl; have HCM := Lib.hid hcm; have HK := Lib.hid hkb; have HM := Lib.hid hmb
    clear hbl hcm hkb hmb
    by_cases hlt : k < bs.length
    · have hlt' : (k : Int) < bs.length := by omega
      obtain ⟨x, hx⟩ : ∃ x, bs[k]? = some x := ⟨_, List.getElem?_eq_getElem hlt⟩
      obtain ⟨b, o, rfl, hrow⟩ := (HT.out.below HB.out).row Wtr.len k x hx
      obtain ⟨x0, hx0⟩ : ∃ x0, bs[0]? = some x0 := ⟨_, List.getElem?_eq_getElem (by omega)⟩
      obtain ⟨b', o', heq, hrow0⟩ := HT.out.row Wtr.len 0 x0 hx0
      simp only [Option.some.injEq, Addr.mk.injEq, and_true] at heq
      obtain ⟨rfl, rfl⟩ := heq
      have HHD := Lib.hid (hdO_at hx0)
      obtain ⟨th0, op0, arg0⟩ := x0
      have H00 : Hid (w.cell? ⟨b, o + 1, none⟩ = some (.int .i64 op0)) := by unfold Hid; simpa using hrow0 1 _ rfl
      clear hx0 hrow0
      have hpos : 0 < bs.length := by omega
      have HD := Lib.hid (dropW hx)
      have HTK := Lib.hid (takeW hx)
      clear hx
      obtain ⟨th, op, arg⟩ := x
      have HRW : Hid (wr.rangeAt b (o + k * 3) [.int .i64 th, .int .i64 op, .int .i64 arg]) := hrow
      clear hrow
      have HX := Lib.hid (BoxC.new 35 wr #[.int .i64 0, .int .i64 0, .int .i64 0])
      have hz : w.heap.size + 1 < wr.heap.size := HK.out.lt
      go_upto_region 6 with (first | (refine wpList_load_mid rfl 35 _ rfl b (o + k * 3) ?_ _ _ HRW.out Try.underlying35 rfl info_iWaiter ?_; rfl) | (refine wpList_store_row rfl 35 _ _ rfl wr.heap.size _ rfl rfl 35 _ HX.out info_iWaiter rfl (one3w _ _ _) ?_))
      have HX2 := Lib.hid (HX.out.mrow #[.int .i64 th, .int .i64 op, .int .i64 arg])
      have HK2 := Lib.hid ((HK.out.below (below_alloc wr (.cells #[.int .i64 0, .int .i64 0, .int .i64 0] 35))).mrowO (b := wr.heap.size) (by omega) #[.int .i64 th, .int .i64 op, .int .i64 arg])
      have HM2 := Lib.hid ((HM.out.below (below_alloc wr (.cells #[.int .i64 0, .int .i64 0, .int .i64 0] 35))).mrowO (b := wr.heap.size) (by omega) #[.int .i64 th, .int .i64 op, .int .i64 arg])
      have HB2 := Lib.hid (below_setRow (below_trans HB.out (below_alloc wr (.cells #[.int .i64 0, .int .i64 0, .int .i64 0] 35))) (show w.heap.size ≤ wr.heap.size by omega) #[.int .i64 th, .int .i64 op, .int .i64 arg])
      generalize (wr.alloc (.cells #[.int .i64 0, .int .i64 0, .int .i64 0] 35)).setRow wr.heap.size #[.int .i64 th, .int .i64 op, .int .i64 arg] = w2 at HX2 HK2 HM2 HB2 ⊢
      generalize wr.heap.size = kx at HX2 hz ⊢
      clear HX HB HRW HK HM

      cases QC : (wtB th op arg && !(((bs.take k).map Wtr.th).contains th))
      · refine wp_region_held_drew (S := (fun w' => (∀ j : Nat, w'.cell? ⟨kx, j, none⟩ = (#[.int .i64 th, .int .i64 op, .int .i64 arg] : Array Value)[j]?) ∧ (∀ j : Nat, w'.cell? ⟨w.heap.size, j, none⟩ = (#[.slice A zs.length ca, .int .i64 cnt, .slice (some ⟨b, o, none⟩) bs.length cb, .slice O os.length co] : Array Value)[j]?) ∧ w'.cell? ⟨b, o + 1, none⟩ = some (.int .i64 op0))) (by kernel_rfl) ?_ (fun hHeld => ?_)
        · exact ⟨HX2.out.cell, HM2.out.cell, cell_keep HB2.out H00.out⟩
        refine take_d (i := 0) (oi := _) (d := some 17) (v := ?v1_0) rfl rfl (by kernel_rfl) (by kernel_rfl) (by kernel_rfl) (fun _ _ _ h => h) (Or.inl ⟨by rfl, ?hy1_0⟩) (by assumption) ?r1_0
        case hy1_0 => intro w hSw; (try dsimp only at hSw); first | (go_simp; done) | (go_simp; with_reducible rfl)
        try simp only [Act.put, List.setIfInBounds_toArray, List.set_cons_zero, List.set_cons_succ]
        refine take_d (i := 1) (oi := _) (d := some 18) (v := ?v1_1) rfl rfl (by kernel_rfl) (by kernel_rfl) (by kernel_rfl) (fun _ _ _ h => h) (Or.inl ⟨by rfl, ?hy1_1⟩) (by assumption) ?r1_1
        case hy1_1 => intro w hSw; (try dsimp only at hSw); first | (go_simp; done) | (go_simp; with_reducible rfl)
        try simp only [Act.put, List.setIfInBounds_toArray, List.set_cons_zero, List.set_cons_succ]
        refine wpAnyH_ready (rs := [2]) (by kernel_rfl) (by simp) ?_
        refine AllReadyH.cons (o := _) rfl (fun K hK => ?_) AllReadyH.nil
        go_simp
        go_at_call 125; (with_reducible refine (comes_any _ ((bs.take k).map Wtr.th) _ _ _ _ HK2.out.mdrew).mono ?_); rintro e w4 ⟨rfl, hg4, hk4⟩; rw [QC]
        refine hK.out _ _ ?_ (fun hHeld2 => ?_)
        · exact ⟨(HX2.out.mgd hg4 (by omega)).cell, (HM2.out.mgd hg4 (by omega)).cell, cell_keep (gr_below HB2.out hg4 (by omega)) H00.out⟩
        clear hK K hHeld
        try simp only [Act.put, List.setIfInBounds_toArray, List.set_cons_zero, List.set_cons_succ]
        refine take_d (i := 3) (oi := _) (d := some 20) (v := ?v1_3) rfl rfl (by kernel_rfl) (by kernel_rfl) (by kernel_rfl) (fun _ _ _ h => h) (Or.inl ⟨by rfl, ?hy1_3⟩) (by assumption) ?r1_3
        case hy1_3 => intro w hSw; (try dsimp only at hSw); first | (go_simp; done) | (go_simp; with_reducible rfl)
        try simp only [Act.put, List.setIfInBounds_toArray, List.set_cons_zero, List.set_cons_succ]
        refine take_d (i := 4) (oi := _) (d := some 21) (v := ?v1_4) rfl rfl (by kernel_rfl) (by kernel_rfl) (by kernel_rfl) (fun _ _ _ h => h) (Or.inl ⟨by rfl, ?hy1_4⟩) (by assumption) ?r1_4
        case hy1_4 => intro w hSw; (try dsimp only at hSw); first | (go_simp; done) | (go_simp; with_reducible rfl)
        try simp only [Act.put, List.setIfInBounds_toArray, List.set_cons_zero, List.set_cons_succ]
        refine take_d (i := 5) (oi := _) (d := some 22) (v := undef) rfl rfl (by kernel_rfl) (by kernel_rfl) (by kernel_rfl) (fun _ _ _ h => h) (Or.inr ⟨by kernel_rfl, rfl⟩) (by assumption) ?_
        try simp only [Act.put, List.setIfInBounds_toArray, List.set_cons_zero, List.set_cons_succ]
        refine take_d (i := 6) (oi := _) (d := some 23) (v := undef) rfl rfl (by kernel_rfl) (by kernel_rfl) (by kernel_rfl) (fun _ _ _ h => h) (Or.inr ⟨by kernel_rfl, rfl⟩) (by assumption) ?_
        try simp only [Act.put, List.setIfInBounds_toArray, List.set_cons_zero, List.set_cons_succ]
        refine take_d (i := 7) (oi := _) (d := some 24) (v := undef) rfl rfl (by kernel_rfl) (by kernel_rfl) (by kernel_rfl) (fun _ _ _ h => h) (Or.inr ⟨by kernel_rfl, rfl⟩) (by assumption) ?_
        try simp only [Act.put, List.setIfInBounds_toArray, List.set_cons_zero, List.set_cons_succ]
        refine take_d (i := 8) (oi := _) (d := some 25) (v := undef) rfl rfl (by kernel_rfl) (by kernel_rfl) (by kernel_rfl) (fun _ _ _ h => h) (Or.inr ⟨by kernel_rfl, rfl⟩) (by assumption) ?_
        try simp only [Act.put, List.setIfInBounds_toArray, List.set_cons_zero, List.set_cons_succ]
        refine take_d (i := 9) (oi := _) (d := some 26) (v := undef) rfl rfl (by kernel_rfl) (by kernel_rfl) (by kernel_rfl) (fun _ _ _ h => h) (Or.inr ⟨by kernel_rfl, rfl⟩) (by assumption) ?_
        try simp only [Act.put, List.setIfInBounds_toArray, List.set_cons_zero, List.set_cons_succ]
        refine take_d (i := 10) (oi := _) (d := some 27) (v := undef) rfl rfl (by kernel_rfl) (by kernel_rfl) (by kernel_rfl) (fun _ _ _ h => h) (Or.inr ⟨by kernel_rfl, rfl⟩) (by assumption) ?_
        try simp only [Act.put, List.setIfInBounds_toArray, List.set_cons_zero, List.set_cons_succ]
        refine take_d (i := 11) (oi := _) (d := some 28) (v := undef) rfl rfl (by kernel_rfl) (by kernel_rfl) (by kernel_rfl) (fun _ _ _ h => h) (Or.inr ⟨by kernel_rfl, rfl⟩) (by assumption) ?_
        try simp only [Act.put, List.setIfInBounds_toArray, List.set_cons_zero, List.set_cons_succ]
        refine take_d (i := 12) (oi := _) (d := some 29) (v := undef) rfl rfl (by kernel_rfl) (by kernel_rfl) (by kernel_rfl) (fun _ _ _ h => h) (Or.inr ⟨by kernel_rfl, rfl⟩) (by assumption) ?_
        try simp only [Act.put, List.setIfInBounds_toArray, List.set_cons_zero, List.set_cons_succ]
        refine take_d (i := 13) (oi := _) (d := some 30) (v := ?v1_13) rfl rfl (by kernel_rfl) (by kernel_rfl) (by kernel_rfl) (fun _ _ _ h => h) (Or.inl ⟨by rfl, ?hy1_13⟩) (by assumption) ?r1_13
        case hy1_13 => intro w hSw; (try dsimp only at hSw); first | (go_simp; done) | (go_simp; with_reducible rfl)
        try simp only [Act.put, List.setIfInBounds_toArray, List.set_cons_zero, List.set_cons_succ]
        refine take_d (i := 14) (oi := _) (d := some 31) (v := ?v1_14) rfl rfl (by kernel_rfl) (by kernel_rfl) (by kernel_rfl) (fun _ _ _ h => h) (Or.inl ⟨by rfl, ?hy1_14⟩) (by assumption) ?r1_14
        case hy1_14 => intro w hSw; (try dsimp only at hSw); first | (go_simp; done) | (go_simp; with_reducible rfl)
        try simp only [Act.put, List.setIfInBounds_toArray, List.set_cons_zero, List.set_cons_succ]
        refine take_d (i := 15) (oi := _) (d := some 32) (v := undef) rfl rfl (by kernel_rfl) (by kernel_rfl) (by kernel_rfl) (fun _ _ _ h => h) (Or.inr ⟨by kernel_rfl, rfl⟩) (by assumption) ?_
        try simp only [Act.put, List.setIfInBounds_toArray, List.set_cons_zero, List.set_cons_succ]
        refine take_d (i := 16) (oi := _) (d := some 33) (v := undef) rfl rfl (by kernel_rfl) (by kernel_rfl) (by kernel_rfl) (fun _ _ _ h => h) (Or.inr ⟨by kernel_rfl, rfl⟩) (by assumption) ?_
        try simp only [Act.put, List.setIfInBounds_toArray, List.set_cons_zero, List.set_cons_succ]
        refine take_d (i := 17) (oi := _) (d := some 34) (v := undef) rfl rfl (by kernel_rfl) (by kernel_rfl) (by kernel_rfl) (fun _ _ _ h => h) (Or.inr ⟨by kernel_rfl, rfl⟩) (by assumption) ?_
        try simp only [Act.put, List.setIfInBounds_toArray, List.set_cons_zero, List.set_cons_succ]
        refine take_d (i := 18) (oi := _) (d := some 35) (v := undef) rfl rfl (by kernel_rfl) (by kernel_rfl) (by kernel_rfl) (fun _ _ _ h => h) (Or.inr ⟨by kernel_rfl, rfl⟩) (by assumption) ?_
        try simp only [Act.put, List.setIfInBounds_toArray, List.set_cons_zero, List.set_cons_succ]
        refine take_d (i := 19) (oi := _) (d := some 36) (v := undef) rfl rfl (by kernel_rfl) (by kernel_rfl) (by kernel_rfl) (fun _ _ _ h => h) (Or.inr ⟨by kernel_rfl, rfl⟩) (by assumption) ?_
        try simp only [Act.put, List.setIfInBounds_toArray, List.set_cons_zero, List.set_cons_succ]
        refine take_d (i := 20) (oi := _) (d := some 37) (v := undef) rfl rfl (by kernel_rfl) (by kernel_rfl) (by kernel_rfl) (fun _ _ _ h => h) (Or.inr ⟨by kernel_rfl, rfl⟩) (by assumption) ?_
        try simp only [Act.put, List.setIfInBounds_toArray, List.set_cons_zero, List.set_cons_succ]
        refine take_d (i := 21) (oi := _) (d := some 38) (v := undef) rfl rfl (by kernel_rfl) (by kernel_rfl) (by kernel_rfl) (fun _ _ _ h => h) (Or.inr ⟨by kernel_rfl, rfl⟩) (by assumption) ?_
        try simp only [Act.put, List.setIfInBounds_toArray, List.set_cons_zero, List.set_cons_succ]
        refine take_d (i := 22) (oi := _) (d := some 39) (v := undef) rfl rfl (by kernel_rfl) (by kernel_rfl) (by kernel_rfl) (fun _ _ _ h => h) (Or.inr ⟨by kernel_rfl, rfl⟩) (by assumption) ?_
        try simp only [Act.put, List.setIfInBounds_toArray, List.set_cons_zero, List.set_cons_succ]
        refine take_d (i := 23) (oi := _) (d := some 40) (v := ?v1_23) rfl rfl (by kernel_rfl) (by kernel_rfl) (by kernel_rfl) (fun _ _ _ h => h) (Or.inl ⟨by rfl, ?hy1_23⟩) (by assumption) ?r1_23
        case hy1_23 => intro w hSw; (try dsimp only at hSw); first | (go_simp; done) | (go_simp; with_reducible rfl)
        try simp only [Act.put, List.setIfInBounds_toArray, List.set_cons_zero, List.set_cons_succ]
        refine wpAnyH_done (by kernel_rfl) ?_ _
        clear hHeld2
        have HF : Hid (wsB bs os = false) := by unfold Hid; refine ws_no1 ?_; rw [HCM.out, HD.out]; exact cm_no (by simp only [Bool.and_eq_false_iff] at QC ⊢; exact QC.elim (fun h => Or.inl (Or.inl h)) (fun h => Or.inr h))
        have HB4 := Lib.hid (gr_below HB2.out hg4 (by omega))
        clear hg4 hk4
        go_wp2
        go_ret
        exact ⟨ret_bool HF.out.symm, HB4.out⟩
      by_cases q1 : op = op0
      rotate_left
      · have q1' : ¬ op0 = op := fun h => q1 h.symm
        have q1b : (op != op0) = true := by simpa using q1
        refine wp_region_held_drew (S := (fun w' => (∀ j : Nat, w'.cell? ⟨kx, j, none⟩ = (#[.int .i64 th, .int .i64 op, .int .i64 arg] : Array Value)[j]?) ∧ (∀ j : Nat, w'.cell? ⟨w.heap.size, j, none⟩ = (#[.slice A zs.length ca, .int .i64 cnt, .slice (some ⟨b, o, none⟩) bs.length cb, .slice O os.length co] : Array Value)[j]?) ∧ w'.cell? ⟨b, o + 1, none⟩ = some (.int .i64 op0))) (by kernel_rfl) ?_ (fun hHeld => ?_)
        · exact ⟨HX2.out.cell, HM2.out.cell, cell_keep HB2.out H00.out⟩
        refine take_d (i := 0) (oi := _) (d := some 17) (v := ?v2_0) rfl rfl (by kernel_rfl) (by kernel_rfl) (by kernel_rfl) (fun _ _ _ h => h) (Or.inl ⟨by rfl, ?hy2_0⟩) (by assumption) ?r2_0
        case hy2_0 => intro w hSw; (try dsimp only at hSw); first | (go_simp; done) | (go_simp; with_reducible rfl)
        try simp only [Act.put, List.setIfInBounds_toArray, List.set_cons_zero, List.set_cons_succ]
        refine take_d (i := 1) (oi := _) (d := some 18) (v := ?v2_1) rfl rfl (by kernel_rfl) (by kernel_rfl) (by kernel_rfl) (fun _ _ _ h => h) (Or.inl ⟨by rfl, ?hy2_1⟩) (by assumption) ?r2_1
        case hy2_1 => intro w hSw; (try dsimp only at hSw); first | (go_simp; done) | (go_simp; with_reducible rfl)
        try simp only [Act.put, List.setIfInBounds_toArray, List.set_cons_zero, List.set_cons_succ]
        refine wpAnyH_ready (rs := [2]) (by kernel_rfl) (by simp) ?_
        refine AllReadyH.cons (o := _) rfl (fun K hK => ?_) AllReadyH.nil
        go_simp
        go_at_call 125; (with_reducible refine (comes_any _ ((bs.take k).map Wtr.th) _ _ _ _ HK2.out.mdrew).mono ?_); rintro e w4 ⟨rfl, hg4, hk4⟩; rw [QC]
        refine hK.out _ _ ?_ (fun hHeld2 => ?_)
        · exact ⟨(HX2.out.mgd hg4 (by omega)).cell, (HM2.out.mgd hg4 (by omega)).cell, cell_keep (gr_below HB2.out hg4 (by omega)) H00.out⟩
        clear hK K hHeld
        try simp only [Act.put, List.setIfInBounds_toArray, List.set_cons_zero, List.set_cons_succ]
        refine take_d (i := 3) (oi := _) (d := some 20) (v := ?v2_3) rfl rfl (by kernel_rfl) (by kernel_rfl) (by kernel_rfl) (fun _ _ _ h => h) (Or.inl ⟨by rfl, ?hy2_3⟩) (by assumption) ?r2_3
        case hy2_3 => intro w hSw; (try dsimp only at hSw); first | (go_simp; done) | (go_simp; with_reducible rfl)
        try simp only [Act.put, List.setIfInBounds_toArray, List.set_cons_zero, List.set_cons_succ]
        refine take_d (i := 4) (oi := _) (d := some 21) (v := ?v2_4) rfl rfl (by kernel_rfl) (by kernel_rfl) (by kernel_rfl) (fun _ _ _ h => h) (Or.inl ⟨by rfl, ?hy2_4⟩) (by assumption) ?r2_4
        case hy2_4 => intro w hSw; (try dsimp only at hSw); first | (go_simp; done) | (go_simp; with_reducible rfl)
        try simp only [Act.put, List.setIfInBounds_toArray, List.set_cons_zero, List.set_cons_succ]
        refine take_d (i := 5) (oi := _) (d := some 22) (v := ?v2_5) rfl rfl (by kernel_rfl) (by kernel_rfl) (by kernel_rfl) (fun _ _ _ h => h) (Or.inl ⟨by rfl, ?hy2_5⟩) (by assumption) ?r2_5
        case hy2_5 => intro w hSw; (try dsimp only at hSw); first | (go_simp; done) | (go_simp; with_reducible rfl)
        try simp only [Act.put, List.setIfInBounds_toArray, List.set_cons_zero, List.set_cons_succ]
        refine take_d (i := 6) (oi := _) (d := some 23) (v := ?v2_6) rfl rfl (by kernel_rfl) (by kernel_rfl) (by kernel_rfl) (fun _ _ _ h => h) (Or.inl ⟨by rfl, ?hy2_6⟩) (by assumption) ?r2_6
        case hy2_6 => intro w hSw; (try dsimp only at hSw); first | (go_simp; done) | (go_simp; with_reducible rfl)
        try simp only [Act.put, List.setIfInBounds_toArray, List.set_cons_zero, List.set_cons_succ]
        refine take_d (i := 7) (oi := _) (d := some 24) (v := ?v2_7) rfl rfl (by kernel_rfl) (by kernel_rfl) (by kernel_rfl) (fun _ _ _ h => h) (Or.inl ⟨by rfl, ?hy2_7⟩) (by assumption) ?r2_7
        case hy2_7 => intro w hSw; (try dsimp only at hSw); first | (go_simp; done) | (go_simp; with_reducible rfl)
        try simp only [Act.put, List.setIfInBounds_toArray, List.set_cons_zero, List.set_cons_succ]
        refine take_d (i := 8) (oi := _) (d := some 25) (v := ?v2_8) rfl rfl (by kernel_rfl) (by kernel_rfl) (by kernel_rfl) (fun _ _ _ h => h) (Or.inl ⟨by rfl, ?hy2_8⟩) (by assumption) ?r2_8
        case hy2_8 => intro w hSw; (try dsimp only at hSw); first | (go_simp; done) | (go_simp; with_reducible rfl)
        try simp only [Act.put, List.setIfInBounds_toArray, List.set_cons_zero, List.set_cons_succ]
        refine take_d (i := 9) (oi := _) (d := some 26) (v := ?v2_9) rfl rfl (by kernel_rfl) (by kernel_rfl) (by kernel_rfl) (fun _ _ _ h => h) (Or.inl ⟨by rfl, ?hy2_9⟩) (by assumption) ?r2_9
        case hy2_9 => intro w hSw; (try dsimp only at hSw); first | (go_simp; done) | (go_simp; with_reducible rfl)
        try simp only [Act.put, List.setIfInBounds_toArray, List.set_cons_zero, List.set_cons_succ]
        refine take_d (i := 10) (oi := _) (d := some 27) (v := ?v2_10) rfl rfl (by kernel_rfl) (by kernel_rfl) (by kernel_rfl) (fun _ _ _ h => h) (Or.inl ⟨by rfl, ?hy2_10⟩) (by assumption) ?r2_10
        case hy2_10 => intro w hSw; (try dsimp only at hSw); first | (go_simp; done) | (go_simp; with_reducible rfl)
        try simp only [Act.put, List.setIfInBounds_toArray, List.set_cons_zero, List.set_cons_succ]
        refine take_d (i := 11) (oi := _) (d := some 28) (v := ?v2_11) rfl rfl (by kernel_rfl) (by kernel_rfl) (by kernel_rfl) (fun _ _ _ h => h) (Or.inl ⟨by rfl, ?hy2_11⟩) (by assumption) ?r2_11
        case hy2_11 => intro w hSw; (try dsimp only at hSw); first | (go_simp; done) | (go_simp; with_reducible rfl)
        try simp only [Act.put, List.setIfInBounds_toArray, List.set_cons_zero, List.set_cons_succ]
        refine take_d (i := 12) (oi := _) (d := some 29) (v := ?v2_12) rfl rfl (by kernel_rfl) (by kernel_rfl) (by kernel_rfl) (fun _ _ _ h => h) (Or.inl ⟨by rfl, ?hy2_12⟩) (by assumption) ?r2_12
        case hy2_12 => intro w hSw; (try dsimp only at hSw); first | (go_simp; done) | (go_simp; with_reducible rfl)
        try simp only [Act.put, List.setIfInBounds_toArray, List.set_cons_zero, List.set_cons_succ]
        refine take_d (i := 13) (oi := _) (d := some 30) (v := ?v2_13) rfl rfl (by kernel_rfl) (by kernel_rfl) (by kernel_rfl) (fun _ _ _ h => h) (Or.inl ⟨by rfl, ?hy2_13⟩) (by assumption) ?r2_13
        case hy2_13 => intro w hSw; (try dsimp only at hSw); first | (go_simp; done) | (go_simp; with_reducible rfl)
        try simp only [Act.put, List.setIfInBounds_toArray, List.set_cons_zero, List.set_cons_succ]
        refine take_d (i := 14) (oi := _) (d := some 31) (v := ?v2_14) rfl rfl (by kernel_rfl) (by kernel_rfl) (by kernel_rfl) (fun _ _ _ h => h) (Or.inl ⟨by rfl, ?hy2_14⟩) (by assumption) ?r2_14
        case hy2_14 => intro w hSw; (try dsimp only at hSw); first | (go_simp; done) | (go_simp; with_reducible rfl)
        try simp only [Act.put, List.setIfInBounds_toArray, List.set_cons_zero, List.set_cons_succ]
        refine take_d (i := 15) (oi := _) (d := some 32) (v := undef) rfl rfl (by kernel_rfl) (by kernel_rfl) (by kernel_rfl) (fun _ _ _ h => h) (Or.inr ⟨by kernel_rfl, rfl⟩) (by assumption) ?_
        try simp only [Act.put, List.setIfInBounds_toArray, List.set_cons_zero, List.set_cons_succ]
        refine take_d (i := 16) (oi := _) (d := some 33) (v := undef) rfl rfl (by kernel_rfl) (by kernel_rfl) (by kernel_rfl) (fun _ _ _ h => h) (Or.inr ⟨by kernel_rfl, rfl⟩) (by assumption) ?_
        try simp only [Act.put, List.setIfInBounds_toArray, List.set_cons_zero, List.set_cons_succ]
        refine take_d (i := 17) (oi := _) (d := some 34) (v := undef) rfl rfl (by kernel_rfl) (by kernel_rfl) (by kernel_rfl) (fun _ _ _ h => h) (Or.inr ⟨by kernel_rfl, rfl⟩) (by assumption) ?_
        try simp only [Act.put, List.setIfInBounds_toArray, List.set_cons_zero, List.set_cons_succ]
        refine take_d (i := 18) (oi := _) (d := some 35) (v := undef) rfl rfl (by kernel_rfl) (by kernel_rfl) (by kernel_rfl) (fun _ _ _ h => h) (Or.inr ⟨by kernel_rfl, rfl⟩) (by assumption) ?_
        try simp only [Act.put, List.setIfInBounds_toArray, List.set_cons_zero, List.set_cons_succ]
        refine take_d (i := 19) (oi := _) (d := some 36) (v := undef) rfl rfl (by kernel_rfl) (by kernel_rfl) (by kernel_rfl) (fun _ _ _ h => h) (Or.inr ⟨by kernel_rfl, rfl⟩) (by assumption) ?_
        try simp only [Act.put, List.setIfInBounds_toArray, List.set_cons_zero, List.set_cons_succ]
        refine take_d (i := 20) (oi := _) (d := some 37) (v := undef) rfl rfl (by kernel_rfl) (by kernel_rfl) (by kernel_rfl) (fun _ _ _ h => h) (Or.inr ⟨by kernel_rfl, rfl⟩) (by assumption) ?_
        try simp only [Act.put, List.setIfInBounds_toArray, List.set_cons_zero, List.set_cons_succ]
        refine take_d (i := 21) (oi := _) (d := some 38) (v := undef) rfl rfl (by kernel_rfl) (by kernel_rfl) (by kernel_rfl) (fun _ _ _ h => h) (Or.inr ⟨by kernel_rfl, rfl⟩) (by assumption) ?_
        try simp only [Act.put, List.setIfInBounds_toArray, List.set_cons_zero, List.set_cons_succ]
        refine take_d (i := 22) (oi := _) (d := some 39) (v := undef) rfl rfl (by kernel_rfl) (by kernel_rfl) (by kernel_rfl) (fun _ _ _ h => h) (Or.inr ⟨by kernel_rfl, rfl⟩) (by assumption) ?_
        try simp only [Act.put, List.setIfInBounds_toArray, List.set_cons_zero, List.set_cons_succ]
        refine take_d (i := 23) (oi := _) (d := some 40) (v := ?v2_23) rfl rfl (by kernel_rfl) (by kernel_rfl) (by kernel_rfl) (fun _ _ _ h => h) (Or.inl ⟨by rfl, ?hy2_23⟩) (by assumption) ?r2_23
        case hy2_23 => intro w hSw; (try dsimp only at hSw); first | (go_simp; done) | (go_simp; with_reducible rfl)
        try simp only [Act.put, List.setIfInBounds_toArray, List.set_cons_zero, List.set_cons_succ]
        refine wpAnyH_done (by kernel_rfl) ?_ _
        clear hHeld2
        have HF : Hid (wsB bs os = false) := by unfold Hid; refine ws_no1 ?_; rw [HCM.out, HD.out]; exact cm_no (by simp only [Bool.and_eq_false_iff]; refine Or.inl (Or.inr ?_); rw [HHD.out]; simp [isW, q1])
        have HB4 := Lib.hid (gr_below HB2.out hg4 (by omega))
        clear hg4 hk4
        go_wp2
        go_ret
        exact ⟨ret_bool HF.out.symm, HB4.out⟩
      subst q1
      by_cases q2 : op = 1
      · subst q2
        refine wp_region_held_drew (S := (fun w' => (∀ j : Nat, w'.cell? ⟨kx, j, none⟩ = (#[.int .i64 th, .int .i64 1, .int .i64 arg] : Array Value)[j]?) ∧ (∀ j : Nat, w'.cell? ⟨w.heap.size, j, none⟩ = (#[.slice A zs.length ca, .int .i64 cnt, .slice (some ⟨b, o, none⟩) bs.length cb, .slice O os.length co] : Array Value)[j]?) ∧ w'.cell? ⟨b, o + 1, none⟩ = some (.int .i64 1))) (by kernel_rfl) ?_ (fun hHeld => ?_)
        · exact ⟨HX2.out.cell, HM2.out.cell, cell_keep HB2.out H00.out⟩
        refine take_d (i := 0) (oi := _) (d := some 17) (v := ?v5_0) rfl rfl (by kernel_rfl) (by kernel_rfl) (by kernel_rfl) (fun _ _ _ h => h) (Or.inl ⟨by rfl, ?hy5_0⟩) (by assumption) ?r5_0
        case hy5_0 => intro w hSw; (try dsimp only at hSw); first | (go_simp; done) | (go_simp; with_reducible rfl)
        try simp only [Act.put, List.setIfInBounds_toArray, List.set_cons_zero, List.set_cons_succ]
        refine take_d (i := 1) (oi := _) (d := some 18) (v := ?v5_1) rfl rfl (by kernel_rfl) (by kernel_rfl) (by kernel_rfl) (fun _ _ _ h => h) (Or.inl ⟨by rfl, ?hy5_1⟩) (by assumption) ?r5_1
        case hy5_1 => intro w hSw; (try dsimp only at hSw); first | (go_simp; done) | (go_simp; with_reducible rfl)
        try simp only [Act.put, List.setIfInBounds_toArray, List.set_cons_zero, List.set_cons_succ]
        refine wpAnyH_ready (rs := [2]) (by kernel_rfl) (by simp) ?_
        refine AllReadyH.cons (o := _) rfl (fun K hK => ?_) AllReadyH.nil
        go_simp
        go_at_call 125; (with_reducible refine (comes_any _ ((bs.take k).map Wtr.th) _ _ _ _ HK2.out.mdrew).mono ?_); rintro e w4 ⟨rfl, hg4, hk4⟩; rw [QC]
        refine hK.out _ _ ?_ (fun hHeld2 => ?_)
        · exact ⟨(HX2.out.mgd hg4 (by omega)).cell, (HM2.out.mgd hg4 (by omega)).cell, cell_keep (gr_below HB2.out hg4 (by omega)) H00.out⟩
        clear hK K hHeld
        try simp only [Act.put, List.setIfInBounds_toArray, List.set_cons_zero, List.set_cons_succ]
        refine take_d (i := 3) (oi := _) (d := some 20) (v := ?v5_3) rfl rfl (by kernel_rfl) (by kernel_rfl) (by kernel_rfl) (fun _ _ _ h => h) (Or.inl ⟨by rfl, ?hy5_3⟩) (by assumption) ?r5_3
        case hy5_3 => intro w hSw; (try dsimp only at hSw); first | (go_simp; done) | (go_simp; with_reducible rfl)
        try simp only [Act.put, List.setIfInBounds_toArray, List.set_cons_zero, List.set_cons_succ]
        refine take_d (i := 4) (oi := _) (d := some 21) (v := ?v5_4) rfl rfl (by kernel_rfl) (by kernel_rfl) (by kernel_rfl) (fun _ _ _ h => h) (Or.inl ⟨by rfl, ?hy5_4⟩) (by assumption) ?r5_4
        case hy5_4 => intro w hSw; (try dsimp only at hSw); first | (go_simp; done) | (go_simp; with_reducible rfl)
        try simp only [Act.put, List.setIfInBounds_toArray, List.set_cons_zero, List.set_cons_succ]
        refine take_d (i := 5) (oi := _) (d := some 22) (v := ?v5_5) rfl rfl (by kernel_rfl) (by kernel_rfl) (by kernel_rfl) (fun _ _ _ h => h) (Or.inl ⟨by rfl, ?hy5_5⟩) (by assumption) ?r5_5
        case hy5_5 => intro w hSw; (try dsimp only at hSw); first | (go_simp; done) | (go_simp; with_reducible rfl)
        try simp only [Act.put, List.setIfInBounds_toArray, List.set_cons_zero, List.set_cons_succ]
        refine take_d (i := 6) (oi := _) (d := some 23) (v := ?v5_6) rfl rfl (by kernel_rfl) (by kernel_rfl) (by kernel_rfl) (fun _ _ _ h => h) (Or.inl ⟨by rfl, ?hy5_6⟩) (by assumption) ?r5_6
        case hy5_6 => intro w hSw; (try dsimp only at hSw); first | (go_simp; done) | (go_simp; with_reducible rfl)
        try simp only [Act.put, List.setIfInBounds_toArray, List.set_cons_zero, List.set_cons_succ]
        refine take_d (i := 7) (oi := _) (d := some 24) (v := ?v5_7) rfl rfl (by kernel_rfl) (by kernel_rfl) (by kernel_rfl) (fun _ _ _ h => h) (Or.inl ⟨by rfl, ?hy5_7⟩) (by assumption) ?r5_7
        case hy5_7 => intro w hSw; (try dsimp only at hSw); first | (go_simp; done) | (go_simp; with_reducible rfl)
        try simp only [Act.put, List.setIfInBounds_toArray, List.set_cons_zero, List.set_cons_succ]
        refine take_d (i := 8) (oi := _) (d := some 25) (v := ?v5_8) rfl rfl (by kernel_rfl) (by kernel_rfl) (by kernel_rfl) (fun _ _ _ h => h) (Or.inl ⟨by rfl, ?hy5_8⟩) (by assumption) ?r5_8
        case hy5_8 => intro w hSw; (try dsimp only at hSw); first | (go_simp; done) | (go_simp; with_reducible rfl)
        try simp only [Act.put, List.setIfInBounds_toArray, List.set_cons_zero, List.set_cons_succ]
        refine take_d (i := 9) (oi := _) (d := some 26) (v := ?v5_9) rfl rfl (by kernel_rfl) (by kernel_rfl) (by kernel_rfl) (fun _ _ _ h => h) (Or.inl ⟨by rfl, ?hy5_9⟩) (by assumption) ?r5_9
        case hy5_9 => intro w hSw; (try dsimp only at hSw); first | (go_simp; done) | (go_simp; with_reducible rfl)
        try simp only [Act.put, List.setIfInBounds_toArray, List.set_cons_zero, List.set_cons_succ]
        refine take_d (i := 10) (oi := _) (d := some 27) (v := ?v5_10) rfl rfl (by kernel_rfl) (by kernel_rfl) (by kernel_rfl) (fun _ _ _ h => h) (Or.inl ⟨by rfl, ?hy5_10⟩) (by assumption) ?r5_10
        case hy5_10 => intro w hSw; (try dsimp only at hSw); first | (go_simp; done) | (go_simp; with_reducible rfl)
        try simp only [Act.put, List.setIfInBounds_toArray, List.set_cons_zero, List.set_cons_succ]
        refine take_d (i := 11) (oi := _) (d := some 28) (v := ?v5_11) rfl rfl (by kernel_rfl) (by kernel_rfl) (by kernel_rfl) (fun _ _ _ h => h) (Or.inl ⟨by rfl, ?hy5_11⟩) (by assumption) ?r5_11
        case hy5_11 => intro w hSw; (try dsimp only at hSw); first | (go_simp; done) | (go_simp; with_reducible rfl)
        try simp only [Act.put, List.setIfInBounds_toArray, List.set_cons_zero, List.set_cons_succ]
        refine take_d (i := 12) (oi := _) (d := some 29) (v := ?v5_12) rfl rfl (by kernel_rfl) (by kernel_rfl) (by kernel_rfl) (fun _ _ _ h => h) (Or.inl ⟨by rfl, ?hy5_12⟩) (by assumption) ?r5_12
        case hy5_12 => intro w hSw; (try dsimp only at hSw); first | (go_simp; done) | (go_simp; with_reducible rfl)
        try simp only [Act.put, List.setIfInBounds_toArray, List.set_cons_zero, List.set_cons_succ]
        refine take_d (i := 13) (oi := _) (d := some 30) (v := ?v5_13) rfl rfl (by kernel_rfl) (by kernel_rfl) (by kernel_rfl) (fun _ _ _ h => h) (Or.inl ⟨by rfl, ?hy5_13⟩) (by assumption) ?r5_13
        case hy5_13 => intro w hSw; (try dsimp only at hSw); first | (go_simp; done) | (go_simp; with_reducible rfl)
        try simp only [Act.put, List.setIfInBounds_toArray, List.set_cons_zero, List.set_cons_succ]
        refine take_d (i := 14) (oi := _) (d := some 31) (v := ?v5_14) rfl rfl (by kernel_rfl) (by kernel_rfl) (by kernel_rfl) (fun _ _ _ h => h) (Or.inl ⟨by rfl, ?hy5_14⟩) (by assumption) ?r5_14
        case hy5_14 => intro w hSw; (try dsimp only at hSw); first | (go_simp; done) | (go_simp; with_reducible rfl)
        try simp only [Act.put, List.setIfInBounds_toArray, List.set_cons_zero, List.set_cons_succ]
        refine take_d (i := 15) (oi := _) (d := some 32) (v := ?v5_15) rfl rfl (by kernel_rfl) (by kernel_rfl) (by kernel_rfl) (fun _ _ _ h => h) (Or.inl ⟨by rfl, ?hy5_15⟩) (by assumption) ?r5_15
        case hy5_15 => intro w hSw; (try dsimp only at hSw); first | (go_simp; done) | (go_simp; with_reducible rfl)
        try simp only [Act.put, List.setIfInBounds_toArray, List.set_cons_zero, List.set_cons_succ]
        refine take_d (i := 16) (oi := _) (d := some 33) (v := ?v5_16) rfl rfl (by kernel_rfl) (by kernel_rfl) (by kernel_rfl) (fun _ _ _ h => h) (Or.inl ⟨by rfl, ?hy5_16⟩) (by assumption) ?r5_16
        case hy5_16 => intro w hSw; (try dsimp only at hSw); first | (go_simp; done) | (go_simp; with_reducible rfl)
        try simp only [Act.put, List.setIfInBounds_toArray, List.set_cons_zero, List.set_cons_succ]
        refine take_d (i := 17) (oi := _) (d := some 34) (v := ?v5_17) rfl rfl (by kernel_rfl) (by kernel_rfl) (by kernel_rfl) (fun _ _ _ h => h) (Or.inl ⟨by rfl, ?hy5_17⟩) (by assumption) ?r5_17
        case hy5_17 => intro w hSw; (try dsimp only at hSw); first | (go_simp; done) | (go_simp; with_reducible rfl)
        try simp only [Act.put, List.setIfInBounds_toArray, List.set_cons_zero, List.set_cons_succ]
        refine take_d (i := 18) (oi := _) (d := some 35) (v := ?v5_18) rfl rfl (by kernel_rfl) (by kernel_rfl) (by kernel_rfl) (fun _ _ _ h => h) (Or.inl ⟨by rfl, ?hy5_18⟩) (by assumption) ?r5_18
        case hy5_18 => intro w hSw; (try dsimp only at hSw); first | (go_simp; done) | (go_simp; with_reducible rfl)
        try simp only [Act.put, List.setIfInBounds_toArray, List.set_cons_zero, List.set_cons_succ]
        refine take_d (i := 19) (oi := _) (d := some 36) (v := undef) rfl rfl (by kernel_rfl) (by kernel_rfl) (by kernel_rfl) (fun _ _ _ h => h) (Or.inr ⟨by kernel_rfl, rfl⟩) (by assumption) ?_
        try simp only [Act.put, List.setIfInBounds_toArray, List.set_cons_zero, List.set_cons_succ]
        refine take_d (i := 20) (oi := _) (d := some 37) (v := undef) rfl rfl (by kernel_rfl) (by kernel_rfl) (by kernel_rfl) (fun _ _ _ h => h) (Or.inr ⟨by kernel_rfl, rfl⟩) (by assumption) ?_
        try simp only [Act.put, List.setIfInBounds_toArray, List.set_cons_zero, List.set_cons_succ]
        refine take_d (i := 21) (oi := _) (d := some 38) (v := undef) rfl rfl (by kernel_rfl) (by kernel_rfl) (by kernel_rfl) (fun _ _ _ h => h) (Or.inr ⟨by kernel_rfl, rfl⟩) (by assumption) ?_
        try simp only [Act.put, List.setIfInBounds_toArray, List.set_cons_zero, List.set_cons_succ]
        refine take_d (i := 22) (oi := _) (d := some 39) (v := ?v5_22) rfl rfl (by kernel_rfl) (by kernel_rfl) (by kernel_rfl) (fun _ _ _ h => h) (Or.inl ⟨by rfl, ?hy5_22⟩) (by assumption) ?r5_22
        case hy5_22 => intro w hSw; (try dsimp only at hSw); first | (go_simp; done) | (go_simp; with_reducible rfl)
        try simp only [Act.put, List.setIfInBounds_toArray, List.set_cons_zero, List.set_cons_succ]
        refine take_d (i := 23) (oi := _) (d := some 40) (v := ?v5_23) rfl rfl (by kernel_rfl) (by kernel_rfl) (by kernel_rfl) (fun _ _ _ h => h) (Or.inl ⟨by rfl, ?hy5_23⟩) (by assumption) ?r5_23
        case hy5_23 => intro w hSw; (try dsimp only at hSw); first | (go_simp; done) | (go_simp; with_reducible rfl)
        try simp only [Act.put, List.setIfInBounds_toArray, List.set_cons_zero, List.set_cons_succ]
        refine wpAnyH_done (by kernel_rfl) ?_ _
        clear hHeld2
        have HN : Hid (cmB (isW (hdO bs)) [] bs = cmB (isW (hdO bs)) ((bs.take (k + 1)).map Wtr.th) (bs.drop (k + 1))) := by
          unfold Hid; rw [HCM.out, HD.out, HTK.out]; exact cm_yes (by simp only [Bool.and_eq_true] at QC ⊢; refine ⟨⟨QC.1, ?_⟩, QC.2⟩; rw [HHD.out]; rfl)
        rw [if_pos QC, ← HTK.out] at hk4
        have HK4 := Lib.hid hk4
        have HM4 := Lib.hid (HM2.out.mgd hg4 (by omega))
        have HB4 := Lib.hid (gr_below HB2.out hg4 (by omega))
        clear hg4 hk4
        go_wp2
        go_roundw
        case rel => exact ⟨k + 1, by omega, by go_num, HN.out, HK4.out, HM4.out, HB4.out⟩
        case measure => simp [intOf]; omega
      by_cases q3 : op = 2
      · subst q3
        refine wp_region_held_drew (S := (fun w' => (∀ j : Nat, w'.cell? ⟨kx, j, none⟩ = (#[.int .i64 th, .int .i64 2, .int .i64 arg] : Array Value)[j]?) ∧ (∀ j : Nat, w'.cell? ⟨w.heap.size, j, none⟩ = (#[.slice A zs.length ca, .int .i64 cnt, .slice (some ⟨b, o, none⟩) bs.length cb, .slice O os.length co] : Array Value)[j]?) ∧ w'.cell? ⟨b, o + 1, none⟩ = some (.int .i64 2))) (by kernel_rfl) ?_ (fun hHeld => ?_)
        · exact ⟨HX2.out.cell, HM2.out.cell, cell_keep HB2.out H00.out⟩
        refine take_d (i := 0) (oi := _) (d := some 17) (v := ?v4_0) rfl rfl (by kernel_rfl) (by kernel_rfl) (by kernel_rfl) (fun _ _ _ h => h) (Or.inl ⟨by rfl, ?hy4_0⟩) (by assumption) ?r4_0
        case hy4_0 => intro w hSw; (try dsimp only at hSw); first | (go_simp; done) | (go_simp; with_reducible rfl)
        try simp only [Act.put, List.setIfInBounds_toArray, List.set_cons_zero, List.set_cons_succ]
        refine take_d (i := 1) (oi := _) (d := some 18) (v := ?v4_1) rfl rfl (by kernel_rfl) (by kernel_rfl) (by kernel_rfl) (fun _ _ _ h => h) (Or.inl ⟨by rfl, ?hy4_1⟩) (by assumption) ?r4_1
        case hy4_1 => intro w hSw; (try dsimp only at hSw); first | (go_simp; done) | (go_simp; with_reducible rfl)
        try simp only [Act.put, List.setIfInBounds_toArray, List.set_cons_zero, List.set_cons_succ]
        refine wpAnyH_ready (rs := [2]) (by kernel_rfl) (by simp) ?_
        refine AllReadyH.cons (o := _) rfl (fun K hK => ?_) AllReadyH.nil
        go_simp
        go_at_call 125; (with_reducible refine (comes_any _ ((bs.take k).map Wtr.th) _ _ _ _ HK2.out.mdrew).mono ?_); rintro e w4 ⟨rfl, hg4, hk4⟩; rw [QC]
        refine hK.out _ _ ?_ (fun hHeld2 => ?_)
        · exact ⟨(HX2.out.mgd hg4 (by omega)).cell, (HM2.out.mgd hg4 (by omega)).cell, cell_keep (gr_below HB2.out hg4 (by omega)) H00.out⟩
        clear hK K hHeld
        try simp only [Act.put, List.setIfInBounds_toArray, List.set_cons_zero, List.set_cons_succ]
        refine take_d (i := 3) (oi := _) (d := some 20) (v := ?v4_3) rfl rfl (by kernel_rfl) (by kernel_rfl) (by kernel_rfl) (fun _ _ _ h => h) (Or.inl ⟨by rfl, ?hy4_3⟩) (by assumption) ?r4_3
        case hy4_3 => intro w hSw; (try dsimp only at hSw); first | (go_simp; done) | (go_simp; with_reducible rfl)
        try simp only [Act.put, List.setIfInBounds_toArray, List.set_cons_zero, List.set_cons_succ]
        refine take_d (i := 4) (oi := _) (d := some 21) (v := ?v4_4) rfl rfl (by kernel_rfl) (by kernel_rfl) (by kernel_rfl) (fun _ _ _ h => h) (Or.inl ⟨by rfl, ?hy4_4⟩) (by assumption) ?r4_4
        case hy4_4 => intro w hSw; (try dsimp only at hSw); first | (go_simp; done) | (go_simp; with_reducible rfl)
        try simp only [Act.put, List.setIfInBounds_toArray, List.set_cons_zero, List.set_cons_succ]
        refine take_d (i := 5) (oi := _) (d := some 22) (v := ?v4_5) rfl rfl (by kernel_rfl) (by kernel_rfl) (by kernel_rfl) (fun _ _ _ h => h) (Or.inl ⟨by rfl, ?hy4_5⟩) (by assumption) ?r4_5
        case hy4_5 => intro w hSw; (try dsimp only at hSw); first | (go_simp; done) | (go_simp; with_reducible rfl)
        try simp only [Act.put, List.setIfInBounds_toArray, List.set_cons_zero, List.set_cons_succ]
        refine take_d (i := 6) (oi := _) (d := some 23) (v := ?v4_6) rfl rfl (by kernel_rfl) (by kernel_rfl) (by kernel_rfl) (fun _ _ _ h => h) (Or.inl ⟨by rfl, ?hy4_6⟩) (by assumption) ?r4_6
        case hy4_6 => intro w hSw; (try dsimp only at hSw); first | (go_simp; done) | (go_simp; with_reducible rfl)
        try simp only [Act.put, List.setIfInBounds_toArray, List.set_cons_zero, List.set_cons_succ]
        refine take_d (i := 7) (oi := _) (d := some 24) (v := ?v4_7) rfl rfl (by kernel_rfl) (by kernel_rfl) (by kernel_rfl) (fun _ _ _ h => h) (Or.inl ⟨by rfl, ?hy4_7⟩) (by assumption) ?r4_7
        case hy4_7 => intro w hSw; (try dsimp only at hSw); first | (go_simp; done) | (go_simp; with_reducible rfl)
        try simp only [Act.put, List.setIfInBounds_toArray, List.set_cons_zero, List.set_cons_succ]
        refine take_d (i := 8) (oi := _) (d := some 25) (v := ?v4_8) rfl rfl (by kernel_rfl) (by kernel_rfl) (by kernel_rfl) (fun _ _ _ h => h) (Or.inl ⟨by rfl, ?hy4_8⟩) (by assumption) ?r4_8
        case hy4_8 => intro w hSw; (try dsimp only at hSw); first | (go_simp; done) | (go_simp; with_reducible rfl)
        try simp only [Act.put, List.setIfInBounds_toArray, List.set_cons_zero, List.set_cons_succ]
        refine take_d (i := 9) (oi := _) (d := some 26) (v := ?v4_9) rfl rfl (by kernel_rfl) (by kernel_rfl) (by kernel_rfl) (fun _ _ _ h => h) (Or.inl ⟨by rfl, ?hy4_9⟩) (by assumption) ?r4_9
        case hy4_9 => intro w hSw; (try dsimp only at hSw); first | (go_simp; done) | (go_simp; with_reducible rfl)
        try simp only [Act.put, List.setIfInBounds_toArray, List.set_cons_zero, List.set_cons_succ]
        refine take_d (i := 10) (oi := _) (d := some 27) (v := ?v4_10) rfl rfl (by kernel_rfl) (by kernel_rfl) (by kernel_rfl) (fun _ _ _ h => h) (Or.inl ⟨by rfl, ?hy4_10⟩) (by assumption) ?r4_10
        case hy4_10 => intro w hSw; (try dsimp only at hSw); first | (go_simp; done) | (go_simp; with_reducible rfl)
        try simp only [Act.put, List.setIfInBounds_toArray, List.set_cons_zero, List.set_cons_succ]
        refine take_d (i := 11) (oi := _) (d := some 28) (v := ?v4_11) rfl rfl (by kernel_rfl) (by kernel_rfl) (by kernel_rfl) (fun _ _ _ h => h) (Or.inl ⟨by rfl, ?hy4_11⟩) (by assumption) ?r4_11
        case hy4_11 => intro w hSw; (try dsimp only at hSw); first | (go_simp; done) | (go_simp; with_reducible rfl)
        try simp only [Act.put, List.setIfInBounds_toArray, List.set_cons_zero, List.set_cons_succ]
        refine take_d (i := 12) (oi := _) (d := some 29) (v := ?v4_12) rfl rfl (by kernel_rfl) (by kernel_rfl) (by kernel_rfl) (fun _ _ _ h => h) (Or.inl ⟨by rfl, ?hy4_12⟩) (by assumption) ?r4_12
        case hy4_12 => intro w hSw; (try dsimp only at hSw); first | (go_simp; done) | (go_simp; with_reducible rfl)
        try simp only [Act.put, List.setIfInBounds_toArray, List.set_cons_zero, List.set_cons_succ]
        refine take_d (i := 13) (oi := _) (d := some 30) (v := ?v4_13) rfl rfl (by kernel_rfl) (by kernel_rfl) (by kernel_rfl) (fun _ _ _ h => h) (Or.inl ⟨by rfl, ?hy4_13⟩) (by assumption) ?r4_13
        case hy4_13 => intro w hSw; (try dsimp only at hSw); first | (go_simp; done) | (go_simp; with_reducible rfl)
        try simp only [Act.put, List.setIfInBounds_toArray, List.set_cons_zero, List.set_cons_succ]
        refine take_d (i := 14) (oi := _) (d := some 31) (v := ?v4_14) rfl rfl (by kernel_rfl) (by kernel_rfl) (by kernel_rfl) (fun _ _ _ h => h) (Or.inl ⟨by rfl, ?hy4_14⟩) (by assumption) ?r4_14
        case hy4_14 => intro w hSw; (try dsimp only at hSw); first | (go_simp; done) | (go_simp; with_reducible rfl)
        try simp only [Act.put, List.setIfInBounds_toArray, List.set_cons_zero, List.set_cons_succ]
        refine take_d (i := 15) (oi := _) (d := some 32) (v := ?v4_15) rfl rfl (by kernel_rfl) (by kernel_rfl) (by kernel_rfl) (fun _ _ _ h => h) (Or.inl ⟨by rfl, ?hy4_15⟩) (by assumption) ?r4_15
        case hy4_15 => intro w hSw; (try dsimp only at hSw); first | (go_simp; done) | (go_simp; with_reducible rfl)
        try simp only [Act.put, List.setIfInBounds_toArray, List.set_cons_zero, List.set_cons_succ]
        refine take_d (i := 16) (oi := _) (d := some 33) (v := ?v4_16) rfl rfl (by kernel_rfl) (by kernel_rfl) (by kernel_rfl) (fun _ _ _ h => h) (Or.inl ⟨by rfl, ?hy4_16⟩) (by assumption) ?r4_16
        case hy4_16 => intro w hSw; (try dsimp only at hSw); first | (go_simp; done) | (go_simp; with_reducible rfl)
        try simp only [Act.put, List.setIfInBounds_toArray, List.set_cons_zero, List.set_cons_succ]
        refine take_d (i := 17) (oi := _) (d := some 34) (v := ?v4_17) rfl rfl (by kernel_rfl) (by kernel_rfl) (by kernel_rfl) (fun _ _ _ h => h) (Or.inl ⟨by rfl, ?hy4_17⟩) (by assumption) ?r4_17
        case hy4_17 => intro w hSw; (try dsimp only at hSw); first | (go_simp; done) | (go_simp; with_reducible rfl)
        try simp only [Act.put, List.setIfInBounds_toArray, List.set_cons_zero, List.set_cons_succ]
        refine take_d (i := 18) (oi := _) (d := some 35) (v := ?v4_18) rfl rfl (by kernel_rfl) (by kernel_rfl) (by kernel_rfl) (fun _ _ _ h => h) (Or.inl ⟨by rfl, ?hy4_18⟩) (by assumption) ?r4_18
        case hy4_18 => intro w hSw; (try dsimp only at hSw); first | (go_simp; done) | (go_simp; with_reducible rfl)
        try simp only [Act.put, List.setIfInBounds_toArray, List.set_cons_zero, List.set_cons_succ]
        refine take_d (i := 19) (oi := _) (d := some 36) (v := ?v4_19) rfl rfl (by kernel_rfl) (by kernel_rfl) (by kernel_rfl) (fun _ _ _ h => h) (Or.inl ⟨by rfl, ?hy4_19⟩) (by assumption) ?r4_19
        case hy4_19 => intro w hSw; (try dsimp only at hSw); first | (go_simp; done) | (go_simp; with_reducible rfl)
        try simp only [Act.put, List.setIfInBounds_toArray, List.set_cons_zero, List.set_cons_succ]
        refine take_d (i := 20) (oi := _) (d := some 37) (v := ?v4_20) rfl rfl (by kernel_rfl) (by kernel_rfl) (by kernel_rfl) (fun _ _ _ h => h) (Or.inl ⟨by rfl, ?hy4_20⟩) (by assumption) ?r4_20
        case hy4_20 => intro w hSw; (try dsimp only at hSw); first | (go_simp; done) | (go_simp; with_reducible rfl)
        try simp only [Act.put, List.setIfInBounds_toArray, List.set_cons_zero, List.set_cons_succ]
        refine take_d (i := 21) (oi := _) (d := some 38) (v := ?v4_21) rfl rfl (by kernel_rfl) (by kernel_rfl) (by kernel_rfl) (fun _ _ _ h => h) (Or.inl ⟨by rfl, ?hy4_21⟩) (by assumption) ?r4_21
        case hy4_21 => intro w hSw; (try dsimp only at hSw); first | (go_simp; done) | (go_simp; with_reducible rfl)
        try simp only [Act.put, List.setIfInBounds_toArray, List.set_cons_zero, List.set_cons_succ]
        refine take_d (i := 22) (oi := _) (d := some 39) (v := ?v4_22) rfl rfl (by kernel_rfl) (by kernel_rfl) (by kernel_rfl) (fun _ _ _ h => h) (Or.inl ⟨by rfl, ?hy4_22⟩) (by assumption) ?r4_22
        case hy4_22 => intro w hSw; (try dsimp only at hSw); first | (go_simp; done) | (go_simp; with_reducible rfl)
        try simp only [Act.put, List.setIfInBounds_toArray, List.set_cons_zero, List.set_cons_succ]
        refine take_d (i := 23) (oi := _) (d := some 40) (v := ?v4_23) rfl rfl (by kernel_rfl) (by kernel_rfl) (by kernel_rfl) (fun _ _ _ h => h) (Or.inl ⟨by rfl, ?hy4_23⟩) (by assumption) ?r4_23
        case hy4_23 => intro w hSw; (try dsimp only at hSw); first | (go_simp; done) | (go_simp; with_reducible rfl)
        try simp only [Act.put, List.setIfInBounds_toArray, List.set_cons_zero, List.set_cons_succ]
        refine wpAnyH_done (by kernel_rfl) ?_ _
        clear hHeld2
        have HN : Hid (cmB (isW (hdO bs)) [] bs = cmB (isW (hdO bs)) ((bs.take (k + 1)).map Wtr.th) (bs.drop (k + 1))) := by
          unfold Hid; rw [HCM.out, HD.out, HTK.out]; exact cm_yes (by simp only [Bool.and_eq_true] at QC ⊢; refine ⟨⟨QC.1, ?_⟩, QC.2⟩; rw [HHD.out]; rfl)
        rw [if_pos QC, ← HTK.out] at hk4
        have HK4 := Lib.hid hk4
        have HM4 := Lib.hid (HM2.out.mgd hg4 (by omega))
        have HB4 := Lib.hid (gr_below HB2.out hg4 (by omega))
        clear hg4 hk4
        go_wp2
        go_roundw
        case rel => exact ⟨k + 1, by omega, by go_num, HN.out, HK4.out, HM4.out, HB4.out⟩
        case measure => simp [intOf]; omega
      · have q2b : (op != 1) = true := by simpa using q2
        have q3b : (op != 2) = true := by simpa using q3
        refine wp_region_held_drew (S := (fun w' => (∀ j : Nat, w'.cell? ⟨kx, j, none⟩ = (#[.int .i64 th, .int .i64 op, .int .i64 arg] : Array Value)[j]?) ∧ (∀ j : Nat, w'.cell? ⟨w.heap.size, j, none⟩ = (#[.slice A zs.length ca, .int .i64 cnt, .slice (some ⟨b, o, none⟩) bs.length cb, .slice O os.length co] : Array Value)[j]?) ∧ w'.cell? ⟨b, o + 1, none⟩ = some (.int .i64 op))) (by kernel_rfl) ?_ (fun hHeld => ?_)
        · exact ⟨HX2.out.cell, HM2.out.cell, cell_keep HB2.out H00.out⟩
        refine take_d (i := 0) (oi := _) (d := some 17) (v := ?v3_0) rfl rfl (by kernel_rfl) (by kernel_rfl) (by kernel_rfl) (fun _ _ _ h => h) (Or.inl ⟨by rfl, ?hy3_0⟩) (by assumption) ?r3_0
        case hy3_0 => intro w hSw; (try dsimp only at hSw); first | (go_simp; done) | (go_simp; with_reducible rfl)
        try simp only [Act.put, List.setIfInBounds_toArray, List.set_cons_zero, List.set_cons_succ]
        refine take_d (i := 1) (oi := _) (d := some 18) (v := ?v3_1) rfl rfl (by kernel_rfl) (by kernel_rfl) (by kernel_rfl) (fun _ _ _ h => h) (Or.inl ⟨by rfl, ?hy3_1⟩) (by assumption) ?r3_1
        case hy3_1 => intro w hSw; (try dsimp only at hSw); first | (go_simp; done) | (go_simp; with_reducible rfl)
        try simp only [Act.put, List.setIfInBounds_toArray, List.set_cons_zero, List.set_cons_succ]
        refine wpAnyH_ready (rs := [2]) (by kernel_rfl) (by simp) ?_
        refine AllReadyH.cons (o := _) rfl (fun K hK => ?_) AllReadyH.nil
        go_simp
        go_at_call 125; (with_reducible refine (comes_any _ ((bs.take k).map Wtr.th) _ _ _ _ HK2.out.mdrew).mono ?_); rintro e w4 ⟨rfl, hg4, hk4⟩; rw [QC]
        refine hK.out _ _ ?_ (fun hHeld2 => ?_)
        · exact ⟨(HX2.out.mgd hg4 (by omega)).cell, (HM2.out.mgd hg4 (by omega)).cell, cell_keep (gr_below HB2.out hg4 (by omega)) H00.out⟩
        clear hK K hHeld
        try simp only [Act.put, List.setIfInBounds_toArray, List.set_cons_zero, List.set_cons_succ]
        refine take_d (i := 3) (oi := _) (d := some 20) (v := ?v3_3) rfl rfl (by kernel_rfl) (by kernel_rfl) (by kernel_rfl) (fun _ _ _ h => h) (Or.inl ⟨by rfl, ?hy3_3⟩) (by assumption) ?r3_3
        case hy3_3 => intro w hSw; (try dsimp only at hSw); first | (go_simp; done) | (go_simp; with_reducible rfl)
        try simp only [Act.put, List.setIfInBounds_toArray, List.set_cons_zero, List.set_cons_succ]
        refine take_d (i := 4) (oi := _) (d := some 21) (v := ?v3_4) rfl rfl (by kernel_rfl) (by kernel_rfl) (by kernel_rfl) (fun _ _ _ h => h) (Or.inl ⟨by rfl, ?hy3_4⟩) (by assumption) ?r3_4
        case hy3_4 => intro w hSw; (try dsimp only at hSw); first | (go_simp; done) | (go_simp; with_reducible rfl)
        try simp only [Act.put, List.setIfInBounds_toArray, List.set_cons_zero, List.set_cons_succ]
        refine take_d (i := 5) (oi := _) (d := some 22) (v := ?v3_5) rfl rfl (by kernel_rfl) (by kernel_rfl) (by kernel_rfl) (fun _ _ _ h => h) (Or.inl ⟨by rfl, ?hy3_5⟩) (by assumption) ?r3_5
        case hy3_5 => intro w hSw; (try dsimp only at hSw); first | (go_simp; done) | (go_simp; with_reducible rfl)
        try simp only [Act.put, List.setIfInBounds_toArray, List.set_cons_zero, List.set_cons_succ]
        refine take_d (i := 6) (oi := _) (d := some 23) (v := ?v3_6) rfl rfl (by kernel_rfl) (by kernel_rfl) (by kernel_rfl) (fun _ _ _ h => h) (Or.inl ⟨by rfl, ?hy3_6⟩) (by assumption) ?r3_6
        case hy3_6 => intro w hSw; (try dsimp only at hSw); first | (go_simp; done) | (go_simp; with_reducible rfl)
        try simp only [Act.put, List.setIfInBounds_toArray, List.set_cons_zero, List.set_cons_succ]
        refine take_d (i := 7) (oi := _) (d := some 24) (v := ?v3_7) rfl rfl (by kernel_rfl) (by kernel_rfl) (by kernel_rfl) (fun _ _ _ h => h) (Or.inl ⟨by rfl, ?hy3_7⟩) (by assumption) ?r3_7
        case hy3_7 => intro w hSw; (try dsimp only at hSw); first | (go_simp; done) | (go_simp; with_reducible rfl)
        try simp only [Act.put, List.setIfInBounds_toArray, List.set_cons_zero, List.set_cons_succ]
        refine take_d (i := 8) (oi := _) (d := some 25) (v := ?v3_8) rfl rfl (by kernel_rfl) (by kernel_rfl) (by kernel_rfl) (fun _ _ _ h => h) (Or.inl ⟨by rfl, ?hy3_8⟩) (by assumption) ?r3_8
        case hy3_8 => intro w hSw; (try dsimp only at hSw); first | (go_simp; done) | (go_simp; with_reducible rfl)
        try simp only [Act.put, List.setIfInBounds_toArray, List.set_cons_zero, List.set_cons_succ]
        refine take_d (i := 9) (oi := _) (d := some 26) (v := ?v3_9) rfl rfl (by kernel_rfl) (by kernel_rfl) (by kernel_rfl) (fun _ _ _ h => h) (Or.inl ⟨by rfl, ?hy3_9⟩) (by assumption) ?r3_9
        case hy3_9 => intro w hSw; (try dsimp only at hSw); first | (go_simp; done) | (go_simp; with_reducible rfl)
        try simp only [Act.put, List.setIfInBounds_toArray, List.set_cons_zero, List.set_cons_succ]
        refine take_d (i := 10) (oi := _) (d := some 27) (v := ?v3_10) rfl rfl (by kernel_rfl) (by kernel_rfl) (by kernel_rfl) (fun _ _ _ h => h) (Or.inl ⟨by rfl, ?hy3_10⟩) (by assumption) ?r3_10
        case hy3_10 => intro w hSw; (try dsimp only at hSw); first | (go_simp; done) | (go_simp; with_reducible rfl)
        try simp only [Act.put, List.setIfInBounds_toArray, List.set_cons_zero, List.set_cons_succ]
        refine take_d (i := 11) (oi := _) (d := some 28) (v := ?v3_11) rfl rfl (by kernel_rfl) (by kernel_rfl) (by kernel_rfl) (fun _ _ _ h => h) (Or.inl ⟨by rfl, ?hy3_11⟩) (by assumption) ?r3_11
        case hy3_11 => intro w hSw; (try dsimp only at hSw); first | (go_simp; done) | (go_simp; with_reducible rfl)
        try simp only [Act.put, List.setIfInBounds_toArray, List.set_cons_zero, List.set_cons_succ]
        refine take_d (i := 12) (oi := _) (d := some 29) (v := ?v3_12) rfl rfl (by kernel_rfl) (by kernel_rfl) (by kernel_rfl) (fun _ _ _ h => h) (Or.inl ⟨by rfl, ?hy3_12⟩) (by assumption) ?r3_12
        case hy3_12 => intro w hSw; (try dsimp only at hSw); first | (go_simp; done) | (go_simp; with_reducible rfl)
        try simp only [Act.put, List.setIfInBounds_toArray, List.set_cons_zero, List.set_cons_succ]
        refine take_d (i := 13) (oi := _) (d := some 30) (v := ?v3_13) rfl rfl (by kernel_rfl) (by kernel_rfl) (by kernel_rfl) (fun _ _ _ h => h) (Or.inl ⟨by rfl, ?hy3_13⟩) (by assumption) ?r3_13
        case hy3_13 => intro w hSw; (try dsimp only at hSw); first | (go_simp; done) | (go_simp; with_reducible rfl)
        try simp only [Act.put, List.setIfInBounds_toArray, List.set_cons_zero, List.set_cons_succ]
        refine take_d (i := 14) (oi := _) (d := some 31) (v := ?v3_14) rfl rfl (by kernel_rfl) (by kernel_rfl) (by kernel_rfl) (fun _ _ _ h => h) (Or.inl ⟨by rfl, ?hy3_14⟩) (by assumption) ?r3_14
        case hy3_14 => intro w hSw; (try dsimp only at hSw); first | (go_simp; done) | (go_simp; with_reducible rfl)
        try simp only [Act.put, List.setIfInBounds_toArray, List.set_cons_zero, List.set_cons_succ]
        refine take_d (i := 15) (oi := _) (d := some 32) (v := ?v3_15) rfl rfl (by kernel_rfl) (by kernel_rfl) (by kernel_rfl) (fun _ _ _ h => h) (Or.inl ⟨by rfl, ?hy3_15⟩) (by assumption) ?r3_15
        case hy3_15 => intro w hSw; (try dsimp only at hSw); first | (go_simp; done) | (go_simp; with_reducible rfl)
        try simp only [Act.put, List.setIfInBounds_toArray, List.set_cons_zero, List.set_cons_succ]
        refine take_d (i := 16) (oi := _) (d := some 33) (v := ?v3_16) rfl rfl (by kernel_rfl) (by kernel_rfl) (by kernel_rfl) (fun _ _ _ h => h) (Or.inl ⟨by rfl, ?hy3_16⟩) (by assumption) ?r3_16
        case hy3_16 => intro w hSw; (try dsimp only at hSw); first | (go_simp; done) | (go_simp; with_reducible rfl)
        try simp only [Act.put, List.setIfInBounds_toArray, List.set_cons_zero, List.set_cons_succ]
        refine take_d (i := 17) (oi := _) (d := some 34) (v := ?v3_17) rfl rfl (by kernel_rfl) (by kernel_rfl) (by kernel_rfl) (fun _ _ _ h => h) (Or.inl ⟨by rfl, ?hy3_17⟩) (by assumption) ?r3_17
        case hy3_17 => intro w hSw; (try dsimp only at hSw); first | (go_simp; done) | (go_simp; with_reducible rfl)
        try simp only [Act.put, List.setIfInBounds_toArray, List.set_cons_zero, List.set_cons_succ]
        refine take_d (i := 18) (oi := _) (d := some 35) (v := ?v3_18) rfl rfl (by kernel_rfl) (by kernel_rfl) (by kernel_rfl) (fun _ _ _ h => h) (Or.inl ⟨by rfl, ?hy3_18⟩) (by assumption) ?r3_18
        case hy3_18 => intro w hSw; (try dsimp only at hSw); first | (go_simp; done) | (go_simp; with_reducible rfl)
        try simp only [Act.put, List.setIfInBounds_toArray, List.set_cons_zero, List.set_cons_succ]
        refine take_d (i := 19) (oi := _) (d := some 36) (v := ?v3_19) rfl rfl (by kernel_rfl) (by kernel_rfl) (by kernel_rfl) (fun _ _ _ h => h) (Or.inl ⟨by rfl, ?hy3_19⟩) (by assumption) ?r3_19
        case hy3_19 => intro w hSw; (try dsimp only at hSw); first | (go_simp; done) | (go_simp; with_reducible rfl)
        try simp only [Act.put, List.setIfInBounds_toArray, List.set_cons_zero, List.set_cons_succ]
        refine take_d (i := 20) (oi := _) (d := some 37) (v := ?v3_20) rfl rfl (by kernel_rfl) (by kernel_rfl) (by kernel_rfl) (fun _ _ _ h => h) (Or.inl ⟨by rfl, ?hy3_20⟩) (by assumption) ?r3_20
        case hy3_20 => intro w hSw; (try dsimp only at hSw); first | (go_simp; done) | (go_simp; with_reducible rfl)
        try simp only [Act.put, List.setIfInBounds_toArray, List.set_cons_zero, List.set_cons_succ]
        refine take_d (i := 21) (oi := _) (d := some 38) (v := ?v3_21) rfl rfl (by kernel_rfl) (by kernel_rfl) (by kernel_rfl) (fun _ _ _ h => h) (Or.inl ⟨by rfl, ?hy3_21⟩) (by assumption) ?r3_21
        case hy3_21 => intro w hSw; (try dsimp only at hSw); first | (go_simp; done) | (go_simp; with_reducible rfl)
        try simp only [Act.put, List.setIfInBounds_toArray, List.set_cons_zero, List.set_cons_succ]
        refine take_d (i := 22) (oi := _) (d := some 39) (v := ?v3_22) rfl rfl (by kernel_rfl) (by kernel_rfl) (by kernel_rfl) (fun _ _ _ h => h) (Or.inl ⟨by rfl, ?hy3_22⟩) (by assumption) ?r3_22
        case hy3_22 => intro w hSw; (try dsimp only at hSw); first | (go_simp; done) | (go_simp; with_reducible rfl)
        try simp only [Act.put, List.setIfInBounds_toArray, List.set_cons_zero, List.set_cons_succ]
        refine take_d (i := 23) (oi := _) (d := some 40) (v := ?v3_23) rfl rfl (by kernel_rfl) (by kernel_rfl) (by kernel_rfl) (fun _ _ _ h => h) (Or.inl ⟨by rfl, ?hy3_23⟩) (by assumption) ?r3_23
        case hy3_23 => intro w hSw; (try dsimp only at hSw); first | (go_simp; done) | (go_simp; with_reducible rfl)
        try simp only [Act.put, List.setIfInBounds_toArray, List.set_cons_zero, List.set_cons_succ]
        refine wpAnyH_done (by kernel_rfl) ?_ _
        clear hHeld2
        have HF : Hid (wsB bs os = false) := by unfold Hid; refine ws_no1 ?_; rw [HCM.out, HD.out]; exact cm_no (by simp only [Bool.and_eq_false_iff]; refine Or.inl (Or.inr ?_); rw [HHD.out]; simp [isW, q2, q3])
        have HB4 := Lib.hid (gr_below HB2.out hg4 (by omega))
        clear hg4 hk4
        go_wp2
        go_ret
        exact ⟨ret_bool HF.out.symm, HB4.out⟩
    · have hge : ¬ (k : Int) < bs.length := by omega
      have ek : k = bs.length := by omega
      have HW1 : Hid (cmB (isW (hdO bs)) [] bs = true) := by unfold Hid; rw [HCM.out, ek, List.drop_length]; rfl
      have HK0 : Hid (BoxC 144 wr (w.heap.size + 1) (waitsA (bs.map Wtr.th ++ (os.take 0).map Wtr.th))) := by unfold Hid; have h := HK.out; rw [ek, List.take_length] at h; simpa using h
      clear HCM HK
      have hm := HM.out.cell
      go_wp2_with fail
      go_loopw [45] (fun i wr => ∃ k : Nat, k ≤ os.length ∧ i = .int .i64 k ∧ cmB isO (bs.map Wtr.th) os = cmB isO (bs.map Wtr.th ++ (os.take k).map Wtr.th) (os.drop k) ∧ BoxC 144 wr (w.heap.size + 1) (waitsA (bs.map Wtr.th ++ (os.take k).map Wtr.th)) ∧ BoxC 31 wr w.heap.size #[.slice A zs.length ca, .int .i64 cnt, .slice B bs.length cb, .slice O os.length co] ∧ Below w.heap.size w wr) (fun i _ => os.length - (intOf i).toNat)
      case atStart => exact ⟨0, Nat.zero_le _, rfl, (by simp), HK0.out, HM.out, HB.out⟩
      case round =>
        clear HB HM HK0 hm hk hge ek
        obtain ⟨k, hk, rfl, hcm, hkb, hmb, hbl⟩ := hrel
        have HB := Lib.hid hbl; have HCM := Lib.hid hcm; have HK := Lib.hid hkb; have HM := Lib.hid hmb
        clear hbl hcm hkb hmb
        by_cases hlt : k < os.length
        · have hlt' : (k : Int) < os.length := by omega
          obtain ⟨x, hx⟩ : ∃ x, os[k]? = some x := ⟨_, List.getElem?_eq_getElem hlt⟩
          obtain ⟨b, o, rfl, hrow⟩ := (HC.out.below HB.out).row Wtr.len k x hx
          have HD := Lib.hid (dropW hx)
          have HTK := Lib.hid (takeW hx)
          clear hx
          obtain ⟨th, op, arg⟩ := x
          have HRW : Hid (wr.rangeAt b (o + k * 3) [.int .i64 th, .int .i64 op, .int .i64 arg]) := hrow
          clear hrow
          have HX := Lib.hid (BoxC.new 35 wr #[.int .i64 0, .int .i64 0, .int .i64 0])
          have hz : w.heap.size + 1 < wr.heap.size := HK.out.lt
          go_upto_region 12 with (first | (refine wpList_load_mid rfl 35 _ rfl b (o + k * 3) ?_ _ _ HRW.out Try.underlying35 rfl info_iWaiter ?_; rfl) | (refine wpList_store_row rfl 35 _ _ rfl wr.heap.size _ rfl rfl 35 _ HX.out info_iWaiter rfl (one3w _ _ _) ?_))
          have HX2 := Lib.hid (HX.out.mrow #[.int .i64 th, .int .i64 op, .int .i64 arg])
          have HK2 := Lib.hid ((HK.out.below (below_alloc wr (.cells #[.int .i64 0, .int .i64 0, .int .i64 0] 35))).mrowO (b := wr.heap.size) (by omega) #[.int .i64 th, .int .i64 op, .int .i64 arg])
          have HM2 := Lib.hid ((HM.out.below (below_alloc wr (.cells #[.int .i64 0, .int .i64 0, .int .i64 0] 35))).mrowO (b := wr.heap.size) (by omega) #[.int .i64 th, .int .i64 op, .int .i64 arg])
          have HB2 := Lib.hid (below_setRow (below_trans HB.out (below_alloc wr (.cells #[.int .i64 0, .int .i64 0, .int .i64 0] 35))) (show w.heap.size ≤ wr.heap.size by omega) #[.int .i64 th, .int .i64 op, .int .i64 arg])
          generalize (wr.alloc (.cells #[.int .i64 0, .int .i64 0, .int .i64 0] 35)).setRow wr.heap.size #[.int .i64 th, .int .i64 op, .int .i64 arg] = w2 at HX2 HK2 HM2 HB2 ⊢
          generalize wr.heap.size = kx at HX2 hz ⊢
          clear HX HB HRW HK HM

          cases QC : (wtB th op arg && !((bs.map Wtr.th ++ (os.take k).map Wtr.th).contains th))
          · have hx2 := HX2.out.cell
            go_wp2_with fail
            refine (comes_any _ (bs.map Wtr.th ++ (os.take k).map Wtr.th) _ _ _ _ HK2.out).mono ?_
            rintro e w4 ⟨rfl, hg4, hk4⟩
            rw [QC]
            have hx4 := (HX2.out.mgrown hg4 (by simp <;> omega)).cell
            have HF : Hid (wsB bs os = false) := by unfold Hid; rw [ws_yes1 HW1.out, HCM.out, HD.out]; exact cm_no (by simp only [Bool.and_eq_false_iff] at QC ⊢; exact QC.elim (fun h => Or.inl (Or.inl h)) (fun h => Or.inr h))
            have HB4 := Lib.hid (HB2.out.grown hg4 HB2.out.size (by intro j hj; cases hj; omega))
            clear hg4 hk4
            go_wp2
            go_ret
            exact ⟨ret_bool HF.out.symm, HB4.out⟩
          by_cases q1 : op = 3
          rotate_left
          · have hx2 := HX2.out.cell
            go_wp2_with fail
            refine (comes_any _ (bs.map Wtr.th ++ (os.take k).map Wtr.th) _ _ _ _ HK2.out).mono ?_
            rintro e w4 ⟨rfl, hg4, hk4⟩
            rw [QC]
            have hx4 := (HX2.out.mgrown hg4 (by simp <;> omega)).cell
            have HF : Hid (wsB bs os = false) := by unfold Hid; rw [ws_yes1 HW1.out, HCM.out, HD.out]; exact cm_no (by simp only [Bool.and_eq_false_iff]; refine Or.inl (Or.inr ?_); simp [isO, q1])
            have HB4 := Lib.hid (HB2.out.grown hg4 HB2.out.size (by intro j hj; cases hj; omega))
            clear hg4 hk4
            go_wp2
            go_ret
            exact ⟨ret_bool HF.out.symm, HB4.out⟩
          subst q1
          have hx2 := HX2.out.cell
          go_wp2_with fail
          refine (comes_any _ (bs.map Wtr.th ++ (os.take k).map Wtr.th) _ _ _ _ HK2.out).mono ?_
          rintro e w4 ⟨rfl, hg4, hk4⟩
          rw [QC]
          have hx4 := (HX2.out.mgrown hg4 (by simp <;> omega)).cell
          have HN : Hid (cmB isO (bs.map Wtr.th) os = cmB isO (bs.map Wtr.th ++ (os.take (k + 1)).map Wtr.th) (os.drop (k + 1))) := by
            unfold Hid; rw [HCM.out, HD.out, HTK.out, ← List.append_assoc]; exact cm_yes (by simp only [Bool.and_eq_true] at QC ⊢; exact ⟨⟨QC.1, rfl⟩, QC.2⟩)
          rw [if_pos QC, List.append_assoc, ← HTK.out] at hk4
          have HK4 := Lib.hid hk4
          have HM4 := Lib.hid (HM2.out.mgrown hg4 (by simp <;> omega))
          have HB4 := Lib.hid (HB2.out.grown hg4 HB2.out.size (by intro j hj; cases hj; omega))
          clear hg4 hk4
          go_wp2
          go_roundw
          case rel => exact ⟨k + 1, by omega, by go_num, HN.out, HK4.out, HM4.out, HB4.out⟩
          case measure => simp [intOf]; omega
        · have hge : ¬ (k : Int) < os.length := by omega
          have HF : Hid (wsB bs os = true) := by unfold Hid; rw [ws_yes1 HW1.out, HCM.out, show k = os.length from by omega, List.drop_length]; rfl
          go_wp2
          go_ret
          exact ⟨ret_bool HF.out.symm, HB.out⟩
end Go.Proofs.Ythianfhfamkcmaa
