/-
  Models (chapter 11): the model's ModelOK.
-/
import Derived.Test.YthianfhfamkcmaaJ12
import Derived.Test.YthianfhfamkcmaaJ07
namespace Go.Proofs.Ythianfhfamkcmaa
open Go.RowKit

theorem rd_oneM (w : World) (x : Int) (k : Nat) (hk : w.heap.size = k) : Rd (w.alloc (.cells #[.int .i64 x] 3)) (some ⟨k, 0, none⟩) [x] := by
  subst hk
  intro i hi
  obtain rfl : i = 0 := by simp at hi; omega
  exact ⟨_, 0, rfl, by simp⟩
theorem wpList_append_oneM {ops : Array Oper} {rest : List Oper} {o : Oper} {a : Act} {w : World} {Q : Exit → Act → World → Prop}
    (hgd : o.guard = none) (s x : Operand) (ho : o.op = Op.call { callee := Callee.builtin Builtin.append, args := #[s, x], argTypes := #[22, 22] })
    (base : Nat) (C : Option Addr) (d : Nat) (xs : List Int) (y : Int) (hs : a.eval s = .slice C xs.length d) (hx : a.eval x = .slice (some ⟨w.heap.size, 0, none⟩) 1 1)
    (hown : NewA base w C d xs) (hlen : xs.length ≤ 1048576) (hbase : base ≤ w.heap.size) (L : List Int) (hL : L = xs ++ [y])
    (h : ∀ C' d' w', NewA base w' C' d' L → (w.alloc (.cells #[.int .i64 y] 3)).grownBy w' (Value.ownBlock (.slice C xs.length d)) → wpList Try.prog ops Q rest (a.put o.dst (.slice C' L.length d')) w') :
    wpList Try.prog ops Q (o :: rest) a (w.alloc (.cells #[.int .i64 y] 3)) := by
  subst hL
  obtain ⟨i0, hi, hz0, hz1, hz2⟩ := info_parts Try.infoInt
  refine wpList_append_rd _ hgd s x 22 ho base 3 i0 (.int .i64 0) 8 Try.underlying22 hi hz0 hz1 hz2 rfl _ xs hs (World.ownsRow.alloc hown _) _ _ [y] hx (rd_oneM _ _ _ rfl) ?_ ?_ (by rw [size_alloc]; omega) ?_
  · show (xs.length + 1) * 8 ≤ _; omega
  · unfold maxLen; show xs.length + 1 ≤ _; omega
  · intro C' d' w' h1 h2
    exact h C' d' w' h1 h2

theorem in_no {s : List Int} {k : Nat} {v n : Int} (h : s[k]? = some v) (hv : ¬ v = n) : (s.drop k).contains n = (s.drop (k + 1)).contains n := by
  rw [dropW h, List.contains_cons, show (n == v) = false from by simp; exact fun e => hv e.symm]; rfl
theorem in_yes {s : List Int} {k : Nat} {v n : Int} (h : s[k]? = some v) (hv : v = n) : (s.drop k).contains n = true := by
  rw [dropW h, List.contains_cons, hv]; simp
set_option maxHeartbeats 2000000 in
theorem l10In_any (C : Option Addr) (d : Nat) (s : List Int) (n : Int) (w : World) (hn : s.length ≤ 1048576) (hC : Rd w C s) :
    Calls Try.prog 104 #[.slice C s.length d, .int .i64 n] w fun e w' => e = .returned (.bool (s.contains n)) ∧ Below w.heap.size w w' := by
  have HA := Lib.hid hC; clear hC
  go_enter Try.func104, Try.ntmps104
  go_wp2_with fail
  go_loopw [5] (fun i wr => ∃ k : Nat, k ≤ s.length ∧ i = .int .i64 k ∧ s.contains n = (s.drop k).contains n ∧ Below w.heap.size w wr) (fun i _ => s.length - (intOf i).toNat)
  case atStart => exact ⟨0, Nat.zero_le _, rfl, rfl, Below.refl _ _⟩
  case round =>
    obtain ⟨k, hk, rfl, hall, hbl⟩ := hrel
    have HL := Lib.hid hall; have HB := Lib.hid hbl
    clear hall hbl
    by_cases hlt : k < s.length
    · have hlt' : (k : Int) < s.length := by omega
      obtain ⟨v, hv⟩ : ∃ v, s[k]? = some v := ⟨_, List.getElem?_eq_getElem hlt⟩
      obtain ⟨b, o, rfl, hc⟩ := HA.out k hlt
      have HC : Hid (wr.cell? ⟨b, o + k, none⟩ = some (.int .i64 v)) := by
        unfold Hid
        have h1 := cell_keep HB.out hc
        rw [h1]
        congr 2
        rw [List.getD_eq_getElem?_getD, hv]; rfl
      have HV := Lib.hid hv
      clear hc hv
      have hc := HC.out
      by_cases q : v = n
      · have HN := Lib.hid (in_yes HV.out q)
        subst q
        go_wp2
        go_ret
        exact ⟨ret_bool (by rw [HL.out, HN.out]), HB.out⟩
      · have HN := Lib.hid (in_no HV.out q)
        go_wp2
        go_roundw
        case rel => exact ⟨k + 1, by omega, by go_num, HL.out.trans HN.out, HB.out⟩
        case measure => simp [intOf]; omega
    · have hge : ¬ (k : Int) < s.length := by omega
      have HF : Hid (s.contains n = false) := by unfold Hid; rw [HL.out, show k = s.length from by omega, List.drop_length]; rfl
      go_wp2
      go_ret
      exact ⟨ret_bool (by have h := HF.out; simp only [List.contains_eq_mem] at h ⊢; exact h.symm), HB.out⟩

/-- The model's way: those that offer are held against those that wait alone. -/
def csB (s : List Int) (os : List Wtr) : Bool := os.all (fun x => wtB x.th x.op x.arg && isO x && !(s.contains x.th))
theorem cs_cm (s : List Int) (os : List Wtr) (h : os.length ≤ 1) : cmB isO s os = csB s os := by
  match os, h with
  | [], _ => rfl
  | [x], _ => simp [cmB, csB]
theorem isW_in (o : Int) (x : Wtr) : isW o x = (x.op == o && inB x.op 1 2) := by
  unfold isW
  congr 1
  rw [Bool.eq_iff_iff]
  simp [inB]
  omega
theorem md_a {zs : List Int} {cnt : Int} {bs os : List Wtr} (h : cmB (isW (hdO bs)) [] bs = false) : mdB zs cnt bs os = false := by unfold mdB; rw [ws_no1 h]; simp
theorem md_b {zs : List Int} {cnt : Int} {bs os : List Wtr} (h : csB (bs.map Wtr.th) os = false) : mdB zs cnt bs os = false := by
  by_cases hl : os.length ≤ 1
  · unfold mdB wsB; rw [cs_cm _ _ hl, h]; simp
  · exact md_3 hl
theorem md_c {zs : List Int} {cnt : Int} {bs os : List Wtr} (h1 : cmB (isW (hdO bs)) [] bs = true) (h2 : csB (bs.map Wtr.th) os = true) (h3 : zs.all (fun v => inB v 0 999) = true) (h4 : os.length ≤ 1) (h5 : zs.length ≤ 400) : mdB zs cnt bs os = inB cnt 0 1000000000 := by
  unfold mdB; rw [decide_eq_true h4, decide_eq_true h5, h3, ws_yes1 h1, cs_cm _ _ h4, h2]; simp
theorem cs_no {s : List Int} {os : List Wtr} {k : Nat} {x : Wtr} (h : os.drop k = x :: os.drop (k + 1)) (hx : (wtB x.th x.op x.arg && isO x && !(s.contains x.th)) = false) : csB s (os.drop k) = false := by rw [h, csB, List.all_cons, hx]; rfl
theorem cs_yes {s : List Int} {os : List Wtr} {k : Nat} {x : Wtr} (h : os.drop k = x :: os.drop (k + 1)) (hx : (wtB x.th x.op x.arg && isO x && !(s.contains x.th)) = true) : csB s (os.drop k) = csB s (os.drop (k + 1)) := by rw [h, csB, List.all_cons, hx]; rfl

set_option maxHeartbeats 1600000 in
set_option maxRecDepth 100000 in
theorem specModelOK_any (A B O : Option Addr) (ca cb co : Nat) (zs : List Int) (bs os : List Wtr) (cnt : Int) (w : World) (hz : zs.length ≤ 1048576) (ht : bs.length ≤ 1048576) (hc : os.length ≤ 1048576) (hA : Rd w A zs) (hT : RdR Wtr.cs w B bs) (hC : RdR Wtr.cs w O os) :
    Calls Try.prog 47 #[.agg #[.slice A zs.length ca, .int .i64 cnt, .slice B bs.length cb, .slice O os.length co]] w fun e w' => e = .returned (.bool (mdB zs cnt bs os)) ∧ Below w.heap.size w w' := by
  have HA := Lib.hid hA; have HT := Lib.hid hT; have HC := Lib.hid hC; clear hA hT hC
  go_enter Try.func47, Try.ntmps47
  go_wp2_with fail
  go_loopw [3, 4] (fun sv i wr => ∃ (k : Nat) (C : Option Addr) (d : Nat) (ss : List Int), k ≤ bs.length ∧ i = .int .i64 k ∧ sv = .slice C ss.length d ∧ ss = (bs.take k).map Wtr.th ∧ NewA (w.heap.size + 1) wr C d ss ∧ cmB (isW (hdO bs)) [] bs = cmB (isW (hdO bs)) ss (bs.drop k) ∧ BoxC 31 wr w.heap.size #[.slice A zs.length ca, .int .i64 cnt, .slice B bs.length cb, .slice O os.length co] ∧ Below w.heap.size w wr) (fun _ i _ => bs.length - (intOf i).toNat)
  case atStart => exact ⟨0, _, _, [], Nat.zero_le _, rfl, rfl, rfl, own_empty (w.alloc (.cells #[.slice A zs.length ca, .int .i64 cnt, .slice B bs.length cb, .slice O os.length co] 31)) (w.heap.size + 1) (w.heap.size + 1) _ (by simp) (Nat.le_refl _), rfl, (BoxC.new 31 w #[.slice A zs.length ca, .int .i64 cnt, .slice B bs.length cb, .slice O os.length co]).below (below_alloc _ _), below_alloc2 _ _ _⟩
  case round =>
    obtain ⟨k, C, d, ss, hk, rfl, rfl, hss, hown, hcm, hmb, hbl⟩ := hrel
    have HSS := Lib.hid hss; clear hss
    have HB := Lib.hid hbl; have HCM := Lib.hid hcm; have HN := Lib.hid hown; have HM := Lib.hid hmb
    clear hbl hcm hown hmb
    have hm := HM.out.cell
    by_cases hlt : k < bs.length
    · have hlt' : (k : Int) < bs.length := by omega
      obtain ⟨x, hx⟩ : ∃ x, bs[k]? = some x := ⟨_, List.getElem?_eq_getElem hlt⟩
      obtain ⟨b, o, rfl, hrow⟩ := (HT.out.below HB.out).row Wtr.len k x hx
      obtain ⟨x0, hx0⟩ : ∃ x0, bs[0]? = some x0 := ⟨_, List.getElem?_eq_getElem (by omega)⟩
      obtain ⟨b', o', heq, hrow0⟩ := HT.out.row Wtr.len 0 x0 hx0
      simp only [Option.some.injEq, Addr.mk.injEq, and_true] at heq
      obtain ⟨rfl, rfl⟩ := heq
      have HHD := Lib.hid (hdO_at hx0)
      obtain ⟨th0, op0, arg0⟩ := x0
      have H00 : Hid (w.cell? ⟨b, o + 1, none⟩ = some (.int .i64 op0)) := by unfold Hid; simpa using hrow0 1 _ rfl
      clear hx0 hrow0
      have hpos : 0 < bs.length := by omega
      have HD := Lib.hid (dropW hx)
      obtain ⟨L, hL⟩ : ∃ L, L = ss ++ [x.th] := ⟨_, rfl⟩
      have HL := Lib.hid hL
      have HTK : Hid (L = (bs.take (k + 1)).map Wtr.th) := by unfold Hid; rw [hL, HSS.out, takeW hx]
      have HLN : Hid (ss.length ≤ 1048576) := by unfold Hid; rw [HSS.out, List.length_map, List.length_take]; omega
      clear hL
      clear hx
      obtain ⟨th, op, arg⟩ := x
      have HRW : Hid (wr.rangeAt b (o + k * 3) [.int .i64 th, .int .i64 op, .int .i64 arg]) := hrow
      clear hrow
      have HX := Lib.hid (BoxC.new 35 wr #[.int .i64 0, .int .i64 0, .int .i64 0])
      have hz0 : w.heap.size < wr.heap.size := HM.out.lt
      go_upto_region 6 with (first | (refine wpList_load_mid rfl 35 _ rfl b (o + k * 3) ?_ _ _ HRW.out Try.underlying35 rfl info_iWaiter ?_; rfl) | (refine wpList_store_row rfl 35 _ _ rfl wr.heap.size _ rfl rfl 35 _ HX.out info_iWaiter rfl (one3w _ _ _) ?_))
      have HX2 := Lib.hid (HX.out.mrow #[.int .i64 th, .int .i64 op, .int .i64 arg])
      have hbx : Below wr.heap.size wr ((wr.alloc (.cells #[.int .i64 0, .int .i64 0, .int .i64 0] 35)).setRow wr.heap.size #[.int .i64 th, .int .i64 op, .int .i64 arg]) := below_setRow (below_alloc wr (.cells #[.int .i64 0, .int .i64 0, .int .i64 0] 35)) (Nat.le_refl _) #[.int .i64 th, .int .i64 op, .int .i64 arg]
      have HN2 := Lib.hid (NewA.below HN.out hbx)
      have HM2 := Lib.hid (HM.out.below hbx)
      have HB2 := Lib.hid (below_trans HB.out hbx)
      generalize (wr.alloc (.cells #[.int .i64 0, .int .i64 0, .int .i64 0] 35)).setRow wr.heap.size #[.int .i64 th, .int .i64 op, .int .i64 arg] = w2 at HX2 HN2 HM2 HB2 ⊢
      generalize wr.heap.size = kx at HX2 hz0 ⊢
      clear HX HB HRW HN HM hm hbx
      cases QW : wtB th op arg
      · refine wp_region_held_drew (S := (fun w' => (∀ j : Nat, w'.cell? ⟨kx, j, none⟩ = (#[.int .i64 th, .int .i64 op, .int .i64 arg] : Array Value)[j]?) ∧ (∀ j : Nat, w'.cell? ⟨w.heap.size, j, none⟩ = (#[.slice A zs.length ca, .int .i64 cnt, .slice (some ⟨b, o, none⟩) bs.length cb, .slice O os.length co] : Array Value)[j]?) ∧ w'.cell? ⟨b, o + 1, none⟩ = some (.int .i64 op0))) (by kernel_rfl) ?_ (fun hHeld => ?_)
        · exact ⟨HX2.out.cell, HM2.out.cell, cell_keep HB2.out H00.out⟩
        refine take_d (i := 0) (oi := _) (d := some 21) (v := ?v1_0) rfl rfl (by kernel_rfl) (by kernel_rfl) (by kernel_rfl) (fun _ _ _ h => h) (Or.inl ⟨by rfl, ?hy1_0⟩) (by assumption) ?r1_0
        case hy1_0 => intro w hSw; (try dsimp only at hSw); first | (go_simp; done) | (go_simp; with_reducible rfl)
        try simp only [Act.put, List.setIfInBounds_toArray, List.set_cons_zero, List.set_cons_succ]
        refine wpAnyH_ready (rs := [1]) (by kernel_rfl) (by simp) ?_
        refine AllReadyH.cons (o := _) rfl (fun K hK => ?_) AllReadyH.nil
        go_simp
        go_at_call 48; (with_reducible refine (specWaiter_any _ _ _ _).mono ?_); rintro e w4 ⟨rfl, hb4⟩; rw [QW]
        refine hK.out _ _ ?_ (fun hHeld1 => ?_)
        · exact ⟨(HX2.out.below (below_drew_trans hb4)).cell, (HM2.out.below (below_drew_trans hb4)).cell, cell_keep (below_trans HB2.out (below_drew_trans hb4)) H00.out⟩
        clear hK K hHeld
        try simp only [Act.put, List.setIfInBounds_toArray, List.set_cons_zero, List.set_cons_succ]
        refine take_d (i := 2) (oi := _) (d := some 23) (v := ?v1_2) rfl rfl (by kernel_rfl) (by kernel_rfl) (by kernel_rfl) (fun _ _ _ h => h) (Or.inl ⟨by rfl, ?hy1_2⟩) (by assumption) ?r1_2
        case hy1_2 => intro w hSw; (try dsimp only at hSw); first | (go_simp; done) | (go_simp; with_reducible rfl)
        try simp only [Act.put, List.setIfInBounds_toArray, List.set_cons_zero, List.set_cons_succ]
        refine take_d (i := 3) (oi := _) (d := some 24) (v := ?v1_3) rfl rfl (by kernel_rfl) (by kernel_rfl) (by kernel_rfl) (fun _ _ _ h => h) (Or.inl ⟨by rfl, ?hy1_3⟩) (by assumption) ?r1_3
        case hy1_3 => intro w hSw; (try dsimp only at hSw); first | (go_simp; done) | (go_simp; with_reducible rfl)
        try simp only [Act.put, List.setIfInBounds_toArray, List.set_cons_zero, List.set_cons_succ]
        refine take_d (i := 4) (oi := _) (d := some 25) (v := undef) rfl rfl (by kernel_rfl) (by kernel_rfl) (by kernel_rfl) (fun _ _ _ h => h) (Or.inr ⟨by kernel_rfl, rfl⟩) (by assumption) ?_
        try simp only [Act.put, List.setIfInBounds_toArray, List.set_cons_zero, List.set_cons_succ]
        refine take_d (i := 5) (oi := _) (d := some 26) (v := undef) rfl rfl (by kernel_rfl) (by kernel_rfl) (by kernel_rfl) (fun _ _ _ h => h) (Or.inr ⟨by kernel_rfl, rfl⟩) (by assumption) ?_
        try simp only [Act.put, List.setIfInBounds_toArray, List.set_cons_zero, List.set_cons_succ]
        refine take_d (i := 6) (oi := _) (d := some 27) (v := undef) rfl rfl (by kernel_rfl) (by kernel_rfl) (by kernel_rfl) (fun _ _ _ h => h) (Or.inr ⟨by kernel_rfl, rfl⟩) (by assumption) ?_
        try simp only [Act.put, List.setIfInBounds_toArray, List.set_cons_zero, List.set_cons_succ]
        refine take_d (i := 7) (oi := _) (d := some 28) (v := undef) rfl rfl (by kernel_rfl) (by kernel_rfl) (by kernel_rfl) (fun _ _ _ h => h) (Or.inr ⟨by kernel_rfl, rfl⟩) (by assumption) ?_
        try simp only [Act.put, List.setIfInBounds_toArray, List.set_cons_zero, List.set_cons_succ]
        refine take_d (i := 8) (oi := _) (d := some 29) (v := ?v1_8) rfl rfl (by kernel_rfl) (by kernel_rfl) (by kernel_rfl) (fun _ _ _ h => h) (Or.inl ⟨by rfl, ?hy1_8⟩) (by assumption) ?r1_8
        case hy1_8 => intro w hSw; (try dsimp only at hSw); first | (go_simp; done) | (go_simp; with_reducible rfl)
        try simp only [Act.put, List.setIfInBounds_toArray, List.set_cons_zero, List.set_cons_succ]
        refine take_d (i := 9) (oi := _) (d := some 30) (v := ?v1_9) rfl rfl (by kernel_rfl) (by kernel_rfl) (by kernel_rfl) (fun _ _ _ h => h) (Or.inl ⟨by rfl, ?hy1_9⟩) (by assumption) ?r1_9
        case hy1_9 => intro w hSw; (try dsimp only at hSw); first | (go_simp; done) | (go_simp; with_reducible rfl)
        try simp only [Act.put, List.setIfInBounds_toArray, List.set_cons_zero, List.set_cons_succ]
        refine take_d (i := 10) (oi := _) (d := some 31) (v := undef) rfl rfl (by kernel_rfl) (by kernel_rfl) (by kernel_rfl) (fun _ _ _ h => h) (Or.inr ⟨by kernel_rfl, rfl⟩) (by assumption) ?_
        try simp only [Act.put, List.setIfInBounds_toArray, List.set_cons_zero, List.set_cons_succ]
        refine take_d (i := 11) (oi := _) (d := some 32) (v := undef) rfl rfl (by kernel_rfl) (by kernel_rfl) (by kernel_rfl) (fun _ _ _ h => h) (Or.inr ⟨by kernel_rfl, rfl⟩) (by assumption) ?_
        try simp only [Act.put, List.setIfInBounds_toArray, List.set_cons_zero, List.set_cons_succ]
        refine take_d (i := 12) (oi := _) (d := some 33) (v := undef) rfl rfl (by kernel_rfl) (by kernel_rfl) (by kernel_rfl) (fun _ _ _ h => h) (Or.inr ⟨by kernel_rfl, rfl⟩) (by assumption) ?_
        try simp only [Act.put, List.setIfInBounds_toArray, List.set_cons_zero, List.set_cons_succ]
        refine take_d (i := 13) (oi := _) (d := some 34) (v := undef) rfl rfl (by kernel_rfl) (by kernel_rfl) (by kernel_rfl) (fun _ _ _ h => h) (Or.inr ⟨by kernel_rfl, rfl⟩) (by assumption) ?_
        try simp only [Act.put, List.setIfInBounds_toArray, List.set_cons_zero, List.set_cons_succ]
        refine take_d (i := 14) (oi := _) (d := some 35) (v := undef) rfl rfl (by kernel_rfl) (by kernel_rfl) (by kernel_rfl) (fun _ _ _ h => h) (Or.inr ⟨by kernel_rfl, rfl⟩) (by assumption) ?_
        try simp only [Act.put, List.setIfInBounds_toArray, List.set_cons_zero, List.set_cons_succ]
        refine take_d (i := 15) (oi := _) (d := some 36) (v := undef) rfl rfl (by kernel_rfl) (by kernel_rfl) (by kernel_rfl) (fun _ _ _ h => h) (Or.inr ⟨by kernel_rfl, rfl⟩) (by assumption) ?_
        try simp only [Act.put, List.setIfInBounds_toArray, List.set_cons_zero, List.set_cons_succ]
        refine take_d (i := 16) (oi := _) (d := some 37) (v := undef) rfl rfl (by kernel_rfl) (by kernel_rfl) (by kernel_rfl) (fun _ _ _ h => h) (Or.inr ⟨by kernel_rfl, rfl⟩) (by assumption) ?_
        try simp only [Act.put, List.setIfInBounds_toArray, List.set_cons_zero, List.set_cons_succ]
        refine take_d (i := 17) (oi := _) (d := some 38) (v := undef) rfl rfl (by kernel_rfl) (by kernel_rfl) (by kernel_rfl) (fun _ _ _ h => h) (Or.inr ⟨by kernel_rfl, rfl⟩) (by assumption) ?_
        try simp only [Act.put, List.setIfInBounds_toArray, List.set_cons_zero, List.set_cons_succ]
        refine take_d (i := 18) (oi := _) (d := some 39) (v := ?v1_18) rfl rfl (by kernel_rfl) (by kernel_rfl) (by kernel_rfl) (fun _ _ _ h => h) (Or.inl ⟨by rfl, ?hy1_18⟩) (by assumption) ?r1_18
        case hy1_18 => intro w hSw; (try dsimp only at hSw); first | (go_simp; done) | (go_simp; with_reducible rfl)
        try simp only [Act.put, List.setIfInBounds_toArray, List.set_cons_zero, List.set_cons_succ]
        refine take_d (i := 19) (oi := _) (d := some 40) (v := ?v1_19) rfl rfl (by kernel_rfl) (by kernel_rfl) (by kernel_rfl) (fun _ _ _ h => h) (Or.inl ⟨by rfl, ?hy1_19⟩) (by assumption) ?r1_19
        case hy1_19 => intro w hSw; (try dsimp only at hSw); first | (go_simp; done) | (go_simp; with_reducible rfl)
        try simp only [Act.put, List.setIfInBounds_toArray, List.set_cons_zero, List.set_cons_succ]
        refine take_d (i := 20) (oi := _) (d := some 41) (v := undef) rfl rfl (by kernel_rfl) (by kernel_rfl) (by kernel_rfl) (fun _ _ _ h => h) (Or.inr ⟨by kernel_rfl, rfl⟩) (by assumption) ?_
        try simp only [Act.put, List.setIfInBounds_toArray, List.set_cons_zero, List.set_cons_succ]
        refine take_d (i := 21) (oi := _) (d := some 42) (v := undef) rfl rfl (by kernel_rfl) (by kernel_rfl) (by kernel_rfl) (fun _ _ _ h => h) (Or.inr ⟨by kernel_rfl, rfl⟩) (by assumption) ?_
        try simp only [Act.put, List.setIfInBounds_toArray, List.set_cons_zero, List.set_cons_succ]
        refine take_d (i := 22) (oi := _) (d := some 43) (v := undef) rfl rfl (by kernel_rfl) (by kernel_rfl) (by kernel_rfl) (fun _ _ _ h => h) (Or.inr ⟨by kernel_rfl, rfl⟩) (by assumption) ?_
        try simp only [Act.put, List.setIfInBounds_toArray, List.set_cons_zero, List.set_cons_succ]
        refine take_d (i := 23) (oi := _) (d := some 44) (v := undef) rfl rfl (by kernel_rfl) (by kernel_rfl) (by kernel_rfl) (fun _ _ _ h => h) (Or.inr ⟨by kernel_rfl, rfl⟩) (by assumption) ?_
        try simp only [Act.put, List.setIfInBounds_toArray, List.set_cons_zero, List.set_cons_succ]
        refine take_d (i := 24) (oi := _) (d := some 45) (v := ?v1_24) rfl rfl (by kernel_rfl) (by kernel_rfl) (by kernel_rfl) (fun _ _ _ h => h) (Or.inl ⟨by rfl, ?hy1_24⟩) (by assumption) ?r1_24
        case hy1_24 => intro w hSw; (try dsimp only at hSw); first | (go_simp; done) | (go_simp; with_reducible rfl)
        try simp only [Act.put, List.setIfInBounds_toArray, List.set_cons_zero, List.set_cons_succ]
        refine wpAnyH_done (by kernel_rfl) ?_ _
        clear hHeld1
        have HF : Hid (mdB zs cnt bs os = false) := by unfold Hid; refine md_a ?_; rw [HCM.out, HD.out]; exact cm_no (by simp only; rw [QW]; rfl)
        have HB4 := Lib.hid (below_trans HB2.out (below_drew_trans hb4))
        clear hb4
        go_wp2
        go_ret
        exact ⟨ret_bool HF.out.symm, HB4.out⟩
      cases q2 : inB op 1 2
      · refine wp_region_held_drew (S := (fun w' => (∀ j : Nat, w'.cell? ⟨kx, j, none⟩ = (#[.int .i64 th, .int .i64 op, .int .i64 arg] : Array Value)[j]?) ∧ (∀ j : Nat, w'.cell? ⟨w.heap.size, j, none⟩ = (#[.slice A zs.length ca, .int .i64 cnt, .slice (some ⟨b, o, none⟩) bs.length cb, .slice O os.length co] : Array Value)[j]?) ∧ w'.cell? ⟨b, o + 1, none⟩ = some (.int .i64 op0))) (by kernel_rfl) ?_ (fun hHeld => ?_)
        · exact ⟨HX2.out.cell, HM2.out.cell, cell_keep HB2.out H00.out⟩
        refine take_d (i := 0) (oi := _) (d := some 21) (v := ?v2_0) rfl rfl (by kernel_rfl) (by kernel_rfl) (by kernel_rfl) (fun _ _ _ h => h) (Or.inl ⟨by rfl, ?hy2_0⟩) (by assumption) ?r2_0
        case hy2_0 => intro w hSw; (try dsimp only at hSw); first | (go_simp; done) | (go_simp; with_reducible rfl)
        try simp only [Act.put, List.setIfInBounds_toArray, List.set_cons_zero, List.set_cons_succ]
        refine wpAnyH_ready (rs := [1]) (by kernel_rfl) (by simp) ?_
        refine AllReadyH.cons (o := _) rfl (fun K hK => ?_) AllReadyH.nil
        go_simp
        go_at_call 48; (with_reducible refine (specWaiter_any _ _ _ _).mono ?_); rintro e w4 ⟨rfl, hb4⟩; rw [QW]
        refine hK.out _ _ ?_ (fun hHeld1 => ?_)
        · exact ⟨(HX2.out.below (below_drew_trans hb4)).cell, (HM2.out.below (below_drew_trans hb4)).cell, cell_keep (below_trans HB2.out (below_drew_trans hb4)) H00.out⟩
        clear hK K hHeld
        try simp only [Act.put, List.setIfInBounds_toArray, List.set_cons_zero, List.set_cons_succ]
        refine take_d (i := 2) (oi := _) (d := some 23) (v := ?v2_2) rfl rfl (by kernel_rfl) (by kernel_rfl) (by kernel_rfl) (fun _ _ _ h => h) (Or.inl ⟨by rfl, ?hy2_2⟩) (by assumption) ?r2_2
        case hy2_2 => intro w hSw; (try dsimp only at hSw); first | (go_simp; done) | (go_simp; with_reducible rfl)
        try simp only [Act.put, List.setIfInBounds_toArray, List.set_cons_zero, List.set_cons_succ]
        refine take_d (i := 3) (oi := _) (d := some 24) (v := ?v2_3) rfl rfl (by kernel_rfl) (by kernel_rfl) (by kernel_rfl) (fun _ _ _ h => h) (Or.inl ⟨by rfl, ?hy2_3⟩) (by assumption) ?r2_3
        case hy2_3 => intro w hSw; (try dsimp only at hSw); first | (go_simp; done) | (go_simp; with_reducible rfl)
        try simp only [Act.put, List.setIfInBounds_toArray, List.set_cons_zero, List.set_cons_succ]
        refine take_d (i := 4) (oi := _) (d := some 25) (v := ?v2_4) rfl rfl (by kernel_rfl) (by kernel_rfl) (by kernel_rfl) (fun _ _ _ h => h) (Or.inl ⟨by rfl, ?hy2_4⟩) (by assumption) ?r2_4
        case hy2_4 => intro w hSw; (try dsimp only at hSw); first | (go_simp; done) | (go_simp; with_reducible rfl)
        try simp only [Act.put, List.setIfInBounds_toArray, List.set_cons_zero, List.set_cons_succ]
        refine take_d (i := 5) (oi := _) (d := some 26) (v := ?v2_5) rfl rfl (by kernel_rfl) (by kernel_rfl) (by kernel_rfl) (fun _ _ _ h => h) (Or.inl ⟨by rfl, ?hy2_5⟩) (by assumption) ?r2_5
        case hy2_5 => intro w hSw; (try dsimp only at hSw); first | (go_simp; done) | (go_simp; with_reducible rfl)
        try simp only [Act.put, List.setIfInBounds_toArray, List.set_cons_zero, List.set_cons_succ]
        refine wpAnyH_ready (rs := [6]) (by kernel_rfl) (by simp) ?_
        refine AllReadyH.cons (o := _) rfl (fun K hK => ?_) AllReadyH.nil
        go_simp
        go_at_call 102; (with_reducible refine (l01In_any _ _ _ _).mono ?_); rintro e w' ⟨rfl, rfl⟩; rw [q2]
        refine hK.out _ _ ?_ (fun hHeld6 => ?_)
        · exact hHeld1
        clear hK K hHeld1
        try simp only [Act.put, List.setIfInBounds_toArray, List.set_cons_zero, List.set_cons_succ]
        refine take_d (i := 7) (oi := _) (d := some 28) (v := ?v2_7) rfl rfl (by kernel_rfl) (by kernel_rfl) (by kernel_rfl) (fun _ _ _ h => h) (Or.inl ⟨by rfl, ?hy2_7⟩) (by assumption) ?r2_7
        case hy2_7 => intro w hSw; (try dsimp only at hSw); first | (go_simp; done) | (go_simp; with_reducible rfl)
        try simp only [Act.put, List.setIfInBounds_toArray, List.set_cons_zero, List.set_cons_succ]
        refine take_d (i := 8) (oi := _) (d := some 29) (v := ?v2_8) rfl rfl (by kernel_rfl) (by kernel_rfl) (by kernel_rfl) (fun _ _ _ h => h) (Or.inl ⟨by rfl, ?hy2_8⟩) (by assumption) ?r2_8
        case hy2_8 => intro w hSw; (try dsimp only at hSw); first | (go_simp; done) | (go_simp; with_reducible rfl)
        try simp only [Act.put, List.setIfInBounds_toArray, List.set_cons_zero, List.set_cons_succ]
        refine take_d (i := 9) (oi := _) (d := some 30) (v := ?v2_9) rfl rfl (by kernel_rfl) (by kernel_rfl) (by kernel_rfl) (fun _ _ _ h => h) (Or.inl ⟨by rfl, ?hy2_9⟩) (by assumption) ?r2_9
        case hy2_9 => intro w hSw; (try dsimp only at hSw); first | (go_simp; done) | (go_simp; with_reducible rfl)
        try simp only [Act.put, List.setIfInBounds_toArray, List.set_cons_zero, List.set_cons_succ]
        refine take_d (i := 10) (oi := _) (d := some 31) (v := undef) rfl rfl (by kernel_rfl) (by kernel_rfl) (by kernel_rfl) (fun _ _ _ h => h) (Or.inr ⟨by kernel_rfl, rfl⟩) (by assumption) ?_
        try simp only [Act.put, List.setIfInBounds_toArray, List.set_cons_zero, List.set_cons_succ]
        refine take_d (i := 11) (oi := _) (d := some 32) (v := undef) rfl rfl (by kernel_rfl) (by kernel_rfl) (by kernel_rfl) (fun _ _ _ h => h) (Or.inr ⟨by kernel_rfl, rfl⟩) (by assumption) ?_
        try simp only [Act.put, List.setIfInBounds_toArray, List.set_cons_zero, List.set_cons_succ]
        refine take_d (i := 12) (oi := _) (d := some 33) (v := undef) rfl rfl (by kernel_rfl) (by kernel_rfl) (by kernel_rfl) (fun _ _ _ h => h) (Or.inr ⟨by kernel_rfl, rfl⟩) (by assumption) ?_
        try simp only [Act.put, List.setIfInBounds_toArray, List.set_cons_zero, List.set_cons_succ]
        refine take_d (i := 13) (oi := _) (d := some 34) (v := undef) rfl rfl (by kernel_rfl) (by kernel_rfl) (by kernel_rfl) (fun _ _ _ h => h) (Or.inr ⟨by kernel_rfl, rfl⟩) (by assumption) ?_
        try simp only [Act.put, List.setIfInBounds_toArray, List.set_cons_zero, List.set_cons_succ]
        refine take_d (i := 14) (oi := _) (d := some 35) (v := undef) rfl rfl (by kernel_rfl) (by kernel_rfl) (by kernel_rfl) (fun _ _ _ h => h) (Or.inr ⟨by kernel_rfl, rfl⟩) (by assumption) ?_
        try simp only [Act.put, List.setIfInBounds_toArray, List.set_cons_zero, List.set_cons_succ]
        refine take_d (i := 15) (oi := _) (d := some 36) (v := undef) rfl rfl (by kernel_rfl) (by kernel_rfl) (by kernel_rfl) (fun _ _ _ h => h) (Or.inr ⟨by kernel_rfl, rfl⟩) (by assumption) ?_
        try simp only [Act.put, List.setIfInBounds_toArray, List.set_cons_zero, List.set_cons_succ]
        refine take_d (i := 16) (oi := _) (d := some 37) (v := undef) rfl rfl (by kernel_rfl) (by kernel_rfl) (by kernel_rfl) (fun _ _ _ h => h) (Or.inr ⟨by kernel_rfl, rfl⟩) (by assumption) ?_
        try simp only [Act.put, List.setIfInBounds_toArray, List.set_cons_zero, List.set_cons_succ]
        refine take_d (i := 17) (oi := _) (d := some 38) (v := undef) rfl rfl (by kernel_rfl) (by kernel_rfl) (by kernel_rfl) (fun _ _ _ h => h) (Or.inr ⟨by kernel_rfl, rfl⟩) (by assumption) ?_
        try simp only [Act.put, List.setIfInBounds_toArray, List.set_cons_zero, List.set_cons_succ]
        refine take_d (i := 18) (oi := _) (d := some 39) (v := ?v2_18) rfl rfl (by kernel_rfl) (by kernel_rfl) (by kernel_rfl) (fun _ _ _ h => h) (Or.inl ⟨by rfl, ?hy2_18⟩) (by assumption) ?r2_18
        case hy2_18 => intro w hSw; (try dsimp only at hSw); first | (go_simp; done) | (go_simp; with_reducible rfl)
        try simp only [Act.put, List.setIfInBounds_toArray, List.set_cons_zero, List.set_cons_succ]
        refine take_d (i := 19) (oi := _) (d := some 40) (v := ?v2_19) rfl rfl (by kernel_rfl) (by kernel_rfl) (by kernel_rfl) (fun _ _ _ h => h) (Or.inl ⟨by rfl, ?hy2_19⟩) (by assumption) ?r2_19
        case hy2_19 => intro w hSw; (try dsimp only at hSw); first | (go_simp; done) | (go_simp; with_reducible rfl)
        try simp only [Act.put, List.setIfInBounds_toArray, List.set_cons_zero, List.set_cons_succ]
        refine take_d (i := 20) (oi := _) (d := some 41) (v := undef) rfl rfl (by kernel_rfl) (by kernel_rfl) (by kernel_rfl) (fun _ _ _ h => h) (Or.inr ⟨by kernel_rfl, rfl⟩) (by assumption) ?_
        try simp only [Act.put, List.setIfInBounds_toArray, List.set_cons_zero, List.set_cons_succ]
        refine take_d (i := 21) (oi := _) (d := some 42) (v := undef) rfl rfl (by kernel_rfl) (by kernel_rfl) (by kernel_rfl) (fun _ _ _ h => h) (Or.inr ⟨by kernel_rfl, rfl⟩) (by assumption) ?_
        try simp only [Act.put, List.setIfInBounds_toArray, List.set_cons_zero, List.set_cons_succ]
        refine take_d (i := 22) (oi := _) (d := some 43) (v := undef) rfl rfl (by kernel_rfl) (by kernel_rfl) (by kernel_rfl) (fun _ _ _ h => h) (Or.inr ⟨by kernel_rfl, rfl⟩) (by assumption) ?_
        try simp only [Act.put, List.setIfInBounds_toArray, List.set_cons_zero, List.set_cons_succ]
        refine take_d (i := 23) (oi := _) (d := some 44) (v := undef) rfl rfl (by kernel_rfl) (by kernel_rfl) (by kernel_rfl) (fun _ _ _ h => h) (Or.inr ⟨by kernel_rfl, rfl⟩) (by assumption) ?_
        try simp only [Act.put, List.setIfInBounds_toArray, List.set_cons_zero, List.set_cons_succ]
        refine take_d (i := 24) (oi := _) (d := some 45) (v := ?v2_24) rfl rfl (by kernel_rfl) (by kernel_rfl) (by kernel_rfl) (fun _ _ _ h => h) (Or.inl ⟨by rfl, ?hy2_24⟩) (by assumption) ?r2_24
        case hy2_24 => intro w hSw; (try dsimp only at hSw); first | (go_simp; done) | (go_simp; with_reducible rfl)
        try simp only [Act.put, List.setIfInBounds_toArray, List.set_cons_zero, List.set_cons_succ]
        refine wpAnyH_done (by kernel_rfl) ?_ _
        clear hHeld6
        have HF : Hid (mdB zs cnt bs os = false) := by unfold Hid; refine md_a ?_; rw [HCM.out, HD.out]; exact cm_no (by rw [isW_in]; simp only; rw [q2]; simp)
        have HB4 := Lib.hid (below_trans HB2.out (below_drew_trans hb4))
        clear hb4
        go_wp2
        go_ret
        exact ⟨ret_bool HF.out.symm, HB4.out⟩
      by_cases q1 : op = op0
      rotate_left
      · have q1b : (op != op0) = true := by simpa using q1
        refine wp_region_held_drew (S := (fun w' => (∀ j : Nat, w'.cell? ⟨kx, j, none⟩ = (#[.int .i64 th, .int .i64 op, .int .i64 arg] : Array Value)[j]?) ∧ (∀ j : Nat, w'.cell? ⟨w.heap.size, j, none⟩ = (#[.slice A zs.length ca, .int .i64 cnt, .slice (some ⟨b, o, none⟩) bs.length cb, .slice O os.length co] : Array Value)[j]?) ∧ w'.cell? ⟨b, o + 1, none⟩ = some (.int .i64 op0))) (by kernel_rfl) ?_ (fun hHeld => ?_)
        · exact ⟨HX2.out.cell, HM2.out.cell, cell_keep HB2.out H00.out⟩
        refine take_d (i := 0) (oi := _) (d := some 21) (v := ?v3_0) rfl rfl (by kernel_rfl) (by kernel_rfl) (by kernel_rfl) (fun _ _ _ h => h) (Or.inl ⟨by rfl, ?hy3_0⟩) (by assumption) ?r3_0
        case hy3_0 => intro w hSw; (try dsimp only at hSw); first | (go_simp; done) | (go_simp; with_reducible rfl)
        try simp only [Act.put, List.setIfInBounds_toArray, List.set_cons_zero, List.set_cons_succ]
        refine wpAnyH_ready (rs := [1]) (by kernel_rfl) (by simp) ?_
        refine AllReadyH.cons (o := _) rfl (fun K hK => ?_) AllReadyH.nil
        go_simp
        go_at_call 48; (with_reducible refine (specWaiter_any _ _ _ _).mono ?_); rintro e w4 ⟨rfl, hb4⟩; rw [QW]
        refine hK.out _ _ ?_ (fun hHeld1 => ?_)
        · exact ⟨(HX2.out.below (below_drew_trans hb4)).cell, (HM2.out.below (below_drew_trans hb4)).cell, cell_keep (below_trans HB2.out (below_drew_trans hb4)) H00.out⟩
        clear hK K hHeld
        try simp only [Act.put, List.setIfInBounds_toArray, List.set_cons_zero, List.set_cons_succ]
        refine take_d (i := 2) (oi := _) (d := some 23) (v := ?v3_2) rfl rfl (by kernel_rfl) (by kernel_rfl) (by kernel_rfl) (fun _ _ _ h => h) (Or.inl ⟨by rfl, ?hy3_2⟩) (by assumption) ?r3_2
        case hy3_2 => intro w hSw; (try dsimp only at hSw); first | (go_simp; done) | (go_simp; with_reducible rfl)
        try simp only [Act.put, List.setIfInBounds_toArray, List.set_cons_zero, List.set_cons_succ]
        refine take_d (i := 3) (oi := _) (d := some 24) (v := ?v3_3) rfl rfl (by kernel_rfl) (by kernel_rfl) (by kernel_rfl) (fun _ _ _ h => h) (Or.inl ⟨by rfl, ?hy3_3⟩) (by assumption) ?r3_3
        case hy3_3 => intro w hSw; (try dsimp only at hSw); first | (go_simp; done) | (go_simp; with_reducible rfl)
        try simp only [Act.put, List.setIfInBounds_toArray, List.set_cons_zero, List.set_cons_succ]
        refine take_d (i := 4) (oi := _) (d := some 25) (v := ?v3_4) rfl rfl (by kernel_rfl) (by kernel_rfl) (by kernel_rfl) (fun _ _ _ h => h) (Or.inl ⟨by rfl, ?hy3_4⟩) (by assumption) ?r3_4
        case hy3_4 => intro w hSw; (try dsimp only at hSw); first | (go_simp; done) | (go_simp; with_reducible rfl)
        try simp only [Act.put, List.setIfInBounds_toArray, List.set_cons_zero, List.set_cons_succ]
        refine take_d (i := 5) (oi := _) (d := some 26) (v := ?v3_5) rfl rfl (by kernel_rfl) (by kernel_rfl) (by kernel_rfl) (fun _ _ _ h => h) (Or.inl ⟨by rfl, ?hy3_5⟩) (by assumption) ?r3_5
        case hy3_5 => intro w hSw; (try dsimp only at hSw); first | (go_simp; done) | (go_simp; with_reducible rfl)
        try simp only [Act.put, List.setIfInBounds_toArray, List.set_cons_zero, List.set_cons_succ]
        refine wpAnyH_ready (rs := [6]) (by kernel_rfl) (by simp) ?_
        refine AllReadyH.cons (o := _) rfl (fun K hK => ?_) AllReadyH.nil
        go_simp
        go_at_call 102; (with_reducible refine (l01In_any _ _ _ _).mono ?_); rintro e w' ⟨rfl, rfl⟩; rw [q2]
        refine hK.out _ _ ?_ (fun hHeld6 => ?_)
        · exact hHeld1
        clear hK K hHeld1
        try simp only [Act.put, List.setIfInBounds_toArray, List.set_cons_zero, List.set_cons_succ]
        refine take_d (i := 7) (oi := _) (d := some 28) (v := ?v3_7) rfl rfl (by kernel_rfl) (by kernel_rfl) (by kernel_rfl) (fun _ _ _ h => h) (Or.inl ⟨by rfl, ?hy3_7⟩) (by assumption) ?r3_7
        case hy3_7 => intro w hSw; (try dsimp only at hSw); first | (go_simp; done) | (go_simp; with_reducible rfl)
        try simp only [Act.put, List.setIfInBounds_toArray, List.set_cons_zero, List.set_cons_succ]
        refine take_d (i := 8) (oi := _) (d := some 29) (v := ?v3_8) rfl rfl (by kernel_rfl) (by kernel_rfl) (by kernel_rfl) (fun _ _ _ h => h) (Or.inl ⟨by rfl, ?hy3_8⟩) (by assumption) ?r3_8
        case hy3_8 => intro w hSw; (try dsimp only at hSw); first | (go_simp; done) | (go_simp; with_reducible rfl)
        try simp only [Act.put, List.setIfInBounds_toArray, List.set_cons_zero, List.set_cons_succ]
        refine take_d (i := 9) (oi := _) (d := some 30) (v := ?v3_9) rfl rfl (by kernel_rfl) (by kernel_rfl) (by kernel_rfl) (fun _ _ _ h => h) (Or.inl ⟨by rfl, ?hy3_9⟩) (by assumption) ?r3_9
        case hy3_9 => intro w hSw; (try dsimp only at hSw); first | (go_simp; done) | (go_simp; with_reducible rfl)
        try simp only [Act.put, List.setIfInBounds_toArray, List.set_cons_zero, List.set_cons_succ]
        refine take_d (i := 10) (oi := _) (d := some 31) (v := ?v3_10) rfl rfl (by kernel_rfl) (by kernel_rfl) (by kernel_rfl) (fun _ _ _ h => h) (Or.inl ⟨by rfl, ?hy3_10⟩) (by assumption) ?r3_10
        case hy3_10 => intro w hSw; (try dsimp only at hSw); first | (go_simp; done) | (go_simp; with_reducible rfl)
        try simp only [Act.put, List.setIfInBounds_toArray, List.set_cons_zero, List.set_cons_succ]
        refine take_d (i := 11) (oi := _) (d := some 32) (v := ?v3_11) rfl rfl (by kernel_rfl) (by kernel_rfl) (by kernel_rfl) (fun _ _ _ h => h) (Or.inl ⟨by rfl, ?hy3_11⟩) (by assumption) ?r3_11
        case hy3_11 => intro w hSw; (try dsimp only at hSw); first | (go_simp; done) | (go_simp; with_reducible rfl)
        try simp only [Act.put, List.setIfInBounds_toArray, List.set_cons_zero, List.set_cons_succ]
        refine take_d (i := 12) (oi := _) (d := some 33) (v := ?v3_12) rfl rfl (by kernel_rfl) (by kernel_rfl) (by kernel_rfl) (fun _ _ _ h => h) (Or.inl ⟨by rfl, ?hy3_12⟩) (by assumption) ?r3_12
        case hy3_12 => intro w hSw; (try dsimp only at hSw); first | (go_simp; done) | (go_simp; with_reducible rfl)
        try simp only [Act.put, List.setIfInBounds_toArray, List.set_cons_zero, List.set_cons_succ]
        refine take_d (i := 13) (oi := _) (d := some 34) (v := ?v3_13) rfl rfl (by kernel_rfl) (by kernel_rfl) (by kernel_rfl) (fun _ _ _ h => h) (Or.inl ⟨by rfl, ?hy3_13⟩) (by assumption) ?r3_13
        case hy3_13 => intro w hSw; (try dsimp only at hSw); first | (go_simp; done) | (go_simp; with_reducible rfl)
        try simp only [Act.put, List.setIfInBounds_toArray, List.set_cons_zero, List.set_cons_succ]
        refine take_d (i := 14) (oi := _) (d := some 35) (v := ?v3_14) rfl rfl (by kernel_rfl) (by kernel_rfl) (by kernel_rfl) (fun _ _ _ h => h) (Or.inl ⟨by rfl, ?hy3_14⟩) (by assumption) ?r3_14
        case hy3_14 => intro w hSw; (try dsimp only at hSw); first | (go_simp; done) | (go_simp; with_reducible rfl)
        try simp only [Act.put, List.setIfInBounds_toArray, List.set_cons_zero, List.set_cons_succ]
        refine take_d (i := 15) (oi := _) (d := some 36) (v := ?v3_15) rfl rfl (by kernel_rfl) (by kernel_rfl) (by kernel_rfl) (fun _ _ _ h => h) (Or.inl ⟨by rfl, ?hy3_15⟩) (by assumption) ?r3_15
        case hy3_15 => intro w hSw; (try dsimp only at hSw); first | (go_simp; done) | (go_simp; with_reducible rfl)
        try simp only [Act.put, List.setIfInBounds_toArray, List.set_cons_zero, List.set_cons_succ]
        refine take_d (i := 16) (oi := _) (d := some 37) (v := ?v3_16) rfl rfl (by kernel_rfl) (by kernel_rfl) (by kernel_rfl) (fun _ _ _ h => h) (Or.inl ⟨by rfl, ?hy3_16⟩) (by assumption) ?r3_16
        case hy3_16 => intro w hSw; (try dsimp only at hSw); first | (go_simp; done) | (go_simp; with_reducible rfl)
        try simp only [Act.put, List.setIfInBounds_toArray, List.set_cons_zero, List.set_cons_succ]
        refine take_d (i := 17) (oi := _) (d := some 38) (v := ?v3_17) rfl rfl (by kernel_rfl) (by kernel_rfl) (by kernel_rfl) (fun _ _ _ h => h) (Or.inl ⟨by rfl, ?hy3_17⟩) (by assumption) ?r3_17
        case hy3_17 => intro w hSw; (try dsimp only at hSw); first | (go_simp; done) | (go_simp; with_reducible rfl)
        try simp only [Act.put, List.setIfInBounds_toArray, List.set_cons_zero, List.set_cons_succ]
        refine take_d (i := 18) (oi := _) (d := some 39) (v := ?v3_18) rfl rfl (by kernel_rfl) (by kernel_rfl) (by kernel_rfl) (fun _ _ _ h => h) (Or.inl ⟨by rfl, ?hy3_18⟩) (by assumption) ?r3_18
        case hy3_18 => intro w hSw; (try dsimp only at hSw); first | (go_simp; done) | (go_simp; with_reducible rfl)
        try simp only [Act.put, List.setIfInBounds_toArray, List.set_cons_zero, List.set_cons_succ]
        refine take_d (i := 19) (oi := _) (d := some 40) (v := ?v3_19) rfl rfl (by kernel_rfl) (by kernel_rfl) (by kernel_rfl) (fun _ _ _ h => h) (Or.inl ⟨by rfl, ?hy3_19⟩) (by assumption) ?r3_19
        case hy3_19 => intro w hSw; (try dsimp only at hSw); first | (go_simp; done) | (go_simp; with_reducible rfl)
        try simp only [Act.put, List.setIfInBounds_toArray, List.set_cons_zero, List.set_cons_succ]
        refine take_d (i := 20) (oi := _) (d := some 41) (v := undef) rfl rfl (by kernel_rfl) (by kernel_rfl) (by kernel_rfl) (fun _ _ _ h => h) (Or.inr ⟨by kernel_rfl, rfl⟩) (by assumption) ?_
        try simp only [Act.put, List.setIfInBounds_toArray, List.set_cons_zero, List.set_cons_succ]
        refine take_d (i := 21) (oi := _) (d := some 42) (v := undef) rfl rfl (by kernel_rfl) (by kernel_rfl) (by kernel_rfl) (fun _ _ _ h => h) (Or.inr ⟨by kernel_rfl, rfl⟩) (by assumption) ?_
        try simp only [Act.put, List.setIfInBounds_toArray, List.set_cons_zero, List.set_cons_succ]
        refine take_d (i := 22) (oi := _) (d := some 43) (v := undef) rfl rfl (by kernel_rfl) (by kernel_rfl) (by kernel_rfl) (fun _ _ _ h => h) (Or.inr ⟨by kernel_rfl, rfl⟩) (by assumption) ?_
        try simp only [Act.put, List.setIfInBounds_toArray, List.set_cons_zero, List.set_cons_succ]
        refine take_d (i := 23) (oi := _) (d := some 44) (v := undef) rfl rfl (by kernel_rfl) (by kernel_rfl) (by kernel_rfl) (fun _ _ _ h => h) (Or.inr ⟨by kernel_rfl, rfl⟩) (by assumption) ?_
        try simp only [Act.put, List.setIfInBounds_toArray, List.set_cons_zero, List.set_cons_succ]
        refine take_d (i := 24) (oi := _) (d := some 45) (v := ?v3_24) rfl rfl (by kernel_rfl) (by kernel_rfl) (by kernel_rfl) (fun _ _ _ h => h) (Or.inl ⟨by rfl, ?hy3_24⟩) (by assumption) ?r3_24
        case hy3_24 => intro w hSw; (try dsimp only at hSw); first | (go_simp; done) | (go_simp; with_reducible rfl)
        try simp only [Act.put, List.setIfInBounds_toArray, List.set_cons_zero, List.set_cons_succ]
        refine wpAnyH_done (by kernel_rfl) ?_ _
        clear hHeld6
        have HF : Hid (mdB zs cnt bs os = false) := by unfold Hid; refine md_a ?_; rw [HCM.out, HD.out]; exact cm_no (by rw [isW_in, HHD.out]; simp only; rw [show (op == op0) = false from by simpa using q1]; simp)
        have HB4 := Lib.hid (below_trans HB2.out (below_drew_trans hb4))
        clear hb4
        go_wp2
        go_ret
        exact ⟨ret_bool HF.out.symm, HB4.out⟩
      subst q1
      cases q4 : ss.contains th
      rotate_left
      · refine wp_region_held_drew (S := (fun w' => (∀ j : Nat, w'.cell? ⟨kx, j, none⟩ = (#[.int .i64 th, .int .i64 op, .int .i64 arg] : Array Value)[j]?) ∧ (∀ j : Nat, w'.cell? ⟨w.heap.size, j, none⟩ = (#[.slice A zs.length ca, .int .i64 cnt, .slice (some ⟨b, o, none⟩) bs.length cb, .slice O os.length co] : Array Value)[j]?) ∧ w'.cell? ⟨b, o + 1, none⟩ = some (.int .i64 op))) (by kernel_rfl) ?_ (fun hHeld => ?_)
        · exact ⟨HX2.out.cell, HM2.out.cell, cell_keep HB2.out H00.out⟩
        refine take_d (i := 0) (oi := _) (d := some 21) (v := ?v4_0) rfl rfl (by kernel_rfl) (by kernel_rfl) (by kernel_rfl) (fun _ _ _ h => h) (Or.inl ⟨by rfl, ?hy4_0⟩) (by assumption) ?r4_0
        case hy4_0 => intro w hSw; (try dsimp only at hSw); first | (go_simp; done) | (go_simp; with_reducible rfl)
        try simp only [Act.put, List.setIfInBounds_toArray, List.set_cons_zero, List.set_cons_succ]
        refine wpAnyH_ready (rs := [1]) (by kernel_rfl) (by simp) ?_
        refine AllReadyH.cons (o := _) rfl (fun K hK => ?_) AllReadyH.nil
        go_simp
        go_at_call 48; (with_reducible refine (specWaiter_any _ _ _ _).mono ?_); rintro e w4 ⟨rfl, hb4⟩; rw [QW]
        refine hK.out _ _ ?_ (fun hHeld1 => ?_)
        · exact ⟨(HX2.out.below (below_drew_trans hb4)).cell, (HM2.out.below (below_drew_trans hb4)).cell, cell_keep (below_trans HB2.out (below_drew_trans hb4)) H00.out⟩
        clear hK K hHeld
        try simp only [Act.put, List.setIfInBounds_toArray, List.set_cons_zero, List.set_cons_succ]
        refine take_d (i := 2) (oi := _) (d := some 23) (v := ?v4_2) rfl rfl (by kernel_rfl) (by kernel_rfl) (by kernel_rfl) (fun _ _ _ h => h) (Or.inl ⟨by rfl, ?hy4_2⟩) (by assumption) ?r4_2
        case hy4_2 => intro w hSw; (try dsimp only at hSw); first | (go_simp; done) | (go_simp; with_reducible rfl)
        try simp only [Act.put, List.setIfInBounds_toArray, List.set_cons_zero, List.set_cons_succ]
        refine take_d (i := 3) (oi := _) (d := some 24) (v := ?v4_3) rfl rfl (by kernel_rfl) (by kernel_rfl) (by kernel_rfl) (fun _ _ _ h => h) (Or.inl ⟨by rfl, ?hy4_3⟩) (by assumption) ?r4_3
        case hy4_3 => intro w hSw; (try dsimp only at hSw); first | (go_simp; done) | (go_simp; with_reducible rfl)
        try simp only [Act.put, List.setIfInBounds_toArray, List.set_cons_zero, List.set_cons_succ]
        refine take_d (i := 4) (oi := _) (d := some 25) (v := ?v4_4) rfl rfl (by kernel_rfl) (by kernel_rfl) (by kernel_rfl) (fun _ _ _ h => h) (Or.inl ⟨by rfl, ?hy4_4⟩) (by assumption) ?r4_4
        case hy4_4 => intro w hSw; (try dsimp only at hSw); first | (go_simp; done) | (go_simp; with_reducible rfl)
        try simp only [Act.put, List.setIfInBounds_toArray, List.set_cons_zero, List.set_cons_succ]
        refine take_d (i := 5) (oi := _) (d := some 26) (v := ?v4_5) rfl rfl (by kernel_rfl) (by kernel_rfl) (by kernel_rfl) (fun _ _ _ h => h) (Or.inl ⟨by rfl, ?hy4_5⟩) (by assumption) ?r4_5
        case hy4_5 => intro w hSw; (try dsimp only at hSw); first | (go_simp; done) | (go_simp; with_reducible rfl)
        try simp only [Act.put, List.setIfInBounds_toArray, List.set_cons_zero, List.set_cons_succ]
        refine wpAnyH_ready (rs := [6]) (by kernel_rfl) (by simp) ?_
        refine AllReadyH.cons (o := _) rfl (fun K hK => ?_) AllReadyH.nil
        go_simp
        go_at_call 102; (with_reducible refine (l01In_any _ _ _ _).mono ?_); rintro e w' ⟨rfl, rfl⟩; rw [q2]
        refine hK.out _ _ ?_ (fun hHeld6 => ?_)
        · exact hHeld1
        clear hK K hHeld1
        try simp only [Act.put, List.setIfInBounds_toArray, List.set_cons_zero, List.set_cons_succ]
        refine take_d (i := 7) (oi := _) (d := some 28) (v := ?v4_7) rfl rfl (by kernel_rfl) (by kernel_rfl) (by kernel_rfl) (fun _ _ _ h => h) (Or.inl ⟨by rfl, ?hy4_7⟩) (by assumption) ?r4_7
        case hy4_7 => intro w hSw; (try dsimp only at hSw); first | (go_simp; done) | (go_simp; with_reducible rfl)
        try simp only [Act.put, List.setIfInBounds_toArray, List.set_cons_zero, List.set_cons_succ]
        refine take_d (i := 8) (oi := _) (d := some 29) (v := ?v4_8) rfl rfl (by kernel_rfl) (by kernel_rfl) (by kernel_rfl) (fun _ _ _ h => h) (Or.inl ⟨by rfl, ?hy4_8⟩) (by assumption) ?r4_8
        case hy4_8 => intro w hSw; (try dsimp only at hSw); first | (go_simp; done) | (go_simp; with_reducible rfl)
        try simp only [Act.put, List.setIfInBounds_toArray, List.set_cons_zero, List.set_cons_succ]
        refine take_d (i := 9) (oi := _) (d := some 30) (v := ?v4_9) rfl rfl (by kernel_rfl) (by kernel_rfl) (by kernel_rfl) (fun _ _ _ h => h) (Or.inl ⟨by rfl, ?hy4_9⟩) (by assumption) ?r4_9
        case hy4_9 => intro w hSw; (try dsimp only at hSw); first | (go_simp; done) | (go_simp; with_reducible rfl)
        try simp only [Act.put, List.setIfInBounds_toArray, List.set_cons_zero, List.set_cons_succ]
        refine take_d (i := 10) (oi := _) (d := some 31) (v := ?v4_10) rfl rfl (by kernel_rfl) (by kernel_rfl) (by kernel_rfl) (fun _ _ _ h => h) (Or.inl ⟨by rfl, ?hy4_10⟩) (by assumption) ?r4_10
        case hy4_10 => intro w hSw; (try dsimp only at hSw); first | (go_simp; done) | (go_simp; with_reducible rfl)
        try simp only [Act.put, List.setIfInBounds_toArray, List.set_cons_zero, List.set_cons_succ]
        refine take_d (i := 11) (oi := _) (d := some 32) (v := ?v4_11) rfl rfl (by kernel_rfl) (by kernel_rfl) (by kernel_rfl) (fun _ _ _ h => h) (Or.inl ⟨by rfl, ?hy4_11⟩) (by assumption) ?r4_11
        case hy4_11 => intro w hSw; (try dsimp only at hSw); first | (go_simp; done) | (go_simp; with_reducible rfl)
        try simp only [Act.put, List.setIfInBounds_toArray, List.set_cons_zero, List.set_cons_succ]
        refine take_d (i := 12) (oi := _) (d := some 33) (v := ?v4_12) rfl rfl (by kernel_rfl) (by kernel_rfl) (by kernel_rfl) (fun _ _ _ h => h) (Or.inl ⟨by rfl, ?hy4_12⟩) (by assumption) ?r4_12
        case hy4_12 => intro w hSw; (try dsimp only at hSw); first | (go_simp; done) | (go_simp; with_reducible rfl)
        try simp only [Act.put, List.setIfInBounds_toArray, List.set_cons_zero, List.set_cons_succ]
        refine take_d (i := 13) (oi := _) (d := some 34) (v := ?v4_13) rfl rfl (by kernel_rfl) (by kernel_rfl) (by kernel_rfl) (fun _ _ _ h => h) (Or.inl ⟨by rfl, ?hy4_13⟩) (by assumption) ?r4_13
        case hy4_13 => intro w hSw; (try dsimp only at hSw); first | (go_simp; done) | (go_simp; with_reducible rfl)
        try simp only [Act.put, List.setIfInBounds_toArray, List.set_cons_zero, List.set_cons_succ]
        refine take_d (i := 14) (oi := _) (d := some 35) (v := ?v4_14) rfl rfl (by kernel_rfl) (by kernel_rfl) (by kernel_rfl) (fun _ _ _ h => h) (Or.inl ⟨by rfl, ?hy4_14⟩) (by assumption) ?r4_14
        case hy4_14 => intro w hSw; (try dsimp only at hSw); first | (go_simp; done) | (go_simp; with_reducible rfl)
        try simp only [Act.put, List.setIfInBounds_toArray, List.set_cons_zero, List.set_cons_succ]
        refine take_d (i := 15) (oi := _) (d := some 36) (v := ?v4_15) rfl rfl (by kernel_rfl) (by kernel_rfl) (by kernel_rfl) (fun _ _ _ h => h) (Or.inl ⟨by rfl, ?hy4_15⟩) (by assumption) ?r4_15
        case hy4_15 => intro w hSw; (try dsimp only at hSw); first | (go_simp; done) | (go_simp; with_reducible rfl)
        try simp only [Act.put, List.setIfInBounds_toArray, List.set_cons_zero, List.set_cons_succ]
        refine take_d (i := 16) (oi := _) (d := some 37) (v := ?v4_16) rfl rfl (by kernel_rfl) (by kernel_rfl) (by kernel_rfl) (fun _ _ _ h => h) (Or.inl ⟨by rfl, ?hy4_16⟩) (by assumption) ?r4_16
        case hy4_16 => intro w hSw; (try dsimp only at hSw); first | (go_simp; done) | (go_simp; with_reducible rfl)
        try simp only [Act.put, List.setIfInBounds_toArray, List.set_cons_zero, List.set_cons_succ]
        refine take_d (i := 17) (oi := _) (d := some 38) (v := ?v4_17) rfl rfl (by kernel_rfl) (by kernel_rfl) (by kernel_rfl) (fun _ _ _ h => h) (Or.inl ⟨by rfl, ?hy4_17⟩) (by assumption) ?r4_17
        case hy4_17 => intro w hSw; (try dsimp only at hSw); first | (go_simp; done) | (go_simp; with_reducible rfl)
        try simp only [Act.put, List.setIfInBounds_toArray, List.set_cons_zero, List.set_cons_succ]
        refine take_d (i := 18) (oi := _) (d := some 39) (v := ?v4_18) rfl rfl (by kernel_rfl) (by kernel_rfl) (by kernel_rfl) (fun _ _ _ h => h) (Or.inl ⟨by rfl, ?hy4_18⟩) (by assumption) ?r4_18
        case hy4_18 => intro w hSw; (try dsimp only at hSw); first | (go_simp; done) | (go_simp; with_reducible rfl)
        try simp only [Act.put, List.setIfInBounds_toArray, List.set_cons_zero, List.set_cons_succ]
        refine take_d (i := 19) (oi := _) (d := some 40) (v := ?v4_19) rfl rfl (by kernel_rfl) (by kernel_rfl) (by kernel_rfl) (fun _ _ _ h => h) (Or.inl ⟨by rfl, ?hy4_19⟩) (by assumption) ?r4_19
        case hy4_19 => intro w hSw; (try dsimp only at hSw); first | (go_simp; done) | (go_simp; with_reducible rfl)
        try simp only [Act.put, List.setIfInBounds_toArray, List.set_cons_zero, List.set_cons_succ]
        refine take_d (i := 20) (oi := _) (d := some 41) (v := ?v4_20) rfl rfl (by kernel_rfl) (by kernel_rfl) (by kernel_rfl) (fun _ _ _ h => h) (Or.inl ⟨by rfl, ?hy4_20⟩) (by assumption) ?r4_20
        case hy4_20 => intro w hSw; (try dsimp only at hSw); first | (go_simp; done) | (go_simp; with_reducible rfl)
        try simp only [Act.put, List.setIfInBounds_toArray, List.set_cons_zero, List.set_cons_succ]
        refine take_d (i := 21) (oi := _) (d := some 42) (v := ?v4_21) rfl rfl (by kernel_rfl) (by kernel_rfl) (by kernel_rfl) (fun _ _ _ h => h) (Or.inl ⟨by rfl, ?hy4_21⟩) (by assumption) ?r4_21
        case hy4_21 => intro w hSw; (try dsimp only at hSw); first | (go_simp; done) | (go_simp; with_reducible rfl)
        try simp only [Act.put, List.setIfInBounds_toArray, List.set_cons_zero, List.set_cons_succ]
        refine take_d (i := 22) (oi := _) (d := some 43) (v := ?v4_22) rfl rfl (by kernel_rfl) (by kernel_rfl) (by kernel_rfl) (fun _ _ _ h => h) (Or.inl ⟨by rfl, ?hy4_22⟩) (by assumption) ?r4_22
        case hy4_22 => intro w hSw; (try dsimp only at hSw); first | (go_simp; done) | (go_simp; with_reducible rfl)
        try simp only [Act.put, List.setIfInBounds_toArray, List.set_cons_zero, List.set_cons_succ]
        refine wpAnyH_ready (rs := [23]) (by kernel_rfl) (by simp) ?_
        refine AllReadyH.cons (o := _) rfl (fun K hK => ?_) AllReadyH.nil
        go_simp
        go_at_call 104; (with_reducible refine (l10In_any _ _ ss _ _ HLN.out (NewA.below HN2.out (below_drew_trans hb4)).rd).mono ?_); rintro e w5 ⟨rfl, hb5⟩; rw [q4]
        refine hK.out _ _ ?_ (fun hHeld23 => ?_)
        · exact ⟨((HX2.out.below (below_drew_trans hb4)).below hb5).cell, ((HM2.out.below (below_drew_trans hb4)).below hb5).cell, cell_keep (below_trans (below_trans HB2.out (below_drew_trans hb4)) hb5) H00.out⟩
        clear hK K hHeld6
        try simp only [Act.put, List.setIfInBounds_toArray, List.set_cons_zero, List.set_cons_succ]
        refine take_d (i := 24) (oi := _) (d := some 45) (v := ?v4_24) rfl rfl (by kernel_rfl) (by kernel_rfl) (by kernel_rfl) (fun _ _ _ h => h) (Or.inl ⟨by rfl, ?hy4_24⟩) (by assumption) ?r4_24
        case hy4_24 => intro w hSw; (try dsimp only at hSw); first | (go_simp; done) | (go_simp; with_reducible rfl)
        try simp only [Act.put, List.setIfInBounds_toArray, List.set_cons_zero, List.set_cons_succ]
        refine wpAnyH_done (by kernel_rfl) ?_ _
        clear hHeld23
        have HF : Hid (mdB zs cnt bs os = false) := by unfold Hid; refine md_a ?_; rw [HCM.out, HD.out]; exact cm_no (by simp only; rw [q4]; simp)
        have HB4 := Lib.hid (below_trans (below_trans HB2.out (below_drew_trans hb4)) hb5)
        clear hb4
        go_wp2
        go_ret
        exact ⟨ret_bool HF.out.symm, HB4.out⟩
      · refine wp_region_held_drew (S := (fun w' => (∀ j : Nat, w'.cell? ⟨kx, j, none⟩ = (#[.int .i64 th, .int .i64 op, .int .i64 arg] : Array Value)[j]?) ∧ (∀ j : Nat, w'.cell? ⟨w.heap.size, j, none⟩ = (#[.slice A zs.length ca, .int .i64 cnt, .slice (some ⟨b, o, none⟩) bs.length cb, .slice O os.length co] : Array Value)[j]?) ∧ w'.cell? ⟨b, o + 1, none⟩ = some (.int .i64 op))) (by kernel_rfl) ?_ (fun hHeld => ?_)
        · exact ⟨HX2.out.cell, HM2.out.cell, cell_keep HB2.out H00.out⟩
        refine take_d (i := 0) (oi := _) (d := some 21) (v := ?v5_0) rfl rfl (by kernel_rfl) (by kernel_rfl) (by kernel_rfl) (fun _ _ _ h => h) (Or.inl ⟨by rfl, ?hy5_0⟩) (by assumption) ?r5_0
        case hy5_0 => intro w hSw; (try dsimp only at hSw); first | (go_simp; done) | (go_simp; with_reducible rfl)
        try simp only [Act.put, List.setIfInBounds_toArray, List.set_cons_zero, List.set_cons_succ]
        refine wpAnyH_ready (rs := [1]) (by kernel_rfl) (by simp) ?_
        refine AllReadyH.cons (o := _) rfl (fun K hK => ?_) AllReadyH.nil
        go_simp
        go_at_call 48; (with_reducible refine (specWaiter_any _ _ _ _).mono ?_); rintro e w4 ⟨rfl, hb4⟩; rw [QW]
        refine hK.out _ _ ?_ (fun hHeld1 => ?_)
        · exact ⟨(HX2.out.below (below_drew_trans hb4)).cell, (HM2.out.below (below_drew_trans hb4)).cell, cell_keep (below_trans HB2.out (below_drew_trans hb4)) H00.out⟩
        clear hK K hHeld
        try simp only [Act.put, List.setIfInBounds_toArray, List.set_cons_zero, List.set_cons_succ]
        refine take_d (i := 2) (oi := _) (d := some 23) (v := ?v5_2) rfl rfl (by kernel_rfl) (by kernel_rfl) (by kernel_rfl) (fun _ _ _ h => h) (Or.inl ⟨by rfl, ?hy5_2⟩) (by assumption) ?r5_2
        case hy5_2 => intro w hSw; (try dsimp only at hSw); first | (go_simp; done) | (go_simp; with_reducible rfl)
        try simp only [Act.put, List.setIfInBounds_toArray, List.set_cons_zero, List.set_cons_succ]
        refine take_d (i := 3) (oi := _) (d := some 24) (v := ?v5_3) rfl rfl (by kernel_rfl) (by kernel_rfl) (by kernel_rfl) (fun _ _ _ h => h) (Or.inl ⟨by rfl, ?hy5_3⟩) (by assumption) ?r5_3
        case hy5_3 => intro w hSw; (try dsimp only at hSw); first | (go_simp; done) | (go_simp; with_reducible rfl)
        try simp only [Act.put, List.setIfInBounds_toArray, List.set_cons_zero, List.set_cons_succ]
        refine take_d (i := 4) (oi := _) (d := some 25) (v := ?v5_4) rfl rfl (by kernel_rfl) (by kernel_rfl) (by kernel_rfl) (fun _ _ _ h => h) (Or.inl ⟨by rfl, ?hy5_4⟩) (by assumption) ?r5_4
        case hy5_4 => intro w hSw; (try dsimp only at hSw); first | (go_simp; done) | (go_simp; with_reducible rfl)
        try simp only [Act.put, List.setIfInBounds_toArray, List.set_cons_zero, List.set_cons_succ]
        refine take_d (i := 5) (oi := _) (d := some 26) (v := ?v5_5) rfl rfl (by kernel_rfl) (by kernel_rfl) (by kernel_rfl) (fun _ _ _ h => h) (Or.inl ⟨by rfl, ?hy5_5⟩) (by assumption) ?r5_5
        case hy5_5 => intro w hSw; (try dsimp only at hSw); first | (go_simp; done) | (go_simp; with_reducible rfl)
        try simp only [Act.put, List.setIfInBounds_toArray, List.set_cons_zero, List.set_cons_succ]
        refine wpAnyH_ready (rs := [6]) (by kernel_rfl) (by simp) ?_
        refine AllReadyH.cons (o := _) rfl (fun K hK => ?_) AllReadyH.nil
        go_simp
        go_at_call 102; (with_reducible refine (l01In_any _ _ _ _).mono ?_); rintro e w' ⟨rfl, rfl⟩; rw [q2]
        refine hK.out _ _ ?_ (fun hHeld6 => ?_)
        · exact hHeld1
        clear hK K hHeld1
        try simp only [Act.put, List.setIfInBounds_toArray, List.set_cons_zero, List.set_cons_succ]
        refine take_d (i := 7) (oi := _) (d := some 28) (v := ?v5_7) rfl rfl (by kernel_rfl) (by kernel_rfl) (by kernel_rfl) (fun _ _ _ h => h) (Or.inl ⟨by rfl, ?hy5_7⟩) (by assumption) ?r5_7
        case hy5_7 => intro w hSw; (try dsimp only at hSw); first | (go_simp; done) | (go_simp; with_reducible rfl)
        try simp only [Act.put, List.setIfInBounds_toArray, List.set_cons_zero, List.set_cons_succ]
        refine take_d (i := 8) (oi := _) (d := some 29) (v := ?v5_8) rfl rfl (by kernel_rfl) (by kernel_rfl) (by kernel_rfl) (fun _ _ _ h => h) (Or.inl ⟨by rfl, ?hy5_8⟩) (by assumption) ?r5_8
        case hy5_8 => intro w hSw; (try dsimp only at hSw); first | (go_simp; done) | (go_simp; with_reducible rfl)
        try simp only [Act.put, List.setIfInBounds_toArray, List.set_cons_zero, List.set_cons_succ]
        refine take_d (i := 9) (oi := _) (d := some 30) (v := ?v5_9) rfl rfl (by kernel_rfl) (by kernel_rfl) (by kernel_rfl) (fun _ _ _ h => h) (Or.inl ⟨by rfl, ?hy5_9⟩) (by assumption) ?r5_9
        case hy5_9 => intro w hSw; (try dsimp only at hSw); first | (go_simp; done) | (go_simp; with_reducible rfl)
        try simp only [Act.put, List.setIfInBounds_toArray, List.set_cons_zero, List.set_cons_succ]
        refine take_d (i := 10) (oi := _) (d := some 31) (v := ?v5_10) rfl rfl (by kernel_rfl) (by kernel_rfl) (by kernel_rfl) (fun _ _ _ h => h) (Or.inl ⟨by rfl, ?hy5_10⟩) (by assumption) ?r5_10
        case hy5_10 => intro w hSw; (try dsimp only at hSw); first | (go_simp; done) | (go_simp; with_reducible rfl)
        try simp only [Act.put, List.setIfInBounds_toArray, List.set_cons_zero, List.set_cons_succ]
        refine take_d (i := 11) (oi := _) (d := some 32) (v := ?v5_11) rfl rfl (by kernel_rfl) (by kernel_rfl) (by kernel_rfl) (fun _ _ _ h => h) (Or.inl ⟨by rfl, ?hy5_11⟩) (by assumption) ?r5_11
        case hy5_11 => intro w hSw; (try dsimp only at hSw); first | (go_simp; done) | (go_simp; with_reducible rfl)
        try simp only [Act.put, List.setIfInBounds_toArray, List.set_cons_zero, List.set_cons_succ]
        refine take_d (i := 12) (oi := _) (d := some 33) (v := ?v5_12) rfl rfl (by kernel_rfl) (by kernel_rfl) (by kernel_rfl) (fun _ _ _ h => h) (Or.inl ⟨by rfl, ?hy5_12⟩) (by assumption) ?r5_12
        case hy5_12 => intro w hSw; (try dsimp only at hSw); first | (go_simp; done) | (go_simp; with_reducible rfl)
        try simp only [Act.put, List.setIfInBounds_toArray, List.set_cons_zero, List.set_cons_succ]
        refine take_d (i := 13) (oi := _) (d := some 34) (v := ?v5_13) rfl rfl (by kernel_rfl) (by kernel_rfl) (by kernel_rfl) (fun _ _ _ h => h) (Or.inl ⟨by rfl, ?hy5_13⟩) (by assumption) ?r5_13
        case hy5_13 => intro w hSw; (try dsimp only at hSw); first | (go_simp; done) | (go_simp; with_reducible rfl)
        try simp only [Act.put, List.setIfInBounds_toArray, List.set_cons_zero, List.set_cons_succ]
        refine take_d (i := 14) (oi := _) (d := some 35) (v := ?v5_14) rfl rfl (by kernel_rfl) (by kernel_rfl) (by kernel_rfl) (fun _ _ _ h => h) (Or.inl ⟨by rfl, ?hy5_14⟩) (by assumption) ?r5_14
        case hy5_14 => intro w hSw; (try dsimp only at hSw); first | (go_simp; done) | (go_simp; with_reducible rfl)
        try simp only [Act.put, List.setIfInBounds_toArray, List.set_cons_zero, List.set_cons_succ]
        refine take_d (i := 15) (oi := _) (d := some 36) (v := ?v5_15) rfl rfl (by kernel_rfl) (by kernel_rfl) (by kernel_rfl) (fun _ _ _ h => h) (Or.inl ⟨by rfl, ?hy5_15⟩) (by assumption) ?r5_15
        case hy5_15 => intro w hSw; (try dsimp only at hSw); first | (go_simp; done) | (go_simp; with_reducible rfl)
        try simp only [Act.put, List.setIfInBounds_toArray, List.set_cons_zero, List.set_cons_succ]
        refine take_d (i := 16) (oi := _) (d := some 37) (v := ?v5_16) rfl rfl (by kernel_rfl) (by kernel_rfl) (by kernel_rfl) (fun _ _ _ h => h) (Or.inl ⟨by rfl, ?hy5_16⟩) (by assumption) ?r5_16
        case hy5_16 => intro w hSw; (try dsimp only at hSw); first | (go_simp; done) | (go_simp; with_reducible rfl)
        try simp only [Act.put, List.setIfInBounds_toArray, List.set_cons_zero, List.set_cons_succ]
        refine take_d (i := 17) (oi := _) (d := some 38) (v := ?v5_17) rfl rfl (by kernel_rfl) (by kernel_rfl) (by kernel_rfl) (fun _ _ _ h => h) (Or.inl ⟨by rfl, ?hy5_17⟩) (by assumption) ?r5_17
        case hy5_17 => intro w hSw; (try dsimp only at hSw); first | (go_simp; done) | (go_simp; with_reducible rfl)
        try simp only [Act.put, List.setIfInBounds_toArray, List.set_cons_zero, List.set_cons_succ]
        refine take_d (i := 18) (oi := _) (d := some 39) (v := ?v5_18) rfl rfl (by kernel_rfl) (by kernel_rfl) (by kernel_rfl) (fun _ _ _ h => h) (Or.inl ⟨by rfl, ?hy5_18⟩) (by assumption) ?r5_18
        case hy5_18 => intro w hSw; (try dsimp only at hSw); first | (go_simp; done) | (go_simp; with_reducible rfl)
        try simp only [Act.put, List.setIfInBounds_toArray, List.set_cons_zero, List.set_cons_succ]
        refine take_d (i := 19) (oi := _) (d := some 40) (v := ?v5_19) rfl rfl (by kernel_rfl) (by kernel_rfl) (by kernel_rfl) (fun _ _ _ h => h) (Or.inl ⟨by rfl, ?hy5_19⟩) (by assumption) ?r5_19
        case hy5_19 => intro w hSw; (try dsimp only at hSw); first | (go_simp; done) | (go_simp; with_reducible rfl)
        try simp only [Act.put, List.setIfInBounds_toArray, List.set_cons_zero, List.set_cons_succ]
        refine take_d (i := 20) (oi := _) (d := some 41) (v := ?v5_20) rfl rfl (by kernel_rfl) (by kernel_rfl) (by kernel_rfl) (fun _ _ _ h => h) (Or.inl ⟨by rfl, ?hy5_20⟩) (by assumption) ?r5_20
        case hy5_20 => intro w hSw; (try dsimp only at hSw); first | (go_simp; done) | (go_simp; with_reducible rfl)
        try simp only [Act.put, List.setIfInBounds_toArray, List.set_cons_zero, List.set_cons_succ]
        refine take_d (i := 21) (oi := _) (d := some 42) (v := ?v5_21) rfl rfl (by kernel_rfl) (by kernel_rfl) (by kernel_rfl) (fun _ _ _ h => h) (Or.inl ⟨by rfl, ?hy5_21⟩) (by assumption) ?r5_21
        case hy5_21 => intro w hSw; (try dsimp only at hSw); first | (go_simp; done) | (go_simp; with_reducible rfl)
        try simp only [Act.put, List.setIfInBounds_toArray, List.set_cons_zero, List.set_cons_succ]
        refine take_d (i := 22) (oi := _) (d := some 43) (v := ?v5_22) rfl rfl (by kernel_rfl) (by kernel_rfl) (by kernel_rfl) (fun _ _ _ h => h) (Or.inl ⟨by rfl, ?hy5_22⟩) (by assumption) ?r5_22
        case hy5_22 => intro w hSw; (try dsimp only at hSw); first | (go_simp; done) | (go_simp; with_reducible rfl)
        try simp only [Act.put, List.setIfInBounds_toArray, List.set_cons_zero, List.set_cons_succ]
        refine wpAnyH_ready (rs := [23]) (by kernel_rfl) (by simp) ?_
        refine AllReadyH.cons (o := _) rfl (fun K hK => ?_) AllReadyH.nil
        go_simp
        go_at_call 104; (with_reducible refine (l10In_any _ _ ss _ _ HLN.out (NewA.below HN2.out (below_drew_trans hb4)).rd).mono ?_); rintro e w5 ⟨rfl, hb5⟩; rw [q4]
        refine hK.out _ _ ?_ (fun hHeld23 => ?_)
        · exact ⟨((HX2.out.below (below_drew_trans hb4)).below hb5).cell, ((HM2.out.below (below_drew_trans hb4)).below hb5).cell, cell_keep (below_trans (below_trans HB2.out (below_drew_trans hb4)) hb5) H00.out⟩
        clear hK K hHeld6
        try simp only [Act.put, List.setIfInBounds_toArray, List.set_cons_zero, List.set_cons_succ]
        refine take_d (i := 24) (oi := _) (d := some 45) (v := ?v5_24) rfl rfl (by kernel_rfl) (by kernel_rfl) (by kernel_rfl) (fun _ _ _ h => h) (Or.inl ⟨by rfl, ?hy5_24⟩) (by assumption) ?r5_24
        case hy5_24 => intro w hSw; (try dsimp only at hSw); first | (go_simp; done) | (go_simp; with_reducible rfl)
        try simp only [Act.put, List.setIfInBounds_toArray, List.set_cons_zero, List.set_cons_succ]
        refine wpAnyH_done (by kernel_rfl) ?_ _
        clear hHeld23
        have HQ : Hid (cmB (isW (hdO bs)) [] bs = cmB (isW (hdO bs)) L (bs.drop (k + 1))) := by
          unfold Hid; rw [HCM.out, HD.out, HL.out]; exact cm_yes (by rw [isW_in, HHD.out]; simp only; rw [QW, q2, q4]; simp)
        have hb45 := below_trans (below_drew_trans hb4) hb5
        have HX4 := Lib.hid (HX2.out.below hb45)
        have HN4 := Lib.hid (NewA.below HN2.out hb45)
        have HM4 := Lib.hid (HM2.out.below hb45)
        have HB4 := Lib.hid (below_trans HB2.out hb45)
        clear hb4 hb5 hb45 HX2 HN2 HM2 HB2
        have hx4 := HX4.out.cell
        have hsz4 : w.heap.size < w5.heap.size := HM4.out.lt
        have hrow : ∀ q, Value.ownBlock (.slice C ss.length d) = some q → w.heap.size + 1 ≤ q := fun q hq => (World.ownsRow.lt HN4.out q hq).1
        go_wp2_with (at_builtin; refine wpList_append_oneM rfl (.tmp 46) (.tmp 49) rfl (w.heap.size + 1) C d ss th rfl rfl HN4.out HLN.out (by omega) L HL.out ?_)
        intro C5 d5 w6 hnew hgr
        have HN6 := Lib.hid hnew
        have HM6 := Lib.hid ((HM4.out.below (below_alloc _ (.cells #[.int .i64 th] 3))).mgrown hgr (fun h => by have := hrow _ h.symm; omega))
        have HB6 := Lib.hid ((below_trans HB4.out (below_alloc _ (.cells #[.int .i64 th] 3))).grown hgr (by have := HB4.out.size; simp; omega) (fun q hq => by have := hrow q hq; omega))
        clear hnew hgr
        go_wp2
        go_roundw
        case rel => exact ⟨k + 1, C5, d5, L, by omega, by go_num, rfl, HTK.out, HN6.out, HQ.out, HM6.out, HB6.out⟩
        case measure => simp [intOf]; omega
    · have hge : ¬ (k : Int) < bs.length := by omega
      have ek : k = bs.length := by omega
      have HW1 : Hid (cmB (isW (hdO bs)) [] bs = true) := by unfold Hid; rw [HCM.out, ek, List.drop_length]; rfl
      have HS2 : Hid (ss = bs.map Wtr.th) := by unfold Hid; rw [HSS.out, ek, List.take_length]
      have HLN : Hid (ss.length ≤ 1048576) := by unfold Hid; rw [HS2.out, List.length_map]; exact ht
      clear HSS
      clear HCM
      go_wp2_with fail
      go_loopw [6] (fun i wr => ∃ k : Nat, k ≤ os.length ∧ i = .int .i64 k ∧ csB ss os = csB ss (os.drop k) ∧ NewA (w.heap.size + 1) wr C d ss ∧ BoxC 31 wr w.heap.size #[.slice A zs.length ca, .int .i64 cnt, .slice B bs.length cb, .slice O os.length co] ∧ Below w.heap.size w wr) (fun i _ => os.length - (intOf i).toNat)
      case atStart => exact ⟨0, Nat.zero_le _, rfl, rfl, HN.out, HM.out, HB.out⟩
      case round =>
        clear HB HM HN hm hk hlt hge ek
        obtain ⟨k, hk, rfl, hcm, hown, hmb, hbl⟩ := hrel
        have HB := Lib.hid hbl; have HCM := Lib.hid hcm; have HN := Lib.hid hown; have HM := Lib.hid hmb
        clear hbl hcm hown hmb
        have hm := HM.out.cell
        by_cases hlt : k < os.length
        · have hlt' : (k : Int) < os.length := by omega
          obtain ⟨x, hx⟩ : ∃ x, os[k]? = some x := ⟨_, List.getElem?_eq_getElem hlt⟩
          obtain ⟨b, o, rfl, hrow⟩ := (HC.out.below HB.out).row Wtr.len k x hx
          have HD := Lib.hid (dropW hx)
          clear hx
          obtain ⟨th, op, arg⟩ := x
          have HRW : Hid (wr.rangeAt b (o + k * 3) [.int .i64 th, .int .i64 op, .int .i64 arg]) := hrow
          have HCL := Lib.hid (cellsWaiter _ _ _ hrow)
          clear hrow
          go_wp2_with (refine wpList_load_mid rfl 35 _ rfl b (o + k * 3) ?_ _ _ HRW.out Try.underlying35 rfl info_iWaiter ?_; rfl)
          refine (specWaiter_any _ _ _ _).mono ?_
          rintro e w2 ⟨rfl, hb⟩
          have HB2 := Lib.hid (below_trans HB.out hb)
          have HM2 := Lib.hid (HM.out.below hb)
          have HN2 := Lib.hid (NewA.below HN.out hb)
          have HC0 := Lib.hid (cell_keep hb HCL.out.1)
          have HC1 := Lib.hid (cell_keep hb HCL.out.2.1)
          clear hb HB HM HN HCL HRW hm
          have hm := HM2.out.cell; have hc0 := HC0.out; have hc1 := HC1.out
          cases QW : wtB th op arg
          · have HF : Hid (mdB zs cnt bs os = false) := by unfold Hid; refine md_b ?_; rw [← HS2.out, HCM.out]; exact cs_no HD.out (by simp only; rw [QW]; rfl)
            go_wp2
            go_ret
            exact ⟨ret_bool HF.out.symm, HB2.out⟩
          by_cases q1 : op = 3
          rotate_left
          · have q1b : (op != 3) = true := by simpa using q1
            have HF : Hid (mdB zs cnt bs os = false) := by unfold Hid; refine md_b ?_; rw [← HS2.out, HCM.out]; exact cs_no HD.out (by simp [isO, q1])
            go_wp2
            go_ret
            exact ⟨ret_bool HF.out.symm, HB2.out⟩
          subst q1
          go_wp2_with fail
          refine (l10In_any _ _ ss _ _ HLN.out HN2.out.rd).mono ?_
          rintro e w3 ⟨rfl, hb⟩
          have HB3 := Lib.hid (below_trans HB2.out hb)
          have HM3 := Lib.hid (HM2.out.below hb)
          have HN3 := Lib.hid (NewA.below HN2.out hb)
          clear hb hm hc0 hc1 HC0 HC1 HB2 HM2 HN2
          cases q4 : ss.contains th
          · have HQ : Hid (csB ss os = csB ss (os.drop (k + 1))) := by
              unfold Hid; rw [HCM.out]; exact cs_yes HD.out (by simp only; rw [QW, q4]; rfl)
            go_wp2
            go_roundw
            case rel => exact ⟨k + 1, by omega, by go_num, HQ.out, HN3.out, HM3.out, HB3.out⟩
            case measure => simp [intOf]; omega
          · have HF : Hid (mdB zs cnt bs os = false) := by unfold Hid; refine md_b ?_; rw [← HS2.out, HCM.out]; exact cs_no HD.out (by simp only; rw [QW, q4]; rfl)
            go_wp2
            go_ret
            exact ⟨ret_bool HF.out.symm, HB3.out⟩
        · have hge : ¬ (k : Int) < os.length := by omega
          have HW2 : Hid (csB (bs.map Wtr.th) os = true) := by unfold Hid; rw [← HS2.out, HCM.out, show k = os.length from by omega, List.drop_length]; rfl
          clear HCM
          go_wp2_with fail
          go_loopw [7] (fun i wr => ∃ k : Nat, k ≤ zs.length ∧ i = .int .i64 k ∧ zs.all (fun v => inB v 0 999) = (zs.drop k).all (fun v => inB v 0 999) ∧ BoxC 31 wr w.heap.size #[.slice A zs.length ca, .int .i64 cnt, .slice B bs.length cb, .slice O os.length co] ∧ Below w.heap.size w wr) (fun i _ => zs.length - (intOf i).toNat)
          case atStart => exact ⟨0, Nat.zero_le _, rfl, rfl, HM.out, HB.out⟩
          case round =>
            clear HB HM HN hm hk hlt hge
            obtain ⟨k, hk, rfl, hall, hmb, hbl⟩ := hrel
            have HB := Lib.hid hbl; have HL := Lib.hid hall; have HM := Lib.hid hmb
            clear hbl hall hmb
            have hm := HM.out.cell
            by_cases hlt : k < zs.length
            · have hlt' : (k : Int) < zs.length := by omega
              obtain ⟨v, hv⟩ : ∃ v, zs[k]? = some v := ⟨_, List.getElem?_eq_getElem hlt⟩
              obtain ⟨b, o, rfl, hc⟩ := HA.out k hlt
              have HCC : Hid (wr.cell? ⟨b, o + k, none⟩ = some (.int .i64 v)) := by
                unfold Hid
                have h1 := cell_keep HB.out hc
                rw [h1]
                congr 2
                rw [List.getD_eq_getElem?_getD, hv]; rfl
              have HV := Lib.hid hv
              clear hc hv
              have hc := HCC.out
              cases q : inB v 0 999
              · have HF : Hid (mdB zs cnt bs os = false) := by unfold Hid; refine md_4 ?_; rw [HL.out, badF_yes HV.out q]
                go_wp2_with (first | (go_at_call 102; refine (l01In_any _ _ _ _).mono ?_; rintro e w' ⟨rfl, rfl⟩; rw [q]))
                go_ret
                exact ⟨ret_bool HF.out.symm, HB.out⟩
              · have HN := Lib.hid (badF_no HV.out q)
                go_wp2_with (first | (go_at_call 102; refine (l01In_any _ _ _ _).mono ?_; rintro e w' ⟨rfl, rfl⟩; rw [q]))
                go_roundw
                case rel => exact ⟨k + 1, by omega, by go_num, HL.out.trans HN.out, HM.out, HB.out⟩
                case measure => simp [intOf]; omega
            · have hge : ¬ (k : Int) < zs.length := by omega
              have HW3 : Hid (zs.all (fun v => inB v 0 999) = true) := by unfold Hid; rw [HL.out, show k = zs.length from by omega, List.drop_length]; rfl
              by_cases g1 : os.length ≤ 1
              rotate_left
              · have g1' : ¬ (os.length : Int) ≤ 1 := by omega
                have HF := Lib.hid (md_3 (zs := zs) (cnt := cnt) (bs := bs) g1)
                go_wp2
                go_ret
                exact ⟨ret_bool HF.out.symm, HB.out⟩
              have g1' : (os.length : Int) ≤ 1 := by omega
              by_cases g2 : zs.length ≤ 400
              rotate_left
              · have g2' : ¬ (zs.length : Int) ≤ 400 := by omega
                have HF := Lib.hid (md_1 (cnt := cnt) (bs := bs) (os := os) g2)
                go_wp2
                go_ret
                exact ⟨ret_bool HF.out.symm, HB.out⟩
              have g2' : (zs.length : Int) ≤ 400 := by omega
              have HF := Lib.hid (md_c (cnt := cnt) HW1.out HW2.out HW3.out g1 g2)
              go_wp2_with (first | (go_at_call 102; refine (l01In_any _ _ _ _).mono ?_; rintro e w' ⟨rfl, rfl⟩))
              go_ret
              exact ⟨ret_bool HF.out.symm, HB.out⟩
end Go.Proofs.Ythianfhfamkcmaa
