/-
  The walk of the law FnOverlap.
-/
import Derived.Test.YtankgijibenehaaFinC
import Derived.Test.YtankgijibenehaaHistB
import Derived.Test.YtankgijibenehaaAtS
import Derived.Deep.DeepCutAuto
import Derived.Deep.RegionLaw
namespace Go.Proofs.Ytankgijibenehaa
open Go.RowKit

theorem fin_ok2 {th op arg f t v : Int} (h0 : 0 ≤ th ∧ th < 4) (ho : opB op = true) (ha : argB op arg = true) (f0 : 0 ≤ f ∧ f < 9) (hv : 0 ≤ v ∧ v < 9) (ht : t = 0 ∨ 18 ≤ t ∧ t < 27) : clB th op arg (f + v) t 0 0 = true := by
  unfold clB
  rw [inB_iff.2 (by omega), ho, ha, inB_iff.2 (by omega)]
  rcases ht with rfl | ht
  · rfl
  · rw [if_neg (by omega), inB_iff.2 (by omega)]; rfl
theorem BoxC.set {t : TypeId} {w : World} {k : Nat} {cs : Array Value} (h : BoxC t w k cs) (i : Nat) (v : Value) : BoxC t (w.setCell ⟨k, i, none⟩ v) k (cs.setIfInBounds i v) := heap_setCell_same w k i cs _ v h
theorem BoxC.other {t : TypeId} {w : World} {k : Nat} {cs : Array Value} (h : BoxC t w k cs) (a : Addr) (v : Value) (hk : k ≠ a.block) : BoxC t (w.setCell a v) k cs := (heap_setCell_other w a k v hk).trans h
theorem BoxC.froz {t : TypeId} {w : World} {k : Nat} {cs : Array Value} (h : BoxC t w k cs) (j : Nat) : w.frozen? ⟨k, j, none⟩ = false := frozen_of_row w k j cs _ h
theorem BoxC.drew {t : TypeId} {w : World} {k : Nat} {cs : Array Value} (h : BoxC t w k cs) : BoxC t w.drew k cs := h
theorem BoxC.cells {t : TypeId} {w : World} {b : Nat} (tha opa arga fra toa codea resa : Int) (h : BoxC t w b #[.int .i64 tha, .int .i64 opa, .int .i64 arga, .int .i64 fra, .int .i64 toa, .int .i64 codea, .int .i64 resa]) : (w.cell? ⟨b, 0, none⟩ = some (.int .i64 tha) ∧ w.cell? ⟨b, 1, none⟩ = some (.int .i64 opa) ∧ w.cell? ⟨b, 2, none⟩ = some (.int .i64 arga) ∧ w.cell? ⟨b, 3, none⟩ = some (.int .i64 fra) ∧ w.cell? ⟨b, 4, none⟩ = some (.int .i64 toa) ∧ w.cell? ⟨b, 5, none⟩ = some (.int .i64 codea) ∧ w.cell? ⟨b, 6, none⟩ = some (.int .i64 resa)) := ⟨h.cell 0, h.cell 1, h.cell 2, h.cell 3, h.cell 4, h.cell 5, h.cell 6⟩
theorem at_zero (A : Option Addr) (n c : Nat) (q : Int) (w : World) (hn : n ≤ 1048576) (hq1 : 1 < q) (hq2 : q ≤ 1000000) (hA : RdB w A n) :
    Calls Try.prog 14 #[.slice A n c, .int .i64 0, .int .i64 q] w fun e w' => ∃ r : Int, 0 ≤ r ∧ r < q ∧ e = .returned (.int .i64 r) ∧ Below w.heap.size w w' := at_any A n c 0 q w hn (by decide) hq1 hq2 hA
theorem RdB.drew {w : World} {A : Option Addr} {n : Nat} (h : RdB w A n) : RdB w.drew A n := h
theorem BoxC.rowOther {t : TypeId} {w : World} {k b : Nat} {cs : Array Value} (h : BoxC t w k cs) (hk : k ≠ b) (bs : Array Value) : BoxC t (w.setRow b bs) k cs := (setRow_other w b k bs hk).trans h
theorem over_both {f t f2 t2 : Int} (k0 : t = 0 ∨ f < t) (k2 : t2 = 0 ∨ f2 < t2) : (overB t f2 && overB t2 f) = false := by
  cases q : overB t f2
  · rfl
  cases q2 : overB t2 f
  · rfl
  have a : t ≠ 0 ∧ t ≤ f2 := by simpa [overB] using q
  have b : t2 ≠ 0 ∧ t2 ≤ f := by simpa [overB] using q2
  omega


set_option maxHeartbeats 16000000 in
set_option maxRecDepth 100000 in
theorem lawOverlap_walk (A : Option Addr) (c n : Nat) (A2 : Option Addr) (c2 n2 : Nat) (w : World) (hm : n ≤ maxLen) (hA : RdB w A n) (hm2 : n2 ≤ maxLen) (hA2 : RdB w A2 n2) :
    Calls Try.prog 3 #[.slice A n c, .slice A2 n2 c2] w fun e w' => e = .returned (.bool true) ∧ Below w.heap.size w w' := by
  have HA := Lib.hid hA; have HA2 := Lib.hid hA2; have HM := Lib.hid hm; have HM2 := Lib.hid hm2; clear hA hA2 hm hm2
  by_cases hb1 : 1048576 < n
  · go_enter Try.func3, Try.ntmps3
    go_wp2
    go_ret
    exact ⟨rfl, Below.refl _ _⟩
  have hd1 : decide (1048576 < n) = false := decide_eq_false hb1
  by_cases hb2 : 1048576 < n2
  · go_enter Try.func3, Try.ntmps3
    go_wp2
    go_ret
    exact ⟨rfl, Below.refl _ _⟩
  have hd2 : decide (1048576 < n2) = false := decide_eq_false hb2
  have hs2 : n2 ≤ 1048576 := by omega
  go_enter Try.func3, Try.ntmps3
  go_wp2_with fail
  refine (CallDrawn_any A n c _ HM.out HA.out).mono ?_
  rintro e w1 ⟨tha, opa, arga, fra, toa, ha1, ha2, ha3, ha4, ha5, rfl, hb⟩
  have HB1 := Lib.hid hb; clear hb
  have QA : clB tha opa arga fra toa 0 0 = true := fin_ok ha1.1 ha1.2 ha2 ha3 ha4.1 ha4.2 ha5
  have QA2 := Lib.hid (And.intro ha4 ha5)
  clear ha1 ha2 ha3 ha4 ha5
  have HX := Lib.hid (BoxC.new 24 w1 #[.int .i64 0, .int .i64 0, .int .i64 0, .int .i64 0, .int .i64 0, .int .i64 0, .int .i64 0])
  go_wp2_with (refine wpList_store_row rfl 24 _ _ rfl w1.heap.size _ rfl rfl 24 _ HX.out info_call7 rfl (one7 _ _ _ _ _ _ _) ?_)

  have HXA := Lib.hid (HX.out.row #[.int .i64 tha, .int .i64 opa, .int .i64 arga, .int .i64 fra, .int .i64 toa, .int .i64 0, .int .i64 0])
  have HB2 := Lib.hid (below_row (below_trans HB1.out (below_alloc w1 (.cells #[.int .i64 0, .int .i64 0, .int .i64 0, .int .i64 0, .int .i64 0, .int .i64 0, .int .i64 0] 24))) HB1.out.size #[.int .i64 tha, .int .i64 opa, .int .i64 arga, .int .i64 fra, .int .i64 toa, .int .i64 0, .int .i64 0])
  generalize (w1.alloc (.cells #[.int .i64 0, .int .i64 0, .int .i64 0, .int .i64 0, .int .i64 0, .int .i64 0, .int .i64 0] 24)).setRow w1.heap.size #[.int .i64 tha, .int .i64 opa, .int .i64 arga, .int .i64 fra, .int .i64 toa, .int .i64 0, .int .i64 0] = w2 at HXA HB2 ⊢
  have hka : w.heap.size ≤ w1.heap.size := HB1.out.size
  generalize w1.heap.size = ka at HXA hka ⊢
  clear HX HB1
  go_wp2_with fail
  refine (CallDrawn_any A2 n2 c2 _ HM2.out (HA2.out.below HB2.out)).mono ?_
  rintro e w3 ⟨thb, opb, argb, frb, tob, hb1, hb2, hb3, hb4, hb5, rfl, hb⟩
  have HB3 := Lib.hid (below_trans HB2.out hb)
  have HXA3 := Lib.hid (HXA.out.below (below_trans hb (below_alloc w3 (.cells #[.int .i64 0, .int .i64 0, .int .i64 0, .int .i64 0, .int .i64 0, .int .i64 0, .int .i64 0] 24))))
  have QB := Lib.hid (And.intro hb1 (And.intro hb2 (And.intro hb3 (And.intro hb4 hb5))))
  have hlt : ka < w3.heap.size := Nat.lt_of_lt_of_le HXA.out.lt hb.size
  clear hb HB2 HXA hb1 hb2 hb3
  have HX := Lib.hid (BoxC.new 24 w3 #[.int .i64 0, .int .i64 0, .int .i64 0, .int .i64 0, .int .i64 0, .int .i64 0, .int .i64 0])
  go_wp2_with (refine wpList_store_row rfl 24 _ _ rfl w3.heap.size _ rfl rfl 24 _ HX.out info_call7 rfl (one7 _ _ _ _ _ _ _) ?_)
  have HXB := Lib.hid (HX.out.row #[.int .i64 thb, .int .i64 opb, .int .i64 argb, .int .i64 frb, .int .i64 tob, .int .i64 0, .int .i64 0])
  have HXA4 := Lib.hid (HXA3.out.rowOther (b := w3.heap.size) (by omega) #[.int .i64 thb, .int .i64 opb, .int .i64 argb, .int .i64 frb, .int .i64 tob, .int .i64 0, .int .i64 0])
  have HB4 := Lib.hid (below_row (below_trans HB3.out (below_alloc w3 (.cells #[.int .i64 0, .int .i64 0, .int .i64 0, .int .i64 0, .int .i64 0, .int .i64 0, .int .i64 0] 24))) HB3.out.size #[.int .i64 thb, .int .i64 opb, .int .i64 argb, .int .i64 frb, .int .i64 tob, .int .i64 0, .int .i64 0])
  generalize (w3.alloc (.cells #[.int .i64 0, .int .i64 0, .int .i64 0, .int .i64 0, .int .i64 0, .int .i64 0, .int .i64 0] 24)).setRow w3.heap.size #[.int .i64 thb, .int .i64 opb, .int .i64 argb, .int .i64 frb, .int .i64 tob, .int .i64 0, .int .i64 0] = w4 at HXA4 HXB HB4 ⊢
  have hkb : w.heap.size ≤ w3.heap.size := HB3.out.size
  generalize w3.heap.size = kb at HXB hkb hlt ⊢
  clear HX HB3 HXA3
  go_wp2_with fail
  try go_simp
  go_cut [] (fun wx => ∃ v : Int, 0 ≤ v ∧ v < 9 ∧ BoxC 24 wx ka #[.int .i64 tha, .int .i64 opa, .int .i64 arga, .int .i64 fra, .int .i64 toa, .int .i64 0, .int .i64 0] ∧ BoxC 24 wx kb #[.int .i64 thb, .int .i64 opb, .int .i64 argb, .int .i64 (frb + v), .int .i64 tob, .int .i64 0, .int .i64 0] ∧ Below w.heap.size w wx)
  case first =>
    have hx4 := HXB.out.cell
    have HBd : Hid (∀ u : World, Below w4.drew.heap.size w4.drew u → Below w4.heap.size w4 u) := fun u h => below_drew_trans h
    have HA2d : Hid (RdB w4.drew A2 n2) := (HA2.out.below HB4.out : RdB w4 A2 n2)
    have hbf := QB.out.2.2.2.1
    go_region_law (first
      | (go_simp; go_at_call 14; (with_reducible refine (at_zero A2 n2 c2 9 w4.drew hs2 (by decide) (by decide) HA2d.out).mono ?_); rintro e w5 ⟨v, hv0, hv1, rfl, hb⟩; have qv : IntKind.i64.wrap (frb + v) = frb + v := IntWalk.i64_in _ (by omega); have HXA5 := Lib.hid (HXA4.out.below (HBd.out _ hb)); have HXB5 := Lib.hid (HXB.out.below (HBd.out _ hb)); have HB5 := Lib.hid (below_trans HB4.out (HBd.out _ hb)); have hx5 := HXB5.out.cell; have hf5 := HXB5.out.froz; clear hb))
    all_goals
      go_wp2_with fail
      go_meet
      exact ⟨v, hv0, hv1, HXA5.out.other _ _ (by simp; omega), HXB5.out.set 3 _, below_set HB5.out hkb⟩
  case rest =>
  obtain ⟨v, hv0, hv1, hxa, hxb, hbw⟩ := hcut
  have HXA6 := Lib.hid hxa; have HXB6 := Lib.hid hxb; have HB6 := Lib.hid hbw
  clear hxa hxb hbw HXA4 HXB HB4 HA HA2
  have hx6 := HXB6.out.cell
  have hf6 := HXB6.out.froz
  have hbf := QB.out.2.2.2.1

  rcases QB.out.2.2.2.2 with h5 | h5
  · subst h5
    have QBB : clB thb opb argb (frb + v) 0 0 0 = true := fin_ok2 QB.out.1 QB.out.2.1 QB.out.2.2.1 hbf ⟨hv0, hv1⟩ (.inl rfl)
    have HYZ := over_both (f := fra) (t := toa) (f2 := frb + v) (t2 := 0) (by have := QA2.out; omega) (.inl rfl)
    go_upto_region 8 with fail
    have HC6 := Lib.hid (And.intro HXA6.out.cells HXB6.out.cells)
    clear hx6 hf6 HXA6 HXB6 QB hbf
    generalize frb + v = fb at HC6 QBB HYZ ⊢
    obtain ⟨y, hy⟩ : ∃ y, overB toa fb = y := ⟨_, rfl⟩
    obtain ⟨z, hz⟩ : ∃ z, overB 0 fra = z := ⟨_, rfl⟩
    rw [hy, hz] at HYZ
    have E1 : Hid ((clB tha opa arga fra toa 0 0 && clB thb opb argb fb 0 0 0 && ovB fra toa fb 0) = (!y && !z)) := by unfold Hid; rw [QA, QBB, ovB, hy, hz]; rfl
    have E2 : Hid ((clB tha opa arga fra toa 0 0 && clB thb opb argb fb 0 0 0 && overB toa fb) = y) := by unfold Hid; rw [QA, QBB, hy]; rfl
    have E3 : Hid ((clB thb opb argb fb 0 0 0 && clB tha opa arga fra toa 0 0 && overB 0 fra) = z) := by unfold Hid; rw [QA, QBB, hz]; rfl
    have E4 : Hid ((clB thb opb argb fb 0 0 0 && clB tha opa arga fra toa 0 0 && ovB fb 0 fra toa) = (!z && !y)) := by unfold Hid; rw [QA, QBB, ovB, hy, hz]; rfl
    have C1 : Hid (twoC (clB tha opa arga fra toa 0 0) (clB thb opb argb fb 0 0 0) = 0) := by unfold Hid; rw [QA, QBB]; rfl
    have C2 : Hid (twoC (clB thb opb argb fb 0 0 0) (clB tha opa arga fra toa 0 0) = 0) := by unfold Hid; rw [QA, QBB]; rfl
    have QAH := Lib.hid QA
    clear QBB hy hz
    obtain ⟨s, hs⟩ : ∃ s, spanR (clB tha opa arga fra toa 0 0) fra toa = s := ⟨_, rfl⟩
    obtain ⟨k, hk⟩ : ∃ k, spanC (clB tha opa arga fra toa 0 0) toa = k := ⟨_, rfl⟩
    have HS := Lib.hid hs; have HK := Lib.hid hk; clear hs hk
    obtain ⟨⟨h0, h1, h2, h3, h4, h5, h6⟩, ⟨g0, g1, g2, g3, g4, g5, g6⟩⟩ := HC6.out
    go_wp2_with fail
    refine (implOverlaps_any _ _ _ _ _ _ _ _ _ _ _ _ _ _ _).mono ?_
    rintro e w7 ⟨rfl, hb⟩
    rw [E1.out, C1.out]
    have HB7 := Lib.hid (below_trans HB6.out hb)
    have HC7 := Lib.hid (keep2C _ _ _ _ _ _ _ _ _ _ _ _ _ _ hb HC6.out)
    clear hb HB6 HC6 h0 g0 h1 g1 h2 g2 h3 g3 h4 g4 h5 g5 h6 g6
    obtain ⟨⟨h0, h1, h2, h3, h4, h5, h6⟩, ⟨g0, g1, g2, g3, g4, g5, g6⟩⟩ := HC7.out
    go_wp2_with fail
    refine (implIsBefore_any _ _ _ _ _ _ _ _ _ _ _ _ _ _ _).mono ?_
    rintro e w8 ⟨rfl, hb⟩
    rw [E2.out, C1.out]
    have HB8 := Lib.hid (below_trans HB7.out hb)
    have HC8 := Lib.hid (keep2C _ _ _ _ _ _ _ _ _ _ _ _ _ _ hb HC7.out)
    clear hb HB7 HC7 h0 g0 h1 g1 h2 g2 h3 g3 h4 g4 h5 g5 h6 g6
    obtain ⟨⟨h0, h1, h2, h3, h4, h5, h6⟩, ⟨g0, g1, g2, g3, g4, g5, g6⟩⟩ := HC8.out
    go_wp2_with fail
    refine (implIsBefore_any _ _ _ _ _ _ _ _ _ _ _ _ _ _ _).mono ?_
    rintro e w9 ⟨rfl, hb⟩
    rw [E3.out, C2.out]
    have HB9 := Lib.hid (below_trans HB8.out hb)
    have HC9 := Lib.hid (keep2C _ _ _ _ _ _ _ _ _ _ _ _ _ _ hb HC8.out)
    clear hb HB8 HC8 h0 g0 h1 g1 h2 g2 h3 g3 h4 g4 h5 g5 h6 g6
    obtain ⟨⟨h0, h1, h2, h3, h4, h5, h6⟩, ⟨g0, g1, g2, g3, g4, g5, g6⟩⟩ := HC9.out
    go_wp2_with fail
    refine (implOverlaps_any _ _ _ _ _ _ _ _ _ _ _ _ _ _ _).mono ?_
    rintro e w10 ⟨rfl, hb⟩
    rw [E4.out, C2.out]
    have HB10 := Lib.hid (below_trans HB9.out hb)
    have HC10 := Lib.hid (keep2C _ _ _ _ _ _ _ _ _ _ _ _ _ _ hb HC9.out)
    clear hb HB9 HC9 h0 g0 h1 g1 h2 g2 h3 g3 h4 g4 h5 g5 h6 g6
    obtain ⟨⟨h0, h1, h2, h3, h4, h5, h6⟩, ⟨g0, g1, g2, g3, g4, g5, g6⟩⟩ := HC10.out
    go_wp2_with fail
    refine (specOverlaps_any _ _ _ _ _ _ _ _ _ _ _ _ _ _ _).mono ?_
    rintro e w11 ⟨rfl, hb⟩
    rw [E1.out, C1.out]
    have HB11 := Lib.hid (below_trans HB10.out hb)
    have HC11 := Lib.hid (keep2C _ _ _ _ _ _ _ _ _ _ _ _ _ _ hb HC10.out)
    clear hb HB10 HC10 h0 g0 h1 g1 h2 g2 h3 g3 h4 g4 h5 g5 h6 g6
    obtain ⟨⟨h0, h1, h2, h3, h4, h5, h6⟩, ⟨g0, g1, g2, g3, g4, g5, g6⟩⟩ := HC11.out
    go_wp2_with fail
    refine (implSpanOf_any _ _ _ _ _ _ _ _).mono ?_
    rintro e w12 ⟨rfl, hb⟩
    rw [HS.out, HK.out]
    have HB12 := Lib.hid (below_trans HB11.out hb)
    have HC12 := Lib.hid (keep2C _ _ _ _ _ _ _ _ _ _ _ _ _ _ hb HC11.out)
    clear hb HB11 HC11 h0 g0 h1 g1 h2 g2 h3 g3 h4 g4 h5 g5 h6 g6
    obtain ⟨⟨h0, h1, h2, h3, h4, h5, h6⟩, ⟨g0, g1, g2, g3, g4, g5, g6⟩⟩ := HC12.out
    by_cases h0 : toa = 0
    · subst h0
      have hs0 : s = 0 := by rw [← HS.out, QAH.out]; rfl
      have hk5 : k = 5 := by rw [← HK.out, QAH.out]; rfl
      subst hs0; subst hk5
      clear HS HK
      cases y <;> cases z
      · go_wp2_with fail
        refine (implCallOK_any _ _ _ _ _ _ _ _).mono ?_
        rintro e w13 ⟨rfl, hb⟩
        rw [QAH.out]
        have HB13 := Lib.hid (below_trans HB12.out hb)
        have HC13 := Lib.hid (keep2C _ _ _ _ _ _ _ _ _ _ _ _ _ _ hb HC12.out)
        clear hb HB12 HC12 h0 g0 h1 g1 h2 g2 h3 g3 h4 g4 h5 g5 h6 g6
        obtain ⟨⟨h0, h1, h2, h3, h4, h5, h6⟩, ⟨g0, g1, g2, g3, g4, g5, g6⟩⟩ := HC13.out
        go_wp2
        go_ret
        exact ⟨rfl, HB13.out⟩
      · go_wp2_with fail
        refine (implCallOK_any _ _ _ _ _ _ _ _).mono ?_
        rintro e w13 ⟨rfl, hb⟩
        rw [QAH.out]
        have HB13 := Lib.hid (below_trans HB12.out hb)
        have HC13 := Lib.hid (keep2C _ _ _ _ _ _ _ _ _ _ _ _ _ _ hb HC12.out)
        clear hb HB12 HC12 h0 g0 h1 g1 h2 g2 h3 g3 h4 g4 h5 g5 h6 g6
        obtain ⟨⟨h0, h1, h2, h3, h4, h5, h6⟩, ⟨g0, g1, g2, g3, g4, g5, g6⟩⟩ := HC13.out
        go_wp2
        go_ret
        exact ⟨rfl, HB13.out⟩
      · go_wp2_with fail
        refine (implCallOK_any _ _ _ _ _ _ _ _).mono ?_
        rintro e w13 ⟨rfl, hb⟩
        rw [QAH.out]
        have HB13 := Lib.hid (below_trans HB12.out hb)
        have HC13 := Lib.hid (keep2C _ _ _ _ _ _ _ _ _ _ _ _ _ _ hb HC12.out)
        clear hb HB12 HC12 h0 g0 h1 g1 h2 g2 h3 g3 h4 g4 h5 g5 h6 g6
        obtain ⟨⟨h0, h1, h2, h3, h4, h5, h6⟩, ⟨g0, g1, g2, g3, g4, g5, g6⟩⟩ := HC13.out
        go_wp2
        go_ret
        exact ⟨rfl, HB13.out⟩
      · cases HYZ
    have hs0 : s = toa - fra := by rw [← HS.out, QAH.out]; simp [spanR, h0]
    have hk5 : k = 0 := by rw [← HK.out, QAH.out]; simp [spanC, h0]
    have qw : IntKind.i64.wrap (toa - fra) = toa - fra := by have := QA2.out; exact IntWalk.i64_in _ (by omega)
    have ht0 : (toa == 0) = false := by simpa using h0
    have ht1 : 0 < toa := by have := QA2.out; omega
    subst hs0; subst hk5
    clear HS HK
    cases y <;> cases z
    · go_wp2_with fail
      refine (implCallOK_any _ _ _ _ _ _ _ _).mono ?_
      rintro e w13 ⟨rfl, hb⟩
      rw [QAH.out]
      have HB13 := Lib.hid (below_trans HB12.out hb)
      have HC13 := Lib.hid (keep2C _ _ _ _ _ _ _ _ _ _ _ _ _ _ hb HC12.out)
      clear hb HB12 HC12 h0 g0 h1 g1 h2 g2 h3 g3 h4 g4 h5 g5 h6 g6
      obtain ⟨⟨h0, h1, h2, h3, h4, h5, h6⟩, ⟨g0, g1, g2, g3, g4, g5, g6⟩⟩ := HC13.out
      go_wp2
      go_ret
      exact ⟨rfl, HB13.out⟩
    · go_wp2_with fail
      refine (implCallOK_any _ _ _ _ _ _ _ _).mono ?_
      rintro e w13 ⟨rfl, hb⟩
      rw [QAH.out]
      have HB13 := Lib.hid (below_trans HB12.out hb)
      have HC13 := Lib.hid (keep2C _ _ _ _ _ _ _ _ _ _ _ _ _ _ hb HC12.out)
      clear hb HB12 HC12 h0 g0 h1 g1 h2 g2 h3 g3 h4 g4 h5 g5 h6 g6
      obtain ⟨⟨h0, h1, h2, h3, h4, h5, h6⟩, ⟨g0, g1, g2, g3, g4, g5, g6⟩⟩ := HC13.out
      go_wp2
      go_ret
      exact ⟨rfl, HB13.out⟩
    · go_wp2_with fail
      refine (implCallOK_any _ _ _ _ _ _ _ _).mono ?_
      rintro e w13 ⟨rfl, hb⟩
      rw [QAH.out]
      have HB13 := Lib.hid (below_trans HB12.out hb)
      have HC13 := Lib.hid (keep2C _ _ _ _ _ _ _ _ _ _ _ _ _ _ hb HC12.out)
      clear hb HB12 HC12 h0 g0 h1 g1 h2 g2 h3 g3 h4 g4 h5 g5 h6 g6
      obtain ⟨⟨h0, h1, h2, h3, h4, h5, h6⟩, ⟨g0, g1, g2, g3, g4, g5, g6⟩⟩ := HC13.out
      go_wp2
      go_ret
      exact ⟨rfl, HB13.out⟩
    · cases HYZ
  · have QBB : clB thb opb argb (frb + v) (tob + 9) 0 0 = true := fin_ok2 QB.out.1 QB.out.2.1 QB.out.2.2.1 hbf ⟨hv0, hv1⟩ (.inr (by omega))
    have HYZ := over_both (f := fra) (t := toa) (f2 := frb + v) (t2 := tob + 9) (by have := QA2.out; omega) (.inr (by omega))
    have qt : IntKind.i64.wrap (tob + 9) = tob + 9 := IntWalk.i64_in _ (by omega)
    have hd : decide (0 < tob) = true := decide_eq_true (by omega)
    go_upto_region 8 with fail
    have HC6 := Lib.hid (And.intro (HXA6.out.other ⟨kb, 4, none⟩ (.int .i64 (tob + 9)) (by simp; omega)).cells (HXB6.out.set 4 (.int .i64 (tob + 9))).cells)
    have HB6' := Lib.hid (below_set (a := ⟨kb, 4, none⟩) (v := .int .i64 (tob + 9)) HB6.out hkb)
    generalize wc.setCell ⟨kb, 4, none⟩ (.int .i64 (tob + 9)) = wd at HC6 HB6' ⊢
    clear hx6 hf6 HXA6 HXB6 QB hbf HB6 qt hd
    have HB6 := HB6'
    clear HB6'
    generalize frb + v = fb at HC6 QBB HYZ ⊢
    generalize tob + 9 = tb at HC6 QBB HYZ ⊢
    obtain ⟨y, hy⟩ : ∃ y, overB toa fb = y := ⟨_, rfl⟩
    obtain ⟨z, hz⟩ : ∃ z, overB tb fra = z := ⟨_, rfl⟩
    rw [hy, hz] at HYZ
    have E1 : Hid ((clB tha opa arga fra toa 0 0 && clB thb opb argb fb tb 0 0 && ovB fra toa fb tb) = (!y && !z)) := by unfold Hid; rw [QA, QBB, ovB, hy, hz]; rfl
    have E2 : Hid ((clB tha opa arga fra toa 0 0 && clB thb opb argb fb tb 0 0 && overB toa fb) = y) := by unfold Hid; rw [QA, QBB, hy]; rfl
    have E3 : Hid ((clB thb opb argb fb tb 0 0 && clB tha opa arga fra toa 0 0 && overB tb fra) = z) := by unfold Hid; rw [QA, QBB, hz]; rfl
    have E4 : Hid ((clB thb opb argb fb tb 0 0 && clB tha opa arga fra toa 0 0 && ovB fb tb fra toa) = (!z && !y)) := by unfold Hid; rw [QA, QBB, ovB, hy, hz]; rfl
    have C1 : Hid (twoC (clB tha opa arga fra toa 0 0) (clB thb opb argb fb tb 0 0) = 0) := by unfold Hid; rw [QA, QBB]; rfl
    have C2 : Hid (twoC (clB thb opb argb fb tb 0 0) (clB tha opa arga fra toa 0 0) = 0) := by unfold Hid; rw [QA, QBB]; rfl
    have QAH := Lib.hid QA
    clear QBB hy hz
    obtain ⟨s, hs⟩ : ∃ s, spanR (clB tha opa arga fra toa 0 0) fra toa = s := ⟨_, rfl⟩
    obtain ⟨k, hk⟩ : ∃ k, spanC (clB tha opa arga fra toa 0 0) toa = k := ⟨_, rfl⟩
    have HS := Lib.hid hs; have HK := Lib.hid hk; clear hs hk
    obtain ⟨⟨h0, h1, h2, h3, h4, h5, h6⟩, ⟨g0, g1, g2, g3, g4, g5, g6⟩⟩ := HC6.out
    go_wp2_with fail
    refine (implOverlaps_any _ _ _ _ _ _ _ _ _ _ _ _ _ _ _).mono ?_
    rintro e w7 ⟨rfl, hb⟩
    rw [E1.out, C1.out]
    have HB7 := Lib.hid (below_trans HB6.out hb)
    have HC7 := Lib.hid (keep2C _ _ _ _ _ _ _ _ _ _ _ _ _ _ hb HC6.out)
    clear hb HB6 HC6 h0 g0 h1 g1 h2 g2 h3 g3 h4 g4 h5 g5 h6 g6
    obtain ⟨⟨h0, h1, h2, h3, h4, h5, h6⟩, ⟨g0, g1, g2, g3, g4, g5, g6⟩⟩ := HC7.out
    go_wp2_with fail
    refine (implIsBefore_any _ _ _ _ _ _ _ _ _ _ _ _ _ _ _).mono ?_
    rintro e w8 ⟨rfl, hb⟩
    rw [E2.out, C1.out]
    have HB8 := Lib.hid (below_trans HB7.out hb)
    have HC8 := Lib.hid (keep2C _ _ _ _ _ _ _ _ _ _ _ _ _ _ hb HC7.out)
    clear hb HB7 HC7 h0 g0 h1 g1 h2 g2 h3 g3 h4 g4 h5 g5 h6 g6
    obtain ⟨⟨h0, h1, h2, h3, h4, h5, h6⟩, ⟨g0, g1, g2, g3, g4, g5, g6⟩⟩ := HC8.out
    go_wp2_with fail
    refine (implIsBefore_any _ _ _ _ _ _ _ _ _ _ _ _ _ _ _).mono ?_
    rintro e w9 ⟨rfl, hb⟩
    rw [E3.out, C2.out]
    have HB9 := Lib.hid (below_trans HB8.out hb)
    have HC9 := Lib.hid (keep2C _ _ _ _ _ _ _ _ _ _ _ _ _ _ hb HC8.out)
    clear hb HB8 HC8 h0 g0 h1 g1 h2 g2 h3 g3 h4 g4 h5 g5 h6 g6
    obtain ⟨⟨h0, h1, h2, h3, h4, h5, h6⟩, ⟨g0, g1, g2, g3, g4, g5, g6⟩⟩ := HC9.out
    go_wp2_with fail
    refine (implOverlaps_any _ _ _ _ _ _ _ _ _ _ _ _ _ _ _).mono ?_
    rintro e w10 ⟨rfl, hb⟩
    rw [E4.out, C2.out]
    have HB10 := Lib.hid (below_trans HB9.out hb)
    have HC10 := Lib.hid (keep2C _ _ _ _ _ _ _ _ _ _ _ _ _ _ hb HC9.out)
    clear hb HB9 HC9 h0 g0 h1 g1 h2 g2 h3 g3 h4 g4 h5 g5 h6 g6
    obtain ⟨⟨h0, h1, h2, h3, h4, h5, h6⟩, ⟨g0, g1, g2, g3, g4, g5, g6⟩⟩ := HC10.out
    go_wp2_with fail
    refine (specOverlaps_any _ _ _ _ _ _ _ _ _ _ _ _ _ _ _).mono ?_
    rintro e w11 ⟨rfl, hb⟩
    rw [E1.out, C1.out]
    have HB11 := Lib.hid (below_trans HB10.out hb)
    have HC11 := Lib.hid (keep2C _ _ _ _ _ _ _ _ _ _ _ _ _ _ hb HC10.out)
    clear hb HB10 HC10 h0 g0 h1 g1 h2 g2 h3 g3 h4 g4 h5 g5 h6 g6
    obtain ⟨⟨h0, h1, h2, h3, h4, h5, h6⟩, ⟨g0, g1, g2, g3, g4, g5, g6⟩⟩ := HC11.out
    go_wp2_with fail
    refine (implSpanOf_any _ _ _ _ _ _ _ _).mono ?_
    rintro e w12 ⟨rfl, hb⟩
    rw [HS.out, HK.out]
    have HB12 := Lib.hid (below_trans HB11.out hb)
    have HC12 := Lib.hid (keep2C _ _ _ _ _ _ _ _ _ _ _ _ _ _ hb HC11.out)
    clear hb HB11 HC11 h0 g0 h1 g1 h2 g2 h3 g3 h4 g4 h5 g5 h6 g6
    obtain ⟨⟨h0, h1, h2, h3, h4, h5, h6⟩, ⟨g0, g1, g2, g3, g4, g5, g6⟩⟩ := HC12.out
    by_cases h0 : toa = 0
    · subst h0
      have hs0 : s = 0 := by rw [← HS.out, QAH.out]; rfl
      have hk5 : k = 5 := by rw [← HK.out, QAH.out]; rfl
      subst hs0; subst hk5
      clear HS HK
      cases y <;> cases z
      · go_wp2_with fail
        refine (implCallOK_any _ _ _ _ _ _ _ _).mono ?_
        rintro e w13 ⟨rfl, hb⟩
        rw [QAH.out]
        have HB13 := Lib.hid (below_trans HB12.out hb)
        have HC13 := Lib.hid (keep2C _ _ _ _ _ _ _ _ _ _ _ _ _ _ hb HC12.out)
        clear hb HB12 HC12 h0 g0 h1 g1 h2 g2 h3 g3 h4 g4 h5 g5 h6 g6
        obtain ⟨⟨h0, h1, h2, h3, h4, h5, h6⟩, ⟨g0, g1, g2, g3, g4, g5, g6⟩⟩ := HC13.out
        go_wp2
        go_ret
        exact ⟨rfl, HB13.out⟩
      · go_wp2_with fail
        refine (implCallOK_any _ _ _ _ _ _ _ _).mono ?_
        rintro e w13 ⟨rfl, hb⟩
        rw [QAH.out]
        have HB13 := Lib.hid (below_trans HB12.out hb)
        have HC13 := Lib.hid (keep2C _ _ _ _ _ _ _ _ _ _ _ _ _ _ hb HC12.out)
        clear hb HB12 HC12 h0 g0 h1 g1 h2 g2 h3 g3 h4 g4 h5 g5 h6 g6
        obtain ⟨⟨h0, h1, h2, h3, h4, h5, h6⟩, ⟨g0, g1, g2, g3, g4, g5, g6⟩⟩ := HC13.out
        go_wp2
        go_ret
        exact ⟨rfl, HB13.out⟩
      · go_wp2_with fail
        refine (implCallOK_any _ _ _ _ _ _ _ _).mono ?_
        rintro e w13 ⟨rfl, hb⟩
        rw [QAH.out]
        have HB13 := Lib.hid (below_trans HB12.out hb)
        have HC13 := Lib.hid (keep2C _ _ _ _ _ _ _ _ _ _ _ _ _ _ hb HC12.out)
        clear hb HB12 HC12 h0 g0 h1 g1 h2 g2 h3 g3 h4 g4 h5 g5 h6 g6
        obtain ⟨⟨h0, h1, h2, h3, h4, h5, h6⟩, ⟨g0, g1, g2, g3, g4, g5, g6⟩⟩ := HC13.out
        go_wp2
        go_ret
        exact ⟨rfl, HB13.out⟩
      · cases HYZ
    have hs0 : s = toa - fra := by rw [← HS.out, QAH.out]; simp [spanR, h0]
    have hk5 : k = 0 := by rw [← HK.out, QAH.out]; simp [spanC, h0]
    have qw : IntKind.i64.wrap (toa - fra) = toa - fra := by have := QA2.out; exact IntWalk.i64_in _ (by omega)
    have ht0 : (toa == 0) = false := by simpa using h0
    have ht1 : 0 < toa := by have := QA2.out; omega
    subst hs0; subst hk5
    clear HS HK
    cases y <;> cases z
    · go_wp2_with fail
      refine (implCallOK_any _ _ _ _ _ _ _ _).mono ?_
      rintro e w13 ⟨rfl, hb⟩
      rw [QAH.out]
      have HB13 := Lib.hid (below_trans HB12.out hb)
      have HC13 := Lib.hid (keep2C _ _ _ _ _ _ _ _ _ _ _ _ _ _ hb HC12.out)
      clear hb HB12 HC12 h0 g0 h1 g1 h2 g2 h3 g3 h4 g4 h5 g5 h6 g6
      obtain ⟨⟨h0, h1, h2, h3, h4, h5, h6⟩, ⟨g0, g1, g2, g3, g4, g5, g6⟩⟩ := HC13.out
      go_wp2
      go_ret
      exact ⟨rfl, HB13.out⟩
    · go_wp2_with fail
      refine (implCallOK_any _ _ _ _ _ _ _ _).mono ?_
      rintro e w13 ⟨rfl, hb⟩
      rw [QAH.out]
      have HB13 := Lib.hid (below_trans HB12.out hb)
      have HC13 := Lib.hid (keep2C _ _ _ _ _ _ _ _ _ _ _ _ _ _ hb HC12.out)
      clear hb HB12 HC12 h0 g0 h1 g1 h2 g2 h3 g3 h4 g4 h5 g5 h6 g6
      obtain ⟨⟨h0, h1, h2, h3, h4, h5, h6⟩, ⟨g0, g1, g2, g3, g4, g5, g6⟩⟩ := HC13.out
      go_wp2
      go_ret
      exact ⟨rfl, HB13.out⟩
    · go_wp2_with fail
      refine (implCallOK_any _ _ _ _ _ _ _ _).mono ?_
      rintro e w13 ⟨rfl, hb⟩
      rw [QAH.out]
      have HB13 := Lib.hid (below_trans HB12.out hb)
      have HC13 := Lib.hid (keep2C _ _ _ _ _ _ _ _ _ _ _ _ _ _ hb HC12.out)
      clear hb HB12 HC12 h0 g0 h1 g1 h2 g2 h3 g3 h4 g4 h5 g5 h6 g6
      obtain ⟨⟨h0, h1, h2, h3, h4, h5, h6⟩, ⟨g0, g1, g2, g3, g4, g5, g6⟩⟩ := HC13.out
      go_wp2
      go_ret
      exact ⟨rfl, HB13.out⟩
    · cases HYZ
end Go.Proofs.Ytankgijibenehaa
