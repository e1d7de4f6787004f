/-
  For the laws of models: segments within ranges, what is answered.
  The walk of the law FnExactModelLeave, from what program and model answer.
  Models (chapter 11): the model's l10Call: what it leaves, and its frame.
  Models (chapter 11): the model's l10Call, one way of it.
  Models (chapter 11): the model's l10Call, one way of it.
  Models (chapter 11): the model's l10Call, one way of it.
-/
import Derived.Test.YthianfhfamkcmaaJ12
import Derived.Test.YthianfhfamkcmaaJ16
import Derived.Test.YthianfhfamkcmaaJ21
import Derived.Deep.DeepCutAuto
import Derived.BigQuiet
namespace Go.Proofs.Ythianfhfamkcmaa
open Go.RowKit

/-- A segment within a range of blocks. -/
structure SegH (lo hi : Nat) (w : World) (A : Option Addr) (vs : List Value) : Prop where
  s : SegC lo w A vs
  u : vs = [] ∨ ∃ g o, A = some ⟨g, o, none⟩ ∧ g < hi
theorem SegH.of {lo : Nat} {w : World} {A : Option Addr} {vs : List Value} (h : SegC lo w A vs) : SegH lo w.heap.size w A vs := by
  refine ⟨h, ?_⟩
  rcases h with h | ⟨g, o, rfl, _, hc, _⟩
  · exact .inl h
  · rcases vs with _ | ⟨v, r⟩
    · exact .inl rfl
    · have h0 := hc 0 v rfl
      refine .inr ⟨g, o, rfl, ?_⟩
      by_cases hg : g < w.heap.size
      · exact hg
      · exfalso
        have hn : w.heap[g]? = none := Array.getElem?_eq_none (by omega)
        simp [World.cell?, hn] at h0
theorem SegH.below {lo hi : Nat} {w w' : World} {A : Option Addr} {vs : List Value} (h : SegH lo hi w A vs) (hb : Below w.heap.size w w') : SegH lo hi w' A vs := ⟨h.s.below hb, h.u⟩
theorem SegH.grown {lo hi : Nat} {w w' : World} {A : Option Addr} {vs : List Value} {row : Option Nat} (h : SegH lo hi w A vs) (hg : w.grownBy w' row) (hr : ∀ q, row = some q → q < lo ∨ hi ≤ q) : SegH lo hi w' A vs := by
  refine ⟨?_, h.u⟩
  rcases h.s with h0 | ⟨g, o, rfl, h1, hc, hf⟩
  · exact .inl h0
  · rcases h.u with h0 | ⟨g', o', he, h2⟩
    · exact .inl h0
    · obtain ⟨rfl, rfl⟩ : g = g' ∧ o = o' := by simpa using he
      exact SegC.kept (n := 0) (c := 0) (.inr ⟨g, o, rfl, h1, hc, hf⟩) hg (.inr (fun e => by have := hr g e.symm; omega))
theorem SegH.row {lo hi : Nat} {w : World} {A : Option Addr} {vs : List Value} (h : SegH lo hi w A vs) {k : Nat} (hk : k < lo ∨ hi ≤ k) (cs : Array Value) : SegH lo hi (w.setRow k cs) A vs :=
  h.grown (gr_setRow w k cs) (fun q e => by cases e; exact hk)
theorem SegH.rd {lo hi : Nat} {w : World} {A : Option Addr} {l : List Int} (h : SegH lo hi w A (ints l)) : Rd w A l := SegC.rd h.s
theorem SegH.rdW {lo hi : Nat} {w : World} {A : Option Addr} {l : List Wtr} (h : SegH lo hi w A (flatV Wtr.cs l)) : RdR Wtr.cs w A l := SegC.rdW h.s
theorem BoxC.mgrownR {t : TypeId} {w w' : World} {k : Nat} {cs : Array Value} {row : Option Nat} (h : BoxC t w k cs) (hg : w.grownBy w' row) (hr : ∀ q, row = some q → q ≠ k) : BoxC t w' k cs := h.mgrown hg (fun e => hr k e.symm rfl)
theorem info_lm : (Try.prog.info? 25).map (·.size) = some 4 := by kernel_rfl
theorem info_lw : (Try.prog.info? 27).map (·.size) = some 3 := by kernel_rfl
theorem below_drewM (w : World) : Below w.heap.size w w.drew := ⟨rfl, rfl, rfl, Nat.le_refl _, fun _ _ => rfl⟩
/-- Where the blocks of an answer's lists lie, and that they are three. -/
structure P3 (lo hi : Nat) (u v x : Value) : Prop where
  u1 : ∀ q, u.ownBlock = some q → lo ≤ q ∧ q < hi
  v1 : ∀ q, v.ownBlock = some q → lo ≤ q ∧ q < hi
  x1 : ∀ q, x.ownBlock = some q → lo ≤ q ∧ q < hi
  d12 : Dis u v
  d13 : Dis u x
  d23 : Dis v x
/-- What program and model are asked for, of an argument that reads so. -/
def AnsP (strong : Bool) (w : World) (mk : Value → Value) (L : List Int) (n : Int) (bs' os' : List Wtr) (e : Ending) (w' : World) : Prop :=
  ∃ A1 c1 B1 d1 O1 e1, e = .returned (mk (.agg #[.slice A1 L.length c1, .int .i64 n, .slice B1 bs'.length d1, .slice O1 os'.length e1])) ∧
    SegH w.heap.size w'.heap.size w' A1 (ints L) ∧ SegH w.heap.size w'.heap.size w' B1 (flatV Wtr.cs bs') ∧ SegH w.heap.size w'.heap.size w' O1 (flatV Wtr.cs os') ∧
    (strong = true → P3 w.heap.size w'.heap.size (.slice A1 L.length c1) (.slice B1 bs'.length d1) (.slice O1 os'.length e1)) ∧ Below w.heap.size w w'
end Go.Proofs.Ythianfhfamkcmaa

namespace Go.Proofs.Ythianfhfamkcmaa
open Go.RowKit

set_option maxHeartbeats 40000000 in
set_option maxRecDepth 100000 in
theorem lawModelLeave_of (A B O : Option Addr) (ca cb co : Nat) (zs : List Int) (bs os : List Wtr) (cnt th op arg : Int) (L : List Int) (n : Int) (bs' os' : List Wtr) (en : Bool) (code res met : Int) (w : World) (hz : zs.length ≤ maxLen) (hA : Rd w A zs) (ht : bs.length ≤ maxLen) (hT : RdR Wtr.cs w B bs) (hc : os.length ≤ maxLen) (hC : RdR Wtr.cs w O os) (hbig : ¬ leftO 1048576 zs.length bs.length os.length < 0)
    (rL : L.length ≤ 1048576) (rB : bs'.length ≤ 1048576) (rO : os'.length ≤ 1048576) (hS : ∀ (w : World) (A B O : Addr) (ca cb co : Nat), Rd w (some A) zs → RdR Wtr.cs w (some B) bs → RdR Wtr.cs w (some O) os → Calls Try.prog 19 #[.agg #[.slice (some A) zs.length ca, .int .i64 cnt, .slice (some B) bs.length cb, .slice (some O) os.length co], .int .i64 th] w (AnsP false w (fun v => .tuple #[v, .int .i64 code]) L n bs' os')) (hI : ∀ (w : World) (A B O : Addr) (ca cb co : Nat), Rd w (some A) zs → RdR Wtr.cs w (some B) bs → RdR Wtr.cs w (some O) os → Calls Try.prog 20 #[.agg #[.slice (some A) zs.length ca, .int .i64 cnt, .slice (some B) bs.length cb, .slice (some O) os.length co], .int .i64 th] w (AnsP true w (fun v => .tuple #[v, .int .i64 code]) L n bs' os')) :
    Calls Try.prog 4 #[.agg #[.slice A zs.length ca, .int .i64 cnt, .slice B bs.length cb, .slice O os.length co], .int .i64 th] w fun e w' => e = .returned (.bool true) ∧ Below w.heap.size w w' := by
  have HA := Lib.hid hA; have HT := Lib.hid hT; have HC := Lib.hid hC; have HS := Lib.hid hS; have HI := Lib.hid hI; clear hA hT hC hS hI
  obtain ⟨sz, st, sc⟩ := leftO_small (by decide) hbig
  have hbd : decide (leftO 1048576 zs.length bs.length os.length < 0) = false := decide_eq_false hbig
  have HM0 := Lib.hid (BoxC.new 25 w #[.slice A zs.length ca, .int .i64 cnt, .slice B bs.length cb, .slice O os.length co])
  go_enter Try.func4, Try.ntmps4
  go_wp2_with fail
  refine (szModel_any _ _ _ _ _ _ _ _ _ _ _ _ hz ht hc (by decide) (by decide)).mono ?_
  rintro e w1 ⟨rfl, hb⟩
  have K_M0 := Lib.hid (HM0.out.below hb)
  have B0 := Lib.hid (below_trans (below_alloc _ _) hb)
  have hz1 : w.heap.size + 1 ≤ w1.heap.size := by have := hb.size; simp only [size_alloc] at this; omega
  clear hb HM0
  have hm := K_M0.out.cell
  go_wp2_with fail
  refine (toModel_any _ _ _ _ _ _ zs bs os cnt _ sz st sc (HA.out.below B0.out) (HT.out.below B0.out) (HC.out.below B0.out)).mono ?_
  rintro e w2a ⟨yW1, yW2, yW3, rfl, _, _, _, oA, oT, oC, hb⟩
  clear hm
  have K_M1 := Lib.hid (BoxC.below K_M0.out hb)
  have B1 := Lib.hid (below_trans B0.out hb)
  have hsw2a : w1.heap.size ≤ w2a.heap.size := hb.size
  have yA := Lib.hid oA.rd; have yB := Lib.hid oT.rd; have yO := Lib.hid oC.rd
  clear K_M0 B0 hb oA oT oC
  go_wp2_with fail
  refine (HS.out _ ⟨yW1, 0, none⟩ ⟨yW2, 0, none⟩ ⟨yW3, 0, none⟩ zs.length bs.length os.length yA.out yB.out yO.out).mono ?_
  rintro e w2b ⟨AW, cW, BW, dW, OW, fW, rfl, qA, qB, qO, qP, hb⟩
  clear yA yB yO
  have K_M2 := Lib.hid (BoxC.below K_M1.out hb)
  have B2 := Lib.hid (below_trans B1.out hb)
  have hsw2b : w2a.heap.size ≤ w2b.heap.size := hb.size
  obtain ⟨loW, hloW⟩ : ∃ l, w2a.heap.size = l := ⟨_, rfl⟩
  obtain ⟨hiW, hhiW⟩ : ∃ l, w2b.heap.size = l := ⟨_, rfl⟩
  rw [hloW, hhiW] at qA qB qO qP
  have SWA0 := Lib.hid qA; have SWB0 := Lib.hid qB; have SWO0 := Lib.hid qO
  clear K_M1 B1 hb qA qB qO qP
  have hlaW : w2a.heap.size ≤ loW ∧ loW ≤ w2a.heap.size := by omega
  have hhaW : w2b.heap.size ≤ hiW ∧ hiW ≤ w2b.heap.size := by omega
  clear hloW hhiW
  go_upto_region 6 with (first | (refine wpList_store_row rfl 31 _ _ rfl w2b.heap.size _ rfl rfl 31 _ (BoxC.new 31 w2b _) info_model rfl (one4m _ _ _ _ _ _ _ _ _ _) ?_))
  have hb4 : Below w2b.heap.size w2b ((w2b.alloc (.cells #[.slice none 0 0, .int .i64 0, .slice none 0 0, .slice none 0 0] 31)).setRow w2b.heap.size #[.slice AW L.length cW, .int .i64 n, .slice BW bs'.length dW, .slice OW os'.length fW]) := below_setRow (below_alloc w2b _) (Nat.le_refl _) _
  have KW0 := Lib.hid ((BoxC.new 31 w2b #[.slice none 0 0, .int .i64 0, .slice none 0 0, .slice none 0 0]).mrow #[.slice AW L.length cW, .int .i64 n, .slice BW bs'.length dW, .slice OW os'.length fW])
  generalize (w2b.alloc (.cells #[.slice none 0 0, .int .i64 0, .slice none 0 0, .slice none 0 0] 31)).setRow w2b.heap.size #[.slice AW L.length cW, .int .i64 n, .slice BW bs'.length dW, .slice OW os'.length fW] = w2 at hb4 KW0 ⊢
  have hlW : w2b.heap.size < w2.heap.size := KW0.out.lt
  have K_M3 := Lib.hid (BoxC.below K_M2.out hb4)
  have SWA3 := Lib.hid (SegH.below SWA0.out hb4)
  have SWB3 := Lib.hid (SegH.below SWB0.out hb4)
  have SWO3 := Lib.hid (SegH.below SWO0.out hb4)
  have B3 := Lib.hid (below_trans B2.out hb4)
  have kW0 := KW0.out.cell
  clear K_M2 SWA0 SWB0 SWO0 B2 hb4
  as_aux_lemma =>
  have hm := K_M3.out.cell
  go_wp2_with fail
  refine (toModel_any _ _ _ _ _ _ zs bs os cnt _ sz st sc (HA.out.below B3.out) (HT.out.below B3.out) (HC.out.below B3.out)).mono ?_
  rintro e w3 ⟨x1, x2, x3, rfl, g01, g12, g23, oA, oT, oC, hb⟩
  clear hm
  have K_M4 := Lib.hid (BoxC.below K_M3.out hb)
  have KW4 := Lib.hid (BoxC.below KW0.out hb)
  have SWA4 := Lib.hid (SegH.below SWA3.out hb)
  have SWB4 := Lib.hid (SegH.below SWB3.out hb)
  have SWO4 := Lib.hid (SegH.below SWO3.out hb)
  have B4 := Lib.hid (below_trans B3.out hb)
  have kW4 := KW4.out.cell
  have hs3 : w2.heap.size ≤ w3.heap.size := hb.size
  have hx3 : x3 < w3.heap.size := (World.ownsRow.lt oC x3 rfl).2
  have SXA0 := Lib.hid (SegH.of (SegC.ofI oA)); have SXB0 := Lib.hid (SegH.of (SegC.ofW oT)); have SXO0 := Lib.hid (SegH.of (SegC.ofW oC))
  clear K_M3 KW0 SWA3 SWB3 SWO3 B3 kW0 hb oA oT oC
  go_upto_region 7 with (first | (refine wpList_store_row rfl 31 _ _ rfl w3.heap.size _ rfl rfl 31 _ (BoxC.new 31 w3 _) info_model rfl (one4m _ _ _ _ _ _ _ _ _ _) ?_))
  have hb4 : Below w3.heap.size w3 ((w3.alloc (.cells #[.slice none 0 0, .int .i64 0, .slice none 0 0, .slice none 0 0] 31)).setRow w3.heap.size #[.slice (some ⟨x1, 0, none⟩) zs.length zs.length, .int .i64 cnt, .slice (some ⟨x2, 0, none⟩) bs.length bs.length, .slice (some ⟨x3, 0, none⟩) os.length os.length]) := below_setRow (below_alloc w3 _) (Nat.le_refl _) _
  have KX0 := Lib.hid ((BoxC.new 31 w3 #[.slice none 0 0, .int .i64 0, .slice none 0 0, .slice none 0 0]).mrow #[.slice (some ⟨x1, 0, none⟩) zs.length zs.length, .int .i64 cnt, .slice (some ⟨x2, 0, none⟩) bs.length bs.length, .slice (some ⟨x3, 0, none⟩) os.length os.length])
  generalize (w3.alloc (.cells #[.slice none 0 0, .int .i64 0, .slice none 0 0, .slice none 0 0] 31)).setRow w3.heap.size #[.slice (some ⟨x1, 0, none⟩) zs.length zs.length, .int .i64 cnt, .slice (some ⟨x2, 0, none⟩) bs.length bs.length, .slice (some ⟨x3, 0, none⟩) os.length os.length] = w4 at hb4 KX0 ⊢
  have hs4 : w3.heap.size < w4.heap.size := KX0.out.lt
  have K_M5 := Lib.hid (BoxC.below K_M4.out hb4)
  have KW5 := Lib.hid (BoxC.below KW4.out hb4)
  have SWA5 := Lib.hid (SegH.below SWA4.out hb4)
  have SWB5 := Lib.hid (SegH.below SWB4.out hb4)
  have SWO5 := Lib.hid (SegH.below SWO4.out hb4)
  have SXA5 := Lib.hid (SegH.below SXA0.out hb4)
  have SXB5 := Lib.hid (SegH.below SXB0.out hb4)
  have SXO5 := Lib.hid (SegH.below SXO0.out hb4)
  have B5 := Lib.hid (below_trans B4.out hb4)
  have kW5 := KW5.out.cell
  clear K_M4 KW4 SWA4 SWB4 SWO4 SXA0 SXB0 SXO0 B4 kW4 hb4
  have hm := KX0.out.cell
  go_wp2_with fail
  refine (HI.out _ ⟨x1, 0, none⟩ ⟨x2, 0, none⟩ ⟨x3, 0, none⟩ zs.length bs.length os.length SXA5.out.rd SXB5.out.rdW SXO5.out.rdW).mono ?_
  rintro e w5b ⟨AG, cG, BG, dG, OG, fG, rfl, qA, qB, qO, qP, hb⟩
  clear hm
  have K_M6 := Lib.hid (BoxC.below K_M5.out hb)
  have KW6 := Lib.hid (BoxC.below KW5.out hb)
  have KX6 := Lib.hid (BoxC.below KX0.out hb)
  have SWA6 := Lib.hid (SegH.below SWA5.out hb)
  have SWB6 := Lib.hid (SegH.below SWB5.out hb)
  have SWO6 := Lib.hid (SegH.below SWO5.out hb)
  have SXA6 := Lib.hid (SegH.below SXA5.out hb)
  have SXB6 := Lib.hid (SegH.below SXB5.out hb)
  have SXO6 := Lib.hid (SegH.below SXO5.out hb)
  have B6 := Lib.hid (below_trans B5.out hb)
  have kW6 := KW6.out.cell
  have hsw5b : w4.heap.size ≤ w5b.heap.size := hb.size
  obtain ⟨loG, hloG⟩ : ∃ l, w4.heap.size = l := ⟨_, rfl⟩
  obtain ⟨hiG, hhiG⟩ : ∃ l, w5b.heap.size = l := ⟨_, rfl⟩
  rw [hloG, hhiG] at qA qB qO qP
  have SGA0 := Lib.hid qA; have SGB0 := Lib.hid qB; have SGO0 := Lib.hid qO
  have HPG := Lib.hid (qP rfl)
  clear K_M5 KW5 KX0 SWA5 SWB5 SWO5 SXA5 SXB5 SXO5 B5 kW5 hb qA qB qO qP
  have hlaG : w4.heap.size ≤ loG ∧ loG ≤ w4.heap.size := by omega
  have hhaG : w5b.heap.size ≤ hiG ∧ hiG ≤ w5b.heap.size := by omega
  clear hloG hhiG
  go_upto_region 8 with (first | (refine wpList_store_row rfl 31 _ _ rfl w5b.heap.size _ rfl rfl 31 _ (BoxC.new 31 w5b _) info_model rfl (one4m _ _ _ _ _ _ _ _ _ _) ?_))
  have hb4 : Below w5b.heap.size w5b ((w5b.alloc (.cells #[.slice none 0 0, .int .i64 0, .slice none 0 0, .slice none 0 0] 31)).setRow w5b.heap.size #[.slice AG L.length cG, .int .i64 n, .slice BG bs'.length dG, .slice OG os'.length fG]) := below_setRow (below_alloc w5b _) (Nat.le_refl _) _
  have KG0 := Lib.hid ((BoxC.new 31 w5b #[.slice none 0 0, .int .i64 0, .slice none 0 0, .slice none 0 0]).mrow #[.slice AG L.length cG, .int .i64 n, .slice BG bs'.length dG, .slice OG os'.length fG])
  generalize (w5b.alloc (.cells #[.slice none 0 0, .int .i64 0, .slice none 0 0, .slice none 0 0] 31)).setRow w5b.heap.size #[.slice AG L.length cG, .int .i64 n, .slice BG bs'.length dG, .slice OG os'.length fG] = w5 at hb4 KG0 ⊢
  have hlG : w5b.heap.size < w5.heap.size := KG0.out.lt
  have K_M7 := Lib.hid (BoxC.below K_M6.out hb4)
  have KW7 := Lib.hid (BoxC.below KW6.out hb4)
  have KX7 := Lib.hid (BoxC.below KX6.out hb4)
  have SWA7 := Lib.hid (SegH.below SWA6.out hb4)
  have SWB7 := Lib.hid (SegH.below SWB6.out hb4)
  have SWO7 := Lib.hid (SegH.below SWO6.out hb4)
  have SXA7 := Lib.hid (SegH.below SXA6.out hb4)
  have SXB7 := Lib.hid (SegH.below SXB6.out hb4)
  have SXO7 := Lib.hid (SegH.below SXO6.out hb4)
  have SGA7 := Lib.hid (SegH.below SGA0.out hb4)
  have SGB7 := Lib.hid (SegH.below SGB0.out hb4)
  have SGO7 := Lib.hid (SegH.below SGO0.out hb4)
  have B7 := Lib.hid (below_trans B6.out hb4)
  have kW7 := KW7.out.cell
  have kG0 := KG0.out.cell
  clear K_M6 KW6 KX6 SWA6 SWB6 SWO6 SXA6 SXB6 SXO6 SGA0 SGB0 SGO0 B6 kW6 hb4
  as_aux_lemma =>
  go_wp2_with fail
  refine (eqModel_same _ _ _ _ _ _ L bs' os' n _ _ _ _ _ _ _ rL rB rO SGA7.out.rd SGB7.out.rdW SGO7.out.rdW SWA7.out.rd SWB7.out.rdW SWO7.out.rdW).mono ?_
  rintro e w6 ⟨rfl, hb⟩
  have K_M8 := Lib.hid (BoxC.below K_M7.out hb)
  have KW8 := Lib.hid (BoxC.below KW7.out hb)
  have KX8 := Lib.hid (BoxC.below KX7.out hb)
  have KG8 := Lib.hid (BoxC.below KG0.out hb)
  have SWA8 := Lib.hid (SegH.below SWA7.out hb)
  have SWB8 := Lib.hid (SegH.below SWB7.out hb)
  have SWO8 := Lib.hid (SegH.below SWO7.out hb)
  have SXA8 := Lib.hid (SegH.below SXA7.out hb)
  have SXB8 := Lib.hid (SegH.below SXB7.out hb)
  have SXO8 := Lib.hid (SegH.below SXO7.out hb)
  have SGA8 := Lib.hid (SegH.below SGA7.out hb)
  have SGB8 := Lib.hid (SegH.below SGB7.out hb)
  have SGO8 := Lib.hid (SegH.below SGO7.out hb)
  have B8 := Lib.hid (below_trans B7.out hb)
  have kW8 := KW8.out.cell
  have kG8 := KG8.out.cell
  have hs6 : w5.heap.size ≤ w6.heap.size := hb.size
  clear K_M7 KW7 KX7 KG0 SWA7 SWB7 SWO7 SXA7 SXB7 SXO7 SGA7 SGB7 SGO7 B7 kW7 kG0 hb
  go_upto_region 10 with fail
  go_region_held3 (fun w' => (∀ j : Nat, w'.cell? ⟨w3.heap.size, j, none⟩ = (#[.slice (some ⟨x1, 0, none⟩) zs.length zs.length, .int .i64 cnt, .slice (some ⟨x2, 0, none⟩) bs.length bs.length, .slice (some ⟨x3, 0, none⟩) os.length os.length] : Array Value)[j]?) ∧ (∀ j : Nat, w'.cell? ⟨w.heap.size, j, none⟩ = (#[.slice A zs.length ca, .int .i64 cnt, .slice B bs.length cb, .slice O os.length co] : Array Value)[j]?))
    (first | exact ⟨KX8.out.cell, K_M8.out.cell⟩ | exact ⟨(KX8.out.below (below_drew_trans hb7)).cell, (K_M8.out.below (below_drew_trans hb7)).cell⟩ | exact ⟨((KX8.out.below (below_drew_trans hb7)).below hb8).cell, ((K_M8.out.below (below_drew_trans hb7)).below hb8).cell⟩)
    (first
      | (go_at_call 13; (with_reducible refine (toModel_any _ _ _ _ _ _ zs bs os cnt _ sz st sc (HA.out.below B8.out).drew (HT.out.below B8.out).drewW (HC.out.below B8.out).drewW).mono ?_); rintro e v7 ⟨c1, c2, c3, rfl, _, _, _, oA, oT, oC, hb7⟩)
      | (go_at_call 16; (with_reducible refine (eqModel_same _ _ _ _ _ _ zs bs os cnt _ _ _ _ _ _ _ sz st sc (SXA8.out.rd.below (below_drew_trans hb7)) (SXB8.out.rdW.below (below_drew_trans hb7)) (SXO8.out.rdW.below (below_drew_trans hb7)) oA.rd oT.rd oC.rd).mono ?_); rintro e w7 ⟨rfl, hb8⟩))
  have hb := below_trans (below_drew_trans hb7) hb8
  clear hb7 hb8 oA oT oC
  have K_M9 := Lib.hid (BoxC.below K_M8.out hb)
  have KW9 := Lib.hid (BoxC.below KW8.out hb)
  have KX9 := Lib.hid (BoxC.below KX8.out hb)
  have KG9 := Lib.hid (BoxC.below KG8.out hb)
  have SWA9 := Lib.hid (SegH.below SWA8.out hb)
  have SWB9 := Lib.hid (SegH.below SWB8.out hb)
  have SWO9 := Lib.hid (SegH.below SWO8.out hb)
  have SXA9 := Lib.hid (SegH.below SXA8.out hb)
  have SXB9 := Lib.hid (SegH.below SXB8.out hb)
  have SXO9 := Lib.hid (SegH.below SXO8.out hb)
  have SGA9 := Lib.hid (SegH.below SGA8.out hb)
  have SGB9 := Lib.hid (SegH.below SGB8.out hb)
  have SGO9 := Lib.hid (SegH.below SGO8.out hb)
  have B9 := Lib.hid (below_trans B8.out hb)
  have kW9 := KW9.out.cell
  have kG9 := KG9.out.cell
  have hs7 : w6.heap.size ≤ w7.heap.size := hb.size
  clear K_M8 KW8 KX8 KG8 SWA8 SWB8 SWO8 SXA8 SXB8 SXO8 SGA8 SGB8 SGO8 B8 kW8 kG8 hb
  have ox1 : ∀ q, (Value.slice (some ⟨x1, 0, none⟩) zs.length zs.length).ownBlock = some q → w2.heap.size ≤ q ∧ q < w3.heap.size := fun q e => by obtain rfl : x1 = q := Option.some.inj e; omega
  have ox2 : ∀ q, (Value.slice (some ⟨x2, 0, none⟩) bs.length bs.length).ownBlock = some q → w2.heap.size ≤ q ∧ q < w3.heap.size := fun q e => by obtain rfl : x2 = q := Option.some.inj e; omega
  have ox3 : ∀ q, (Value.slice (some ⟨x3, 0, none⟩) os.length os.length).ownBlock = some q → w2.heap.size ≤ q ∧ q < w3.heap.size := fun q e => by obtain rfl : x3 = q := Option.some.inj e; omega
  have kk := KX9.out.cell
  go_wp2_with fail
  refine (markModel_any _ _ _ _ _ _ zs.length bs.length os.length w2.heap.size zs (flatI bs) (flatI os) _ 1 _ rfl (flatI_len _) (flatI_len _) (by first | exact sz | exact rL) (by first | exact st | exact rB) (by first | exact sc | exact rO) (by decide) (by decide) SXA9.out.s (flat_ints _ ▸ SXB9.out.s) (flat_ints _ ▸ SXO9.out.s) (fun q e => by have := ox1 q e; omega) (fun q e => by have := ox2 q e; omega) (fun q e e' => by obtain rfl : x1 = q := Option.some.inj e; obtain rfl : x2 = x1 := Option.some.inj e'; omega) (fun q e e' => by obtain rfl : x1 = q := Option.some.inj e; obtain rfl : x3 = x1 := Option.some.inj e'; omega) (fun q e e' => by obtain rfl : x2 = q := Option.some.inj e; obtain rfl : x3 = x2 := Option.some.inj e'; omega)).mono ?_
  clear kk
  rintro e w10 ⟨rfl, mA, mB, mO, w8, w9, gA, gB, gO⟩
  clear mA mB mO
  clear SXA9 SXB9 SXO9 KX9
  have K_M10 := Lib.hid (BoxC.mgrownR K_M9.out gA (fun q e => by have := ox1 q e; omega))
  have KW10 := Lib.hid (BoxC.mgrownR KW9.out gA (fun q e => by have := ox1 q e; omega))
  have KG10 := Lib.hid (BoxC.mgrownR KG9.out gA (fun q e => by have := ox1 q e; omega))
  have SWA10 := Lib.hid (SegH.grown SWA9.out gA (fun q e => by have := ox1 q e; omega))
  have SWB10 := Lib.hid (SegH.grown SWB9.out gA (fun q e => by have := ox1 q e; omega))
  have SWO10 := Lib.hid (SegH.grown SWO9.out gA (fun q e => by have := ox1 q e; omega))
  have SGA10 := Lib.hid (SegH.grown SGA9.out gA (fun q e => by have := ox1 q e; omega))
  have SGB10 := Lib.hid (SegH.grown SGB9.out gA (fun q e => by have := ox1 q e; omega))
  have SGO10 := Lib.hid (SegH.grown SGO9.out gA (fun q e => by have := ox1 q e; omega))
  have B10 := Lib.hid (B9.out.grown gA B9.out.size (fun q e => by have := ox1 q e; omega))
  have kW10 := KW10.out.cell
  have kG10 := KG10.out.cell
  have hs8 : w7.heap.size ≤ w8.heap.size := gA.size
  clear K_M9 KW9 KG9 SWA9 SWB9 SWO9 SGA9 SGB9 SGO9 B9 kW9 kG9 gA
  have K_M11 := Lib.hid (BoxC.mgrownR K_M10.out gB (fun q e => by have := ox2 q e; omega))
  have KW11 := Lib.hid (BoxC.mgrownR KW10.out gB (fun q e => by have := ox2 q e; omega))
  have KG11 := Lib.hid (BoxC.mgrownR KG10.out gB (fun q e => by have := ox2 q e; omega))
  have SWA11 := Lib.hid (SegH.grown SWA10.out gB (fun q e => by have := ox2 q e; omega))
  have SWB11 := Lib.hid (SegH.grown SWB10.out gB (fun q e => by have := ox2 q e; omega))
  have SWO11 := Lib.hid (SegH.grown SWO10.out gB (fun q e => by have := ox2 q e; omega))
  have SGA11 := Lib.hid (SegH.grown SGA10.out gB (fun q e => by have := ox2 q e; omega))
  have SGB11 := Lib.hid (SegH.grown SGB10.out gB (fun q e => by have := ox2 q e; omega))
  have SGO11 := Lib.hid (SegH.grown SGO10.out gB (fun q e => by have := ox2 q e; omega))
  have B11 := Lib.hid (B10.out.grown gB B10.out.size (fun q e => by have := ox2 q e; omega))
  have kW11 := KW11.out.cell
  have kG11 := KG11.out.cell
  have hs9 : w8.heap.size ≤ w9.heap.size := gB.size
  clear K_M10 KW10 KG10 SWA10 SWB10 SWO10 SGA10 SGB10 SGO10 B10 kW10 kG10 gB
  have K_M12 := Lib.hid (BoxC.mgrownR K_M11.out gO (fun q e => by have := ox3 q e; omega))
  have KW12 := Lib.hid (BoxC.mgrownR KW11.out gO (fun q e => by have := ox3 q e; omega))
  have KG12 := Lib.hid (BoxC.mgrownR KG11.out gO (fun q e => by have := ox3 q e; omega))
  have SWA12 := Lib.hid (SegH.grown SWA11.out gO (fun q e => by have := ox3 q e; omega))
  have SWB12 := Lib.hid (SegH.grown SWB11.out gO (fun q e => by have := ox3 q e; omega))
  have SWO12 := Lib.hid (SegH.grown SWO11.out gO (fun q e => by have := ox3 q e; omega))
  have SGA12 := Lib.hid (SegH.grown SGA11.out gO (fun q e => by have := ox3 q e; omega))
  have SGB12 := Lib.hid (SegH.grown SGB11.out gO (fun q e => by have := ox3 q e; omega))
  have SGO12 := Lib.hid (SegH.grown SGO11.out gO (fun q e => by have := ox3 q e; omega))
  have B12 := Lib.hid (B11.out.grown gO B11.out.size (fun q e => by have := ox3 q e; omega))
  have kW12 := KW12.out.cell
  have kG12 := KG12.out.cell
  have hs10 : w9.heap.size ≤ w10.heap.size := gO.size
  clear K_M11 KW11 KG11 SWA11 SWB11 SWO11 SGA11 SGB11 SGO11 B11 kW11 kG11 gO
  clear ox1 ox2 ox3
  as_aux_lemma =>
  go_wp2_with fail
  refine (eqModel_same _ _ _ _ _ _ L bs' os' n _ _ _ _ _ _ _ rL rB rO SGA12.out.rd SGB12.out.rdW SGO12.out.rdW SWA12.out.rd SWB12.out.rdW SWO12.out.rdW).mono ?_
  rintro e w11 ⟨rfl, hb⟩
  have K_M13 := Lib.hid (BoxC.below K_M12.out hb)
  have KW13 := Lib.hid (BoxC.below KW12.out hb)
  have KG13 := Lib.hid (BoxC.below KG12.out hb)
  have SWA13 := Lib.hid (SegH.below SWA12.out hb)
  have SWB13 := Lib.hid (SegH.below SWB12.out hb)
  have SWO13 := Lib.hid (SegH.below SWO12.out hb)
  have SGA13 := Lib.hid (SegH.below SGA12.out hb)
  have SGB13 := Lib.hid (SegH.below SGB12.out hb)
  have SGO13 := Lib.hid (SegH.below SGO12.out hb)
  have B13 := Lib.hid (below_trans B12.out hb)
  have kW13 := KW13.out.cell
  have kG13 := KG13.out.cell
  have hs11 : w10.heap.size ≤ w11.heap.size := hb.size
  clear K_M12 KW12 KG12 SWA12 SWB12 SWO12 SGA12 SGB12 SGO12 B12 kW12 kG12 hb
  have og1 := HPG.out.u1; have og2 := HPG.out.v1; have og3 := HPG.out.x1
  have kk := KG13.out.cell
  go_wp2_with fail
  refine (markModel_any _ _ _ _ _ _ L.length bs'.length os'.length loG L (flatI bs') (flatI os') _ 1 _ rfl (flatI_len _) (flatI_len _) (by first | exact sz | exact rL) (by first | exact st | exact rB) (by first | exact sc | exact rO) (by decide) (by decide) SGA13.out.s (flat_ints _ ▸ SGB13.out.s) (flat_ints _ ▸ SGO13.out.s) (fun q e => by have := og1 q e; omega) (fun q e => by have := og2 q e; omega) HPG.out.d12 HPG.out.d13 HPG.out.d23).mono ?_
  clear kk
  rintro e w14 ⟨rfl, mA, mB, mO, w12, w13, gA, gB, gO⟩
  clear SGA13 SGB13 SGO13
  have K_M14 := Lib.hid (BoxC.mgrownR K_M13.out gA (fun q e => by have := og1 q e; omega))
  have KW14 := Lib.hid (BoxC.mgrownR KW13.out gA (fun q e => by have := og1 q e; omega))
  have KG14 := Lib.hid (BoxC.mgrownR KG13.out gA (fun q e => by have := og1 q e; omega))
  have SWA14 := Lib.hid (SegH.grown SWA13.out gA (fun q e => by have := og1 q e; omega))
  have SWB14 := Lib.hid (SegH.grown SWB13.out gA (fun q e => by have := og1 q e; omega))
  have SWO14 := Lib.hid (SegH.grown SWO13.out gA (fun q e => by have := og1 q e; omega))
  have B14 := Lib.hid (B13.out.grown gA B13.out.size (fun q e => by have := og1 q e; omega))
  have kW14 := KW14.out.cell
  have kG14 := KG14.out.cell
  have hs12 : w11.heap.size ≤ w12.heap.size := gA.size
  clear K_M13 KW13 KG13 SWA13 SWB13 SWO13 B13 kW13 kG13 gA
  have K_M15 := Lib.hid (BoxC.mgrownR K_M14.out gB (fun q e => by have := og2 q e; omega))
  have KW15 := Lib.hid (BoxC.mgrownR KW14.out gB (fun q e => by have := og2 q e; omega))
  have KG15 := Lib.hid (BoxC.mgrownR KG14.out gB (fun q e => by have := og2 q e; omega))
  have SWA15 := Lib.hid (SegH.grown SWA14.out gB (fun q e => by have := og2 q e; omega))
  have SWB15 := Lib.hid (SegH.grown SWB14.out gB (fun q e => by have := og2 q e; omega))
  have SWO15 := Lib.hid (SegH.grown SWO14.out gB (fun q e => by have := og2 q e; omega))
  have B15 := Lib.hid (B14.out.grown gB B14.out.size (fun q e => by have := og2 q e; omega))
  have kW15 := KW15.out.cell
  have kG15 := KG15.out.cell
  have hs13 : w12.heap.size ≤ w13.heap.size := gB.size
  clear K_M14 KW14 KG14 SWA14 SWB14 SWO14 B14 kW14 kG14 gB
  have K_M16 := Lib.hid (BoxC.mgrownR K_M15.out gO (fun q e => by have := og3 q e; omega))
  have KW16 := Lib.hid (BoxC.mgrownR KW15.out gO (fun q e => by have := og3 q e; omega))
  have KG16 := Lib.hid (BoxC.mgrownR KG15.out gO (fun q e => by have := og3 q e; omega))
  have SWA16 := Lib.hid (SegH.grown SWA15.out gO (fun q e => by have := og3 q e; omega))
  have SWB16 := Lib.hid (SegH.grown SWB15.out gO (fun q e => by have := og3 q e; omega))
  have SWO16 := Lib.hid (SegH.grown SWO15.out gO (fun q e => by have := og3 q e; omega))
  have B16 := Lib.hid (B15.out.grown gO B15.out.size (fun q e => by have := og3 q e; omega))
  have kW16 := KW16.out.cell
  have kG16 := KG16.out.cell
  have hs14 : w13.heap.size ≤ w14.heap.size := gO.size
  clear K_M15 KW15 KG15 SWA15 SWB15 SWO15 B15 kW15 kG15 gO
  clear og1 og2 og3
  have SGAm := Lib.hid (SegH.of mA)
  have SGBm := Lib.hid (SegH.of mB)
  have SGOm := Lib.hid (SegH.of mO)
  clear mA mB mO
  as_aux_lemma =>
  have kk := KG16.out.cell
  go_wp2_with fail
  refine (heldModel_any _ _ _ _ _ _ L.length bs'.length os'.length _ 1 _ rL rB rO (by decide) (by decide) SGAm.out.rd SGBm.out.rd SGOm.out.rd).mono ?_
  rintro e w15 ⟨rfl, hb⟩
  have K_M17 := Lib.hid (BoxC.below K_M16.out hb)
  have KW17 := Lib.hid (BoxC.below KW16.out hb)
  have KG17 := Lib.hid (BoxC.below KG16.out hb)
  have SWA17 := Lib.hid (SegH.below SWA16.out hb)
  have SWB17 := Lib.hid (SegH.below SWB16.out hb)
  have SWO17 := Lib.hid (SegH.below SWO16.out hb)
  have SGA17 := Lib.hid (SegH.below SGAm.out hb)
  have SGB17 := Lib.hid (SegH.below SGBm.out hb)
  have SGO17 := Lib.hid (SegH.below SGOm.out hb)
  have B17 := Lib.hid (below_trans B16.out hb)
  have kW17 := KW17.out.cell
  have kG17 := KG17.out.cell
  have hs15 : w14.heap.size ≤ w15.heap.size := hb.size
  clear K_M16 KW16 KG16 SWA16 SWB16 SWO16 SGAm SGBm SGOm B16 kW16 kG16 hb
  clear kk
  have hm := K_M17.out.cell
  go_wp2_with fail
  refine (toModel_any _ _ _ _ _ _ zs bs os cnt _ sz st sc (HA.out.below B17.out) (HT.out.below B17.out) (HC.out.below B17.out)).mono ?_
  rintro e w16a ⟨yH1, yH2, yH3, rfl, _, _, _, oA, oT, oC, hb⟩
  clear hm
  have K_M18 := Lib.hid (BoxC.below K_M17.out hb)
  have KW18 := Lib.hid (BoxC.below KW17.out hb)
  have KG18 := Lib.hid (BoxC.below KG17.out hb)
  have SWA18 := Lib.hid (SegH.below SWA17.out hb)
  have SWB18 := Lib.hid (SegH.below SWB17.out hb)
  have SWO18 := Lib.hid (SegH.below SWO17.out hb)
  have SGA18 := Lib.hid (SegH.below SGA17.out hb)
  have SGB18 := Lib.hid (SegH.below SGB17.out hb)
  have SGO18 := Lib.hid (SegH.below SGO17.out hb)
  have B18 := Lib.hid (below_trans B17.out hb)
  have kW18 := KW18.out.cell
  have kG18 := KG18.out.cell
  have hsw16a : w15.heap.size ≤ w16a.heap.size := hb.size
  have yA := Lib.hid oA.rd; have yB := Lib.hid oT.rd; have yO := Lib.hid oC.rd
  clear K_M17 KW17 KG17 SWA17 SWB17 SWO17 SGA17 SGB17 SGO17 B17 kW17 kG17 hb oA oT oC
  go_wp2_with fail
  refine (HI.out _ ⟨yH1, 0, none⟩ ⟨yH2, 0, none⟩ ⟨yH3, 0, none⟩ zs.length bs.length os.length yA.out yB.out yO.out).mono ?_
  rintro e w16b ⟨AH, cH, BH, dH, OH, fH, rfl, qA, qB, qO, qP, hb⟩
  clear yA yB yO
  have K_M19 := Lib.hid (BoxC.below K_M18.out hb)
  have KW19 := Lib.hid (BoxC.below KW18.out hb)
  have KG19 := Lib.hid (BoxC.below KG18.out hb)
  have SWA19 := Lib.hid (SegH.below SWA18.out hb)
  have SWB19 := Lib.hid (SegH.below SWB18.out hb)
  have SWO19 := Lib.hid (SegH.below SWO18.out hb)
  have SGA19 := Lib.hid (SegH.below SGA18.out hb)
  have SGB19 := Lib.hid (SegH.below SGB18.out hb)
  have SGO19 := Lib.hid (SegH.below SGO18.out hb)
  have B19 := Lib.hid (below_trans B18.out hb)
  have kW19 := KW19.out.cell
  have kG19 := KG19.out.cell
  have hsw16b : w16a.heap.size ≤ w16b.heap.size := hb.size
  obtain ⟨loH, hloH⟩ : ∃ l, w16a.heap.size = l := ⟨_, rfl⟩
  obtain ⟨hiH, hhiH⟩ : ∃ l, w16b.heap.size = l := ⟨_, rfl⟩
  rw [hloH, hhiH] at qA qB qO qP
  have SHA0 := Lib.hid qA; have SHB0 := Lib.hid qB; have SHO0 := Lib.hid qO
  have HPH := Lib.hid (qP rfl)
  clear K_M18 KW18 KG18 SWA18 SWB18 SWO18 SGA18 SGB18 SGO18 B18 kW18 kG18 hb qA qB qO qP
  have hlaH : w16a.heap.size ≤ loH ∧ loH ≤ w16a.heap.size := by omega
  have hhaH : w16b.heap.size ≤ hiH ∧ hiH ≤ w16b.heap.size := by omega
  clear hloH hhiH
  go_upto_region 25 with (first | (refine wpList_store_row rfl 31 _ _ rfl w16b.heap.size _ rfl rfl 31 _ (BoxC.new 31 w16b _) info_model rfl (one4m _ _ _ _ _ _ _ _ _ _) ?_))
  have hb4 : Below w16b.heap.size w16b ((w16b.alloc (.cells #[.slice none 0 0, .int .i64 0, .slice none 0 0, .slice none 0 0] 31)).setRow w16b.heap.size #[.slice AH L.length cH, .int .i64 n, .slice BH bs'.length dH, .slice OH os'.length fH]) := below_setRow (below_alloc w16b _) (Nat.le_refl _) _
  have KH0 := Lib.hid ((BoxC.new 31 w16b #[.slice none 0 0, .int .i64 0, .slice none 0 0, .slice none 0 0]).mrow #[.slice AH L.length cH, .int .i64 n, .slice BH bs'.length dH, .slice OH os'.length fH])
  generalize (w16b.alloc (.cells #[.slice none 0 0, .int .i64 0, .slice none 0 0, .slice none 0 0] 31)).setRow w16b.heap.size #[.slice AH L.length cH, .int .i64 n, .slice BH bs'.length dH, .slice OH os'.length fH] = w16 at hb4 KH0 ⊢
  have hlH : w16b.heap.size < w16.heap.size := KH0.out.lt
  have K_M20 := Lib.hid (BoxC.below K_M19.out hb4)
  have KW20 := Lib.hid (BoxC.below KW19.out hb4)
  have KG20 := Lib.hid (BoxC.below KG19.out hb4)
  have SWA20 := Lib.hid (SegH.below SWA19.out hb4)
  have SWB20 := Lib.hid (SegH.below SWB19.out hb4)
  have SWO20 := Lib.hid (SegH.below SWO19.out hb4)
  have SGA20 := Lib.hid (SegH.below SGA19.out hb4)
  have SGB20 := Lib.hid (SegH.below SGB19.out hb4)
  have SGO20 := Lib.hid (SegH.below SGO19.out hb4)
  have SHA20 := Lib.hid (SegH.below SHA0.out hb4)
  have SHB20 := Lib.hid (SegH.below SHB0.out hb4)
  have SHO20 := Lib.hid (SegH.below SHO0.out hb4)
  have B20 := Lib.hid (below_trans B19.out hb4)
  have kW20 := KW20.out.cell
  have kG20 := KG20.out.cell
  have kH0 := KH0.out.cell
  clear K_M19 KW19 KG19 SWA19 SWB19 SWO19 SGA19 SGB19 SGO19 SHA0 SHB0 SHO0 B19 kW19 kG19 hb4
  as_aux_lemma =>
  go_wp2_with fail
  refine (eqModel_same _ _ _ _ _ _ L bs' os' n _ _ _ _ _ _ _ rL rB rO SHA20.out.rd SHB20.out.rdW SHO20.out.rdW SWA20.out.rd SWB20.out.rdW SWO20.out.rdW).mono ?_
  rintro e w17 ⟨rfl, hb⟩
  have K_M21 := Lib.hid (BoxC.below K_M20.out hb)
  have KW21 := Lib.hid (BoxC.below KW20.out hb)
  have KG21 := Lib.hid (BoxC.below KG20.out hb)
  have KH21 := Lib.hid (BoxC.below KH0.out hb)
  have SWA21 := Lib.hid (SegH.below SWA20.out hb)
  have SWB21 := Lib.hid (SegH.below SWB20.out hb)
  have SWO21 := Lib.hid (SegH.below SWO20.out hb)
  have SGA21 := Lib.hid (SegH.below SGA20.out hb)
  have SGB21 := Lib.hid (SegH.below SGB20.out hb)
  have SGO21 := Lib.hid (SegH.below SGO20.out hb)
  have SHA21 := Lib.hid (SegH.below SHA20.out hb)
  have SHB21 := Lib.hid (SegH.below SHB20.out hb)
  have SHO21 := Lib.hid (SegH.below SHO20.out hb)
  have B21 := Lib.hid (below_trans B20.out hb)
  have kW21 := KW21.out.cell
  have kG21 := KG21.out.cell
  have kH21 := KH21.out.cell
  have hs17 : w16.heap.size ≤ w17.heap.size := hb.size
  clear K_M20 KW20 KG20 KH0 SWA20 SWB20 SWO20 SGA20 SGB20 SGO20 SHA20 SHB20 SHO20 B20 kW20 kG20 kH0 hb
  have kk := KG21.out.cell
  go_wp2_with fail
  refine (heldModel_any _ _ _ _ _ _ L.length bs'.length os'.length _ 1 _ rL rB rO (by decide) (by decide) SGA21.out.rd SGB21.out.rd SGO21.out.rd).mono ?_
  rintro e w18 ⟨rfl, hb⟩
  have K_M22 := Lib.hid (BoxC.below K_M21.out hb)
  have KW22 := Lib.hid (BoxC.below KW21.out hb)
  have KG22 := Lib.hid (BoxC.below KG21.out hb)
  have KH22 := Lib.hid (BoxC.below KH21.out hb)
  have SWA22 := Lib.hid (SegH.below SWA21.out hb)
  have SWB22 := Lib.hid (SegH.below SWB21.out hb)
  have SWO22 := Lib.hid (SegH.below SWO21.out hb)
  have SGA22 := Lib.hid (SegH.below SGA21.out hb)
  have SGB22 := Lib.hid (SegH.below SGB21.out hb)
  have SGO22 := Lib.hid (SegH.below SGO21.out hb)
  have SHA22 := Lib.hid (SegH.below SHA21.out hb)
  have SHB22 := Lib.hid (SegH.below SHB21.out hb)
  have SHO22 := Lib.hid (SegH.below SHO21.out hb)
  have B22 := Lib.hid (below_trans B21.out hb)
  have kW22 := KW22.out.cell
  have kG22 := KG22.out.cell
  have kH22 := KH22.out.cell
  have hs18 : w17.heap.size ≤ w18.heap.size := hb.size
  clear K_M21 KW21 KG21 KH21 SWA21 SWB21 SWO21 SGA21 SGB21 SGO21 SHA21 SHB21 SHO21 B21 kW21 kG21 kH21 hb
  clear kk
  go_wp2
  go_ret
  exact ⟨rfl, B22.out⟩
end Go.Proofs.Ythianfhfamkcmaa

namespace Go.Proofs.Ythianfhfamkcmaa
open Go.RowKit

theorem ownsRow_setRow_below {w : World} {base : Nat} {e : TypeId} {size : Nat} {v : Value} {n : Nat} {xs : List Value} (h : w.ownsRow base e size v n xs) {k : Nat} (hk : k < base) (cs : Array Value) : (w.setRow k cs).ownsRow base e size v n xs := by
  obtain ⟨h1, h2⟩ := h
  refine ⟨h1, ?_⟩
  rcases h2 with h2 | ⟨g, cap, cur, hv, hg, hh, r⟩
  · exact Or.inl h2
  · exact Or.inr ⟨g, cap, cur, hv, hg, by rw [setRow_other _ _ _ _ (by omega)]; exact hh, r⟩
theorem OwnO.row {b0 : Nat} {w : World} {B1 : Option Addr} {d1 : Nat} {zs : List Int} {B2 : Option Addr} {d2 : Nat} {bs : List Wtr} {B3 : Option Addr} {d3 : Nat} {os : List Wtr} (h : OwnO b0 w B1 d1 zs B2 d2 bs B3 d3 os) {k : Nat} (hk : k < b0) (cs : Array Value) : OwnO b0 (w.setRow k cs) B1 d1 zs B2 d2 bs B3 d3 os :=
  ⟨ownsRow_setRow_below h.st hk cs, ownsRow_setRow_below h.wt hk cs, ownsRow_setRow_below h.of hk cs, h.d12, h.d13, h.d23⟩
theorem OwnO.base {b0 b1 : Nat} {w : World} {B1 : Option Addr} {d1 : Nat} {zs : List Int} {B2 : Option Addr} {d2 : Nat} {bs : List Wtr} {B3 : Option Addr} {d3 : Nat} {os : List Wtr} (h : OwnO b0 w B1 d1 zs B2 d2 bs B3 d3 os) (hb : b1 ≤ b0) : OwnO b1 w B1 d1 zs B2 d2 bs B3 d3 os :=
  ⟨NewA.base h.st hb, OwnR.base h.wt hb, OwnR.base h.of hb, h.d12, h.d13, h.d23⟩
/-- A segment that shares no block with the row that an append may have written. -/
theorem SegC.keptD {b0 : Nat} {w w' : World} {A : Option Addr} {n c : Nat} {vs : List Value} {v : Value} (h : SegC b0 w A vs) (hg : w.grownBy w' v.ownBlock) (hd : Dis (.slice A n c) v) : SegC b0 w' A vs := by
  rcases h with h0 | ⟨g, o, rfl, h1, hc, hf⟩
  · exact .inl h0
  · exact SegC.kept (n := n) (c := c) (.inr ⟨g, o, rfl, h1, hc, hf⟩) hg (.inr (fun e => hd g rfl e.symm))
theorem NewA.one (w : World) (x : Int) : (w.alloc (.cells #[.int .i64 x] 3)).ownsRow w.heap.size 3 1 (.slice (some ⟨w.heap.size, 0, none⟩) 1 1) [x].length (ints [x]) := World.ownsRow_lit w #[.int .i64 x] 1 (Nat.le_refl _) (by decide) rfl
theorem ne_own {b k : Nat} {v : Value} (h : ∀ q, v.ownBlock = some q → b ≤ q) (hk : k < b) : some k ≠ v.ownBlock := fun e => by have := h k e.symm; omega
/-- What the model's l10Call, ModelCall answer. -/
def SpecPost (w : World) (r : (Bool × Int × Int × Int) × (List Int × Int × List Wtr × List Wtr)) (e : Ending) (w' : World) : Prop :=
  ∃ A1 c1 B1 d1 O1 e1, e = .returned (.tuple #[.agg #[.slice A1 r.2.1.length c1, .int .i64 r.2.2.1, .slice B1 r.2.2.2.1.length d1, .slice O1 r.2.2.2.2.length e1], .bool r.1.1, .int .i64 r.1.2.1, .int .i64 r.1.2.2.1, .int .i64 r.1.2.2.2]) ∧
    SegC w.heap.size w' A1 (ints r.2.1) ∧ SegC w.heap.size w' B1 (flatV Wtr.cs r.2.2.2.1) ∧ SegC w.heap.size w' O1 (flatV Wtr.cs r.2.2.2.2) ∧ Below w.heap.size w w'
end Go.Proofs.Ythianfhfamkcmaa

namespace Go.Proofs.Ythianfhfamkcmaa
open Go.RowKit

set_option maxHeartbeats 4000000 in
set_option maxRecDepth 100000 in
theorem l10_nil1 (A B O : Option Addr) (ca cb co : Nat) (zs : List Int) (os : List Wtr) (cnt th arg : Int) (w : World) (hz : zs.length ≤ 1048576) (ht : (([] : List Wtr)).length ≤ 1048576) (hc : os.length ≤ 1048576) (hA : Rd w A zs) (hT : RdR Wtr.cs w B ([] : List Wtr)) (hC : RdR Wtr.cs w O os) :
    Calls Try.prog 51 #[.agg #[.slice A zs.length ca, .int .i64 cnt, .slice B (([] : List Wtr)).length cb, .slice O os.length co], .agg #[.int .i64 th, .int .i64 1, .int .i64 arg]] w (SpecPost w ((false, 0, 0, (-1)), (zs, cnt, ([⟨th, 1, arg⟩] : List Wtr), os))) := by
  have HA := Lib.hid hA; have HT := Lib.hid hT; have HC := Lib.hid hC; clear hA hT hC
  have HB0 := Lib.hid (below_alloc3 w (.cells #[.slice A zs.length ca, .int .i64 cnt, .slice B (([] : List Wtr)).length cb, .slice O os.length co] 31) (.cells #[.int .i64 th, .int .i64 1, .int .i64 arg] 35) (.cells #[.slice none 0 0, .int .i64 0, .slice none 0 0, .slice none 0 0] 31))
  have HX := Lib.hid ((BoxC.new 31 w #[.slice A zs.length ca, .int .i64 cnt, .slice B (([] : List Wtr)).length cb, .slice O os.length co]).below (below_alloc2 _ (.cells #[.int .i64 th, .int .i64 1, .int .i64 arg] 35) (.cells #[.slice none 0 0, .int .i64 0, .slice none 0 0, .slice none 0 0] 31)))
  have HW := Lib.hid (by have h := (BoxC.new 35 (w.alloc (.cells #[.slice A zs.length ca, .int .i64 cnt, .slice B (([] : List Wtr)).length cb, .slice O os.length co] 31)) #[.int .i64 th, .int .i64 1, .int .i64 arg]).below (below_alloc _ (.cells #[.slice none 0 0, .int .i64 0, .slice none 0 0, .slice none 0 0] 31)); rw [size_alloc] at h; exact h)
  have HR := Lib.hid (by have h := BoxC.new 31 ((w.alloc (.cells #[.slice A zs.length ca, .int .i64 cnt, .slice B (([] : List Wtr)).length cb, .slice O os.length co] 31)).alloc (.cells #[.int .i64 th, .int .i64 1, .int .i64 arg] 35)) #[.slice none 0 0, .int .i64 0, .slice none 0 0, .slice none 0 0]; rw [size_alloc, size_alloc] at h; exact h)
  have hsz : (((w.alloc (.cells #[.slice A zs.length ca, .int .i64 cnt, .slice B (([] : List Wtr)).length cb, .slice O os.length co] 31)).alloc (.cells #[.int .i64 th, .int .i64 1, .int .i64 arg] 35)).alloc (.cells #[.slice none 0 0, .int .i64 0, .slice none 0 0, .slice none 0 0] 31)).heap.size = w.heap.size + 1 + 1 + 1 := by simp
  go_enter Try.func51, Try.ntmps51
  have hx := HX.out.cell
  go_wp2_with fail
  refine (l10Own_any _ _ _ _ _ _ zs ([] : List Wtr) os cnt _ hz ht hc (HA.out.below HB0.out) (HT.out.below HB0.out) (HC.out.below HB0.out)).mono ?_
  rintro e w1 ⟨B1, d1, B2, d2, B3, d3, rfl, hO, hb⟩
  rw [hsz] at hO
  have HB1 := Lib.hid (below_trans HB0.out hb)
  have HX1 := Lib.hid (HX.out.below hb); have HW1 := Lib.hid (HW.out.below hb); have HR1 := Lib.hid (HR.out.below hb)
  have HO1 := Lib.hid hO
  clear hb hO HB0 HX HW HR hx hsz
  go_upto_region 2 with (refine wpList_store_row rfl 31 _ _ rfl w.heap.size _ rfl rfl 31 _ HX1.out info_model rfl (one4m _ _ _ _ _ _ _ _ _ _) ?_)
  have HX2 := Lib.hid (HX1.out.mrow #[.slice B1 zs.length d1, .int .i64 cnt, .slice B2 (([] : List Wtr)).length d2, .slice B3 os.length d3])
  have HW2 := Lib.hid (HW1.out.mrowO (b := w.heap.size) (by omega) #[.slice B1 zs.length d1, .int .i64 cnt, .slice B2 (([] : List Wtr)).length d2, .slice B3 os.length d3])
  have HR2 := Lib.hid (HR1.out.mrowO (b := w.heap.size) (by omega) #[.slice B1 zs.length d1, .int .i64 cnt, .slice B2 (([] : List Wtr)).length d2, .slice B3 os.length d3])
  have HB2 := Lib.hid (below_setRow HB1.out (Nat.le_refl _) #[.slice B1 zs.length d1, .int .i64 cnt, .slice B2 (([] : List Wtr)).length d2, .slice B3 os.length d3])
  have HO2 := Lib.hid (HO1.out.row (k := w.heap.size) (by omega) #[.slice B1 zs.length d1, .int .i64 cnt, .slice B2 (([] : List Wtr)).length d2, .slice B3 os.length d3])
  generalize w1.setRow w.heap.size #[.slice B1 zs.length d1, .int .i64 cnt, .slice B2 (([] : List Wtr)).length d2, .slice B3 os.length d3] = w2 at HX2 HW2 HR2 HB2 HO2 ⊢
  have hz2 : w.heap.size + 1 + 1 < w2.heap.size := HR2.out.lt
  have hy2 : w.heap.size < w2.heap.size := by omega
  have hy2' : w.heap.size + 1 < w2.heap.size := by omega
  clear HX1 HW1 HR1 HB1 HO1
  obtain ⟨j0, hj, hy0, hy1, hy2⟩ := infoW
  have Hj := Lib.hid hj; have Hy0 := Lib.hid hy0; have Hy1 := Lib.hid hy1; have Hy2 := Lib.hid hy2
  clear hj hy0 hy1 hy2
  have hx := HX2.out.cell; have hf := HX2.out.mfroz
  have hw := HW2.out.cell
  go_wp2_with fail
  go_quiet (fail)
  have hbq : Below w2.heap.size w2 (w2.drewN nq) := below_drewN _
  have HX2b := Lib.hid (HX2.out.below hbq); have HW2b := Lib.hid (HW2.out.below hbq); have HR2b := Lib.hid (HR2.out.below hbq)
  have HB2b := Lib.hid (below_trans HB2.out hbq); have HO2b := Lib.hid (HO2.out.below hbq)
  clear hx hf hw hbq
  try clear d0 d1' d2' hrow
  clear HX2 HW2 HR2 HB2 HO2 hz2 hy2 hy2'
  generalize w2.drewN nq = w2b at HX2b HW2b HR2b HB2b HO2b ⊢
  have hz2 : w.heap.size + 1 + 1 < w2b.heap.size := HR2b.out.lt
  have hy2 : w.heap.size < w2b.heap.size := by omega
  have hy2' : w.heap.size + 1 < w2b.heap.size := by omega
  have hx := HX2b.out.cell; have hf := HX2b.out.mfroz; have hw := HW2b.out.cell
  go_wp2_with (at_builtin; refine wpList_append_rows Wtr.len (by decide) Wtr.one _ rfl (.tmp 34) (.tmp 36) 29 rfl (w.heap.size + 1 + 1 + 1) 35 j0 (.agg #[.int .i64 0, .int .i64 0, .int .i64 0]) 24 Try.underlying29 Hj.out Hy0.out Hy1.out Hy2.out rfl _ ([] : List Wtr) rfl (own_below HO2b.out.wt (below_alloc _ _)) (some ⟨w2b.heap.size, 0, none⟩) 1 [⟨th, 1, arg⟩] rfl (.inr ⟨w2b.heap.size, 0, rfl, fun j v hj => by rw [Nat.zero_add, (BoxC.new 35 w2b #[.int .i64 th, .int .i64 1, .int .i64 arg]).cell j]; simpa [flatV, Wtr.cs] using hj⟩) ?_ ?_ (by simp <;> omega) ?_)
  · show ((([] : List Wtr)).length + 1) * _ ≤ _; omega
  · show (([] : List Wtr)).length + 1 ≤ maxLen; unfold maxLen; omega
  intro F f w3 hown hgr
  have hlo : ∀ q, (Value.slice B2 (([] : List Wtr)).length d2).ownBlock = some q → w.heap.size + 1 + 1 + 1 ≤ q := fun q hq => (World.ownsRow.lt HO2b.out.wt q hq).1
  have hbl := below_alloc w2b (.cells #[.int .i64 th, .int .i64 1, .int .i64 arg] 35)
  have HX3 := Lib.hid ((HX2b.out.below hbl).mgrown hgr (ne_own hlo (by omega)))
  have HR3 := Lib.hid ((HR2b.out.below hbl).mgrown hgr (ne_own hlo (by omega)))
  have HB3 := Lib.hid ((below_trans HB2b.out hbl).grown hgr (below_trans HB2b.out hbl).size (fun q hq => by have := hlo q hq; omega))
  have HA3 := Lib.hid (SegC.keptD (n := zs.length) (c := d1) (SegC.below (SegC.ofI HO2b.out.st) hbl) hgr HO2b.out.d12)
  have HC3 := Lib.hid (SegC.keptD (n := os.length) (c := d3) (SegC.below (SegC.ofW HO2b.out.of) hbl) hgr HO2b.out.d23.symm)
  have HT3 : Hid (SegC (w.heap.size + 1 + 1 + 1) w3 F (flatV Wtr.cs ([⟨th, 1, arg⟩] : List Wtr))) := Lib.hid (SegC.ofW (c := f) (by first | exact hown | (unfold OwnR; simpa using hown)))
  clear hown hgr hbl hlo hx hw HX2b HW2b HR2b HB2b HO2b
  have hf := HX3.out.mfroz; have hx := HX3.out.cell
  go_upto_region 7 with fail
  have HX4 : Hid (BoxC 31 (w3.setCell ⟨w.heap.size, 2, none⟩ (.slice F (([⟨th, 1, arg⟩] : List Wtr)).length f)) w.heap.size #[.slice B1 zs.length d1, .int .i64 cnt, .slice F (([⟨th, 1, arg⟩] : List Wtr)).length f, .slice B3 os.length d3]) := Lib.hid (HX3.out.mset 2 _)
  have HR4 := Lib.hid (HR3.out.msetO ⟨w.heap.size, 2, none⟩ (.slice F (([⟨th, 1, arg⟩] : List Wtr)).length f) (by simp <;> omega))
  have HB4 := Lib.hid (HB3.out.setCell (p := ⟨w.heap.size, 2, none⟩) (Nat.le_refl _) (.slice F (([⟨th, 1, arg⟩] : List Wtr)).length f))
  have HA4 := Lib.hid (HA3.out.low (k := w.heap.size) (o := 2) (by omega) (.slice F (([⟨th, 1, arg⟩] : List Wtr)).length f))
  have HT4 := Lib.hid (HT3.out.low (k := w.heap.size) (o := 2) (by omega) (.slice F (([⟨th, 1, arg⟩] : List Wtr)).length f))
  have HC4 := Lib.hid (HC3.out.low (k := w.heap.size) (o := 2) (by omega) (.slice F (([⟨th, 1, arg⟩] : List Wtr)).length f))
  generalize w3.setCell ⟨w.heap.size, 2, none⟩ (.slice F (([⟨th, 1, arg⟩] : List Wtr)).length f) = w4 at HX4 HR4 HB4 HA4 HT4 HC4 ⊢
  clear hf hx HX3 HR3 HB3 HA3 HT3 HC3
  have hx := HX4.out.cell; have hf := HX4.out.mfroz
  go_wp2_with (refine wpList_store_row rfl 31 _ _ rfl (w.heap.size + 1 + 1) _ rfl rfl 31 _ HR4.out info_model rfl (one4m _ _ _ _ _ _ _ _ _ _) ?_)
  have hr := (HR4.out.mrow #[.slice B1 zs.length d1, .int .i64 cnt, .slice F (([⟨th, 1, arg⟩] : List Wtr)).length f, .slice B3 os.length d3]).cell
  have hb' := below_setRow HB4.out (Nat.le_trans (Nat.le_succ _) (Nat.le_succ _) : w.heap.size ≤ w.heap.size + 1 + 1) #[.slice B1 zs.length d1, .int .i64 cnt, .slice F (([⟨th, 1, arg⟩] : List Wtr)).length f, .slice B3 os.length d3]
  have hsA := SegC.base (b1 := w.heap.size) (SegC.row (n := zs.length) (c := d1) HA4.out (k := w.heap.size + 1 + 1) (by omega) #[.slice B1 zs.length d1, .int .i64 cnt, .slice F (([⟨th, 1, arg⟩] : List Wtr)).length f, .slice B3 os.length d3]) (by omega)
  have hsB := SegC.base (b1 := w.heap.size) (SegC.row (n := (([⟨th, 1, arg⟩] : List Wtr)).length) (c := f) HT4.out (k := w.heap.size + 1 + 1) (by omega) #[.slice B1 zs.length d1, .int .i64 cnt, .slice F (([⟨th, 1, arg⟩] : List Wtr)).length f, .slice B3 os.length d3]) (by omega)
  have hsO := SegC.base (b1 := w.heap.size) (SegC.row (n := os.length) (c := d3) HC4.out (k := w.heap.size + 1 + 1) (by omega) #[.slice B1 zs.length d1, .int .i64 cnt, .slice F (([⟨th, 1, arg⟩] : List Wtr)).length f, .slice B3 os.length d3]) (by omega)
  generalize w4.setRow (w.heap.size + 1 + 1) #[.slice B1 zs.length d1, .int .i64 cnt, .slice F (([⟨th, 1, arg⟩] : List Wtr)).length f, .slice B3 os.length d3] = w9 at hr hb' hsA hsB hsO ⊢
  clear hx hf
  refine bodyPost_ret (v := .tuple #[.agg #[.slice B1 zs.length d1, .int .i64 cnt, .slice F (([⟨th, 1, arg⟩] : List Wtr)).length f, .slice B3 os.length d3], .bool false, .int .i64 0, .int .i64 0, .int .i64 (-1)]) (by simp [results, Try.results51, go_sem, hr]) rfl ⟨B1, d1, F, f, B3, d3, rfl, hsA, hsB, hsO, hb'⟩

end Go.Proofs.Ythianfhfamkcmaa

namespace Go.Proofs.Ythianfhfamkcmaa
open Go.RowKit

set_option maxHeartbeats 4000000 in
set_option maxRecDepth 100000 in
theorem l10_nil2 (A B O : Option Addr) (ca cb co : Nat) (zs : List Int) (os : List Wtr) (cnt th arg : Int) (w : World) (hz : zs.length ≤ 1048576) (ht : (([] : List Wtr)).length ≤ 1048576) (hc : os.length ≤ 1048576) (hA : Rd w A zs) (hT : RdR Wtr.cs w B ([] : List Wtr)) (hC : RdR Wtr.cs w O os) :
    Calls Try.prog 51 #[.agg #[.slice A zs.length ca, .int .i64 cnt, .slice B (([] : List Wtr)).length cb, .slice O os.length co], .agg #[.int .i64 th, .int .i64 2, .int .i64 arg]] w (SpecPost w ((false, 0, 0, (-1)), (zs, cnt, ([⟨th, 2, arg⟩] : List Wtr), os))) := by
  have HA := Lib.hid hA; have HT := Lib.hid hT; have HC := Lib.hid hC; clear hA hT hC
  have HB0 := Lib.hid (below_alloc3 w (.cells #[.slice A zs.length ca, .int .i64 cnt, .slice B (([] : List Wtr)).length cb, .slice O os.length co] 31) (.cells #[.int .i64 th, .int .i64 2, .int .i64 arg] 35) (.cells #[.slice none 0 0, .int .i64 0, .slice none 0 0, .slice none 0 0] 31))
  have HX := Lib.hid ((BoxC.new 31 w #[.slice A zs.length ca, .int .i64 cnt, .slice B (([] : List Wtr)).length cb, .slice O os.length co]).below (below_alloc2 _ (.cells #[.int .i64 th, .int .i64 2, .int .i64 arg] 35) (.cells #[.slice none 0 0, .int .i64 0, .slice none 0 0, .slice none 0 0] 31)))
  have HW := Lib.hid (by have h := (BoxC.new 35 (w.alloc (.cells #[.slice A zs.length ca, .int .i64 cnt, .slice B (([] : List Wtr)).length cb, .slice O os.length co] 31)) #[.int .i64 th, .int .i64 2, .int .i64 arg]).below (below_alloc _ (.cells #[.slice none 0 0, .int .i64 0, .slice none 0 0, .slice none 0 0] 31)); rw [size_alloc] at h; exact h)
  have HR := Lib.hid (by have h := BoxC.new 31 ((w.alloc (.cells #[.slice A zs.length ca, .int .i64 cnt, .slice B (([] : List Wtr)).length cb, .slice O os.length co] 31)).alloc (.cells #[.int .i64 th, .int .i64 2, .int .i64 arg] 35)) #[.slice none 0 0, .int .i64 0, .slice none 0 0, .slice none 0 0]; rw [size_alloc, size_alloc] at h; exact h)
  have hsz : (((w.alloc (.cells #[.slice A zs.length ca, .int .i64 cnt, .slice B (([] : List Wtr)).length cb, .slice O os.length co] 31)).alloc (.cells #[.int .i64 th, .int .i64 2, .int .i64 arg] 35)).alloc (.cells #[.slice none 0 0, .int .i64 0, .slice none 0 0, .slice none 0 0] 31)).heap.size = w.heap.size + 1 + 1 + 1 := by simp
  go_enter Try.func51, Try.ntmps51
  have hx := HX.out.cell
  go_wp2_with fail
  refine (l10Own_any _ _ _ _ _ _ zs ([] : List Wtr) os cnt _ hz ht hc (HA.out.below HB0.out) (HT.out.below HB0.out) (HC.out.below HB0.out)).mono ?_
  rintro e w1 ⟨B1, d1, B2, d2, B3, d3, rfl, hO, hb⟩
  rw [hsz] at hO
  have HB1 := Lib.hid (below_trans HB0.out hb)
  have HX1 := Lib.hid (HX.out.below hb); have HW1 := Lib.hid (HW.out.below hb); have HR1 := Lib.hid (HR.out.below hb)
  have HO1 := Lib.hid hO
  clear hb hO HB0 HX HW HR hx hsz
  go_upto_region 2 with (refine wpList_store_row rfl 31 _ _ rfl w.heap.size _ rfl rfl 31 _ HX1.out info_model rfl (one4m _ _ _ _ _ _ _ _ _ _) ?_)
  have HX2 := Lib.hid (HX1.out.mrow #[.slice B1 zs.length d1, .int .i64 cnt, .slice B2 (([] : List Wtr)).length d2, .slice B3 os.length d3])
  have HW2 := Lib.hid (HW1.out.mrowO (b := w.heap.size) (by omega) #[.slice B1 zs.length d1, .int .i64 cnt, .slice B2 (([] : List Wtr)).length d2, .slice B3 os.length d3])
  have HR2 := Lib.hid (HR1.out.mrowO (b := w.heap.size) (by omega) #[.slice B1 zs.length d1, .int .i64 cnt, .slice B2 (([] : List Wtr)).length d2, .slice B3 os.length d3])
  have HB2 := Lib.hid (below_setRow HB1.out (Nat.le_refl _) #[.slice B1 zs.length d1, .int .i64 cnt, .slice B2 (([] : List Wtr)).length d2, .slice B3 os.length d3])
  have HO2 := Lib.hid (HO1.out.row (k := w.heap.size) (by omega) #[.slice B1 zs.length d1, .int .i64 cnt, .slice B2 (([] : List Wtr)).length d2, .slice B3 os.length d3])
  generalize w1.setRow w.heap.size #[.slice B1 zs.length d1, .int .i64 cnt, .slice B2 (([] : List Wtr)).length d2, .slice B3 os.length d3] = w2 at HX2 HW2 HR2 HB2 HO2 ⊢
  have hz2 : w.heap.size + 1 + 1 < w2.heap.size := HR2.out.lt
  have hy2 : w.heap.size < w2.heap.size := by omega
  have hy2' : w.heap.size + 1 < w2.heap.size := by omega
  clear HX1 HW1 HR1 HB1 HO1
  obtain ⟨j0, hj, hy0, hy1, hy2⟩ := infoW
  have Hj := Lib.hid hj; have Hy0 := Lib.hid hy0; have Hy1 := Lib.hid hy1; have Hy2 := Lib.hid hy2
  clear hj hy0 hy1 hy2
  have hx := HX2.out.cell; have hf := HX2.out.mfroz
  have hw := HW2.out.cell
  go_wp2_with fail
  go_quiet (fail)
  have hbq : Below w2.heap.size w2 (w2.drewN nq) := below_drewN _
  have HX2b := Lib.hid (HX2.out.below hbq); have HW2b := Lib.hid (HW2.out.below hbq); have HR2b := Lib.hid (HR2.out.below hbq)
  have HB2b := Lib.hid (below_trans HB2.out hbq); have HO2b := Lib.hid (HO2.out.below hbq)
  clear hx hf hw hbq
  try clear d0 d1' d2' hrow
  clear HX2 HW2 HR2 HB2 HO2 hz2 hy2 hy2'
  generalize w2.drewN nq = w2b at HX2b HW2b HR2b HB2b HO2b ⊢
  have hz2 : w.heap.size + 1 + 1 < w2b.heap.size := HR2b.out.lt
  have hy2 : w.heap.size < w2b.heap.size := by omega
  have hy2' : w.heap.size + 1 < w2b.heap.size := by omega
  have hx := HX2b.out.cell; have hf := HX2b.out.mfroz; have hw := HW2b.out.cell
  go_wp2_with (at_builtin; refine wpList_append_rows Wtr.len (by decide) Wtr.one _ rfl (.tmp 34) (.tmp 36) 29 rfl (w.heap.size + 1 + 1 + 1) 35 j0 (.agg #[.int .i64 0, .int .i64 0, .int .i64 0]) 24 Try.underlying29 Hj.out Hy0.out Hy1.out Hy2.out rfl _ ([] : List Wtr) rfl (own_below HO2b.out.wt (below_alloc _ _)) (some ⟨w2b.heap.size, 0, none⟩) 1 [⟨th, 2, arg⟩] rfl (.inr ⟨w2b.heap.size, 0, rfl, fun j v hj => by rw [Nat.zero_add, (BoxC.new 35 w2b #[.int .i64 th, .int .i64 2, .int .i64 arg]).cell j]; simpa [flatV, Wtr.cs] using hj⟩) ?_ ?_ (by simp <;> omega) ?_)
  · show ((([] : List Wtr)).length + 1) * _ ≤ _; omega
  · show (([] : List Wtr)).length + 1 ≤ maxLen; unfold maxLen; omega
  intro F f w3 hown hgr
  have hlo : ∀ q, (Value.slice B2 (([] : List Wtr)).length d2).ownBlock = some q → w.heap.size + 1 + 1 + 1 ≤ q := fun q hq => (World.ownsRow.lt HO2b.out.wt q hq).1
  have hbl := below_alloc w2b (.cells #[.int .i64 th, .int .i64 2, .int .i64 arg] 35)
  have HX3 := Lib.hid ((HX2b.out.below hbl).mgrown hgr (ne_own hlo (by omega)))
  have HR3 := Lib.hid ((HR2b.out.below hbl).mgrown hgr (ne_own hlo (by omega)))
  have HB3 := Lib.hid ((below_trans HB2b.out hbl).grown hgr (below_trans HB2b.out hbl).size (fun q hq => by have := hlo q hq; omega))
  have HA3 := Lib.hid (SegC.keptD (n := zs.length) (c := d1) (SegC.below (SegC.ofI HO2b.out.st) hbl) hgr HO2b.out.d12)
  have HC3 := Lib.hid (SegC.keptD (n := os.length) (c := d3) (SegC.below (SegC.ofW HO2b.out.of) hbl) hgr HO2b.out.d23.symm)
  have HT3 : Hid (SegC (w.heap.size + 1 + 1 + 1) w3 F (flatV Wtr.cs ([⟨th, 2, arg⟩] : List Wtr))) := Lib.hid (SegC.ofW (c := f) (by first | exact hown | (unfold OwnR; simpa using hown)))
  clear hown hgr hbl hlo hx hw HX2b HW2b HR2b HB2b HO2b
  have hf := HX3.out.mfroz; have hx := HX3.out.cell
  go_upto_region 7 with fail
  have HX4 : Hid (BoxC 31 (w3.setCell ⟨w.heap.size, 2, none⟩ (.slice F (([⟨th, 2, arg⟩] : List Wtr)).length f)) w.heap.size #[.slice B1 zs.length d1, .int .i64 cnt, .slice F (([⟨th, 2, arg⟩] : List Wtr)).length f, .slice B3 os.length d3]) := Lib.hid (HX3.out.mset 2 _)
  have HR4 := Lib.hid (HR3.out.msetO ⟨w.heap.size, 2, none⟩ (.slice F (([⟨th, 2, arg⟩] : List Wtr)).length f) (by simp <;> omega))
  have HB4 := Lib.hid (HB3.out.setCell (p := ⟨w.heap.size, 2, none⟩) (Nat.le_refl _) (.slice F (([⟨th, 2, arg⟩] : List Wtr)).length f))
  have HA4 := Lib.hid (HA3.out.low (k := w.heap.size) (o := 2) (by omega) (.slice F (([⟨th, 2, arg⟩] : List Wtr)).length f))
  have HT4 := Lib.hid (HT3.out.low (k := w.heap.size) (o := 2) (by omega) (.slice F (([⟨th, 2, arg⟩] : List Wtr)).length f))
  have HC4 := Lib.hid (HC3.out.low (k := w.heap.size) (o := 2) (by omega) (.slice F (([⟨th, 2, arg⟩] : List Wtr)).length f))
  generalize w3.setCell ⟨w.heap.size, 2, none⟩ (.slice F (([⟨th, 2, arg⟩] : List Wtr)).length f) = w4 at HX4 HR4 HB4 HA4 HT4 HC4 ⊢
  clear hf hx HX3 HR3 HB3 HA3 HT3 HC3
  have hx := HX4.out.cell; have hf := HX4.out.mfroz
  go_wp2_with (refine wpList_store_row rfl 31 _ _ rfl (w.heap.size + 1 + 1) _ rfl rfl 31 _ HR4.out info_model rfl (one4m _ _ _ _ _ _ _ _ _ _) ?_)
  have hr := (HR4.out.mrow #[.slice B1 zs.length d1, .int .i64 cnt, .slice F (([⟨th, 2, arg⟩] : List Wtr)).length f, .slice B3 os.length d3]).cell
  have hb' := below_setRow HB4.out (Nat.le_trans (Nat.le_succ _) (Nat.le_succ _) : w.heap.size ≤ w.heap.size + 1 + 1) #[.slice B1 zs.length d1, .int .i64 cnt, .slice F (([⟨th, 2, arg⟩] : List Wtr)).length f, .slice B3 os.length d3]
  have hsA := SegC.base (b1 := w.heap.size) (SegC.row (n := zs.length) (c := d1) HA4.out (k := w.heap.size + 1 + 1) (by omega) #[.slice B1 zs.length d1, .int .i64 cnt, .slice F (([⟨th, 2, arg⟩] : List Wtr)).length f, .slice B3 os.length d3]) (by omega)
  have hsB := SegC.base (b1 := w.heap.size) (SegC.row (n := (([⟨th, 2, arg⟩] : List Wtr)).length) (c := f) HT4.out (k := w.heap.size + 1 + 1) (by omega) #[.slice B1 zs.length d1, .int .i64 cnt, .slice F (([⟨th, 2, arg⟩] : List Wtr)).length f, .slice B3 os.length d3]) (by omega)
  have hsO := SegC.base (b1 := w.heap.size) (SegC.row (n := os.length) (c := d3) HC4.out (k := w.heap.size + 1 + 1) (by omega) #[.slice B1 zs.length d1, .int .i64 cnt, .slice F (([⟨th, 2, arg⟩] : List Wtr)).length f, .slice B3 os.length d3]) (by omega)
  generalize w4.setRow (w.heap.size + 1 + 1) #[.slice B1 zs.length d1, .int .i64 cnt, .slice F (([⟨th, 2, arg⟩] : List Wtr)).length f, .slice B3 os.length d3] = w9 at hr hb' hsA hsB hsO ⊢
  clear hx hf
  refine bodyPost_ret (v := .tuple #[.agg #[.slice B1 zs.length d1, .int .i64 cnt, .slice F (([⟨th, 2, arg⟩] : List Wtr)).length f, .slice B3 os.length d3], .bool false, .int .i64 0, .int .i64 0, .int .i64 (-1)]) (by simp [results, Try.results51, go_sem, hr]) rfl ⟨B1, d1, F, f, B3, d3, rfl, hsA, hsB, hsO, hb'⟩

end Go.Proofs.Ythianfhfamkcmaa

namespace Go.Proofs.Ythianfhfamkcmaa
open Go.RowKit

set_option maxHeartbeats 4000000 in
set_option maxRecDepth 100000 in
theorem l10_same1 (A B O : Option Addr) (ca cb co : Nat) (zs : List Int) (xt xa : Int) (r os : List Wtr) (cnt th arg : Int) (w : World) (hz : zs.length ≤ 1048576) (ht : ((⟨xt, 1, xa⟩ :: r : List Wtr)).length ≤ 1048576) (hc : os.length ≤ 1048576) (hA : Rd w A zs) (hT : RdR Wtr.cs w B (⟨xt, 1, xa⟩ :: r : List Wtr)) (hC : RdR Wtr.cs w O os) :
    Calls Try.prog 51 #[.agg #[.slice A zs.length ca, .int .i64 cnt, .slice B ((⟨xt, 1, xa⟩ :: r : List Wtr)).length cb, .slice O os.length co], .agg #[.int .i64 th, .int .i64 1, .int .i64 arg]] w (SpecPost w ((false, 0, 0, (-1)), (zs, cnt, ((⟨xt, 1, xa⟩ :: r) ++ [⟨th, 1, arg⟩] : List Wtr), os))) := by
  have HA := Lib.hid hA; have HT := Lib.hid hT; have HC := Lib.hid hC; clear hA hT hC
  have HB0 := Lib.hid (below_alloc3 w (.cells #[.slice A zs.length ca, .int .i64 cnt, .slice B ((⟨xt, 1, xa⟩ :: r : List Wtr)).length cb, .slice O os.length co] 31) (.cells #[.int .i64 th, .int .i64 1, .int .i64 arg] 35) (.cells #[.slice none 0 0, .int .i64 0, .slice none 0 0, .slice none 0 0] 31))
  have HX := Lib.hid ((BoxC.new 31 w #[.slice A zs.length ca, .int .i64 cnt, .slice B ((⟨xt, 1, xa⟩ :: r : List Wtr)).length cb, .slice O os.length co]).below (below_alloc2 _ (.cells #[.int .i64 th, .int .i64 1, .int .i64 arg] 35) (.cells #[.slice none 0 0, .int .i64 0, .slice none 0 0, .slice none 0 0] 31)))
  have HW := Lib.hid (by have h := (BoxC.new 35 (w.alloc (.cells #[.slice A zs.length ca, .int .i64 cnt, .slice B ((⟨xt, 1, xa⟩ :: r : List Wtr)).length cb, .slice O os.length co] 31)) #[.int .i64 th, .int .i64 1, .int .i64 arg]).below (below_alloc _ (.cells #[.slice none 0 0, .int .i64 0, .slice none 0 0, .slice none 0 0] 31)); rw [size_alloc] at h; exact h)
  have HR := Lib.hid (by have h := BoxC.new 31 ((w.alloc (.cells #[.slice A zs.length ca, .int .i64 cnt, .slice B ((⟨xt, 1, xa⟩ :: r : List Wtr)).length cb, .slice O os.length co] 31)).alloc (.cells #[.int .i64 th, .int .i64 1, .int .i64 arg] 35)) #[.slice none 0 0, .int .i64 0, .slice none 0 0, .slice none 0 0]; rw [size_alloc, size_alloc] at h; exact h)
  have hsz : (((w.alloc (.cells #[.slice A zs.length ca, .int .i64 cnt, .slice B ((⟨xt, 1, xa⟩ :: r : List Wtr)).length cb, .slice O os.length co] 31)).alloc (.cells #[.int .i64 th, .int .i64 1, .int .i64 arg] 35)).alloc (.cells #[.slice none 0 0, .int .i64 0, .slice none 0 0, .slice none 0 0] 31)).heap.size = w.heap.size + 1 + 1 + 1 := by simp
  go_enter Try.func51, Try.ntmps51
  have hx := HX.out.cell
  go_wp2_with fail
  refine (l10Own_any _ _ _ _ _ _ zs (⟨xt, 1, xa⟩ :: r : List Wtr) os cnt _ hz ht hc (HA.out.below HB0.out) (HT.out.below HB0.out) (HC.out.below HB0.out)).mono ?_
  rintro e w1 ⟨B1, d1, B2, d2, B3, d3, rfl, hO, hb⟩
  rw [hsz] at hO
  have HB1 := Lib.hid (below_trans HB0.out hb)
  have HX1 := Lib.hid (HX.out.below hb); have HW1 := Lib.hid (HW.out.below hb); have HR1 := Lib.hid (HR.out.below hb)
  have HO1 := Lib.hid hO
  clear hb hO HB0 HX HW HR hx hsz
  go_upto_region 2 with (refine wpList_store_row rfl 31 _ _ rfl w.heap.size _ rfl rfl 31 _ HX1.out info_model rfl (one4m _ _ _ _ _ _ _ _ _ _) ?_)
  have HX2 := Lib.hid (HX1.out.mrow #[.slice B1 zs.length d1, .int .i64 cnt, .slice B2 ((⟨xt, 1, xa⟩ :: r : List Wtr)).length d2, .slice B3 os.length d3])
  have HW2 := Lib.hid (HW1.out.mrowO (b := w.heap.size) (by omega) #[.slice B1 zs.length d1, .int .i64 cnt, .slice B2 ((⟨xt, 1, xa⟩ :: r : List Wtr)).length d2, .slice B3 os.length d3])
  have HR2 := Lib.hid (HR1.out.mrowO (b := w.heap.size) (by omega) #[.slice B1 zs.length d1, .int .i64 cnt, .slice B2 ((⟨xt, 1, xa⟩ :: r : List Wtr)).length d2, .slice B3 os.length d3])
  have HB2 := Lib.hid (below_setRow HB1.out (Nat.le_refl _) #[.slice B1 zs.length d1, .int .i64 cnt, .slice B2 ((⟨xt, 1, xa⟩ :: r : List Wtr)).length d2, .slice B3 os.length d3])
  have HO2 := Lib.hid (HO1.out.row (k := w.heap.size) (by omega) #[.slice B1 zs.length d1, .int .i64 cnt, .slice B2 ((⟨xt, 1, xa⟩ :: r : List Wtr)).length d2, .slice B3 os.length d3])
  generalize w1.setRow w.heap.size #[.slice B1 zs.length d1, .int .i64 cnt, .slice B2 ((⟨xt, 1, xa⟩ :: r : List Wtr)).length d2, .slice B3 os.length d3] = w2 at HX2 HW2 HR2 HB2 HO2 ⊢
  have hz2 : w.heap.size + 1 + 1 < w2.heap.size := HR2.out.lt
  have hy2 : w.heap.size < w2.heap.size := by omega
  have hy2' : w.heap.size + 1 < w2.heap.size := by omega
  clear HX1 HW1 HR1 HB1 HO1
  obtain ⟨j0, hj, hy0, hy1, hy2⟩ := infoW
  have Hj := Lib.hid hj; have Hy0 := Lib.hid hy0; have Hy1 := Lib.hid hy1; have Hy2 := Lib.hid hy2
  clear hj hy0 hy1 hy2
  have hx := HX2.out.cell; have hf := HX2.out.mfroz
  obtain ⟨g, ko, rfl, hrow⟩ := row_of (SegC.ofW HO2.out.wt)
  have d0 := hrow 0 _ rfl; have d1' := hrow 1 _ rfl; have d2' := hrow 2 _ rfl
  rw [Nat.add_zero] at d0
  have hw := HW2.out.cell
  go_wp2_with fail
  go_quiet (fail)
  have hbq : Below w2.heap.size w2 (w2.drewN nq) := below_drewN _
  have HX2b := Lib.hid (HX2.out.below hbq); have HW2b := Lib.hid (HW2.out.below hbq); have HR2b := Lib.hid (HR2.out.below hbq)
  have HB2b := Lib.hid (below_trans HB2.out hbq); have HO2b := Lib.hid (HO2.out.below hbq)
  clear hx hf hw hbq
  try clear d0 d1' d2' hrow
  clear HX2 HW2 HR2 HB2 HO2 hz2 hy2 hy2'
  generalize w2.drewN nq = w2b at HX2b HW2b HR2b HB2b HO2b ⊢
  have hz2 : w.heap.size + 1 + 1 < w2b.heap.size := HR2b.out.lt
  have hy2 : w.heap.size < w2b.heap.size := by omega
  have hy2' : w.heap.size + 1 < w2b.heap.size := by omega
  have hx := HX2b.out.cell; have hf := HX2b.out.mfroz; have hw := HW2b.out.cell
  go_wp2_with (at_builtin; refine wpList_append_rows Wtr.len (by decide) Wtr.one _ rfl (.tmp 34) (.tmp 36) 29 rfl (w.heap.size + 1 + 1 + 1) 35 j0 (.agg #[.int .i64 0, .int .i64 0, .int .i64 0]) 24 Try.underlying29 Hj.out Hy0.out Hy1.out Hy2.out rfl _ (⟨xt, 1, xa⟩ :: r : List Wtr) rfl (own_below HO2b.out.wt (below_alloc _ _)) (some ⟨w2b.heap.size, 0, none⟩) 1 [⟨th, 1, arg⟩] rfl (.inr ⟨w2b.heap.size, 0, rfl, fun j v hj => by rw [Nat.zero_add, (BoxC.new 35 w2b #[.int .i64 th, .int .i64 1, .int .i64 arg]).cell j]; simpa [flatV, Wtr.cs] using hj⟩) ?_ ?_ (by simp <;> omega) ?_)
  · show (((⟨xt, 1, xa⟩ :: r : List Wtr)).length + 1) * _ ≤ _; omega
  · show ((⟨xt, 1, xa⟩ :: r : List Wtr)).length + 1 ≤ maxLen; unfold maxLen; omega
  intro F f w3 hown hgr
  have hlo : ∀ q, (Value.slice (some ⟨g, ko, none⟩) ((⟨xt, 1, xa⟩ :: r : List Wtr)).length d2).ownBlock = some q → w.heap.size + 1 + 1 + 1 ≤ q := fun q hq => (World.ownsRow.lt HO2b.out.wt q hq).1
  have hbl := below_alloc w2b (.cells #[.int .i64 th, .int .i64 1, .int .i64 arg] 35)
  have HX3 := Lib.hid ((HX2b.out.below hbl).mgrown hgr (ne_own hlo (by omega)))
  have HR3 := Lib.hid ((HR2b.out.below hbl).mgrown hgr (ne_own hlo (by omega)))
  have HB3 := Lib.hid ((below_trans HB2b.out hbl).grown hgr (below_trans HB2b.out hbl).size (fun q hq => by have := hlo q hq; omega))
  have HA3 := Lib.hid (SegC.keptD (n := zs.length) (c := d1) (SegC.below (SegC.ofI HO2b.out.st) hbl) hgr HO2b.out.d12)
  have HC3 := Lib.hid (SegC.keptD (n := os.length) (c := d3) (SegC.below (SegC.ofW HO2b.out.of) hbl) hgr HO2b.out.d23.symm)
  have HT3 : Hid (SegC (w.heap.size + 1 + 1 + 1) w3 F (flatV Wtr.cs ((⟨xt, 1, xa⟩ :: r) ++ [⟨th, 1, arg⟩] : List Wtr))) := Lib.hid (SegC.ofW (c := f) (by first | exact hown | (unfold OwnR; simpa using hown)))
  clear hown hgr hbl hlo hx hw HX2b HW2b HR2b HB2b HO2b
  have hf := HX3.out.mfroz; have hx := HX3.out.cell
  go_upto_region 7 with fail
  have HX4 : Hid (BoxC 31 (w3.setCell ⟨w.heap.size, 2, none⟩ (.slice F (r.length + 1 + 1) f)) w.heap.size #[.slice B1 zs.length d1, .int .i64 cnt, .slice F (r.length + 1 + 1) f, .slice B3 os.length d3]) := Lib.hid (HX3.out.mset 2 _)
  have HR4 := Lib.hid (HR3.out.msetO ⟨w.heap.size, 2, none⟩ (.slice F (r.length + 1 + 1) f) (by simp <;> omega))
  have HB4 := Lib.hid (HB3.out.setCell (p := ⟨w.heap.size, 2, none⟩) (Nat.le_refl _) (.slice F (r.length + 1 + 1) f))
  have HA4 := Lib.hid (HA3.out.low (k := w.heap.size) (o := 2) (by omega) (.slice F (r.length + 1 + 1) f))
  have HT4 := Lib.hid (HT3.out.low (k := w.heap.size) (o := 2) (by omega) (.slice F (r.length + 1 + 1) f))
  have HC4 := Lib.hid (HC3.out.low (k := w.heap.size) (o := 2) (by omega) (.slice F (r.length + 1 + 1) f))
  generalize w3.setCell ⟨w.heap.size, 2, none⟩ (.slice F (r.length + 1 + 1) f) = w4 at HX4 HR4 HB4 HA4 HT4 HC4 ⊢
  clear hf hx HX3 HR3 HB3 HA3 HT3 HC3
  have hx := HX4.out.cell; have hf := HX4.out.mfroz
  go_wp2_with (refine wpList_store_row rfl 31 _ _ rfl (w.heap.size + 1 + 1) _ rfl rfl 31 _ HR4.out info_model rfl (one4m _ _ _ _ _ _ _ _ _ _) ?_)
  have hr := (HR4.out.mrow #[.slice B1 zs.length d1, .int .i64 cnt, .slice F (r.length + 1 + 1) f, .slice B3 os.length d3]).cell
  have hb' := below_setRow HB4.out (Nat.le_trans (Nat.le_succ _) (Nat.le_succ _) : w.heap.size ≤ w.heap.size + 1 + 1) #[.slice B1 zs.length d1, .int .i64 cnt, .slice F (r.length + 1 + 1) f, .slice B3 os.length d3]
  have hsA := SegC.base (b1 := w.heap.size) (SegC.row (n := zs.length) (c := d1) HA4.out (k := w.heap.size + 1 + 1) (by omega) #[.slice B1 zs.length d1, .int .i64 cnt, .slice F (r.length + 1 + 1) f, .slice B3 os.length d3]) (by omega)
  have hsB := SegC.base (b1 := w.heap.size) (SegC.row (n := (r.length + 1 + 1)) (c := f) HT4.out (k := w.heap.size + 1 + 1) (by omega) #[.slice B1 zs.length d1, .int .i64 cnt, .slice F (r.length + 1 + 1) f, .slice B3 os.length d3]) (by omega)
  have hsO := SegC.base (b1 := w.heap.size) (SegC.row (n := os.length) (c := d3) HC4.out (k := w.heap.size + 1 + 1) (by omega) #[.slice B1 zs.length d1, .int .i64 cnt, .slice F (r.length + 1 + 1) f, .slice B3 os.length d3]) (by omega)
  generalize w4.setRow (w.heap.size + 1 + 1) #[.slice B1 zs.length d1, .int .i64 cnt, .slice F (r.length + 1 + 1) f, .slice B3 os.length d3] = w9 at hr hb' hsA hsB hsO ⊢
  clear hx hf
  refine bodyPost_ret (v := .tuple #[.agg #[.slice B1 zs.length d1, .int .i64 cnt, .slice F (r.length + 1 + 1) f, .slice B3 os.length d3], .bool false, .int .i64 0, .int .i64 0, .int .i64 (-1)]) (by simp [results, Try.results51, go_sem, hr]) rfl ⟨B1, d1, F, f, B3, d3, (by simp), hsA, hsB, hsO, hb'⟩

end Go.Proofs.Ythianfhfamkcmaa
