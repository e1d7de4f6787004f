/-
  The walk of the law FnExactModelCall, from what program and model answer.
-/
import Derived.Test.YthianfhfamkcmaaJ22
import Derived.Deep.DeepCutAuto
namespace Go.Proofs.Ythianfhfamkcmaa
open Go.RowKit

/-- What holds in a region of the law, whatever of it is done. -/
structure MR5ModelCall (W : World) (a0 : Act) (A B O XA XB XO : Option Addr) (ca cb co : Nat) (zs : List Int) (bs os : List Wtr) (cnt th op arg : Int) (L : List Int) (n : Int) (bs' os' : List Wtr) (en : Bool) (code res met : Int) (D : Nat → Prop) (a : Act) (w : World) (g1 g2 g3 : Nat) (A1 : Option Addr) (c1 : Nat) (B1 : Option Addr) (d1 : Nat) (O1 : Option Addr) (f1 k6 lo hi : Nat) : Prop where
  ag : Agree a0 a [6, 7, 8, 9, 10, 30, 31, 32, 33, 34, 35, 36, 37, 38, 39, 40]
  be : Below W.heap.size W w
  e0 : D 0 → a.eval (.tmp 31) = .agg #[.slice A zs.length ca, .int .i64 cnt, .slice B bs.length cb, .slice O os.length co]
  e1 : D 1 → a.eval (.tmp 32) = .agg #[.slice (some ⟨g1, 0, none⟩) zs.length zs.length, .int .i64 cnt, .slice (some ⟨g2, 0, none⟩) bs.length bs.length, .slice (some ⟨g3, 0, none⟩) os.length os.length]
  hA1 : D 1 → ¬ D 12 → Rd w (some ⟨g1, 0, none⟩) zs
  hT1 : D 1 → ¬ D 12 → RdR Wtr.cs w (some ⟨g2, 0, none⟩) bs
  hC1 : D 1 → ¬ D 12 → RdR Wtr.cs w (some ⟨g3, 0, none⟩) os
  e2 : D 2 → a.eval (.tmp 33) = .agg #[.int .i64 th, .int .i64 op, .int .i64 arg]
  e3 : D 3 → a.eval (.tmp 34) = .agg #[.int .i64 th, .int .i64 op, .int .i64 arg]
  e4 : D 4 → a.eval (.tmp 35) = .tuple #[.agg #[.slice A1 L.length c1, .int .i64 n, .slice B1 bs'.length d1, .slice O1 os'.length f1], .bool en, .int .i64 code, .int .i64 res, .int .i64 met]
  sA4 : D 4 → SegH lo hi w A1 (ints L)
  sB4 : D 4 → SegH lo hi w B1 (flatV Wtr.cs bs')
  sO4 : D 4 → SegH lo hi w O1 (flatV Wtr.cs os')
  r4 : D 4 → W.heap.size ≤ lo ∧ hi ≤ w.heap.size
  k4 : D 4 → D 11 → k6 < lo ∨ hi ≤ k6
  e5 : D 5 → a.eval (.tmp 30) = .tuple #[.agg #[.slice A1 L.length c1, .int .i64 n, .slice B1 bs'.length d1, .slice O1 os'.length f1], .bool en, .int .i64 code, .int .i64 res, .int .i64 met]
  e6 : D 6 → a.eval (.tmp 36) = .agg #[.slice A1 L.length c1, .int .i64 n, .slice B1 bs'.length d1, .slice O1 os'.length f1]
  e7 : D 7 → a.eval (.tmp 37) = .bool en
  e8 : D 8 → a.eval (.tmp 38) = .int .i64 code
  e9 : D 9 → a.eval (.tmp 39) = .int .i64 res
  e10 : D 10 → a.eval (.tmp 40) = .int .i64 met
  e11 : D 11 → a.eval (.tmp 6) = .pointer (some ⟨k6, 0, none⟩)
  h11 : D 11 → W.heap.size ≤ k6
  z11 : D 11 → ¬ D 12 → BoxC 31 w k6 #[.slice none 0 0, .int .i64 0, .slice none 0 0, .slice none 0 0]
  z12 : D 12 → BoxC 31 w k6 #[.slice A1 L.length c1, .int .i64 n, .slice B1 bs'.length d1, .slice O1 os'.length f1]
  e13 : D 13 → a.eval (.tmp 7) = .bool en
  e14 : D 14 → a.eval (.tmp 8) = .int .i64 code
  e15 : D 15 → a.eval (.tmp 9) = .int .i64 res
  e16 : D 16 → a.eval (.tmp 10) = .int .i64 met
/-- What holds in a region of the law, whatever of it is done. -/
structure MR7ModelCall (W : World) (a0 : Act) (A B O XA XB XO : Option Addr) (ca cb co : Nat) (zs : List Int) (bs os : List Wtr) (cnt th op arg : Int) (L : List Int) (n : Int) (bs' os' : List Wtr) (en : Bool) (code res met : Int) (D : Nat → Prop) (a : Act) (w : World) (g1 g2 g3 : Nat) (A1 : Option Addr) (c1 : Nat) (B1 : Option Addr) (d1 : Nat) (O1 : Option Addr) (f1 k6 lo hi : Nat) : Prop where
  ag : Agree a0 a [12, 13, 14, 15, 16, 43, 44, 45, 46, 47, 48, 49, 50, 51, 52]
  be : Below W.heap.size W w
  e0 : D 0 → a.eval (.tmp 44) = .agg #[.slice XA zs.length zs.length, .int .i64 cnt, .slice XB bs.length bs.length, .slice XO os.length os.length]
  e1 : D 1 → a.eval (.tmp 45) = .agg #[.int .i64 th, .int .i64 op, .int .i64 arg]
  e2 : D 2 → a.eval (.tmp 46) = .agg #[.int .i64 th, .int .i64 op, .int .i64 arg]
  e3 : D 3 → a.eval (.tmp 47) = .tuple #[.agg #[.slice A1 L.length c1, .int .i64 n, .slice B1 bs'.length d1, .slice O1 os'.length f1], .bool en, .int .i64 code, .int .i64 res, .int .i64 met]
  sA3 : D 3 → SegH lo hi w A1 (ints L)
  sB3 : D 3 → SegH lo hi w B1 (flatV Wtr.cs bs')
  sO3 : D 3 → SegH lo hi w O1 (flatV Wtr.cs os')
  r3 : D 3 → W.heap.size ≤ lo ∧ hi ≤ w.heap.size
  p3 : D 3 → P3 lo hi (.slice A1 L.length c1) (.slice B1 bs'.length d1) (.slice O1 os'.length f1)
  k3 : D 3 → D 10 → k6 < lo ∨ hi ≤ k6
  e4 : D 4 → a.eval (.tmp 43) = .tuple #[.agg #[.slice A1 L.length c1, .int .i64 n, .slice B1 bs'.length d1, .slice O1 os'.length f1], .bool en, .int .i64 code, .int .i64 res, .int .i64 met]
  e5 : D 5 → a.eval (.tmp 48) = .agg #[.slice A1 L.length c1, .int .i64 n, .slice B1 bs'.length d1, .slice O1 os'.length f1]
  e6 : D 6 → a.eval (.tmp 49) = .bool en
  e7 : D 7 → a.eval (.tmp 50) = .int .i64 code
  e8 : D 8 → a.eval (.tmp 51) = .int .i64 res
  e9 : D 9 → a.eval (.tmp 52) = .int .i64 met
  e10 : D 10 → a.eval (.tmp 12) = .pointer (some ⟨k6, 0, none⟩)
  h10 : D 10 → W.heap.size ≤ k6
  z10 : D 10 → ¬ D 11 → BoxC 31 w k6 #[.slice none 0 0, .int .i64 0, .slice none 0 0, .slice none 0 0]
  z11 : D 11 → BoxC 31 w k6 #[.slice A1 L.length c1, .int .i64 n, .slice B1 bs'.length d1, .slice O1 os'.length f1]
  e12 : D 12 → a.eval (.tmp 13) = .bool en
  e13 : D 13 → a.eval (.tmp 14) = .int .i64 code
  e14 : D 14 → a.eval (.tmp 15) = .int .i64 res
  e15 : D 15 → a.eval (.tmp 16) = .int .i64 met
/-- What holds in a region of the law, whatever of it is done. -/
structure MR24ModelCall (W : World) (a0 : Act) (A B O XA XB XO : Option Addr) (ca cb co : Nat) (zs : List Int) (bs os : List Wtr) (cnt th op arg : Int) (L : List Int) (n : Int) (bs' os' : List Wtr) (en : Bool) (code res met : Int) (D : Nat → Prop) (a : Act) (w : World) (g1 g2 g3 : Nat) (A1 : Option Addr) (c1 : Nat) (B1 : Option Addr) (d1 : Nat) (O1 : Option Addr) (f1 k6 lo hi : Nat) : Prop where
  ag : Agree a0 a [20, 21, 22, 23, 24, 124, 125, 126, 127, 128, 129, 130, 131, 132, 133, 134]
  be : Below W.heap.size W w
  e0 : D 0 → a.eval (.tmp 125) = .agg #[.slice A zs.length ca, .int .i64 cnt, .slice B bs.length cb, .slice O os.length co]
  e1 : D 1 → a.eval (.tmp 126) = .agg #[.slice (some ⟨g1, 0, none⟩) zs.length zs.length, .int .i64 cnt, .slice (some ⟨g2, 0, none⟩) bs.length bs.length, .slice (some ⟨g3, 0, none⟩) os.length os.length]
  hA1 : D 1 → ¬ D 12 → Rd w (some ⟨g1, 0, none⟩) zs
  hT1 : D 1 → ¬ D 12 → RdR Wtr.cs w (some ⟨g2, 0, none⟩) bs
  hC1 : D 1 → ¬ D 12 → RdR Wtr.cs w (some ⟨g3, 0, none⟩) os
  e2 : D 2 → a.eval (.tmp 127) = .agg #[.int .i64 th, .int .i64 op, .int .i64 arg]
  e3 : D 3 → a.eval (.tmp 128) = .agg #[.int .i64 th, .int .i64 op, .int .i64 arg]
  e4 : D 4 → a.eval (.tmp 129) = .tuple #[.agg #[.slice A1 L.length c1, .int .i64 n, .slice B1 bs'.length d1, .slice O1 os'.length f1], .bool en, .int .i64 code, .int .i64 res, .int .i64 met]
  sA4 : D 4 → SegH lo hi w A1 (ints L)
  sB4 : D 4 → SegH lo hi w B1 (flatV Wtr.cs bs')
  sO4 : D 4 → SegH lo hi w O1 (flatV Wtr.cs os')
  r4 : D 4 → W.heap.size ≤ lo ∧ hi ≤ w.heap.size
  p4 : D 4 → P3 lo hi (.slice A1 L.length c1) (.slice B1 bs'.length d1) (.slice O1 os'.length f1)
  k4 : D 4 → D 11 → k6 < lo ∨ hi ≤ k6
  e5 : D 5 → a.eval (.tmp 124) = .tuple #[.agg #[.slice A1 L.length c1, .int .i64 n, .slice B1 bs'.length d1, .slice O1 os'.length f1], .bool en, .int .i64 code, .int .i64 res, .int .i64 met]
  e6 : D 6 → a.eval (.tmp 130) = .agg #[.slice A1 L.length c1, .int .i64 n, .slice B1 bs'.length d1, .slice O1 os'.length f1]
  e7 : D 7 → a.eval (.tmp 131) = .bool en
  e8 : D 8 → a.eval (.tmp 132) = .int .i64 code
  e9 : D 9 → a.eval (.tmp 133) = .int .i64 res
  e10 : D 10 → a.eval (.tmp 134) = .int .i64 met
  e11 : D 11 → a.eval (.tmp 20) = .pointer (some ⟨k6, 0, none⟩)
  h11 : D 11 → W.heap.size ≤ k6
  z11 : D 11 → ¬ D 12 → BoxC 31 w k6 #[.slice none 0 0, .int .i64 0, .slice none 0 0, .slice none 0 0]
  z12 : D 12 → BoxC 31 w k6 #[.slice A1 L.length c1, .int .i64 n, .slice B1 bs'.length d1, .slice O1 os'.length f1]
  e13 : D 13 → a.eval (.tmp 21) = .bool en
  e14 : D 14 → a.eval (.tmp 22) = .int .i64 code
  e15 : D 15 → a.eval (.tmp 23) = .int .i64 res
  e16 : D 16 → a.eval (.tmp 24) = .int .i64 met
set_option maxHeartbeats 40000000 in
set_option maxRecDepth 100000 in
theorem lawModelCall_of (A B O : Option Addr) (ca cb co : Nat) (zs : List Int) (bs os : List Wtr) (cnt th op arg : Int) (L : List Int) (n : Int) (bs' os' : List Wtr) (en : Bool) (code res met : Int) (w : World) (hz : zs.length ≤ maxLen) (hA : Rd w A zs) (ht : bs.length ≤ maxLen) (hT : RdR Wtr.cs w B bs) (hc : os.length ≤ maxLen) (hC : RdR Wtr.cs w O os) (hbig : ¬ leftO 1048576 zs.length bs.length os.length < 0)
    (rL : L.length ≤ 1048576) (rB : bs'.length ≤ 1048576) (rO : os'.length ≤ 1048576) (hS : ∀ (w : World) (A B O : Addr) (ca cb co : Nat), Rd w (some A) zs → RdR Wtr.cs w (some B) bs → RdR Wtr.cs w (some O) os → Calls Try.prog 12 #[.agg #[.slice (some A) zs.length ca, .int .i64 cnt, .slice (some B) bs.length cb, .slice (some O) os.length co], .agg #[.int .i64 th, .int .i64 op, .int .i64 arg]] w (AnsP false w (fun v => .tuple #[v, .bool en, .int .i64 code, .int .i64 res, .int .i64 met]) L n bs' os')) (hI : ∀ (w : World) (A B O : Addr) (ca cb co : Nat), Rd w (some A) zs → RdR Wtr.cs w (some B) bs → RdR Wtr.cs w (some O) os → Calls Try.prog 15 #[.agg #[.slice (some A) zs.length ca, .int .i64 cnt, .slice (some B) bs.length cb, .slice (some O) os.length co], .agg #[.int .i64 th, .int .i64 op, .int .i64 arg]] w (AnsP true w (fun v => .tuple #[v, .bool en, .int .i64 code, .int .i64 res, .int .i64 met]) L n bs' os')) :
    Calls Try.prog 3 #[.agg #[.slice A zs.length ca, .int .i64 cnt, .slice B bs.length cb, .slice O os.length co], .agg #[.int .i64 th, .int .i64 op, .int .i64 arg]] w fun e w' => e = .returned (.bool true) ∧ Below w.heap.size w w' := by
  have HA := Lib.hid hA; have HT := Lib.hid hT; have HC := Lib.hid hC; have HS := Lib.hid hS; have HI := Lib.hid hI; clear hA hT hC hS hI
  obtain ⟨sz, st, sc⟩ := leftO_small (by decide) hbig
  have hbd : decide (leftO 1048576 zs.length bs.length os.length < 0) = false := decide_eq_false hbig
  have HM0 := Lib.hid ((BoxC.new 25 w #[.slice A zs.length ca, .int .i64 cnt, .slice B bs.length cb, .slice O os.length co]).below (below_alloc _ (.cells #[.int .i64 th, .int .i64 op, .int .i64 arg] 27)))
  have HW0 := Lib.hid (BoxC.new 27 (w.alloc (.cells #[.slice A zs.length ca, .int .i64 cnt, .slice B bs.length cb, .slice O os.length co] 25)) #[.int .i64 th, .int .i64 op, .int .i64 arg])
  rw [size_alloc] at HW0
  go_enter Try.func3, Try.ntmps3
  go_wp2_with fail
  refine (szModel_any _ _ _ _ _ _ _ _ _ _ _ _ hz ht hc (by decide) (by decide)).mono ?_
  rintro e w1 ⟨rfl, hb⟩
  have K_M0 := Lib.hid (HM0.out.below hb)
  have K_W0 := Lib.hid (HW0.out.below hb)
  have B0 := Lib.hid (below_trans (below_alloc2 _ _ _) hb)
  have hz1 : w.heap.size + 2 ≤ w1.heap.size := by have := hb.size; simp only [size_alloc] at this; omega
  clear hb HM0 HW0
  go_upto_region 5 with fail
  refine region_cut (fun a0 D a w' => ∃ g1 g2 g3 A1 c1 B1 d1 O1 f1 k6 lo hi, MR5ModelCall w1 a0 A B O none none none ca cb co zs bs os cnt th op arg L n bs' os' en code res met D a w' g1 g2 g3 A1 c1 B1 d1 O1 f1 k6 lo hi) (fun a0 a w' => ∃ A1 c1 B1 d1 O1 f1 k6 lo hi, Agree a0 a [6, 7, 8, 9, 10, 30, 31, 32, 33, 34, 35, 36, 37, 38, 39, 40] ∧ a.eval (.tmp 6) = .pointer (some ⟨k6, 0, none⟩) ∧ a.eval (.tmp 7) = .bool en ∧ a.eval (.tmp 8) = .int .i64 code ∧ a.eval (.tmp 9) = .int .i64 res ∧ a.eval (.tmp 10) = .int .i64 met ∧ BoxC 31 w' k6 #[.slice A1 L.length c1, .int .i64 n, .slice B1 bs'.length d1, .slice O1 os'.length f1] ∧ SegH lo hi w' A1 (ints L) ∧ SegH lo hi w' B1 (flatV Wtr.cs bs') ∧ SegH lo hi w' O1 (flatV Wtr.cs os') ∧ True ∧ (w1.heap.size ≤ lo ∧ hi ≤ w'.heap.size) ∧ (k6 < lo ∨ hi ≤ k6) ∧ w1.heap.size ≤ k6 ∧ Below w1.heap.size w1 w') (by kernel_rfl) (by kernel_rfl) ?_ ?_ ?_ ?_
  · exact ⟨0, 0, 0, none, 0, none, 0, none, 0, 0, 0, 0, ⟨Agree.refl _ _, below_drewM _, fun x => x.elim, fun x => x.elim, fun x => x.elim, fun x => x.elim, fun x => x.elim, fun x => x.elim, fun x => x.elim, fun x => x.elim, fun x => x.elim, fun x => x.elim, fun x => x.elim, fun x => x.elim, fun x => x.elim, fun x => x.elim, fun x => x.elim, fun x => x.elim, fun x => x.elim, fun x => x.elim, fun x => x.elim, fun x => x.elim, fun x => x.elim, fun x => x.elim, fun x => x.elim, fun x => x.elim, fun x => x.elim, fun x => x.elim, fun x => x.elim⟩⟩
  · intro K'
    refine Steps.cons (i := 0) (j := 1) rfl ?_ (Steps.cons (i := 1) (j := 2) rfl ?_ (Steps.cons (i := 2) (j := 3) rfl ?_ (Steps.cons (i := 3) (j := 4) rfl ?_ (Steps.cons (i := 4) (j := 5) rfl ?_ (Steps.cons (i := 5) (j := 6) rfl ?_ (Steps.cons (i := 6) (j := 7) rfl ?_ (Steps.cons (i := 7) (j := 8) rfl ?_ (Steps.cons (i := 8) (j := 9) rfl ?_ (Steps.cons (i := 9) (j := 10) rfl ?_ (Steps.cons (i := 10) (j := 11) rfl ?_ (Steps.cons (i := 11) (j := 12) rfl ?_ (Steps.cons (i := 12) (j := 13) rfl ?_ (Steps.cons (i := 13) (j := 14) rfl ?_ (Steps.cons (i := 14) (j := 15) rfl ?_ (Steps.cons (i := 15) (j := 16) rfl ?_ (Steps.cons (i := 16) (j := 17) rfl ?_ (Steps.nil)))))))))))))))))
    · intro D a w' hI hD hdep hcl
      obtain ⟨g1, g2, g3, A1, c1, B1, d1, O1, f1, k6, lo, hi, h⟩ := hI
      refine wp_load_row 25 _ rfl w.heap.size ((h.ag.eval (show 2 ∉ [6, 7, 8, 9, 10, 30, 31, 32, 33, 34, 35, 36, 37, 38, 39, 40] by decide)).trans rfl) 25 _ (0, 0) _ ((h.be.block _ K_M0.out.lt).trans K_M0.out) Try.underlying25 rfl info_lm ?_
      exact ⟨g1, g2, g3, A1, c1, B1, d1, O1, f1, k6, lo, hi, ⟨h.ag.put (by decide) _, h.be, fun _ => eval_put_same a _ (h.ag.lt rfl), fun x => absurd (dep_of 0 rfl (hcl 1 _ rfl (x.resolve_left (by decide)))) hD, fun x => absurd (dep_of 0 rfl (hcl 1 _ rfl (x.resolve_left (by decide)))) hD, fun x => absurd (dep_of 0 rfl (hcl 1 _ rfl (x.resolve_left (by decide)))) hD, fun x => absurd (dep_of 0 rfl (hcl 1 _ rfl (x.resolve_left (by decide)))) hD, slot_keep h.e2 (by decide) (by decide), fun x => absurd (dep_of 0 rfl (hcl 1 _ rfl (dep_of 1 rfl (hcl 3 _ rfl (x.resolve_left (by decide)))))) hD, fun x => absurd (dep_of 0 rfl (hcl 1 _ rfl (dep_of 1 rfl (hcl 4 _ rfl (x.resolve_left (by decide)))))) hD, fun x => absurd (dep_of 0 rfl (hcl 1 _ rfl (dep_of 1 rfl (hcl 4 _ rfl (x.resolve_left (by decide)))))) hD, fun x => absurd (dep_of 0 rfl (hcl 1 _ rfl (dep_of 1 rfl (hcl 4 _ rfl (x.resolve_left (by decide)))))) hD, fun x => absurd (dep_of 0 rfl (hcl 1 _ rfl (dep_of 1 rfl (hcl 4 _ rfl (x.resolve_left (by decide)))))) hD, fun x => absurd (dep_of 0 rfl (hcl 1 _ rfl (dep_of 1 rfl (hcl 4 _ rfl (x.resolve_left (by decide)))))) hD, fun x => absurd (dep_of 0 rfl (hcl 1 _ rfl (dep_of 1 rfl (hcl 4 _ rfl (x.resolve_left (by decide)))))) hD, fun x => absurd (dep_of 0 rfl (hcl 1 _ rfl (dep_of 1 rfl (hcl 4 _ rfl (dep_of 4 rfl (hcl 5 _ rfl (x.resolve_left (by decide)))))))) hD, fun x => absurd (dep_of 0 rfl (hcl 1 _ rfl (dep_of 1 rfl (hcl 4 _ rfl (dep_of 4 rfl (hcl 5 _ rfl (dep_of 5 rfl (hcl 6 _ rfl (x.resolve_left (by decide)))))))))) hD, fun x => absurd (dep_of 0 rfl (hcl 1 _ rfl (dep_of 1 rfl (hcl 4 _ rfl (dep_of 4 rfl (hcl 5 _ rfl (dep_of 5 rfl (hcl 7 _ rfl (x.resolve_left (by decide)))))))))) hD, fun x => absurd (dep_of 0 rfl (hcl 1 _ rfl (dep_of 1 rfl (hcl 4 _ rfl (dep_of 4 rfl (hcl 5 _ rfl (dep_of 5 rfl (hcl 8 _ rfl (x.resolve_left (by decide)))))))))) hD, fun x => absurd (dep_of 0 rfl (hcl 1 _ rfl (dep_of 1 rfl (hcl 4 _ rfl (dep_of 4 rfl (hcl 5 _ rfl (dep_of 5 rfl (hcl 9 _ rfl (x.resolve_left (by decide)))))))))) hD, fun x => absurd (dep_of 0 rfl (hcl 1 _ rfl (dep_of 1 rfl (hcl 4 _ rfl (dep_of 4 rfl (hcl 5 _ rfl (dep_of 5 rfl (hcl 10 _ rfl (x.resolve_left (by decide)))))))))) hD, slot_keep h.e11 (by decide) (by decide), fun x => h.h11 (x.resolve_left (by decide)), fun x n0 => (h.z11 (x.resolve_left (by decide)) (fun y => n0 (Or.inr y))), fun x => absurd (dep_of 0 rfl (hcl 12 _ rfl (x.resolve_left (by decide)))) hD, fun x => absurd (dep_of 0 rfl (hcl 13 _ rfl (x.resolve_left (by decide)))) hD, fun x => absurd (dep_of 0 rfl (hcl 14 _ rfl (x.resolve_left (by decide)))) hD, fun x => absurd (dep_of 0 rfl (hcl 15 _ rfl (x.resolve_left (by decide)))) hD, fun x => absurd (dep_of 0 rfl (hcl 16 _ rfl (x.resolve_left (by decide)))) hD⟩⟩
    · intro D a w' hI hD hdep hcl
      obtain ⟨g1, g2, g3, A1, c1, B1, d1, O1, f1, k6, lo, hi, h⟩ := hI
      have he0 := eval_get (h.e0 (dep_of 0 rfl hdep))
      refine wp_call_fn (f := 13) (vs := #[.agg #[.slice A zs.length ca, .int .i64 cnt, .slice B bs.length cb, .slice O os.length co]]) (by clear h hdep hcl hD; go_simp) ?_
      refine (toModel_any _ _ _ _ _ _ zs bs os cnt _ sz st sc (HA.out.below (below_trans B0.out h.be)) (HT.out.below (below_trans B0.out h.be)) (HC.out.below (below_trans B0.out h.be))).mono ?_
      rintro e v1 ⟨g1', g2', g3', rfl, _, _, _, oA, oT, oC, hb⟩
      refine ⟨_, rfl, ?_⟩
      exact ⟨g1', g2', g3', A1, c1, B1, d1, O1, f1, k6, lo, hi, ⟨h.ag.put (by decide) _, below_trans h.be hb, slot_keep h.e0 (by decide) (by decide), fun _ => eval_put_same a _ (h.ag.lt rfl), fun _ _ => oA.rd, fun _ _ => oT.rd, fun _ _ => oC.rd, slot_keep h.e2 (by decide) (by decide), fun x => absurd (dep_of 1 rfl (hcl 3 _ rfl (x.resolve_left (by decide)))) hD, fun x => absurd (dep_of 1 rfl (hcl 4 _ rfl (x.resolve_left (by decide)))) hD, fun x => absurd (dep_of 1 rfl (hcl 4 _ rfl (x.resolve_left (by decide)))) hD, fun x => absurd (dep_of 1 rfl (hcl 4 _ rfl (x.resolve_left (by decide)))) hD, fun x => absurd (dep_of 1 rfl (hcl 4 _ rfl (x.resolve_left (by decide)))) hD, fun x => absurd (dep_of 1 rfl (hcl 4 _ rfl (x.resolve_left (by decide)))) hD, fun x => absurd (dep_of 1 rfl (hcl 4 _ rfl (x.resolve_left (by decide)))) hD, fun x => absurd (dep_of 1 rfl (hcl 4 _ rfl (dep_of 4 rfl (hcl 5 _ rfl (x.resolve_left (by decide)))))) hD, fun x => absurd (dep_of 1 rfl (hcl 4 _ rfl (dep_of 4 rfl (hcl 5 _ rfl (dep_of 5 rfl (hcl 6 _ rfl (x.resolve_left (by decide)))))))) hD, fun x => absurd (dep_of 1 rfl (hcl 4 _ rfl (dep_of 4 rfl (hcl 5 _ rfl (dep_of 5 rfl (hcl 7 _ rfl (x.resolve_left (by decide)))))))) hD, fun x => absurd (dep_of 1 rfl (hcl 4 _ rfl (dep_of 4 rfl (hcl 5 _ rfl (dep_of 5 rfl (hcl 8 _ rfl (x.resolve_left (by decide)))))))) hD, fun x => absurd (dep_of 1 rfl (hcl 4 _ rfl (dep_of 4 rfl (hcl 5 _ rfl (dep_of 5 rfl (hcl 9 _ rfl (x.resolve_left (by decide)))))))) hD, fun x => absurd (dep_of 1 rfl (hcl 4 _ rfl (dep_of 4 rfl (hcl 5 _ rfl (dep_of 5 rfl (hcl 10 _ rfl (x.resolve_left (by decide)))))))) hD, slot_keep h.e11 (by decide) (by decide), fun x => h.h11 (x.resolve_left (by decide)), fun x n0 => (h.z11 (x.resolve_left (by decide)) (fun y => n0 (Or.inr y))).below hb, fun x => absurd (dep_of 1 rfl (hcl 12 _ rfl (x.resolve_left (by decide)))) hD, fun x => absurd (dep_of 1 rfl (hcl 13 _ rfl (x.resolve_left (by decide)))) hD, fun x => absurd (dep_of 1 rfl (hcl 14 _ rfl (x.resolve_left (by decide)))) hD, fun x => absurd (dep_of 1 rfl (hcl 15 _ rfl (x.resolve_left (by decide)))) hD, fun x => absurd (dep_of 1 rfl (hcl 16 _ rfl (x.resolve_left (by decide)))) hD⟩⟩
    · intro D a w' hI hD hdep hcl
      obtain ⟨g1, g2, g3, A1, c1, B1, d1, O1, f1, k6, lo, hi, h⟩ := hI
      refine wp_load_row 27 _ rfl (w.heap.size + 1) ((h.ag.eval (show 3 ∉ [6, 7, 8, 9, 10, 30, 31, 32, 33, 34, 35, 36, 37, 38, 39, 40] by decide)).trans rfl) 27 _ (0, 0) _ ((h.be.block _ K_W0.out.lt).trans K_W0.out) Try.underlying27 rfl info_lw ?_
      exact ⟨g1, g2, g3, A1, c1, B1, d1, O1, f1, k6, lo, hi, ⟨h.ag.put (by decide) _, h.be, slot_keep h.e0 (by decide) (by decide), slot_keep h.e1 (by decide) (by decide), fun x n0 => (h.hA1 (x.resolve_left (by decide)) (fun y => n0 (Or.inr y))), fun x n0 => (h.hT1 (x.resolve_left (by decide)) (fun y => n0 (Or.inr y))), fun x n0 => (h.hC1 (x.resolve_left (by decide)) (fun y => n0 (Or.inr y))), fun _ => eval_put_same a _ (h.ag.lt rfl), fun x => absurd (dep_of 2 rfl (hcl 3 _ rfl (x.resolve_left (by decide)))) hD, fun x => absurd (dep_of 2 rfl (hcl 3 _ rfl (dep_of 3 rfl (hcl 4 _ rfl (x.resolve_left (by decide)))))) hD, fun x => absurd (dep_of 2 rfl (hcl 3 _ rfl (dep_of 3 rfl (hcl 4 _ rfl (x.resolve_left (by decide)))))) hD, fun x => absurd (dep_of 2 rfl (hcl 3 _ rfl (dep_of 3 rfl (hcl 4 _ rfl (x.resolve_left (by decide)))))) hD, fun x => absurd (dep_of 2 rfl (hcl 3 _ rfl (dep_of 3 rfl (hcl 4 _ rfl (x.resolve_left (by decide)))))) hD, fun x => absurd (dep_of 2 rfl (hcl 3 _ rfl (dep_of 3 rfl (hcl 4 _ rfl (x.resolve_left (by decide)))))) hD, fun x => absurd (dep_of 2 rfl (hcl 3 _ rfl (dep_of 3 rfl (hcl 4 _ rfl (x.resolve_left (by decide)))))) hD, fun x => absurd (dep_of 2 rfl (hcl 3 _ rfl (dep_of 3 rfl (hcl 4 _ rfl (dep_of 4 rfl (hcl 5 _ rfl (x.resolve_left (by decide)))))))) hD, fun x => absurd (dep_of 2 rfl (hcl 3 _ rfl (dep_of 3 rfl (hcl 4 _ rfl (dep_of 4 rfl (hcl 5 _ rfl (dep_of 5 rfl (hcl 6 _ rfl (x.resolve_left (by decide)))))))))) hD, fun x => absurd (dep_of 2 rfl (hcl 3 _ rfl (dep_of 3 rfl (hcl 4 _ rfl (dep_of 4 rfl (hcl 5 _ rfl (dep_of 5 rfl (hcl 7 _ rfl (x.resolve_left (by decide)))))))))) hD, fun x => absurd (dep_of 2 rfl (hcl 3 _ rfl (dep_of 3 rfl (hcl 4 _ rfl (dep_of 4 rfl (hcl 5 _ rfl (dep_of 5 rfl (hcl 8 _ rfl (x.resolve_left (by decide)))))))))) hD, fun x => absurd (dep_of 2 rfl (hcl 3 _ rfl (dep_of 3 rfl (hcl 4 _ rfl (dep_of 4 rfl (hcl 5 _ rfl (dep_of 5 rfl (hcl 9 _ rfl (x.resolve_left (by decide)))))))))) hD, fun x => absurd (dep_of 2 rfl (hcl 3 _ rfl (dep_of 3 rfl (hcl 4 _ rfl (dep_of 4 rfl (hcl 5 _ rfl (dep_of 5 rfl (hcl 10 _ rfl (x.resolve_left (by decide)))))))))) hD, slot_keep h.e11 (by decide) (by decide), fun x => h.h11 (x.resolve_left (by decide)), fun x n0 => (h.z11 (x.resolve_left (by decide)) (fun y => n0 (Or.inr y))), fun x => absurd (dep_of 2 rfl (hcl 12 _ rfl (x.resolve_left (by decide)))) hD, fun x => absurd (dep_of 2 rfl (hcl 13 _ rfl (x.resolve_left (by decide)))) hD, fun x => absurd (dep_of 2 rfl (hcl 14 _ rfl (x.resolve_left (by decide)))) hD, fun x => absurd (dep_of 2 rfl (hcl 15 _ rfl (x.resolve_left (by decide)))) hD, fun x => absurd (dep_of 2 rfl (hcl 16 _ rfl (x.resolve_left (by decide)))) hD⟩⟩
    · intro D a w' hI hD hdep hcl
      obtain ⟨g1, g2, g3, A1, c1, B1, d1, O1, f1, k6, lo, hi, h⟩ := hI
      have he0 := eval_get (h.e2 (dep_of 2 rfl hdep))
      refine wp_call_fn (f := 14) (vs := #[.agg #[.int .i64 th, .int .i64 op, .int .i64 arg]]) (by clear h hdep hcl hD; go_simp) ?_
      refine (toWaiter_any th op arg _).mono ?_
      rintro e v1 ⟨rfl, hb⟩
      refine ⟨_, rfl, ?_⟩
      exact ⟨g1, g2, g3, A1, c1, B1, d1, O1, f1, k6, lo, hi, ⟨h.ag.put (by decide) _, below_trans h.be hb, slot_keep h.e0 (by decide) (by decide), slot_keep h.e1 (by decide) (by decide), fun x n0 => (h.hA1 (x.resolve_left (by decide)) (fun y => n0 (Or.inr y))).below hb, fun x n0 => (h.hT1 (x.resolve_left (by decide)) (fun y => n0 (Or.inr y))).below hb, fun x n0 => (h.hC1 (x.resolve_left (by decide)) (fun y => n0 (Or.inr y))).below hb, slot_keep h.e2 (by decide) (by decide), fun _ => eval_put_same a _ (h.ag.lt rfl), fun x => absurd (dep_of 3 rfl (hcl 4 _ rfl (x.resolve_left (by decide)))) hD, fun x => absurd (dep_of 3 rfl (hcl 4 _ rfl (x.resolve_left (by decide)))) hD, fun x => absurd (dep_of 3 rfl (hcl 4 _ rfl (x.resolve_left (by decide)))) hD, fun x => absurd (dep_of 3 rfl (hcl 4 _ rfl (x.resolve_left (by decide)))) hD, fun x => absurd (dep_of 3 rfl (hcl 4 _ rfl (x.resolve_left (by decide)))) hD, fun x => absurd (dep_of 3 rfl (hcl 4 _ rfl (x.resolve_left (by decide)))) hD, fun x => absurd (dep_of 3 rfl (hcl 4 _ rfl (dep_of 4 rfl (hcl 5 _ rfl (x.resolve_left (by decide)))))) hD, fun x => absurd (dep_of 3 rfl (hcl 4 _ rfl (dep_of 4 rfl (hcl 5 _ rfl (dep_of 5 rfl (hcl 6 _ rfl (x.resolve_left (by decide)))))))) hD, fun x => absurd (dep_of 3 rfl (hcl 4 _ rfl (dep_of 4 rfl (hcl 5 _ rfl (dep_of 5 rfl (hcl 7 _ rfl (x.resolve_left (by decide)))))))) hD, fun x => absurd (dep_of 3 rfl (hcl 4 _ rfl (dep_of 4 rfl (hcl 5 _ rfl (dep_of 5 rfl (hcl 8 _ rfl (x.resolve_left (by decide)))))))) hD, fun x => absurd (dep_of 3 rfl (hcl 4 _ rfl (dep_of 4 rfl (hcl 5 _ rfl (dep_of 5 rfl (hcl 9 _ rfl (x.resolve_left (by decide)))))))) hD, fun x => absurd (dep_of 3 rfl (hcl 4 _ rfl (dep_of 4 rfl (hcl 5 _ rfl (dep_of 5 rfl (hcl 10 _ rfl (x.resolve_left (by decide)))))))) hD, slot_keep h.e11 (by decide) (by decide), fun x => h.h11 (x.resolve_left (by decide)), fun x n0 => (h.z11 (x.resolve_left (by decide)) (fun y => n0 (Or.inr y))).below hb, fun x => absurd (dep_of 3 rfl (hcl 12 _ rfl (x.resolve_left (by decide)))) hD, fun x => absurd (dep_of 3 rfl (hcl 13 _ rfl (x.resolve_left (by decide)))) hD, fun x => absurd (dep_of 3 rfl (hcl 14 _ rfl (x.resolve_left (by decide)))) hD, fun x => absurd (dep_of 3 rfl (hcl 15 _ rfl (x.resolve_left (by decide)))) hD, fun x => absurd (dep_of 3 rfl (hcl 16 _ rfl (x.resolve_left (by decide)))) hD⟩⟩
    · intro D a w' hI hD hdep hcl
      obtain ⟨g1, g2, g3, A1, c1, B1, d1, O1, f1, k6, lo, hi, h⟩ := hI
      have he0 := eval_get (h.e1 (dep_of 1 rfl hdep))
      have he1 := eval_get (h.e3 (dep_of 3 rfl hdep))
      refine wp_call_fn (f := 12) (vs := #[.agg #[.slice (some ⟨g1, 0, none⟩) zs.length zs.length, .int .i64 cnt, .slice (some ⟨g2, 0, none⟩) bs.length bs.length, .slice (some ⟨g3, 0, none⟩) os.length os.length], .agg #[.int .i64 th, .int .i64 op, .int .i64 arg]]) (by clear h hdep hcl hD; go_simp) ?_
      refine (HS.out _ ⟨g1, 0, none⟩ ⟨g2, 0, none⟩ ⟨g3, 0, none⟩ zs.length bs.length os.length (h.hA1 (dep_of 1 rfl hdep) (fun z => hD ((dep_of 4 rfl (hcl 12 _ rfl z))))) (h.hT1 (dep_of 1 rfl hdep) (fun z => hD ((dep_of 4 rfl (hcl 12 _ rfl z))))) (h.hC1 (dep_of 1 rfl hdep) (fun z => hD ((dep_of 4 rfl (hcl 12 _ rfl z)))))).mono ?_
      rintro e v1 ⟨A1', c1', B1', d1', O1', f1', rfl, qA, qB, qO, qP, hb⟩
      refine ⟨_, rfl, ?_⟩
      exact ⟨g1, g2, g3, A1', c1', B1', d1', O1', f1', k6, w'.heap.size, v1.heap.size, ⟨h.ag.put (by decide) _, below_trans h.be hb, slot_keep h.e0 (by decide) (by decide), slot_keep h.e1 (by decide) (by decide), fun x n0 => (h.hA1 (x.resolve_left (by decide)) (fun y => n0 (Or.inr y))).below hb, fun x n0 => (h.hT1 (x.resolve_left (by decide)) (fun y => n0 (Or.inr y))).below hb, fun x n0 => (h.hC1 (x.resolve_left (by decide)) (fun y => n0 (Or.inr y))).below hb, slot_keep h.e2 (by decide) (by decide), slot_keep h.e3 (by decide) (by decide), fun _ => eval_put_same a _ (h.ag.lt rfl), fun _ => qA, fun _ => qB, fun _ => qO, fun _ => ⟨h.be.size, Nat.le_refl _⟩, fun _ y => .inl (h.z11 (y.resolve_left (by decide)) (fun z => hD ((dep_of 4 rfl (hcl 12 _ rfl z))))).lt, fun x => absurd (dep_of 4 rfl (hcl 5 _ rfl (x.resolve_left (by decide)))) hD, fun x => absurd (dep_of 4 rfl (hcl 5 _ rfl (dep_of 5 rfl (hcl 6 _ rfl (x.resolve_left (by decide)))))) hD, fun x => absurd (dep_of 4 rfl (hcl 5 _ rfl (dep_of 5 rfl (hcl 7 _ rfl (x.resolve_left (by decide)))))) hD, fun x => absurd (dep_of 4 rfl (hcl 5 _ rfl (dep_of 5 rfl (hcl 8 _ rfl (x.resolve_left (by decide)))))) hD, fun x => absurd (dep_of 4 rfl (hcl 5 _ rfl (dep_of 5 rfl (hcl 9 _ rfl (x.resolve_left (by decide)))))) hD, fun x => absurd (dep_of 4 rfl (hcl 5 _ rfl (dep_of 5 rfl (hcl 10 _ rfl (x.resolve_left (by decide)))))) hD, slot_keep h.e11 (by decide) (by decide), fun x => h.h11 (x.resolve_left (by decide)), fun x n0 => (h.z11 (x.resolve_left (by decide)) (fun y => n0 (Or.inr y))).below hb, fun x => absurd (dep_of 4 rfl (hcl 12 _ rfl (x.resolve_left (by decide)))) hD, fun x => absurd (dep_of 4 rfl (hcl 13 _ rfl (x.resolve_left (by decide)))) hD, fun x => absurd (dep_of 4 rfl (hcl 14 _ rfl (x.resolve_left (by decide)))) hD, fun x => absurd (dep_of 4 rfl (hcl 15 _ rfl (x.resolve_left (by decide)))) hD, fun x => absurd (dep_of 4 rfl (hcl 16 _ rfl (x.resolve_left (by decide)))) hD⟩⟩
    · intro D a w' hI hD hdep hcl
      obtain ⟨g1, g2, g3, A1, c1, B1, d1, O1, f1, k6, lo, hi, h⟩ := hI
      have he := eval_get (h.e4 (dep_of 4 rfl hdep))
      refine wp_yield (v := .tuple #[.agg #[.slice A1 L.length c1, .int .i64 n, .slice B1 bs'.length d1, .slice O1 os'.length f1], .bool en, .int .i64 code, .int .i64 res, .int .i64 met]) (w' := w') (by clear h hdep hcl hD; go_simp) ?_
      exact ⟨g1, g2, g3, A1, c1, B1, d1, O1, f1, k6, lo, hi, ⟨h.ag.put (by decide) _, h.be, slot_keep h.e0 (by decide) (by decide), slot_keep h.e1 (by decide) (by decide), fun x n0 => (h.hA1 (x.resolve_left (by decide)) (fun y => n0 (Or.inr y))), fun x n0 => (h.hT1 (x.resolve_left (by decide)) (fun y => n0 (Or.inr y))), fun x n0 => (h.hC1 (x.resolve_left (by decide)) (fun y => n0 (Or.inr y))), slot_keep h.e2 (by decide) (by decide), slot_keep h.e3 (by decide) (by decide), slot_keep h.e4 (by decide) (by decide), fun x => (h.sA4 (x.resolve_left (by decide))), fun x => (h.sB4 (x.resolve_left (by decide))), fun x => (h.sO4 (x.resolve_left (by decide))), fun x => h.r4 (x.resolve_left (by decide)), fun x y => h.k4 (x.resolve_left (by decide)) (y.resolve_left (by decide)), fun _ => eval_put_same a _ (h.ag.lt rfl), fun x => absurd (dep_of 5 rfl (hcl 6 _ rfl (x.resolve_left (by decide)))) hD, fun x => absurd (dep_of 5 rfl (hcl 7 _ rfl (x.resolve_left (by decide)))) hD, fun x => absurd (dep_of 5 rfl (hcl 8 _ rfl (x.resolve_left (by decide)))) hD, fun x => absurd (dep_of 5 rfl (hcl 9 _ rfl (x.resolve_left (by decide)))) hD, fun x => absurd (dep_of 5 rfl (hcl 10 _ rfl (x.resolve_left (by decide)))) hD, slot_keep h.e11 (by decide) (by decide), fun x => h.h11 (x.resolve_left (by decide)), fun x n0 => (h.z11 (x.resolve_left (by decide)) (fun y => n0 (Or.inr y))), fun x => absurd (dep_of 5 rfl (hcl 12 _ rfl (x.resolve_left (by decide)))) hD, fun x => absurd (dep_of 5 rfl (hcl 13 _ rfl (x.resolve_left (by decide)))) hD, fun x => absurd (dep_of 5 rfl (hcl 14 _ rfl (x.resolve_left (by decide)))) hD, fun x => absurd (dep_of 5 rfl (hcl 15 _ rfl (x.resolve_left (by decide)))) hD, fun x => absurd (dep_of 5 rfl (hcl 16 _ rfl (x.resolve_left (by decide)))) hD⟩⟩
    · intro D a w' hI hD hdep hcl
      obtain ⟨g1, g2, g3, A1, c1, B1, d1, O1, f1, k6, lo, hi, h⟩ := hI
      have he := eval_get (h.e5 (dep_of 5 rfl hdep))
      refine wp_yield (v := .agg #[.slice A1 L.length c1, .int .i64 n, .slice B1 bs'.length d1, .slice O1 os'.length f1]) (w' := w') (by clear h hdep hcl hD; go_simp) ?_
      exact ⟨g1, g2, g3, A1, c1, B1, d1, O1, f1, k6, lo, hi, ⟨h.ag.put (by decide) _, h.be, slot_keep h.e0 (by decide) (by decide), slot_keep h.e1 (by decide) (by decide), fun x n0 => (h.hA1 (x.resolve_left (by decide)) (fun y => n0 (Or.inr y))), fun x n0 => (h.hT1 (x.resolve_left (by decide)) (fun y => n0 (Or.inr y))), fun x n0 => (h.hC1 (x.resolve_left (by decide)) (fun y => n0 (Or.inr y))), slot_keep h.e2 (by decide) (by decide), slot_keep h.e3 (by decide) (by decide), slot_keep h.e4 (by decide) (by decide), fun x => (h.sA4 (x.resolve_left (by decide))), fun x => (h.sB4 (x.resolve_left (by decide))), fun x => (h.sO4 (x.resolve_left (by decide))), fun x => h.r4 (x.resolve_left (by decide)), fun x y => h.k4 (x.resolve_left (by decide)) (y.resolve_left (by decide)), slot_keep h.e5 (by decide) (by decide), fun _ => eval_put_same a _ (h.ag.lt rfl), slot_keep h.e7 (by decide) (by decide), slot_keep h.e8 (by decide) (by decide), slot_keep h.e9 (by decide) (by decide), slot_keep h.e10 (by decide) (by decide), slot_keep h.e11 (by decide) (by decide), fun x => h.h11 (x.resolve_left (by decide)), fun x n0 => (h.z11 (x.resolve_left (by decide)) (fun y => n0 (Or.inr y))), fun x => absurd (dep_of 6 rfl (hcl 12 _ rfl (x.resolve_left (by decide)))) hD, fun x => absurd (dep_of 6 rfl (hcl 13 _ rfl (x.resolve_left (by decide)))) hD, fun x => absurd (dep_of 6 rfl (hcl 14 _ rfl (x.resolve_left (by decide)))) hD, fun x => absurd (dep_of 6 rfl (hcl 15 _ rfl (x.resolve_left (by decide)))) hD, fun x => absurd (dep_of 6 rfl (hcl 16 _ rfl (x.resolve_left (by decide)))) hD⟩⟩
    · intro D a w' hI hD hdep hcl
      obtain ⟨g1, g2, g3, A1, c1, B1, d1, O1, f1, k6, lo, hi, h⟩ := hI
      have he := eval_get (h.e5 (dep_of 5 rfl hdep))
      refine wp_yield (v := .bool en) (w' := w') (by clear h hdep hcl hD; go_simp) ?_
      exact ⟨g1, g2, g3, A1, c1, B1, d1, O1, f1, k6, lo, hi, ⟨h.ag.put (by decide) _, h.be, slot_keep h.e0 (by decide) (by decide), slot_keep h.e1 (by decide) (by decide), fun x n0 => (h.hA1 (x.resolve_left (by decide)) (fun y => n0 (Or.inr y))), fun x n0 => (h.hT1 (x.resolve_left (by decide)) (fun y => n0 (Or.inr y))), fun x n0 => (h.hC1 (x.resolve_left (by decide)) (fun y => n0 (Or.inr y))), slot_keep h.e2 (by decide) (by decide), slot_keep h.e3 (by decide) (by decide), slot_keep h.e4 (by decide) (by decide), fun x => (h.sA4 (x.resolve_left (by decide))), fun x => (h.sB4 (x.resolve_left (by decide))), fun x => (h.sO4 (x.resolve_left (by decide))), fun x => h.r4 (x.resolve_left (by decide)), fun x y => h.k4 (x.resolve_left (by decide)) (y.resolve_left (by decide)), slot_keep h.e5 (by decide) (by decide), slot_keep h.e6 (by decide) (by decide), fun _ => eval_put_same a _ (h.ag.lt rfl), slot_keep h.e8 (by decide) (by decide), slot_keep h.e9 (by decide) (by decide), slot_keep h.e10 (by decide) (by decide), slot_keep h.e11 (by decide) (by decide), fun x => h.h11 (x.resolve_left (by decide)), fun x n0 => (h.z11 (x.resolve_left (by decide)) (fun y => n0 (Or.inr y))), fun x => (h.z12 (x.resolve_left (by decide))), fun x => absurd (dep_of 7 rfl (hcl 13 _ rfl (x.resolve_left (by decide)))) hD, fun x => absurd (dep_of 7 rfl (hcl 14 _ rfl (x.resolve_left (by decide)))) hD, fun x => absurd (dep_of 7 rfl (hcl 15 _ rfl (x.resolve_left (by decide)))) hD, fun x => absurd (dep_of 7 rfl (hcl 16 _ rfl (x.resolve_left (by decide)))) hD⟩⟩
    · intro D a w' hI hD hdep hcl
      obtain ⟨g1, g2, g3, A1, c1, B1, d1, O1, f1, k6, lo, hi, h⟩ := hI
      have he := eval_get (h.e5 (dep_of 5 rfl hdep))
      refine wp_yield (v := .int .i64 code) (w' := w') (by clear h hdep hcl hD; go_simp) ?_
      exact ⟨g1, g2, g3, A1, c1, B1, d1, O1, f1, k6, lo, hi, ⟨h.ag.put (by decide) _, h.be, slot_keep h.e0 (by decide) (by decide), slot_keep h.e1 (by decide) (by decide), fun x n0 => (h.hA1 (x.resolve_left (by decide)) (fun y => n0 (Or.inr y))), fun x n0 => (h.hT1 (x.resolve_left (by decide)) (fun y => n0 (Or.inr y))), fun x n0 => (h.hC1 (x.resolve_left (by decide)) (fun y => n0 (Or.inr y))), slot_keep h.e2 (by decide) (by decide), slot_keep h.e3 (by decide) (by decide), slot_keep h.e4 (by decide) (by decide), fun x => (h.sA4 (x.resolve_left (by decide))), fun x => (h.sB4 (x.resolve_left (by decide))), fun x => (h.sO4 (x.resolve_left (by decide))), fun x => h.r4 (x.resolve_left (by decide)), fun x y => h.k4 (x.resolve_left (by decide)) (y.resolve_left (by decide)), slot_keep h.e5 (by decide) (by decide), slot_keep h.e6 (by decide) (by decide), slot_keep h.e7 (by decide) (by decide), fun _ => eval_put_same a _ (h.ag.lt rfl), slot_keep h.e9 (by decide) (by decide), slot_keep h.e10 (by decide) (by decide), slot_keep h.e11 (by decide) (by decide), fun x => h.h11 (x.resolve_left (by decide)), fun x n0 => (h.z11 (x.resolve_left (by decide)) (fun y => n0 (Or.inr y))), fun x => (h.z12 (x.resolve_left (by decide))), slot_keep h.e13 (by decide) (by decide), fun x => absurd (dep_of 8 rfl (hcl 14 _ rfl (x.resolve_left (by decide)))) hD, fun x => absurd (dep_of 8 rfl (hcl 15 _ rfl (x.resolve_left (by decide)))) hD, fun x => absurd (dep_of 8 rfl (hcl 16 _ rfl (x.resolve_left (by decide)))) hD⟩⟩
    · intro D a w' hI hD hdep hcl
      obtain ⟨g1, g2, g3, A1, c1, B1, d1, O1, f1, k6, lo, hi, h⟩ := hI
      have he := eval_get (h.e5 (dep_of 5 rfl hdep))
      refine wp_yield (v := .int .i64 res) (w' := w') (by clear h hdep hcl hD; go_simp) ?_
      exact ⟨g1, g2, g3, A1, c1, B1, d1, O1, f1, k6, lo, hi, ⟨h.ag.put (by decide) _, h.be, slot_keep h.e0 (by decide) (by decide), slot_keep h.e1 (by decide) (by decide), fun x n0 => (h.hA1 (x.resolve_left (by decide)) (fun y => n0 (Or.inr y))), fun x n0 => (h.hT1 (x.resolve_left (by decide)) (fun y => n0 (Or.inr y))), fun x n0 => (h.hC1 (x.resolve_left (by decide)) (fun y => n0 (Or.inr y))), slot_keep h.e2 (by decide) (by decide), slot_keep h.e3 (by decide) (by decide), slot_keep h.e4 (by decide) (by decide), fun x => (h.sA4 (x.resolve_left (by decide))), fun x => (h.sB4 (x.resolve_left (by decide))), fun x => (h.sO4 (x.resolve_left (by decide))), fun x => h.r4 (x.resolve_left (by decide)), fun x y => h.k4 (x.resolve_left (by decide)) (y.resolve_left (by decide)), slot_keep h.e5 (by decide) (by decide), slot_keep h.e6 (by decide) (by decide), slot_keep h.e7 (by decide) (by decide), slot_keep h.e8 (by decide) (by decide), fun _ => eval_put_same a _ (h.ag.lt rfl), slot_keep h.e10 (by decide) (by decide), slot_keep h.e11 (by decide) (by decide), fun x => h.h11 (x.resolve_left (by decide)), fun x n0 => (h.z11 (x.resolve_left (by decide)) (fun y => n0 (Or.inr y))), fun x => (h.z12 (x.resolve_left (by decide))), slot_keep h.e13 (by decide) (by decide), slot_keep h.e14 (by decide) (by decide), fun x => absurd (dep_of 9 rfl (hcl 15 _ rfl (x.resolve_left (by decide)))) hD, fun x => absurd (dep_of 9 rfl (hcl 16 _ rfl (x.resolve_left (by decide)))) hD⟩⟩
    · intro D a w' hI hD hdep hcl
      obtain ⟨g1, g2, g3, A1, c1, B1, d1, O1, f1, k6, lo, hi, h⟩ := hI
      have he := eval_get (h.e5 (dep_of 5 rfl hdep))
      refine wp_yield (v := .int .i64 met) (w' := w') (by clear h hdep hcl hD; go_simp) ?_
      exact ⟨g1, g2, g3, A1, c1, B1, d1, O1, f1, k6, lo, hi, ⟨h.ag.put (by decide) _, h.be, slot_keep h.e0 (by decide) (by decide), slot_keep h.e1 (by decide) (by decide), fun x n0 => (h.hA1 (x.resolve_left (by decide)) (fun y => n0 (Or.inr y))), fun x n0 => (h.hT1 (x.resolve_left (by decide)) (fun y => n0 (Or.inr y))), fun x n0 => (h.hC1 (x.resolve_left (by decide)) (fun y => n0 (Or.inr y))), slot_keep h.e2 (by decide) (by decide), slot_keep h.e3 (by decide) (by decide), slot_keep h.e4 (by decide) (by decide), fun x => (h.sA4 (x.resolve_left (by decide))), fun x => (h.sB4 (x.resolve_left (by decide))), fun x => (h.sO4 (x.resolve_left (by decide))), fun x => h.r4 (x.resolve_left (by decide)), fun x y => h.k4 (x.resolve_left (by decide)) (y.resolve_left (by decide)), slot_keep h.e5 (by decide) (by decide), slot_keep h.e6 (by decide) (by decide), slot_keep h.e7 (by decide) (by decide), slot_keep h.e8 (by decide) (by decide), slot_keep h.e9 (by decide) (by decide), fun _ => eval_put_same a _ (h.ag.lt rfl), slot_keep h.e11 (by decide) (by decide), fun x => h.h11 (x.resolve_left (by decide)), fun x n0 => (h.z11 (x.resolve_left (by decide)) (fun y => n0 (Or.inr y))), fun x => (h.z12 (x.resolve_left (by decide))), slot_keep h.e13 (by decide) (by decide), slot_keep h.e14 (by decide) (by decide), slot_keep h.e15 (by decide) (by decide), fun x => absurd (dep_of 10 rfl (hcl 16 _ rfl (x.resolve_left (by decide)))) hD⟩⟩
    · intro D a w' hI hD hdep hcl
      obtain ⟨g1, g2, g3, A1, c1, B1, d1, O1, f1, k6, lo, hi, h⟩ := hI
      refine wp_yield (v := .pointer (some ⟨w'.heap.size, 0, none⟩)) (w' := w'.alloc (.cells #[.slice none 0 0, .int .i64 0, .slice none 0 0, .slice none 0 0] 31)) (by clear h hdep hcl hD; go_simp) ?_
      exact ⟨g1, g2, g3, A1, c1, B1, d1, O1, f1, w'.heap.size, lo, hi, ⟨h.ag.put (by decide) _, below_trans h.be (below_alloc _ _), slot_keep h.e0 (by decide) (by decide), slot_keep h.e1 (by decide) (by decide), fun x n0 => (h.hA1 (x.resolve_left (by decide)) (fun y => n0 (Or.inr y))).below (below_alloc _ _), fun x n0 => (h.hT1 (x.resolve_left (by decide)) (fun y => n0 (Or.inr y))).below (below_alloc _ _), fun x n0 => (h.hC1 (x.resolve_left (by decide)) (fun y => n0 (Or.inr y))).below (below_alloc _ _), slot_keep h.e2 (by decide) (by decide), slot_keep h.e3 (by decide) (by decide), slot_keep h.e4 (by decide) (by decide), fun x => (h.sA4 (x.resolve_left (by decide))).below (below_alloc _ _), fun x => (h.sB4 (x.resolve_left (by decide))).below (below_alloc _ _), fun x => (h.sO4 (x.resolve_left (by decide))).below (below_alloc _ _), fun x => ⟨(h.r4 (x.resolve_left (by decide))).1, Nat.le_trans (h.r4 (x.resolve_left (by decide))).2 (by rw [size_alloc]; omega)⟩, fun x _ => .inr (h.r4 (x.resolve_left (by decide))).2, slot_keep h.e5 (by decide) (by decide), slot_keep h.e6 (by decide) (by decide), slot_keep h.e7 (by decide) (by decide), slot_keep h.e8 (by decide) (by decide), slot_keep h.e9 (by decide) (by decide), slot_keep h.e10 (by decide) (by decide), fun _ => eval_put_same a _ (h.ag.lt rfl), fun _ => h.be.size, fun _ _ => BoxC.new _ _ _, fun x => absurd (dep_of 11 rfl (hcl 12 _ rfl (x.resolve_left (by decide)))) hD, fun x => absurd (dep_of 11 rfl (hcl 13 _ rfl (x.resolve_left (by decide)))) hD, fun x => absurd (dep_of 11 rfl (hcl 14 _ rfl (x.resolve_left (by decide)))) hD, fun x => absurd (dep_of 11 rfl (hcl 15 _ rfl (x.resolve_left (by decide)))) hD, fun x => absurd (dep_of 11 rfl (hcl 16 _ rfl (x.resolve_left (by decide)))) hD⟩⟩
    · intro D a w' hI hD hdep hcl
      obtain ⟨g1, g2, g3, A1, c1, B1, d1, O1, f1, k6, lo, hi, h⟩ := hI
      have hal := dep_of 11 rfl hdep
      have hbx := h.z11 hal hD
      have h8 := h.h11 hal
      refine wp_store_row 31 _ _ rfl k6 _ (h.e11 hal) (h.e6 (dep_of 6 rfl hdep)) 31 _ hbx info_model rfl (one4m _ _ _ _ _ _ _ _ _ _) ?_
      exact ⟨g1, g2, g3, A1, c1, B1, d1, O1, f1, k6, lo, hi, ⟨h.ag, below_setRow h.be h8 _, fun x => h.e0 (x.resolve_left (by decide)), fun x => h.e1 (x.resolve_left (by decide)), fun _ n0 => absurd (Or.inl rfl) n0, fun _ n0 => absurd (Or.inl rfl) n0, fun _ n0 => absurd (Or.inl rfl) n0, fun x => h.e2 (x.resolve_left (by decide)), fun x => h.e3 (x.resolve_left (by decide)), fun x => h.e4 (x.resolve_left (by decide)), fun x => (h.sA4 (x.resolve_left (by decide))).row (h.k4 (x.resolve_left (by decide)) hal) _, fun x => (h.sB4 (x.resolve_left (by decide))).row (h.k4 (x.resolve_left (by decide)) hal) _, fun x => (h.sO4 (x.resolve_left (by decide))).row (h.k4 (x.resolve_left (by decide)) hal) _, fun x => ⟨(h.r4 (x.resolve_left (by decide))).1, Nat.le_trans (h.r4 (x.resolve_left (by decide))).2 (gr_setRow _ _ _).size⟩, fun x y => h.k4 (x.resolve_left (by decide)) (y.resolve_left (by decide)), fun x => h.e5 (x.resolve_left (by decide)), fun x => h.e6 (x.resolve_left (by decide)), fun x => h.e7 (x.resolve_left (by decide)), fun x => h.e8 (x.resolve_left (by decide)), fun x => h.e9 (x.resolve_left (by decide)), fun x => h.e10 (x.resolve_left (by decide)), fun x => h.e11 (x.resolve_left (by decide)), fun x => h.h11 (x.resolve_left (by decide)), fun _ n0 => absurd (Or.inl rfl) n0, fun _ => hbx.mrow _, fun x => absurd (dep_of 12 rfl (hcl 13 _ rfl (x.resolve_left (by decide)))) hD, fun x => absurd (dep_of 12 rfl (hcl 14 _ rfl (x.resolve_left (by decide)))) hD, fun x => absurd (dep_of 12 rfl (hcl 15 _ rfl (x.resolve_left (by decide)))) hD, fun x => absurd (dep_of 12 rfl (hcl 16 _ rfl (x.resolve_left (by decide)))) hD⟩⟩
    · intro D a w' hI hD hdep hcl
      obtain ⟨g1, g2, g3, A1, c1, B1, d1, O1, f1, k6, lo, hi, h⟩ := hI
      have he := eval_get (h.e7 (dep_of 7 rfl hdep))
      refine wp_yield (v := .bool en) (w' := w') (by clear h hdep hcl hD; go_simp) ?_
      exact ⟨g1, g2, g3, A1, c1, B1, d1, O1, f1, k6, lo, hi, ⟨h.ag.put (by decide) _, h.be, slot_keep h.e0 (by decide) (by decide), slot_keep h.e1 (by decide) (by decide), fun x n0 => (h.hA1 (x.resolve_left (by decide)) (fun y => n0 (Or.inr y))), fun x n0 => (h.hT1 (x.resolve_left (by decide)) (fun y => n0 (Or.inr y))), fun x n0 => (h.hC1 (x.resolve_left (by decide)) (fun y => n0 (Or.inr y))), slot_keep h.e2 (by decide) (by decide), slot_keep h.e3 (by decide) (by decide), slot_keep h.e4 (by decide) (by decide), fun x => (h.sA4 (x.resolve_left (by decide))), fun x => (h.sB4 (x.resolve_left (by decide))), fun x => (h.sO4 (x.resolve_left (by decide))), fun x => h.r4 (x.resolve_left (by decide)), fun x y => h.k4 (x.resolve_left (by decide)) (y.resolve_left (by decide)), slot_keep h.e5 (by decide) (by decide), slot_keep h.e6 (by decide) (by decide), slot_keep h.e7 (by decide) (by decide), slot_keep h.e8 (by decide) (by decide), slot_keep h.e9 (by decide) (by decide), slot_keep h.e10 (by decide) (by decide), slot_keep h.e11 (by decide) (by decide), fun x => h.h11 (x.resolve_left (by decide)), fun x n0 => (h.z11 (x.resolve_left (by decide)) (fun y => n0 (Or.inr y))), fun x => (h.z12 (x.resolve_left (by decide))), fun _ => eval_put_same a _ (h.ag.lt rfl), fun x => absurd (dep_of 13 rfl (hcl 14 _ rfl (x.resolve_left (by decide)))) hD, fun x => absurd (dep_of 13 rfl (hcl 15 _ rfl (x.resolve_left (by decide)))) hD, fun x => absurd (dep_of 13 rfl (hcl 16 _ rfl (x.resolve_left (by decide)))) hD⟩⟩
    · intro D a w' hI hD hdep hcl
      obtain ⟨g1, g2, g3, A1, c1, B1, d1, O1, f1, k6, lo, hi, h⟩ := hI
      have he := eval_get (h.e8 (dep_of 8 rfl hdep))
      refine wp_yield (v := .int .i64 code) (w' := w') (by clear h hdep hcl hD; go_simp) ?_
      exact ⟨g1, g2, g3, A1, c1, B1, d1, O1, f1, k6, lo, hi, ⟨h.ag.put (by decide) _, h.be, slot_keep h.e0 (by decide) (by decide), slot_keep h.e1 (by decide) (by decide), fun x n0 => (h.hA1 (x.resolve_left (by decide)) (fun y => n0 (Or.inr y))), fun x n0 => (h.hT1 (x.resolve_left (by decide)) (fun y => n0 (Or.inr y))), fun x n0 => (h.hC1 (x.resolve_left (by decide)) (fun y => n0 (Or.inr y))), slot_keep h.e2 (by decide) (by decide), slot_keep h.e3 (by decide) (by decide), slot_keep h.e4 (by decide) (by decide), fun x => (h.sA4 (x.resolve_left (by decide))), fun x => (h.sB4 (x.resolve_left (by decide))), fun x => (h.sO4 (x.resolve_left (by decide))), fun x => h.r4 (x.resolve_left (by decide)), fun x y => h.k4 (x.resolve_left (by decide)) (y.resolve_left (by decide)), slot_keep h.e5 (by decide) (by decide), slot_keep h.e6 (by decide) (by decide), slot_keep h.e7 (by decide) (by decide), slot_keep h.e8 (by decide) (by decide), slot_keep h.e9 (by decide) (by decide), slot_keep h.e10 (by decide) (by decide), slot_keep h.e11 (by decide) (by decide), fun x => h.h11 (x.resolve_left (by decide)), fun x n0 => (h.z11 (x.resolve_left (by decide)) (fun y => n0 (Or.inr y))), fun x => (h.z12 (x.resolve_left (by decide))), slot_keep h.e13 (by decide) (by decide), fun _ => eval_put_same a _ (h.ag.lt rfl), fun x => absurd (dep_of 14 rfl (hcl 15 _ rfl (x.resolve_left (by decide)))) hD, fun x => absurd (dep_of 14 rfl (hcl 16 _ rfl (x.resolve_left (by decide)))) hD⟩⟩
    · intro D a w' hI hD hdep hcl
      obtain ⟨g1, g2, g3, A1, c1, B1, d1, O1, f1, k6, lo, hi, h⟩ := hI
      have he := eval_get (h.e9 (dep_of 9 rfl hdep))
      refine wp_yield (v := .int .i64 res) (w' := w') (by clear h hdep hcl hD; go_simp) ?_
      exact ⟨g1, g2, g3, A1, c1, B1, d1, O1, f1, k6, lo, hi, ⟨h.ag.put (by decide) _, h.be, slot_keep h.e0 (by decide) (by decide), slot_keep h.e1 (by decide) (by decide), fun x n0 => (h.hA1 (x.resolve_left (by decide)) (fun y => n0 (Or.inr y))), fun x n0 => (h.hT1 (x.resolve_left (by decide)) (fun y => n0 (Or.inr y))), fun x n0 => (h.hC1 (x.resolve_left (by decide)) (fun y => n0 (Or.inr y))), slot_keep h.e2 (by decide) (by decide), slot_keep h.e3 (by decide) (by decide), slot_keep h.e4 (by decide) (by decide), fun x => (h.sA4 (x.resolve_left (by decide))), fun x => (h.sB4 (x.resolve_left (by decide))), fun x => (h.sO4 (x.resolve_left (by decide))), fun x => h.r4 (x.resolve_left (by decide)), fun x y => h.k4 (x.resolve_left (by decide)) (y.resolve_left (by decide)), slot_keep h.e5 (by decide) (by decide), slot_keep h.e6 (by decide) (by decide), slot_keep h.e7 (by decide) (by decide), slot_keep h.e8 (by decide) (by decide), slot_keep h.e9 (by decide) (by decide), slot_keep h.e10 (by decide) (by decide), slot_keep h.e11 (by decide) (by decide), fun x => h.h11 (x.resolve_left (by decide)), fun x n0 => (h.z11 (x.resolve_left (by decide)) (fun y => n0 (Or.inr y))), fun x => (h.z12 (x.resolve_left (by decide))), slot_keep h.e13 (by decide) (by decide), slot_keep h.e14 (by decide) (by decide), fun _ => eval_put_same a _ (h.ag.lt rfl), fun x => absurd (dep_of 15 rfl (hcl 16 _ rfl (x.resolve_left (by decide)))) hD⟩⟩
    · intro D a w' hI hD hdep hcl
      obtain ⟨g1, g2, g3, A1, c1, B1, d1, O1, f1, k6, lo, hi, h⟩ := hI
      have he := eval_get (h.e10 (dep_of 10 rfl hdep))
      refine wp_yield (v := .int .i64 met) (w' := w') (by clear h hdep hcl hD; go_simp) ?_
      exact ⟨g1, g2, g3, A1, c1, B1, d1, O1, f1, k6, lo, hi, ⟨h.ag.put (by decide) _, h.be, slot_keep h.e0 (by decide) (by decide), slot_keep h.e1 (by decide) (by decide), fun x n0 => (h.hA1 (x.resolve_left (by decide)) (fun y => n0 (Or.inr y))), fun x n0 => (h.hT1 (x.resolve_left (by decide)) (fun y => n0 (Or.inr y))), fun x n0 => (h.hC1 (x.resolve_left (by decide)) (fun y => n0 (Or.inr y))), slot_keep h.e2 (by decide) (by decide), slot_keep h.e3 (by decide) (by decide), slot_keep h.e4 (by decide) (by decide), fun x => (h.sA4 (x.resolve_left (by decide))), fun x => (h.sB4 (x.resolve_left (by decide))), fun x => (h.sO4 (x.resolve_left (by decide))), fun x => h.r4 (x.resolve_left (by decide)), fun x y => h.k4 (x.resolve_left (by decide)) (y.resolve_left (by decide)), slot_keep h.e5 (by decide) (by decide), slot_keep h.e6 (by decide) (by decide), slot_keep h.e7 (by decide) (by decide), slot_keep h.e8 (by decide) (by decide), slot_keep h.e9 (by decide) (by decide), slot_keep h.e10 (by decide) (by decide), slot_keep h.e11 (by decide) (by decide), fun x => h.h11 (x.resolve_left (by decide)), fun x n0 => (h.z11 (x.resolve_left (by decide)) (fun y => n0 (Or.inr y))), fun x => (h.z12 (x.resolve_left (by decide))), slot_keep h.e13 (by decide) (by decide), slot_keep h.e14 (by decide) (by decide), slot_keep h.e15 (by decide) (by decide), fun _ => eval_put_same a _ (h.ag.lt rfl)⟩⟩
  · rintro D a w' ⟨g1, g2, g3, A1, c1, B1, d1, O1, f1, k6, lo, hi, h⟩ hD
    have hd := fun i (hi : Nat.ble (i + 1) 17 = true) => hD i (Nat.le_of_ble_eq_true hi)
    exact ⟨A1, c1, B1, d1, O1, f1, k6, lo, hi, h.ag, h.e11 (hd 11 rfl), h.e13 (hd 13 rfl), h.e14 (hd 14 rfl), h.e15 (hd 15 rfl), h.e16 (hd 16 rfl), h.z12 (hd 12 rfl), h.sA4 (hd 4 rfl), h.sB4 (hd 4 rfl), h.sO4 (hd 4 rfl), trivial, h.r4 (hd 4 rfl), h.k4 (hd 4 rfl) (hd 11 rfl), h.h11 (hd 11 rfl), h.be⟩
  rintro a' w2 ⟨AW, cW, BW, dW, OW, fW, kW, loW, hiW, hag, t0, t1, t2, t3, t4, hbx, qA, qB, qO, qP, qr, qk, hk6, hbe⟩
  have he := hag.eq
  clear hag
  simp only [List.foldl_cons, List.foldl_nil] at he
  rw [t0, t1, t2, t3, t4] at he
  clear t0 t1 t2 t3 t4
  generalize a'.eval (.tmp 30) = uW30 at he
  generalize a'.eval (.tmp 31) = uW31 at he
  generalize a'.eval (.tmp 32) = uW32 at he
  generalize a'.eval (.tmp 33) = uW33 at he
  generalize a'.eval (.tmp 34) = uW34 at he
  generalize a'.eval (.tmp 35) = uW35 at he
  generalize a'.eval (.tmp 36) = uW36 at he
  generalize a'.eval (.tmp 37) = uW37 at he
  generalize a'.eval (.tmp 38) = uW38 at he
  generalize a'.eval (.tmp 39) = uW39 at he
  generalize a'.eval (.tmp 40) = uW40 at he
  simp only [Act.put, List.setIfInBounds_toArray, List.set_cons_zero, List.set_cons_succ] at he
  subst he
  have K_M1 := Lib.hid (BoxC.below K_M0.out hbe)
  have K_W1 := Lib.hid (BoxC.below K_W0.out hbe)
  have B1 := Lib.hid (below_trans B0.out hbe)
  have KW0 := Lib.hid hbx; have SWA0 := Lib.hid qA; have SWB0 := Lib.hid qB; have SWO0 := Lib.hid qO
  have hrW : w1.heap.size ≤ loW ∧ hiW ≤ w2.heap.size := qr
  have hqW : kW < loW ∨ hiW ≤ kW := qk
  have hlW : w1.heap.size ≤ kW ∧ kW < w2.heap.size := ⟨hk6, hbx.lt⟩
  have hsw2 : w1.heap.size ≤ w2.heap.size := hbe.size
  have kW0 := KW0.out.cell
  clear K_M0 K_W0 B0 hbx qA qB qO qr qk hk6 hbe qP
  as_aux_lemma =>
  have hm := K_M1.out.cell
  go_wp2_with fail
  refine (toModel_any _ _ _ _ _ _ zs bs os cnt _ sz st sc (HA.out.below B1.out) (HT.out.below B1.out) (HC.out.below B1.out)).mono ?_
  rintro e w3 ⟨x1, x2, x3, rfl, g01, g12, g23, oA, oT, oC, hb⟩
  clear hm
  have K_M2 := Lib.hid (BoxC.below K_M1.out hb)
  have K_W2 := Lib.hid (BoxC.below K_W1.out hb)
  have KW2 := Lib.hid (BoxC.below KW0.out hb)
  have SWA2 := Lib.hid (SegH.below SWA0.out hb)
  have SWB2 := Lib.hid (SegH.below SWB0.out hb)
  have SWO2 := Lib.hid (SegH.below SWO0.out hb)
  have B2 := Lib.hid (below_trans B1.out hb)
  have kW2 := KW2.out.cell
  have hs3 : w2.heap.size ≤ w3.heap.size := hb.size
  have hx3 : x3 < w3.heap.size := (World.ownsRow.lt oC x3 rfl).2
  have SXA0 := Lib.hid (SegH.of (SegC.ofI oA)); have SXB0 := Lib.hid (SegH.of (SegC.ofW oT)); have SXO0 := Lib.hid (SegH.of (SegC.ofW oC))
  clear K_M1 K_W1 KW0 SWA0 SWB0 SWO0 B1 kW0 hb oA oT oC
  go_upto_region 7 with (first | (refine wpList_store_row rfl 31 _ _ rfl w3.heap.size _ rfl rfl 31 _ (BoxC.new 31 w3 _) info_model rfl (one4m _ _ _ _ _ _ _ _ _ _) ?_))
  have hb4 : Below w3.heap.size w3 ((w3.alloc (.cells #[.slice none 0 0, .int .i64 0, .slice none 0 0, .slice none 0 0] 31)).setRow w3.heap.size #[.slice (some ⟨x1, 0, none⟩) zs.length zs.length, .int .i64 cnt, .slice (some ⟨x2, 0, none⟩) bs.length bs.length, .slice (some ⟨x3, 0, none⟩) os.length os.length]) := below_setRow (below_alloc w3 _) (Nat.le_refl _) _
  have KX0 := Lib.hid ((BoxC.new 31 w3 #[.slice none 0 0, .int .i64 0, .slice none 0 0, .slice none 0 0]).mrow #[.slice (some ⟨x1, 0, none⟩) zs.length zs.length, .int .i64 cnt, .slice (some ⟨x2, 0, none⟩) bs.length bs.length, .slice (some ⟨x3, 0, none⟩) os.length os.length])
  generalize (w3.alloc (.cells #[.slice none 0 0, .int .i64 0, .slice none 0 0, .slice none 0 0] 31)).setRow w3.heap.size #[.slice (some ⟨x1, 0, none⟩) zs.length zs.length, .int .i64 cnt, .slice (some ⟨x2, 0, none⟩) bs.length bs.length, .slice (some ⟨x3, 0, none⟩) os.length os.length] = w4 at hb4 KX0 ⊢
  have hs4 : w3.heap.size < w4.heap.size := KX0.out.lt
  have K_M3 := Lib.hid (BoxC.below K_M2.out hb4)
  have K_W3 := Lib.hid (BoxC.below K_W2.out hb4)
  have KW3 := Lib.hid (BoxC.below KW2.out hb4)
  have SWA3 := Lib.hid (SegH.below SWA2.out hb4)
  have SWB3 := Lib.hid (SegH.below SWB2.out hb4)
  have SWO3 := Lib.hid (SegH.below SWO2.out hb4)
  have SXA3 := Lib.hid (SegH.below SXA0.out hb4)
  have SXB3 := Lib.hid (SegH.below SXB0.out hb4)
  have SXO3 := Lib.hid (SegH.below SXO0.out hb4)
  have B3 := Lib.hid (below_trans B2.out hb4)
  have kW3 := KW3.out.cell
  clear K_M2 K_W2 KW2 SWA2 SWB2 SWO2 SXA0 SXB0 SXO0 B2 kW2 hb4
  refine region_cut (fun a0 D a w' => ∃ g1 g2 g3 A1 c1 B1 d1 O1 f1 k6 lo hi, MR7ModelCall w4 a0 A B O (some ⟨x1, 0, none⟩) (some ⟨x2, 0, none⟩) (some ⟨x3, 0, none⟩) ca cb co zs bs os cnt th op arg L n bs' os' en code res met D a w' g1 g2 g3 A1 c1 B1 d1 O1 f1 k6 lo hi) (fun a0 a w' => ∃ A1 c1 B1 d1 O1 f1 k6 lo hi, Agree a0 a [12, 13, 14, 15, 16, 43, 44, 45, 46, 47, 48, 49, 50, 51, 52] ∧ a.eval (.tmp 12) = .pointer (some ⟨k6, 0, none⟩) ∧ a.eval (.tmp 13) = .bool en ∧ a.eval (.tmp 14) = .int .i64 code ∧ a.eval (.tmp 15) = .int .i64 res ∧ a.eval (.tmp 16) = .int .i64 met ∧ BoxC 31 w' k6 #[.slice A1 L.length c1, .int .i64 n, .slice B1 bs'.length d1, .slice O1 os'.length f1] ∧ SegH lo hi w' A1 (ints L) ∧ SegH lo hi w' B1 (flatV Wtr.cs bs') ∧ SegH lo hi w' O1 (flatV Wtr.cs os') ∧ P3 lo hi (.slice A1 L.length c1) (.slice B1 bs'.length d1) (.slice O1 os'.length f1) ∧ (w4.heap.size ≤ lo ∧ hi ≤ w'.heap.size) ∧ (k6 < lo ∨ hi ≤ k6) ∧ w4.heap.size ≤ k6 ∧ Below w4.heap.size w4 w') (by kernel_rfl) (by kernel_rfl) ?_ ?_ ?_ ?_
  · exact ⟨0, 0, 0, none, 0, none, 0, none, 0, 0, 0, 0, ⟨Agree.refl _ _, below_drewM _, fun x => x.elim, fun x => x.elim, fun x => x.elim, fun x => x.elim, fun x => x.elim, fun x => x.elim, fun x => x.elim, fun x => x.elim, fun x => x.elim, fun x => x.elim, fun x => x.elim, fun x => x.elim, fun x => x.elim, fun x => x.elim, fun x => x.elim, fun x => x.elim, fun x => x.elim, fun x => x.elim, fun x => x.elim, fun x => x.elim, fun x => x.elim, fun x => x.elim, fun x => x.elim, fun x => x.elim⟩⟩
  · intro K'
    refine Steps.cons (i := 0) (j := 1) rfl ?_ (Steps.cons (i := 1) (j := 2) rfl ?_ (Steps.cons (i := 2) (j := 3) rfl ?_ (Steps.cons (i := 3) (j := 4) rfl ?_ (Steps.cons (i := 4) (j := 5) rfl ?_ (Steps.cons (i := 5) (j := 6) rfl ?_ (Steps.cons (i := 6) (j := 7) rfl ?_ (Steps.cons (i := 7) (j := 8) rfl ?_ (Steps.cons (i := 8) (j := 9) rfl ?_ (Steps.cons (i := 9) (j := 10) rfl ?_ (Steps.cons (i := 10) (j := 11) rfl ?_ (Steps.cons (i := 11) (j := 12) rfl ?_ (Steps.cons (i := 12) (j := 13) rfl ?_ (Steps.cons (i := 13) (j := 14) rfl ?_ (Steps.cons (i := 14) (j := 15) rfl ?_ (Steps.cons (i := 15) (j := 16) rfl ?_ (Steps.nil))))))))))))))))
    · intro D a w' hI hD hdep hcl
      obtain ⟨g1, g2, g3, A1, c1, B1, d1, O1, f1, k6, lo, hi, h⟩ := hI
      refine wp_load_row 31 _ rfl w3.heap.size ((h.ag.eval (show 11 ∉ [12, 13, 14, 15, 16, 43, 44, 45, 46, 47, 48, 49, 50, 51, 52] by decide)).trans rfl) 31 _ (0, 0) _ ((h.be.block _ KX0.out.lt).trans KX0.out) Try.underlying31 rfl info_model ?_
      exact ⟨g1, g2, g3, A1, c1, B1, d1, O1, f1, k6, lo, hi, ⟨h.ag.put (by decide) _, h.be, fun _ => eval_put_same a _ (h.ag.lt rfl), slot_keep h.e1 (by decide) (by decide), slot_keep h.e2 (by decide) (by decide), fun x => absurd (dep_of 0 rfl (hcl 3 _ rfl (x.resolve_left (by decide)))) hD, fun x => absurd (dep_of 0 rfl (hcl 3 _ rfl (x.resolve_left (by decide)))) hD, fun x => absurd (dep_of 0 rfl (hcl 3 _ rfl (x.resolve_left (by decide)))) hD, fun x => absurd (dep_of 0 rfl (hcl 3 _ rfl (x.resolve_left (by decide)))) hD, fun x => absurd (dep_of 0 rfl (hcl 3 _ rfl (x.resolve_left (by decide)))) hD, fun x => absurd (dep_of 0 rfl (hcl 3 _ rfl (x.resolve_left (by decide)))) hD, fun x => absurd (dep_of 0 rfl (hcl 3 _ rfl (x.resolve_left (by decide)))) hD, fun x => absurd (dep_of 0 rfl (hcl 3 _ rfl (dep_of 3 rfl (hcl 4 _ rfl (x.resolve_left (by decide)))))) hD, fun x => absurd (dep_of 0 rfl (hcl 3 _ rfl (dep_of 3 rfl (hcl 4 _ rfl (dep_of 4 rfl (hcl 5 _ rfl (x.resolve_left (by decide)))))))) hD, fun x => absurd (dep_of 0 rfl (hcl 3 _ rfl (dep_of 3 rfl (hcl 4 _ rfl (dep_of 4 rfl (hcl 6 _ rfl (x.resolve_left (by decide)))))))) hD, fun x => absurd (dep_of 0 rfl (hcl 3 _ rfl (dep_of 3 rfl (hcl 4 _ rfl (dep_of 4 rfl (hcl 7 _ rfl (x.resolve_left (by decide)))))))) hD, fun x => absurd (dep_of 0 rfl (hcl 3 _ rfl (dep_of 3 rfl (hcl 4 _ rfl (dep_of 4 rfl (hcl 8 _ rfl (x.resolve_left (by decide)))))))) hD, fun x => absurd (dep_of 0 rfl (hcl 3 _ rfl (dep_of 3 rfl (hcl 4 _ rfl (dep_of 4 rfl (hcl 9 _ rfl (x.resolve_left (by decide)))))))) hD, slot_keep h.e10 (by decide) (by decide), fun x => h.h10 (x.resolve_left (by decide)), fun x n0 => (h.z10 (x.resolve_left (by decide)) (fun y => n0 (Or.inr y))), fun x => absurd (dep_of 0 rfl (hcl 11 _ rfl (x.resolve_left (by decide)))) hD, fun x => absurd (dep_of 0 rfl (hcl 12 _ rfl (x.resolve_left (by decide)))) hD, fun x => absurd (dep_of 0 rfl (hcl 13 _ rfl (x.resolve_left (by decide)))) hD, fun x => absurd (dep_of 0 rfl (hcl 14 _ rfl (x.resolve_left (by decide)))) hD, fun x => absurd (dep_of 0 rfl (hcl 15 _ rfl (x.resolve_left (by decide)))) hD⟩⟩
    · intro D a w' hI hD hdep hcl
      obtain ⟨g1, g2, g3, A1, c1, B1, d1, O1, f1, k6, lo, hi, h⟩ := hI
      refine wp_load_row 27 _ rfl (w.heap.size + 1) ((h.ag.eval (show 3 ∉ [12, 13, 14, 15, 16, 43, 44, 45, 46, 47, 48, 49, 50, 51, 52] by decide)).trans rfl) 27 _ (0, 0) _ ((h.be.block _ K_W3.out.lt).trans K_W3.out) Try.underlying27 rfl info_lw ?_
      exact ⟨g1, g2, g3, A1, c1, B1, d1, O1, f1, k6, lo, hi, ⟨h.ag.put (by decide) _, h.be, slot_keep h.e0 (by decide) (by decide), fun _ => eval_put_same a _ (h.ag.lt rfl), fun x => absurd (dep_of 1 rfl (hcl 2 _ rfl (x.resolve_left (by decide)))) hD, fun x => absurd (dep_of 1 rfl (hcl 2 _ rfl (dep_of 2 rfl (hcl 3 _ rfl (x.resolve_left (by decide)))))) hD, fun x => absurd (dep_of 1 rfl (hcl 2 _ rfl (dep_of 2 rfl (hcl 3 _ rfl (x.resolve_left (by decide)))))) hD, fun x => absurd (dep_of 1 rfl (hcl 2 _ rfl (dep_of 2 rfl (hcl 3 _ rfl (x.resolve_left (by decide)))))) hD, fun x => absurd (dep_of 1 rfl (hcl 2 _ rfl (dep_of 2 rfl (hcl 3 _ rfl (x.resolve_left (by decide)))))) hD, fun x => absurd (dep_of 1 rfl (hcl 2 _ rfl (dep_of 2 rfl (hcl 3 _ rfl (x.resolve_left (by decide)))))) hD, fun x => absurd (dep_of 1 rfl (hcl 2 _ rfl (dep_of 2 rfl (hcl 3 _ rfl (x.resolve_left (by decide)))))) hD, fun x => absurd (dep_of 1 rfl (hcl 2 _ rfl (dep_of 2 rfl (hcl 3 _ rfl (x.resolve_left (by decide)))))) hD, fun x => absurd (dep_of 1 rfl (hcl 2 _ rfl (dep_of 2 rfl (hcl 3 _ rfl (dep_of 3 rfl (hcl 4 _ rfl (x.resolve_left (by decide)))))))) hD, fun x => absurd (dep_of 1 rfl (hcl 2 _ rfl (dep_of 2 rfl (hcl 3 _ rfl (dep_of 3 rfl (hcl 4 _ rfl (dep_of 4 rfl (hcl 5 _ rfl (x.resolve_left (by decide)))))))))) hD, fun x => absurd (dep_of 1 rfl (hcl 2 _ rfl (dep_of 2 rfl (hcl 3 _ rfl (dep_of 3 rfl (hcl 4 _ rfl (dep_of 4 rfl (hcl 6 _ rfl (x.resolve_left (by decide)))))))))) hD, fun x => absurd (dep_of 1 rfl (hcl 2 _ rfl (dep_of 2 rfl (hcl 3 _ rfl (dep_of 3 rfl (hcl 4 _ rfl (dep_of 4 rfl (hcl 7 _ rfl (x.resolve_left (by decide)))))))))) hD, fun x => absurd (dep_of 1 rfl (hcl 2 _ rfl (dep_of 2 rfl (hcl 3 _ rfl (dep_of 3 rfl (hcl 4 _ rfl (dep_of 4 rfl (hcl 8 _ rfl (x.resolve_left (by decide)))))))))) hD, fun x => absurd (dep_of 1 rfl (hcl 2 _ rfl (dep_of 2 rfl (hcl 3 _ rfl (dep_of 3 rfl (hcl 4 _ rfl (dep_of 4 rfl (hcl 9 _ rfl (x.resolve_left (by decide)))))))))) hD, slot_keep h.e10 (by decide) (by decide), fun x => h.h10 (x.resolve_left (by decide)), fun x n0 => (h.z10 (x.resolve_left (by decide)) (fun y => n0 (Or.inr y))), fun x => absurd (dep_of 1 rfl (hcl 11 _ rfl (x.resolve_left (by decide)))) hD, fun x => absurd (dep_of 1 rfl (hcl 12 _ rfl (x.resolve_left (by decide)))) hD, fun x => absurd (dep_of 1 rfl (hcl 13 _ rfl (x.resolve_left (by decide)))) hD, fun x => absurd (dep_of 1 rfl (hcl 14 _ rfl (x.resolve_left (by decide)))) hD, fun x => absurd (dep_of 1 rfl (hcl 15 _ rfl (x.resolve_left (by decide)))) hD⟩⟩
    · intro D a w' hI hD hdep hcl
      obtain ⟨g1, g2, g3, A1, c1, B1, d1, O1, f1, k6, lo, hi, h⟩ := hI
      have he0 := eval_get (h.e1 (dep_of 1 rfl hdep))
      refine wp_call_fn (f := 14) (vs := #[.agg #[.int .i64 th, .int .i64 op, .int .i64 arg]]) (by clear h hdep hcl hD; go_simp) ?_
      refine (toWaiter_any th op arg _).mono ?_
      rintro e v1 ⟨rfl, hb⟩
      refine ⟨_, rfl, ?_⟩
      exact ⟨g1, g2, g3, A1, c1, B1, d1, O1, f1, k6, lo, hi, ⟨h.ag.put (by decide) _, below_trans h.be hb, slot_keep h.e0 (by decide) (by decide), slot_keep h.e1 (by decide) (by decide), fun _ => eval_put_same a _ (h.ag.lt rfl), fun x => absurd (dep_of 2 rfl (hcl 3 _ rfl (x.resolve_left (by decide)))) hD, fun x => absurd (dep_of 2 rfl (hcl 3 _ rfl (x.resolve_left (by decide)))) hD, fun x => absurd (dep_of 2 rfl (hcl 3 _ rfl (x.resolve_left (by decide)))) hD, fun x => absurd (dep_of 2 rfl (hcl 3 _ rfl (x.resolve_left (by decide)))) hD, fun x => absurd (dep_of 2 rfl (hcl 3 _ rfl (x.resolve_left (by decide)))) hD, fun x => absurd (dep_of 2 rfl (hcl 3 _ rfl (x.resolve_left (by decide)))) hD, fun x => absurd (dep_of 2 rfl (hcl 3 _ rfl (x.resolve_left (by decide)))) hD, fun x => absurd (dep_of 2 rfl (hcl 3 _ rfl (dep_of 3 rfl (hcl 4 _ rfl (x.resolve_left (by decide)))))) hD, fun x => absurd (dep_of 2 rfl (hcl 3 _ rfl (dep_of 3 rfl (hcl 4 _ rfl (dep_of 4 rfl (hcl 5 _ rfl (x.resolve_left (by decide)))))))) hD, fun x => absurd (dep_of 2 rfl (hcl 3 _ rfl (dep_of 3 rfl (hcl 4 _ rfl (dep_of 4 rfl (hcl 6 _ rfl (x.resolve_left (by decide)))))))) hD, fun x => absurd (dep_of 2 rfl (hcl 3 _ rfl (dep_of 3 rfl (hcl 4 _ rfl (dep_of 4 rfl (hcl 7 _ rfl (x.resolve_left (by decide)))))))) hD, fun x => absurd (dep_of 2 rfl (hcl 3 _ rfl (dep_of 3 rfl (hcl 4 _ rfl (dep_of 4 rfl (hcl 8 _ rfl (x.resolve_left (by decide)))))))) hD, fun x => absurd (dep_of 2 rfl (hcl 3 _ rfl (dep_of 3 rfl (hcl 4 _ rfl (dep_of 4 rfl (hcl 9 _ rfl (x.resolve_left (by decide)))))))) hD, slot_keep h.e10 (by decide) (by decide), fun x => h.h10 (x.resolve_left (by decide)), fun x n0 => (h.z10 (x.resolve_left (by decide)) (fun y => n0 (Or.inr y))).below hb, fun x => absurd (dep_of 2 rfl (hcl 11 _ rfl (x.resolve_left (by decide)))) hD, fun x => absurd (dep_of 2 rfl (hcl 12 _ rfl (x.resolve_left (by decide)))) hD, fun x => absurd (dep_of 2 rfl (hcl 13 _ rfl (x.resolve_left (by decide)))) hD, fun x => absurd (dep_of 2 rfl (hcl 14 _ rfl (x.resolve_left (by decide)))) hD, fun x => absurd (dep_of 2 rfl (hcl 15 _ rfl (x.resolve_left (by decide)))) hD⟩⟩
    · intro D a w' hI hD hdep hcl
      obtain ⟨g1, g2, g3, A1, c1, B1, d1, O1, f1, k6, lo, hi, h⟩ := hI
      have he0 := eval_get (h.e0 (dep_of 0 rfl hdep))
      have he1 := eval_get (h.e2 (dep_of 2 rfl hdep))
      refine wp_call_fn (f := 15) (vs := #[.agg #[.slice (some ⟨x1, 0, none⟩) zs.length zs.length, .int .i64 cnt, .slice (some ⟨x2, 0, none⟩) bs.length bs.length, .slice (some ⟨x3, 0, none⟩) os.length os.length], .agg #[.int .i64 th, .int .i64 op, .int .i64 arg]]) (by clear h hdep hcl hD; go_simp) ?_
      refine (HI.out _ ⟨x1, 0, none⟩ ⟨x2, 0, none⟩ ⟨x3, 0, none⟩ zs.length bs.length os.length (SXA3.out.rd.below h.be) (SXB3.out.rdW.below h.be) (SXO3.out.rdW.below h.be)).mono ?_
      rintro e v1 ⟨A1', c1', B1', d1', O1', f1', rfl, qA, qB, qO, qP, hb⟩
      refine ⟨_, rfl, ?_⟩
      exact ⟨g1, g2, g3, A1', c1', B1', d1', O1', f1', k6, w'.heap.size, v1.heap.size, ⟨h.ag.put (by decide) _, below_trans h.be hb, slot_keep h.e0 (by decide) (by decide), slot_keep h.e1 (by decide) (by decide), slot_keep h.e2 (by decide) (by decide), fun _ => eval_put_same a _ (h.ag.lt rfl), fun _ => qA, fun _ => qB, fun _ => qO, fun _ => ⟨h.be.size, Nat.le_refl _⟩, fun _ => qP rfl, fun _ y => .inl (h.z10 (y.resolve_left (by decide)) (fun z => hD ((dep_of 3 rfl (hcl 11 _ rfl z))))).lt, fun x => absurd (dep_of 3 rfl (hcl 4 _ rfl (x.resolve_left (by decide)))) hD, fun x => absurd (dep_of 3 rfl (hcl 4 _ rfl (dep_of 4 rfl (hcl 5 _ rfl (x.resolve_left (by decide)))))) hD, fun x => absurd (dep_of 3 rfl (hcl 4 _ rfl (dep_of 4 rfl (hcl 6 _ rfl (x.resolve_left (by decide)))))) hD, fun x => absurd (dep_of 3 rfl (hcl 4 _ rfl (dep_of 4 rfl (hcl 7 _ rfl (x.resolve_left (by decide)))))) hD, fun x => absurd (dep_of 3 rfl (hcl 4 _ rfl (dep_of 4 rfl (hcl 8 _ rfl (x.resolve_left (by decide)))))) hD, fun x => absurd (dep_of 3 rfl (hcl 4 _ rfl (dep_of 4 rfl (hcl 9 _ rfl (x.resolve_left (by decide)))))) hD, slot_keep h.e10 (by decide) (by decide), fun x => h.h10 (x.resolve_left (by decide)), fun x n0 => (h.z10 (x.resolve_left (by decide)) (fun y => n0 (Or.inr y))).below hb, fun x => absurd (dep_of 3 rfl (hcl 11 _ rfl (x.resolve_left (by decide)))) hD, fun x => absurd (dep_of 3 rfl (hcl 12 _ rfl (x.resolve_left (by decide)))) hD, fun x => absurd (dep_of 3 rfl (hcl 13 _ rfl (x.resolve_left (by decide)))) hD, fun x => absurd (dep_of 3 rfl (hcl 14 _ rfl (x.resolve_left (by decide)))) hD, fun x => absurd (dep_of 3 rfl (hcl 15 _ rfl (x.resolve_left (by decide)))) hD⟩⟩
    · intro D a w' hI hD hdep hcl
      obtain ⟨g1, g2, g3, A1, c1, B1, d1, O1, f1, k6, lo, hi, h⟩ := hI
      have he := eval_get (h.e3 (dep_of 3 rfl hdep))
      refine wp_yield (v := .tuple #[.agg #[.slice A1 L.length c1, .int .i64 n, .slice B1 bs'.length d1, .slice O1 os'.length f1], .bool en, .int .i64 code, .int .i64 res, .int .i64 met]) (w' := w') (by clear h hdep hcl hD; go_simp) ?_
      exact ⟨g1, g2, g3, A1, c1, B1, d1, O1, f1, k6, lo, hi, ⟨h.ag.put (by decide) _, h.be, slot_keep h.e0 (by decide) (by decide), slot_keep h.e1 (by decide) (by decide), slot_keep h.e2 (by decide) (by decide), slot_keep h.e3 (by decide) (by decide), fun x => (h.sA3 (x.resolve_left (by decide))), fun x => (h.sB3 (x.resolve_left (by decide))), fun x => (h.sO3 (x.resolve_left (by decide))), fun x => h.r3 (x.resolve_left (by decide)), fun x => h.p3 (x.resolve_left (by decide)), fun x y => h.k3 (x.resolve_left (by decide)) (y.resolve_left (by decide)), fun _ => eval_put_same a _ (h.ag.lt rfl), fun x => absurd (dep_of 4 rfl (hcl 5 _ rfl (x.resolve_left (by decide)))) hD, fun x => absurd (dep_of 4 rfl (hcl 6 _ rfl (x.resolve_left (by decide)))) hD, fun x => absurd (dep_of 4 rfl (hcl 7 _ rfl (x.resolve_left (by decide)))) hD, fun x => absurd (dep_of 4 rfl (hcl 8 _ rfl (x.resolve_left (by decide)))) hD, fun x => absurd (dep_of 4 rfl (hcl 9 _ rfl (x.resolve_left (by decide)))) hD, slot_keep h.e10 (by decide) (by decide), fun x => h.h10 (x.resolve_left (by decide)), fun x n0 => (h.z10 (x.resolve_left (by decide)) (fun y => n0 (Or.inr y))), fun x => absurd (dep_of 4 rfl (hcl 11 _ rfl (x.resolve_left (by decide)))) hD, fun x => absurd (dep_of 4 rfl (hcl 12 _ rfl (x.resolve_left (by decide)))) hD, fun x => absurd (dep_of 4 rfl (hcl 13 _ rfl (x.resolve_left (by decide)))) hD, fun x => absurd (dep_of 4 rfl (hcl 14 _ rfl (x.resolve_left (by decide)))) hD, fun x => absurd (dep_of 4 rfl (hcl 15 _ rfl (x.resolve_left (by decide)))) hD⟩⟩
    · intro D a w' hI hD hdep hcl
      obtain ⟨g1, g2, g3, A1, c1, B1, d1, O1, f1, k6, lo, hi, h⟩ := hI
      have he := eval_get (h.e4 (dep_of 4 rfl hdep))
      refine wp_yield (v := .agg #[.slice A1 L.length c1, .int .i64 n, .slice B1 bs'.length d1, .slice O1 os'.length f1]) (w' := w') (by clear h hdep hcl hD; go_simp) ?_
      exact ⟨g1, g2, g3, A1, c1, B1, d1, O1, f1, k6, lo, hi, ⟨h.ag.put (by decide) _, h.be, slot_keep h.e0 (by decide) (by decide), slot_keep h.e1 (by decide) (by decide), slot_keep h.e2 (by decide) (by decide), slot_keep h.e3 (by decide) (by decide), fun x => (h.sA3 (x.resolve_left (by decide))), fun x => (h.sB3 (x.resolve_left (by decide))), fun x => (h.sO3 (x.resolve_left (by decide))), fun x => h.r3 (x.resolve_left (by decide)), fun x => h.p3 (x.resolve_left (by decide)), fun x y => h.k3 (x.resolve_left (by decide)) (y.resolve_left (by decide)), slot_keep h.e4 (by decide) (by decide), fun _ => eval_put_same a _ (h.ag.lt rfl), slot_keep h.e6 (by decide) (by decide), slot_keep h.e7 (by decide) (by decide), slot_keep h.e8 (by decide) (by decide), slot_keep h.e9 (by decide) (by decide), slot_keep h.e10 (by decide) (by decide), fun x => h.h10 (x.resolve_left (by decide)), fun x n0 => (h.z10 (x.resolve_left (by decide)) (fun y => n0 (Or.inr y))), fun x => absurd (dep_of 5 rfl (hcl 11 _ rfl (x.resolve_left (by decide)))) hD, fun x => absurd (dep_of 5 rfl (hcl 12 _ rfl (x.resolve_left (by decide)))) hD, fun x => absurd (dep_of 5 rfl (hcl 13 _ rfl (x.resolve_left (by decide)))) hD, fun x => absurd (dep_of 5 rfl (hcl 14 _ rfl (x.resolve_left (by decide)))) hD, fun x => absurd (dep_of 5 rfl (hcl 15 _ rfl (x.resolve_left (by decide)))) hD⟩⟩
    · intro D a w' hI hD hdep hcl
      obtain ⟨g1, g2, g3, A1, c1, B1, d1, O1, f1, k6, lo, hi, h⟩ := hI
      have he := eval_get (h.e4 (dep_of 4 rfl hdep))
      refine wp_yield (v := .bool en) (w' := w') (by clear h hdep hcl hD; go_simp) ?_
      exact ⟨g1, g2, g3, A1, c1, B1, d1, O1, f1, k6, lo, hi, ⟨h.ag.put (by decide) _, h.be, slot_keep h.e0 (by decide) (by decide), slot_keep h.e1 (by decide) (by decide), slot_keep h.e2 (by decide) (by decide), slot_keep h.e3 (by decide) (by decide), fun x => (h.sA3 (x.resolve_left (by decide))), fun x => (h.sB3 (x.resolve_left (by decide))), fun x => (h.sO3 (x.resolve_left (by decide))), fun x => h.r3 (x.resolve_left (by decide)), fun x => h.p3 (x.resolve_left (by decide)), fun x y => h.k3 (x.resolve_left (by decide)) (y.resolve_left (by decide)), slot_keep h.e4 (by decide) (by decide), slot_keep h.e5 (by decide) (by decide), fun _ => eval_put_same a _ (h.ag.lt rfl), slot_keep h.e7 (by decide) (by decide), slot_keep h.e8 (by decide) (by decide), slot_keep h.e9 (by decide) (by decide), slot_keep h.e10 (by decide) (by decide), fun x => h.h10 (x.resolve_left (by decide)), fun x n0 => (h.z10 (x.resolve_left (by decide)) (fun y => n0 (Or.inr y))), fun x => (h.z11 (x.resolve_left (by decide))), fun x => absurd (dep_of 6 rfl (hcl 12 _ rfl (x.resolve_left (by decide)))) hD, fun x => absurd (dep_of 6 rfl (hcl 13 _ rfl (x.resolve_left (by decide)))) hD, fun x => absurd (dep_of 6 rfl (hcl 14 _ rfl (x.resolve_left (by decide)))) hD, fun x => absurd (dep_of 6 rfl (hcl 15 _ rfl (x.resolve_left (by decide)))) hD⟩⟩
    · intro D a w' hI hD hdep hcl
      obtain ⟨g1, g2, g3, A1, c1, B1, d1, O1, f1, k6, lo, hi, h⟩ := hI
      have he := eval_get (h.e4 (dep_of 4 rfl hdep))
      refine wp_yield (v := .int .i64 code) (w' := w') (by clear h hdep hcl hD; go_simp) ?_
      exact ⟨g1, g2, g3, A1, c1, B1, d1, O1, f1, k6, lo, hi, ⟨h.ag.put (by decide) _, h.be, slot_keep h.e0 (by decide) (by decide), slot_keep h.e1 (by decide) (by decide), slot_keep h.e2 (by decide) (by decide), slot_keep h.e3 (by decide) (by decide), fun x => (h.sA3 (x.resolve_left (by decide))), fun x => (h.sB3 (x.resolve_left (by decide))), fun x => (h.sO3 (x.resolve_left (by decide))), fun x => h.r3 (x.resolve_left (by decide)), fun x => h.p3 (x.resolve_left (by decide)), fun x y => h.k3 (x.resolve_left (by decide)) (y.resolve_left (by decide)), slot_keep h.e4 (by decide) (by decide), slot_keep h.e5 (by decide) (by decide), slot_keep h.e6 (by decide) (by decide), fun _ => eval_put_same a _ (h.ag.lt rfl), slot_keep h.e8 (by decide) (by decide), slot_keep h.e9 (by decide) (by decide), slot_keep h.e10 (by decide) (by decide), fun x => h.h10 (x.resolve_left (by decide)), fun x n0 => (h.z10 (x.resolve_left (by decide)) (fun y => n0 (Or.inr y))), fun x => (h.z11 (x.resolve_left (by decide))), slot_keep h.e12 (by decide) (by decide), fun x => absurd (dep_of 7 rfl (hcl 13 _ rfl (x.resolve_left (by decide)))) hD, fun x => absurd (dep_of 7 rfl (hcl 14 _ rfl (x.resolve_left (by decide)))) hD, fun x => absurd (dep_of 7 rfl (hcl 15 _ rfl (x.resolve_left (by decide)))) hD⟩⟩
    · intro D a w' hI hD hdep hcl
      obtain ⟨g1, g2, g3, A1, c1, B1, d1, O1, f1, k6, lo, hi, h⟩ := hI
      have he := eval_get (h.e4 (dep_of 4 rfl hdep))
      refine wp_yield (v := .int .i64 res) (w' := w') (by clear h hdep hcl hD; go_simp) ?_
      exact ⟨g1, g2, g3, A1, c1, B1, d1, O1, f1, k6, lo, hi, ⟨h.ag.put (by decide) _, h.be, slot_keep h.e0 (by decide) (by decide), slot_keep h.e1 (by decide) (by decide), slot_keep h.e2 (by decide) (by decide), slot_keep h.e3 (by decide) (by decide), fun x => (h.sA3 (x.resolve_left (by decide))), fun x => (h.sB3 (x.resolve_left (by decide))), fun x => (h.sO3 (x.resolve_left (by decide))), fun x => h.r3 (x.resolve_left (by decide)), fun x => h.p3 (x.resolve_left (by decide)), fun x y => h.k3 (x.resolve_left (by decide)) (y.resolve_left (by decide)), slot_keep h.e4 (by decide) (by decide), slot_keep h.e5 (by decide) (by decide), slot_keep h.e6 (by decide) (by decide), slot_keep h.e7 (by decide) (by decide), fun _ => eval_put_same a _ (h.ag.lt rfl), slot_keep h.e9 (by decide) (by decide), slot_keep h.e10 (by decide) (by decide), fun x => h.h10 (x.resolve_left (by decide)), fun x n0 => (h.z10 (x.resolve_left (by decide)) (fun y => n0 (Or.inr y))), fun x => (h.z11 (x.resolve_left (by decide))), slot_keep h.e12 (by decide) (by decide), slot_keep h.e13 (by decide) (by decide), fun x => absurd (dep_of 8 rfl (hcl 14 _ rfl (x.resolve_left (by decide)))) hD, fun x => absurd (dep_of 8 rfl (hcl 15 _ rfl (x.resolve_left (by decide)))) hD⟩⟩
    · intro D a w' hI hD hdep hcl
      obtain ⟨g1, g2, g3, A1, c1, B1, d1, O1, f1, k6, lo, hi, h⟩ := hI
      have he := eval_get (h.e4 (dep_of 4 rfl hdep))
      refine wp_yield (v := .int .i64 met) (w' := w') (by clear h hdep hcl hD; go_simp) ?_
      exact ⟨g1, g2, g3, A1, c1, B1, d1, O1, f1, k6, lo, hi, ⟨h.ag.put (by decide) _, h.be, slot_keep h.e0 (by decide) (by decide), slot_keep h.e1 (by decide) (by decide), slot_keep h.e2 (by decide) (by decide), slot_keep h.e3 (by decide) (by decide), fun x => (h.sA3 (x.resolve_left (by decide))), fun x => (h.sB3 (x.resolve_left (by decide))), fun x => (h.sO3 (x.resolve_left (by decide))), fun x => h.r3 (x.resolve_left (by decide)), fun x => h.p3 (x.resolve_left (by decide)), fun x y => h.k3 (x.resolve_left (by decide)) (y.resolve_left (by decide)), slot_keep h.e4 (by decide) (by decide), slot_keep h.e5 (by decide) (by decide), slot_keep h.e6 (by decide) (by decide), slot_keep h.e7 (by decide) (by decide), slot_keep h.e8 (by decide) (by decide), fun _ => eval_put_same a _ (h.ag.lt rfl), slot_keep h.e10 (by decide) (by decide), fun x => h.h10 (x.resolve_left (by decide)), fun x n0 => (h.z10 (x.resolve_left (by decide)) (fun y => n0 (Or.inr y))), fun x => (h.z11 (x.resolve_left (by decide))), slot_keep h.e12 (by decide) (by decide), slot_keep h.e13 (by decide) (by decide), slot_keep h.e14 (by decide) (by decide), fun x => absurd (dep_of 9 rfl (hcl 15 _ rfl (x.resolve_left (by decide)))) hD⟩⟩
    · intro D a w' hI hD hdep hcl
      obtain ⟨g1, g2, g3, A1, c1, B1, d1, O1, f1, k6, lo, hi, h⟩ := hI
      refine wp_yield (v := .pointer (some ⟨w'.heap.size, 0, none⟩)) (w' := w'.alloc (.cells #[.slice none 0 0, .int .i64 0, .slice none 0 0, .slice none 0 0] 31)) (by clear h hdep hcl hD; go_simp) ?_
      exact ⟨g1, g2, g3, A1, c1, B1, d1, O1, f1, w'.heap.size, lo, hi, ⟨h.ag.put (by decide) _, below_trans h.be (below_alloc _ _), slot_keep h.e0 (by decide) (by decide), slot_keep h.e1 (by decide) (by decide), slot_keep h.e2 (by decide) (by decide), slot_keep h.e3 (by decide) (by decide), fun x => (h.sA3 (x.resolve_left (by decide))).below (below_alloc _ _), fun x => (h.sB3 (x.resolve_left (by decide))).below (below_alloc _ _), fun x => (h.sO3 (x.resolve_left (by decide))).below (below_alloc _ _), fun x => ⟨(h.r3 (x.resolve_left (by decide))).1, Nat.le_trans (h.r3 (x.resolve_left (by decide))).2 (by rw [size_alloc]; omega)⟩, fun x => h.p3 (x.resolve_left (by decide)), fun x _ => .inr (h.r3 (x.resolve_left (by decide))).2, slot_keep h.e4 (by decide) (by decide), slot_keep h.e5 (by decide) (by decide), slot_keep h.e6 (by decide) (by decide), slot_keep h.e7 (by decide) (by decide), slot_keep h.e8 (by decide) (by decide), slot_keep h.e9 (by decide) (by decide), fun _ => eval_put_same a _ (h.ag.lt rfl), fun _ => h.be.size, fun _ _ => BoxC.new _ _ _, fun x => absurd (dep_of 10 rfl (hcl 11 _ rfl (x.resolve_left (by decide)))) hD, fun x => absurd (dep_of 10 rfl (hcl 12 _ rfl (x.resolve_left (by decide)))) hD, fun x => absurd (dep_of 10 rfl (hcl 13 _ rfl (x.resolve_left (by decide)))) hD, fun x => absurd (dep_of 10 rfl (hcl 14 _ rfl (x.resolve_left (by decide)))) hD, fun x => absurd (dep_of 10 rfl (hcl 15 _ rfl (x.resolve_left (by decide)))) hD⟩⟩
    · intro D a w' hI hD hdep hcl
      obtain ⟨g1, g2, g3, A1, c1, B1, d1, O1, f1, k6, lo, hi, h⟩ := hI
      have hal := dep_of 10 rfl hdep
      have hbx := h.z10 hal hD
      have h8 := h.h10 hal
      refine wp_store_row 31 _ _ rfl k6 _ (h.e10 hal) (h.e5 (dep_of 5 rfl hdep)) 31 _ hbx info_model rfl (one4m _ _ _ _ _ _ _ _ _ _) ?_
      exact ⟨g1, g2, g3, A1, c1, B1, d1, O1, f1, k6, lo, hi, ⟨h.ag, below_setRow h.be h8 _, fun x => h.e0 (x.resolve_left (by decide)), fun x => h.e1 (x.resolve_left (by decide)), fun x => h.e2 (x.resolve_left (by decide)), fun x => h.e3 (x.resolve_left (by decide)), fun x => (h.sA3 (x.resolve_left (by decide))).row (h.k3 (x.resolve_left (by decide)) hal) _, fun x => (h.sB3 (x.resolve_left (by decide))).row (h.k3 (x.resolve_left (by decide)) hal) _, fun x => (h.sO3 (x.resolve_left (by decide))).row (h.k3 (x.resolve_left (by decide)) hal) _, fun x => ⟨(h.r3 (x.resolve_left (by decide))).1, Nat.le_trans (h.r3 (x.resolve_left (by decide))).2 (gr_setRow _ _ _).size⟩, fun x => h.p3 (x.resolve_left (by decide)), fun x y => h.k3 (x.resolve_left (by decide)) (y.resolve_left (by decide)), fun x => h.e4 (x.resolve_left (by decide)), fun x => h.e5 (x.resolve_left (by decide)), fun x => h.e6 (x.resolve_left (by decide)), fun x => h.e7 (x.resolve_left (by decide)), fun x => h.e8 (x.resolve_left (by decide)), fun x => h.e9 (x.resolve_left (by decide)), fun x => h.e10 (x.resolve_left (by decide)), fun x => h.h10 (x.resolve_left (by decide)), fun _ n0 => absurd (Or.inl rfl) n0, fun _ => hbx.mrow _, fun x => absurd (dep_of 11 rfl (hcl 12 _ rfl (x.resolve_left (by decide)))) hD, fun x => absurd (dep_of 11 rfl (hcl 13 _ rfl (x.resolve_left (by decide)))) hD, fun x => absurd (dep_of 11 rfl (hcl 14 _ rfl (x.resolve_left (by decide)))) hD, fun x => absurd (dep_of 11 rfl (hcl 15 _ rfl (x.resolve_left (by decide)))) hD⟩⟩
    · intro D a w' hI hD hdep hcl
      obtain ⟨g1, g2, g3, A1, c1, B1, d1, O1, f1, k6, lo, hi, h⟩ := hI
      have he := eval_get (h.e6 (dep_of 6 rfl hdep))
      refine wp_yield (v := .bool en) (w' := w') (by clear h hdep hcl hD; go_simp) ?_
      exact ⟨g1, g2, g3, A1, c1, B1, d1, O1, f1, k6, lo, hi, ⟨h.ag.put (by decide) _, h.be, slot_keep h.e0 (by decide) (by decide), slot_keep h.e1 (by decide) (by decide), slot_keep h.e2 (by decide) (by decide), slot_keep h.e3 (by decide) (by decide), fun x => (h.sA3 (x.resolve_left (by decide))), fun x => (h.sB3 (x.resolve_left (by decide))), fun x => (h.sO3 (x.resolve_left (by decide))), fun x => h.r3 (x.resolve_left (by decide)), fun x => h.p3 (x.resolve_left (by decide)), fun x y => h.k3 (x.resolve_left (by decide)) (y.resolve_left (by decide)), slot_keep h.e4 (by decide) (by decide), slot_keep h.e5 (by decide) (by decide), slot_keep h.e6 (by decide) (by decide), slot_keep h.e7 (by decide) (by decide), slot_keep h.e8 (by decide) (by decide), slot_keep h.e9 (by decide) (by decide), slot_keep h.e10 (by decide) (by decide), fun x => h.h10 (x.resolve_left (by decide)), fun x n0 => (h.z10 (x.resolve_left (by decide)) (fun y => n0 (Or.inr y))), fun x => (h.z11 (x.resolve_left (by decide))), fun _ => eval_put_same a _ (h.ag.lt rfl), fun x => absurd (dep_of 12 rfl (hcl 13 _ rfl (x.resolve_left (by decide)))) hD, fun x => absurd (dep_of 12 rfl (hcl 14 _ rfl (x.resolve_left (by decide)))) hD, fun x => absurd (dep_of 12 rfl (hcl 15 _ rfl (x.resolve_left (by decide)))) hD⟩⟩
    · intro D a w' hI hD hdep hcl
      obtain ⟨g1, g2, g3, A1, c1, B1, d1, O1, f1, k6, lo, hi, h⟩ := hI
      have he := eval_get (h.e7 (dep_of 7 rfl hdep))
      refine wp_yield (v := .int .i64 code) (w' := w') (by clear h hdep hcl hD; go_simp) ?_
      exact ⟨g1, g2, g3, A1, c1, B1, d1, O1, f1, k6, lo, hi, ⟨h.ag.put (by decide) _, h.be, slot_keep h.e0 (by decide) (by decide), slot_keep h.e1 (by decide) (by decide), slot_keep h.e2 (by decide) (by decide), slot_keep h.e3 (by decide) (by decide), fun x => (h.sA3 (x.resolve_left (by decide))), fun x => (h.sB3 (x.resolve_left (by decide))), fun x => (h.sO3 (x.resolve_left (by decide))), fun x => h.r3 (x.resolve_left (by decide)), fun x => h.p3 (x.resolve_left (by decide)), fun x y => h.k3 (x.resolve_left (by decide)) (y.resolve_left (by decide)), slot_keep h.e4 (by decide) (by decide), slot_keep h.e5 (by decide) (by decide), slot_keep h.e6 (by decide) (by decide), slot_keep h.e7 (by decide) (by decide), slot_keep h.e8 (by decide) (by decide), slot_keep h.e9 (by decide) (by decide), slot_keep h.e10 (by decide) (by decide), fun x => h.h10 (x.resolve_left (by decide)), fun x n0 => (h.z10 (x.resolve_left (by decide)) (fun y => n0 (Or.inr y))), fun x => (h.z11 (x.resolve_left (by decide))), slot_keep h.e12 (by decide) (by decide), fun _ => eval_put_same a _ (h.ag.lt rfl), fun x => absurd (dep_of 13 rfl (hcl 14 _ rfl (x.resolve_left (by decide)))) hD, fun x => absurd (dep_of 13 rfl (hcl 15 _ rfl (x.resolve_left (by decide)))) hD⟩⟩
    · intro D a w' hI hD hdep hcl
      obtain ⟨g1, g2, g3, A1, c1, B1, d1, O1, f1, k6, lo, hi, h⟩ := hI
      have he := eval_get (h.e8 (dep_of 8 rfl hdep))
      refine wp_yield (v := .int .i64 res) (w' := w') (by clear h hdep hcl hD; go_simp) ?_
      exact ⟨g1, g2, g3, A1, c1, B1, d1, O1, f1, k6, lo, hi, ⟨h.ag.put (by decide) _, h.be, slot_keep h.e0 (by decide) (by decide), slot_keep h.e1 (by decide) (by decide), slot_keep h.e2 (by decide) (by decide), slot_keep h.e3 (by decide) (by decide), fun x => (h.sA3 (x.resolve_left (by decide))), fun x => (h.sB3 (x.resolve_left (by decide))), fun x => (h.sO3 (x.resolve_left (by decide))), fun x => h.r3 (x.resolve_left (by decide)), fun x => h.p3 (x.resolve_left (by decide)), fun x y => h.k3 (x.resolve_left (by decide)) (y.resolve_left (by decide)), slot_keep h.e4 (by decide) (by decide), slot_keep h.e5 (by decide) (by decide), slot_keep h.e6 (by decide) (by decide), slot_keep h.e7 (by decide) (by decide), slot_keep h.e8 (by decide) (by decide), slot_keep h.e9 (by decide) (by decide), slot_keep h.e10 (by decide) (by decide), fun x => h.h10 (x.resolve_left (by decide)), fun x n0 => (h.z10 (x.resolve_left (by decide)) (fun y => n0 (Or.inr y))), fun x => (h.z11 (x.resolve_left (by decide))), slot_keep h.e12 (by decide) (by decide), slot_keep h.e13 (by decide) (by decide), fun _ => eval_put_same a _ (h.ag.lt rfl), fun x => absurd (dep_of 14 rfl (hcl 15 _ rfl (x.resolve_left (by decide)))) hD⟩⟩
    · intro D a w' hI hD hdep hcl
      obtain ⟨g1, g2, g3, A1, c1, B1, d1, O1, f1, k6, lo, hi, h⟩ := hI
      have he := eval_get (h.e9 (dep_of 9 rfl hdep))
      refine wp_yield (v := .int .i64 met) (w' := w') (by clear h hdep hcl hD; go_simp) ?_
      exact ⟨g1, g2, g3, A1, c1, B1, d1, O1, f1, k6, lo, hi, ⟨h.ag.put (by decide) _, h.be, slot_keep h.e0 (by decide) (by decide), slot_keep h.e1 (by decide) (by decide), slot_keep h.e2 (by decide) (by decide), slot_keep h.e3 (by decide) (by decide), fun x => (h.sA3 (x.resolve_left (by decide))), fun x => (h.sB3 (x.resolve_left (by decide))), fun x => (h.sO3 (x.resolve_left (by decide))), fun x => h.r3 (x.resolve_left (by decide)), fun x => h.p3 (x.resolve_left (by decide)), fun x y => h.k3 (x.resolve_left (by decide)) (y.resolve_left (by decide)), slot_keep h.e4 (by decide) (by decide), slot_keep h.e5 (by decide) (by decide), slot_keep h.e6 (by decide) (by decide), slot_keep h.e7 (by decide) (by decide), slot_keep h.e8 (by decide) (by decide), slot_keep h.e9 (by decide) (by decide), slot_keep h.e10 (by decide) (by decide), fun x => h.h10 (x.resolve_left (by decide)), fun x n0 => (h.z10 (x.resolve_left (by decide)) (fun y => n0 (Or.inr y))), fun x => (h.z11 (x.resolve_left (by decide))), slot_keep h.e12 (by decide) (by decide), slot_keep h.e13 (by decide) (by decide), slot_keep h.e14 (by decide) (by decide), fun _ => eval_put_same a _ (h.ag.lt rfl)⟩⟩
  · rintro D a w' ⟨g1, g2, g3, A1, c1, B1, d1, O1, f1, k6, lo, hi, h⟩ hD
    have hd := fun i (hi : Nat.ble (i + 1) 16 = true) => hD i (Nat.le_of_ble_eq_true hi)
    exact ⟨A1, c1, B1, d1, O1, f1, k6, lo, hi, h.ag, h.e10 (hd 10 rfl), h.e12 (hd 12 rfl), h.e13 (hd 13 rfl), h.e14 (hd 14 rfl), h.e15 (hd 15 rfl), h.z11 (hd 11 rfl), h.sA3 (hd 3 rfl), h.sB3 (hd 3 rfl), h.sO3 (hd 3 rfl), h.p3 (hd 3 rfl), h.r3 (hd 3 rfl), h.k3 (hd 3 rfl) (hd 10 rfl), h.h10 (hd 10 rfl), h.be⟩
  rintro a' w5 ⟨AG, cG, BG, dG, OG, fG, kG, loG, hiG, hag, t0, t1, t2, t3, t4, hbx, qA, qB, qO, qP, qr, qk, hk6, hbe⟩
  have he := hag.eq
  clear hag
  simp only [List.foldl_cons, List.foldl_nil] at he
  rw [t0, t1, t2, t3, t4] at he
  clear t0 t1 t2 t3 t4
  generalize a'.eval (.tmp 43) = uG43 at he
  generalize a'.eval (.tmp 44) = uG44 at he
  generalize a'.eval (.tmp 45) = uG45 at he
  generalize a'.eval (.tmp 46) = uG46 at he
  generalize a'.eval (.tmp 47) = uG47 at he
  generalize a'.eval (.tmp 48) = uG48 at he
  generalize a'.eval (.tmp 49) = uG49 at he
  generalize a'.eval (.tmp 50) = uG50 at he
  generalize a'.eval (.tmp 51) = uG51 at he
  generalize a'.eval (.tmp 52) = uG52 at he
  simp only [Act.put, List.setIfInBounds_toArray, List.set_cons_zero, List.set_cons_succ] at he
  subst he
  have K_M4 := Lib.hid (BoxC.below K_M3.out hbe)
  have K_W4 := Lib.hid (BoxC.below K_W3.out hbe)
  have KW4 := Lib.hid (BoxC.below KW3.out hbe)
  have KX4 := Lib.hid (BoxC.below KX0.out hbe)
  have SWA4 := Lib.hid (SegH.below SWA3.out hbe)
  have SWB4 := Lib.hid (SegH.below SWB3.out hbe)
  have SWO4 := Lib.hid (SegH.below SWO3.out hbe)
  have SXA4 := Lib.hid (SegH.below SXA3.out hbe)
  have SXB4 := Lib.hid (SegH.below SXB3.out hbe)
  have SXO4 := Lib.hid (SegH.below SXO3.out hbe)
  have B4 := Lib.hid (below_trans B3.out hbe)
  have kW4 := KW4.out.cell
  have KG0 := Lib.hid hbx; have SGA0 := Lib.hid qA; have SGB0 := Lib.hid qB; have SGO0 := Lib.hid qO
  have hrG : w4.heap.size ≤ loG ∧ hiG ≤ w5.heap.size := qr
  have hqG : kG < loG ∨ hiG ≤ kG := qk
  have hlG : w4.heap.size ≤ kG ∧ kG < w5.heap.size := ⟨hk6, hbx.lt⟩
  have hsw5 : w4.heap.size ≤ w5.heap.size := hbe.size
  have HPG := Lib.hid qP
  have kG0 := KG0.out.cell
  clear K_M3 K_W3 KW3 KX0 SWA3 SWB3 SWO3 SXA3 SXB3 SXO3 B3 kW3 hbx qA qB qO qr qk hk6 hbe qP
  as_aux_lemma =>
  go_wp2_with fail
  refine (eqModel_same _ _ _ _ _ _ L bs' os' n _ _ _ _ _ _ _ rL rB rO SGA0.out.rd SGB0.out.rdW SGO0.out.rdW SWA4.out.rd SWB4.out.rdW SWO4.out.rdW).mono ?_
  rintro e w6 ⟨rfl, hb⟩
  have K_M5 := Lib.hid (BoxC.below K_M4.out hb)
  have K_W5 := Lib.hid (BoxC.below K_W4.out hb)
  have KW5 := Lib.hid (BoxC.below KW4.out hb)
  have KX5 := Lib.hid (BoxC.below KX4.out hb)
  have KG5 := Lib.hid (BoxC.below KG0.out hb)
  have SWA5 := Lib.hid (SegH.below SWA4.out hb)
  have SWB5 := Lib.hid (SegH.below SWB4.out hb)
  have SWO5 := Lib.hid (SegH.below SWO4.out hb)
  have SXA5 := Lib.hid (SegH.below SXA4.out hb)
  have SXB5 := Lib.hid (SegH.below SXB4.out hb)
  have SXO5 := Lib.hid (SegH.below SXO4.out hb)
  have SGA5 := Lib.hid (SegH.below SGA0.out hb)
  have SGB5 := Lib.hid (SegH.below SGB0.out hb)
  have SGO5 := Lib.hid (SegH.below SGO0.out hb)
  have B5 := Lib.hid (below_trans B4.out hb)
  have kW5 := KW5.out.cell
  have kG5 := KG5.out.cell
  have hs6 : w5.heap.size ≤ w6.heap.size := hb.size
  clear K_M4 K_W4 KW4 KX4 KG0 SWA4 SWB4 SWO4 SXA4 SXB4 SXO4 SGA0 SGB0 SGO0 B4 kW4 kG0 hb
  go_upto_region 10 with fail
  go_region_held3 (fun w' => (∀ j : Nat, w'.cell? ⟨w3.heap.size, j, none⟩ = (#[.slice (some ⟨x1, 0, none⟩) zs.length zs.length, .int .i64 cnt, .slice (some ⟨x2, 0, none⟩) bs.length bs.length, .slice (some ⟨x3, 0, none⟩) os.length os.length] : Array Value)[j]?) ∧ (∀ j : Nat, w'.cell? ⟨w.heap.size, j, none⟩ = (#[.slice A zs.length ca, .int .i64 cnt, .slice B bs.length cb, .slice O os.length co] : Array Value)[j]?))
    (first | exact ⟨KX5.out.cell, K_M5.out.cell⟩ | exact ⟨(KX5.out.below (below_drew_trans hb7)).cell, (K_M5.out.below (below_drew_trans hb7)).cell⟩ | exact ⟨((KX5.out.below (below_drew_trans hb7)).below hb8).cell, ((K_M5.out.below (below_drew_trans hb7)).below hb8).cell⟩)
    (first
      | (go_at_call 13; (with_reducible refine (toModel_any _ _ _ _ _ _ zs bs os cnt _ sz st sc (HA.out.below B5.out).drew (HT.out.below B5.out).drewW (HC.out.below B5.out).drewW).mono ?_); rintro e v7 ⟨c1, c2, c3, rfl, _, _, _, oA, oT, oC, hb7⟩)
      | (go_at_call 16; (with_reducible refine (eqModel_same _ _ _ _ _ _ zs bs os cnt _ _ _ _ _ _ _ sz st sc (SXA5.out.rd.below (below_drew_trans hb7)) (SXB5.out.rdW.below (below_drew_trans hb7)) (SXO5.out.rdW.below (below_drew_trans hb7)) oA.rd oT.rd oC.rd).mono ?_); rintro e w7 ⟨rfl, hb8⟩))
  have hb := below_trans (below_drew_trans hb7) hb8
  clear hb7 hb8 oA oT oC
  have K_M6 := Lib.hid (BoxC.below K_M5.out hb)
  have K_W6 := Lib.hid (BoxC.below K_W5.out hb)
  have KW6 := Lib.hid (BoxC.below KW5.out hb)
  have KX6 := Lib.hid (BoxC.below KX5.out hb)
  have KG6 := Lib.hid (BoxC.below KG5.out hb)
  have SWA6 := Lib.hid (SegH.below SWA5.out hb)
  have SWB6 := Lib.hid (SegH.below SWB5.out hb)
  have SWO6 := Lib.hid (SegH.below SWO5.out hb)
  have SXA6 := Lib.hid (SegH.below SXA5.out hb)
  have SXB6 := Lib.hid (SegH.below SXB5.out hb)
  have SXO6 := Lib.hid (SegH.below SXO5.out hb)
  have SGA6 := Lib.hid (SegH.below SGA5.out hb)
  have SGB6 := Lib.hid (SegH.below SGB5.out hb)
  have SGO6 := Lib.hid (SegH.below SGO5.out hb)
  have B6 := Lib.hid (below_trans B5.out hb)
  have kW6 := KW6.out.cell
  have kG6 := KG6.out.cell
  have hs7 : w6.heap.size ≤ w7.heap.size := hb.size
  clear K_M5 K_W5 KW5 KX5 KG5 SWA5 SWB5 SWO5 SXA5 SXB5 SXO5 SGA5 SGB5 SGO5 B5 kW5 kG5 hb
  have ox1 : ∀ q, (Value.slice (some ⟨x1, 0, none⟩) zs.length zs.length).ownBlock = some q → w2.heap.size ≤ q ∧ q < w3.heap.size := fun q e => by obtain rfl : x1 = q := Option.some.inj e; omega
  have ox2 : ∀ q, (Value.slice (some ⟨x2, 0, none⟩) bs.length bs.length).ownBlock = some q → w2.heap.size ≤ q ∧ q < w3.heap.size := fun q e => by obtain rfl : x2 = q := Option.some.inj e; omega
  have ox3 : ∀ q, (Value.slice (some ⟨x3, 0, none⟩) os.length os.length).ownBlock = some q → w2.heap.size ≤ q ∧ q < w3.heap.size := fun q e => by obtain rfl : x3 = q := Option.some.inj e; omega
  have kk := KX6.out.cell
  go_wp2_with fail
  refine (markModel_any _ _ _ _ _ _ zs.length bs.length os.length w2.heap.size zs (flatI bs) (flatI os) _ 1 _ rfl (flatI_len _) (flatI_len _) (by first | exact sz | exact rL) (by first | exact st | exact rB) (by first | exact sc | exact rO) (by decide) (by decide) SXA6.out.s (flat_ints _ ▸ SXB6.out.s) (flat_ints _ ▸ SXO6.out.s) (fun q e => by have := ox1 q e; omega) (fun q e => by have := ox2 q e; omega) (fun q e e' => by obtain rfl : x1 = q := Option.some.inj e; obtain rfl : x2 = x1 := Option.some.inj e'; omega) (fun q e e' => by obtain rfl : x1 = q := Option.some.inj e; obtain rfl : x3 = x1 := Option.some.inj e'; omega) (fun q e e' => by obtain rfl : x2 = q := Option.some.inj e; obtain rfl : x3 = x2 := Option.some.inj e'; omega)).mono ?_
  clear kk
  rintro e w10 ⟨rfl, mA, mB, mO, w8, w9, gA, gB, gO⟩
  clear mA mB mO
  clear SXA6 SXB6 SXO6 KX6
  have K_M7 := Lib.hid (BoxC.mgrownR K_M6.out gA (fun q e => by have := ox1 q e; omega))
  have K_W7 := Lib.hid (BoxC.mgrownR K_W6.out gA (fun q e => by have := ox1 q e; omega))
  have KW7 := Lib.hid (BoxC.mgrownR KW6.out gA (fun q e => by have := ox1 q e; omega))
  have KG7 := Lib.hid (BoxC.mgrownR KG6.out gA (fun q e => by have := ox1 q e; omega))
  have SWA7 := Lib.hid (SegH.grown SWA6.out gA (fun q e => by have := ox1 q e; omega))
  have SWB7 := Lib.hid (SegH.grown SWB6.out gA (fun q e => by have := ox1 q e; omega))
  have SWO7 := Lib.hid (SegH.grown SWO6.out gA (fun q e => by have := ox1 q e; omega))
  have SGA7 := Lib.hid (SegH.grown SGA6.out gA (fun q e => by have := ox1 q e; omega))
  have SGB7 := Lib.hid (SegH.grown SGB6.out gA (fun q e => by have := ox1 q e; omega))
  have SGO7 := Lib.hid (SegH.grown SGO6.out gA (fun q e => by have := ox1 q e; omega))
  have B7 := Lib.hid (B6.out.grown gA B6.out.size (fun q e => by have := ox1 q e; omega))
  have kW7 := KW7.out.cell
  have kG7 := KG7.out.cell
  have hs8 : w7.heap.size ≤ w8.heap.size := gA.size
  clear K_M6 K_W6 KW6 KG6 SWA6 SWB6 SWO6 SGA6 SGB6 SGO6 B6 kW6 kG6 gA
  have K_M8 := Lib.hid (BoxC.mgrownR K_M7.out gB (fun q e => by have := ox2 q e; omega))
  have K_W8 := Lib.hid (BoxC.mgrownR K_W7.out gB (fun q e => by have := ox2 q e; omega))
  have KW8 := Lib.hid (BoxC.mgrownR KW7.out gB (fun q e => by have := ox2 q e; omega))
  have KG8 := Lib.hid (BoxC.mgrownR KG7.out gB (fun q e => by have := ox2 q e; omega))
  have SWA8 := Lib.hid (SegH.grown SWA7.out gB (fun q e => by have := ox2 q e; omega))
  have SWB8 := Lib.hid (SegH.grown SWB7.out gB (fun q e => by have := ox2 q e; omega))
  have SWO8 := Lib.hid (SegH.grown SWO7.out gB (fun q e => by have := ox2 q e; omega))
  have SGA8 := Lib.hid (SegH.grown SGA7.out gB (fun q e => by have := ox2 q e; omega))
  have SGB8 := Lib.hid (SegH.grown SGB7.out gB (fun q e => by have := ox2 q e; omega))
  have SGO8 := Lib.hid (SegH.grown SGO7.out gB (fun q e => by have := ox2 q e; omega))
  have B8 := Lib.hid (B7.out.grown gB B7.out.size (fun q e => by have := ox2 q e; omega))
  have kW8 := KW8.out.cell
  have kG8 := KG8.out.cell
  have hs9 : w8.heap.size ≤ w9.heap.size := gB.size
  clear K_M7 K_W7 KW7 KG7 SWA7 SWB7 SWO7 SGA7 SGB7 SGO7 B7 kW7 kG7 gB
  have K_M9 := Lib.hid (BoxC.mgrownR K_M8.out gO (fun q e => by have := ox3 q e; omega))
  have K_W9 := Lib.hid (BoxC.mgrownR K_W8.out gO (fun q e => by have := ox3 q e; omega))
  have KW9 := Lib.hid (BoxC.mgrownR KW8.out gO (fun q e => by have := ox3 q e; omega))
  have KG9 := Lib.hid (BoxC.mgrownR KG8.out gO (fun q e => by have := ox3 q e; omega))
  have SWA9 := Lib.hid (SegH.grown SWA8.out gO (fun q e => by have := ox3 q e; omega))
  have SWB9 := Lib.hid (SegH.grown SWB8.out gO (fun q e => by have := ox3 q e; omega))
  have SWO9 := Lib.hid (SegH.grown SWO8.out gO (fun q e => by have := ox3 q e; omega))
  have SGA9 := Lib.hid (SegH.grown SGA8.out gO (fun q e => by have := ox3 q e; omega))
  have SGB9 := Lib.hid (SegH.grown SGB8.out gO (fun q e => by have := ox3 q e; omega))
  have SGO9 := Lib.hid (SegH.grown SGO8.out gO (fun q e => by have := ox3 q e; omega))
  have B9 := Lib.hid (B8.out.grown gO B8.out.size (fun q e => by have := ox3 q e; omega))
  have kW9 := KW9.out.cell
  have kG9 := KG9.out.cell
  have hs10 : w9.heap.size ≤ w10.heap.size := gO.size
  clear K_M8 K_W8 KW8 KG8 SWA8 SWB8 SWO8 SGA8 SGB8 SGO8 B8 kW8 kG8 gO
  clear ox1 ox2 ox3
  as_aux_lemma =>
  go_wp2_with fail
  refine (eqModel_same _ _ _ _ _ _ L bs' os' n _ _ _ _ _ _ _ rL rB rO SGA9.out.rd SGB9.out.rdW SGO9.out.rdW SWA9.out.rd SWB9.out.rdW SWO9.out.rdW).mono ?_
  rintro e w11 ⟨rfl, hb⟩
  have K_M10 := Lib.hid (BoxC.below K_M9.out hb)
  have K_W10 := Lib.hid (BoxC.below K_W9.out hb)
  have KW10 := Lib.hid (BoxC.below KW9.out hb)
  have KG10 := Lib.hid (BoxC.below KG9.out hb)
  have SWA10 := Lib.hid (SegH.below SWA9.out hb)
  have SWB10 := Lib.hid (SegH.below SWB9.out hb)
  have SWO10 := Lib.hid (SegH.below SWO9.out hb)
  have SGA10 := Lib.hid (SegH.below SGA9.out hb)
  have SGB10 := Lib.hid (SegH.below SGB9.out hb)
  have SGO10 := Lib.hid (SegH.below SGO9.out hb)
  have B10 := Lib.hid (below_trans B9.out hb)
  have kW10 := KW10.out.cell
  have kG10 := KG10.out.cell
  have hs11 : w10.heap.size ≤ w11.heap.size := hb.size
  clear K_M9 K_W9 KW9 KG9 SWA9 SWB9 SWO9 SGA9 SGB9 SGO9 B9 kW9 kG9 hb
  have og1 := HPG.out.u1; have og2 := HPG.out.v1; have og3 := HPG.out.x1
  have kk := KG10.out.cell
  go_wp2_with fail
  refine (markModel_any _ _ _ _ _ _ L.length bs'.length os'.length loG L (flatI bs') (flatI os') _ 1 _ rfl (flatI_len _) (flatI_len _) (by first | exact sz | exact rL) (by first | exact st | exact rB) (by first | exact sc | exact rO) (by decide) (by decide) SGA10.out.s (flat_ints _ ▸ SGB10.out.s) (flat_ints _ ▸ SGO10.out.s) (fun q e => by have := og1 q e; omega) (fun q e => by have := og2 q e; omega) HPG.out.d12 HPG.out.d13 HPG.out.d23).mono ?_
  clear kk
  rintro e w14 ⟨rfl, mA, mB, mO, w12, w13, gA, gB, gO⟩
  clear SGA10 SGB10 SGO10
  have K_M11 := Lib.hid (BoxC.mgrownR K_M10.out gA (fun q e => by have := og1 q e; omega))
  have K_W11 := Lib.hid (BoxC.mgrownR K_W10.out gA (fun q e => by have := og1 q e; omega))
  have KW11 := Lib.hid (BoxC.mgrownR KW10.out gA (fun q e => by have := og1 q e; omega))
  have KG11 := Lib.hid (BoxC.mgrownR KG10.out gA (fun q e => by have := og1 q e; omega))
  have SWA11 := Lib.hid (SegH.grown SWA10.out gA (fun q e => by have := og1 q e; omega))
  have SWB11 := Lib.hid (SegH.grown SWB10.out gA (fun q e => by have := og1 q e; omega))
  have SWO11 := Lib.hid (SegH.grown SWO10.out gA (fun q e => by have := og1 q e; omega))
  have B11 := Lib.hid (B10.out.grown gA B10.out.size (fun q e => by have := og1 q e; omega))
  have kW11 := KW11.out.cell
  have kG11 := KG11.out.cell
  have hs12 : w11.heap.size ≤ w12.heap.size := gA.size
  clear K_M10 K_W10 KW10 KG10 SWA10 SWB10 SWO10 B10 kW10 kG10 gA
  have K_M12 := Lib.hid (BoxC.mgrownR K_M11.out gB (fun q e => by have := og2 q e; omega))
  have K_W12 := Lib.hid (BoxC.mgrownR K_W11.out gB (fun q e => by have := og2 q e; omega))
  have KW12 := Lib.hid (BoxC.mgrownR KW11.out gB (fun q e => by have := og2 q e; omega))
  have KG12 := Lib.hid (BoxC.mgrownR KG11.out gB (fun q e => by have := og2 q e; omega))
  have SWA12 := Lib.hid (SegH.grown SWA11.out gB (fun q e => by have := og2 q e; omega))
  have SWB12 := Lib.hid (SegH.grown SWB11.out gB (fun q e => by have := og2 q e; omega))
  have SWO12 := Lib.hid (SegH.grown SWO11.out gB (fun q e => by have := og2 q e; omega))
  have B12 := Lib.hid (B11.out.grown gB B11.out.size (fun q e => by have := og2 q e; omega))
  have kW12 := KW12.out.cell
  have kG12 := KG12.out.cell
  have hs13 : w12.heap.size ≤ w13.heap.size := gB.size
  clear K_M11 K_W11 KW11 KG11 SWA11 SWB11 SWO11 B11 kW11 kG11 gB
  have K_M13 := Lib.hid (BoxC.mgrownR K_M12.out gO (fun q e => by have := og3 q e; omega))
  have K_W13 := Lib.hid (BoxC.mgrownR K_W12.out gO (fun q e => by have := og3 q e; omega))
  have KW13 := Lib.hid (BoxC.mgrownR KW12.out gO (fun q e => by have := og3 q e; omega))
  have KG13 := Lib.hid (BoxC.mgrownR KG12.out gO (fun q e => by have := og3 q e; omega))
  have SWA13 := Lib.hid (SegH.grown SWA12.out gO (fun q e => by have := og3 q e; omega))
  have SWB13 := Lib.hid (SegH.grown SWB12.out gO (fun q e => by have := og3 q e; omega))
  have SWO13 := Lib.hid (SegH.grown SWO12.out gO (fun q e => by have := og3 q e; omega))
  have B13 := Lib.hid (B12.out.grown gO B12.out.size (fun q e => by have := og3 q e; omega))
  have kW13 := KW13.out.cell
  have kG13 := KG13.out.cell
  have hs14 : w13.heap.size ≤ w14.heap.size := gO.size
  clear K_M12 K_W12 KW12 KG12 SWA12 SWB12 SWO12 B12 kW12 kG12 gO
  clear og1 og2 og3
  have SGAm := Lib.hid (SegH.of mA)
  have SGBm := Lib.hid (SegH.of mB)
  have SGOm := Lib.hid (SegH.of mO)
  clear mA mB mO
  as_aux_lemma =>
  have kk := KG13.out.cell
  go_wp2_with fail
  refine (heldModel_any _ _ _ _ _ _ L.length bs'.length os'.length _ 1 _ rL rB rO (by decide) (by decide) SGAm.out.rd SGBm.out.rd SGOm.out.rd).mono ?_
  rintro e w15 ⟨rfl, hb⟩
  have K_M14 := Lib.hid (BoxC.below K_M13.out hb)
  have K_W14 := Lib.hid (BoxC.below K_W13.out hb)
  have KW14 := Lib.hid (BoxC.below KW13.out hb)
  have KG14 := Lib.hid (BoxC.below KG13.out hb)
  have SWA14 := Lib.hid (SegH.below SWA13.out hb)
  have SWB14 := Lib.hid (SegH.below SWB13.out hb)
  have SWO14 := Lib.hid (SegH.below SWO13.out hb)
  have SGA14 := Lib.hid (SegH.below SGAm.out hb)
  have SGB14 := Lib.hid (SegH.below SGBm.out hb)
  have SGO14 := Lib.hid (SegH.below SGOm.out hb)
  have B14 := Lib.hid (below_trans B13.out hb)
  have kW14 := KW14.out.cell
  have kG14 := KG14.out.cell
  have hs15 : w14.heap.size ≤ w15.heap.size := hb.size
  clear K_M13 K_W13 KW13 KG13 SWA13 SWB13 SWO13 SGAm SGBm SGOm B13 kW13 kG13 hb
  clear kk
  go_upto_region 24 with fail
  refine region_cut (fun a0 D a w' => ∃ g1 g2 g3 A1 c1 B1 d1 O1 f1 k6 lo hi, MR24ModelCall w15 a0 A B O none none none ca cb co zs bs os cnt th op arg L n bs' os' en code res met D a w' g1 g2 g3 A1 c1 B1 d1 O1 f1 k6 lo hi) (fun a0 a w' => ∃ A1 c1 B1 d1 O1 f1 k6 lo hi, Agree a0 a [20, 21, 22, 23, 24, 124, 125, 126, 127, 128, 129, 130, 131, 132, 133, 134] ∧ a.eval (.tmp 20) = .pointer (some ⟨k6, 0, none⟩) ∧ a.eval (.tmp 21) = .bool en ∧ a.eval (.tmp 22) = .int .i64 code ∧ a.eval (.tmp 23) = .int .i64 res ∧ a.eval (.tmp 24) = .int .i64 met ∧ BoxC 31 w' k6 #[.slice A1 L.length c1, .int .i64 n, .slice B1 bs'.length d1, .slice O1 os'.length f1] ∧ SegH lo hi w' A1 (ints L) ∧ SegH lo hi w' B1 (flatV Wtr.cs bs') ∧ SegH lo hi w' O1 (flatV Wtr.cs os') ∧ P3 lo hi (.slice A1 L.length c1) (.slice B1 bs'.length d1) (.slice O1 os'.length f1) ∧ (w15.heap.size ≤ lo ∧ hi ≤ w'.heap.size) ∧ (k6 < lo ∨ hi ≤ k6) ∧ w15.heap.size ≤ k6 ∧ Below w15.heap.size w15 w') (by kernel_rfl) (by kernel_rfl) ?_ ?_ ?_ ?_
  · exact ⟨0, 0, 0, none, 0, none, 0, none, 0, 0, 0, 0, ⟨Agree.refl _ _, below_drewM _, fun x => x.elim, fun x => x.elim, fun x => x.elim, fun x => x.elim, fun x => x.elim, fun x => x.elim, fun x => x.elim, fun x => x.elim, fun x => x.elim, fun x => x.elim, fun x => x.elim, fun x => x.elim, fun x => x.elim, fun x => x.elim, fun x => x.elim, fun x => x.elim, fun x => x.elim, fun x => x.elim, fun x => x.elim, fun x => x.elim, fun x => x.elim, fun x => x.elim, fun x => x.elim, fun x => x.elim, fun x => x.elim, fun x => x.elim, fun x => x.elim, fun x => x.elim⟩⟩
  · intro K'
    refine Steps.cons (i := 0) (j := 1) rfl ?_ (Steps.cons (i := 1) (j := 2) rfl ?_ (Steps.cons (i := 2) (j := 3) rfl ?_ (Steps.cons (i := 3) (j := 4) rfl ?_ (Steps.cons (i := 4) (j := 5) rfl ?_ (Steps.cons (i := 5) (j := 6) rfl ?_ (Steps.cons (i := 6) (j := 7) rfl ?_ (Steps.cons (i := 7) (j := 8) rfl ?_ (Steps.cons (i := 8) (j := 9) rfl ?_ (Steps.cons (i := 9) (j := 10) rfl ?_ (Steps.cons (i := 10) (j := 11) rfl ?_ (Steps.cons (i := 11) (j := 12) rfl ?_ (Steps.cons (i := 12) (j := 13) rfl ?_ (Steps.cons (i := 13) (j := 14) rfl ?_ (Steps.cons (i := 14) (j := 15) rfl ?_ (Steps.cons (i := 15) (j := 16) rfl ?_ (Steps.cons (i := 16) (j := 17) rfl ?_ (Steps.nil)))))))))))))))))
    · intro D a w' hI hD hdep hcl
      obtain ⟨g1, g2, g3, A1, c1, B1, d1, O1, f1, k6, lo, hi, h⟩ := hI
      refine wp_load_row 25 _ rfl w.heap.size ((h.ag.eval (show 2 ∉ [20, 21, 22, 23, 24, 124, 125, 126, 127, 128, 129, 130, 131, 132, 133, 134] by decide)).trans rfl) 25 _ (0, 0) _ ((h.be.block _ K_M14.out.lt).trans K_M14.out) Try.underlying25 rfl info_lm ?_
      exact ⟨g1, g2, g3, A1, c1, B1, d1, O1, f1, k6, lo, hi, ⟨h.ag.put (by decide) _, h.be, fun _ => eval_put_same a _ (h.ag.lt rfl), fun x => absurd (dep_of 0 rfl (hcl 1 _ rfl (x.resolve_left (by decide)))) hD, fun x => absurd (dep_of 0 rfl (hcl 1 _ rfl (x.resolve_left (by decide)))) hD, fun x => absurd (dep_of 0 rfl (hcl 1 _ rfl (x.resolve_left (by decide)))) hD, fun x => absurd (dep_of 0 rfl (hcl 1 _ rfl (x.resolve_left (by decide)))) hD, slot_keep h.e2 (by decide) (by decide), fun x => absurd (dep_of 0 rfl (hcl 1 _ rfl (dep_of 1 rfl (hcl 3 _ rfl (x.resolve_left (by decide)))))) hD, fun x => absurd (dep_of 0 rfl (hcl 1 _ rfl (dep_of 1 rfl (hcl 4 _ rfl (x.resolve_left (by decide)))))) hD, fun x => absurd (dep_of 0 rfl (hcl 1 _ rfl (dep_of 1 rfl (hcl 4 _ rfl (x.resolve_left (by decide)))))) hD, fun x => absurd (dep_of 0 rfl (hcl 1 _ rfl (dep_of 1 rfl (hcl 4 _ rfl (x.resolve_left (by decide)))))) hD, fun x => absurd (dep_of 0 rfl (hcl 1 _ rfl (dep_of 1 rfl (hcl 4 _ rfl (x.resolve_left (by decide)))))) hD, fun x => absurd (dep_of 0 rfl (hcl 1 _ rfl (dep_of 1 rfl (hcl 4 _ rfl (x.resolve_left (by decide)))))) hD, fun x => absurd (dep_of 0 rfl (hcl 1 _ rfl (dep_of 1 rfl (hcl 4 _ rfl (x.resolve_left (by decide)))))) hD, fun x => absurd (dep_of 0 rfl (hcl 1 _ rfl (dep_of 1 rfl (hcl 4 _ rfl (x.resolve_left (by decide)))))) hD, fun x => absurd (dep_of 0 rfl (hcl 1 _ rfl (dep_of 1 rfl (hcl 4 _ rfl (dep_of 4 rfl (hcl 5 _ rfl (x.resolve_left (by decide)))))))) hD, fun x => absurd (dep_of 0 rfl (hcl 1 _ rfl (dep_of 1 rfl (hcl 4 _ rfl (dep_of 4 rfl (hcl 5 _ rfl (dep_of 5 rfl (hcl 6 _ rfl (x.resolve_left (by decide)))))))))) hD, fun x => absurd (dep_of 0 rfl (hcl 1 _ rfl (dep_of 1 rfl (hcl 4 _ rfl (dep_of 4 rfl (hcl 5 _ rfl (dep_of 5 rfl (hcl 7 _ rfl (x.resolve_left (by decide)))))))))) hD, fun x => absurd (dep_of 0 rfl (hcl 1 _ rfl (dep_of 1 rfl (hcl 4 _ rfl (dep_of 4 rfl (hcl 5 _ rfl (dep_of 5 rfl (hcl 8 _ rfl (x.resolve_left (by decide)))))))))) hD, fun x => absurd (dep_of 0 rfl (hcl 1 _ rfl (dep_of 1 rfl (hcl 4 _ rfl (dep_of 4 rfl (hcl 5 _ rfl (dep_of 5 rfl (hcl 9 _ rfl (x.resolve_left (by decide)))))))))) hD, fun x => absurd (dep_of 0 rfl (hcl 1 _ rfl (dep_of 1 rfl (hcl 4 _ rfl (dep_of 4 rfl (hcl 5 _ rfl (dep_of 5 rfl (hcl 10 _ rfl (x.resolve_left (by decide)))))))))) hD, slot_keep h.e11 (by decide) (by decide), fun x => h.h11 (x.resolve_left (by decide)), fun x n0 => (h.z11 (x.resolve_left (by decide)) (fun y => n0 (Or.inr y))), fun x => absurd (dep_of 0 rfl (hcl 12 _ rfl (x.resolve_left (by decide)))) hD, fun x => absurd (dep_of 0 rfl (hcl 13 _ rfl (x.resolve_left (by decide)))) hD, fun x => absurd (dep_of 0 rfl (hcl 14 _ rfl (x.resolve_left (by decide)))) hD, fun x => absurd (dep_of 0 rfl (hcl 15 _ rfl (x.resolve_left (by decide)))) hD, fun x => absurd (dep_of 0 rfl (hcl 16 _ rfl (x.resolve_left (by decide)))) hD⟩⟩
    · intro D a w' hI hD hdep hcl
      obtain ⟨g1, g2, g3, A1, c1, B1, d1, O1, f1, k6, lo, hi, h⟩ := hI
      have he0 := eval_get (h.e0 (dep_of 0 rfl hdep))
      refine wp_call_fn (f := 13) (vs := #[.agg #[.slice A zs.length ca, .int .i64 cnt, .slice B bs.length cb, .slice O os.length co]]) (by clear h hdep hcl hD; go_simp) ?_
      refine (toModel_any _ _ _ _ _ _ zs bs os cnt _ sz st sc (HA.out.below (below_trans B14.out h.be)) (HT.out.below (below_trans B14.out h.be)) (HC.out.below (below_trans B14.out h.be))).mono ?_
      rintro e v1 ⟨g1', g2', g3', rfl, _, _, _, oA, oT, oC, hb⟩
      refine ⟨_, rfl, ?_⟩
      exact ⟨g1', g2', g3', A1, c1, B1, d1, O1, f1, k6, lo, hi, ⟨h.ag.put (by decide) _, below_trans h.be hb, slot_keep h.e0 (by decide) (by decide), fun _ => eval_put_same a _ (h.ag.lt rfl), fun _ _ => oA.rd, fun _ _ => oT.rd, fun _ _ => oC.rd, slot_keep h.e2 (by decide) (by decide), fun x => absurd (dep_of 1 rfl (hcl 3 _ rfl (x.resolve_left (by decide)))) hD, fun x => absurd (dep_of 1 rfl (hcl 4 _ rfl (x.resolve_left (by decide)))) hD, fun x => absurd (dep_of 1 rfl (hcl 4 _ rfl (x.resolve_left (by decide)))) hD, fun x => absurd (dep_of 1 rfl (hcl 4 _ rfl (x.resolve_left (by decide)))) hD, fun x => absurd (dep_of 1 rfl (hcl 4 _ rfl (x.resolve_left (by decide)))) hD, fun x => absurd (dep_of 1 rfl (hcl 4 _ rfl (x.resolve_left (by decide)))) hD, fun x => absurd (dep_of 1 rfl (hcl 4 _ rfl (x.resolve_left (by decide)))) hD, fun x => absurd (dep_of 1 rfl (hcl 4 _ rfl (x.resolve_left (by decide)))) hD, fun x => absurd (dep_of 1 rfl (hcl 4 _ rfl (dep_of 4 rfl (hcl 5 _ rfl (x.resolve_left (by decide)))))) hD, fun x => absurd (dep_of 1 rfl (hcl 4 _ rfl (dep_of 4 rfl (hcl 5 _ rfl (dep_of 5 rfl (hcl 6 _ rfl (x.resolve_left (by decide)))))))) hD, fun x => absurd (dep_of 1 rfl (hcl 4 _ rfl (dep_of 4 rfl (hcl 5 _ rfl (dep_of 5 rfl (hcl 7 _ rfl (x.resolve_left (by decide)))))))) hD, fun x => absurd (dep_of 1 rfl (hcl 4 _ rfl (dep_of 4 rfl (hcl 5 _ rfl (dep_of 5 rfl (hcl 8 _ rfl (x.resolve_left (by decide)))))))) hD, fun x => absurd (dep_of 1 rfl (hcl 4 _ rfl (dep_of 4 rfl (hcl 5 _ rfl (dep_of 5 rfl (hcl 9 _ rfl (x.resolve_left (by decide)))))))) hD, fun x => absurd (dep_of 1 rfl (hcl 4 _ rfl (dep_of 4 rfl (hcl 5 _ rfl (dep_of 5 rfl (hcl 10 _ rfl (x.resolve_left (by decide)))))))) hD, slot_keep h.e11 (by decide) (by decide), fun x => h.h11 (x.resolve_left (by decide)), fun x n0 => (h.z11 (x.resolve_left (by decide)) (fun y => n0 (Or.inr y))).below hb, fun x => absurd (dep_of 1 rfl (hcl 12 _ rfl (x.resolve_left (by decide)))) hD, fun x => absurd (dep_of 1 rfl (hcl 13 _ rfl (x.resolve_left (by decide)))) hD, fun x => absurd (dep_of 1 rfl (hcl 14 _ rfl (x.resolve_left (by decide)))) hD, fun x => absurd (dep_of 1 rfl (hcl 15 _ rfl (x.resolve_left (by decide)))) hD, fun x => absurd (dep_of 1 rfl (hcl 16 _ rfl (x.resolve_left (by decide)))) hD⟩⟩
    · intro D a w' hI hD hdep hcl
      obtain ⟨g1, g2, g3, A1, c1, B1, d1, O1, f1, k6, lo, hi, h⟩ := hI
      refine wp_load_row 27 _ rfl (w.heap.size + 1) ((h.ag.eval (show 3 ∉ [20, 21, 22, 23, 24, 124, 125, 126, 127, 128, 129, 130, 131, 132, 133, 134] by decide)).trans rfl) 27 _ (0, 0) _ ((h.be.block _ K_W14.out.lt).trans K_W14.out) Try.underlying27 rfl info_lw ?_
      exact ⟨g1, g2, g3, A1, c1, B1, d1, O1, f1, k6, lo, hi, ⟨h.ag.put (by decide) _, h.be, slot_keep h.e0 (by decide) (by decide), slot_keep h.e1 (by decide) (by decide), fun x n0 => (h.hA1 (x.resolve_left (by decide)) (fun y => n0 (Or.inr y))), fun x n0 => (h.hT1 (x.resolve_left (by decide)) (fun y => n0 (Or.inr y))), fun x n0 => (h.hC1 (x.resolve_left (by decide)) (fun y => n0 (Or.inr y))), fun _ => eval_put_same a _ (h.ag.lt rfl), fun x => absurd (dep_of 2 rfl (hcl 3 _ rfl (x.resolve_left (by decide)))) hD, fun x => absurd (dep_of 2 rfl (hcl 3 _ rfl (dep_of 3 rfl (hcl 4 _ rfl (x.resolve_left (by decide)))))) hD, fun x => absurd (dep_of 2 rfl (hcl 3 _ rfl (dep_of 3 rfl (hcl 4 _ rfl (x.resolve_left (by decide)))))) hD, fun x => absurd (dep_of 2 rfl (hcl 3 _ rfl (dep_of 3 rfl (hcl 4 _ rfl (x.resolve_left (by decide)))))) hD, fun x => absurd (dep_of 2 rfl (hcl 3 _ rfl (dep_of 3 rfl (hcl 4 _ rfl (x.resolve_left (by decide)))))) hD, fun x => absurd (dep_of 2 rfl (hcl 3 _ rfl (dep_of 3 rfl (hcl 4 _ rfl (x.resolve_left (by decide)))))) hD, fun x => absurd (dep_of 2 rfl (hcl 3 _ rfl (dep_of 3 rfl (hcl 4 _ rfl (x.resolve_left (by decide)))))) hD, fun x => absurd (dep_of 2 rfl (hcl 3 _ rfl (dep_of 3 rfl (hcl 4 _ rfl (x.resolve_left (by decide)))))) hD, fun x => absurd (dep_of 2 rfl (hcl 3 _ rfl (dep_of 3 rfl (hcl 4 _ rfl (dep_of 4 rfl (hcl 5 _ rfl (x.resolve_left (by decide)))))))) hD, fun x => absurd (dep_of 2 rfl (hcl 3 _ rfl (dep_of 3 rfl (hcl 4 _ rfl (dep_of 4 rfl (hcl 5 _ rfl (dep_of 5 rfl (hcl 6 _ rfl (x.resolve_left (by decide)))))))))) hD, fun x => absurd (dep_of 2 rfl (hcl 3 _ rfl (dep_of 3 rfl (hcl 4 _ rfl (dep_of 4 rfl (hcl 5 _ rfl (dep_of 5 rfl (hcl 7 _ rfl (x.resolve_left (by decide)))))))))) hD, fun x => absurd (dep_of 2 rfl (hcl 3 _ rfl (dep_of 3 rfl (hcl 4 _ rfl (dep_of 4 rfl (hcl 5 _ rfl (dep_of 5 rfl (hcl 8 _ rfl (x.resolve_left (by decide)))))))))) hD, fun x => absurd (dep_of 2 rfl (hcl 3 _ rfl (dep_of 3 rfl (hcl 4 _ rfl (dep_of 4 rfl (hcl 5 _ rfl (dep_of 5 rfl (hcl 9 _ rfl (x.resolve_left (by decide)))))))))) hD, fun x => absurd (dep_of 2 rfl (hcl 3 _ rfl (dep_of 3 rfl (hcl 4 _ rfl (dep_of 4 rfl (hcl 5 _ rfl (dep_of 5 rfl (hcl 10 _ rfl (x.resolve_left (by decide)))))))))) hD, slot_keep h.e11 (by decide) (by decide), fun x => h.h11 (x.resolve_left (by decide)), fun x n0 => (h.z11 (x.resolve_left (by decide)) (fun y => n0 (Or.inr y))), fun x => absurd (dep_of 2 rfl (hcl 12 _ rfl (x.resolve_left (by decide)))) hD, fun x => absurd (dep_of 2 rfl (hcl 13 _ rfl (x.resolve_left (by decide)))) hD, fun x => absurd (dep_of 2 rfl (hcl 14 _ rfl (x.resolve_left (by decide)))) hD, fun x => absurd (dep_of 2 rfl (hcl 15 _ rfl (x.resolve_left (by decide)))) hD, fun x => absurd (dep_of 2 rfl (hcl 16 _ rfl (x.resolve_left (by decide)))) hD⟩⟩
    · intro D a w' hI hD hdep hcl
      obtain ⟨g1, g2, g3, A1, c1, B1, d1, O1, f1, k6, lo, hi, h⟩ := hI
      have he0 := eval_get (h.e2 (dep_of 2 rfl hdep))
      refine wp_call_fn (f := 14) (vs := #[.agg #[.int .i64 th, .int .i64 op, .int .i64 arg]]) (by clear h hdep hcl hD; go_simp) ?_
      refine (toWaiter_any th op arg _).mono ?_
      rintro e v1 ⟨rfl, hb⟩
      refine ⟨_, rfl, ?_⟩
      exact ⟨g1, g2, g3, A1, c1, B1, d1, O1, f1, k6, lo, hi, ⟨h.ag.put (by decide) _, below_trans h.be hb, slot_keep h.e0 (by decide) (by decide), slot_keep h.e1 (by decide) (by decide), fun x n0 => (h.hA1 (x.resolve_left (by decide)) (fun y => n0 (Or.inr y))).below hb, fun x n0 => (h.hT1 (x.resolve_left (by decide)) (fun y => n0 (Or.inr y))).below hb, fun x n0 => (h.hC1 (x.resolve_left (by decide)) (fun y => n0 (Or.inr y))).below hb, slot_keep h.e2 (by decide) (by decide), fun _ => eval_put_same a _ (h.ag.lt rfl), fun x => absurd (dep_of 3 rfl (hcl 4 _ rfl (x.resolve_left (by decide)))) hD, fun x => absurd (dep_of 3 rfl (hcl 4 _ rfl (x.resolve_left (by decide)))) hD, fun x => absurd (dep_of 3 rfl (hcl 4 _ rfl (x.resolve_left (by decide)))) hD, fun x => absurd (dep_of 3 rfl (hcl 4 _ rfl (x.resolve_left (by decide)))) hD, fun x => absurd (dep_of 3 rfl (hcl 4 _ rfl (x.resolve_left (by decide)))) hD, fun x => absurd (dep_of 3 rfl (hcl 4 _ rfl (x.resolve_left (by decide)))) hD, fun x => absurd (dep_of 3 rfl (hcl 4 _ rfl (x.resolve_left (by decide)))) hD, fun x => absurd (dep_of 3 rfl (hcl 4 _ rfl (dep_of 4 rfl (hcl 5 _ rfl (x.resolve_left (by decide)))))) hD, fun x => absurd (dep_of 3 rfl (hcl 4 _ rfl (dep_of 4 rfl (hcl 5 _ rfl (dep_of 5 rfl (hcl 6 _ rfl (x.resolve_left (by decide)))))))) hD, fun x => absurd (dep_of 3 rfl (hcl 4 _ rfl (dep_of 4 rfl (hcl 5 _ rfl (dep_of 5 rfl (hcl 7 _ rfl (x.resolve_left (by decide)))))))) hD, fun x => absurd (dep_of 3 rfl (hcl 4 _ rfl (dep_of 4 rfl (hcl 5 _ rfl (dep_of 5 rfl (hcl 8 _ rfl (x.resolve_left (by decide)))))))) hD, fun x => absurd (dep_of 3 rfl (hcl 4 _ rfl (dep_of 4 rfl (hcl 5 _ rfl (dep_of 5 rfl (hcl 9 _ rfl (x.resolve_left (by decide)))))))) hD, fun x => absurd (dep_of 3 rfl (hcl 4 _ rfl (dep_of 4 rfl (hcl 5 _ rfl (dep_of 5 rfl (hcl 10 _ rfl (x.resolve_left (by decide)))))))) hD, slot_keep h.e11 (by decide) (by decide), fun x => h.h11 (x.resolve_left (by decide)), fun x n0 => (h.z11 (x.resolve_left (by decide)) (fun y => n0 (Or.inr y))).below hb, fun x => absurd (dep_of 3 rfl (hcl 12 _ rfl (x.resolve_left (by decide)))) hD, fun x => absurd (dep_of 3 rfl (hcl 13 _ rfl (x.resolve_left (by decide)))) hD, fun x => absurd (dep_of 3 rfl (hcl 14 _ rfl (x.resolve_left (by decide)))) hD, fun x => absurd (dep_of 3 rfl (hcl 15 _ rfl (x.resolve_left (by decide)))) hD, fun x => absurd (dep_of 3 rfl (hcl 16 _ rfl (x.resolve_left (by decide)))) hD⟩⟩
    · intro D a w' hI hD hdep hcl
      obtain ⟨g1, g2, g3, A1, c1, B1, d1, O1, f1, k6, lo, hi, h⟩ := hI
      have he0 := eval_get (h.e1 (dep_of 1 rfl hdep))
      have he1 := eval_get (h.e3 (dep_of 3 rfl hdep))
      refine wp_call_fn (f := 15) (vs := #[.agg #[.slice (some ⟨g1, 0, none⟩) zs.length zs.length, .int .i64 cnt, .slice (some ⟨g2, 0, none⟩) bs.length bs.length, .slice (some ⟨g3, 0, none⟩) os.length os.length], .agg #[.int .i64 th, .int .i64 op, .int .i64 arg]]) (by clear h hdep hcl hD; go_simp) ?_
      refine (HI.out _ ⟨g1, 0, none⟩ ⟨g2, 0, none⟩ ⟨g3, 0, none⟩ zs.length bs.length os.length (h.hA1 (dep_of 1 rfl hdep) (fun z => hD ((dep_of 4 rfl (hcl 12 _ rfl z))))) (h.hT1 (dep_of 1 rfl hdep) (fun z => hD ((dep_of 4 rfl (hcl 12 _ rfl z))))) (h.hC1 (dep_of 1 rfl hdep) (fun z => hD ((dep_of 4 rfl (hcl 12 _ rfl z)))))).mono ?_
      rintro e v1 ⟨A1', c1', B1', d1', O1', f1', rfl, qA, qB, qO, qP, hb⟩
      refine ⟨_, rfl, ?_⟩
      exact ⟨g1, g2, g3, A1', c1', B1', d1', O1', f1', k6, w'.heap.size, v1.heap.size, ⟨h.ag.put (by decide) _, below_trans h.be hb, slot_keep h.e0 (by decide) (by decide), slot_keep h.e1 (by decide) (by decide), fun x n0 => (h.hA1 (x.resolve_left (by decide)) (fun y => n0 (Or.inr y))).below hb, fun x n0 => (h.hT1 (x.resolve_left (by decide)) (fun y => n0 (Or.inr y))).below hb, fun x n0 => (h.hC1 (x.resolve_left (by decide)) (fun y => n0 (Or.inr y))).below hb, slot_keep h.e2 (by decide) (by decide), slot_keep h.e3 (by decide) (by decide), fun _ => eval_put_same a _ (h.ag.lt rfl), fun _ => qA, fun _ => qB, fun _ => qO, fun _ => ⟨h.be.size, Nat.le_refl _⟩, fun _ => qP rfl, fun _ y => .inl (h.z11 (y.resolve_left (by decide)) (fun z => hD ((dep_of 4 rfl (hcl 12 _ rfl z))))).lt, fun x => absurd (dep_of 4 rfl (hcl 5 _ rfl (x.resolve_left (by decide)))) hD, fun x => absurd (dep_of 4 rfl (hcl 5 _ rfl (dep_of 5 rfl (hcl 6 _ rfl (x.resolve_left (by decide)))))) hD, fun x => absurd (dep_of 4 rfl (hcl 5 _ rfl (dep_of 5 rfl (hcl 7 _ rfl (x.resolve_left (by decide)))))) hD, fun x => absurd (dep_of 4 rfl (hcl 5 _ rfl (dep_of 5 rfl (hcl 8 _ rfl (x.resolve_left (by decide)))))) hD, fun x => absurd (dep_of 4 rfl (hcl 5 _ rfl (dep_of 5 rfl (hcl 9 _ rfl (x.resolve_left (by decide)))))) hD, fun x => absurd (dep_of 4 rfl (hcl 5 _ rfl (dep_of 5 rfl (hcl 10 _ rfl (x.resolve_left (by decide)))))) hD, slot_keep h.e11 (by decide) (by decide), fun x => h.h11 (x.resolve_left (by decide)), fun x n0 => (h.z11 (x.resolve_left (by decide)) (fun y => n0 (Or.inr y))).below hb, fun x => absurd (dep_of 4 rfl (hcl 12 _ rfl (x.resolve_left (by decide)))) hD, fun x => absurd (dep_of 4 rfl (hcl 13 _ rfl (x.resolve_left (by decide)))) hD, fun x => absurd (dep_of 4 rfl (hcl 14 _ rfl (x.resolve_left (by decide)))) hD, fun x => absurd (dep_of 4 rfl (hcl 15 _ rfl (x.resolve_left (by decide)))) hD, fun x => absurd (dep_of 4 rfl (hcl 16 _ rfl (x.resolve_left (by decide)))) hD⟩⟩
    · intro D a w' hI hD hdep hcl
      obtain ⟨g1, g2, g3, A1, c1, B1, d1, O1, f1, k6, lo, hi, h⟩ := hI
      have he := eval_get (h.e4 (dep_of 4 rfl hdep))
      refine wp_yield (v := .tuple #[.agg #[.slice A1 L.length c1, .int .i64 n, .slice B1 bs'.length d1, .slice O1 os'.length f1], .bool en, .int .i64 code, .int .i64 res, .int .i64 met]) (w' := w') (by clear h hdep hcl hD; go_simp) ?_
      exact ⟨g1, g2, g3, A1, c1, B1, d1, O1, f1, k6, lo, hi, ⟨h.ag.put (by decide) _, h.be, slot_keep h.e0 (by decide) (by decide), slot_keep h.e1 (by decide) (by decide), fun x n0 => (h.hA1 (x.resolve_left (by decide)) (fun y => n0 (Or.inr y))), fun x n0 => (h.hT1 (x.resolve_left (by decide)) (fun y => n0 (Or.inr y))), fun x n0 => (h.hC1 (x.resolve_left (by decide)) (fun y => n0 (Or.inr y))), slot_keep h.e2 (by decide) (by decide), slot_keep h.e3 (by decide) (by decide), slot_keep h.e4 (by decide) (by decide), fun x => (h.sA4 (x.resolve_left (by decide))), fun x => (h.sB4 (x.resolve_left (by decide))), fun x => (h.sO4 (x.resolve_left (by decide))), fun x => h.r4 (x.resolve_left (by decide)), fun x => h.p4 (x.resolve_left (by decide)), fun x y => h.k4 (x.resolve_left (by decide)) (y.resolve_left (by decide)), fun _ => eval_put_same a _ (h.ag.lt rfl), fun x => absurd (dep_of 5 rfl (hcl 6 _ rfl (x.resolve_left (by decide)))) hD, fun x => absurd (dep_of 5 rfl (hcl 7 _ rfl (x.resolve_left (by decide)))) hD, fun x => absurd (dep_of 5 rfl (hcl 8 _ rfl (x.resolve_left (by decide)))) hD, fun x => absurd (dep_of 5 rfl (hcl 9 _ rfl (x.resolve_left (by decide)))) hD, fun x => absurd (dep_of 5 rfl (hcl 10 _ rfl (x.resolve_left (by decide)))) hD, slot_keep h.e11 (by decide) (by decide), fun x => h.h11 (x.resolve_left (by decide)), fun x n0 => (h.z11 (x.resolve_left (by decide)) (fun y => n0 (Or.inr y))), fun x => absurd (dep_of 5 rfl (hcl 12 _ rfl (x.resolve_left (by decide)))) hD, fun x => absurd (dep_of 5 rfl (hcl 13 _ rfl (x.resolve_left (by decide)))) hD, fun x => absurd (dep_of 5 rfl (hcl 14 _ rfl (x.resolve_left (by decide)))) hD, fun x => absurd (dep_of 5 rfl (hcl 15 _ rfl (x.resolve_left (by decide)))) hD, fun x => absurd (dep_of 5 rfl (hcl 16 _ rfl (x.resolve_left (by decide)))) hD⟩⟩
    · intro D a w' hI hD hdep hcl
      obtain ⟨g1, g2, g3, A1, c1, B1, d1, O1, f1, k6, lo, hi, h⟩ := hI
      have he := eval_get (h.e5 (dep_of 5 rfl hdep))
      refine wp_yield (v := .agg #[.slice A1 L.length c1, .int .i64 n, .slice B1 bs'.length d1, .slice O1 os'.length f1]) (w' := w') (by clear h hdep hcl hD; go_simp) ?_
      exact ⟨g1, g2, g3, A1, c1, B1, d1, O1, f1, k6, lo, hi, ⟨h.ag.put (by decide) _, h.be, slot_keep h.e0 (by decide) (by decide), slot_keep h.e1 (by decide) (by decide), fun x n0 => (h.hA1 (x.resolve_left (by decide)) (fun y => n0 (Or.inr y))), fun x n0 => (h.hT1 (x.resolve_left (by decide)) (fun y => n0 (Or.inr y))), fun x n0 => (h.hC1 (x.resolve_left (by decide)) (fun y => n0 (Or.inr y))), slot_keep h.e2 (by decide) (by decide), slot_keep h.e3 (by decide) (by decide), slot_keep h.e4 (by decide) (by decide), fun x => (h.sA4 (x.resolve_left (by decide))), fun x => (h.sB4 (x.resolve_left (by decide))), fun x => (h.sO4 (x.resolve_left (by decide))), fun x => h.r4 (x.resolve_left (by decide)), fun x => h.p4 (x.resolve_left (by decide)), fun x y => h.k4 (x.resolve_left (by decide)) (y.resolve_left (by decide)), slot_keep h.e5 (by decide) (by decide), fun _ => eval_put_same a _ (h.ag.lt rfl), slot_keep h.e7 (by decide) (by decide), slot_keep h.e8 (by decide) (by decide), slot_keep h.e9 (by decide) (by decide), slot_keep h.e10 (by decide) (by decide), slot_keep h.e11 (by decide) (by decide), fun x => h.h11 (x.resolve_left (by decide)), fun x n0 => (h.z11 (x.resolve_left (by decide)) (fun y => n0 (Or.inr y))), fun x => absurd (dep_of 6 rfl (hcl 12 _ rfl (x.resolve_left (by decide)))) hD, fun x => absurd (dep_of 6 rfl (hcl 13 _ rfl (x.resolve_left (by decide)))) hD, fun x => absurd (dep_of 6 rfl (hcl 14 _ rfl (x.resolve_left (by decide)))) hD, fun x => absurd (dep_of 6 rfl (hcl 15 _ rfl (x.resolve_left (by decide)))) hD, fun x => absurd (dep_of 6 rfl (hcl 16 _ rfl (x.resolve_left (by decide)))) hD⟩⟩
    · intro D a w' hI hD hdep hcl
      obtain ⟨g1, g2, g3, A1, c1, B1, d1, O1, f1, k6, lo, hi, h⟩ := hI
      have he := eval_get (h.e5 (dep_of 5 rfl hdep))
      refine wp_yield (v := .bool en) (w' := w') (by clear h hdep hcl hD; go_simp) ?_
      exact ⟨g1, g2, g3, A1, c1, B1, d1, O1, f1, k6, lo, hi, ⟨h.ag.put (by decide) _, h.be, slot_keep h.e0 (by decide) (by decide), slot_keep h.e1 (by decide) (by decide), fun x n0 => (h.hA1 (x.resolve_left (by decide)) (fun y => n0 (Or.inr y))), fun x n0 => (h.hT1 (x.resolve_left (by decide)) (fun y => n0 (Or.inr y))), fun x n0 => (h.hC1 (x.resolve_left (by decide)) (fun y => n0 (Or.inr y))), slot_keep h.e2 (by decide) (by decide), slot_keep h.e3 (by decide) (by decide), slot_keep h.e4 (by decide) (by decide), fun x => (h.sA4 (x.resolve_left (by decide))), fun x => (h.sB4 (x.resolve_left (by decide))), fun x => (h.sO4 (x.resolve_left (by decide))), fun x => h.r4 (x.resolve_left (by decide)), fun x => h.p4 (x.resolve_left (by decide)), fun x y => h.k4 (x.resolve_left (by decide)) (y.resolve_left (by decide)), slot_keep h.e5 (by decide) (by decide), slot_keep h.e6 (by decide) (by decide), fun _ => eval_put_same a _ (h.ag.lt rfl), slot_keep h.e8 (by decide) (by decide), slot_keep h.e9 (by decide) (by decide), slot_keep h.e10 (by decide) (by decide), slot_keep h.e11 (by decide) (by decide), fun x => h.h11 (x.resolve_left (by decide)), fun x n0 => (h.z11 (x.resolve_left (by decide)) (fun y => n0 (Or.inr y))), fun x => (h.z12 (x.resolve_left (by decide))), fun x => absurd (dep_of 7 rfl (hcl 13 _ rfl (x.resolve_left (by decide)))) hD, fun x => absurd (dep_of 7 rfl (hcl 14 _ rfl (x.resolve_left (by decide)))) hD, fun x => absurd (dep_of 7 rfl (hcl 15 _ rfl (x.resolve_left (by decide)))) hD, fun x => absurd (dep_of 7 rfl (hcl 16 _ rfl (x.resolve_left (by decide)))) hD⟩⟩
    · intro D a w' hI hD hdep hcl
      obtain ⟨g1, g2, g3, A1, c1, B1, d1, O1, f1, k6, lo, hi, h⟩ := hI
      have he := eval_get (h.e5 (dep_of 5 rfl hdep))
      refine wp_yield (v := .int .i64 code) (w' := w') (by clear h hdep hcl hD; go_simp) ?_
      exact ⟨g1, g2, g3, A1, c1, B1, d1, O1, f1, k6, lo, hi, ⟨h.ag.put (by decide) _, h.be, slot_keep h.e0 (by decide) (by decide), slot_keep h.e1 (by decide) (by decide), fun x n0 => (h.hA1 (x.resolve_left (by decide)) (fun y => n0 (Or.inr y))), fun x n0 => (h.hT1 (x.resolve_left (by decide)) (fun y => n0 (Or.inr y))), fun x n0 => (h.hC1 (x.resolve_left (by decide)) (fun y => n0 (Or.inr y))), slot_keep h.e2 (by decide) (by decide), slot_keep h.e3 (by decide) (by decide), slot_keep h.e4 (by decide) (by decide), fun x => (h.sA4 (x.resolve_left (by decide))), fun x => (h.sB4 (x.resolve_left (by decide))), fun x => (h.sO4 (x.resolve_left (by decide))), fun x => h.r4 (x.resolve_left (by decide)), fun x => h.p4 (x.resolve_left (by decide)), fun x y => h.k4 (x.resolve_left (by decide)) (y.resolve_left (by decide)), slot_keep h.e5 (by decide) (by decide), slot_keep h.e6 (by decide) (by decide), slot_keep h.e7 (by decide) (by decide), fun _ => eval_put_same a _ (h.ag.lt rfl), slot_keep h.e9 (by decide) (by decide), slot_keep h.e10 (by decide) (by decide), slot_keep h.e11 (by decide) (by decide), fun x => h.h11 (x.resolve_left (by decide)), fun x n0 => (h.z11 (x.resolve_left (by decide)) (fun y => n0 (Or.inr y))), fun x => (h.z12 (x.resolve_left (by decide))), slot_keep h.e13 (by decide) (by decide), fun x => absurd (dep_of 8 rfl (hcl 14 _ rfl (x.resolve_left (by decide)))) hD, fun x => absurd (dep_of 8 rfl (hcl 15 _ rfl (x.resolve_left (by decide)))) hD, fun x => absurd (dep_of 8 rfl (hcl 16 _ rfl (x.resolve_left (by decide)))) hD⟩⟩
    · intro D a w' hI hD hdep hcl
      obtain ⟨g1, g2, g3, A1, c1, B1, d1, O1, f1, k6, lo, hi, h⟩ := hI
      have he := eval_get (h.e5 (dep_of 5 rfl hdep))
      refine wp_yield (v := .int .i64 res) (w' := w') (by clear h hdep hcl hD; go_simp) ?_
      exact ⟨g1, g2, g3, A1, c1, B1, d1, O1, f1, k6, lo, hi, ⟨h.ag.put (by decide) _, h.be, slot_keep h.e0 (by decide) (by decide), slot_keep h.e1 (by decide) (by decide), fun x n0 => (h.hA1 (x.resolve_left (by decide)) (fun y => n0 (Or.inr y))), fun x n0 => (h.hT1 (x.resolve_left (by decide)) (fun y => n0 (Or.inr y))), fun x n0 => (h.hC1 (x.resolve_left (by decide)) (fun y => n0 (Or.inr y))), slot_keep h.e2 (by decide) (by decide), slot_keep h.e3 (by decide) (by decide), slot_keep h.e4 (by decide) (by decide), fun x => (h.sA4 (x.resolve_left (by decide))), fun x => (h.sB4 (x.resolve_left (by decide))), fun x => (h.sO4 (x.resolve_left (by decide))), fun x => h.r4 (x.resolve_left (by decide)), fun x => h.p4 (x.resolve_left (by decide)), fun x y => h.k4 (x.resolve_left (by decide)) (y.resolve_left (by decide)), slot_keep h.e5 (by decide) (by decide), slot_keep h.e6 (by decide) (by decide), slot_keep h.e7 (by decide) (by decide), slot_keep h.e8 (by decide) (by decide), fun _ => eval_put_same a _ (h.ag.lt rfl), slot_keep h.e10 (by decide) (by decide), slot_keep h.e11 (by decide) (by decide), fun x => h.h11 (x.resolve_left (by decide)), fun x n0 => (h.z11 (x.resolve_left (by decide)) (fun y => n0 (Or.inr y))), fun x => (h.z12 (x.resolve_left (by decide))), slot_keep h.e13 (by decide) (by decide), slot_keep h.e14 (by decide) (by decide), fun x => absurd (dep_of 9 rfl (hcl 15 _ rfl (x.resolve_left (by decide)))) hD, fun x => absurd (dep_of 9 rfl (hcl 16 _ rfl (x.resolve_left (by decide)))) hD⟩⟩
    · intro D a w' hI hD hdep hcl
      obtain ⟨g1, g2, g3, A1, c1, B1, d1, O1, f1, k6, lo, hi, h⟩ := hI
      have he := eval_get (h.e5 (dep_of 5 rfl hdep))
      refine wp_yield (v := .int .i64 met) (w' := w') (by clear h hdep hcl hD; go_simp) ?_
      exact ⟨g1, g2, g3, A1, c1, B1, d1, O1, f1, k6, lo, hi, ⟨h.ag.put (by decide) _, h.be, slot_keep h.e0 (by decide) (by decide), slot_keep h.e1 (by decide) (by decide), fun x n0 => (h.hA1 (x.resolve_left (by decide)) (fun y => n0 (Or.inr y))), fun x n0 => (h.hT1 (x.resolve_left (by decide)) (fun y => n0 (Or.inr y))), fun x n0 => (h.hC1 (x.resolve_left (by decide)) (fun y => n0 (Or.inr y))), slot_keep h.e2 (by decide) (by decide), slot_keep h.e3 (by decide) (by decide), slot_keep h.e4 (by decide) (by decide), fun x => (h.sA4 (x.resolve_left (by decide))), fun x => (h.sB4 (x.resolve_left (by decide))), fun x => (h.sO4 (x.resolve_left (by decide))), fun x => h.r4 (x.resolve_left (by decide)), fun x => h.p4 (x.resolve_left (by decide)), fun x y => h.k4 (x.resolve_left (by decide)) (y.resolve_left (by decide)), slot_keep h.e5 (by decide) (by decide), slot_keep h.e6 (by decide) (by decide), slot_keep h.e7 (by decide) (by decide), slot_keep h.e8 (by decide) (by decide), slot_keep h.e9 (by decide) (by decide), fun _ => eval_put_same a _ (h.ag.lt rfl), slot_keep h.e11 (by decide) (by decide), fun x => h.h11 (x.resolve_left (by decide)), fun x n0 => (h.z11 (x.resolve_left (by decide)) (fun y => n0 (Or.inr y))), fun x => (h.z12 (x.resolve_left (by decide))), slot_keep h.e13 (by decide) (by decide), slot_keep h.e14 (by decide) (by decide), slot_keep h.e15 (by decide) (by decide), fun x => absurd (dep_of 10 rfl (hcl 16 _ rfl (x.resolve_left (by decide)))) hD⟩⟩
    · intro D a w' hI hD hdep hcl
      obtain ⟨g1, g2, g3, A1, c1, B1, d1, O1, f1, k6, lo, hi, h⟩ := hI
      refine wp_yield (v := .pointer (some ⟨w'.heap.size, 0, none⟩)) (w' := w'.alloc (.cells #[.slice none 0 0, .int .i64 0, .slice none 0 0, .slice none 0 0] 31)) (by clear h hdep hcl hD; go_simp) ?_
      exact ⟨g1, g2, g3, A1, c1, B1, d1, O1, f1, w'.heap.size, lo, hi, ⟨h.ag.put (by decide) _, below_trans h.be (below_alloc _ _), slot_keep h.e0 (by decide) (by decide), slot_keep h.e1 (by decide) (by decide), fun x n0 => (h.hA1 (x.resolve_left (by decide)) (fun y => n0 (Or.inr y))).below (below_alloc _ _), fun x n0 => (h.hT1 (x.resolve_left (by decide)) (fun y => n0 (Or.inr y))).below (below_alloc _ _), fun x n0 => (h.hC1 (x.resolve_left (by decide)) (fun y => n0 (Or.inr y))).below (below_alloc _ _), slot_keep h.e2 (by decide) (by decide), slot_keep h.e3 (by decide) (by decide), slot_keep h.e4 (by decide) (by decide), fun x => (h.sA4 (x.resolve_left (by decide))).below (below_alloc _ _), fun x => (h.sB4 (x.resolve_left (by decide))).below (below_alloc _ _), fun x => (h.sO4 (x.resolve_left (by decide))).below (below_alloc _ _), fun x => ⟨(h.r4 (x.resolve_left (by decide))).1, Nat.le_trans (h.r4 (x.resolve_left (by decide))).2 (by rw [size_alloc]; omega)⟩, fun x => h.p4 (x.resolve_left (by decide)), fun x _ => .inr (h.r4 (x.resolve_left (by decide))).2, slot_keep h.e5 (by decide) (by decide), slot_keep h.e6 (by decide) (by decide), slot_keep h.e7 (by decide) (by decide), slot_keep h.e8 (by decide) (by decide), slot_keep h.e9 (by decide) (by decide), slot_keep h.e10 (by decide) (by decide), fun _ => eval_put_same a _ (h.ag.lt rfl), fun _ => h.be.size, fun _ _ => BoxC.new _ _ _, fun x => absurd (dep_of 11 rfl (hcl 12 _ rfl (x.resolve_left (by decide)))) hD, fun x => absurd (dep_of 11 rfl (hcl 13 _ rfl (x.resolve_left (by decide)))) hD, fun x => absurd (dep_of 11 rfl (hcl 14 _ rfl (x.resolve_left (by decide)))) hD, fun x => absurd (dep_of 11 rfl (hcl 15 _ rfl (x.resolve_left (by decide)))) hD, fun x => absurd (dep_of 11 rfl (hcl 16 _ rfl (x.resolve_left (by decide)))) hD⟩⟩
    · intro D a w' hI hD hdep hcl
      obtain ⟨g1, g2, g3, A1, c1, B1, d1, O1, f1, k6, lo, hi, h⟩ := hI
      have hal := dep_of 11 rfl hdep
      have hbx := h.z11 hal hD
      have h8 := h.h11 hal
      refine wp_store_row 31 _ _ rfl k6 _ (h.e11 hal) (h.e6 (dep_of 6 rfl hdep)) 31 _ hbx info_model rfl (one4m _ _ _ _ _ _ _ _ _ _) ?_
      exact ⟨g1, g2, g3, A1, c1, B1, d1, O1, f1, k6, lo, hi, ⟨h.ag, below_setRow h.be h8 _, fun x => h.e0 (x.resolve_left (by decide)), fun x => h.e1 (x.resolve_left (by decide)), fun _ n0 => absurd (Or.inl rfl) n0, fun _ n0 => absurd (Or.inl rfl) n0, fun _ n0 => absurd (Or.inl rfl) n0, fun x => h.e2 (x.resolve_left (by decide)), fun x => h.e3 (x.resolve_left (by decide)), fun x => h.e4 (x.resolve_left (by decide)), fun x => (h.sA4 (x.resolve_left (by decide))).row (h.k4 (x.resolve_left (by decide)) hal) _, fun x => (h.sB4 (x.resolve_left (by decide))).row (h.k4 (x.resolve_left (by decide)) hal) _, fun x => (h.sO4 (x.resolve_left (by decide))).row (h.k4 (x.resolve_left (by decide)) hal) _, fun x => ⟨(h.r4 (x.resolve_left (by decide))).1, Nat.le_trans (h.r4 (x.resolve_left (by decide))).2 (gr_setRow _ _ _).size⟩, fun x => h.p4 (x.resolve_left (by decide)), fun x y => h.k4 (x.resolve_left (by decide)) (y.resolve_left (by decide)), fun x => h.e5 (x.resolve_left (by decide)), fun x => h.e6 (x.resolve_left (by decide)), fun x => h.e7 (x.resolve_left (by decide)), fun x => h.e8 (x.resolve_left (by decide)), fun x => h.e9 (x.resolve_left (by decide)), fun x => h.e10 (x.resolve_left (by decide)), fun x => h.e11 (x.resolve_left (by decide)), fun x => h.h11 (x.resolve_left (by decide)), fun _ n0 => absurd (Or.inl rfl) n0, fun _ => hbx.mrow _, fun x => absurd (dep_of 12 rfl (hcl 13 _ rfl (x.resolve_left (by decide)))) hD, fun x => absurd (dep_of 12 rfl (hcl 14 _ rfl (x.resolve_left (by decide)))) hD, fun x => absurd (dep_of 12 rfl (hcl 15 _ rfl (x.resolve_left (by decide)))) hD, fun x => absurd (dep_of 12 rfl (hcl 16 _ rfl (x.resolve_left (by decide)))) hD⟩⟩
    · intro D a w' hI hD hdep hcl
      obtain ⟨g1, g2, g3, A1, c1, B1, d1, O1, f1, k6, lo, hi, h⟩ := hI
      have he := eval_get (h.e7 (dep_of 7 rfl hdep))
      refine wp_yield (v := .bool en) (w' := w') (by clear h hdep hcl hD; go_simp) ?_
      exact ⟨g1, g2, g3, A1, c1, B1, d1, O1, f1, k6, lo, hi, ⟨h.ag.put (by decide) _, h.be, slot_keep h.e0 (by decide) (by decide), slot_keep h.e1 (by decide) (by decide), fun x n0 => (h.hA1 (x.resolve_left (by decide)) (fun y => n0 (Or.inr y))), fun x n0 => (h.hT1 (x.resolve_left (by decide)) (fun y => n0 (Or.inr y))), fun x n0 => (h.hC1 (x.resolve_left (by decide)) (fun y => n0 (Or.inr y))), slot_keep h.e2 (by decide) (by decide), slot_keep h.e3 (by decide) (by decide), slot_keep h.e4 (by decide) (by decide), fun x => (h.sA4 (x.resolve_left (by decide))), fun x => (h.sB4 (x.resolve_left (by decide))), fun x => (h.sO4 (x.resolve_left (by decide))), fun x => h.r4 (x.resolve_left (by decide)), fun x => h.p4 (x.resolve_left (by decide)), fun x y => h.k4 (x.resolve_left (by decide)) (y.resolve_left (by decide)), slot_keep h.e5 (by decide) (by decide), slot_keep h.e6 (by decide) (by decide), slot_keep h.e7 (by decide) (by decide), slot_keep h.e8 (by decide) (by decide), slot_keep h.e9 (by decide) (by decide), slot_keep h.e10 (by decide) (by decide), slot_keep h.e11 (by decide) (by decide), fun x => h.h11 (x.resolve_left (by decide)), fun x n0 => (h.z11 (x.resolve_left (by decide)) (fun y => n0 (Or.inr y))), fun x => (h.z12 (x.resolve_left (by decide))), fun _ => eval_put_same a _ (h.ag.lt rfl), fun x => absurd (dep_of 13 rfl (hcl 14 _ rfl (x.resolve_left (by decide)))) hD, fun x => absurd (dep_of 13 rfl (hcl 15 _ rfl (x.resolve_left (by decide)))) hD, fun x => absurd (dep_of 13 rfl (hcl 16 _ rfl (x.resolve_left (by decide)))) hD⟩⟩
    · intro D a w' hI hD hdep hcl
      obtain ⟨g1, g2, g3, A1, c1, B1, d1, O1, f1, k6, lo, hi, h⟩ := hI
      have he := eval_get (h.e8 (dep_of 8 rfl hdep))
      refine wp_yield (v := .int .i64 code) (w' := w') (by clear h hdep hcl hD; go_simp) ?_
      exact ⟨g1, g2, g3, A1, c1, B1, d1, O1, f1, k6, lo, hi, ⟨h.ag.put (by decide) _, h.be, slot_keep h.e0 (by decide) (by decide), slot_keep h.e1 (by decide) (by decide), fun x n0 => (h.hA1 (x.resolve_left (by decide)) (fun y => n0 (Or.inr y))), fun x n0 => (h.hT1 (x.resolve_left (by decide)) (fun y => n0 (Or.inr y))), fun x n0 => (h.hC1 (x.resolve_left (by decide)) (fun y => n0 (Or.inr y))), slot_keep h.e2 (by decide) (by decide), slot_keep h.e3 (by decide) (by decide), slot_keep h.e4 (by decide) (by decide), fun x => (h.sA4 (x.resolve_left (by decide))), fun x => (h.sB4 (x.resolve_left (by decide))), fun x => (h.sO4 (x.resolve_left (by decide))), fun x => h.r4 (x.resolve_left (by decide)), fun x => h.p4 (x.resolve_left (by decide)), fun x y => h.k4 (x.resolve_left (by decide)) (y.resolve_left (by decide)), slot_keep h.e5 (by decide) (by decide), slot_keep h.e6 (by decide) (by decide), slot_keep h.e7 (by decide) (by decide), slot_keep h.e8 (by decide) (by decide), slot_keep h.e9 (by decide) (by decide), slot_keep h.e10 (by decide) (by decide), slot_keep h.e11 (by decide) (by decide), fun x => h.h11 (x.resolve_left (by decide)), fun x n0 => (h.z11 (x.resolve_left (by decide)) (fun y => n0 (Or.inr y))), fun x => (h.z12 (x.resolve_left (by decide))), slot_keep h.e13 (by decide) (by decide), fun _ => eval_put_same a _ (h.ag.lt rfl), fun x => absurd (dep_of 14 rfl (hcl 15 _ rfl (x.resolve_left (by decide)))) hD, fun x => absurd (dep_of 14 rfl (hcl 16 _ rfl (x.resolve_left (by decide)))) hD⟩⟩
    · intro D a w' hI hD hdep hcl
      obtain ⟨g1, g2, g3, A1, c1, B1, d1, O1, f1, k6, lo, hi, h⟩ := hI
      have he := eval_get (h.e9 (dep_of 9 rfl hdep))
      refine wp_yield (v := .int .i64 res) (w' := w') (by clear h hdep hcl hD; go_simp) ?_
      exact ⟨g1, g2, g3, A1, c1, B1, d1, O1, f1, k6, lo, hi, ⟨h.ag.put (by decide) _, h.be, slot_keep h.e0 (by decide) (by decide), slot_keep h.e1 (by decide) (by decide), fun x n0 => (h.hA1 (x.resolve_left (by decide)) (fun y => n0 (Or.inr y))), fun x n0 => (h.hT1 (x.resolve_left (by decide)) (fun y => n0 (Or.inr y))), fun x n0 => (h.hC1 (x.resolve_left (by decide)) (fun y => n0 (Or.inr y))), slot_keep h.e2 (by decide) (by decide), slot_keep h.e3 (by decide) (by decide), slot_keep h.e4 (by decide) (by decide), fun x => (h.sA4 (x.resolve_left (by decide))), fun x => (h.sB4 (x.resolve_left (by decide))), fun x => (h.sO4 (x.resolve_left (by decide))), fun x => h.r4 (x.resolve_left (by decide)), fun x => h.p4 (x.resolve_left (by decide)), fun x y => h.k4 (x.resolve_left (by decide)) (y.resolve_left (by decide)), slot_keep h.e5 (by decide) (by decide), slot_keep h.e6 (by decide) (by decide), slot_keep h.e7 (by decide) (by decide), slot_keep h.e8 (by decide) (by decide), slot_keep h.e9 (by decide) (by decide), slot_keep h.e10 (by decide) (by decide), slot_keep h.e11 (by decide) (by decide), fun x => h.h11 (x.resolve_left (by decide)), fun x n0 => (h.z11 (x.resolve_left (by decide)) (fun y => n0 (Or.inr y))), fun x => (h.z12 (x.resolve_left (by decide))), slot_keep h.e13 (by decide) (by decide), slot_keep h.e14 (by decide) (by decide), fun _ => eval_put_same a _ (h.ag.lt rfl), fun x => absurd (dep_of 15 rfl (hcl 16 _ rfl (x.resolve_left (by decide)))) hD⟩⟩
    · intro D a w' hI hD hdep hcl
      obtain ⟨g1, g2, g3, A1, c1, B1, d1, O1, f1, k6, lo, hi, h⟩ := hI
      have he := eval_get (h.e10 (dep_of 10 rfl hdep))
      refine wp_yield (v := .int .i64 met) (w' := w') (by clear h hdep hcl hD; go_simp) ?_
      exact ⟨g1, g2, g3, A1, c1, B1, d1, O1, f1, k6, lo, hi, ⟨h.ag.put (by decide) _, h.be, slot_keep h.e0 (by decide) (by decide), slot_keep h.e1 (by decide) (by decide), fun x n0 => (h.hA1 (x.resolve_left (by decide)) (fun y => n0 (Or.inr y))), fun x n0 => (h.hT1 (x.resolve_left (by decide)) (fun y => n0 (Or.inr y))), fun x n0 => (h.hC1 (x.resolve_left (by decide)) (fun y => n0 (Or.inr y))), slot_keep h.e2 (by decide) (by decide), slot_keep h.e3 (by decide) (by decide), slot_keep h.e4 (by decide) (by decide), fun x => (h.sA4 (x.resolve_left (by decide))), fun x => (h.sB4 (x.resolve_left (by decide))), fun x => (h.sO4 (x.resolve_left (by decide))), fun x => h.r4 (x.resolve_left (by decide)), fun x => h.p4 (x.resolve_left (by decide)), fun x y => h.k4 (x.resolve_left (by decide)) (y.resolve_left (by decide)), slot_keep h.e5 (by decide) (by decide), slot_keep h.e6 (by decide) (by decide), slot_keep h.e7 (by decide) (by decide), slot_keep h.e8 (by decide) (by decide), slot_keep h.e9 (by decide) (by decide), slot_keep h.e10 (by decide) (by decide), slot_keep h.e11 (by decide) (by decide), fun x => h.h11 (x.resolve_left (by decide)), fun x n0 => (h.z11 (x.resolve_left (by decide)) (fun y => n0 (Or.inr y))), fun x => (h.z12 (x.resolve_left (by decide))), slot_keep h.e13 (by decide) (by decide), slot_keep h.e14 (by decide) (by decide), slot_keep h.e15 (by decide) (by decide), fun _ => eval_put_same a _ (h.ag.lt rfl)⟩⟩
  · rintro D a w' ⟨g1, g2, g3, A1, c1, B1, d1, O1, f1, k6, lo, hi, h⟩ hD
    have hd := fun i (hi : Nat.ble (i + 1) 17 = true) => hD i (Nat.le_of_ble_eq_true hi)
    exact ⟨A1, c1, B1, d1, O1, f1, k6, lo, hi, h.ag, h.e11 (hd 11 rfl), h.e13 (hd 13 rfl), h.e14 (hd 14 rfl), h.e15 (hd 15 rfl), h.e16 (hd 16 rfl), h.z12 (hd 12 rfl), h.sA4 (hd 4 rfl), h.sB4 (hd 4 rfl), h.sO4 (hd 4 rfl), h.p4 (hd 4 rfl), h.r4 (hd 4 rfl), h.k4 (hd 4 rfl) (hd 11 rfl), h.h11 (hd 11 rfl), h.be⟩
  rintro a' w16 ⟨AH, cH, BH, dH, OH, fH, kH, loH, hiH, hag, t0, t1, t2, t3, t4, hbx, qA, qB, qO, qP, qr, qk, hk6, hbe⟩
  have he := hag.eq
  clear hag
  simp only [List.foldl_cons, List.foldl_nil] at he
  rw [t0, t1, t2, t3, t4] at he
  clear t0 t1 t2 t3 t4
  generalize a'.eval (.tmp 124) = uH124 at he
  generalize a'.eval (.tmp 125) = uH125 at he
  generalize a'.eval (.tmp 126) = uH126 at he
  generalize a'.eval (.tmp 127) = uH127 at he
  generalize a'.eval (.tmp 128) = uH128 at he
  generalize a'.eval (.tmp 129) = uH129 at he
  generalize a'.eval (.tmp 130) = uH130 at he
  generalize a'.eval (.tmp 131) = uH131 at he
  generalize a'.eval (.tmp 132) = uH132 at he
  generalize a'.eval (.tmp 133) = uH133 at he
  generalize a'.eval (.tmp 134) = uH134 at he
  simp only [Act.put, List.setIfInBounds_toArray, List.set_cons_zero, List.set_cons_succ] at he
  subst he
  have K_M15 := Lib.hid (BoxC.below K_M14.out hbe)
  have K_W15 := Lib.hid (BoxC.below K_W14.out hbe)
  have KW15 := Lib.hid (BoxC.below KW14.out hbe)
  have KG15 := Lib.hid (BoxC.below KG14.out hbe)
  have SWA15 := Lib.hid (SegH.below SWA14.out hbe)
  have SWB15 := Lib.hid (SegH.below SWB14.out hbe)
  have SWO15 := Lib.hid (SegH.below SWO14.out hbe)
  have SGA15 := Lib.hid (SegH.below SGA14.out hbe)
  have SGB15 := Lib.hid (SegH.below SGB14.out hbe)
  have SGO15 := Lib.hid (SegH.below SGO14.out hbe)
  have B15 := Lib.hid (below_trans B14.out hbe)
  have kW15 := KW15.out.cell
  have kG15 := KG15.out.cell
  have KH0 := Lib.hid hbx; have SHA0 := Lib.hid qA; have SHB0 := Lib.hid qB; have SHO0 := Lib.hid qO
  have hrH : w15.heap.size ≤ loH ∧ hiH ≤ w16.heap.size := qr
  have hqH : kH < loH ∨ hiH ≤ kH := qk
  have hlH : w15.heap.size ≤ kH ∧ kH < w16.heap.size := ⟨hk6, hbx.lt⟩
  have hsw16 : w15.heap.size ≤ w16.heap.size := hbe.size
  have HPH := Lib.hid qP
  have kH0 := KH0.out.cell
  clear K_M14 K_W14 KW14 KG14 SWA14 SWB14 SWO14 SGA14 SGB14 SGO14 B14 kW14 kG14 hbx qA qB qO qr qk hk6 hbe qP
  as_aux_lemma =>
  go_wp2_with fail
  refine (eqModel_same _ _ _ _ _ _ L bs' os' n _ _ _ _ _ _ _ rL rB rO SHA0.out.rd SHB0.out.rdW SHO0.out.rdW SWA15.out.rd SWB15.out.rdW SWO15.out.rdW).mono ?_
  rintro e w17 ⟨rfl, hb⟩
  have K_M16 := Lib.hid (BoxC.below K_M15.out hb)
  have K_W16 := Lib.hid (BoxC.below K_W15.out hb)
  have KW16 := Lib.hid (BoxC.below KW15.out hb)
  have KG16 := Lib.hid (BoxC.below KG15.out hb)
  have KH16 := Lib.hid (BoxC.below KH0.out hb)
  have SWA16 := Lib.hid (SegH.below SWA15.out hb)
  have SWB16 := Lib.hid (SegH.below SWB15.out hb)
  have SWO16 := Lib.hid (SegH.below SWO15.out hb)
  have SGA16 := Lib.hid (SegH.below SGA15.out hb)
  have SGB16 := Lib.hid (SegH.below SGB15.out hb)
  have SGO16 := Lib.hid (SegH.below SGO15.out hb)
  have SHA16 := Lib.hid (SegH.below SHA0.out hb)
  have SHB16 := Lib.hid (SegH.below SHB0.out hb)
  have SHO16 := Lib.hid (SegH.below SHO0.out hb)
  have B16 := Lib.hid (below_trans B15.out hb)
  have kW16 := KW16.out.cell
  have kG16 := KG16.out.cell
  have kH16 := KH16.out.cell
  have hs17 : w16.heap.size ≤ w17.heap.size := hb.size
  clear K_M15 K_W15 KW15 KG15 KH0 SWA15 SWB15 SWO15 SGA15 SGB15 SGO15 SHA0 SHB0 SHO0 B15 kW15 kG15 kH0 hb
  have kk := KG16.out.cell
  go_wp2_with fail
  refine (heldModel_any _ _ _ _ _ _ L.length bs'.length os'.length _ 1 _ rL rB rO (by decide) (by decide) SGA16.out.rd SGB16.out.rd SGO16.out.rd).mono ?_
  rintro e w18 ⟨rfl, hb⟩
  have K_M17 := Lib.hid (BoxC.below K_M16.out hb)
  have K_W17 := Lib.hid (BoxC.below K_W16.out hb)
  have KW17 := Lib.hid (BoxC.below KW16.out hb)
  have KG17 := Lib.hid (BoxC.below KG16.out hb)
  have KH17 := Lib.hid (BoxC.below KH16.out hb)
  have SWA17 := Lib.hid (SegH.below SWA16.out hb)
  have SWB17 := Lib.hid (SegH.below SWB16.out hb)
  have SWO17 := Lib.hid (SegH.below SWO16.out hb)
  have SGA17 := Lib.hid (SegH.below SGA16.out hb)
  have SGB17 := Lib.hid (SegH.below SGB16.out hb)
  have SGO17 := Lib.hid (SegH.below SGO16.out hb)
  have SHA17 := Lib.hid (SegH.below SHA16.out hb)
  have SHB17 := Lib.hid (SegH.below SHB16.out hb)
  have SHO17 := Lib.hid (SegH.below SHO16.out hb)
  have B17 := Lib.hid (below_trans B16.out hb)
  have kW17 := KW17.out.cell
  have kG17 := KG17.out.cell
  have kH17 := KH17.out.cell
  have hs18 : w17.heap.size ≤ w18.heap.size := hb.size
  clear K_M16 K_W16 KW16 KG16 KH16 SWA16 SWB16 SWO16 SGA16 SGB16 SGO16 SHA16 SHB16 SHO16 B16 kW16 kG16 kH16 hb
  clear kk
  go_wp2
  go_ret
  exact ⟨rfl, B17.out⟩
end Go.Proofs.Ythianfhfamkcmaa
