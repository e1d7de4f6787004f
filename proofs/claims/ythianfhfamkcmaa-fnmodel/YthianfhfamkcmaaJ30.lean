/-
  The walk of the law FnModel.
-/
import Derived.Test.YthianfhfamkcmaaJ29
import Derived.Test.YthianfhfamkcmaaJ03
namespace Go.Proofs.Ythianfhfamkcmaa
open Go.RowKit

set_option maxHeartbeats 8000000 in
set_option maxRecDepth 100000 in
theorem lawModel_walk (Q1 : Option Addr) (c n : Nat) (Q2 : Option Addr) (c2 n2 : Nat) (w : World) (hm : n ≤ maxLen) (hA : RdB w Q1 n) (hm2 : n2 ≤ maxLen) (hA2 : RdB w Q2 n2) :
    Calls Try.prog 5 #[.slice Q1 n c, .slice Q2 n2 c2] w fun e w' => e = .returned (.bool true) ∧ Below w.heap.size w w' := by
  have HA := Lib.hid hA; have HA2 := Lib.hid hA2; have HM := Lib.hid hm; have HM2 := Lib.hid hm2; clear hA hA2 hm hm2
  by_cases hb1 : 1048576 < n
  · go_enter Try.func5, Try.ntmps5
    go_wp2
    go_ret
    exact ⟨rfl, Below.refl _ _⟩
  have hd1 : decide (1048576 < n) = false := decide_eq_false hb1
  by_cases hb2 : 1048576 < n2
  · go_enter Try.func5, Try.ntmps5
    go_wp2
    go_ret
    exact ⟨rfl, Below.refl _ _⟩
  have hd2 : decide (1048576 < n2) = false := decide_eq_false hb2
  go_enter Try.func5, Try.ntmps5
  go_wp2_with fail
  refine (ModelDrawnG Q1 n c _ HM.out HA.out).mono ?_
  rintro e w1 ⟨A, ca, zs, B, cb, bs, O, co, os, cnt, rfl, hmd, hO, hb⟩
  have HMD := Lib.hid hmd
  obtain ⟨lb, lo, lz⟩ := hmd.four
  have hz4 := hmd.z; have hc0 := hmd.c0; have hc1 := hmd.c1; have ho1 := hmd.o1
  have qm := md_iff.2 hmd
  have NIA := Lib.hid (own_nil hO.st); have NIB := Lib.hid (own_nil hO.wt); have NIO := Lib.hid (own_nil hO.of)
  have B0 := Lib.hid hb
  have RmA0 := Lib.hid hO.st.rd; have RmB0 := Lib.hid hO.wt.rd; have RmO0 := Lib.hid hO.of.rd
  clear hmd hO hb
  go_upto_region 4 with (refine wpList_store_row rfl 31 _ _ rfl w1.heap.size _ rfl rfl 31 _ (BoxC.new 31 w1 _) info_model rfl (one4m _ _ _ _ _ _ _ _ _ _) ?_)
  have hbl := below_setRow (below_alloc w1 (.cells #[.slice none 0 0, .int .i64 0, .slice none 0 0, .slice none 0 0] 31)) (Nat.le_refl _) #[.slice A zs.length ca, .int .i64 cnt, .slice B bs.length cb, .slice O os.length co]
  have hKm := (BoxC.new 31 w1 #[.slice none 0 0, .int .i64 0, .slice none 0 0, .slice none 0 0]).mrow #[.slice A zs.length ca, .int .i64 cnt, .slice B bs.length cb, .slice O os.length co]
  generalize (w1.alloc (.cells #[.slice none 0 0, .int .i64 0, .slice none 0 0, .slice none 0 0] 31)).setRow w1.heap.size #[.slice A zs.length ca, .int .i64 cnt, .slice B bs.length cb, .slice O os.length co] = w2 at hbl hKm ⊢
  have RmA1 := Lib.hid (RmA0.out.below hbl)
  have RmB1 := Lib.hid (RmB0.out.below hbl)
  have RmO1 := Lib.hid (RmO0.out.below hbl)
  have B1 := Lib.hid (below_trans B0.out hbl)
  have Km0 := Lib.hid hKm
  obtain ⟨adm, hqm⟩ : ∃ q, w1.heap.size = q := ⟨_, rfl⟩
  rw [hqm] at Km0 ⊢
  have km0 := Km0.out.cell
  clear RmA0 RmB0 RmO0 B0 hbl hKm hqm
  go_wp2_with fail
  refine (WaiterDrawnG Q2 n2 c2 _ HM2.out (HA2.out.below B1.out)).mono ?_
  rintro e w3 ⟨th, op, arg, hw, rfl, hb⟩
  have Km2 := Lib.hid (BoxC.below Km0.out hb)
  have RmA2 := Lib.hid (RmA1.out.below hb)
  have RmB2 := Lib.hid (RmB1.out.below hb)
  have RmO2 := Lib.hid (RmO1.out.below hb)
  have B2 := Lib.hid (below_trans B1.out hb)
  have km2 := Km2.out.cell
  have qw := hw
  clear Km0 RmA1 RmB1 RmO1 B1 km0 hb hw
  go_upto_region 5 with (refine wpList_store_row rfl 35 _ _ rfl w3.heap.size _ rfl rfl 35 _ (BoxC.new 35 w3 _) info_iWaiter rfl (one3w _ _ _) ?_)
  have hbl := below_setRow (below_alloc w3 (.cells #[.int .i64 0, .int .i64 0, .int .i64 0] 35)) (Nat.le_refl _) #[.int .i64 th, .int .i64 op, .int .i64 arg]
  have hKw := (BoxC.new 35 w3 #[.int .i64 0, .int .i64 0, .int .i64 0]).mrow #[.int .i64 th, .int .i64 op, .int .i64 arg]
  generalize (w3.alloc (.cells #[.int .i64 0, .int .i64 0, .int .i64 0] 35)).setRow w3.heap.size #[.int .i64 th, .int .i64 op, .int .i64 arg] = w4 at hbl hKw ⊢
  have Km3 := Lib.hid (BoxC.below Km2.out hbl)
  have RmA3 := Lib.hid (RmA2.out.below hbl)
  have RmB3 := Lib.hid (RmB2.out.below hbl)
  have RmO3 := Lib.hid (RmO2.out.below hbl)
  have B3 := Lib.hid (below_trans B2.out hbl)
  have km3 := Km3.out.cell
  have Kw0 := Lib.hid hKw
  obtain ⟨adw, hqw⟩ : ∃ q, w3.heap.size = q := ⟨_, rfl⟩
  rw [hqw] at Kw0 ⊢
  have kw0 := Kw0.out.cell
  clear Km2 RmA2 RmB2 RmO2 B2 km2 hbl hKw hqw
  have hop := (wt_parts qw).1
  obtain ⟨⟨⟨en, code, res, met⟩, zs', cnt', bs', os'⟩, hr⟩ : ∃ r, doR zs cnt bs os th op arg = r := ⟨_, rfl⟩
  have HDR := Lib.hid hr
  have hmd' : Md zs' cnt' bs' os' := by have := md_do (th := th) (op := op) (arg := arg) HMD.out qw; rw [hr] at this; exact this
  have HMD' := Lib.hid hmd'
  obtain ⟨lb', lo', lz'⟩ := hmd'.four
  have qm' := md_iff.2 hmd'
  have ho1' := hmd'.o1
  clear hmd'
  have hcall := mcall_yes A B O ca cb co zs bs os cnt th op arg w4 lz lb lo RmA3.out RmB3.out RmO3.out NIA.out NIB.out NIO.out hz4 hc0 hc1 hop qm qw
  have hspec := fun (w5 : World) (h : Below w4.heap.size w4 w5) => smc_yes A B O ca cb co zs bs os cnt th op arg w5 lz lb lo (RmA3.out.below h) (RmB3.out.below h) (RmO3.out.below h) qm qw
  rw [hr] at hcall
  simp only [hr] at hspec
  have HSP := Lib.hid hspec
  clear hspec hr
  go_wp2_with fail
  refine hcall.mono ?_
  clear hcall
  rintro e w5 ⟨Ax, cx, Bx, dx, Ox, fx, rfl, sA, sB, sO, _, _, _, _, _, _, _, _, _, nA, nB, nO, hb⟩
  have HB45 := Lib.hid hb
  have NXA := Lib.hid nA; have NXB := Lib.hid nB; have NXO := Lib.hid nO
  have Km4 := Lib.hid (BoxC.below Km3.out hb)
  have Kw4 := Lib.hid (BoxC.below Kw0.out hb)
  have RmA4 := Lib.hid (RmA3.out.below hb)
  have RmB4 := Lib.hid (RmB3.out.below hb)
  have RmO4 := Lib.hid (RmO3.out.below hb)
  have B4 := Lib.hid (below_trans B3.out hb)
  have km4 := Km4.out.cell
  have kw4 := Kw4.out.cell
  have RxA0 := Lib.hid (sA.rd)
  have RxB0 := Lib.hid (sB.rdW)
  have RxO0 := Lib.hid (sO.rdW)
  clear Km3 Kw0 RmA3 RmB3 RmO3 B3 km3 kw0 hb sA sB sO nA nB nO
  dsimp only
  go_upto_region 6 with (refine wpList_store_row rfl 31 _ _ rfl w5.heap.size _ rfl rfl 31 _ (BoxC.new 31 w5 _) info_model rfl (one4m _ _ _ _ _ _ _ _ _ _) ?_)
  have hbl := below_setRow (below_alloc w5 (.cells #[.slice none 0 0, .int .i64 0, .slice none 0 0, .slice none 0 0] 31)) (Nat.le_refl _) #[.slice Ax zs'.length cx, .int .i64 cnt', .slice Bx bs'.length dx, .slice Ox os'.length fx]
  have hKx := (BoxC.new 31 w5 #[.slice none 0 0, .int .i64 0, .slice none 0 0, .slice none 0 0]).mrow #[.slice Ax zs'.length cx, .int .i64 cnt', .slice Bx bs'.length dx, .slice Ox os'.length fx]
  generalize (w5.alloc (.cells #[.slice none 0 0, .int .i64 0, .slice none 0 0, .slice none 0 0] 31)).setRow w5.heap.size #[.slice Ax zs'.length cx, .int .i64 cnt', .slice Bx bs'.length dx, .slice Ox os'.length fx] = w6 at hbl hKx ⊢
  have Km5 := Lib.hid (BoxC.below Km4.out hbl)
  have Kw5 := Lib.hid (BoxC.below Kw4.out hbl)
  have RmA5 := Lib.hid (RmA4.out.below hbl)
  have RmB5 := Lib.hid (RmB4.out.below hbl)
  have RmO5 := Lib.hid (RmO4.out.below hbl)
  have RxA5 := Lib.hid (RxA0.out.below hbl)
  have RxB5 := Lib.hid (RxB0.out.below hbl)
  have RxO5 := Lib.hid (RxO0.out.below hbl)
  have B5 := Lib.hid (below_trans B4.out hbl)
  have km5 := Km5.out.cell
  have kw5 := Kw5.out.cell
  have Kx0 := Lib.hid hKx
  obtain ⟨adx, hqx⟩ : ∃ q, w5.heap.size = q := ⟨_, rfl⟩
  rw [hqx] at Kx0 ⊢
  have kx0 := Kx0.out.cell
  have HB46 := Lib.hid (below_trans HB45.out hbl)
  clear Km4 Kw4 RmA4 RmB4 RmO4 RxA0 RxB0 RxO0 B4 km4 kw4 hKx hqx
  clear hbl HB45
  go_wp2_with fail
  refine (HSP.out _ HB46.out).mono ?_
  rintro e w7 ⟨As, cs, Bs, ds, Os, fs, rfl, sA, sB, sO, hb⟩
  have Km6 := Lib.hid (BoxC.below Km5.out hb)
  have Kw6 := Lib.hid (BoxC.below Kw5.out hb)
  have Kx6 := Lib.hid (BoxC.below Kx0.out hb)
  have RmA6 := Lib.hid (RmA5.out.below hb)
  have RmB6 := Lib.hid (RmB5.out.below hb)
  have RmO6 := Lib.hid (RmO5.out.below hb)
  have RxA6 := Lib.hid (RxA5.out.below hb)
  have RxB6 := Lib.hid (RxB5.out.below hb)
  have RxO6 := Lib.hid (RxO5.out.below hb)
  have B6 := Lib.hid (below_trans B5.out hb)
  have km6 := Km6.out.cell
  have kw6 := Kw6.out.cell
  have kx6 := Kx6.out.cell
  have RsA0 := Lib.hid (sA.rd)
  have RsB0 := Lib.hid (sB.rdW)
  have RsO0 := Lib.hid (sO.rdW)
  clear Km5 Kw5 Kx0 RmA5 RmB5 RmO5 RxA5 RxB5 RxO5 B5 km5 kw5 kx0 hb sA sB sO HSP HB46
  dsimp only
  go_upto_region 7 with (refine wpList_store_row rfl 31 _ _ rfl w7.heap.size _ rfl rfl 31 _ (BoxC.new 31 w7 _) info_model rfl (one4m _ _ _ _ _ _ _ _ _ _) ?_)
  have hbl := below_setRow (below_alloc w7 (.cells #[.slice none 0 0, .int .i64 0, .slice none 0 0, .slice none 0 0] 31)) (Nat.le_refl _) #[.slice As zs'.length cs, .int .i64 cnt', .slice Bs bs'.length ds, .slice Os os'.length fs]
  have hKs := (BoxC.new 31 w7 #[.slice none 0 0, .int .i64 0, .slice none 0 0, .slice none 0 0]).mrow #[.slice As zs'.length cs, .int .i64 cnt', .slice Bs bs'.length ds, .slice Os os'.length fs]
  generalize (w7.alloc (.cells #[.slice none 0 0, .int .i64 0, .slice none 0 0, .slice none 0 0] 31)).setRow w7.heap.size #[.slice As zs'.length cs, .int .i64 cnt', .slice Bs bs'.length ds, .slice Os os'.length fs] = w8 at hbl hKs ⊢
  have Km7 := Lib.hid (BoxC.below Km6.out hbl)
  have Kw7 := Lib.hid (BoxC.below Kw6.out hbl)
  have Kx7 := Lib.hid (BoxC.below Kx6.out hbl)
  have RmA7 := Lib.hid (RmA6.out.below hbl)
  have RmB7 := Lib.hid (RmB6.out.below hbl)
  have RmO7 := Lib.hid (RmO6.out.below hbl)
  have RxA7 := Lib.hid (RxA6.out.below hbl)
  have RxB7 := Lib.hid (RxB6.out.below hbl)
  have RxO7 := Lib.hid (RxO6.out.below hbl)
  have RsA7 := Lib.hid (RsA0.out.below hbl)
  have RsB7 := Lib.hid (RsB0.out.below hbl)
  have RsO7 := Lib.hid (RsO0.out.below hbl)
  have B7 := Lib.hid (below_trans B6.out hbl)
  have km7 := Km7.out.cell
  have kw7 := Kw7.out.cell
  have kx7 := Kx7.out.cell
  have Ks0 := Lib.hid hKs
  obtain ⟨ads, hqs⟩ : ∃ q, w7.heap.size = q := ⟨_, rfl⟩
  rw [hqs] at Ks0 ⊢
  have ks0 := Ks0.out.cell
  clear Km6 Kw6 Kx6 RmA6 RmB6 RmO6 RxA6 RxB6 RxO6 RsA0 RsB0 RsO0 B6 km6 kw6 kx6 hbl hKs hqs
  have hsm := sm_self HMD'.out
  go_wp2_with fail
  refine (implSameModel_any _ _ _ _ _ _ zs' bs' os' cnt' _ _ _ _ _ _ zs' bs' os' cnt' _ lz' lb' lo' RxA7.out RxB7.out RxO7.out lz' lb' lo' RsA7.out RsB7.out RsO7.out).mono ?_
  rintro e w9 ⟨rfl, hb⟩
  have Km8 := Lib.hid (BoxC.below Km7.out hb)
  have Kw8 := Lib.hid (BoxC.below Kw7.out hb)
  have Kx8 := Lib.hid (BoxC.below Kx7.out hb)
  have Ks8 := Lib.hid (BoxC.below Ks0.out hb)
  have RmA8 := Lib.hid (RmA7.out.below hb)
  have RmB8 := Lib.hid (RmB7.out.below hb)
  have RmO8 := Lib.hid (RmO7.out.below hb)
  have RxA8 := Lib.hid (RxA7.out.below hb)
  have RxB8 := Lib.hid (RxB7.out.below hb)
  have RxO8 := Lib.hid (RxO7.out.below hb)
  have RsA8 := Lib.hid (RsA7.out.below hb)
  have RsB8 := Lib.hid (RsB7.out.below hb)
  have RsO8 := Lib.hid (RsO7.out.below hb)
  have B8 := Lib.hid (below_trans B7.out hb)
  have km8 := Km8.out.cell
  have kw8 := Kw8.out.cell
  have kx8 := Kx8.out.cell
  have ks8 := Ks8.out.cell
  clear Km7 Kw7 Kx7 Ks0 RmA7 RmB7 RmO7 RxA7 RxB7 RxO7 RsA7 RsB7 RsO7 B7 km7 kw7 kx7 ks0 hb
  rw [hsm]
  go_wp2_with fail
  refine (implModelOK_any _ _ _ _ _ _ zs' bs' os' cnt' _ lz' lb' lo' RxA8.out RxB8.out RxO8.out).mono ?_
  rintro e wa ⟨rfl, hb⟩
  have Km9 := Lib.hid (BoxC.below Km8.out hb)
  have Kw9 := Lib.hid (BoxC.below Kw8.out hb)
  have Kx9 := Lib.hid (BoxC.below Kx8.out hb)
  have Ks9 := Lib.hid (BoxC.below Ks8.out hb)
  have RmA9 := Lib.hid (RmA8.out.below hb)
  have RmB9 := Lib.hid (RmB8.out.below hb)
  have RmO9 := Lib.hid (RmO8.out.below hb)
  have RxA9 := Lib.hid (RxA8.out.below hb)
  have RxB9 := Lib.hid (RxB8.out.below hb)
  have RxO9 := Lib.hid (RxO8.out.below hb)
  have RsA9 := Lib.hid (RsA8.out.below hb)
  have RsB9 := Lib.hid (RsB8.out.below hb)
  have RsO9 := Lib.hid (RsO8.out.below hb)
  have B9 := Lib.hid (below_trans B8.out hb)
  have km9 := Km9.out.cell
  have kw9 := Kw9.out.cell
  have kx9 := Kx9.out.cell
  have ks9 := Ks9.out.cell
  clear Km8 Kw8 Kx8 Ks8 RmA8 RmB8 RmO8 RxA8 RxB8 RxO8 RsA8 RsB8 RsO8 B8 km8 kw8 kx8 ks8 hb
  rw [qm']
  by_cases hcode : code = 0
  rotate_left
  · skip
    skip
    have hle := doR_less HDR.out (by simp [*])
    have hle' : ((bs'.length : Int) + (os'.length : Int)) ≤ (bs.length : Int) + (os.length : Int) := by omega
    have e1 : IntKind.i64.wrap ((bs'.length : Int) + os'.length) = (bs'.length : Int) + os'.length := IntWalk.i64_in _ (by omega)
    have e2 : IntKind.i64.wrap ((bs.length : Int) + os.length) = (bs.length : Int) + os.length := IntWalk.i64_in _ (by omega)
    go_wp2
    go_ret
    exact ⟨by simp, B9.out⟩
  subst hcode
  cases en
  rotate_left
  · skip
    skip
    have hle := doR_less HDR.out (by simp [*])
    have hle' : ((bs'.length : Int) + (os'.length : Int)) ≤ (bs.length : Int) + (os.length : Int) := by omega
    have e1 : IntKind.i64.wrap ((bs'.length : Int) + os'.length) = (bs'.length : Int) + os'.length := IntWalk.i64_in _ (by omega)
    have e2 : IntKind.i64.wrap ((bs.length : Int) + os.length) = (bs.length : Int) + os.length := IntWalk.i64_in _ (by omega)
    go_wp2
    go_ret
    exact ⟨by simp, B9.out⟩
  obtain ⟨u1, u2, rfl, rfl, u5, u6, u7⟩ := doR_stays HMD.out qw HDR.out
  have HU := Lib.hid u7; have HU2 := Lib.hid u2; have HU5 := Lib.hid u5; have HU6 := Lib.hid u6
  clear u7 u2 u5 u6
  have hl1 := fun (w5 : World) (h : Below wa.heap.size wa w5) => mleave_yes Ax Bx Ox cx dx fx zs' bs' os' cnt' th w5 lz' lb' lo' (RxA9.out.below h) (RxB9.out.below h) (RxO9.out.below h) NXA.out NXB.out NXO.out qm' HU2.out
  simp only [HU5.out, HU6.out] at hl1
  go_wp2_with fail
  refine (hl1 _ (Below.refl _ _)).mono ?_
  clear hl1
  rintro e wb ⟨Ay, cy, By, dy, Oy, fy, rfl, sA, sB, sO, _, hb⟩
  have Km10 := Lib.hid (BoxC.below Km9.out hb)
  have Kw10 := Lib.hid (BoxC.below Kw9.out hb)
  have Kx10 := Lib.hid (BoxC.below Kx9.out hb)
  have Ks10 := Lib.hid (BoxC.below Ks9.out hb)
  have RmA10 := Lib.hid (RmA9.out.below hb)
  have RmB10 := Lib.hid (RmB9.out.below hb)
  have RmO10 := Lib.hid (RmO9.out.below hb)
  have RxA10 := Lib.hid (RxA9.out.below hb)
  have RxB10 := Lib.hid (RxB9.out.below hb)
  have RxO10 := Lib.hid (RxO9.out.below hb)
  have RsA10 := Lib.hid (RsA9.out.below hb)
  have RsB10 := Lib.hid (RsB9.out.below hb)
  have RsO10 := Lib.hid (RsO9.out.below hb)
  have B10 := Lib.hid (below_trans B9.out hb)
  have km10 := Km10.out.cell
  have kw10 := Kw10.out.cell
  have kx10 := Kx10.out.cell
  have ks10 := Ks10.out.cell
  have RyA0 := Lib.hid (sA.s.rd)
  have RyB0 := Lib.hid (sB.s.rdW)
  have RyO0 := Lib.hid (sO.s.rdW)
  clear Km9 Kw9 Kx9 Ks9 RmA9 RmB9 RmO9 RxA9 RxB9 RxO9 RsA9 RsB9 RsO9 B9 km9 kw9 kx9 ks9 hb sA sB sO
  go_upto_region 12 with (refine wpList_store_row rfl 31 _ _ rfl wb.heap.size _ rfl rfl 31 _ (BoxC.new 31 wb _) info_model rfl (one4m _ _ _ _ _ _ _ _ _ _) ?_)
  have hbl := below_setRow (below_alloc wb (.cells #[.slice none 0 0, .int .i64 0, .slice none 0 0, .slice none 0 0] 31)) (Nat.le_refl _) #[.slice Ay zs'.length cy, .int .i64 cnt', .slice By bs.length dy, .slice Oy os.length fy]
  have hKy := (BoxC.new 31 wb #[.slice none 0 0, .int .i64 0, .slice none 0 0, .slice none 0 0]).mrow #[.slice Ay zs'.length cy, .int .i64 cnt', .slice By bs.length dy, .slice Oy os.length fy]
  generalize (wb.alloc (.cells #[.slice none 0 0, .int .i64 0, .slice none 0 0, .slice none 0 0] 31)).setRow wb.heap.size #[.slice Ay zs'.length cy, .int .i64 cnt', .slice By bs.length dy, .slice Oy os.length fy] = wc at hbl hKy ⊢
  have Km11 := Lib.hid (BoxC.below Km10.out hbl)
  have Kw11 := Lib.hid (BoxC.below Kw10.out hbl)
  have Kx11 := Lib.hid (BoxC.below Kx10.out hbl)
  have Ks11 := Lib.hid (BoxC.below Ks10.out hbl)
  have RmA11 := Lib.hid (RmA10.out.below hbl)
  have RmB11 := Lib.hid (RmB10.out.below hbl)
  have RmO11 := Lib.hid (RmO10.out.below hbl)
  have RxA11 := Lib.hid (RxA10.out.below hbl)
  have RxB11 := Lib.hid (RxB10.out.below hbl)
  have RxO11 := Lib.hid (RxO10.out.below hbl)
  have RsA11 := Lib.hid (RsA10.out.below hbl)
  have RsB11 := Lib.hid (RsB10.out.below hbl)
  have RsO11 := Lib.hid (RsO10.out.below hbl)
  have RyA11 := Lib.hid (RyA0.out.below hbl)
  have RyB11 := Lib.hid (RyB0.out.below hbl)
  have RyO11 := Lib.hid (RyO0.out.below hbl)
  have B11 := Lib.hid (below_trans B10.out hbl)
  have km11 := Km11.out.cell
  have kw11 := Kw11.out.cell
  have kx11 := Kx11.out.cell
  have ks11 := Ks11.out.cell
  have Ky0 := Lib.hid hKy
  obtain ⟨ady, hqy⟩ : ∃ q, wb.heap.size = q := ⟨_, rfl⟩
  rw [hqy] at Ky0 ⊢
  have ky0 := Ky0.out.cell
  clear Km10 Kw10 Kx10 Ks10 RmA10 RmB10 RmO10 RxA10 RxB10 RxO10 RsA10 RsB10 RsO10 RyA0 RyB0 RyO0 B10 km10 kw10 kx10 ks10 hbl hKy hqy
  go_wp2_with fail
  refine (mleave_idle A B O ca cb co _ bs os _ th _ lz lb lo RmA11.out RmB11.out RmO11.out NIA.out NIB.out NIO.out qm u1).mono ?_
  rintro e wd ⟨Av, cv, Bv, dv, Ov, fv, rfl, sA, sB, sO, _, hb⟩
  have Km12 := Lib.hid (BoxC.below Km11.out hb)
  have Kw12 := Lib.hid (BoxC.below Kw11.out hb)
  have Kx12 := Lib.hid (BoxC.below Kx11.out hb)
  have Ks12 := Lib.hid (BoxC.below Ks11.out hb)
  have Ky12 := Lib.hid (BoxC.below Ky0.out hb)
  have RmA12 := Lib.hid (RmA11.out.below hb)
  have RmB12 := Lib.hid (RmB11.out.below hb)
  have RmO12 := Lib.hid (RmO11.out.below hb)
  have RxA12 := Lib.hid (RxA11.out.below hb)
  have RxB12 := Lib.hid (RxB11.out.below hb)
  have RxO12 := Lib.hid (RxO11.out.below hb)
  have RsA12 := Lib.hid (RsA11.out.below hb)
  have RsB12 := Lib.hid (RsB11.out.below hb)
  have RsO12 := Lib.hid (RsO11.out.below hb)
  have RyA12 := Lib.hid (RyA11.out.below hb)
  have RyB12 := Lib.hid (RyB11.out.below hb)
  have RyO12 := Lib.hid (RyO11.out.below hb)
  have B12 := Lib.hid (below_trans B11.out hb)
  have km12 := Km12.out.cell
  have kw12 := Kw12.out.cell
  have kx12 := Kx12.out.cell
  have ks12 := Ks12.out.cell
  have ky12 := Ky12.out.cell
  clear Km11 Kw11 Kx11 Ks11 Ky0 RmA11 RmB11 RmO11 RxA11 RxB11 RxO11 RsA11 RsB11 RsO11 RyA11 RyB11 RyO11 B11 km11 kw11 kx11 ks11 ky0 hb sA sB sO
  go_upto_region 13 with (refine wpList_store_row rfl 31 _ _ rfl wd.heap.size _ rfl rfl 31 _ (BoxC.new 31 wd _) info_model rfl (one4m _ _ _ _ _ _ _ _ _ _) ?_)
  have hbl := below_setRow (below_alloc wd (.cells #[.slice none 0 0, .int .i64 0, .slice none 0 0, .slice none 0 0] 31)) (Nat.le_refl _) #[.slice Av zs'.length cv, .int .i64 cnt', .slice Bv bs.length dv, .slice Ov os.length fv]
  have hKv := (BoxC.new 31 wd #[.slice none 0 0, .int .i64 0, .slice none 0 0, .slice none 0 0]).mrow #[.slice Av zs'.length cv, .int .i64 cnt', .slice Bv bs.length dv, .slice Ov os.length fv]
  generalize (wd.alloc (.cells #[.slice none 0 0, .int .i64 0, .slice none 0 0, .slice none 0 0] 31)).setRow wd.heap.size #[.slice Av zs'.length cv, .int .i64 cnt', .slice Bv bs.length dv, .slice Ov os.length fv] = we at hbl hKv ⊢
  have Km13 := Lib.hid (BoxC.below Km12.out hbl)
  have Kw13 := Lib.hid (BoxC.below Kw12.out hbl)
  have Kx13 := Lib.hid (BoxC.below Kx12.out hbl)
  have Ks13 := Lib.hid (BoxC.below Ks12.out hbl)
  have Ky13 := Lib.hid (BoxC.below Ky12.out hbl)
  have RmA13 := Lib.hid (RmA12.out.below hbl)
  have RmB13 := Lib.hid (RmB12.out.below hbl)
  have RmO13 := Lib.hid (RmO12.out.below hbl)
  have RxA13 := Lib.hid (RxA12.out.below hbl)
  have RxB13 := Lib.hid (RxB12.out.below hbl)
  have RxO13 := Lib.hid (RxO12.out.below hbl)
  have RsA13 := Lib.hid (RsA12.out.below hbl)
  have RsB13 := Lib.hid (RsB12.out.below hbl)
  have RsO13 := Lib.hid (RsO12.out.below hbl)
  have RyA13 := Lib.hid (RyA12.out.below hbl)
  have RyB13 := Lib.hid (RyB12.out.below hbl)
  have RyO13 := Lib.hid (RyO12.out.below hbl)
  have B13 := Lib.hid (below_trans B12.out hbl)
  have km13 := Km13.out.cell
  have kw13 := Kw13.out.cell
  have kx13 := Kx13.out.cell
  have ks13 := Ks13.out.cell
  have ky13 := Ky13.out.cell
  have Kv0 := Lib.hid hKv
  obtain ⟨adv, hqv⟩ : ∃ q, wd.heap.size = q := ⟨_, rfl⟩
  rw [hqv] at Kv0 ⊢
  have kv0 := Kv0.out.cell
  clear Km12 Kw12 Kx12 Ks12 Ky12 RmA12 RmB12 RmO12 RxA12 RxB12 RxO12 RsA12 RsB12 RsO12 RyA12 RyB12 RyO12 B12 km12 kw12 kx12 ks12 ky12 hbl hKv hqv
  go_wp2_with fail
  refine (implModelHolds_any _ _ _ _ _ _ zs' bs' os' cnt' _ lz' lb' lo' RxA13.out RxB13.out RxO13.out).mono ?_
  rintro e wf ⟨rfl, hb⟩
  have Km14 := Lib.hid (BoxC.below Km13.out hb)
  have Kw14 := Lib.hid (BoxC.below Kw13.out hb)
  have Kx14 := Lib.hid (BoxC.below Kx13.out hb)
  have Ks14 := Lib.hid (BoxC.below Ks13.out hb)
  have Ky14 := Lib.hid (BoxC.below Ky13.out hb)
  have Kv14 := Lib.hid (BoxC.below Kv0.out hb)
  have RmA14 := Lib.hid (RmA13.out.below hb)
  have RmB14 := Lib.hid (RmB13.out.below hb)
  have RmO14 := Lib.hid (RmO13.out.below hb)
  have RxA14 := Lib.hid (RxA13.out.below hb)
  have RxB14 := Lib.hid (RxB13.out.below hb)
  have RxO14 := Lib.hid (RxO13.out.below hb)
  have RsA14 := Lib.hid (RsA13.out.below hb)
  have RsB14 := Lib.hid (RsB13.out.below hb)
  have RsO14 := Lib.hid (RsO13.out.below hb)
  have RyA14 := Lib.hid (RyA13.out.below hb)
  have RyB14 := Lib.hid (RyB13.out.below hb)
  have RyO14 := Lib.hid (RyO13.out.below hb)
  have B14 := Lib.hid (below_trans B13.out hb)
  have km14 := Km14.out.cell
  have kw14 := Kw14.out.cell
  have kx14 := Kx14.out.cell
  have ks14 := Ks14.out.cell
  have ky14 := Ky14.out.cell
  have kv14 := Kv14.out.cell
  clear Km13 Kw13 Kx13 Ks13 Ky13 Kv0 RmA13 RmB13 RmO13 RxA13 RxB13 RxO13 RsA13 RsB13 RsO13 RyA13 RyB13 RyO13 B13 km13 kw13 kx13 ks13 ky13 kv0 hb
  have hsm2 := sm_self HMD.out
  rcases HU.out with ⟨h3, hbb⟩ | ⟨h3, hne, hhd⟩
  · skip
    by_cases hl0 : bs'.length = 0
    · skip
      obtain ⟨g1, g2⟩ := ho_none (os := os') qm' hl0
      rw [g1, g2]
      clear HU hbb hl0 g1 g2
      go_wp2_with fail
      refine (implSameModel_any _ _ _ _ _ _ _ bs os _ _ _ _ _ _ _ _ bs os _ _ lz lb lo RyA14.out RyB14.out RyO14.out lz lb lo RmA14.out RmB14.out RmO14.out).mono ?_
      rintro e wg ⟨rfl, hb⟩
      rw [hsm2]
      have Km15 := Lib.hid (BoxC.below Km14.out hb)
      have Kw15 := Lib.hid (BoxC.below Kw14.out hb)
      have Kx15 := Lib.hid (BoxC.below Kx14.out hb)
      have Ks15 := Lib.hid (BoxC.below Ks14.out hb)
      have Ky15 := Lib.hid (BoxC.below Ky14.out hb)
      have Kv15 := Lib.hid (BoxC.below Kv14.out hb)
      have RmA15 := Lib.hid (RmA14.out.below hb)
      have RmB15 := Lib.hid (RmB14.out.below hb)
      have RmO15 := Lib.hid (RmO14.out.below hb)
      have RxA15 := Lib.hid (RxA14.out.below hb)
      have RxB15 := Lib.hid (RxB14.out.below hb)
      have RxO15 := Lib.hid (RxO14.out.below hb)
      have RsA15 := Lib.hid (RsA14.out.below hb)
      have RsB15 := Lib.hid (RsB14.out.below hb)
      have RsO15 := Lib.hid (RsO14.out.below hb)
      have RyA15 := Lib.hid (RyA14.out.below hb)
      have RyB15 := Lib.hid (RyB14.out.below hb)
      have RyO15 := Lib.hid (RyO14.out.below hb)
      have B15 := Lib.hid (below_trans B14.out hb)
      have km15 := Km15.out.cell
      have kw15 := Kw15.out.cell
      have kx15 := Kx15.out.cell
      have ks15 := Ks15.out.cell
      have ky15 := Ky15.out.cell
      have kv15 := Kv15.out.cell
      clear Km14 Kw14 Kx14 Ks14 Ky14 Kv14 RmA14 RmB14 RmO14 RxA14 RxB14 RxO14 RsA14 RsB14 RsO14 RyA14 RyB14 RyO14 B14 km14 kw14 kx14 ks14 ky14 kv14 hb
      go_wp2
      go_ret
      exact ⟨by simp [*], B15.out⟩
    · skip
      have g2 : hoC zs' cnt' bs' os' = 0 := by unfold hoC; rw [if_pos qm', if_neg hl0]
      obtain ⟨hv, hhv⟩ : ∃ v, hoB zs' cnt' bs' os' = v := ⟨_, rfl⟩
      rw [hhv, g2]
      clear HU hbb hl0 g2 hhv
      go_wp2_with fail
      refine (implSameModel_any _ _ _ _ _ _ _ bs os _ _ _ _ _ _ _ _ bs os _ _ lz lb lo RyA14.out RyB14.out RyO14.out lz lb lo RmA14.out RmB14.out RmO14.out).mono ?_
      rintro e wg ⟨rfl, hb⟩
      rw [hsm2]
      have Km15 := Lib.hid (BoxC.below Km14.out hb)
      have Kw15 := Lib.hid (BoxC.below Kw14.out hb)
      have Kx15 := Lib.hid (BoxC.below Kx14.out hb)
      have Ks15 := Lib.hid (BoxC.below Ks14.out hb)
      have Ky15 := Lib.hid (BoxC.below Ky14.out hb)
      have Kv15 := Lib.hid (BoxC.below Kv14.out hb)
      have RmA15 := Lib.hid (RmA14.out.below hb)
      have RmB15 := Lib.hid (RmB14.out.below hb)
      have RmO15 := Lib.hid (RmO14.out.below hb)
      have RxA15 := Lib.hid (RxA14.out.below hb)
      have RxB15 := Lib.hid (RxB14.out.below hb)
      have RxO15 := Lib.hid (RxO14.out.below hb)
      have RsA15 := Lib.hid (RsA14.out.below hb)
      have RsB15 := Lib.hid (RsB14.out.below hb)
      have RsO15 := Lib.hid (RsO14.out.below hb)
      have RyA15 := Lib.hid (RyA14.out.below hb)
      have RyB15 := Lib.hid (RyB14.out.below hb)
      have RyO15 := Lib.hid (RyO14.out.below hb)
      have B15 := Lib.hid (below_trans B14.out hb)
      have km15 := Km15.out.cell
      have kw15 := Kw15.out.cell
      have kx15 := Kx15.out.cell
      have ks15 := Ks15.out.cell
      have ky15 := Ky15.out.cell
      have kv15 := Kv15.out.cell
      clear Km14 Kw14 Kx14 Ks14 Ky14 Kv14 RmA14 RmB14 RmO14 RxA14 RxB14 RxO14 RsA14 RsB14 RsO14 RyA14 RyB14 RyO14 B14 km14 kw14 kx14 ks14 ky14 kv14 hb
      go_wp2
      go_ret
      exact ⟨by simp [*], B15.out⟩
  · skip
    have g2 : hoC zs' cnt' bs' os' = 0 := by unfold hoC; rw [if_pos qm', if_neg hne]
    have g1 : hoB zs' cnt' bs' os' = (op == 1) := by
      unfold hoB
      rw [qm', hhd]
      cases bs' with
      | nil => exact absurd rfl hne
      | cons a b => rfl
    rw [g1, g2]
    clear HU hne hhd g1 g2
    by_cases h1 : op = 1
    · skip
      have h1b : (op == 1) = true := by simp [h1]
      rw [h1b]
      go_wp2_with fail
      refine (implSameModel_any _ _ _ _ _ _ _ bs os _ _ _ _ _ _ _ _ bs os _ _ lz lb lo RyA14.out RyB14.out RyO14.out lz lb lo RmA14.out RmB14.out RmO14.out).mono ?_
      rintro e wg ⟨rfl, hb⟩
      rw [hsm2]
      have Km15 := Lib.hid (BoxC.below Km14.out hb)
      have Kw15 := Lib.hid (BoxC.below Kw14.out hb)
      have Kx15 := Lib.hid (BoxC.below Kx14.out hb)
      have Ks15 := Lib.hid (BoxC.below Ks14.out hb)
      have Ky15 := Lib.hid (BoxC.below Ky14.out hb)
      have Kv15 := Lib.hid (BoxC.below Kv14.out hb)
      have RmA15 := Lib.hid (RmA14.out.below hb)
      have RmB15 := Lib.hid (RmB14.out.below hb)
      have RmO15 := Lib.hid (RmO14.out.below hb)
      have RxA15 := Lib.hid (RxA14.out.below hb)
      have RxB15 := Lib.hid (RxB14.out.below hb)
      have RxO15 := Lib.hid (RxO14.out.below hb)
      have RsA15 := Lib.hid (RsA14.out.below hb)
      have RsB15 := Lib.hid (RsB14.out.below hb)
      have RsO15 := Lib.hid (RsO14.out.below hb)
      have RyA15 := Lib.hid (RyA14.out.below hb)
      have RyB15 := Lib.hid (RyB14.out.below hb)
      have RyO15 := Lib.hid (RyO14.out.below hb)
      have B15 := Lib.hid (below_trans B14.out hb)
      have km15 := Km15.out.cell
      have kw15 := Kw15.out.cell
      have kx15 := Kx15.out.cell
      have ks15 := Ks15.out.cell
      have ky15 := Ky15.out.cell
      have kv15 := Kv15.out.cell
      clear Km14 Kw14 Kx14 Ks14 Ky14 Kv14 RmA14 RmB14 RmO14 RxA14 RxB14 RxO14 RsA14 RsB14 RsO14 RyA14 RyB14 RyO14 B14 km14 kw14 kx14 ks14 ky14 kv14 hb
      go_wp2
      go_ret
      exact ⟨by simp [*], B15.out⟩
    · skip
      have h1b : (op == 1) = false := by simp [h1]
      rw [h1b]
      go_wp2_with fail
      refine (implSameModel_any _ _ _ _ _ _ _ bs os _ _ _ _ _ _ _ _ bs os _ _ lz lb lo RyA14.out RyB14.out RyO14.out lz lb lo RmA14.out RmB14.out RmO14.out).mono ?_
      rintro e wg ⟨rfl, hb⟩
      rw [hsm2]
      have Km15 := Lib.hid (BoxC.below Km14.out hb)
      have Kw15 := Lib.hid (BoxC.below Kw14.out hb)
      have Kx15 := Lib.hid (BoxC.below Kx14.out hb)
      have Ks15 := Lib.hid (BoxC.below Ks14.out hb)
      have Ky15 := Lib.hid (BoxC.below Ky14.out hb)
      have Kv15 := Lib.hid (BoxC.below Kv14.out hb)
      have RmA15 := Lib.hid (RmA14.out.below hb)
      have RmB15 := Lib.hid (RmB14.out.below hb)
      have RmO15 := Lib.hid (RmO14.out.below hb)
      have RxA15 := Lib.hid (RxA14.out.below hb)
      have RxB15 := Lib.hid (RxB14.out.below hb)
      have RxO15 := Lib.hid (RxO14.out.below hb)
      have RsA15 := Lib.hid (RsA14.out.below hb)
      have RsB15 := Lib.hid (RsB14.out.below hb)
      have RsO15 := Lib.hid (RsO14.out.below hb)
      have RyA15 := Lib.hid (RyA14.out.below hb)
      have RyB15 := Lib.hid (RyB14.out.below hb)
      have RyO15 := Lib.hid (RyO14.out.below hb)
      have B15 := Lib.hid (below_trans B14.out hb)
      have km15 := Km15.out.cell
      have kw15 := Kw15.out.cell
      have kx15 := Kx15.out.cell
      have ks15 := Ks15.out.cell
      have ky15 := Ky15.out.cell
      have kv15 := Kv15.out.cell
      clear Km14 Kw14 Kx14 Ks14 Ky14 Kv14 RmA14 RmB14 RmO14 RxA14 RxB14 RxO14 RsA14 RsB14 RsO14 RyA14 RyB14 RyO14 B14 km14 kw14 kx14 ks14 ky14 kv14 hb
      go_wp2
      go_ret
      exact ⟨by simp [*], B15.out⟩
end Go.Proofs.Ythianfhfamkcmaa
