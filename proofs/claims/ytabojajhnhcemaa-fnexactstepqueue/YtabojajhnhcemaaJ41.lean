/-
  Steps of the model, by Pc.
  The model's l04Join over the ways of a step.
  The model's l04Await over the ways of a step.
  Steps of the model, by Pc.
  The model's l04Match over the ways of a step.
-/
import Derived.Test.YtabojajhnhcemaaJ10
import Derived.Deep.DeepCutAuto
import Derived.Test.YtabojajhnhcemaaJ16
import Derived.Test.YtabojajhnhcemaaJ13
import Derived.Test.YtabojajhnhcemaaJ23
import Derived.Test.YtabojajhnhcemaaJ24
import Derived.Test.YtabojajhnhcemaaJ25
import Derived.Test.YtabojajhnhcemaaJ26
import Derived.Test.YtabojajhnhcemaaJ27
import Derived.Test.YtabojajhnhcemaaJ28
import Derived.Test.YtabojajhnhcemaaJ29
import Derived.Test.YtabojajhnhcemaaJ30
import Derived.Test.YtabojajhnhcemaaJ31
import Derived.Test.YtabojajhnhcemaaJ32
import Derived.Test.YtabojajhnhcemaaJ33
import Derived.Test.YtabojajhnhcemaaJ34
import Derived.Test.YtabojajhnhcemaaJ35
import Derived.Test.YtabojajhnhcemaaJ36
import Derived.Test.YtabojajhnhcemaaJ37
import Derived.Test.YtabojajhnhcemaaJ38
import Derived.Test.YtabojajhnhcemaaJ39
import Derived.Test.YtabojajhnhcemaaJ40
namespace Go.Proofs.Ytabojajhnhcemaa
open Go.RowKit

set_option maxHeartbeats 16000000 in
set_option maxRecDepth 100000 in
theorem join8 (id : Int) (st : Int) (op : Int) (arg : Int) (til : Int) (per : Bool) (can : Bool) (r0 : Int) (r1 : Int) (r2 : Int) (r3 : Int) (r4 : Int) (code : Int) (res : Int) (A : Option Addr) (c : Nat) (zs : List Int) (now : Int) (L : List Int) (w : World) (hn : zs.length ≤ 1048576) (hA : Rd w A zs) (hl : casZ zs (2) (r0) (r3) = L) :
    Calls Try.prog 76 #[.agg #[.slice A zs.length c], .agg #[.int .i64 id, .int .i64 st, .int .i64 op, .int .i64 arg, .int .i64 8, .int .i64 til, .bool per, .bool can, .int .i64 r0, .int .i64 r1, .int .i64 r2, .int .i64 r3, .int .i64 r4, .int .i64 code, .int .i64 res], .int .i64 now] w fun e w' => ∃ B d, e = .returned (.tuple #[.agg #[.slice B (L).length d], .agg #[.int .i64 id, .int .i64 st, .int .i64 op, .int .i64 arg, .int .i64 9, .int .i64 til, .bool per, .bool can, .int .i64 r0, .int .i64 r1, .int .i64 r2, .int .i64 r3, .int .i64 r4, .int .i64 code, .int .i64 res]]) ∧ NewA w.heap.size w' B d (L) ∧ Below w.heap.size w w' := by
  have HF := Lib.hid (Fr.start w A c zs #[.int .i64 id, .int .i64 st, .int .i64 op, .int .i64 arg, .int .i64 8, .int .i64 til, .bool per, .bool can, .int .i64 r0, .int .i64 r1, .int .i64 r2, .int .i64 r3, .int .i64 r4, .int .i64 code, .int .i64 res] hA)
  have HA := Lib.hid hA; clear hA
  have HL := Lib.hid hl; clear hl
  go_enter Try.func76, Try.ntmps76
  go_wp2_with fail
  refine (l04Mine_any _ _ _ _ _ _ _ _ _ _ _ _ _ _ _ _).mono ?_
  rintro e w1 ⟨rfl, hb⟩
  have HF1 := Lib.hid (HF.out.below hb)
  clear hb HF
  have ha1 := HF1.out.a.cell; have ht1 := HF1.out.t.cell; have hf1 := HF1.out.t.froz
  go_wp2_with fail
  refine (l01CasZ_any _ _ zs _ _ _ _ hn HF1.out.rd).mono ?_
  rintro e w2 ⟨B, d, rfl, hnew, hb⟩
  have HF2 := Lib.hid (HF1.out.below hb)
  have hz2 : w.heap.size + 1 + 1 + 1 < w2.heap.size := HF2.out.size
  have HNB2 := Lib.hid (hnew.base (Nat.succ_le_of_lt HF1.out.size)); clear hnew
  clear hb HF1 ha1 ht1 hf1
  rw [show casZ zs (2) (r0) (r3) = L from HL.out] at HNB2 ⊢
  have HF3 := Lib.hid (HF2.out.below (below_alloc w2 (.cells #[.slice B (L).length d] 25)))
  have HX3 := Lib.hid (BoxA.new w2 (.slice B (L).length d))
  have HNB3 := Lib.hid (HNB2.out.below (below_alloc w2 (.cells #[.slice B (L).length d] 25)))
  go_upto_region 33 with fail
  generalize w2.alloc (.cells #[.slice B (L).length d] 25) = w3 at HF3 HX3 HNB3 ⊢
  clear HF2 HNB2
  have ha3 := HF3.out.a.cell; have ht3 := HF3.out.t.cell; have hf3 := HF3.out.t.froz
  have hx3 := HX3.out.cell
  have HD3 : Hid (BoxA w3.drew w2.heap.size (.slice B (L).length d)) := HX3.out
  have HE3 : Hid (NewA (w.heap.size + 1 + 1 + 1 + 1) w3.drew B d (L)) := HNB3.out
  go_region_law (first
    | (go_simp; go_at_call 102; (with_reducible refine (l04Go_any id st op arg 8 til per can r0 r1 r2 r3 r4 code res 9 w3.drew).mono ?_); rintro e v1 ⟨rfl, hb⟩; have HG1 := Lib.hid ((HF3.out.drew).below hb); have HY1 : Hid (BoxA v1 w2.heap.size (.slice B (L).length d)) := BoxA.below HD3.out hb; have HM1 : Hid (NewA (w.heap.size + 1 + 1 + 1 + 1) v1 B d (L)) := NewA.below HE3.out hb; clear hb; have ga1 := HG1.out.a.cell; have gt1 := HG1.out.t.cell; have gx1 := HY1.out.cell; have hra := HG1.out.ra.cell; have hfa := HG1.out.ra.froz; have hrt := HG1.out.rt.cell; have hft := HG1.out.rt.froz))
  all_goals
    rw [row15 (HG1.out.rtSet _)]
    obtain ⟨g1, g2, g3⟩ := HG1.out.done (.slice B (L).length d) #[.int .i64 id, .int .i64 st, .int .i64 op, .int .i64 arg, .int .i64 9, .int .i64 til, .bool per, .bool can, .int .i64 r0, .int .i64 r1, .int .i64 r2, .int .i64 r3, .int .i64 r4, .int .i64 code, .int .i64 res]
    go_wp2_with fail
    exact bodyPost_ret (results_at Try.results76 _ _ _ _ _ _ rfl rfl g1 g2 rfl) rfl ⟨B, d, rfl, (((HM1.out.setCell (by simp) _).row (by simp) _).base (by omega)), g3⟩
end Go.Proofs.Ytabojajhnhcemaa

namespace Go.Proofs.Ytabojajhnhcemaa
open Go.RowKit

set_option maxHeartbeats 1000000 in
theorem sjoin_all (id st op arg pc til : Int) (per can : Bool) (r0 r1 r2 r3 r4 code res : Int) (now wk : Int) (id' st' op' arg' pc' til' : Int) (per' can' : Bool) (s0 s1 s2 s3 s4 code' res' : Int) (w : World) (A : Option Addr) (c : Nat) (zs : List Int) (hC : Cond zs id st op arg pc til per can r0 r1 r2 r3 r4 code res now) (hp : pc = 0 ∨ pc = 1 ∨ pc = 2 ∨ pc = 3 ∨ pc = 4 ∨ pc = 5 ∨ pc = 8) (hA : Rd w A zs) (L : List Int) (h : StepTo zs id st op arg til per can r0 r1 r2 r3 r4 code res now pc L ⟨id', st', op', arg', pc', til', per', can', s0, s1, s2, s3, s4, code', res'⟩ wk) :
    Calls Try.prog 76 #[.agg #[.slice A zs.length c], .agg #[.int .i64 id, .int .i64 st, .int .i64 op, .int .i64 arg, .int .i64 pc, .int .i64 til, .bool per, .bool can, .int .i64 r0, .int .i64 r1, .int .i64 r2, .int .i64 r3, .int .i64 r4, .int .i64 code, .int .i64 res], .int .i64 now] w fun e w' => ∃ B d, e = .returned (.tuple #[.agg #[.slice B L.length d], .agg #[.int .i64 id', .int .i64 st', .int .i64 op', .int .i64 arg', .int .i64 pc', .int .i64 til', .bool per', .bool can', .int .i64 s0, .int .i64 s1, .int .i64 s2, .int .i64 s3, .int .i64 s4, .int .i64 code', .int .i64 res']]) ∧ Res w.heap.size w' A zs B d L ∧ Below w.heap.size w w' ∧ wk = -1 := by
  have hn := hC.len
  obtain ⟨b0, b1, b2, b3, b4⟩ := hC.regs
  cases h
  case s0 => exact (join0 id st op arg til per can r0 r1 r2 r3 r4 code res A c zs now (loadZ zs 2) w hn hA rfl).mono fun e w' ⟨he, hb⟩ => ⟨A, c, he, .inl ⟨rfl, rfl⟩, hb, rfl⟩
  case s1a h1 => exact (join1a id st op arg til per can r0 r1 r2 r3 r4 code res A c zs now w hn hA h1).mono fun e w' ⟨he, hb⟩ => ⟨A, c, he, .inl ⟨rfl, rfl⟩, hb, rfl⟩
  case s1b h1 h2 => exact (join1b id st op arg til per can r0 r1 r2 r3 r4 code res A c zs now (loadZ zs 1) w hn hA rfl h1 h2).mono fun e w' ⟨he, hb⟩ => ⟨A, c, he, .inl ⟨rfl, rfl⟩, hb, rfl⟩
  case s1c h1 h2 => exact (join1c id st op arg til per can r0 r1 r2 r3 r4 code res A c zs now (loadZ zs 1) w hn hA rfl h1 h2).mono fun e w' ⟨he, hb⟩ => ⟨A, c, he, .inl ⟨rfl, rfl⟩, hb, rfl⟩
  case s2a h1 => exact (join2a id st op arg til per can r0 r1 r2 r3 r4 code res A c zs now (loadZ zs (halfI r0 + 1)) w hn hA (wide b0) rfl h1).mono fun e w' ⟨he, hb⟩ => ⟨A, c, he, .inl ⟨rfl, rfl⟩, hb, rfl⟩
  case s2b h1 h2 => exact (join2b id st op arg til per can r0 r1 r2 r3 r4 code res A c zs now (loadZ zs (halfI r0 + 1)) w hn hA (wide b0) rfl h1 hC.til h2).mono fun e w' ⟨he, hb⟩ => ⟨A, c, he, .inl ⟨rfl, rfl⟩, hb, rfl⟩
  case s2c h1 h2 h3 => exact (join2c id st op arg til per can r0 r1 r2 r3 r4 code res A c zs now (loadZ zs (halfI r0 + 1)) w hn hA (wide b0) rfl h1 h3 hC.til h2).mono fun e w' ⟨he, hb⟩ => ⟨A, c, he, .inl ⟨rfl, rfl⟩, hb, rfl⟩
  case s2d h1 h2 h3 => exact (join2d id st op arg til per can r0 r1 r2 r3 r4 code res A c zs now (loadZ zs (halfI r0 + 1)) w hn hA (wide b0) rfl h1 h3 hC.til h2).mono fun e w' ⟨he, hb⟩ => ⟨A, c, he, .inl ⟨rfl, rfl⟩, hb, rfl⟩
  case s3 => exact (join3 id st op arg til per can r0 r1 r2 r3 r4 code res A c zs now (casZ zs 2 r0 r2) w hn hA rfl).mono fun e w' ⟨B, d, he, hn, hb⟩ => ⟨B, d, he, .inr hn, hb, rfl⟩
  case s4a h1 => exact (join4a id st op arg til per can r0 r1 r2 r3 r4 code res A c zs now (firstI op arg) (zs.length : Int) (2 * (zs.length : Int) + bitI (mineB op)) (zs ++ [firstI op arg, 0, id + 1]) w hn hA hC.argw hC.idw rfl (if_neg (by omega)) (if_neg (by omega)) ⟨by omega, by omega⟩ (beq_eq_false_iff_ne.2 (by have := (arenaB_parts hC.ha).1; omega)) rfl).mono fun e w' ⟨B, d, he, hn, hb⟩ => ⟨B, d, he, .inr hn, hb, rfl⟩
  case s4b h1 => exact (join4b id st op arg til per can r0 r1 r2 r3 r4 code res A c zs now (firstI op arg) w hn hA hC.argw hC.idw rfl (if_pos h1) (if_pos h1)).mono fun e w' ⟨B, d, he, hn, hb⟩ => ⟨B, d, he, .inr hn, hb, rfl⟩
  case s5t h1 => exact (join5t id st op arg til per can r0 r1 r2 r3 r4 code res A c zs now (casZ zs (halfI r0 + 1) 0 r3) w hn hA (wide b0) rfl h1).mono fun e w' ⟨B, d, he, hn, hb⟩ => ⟨B, d, he, .inr hn, hb, rfl⟩
  case s5f h1 => exact (join5f id st op arg til per can r0 r1 r2 r3 r4 code res A c zs now (casZ zs (halfI r0 + 1) 0 r3) w hn hA (wide b0) rfl h1).mono fun e w' ⟨B, d, he, hn, hb⟩ => ⟨B, d, he, .inr hn, hb, rfl⟩
  case s8 => exact (join8 id st op arg til per can r0 r1 r2 r3 r4 code res A c zs now (casZ zs 2 r0 r3) w hn hA rfl).mono fun e w' ⟨B, d, he, hn, hb⟩ => ⟨B, d, he, .inr hn, hb, rfl⟩
  case s9a h1 => exact absurd hp (by omega)
  case s9b h1 h2 => exact absurd hp (by omega)
  case s9c h1 h2 h3 => exact absurd hp (by omega)
  case s9d h1 h2 h3 => exact absurd hp (by omega)
  case s10t h1 => exact absurd hp (by omega)
  case s10f h1 => exact absurd hp (by omega)
  case s11 => exact absurd hp (by omega)
  case s6t h1 => exact absurd hp (by omega)
  case s6f h1 => exact absurd hp (by omega)
  case s7tt h1 h2 => exact absurd hp (by omega)
  case s7ff h1 h2 => exact absurd hp (by omega)
  case s7tft h1 h2 h3 => exact absurd hp (by omega)
  case s7tff h1 h2 h3 => exact absurd hp (by omega)
  case s7ftt h1 h2 h3 => exact absurd hp (by omega)
  case s7ftf h1 h2 h3 => exact absurd hp (by omega)
  case s12 => exact absurd hp (by omega)
  case s13t h1 => exact absurd hp (by omega)
  case s13f h1 => exact absurd hp (by omega)
  case s14 => exact absurd hp (by omega)
  case s15 h6 h7 h12 h13 h14 hl => exact absurd hp (by omega)

end Go.Proofs.Ytabojajhnhcemaa

namespace Go.Proofs.Ytabojajhnhcemaa
open Go.RowKit

set_option maxHeartbeats 1000000 in
theorem sawait_all (id st op arg pc til : Int) (per can : Bool) (r0 r1 r2 r3 r4 code res : Int) (now wk : Int) (id' st' op' arg' pc' til' : Int) (per' can' : Bool) (s0 s1 s2 s3 s4 code' res' : Int) (w : World) (A : Option Addr) (c : Nat) (zs : List Int) (hC : Cond zs id st op arg pc til per can r0 r1 r2 r3 r4 code res now) (hp : pc = 9 ∨ pc = 10 ∨ pc = 11) (hA : Rd w A zs) (L : List Int) (h : StepTo zs id st op arg til per can r0 r1 r2 r3 r4 code res now pc L ⟨id', st', op', arg', pc', til', per', can', s0, s1, s2, s3, s4, code', res'⟩ wk) :
    Calls Try.prog 77 #[.agg #[.slice A zs.length c], .agg #[.int .i64 id, .int .i64 st, .int .i64 op, .int .i64 arg, .int .i64 pc, .int .i64 til, .bool per, .bool can, .int .i64 r0, .int .i64 r1, .int .i64 r2, .int .i64 r3, .int .i64 r4, .int .i64 code, .int .i64 res], .int .i64 now] w fun e w' => ∃ B d, e = .returned (.tuple #[.agg #[.slice B L.length d], .agg #[.int .i64 id', .int .i64 st', .int .i64 op', .int .i64 arg', .int .i64 pc', .int .i64 til', .bool per', .bool can', .int .i64 s0, .int .i64 s1, .int .i64 s2, .int .i64 s3, .int .i64 s4, .int .i64 code', .int .i64 res']]) ∧ Res w.heap.size w' A zs B d L ∧ Below w.heap.size w w' ∧ wk = -1 := by
  have hn := hC.len
  obtain ⟨b0, b1, b2, b3, b4⟩ := hC.regs
  cases h
  case s0 => exact absurd hp (by omega)
  case s1a h1 => exact absurd hp (by omega)
  case s1b h1 h2 => exact absurd hp (by omega)
  case s1c h1 h2 => exact absurd hp (by omega)
  case s2a h1 => exact absurd hp (by omega)
  case s2b h1 h2 => exact absurd hp (by omega)
  case s2c h1 h2 h3 => exact absurd hp (by omega)
  case s2d h1 h2 h3 => exact absurd hp (by omega)
  case s3 => exact absurd hp (by omega)
  case s4a h1 => exact absurd hp (by omega)
  case s4b h1 => exact absurd hp (by omega)
  case s5t h1 => exact absurd hp (by omega)
  case s5f h1 => exact absurd hp (by omega)
  case s8 => exact absurd hp (by omega)
  case s9a h1 => exact (await9a id st op arg til per can r0 r1 r2 r3 r4 code res A c zs now (loadZ zs (halfI r3)) w hn hA (wide b3) hC.argw rfl h1).mono fun e w' ⟨he, hb⟩ => ⟨A, c, he, .inl ⟨rfl, rfl⟩, hb, rfl⟩
  case s9b h1 h2 => exact (await9b id st op arg til per can r0 r1 r2 r3 r4 code res A c zs now (loadZ zs (halfI r3)) w hn hA (wide b3) hC.argw rfl h1 hC.til h2).mono fun e w' ⟨he, hb⟩ => ⟨A, c, he, .inl ⟨rfl, rfl⟩, hb, rfl⟩
  case s9c h1 h2 h3 => subst h3; exact (await9c id st op arg til can r0 r1 r2 r3 r4 code res A c zs now (loadZ zs (halfI r3)) w hn hA (wide b3) hC.argw rfl h1 hC.til h2).mono fun e w' ⟨he, hb⟩ => ⟨A, c, he, .inl ⟨rfl, rfl⟩, hb, rfl⟩
  case s9d h1 h2 h3 => subst h3; exact (await9d id st op arg til can r0 r1 r2 r3 r4 code res A c zs now (loadZ zs (halfI r3)) w hn hA (wide b3) hC.argw rfl h1 hC.til h2).mono fun e w' ⟨he, hb⟩ => ⟨A, c, he, .inl ⟨rfl, rfl⟩, hb, rfl⟩
  case s10t h1 => exact (await10t id st op arg til per can r0 r1 r2 r3 r4 code res A c zs now (firstI op arg) (casZ zs (halfI r3) (firstI op arg) (-1)) w hn hA hC.argw (wide b3) rfl rfl h1).mono fun e w' ⟨B, d, he, hn, hb⟩ => ⟨B, d, he, .inr hn, hb, rfl⟩
  case s10f h1 => exact (await10f id st op arg til per can r0 r1 r2 r3 r4 code res A c zs now (firstI op arg) (casZ zs (halfI r3) (firstI op arg) (-1)) w hn hA hC.argw (wide b3) rfl rfl h1).mono fun e w' ⟨B, d, he, hn, hb⟩ => ⟨B, d, he, .inr hn, hb, rfl⟩
  case s11 => exact (await11 id st op arg til per can r0 r1 r2 r3 r4 code res A c zs now (wellI op arg r4) (casZ zs 1 r0 r3) w hn hA (wide b3) (wide b4) rfl rfl).mono fun e w' ⟨B, d, he, hn, hb⟩ => ⟨B, d, he, .inr hn, hb, rfl⟩
  case s6t h1 => exact absurd hp (by omega)
  case s6f h1 => exact absurd hp (by omega)
  case s7tt h1 h2 => exact absurd hp (by omega)
  case s7ff h1 h2 => exact absurd hp (by omega)
  case s7tft h1 h2 h3 => exact absurd hp (by omega)
  case s7tff h1 h2 h3 => exact absurd hp (by omega)
  case s7ftt h1 h2 h3 => exact absurd hp (by omega)
  case s7ftf h1 h2 h3 => exact absurd hp (by omega)
  case s12 => exact absurd hp (by omega)
  case s13t h1 => exact absurd hp (by omega)
  case s13f h1 => exact absurd hp (by omega)
  case s14 => exact absurd hp (by omega)
  case s15 h6 h7 h12 h13 h14 hl => exact absurd hp (by omega)

end Go.Proofs.Ytabojajhnhcemaa

namespace Go.Proofs.Ytabojajhnhcemaa
open Go.RowKit

set_option maxHeartbeats 16000000 in
set_option maxRecDepth 100000 in
theorem match6t (id : Int) (st : Int) (op : Int) (arg : Int) (til : Int) (per : Bool) (can : Bool) (r0 : Int) (r1 : Int) (r2 : Int) (r3 : Int) (r4 : Int) (code : Int) (res : Int) (A : Option Addr) (c : Nat) (zs : List Int) (x : Int) (w : World) (hn : zs.length ≤ 1048576) (hA : Rd w A zs) (hb0 : -1000000000000 ≤ r1 ∧ r1 ≤ 1000000000000) (hx : loadZ zs (halfI r1 + 1) = x) (h2 : (x != 0) = true) :
    Calls Try.prog 78 #[.agg #[.slice A zs.length c], .agg #[.int .i64 id, .int .i64 st, .int .i64 op, .int .i64 arg, .int .i64 6, .int .i64 til, .bool per, .bool can, .int .i64 r0, .int .i64 r1, .int .i64 r2, .int .i64 r3, .int .i64 r4, .int .i64 code, .int .i64 res]] w fun e w' => e = .returned (.tuple #[.agg #[.slice A zs.length c], .agg #[.int .i64 id, .int .i64 st, .int .i64 op, .int .i64 arg, .int .i64 7, .int .i64 til, .bool per, .bool can, .int .i64 r0, .int .i64 r1, .int .i64 x, .int .i64 r3, .int .i64 r4, .int .i64 code, .int .i64 res], .int .i64 (-1)]) ∧ Below w.heap.size w w' := by
  have hqr := wrap_rest r2
  have hlit : IntKind.i64.wrap 7 = 7 := rfl; have hlit0 : IntKind.i64.wrap 0 = 0 := rfl
  have hw := wrap_half r1 hb0
  have hh := half_bounds r1 hb0
  have hw2 : IntKind.i64.wrap (r1.tdiv 2 + 1) = r1.tdiv 2 + 1 := IntWalk.i64_in _ (by omega)
  clear hh
  clear hb0
  have HF := Lib.hid (Fr.start w A c zs #[.int .i64 id, .int .i64 st, .int .i64 op, .int .i64 arg, .int .i64 6, .int .i64 til, .bool per, .bool can, .int .i64 r0, .int .i64 r1, .int .i64 r2, .int .i64 r3, .int .i64 r4, .int .i64 code, .int .i64 res] hA)
  have HA := Lib.hid hA; clear hA
  have HX := Lib.hid hx; clear hx
  go_enter Try.func78, Try.ntmps78
  go_upto_region 5 with fail
  generalize hw1 : ((((w.alloc (.cells #[.slice A zs.length c] 25)).alloc (.cells #[.int .i64 id, .int .i64 st, .int .i64 op, .int .i64 arg, .int .i64 6, .int .i64 til, .bool per, .bool can, .int .i64 r0, .int .i64 r1, .int .i64 r2, .int .i64 r3, .int .i64 r4, .int .i64 code, .int .i64 res] 29)).alloc (.cells #[.slice none 0 0] 25)).alloc (.cells #[.int .i64 0, .int .i64 0, .int .i64 0, .int .i64 0, .int .i64 0, .int .i64 0, .bool false, .bool false, .int .i64 0, .int .i64 0, .int .i64 0, .int .i64 0, .int .i64 0, .int .i64 0, .int .i64 0] 29)) = w1 at HF ⊢
  have HF1 := Lib.hid HF.out; clear HF hw1
  have ha1 := HF1.out.a.cell; have ht1 := HF1.out.t.cell; have hf1 := HF1.out.t.froz
  go_wp2_with fail
  refine (l01Load_any _ _ zs _ _ hn HF1.out.rd).mono ?_
  rintro e w2 ⟨rfl, hb⟩
  have HF2 := Lib.hid (HF1.out.below hb)
  clear hb HF1 ha1 ht1 hf1
  rw [show loadZ zs (r1.tdiv 2 + 1) = x from HX.out]
  have ha2 := HF2.out.a.cell; have ht2 := HF2.out.t.cell; have hf2 := HF2.out.t.froz
  have HF3 : Hid (Fr w (w2.setCell ⟨w.heap.size + 1, 10, none⟩ (.int .i64 x)) A c zs #[.int .i64 id, .int .i64 st, .int .i64 op, .int .i64 arg, .int .i64 6, .int .i64 til, .bool per, .bool can, .int .i64 r0, .int .i64 r1, .int .i64 x, .int .i64 r3, .int .i64 r4, .int .i64 code, .int .i64 res]) := HF2.out.set HA.out 10 _
  go_upto_region 6 with fail
  generalize w2.setCell ⟨w.heap.size + 1, 10, none⟩ (.int .i64 x) = w3 at HF3 ⊢
  clear HF2 ha2 ht2 hf2
  have ha3 := HF3.out.a.cell; have ht3 := HF3.out.t.cell; have hf3 := HF3.out.t.froz
  have HDa : Hid (w3.drew.cell? ⟨w.heap.size, 0, none⟩ = some (.slice A zs.length c)) := ha3
  have HDt : Hid (∀ j : Nat, w3.drew.cell? ⟨w.heap.size + 1, j, none⟩ = (#[.int .i64 id, .int .i64 st, .int .i64 op, .int .i64 arg, .int .i64 6, .int .i64 til, .bool per, .bool can, .int .i64 r0, .int .i64 r1, .int .i64 x, .int .i64 r3, .int .i64 r4, .int .i64 code, .int .i64 res] : Array Value)[j]?) := ht3
  go_region_held3 (fun w' => w'.cell? ⟨w.heap.size, 0, none⟩ = some (.slice A zs.length c) ∧ ∀ j : Nat, w'.cell? ⟨w.heap.size + 1, j, none⟩ = (#[.int .i64 id, .int .i64 st, .int .i64 op, .int .i64 arg, .int .i64 6, .int .i64 til, .bool per, .bool can, .int .i64 r0, .int .i64 r1, .int .i64 x, .int .i64 r3, .int .i64 r4, .int .i64 code, .int .i64 res] : Array Value)[j]?)
    (first | with_reducible exact ⟨ha3, ht3⟩ | with_reducible exact ⟨HDa.out, HDt.out⟩ | with_reducible exact ⟨gx1, gt1⟩ | (refine ⟨?_, ?_⟩; (repeat (with_reducible refine cell_set2 (by omega) ?_)); with_reducible exact gx1; (repeat (with_reducible refine cells_set2 (by omega) ?_)); with_reducible exact gt1))
    (first
      | (go_at_call 49; refine (bitOne _).mono ?_; rintro e w'' ⟨rfl, rfl⟩)
      | (go_at_call 102; (with_reducible refine (l04Go_any id st op arg 6 til per can r0 r1 x r3 r4 code res 7 w3.drew).mono ?_); rintro e v1 ⟨rfl, hb⟩; have HG1 := Lib.hid ((HF3.out.drew).below hb); clear hb; have gt1 := HG1.out.t.cell; have gx1 := HG1.out.a.cell; have hra := HG1.out.ra.cell; have hfa := HG1.out.ra.froz; have hrt := HG1.out.rt.cell; have hft := HG1.out.rt.froz))
  rw [row15 (HG1.out.rtSet _)]
  obtain ⟨g1, g2, g3⟩ := HG1.out.done (.slice A zs.length c) #[.int .i64 id, .int .i64 st, .int .i64 op, .int .i64 arg, .int .i64 7, .int .i64 til, .bool per, .bool can, .int .i64 r0, .int .i64 r1, .int .i64 x, .int .i64 r3, .int .i64 r4, .int .i64 code, .int .i64 res]
  go_wp2_with fail
  exact bodyPost_ret (results_ati Try.results78 _ _ _ _ _ _ _ rfl rfl rfl g1 g2 rfl) rfl ⟨rfl, g3⟩
end Go.Proofs.Ytabojajhnhcemaa

namespace Go.Proofs.Ytabojajhnhcemaa
open Go.RowKit

set_option maxHeartbeats 1000000 in
theorem smatch_all (id st op arg pc til : Int) (per can : Bool) (r0 r1 r2 r3 r4 code res : Int) (now wk : Int) (id' st' op' arg' pc' til' : Int) (per' can' : Bool) (s0 s1 s2 s3 s4 code' res' : Int) (w : World) (A : Option Addr) (c : Nat) (zs : List Int) (hC : Cond zs id st op arg pc til per can r0 r1 r2 r3 r4 code res now) (hp : (pc = 6 ∨ pc = 7) ∨ 12 ≤ pc) (hA : Rd w A zs) (L : List Int) (h : StepTo zs id st op arg til per can r0 r1 r2 r3 r4 code res now pc L ⟨id', st', op', arg', pc', til', per', can', s0, s1, s2, s3, s4, code', res'⟩ wk) :
    Calls Try.prog 78 #[.agg #[.slice A zs.length c], .agg #[.int .i64 id, .int .i64 st, .int .i64 op, .int .i64 arg, .int .i64 pc, .int .i64 til, .bool per, .bool can, .int .i64 r0, .int .i64 r1, .int .i64 r2, .int .i64 r3, .int .i64 r4, .int .i64 code, .int .i64 res]] w fun e w' => ∃ B d, e = .returned (.tuple #[.agg #[.slice B L.length d], .agg #[.int .i64 id', .int .i64 st', .int .i64 op', .int .i64 arg', .int .i64 pc', .int .i64 til', .bool per', .bool can', .int .i64 s0, .int .i64 s1, .int .i64 s2, .int .i64 s3, .int .i64 s4, .int .i64 code', .int .i64 res'], .int .i64 wk]) ∧ Res w.heap.size w' A zs B d L ∧ Below w.heap.size w w' := by
  have hn := hC.len
  obtain ⟨b0, b1, b2, b3, b4⟩ := hC.regs
  cases h
  case s0 => exact absurd hp (by omega)
  case s1a h1 => exact absurd hp (by omega)
  case s1b h1 h2 => exact absurd hp (by omega)
  case s1c h1 h2 => exact absurd hp (by omega)
  case s2a h1 => exact absurd hp (by omega)
  case s2b h1 h2 => exact absurd hp (by omega)
  case s2c h1 h2 h3 => exact absurd hp (by omega)
  case s2d h1 h2 h3 => exact absurd hp (by omega)
  case s3 => exact absurd hp (by omega)
  case s4a h1 => exact absurd hp (by omega)
  case s4b h1 => exact absurd hp (by omega)
  case s5t h1 => exact absurd hp (by omega)
  case s5f h1 => exact absurd hp (by omega)
  case s8 => exact absurd hp (by omega)
  case s9a h1 => exact absurd hp (by omega)
  case s9b h1 h2 => exact absurd hp (by omega)
  case s9c h1 h2 h3 => exact absurd hp (by omega)
  case s9d h1 h2 h3 => exact absurd hp (by omega)
  case s10t h1 => exact absurd hp (by omega)
  case s10f h1 => exact absurd hp (by omega)
  case s11 => exact absurd hp (by omega)
  case s6t h1 => exact (match6t id st op arg til per can r0 r1 r2 r3 r4 code res A c zs (loadZ zs (halfI r1 + 1)) w hn hA (wide b1) rfl h1).mono fun e w' ⟨he, hb⟩ => ⟨A, c, he, .inl ⟨rfl, rfl⟩, hb⟩
  case s6f h1 => exact (match6f id st op arg til per can r0 r1 r2 r3 r4 code res A c zs (loadZ zs (halfI r1 + 1)) w hn hA (wide b1) rfl h1).mono fun e w' ⟨he, hb⟩ => ⟨A, c, he, .inl ⟨rfl, rfl⟩, hb⟩
  case s7tt h1 h2 => exact (match7tt id st op arg til per can r0 r1 r2 r3 r4 code res A c zs (loadZ zs (halfI r2)) w hn hA (wide b2) rfl h1 h2).mono fun e w' ⟨he, hb⟩ => ⟨A, c, he, .inl ⟨rfl, rfl⟩, hb⟩
  case s7ff h1 h2 => exact (match7ff id st op arg til per can r0 r1 r2 r3 r4 code res A c zs (loadZ zs (halfI r2)) w hn hA (wide b2) rfl h1 h2).mono fun e w' ⟨he, hb⟩ => ⟨A, c, he, .inl ⟨rfl, rfl⟩, hb⟩
  case s7tft h1 h2 h3 => exact (match7tft id st op arg til per can r0 r1 r2 r3 r4 code res A c zs (loadZ zs (halfI r2)) w hn hA (wide b2) rfl h1 h2 h3).mono fun e w' ⟨he, hb⟩ => ⟨A, c, he, .inl ⟨rfl, rfl⟩, hb⟩
  case s7tff h1 h2 h3 => exact (match7tff id st op arg til per can r0 r1 r2 r3 r4 code res A c zs (loadZ zs (halfI r2)) w hn hA (wide b2) rfl h1 h2 h3).mono fun e w' ⟨he, hb⟩ => ⟨A, c, he, .inl ⟨rfl, rfl⟩, hb⟩
  case s7ftt h1 h2 h3 => exact (match7ftt id st op arg til per can r0 r1 r2 r3 r4 code res A c zs (loadZ zs (halfI r2)) w hn hA (wide b2) rfl h1 h2 h3).mono fun e w' ⟨he, hb⟩ => ⟨A, c, he, .inl ⟨rfl, rfl⟩, hb⟩
  case s7ftf h1 h2 h3 => exact (match7ftf id st op arg til per can r0 r1 r2 r3 r4 code res A c zs (loadZ zs (halfI r2)) w hn hA (wide b2) rfl h1 h2 h3).mono fun e w' ⟨he, hb⟩ => ⟨A, c, he, .inl ⟨rfl, rfl⟩, hb⟩
  case s12 => exact (match12 id st op arg til per can r0 r1 r2 r3 r4 code res A c zs (casZ zs 1 r1 r2) w hn hA rfl).mono fun e w' ⟨B, d, he, hn, hb⟩ => ⟨B, d, he, .inr hn, hb⟩
  case s13t h1 => exact (match13t id st op arg til per can r0 r1 r2 r3 r4 code res A c zs (firstI op arg) (casZ zs (halfI r2) r4 (firstI op arg)) w hn hA hC.argw (wide b2) rfl rfl h1).mono fun e w' ⟨B, d, he, hn, hb⟩ => ⟨B, d, he, .inr hn, hb⟩
  case s13f h1 => exact (match13f id st op arg til per can r0 r1 r2 r3 r4 code res A c zs (firstI op arg) (casZ zs (halfI r2) r4 (firstI op arg)) w hn hA hC.argw (wide b2) rfl rfl h1).mono fun e w' ⟨B, d, he, hn, hb⟩ => ⟨B, d, he, .inr hn, hb⟩
  case s14 => exact (match14 id st op arg til per can r0 r1 r2 r3 r4 code res A c zs (casZ zs 1 r1 r2) w hn hA rfl).mono fun e w' ⟨B, d, he, hn, hb⟩ => ⟨B, d, he, .inr hn, hb⟩
  case s15 h6 h7 h12 h13 h14 hl => exact (match15 id st op arg _ til per can r0 r1 r2 r3 r4 code res A c zs (loadZ zs (halfI r2 + 2)) (wellI op arg r4) w hn hA h6 h7 h12 h13 h14 (wide b2) (wide b4) (wide (loadZ_word hC.ha (halfI r2 + 2))) rfl rfl).mono fun e w' ⟨he, hb⟩ => ⟨A, c, he, .inl ⟨rfl, rfl⟩, hb⟩

end Go.Proofs.Ytabojajhnhcemaa
