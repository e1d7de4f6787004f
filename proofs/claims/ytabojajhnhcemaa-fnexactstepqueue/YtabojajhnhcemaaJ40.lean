/-
  Steps of the model, by Pc.
  Steps of the model, by Pc.
-/
import Derived.Test.YtabojajhnhcemaaJ22
import Derived.Deep.DeepCutAuto
namespace Go.Proofs.Ytabojajhnhcemaa
open Go.RowKit

set_option maxHeartbeats 16000000 in
set_option maxRecDepth 100000 in
theorem match13f (id : Int) (st : Int) (op : Int) (arg : Int) (til : Int) (per : Bool) (can : Bool) (r0 : Int) (r1 : Int) (r2 : Int) (r3 : Int) (r4 : Int) (code : Int) (res : Int) (A : Option Addr) (c : Nat) (zs : List Int) (x : Int) (L : List Int) (w : World) (hn : zs.length ≤ 1048576) (hA : Rd w A zs) (hq : -1000000000000 ≤ arg ∧ arg ≤ 1000000000000) (hb0 : -1000000000000 ≤ r2 ∧ r2 ≤ 1000000000000) (hx : firstI op arg = x) (hl : casZ zs (r2.tdiv 2) r4 x = L) (hk : casOk zs (r2.tdiv 2) r4 = false) :
    Calls Try.prog 78 #[.agg #[.slice A zs.length c], .agg #[.int .i64 id, .int .i64 st, .int .i64 op, .int .i64 arg, .int .i64 13, .int .i64 til, .bool per, .bool can, .int .i64 r0, .int .i64 r1, .int .i64 r2, .int .i64 r3, .int .i64 r4, .int .i64 code, .int .i64 res]] w fun e w' => ∃ B d, e = .returned (.tuple #[.agg #[.slice B (L).length d], .agg #[.int .i64 id, .int .i64 st, .int .i64 op, .int .i64 arg, .int .i64 12, .int .i64 til, .bool per, .bool can, .int .i64 r0, .int .i64 r1, .int .i64 r2, .int .i64 r3, .int .i64 r4, .int .i64 code, .int .i64 res], .int .i64 (-1)]) ∧ NewA w.heap.size w' B d (L) ∧ Below w.heap.size w w' := by
  have hqr := wrap_rest r2
  have hw := wrap_half r2 hb0
  clear hb0
  have HF := Lib.hid (Fr.start w A c zs #[.int .i64 id, .int .i64 st, .int .i64 op, .int .i64 arg, .int .i64 13, .int .i64 til, .bool per, .bool can, .int .i64 r0, .int .i64 r1, .int .i64 r2, .int .i64 r3, .int .i64 r4, .int .i64 code, .int .i64 res] hA)
  have HA := Lib.hid hA; clear hA
  have HQ := Lib.hid hq; clear hq
  have HL := Lib.hid hl; clear hl
  have HK := Lib.hid hk; clear hk
  have HX := Lib.hid hx; clear hx
  go_enter Try.func78, Try.ntmps78
  go_upto_region 16 with fail
  generalize hw1 : ((((w.alloc (.cells #[.slice A zs.length c] 25)).alloc (.cells #[.int .i64 id, .int .i64 st, .int .i64 op, .int .i64 arg, .int .i64 13, .int .i64 til, .bool per, .bool can, .int .i64 r0, .int .i64 r1, .int .i64 r2, .int .i64 r3, .int .i64 r4, .int .i64 code, .int .i64 res] 29)).alloc (.cells #[.slice none 0 0] 25)).alloc (.cells #[.int .i64 0, .int .i64 0, .int .i64 0, .int .i64 0, .int .i64 0, .int .i64 0, .bool false, .bool false, .int .i64 0, .int .i64 0, .int .i64 0, .int .i64 0, .int .i64 0, .int .i64 0, .int .i64 0] 29)) = w1 at HF ⊢
  have HF1 := Lib.hid HF.out; clear HF hw1
  have ha1 := HF1.out.a.cell; have ht1 := HF1.out.t.cell; have hf1 := HF1.out.t.froz
  have HZ1 : Hid (w.heap.size + 1 + 1 + 1 < w1.heap.size) := HF1.out.size
  go_cut [11, 12] (fun s11 s12 wx => s12 = .bool false ∧ Got w A c zs #[.int .i64 id, .int .i64 st, .int .i64 op, .int .i64 arg, .int .i64 13, .int .i64 til, .bool per, .bool can, .int .i64 r0, .int .i64 r1, .int .i64 r2, .int .i64 r3, .int .i64 r4, .int .i64 code, .int .i64 res] L s11 wx)
  case first =>
    have HP0 : Hid (BoxA (w1.alloc (.cells #[.slice none 0 0] 25)).drew w1.heap.size (.slice none 0 0)) := BoxA.new w1 _
    have HFb : Hid (Fr w (w1.alloc (.cells #[.slice none 0 0] 25)).drew A c zs #[.int .i64 id, .int .i64 st, .int .i64 op, .int .i64 arg, .int .i64 13, .int .i64 til, .bool per, .bool can, .int .i64 r0, .int .i64 r1, .int .i64 r2, .int .i64 r3, .int .i64 r4, .int .i64 code, .int .i64 res]) := (HF1.out.below (below_alloc _ _)).drew
    have hab : ∀ o, (w1.alloc o).cell? ⟨w.heap.size, 0, none⟩ = some (.slice A zs.length c) := fun o => cell_keep (below_alloc _ _) ha1
    have htb : ∀ o j, (w1.alloc o).cell? ⟨w.heap.size + 1, j, none⟩ = (#[.int .i64 id, .int .i64 st, .int .i64 op, .int .i64 arg, .int .i64 13, .int .i64 til, .bool per, .bool can, .int .i64 r0, .int .i64 r1, .int .i64 r2, .int .i64 r3, .int .i64 r4, .int .i64 code, .int .i64 res] : Array Value)[j]? := fun o j => (HF1.out.t.below (below_alloc _ _)).cell j
    have hzw := HZ1.out
    have HDa : Hid (w1.drew.cell? ⟨w.heap.size, 0, none⟩ = some (.slice A zs.length c)) := ha1; have HDt : Hid (∀ j : Nat, w1.drew.cell? ⟨w.heap.size + 1, j, none⟩ = (#[.int .i64 id, .int .i64 st, .int .i64 op, .int .i64 arg, .int .i64 13, .int .i64 til, .bool per, .bool can, .int .i64 r0, .int .i64 r1, .int .i64 r2, .int .i64 r3, .int .i64 r4, .int .i64 code, .int .i64 res] : Array Value)[j]?) := ht1
    have HAd : Hid (∀ o : Obj, (w1.alloc o).drew.cell? ⟨w.heap.size, 0, none⟩ = some (.slice A zs.length c)) := fun o => cell_keep (below_alloc w1 o) ha1
    have HTd : Hid (∀ (o : Obj) (j : Nat), (w1.alloc o).drew.cell? ⟨w.heap.size + 1, j, none⟩ = (#[.int .i64 id, .int .i64 st, .int .i64 op, .int .i64 arg, .int .i64 13, .int .i64 til, .bool per, .bool can, .int .i64 r0, .int .i64 r1, .int .i64 r2, .int .i64 r3, .int .i64 r4, .int .i64 code, .int .i64 res] : Array Value)[j]?) := fun o j => (HF1.out.t.below (below_alloc w1 o)).cell j
    go_region_held3 (fun w' => w'.cell? ⟨w.heap.size, 0, none⟩ = some (.slice A zs.length c) ∧ ∀ j : Nat, w'.cell? ⟨w.heap.size + 1, j, none⟩ = (#[.int .i64 id, .int .i64 st, .int .i64 op, .int .i64 arg, .int .i64 13, .int .i64 til, .bool per, .bool can, .int .i64 r0, .int .i64 r1, .int .i64 r2, .int .i64 r3, .int .i64 r4, .int .i64 code, .int .i64 res] : Array Value)[j]?)
      (first | with_reducible exact ⟨ha1, ht1⟩ | with_reducible exact ⟨HDa.out, HDt.out⟩ | with_reducible exact ⟨HAd.out _, HTd.out _⟩ | with_reducible exact ⟨ga1, gt1⟩ | with_reducible exact ⟨gab _, gtb _⟩ | with_reducible exact ⟨gac _ _, gtc _ _⟩ | with_reducible exact ⟨ga2, gt2⟩ | with_reducible exact ⟨gad _, gtd _⟩ | (with_reducible refine ⟨cell_set2 ?_ ga2, cells_set2 ?_ gt2⟩ <;> omega))
      (first
        | (go_at_call 107; (with_reducible refine (l04First_any id st op arg 13 til per can r0 r1 r2 r3 r4 code res (w1.drew) HQ.out).mono ?_); rintro e v1 ⟨rfl, hb⟩; have HG1 := Lib.hid ((HF1.out.drew).below hb); clear hb; have hzv := HG1.out.size; have ga1 := HG1.out.a.cell; have gt1 := HG1.out.t.cell; have gab : ∀ o, (v1.alloc o).cell? ⟨w.heap.size, 0, none⟩ = some (.slice A zs.length c) := fun o => cell_keep (below_alloc _ _) ga1; have gtb : ∀ o j, (v1.alloc o).cell? ⟨w.heap.size + 1, j, none⟩ = (#[.int .i64 id, .int .i64 st, .int .i64 op, .int .i64 arg, .int .i64 13, .int .i64 til, .bool per, .bool can, .int .i64 r0, .int .i64 r1, .int .i64 r2, .int .i64 r3, .int .i64 r4, .int .i64 code, .int .i64 res] : Array Value)[j]? := fun o j => (HG1.out.t.below (below_alloc _ _)).cell j; have gac : ∀ o p, ((v1.alloc o).alloc p).cell? ⟨w.heap.size, 0, none⟩ = some (.slice A zs.length c) := fun o p => cell_keep (below_alloc2 _ _ _) ga1; have gtc : ∀ o p j, ((v1.alloc o).alloc p).cell? ⟨w.heap.size + 1, j, none⟩ = (#[.int .i64 id, .int .i64 st, .int .i64 op, .int .i64 arg, .int .i64 13, .int .i64 til, .bool per, .bool can, .int .i64 r0, .int .i64 r1, .int .i64 r2, .int .i64 r3, .int .i64 r4, .int .i64 code, .int .i64 res] : Array Value)[j]? := fun o p j => (HG1.out.t.below (below_alloc2 _ _ _)).cell j; rw [HX.out])
        | (go_at_call 107; (with_reducible refine (l04First_any id st op arg 13 til per can r0 r1 r2 r3 r4 code res ((w1.alloc (.cells #[.slice none 0 0] 25)).drew) HQ.out).mono ?_); rintro e v1 ⟨rfl, hb⟩; have HG1 := Lib.hid ((HFb.out).below hb); have HP1 := Lib.hid (BoxA.below HP0.out hb); have hpv := HP1.out.lt; clear hb; have hzv := HG1.out.size; have ga1 := HG1.out.a.cell; have gt1 := HG1.out.t.cell; have gab : ∀ o, (v1.alloc o).cell? ⟨w.heap.size, 0, none⟩ = some (.slice A zs.length c) := fun o => cell_keep (below_alloc _ _) ga1; have gtb : ∀ o j, (v1.alloc o).cell? ⟨w.heap.size + 1, j, none⟩ = (#[.int .i64 id, .int .i64 st, .int .i64 op, .int .i64 arg, .int .i64 13, .int .i64 til, .bool per, .bool can, .int .i64 r0, .int .i64 r1, .int .i64 r2, .int .i64 r3, .int .i64 r4, .int .i64 code, .int .i64 res] : Array Value)[j]? := fun o j => (HG1.out.t.below (below_alloc _ _)).cell j; have gac : ∀ o p, ((v1.alloc o).alloc p).cell? ⟨w.heap.size, 0, none⟩ = some (.slice A zs.length c) := fun o p => cell_keep (below_alloc2 _ _ _) ga1; have gtc : ∀ o p j, ((v1.alloc o).alloc p).cell? ⟨w.heap.size + 1, j, none⟩ = (#[.int .i64 id, .int .i64 st, .int .i64 op, .int .i64 arg, .int .i64 13, .int .i64 til, .bool per, .bool can, .int .i64 r0, .int .i64 r1, .int .i64 r2, .int .i64 r3, .int .i64 r4, .int .i64 code, .int .i64 res] : Array Value)[j]? := fun o p j => (HG1.out.t.below (below_alloc2 _ _ _)).cell j; rw [HX.out])
        | (go_at_call 106; (with_reducible refine (casGot _ _ zs _ _ _ _ _ v1 hn HL.out HK.out HG1.out.rd).mono ?_); rintro e v2 ⟨B, d, rfl, hnew, hb⟩; have HP2 := Lib.hid (BoxA.below HP1.out hb); have gx2 := HP2.out.cell; have gf2 := HP2.out.froz; have HG2 := Lib.hid (HG1.out.below hb); clear hb; have HM2 := Lib.hid hnew; clear hnew; have ga2 := HG2.out.a.cell; have gt2 := HG2.out.t.cell; have gad : ∀ o : Obj, (v2.alloc o).cell? ⟨w.heap.size, 0, none⟩ = some (.slice A zs.length c) := fun o => cell_keep (below_alloc _ _) ga2; have gtd : ∀ (o : Obj) (j : Nat), (v2.alloc o).cell? ⟨w.heap.size + 1, j, none⟩ = (#[.int .i64 id, .int .i64 st, .int .i64 op, .int .i64 arg, .int .i64 13, .int .i64 til, .bool per, .bool can, .int .i64 r0, .int .i64 r1, .int .i64 r2, .int .i64 r3, .int .i64 r4, .int .i64 code, .int .i64 res] : Array Value)[j]? := fun o j => (HG2.out.t.below (below_alloc _ _)).cell j; have hgz := HG2.out.size)
        | (go_at_call 106; (with_reducible refine (casGot _ _ zs _ _ _ _ _ v1 hn HL.out HK.out HG1.out.rd).mono ?_); rintro e v2 ⟨B, d, rfl, hnew, hb⟩; have HG2 := Lib.hid (HG1.out.below hb); clear hb; have HM2 := Lib.hid hnew; clear hnew; have ga2 := HG2.out.a.cell; have gt2 := HG2.out.t.cell; have gad : ∀ o : Obj, (v2.alloc o).cell? ⟨w.heap.size, 0, none⟩ = some (.slice A zs.length c) := fun o => cell_keep (below_alloc _ _) ga2; have gtd : ∀ (o : Obj) (j : Nat), (v2.alloc o).cell? ⟨w.heap.size + 1, j, none⟩ = (#[.int .i64 id, .int .i64 st, .int .i64 op, .int .i64 arg, .int .i64 13, .int .i64 til, .bool per, .bool can, .int .i64 r0, .int .i64 r1, .int .i64 r2, .int .i64 r3, .int .i64 r4, .int .i64 code, .int .i64 res] : Array Value)[j]? := fun o j => (HG2.out.t.below (below_alloc _ _)).cell j; have hgz := HG2.out.size)
        | (go_at_call 106; (with_reducible refine (casGot _ _ zs _ _ _ _ _ (v1.alloc (.cells #[.slice none 0 0] 25)) hn HL.out HK.out (HG1.out.rd.below (below_alloc _ _))).mono ?_); rintro e v2 ⟨B, d, rfl, hnew, hb⟩; have HP2 := Lib.hid (BoxA.below (BoxA.new v1 (.slice none 0 0)) hb); have gx2 := HP2.out.cell; have gf2 := HP2.out.froz; have HG2 := Lib.hid ((HG1.out.below (below_alloc _ _)).below hb); clear hb; have HM2 := Lib.hid hnew; clear hnew; have ga2 := HG2.out.a.cell; have gt2 := HG2.out.t.cell; have gad : ∀ o : Obj, (v2.alloc o).cell? ⟨w.heap.size, 0, none⟩ = some (.slice A zs.length c) := fun o => cell_keep (below_alloc _ _) ga2; have gtd : ∀ (o : Obj) (j : Nat), (v2.alloc o).cell? ⟨w.heap.size + 1, j, none⟩ = (#[.int .i64 id, .int .i64 st, .int .i64 op, .int .i64 arg, .int .i64 13, .int .i64 til, .bool per, .bool can, .int .i64 r0, .int .i64 r1, .int .i64 r2, .int .i64 r3, .int .i64 r4, .int .i64 code, .int .i64 res] : Array Value)[j]? := fun o j => (HG2.out.t.below (below_alloc _ _)).cell j; have hgz := HG2.out.size))
    all_goals
      go_wp2_with fail
      go_meet
      first
        | exact ⟨rfl, Got.early HG2.out HA.out HM2.out HP2.out (by (try simp only [size_alloc]); omega) (by have := HZ1.out; omega)⟩
        | exact ⟨rfl, Got.late HG2.out HM2.out (by (try simp only [size_alloc]); omega)⟩
  case rest =>
  generalize wc = w2 at hcut ⊢
  obtain ⟨rfl, g, B, d, rfl, hg, hbx, hnw, hfr⟩ := hcut
  have HF2 := Lib.hid hfr; have HX2 := Lib.hid hbx; have HNB2 := Lib.hid hnw
  clear hfr hbx hnw HF1 HZ1 ha1 ht1 hf1
  go_upto_region 19 with fail
  have ha2 := HF2.out.a.cell; have ht2 := HF2.out.t.cell; have hf2 := HF2.out.t.froz
  have hx2 := HX2.out.cell
  have HDa : Hid (w2.drew.cell? ⟨g, 0, none⟩ = some (.slice B (L).length d)) := hx2
  have HDt : Hid (∀ j : Nat, w2.drew.cell? ⟨w.heap.size + 1, j, none⟩ = (#[.int .i64 id, .int .i64 st, .int .i64 op, .int .i64 arg, .int .i64 13, .int .i64 til, .bool per, .bool can, .int .i64 r0, .int .i64 r1, .int .i64 r2, .int .i64 r3, .int .i64 r4, .int .i64 code, .int .i64 res] : Array Value)[j]?) := ht2
  have HD2 : Hid (BoxA w2.drew g (.slice B (L).length d)) := HX2.out
  have HE2 : Hid (NewA (w.heap.size + 1 + 1 + 1 + 1) w2.drew B d (L)) := HNB2.out
  go_region_held3 (fun w' => w'.cell? ⟨g, 0, none⟩ = some (.slice B (L).length d) ∧ ∀ j : Nat, w'.cell? ⟨w.heap.size + 1, j, none⟩ = (#[.int .i64 id, .int .i64 st, .int .i64 op, .int .i64 arg, .int .i64 13, .int .i64 til, .bool per, .bool can, .int .i64 r0, .int .i64 r1, .int .i64 r2, .int .i64 r3, .int .i64 r4, .int .i64 code, .int .i64 res] : Array Value)[j]?)
    (first | with_reducible exact ⟨hx2, ht2⟩ | with_reducible exact ⟨HDa.out, HDt.out⟩ | with_reducible exact ⟨gx1, gt1⟩ | (refine ⟨?_, ?_⟩; (repeat (with_reducible refine cell_set2 (by omega) ?_)); with_reducible exact gx1; (repeat (with_reducible refine cells_set2 (by omega) ?_)); with_reducible exact gt1))
    (first
      | (go_at_call 102; (with_reducible refine (l04Go_any id st op arg 13 til per can r0 r1 r2 r3 r4 code res 12 w2.drew).mono ?_); rintro e v1 ⟨rfl, hb⟩; have HG1 := Lib.hid ((HF2.out.drew).below hb); have HY1 : Hid (BoxA v1 g (.slice B (L).length d)) := BoxA.below (HD2.out) hb; have HM1 : Hid (NewA (w.heap.size + 1 + 1 + 1 + 1) v1 B d (L)) := NewA.below (HE2.out) hb; clear hb; have gt1 := HG1.out.t.cell; have gx1 := HY1.out.cell; have hra := HG1.out.ra.cell; have hfa := HG1.out.ra.froz; have hrt := HG1.out.rt.cell; have hft := HG1.out.rt.froz))
  rw [row15 (HG1.out.rtSet _)]
  obtain ⟨g1, g2, g3⟩ := HG1.out.done (.slice B (L).length d) #[.int .i64 id, .int .i64 st, .int .i64 op, .int .i64 arg, .int .i64 12, .int .i64 til, .bool per, .bool can, .int .i64 r0, .int .i64 r1, .int .i64 r2, .int .i64 r3, .int .i64 r4, .int .i64 code, .int .i64 res]
  go_wp2_with fail
  exact bodyPost_ret (results_ati Try.results78 _ _ _ _ _ _ _ rfl rfl rfl g1 g2 rfl) rfl ⟨B, d, rfl, (((HM1.out.setCell (by simp) _).row (by simp) _).base (by omega)), g3⟩
end Go.Proofs.Ytabojajhnhcemaa

namespace Go.Proofs.Ytabojajhnhcemaa
open Go.RowKit

set_option maxHeartbeats 16000000 in
set_option maxRecDepth 100000 in
theorem match15 (id : Int) (st : Int) (op : Int) (arg : Int) (pc : Int) (til : Int) (per : Bool) (can : Bool) (r0 : Int) (r1 : Int) (r2 : Int) (r3 : Int) (r4 : Int) (code : Int) (res : Int) (A : Option Addr) (c : Nat) (zs : List Int) (x y : Int) (w : World) (hn : zs.length ≤ 1048576) (hA : Rd w A zs) (h6 : (pc == 6) = false) (h7 : (pc == 7) = false) (h12 : (pc == 12) = false) (h13 : (pc == 13) = false) (h14 : (pc == 14) = false) (hb0 : -1000000000000 ≤ r2 ∧ r2 ≤ 1000000000000) (hb4 : -1000000000000 ≤ r4 ∧ r4 ≤ 1000000000000) (hbx : -1000000000000 ≤ x ∧ x ≤ 1000000000000) (hx : loadZ zs (halfI r2 + 2) = x) (hy : wellI op arg r4 = y) :
    Calls Try.prog 78 #[.agg #[.slice A zs.length c], .agg #[.int .i64 id, .int .i64 st, .int .i64 op, .int .i64 arg, .int .i64 pc, .int .i64 til, .bool per, .bool can, .int .i64 r0, .int .i64 r1, .int .i64 r2, .int .i64 r3, .int .i64 r4, .int .i64 code, .int .i64 res]] w fun e w' => e = .returned (.tuple #[.agg #[.slice A zs.length c], .agg #[.int .i64 id, .int .i64 0, .int .i64 0, .int .i64 0, .int .i64 0, .int .i64 0, .bool false, .bool false, .int .i64 0, .int .i64 0, .int .i64 0, .int .i64 0, .int .i64 0, .int .i64 0, .int .i64 y], .int .i64 (x - 1)]) ∧ Below w.heap.size w w' := by
  have hqr := wrap_rest r2
  have hqx : IntKind.i64.wrap (x - 1) = x - 1 := IntWalk.i64_in _ (by omega)
  clear hbx
  have hw := wrap_half r2 hb0
  have hh := half_bounds r2 hb0
  have hw2 : IntKind.i64.wrap (r2.tdiv 2 + 2) = r2.tdiv 2 + 2 := IntWalk.i64_in _ (by omega)
  clear hh
  clear hb0
  have HF := Lib.hid (Fr.start w A c zs #[.int .i64 id, .int .i64 st, .int .i64 op, .int .i64 arg, .int .i64 pc, .int .i64 til, .bool per, .bool can, .int .i64 r0, .int .i64 r1, .int .i64 r2, .int .i64 r3, .int .i64 r4, .int .i64 code, .int .i64 res] hA)
  have HA := Lib.hid hA; clear hA
  have HX := Lib.hid hx; clear hx
  have HB4 := Lib.hid hb4; clear hb4
  have HY := Lib.hid hy; clear hy
  go_enter Try.func78, Try.ntmps78
  go_upto_region 23 with fail
  generalize hw1 : ((((w.alloc (.cells #[.slice A zs.length c] 25)).alloc (.cells #[.int .i64 id, .int .i64 st, .int .i64 op, .int .i64 arg, .int .i64 pc, .int .i64 til, .bool per, .bool can, .int .i64 r0, .int .i64 r1, .int .i64 r2, .int .i64 r3, .int .i64 r4, .int .i64 code, .int .i64 res] 29)).alloc (.cells #[.slice none 0 0] 25)).alloc (.cells #[.int .i64 0, .int .i64 0, .int .i64 0, .int .i64 0, .int .i64 0, .int .i64 0, .bool false, .bool false, .int .i64 0, .int .i64 0, .int .i64 0, .int .i64 0, .int .i64 0, .int .i64 0, .int .i64 0] 29)) = w1 at HF ⊢
  have HF1 := Lib.hid HF.out; clear HF hw1
  have ha1 := HF1.out.a.cell; have ht1 := HF1.out.t.cell; have hf1 := HF1.out.t.froz
  have HDa : Hid (w1.drew.cell? ⟨w.heap.size, 0, none⟩ = some (.slice A zs.length c)) := ha1
  have HDt : Hid (∀ j : Nat, w1.drew.cell? ⟨w.heap.size + 1, j, none⟩ = (#[.int .i64 id, .int .i64 st, .int .i64 op, .int .i64 arg, .int .i64 pc, .int .i64 til, .bool per, .bool can, .int .i64 r0, .int .i64 r1, .int .i64 r2, .int .i64 r3, .int .i64 r4, .int .i64 code, .int .i64 res] : Array Value)[j]?) := ht1
  go_region_held3 (fun w' => w'.cell? ⟨w.heap.size, 0, none⟩ = some (.slice A zs.length c) ∧ ∀ j : Nat, w'.cell? ⟨w.heap.size + 1, j, none⟩ = (#[.int .i64 id, .int .i64 st, .int .i64 op, .int .i64 arg, .int .i64 pc, .int .i64 til, .bool per, .bool can, .int .i64 r0, .int .i64 r1, .int .i64 r2, .int .i64 r3, .int .i64 r4, .int .i64 code, .int .i64 res] : Array Value)[j]?)
    (first | with_reducible exact ⟨ha1, ht1⟩ | with_reducible exact ⟨HDa.out, HDt.out⟩ | with_reducible exact ⟨gx1, gt1⟩ | with_reducible exact ⟨gx2, gt2⟩ | (refine ⟨?_, ?_⟩; (repeat (with_reducible refine cell_set2 (by omega) ?_)); with_reducible exact gx2; (repeat (with_reducible refine cells_set2 (by omega) ?_)); with_reducible exact gt2))
    (first
      | (go_at_call 109; (with_reducible refine (resultGot id st op arg pc til per can r0 r1 r2 r3 r4 code res r4 y w1.drew HB4.out HY.out).mono ?_); rintro e v1 ⟨rfl, hb⟩; have HG1 := Lib.hid ((HF1.out.drew).below hb); clear hb; have gt1 := HG1.out.t.cell; have gx1 := HG1.out.a.cell)
      | (go_at_call 101; (with_reducible refine (l01Load_any A c zs _ w1.drew hn (HF1.out.drew).rd).mono ?_); rintro e v1 ⟨rfl, hb⟩; rw [show loadZ zs (r2.tdiv 2 + 2) = x from HX.out]; have HG1 := Lib.hid ((HF1.out.drew).below hb); clear hb; have gt1 := HG1.out.t.cell; have gx1 := HG1.out.a.cell)
      | (go_at_call 109; (with_reducible refine (resultGot id st op arg pc til per can r0 r1 r2 r3 r4 code res r4 y v1 HB4.out HY.out).mono ?_); rintro e v2 ⟨rfl, hb⟩; have HG2 := Lib.hid ((HG1.out).below hb); clear hb; have gt2 := HG2.out.t.cell; have gx2 := HG2.out.a.cell; have hra := HG2.out.ra.cell; have hfa := HG2.out.ra.froz; have hrt := HG2.out.rt.cell; have hft := HG2.out.rt.froz)
      | (go_at_call 101; (with_reducible refine (l01Load_any A c zs _ v1 hn (HG1.out).rd).mono ?_); rintro e v2 ⟨rfl, hb⟩; rw [show loadZ zs (r2.tdiv 2 + 2) = x from HX.out]; have HG2 := Lib.hid ((HG1.out).below hb); clear hb; have gt2 := HG2.out.t.cell; have gx2 := HG2.out.a.cell; have hra := HG2.out.ra.cell; have hfa := HG2.out.ra.froz; have hrt := HG2.out.rt.cell; have hft := HG2.out.rt.froz))
  rw [row15 (HG2.out.rtSet _)]
  obtain ⟨g1, g2, g3⟩ := HG2.out.done (.slice A zs.length c) #[.int .i64 id, .int .i64 0, .int .i64 0, .int .i64 0, .int .i64 0, .int .i64 0, .bool false, .bool false, .int .i64 0, .int .i64 0, .int .i64 0, .int .i64 0, .int .i64 0, .int .i64 0, .int .i64 y]
  go_wp2_with fail
  exact bodyPost_ret (results_ati Try.results78 _ _ _ _ _ _ _ rfl rfl rfl g1 g2 rfl) rfl ⟨rfl, g3⟩
end Go.Proofs.Ytabojajhnhcemaa
