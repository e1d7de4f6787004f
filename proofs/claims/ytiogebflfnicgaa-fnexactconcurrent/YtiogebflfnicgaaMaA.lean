/-
  Machines (chapter 9): the program's threadsOK and isOf.
-/
import Derived.Test.YtiogebflfnicgaaMaP
import Derived.Test.YtiogebflfnicgaaBoxC
import Derived.Test.YtiogebflfnicgaaThD
import Derived.Test.YtiogebflfnicgaaMach
import Derived.Deep.DeepCutAuto
import Derived.Deep.RegionLaw
namespace Go.Proofs.Ytiogebflfnicgaa
open Go.RowKit

theorem BoxC.row {t : TypeId} {w : World} {k : Nat} {cs : Array Value} (h : BoxC t w k cs) (bs : Array Value) : BoxC t (w.setRow k bs) k bs := setRow_heap w k cs bs _ _ h
theorem BoxC.rowOther {t : TypeId} {w : World} {k b : Nat} {cs : Array Value} (h : BoxC t w k cs) (hk : k ≠ b) (bs : Array Value) : BoxC t (w.setRow b bs) k cs := (setRow_other w b k bs hk).trans h
theorem BoxC.set {t : TypeId} {w : World} {k : Nat} {cs : Array Value} (h : BoxC t w k cs) (i : Nat) (v : Value) : BoxC t (w.setCell ⟨k, i, none⟩ v) k (cs.setIfInBounds i v) := heap_setCell_same w k i cs _ v h
theorem BoxC.other {t : TypeId} {w : World} {k : Nat} {cs : Array Value} (h : BoxC t w k cs) (a : Addr) (v : Value) (hk : k ≠ a.block) : BoxC t (w.setCell a v) k cs := (heap_setCell_other w a k v hk).trans h
theorem BoxC.froz {t : TypeId} {w : World} {k : Nat} {cs : Array Value} (h : BoxC t w k cs) (j : Nat) : w.frozen? ⟨k, j, none⟩ = false := frozen_of_row w k j cs _ h
theorem one15c (id st op arg pc til : Int) (per can : Bool) (r0 r1 r2 r3 r4 code res : Int) : (#[.int .i64 id, .int .i64 st, .int .i64 op, .int .i64 arg, .int .i64 pc, .int .i64 til, .bool per, .bool can, .int .i64 r0, .int .i64 r1, .int .i64 r2, .int .i64 r3, .int .i64 r4, .int .i64 code, .int .i64 res] : Array Value).all (·.oneCell') = true := by simp [Value.oneCell']
theorem below_rowC {w w' : World} {k : Nat} (h : Below w.heap.size w w') (hk : w.heap.size ≤ k) (cs : Array Value) : Below w.heap.size w (w'.setRow k cs) := below_setRow h hk cs

theorem thFrom_false {k : Int} {t : Thd} {l : List Thd} (h : (t.id == k && t.ok) = false) : thFrom k (t :: l) = false := by unfold thFrom; rw [h]; rfl
theorem thFrom_true {k : Int} {t : Thd} {l : List Thd} (h : (t.id == k && t.ok) = true) : thFrom k (t :: l) = thFrom (k + 1) l := by rw [thFrom, h]; rfl
theorem drop_at {α : Type} {l : List α} {k : Nat} {x : α} (h : l[k]? = some x) : l.drop k = x :: l.drop (k + 1) := by
  have hk : k < l.length := (List.getElem?_eq_some_iff.1 h).1
  rw [List.drop_eq_getElem_cons hk]
  congr 1
  have := List.getElem?_eq_getElem hk
  rw [this] at h
  exact Option.some.inj h


theorem isOf_any (th op arg fr te code res : Int) (id st op2 arg2 pc til : Int) (per can : Bool) (r0 r1 r2 r3 r4 code2 res2 : Int) (w : World) :
    Calls Try.prog 144 #[.agg #[.int .i64 th, .int .i64 op, .int .i64 arg, .int .i64 fr, .int .i64 te, .int .i64 code, .int .i64 res], .agg #[.int .i64 id, .int .i64 st, .int .i64 op2, .int .i64 arg2, .int .i64 pc, .int .i64 til, .bool per, .bool can, .int .i64 r0, .int .i64 r1, .int .i64 r2, .int .i64 r3, .int .i64 r4, .int .i64 code2, .int .i64 res2]] w fun e w' => e = .returned (.bool (th == id && op == op2 && arg == arg2)) ∧ Below w.heap.size w w' := by
  cases h1 : th == id
  · go_enter Try.func144, Try.ntmps144
    go_wp2
    go_ret
    exact ⟨ret_bool (by simp), below_alloc2 _ _ _⟩
  cases h2 : op == op2
  · go_enter Try.func144, Try.ntmps144
    go_wp2
    go_ret
    exact ⟨ret_bool (by simp), below_alloc2 _ _ _⟩
  cases h3 : arg == arg2
  all_goals
    go_enter Try.func144, Try.ntmps144
    go_wp2
    go_ret
    exact ⟨ret_bool (by simp), below_alloc2 _ _ _⟩


set_option maxHeartbeats 1000000 in
theorem threadsOK_not (A T C : Option Addr) (ca ct cc : Nat) (zs : List Int) (ts : List Thd) (cs : List Cll) (clk stp : Int) (w : World) (hl : ts.length ≠ 4) :
    Calls Try.prog 118 #[.agg #[.slice A zs.length ca, .slice T ts.length ct, .int .i64 clk, .int .i64 stp, .slice C cs.length cc]] w fun e w' => e = .returned (.bool false) ∧ Below w.heap.size w w' := by
  have hne : ((ts.length : Int) == 4) = false := by simp; omega
  have hne2 : ¬ (ts.length : Int) = 4 := by omega
  go_enter Try.func118, Try.ntmps118
  go_wp2
  go_ret
  exact ⟨rfl, below_alloc _ _⟩

set_option maxHeartbeats 4000000 in
set_option maxRecDepth 100000 in
theorem threadsOK_four (A T C : Option Addr) (ca ct cc : Nat) (zs : List Int) (ts : List Thd) (cs : List Cll) (clk stp : Int) (w : World) (hl : ts.length = 4) (hT : RdR Thd.cs w T ts) :
    Calls Try.prog 118 #[.agg #[.slice A zs.length ca, .slice T 4 ct, .int .i64 clk, .int .i64 stp, .slice C cs.length cc]] w fun e w' => e = .returned (.bool (thFrom 0 ts)) ∧ Below w.heap.size w w' := by
  have HA := Lib.hid (hT.below (below_alloc w (.cells #[.slice A zs.length ca, .slice T 4 ct, .int .i64 clk, .int .i64 stp, .slice C cs.length cc] 64))); clear hT
  have HL := Lib.hid hl; clear hl
  go_enter Try.func118, Try.ntmps118
  go_wp2_with fail
  go_loopw [12] (fun i wr => ∃ k : Nat, k ≤ 4 ∧ i = .int .i64 k ∧ thFrom 0 ts = thFrom k (ts.drop k) ∧ Below (w.alloc (.cells #[.slice A zs.length ca, .slice T 4 ct, .int .i64 clk, .int .i64 stp, .slice C cs.length cc] 64)).heap.size (w.alloc (.cells #[.slice A zs.length ca, .slice T 4 ct, .int .i64 clk, .int .i64 stp, .slice C cs.length cc] 64)) wr) (fun i _ => 4 - (intOf i).toNat)
  case atStart => exact ⟨0, by omega, rfl, rfl, Below.refl _ _⟩
  case round =>
    obtain ⟨k, hk, rfl, hth, hbl⟩ := hrel
    have HB' := Lib.hid hbl; have HTH := Lib.hid hth
    clear hbl hth
    have HZ := Lib.hid (HB'.out.size)
    by_cases hlt : k < 4
    · have hlt' : (k : Int) < 4 := by omega
      obtain ⟨x, hx⟩ : ∃ x, ts[k]? = some x := ⟨_, List.getElem?_eq_getElem (by rw [HL.out]; exact hlt)⟩
      obtain ⟨b, o, rfl, hrow⟩ := (HA.out.below HB'.out).row Thd.len k x hx
      have HD := Lib.hid (drop_at hx)
      clear hx
      obtain ⟨id, st, op, arg, pc, til, per, can, r0, r1, r2, r3, r4, code, res⟩ := x
      have HRW : Hid (wr.rangeAt b (o + k * 15) [.int .i64 id, .int .i64 st, .int .i64 op, .int .i64 arg, .int .i64 pc, .int .i64 til, .bool per, .bool can, .int .i64 r0, .int .i64 r1, .int .i64 r2, .int .i64 r3, .int .i64 r4, .int .i64 code, .int .i64 res]) := hrow
      clear hrow
      have HX := Lib.hid (BoxC.new 103 wr #[.int .i64 0, .int .i64 0, .int .i64 0, .int .i64 0, .int .i64 0, .int .i64 0, .bool false, .bool false, .int .i64 0, .int .i64 0, .int .i64 0, .int .i64 0, .int .i64 0, .int .i64 0, .int .i64 0])
      go_upto_region 6 with (first | (refine wpList_load_mid rfl 103 _ rfl b (o + k * 15) ?_ _ _ HRW.out Try.underlying103 rfl info_iThread ?_; rfl) | (refine wpList_store_row rfl 103 _ _ rfl wr.heap.size _ rfl rfl 103 _ HX.out info_iThread rfl (one15c _ _ _ _ _ _ _ _ _ _ _ _ _ _ _) ?_))
      have HX2 := Lib.hid (HX.out.row #[.int .i64 id, .int .i64 st, .int .i64 op, .int .i64 arg, .int .i64 pc, .int .i64 til, .bool per, .bool can, .int .i64 r0, .int .i64 r1, .int .i64 r2, .int .i64 r3, .int .i64 r4, .int .i64 code, .int .i64 res])
      have HB2 := Lib.hid (below_rowC (below_trans HB'.out (below_alloc wr (.cells #[.int .i64 0, .int .i64 0, .int .i64 0, .int .i64 0, .int .i64 0, .int .i64 0, .bool false, .bool false, .int .i64 0, .int .i64 0, .int .i64 0, .int .i64 0, .int .i64 0, .int .i64 0, .int .i64 0] 103))) HZ.out #[.int .i64 id, .int .i64 st, .int .i64 op, .int .i64 arg, .int .i64 pc, .int .i64 til, .bool per, .bool can, .int .i64 r0, .int .i64 r1, .int .i64 r2, .int .i64 r3, .int .i64 r4, .int .i64 code, .int .i64 res])
      generalize (wr.alloc (.cells #[.int .i64 0, .int .i64 0, .int .i64 0, .int .i64 0, .int .i64 0, .int .i64 0, .bool false, .bool false, .int .i64 0, .int .i64 0, .int .i64 0, .int .i64 0, .int .i64 0, .int .i64 0, .int .i64 0] 103)).setRow wr.heap.size #[.int .i64 id, .int .i64 st, .int .i64 op, .int .i64 arg, .int .i64 pc, .int .i64 til, .bool per, .bool can, .int .i64 r0, .int .i64 r1, .int .i64 r2, .int .i64 r3, .int .i64 r4, .int .i64 code, .int .i64 res] = w2 at HX2 HB2 ⊢
      generalize wr.heap.size = kx at HX2 ⊢
      clear HX HB' HZ HRW
      have hx0 := HX2.out.cell
      cases e0 : id == (k : Int)
      · have HF : Hid (thFrom 0 ts = false) := by unfold Hid; rw [HTH.out, HD.out]; exact thFrom_false (by show (id == (k : Int) && _) = false; rw [e0]; rfl)
        go_wp2
        go_ret
        exact ⟨ret_bool HF.out.symm, below_trans (below_alloc _ _) HB2.out⟩
      · have e1 : id = (k : Int) := by simpa using e0
        subst e1
        go_wp2_with fail
        refine (implThreadOK_any _ _ _ _ _ _ _ _ _ _ _ _ _ _ _ _).mono ?_
        rintro e w3 ⟨rfl, hb⟩
        have HB3 := Lib.hid (below_trans HB2.out hb)
        clear hb HB2 hx0
        cases QT : thB (k : Int) st op arg pc til per can r0 r1 r2 r3 r4 code res
        · have HF : Hid (thFrom 0 ts = false) := by unfold Hid; rw [HTH.out, HD.out]; exact thFrom_false (by show ((k : Int) == (k : Int) && thB (k : Int) st op arg pc til per can r0 r1 r2 r3 r4 code res) = false; rw [e0, QT]; rfl)
          go_wp2
          go_ret
          exact ⟨ret_bool HF.out.symm, below_trans (below_alloc _ _) HB3.out⟩
        · have HF : Hid (thFrom 0 ts = thFrom ((k : Int) + 1) (ts.drop (k + 1))) := by unfold Hid; rw [HTH.out, HD.out]; exact thFrom_true (by show ((k : Int) == (k : Int) && thB (k : Int) st op arg pc til per can r0 r1 r2 r3 r4 code res) = true; rw [e0, QT]; rfl)
          go_wp2
          go_roundw
          case rel => exact ⟨k + 1, by omega, by go_num, HF.out, HB3.out⟩
          case measure => simp [intOf]; omega
    · have hge : ¬ (k : Int) < 4 := by omega
      have hfin : Hid (thFrom 0 ts = true) := by unfold Hid; rw [HTH.out, List.drop_eq_nil_of_le (by rw [HL.out]; omega)]; rfl
      go_wp2
      go_ret
      exact ⟨ret_bool hfin.out.symm, below_trans (below_alloc _ _) HB'.out⟩

end Go.Proofs.Ytiogebflfnicgaa
