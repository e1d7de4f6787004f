/-
  Models (chapter 11): the model's l10Call: what it leaves, and its frame.
  Models (chapter 11): the model's l10Call, one way of it.
  Models (chapter 11): the model's l10Call, one way of it.
  Models (chapter 11): the model's l10Call, one way of it.
  Models (chapter 11): the model's l10Call, one way of it.
  Models (chapter 11): the model's l10Call, one way of it.
-/
import Derived.BigQuiet
import Derived.Test.YthianfhfamkcmaaJ19
namespace Go.Proofs.Ythianfhfamkcmaa
open Go.RowKit

theorem ownsRow_setRow_below {w : World} {base : Nat} {e : TypeId} {size : Nat} {v : Value} {n : Nat} {xs : List Value} (h : w.ownsRow base e size v n xs) {k : Nat} (hk : k < base) (cs : Array Value) : (w.setRow k cs).ownsRow base e size v n xs := by
  obtain ⟨h1, h2⟩ := h
  refine ⟨h1, ?_⟩
  rcases h2 with h2 | ⟨g, cap, cur, hv, hg, hh, r⟩
  · exact Or.inl h2
  · exact Or.inr ⟨g, cap, cur, hv, hg, by rw [setRow_other _ _ _ _ (by omega)]; exact hh, r⟩
theorem OwnO.row {b0 : Nat} {w : World} {B1 : Option Addr} {d1 : Nat} {zs : List Int} {B2 : Option Addr} {d2 : Nat} {bs : List Wtr} {B3 : Option Addr} {d3 : Nat} {os : List Wtr} (h : OwnO b0 w B1 d1 zs B2 d2 bs B3 d3 os) {k : Nat} (hk : k < b0) (cs : Array Value) : OwnO b0 (w.setRow k cs) B1 d1 zs B2 d2 bs B3 d3 os :=
  ⟨ownsRow_setRow_below h.st hk cs, ownsRow_setRow_below h.wt hk cs, ownsRow_setRow_below h.of hk cs, h.d12, h.d13, h.d23⟩
theorem OwnO.base {b0 b1 : Nat} {w : World} {B1 : Option Addr} {d1 : Nat} {zs : List Int} {B2 : Option Addr} {d2 : Nat} {bs : List Wtr} {B3 : Option Addr} {d3 : Nat} {os : List Wtr} (h : OwnO b0 w B1 d1 zs B2 d2 bs B3 d3 os) (hb : b1 ≤ b0) : OwnO b1 w B1 d1 zs B2 d2 bs B3 d3 os :=
  ⟨NewA.base h.st hb, OwnR.base h.wt hb, OwnR.base h.of hb, h.d12, h.d13, h.d23⟩
/-- A segment that shares no block with the row that an append may have written. -/
theorem SegC.keptD {b0 : Nat} {w w' : World} {A : Option Addr} {n c : Nat} {vs : List Value} {v : Value} (h : SegC b0 w A vs) (hg : w.grownBy w' v.ownBlock) (hd : Dis (.slice A n c) v) : SegC b0 w' A vs := by
  rcases h with h0 | ⟨g, o, rfl, h1, hc, hf⟩
  · exact .inl h0
  · exact SegC.kept (n := n) (c := c) (.inr ⟨g, o, rfl, h1, hc, hf⟩) hg (.inr (fun e => hd g rfl e.symm))
theorem NewA.one (w : World) (x : Int) : (w.alloc (.cells #[.int .i64 x] 3)).ownsRow w.heap.size 3 1 (.slice (some ⟨w.heap.size, 0, none⟩) 1 1) [x].length (ints [x]) := World.ownsRow_lit w #[.int .i64 x] 1 (Nat.le_refl _) (by decide) rfl
theorem ne_own {b k : Nat} {v : Value} (h : ∀ q, v.ownBlock = some q → b ≤ q) (hk : k < b) : some k ≠ v.ownBlock := fun e => by have := h k e.symm; omega
/-- What the model's l10Call, ModelCall answer. -/
def SpecPost (w : World) (r : (Bool × Int × Int × Int) × (List Int × Int × List Wtr × List Wtr)) (e : Ending) (w' : World) : Prop :=
  ∃ A1 c1 B1 d1 O1 e1, e = .returned (.tuple #[.agg #[.slice A1 r.2.1.length c1, .int .i64 r.2.2.1, .slice B1 r.2.2.2.1.length d1, .slice O1 r.2.2.2.2.length e1], .bool r.1.1, .int .i64 r.1.2.1, .int .i64 r.1.2.2.1, .int .i64 r.1.2.2.2]) ∧
    SegC w.heap.size w' A1 (ints r.2.1) ∧ SegC w.heap.size w' B1 (flatV Wtr.cs r.2.2.2.1) ∧ SegC w.heap.size w' O1 (flatV Wtr.cs r.2.2.2.2) ∧ Below w.heap.size w w'
end Go.Proofs.Ythianfhfamkcmaa

namespace Go.Proofs.Ythianfhfamkcmaa
open Go.RowKit

set_option maxHeartbeats 4000000 in
set_option maxRecDepth 100000 in
theorem l10_nil1 (A B O : Option Addr) (ca cb co : Nat) (zs : List Int) (os : List Wtr) (cnt th arg : Int) (w : World) (hz : zs.length ≤ 1048576) (ht : (([] : List Wtr)).length ≤ 1048576) (hc : os.length ≤ 1048576) (hA : Rd w A zs) (hT : RdR Wtr.cs w B ([] : List Wtr)) (hC : RdR Wtr.cs w O os) :
    Calls Try.prog 51 #[.agg #[.slice A zs.length ca, .int .i64 cnt, .slice B (([] : List Wtr)).length cb, .slice O os.length co], .agg #[.int .i64 th, .int .i64 1, .int .i64 arg]] w (SpecPost w ((false, 0, 0, (-1)), (zs, cnt, ([⟨th, 1, arg⟩] : List Wtr), os))) := by
  have HA := Lib.hid hA; have HT := Lib.hid hT; have HC := Lib.hid hC; clear hA hT hC
  have HB0 := Lib.hid (below_alloc3 w (.cells #[.slice A zs.length ca, .int .i64 cnt, .slice B (([] : List Wtr)).length cb, .slice O os.length co] 31) (.cells #[.int .i64 th, .int .i64 1, .int .i64 arg] 35) (.cells #[.slice none 0 0, .int .i64 0, .slice none 0 0, .slice none 0 0] 31))
  have HX := Lib.hid ((BoxC.new 31 w #[.slice A zs.length ca, .int .i64 cnt, .slice B (([] : List Wtr)).length cb, .slice O os.length co]).below (below_alloc2 _ (.cells #[.int .i64 th, .int .i64 1, .int .i64 arg] 35) (.cells #[.slice none 0 0, .int .i64 0, .slice none 0 0, .slice none 0 0] 31)))
  have HW := Lib.hid (by have h := (BoxC.new 35 (w.alloc (.cells #[.slice A zs.length ca, .int .i64 cnt, .slice B (([] : List Wtr)).length cb, .slice O os.length co] 31)) #[.int .i64 th, .int .i64 1, .int .i64 arg]).below (below_alloc _ (.cells #[.slice none 0 0, .int .i64 0, .slice none 0 0, .slice none 0 0] 31)); rw [size_alloc] at h; exact h)
  have HR := Lib.hid (by have h := BoxC.new 31 ((w.alloc (.cells #[.slice A zs.length ca, .int .i64 cnt, .slice B (([] : List Wtr)).length cb, .slice O os.length co] 31)).alloc (.cells #[.int .i64 th, .int .i64 1, .int .i64 arg] 35)) #[.slice none 0 0, .int .i64 0, .slice none 0 0, .slice none 0 0]; rw [size_alloc, size_alloc] at h; exact h)
  have hsz : (((w.alloc (.cells #[.slice A zs.length ca, .int .i64 cnt, .slice B (([] : List Wtr)).length cb, .slice O os.length co] 31)).alloc (.cells #[.int .i64 th, .int .i64 1, .int .i64 arg] 35)).alloc (.cells #[.slice none 0 0, .int .i64 0, .slice none 0 0, .slice none 0 0] 31)).heap.size = w.heap.size + 1 + 1 + 1 := by simp
  go_enter Try.func51, Try.ntmps51
  have hx := HX.out.cell
  go_wp2_with fail
  refine (l10Own_any _ _ _ _ _ _ zs ([] : List Wtr) os cnt _ hz ht hc (HA.out.below HB0.out) (HT.out.below HB0.out) (HC.out.below HB0.out)).mono ?_
  rintro e w1 ⟨B1, d1, B2, d2, B3, d3, rfl, hO, hb⟩
  rw [hsz] at hO
  have HB1 := Lib.hid (below_trans HB0.out hb)
  have HX1 := Lib.hid (HX.out.below hb); have HW1 := Lib.hid (HW.out.below hb); have HR1 := Lib.hid (HR.out.below hb)
  have HO1 := Lib.hid hO
  clear hb hO HB0 HX HW HR hx hsz
  go_upto_region 2 with (refine wpList_store_row rfl 31 _ _ rfl w.heap.size _ rfl rfl 31 _ HX1.out info_model rfl (one4m _ _ _ _ _ _ _ _ _ _) ?_)
  have HX2 := Lib.hid (HX1.out.mrow #[.slice B1 zs.length d1, .int .i64 cnt, .slice B2 (([] : List Wtr)).length d2, .slice B3 os.length d3])
  have HW2 := Lib.hid (HW1.out.mrowO (b := w.heap.size) (by omega) #[.slice B1 zs.length d1, .int .i64 cnt, .slice B2 (([] : List Wtr)).length d2, .slice B3 os.length d3])
  have HR2 := Lib.hid (HR1.out.mrowO (b := w.heap.size) (by omega) #[.slice B1 zs.length d1, .int .i64 cnt, .slice B2 (([] : List Wtr)).length d2, .slice B3 os.length d3])
  have HB2 := Lib.hid (below_setRow HB1.out (Nat.le_refl _) #[.slice B1 zs.length d1, .int .i64 cnt, .slice B2 (([] : List Wtr)).length d2, .slice B3 os.length d3])
  have HO2 := Lib.hid (HO1.out.row (k := w.heap.size) (by omega) #[.slice B1 zs.length d1, .int .i64 cnt, .slice B2 (([] : List Wtr)).length d2, .slice B3 os.length d3])
  generalize w1.setRow w.heap.size #[.slice B1 zs.length d1, .int .i64 cnt, .slice B2 (([] : List Wtr)).length d2, .slice B3 os.length d3] = w2 at HX2 HW2 HR2 HB2 HO2 ⊢
  have hz2 : w.heap.size + 1 + 1 < w2.heap.size := HR2.out.lt
  have hy2 : w.heap.size < w2.heap.size := by omega
  have hy2' : w.heap.size + 1 < w2.heap.size := by omega
  clear HX1 HW1 HR1 HB1 HO1
  obtain ⟨j0, hj, hy0, hy1, hy2⟩ := infoW
  have Hj := Lib.hid hj; have Hy0 := Lib.hid hy0; have Hy1 := Lib.hid hy1; have Hy2 := Lib.hid hy2
  clear hj hy0 hy1 hy2
  have hx := HX2.out.cell; have hf := HX2.out.mfroz
  have hw := HW2.out.cell
  go_wp2_with fail
  go_quiet (fail)
  have hbq : Below w2.heap.size w2 (w2.drewN nq) := below_drewN _
  have HX2b := Lib.hid (HX2.out.below hbq); have HW2b := Lib.hid (HW2.out.below hbq); have HR2b := Lib.hid (HR2.out.below hbq)
  have HB2b := Lib.hid (below_trans HB2.out hbq); have HO2b := Lib.hid (HO2.out.below hbq)
  clear hx hf hw hbq
  try clear d0 d1' d2' hrow
  clear HX2 HW2 HR2 HB2 HO2 hz2 hy2 hy2'
  generalize w2.drewN nq = w2b at HX2b HW2b HR2b HB2b HO2b ⊢
  have hz2 : w.heap.size + 1 + 1 < w2b.heap.size := HR2b.out.lt
  have hy2 : w.heap.size < w2b.heap.size := by omega
  have hy2' : w.heap.size + 1 < w2b.heap.size := by omega
  have hx := HX2b.out.cell; have hf := HX2b.out.mfroz; have hw := HW2b.out.cell
  go_wp2_with (at_builtin; refine wpList_append_rows Wtr.len (by decide) Wtr.one _ rfl (.tmp 34) (.tmp 36) 29 rfl (w.heap.size + 1 + 1 + 1) 35 j0 (.agg #[.int .i64 0, .int .i64 0, .int .i64 0]) 24 Try.underlying29 Hj.out Hy0.out Hy1.out Hy2.out rfl _ ([] : List Wtr) rfl (own_below HO2b.out.wt (below_alloc _ _)) (some ⟨w2b.heap.size, 0, none⟩) 1 [⟨th, 1, arg⟩] rfl (.inr ⟨w2b.heap.size, 0, rfl, fun j v hj => by rw [Nat.zero_add, (BoxC.new 35 w2b #[.int .i64 th, .int .i64 1, .int .i64 arg]).cell j]; simpa [flatV, Wtr.cs] using hj⟩) ?_ ?_ (by simp <;> omega) ?_)
  · show ((([] : List Wtr)).length + 1) * _ ≤ _; omega
  · show (([] : List Wtr)).length + 1 ≤ maxLen; unfold maxLen; omega
  intro F f w3 hown hgr
  have hlo : ∀ q, (Value.slice B2 (([] : List Wtr)).length d2).ownBlock = some q → w.heap.size + 1 + 1 + 1 ≤ q := fun q hq => (World.ownsRow.lt HO2b.out.wt q hq).1
  have hbl := below_alloc w2b (.cells #[.int .i64 th, .int .i64 1, .int .i64 arg] 35)
  have HX3 := Lib.hid ((HX2b.out.below hbl).mgrown hgr (ne_own hlo (by omega)))
  have HR3 := Lib.hid ((HR2b.out.below hbl).mgrown hgr (ne_own hlo (by omega)))
  have HB3 := Lib.hid ((below_trans HB2b.out hbl).grown hgr (below_trans HB2b.out hbl).size (fun q hq => by have := hlo q hq; omega))
  have HA3 := Lib.hid (SegC.keptD (n := zs.length) (c := d1) (SegC.below (SegC.ofI HO2b.out.st) hbl) hgr HO2b.out.d12)
  have HC3 := Lib.hid (SegC.keptD (n := os.length) (c := d3) (SegC.below (SegC.ofW HO2b.out.of) hbl) hgr HO2b.out.d23.symm)
  have HT3 : Hid (SegC (w.heap.size + 1 + 1 + 1) w3 F (flatV Wtr.cs ([⟨th, 1, arg⟩] : List Wtr))) := Lib.hid (SegC.ofW (c := f) (by first | exact hown | (unfold OwnR; simpa using hown)))
  clear hown hgr hbl hlo hx hw HX2b HW2b HR2b HB2b HO2b
  have hf := HX3.out.mfroz; have hx := HX3.out.cell
  go_upto_region 7 with fail
  have HX4 : Hid (BoxC 31 (w3.setCell ⟨w.heap.size, 2, none⟩ (.slice F (([⟨th, 1, arg⟩] : List Wtr)).length f)) w.heap.size #[.slice B1 zs.length d1, .int .i64 cnt, .slice F (([⟨th, 1, arg⟩] : List Wtr)).length f, .slice B3 os.length d3]) := Lib.hid (HX3.out.mset 2 _)
  have HR4 := Lib.hid (HR3.out.msetO ⟨w.heap.size, 2, none⟩ (.slice F (([⟨th, 1, arg⟩] : List Wtr)).length f) (by simp <;> omega))
  have HB4 := Lib.hid (HB3.out.setCell (p := ⟨w.heap.size, 2, none⟩) (Nat.le_refl _) (.slice F (([⟨th, 1, arg⟩] : List Wtr)).length f))
  have HA4 := Lib.hid (HA3.out.low (k := w.heap.size) (o := 2) (by omega) (.slice F (([⟨th, 1, arg⟩] : List Wtr)).length f))
  have HT4 := Lib.hid (HT3.out.low (k := w.heap.size) (o := 2) (by omega) (.slice F (([⟨th, 1, arg⟩] : List Wtr)).length f))
  have HC4 := Lib.hid (HC3.out.low (k := w.heap.size) (o := 2) (by omega) (.slice F (([⟨th, 1, arg⟩] : List Wtr)).length f))
  generalize w3.setCell ⟨w.heap.size, 2, none⟩ (.slice F (([⟨th, 1, arg⟩] : List Wtr)).length f) = w4 at HX4 HR4 HB4 HA4 HT4 HC4 ⊢
  clear hf hx HX3 HR3 HB3 HA3 HT3 HC3
  have hx := HX4.out.cell; have hf := HX4.out.mfroz
  go_wp2_with (refine wpList_store_row rfl 31 _ _ rfl (w.heap.size + 1 + 1) _ rfl rfl 31 _ HR4.out info_model rfl (one4m _ _ _ _ _ _ _ _ _ _) ?_)
  have hr := (HR4.out.mrow #[.slice B1 zs.length d1, .int .i64 cnt, .slice F (([⟨th, 1, arg⟩] : List Wtr)).length f, .slice B3 os.length d3]).cell
  have hb' := below_setRow HB4.out (Nat.le_trans (Nat.le_succ _) (Nat.le_succ _) : w.heap.size ≤ w.heap.size + 1 + 1) #[.slice B1 zs.length d1, .int .i64 cnt, .slice F (([⟨th, 1, arg⟩] : List Wtr)).length f, .slice B3 os.length d3]
  have hsA := SegC.base (b1 := w.heap.size) (SegC.row (n := zs.length) (c := d1) HA4.out (k := w.heap.size + 1 + 1) (by omega) #[.slice B1 zs.length d1, .int .i64 cnt, .slice F (([⟨th, 1, arg⟩] : List Wtr)).length f, .slice B3 os.length d3]) (by omega)
  have hsB := SegC.base (b1 := w.heap.size) (SegC.row (n := (([⟨th, 1, arg⟩] : List Wtr)).length) (c := f) HT4.out (k := w.heap.size + 1 + 1) (by omega) #[.slice B1 zs.length d1, .int .i64 cnt, .slice F (([⟨th, 1, arg⟩] : List Wtr)).length f, .slice B3 os.length d3]) (by omega)
  have hsO := SegC.base (b1 := w.heap.size) (SegC.row (n := os.length) (c := d3) HC4.out (k := w.heap.size + 1 + 1) (by omega) #[.slice B1 zs.length d1, .int .i64 cnt, .slice F (([⟨th, 1, arg⟩] : List Wtr)).length f, .slice B3 os.length d3]) (by omega)
  generalize w4.setRow (w.heap.size + 1 + 1) #[.slice B1 zs.length d1, .int .i64 cnt, .slice F (([⟨th, 1, arg⟩] : List Wtr)).length f, .slice B3 os.length d3] = w9 at hr hb' hsA hsB hsO ⊢
  clear hx hf
  refine bodyPost_ret (v := .tuple #[.agg #[.slice B1 zs.length d1, .int .i64 cnt, .slice F (([⟨th, 1, arg⟩] : List Wtr)).length f, .slice B3 os.length d3], .bool false, .int .i64 0, .int .i64 0, .int .i64 (-1)]) (by simp [results, Try.results51, go_sem, hr]) rfl ⟨B1, d1, F, f, B3, d3, rfl, hsA, hsB, hsO, hb'⟩

end Go.Proofs.Ythianfhfamkcmaa

namespace Go.Proofs.Ythianfhfamkcmaa
open Go.RowKit

set_option maxHeartbeats 4000000 in
set_option maxRecDepth 100000 in
theorem l10_nil2 (A B O : Option Addr) (ca cb co : Nat) (zs : List Int) (os : List Wtr) (cnt th arg : Int) (w : World) (hz : zs.length ≤ 1048576) (ht : (([] : List Wtr)).length ≤ 1048576) (hc : os.length ≤ 1048576) (hA : Rd w A zs) (hT : RdR Wtr.cs w B ([] : List Wtr)) (hC : RdR Wtr.cs w O os) :
    Calls Try.prog 51 #[.agg #[.slice A zs.length ca, .int .i64 cnt, .slice B (([] : List Wtr)).length cb, .slice O os.length co], .agg #[.int .i64 th, .int .i64 2, .int .i64 arg]] w (SpecPost w ((false, 0, 0, (-1)), (zs, cnt, ([⟨th, 2, arg⟩] : List Wtr), os))) := by
  have HA := Lib.hid hA; have HT := Lib.hid hT; have HC := Lib.hid hC; clear hA hT hC
  have HB0 := Lib.hid (below_alloc3 w (.cells #[.slice A zs.length ca, .int .i64 cnt, .slice B (([] : List Wtr)).length cb, .slice O os.length co] 31) (.cells #[.int .i64 th, .int .i64 2, .int .i64 arg] 35) (.cells #[.slice none 0 0, .int .i64 0, .slice none 0 0, .slice none 0 0] 31))
  have HX := Lib.hid ((BoxC.new 31 w #[.slice A zs.length ca, .int .i64 cnt, .slice B (([] : List Wtr)).length cb, .slice O os.length co]).below (below_alloc2 _ (.cells #[.int .i64 th, .int .i64 2, .int .i64 arg] 35) (.cells #[.slice none 0 0, .int .i64 0, .slice none 0 0, .slice none 0 0] 31)))
  have HW := Lib.hid (by have h := (BoxC.new 35 (w.alloc (.cells #[.slice A zs.length ca, .int .i64 cnt, .slice B (([] : List Wtr)).length cb, .slice O os.length co] 31)) #[.int .i64 th, .int .i64 2, .int .i64 arg]).below (below_alloc _ (.cells #[.slice none 0 0, .int .i64 0, .slice none 0 0, .slice none 0 0] 31)); rw [size_alloc] at h; exact h)
  have HR := Lib.hid (by have h := BoxC.new 31 ((w.alloc (.cells #[.slice A zs.length ca, .int .i64 cnt, .slice B (([] : List Wtr)).length cb, .slice O os.length co] 31)).alloc (.cells #[.int .i64 th, .int .i64 2, .int .i64 arg] 35)) #[.slice none 0 0, .int .i64 0, .slice none 0 0, .slice none 0 0]; rw [size_alloc, size_alloc] at h; exact h)
  have hsz : (((w.alloc (.cells #[.slice A zs.length ca, .int .i64 cnt, .slice B (([] : List Wtr)).length cb, .slice O os.length co] 31)).alloc (.cells #[.int .i64 th, .int .i64 2, .int .i64 arg] 35)).alloc (.cells #[.slice none 0 0, .int .i64 0, .slice none 0 0, .slice none 0 0] 31)).heap.size = w.heap.size + 1 + 1 + 1 := by simp
  go_enter Try.func51, Try.ntmps51
  have hx := HX.out.cell
  go_wp2_with fail
  refine (l10Own_any _ _ _ _ _ _ zs ([] : List Wtr) os cnt _ hz ht hc (HA.out.below HB0.out) (HT.out.below HB0.out) (HC.out.below HB0.out)).mono ?_
  rintro e w1 ⟨B1, d1, B2, d2, B3, d3, rfl, hO, hb⟩
  rw [hsz] at hO
  have HB1 := Lib.hid (below_trans HB0.out hb)
  have HX1 := Lib.hid (HX.out.below hb); have HW1 := Lib.hid (HW.out.below hb); have HR1 := Lib.hid (HR.out.below hb)
  have HO1 := Lib.hid hO
  clear hb hO HB0 HX HW HR hx hsz
  go_upto_region 2 with (refine wpList_store_row rfl 31 _ _ rfl w.heap.size _ rfl rfl 31 _ HX1.out info_model rfl (one4m _ _ _ _ _ _ _ _ _ _) ?_)
  have HX2 := Lib.hid (HX1.out.mrow #[.slice B1 zs.length d1, .int .i64 cnt, .slice B2 (([] : List Wtr)).length d2, .slice B3 os.length d3])
  have HW2 := Lib.hid (HW1.out.mrowO (b := w.heap.size) (by omega) #[.slice B1 zs.length d1, .int .i64 cnt, .slice B2 (([] : List Wtr)).length d2, .slice B3 os.length d3])
  have HR2 := Lib.hid (HR1.out.mrowO (b := w.heap.size) (by omega) #[.slice B1 zs.length d1, .int .i64 cnt, .slice B2 (([] : List Wtr)).length d2, .slice B3 os.length d3])
  have HB2 := Lib.hid (below_setRow HB1.out (Nat.le_refl _) #[.slice B1 zs.length d1, .int .i64 cnt, .slice B2 (([] : List Wtr)).length d2, .slice B3 os.length d3])
  have HO2 := Lib.hid (HO1.out.row (k := w.heap.size) (by omega) #[.slice B1 zs.length d1, .int .i64 cnt, .slice B2 (([] : List Wtr)).length d2, .slice B3 os.length d3])
  generalize w1.setRow w.heap.size #[.slice B1 zs.length d1, .int .i64 cnt, .slice B2 (([] : List Wtr)).length d2, .slice B3 os.length d3] = w2 at HX2 HW2 HR2 HB2 HO2 ⊢
  have hz2 : w.heap.size + 1 + 1 < w2.heap.size := HR2.out.lt
  have hy2 : w.heap.size < w2.heap.size := by omega
  have hy2' : w.heap.size + 1 < w2.heap.size := by omega
  clear HX1 HW1 HR1 HB1 HO1
  obtain ⟨j0, hj, hy0, hy1, hy2⟩ := infoW
  have Hj := Lib.hid hj; have Hy0 := Lib.hid hy0; have Hy1 := Lib.hid hy1; have Hy2 := Lib.hid hy2
  clear hj hy0 hy1 hy2
  have hx := HX2.out.cell; have hf := HX2.out.mfroz
  have hw := HW2.out.cell
  go_wp2_with fail
  go_quiet (fail)
  have hbq : Below w2.heap.size w2 (w2.drewN nq) := below_drewN _
  have HX2b := Lib.hid (HX2.out.below hbq); have HW2b := Lib.hid (HW2.out.below hbq); have HR2b := Lib.hid (HR2.out.below hbq)
  have HB2b := Lib.hid (below_trans HB2.out hbq); have HO2b := Lib.hid (HO2.out.below hbq)
  clear hx hf hw hbq
  try clear d0 d1' d2' hrow
  clear HX2 HW2 HR2 HB2 HO2 hz2 hy2 hy2'
  generalize w2.drewN nq = w2b at HX2b HW2b HR2b HB2b HO2b ⊢
  have hz2 : w.heap.size + 1 + 1 < w2b.heap.size := HR2b.out.lt
  have hy2 : w.heap.size < w2b.heap.size := by omega
  have hy2' : w.heap.size + 1 < w2b.heap.size := by omega
  have hx := HX2b.out.cell; have hf := HX2b.out.mfroz; have hw := HW2b.out.cell
  go_wp2_with (at_builtin; refine wpList_append_rows Wtr.len (by decide) Wtr.one _ rfl (.tmp 34) (.tmp 36) 29 rfl (w.heap.size + 1 + 1 + 1) 35 j0 (.agg #[.int .i64 0, .int .i64 0, .int .i64 0]) 24 Try.underlying29 Hj.out Hy0.out Hy1.out Hy2.out rfl _ ([] : List Wtr) rfl (own_below HO2b.out.wt (below_alloc _ _)) (some ⟨w2b.heap.size, 0, none⟩) 1 [⟨th, 2, arg⟩] rfl (.inr ⟨w2b.heap.size, 0, rfl, fun j v hj => by rw [Nat.zero_add, (BoxC.new 35 w2b #[.int .i64 th, .int .i64 2, .int .i64 arg]).cell j]; simpa [flatV, Wtr.cs] using hj⟩) ?_ ?_ (by simp <;> omega) ?_)
  · show ((([] : List Wtr)).length + 1) * _ ≤ _; omega
  · show (([] : List Wtr)).length + 1 ≤ maxLen; unfold maxLen; omega
  intro F f w3 hown hgr
  have hlo : ∀ q, (Value.slice B2 (([] : List Wtr)).length d2).ownBlock = some q → w.heap.size + 1 + 1 + 1 ≤ q := fun q hq => (World.ownsRow.lt HO2b.out.wt q hq).1
  have hbl := below_alloc w2b (.cells #[.int .i64 th, .int .i64 2, .int .i64 arg] 35)
  have HX3 := Lib.hid ((HX2b.out.below hbl).mgrown hgr (ne_own hlo (by omega)))
  have HR3 := Lib.hid ((HR2b.out.below hbl).mgrown hgr (ne_own hlo (by omega)))
  have HB3 := Lib.hid ((below_trans HB2b.out hbl).grown hgr (below_trans HB2b.out hbl).size (fun q hq => by have := hlo q hq; omega))
  have HA3 := Lib.hid (SegC.keptD (n := zs.length) (c := d1) (SegC.below (SegC.ofI HO2b.out.st) hbl) hgr HO2b.out.d12)
  have HC3 := Lib.hid (SegC.keptD (n := os.length) (c := d3) (SegC.below (SegC.ofW HO2b.out.of) hbl) hgr HO2b.out.d23.symm)
  have HT3 : Hid (SegC (w.heap.size + 1 + 1 + 1) w3 F (flatV Wtr.cs ([⟨th, 2, arg⟩] : List Wtr))) := Lib.hid (SegC.ofW (c := f) (by first | exact hown | (unfold OwnR; simpa using hown)))
  clear hown hgr hbl hlo hx hw HX2b HW2b HR2b HB2b HO2b
  have hf := HX3.out.mfroz; have hx := HX3.out.cell
  go_upto_region 7 with fail
  have HX4 : Hid (BoxC 31 (w3.setCell ⟨w.heap.size, 2, none⟩ (.slice F (([⟨th, 2, arg⟩] : List Wtr)).length f)) w.heap.size #[.slice B1 zs.length d1, .int .i64 cnt, .slice F (([⟨th, 2, arg⟩] : List Wtr)).length f, .slice B3 os.length d3]) := Lib.hid (HX3.out.mset 2 _)
  have HR4 := Lib.hid (HR3.out.msetO ⟨w.heap.size, 2, none⟩ (.slice F (([⟨th, 2, arg⟩] : List Wtr)).length f) (by simp <;> omega))
  have HB4 := Lib.hid (HB3.out.setCell (p := ⟨w.heap.size, 2, none⟩) (Nat.le_refl _) (.slice F (([⟨th, 2, arg⟩] : List Wtr)).length f))
  have HA4 := Lib.hid (HA3.out.low (k := w.heap.size) (o := 2) (by omega) (.slice F (([⟨th, 2, arg⟩] : List Wtr)).length f))
  have HT4 := Lib.hid (HT3.out.low (k := w.heap.size) (o := 2) (by omega) (.slice F (([⟨th, 2, arg⟩] : List Wtr)).length f))
  have HC4 := Lib.hid (HC3.out.low (k := w.heap.size) (o := 2) (by omega) (.slice F (([⟨th, 2, arg⟩] : List Wtr)).length f))
  generalize w3.setCell ⟨w.heap.size, 2, none⟩ (.slice F (([⟨th, 2, arg⟩] : List Wtr)).length f) = w4 at HX4 HR4 HB4 HA4 HT4 HC4 ⊢
  clear hf hx HX3 HR3 HB3 HA3 HT3 HC3
  have hx := HX4.out.cell; have hf := HX4.out.mfroz
  go_wp2_with (refine wpList_store_row rfl 31 _ _ rfl (w.heap.size + 1 + 1) _ rfl rfl 31 _ HR4.out info_model rfl (one4m _ _ _ _ _ _ _ _ _ _) ?_)
  have hr := (HR4.out.mrow #[.slice B1 zs.length d1, .int .i64 cnt, .slice F (([⟨th, 2, arg⟩] : List Wtr)).length f, .slice B3 os.length d3]).cell
  have hb' := below_setRow HB4.out (Nat.le_trans (Nat.le_succ _) (Nat.le_succ _) : w.heap.size ≤ w.heap.size + 1 + 1) #[.slice B1 zs.length d1, .int .i64 cnt, .slice F (([⟨th, 2, arg⟩] : List Wtr)).length f, .slice B3 os.length d3]
  have hsA := SegC.base (b1 := w.heap.size) (SegC.row (n := zs.length) (c := d1) HA4.out (k := w.heap.size + 1 + 1) (by omega) #[.slice B1 zs.length d1, .int .i64 cnt, .slice F (([⟨th, 2, arg⟩] : List Wtr)).length f, .slice B3 os.length d3]) (by omega)
  have hsB := SegC.base (b1 := w.heap.size) (SegC.row (n := (([⟨th, 2, arg⟩] : List Wtr)).length) (c := f) HT4.out (k := w.heap.size + 1 + 1) (by omega) #[.slice B1 zs.length d1, .int .i64 cnt, .slice F (([⟨th, 2, arg⟩] : List Wtr)).length f, .slice B3 os.length d3]) (by omega)
  have hsO := SegC.base (b1 := w.heap.size) (SegC.row (n := os.length) (c := d3) HC4.out (k := w.heap.size + 1 + 1) (by omega) #[.slice B1 zs.length d1, .int .i64 cnt, .slice F (([⟨th, 2, arg⟩] : List Wtr)).length f, .slice B3 os.length d3]) (by omega)
  generalize w4.setRow (w.heap.size + 1 + 1) #[.slice B1 zs.length d1, .int .i64 cnt, .slice F (([⟨th, 2, arg⟩] : List Wtr)).length f, .slice B3 os.length d3] = w9 at hr hb' hsA hsB hsO ⊢
  clear hx hf
  refine bodyPost_ret (v := .tuple #[.agg #[.slice B1 zs.length d1, .int .i64 cnt, .slice F (([⟨th, 2, arg⟩] : List Wtr)).length f, .slice B3 os.length d3], .bool false, .int .i64 0, .int .i64 0, .int .i64 (-1)]) (by simp [results, Try.results51, go_sem, hr]) rfl ⟨B1, d1, F, f, B3, d3, rfl, hsA, hsB, hsO, hb'⟩

end Go.Proofs.Ythianfhfamkcmaa

namespace Go.Proofs.Ythianfhfamkcmaa
open Go.RowKit

set_option maxHeartbeats 4000000 in
set_option maxRecDepth 100000 in
theorem l10_same1 (A B O : Option Addr) (ca cb co : Nat) (zs : List Int) (xt xa : Int) (r os : List Wtr) (cnt th arg : Int) (w : World) (hz : zs.length ≤ 1048576) (ht : ((⟨xt, 1, xa⟩ :: r : List Wtr)).length ≤ 1048576) (hc : os.length ≤ 1048576) (hA : Rd w A zs) (hT : RdR Wtr.cs w B (⟨xt, 1, xa⟩ :: r : List Wtr)) (hC : RdR Wtr.cs w O os) :
    Calls Try.prog 51 #[.agg #[.slice A zs.length ca, .int .i64 cnt, .slice B ((⟨xt, 1, xa⟩ :: r : List Wtr)).length cb, .slice O os.length co], .agg #[.int .i64 th, .int .i64 1, .int .i64 arg]] w (SpecPost w ((false, 0, 0, (-1)), (zs, cnt, ((⟨xt, 1, xa⟩ :: r) ++ [⟨th, 1, arg⟩] : List Wtr), os))) := by
  have HA := Lib.hid hA; have HT := Lib.hid hT; have HC := Lib.hid hC; clear hA hT hC
  have HB0 := Lib.hid (below_alloc3 w (.cells #[.slice A zs.length ca, .int .i64 cnt, .slice B ((⟨xt, 1, xa⟩ :: r : List Wtr)).length cb, .slice O os.length co] 31) (.cells #[.int .i64 th, .int .i64 1, .int .i64 arg] 35) (.cells #[.slice none 0 0, .int .i64 0, .slice none 0 0, .slice none 0 0] 31))
  have HX := Lib.hid ((BoxC.new 31 w #[.slice A zs.length ca, .int .i64 cnt, .slice B ((⟨xt, 1, xa⟩ :: r : List Wtr)).length cb, .slice O os.length co]).below (below_alloc2 _ (.cells #[.int .i64 th, .int .i64 1, .int .i64 arg] 35) (.cells #[.slice none 0 0, .int .i64 0, .slice none 0 0, .slice none 0 0] 31)))
  have HW := Lib.hid (by have h := (BoxC.new 35 (w.alloc (.cells #[.slice A zs.length ca, .int .i64 cnt, .slice B ((⟨xt, 1, xa⟩ :: r : List Wtr)).length cb, .slice O os.length co] 31)) #[.int .i64 th, .int .i64 1, .int .i64 arg]).below (below_alloc _ (.cells #[.slice none 0 0, .int .i64 0, .slice none 0 0, .slice none 0 0] 31)); rw [size_alloc] at h; exact h)
  have HR := Lib.hid (by have h := BoxC.new 31 ((w.alloc (.cells #[.slice A zs.length ca, .int .i64 cnt, .slice B ((⟨xt, 1, xa⟩ :: r : List Wtr)).length cb, .slice O os.length co] 31)).alloc (.cells #[.int .i64 th, .int .i64 1, .int .i64 arg] 35)) #[.slice none 0 0, .int .i64 0, .slice none 0 0, .slice none 0 0]; rw [size_alloc, size_alloc] at h; exact h)
  have hsz : (((w.alloc (.cells #[.slice A zs.length ca, .int .i64 cnt, .slice B ((⟨xt, 1, xa⟩ :: r : List Wtr)).length cb, .slice O os.length co] 31)).alloc (.cells #[.int .i64 th, .int .i64 1, .int .i64 arg] 35)).alloc (.cells #[.slice none 0 0, .int .i64 0, .slice none 0 0, .slice none 0 0] 31)).heap.size = w.heap.size + 1 + 1 + 1 := by simp
  go_enter Try.func51, Try.ntmps51
  have hx := HX.out.cell
  go_wp2_with fail
  refine (l10Own_any _ _ _ _ _ _ zs (⟨xt, 1, xa⟩ :: r : List Wtr) os cnt _ hz ht hc (HA.out.below HB0.out) (HT.out.below HB0.out) (HC.out.below HB0.out)).mono ?_
  rintro e w1 ⟨B1, d1, B2, d2, B3, d3, rfl, hO, hb⟩
  rw [hsz] at hO
  have HB1 := Lib.hid (below_trans HB0.out hb)
  have HX1 := Lib.hid (HX.out.below hb); have HW1 := Lib.hid (HW.out.below hb); have HR1 := Lib.hid (HR.out.below hb)
  have HO1 := Lib.hid hO
  clear hb hO HB0 HX HW HR hx hsz
  go_upto_region 2 with (refine wpList_store_row rfl 31 _ _ rfl w.heap.size _ rfl rfl 31 _ HX1.out info_model rfl (one4m _ _ _ _ _ _ _ _ _ _) ?_)
  have HX2 := Lib.hid (HX1.out.mrow #[.slice B1 zs.length d1, .int .i64 cnt, .slice B2 ((⟨xt, 1, xa⟩ :: r : List Wtr)).length d2, .slice B3 os.length d3])
  have HW2 := Lib.hid (HW1.out.mrowO (b := w.heap.size) (by omega) #[.slice B1 zs.length d1, .int .i64 cnt, .slice B2 ((⟨xt, 1, xa⟩ :: r : List Wtr)).length d2, .slice B3 os.length d3])
  have HR2 := Lib.hid (HR1.out.mrowO (b := w.heap.size) (by omega) #[.slice B1 zs.length d1, .int .i64 cnt, .slice B2 ((⟨xt, 1, xa⟩ :: r : List Wtr)).length d2, .slice B3 os.length d3])
  have HB2 := Lib.hid (below_setRow HB1.out (Nat.le_refl _) #[.slice B1 zs.length d1, .int .i64 cnt, .slice B2 ((⟨xt, 1, xa⟩ :: r : List Wtr)).length d2, .slice B3 os.length d3])
  have HO2 := Lib.hid (HO1.out.row (k := w.heap.size) (by omega) #[.slice B1 zs.length d1, .int .i64 cnt, .slice B2 ((⟨xt, 1, xa⟩ :: r : List Wtr)).length d2, .slice B3 os.length d3])
  generalize w1.setRow w.heap.size #[.slice B1 zs.length d1, .int .i64 cnt, .slice B2 ((⟨xt, 1, xa⟩ :: r : List Wtr)).length d2, .slice B3 os.length d3] = w2 at HX2 HW2 HR2 HB2 HO2 ⊢
  have hz2 : w.heap.size + 1 + 1 < w2.heap.size := HR2.out.lt
  have hy2 : w.heap.size < w2.heap.size := by omega
  have hy2' : w.heap.size + 1 < w2.heap.size := by omega
  clear HX1 HW1 HR1 HB1 HO1
  obtain ⟨j0, hj, hy0, hy1, hy2⟩ := infoW
  have Hj := Lib.hid hj; have Hy0 := Lib.hid hy0; have Hy1 := Lib.hid hy1; have Hy2 := Lib.hid hy2
  clear hj hy0 hy1 hy2
  have hx := HX2.out.cell; have hf := HX2.out.mfroz
  obtain ⟨g, ko, rfl, hrow⟩ := row_of (SegC.ofW HO2.out.wt)
  have d0 := hrow 0 _ rfl; have d1' := hrow 1 _ rfl; have d2' := hrow 2 _ rfl
  rw [Nat.add_zero] at d0
  have hw := HW2.out.cell
  go_wp2_with fail
  go_quiet (fail)
  have hbq : Below w2.heap.size w2 (w2.drewN nq) := below_drewN _
  have HX2b := Lib.hid (HX2.out.below hbq); have HW2b := Lib.hid (HW2.out.below hbq); have HR2b := Lib.hid (HR2.out.below hbq)
  have HB2b := Lib.hid (below_trans HB2.out hbq); have HO2b := Lib.hid (HO2.out.below hbq)
  clear hx hf hw hbq
  try clear d0 d1' d2' hrow
  clear HX2 HW2 HR2 HB2 HO2 hz2 hy2 hy2'
  generalize w2.drewN nq = w2b at HX2b HW2b HR2b HB2b HO2b ⊢
  have hz2 : w.heap.size + 1 + 1 < w2b.heap.size := HR2b.out.lt
  have hy2 : w.heap.size < w2b.heap.size := by omega
  have hy2' : w.heap.size + 1 < w2b.heap.size := by omega
  have hx := HX2b.out.cell; have hf := HX2b.out.mfroz; have hw := HW2b.out.cell
  go_wp2_with (at_builtin; refine wpList_append_rows Wtr.len (by decide) Wtr.one _ rfl (.tmp 34) (.tmp 36) 29 rfl (w.heap.size + 1 + 1 + 1) 35 j0 (.agg #[.int .i64 0, .int .i64 0, .int .i64 0]) 24 Try.underlying29 Hj.out Hy0.out Hy1.out Hy2.out rfl _ (⟨xt, 1, xa⟩ :: r : List Wtr) rfl (own_below HO2b.out.wt (below_alloc _ _)) (some ⟨w2b.heap.size, 0, none⟩) 1 [⟨th, 1, arg⟩] rfl (.inr ⟨w2b.heap.size, 0, rfl, fun j v hj => by rw [Nat.zero_add, (BoxC.new 35 w2b #[.int .i64 th, .int .i64 1, .int .i64 arg]).cell j]; simpa [flatV, Wtr.cs] using hj⟩) ?_ ?_ (by simp <;> omega) ?_)
  · show (((⟨xt, 1, xa⟩ :: r : List Wtr)).length + 1) * _ ≤ _; omega
  · show ((⟨xt, 1, xa⟩ :: r : List Wtr)).length + 1 ≤ maxLen; unfold maxLen; omega
  intro F f w3 hown hgr
  have hlo : ∀ q, (Value.slice (some ⟨g, ko, none⟩) ((⟨xt, 1, xa⟩ :: r : List Wtr)).length d2).ownBlock = some q → w.heap.size + 1 + 1 + 1 ≤ q := fun q hq => (World.ownsRow.lt HO2b.out.wt q hq).1
  have hbl := below_alloc w2b (.cells #[.int .i64 th, .int .i64 1, .int .i64 arg] 35)
  have HX3 := Lib.hid ((HX2b.out.below hbl).mgrown hgr (ne_own hlo (by omega)))
  have HR3 := Lib.hid ((HR2b.out.below hbl).mgrown hgr (ne_own hlo (by omega)))
  have HB3 := Lib.hid ((below_trans HB2b.out hbl).grown hgr (below_trans HB2b.out hbl).size (fun q hq => by have := hlo q hq; omega))
  have HA3 := Lib.hid (SegC.keptD (n := zs.length) (c := d1) (SegC.below (SegC.ofI HO2b.out.st) hbl) hgr HO2b.out.d12)
  have HC3 := Lib.hid (SegC.keptD (n := os.length) (c := d3) (SegC.below (SegC.ofW HO2b.out.of) hbl) hgr HO2b.out.d23.symm)
  have HT3 : Hid (SegC (w.heap.size + 1 + 1 + 1) w3 F (flatV Wtr.cs ((⟨xt, 1, xa⟩ :: r) ++ [⟨th, 1, arg⟩] : List Wtr))) := Lib.hid (SegC.ofW (c := f) (by first | exact hown | (unfold OwnR; simpa using hown)))
  clear hown hgr hbl hlo hx hw HX2b HW2b HR2b HB2b HO2b
  have hf := HX3.out.mfroz; have hx := HX3.out.cell
  go_upto_region 7 with fail
  have HX4 : Hid (BoxC 31 (w3.setCell ⟨w.heap.size, 2, none⟩ (.slice F (r.length + 1 + 1) f)) w.heap.size #[.slice B1 zs.length d1, .int .i64 cnt, .slice F (r.length + 1 + 1) f, .slice B3 os.length d3]) := Lib.hid (HX3.out.mset 2 _)
  have HR4 := Lib.hid (HR3.out.msetO ⟨w.heap.size, 2, none⟩ (.slice F (r.length + 1 + 1) f) (by simp <;> omega))
  have HB4 := Lib.hid (HB3.out.setCell (p := ⟨w.heap.size, 2, none⟩) (Nat.le_refl _) (.slice F (r.length + 1 + 1) f))
  have HA4 := Lib.hid (HA3.out.low (k := w.heap.size) (o := 2) (by omega) (.slice F (r.length + 1 + 1) f))
  have HT4 := Lib.hid (HT3.out.low (k := w.heap.size) (o := 2) (by omega) (.slice F (r.length + 1 + 1) f))
  have HC4 := Lib.hid (HC3.out.low (k := w.heap.size) (o := 2) (by omega) (.slice F (r.length + 1 + 1) f))
  generalize w3.setCell ⟨w.heap.size, 2, none⟩ (.slice F (r.length + 1 + 1) f) = w4 at HX4 HR4 HB4 HA4 HT4 HC4 ⊢
  clear hf hx HX3 HR3 HB3 HA3 HT3 HC3
  have hx := HX4.out.cell; have hf := HX4.out.mfroz
  go_wp2_with (refine wpList_store_row rfl 31 _ _ rfl (w.heap.size + 1 + 1) _ rfl rfl 31 _ HR4.out info_model rfl (one4m _ _ _ _ _ _ _ _ _ _) ?_)
  have hr := (HR4.out.mrow #[.slice B1 zs.length d1, .int .i64 cnt, .slice F (r.length + 1 + 1) f, .slice B3 os.length d3]).cell
  have hb' := below_setRow HB4.out (Nat.le_trans (Nat.le_succ _) (Nat.le_succ _) : w.heap.size ≤ w.heap.size + 1 + 1) #[.slice B1 zs.length d1, .int .i64 cnt, .slice F (r.length + 1 + 1) f, .slice B3 os.length d3]
  have hsA := SegC.base (b1 := w.heap.size) (SegC.row (n := zs.length) (c := d1) HA4.out (k := w.heap.size + 1 + 1) (by omega) #[.slice B1 zs.length d1, .int .i64 cnt, .slice F (r.length + 1 + 1) f, .slice B3 os.length d3]) (by omega)
  have hsB := SegC.base (b1 := w.heap.size) (SegC.row (n := (r.length + 1 + 1)) (c := f) HT4.out (k := w.heap.size + 1 + 1) (by omega) #[.slice B1 zs.length d1, .int .i64 cnt, .slice F (r.length + 1 + 1) f, .slice B3 os.length d3]) (by omega)
  have hsO := SegC.base (b1 := w.heap.size) (SegC.row (n := os.length) (c := d3) HC4.out (k := w.heap.size + 1 + 1) (by omega) #[.slice B1 zs.length d1, .int .i64 cnt, .slice F (r.length + 1 + 1) f, .slice B3 os.length d3]) (by omega)
  generalize w4.setRow (w.heap.size + 1 + 1) #[.slice B1 zs.length d1, .int .i64 cnt, .slice F (r.length + 1 + 1) f, .slice B3 os.length d3] = w9 at hr hb' hsA hsB hsO ⊢
  clear hx hf
  refine bodyPost_ret (v := .tuple #[.agg #[.slice B1 zs.length d1, .int .i64 cnt, .slice F (r.length + 1 + 1) f, .slice B3 os.length d3], .bool false, .int .i64 0, .int .i64 0, .int .i64 (-1)]) (by simp [results, Try.results51, go_sem, hr]) rfl ⟨B1, d1, F, f, B3, d3, (by simp), hsA, hsB, hsO, hb'⟩

end Go.Proofs.Ythianfhfamkcmaa

namespace Go.Proofs.Ythianfhfamkcmaa
open Go.RowKit

set_option maxHeartbeats 4000000 in
set_option maxRecDepth 100000 in
theorem l10_same2 (A B O : Option Addr) (ca cb co : Nat) (zs : List Int) (xt xa : Int) (r os : List Wtr) (cnt th arg : Int) (w : World) (hz : zs.length ≤ 1048576) (ht : ((⟨xt, 2, xa⟩ :: r : List Wtr)).length ≤ 1048576) (hc : os.length ≤ 1048576) (hA : Rd w A zs) (hT : RdR Wtr.cs w B (⟨xt, 2, xa⟩ :: r : List Wtr)) (hC : RdR Wtr.cs w O os) :
    Calls Try.prog 51 #[.agg #[.slice A zs.length ca, .int .i64 cnt, .slice B ((⟨xt, 2, xa⟩ :: r : List Wtr)).length cb, .slice O os.length co], .agg #[.int .i64 th, .int .i64 2, .int .i64 arg]] w (SpecPost w ((false, 0, 0, (-1)), (zs, cnt, ((⟨xt, 2, xa⟩ :: r) ++ [⟨th, 2, arg⟩] : List Wtr), os))) := by
  have HA := Lib.hid hA; have HT := Lib.hid hT; have HC := Lib.hid hC; clear hA hT hC
  have HB0 := Lib.hid (below_alloc3 w (.cells #[.slice A zs.length ca, .int .i64 cnt, .slice B ((⟨xt, 2, xa⟩ :: r : List Wtr)).length cb, .slice O os.length co] 31) (.cells #[.int .i64 th, .int .i64 2, .int .i64 arg] 35) (.cells #[.slice none 0 0, .int .i64 0, .slice none 0 0, .slice none 0 0] 31))
  have HX := Lib.hid ((BoxC.new 31 w #[.slice A zs.length ca, .int .i64 cnt, .slice B ((⟨xt, 2, xa⟩ :: r : List Wtr)).length cb, .slice O os.length co]).below (below_alloc2 _ (.cells #[.int .i64 th, .int .i64 2, .int .i64 arg] 35) (.cells #[.slice none 0 0, .int .i64 0, .slice none 0 0, .slice none 0 0] 31)))
  have HW := Lib.hid (by have h := (BoxC.new 35 (w.alloc (.cells #[.slice A zs.length ca, .int .i64 cnt, .slice B ((⟨xt, 2, xa⟩ :: r : List Wtr)).length cb, .slice O os.length co] 31)) #[.int .i64 th, .int .i64 2, .int .i64 arg]).below (below_alloc _ (.cells #[.slice none 0 0, .int .i64 0, .slice none 0 0, .slice none 0 0] 31)); rw [size_alloc] at h; exact h)
  have HR := Lib.hid (by have h := BoxC.new 31 ((w.alloc (.cells #[.slice A zs.length ca, .int .i64 cnt, .slice B ((⟨xt, 2, xa⟩ :: r : List Wtr)).length cb, .slice O os.length co] 31)).alloc (.cells #[.int .i64 th, .int .i64 2, .int .i64 arg] 35)) #[.slice none 0 0, .int .i64 0, .slice none 0 0, .slice none 0 0]; rw [size_alloc, size_alloc] at h; exact h)
  have hsz : (((w.alloc (.cells #[.slice A zs.length ca, .int .i64 cnt, .slice B ((⟨xt, 2, xa⟩ :: r : List Wtr)).length cb, .slice O os.length co] 31)).alloc (.cells #[.int .i64 th, .int .i64 2, .int .i64 arg] 35)).alloc (.cells #[.slice none 0 0, .int .i64 0, .slice none 0 0, .slice none 0 0] 31)).heap.size = w.heap.size + 1 + 1 + 1 := by simp
  go_enter Try.func51, Try.ntmps51
  have hx := HX.out.cell
  go_wp2_with fail
  refine (l10Own_any _ _ _ _ _ _ zs (⟨xt, 2, xa⟩ :: r : List Wtr) os cnt _ hz ht hc (HA.out.below HB0.out) (HT.out.below HB0.out) (HC.out.below HB0.out)).mono ?_
  rintro e w1 ⟨B1, d1, B2, d2, B3, d3, rfl, hO, hb⟩
  rw [hsz] at hO
  have HB1 := Lib.hid (below_trans HB0.out hb)
  have HX1 := Lib.hid (HX.out.below hb); have HW1 := Lib.hid (HW.out.below hb); have HR1 := Lib.hid (HR.out.below hb)
  have HO1 := Lib.hid hO
  clear hb hO HB0 HX HW HR hx hsz
  go_upto_region 2 with (refine wpList_store_row rfl 31 _ _ rfl w.heap.size _ rfl rfl 31 _ HX1.out info_model rfl (one4m _ _ _ _ _ _ _ _ _ _) ?_)
  have HX2 := Lib.hid (HX1.out.mrow #[.slice B1 zs.length d1, .int .i64 cnt, .slice B2 ((⟨xt, 2, xa⟩ :: r : List Wtr)).length d2, .slice B3 os.length d3])
  have HW2 := Lib.hid (HW1.out.mrowO (b := w.heap.size) (by omega) #[.slice B1 zs.length d1, .int .i64 cnt, .slice B2 ((⟨xt, 2, xa⟩ :: r : List Wtr)).length d2, .slice B3 os.length d3])
  have HR2 := Lib.hid (HR1.out.mrowO (b := w.heap.size) (by omega) #[.slice B1 zs.length d1, .int .i64 cnt, .slice B2 ((⟨xt, 2, xa⟩ :: r : List Wtr)).length d2, .slice B3 os.length d3])
  have HB2 := Lib.hid (below_setRow HB1.out (Nat.le_refl _) #[.slice B1 zs.length d1, .int .i64 cnt, .slice B2 ((⟨xt, 2, xa⟩ :: r : List Wtr)).length d2, .slice B3 os.length d3])
  have HO2 := Lib.hid (HO1.out.row (k := w.heap.size) (by omega) #[.slice B1 zs.length d1, .int .i64 cnt, .slice B2 ((⟨xt, 2, xa⟩ :: r : List Wtr)).length d2, .slice B3 os.length d3])
  generalize w1.setRow w.heap.size #[.slice B1 zs.length d1, .int .i64 cnt, .slice B2 ((⟨xt, 2, xa⟩ :: r : List Wtr)).length d2, .slice B3 os.length d3] = w2 at HX2 HW2 HR2 HB2 HO2 ⊢
  have hz2 : w.heap.size + 1 + 1 < w2.heap.size := HR2.out.lt
  have hy2 : w.heap.size < w2.heap.size := by omega
  have hy2' : w.heap.size + 1 < w2.heap.size := by omega
  clear HX1 HW1 HR1 HB1 HO1
  obtain ⟨j0, hj, hy0, hy1, hy2⟩ := infoW
  have Hj := Lib.hid hj; have Hy0 := Lib.hid hy0; have Hy1 := Lib.hid hy1; have Hy2 := Lib.hid hy2
  clear hj hy0 hy1 hy2
  have hx := HX2.out.cell; have hf := HX2.out.mfroz
  obtain ⟨g, ko, rfl, hrow⟩ := row_of (SegC.ofW HO2.out.wt)
  have d0 := hrow 0 _ rfl; have d1' := hrow 1 _ rfl; have d2' := hrow 2 _ rfl
  rw [Nat.add_zero] at d0
  have hw := HW2.out.cell
  go_wp2_with fail
  go_quiet (fail)
  have hbq : Below w2.heap.size w2 (w2.drewN nq) := below_drewN _
  have HX2b := Lib.hid (HX2.out.below hbq); have HW2b := Lib.hid (HW2.out.below hbq); have HR2b := Lib.hid (HR2.out.below hbq)
  have HB2b := Lib.hid (below_trans HB2.out hbq); have HO2b := Lib.hid (HO2.out.below hbq)
  clear hx hf hw hbq
  try clear d0 d1' d2' hrow
  clear HX2 HW2 HR2 HB2 HO2 hz2 hy2 hy2'
  generalize w2.drewN nq = w2b at HX2b HW2b HR2b HB2b HO2b ⊢
  have hz2 : w.heap.size + 1 + 1 < w2b.heap.size := HR2b.out.lt
  have hy2 : w.heap.size < w2b.heap.size := by omega
  have hy2' : w.heap.size + 1 < w2b.heap.size := by omega
  have hx := HX2b.out.cell; have hf := HX2b.out.mfroz; have hw := HW2b.out.cell
  go_wp2_with (at_builtin; refine wpList_append_rows Wtr.len (by decide) Wtr.one _ rfl (.tmp 34) (.tmp 36) 29 rfl (w.heap.size + 1 + 1 + 1) 35 j0 (.agg #[.int .i64 0, .int .i64 0, .int .i64 0]) 24 Try.underlying29 Hj.out Hy0.out Hy1.out Hy2.out rfl _ (⟨xt, 2, xa⟩ :: r : List Wtr) rfl (own_below HO2b.out.wt (below_alloc _ _)) (some ⟨w2b.heap.size, 0, none⟩) 1 [⟨th, 2, arg⟩] rfl (.inr ⟨w2b.heap.size, 0, rfl, fun j v hj => by rw [Nat.zero_add, (BoxC.new 35 w2b #[.int .i64 th, .int .i64 2, .int .i64 arg]).cell j]; simpa [flatV, Wtr.cs] using hj⟩) ?_ ?_ (by simp <;> omega) ?_)
  · show (((⟨xt, 2, xa⟩ :: r : List Wtr)).length + 1) * _ ≤ _; omega
  · show ((⟨xt, 2, xa⟩ :: r : List Wtr)).length + 1 ≤ maxLen; unfold maxLen; omega
  intro F f w3 hown hgr
  have hlo : ∀ q, (Value.slice (some ⟨g, ko, none⟩) ((⟨xt, 2, xa⟩ :: r : List Wtr)).length d2).ownBlock = some q → w.heap.size + 1 + 1 + 1 ≤ q := fun q hq => (World.ownsRow.lt HO2b.out.wt q hq).1
  have hbl := below_alloc w2b (.cells #[.int .i64 th, .int .i64 2, .int .i64 arg] 35)
  have HX3 := Lib.hid ((HX2b.out.below hbl).mgrown hgr (ne_own hlo (by omega)))
  have HR3 := Lib.hid ((HR2b.out.below hbl).mgrown hgr (ne_own hlo (by omega)))
  have HB3 := Lib.hid ((below_trans HB2b.out hbl).grown hgr (below_trans HB2b.out hbl).size (fun q hq => by have := hlo q hq; omega))
  have HA3 := Lib.hid (SegC.keptD (n := zs.length) (c := d1) (SegC.below (SegC.ofI HO2b.out.st) hbl) hgr HO2b.out.d12)
  have HC3 := Lib.hid (SegC.keptD (n := os.length) (c := d3) (SegC.below (SegC.ofW HO2b.out.of) hbl) hgr HO2b.out.d23.symm)
  have HT3 : Hid (SegC (w.heap.size + 1 + 1 + 1) w3 F (flatV Wtr.cs ((⟨xt, 2, xa⟩ :: r) ++ [⟨th, 2, arg⟩] : List Wtr))) := Lib.hid (SegC.ofW (c := f) (by first | exact hown | (unfold OwnR; simpa using hown)))
  clear hown hgr hbl hlo hx hw HX2b HW2b HR2b HB2b HO2b
  have hf := HX3.out.mfroz; have hx := HX3.out.cell
  go_upto_region 7 with fail
  have HX4 : Hid (BoxC 31 (w3.setCell ⟨w.heap.size, 2, none⟩ (.slice F (r.length + 1 + 1) f)) w.heap.size #[.slice B1 zs.length d1, .int .i64 cnt, .slice F (r.length + 1 + 1) f, .slice B3 os.length d3]) := Lib.hid (HX3.out.mset 2 _)
  have HR4 := Lib.hid (HR3.out.msetO ⟨w.heap.size, 2, none⟩ (.slice F (r.length + 1 + 1) f) (by simp <;> omega))
  have HB4 := Lib.hid (HB3.out.setCell (p := ⟨w.heap.size, 2, none⟩) (Nat.le_refl _) (.slice F (r.length + 1 + 1) f))
  have HA4 := Lib.hid (HA3.out.low (k := w.heap.size) (o := 2) (by omega) (.slice F (r.length + 1 + 1) f))
  have HT4 := Lib.hid (HT3.out.low (k := w.heap.size) (o := 2) (by omega) (.slice F (r.length + 1 + 1) f))
  have HC4 := Lib.hid (HC3.out.low (k := w.heap.size) (o := 2) (by omega) (.slice F (r.length + 1 + 1) f))
  generalize w3.setCell ⟨w.heap.size, 2, none⟩ (.slice F (r.length + 1 + 1) f) = w4 at HX4 HR4 HB4 HA4 HT4 HC4 ⊢
  clear hf hx HX3 HR3 HB3 HA3 HT3 HC3
  have hx := HX4.out.cell; have hf := HX4.out.mfroz
  go_wp2_with (refine wpList_store_row rfl 31 _ _ rfl (w.heap.size + 1 + 1) _ rfl rfl 31 _ HR4.out info_model rfl (one4m _ _ _ _ _ _ _ _ _ _) ?_)
  have hr := (HR4.out.mrow #[.slice B1 zs.length d1, .int .i64 cnt, .slice F (r.length + 1 + 1) f, .slice B3 os.length d3]).cell
  have hb' := below_setRow HB4.out (Nat.le_trans (Nat.le_succ _) (Nat.le_succ _) : w.heap.size ≤ w.heap.size + 1 + 1) #[.slice B1 zs.length d1, .int .i64 cnt, .slice F (r.length + 1 + 1) f, .slice B3 os.length d3]
  have hsA := SegC.base (b1 := w.heap.size) (SegC.row (n := zs.length) (c := d1) HA4.out (k := w.heap.size + 1 + 1) (by omega) #[.slice B1 zs.length d1, .int .i64 cnt, .slice F (r.length + 1 + 1) f, .slice B3 os.length d3]) (by omega)
  have hsB := SegC.base (b1 := w.heap.size) (SegC.row (n := (r.length + 1 + 1)) (c := f) HT4.out (k := w.heap.size + 1 + 1) (by omega) #[.slice B1 zs.length d1, .int .i64 cnt, .slice F (r.length + 1 + 1) f, .slice B3 os.length d3]) (by omega)
  have hsO := SegC.base (b1 := w.heap.size) (SegC.row (n := os.length) (c := d3) HC4.out (k := w.heap.size + 1 + 1) (by omega) #[.slice B1 zs.length d1, .int .i64 cnt, .slice F (r.length + 1 + 1) f, .slice B3 os.length d3]) (by omega)
  generalize w4.setRow (w.heap.size + 1 + 1) #[.slice B1 zs.length d1, .int .i64 cnt, .slice F (r.length + 1 + 1) f, .slice B3 os.length d3] = w9 at hr hb' hsA hsB hsO ⊢
  clear hx hf
  refine bodyPost_ret (v := .tuple #[.agg #[.slice B1 zs.length d1, .int .i64 cnt, .slice F (r.length + 1 + 1) f, .slice B3 os.length d3], .bool false, .int .i64 0, .int .i64 0, .int .i64 (-1)]) (by simp [results, Try.results51, go_sem, hr]) rfl ⟨B1, d1, F, f, B3, d3, (by simp), hsA, hsB, hsO, hb'⟩

end Go.Proofs.Ythianfhfamkcmaa

namespace Go.Proofs.Ythianfhfamkcmaa
open Go.RowKit

set_option maxHeartbeats 4000000 in
set_option maxRecDepth 100000 in
theorem l10_nilO (A B O : Option Addr) (ca cb co : Nat) (zs : List Int) (bs : List Wtr) (cnt th arg : Int) (w : World) (hz : zs.length ≤ 1048576) (ht : bs.length ≤ 1048576) (hc : (([] : List Wtr)).length ≤ 1048576) (hA : Rd w A zs) (hT : RdR Wtr.cs w B bs) (hC : RdR Wtr.cs w O ([] : List Wtr)) :
    Calls Try.prog 51 #[.agg #[.slice A zs.length ca, .int .i64 cnt, .slice B bs.length cb, .slice O (([] : List Wtr)).length co], .agg #[.int .i64 th, .int .i64 3, .int .i64 arg]] w (SpecPost w ((false, 0, 0, (-1)), (zs, cnt, bs, ([⟨th, 3, arg⟩] : List Wtr)))) := by
  have HA := Lib.hid hA; have HT := Lib.hid hT; have HC := Lib.hid hC; clear hA hT hC
  have HB0 := Lib.hid (below_alloc3 w (.cells #[.slice A zs.length ca, .int .i64 cnt, .slice B bs.length cb, .slice O (([] : List Wtr)).length co] 31) (.cells #[.int .i64 th, .int .i64 3, .int .i64 arg] 35) (.cells #[.slice none 0 0, .int .i64 0, .slice none 0 0, .slice none 0 0] 31))
  have HX := Lib.hid ((BoxC.new 31 w #[.slice A zs.length ca, .int .i64 cnt, .slice B bs.length cb, .slice O (([] : List Wtr)).length co]).below (below_alloc2 _ (.cells #[.int .i64 th, .int .i64 3, .int .i64 arg] 35) (.cells #[.slice none 0 0, .int .i64 0, .slice none 0 0, .slice none 0 0] 31)))
  have HW := Lib.hid (by have h := (BoxC.new 35 (w.alloc (.cells #[.slice A zs.length ca, .int .i64 cnt, .slice B bs.length cb, .slice O (([] : List Wtr)).length co] 31)) #[.int .i64 th, .int .i64 3, .int .i64 arg]).below (below_alloc _ (.cells #[.slice none 0 0, .int .i64 0, .slice none 0 0, .slice none 0 0] 31)); rw [size_alloc] at h; exact h)
  have HR := Lib.hid (by have h := BoxC.new 31 ((w.alloc (.cells #[.slice A zs.length ca, .int .i64 cnt, .slice B bs.length cb, .slice O (([] : List Wtr)).length co] 31)).alloc (.cells #[.int .i64 th, .int .i64 3, .int .i64 arg] 35)) #[.slice none 0 0, .int .i64 0, .slice none 0 0, .slice none 0 0]; rw [size_alloc, size_alloc] at h; exact h)
  have hsz : (((w.alloc (.cells #[.slice A zs.length ca, .int .i64 cnt, .slice B bs.length cb, .slice O (([] : List Wtr)).length co] 31)).alloc (.cells #[.int .i64 th, .int .i64 3, .int .i64 arg] 35)).alloc (.cells #[.slice none 0 0, .int .i64 0, .slice none 0 0, .slice none 0 0] 31)).heap.size = w.heap.size + 1 + 1 + 1 := by simp
  go_enter Try.func51, Try.ntmps51
  have hx := HX.out.cell
  go_wp2_with fail
  refine (l10Own_any _ _ _ _ _ _ zs bs ([] : List Wtr) cnt _ hz ht hc (HA.out.below HB0.out) (HT.out.below HB0.out) (HC.out.below HB0.out)).mono ?_
  rintro e w1 ⟨B1, d1, B2, d2, B3, d3, rfl, hO, hb⟩
  rw [hsz] at hO
  have HB1 := Lib.hid (below_trans HB0.out hb)
  have HX1 := Lib.hid (HX.out.below hb); have HW1 := Lib.hid (HW.out.below hb); have HR1 := Lib.hid (HR.out.below hb)
  have HO1 := Lib.hid hO
  clear hb hO HB0 HX HW HR hx hsz
  go_upto_region 2 with (refine wpList_store_row rfl 31 _ _ rfl w.heap.size _ rfl rfl 31 _ HX1.out info_model rfl (one4m _ _ _ _ _ _ _ _ _ _) ?_)
  have HX2 := Lib.hid (HX1.out.mrow #[.slice B1 zs.length d1, .int .i64 cnt, .slice B2 bs.length d2, .slice B3 (([] : List Wtr)).length d3])
  have HW2 := Lib.hid (HW1.out.mrowO (b := w.heap.size) (by omega) #[.slice B1 zs.length d1, .int .i64 cnt, .slice B2 bs.length d2, .slice B3 (([] : List Wtr)).length d3])
  have HR2 := Lib.hid (HR1.out.mrowO (b := w.heap.size) (by omega) #[.slice B1 zs.length d1, .int .i64 cnt, .slice B2 bs.length d2, .slice B3 (([] : List Wtr)).length d3])
  have HB2 := Lib.hid (below_setRow HB1.out (Nat.le_refl _) #[.slice B1 zs.length d1, .int .i64 cnt, .slice B2 bs.length d2, .slice B3 (([] : List Wtr)).length d3])
  have HO2 := Lib.hid (HO1.out.row (k := w.heap.size) (by omega) #[.slice B1 zs.length d1, .int .i64 cnt, .slice B2 bs.length d2, .slice B3 (([] : List Wtr)).length d3])
  generalize w1.setRow w.heap.size #[.slice B1 zs.length d1, .int .i64 cnt, .slice B2 bs.length d2, .slice B3 (([] : List Wtr)).length d3] = w2 at HX2 HW2 HR2 HB2 HO2 ⊢
  have hz2 : w.heap.size + 1 + 1 < w2.heap.size := HR2.out.lt
  have hy2 : w.heap.size < w2.heap.size := by omega
  have hy2' : w.heap.size + 1 < w2.heap.size := by omega
  clear HX1 HW1 HR1 HB1 HO1
  obtain ⟨j0, hj, hy0, hy1, hy2⟩ := infoW
  have Hj := Lib.hid hj; have Hy0 := Lib.hid hy0; have Hy1 := Lib.hid hy1; have Hy2 := Lib.hid hy2
  clear hj hy0 hy1 hy2
  have hx := HX2.out.cell; have hf := HX2.out.mfroz
  have hw := HW2.out.cell
  go_wp2_with (at_builtin; refine wpList_append_rows Wtr.len (by decide) Wtr.one _ rfl (.tmp 65) (.tmp 67) 29 rfl (w.heap.size + 1 + 1 + 1) 35 j0 (.agg #[.int .i64 0, .int .i64 0, .int .i64 0]) 24 Try.underlying29 Hj.out Hy0.out Hy1.out Hy2.out rfl _ ([] : List Wtr) rfl (own_below HO2.out.of (below_alloc _ _)) (some ⟨w2.heap.size, 0, none⟩) 1 [⟨th, 3, arg⟩] rfl (.inr ⟨w2.heap.size, 0, rfl, fun j v hj => by rw [Nat.zero_add, (BoxC.new 35 w2 #[.int .i64 th, .int .i64 3, .int .i64 arg]).cell j]; simpa [flatV, Wtr.cs] using hj⟩) ?_ ?_ (by simp <;> omega) ?_)
  · show ((([] : List Wtr)).length + 1) * _ ≤ _; omega
  · show (([] : List Wtr)).length + 1 ≤ maxLen; unfold maxLen; omega
  intro F f w3 hown hgr
  have hlo : ∀ q, (Value.slice B3 (([] : List Wtr)).length d3).ownBlock = some q → w.heap.size + 1 + 1 + 1 ≤ q := fun q hq => (World.ownsRow.lt HO2.out.of q hq).1
  have hbl := below_alloc w2 (.cells #[.int .i64 th, .int .i64 3, .int .i64 arg] 35)
  have HX3 := Lib.hid ((HX2.out.below hbl).mgrown hgr (ne_own hlo (by omega)))
  have HR3 := Lib.hid ((HR2.out.below hbl).mgrown hgr (ne_own hlo (by omega)))
  have HB3 := Lib.hid ((below_trans HB2.out hbl).grown hgr (below_trans HB2.out hbl).size (fun q hq => by have := hlo q hq; omega))
  have HA3 := Lib.hid (SegC.keptD (n := zs.length) (c := d1) (SegC.below (SegC.ofI HO2.out.st) hbl) hgr HO2.out.d13)
  have HT3 := Lib.hid (SegC.keptD (n := bs.length) (c := d2) (SegC.below (SegC.ofW HO2.out.wt) hbl) hgr HO2.out.d23)
  have HC3 : Hid (SegC (w.heap.size + 1 + 1 + 1) w3 F (flatV Wtr.cs ([⟨th, 3, arg⟩] : List Wtr))) := Lib.hid (SegC.ofW (c := f) (by first | exact hown | (unfold OwnR; simpa using hown)))
  clear hown hgr hbl hlo hx hw HX2 HW2 HR2 HB2 HO2
  have hf := HX3.out.mfroz; have hx := HX3.out.cell
  go_upto_region 14 with fail
  have HX4 : Hid (BoxC 31 (w3.setCell ⟨w.heap.size, 3, none⟩ (.slice F (([⟨th, 3, arg⟩] : List Wtr)).length f)) w.heap.size #[.slice B1 zs.length d1, .int .i64 cnt, .slice B2 bs.length d2, .slice F (([⟨th, 3, arg⟩] : List Wtr)).length f]) := Lib.hid (HX3.out.mset 3 _)
  have HR4 := Lib.hid (HR3.out.msetO ⟨w.heap.size, 3, none⟩ (.slice F (([⟨th, 3, arg⟩] : List Wtr)).length f) (by simp <;> omega))
  have HB4 := Lib.hid (HB3.out.setCell (p := ⟨w.heap.size, 3, none⟩) (Nat.le_refl _) (.slice F (([⟨th, 3, arg⟩] : List Wtr)).length f))
  have HA4 := Lib.hid (HA3.out.low (k := w.heap.size) (o := 3) (by omega) (.slice F (([⟨th, 3, arg⟩] : List Wtr)).length f))
  have HT4 := Lib.hid (HT3.out.low (k := w.heap.size) (o := 3) (by omega) (.slice F (([⟨th, 3, arg⟩] : List Wtr)).length f))
  have HC4 := Lib.hid (HC3.out.low (k := w.heap.size) (o := 3) (by omega) (.slice F (([⟨th, 3, arg⟩] : List Wtr)).length f))
  generalize w3.setCell ⟨w.heap.size, 3, none⟩ (.slice F (([⟨th, 3, arg⟩] : List Wtr)).length f) = w4 at HX4 HR4 HB4 HA4 HT4 HC4 ⊢
  clear hf hx HX3 HR3 HB3 HA3 HT3 HC3
  have hx := HX4.out.cell; have hf := HX4.out.mfroz
  go_wp2_with (refine wpList_store_row rfl 31 _ _ rfl (w.heap.size + 1 + 1) _ rfl rfl 31 _ HR4.out info_model rfl (one4m _ _ _ _ _ _ _ _ _ _) ?_)
  have hr := (HR4.out.mrow #[.slice B1 zs.length d1, .int .i64 cnt, .slice B2 bs.length d2, .slice F (([⟨th, 3, arg⟩] : List Wtr)).length f]).cell
  have hb' := below_setRow HB4.out (Nat.le_trans (Nat.le_succ _) (Nat.le_succ _) : w.heap.size ≤ w.heap.size + 1 + 1) #[.slice B1 zs.length d1, .int .i64 cnt, .slice B2 bs.length d2, .slice F (([⟨th, 3, arg⟩] : List Wtr)).length f]
  have hsA := SegC.base (b1 := w.heap.size) (SegC.row (n := zs.length) (c := d1) HA4.out (k := w.heap.size + 1 + 1) (by omega) #[.slice B1 zs.length d1, .int .i64 cnt, .slice B2 bs.length d2, .slice F (([⟨th, 3, arg⟩] : List Wtr)).length f]) (by omega)
  have hsB := SegC.base (b1 := w.heap.size) (SegC.row (n := bs.length) (c := d2) HT4.out (k := w.heap.size + 1 + 1) (by omega) #[.slice B1 zs.length d1, .int .i64 cnt, .slice B2 bs.length d2, .slice F (([⟨th, 3, arg⟩] : List Wtr)).length f]) (by omega)
  have hsO := SegC.base (b1 := w.heap.size) (SegC.row (n := (([⟨th, 3, arg⟩] : List Wtr)).length) (c := f) HC4.out (k := w.heap.size + 1 + 1) (by omega) #[.slice B1 zs.length d1, .int .i64 cnt, .slice B2 bs.length d2, .slice F (([⟨th, 3, arg⟩] : List Wtr)).length f]) (by omega)
  generalize w4.setRow (w.heap.size + 1 + 1) #[.slice B1 zs.length d1, .int .i64 cnt, .slice B2 bs.length d2, .slice F (([⟨th, 3, arg⟩] : List Wtr)).length f] = w9 at hr hb' hsA hsB hsO ⊢
  clear hx hf
  refine bodyPost_ret (v := .tuple #[.agg #[.slice B1 zs.length d1, .int .i64 cnt, .slice B2 bs.length d2, .slice F (([⟨th, 3, arg⟩] : List Wtr)).length f], .bool false, .int .i64 0, .int .i64 0, .int .i64 (-1)]) (by simp [results, Try.results51, go_sem, hr]) rfl ⟨B1, d1, B2, d2, F, f, rfl, hsA, hsB, hsO, hb'⟩

end Go.Proofs.Ythianfhfamkcmaa
