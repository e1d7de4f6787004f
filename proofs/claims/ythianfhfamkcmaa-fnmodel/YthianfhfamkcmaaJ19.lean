/-
  Models (chapter 11): the program's ModelCall.
-/
import Derived.Test.YthianfhfamkcmaaJ18
namespace Go.Proofs.Ythianfhfamkcmaa
open Go.RowKit

theorem cellsK {w : World} {b k o : Nat} {v : Value} {cs : Array Value} (hk : ¬ k = b) (h : ∀ j : Nat, w.cell? ⟨b, j, none⟩ = cs[j]?) : ∀ j : Nat, (w.setCell ⟨k, o, none⟩ v).cell? ⟨b, j, none⟩ = cs[j]? := fun j => by
  rw [World.cell?_setCell_other _ _ _ _ (by intro e; injection e with e1; first | exact hk e1 | exact hk e1.symm)]; exact h j
theorem cellsD {w : World} {b : Nat} {cs : Array Value} (h : ∀ j : Nat, w.cell? ⟨b, j, none⟩ = cs[j]?) : ∀ j : Nat, w.drew.cell? ⟨b, j, none⟩ = cs[j]? := h
theorem SegC.low {b0 k o : Nat} {w : World} {A : Option Addr} {vs : List Value} (h : SegC b0 w A vs) (hk : k < b0) (v : Value) : SegC b0 (w.setCell ⟨k, o, none⟩ v) A vs := by
  rcases h with h | ⟨g, o', rfl, h1, hc, hf⟩
  · exact .inl h
  · exact .inr ⟨g, o', rfl, h1, fun j u hj => (World.cell?_setCell_other _ _ _ _ (by intro e; injection e with e1; omega)).trans (hc j u hj), fun j => by rw [World.frozen?_setCell]; exact hf j⟩
theorem SegC.drewG {b0 : Nat} {w : World} {A : Option Addr} {vs : List Value} (h : SegC b0 w A vs) : SegC b0 w.drew A vs := h
theorem BoxC.drewG {t : TypeId} {w : World} {k : Nat} {cs : Array Value} (h : BoxC t w k cs) : BoxC t w.drew k cs := h
/-- A slice's block lies from here on, and is there. -/
def InB (b0 : Nat) (w : World) (u : Value) : Prop := ∀ q, u.ownBlock = some q → b0 ≤ q ∧ q < w.heap.size
/-- What ModelCall answers of a right model and a right call. -/
def CallPost (w : World) (r : (Bool × Int × Int × Int) × (List Int × Int × List Wtr × List Wtr)) (e : Ending) (w' : World) : Prop :=
  ∃ A1 c1 B1 d1 O1 e1, e = .returned (.tuple #[.agg #[.slice A1 r.2.1.length c1, .int .i64 r.2.2.1, .slice B1 r.2.2.2.1.length d1, .slice O1 r.2.2.2.2.length e1], .bool r.1.1, .int .i64 r.1.2.1, .int .i64 r.1.2.2.1, .int .i64 r.1.2.2.2]) ∧
    SegC w.heap.size w' A1 (ints r.2.1) ∧ SegC w.heap.size w' B1 (flatV Wtr.cs r.2.2.2.1) ∧ SegC w.heap.size w' O1 (flatV Wtr.cs r.2.2.2.2) ∧
    Dis (.slice A1 r.2.1.length c1) (.slice B1 r.2.2.2.1.length d1) ∧ Dis (.slice A1 r.2.1.length c1) (.slice O1 r.2.2.2.2.length e1) ∧ Dis (.slice B1 r.2.2.2.1.length d1) (.slice O1 r.2.2.2.2.length e1) ∧
    r.2.1.length ≤ c1 ∧ r.2.2.2.1.length ≤ d1 ∧ r.2.2.2.2.length ≤ e1 ∧ InB w.heap.size w' (.slice A1 r.2.1.length c1) ∧ InB w.heap.size w' (.slice B1 r.2.2.2.1.length d1) ∧ InB w.heap.size w' (.slice O1 r.2.2.2.2.length e1) ∧ (A1 = none → c1 = 0) ∧ (B1 = none → d1 = 0) ∧ (O1 = none → e1 = 0) ∧ Below w.heap.size w w'
theorem NewA.capI {b0 : Nat} {w : World} {A : Option Addr} {c : Nat} {l : List Int} (h : NewA b0 w A c l) : l.length ≤ c := by
  rcases h.2 with ⟨hv, h1⟩ | ⟨g, cap, cur, hv, _, _, hk, _⟩
  · omega
  · simp only [Value.slice.injEq] at hv
    omega
theorem OwnR.capW {b0 : Nat} {w : World} {A : Option Addr} {c : Nat} {l : List Wtr} (h : OwnR Wtr.cs 3 35 b0 w A c l) : l.length ≤ c := by
  rcases h.2 with ⟨hv, h1⟩ | ⟨g, cap, cur, hv, _, _, hk, _⟩
  · omega
  · simp only [Value.slice.injEq] at hv
    omega
theorem own_nil {w : World} {base size n c k : Nat} {e : TypeId} {A : Option Addr} {xs : List Value} (h : w.ownsRow base e size (.slice A n c) k xs) : A = none → c = 0 := by
  rintro rfl
  rcases h.2 with ⟨h1, _⟩ | ⟨g, cap, cur, h1, _⟩
  · simp only [Value.slice.injEq] at h1; exact h1.2.2
  · simp at h1
/-- A copied model, laid in a block of its own, is a model under way. -/
theorem StM.of {b0 : Nat} {w w' : World} {A : Option Addr} {ca : Nat} {zs : List Int} {B : Option Addr} {cb : Nat} {bs : List Wtr} {O : Option Addr} {co : Nat} {os : List Wtr} {cnt : Int} (h : OwnO b0 w A ca zs B cb bs O co os) (hb : Below w.heap.size w w')
    (hx : BoxC 31 w' w.heap.size #[.slice A zs.length ca, .int .i64 cnt, .slice B bs.length cb, .slice O os.length co]) : StM b0 w' w.heap.size A ca zs B cb bs O co os cnt :=
  have off : ∀ {u : Value}, (∀ q, u.ownBlock = some q → q < w.heap.size) → Off w' w.heap.size u := fun hu q hq => ⟨by have := hu q hq; have := hx.lt; omega, by have := hu q hq; omega⟩
  ⟨hx, (SegC.ofI h.st).below hb, (SegC.ofW h.wt).below hb, (SegC.ofW h.of).below hb, h.d12, h.d13, h.d23,
    off fun q hq => (World.ownsRow.lt h.st q hq).2, off fun q hq => (World.ownsRow.lt h.wt q hq).2, off fun q hq => (World.ownsRow.lt h.of q hq).2, h.st.capI, OwnR.capW h.wt, OwnR.capW h.of, fun q hq => (World.ownsRow.lt h.st q hq).1, fun q hq => (World.ownsRow.lt h.wt q hq).1, fun q hq => (World.ownsRow.lt h.of q hq).1, own_nil h.st, own_nil h.wt, own_nil h.of⟩

set_option maxHeartbeats 4000000 in
set_option maxRecDepth 100000 in
theorem mcall_no1 (A B O : Option Addr) (ca cb co : Nat) (zs : List Int) (bs os : List Wtr) (cnt th op arg : Int) (w : World) (hz : zs.length ≤ 1048576) (ht : bs.length ≤ 1048576) (hc : os.length ≤ 1048576) (hA : Rd w A zs) (hT : RdR Wtr.cs w B bs) (hC : RdR Wtr.cs w O os) (qm : mdB zs cnt bs os = false) :
    Calls Try.prog 15 #[.agg #[.slice A zs.length ca, .int .i64 cnt, .slice B bs.length cb, .slice O os.length co], .agg #[.int .i64 th, .int .i64 op, .int .i64 arg]] w fun e w' => e = .returned (.tuple #[.agg #[.slice none 0 0, .int .i64 0, .slice none 0 0, .slice none 0 0], .bool false, .int .i64 1, .int .i64 0, .int .i64 0]) ∧ Below w.heap.size w w' := by
  have HA := Lib.hid hA; have HT := Lib.hid hT; have HC := Lib.hid hC; clear hA hT hC
  have HB0 := Lib.hid (below_alloc3 w (.cells #[.slice A zs.length ca, .int .i64 cnt, .slice B bs.length cb, .slice O os.length co] 31) (.cells #[.int .i64 th, .int .i64 op, .int .i64 arg] 35) (.cells #[.slice none 0 0, .int .i64 0, .slice none 0 0, .slice none 0 0] 31))
  have HX := Lib.hid ((BoxC.new 31 w #[.slice A zs.length ca, .int .i64 cnt, .slice B bs.length cb, .slice O os.length co]).below (below_alloc2 _ (.cells #[.int .i64 th, .int .i64 op, .int .i64 arg] 35) (.cells #[.slice none 0 0, .int .i64 0, .slice none 0 0, .slice none 0 0] 31)))
  have HW := Lib.hid (by have h := (BoxC.new 35 (w.alloc (.cells #[.slice A zs.length ca, .int .i64 cnt, .slice B bs.length cb, .slice O os.length co] 31)) #[.int .i64 th, .int .i64 op, .int .i64 arg]).below (below_alloc _ (.cells #[.slice none 0 0, .int .i64 0, .slice none 0 0, .slice none 0 0] 31)); rw [size_alloc] at h; exact h)
  have HR := Lib.hid (by have h := BoxC.new 31 ((w.alloc (.cells #[.slice A zs.length ca, .int .i64 cnt, .slice B bs.length cb, .slice O os.length co] 31)).alloc (.cells #[.int .i64 th, .int .i64 op, .int .i64 arg] 35)) #[.slice none 0 0, .int .i64 0, .slice none 0 0, .slice none 0 0]; rw [size_alloc, size_alloc] at h; exact h)
  go_enter Try.func15, Try.ntmps15
  have hx := HX.out.cell
  go_wp2_with fail
  refine (implModelOK_any _ _ _ _ _ _ zs bs os cnt _ hz ht hc (HA.out.below HB0.out) (HT.out.below HB0.out) (HC.out.below HB0.out)).mono ?_
  rintro e w1 ⟨rfl, hb⟩
  rw [qm]
  have HB1 := Lib.hid (below_trans HB0.out hb)
  have HX1 := Lib.hid (HX.out.below hb); have HW1 := Lib.hid (HW.out.below hb); have HR1 := Lib.hid (HR.out.below hb)
  clear hb HB0 HX HW HR hx
  go_wp2_with (refine wpList_store_row rfl 31 _ _ rfl (w.heap.size + 1 + 1) _ rfl rfl 31 _ HR1.out info_model rfl (one4m _ _ _ _ _ _ _ _ _ _) ?_)
  have hr := (HR1.out.mrow #[.slice none 0 0, .int .i64 0, .slice none 0 0, .slice none 0 0]).cell
  have hb' := below_setRow HB1.out (Nat.le_trans (Nat.le_succ _) (Nat.le_succ _) : w.heap.size ≤ w.heap.size + 1 + 1) #[.slice none 0 0, .int .i64 0, .slice none 0 0, .slice none 0 0]
  generalize w1.setRow (w.heap.size + 1 + 1) #[.slice none 0 0, .int .i64 0, .slice none 0 0, .slice none 0 0] = w9 at hr hb' ⊢
  refine bodyPost_ret (v := .tuple #[.agg #[.slice none 0 0, .int .i64 0, .slice none 0 0, .slice none 0 0], .bool false, .int .i64 1, .int .i64 0, .int .i64 0]) (by simp [results, Try.results15, go_sem, hr]) rfl ⟨rfl, hb'⟩


set_option maxHeartbeats 4000000 in
set_option maxRecDepth 100000 in
theorem mcall_no2 (A B O : Option Addr) (ca cb co : Nat) (zs : List Int) (bs os : List Wtr) (cnt th op arg : Int) (w : World) (hz : zs.length ≤ 1048576) (ht : bs.length ≤ 1048576) (hc : os.length ≤ 1048576) (hA : Rd w A zs) (hT : RdR Wtr.cs w B bs) (hC : RdR Wtr.cs w O os) (qm : mdB zs cnt bs os = true) (qw : wtB th op arg = false) :
    Calls Try.prog 15 #[.agg #[.slice A zs.length ca, .int .i64 cnt, .slice B bs.length cb, .slice O os.length co], .agg #[.int .i64 th, .int .i64 op, .int .i64 arg]] w fun e w' => e = .returned (.tuple #[.agg #[.slice none 0 0, .int .i64 0, .slice none 0 0, .slice none 0 0], .bool false, .int .i64 1, .int .i64 0, .int .i64 0]) ∧ Below w.heap.size w w' := by
  have HA := Lib.hid hA; have HT := Lib.hid hT; have HC := Lib.hid hC; clear hA hT hC
  have HB0 := Lib.hid (below_alloc3 w (.cells #[.slice A zs.length ca, .int .i64 cnt, .slice B bs.length cb, .slice O os.length co] 31) (.cells #[.int .i64 th, .int .i64 op, .int .i64 arg] 35) (.cells #[.slice none 0 0, .int .i64 0, .slice none 0 0, .slice none 0 0] 31))
  have HX := Lib.hid ((BoxC.new 31 w #[.slice A zs.length ca, .int .i64 cnt, .slice B bs.length cb, .slice O os.length co]).below (below_alloc2 _ (.cells #[.int .i64 th, .int .i64 op, .int .i64 arg] 35) (.cells #[.slice none 0 0, .int .i64 0, .slice none 0 0, .slice none 0 0] 31)))
  have HW := Lib.hid (by have h := (BoxC.new 35 (w.alloc (.cells #[.slice A zs.length ca, .int .i64 cnt, .slice B bs.length cb, .slice O os.length co] 31)) #[.int .i64 th, .int .i64 op, .int .i64 arg]).below (below_alloc _ (.cells #[.slice none 0 0, .int .i64 0, .slice none 0 0, .slice none 0 0] 31)); rw [size_alloc] at h; exact h)
  have HR := Lib.hid (by have h := BoxC.new 31 ((w.alloc (.cells #[.slice A zs.length ca, .int .i64 cnt, .slice B bs.length cb, .slice O os.length co] 31)).alloc (.cells #[.int .i64 th, .int .i64 op, .int .i64 arg] 35)) #[.slice none 0 0, .int .i64 0, .slice none 0 0, .slice none 0 0]; rw [size_alloc, size_alloc] at h; exact h)
  go_enter Try.func15, Try.ntmps15
  have hx := HX.out.cell
  go_wp2_with fail
  refine (implModelOK_any _ _ _ _ _ _ zs bs os cnt _ hz ht hc (HA.out.below HB0.out) (HT.out.below HB0.out) (HC.out.below HB0.out)).mono ?_
  rintro e w1 ⟨rfl, hb⟩
  rw [qm]
  have HB1 := Lib.hid (below_trans HB0.out hb)
  have HX1 := Lib.hid (HX.out.below hb); have HW1 := Lib.hid (HW.out.below hb); have HR1 := Lib.hid (HR.out.below hb)
  clear hb HB0 HX HW HR hx
  have hx := HW1.out.cell
  go_wp2_with fail
  refine (implWaiter_any th op arg _).mono ?_
  rintro e w2 ⟨rfl, hb⟩
  rw [qw]
  have HB2 := Lib.hid (below_trans HB1.out hb)
  have HX2 := Lib.hid (HX1.out.below hb); have HW2 := Lib.hid (HW1.out.below hb); have HR2 := Lib.hid (HR1.out.below hb)
  clear hb HB1 HX1 HW1 HR1 hx
  go_wp2_with (refine wpList_store_row rfl 31 _ _ rfl (w.heap.size + 1 + 1) _ rfl rfl 31 _ HR2.out info_model rfl (one4m _ _ _ _ _ _ _ _ _ _) ?_)
  have hr := (HR2.out.mrow #[.slice none 0 0, .int .i64 0, .slice none 0 0, .slice none 0 0]).cell
  have hb' := below_setRow HB2.out (Nat.le_trans (Nat.le_succ _) (Nat.le_succ _) : w.heap.size ≤ w.heap.size + 1 + 1) #[.slice none 0 0, .int .i64 0, .slice none 0 0, .slice none 0 0]
  generalize w2.setRow (w.heap.size + 1 + 1) #[.slice none 0 0, .int .i64 0, .slice none 0 0, .slice none 0 0] = w9 at hr hb' ⊢
  refine bodyPost_ret (v := .tuple #[.agg #[.slice none 0 0, .int .i64 0, .slice none 0 0, .slice none 0 0], .bool false, .int .i64 1, .int .i64 0, .int .i64 0]) (by simp [results, Try.results15, go_sem, hr]) rfl ⟨rfl, hb'⟩


set_option maxHeartbeats 4000000 in
set_option maxRecDepth 100000 in
theorem mcall_yes (A B O : Option Addr) (ca cb co : Nat) (zs : List Int) (bs os : List Wtr) (cnt th op arg : Int) (w : World) (hz : zs.length ≤ 1048576) (ht : bs.length ≤ 1048576) (hc : os.length ≤ 1048576) (hA : Rd w A zs) (hT : RdR Wtr.cs w B bs) (hC : RdR Wtr.cs w O os) (nA : A = none → ca = 0) (nB : B = none → cb = 0) (nO : O = none → co = 0) (hz4 : zs.length ≤ 400) (hc0 : 0 ≤ cnt) (hc1 : cnt ≤ 1000000000) (hop : opB op = true) (qm : mdB zs cnt bs os = true) (qw : wtB th op arg = true) :
    Calls Try.prog 15 #[.agg #[.slice A zs.length ca, .int .i64 cnt, .slice B bs.length cb, .slice O os.length co], .agg #[.int .i64 th, .int .i64 op, .int .i64 arg]] w fun e w' => CallPost w (doR zs cnt bs os th op arg) e w' := by
  have NA := Lib.hid nA; have NB := Lib.hid nB; have NO := Lib.hid nO; clear nA nB nO
  have HA := Lib.hid hA; have HT := Lib.hid hT; have HC := Lib.hid hC; clear hA hT hC
  have HB0 := Lib.hid (below_alloc3 w (.cells #[.slice A zs.length ca, .int .i64 cnt, .slice B bs.length cb, .slice O os.length co] 31) (.cells #[.int .i64 th, .int .i64 op, .int .i64 arg] 35) (.cells #[.slice none 0 0, .int .i64 0, .slice none 0 0, .slice none 0 0] 31))
  have HX := Lib.hid ((BoxC.new 31 w #[.slice A zs.length ca, .int .i64 cnt, .slice B bs.length cb, .slice O os.length co]).below (below_alloc2 _ (.cells #[.int .i64 th, .int .i64 op, .int .i64 arg] 35) (.cells #[.slice none 0 0, .int .i64 0, .slice none 0 0, .slice none 0 0] 31)))
  have HW := Lib.hid (by have h := (BoxC.new 35 (w.alloc (.cells #[.slice A zs.length ca, .int .i64 cnt, .slice B bs.length cb, .slice O os.length co] 31)) #[.int .i64 th, .int .i64 op, .int .i64 arg]).below (below_alloc _ (.cells #[.slice none 0 0, .int .i64 0, .slice none 0 0, .slice none 0 0] 31)); rw [size_alloc] at h; exact h)
  have HR := Lib.hid (by have h := BoxC.new 31 ((w.alloc (.cells #[.slice A zs.length ca, .int .i64 cnt, .slice B bs.length cb, .slice O os.length co] 31)).alloc (.cells #[.int .i64 th, .int .i64 op, .int .i64 arg] 35)) #[.slice none 0 0, .int .i64 0, .slice none 0 0, .slice none 0 0]; rw [size_alloc, size_alloc] at h; exact h)
  go_enter Try.func15, Try.ntmps15
  have hx := HX.out.cell
  go_wp2_with fail
  refine (implModelOK_any _ _ _ _ _ _ zs bs os cnt _ hz ht hc (HA.out.below HB0.out) (HT.out.below HB0.out) (HC.out.below HB0.out)).mono ?_
  rintro e w1 ⟨rfl, hb⟩
  rw [qm]
  have HB1 := Lib.hid (below_trans HB0.out hb)
  have HX1 := Lib.hid (HX.out.below hb); have HW1 := Lib.hid (HW.out.below hb); have HR1 := Lib.hid (HR.out.below hb)
  clear hb HB0 HX HW HR hx
  have hx := HW1.out.cell
  go_wp2_with fail
  refine (implWaiter_any th op arg _).mono ?_
  rintro e w2 ⟨rfl, hb⟩
  rw [qw]
  have HB2 := Lib.hid (below_trans HB1.out hb)
  have HX2 := Lib.hid (HX1.out.below hb); have HW2 := Lib.hid (HW1.out.below hb); have HR2 := Lib.hid (HR1.out.below hb)
  clear hb HB1 HX1 HW1 HR1 hx
  have hx := HX2.out.cell
  go_wp2_with fail
  refine (copyModel_any _ _ _ _ _ _ zs bs os cnt _ hz ht hc (HA.out.below HB2.out) (HT.out.below HB2.out) (HC.out.below HB2.out) NA.out NB.out NO.out).mono ?_
  rintro e w3 ⟨B1, d1, B2, d2, B3, d3, rfl, hO, hb⟩
  have HB3 := Lib.hid (below_trans HB2.out hb)
  have HW3 := Lib.hid (HW2.out.below hb); have HR3 := Lib.hid (HR2.out.below hb)
  have HO3 := Lib.hid hO
  have hbig : w2.heap.size ≤ w3.heap.size := hb.size
  have hlow : w.heap.size + 1 + 1 < w2.heap.size := HR2.out.lt
  clear hb hO HB2 HX2 HW2 HR2 hx
  have hy : w.heap.size + 1 + 1 < w3.heap.size := HR3.out.lt
  go_upto_region 4 with (refine wpList_store_row rfl 31 _ _ rfl w3.heap.size _ rfl rfl 31 _ (BoxC.new 31 w3 _) info_model rfl (one4m _ _ _ _ _ _ _ _ _ _) ?_)
  have hbl := below_setRow (below_alloc w3 (.cells #[.slice none 0 0, .int .i64 0, .slice none 0 0, .slice none 0 0] 31)) (Nat.le_refl _) #[.slice B1 zs.length d1, .int .i64 cnt, .slice B2 bs.length d2, .slice B3 os.length d3]
  have hS := StM.of HO3.out hbl ((BoxC.new 31 w3 #[.slice none 0 0, .int .i64 0, .slice none 0 0, .slice none 0 0]).mrow _)
  generalize (w3.alloc (.cells #[.slice none 0 0, .int .i64 0, .slice none 0 0, .slice none 0 0] 31)).setRow w3.heap.size #[.slice B1 zs.length d1, .int .i64 cnt, .slice B2 bs.length d2, .slice B3 os.length d3] = w4 at hbl hS ⊢
  have HB4 := Lib.hid (below_trans HB3.out hbl)
  have HW4 := Lib.hid (HW3.out.below hbl); have HR4 := Lib.hid (HR3.out.below hbl)
  have HS4 := Lib.hid hS
  have hz4' : w2.heap.size ≤ w4.heap.size := Nat.le_trans (Nat.le_of_lt (Nat.lt_of_le_of_lt hbig hS.bx.lt)) (Nat.le_refl _)
  generalize w3.heap.size = km at hS HS4 hy ⊢
  clear hbl hS HB3 HW3 HR3 HO3
  have hx := HW4.out.cell
  go_wp2_with fail
  refine (doM_any w2.heap.size km _ _ _ _ _ _ zs bs os cnt th op arg w4 HS4.out hz4' hz4 ht hc hc0 hc1 hop).mono ?_
  generalize hrr : doR zs cnt bs os th op arg = r
  rintro e w5 ⟨F1, f1, F2, f2, F3, f3, rfl, hS, hg⟩
  have HG5 := Lib.hid hg
  have HS5 := Lib.hid hS
  have HW5 := Lib.hid (HW4.out.mgrown hg (by simp <;> omega)); have HR5 := Lib.hid (HR4.out.mgrown hg (by simp <;> omega))
  have HB5 : Hid (Below w.heap.size w w5) := Lib.hid (HB4.out.grown hg HB4.out.size (by intro q hq; cases hq; omega))
  clear hg hS HW4 HR4 HS4 HB4 hx
  have hy5 : km < w5.heap.size := HS5.out.bx.lt
  go_upto_region 5 with (refine wpList_store_row rfl 86 _ _ rfl w5.heap.size _ rfl rfl 86 _ (BoxC.new 86 w5 _) info_out rfl (one4o _ _ _ _) ?_)
  have hbl := below_setRow (below_alloc w5 (.cells #[.bool false, .int .i64 0, .int .i64 0, .int .i64 0] 86)) (Nat.le_refl _) #[.bool r.1.1, .int .i64 r.1.2.1, .int .i64 r.1.2.2.1, .int .i64 r.1.2.2.2]
  have hO := (BoxC.new 86 w5 #[.bool false, .int .i64 0, .int .i64 0, .int .i64 0]).mrow #[.bool r.1.1, .int .i64 r.1.2.1, .int .i64 r.1.2.2.1, .int .i64 r.1.2.2.2]
  generalize (w5.alloc (.cells #[.bool false, .int .i64 0, .int .i64 0, .int .i64 0] 86)).setRow w5.heap.size #[.bool r.1.1, .int .i64 r.1.2.1, .int .i64 r.1.2.2.1, .int .i64 r.1.2.2.2] = w6 at hbl hO ⊢
  have HB6 := Lib.hid (below_trans HB5.out hbl)
  have HR6 := Lib.hid (HR5.out.below hbl)
  have HS6 := Lib.hid (HS5.out.below hbl)
  generalize w5.heap.size = ko at hO hy5 ⊢
  clear hbl HG5 HS5 HW5 HR5 HB5
  have hs := HS6.out.bx.cell; have ho := hO.cell; have hr := HR6.out.cell; have hf := HR6.out.mfroz
  have hk1 : ¬ w.heap.size + 1 + 1 = km := by omega
  have hk2 : ¬ w.heap.size + 1 + 1 = ko := by omega
  go_wp2_with fail
  go_region_held3 (fun w' => (∀ j : Nat, w'.cell? ⟨km, j, none⟩ = (#[.slice F1 r.2.1.length f1, .int .i64 r.2.2.1, .slice F2 r.2.2.2.1.length f2, .slice F3 r.2.2.2.2.length f3] : Array Value)[j]?) ∧ (∀ j : Nat, w'.cell? ⟨ko, j, none⟩ = (#[.bool r.1.1, .int .i64 r.1.2.1, .int .i64 r.1.2.2.1, .int .i64 r.1.2.2.2] : Array Value)[j]?))
    (first | exact ⟨hs, ho⟩ | (refine ⟨?_, ?_⟩ <;> (repeat (first | (with_reducible refine cellsK (by assumption) ?_) | (with_reducible refine cellsD ?_))) <;> assumption))
    (first | fail)
  have hB7 : Below w.heap.size w ((((w6.setCell ⟨w.heap.size + 1 + 1, 0, none⟩ (.slice F1 r.2.1.length f1)).setCell ⟨w.heap.size + 1 + 1, 1, none⟩ (.int .i64 r.2.2.1)).setCell ⟨w.heap.size + 1 + 1, 2, none⟩ (.slice F2 r.2.2.2.1.length f2)).setCell ⟨w.heap.size + 1 + 1, 3, none⟩ (.slice F3 r.2.2.2.2.length f3)).drew := by
    refine Below.drew ?_
    repeat (refine Below.setCell ?_ (by simp <;> omega) _)
    exact HB6.out
  have hR7 : BoxC 31 ((((w6.setCell ⟨w.heap.size + 1 + 1, 0, none⟩ (.slice F1 r.2.1.length f1)).setCell ⟨w.heap.size + 1 + 1, 1, none⟩ (.int .i64 r.2.2.1)).setCell ⟨w.heap.size + 1 + 1, 2, none⟩ (.slice F2 r.2.2.2.1.length f2)).setCell ⟨w.heap.size + 1 + 1, 3, none⟩ (.slice F3 r.2.2.2.2.length f3)).drew (w.heap.size + 1 + 1) #[.slice F1 r.2.1.length f1, .int .i64 r.2.2.1, .slice F2 r.2.2.2.1.length f2, .slice F3 r.2.2.2.2.length f3] := BoxC.drewG ((((HR6.out.mset 0 _).mset 1 _).mset 2 _).mset 3 _)
  have hA7 := SegC.drewG ((((HS6.out.sA.low (o := 0) hlow (.slice F1 r.2.1.length f1)).low (o := 1) hlow (.int .i64 r.2.2.1)).low (o := 2) hlow (.slice F2 r.2.2.2.1.length f2)).low (o := 3) hlow (.slice F3 r.2.2.2.2.length f3))
  have hT7 := SegC.drewG ((((HS6.out.sB.low (o := 0) hlow (.slice F1 r.2.1.length f1)).low (o := 1) hlow (.int .i64 r.2.2.1)).low (o := 2) hlow (.slice F2 r.2.2.2.1.length f2)).low (o := 3) hlow (.slice F3 r.2.2.2.2.length f3))
  have hO7 := SegC.drewG ((((HS6.out.sO.low (o := 0) hlow (.slice F1 r.2.1.length f1)).low (o := 1) hlow (.int .i64 r.2.2.1)).low (o := 2) hlow (.slice F2 r.2.2.2.1.length f2)).low (o := 3) hlow (.slice F3 r.2.2.2.2.length f3))
  have hs7 : (((((w6.setCell ⟨w.heap.size + 1 + 1, 0, none⟩ (.slice F1 r.2.1.length f1)).setCell ⟨w.heap.size + 1 + 1, 1, none⟩ (.int .i64 r.2.2.1)).setCell ⟨w.heap.size + 1 + 1, 2, none⟩ (.slice F2 r.2.2.2.1.length f2)).setCell ⟨w.heap.size + 1 + 1, 3, none⟩ (.slice F3 r.2.2.2.2.length f3)).drew).heap.size = w6.heap.size := by rw [show (((((w6.setCell ⟨w.heap.size + 1 + 1, 0, none⟩ (.slice F1 r.2.1.length f1)).setCell ⟨w.heap.size + 1 + 1, 1, none⟩ (.int .i64 r.2.2.1)).setCell ⟨w.heap.size + 1 + 1, 2, none⟩ (.slice F2 r.2.2.2.1.length f2)).setCell ⟨w.heap.size + 1 + 1, 3, none⟩ (.slice F3 r.2.2.2.2.length f3)).drew).heap.size = (((((w6.setCell ⟨w.heap.size + 1 + 1, 0, none⟩ (.slice F1 r.2.1.length f1)).setCell ⟨w.heap.size + 1 + 1, 1, none⟩ (.int .i64 r.2.2.1)).setCell ⟨w.heap.size + 1 + 1, 2, none⟩ (.slice F2 r.2.2.2.1.length f2)).setCell ⟨w.heap.size + 1 + 1, 3, none⟩ (.slice F3 r.2.2.2.2.length f3))).heap.size from rfl, size_setc2, size_setc2, size_setc2, size_setc2]
  generalize ((((w6.setCell ⟨w.heap.size + 1 + 1, 0, none⟩ (.slice F1 r.2.1.length f1)).setCell ⟨w.heap.size + 1 + 1, 1, none⟩ (.int .i64 r.2.2.1)).setCell ⟨w.heap.size + 1 + 1, 2, none⟩ (.slice F2 r.2.2.2.1.length f2)).setCell ⟨w.heap.size + 1 + 1, 3, none⟩ (.slice F3 r.2.2.2.2.length f3)).drew = w7 at hs7 hB7 hR7 hA7 hT7 hO7 ⊢
  have HF := Lib.hid (And.intro hB7 (And.intro hA7 (And.intro hT7 hO7)))
  have hr7 := hR7.cell
  clear hs ho hr hf hO hB7 hA7 hT7 hO7
  go_wp2_with fail
  refine bodyPost_ret (v := .tuple #[.agg #[.slice F1 r.2.1.length f1, .int .i64 r.2.2.1, .slice F2 r.2.2.2.1.length f2, .slice F3 r.2.2.2.2.length f3], .bool r.1.1, .int .i64 r.1.2.1, .int .i64 r.1.2.2.1, .int .i64 r.1.2.2.2]) (by simp [results, Try.results15, go_sem, hr7]) rfl ?_
  subst hrr
  exact ⟨F1, f1, F2, f2, F3, f3, rfl, HF.out.2.1.base (by omega), HF.out.2.2.1.base (by omega), HF.out.2.2.2.base (by omega), HS6.out.d12, HS6.out.d13, HS6.out.d23, HS6.out.kA, HS6.out.kB, HS6.out.kO, fun q hq => by have := HS6.out.lA q hq; have := HS6.out.bA q hq; omega, fun q hq => by have := HS6.out.lB q hq; have := HS6.out.bB q hq; omega, fun q hq => by have := HS6.out.lO q hq; have := HS6.out.bO q hq; omega, HS6.out.nA, HS6.out.nB, HS6.out.nO, HF.out.1⟩
end Go.Proofs.Ythianfhfamkcmaa
