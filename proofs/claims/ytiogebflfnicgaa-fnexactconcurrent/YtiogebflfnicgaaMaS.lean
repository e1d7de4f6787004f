/-
  Machines (chapter 9): the model's l08Open.
-/
import Derived.Test.YtiogebflfnicgaaMaP
import Derived.Test.YtiogebflfnicgaaBoxC
import Derived.Test.YtiogebflfnicgaaRowE
import Derived.Deep.DeepCutAuto
import Derived.Deep.RegionLaw
namespace Go.Proofs.Ytiogebflfnicgaa
open Go.RowKit

/-- Where a thread's first call under way is, -1 of none. -/
def openFrom (n : Nat) (k : Int) : List Cll → Int
  | [] => -1
  | c :: l => if opnB k c = true then (n : Int) else openFrom (n + 1) k l
theorem openFrom_none {k : Int} : ∀ {l : List Cll} (n : Nat), l.find? (opnB k) = none → openFrom n k l = -1
  | [], _, _ => rfl
  | c :: l, n, h => by
    rw [List.find?_cons] at h
    cases hq : opnB k c
    · rw [hq] at h
      unfold openFrom
      rw [hq, if_neg (by decide)]
      exact openFrom_none (n + 1) h
    · rw [hq] at h; cases h
theorem openFrom_some {k : Int} {d : Cll} : ∀ {l : List Cll} (n : Nat), l.find? (opnB k) = some d → ∃ i : Nat, openFrom n k l = ((n + i : Nat) : Int) ∧ l[i]? = some d
  | [], _, h => by cases h
  | c :: l, n, h => by
    rw [List.find?_cons] at h
    cases hq : opnB k c
    · rw [hq] at h
      obtain ⟨i, h1, h2⟩ := openFrom_some (n + 1) h
      refine ⟨i + 1, ?_, h2⟩
      unfold openFrom
      rw [hq, if_neg (by decide), h1]
      congr 1; omega
    · rw [hq] at h
      refine ⟨0, ?_, by simpa using h⟩
      unfold openFrom
      rw [hq, if_pos rfl]; rfl
theorem drop_atS {α : Type} {l : List α} {k : Nat} {x : α} (h : l[k]? = some x) : l.drop k = x :: l.drop (k + 1) := by
  have hk : k < l.length := (List.getElem?_eq_some_iff.1 h).1
  rw [List.drop_eq_getElem_cons hk]
  congr 1
  have := List.getElem?_eq_getElem hk
  rw [this] at h
  exact Option.some.inj h
theorem openFrom_yes {n : Nat} {k : Int} {c : Cll} {l : List Cll} (h : opnB k c = true) : openFrom n k (c :: l) = n := if_pos h
theorem openFrom_no {n : Nat} {k : Int} {c : Cll} {l : List Cll} (h : opnB k c = false) : openFrom n k (c :: l) = openFrom (n + 1) k l := by rw [openFrom, h, if_neg (by decide)]

set_option maxHeartbeats 4000000 in
set_option maxRecDepth 100000 in
theorem l08Open_any (A T C : Option Addr) (ca ct cc : Nat) (zs : List Int) (cs : List Cll) (clk stp j : Int) (w : World) (hs : cs.length ≤ 1048576) (hC : RdR Cll.cs w C cs) :
    Calls Try.prog 112 #[.agg #[.slice A zs.length ca, .slice T 4 ct, .int .i64 clk, .int .i64 stp, .slice C cs.length cc], .int .i64 j] w fun e w' => e = .returned (.int .i64 (openFrom 0 j cs)) ∧ Below w.heap.size w w' := by
  have HC := Lib.hid hC; have HS := Lib.hid hs; clear hC hs
  go_enter Try.func112, Try.ntmps112
  go_wp2_with fail
  go_loopw [5] (fun i wr => ∃ n : Nat, n ≤ cs.length ∧ i = .int .i64 n ∧ openFrom 0 j cs = openFrom n j (cs.drop n) ∧ BoxC 64 wr w.heap.size #[.slice A zs.length ca, .slice T 4 ct, .int .i64 clk, .int .i64 stp, .slice C cs.length cc] ∧ Below w.heap.size w wr) (fun i _ => cs.length - (intOf i).toNat)
  case atStart => exact ⟨0, Nat.zero_le _, rfl, rfl, BoxC.new 64 w #[.slice A zs.length ca, .slice T 4 ct, .int .i64 clk, .int .i64 stp, .slice C cs.length cc], below_alloc _ _⟩
  case round =>
    obtain ⟨n, hn, rfl, hth, hm, hbl⟩ := hrel
    have HB := Lib.hid hbl; have HTH := Lib.hid hth; have HM := Lib.hid hm
    clear hbl hth hm
    have hm4 := HM.out.cell
    by_cases hlt : n < cs.length
    · have hlt' : (n : Int) < cs.length := by omega
      have qn : IntKind.i64.wrap ((n : Int) + 1) = (n : Int) + 1 := IntWalk.i64_in _ (by have := HS.out; omega)
      obtain ⟨x, hx⟩ : ∃ x, cs[n]? = some x := ⟨_, List.getElem?_eq_getElem hlt⟩
      obtain ⟨b, o, rfl, hrow⟩ := (HC.out.below HB.out).row Cll.len n x hx
      have HD := Lib.hid (drop_atS hx)
      clear hx
      obtain ⟨th, op, arg, fr, te, code, res⟩ := x
      obtain ⟨g0, g1, g2, g3, g4, g5, g6⟩ := cellsCall _ _ _ _ _ _ _ hrow
      clear hrow
      cases e1 : th == j
      · have HF : Hid (openFrom 0 j cs = openFrom (n + 1) j (cs.drop (n + 1))) := by unfold Hid; rw [HTH.out, HD.out]; exact openFrom_no (by show (th == j && _) = false; rw [e1]; rfl)
        go_wp2
        go_roundw
        case rel => exact ⟨n + 1, by omega, by go_num, HF.out, HM.out, HB.out⟩
        case measure => simp [intOf]; omega
      by_cases e2 : te = 0
      · subst e2
        have HF : Hid (openFrom 0 j cs = n) := by unfold Hid; rw [HTH.out, HD.out]; exact openFrom_yes (by show (th == j && ((0 : Int) == 0)) = true; rw [e1]; rfl)
        go_wp2
        go_ret
        exact ⟨ret_int HF.out.symm, HB.out⟩
      · have e3 : (te == 0) = false := by simpa using e2
        have HF : Hid (openFrom 0 j cs = openFrom (n + 1) j (cs.drop (n + 1))) := by unfold Hid; rw [HTH.out, HD.out]; exact openFrom_no (by show (th == j && (te == 0)) = false; rw [e3, Bool.and_false])
        go_wp2
        go_roundw
        case rel => exact ⟨n + 1, by omega, by go_num, HF.out, HM.out, HB.out⟩
        case measure => simp [intOf]; omega
    · have hge : ¬ (n : Int) < cs.length := by omega
      have HF : Hid (openFrom 0 j cs = -1) := by unfold Hid; rw [HTH.out, List.drop_eq_nil_of_le (by omega)]; rfl
      go_wp2
      go_ret
      exact ⟨ret_int HF.out.symm, HB.out⟩
end Go.Proofs.Ytiogebflfnicgaa
