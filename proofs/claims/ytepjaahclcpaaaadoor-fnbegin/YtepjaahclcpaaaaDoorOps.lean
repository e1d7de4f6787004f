/-
  The table of the words of calls (chapter 3), as the row lists it; OpWord, OpOf, the program's and the model's.
-/
import Derived.Test.YtepjaahclcpaaaaDoorTh
import Derived.OpenShut
import Derived.LaidLaws
import Derived.OpenVars
import Derived.MakeChecks
namespace Go.Proofs.YtepjaahclcpaaaaDoor
open Go.RowKit

theorem ret_str {a b : ByteArray} (h : a = b) : Ending.returned (.string a) = .returned (.string b) := by rw [h]
theorem str_ne {x s : ByteArray} (h : x ≠ s) : (x.toList == s.toList) = false := by
  rw [beq_eq_false_iff_ne, ByteArray.toList_eq, ByteArray.toList_eq]
  exact fun e => h (ByteArray.ext (Array.toList_inj.mp e))

/-- The words of the six calls. -/
def opList : List (List UInt8) := [[], [112, 117, 116], [116, 97, 107, 101], [115, 119, 97, 112], [112, 117, 115, 104], [112, 111, 112], [99, 111, 117, 110, 116]]
/-- The word at a place, as a text. -/
def opStr (k : Nat) : ByteArray := ⟨(opList.getD k []).toArray⟩
def opCells : Array Value := #[.string (opStr 0), .string (opStr 1), .string (opStr 2), .string (opStr 3), .string (opStr 4), .string (opStr 5), .string (opStr 6)]
theorem op_all {k : Nat} (h : k < 7) : k = 0 ∨ k = 1 ∨ k = 2 ∨ k = 3 ∨ k = 4 ∨ k = 5 ∨ k = 6 := by omega
theorem opCells_get (k : Nat) (h : k < 7) : opCells[k]? = some (.string (opStr k)) := by
  rcases op_all h with rfl | rfl | rfl | rfl | rfl | rfl | rfl
  all_goals rfl
/-- The table, as its block holds it, whole. -/
def opTab (w : World) : Prop := ∃ t fr, w.heap[(0 : Nat)]? = some (.cells opCells t fr)
theorem opTab.cell {w : World} (h : opTab w) (k : Nat) (hk : k < 7) : w.cell? ⟨0, k, none⟩ = some (.string (opStr k)) := by
  obtain ⟨t, fr, h⟩ := h
  rw [cell_of_row w 0 k opCells t fr h]
  exact opCells_get k hk
theorem opTab.below {w w' : World} (h : opTab w) (hb : Below w.heap.size w w') : opTab w' := by
  obtain ⟨t, fr, hg⟩ := h
  refine ⟨t, fr, ?_⟩
  rw [hb.block 0 ?_]
  · exact hg
  · rcases Nat.lt_or_ge 0 w.heap.size with hlt | hge
    · exact hlt
    · rw [Array.getElem?_eq_none hge] at hg; cases hg
theorem op_index (k : Nat) (h : k < 7) (w : World) : (Instr.index 47 (.agg opCells) (.int .i64 (k : Int))).run Tryd.prog w = .ok (.string (opStr k)) w := by
  rcases op_all h with rfl | rfl | rfl | rfl | rfl | rfl | rfl
  all_goals kernel_rfl

/-- What the list of the row gives: the variable's block holds the table whole. -/
theorem op_table {W : World} (h : laidMetH Tryd.prog [("loop.example/g00624/impl.opWords", Rows.laid_loop_example_g00624_impl_opWords)] W) : opTab W := by
  rw [MakeChecks.laidMetH_plain _ _ _ (by kernel_rfl)] at h
  obtain ⟨ps, ⟨g, t, cs, fuel, p, q, hg, ht, hv, hd, _, _⟩, _, _⟩ := h
  obtain rfl := Option.some.inj ((show Tryd.prog.globalNamed "loop.example/g00624/impl.opWords" = some 0 by kernel_rfl).symm.trans hg)
  obtain rfl := Option.some.inj ((show (Tryd.prog.globals[(0 : Nat)]?).map (·.type) = some 47 by kernel_rfl).symm.trans ht)
  have c9 : Tryd.prog.cellsOf 9 = 1 := by kernel_rfl
  have c27 : Tryd.prog.cellsOf 47 = 7 := by kernel_rfl
  obtain ⟨xs, m, _, ex, hlen, hl, hel⟩ := DataW.trod_array Tryd.underlying47 hd
  rw [c27] at hlen
  have hcs : cs = opCells := by
    apply Array.ext_getElem?
    intro i
    by_cases hi : i < 7
    · have k0 := hel i hi
      rw [c9, Nat.mul_one] at k0
      have hx : i < xs.length := by omega
      rw [List.getElem?_eq_getElem hx] at k0
      obtain ⟨z, a0, b0, _⟩ := DataW.trod_string Tryd.underlying9 k0
      have h1 : cs[i]? = some (.string z) := by
        have := congrArg (·[0]?) a0
        simpa [List.getElem?_take, List.getElem?_drop] using this
      have h2 : (xs.map (·.1))[i]? = some (.lit (.string z.data.toList)) := by
        rw [List.getElem?_map, List.getElem?_eq_getElem hx, b0]; rfl
      have e3 := (DataW.agg.inj (Prod.mk.inj ex).1)
      rw [← e3] at h2
      rw [h1, opCells_get i hi]
      have h3 : ((opList.map fun l => (DataW.lit (.string l) : DataW Unit))[i]?) = some (.lit (.string z.data.toList)) := h2
      rw [List.getElem?_map] at h3
      obtain ⟨l, hl', hl2⟩ := Option.map_eq_some_iff.1 h3
      simp only [DataW.lit.injEq, Lit.string.injEq] at hl2
      congr 2
      apply ByteArray.ext
      show z.data = (opList.getD i []).toArray
      rw [List.getD, hl', Option.getD_some, hl2]
    · rw [Array.getElem?_eq_none (by have : cs.size = 7 := by simpa using hlen
                                     omega), Array.getElem?_eq_none (by show 7 ≤ i; omega)]
  subst hcs
  unfold World.var? at hv
  simp only [show Tryd.prog.globalNamed "loop.example/g00624/impl.opWords" = some 0 by kernel_rfl, Option.bind_some] at hv
  split at hv
  · rename_i c t fr hb
    simp only [Option.some.injEq] at hv
    subst hv
    exact ⟨t, fr, hb⟩
  · cases hv

def opText (n : Int) : ByteArray := if opB n = true then opStr n.toNat else ⟨#[]⟩
def opCode (n : Int) : Int := if opB n = true then 0 else 4
theorem six {n : Int} (h : 1 ≤ n ∧ n ≤ 6) : n = 1 ∨ n = 2 ∨ n = 3 ∨ n = 4 ∨ n = 5 ∨ n = 6 := by omega
theorem ret_strint {a b : ByteArray} {c d : Int} (h : a = b) (h' : c = d) : Ending.returned (.tuple #[.string a, .int .i64 c]) = .returned (.tuple #[.string b, .int .i64 d]) := by rw [h, h']

set_option maxHeartbeats 1000000 in
theorem implOpWord_any (n : Int) (w : World) (ht : opTab w) : Calls Tryd.prog 8 #[.int .i64 n] w fun e w' => e = .returned (.tuple #[.string (opText n), .int .i64 (opCode n)]) ∧ w = w' := by
  cases h : opB n
  · have HV : Hid (opText n = ⟨#[]⟩) := by unfold opText; rw [h]; rfl
    have HC : Hid (opCode n = 4) := by unfold opCode; rw [h]; rfl
    clear ht
    go_enter Tryd.func8, Tryd.ntmps8
    go_wp2_with (go_at_call 15; refine (opOK_any _ _).mono ?_; rintro e w' ⟨rfl, rfl⟩)
    go_ret2
    exact ⟨ret_strint HV.out.symm HC.out.symm, rfl⟩
  · have hb := (opB_iff n).1 h
    obtain ⟨k, rfl⟩ := Int.eq_ofNat_of_zero_le (show 0 ≤ n by omega)
    have hk : k < 7 := by omega
    have HV : Hid (opText k = opStr k) := by unfold Hid opText; rw [h, if_pos rfl, Int.toNat_natCast]
    have HC : Hid (opCode k = 0) := by unfold opCode; rw [h]; rfl
    have hc := ht.cell k hk
    clear ht hb
    go_enter Tryd.func8, Tryd.ntmps8
    go_wp2_with (go_at_call 15; refine (opOK_any _ _).mono ?_; rintro e w' ⟨rfl, rfl⟩)
    go_ret2
    exact ⟨ret_strint HV.out.symm HC.out.symm, rfl⟩

/-- The first place from k on, of n, whose word is s. -/
def firstOp (s : ByteArray) : Nat → Nat → Option Nat
  | _, 0 => none
  | k, n + 1 => if opStr k = s then some k else firstOp s (k + 1) n
/-- The call of a word: 0 of others. -/
def opOf (s : ByteArray) : Int := match firstOp s 0 7 with | some k => k | none => 0
theorem firstOp_skip {s : ByteArray} : ∀ (n k : Nat), (∀ j, j < k → opStr j ≠ s) → k ≤ n → firstOp s 0 n = firstOp s k (n - k) := by
  intro n k
  induction k with
  | zero => intro _ _; simp
  | succ k ih =>
    intro h hk
    rw [ih (fun j hj => h j (by omega)) (by omega)]
    obtain ⟨m, hm⟩ : ∃ m, n - k = m + 1 := ⟨n - k - 1, by omega⟩
    rw [hm, show n - (k + 1) = m by omega, firstOp, if_neg (h k (by omega))]
theorem opOf_hit {s : ByteArray} {k : Nat} (h : ∀ j, j < k → opStr j ≠ s) (hk : k < 7) (he : opStr k = s) : opOf s = k := by
  unfold opOf
  rw [firstOp_skip 7 k h (by omega)]
  obtain ⟨m, hm⟩ : ∃ m, 7 - k = m + 1 := ⟨7 - k - 1, by omega⟩
  rw [hm, firstOp, if_pos he]
theorem opOf_miss {s : ByteArray} (h : ∀ j, j < 7 → opStr j ≠ s) : opOf s = 0 := by
  unfold opOf
  rw [firstOp_skip 7 7 h (by omega)]
  rfl
theorem opStr_size {k : Nat} (h : k < 7) : (opStr k).size ≤ 5 := by
  rcases op_all h with rfl | rfl | rfl | rfl | rfl | rfl | rfl
  all_goals decide
theorem opStr_zero {k : Nat} (h0 : 0 < k) (h : k < 7) : opStr 0 ≠ opStr k := by
  rcases op_all h with rfl | rfl | rfl | rfl | rfl | rfl | rfl
  · omega
  all_goals decide
theorem opOf_long {s : ByteArray} (h : 65536 < s.size) : opOf s = 0 := opOf_miss fun j hj e => by have := opStr_size hj; rw [e] at this; omega
theorem opOf_hit1 {s : ByteArray} {k : Nat} (h : ∀ j, 1 ≤ j → j < k → opStr j ≠ s) (h0 : 0 < k) (hk : k < 7) (he : opStr k = s) : opOf s = k :=
  opOf_hit (fun j hj => by
    by_cases e : j = 0
    · subst e; rw [← he]; exact opStr_zero h0 hk
    · exact h j (by omega) hj) hk he
theorem opOf_miss1 {s : ByteArray} (h : ∀ j, 1 ≤ j → j < 7 → opStr j ≠ s) : opOf s = 0 := by
  by_cases e : opStr 0 = s
  · exact opOf_hit (k := 0) (fun j hj => by omega) (by omega) e
  · exact opOf_miss fun j hj => by
      by_cases e' : j = 0
      · subst e'; exact e
      · exact h j (by omega) hj
/-- Words are read back. -/
theorem opOf_opStr {k : Nat} (h0 : 0 < k) (h : k < 7) : opOf (opStr k) = k := by
  rcases op_all h with rfl | rfl | rfl | rfl | rfl | rfl | rfl
  · omega
  all_goals decide

set_option maxHeartbeats 1000000 in
theorem implOpOf_any (s : ByteArray) (w : World) (ht : opTab w) : Calls Tryd.prog 10 #[.string s] w fun e w' => e = .returned (.int .i64 (opOf s)) ∧ w = w' := by
  obtain ⟨tt, fr, hg⟩ := ht
  have HG := Lib.hid hg; clear hg
  go_enter Tryd.func10, Tryd.ntmps10
  go_wp2_with (refine wpList_load_row rfl 47 _ rfl 0 rfl tt opCells fr _ HG.out Tryd.underlying47 rfl (by kernel_rfl) ?_)
  go_loop [6] (fun i => ∃ k : Nat, k ≤ 7 ∧ i = .int .i64 k ∧ ∀ j, j < k → opStr j ≠ s) (fun i => 7 - (intOf i).toNat)
  case atStart => exact ⟨0, by omega, rfl, fun j hj => absurd hj (by omega)⟩
  case round =>
    obtain ⟨k, hk, rfl, hall⟩ := hrel
    have HL := Lib.hid hall; clear hall
    by_cases hlt : k < 7
    · have hix := fun wx => op_index k hlt wx
      generalize hx : opStr k = x at hix
      have HX := Lib.hid hx; clear hx
      by_cases he : x = s
      · have hb1 : (x.toList == s.toList) = true := by rw [he]; exact beq_self_eq_true _
        have HC := Lib.hid (opOf_hit HL.out hlt (HX.out.trans he))
        clear he
        go_wp2
        go_ret
        exact ⟨ret_int HC.out.symm, rfl⟩
      · have hb1 := str_ne he
        go_wp2
        go_round
        case rel => exact ⟨k + 1, by omega, by go_num, fun j hj => by
          by_cases e : j < k
          · exact HL.out j e
          · obtain rfl : j = k := by omega
            rw [HX.out]; exact he⟩
        case measure => simp [intOf]; omega
    · have HC := Lib.hid (opOf_miss (s := s) fun j hj => HL.out j (by omega))
      go_wp2
      go_ret
      exact ⟨ret_int HC.out.symm, rfl⟩

end Go.Proofs.YtepjaahclcpaaaaDoor
