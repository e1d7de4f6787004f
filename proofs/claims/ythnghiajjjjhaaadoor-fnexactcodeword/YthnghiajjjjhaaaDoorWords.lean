/-
  The table of the words of codes (chapter 1), as the row lists it; CodeWord, the program's and the model's.
-/
import Derived.Test.YthnghiajjjjhaaaDoorTh
import Derived.OpenShut
import Derived.LaidLaws
import Derived.OpenVars
import Derived.MakeChecks
namespace Go.Proofs.YthnghiajjjjhaaaDoor
open Go.RowKit

theorem ret_str {a b : ByteArray} (h : a = b) : Ending.returned (.string a) = .returned (.string b) := by rw [h]
theorem str_ne {x s : ByteArray} (h : x ≠ s) : (x.toList == s.toList) = false := by
  rw [beq_eq_false_iff_ne, ByteArray.toList_eq, ByteArray.toList_eq]
  exact fun e => h (ByteArray.ext (Array.toList_inj.mp e))

/-- The words of the twenty codes. -/
def wordList : List (List UInt8) := [[111, 107], [98, 97, 100], [108, 111, 110, 103], [102, 111, 114, 109], [114, 97, 110, 103, 101], [110, 111, 110, 101], [109, 97, 110, 121], [102, 117, 108, 108], [115, 105, 122, 101], [98, 117, 115, 121], [105, 100, 108, 101], [112, 97, 114, 107, 101, 100], [116, 105, 109, 101, 111, 117, 116], [99, 97, 110, 99, 101, 108, 108, 101, 100], [101, 109, 112, 116, 121], [114, 101, 97, 100, 121], [111, 114, 100, 101, 114], [112, 97, 105, 114], [111, 112, 101, 110], [115, 116, 117, 99, 107]]
/-- The word at a place, as a text. -/
def wordStr (k : Nat) : ByteArray := ⟨(wordList.getD k []).toArray⟩
def wordCells : Array Value := #[.string (wordStr 0), .string (wordStr 1), .string (wordStr 2), .string (wordStr 3), .string (wordStr 4), .string (wordStr 5), .string (wordStr 6), .string (wordStr 7), .string (wordStr 8), .string (wordStr 9), .string (wordStr 10), .string (wordStr 11), .string (wordStr 12), .string (wordStr 13), .string (wordStr 14), .string (wordStr 15), .string (wordStr 16), .string (wordStr 17), .string (wordStr 18), .string (wordStr 19)]
theorem word_all {k : Nat} (h : k < 20) : k = 0 ∨ k = 1 ∨ k = 2 ∨ k = 3 ∨ k = 4 ∨ k = 5 ∨ k = 6 ∨ k = 7 ∨ k = 8 ∨ k = 9 ∨ k = 10 ∨ k = 11 ∨ k = 12 ∨ k = 13 ∨ k = 14 ∨ k = 15 ∨ k = 16 ∨ k = 17 ∨ k = 18 ∨ k = 19 := by omega
theorem wordCells_get (k : Nat) (h : k < 20) : wordCells[k]? = some (.string (wordStr k)) := by
  rcases word_all h with rfl | rfl | rfl | rfl | rfl | rfl | rfl | rfl | rfl | rfl | rfl | rfl | rfl | rfl | rfl | rfl | rfl | rfl | rfl | rfl
  all_goals rfl
/-- The table, as its block holds it, whole. -/
def wordTab (w : World) : Prop := ∃ t fr, w.heap[(1 : Nat)]? = some (.cells wordCells t fr)
theorem wordTab.cell {w : World} (h : wordTab w) (k : Nat) (hk : k < 20) : w.cell? ⟨1, k, none⟩ = some (.string (wordStr k)) := by
  obtain ⟨t, fr, h⟩ := h
  rw [cell_of_row w 1 k wordCells t fr h]
  exact wordCells_get k hk
theorem wordTab.below {w w' : World} (h : wordTab w) (hb : Below w.heap.size w w') : wordTab w' := by
  obtain ⟨t, fr, hg⟩ := h
  refine ⟨t, fr, ?_⟩
  rw [hb.block 1 ?_]
  · exact hg
  · rcases Nat.lt_or_ge 1 w.heap.size with hlt | hge
    · exact hlt
    · rw [Array.getElem?_eq_none hge] at hg; cases hg
theorem word_index (k : Nat) (h : k < 20) (w : World) : (Instr.index 51 (.agg wordCells) (.int .i64 (k : Int))).run Tryd.prog w = .ok (.string (wordStr k)) w := by
  rcases word_all h with rfl | rfl | rfl | rfl | rfl | rfl | rfl | rfl | rfl | rfl | rfl | rfl | rfl | rfl | rfl | rfl | rfl | rfl | rfl | rfl
  all_goals kernel_rfl

/-- What the list of the row gives: the variable's block holds the table whole. -/
theorem word_table {W : World} (h : laidMetH Tryd.prog [("loop.example/g00624/impl.codeWords", Rows.laid_loop_example_g00624_impl_codeWords)] W) : wordTab W := by
  rw [MakeChecks.laidMetH_plain _ _ _ (by kernel_rfl)] at h
  obtain ⟨ps, ⟨g, t, cs, fuel, p, q, hg, ht, hv, hd, _, _⟩, _, _⟩ := h
  obtain rfl := Option.some.inj ((show Tryd.prog.globalNamed "loop.example/g00624/impl.codeWords" = some 1 by kernel_rfl).symm.trans hg)
  obtain rfl := Option.some.inj ((show (Tryd.prog.globals[(1 : Nat)]?).map (·.type) = some 51 by kernel_rfl).symm.trans ht)
  have c9 : Tryd.prog.cellsOf 9 = 1 := by kernel_rfl
  have c27 : Tryd.prog.cellsOf 51 = 20 := by kernel_rfl
  obtain ⟨xs, m, _, ex, hlen, hl, hel⟩ := DataW.trod_array Tryd.underlying51 hd
  rw [c27] at hlen
  have hcs : cs = wordCells := by
    apply Array.ext_getElem?
    intro i
    by_cases hi : i < 20
    · have k0 := hel i hi
      rw [c9, Nat.mul_one] at k0
      have hx : i < xs.length := by omega
      rw [List.getElem?_eq_getElem hx] at k0
      obtain ⟨z, a0, b0, _⟩ := DataW.trod_string Tryd.underlying9 k0
      have h1 : cs[i]? = some (.string z) := by
        have := congrArg (·[0]?) a0
        simpa [List.getElem?_take, List.getElem?_drop] using this
      have h2 : (xs.map (·.1))[i]? = some (.lit (.string z.data.toList)) := by
        rw [List.getElem?_map, List.getElem?_eq_getElem hx, b0]; rfl
      have e3 := (DataW.agg.inj (Prod.mk.inj ex).1)
      rw [← e3] at h2
      rw [h1, wordCells_get i hi]
      have h3 : ((wordList.map fun l => (DataW.lit (.string l) : DataW Unit))[i]?) = some (.lit (.string z.data.toList)) := h2
      rw [List.getElem?_map] at h3
      obtain ⟨l, hl', hl2⟩ := Option.map_eq_some_iff.1 h3
      simp only [DataW.lit.injEq, Lit.string.injEq] at hl2
      congr 2
      apply ByteArray.ext
      show z.data = (wordList.getD i []).toArray
      rw [List.getD, hl', Option.getD_some, hl2]
    · rw [Array.getElem?_eq_none (by have : cs.size = 20 := by simpa using hlen
                                     omega), Array.getElem?_eq_none (by show 20 ≤ i; omega)]
  subst hcs
  unfold World.var? at hv
  simp only [show Tryd.prog.globalNamed "loop.example/g00624/impl.codeWords" = some 1 by kernel_rfl, Option.bind_some] at hv
  split at hv
  · rename_i c t fr hb
    simp only [Option.some.injEq] at hv
    subst hv
    exact ⟨t, fr, hb⟩
  · cases hv

/-- The word of a code: the empty text of any other number. -/
def wordOf (n : Int) : ByteArray := if 0 ≤ n ∧ n < 20 then wordStr n.toNat else ⟨#[]⟩
theorem twenty {n : Int} (h : 0 ≤ n ∧ n < 20) : n = 0 ∨ n = 1 ∨ n = 2 ∨ n = 3 ∨ n = 4 ∨ n = 5 ∨ n = 6 ∨ n = 7 ∨ n = 8 ∨ n = 9 ∨ n = 10 ∨ n = 11 ∨ n = 12 ∨ n = 13 ∨ n = 14 ∨ n = 15 ∨ n = 16 ∨ n = 17 ∨ n = 18 ∨ n = 19 := by omega

set_option maxHeartbeats 4000000 in
theorem specCodeWord_any (n : Int) (w : World) : Calls Tryd.prog 15 #[.int .i64 n] w fun e w' => e = .returned (.string (wordOf n)) ∧ Below w.heap.size w w' := by
  by_cases h : 0 ≤ n ∧ n < 20
  · rcases twenty h with rfl | rfl | rfl | rfl | rfl | rfl | rfl | rfl | rfl | rfl | rfl | rfl | rfl | rfl | rfl | rfl | rfl | rfl | rfl | rfl
    all_goals
      clear h
      go_enter Tryd.func15, Tryd.ntmps15
      go_wp2
      go_ret
      exact ⟨ret_str rfl, (Below.refl _ _).alloc (Nat.le_refl _) _⟩
  · have HV : Hid (wordOf n = ⟨#[]⟩) := by unfold wordOf; rw [if_neg h]; rfl
    by_cases h0 : n < 0
    · clear h
      go_enter Tryd.func15, Tryd.ntmps15
      go_wp2
      go_ret
      exact ⟨ret_str HV.out.symm, (Below.refl _ _).alloc (Nat.le_refl _) _⟩
    · have h1 : 20 ≤ n := by omega
      clear h
      go_enter Tryd.func15, Tryd.ntmps15
      go_wp2
      go_ret
      exact ⟨ret_str HV.out.symm, (Below.refl _ _).alloc (Nat.le_refl _) _⟩

set_option maxHeartbeats 1000000 in
theorem implCodeWord_any (n : Int) (w : World) (ht : wordTab w) : Calls Tryd.prog 16 #[.int .i64 n] w fun e w' => e = .returned (.string (wordOf n)) ∧ w = w' := by
  cases h : inB n 0 19
  · have HV : Hid (wordOf n = ⟨#[]⟩) := by unfold wordOf; rw [if_neg (by have := inB_false h; omega)]; rfl
    clear ht
    go_enter Tryd.func16, Tryd.ntmps16
    go_wp2_with (go_at_call 36; refine (codeOK_any _ _).mono ?_; rintro e w' ⟨rfl, rfl⟩)
    go_ret
    exact ⟨ret_str HV.out.symm, rfl⟩
  · have hb := inB_true h
    obtain ⟨k, rfl⟩ := Int.eq_ofNat_of_zero_le hb.1
    have hk : k < 20 := by omega
    have HV : Hid (wordOf k = wordStr k) := by unfold wordOf; rw [if_pos (by omega), Int.toNat_natCast]; rfl
    have hc := ht.cell k hk
    clear ht hb
    go_enter Tryd.func16, Tryd.ntmps16
    go_wp2_with (go_at_call 36; refine (codeOK_any _ _).mono ?_; rintro e w' ⟨rfl, rfl⟩)
    go_ret
    exact ⟨ret_str HV.out.symm, rfl⟩

set_option maxHeartbeats 400000 in
theorem lawCodeWord_walk (n : Int) (w : World) (_hn : (Lit.int .i64 n).wf = true) (ht : wordTab w) :
    Calls Tryd.prog 4 #[.int .i64 n] w fun e w' => e = .returned (.bool true) ∧ Below w.heap.size w w' := by
  have HT := Lib.hid ht; clear ht _hn
  go_enter Tryd.func4, Tryd.ntmps4
  go_wp2_with fail
  refine (specCodeWord_any _ _).mono ?_
  rintro e w1 ⟨rfl, hb⟩
  have HB := Lib.hid hb; clear hb
  go_wp2_with fail
  refine (implCodeWord_any _ _ (HT.out.below HB.out)).mono ?_
  rintro e w' ⟨rfl, rfl⟩
  go_wp2
  go_ret
  exact ⟨rfl, HB.out⟩
end Go.Proofs.YthnghiajjjjhaaaDoor
