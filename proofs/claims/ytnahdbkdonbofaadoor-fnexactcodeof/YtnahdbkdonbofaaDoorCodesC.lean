/-
  The walks of the laws FnExactCodeWord and FnExactCodeOf, and the table as the row lists it.
-/
import Derived.Test.YtnahdbkdonbofaaDoorCodesB
import Derived.OpenVars
import Derived.LaidLaws
import Derived.MakeChecks
namespace Go.Proofs.YtnahdbkdonbofaaDoor
open Go.RowKit

theorem own : ownKnob Tryd.prog.godebug = none := by kernel_rfl
theorem laidOut : laidOutB Tryd.prog = true := by kernel_rfl

theorem TabW.below {w w' : World} (h : TabW w) (hb : Below w.heap.size w w') : TabW w' := by
  obtain ⟨t, fr, hg⟩ := h
  refine ⟨t, fr, ?_⟩
  rw [hb.block 0 ?_]
  · exact hg
  · rcases Nat.lt_or_ge 0 w.heap.size with hlt | hge
    · exact hlt
    · rw [Array.getElem?_eq_none hge] at hg; cases hg

/-- What the list of the row gives: block 0 holds the table whole. -/
theorem table_of {W : World} (h : laidMetH Tryd.prog [("loop.example/g00624/impl.codeWords", Rows.laid_loop_example_g00624_impl_codeWords)] W) : TabW W := by
  rw [MakeChecks.laidMetH_plain _ _ _ (by kernel_rfl)] at h
  obtain ⟨ps, ⟨g, t, cs, fuel, p, q, hg, ht, hv, hd, _, _⟩, _, _⟩ := h
  obtain rfl := Option.some.inj ((show Tryd.prog.globalNamed "loop.example/g00624/impl.codeWords" = some 0 by kernel_rfl).symm.trans hg)
  obtain rfl := Option.some.inj ((show (Tryd.prog.globals[0]?).map (·.type) = some 27 by kernel_rfl).symm.trans ht)
  have c9 : Tryd.prog.cellsOf 9 = 1 := by kernel_rfl
  have c27 : Tryd.prog.cellsOf 27 = 20 := by kernel_rfl
  obtain ⟨xs, m, _, ex, hlen, hl, hel⟩ := DataW.trod_array Tryd.underlying27 hd
  rw [c27] at hlen
  have hcs : cs = wordCells := by
    apply Array.ext_getElem?
    intro i
    by_cases hi : i < 20
    · have k0 := hel i hi
      rw [c9, Nat.mul_one] at k0
      have hx : i < xs.length := by omega
      rw [List.getElem?_eq_getElem hx] at k0
      obtain ⟨z, a0, b0, _⟩ := DataW.trod_string Tryd.underlying9 k0
      have h1 : cs[i]? = some (.string z) := by
        have := congrArg (·[0]?) a0
        simpa [List.getElem?_take, List.getElem?_drop] using this
      have h2 : (xs.map (·.1))[i]? = some (.lit (.string z.data.toList)) := by
        rw [List.getElem?_map, List.getElem?_eq_getElem hx, b0]; rfl
      have e3 := (DataW.agg.inj (Prod.mk.inj ex).1)
      rw [← e3] at h2
      rw [h1, wordCells_get i hi]
      have h3 : ((wordList.map fun l => (DataW.lit (.string l) : DataW Unit))[i]?) = some (.lit (.string z.data.toList)) := h2
      rw [List.getElem?_map] at h3
      obtain ⟨l, hl', hl2⟩ := Option.map_eq_some_iff.1 h3
      simp only [DataW.lit.injEq, Lit.string.injEq] at hl2
      congr 2
      apply ByteArray.ext
      show z.data = (wordList.getD i []).toArray
      rw [List.getD, hl', Option.getD_some, hl2]
    · rw [Array.getElem?_eq_none (by have : cs.size = 20 := by simpa using hlen
                                     omega), Array.getElem?_eq_none (by show 20 ≤ i; omega)]
  subst hcs
  unfold World.var? at hv
  simp only [show Tryd.prog.globalNamed "loop.example/g00624/impl.codeWords" = some 0 by kernel_rfl, Option.bind_some] at hv
  split at hv
  · rename_i c t fr hb
    simp only [Option.some.injEq] at hv
    subst hv
    exact ⟨t, fr, hb⟩
  · cases hv

theorem table {W : World} (h : laidMetH Tryd.prog Rows.fnExactCodeWordRow.laid W) : TabW W := table_of h

set_option maxHeartbeats 400000 in
theorem lawCodeWord_walk (n : Int) (w : World) (_hn : (Lit.int .i64 n).wf = true) (ht : TabW w) :
    Calls Tryd.prog 3 #[.int .i64 n] w fun e w' => e = .returned (.bool true) ∧ Below w.heap.size w w' := by
  have HT := Lib.hid ht; clear ht _hn
  go_enter Tryd.func3, Tryd.ntmps3
  go_wp2_with fail
  refine (specCodeWord_any _ _).mono ?_
  rintro e w1 ⟨rfl, hb⟩
  have HB := Lib.hid hb; clear hb
  go_wp2_with fail
  refine (implCodeWord_any _ _ (HT.out.below HB.out).tab).mono ?_
  rintro e w' ⟨rfl, rfl⟩
  go_wp2
  go_ret
  exact ⟨rfl, HB.out⟩

set_option maxHeartbeats 400000 in
theorem lawCodeOf_walk (s : ByteArray) (w : World) (_hs : s.size ≤ maxLen) (ht : TabW w) :
    Calls Tryd.prog 4 #[.string s] w fun e w' => e = .returned (.bool true) ∧ Below w.heap.size w w' := by
  have HT := Lib.hid ht; clear ht
  by_cases hbig : (1048576 : Int) < (s.size : Int)
  · go_enter Tryd.func4, Tryd.ntmps4
    go_wp2
    go_ret
    exact ⟨rfl, Below.refl _ _⟩
  · go_enter Tryd.func4, Tryd.ntmps4
    go_wp2_with fail
    refine (specCodeOf_any _ _).mono ?_
    rintro e w1 ⟨rfl, hb⟩
    have HB := Lib.hid hb; clear hb
    go_wp2_with fail
    refine (implCodeOf_any _ _ (HT.out.below HB.out)).mono ?_
    rintro e w' ⟨rfl, rfl⟩
    go_wp2
    go_ret
    exact ⟨rfl, HB.out⟩
end Go.Proofs.YtnahdbkdonbofaaDoor
