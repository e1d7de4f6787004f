/-
  append onto a row of the call's own, the source a slice that reads as a list (nil, empty or not).
-/
import Derived.Test.YtiogebflfnicgaaLists
import Derived.Maps.AppendAt
namespace Go.Proofs.Ytiogebflfnicgaa
open Go.RowKit

theorem run_app_nil {P : Program} (w : World) (base : Nat) (t ty e : TypeId) (i : TypeInfo) (size : Nat) (ht : P.underlying t = some (.slice e)) (hi : P.info? e = some i)
    (v : Value) (n : Nat) (xs : List Value) (hown : w.ownsRow base e size v n xs) (c : Nat) : (Builtin.append_ #[t, t] ty #[v, .slice none 0 c]).run P w = .ok v w := by
  rcases hown.2 with ⟨rfl, _⟩ | ⟨g, cap, cur, rfl, _, _, hnc, _⟩
  · simp [Builtin.append_, run_underlying ht, sizeOf, typeInfo, hi, Builtin.lenOf, Builtin.firstCells]
  · simp [Builtin.append_, run_underlying ht, sizeOf, typeInfo, hi, Builtin.lenOf, Builtin.firstCells, hnc, storeCells]

theorem wpList_append_rd {P : Program} (w : World) {ops : Array Oper} {rest : List Oper} {o : Oper} {a : Act} {Q : Exit → Act → World → Prop} (hgd : o.guard = none) (s x : Operand) (t : TypeId)
    (ho : o.op = .call { callee := .builtin .append, args := #[s, x], argTypes := #[t, t] })
    (base : Nat) (e : TypeId) (i : TypeInfo) (z : Value) (bytes : Nat) (ht : P.underlying t = some (.slice e)) (hi : P.info? e = some i) (hz : i.zero = some z)
    (hsize : i.size = 1) (hby : i.bytes = bytes) (hzs : z.cells.size = 1)
    (v : Value) (xs : List Int) (hs : a.eval s = v) (hown : w.ownsRow base e 1 v xs.length (ints xs))
    (A : Option Addr) (c : Nat) (ys : List Int) (hx : a.eval x = .slice A ys.length c) (hA : Rd w A ys)
    (hbytes : (xs.length + ys.length) * bytes ≤ 140737488355328) (h63 : xs.length + ys.length ≤ maxLen) (hbase : base ≤ w.heap.size)
    (h : ∀ B d w', w'.ownsRow base e 1 (.slice B (xs ++ ys).length d) (xs ++ ys).length (ints (xs ++ ys)) → w.grownBy w' v.ownBlock → wpList P ops Q rest (a.put o.dst (.slice B (xs ++ ys).length d)) w') :
    wpList P ops Q (o :: rest) a w := by
  have hlen : (xs ++ ys).length = xs.length + ys.length := by simp
  have hform : ∀ (v' : Value) (w' : World), w'.ownsRow base e 1 v' (xs.length + ys.length) (ints xs ++ ints ys) → ∃ B d, v' = .slice B (xs ++ ys).length d ∧ w'.ownsRow base e 1 (.slice B (xs ++ ys).length d) (xs ++ ys).length (ints (xs ++ ys)) := by
    intro v' w' ho'
    have he : ints xs ++ ints ys = ints (xs ++ ys) := by simp [ints]
    rw [he] at ho'
    rcases ho'.2 with ⟨rfl, h0⟩ | ⟨g, cap, cur, rfl, r⟩
    · refine ⟨none, 0, ?_, ?_⟩
      · rw [hlen, h0]
      · rw [hlen, h0]; rw [h0] at ho'; exact ho'
    · exact ⟨_, _, by rw [hlen], by rw [hlen]; exact ho'⟩
  rcases A with _ | ad
  · have hm : ys.length = 0 := by
      rcases Nat.eq_zero_or_pos ys.length with h0 | h0
      · exact h0
      · obtain ⟨b, o, h, _⟩ := hA 0 h0
        cases h
    obtain rfl : ys = [] := List.eq_nil_of_length_eq_zero hm
    refine wpList_plain hgd fun K hK' => ?_
    have hrun := run_app_nil (P := P) w base t o.type e i 1 ht hi v xs.length (ints xs) hown c
    obtain ⟨B, d, hv, hown'⟩ := hform v w (by simpa [ints] using hown)
    unfold Oper.wp
    simp [execOp, ho, resolve, invoke, builtin, hs, hx, hrun, Result.andThen]
    rw [hv]
    exact hK' _ _ (h B d w hown' (World.grownBy.refl _ _))
  · refine wpList_append_own w hgd s x t ho base e i z 1 bytes ht hi hz hsize hby hzs (by decide) v xs.length (ints xs) hs hown ad ys.length c (ints ys) hx (by rw [length_ints]; omega) ?_ (ints_one _) h63 hbytes hbase ?_
    · intro j u hu
      have hj : j < ys.length := by have := (List.getElem?_eq_some_iff.1 hu).1; rwa [length_ints] at this
      obtain ⟨ad', hA', hc⟩ := rd_cells hA (by omega)
      obtain rfl := Option.some.inj hA'
      exact hc j u hu
    · intro v' w' h2 h3 _
      obtain ⟨B, d, rfl, hown'⟩ := hform v' w' h2
      exact h B d w' hown' h3

theorem below_alloc4 (w : World) (a b c d : Obj) : Below w.heap.size w ((((w.alloc a).alloc b).alloc c).alloc d) := below_trans (below_alloc3 _ _ _ _) (below_alloc _ _)
theorem own_empty (w0 : World) (base k : Nat) (e : TypeId) (hk : w0.heap.size = k) (hb : base ≤ k) : (w0.alloc (.cells #[] e)).ownsRow base e 1 (.slice (some ⟨k, 0, none⟩) 0 0) ([] : List Int).length (ints []) := by
  subst hk
  exact World.ownsRow_lit w0 #[] 0 hb (Nat.zero_le _) rfl

end Go.Proofs.Ytiogebflfnicgaa
