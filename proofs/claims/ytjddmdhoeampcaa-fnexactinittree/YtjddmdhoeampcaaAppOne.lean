/-
  One integer appended to a row of the call's own, at the list of a plain region.
-/
import Derived.Test.YtjddmdhoeampcaaGoodB
namespace Go.Proofs.Ytjddmdhoeampcaa
open Go.RowKit

theorem wpList_append_one {ops : Array Oper} {rest : List Oper} {o : Oper} {a : Act} {w : World} {Q : Exit → Act → World → Prop}
    (hgd : o.guard = none) (s x : Operand) (ho : o.op = Op.call { callee := Callee.builtin Builtin.append, args := #[s, x], argTypes := #[22, 22] })
    (base : Nat) (C : Option Addr) (d : Nat) (xs : List Int) (y : Int) (hs : a.eval s = .slice C xs.length d) (hx : a.eval x = .slice (some ⟨w.heap.size, 0, none⟩) 1 1)
    (hown : NewA base w C d xs) (hlen : xs.length ≤ 1048576) (hbase : base ≤ w.heap.size) (L : List Int) (hL : L = xs ++ [y])
    (h : ∀ C' d' w', NewA base w' C' d' L → (w.alloc (.cells #[.int .i64 y] 3)).grownBy w' (Value.ownBlock (.slice C xs.length d)) → wpList Try.prog ops Q rest (a.put o.dst (.slice C' L.length d')) w') :
    wpList Try.prog ops Q (o :: rest) a (w.alloc (.cells #[.int .i64 y] 3)) := by
  subst hL
  obtain ⟨i0, hi, hz0, hz1, hz2⟩ := info_parts Try.infoInt
  refine wpList_append_rd _ hgd s x 22 ho base 3 i0 (.int .i64 0) 8 Try.underlying22 hi hz0 hz1 hz2 rfl _ xs hs (World.ownsRow.alloc hown _) _ _ [y] hx (rd_one _ _ _ rfl) ?_ ?_ (le_alloc hbase _) ?_
  · show (xs.length + 1) * 8 ≤ _; omega
  · unfold maxLen; show xs.length + 1 ≤ _; omega
  · intro C' d' w' h1 h2
    exact h C' d' w' h1 h2
end Go.Proofs.Ytjddmdhoeampcaa
