/-
  The walk of the law FnExactMachineOK.
-/
import Derived.Test.YtankgijibenehaaMaW
import Derived.Test.YtankgijibenehaaLawMachineA
namespace Go.Proofs.Ytankgijibenehaa
open Go.RowKit

theorem lawMachineOK_walk (A T C : Option Addr) (ca ct cc : Nat) (zs : List Int) (ts : List Thd) (cs : List Cll) (clk stp : Int) (w : World) (hz : zs.length ≤ maxLen) (hA : Rd w A zs) (ht : ts.length ≤ maxLen) (hT : RdR Thd.cs w T ts) (hc : cs.length ≤ maxLen) (hC : RdR Cll.cs w C cs) :
    Calls Try.prog 7 #[.agg #[.slice A zs.length ca, .slice T ts.length ct, .int .i64 clk, .int .i64 stp, .slice C cs.length cc]] w fun e w' => e = .returned (.bool true) ∧ Below w.heap.size w w' :=
  lawMachine_walkA specMachineOK_any A T C ca ct cc zs ts cs clk stp w hz hA ht hT hc hC
end Go.Proofs.Ytankgijibenehaa
