/-
  The walk of the law FnExactMachineOK, what the model's MachineOK answers given as a premise.
-/
import Derived.Test.YtiogebflfnicgaaMaV
import Derived.Test.YtiogebflfnicgaaMach
namespace Go.Proofs.Ytiogebflfnicgaa
open Go.RowKit

theorem RdR.drewR {α : Type} {f : α → List Value} {w : World} {A : Option Addr} {l : List α} (h : RdR f w A l) : RdR f w.drew A l := h
theorem info_mach : (Try.prog.info? 64).map (·.size) = some 5 := by kernel_rfl
theorem one5m (A T C : Option Addr) (a ca t ct c cc : Nat) (clk stp : Int) : (#[.slice A a ca, .slice T t ct, .int .i64 clk, .int .i64 stp, .slice C c cc] : Array Value).all (·.oneCell') = true := by simp [Value.oneCell']

end Go.Proofs.Ytiogebflfnicgaa
