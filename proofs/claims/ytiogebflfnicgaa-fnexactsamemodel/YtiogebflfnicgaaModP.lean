/-
  Models (chapter 11): what a right one is, over lists.
-/
import Derived.Test.YtiogebflfnicgaaMod
namespace Go.Proofs.Ytiogebflfnicgaa
open Go.RowKit

/-- Those that wait: each right, of this kind, none of them seen ahead. -/
def cmB (p : Wtr → Bool) : List Int → List Wtr → Bool
  | _, [] => true
  | s, x :: r => wtB x.th x.op x.arg && p x && !(s.contains x.th) && cmB p (s ++ [x.th]) r
def hdO : List Wtr → Int
  | [] => 0
  | x :: _ => x.op
def isW (o : Int) (x : Wtr) : Bool := x.op == o && (x.op == 1 || x.op == 2)
def isO (x : Wtr) : Bool := x.op == 3
def wsB (bs os : List Wtr) : Bool := cmB (isW (hdO bs)) [] bs && cmB isO (bs.map Wtr.th) os
def mdB (zs : List Int) (cnt : Int) (bs os : List Wtr) : Bool := decide (zs.length ≤ 400) && inB cnt 0 1000000000 && decide (os.length ≤ 1) && zs.all (fun v => inB v 0 999) && wsB bs os

theorem cm_no {p : Wtr → Bool} {s : List Int} {x : Wtr} {r : List Wtr} (h : (wtB x.th x.op x.arg && p x && !(s.contains x.th)) = false) : cmB p s (x :: r) = false := by rw [cmB, h]; rfl
theorem cm_yes {p : Wtr → Bool} {s : List Int} {x : Wtr} {r : List Wtr} (h : (wtB x.th x.op x.arg && p x && !(s.contains x.th)) = true) : cmB p s (x :: r) = cmB p (s ++ [x.th]) r := by rw [cmB, h]; rfl
theorem dropW {α : Type} {l : List α} {k : Nat} {x : α} (h : l[k]? = some x) : l.drop k = x :: l.drop (k + 1) := by
  have hk : k < l.length := (List.getElem?_eq_some_iff.1 h).1
  rw [List.drop_eq_getElem_cons hk]
  congr 1
  have := List.getElem?_eq_getElem hk
  rw [this] at h
  exact Option.some.inj h
theorem takeW {l : List Wtr} {k : Nat} {x : Wtr} (h : l[k]? = some x) : (l.take (k + 1)).map Wtr.th = (l.take k).map Wtr.th ++ [x.th] := by
  rw [List.take_add_one, h]; simp
theorem takeW0 {s : List Int} {l : List Wtr} {k : Nat} {x : Wtr} (h : l[k]? = some x) : s ++ (l.take (k + 1)).map Wtr.th = (s ++ (l.take k).map Wtr.th) ++ [x.th] := by
  rw [takeW h, List.append_assoc]
theorem hdO_at {l : List Wtr} {x : Wtr} (h : l[0]? = some x) : hdO l = x.op := by
  cases l with
  | nil => simp at h
  | cons y r => simp at h; subst h; rfl
theorem ws_no1 {bs os : List Wtr} (h : cmB (isW (hdO bs)) [] bs = false) : wsB bs os = false := by unfold wsB; rw [h]; rfl
theorem ws_yes1 {bs os : List Wtr} (h : cmB (isW (hdO bs)) [] bs = true) : wsB bs os = cmB isO (bs.map Wtr.th) os := by unfold wsB; rw [h]; rfl
end Go.Proofs.Ytiogebflfnicgaa
