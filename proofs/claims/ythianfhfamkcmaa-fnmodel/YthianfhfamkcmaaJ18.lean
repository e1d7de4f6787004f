/-
  Models (chapter 11): a model under way, and how it is left.
  Models (chapter 11): what do makes of a right call; the program's do, whole.
-/
import Derived.Test.YthianfhfamkcmaaJ17
namespace Go.Proofs.Ythianfhfamkcmaa
open Go.RowKit

/-- A slice's block lies below, and is not this one. -/
def Off (w : World) (km : Nat) (u : Value) : Prop := ∀ q, u.ownBlock = some q → q < w.heap.size ∧ q ≠ km
/-- A slice's block lies from here on. -/
def Lo (b0 : Nat) (u : Value) : Prop := ∀ q, u.ownBlock = some q → b0 ≤ q
theorem Lo.same {b0 : Nat} {u u' : Value} (h : Lo b0 u) (e : u'.ownBlock = u.ownBlock) : Lo b0 u' := fun q hq => h q (by rw [← e]; exact hq)
/-- A model under way: its block, and its lists, each in a block of the call's own. -/
structure StM (b0 : Nat) (w : World) (km : Nat) (A : Option Addr) (ca : Nat) (zs : List Int) (B : Option Addr) (cb : Nat) (bs : List Wtr) (O : Option Addr) (co : Nat) (os : List Wtr) (cnt : Int) : Prop where
  bx : BoxC 31 w km #[.slice A zs.length ca, .int .i64 cnt, .slice B bs.length cb, .slice O os.length co]
  sA : SegC b0 w A (ints zs)
  sB : SegC b0 w B (flatV Wtr.cs bs)
  sO : SegC b0 w O (flatV Wtr.cs os)
  d12 : Dis (.slice A zs.length ca) (.slice B bs.length cb)
  d13 : Dis (.slice A zs.length ca) (.slice O os.length co)
  d23 : Dis (.slice B bs.length cb) (.slice O os.length co)
  lA : Off w km (.slice A zs.length ca)
  lB : Off w km (.slice B bs.length cb)
  lO : Off w km (.slice O os.length co)
  kA : zs.length ≤ ca
  kB : bs.length ≤ cb
  kO : os.length ≤ co
  bA : Lo b0 (.slice A zs.length ca)
  bB : Lo b0 (.slice B bs.length cb)
  bO : Lo b0 (.slice O os.length co)
  nA : A = none → ca = 0
  nB : B = none → cb = 0
  nO : O = none → co = 0
theorem seg_some {b0 : Nat} {w : World} {A : Option Addr} {vs : List Value} (h : SegC b0 w A vs) (hv : vs ≠ []) : A ≠ none := by
  rcases h with h | ⟨g, o, rfl, _⟩
  · exact absurd h hv
  · intro e; cases e
theorem flat_ne {l : List Wtr} (h : l ≠ []) : flatV Wtr.cs l ≠ [] := by
  cases l with
  | nil => exact absurd rfl h
  | cons x r => simp [flatV, Wtr.cs]
theorem Off.grown {w w' : World} {km : Nat} {u : Value} (h : Off w km u) {r : Option Nat} (hg : w.grownBy w' r) : Off w' km u := fun q hq => ⟨Nat.lt_of_lt_of_le (h q hq).1 hg.size, (h q hq).2⟩
theorem Off.ne {w : World} {km : Nat} {u : Value} (h : Off w km u) : u.ownBlock ≠ some km := fun e => (h km e).2 rfl
theorem dis_new {w : World} {km : Nat} {u v : Value} (h : Off w km u) (hv : ∀ q, v.ownBlock = some q → w.heap.size < q) : Dis v u := fun q h1 h2 => by have := (h q h2).1; have := hv q h1; omega
theorem StM.below {b0 km : Nat} {w w' : World} {A B O : Option Addr} {ca cb co : Nat} {zs : List Int} {bs os : List Wtr} {cnt : Int} (h : StM b0 w km A ca zs B cb bs O co os cnt) (hb : Below w.heap.size w w') : StM b0 w' km A ca zs B cb bs O co os cnt :=
  ⟨h.bx.below hb, h.sA.below hb, h.sB.below hb, h.sO.below hb, h.d12, h.d13, h.d23, h.lA.grown (grown_below none hb), h.lB.grown (grown_below none hb), h.lO.grown (grown_below none hb), h.kA, h.kB, h.kO, h.bA, h.bB, h.bO, h.nA, h.nB, h.nO⟩
theorem StM.cnt {b0 km : Nat} {w w' : World} {A B O : Option Addr} {ca cb co : Nat} {zs : List Int} {bs os : List Wtr} {cnt : Int} (h : StM b0 w km A ca zs B cb bs O co os cnt) {n : Int} (hx : BoxC 31 w' km #[.slice A zs.length ca, .int .i64 n, .slice B bs.length cb, .slice O os.length co]) (hg : w.grownBy w' (some km)) : StM b0 w' km A ca zs B cb bs O co os n :=
  ⟨hx, SegC.kept h.sA hg (.inr h.lA.ne), SegC.kept h.sB hg (.inr h.lB.ne), SegC.kept h.sO hg (.inr h.lO.ne), h.d12, h.d13, h.d23, h.lA.grown hg, h.lB.grown hg, h.lO.grown hg, h.kA, h.kB, h.kO, h.bA, h.bB, h.bO, h.nA, h.nB, h.nO⟩
theorem off_new {w w' : World} {km : Nat} (hk : km < w.heap.size) {u : Value} (hq : ∀ q, u.ownBlock = some q → w.heap.size < q ∧ q < w'.heap.size) : Off w' km u := fun q h => ⟨(hq q h).2, by have := (hq q h).1; omega⟩
theorem StM.newA {b0 km : Nat} {w w' : World} {A B O : Option Addr} {ca cb co : Nat} {zs : List Int} {bs os : List Wtr} {cnt : Int} (h : StM b0 w km A ca zs B cb bs O co os cnt) (hb : b0 ≤ w.heap.size + 1) {G : Option Addr} {d : Nat} {R : List Int} (hR : R ≠ []) (hx : BoxC 31 w' km #[.slice G R.length d, .int .i64 cnt, .slice B bs.length cb, .slice O os.length co]) (hs : SegC (w.heap.size + 1 + 1) w' G (ints R)) (hq : ∀ q, (Value.slice G R.length d).ownBlock = some q → w.heap.size < q ∧ q < w'.heap.size) (hl : R.length ≤ d) (hg : w.grownBy w' (some km)) : StM b0 w' km G d R B cb bs O co os cnt :=
  ⟨hx, hs.base (by omega), SegC.kept h.sB hg (.inr h.lB.ne), SegC.kept h.sO hg (.inr h.lO.ne), dis_new h.lB (fun q e => (hq q e).1), dis_new h.lO (fun q e => (hq q e).1), h.d23, off_new h.bx.lt hq, h.lB.grown hg, h.lO.grown hg, hl, h.kB, h.kO, (fun q e => by have := (hq q e).1; omega), h.bB, h.bO, (fun e => absurd e (seg_some hs (by cases R with | nil => exact absurd rfl hR | cons a b => simp [ints]))), h.nB, h.nO⟩
theorem StM.newB {b0 km : Nat} {w w' : World} {A B O : Option Addr} {ca cb co : Nat} {zs : List Int} {bs os : List Wtr} {cnt : Int} (h : StM b0 w km A ca zs B cb bs O co os cnt) (hb : b0 ≤ w.heap.size + 1) {G : Option Addr} {d : Nat} {R : List Wtr} (hR : R ≠ []) (hx : BoxC 31 w' km #[.slice A zs.length ca, .int .i64 cnt, .slice G R.length d, .slice O os.length co]) (hs : SegC (w.heap.size + 1 + 1) w' G (flatV Wtr.cs R)) (hq : ∀ q, (Value.slice G R.length d).ownBlock = some q → w.heap.size < q ∧ q < w'.heap.size) (hl : R.length ≤ d) (hg : w.grownBy w' (some km)) : StM b0 w' km A ca zs G d R O co os cnt :=
  ⟨hx, SegC.kept h.sA hg (.inr h.lA.ne), hs.base (by omega), SegC.kept h.sO hg (.inr h.lO.ne), (dis_new h.lA (fun q e => (hq q e).1)).symm, h.d13, dis_new h.lO (fun q e => (hq q e).1), h.lA.grown hg, off_new h.bx.lt hq, h.lO.grown hg, h.kA, hl, h.kO, h.bA, (fun q e => by have := (hq q e).1; omega), h.bO, h.nA, (fun e => absurd e (seg_some hs (flat_ne hR))), h.nO⟩
theorem StM.newO {b0 km : Nat} {w w' : World} {A B O : Option Addr} {ca cb co : Nat} {zs : List Int} {bs os : List Wtr} {cnt : Int} (h : StM b0 w km A ca zs B cb bs O co os cnt) (hb : b0 ≤ w.heap.size + 1) {G : Option Addr} {d : Nat} {R : List Wtr} (hR : R ≠ []) (hx : BoxC 31 w' km #[.slice A zs.length ca, .int .i64 cnt, .slice B bs.length cb, .slice G R.length d]) (hs : SegC (w.heap.size + 1 + 1) w' G (flatV Wtr.cs R)) (hq : ∀ q, (Value.slice G R.length d).ownBlock = some q → w.heap.size < q ∧ q < w'.heap.size) (hl : R.length ≤ d) (hg : w.grownBy w' (some km)) : StM b0 w' km A ca zs B cb bs G d R cnt :=
  ⟨hx, SegC.kept h.sA hg (.inr h.lA.ne), SegC.kept h.sB hg (.inr h.lB.ne), hs.base (by omega), h.d12, (dis_new h.lA (fun q e => (hq q e).1)).symm, (dis_new h.lB (fun q e => (hq q e).1)).symm, h.lA.grown hg, h.lB.grown hg, off_new h.bx.lt hq, h.kA, h.kB, hl, h.bA, h.bB, (fun q e => by have := (hq q e).1; omega), h.nA, h.nB, (fun e => absurd e (seg_some hs (flat_ne hR)))⟩
/-- The tail of a segment. -/
theorem seg_tailI {b0 g ko c : Nat} {w : World} {z : Int} {r : List Int} (h : SegC b0 w (some ⟨g, ko, none⟩) (ints (z :: r))) (hl : (z :: r).length ≤ c) : SegC b0 w (tailA g ko c) (ints r) := by
  rcases h with h0 | ⟨g', o', e, h1, hc, hf⟩
  · simp [ints] at h0
  · simp only [Option.some.injEq, Addr.mk.injEq, and_true] at e
    obtain ⟨rfl, rfl⟩ := e
    by_cases h9 : c = 1
    · refine .inl ?_
      rw [List.length_cons] at hl
      rw [List.eq_nil_of_length_eq_zero (show r.length = 0 by omega)]; rfl
    · unfold tailA
      rw [if_neg h9]
      refine .inr ⟨g, ko + 1, rfl, h1, fun j v hj => ?_, hf⟩
      have := hc (j + 1) v (by simpa [ints] using hj)
      rwa [show ko + (j + 1) = ko + 1 + j from by omega] at this
theorem seg_tailW {b0 g ko c : Nat} {w : World} {x : Wtr} {r : List Wtr} (h : SegC b0 w (some ⟨g, ko, none⟩) (flatV Wtr.cs (x :: r))) (hl : (x :: r).length ≤ c) : SegC b0 w (tailW g ko c) (flatV Wtr.cs r) := by
  rcases h with h0 | ⟨g', o', e, h1, hc, hf⟩
  · simp [flatV, Wtr.cs] at h0
  · simp only [Option.some.injEq, Addr.mk.injEq, and_true] at e
    obtain ⟨rfl, rfl⟩ := e
    by_cases h9 : c = 1
    · refine .inl ?_
      rw [List.length_cons] at hl
      rw [List.eq_nil_of_length_eq_zero (show r.length = 0 by omega)]; rfl
    · unfold tailW
      rw [if_neg h9]
      refine .inr ⟨g, ko + 3, rfl, h1, fun j v hj => ?_, hf⟩
      have := hc (j + 3) v (by simpa [flatV, Wtr.cs] using hj)
      rwa [show ko + (j + 3) = ko + 3 + j from by omega] at this
theorem own_tailA (g ko c n m d e : Nat) : (Value.slice (tailA g ko c) n d).ownBlock = (Value.slice (some ⟨g, ko, none⟩) m e).ownBlock := by unfold tailA; split <;> rfl
theorem own_tailW (g ko c n m d e : Nat) : (Value.slice (tailW g ko c) n d).ownBlock = (Value.slice (some ⟨g, ko, none⟩) m e).ownBlock := by unfold tailW; split <;> rfl
theorem Dis.left {u u' v : Value} (h : Dis u v) (e : u'.ownBlock = u.ownBlock) : Dis u' v := fun q h1 => h q (by rw [← e]; exact h1)
theorem Dis.right {u v v' : Value} (h : Dis u v) (e : v'.ownBlock = v.ownBlock) : Dis u v' := fun q h1 h2 => h q h1 (by rw [← e]; exact h2)
theorem Off.same {w : World} {km : Nat} {u u' : Value} (h : Off w km u) (e : u'.ownBlock = u.ownBlock) : Off w km u' := fun q hq => h q (by rw [← e]; exact hq)
end Go.Proofs.Ythianfhfamkcmaa

namespace Go.Proofs.Ythianfhfamkcmaa
open Go.RowKit

/-- What a call comes to: (ended, code, result, met), and the model behind it. -/
def doR (zs : List Int) (cnt : Int) (bs os : List Wtr) (th op arg : Int) : (Bool × Int × Int × Int) × (List Int × Int × List Wtr × List Wtr) :=
  if waitsB bs os th = true then ((false, 9, 0, -1), (zs, cnt, bs, os))
  else if op = 1 ∨ op = 2 then
    (match bs with
    | [] => ((false, 0, 0, -1), (zs, cnt, [⟨th, op, arg⟩], os))
    | x :: r => if (x.op == partB op) = true then ((true, 0, if op = 1 then arg else x.arg, x.th), (zs, cnt, r, os)) else ((false, 0, 0, -1), (zs, cnt, (x :: r) ++ [⟨th, op, arg⟩], os)))
  else if op = 3 then
    (match os with
    | [] => ((false, 0, 0, -1), (zs, cnt, bs, [⟨th, op, arg⟩]))
    | x :: r => if (x.op == partB op) = true then ((true, 0, x.arg, x.th), (zs, cnt, bs, r)) else ((false, 0, 0, -1), (zs, cnt, bs, (x :: r) ++ [⟨th, op, arg⟩])))
  else if op = 4 then (if zs.length = 400 then ((false, 7, 0, -1), (zs, cnt, bs, os)) else ((true, 0, arg, -1), (arg :: zs, cnt, bs, os)))
  else if op = 5 then
    (match zs with
    | [] => ((true, 14, 0, -1), (zs, cnt, bs, os))
    | z :: r => ((true, 0, z, -1), (r, cnt, bs, os)))
  else if cnt = 1000000000 then ((false, 7, 0, -1), (zs, cnt, bs, os)) else ((true, 0, cnt, -1), (zs, cnt + 1, bs, os))
/-- What the program's do leaves. -/
def DoPost (b0 : Nat) (w : World) (km : Nat) (r : (Bool × Int × Int × Int) × (List Int × Int × List Wtr × List Wtr)) (e : Ending) (w' : World) : Prop :=
  ∃ A ca B cb O co, e = .returned (.agg #[.bool r.1.1, .int .i64 r.1.2.1, .int .i64 r.1.2.2.1, .int .i64 r.1.2.2.2]) ∧ StM b0 w' km A ca r.2.1 B cb r.2.2.2.1 O co r.2.2.2.2 r.2.2.1 ∧ w.grownBy w' (some km)
theorem row_of {b0 : Nat} {w : World} {A : Option Addr} {x : Wtr} {r : List Wtr} (h : SegC b0 w A (flatV Wtr.cs (x :: r))) : ∃ g ko, A = some ⟨g, ko, none⟩ ∧ w.rangeAt g ko [.int .i64 x.th, .int .i64 x.op, .int .i64 x.arg] := by
  obtain ⟨b, o, rfl, hr⟩ := h.rdW.row Wtr.len 0 x rfl
  rw [Nat.zero_mul, Nat.add_zero] at hr
  exact ⟨b, o, rfl, hr⟩

theorem doM_any (b0 km : Nat) (A B O : Option Addr) (ca cb co : Nat) (zs : List Int) (bs os : List Wtr) (cnt th op arg : Int) (w : World) (h : StM b0 w km A ca zs B cb bs O co os cnt) (hb : b0 ≤ w.heap.size) (hz : zs.length ≤ 400) (ht : bs.length ≤ 1048576) (hc : os.length ≤ 1048576) (hc0 : 0 ≤ cnt) (hc1 : cnt ≤ 1000000000) (hop : opB op = true) :
    Calls Try.prog 56 #[.pointer (some ⟨km, 0, none⟩), .agg #[.int .i64 th, .int .i64 op, .int .i64 arg]] w (DoPost b0 w km (doR zs cnt bs os th op arg)) := by
  cases hq : waitsB bs os th
  rotate_left
  · rw [show doR zs cnt bs os th op arg = ((false, 9, 0, -1), (zs, cnt, bs, os)) from if_pos hq]
    refine (do_busy km A B O ca cb co zs bs os cnt th op arg w h.bx ht hc h.sB.rdW h.sO.rdW hq).mono ?_
    rintro e w' ⟨rfl, hbl⟩; exact ⟨A, ca, B, cb, O, co, rfl, h.below hbl, grown_below _ hbl⟩
  have hq' : ¬ waitsB bs os th = true := by rw [hq]; decide
  have h6 : op = 1 ∨ op = 2 ∨ op = 3 ∨ op = 4 ∨ op = 5 ∨ op = 6 := by have := inB_true hop; omega
  rcases h6 with ho | ho | ho | ho | ho | ho

  · have ho' : op = 1 ∨ op = 2 := by omega
    cases bs with
    | nil =>
      rw [show doR zs cnt [] os th op arg = ((false, 0, 0, -1), (zs, cnt, [⟨th, op, arg⟩], os)) from (if_neg hq').trans (if_pos ho')]
      refine (do_putW km A B O ca cb co zs [] os cnt th op arg w h.bx ht hc h.sB.rdW h.sO.rdW hq ho [⟨th, op, arg⟩] rfl rfl).mono ?_
      rintro e w' ⟨G, d, rfl, hx, hs, hQ, hl, _, hg⟩
      exact ⟨A, ca, G, d, O, co, rfl, h.newB (by omega) (by simp) hx hs hQ hl hg, hg⟩
    | cons x r =>
      by_cases hf : (x.op == partB op) = true
      · rw [show doR zs cnt (x :: r) os th op arg = ((true, 0, arg, x.th), (zs, cnt, r, os)) from (if_neg hq').trans ((if_pos ho').trans ((if_pos hf).trans (by rw [if_pos ho])))]
        obtain ⟨g, ko, rfl, hr⟩ := row_of h.sB
        refine (do_putD km A _ O ca cb co zs (x :: r) os cnt th op arg w h.bx ht hc h.sB.rdW h.sO.rdW hq ho g ko x.th x.op x.arg rfl (Nat.succ_pos _) hr hf).mono ?_
        rintro e w' ⟨rfl, hx, hg⟩
        exact ⟨A, ca, tailW g ko cb, cb - 1, O, co, rfl, ⟨hx, SegC.kept h.sA hg (.inr h.lA.ne), SegC.kept (n := r.length) (c := cb - 1) (seg_tailW h.sB h.kB) hg (.inr (by rw [own_tailW g ko cb r.length (x :: r).length (cb - 1) cb]; exact h.lB.ne)), SegC.kept h.sO hg (.inr h.lO.ne), h.d12.right (own_tailW _ _ _ _ _ _ _), h.d13, h.d23.left (own_tailW _ _ _ _ _ _ _), h.lA.grown hg, (h.lB.grown hg).same (own_tailW _ _ _ _ _ _ _), h.lO.grown hg, h.kA, (show r.length ≤ cb - 1 by have := h.kB; simp only [List.length_cons] at this; omega), h.kO, h.bA, h.bB.same (own_tailW _ _ _ _ _ _ _), h.bO, h.nA, (fun e => by unfold tailW at e; split at e <;> cases e), h.nO⟩, hg⟩
      · rw [show doR zs cnt (x :: r) os th op arg = ((false, 0, 0, -1), (zs, cnt, (x :: r) ++ [⟨th, op, arg⟩], os)) from (if_neg hq').trans ((if_pos ho').trans (if_neg hf))]
        refine (do_putW km A B O ca cb co zs (x :: r) os cnt th op arg w h.bx ht hc h.sB.rdW h.sO.rdW hq ho ((x :: r) ++ [⟨th, op, arg⟩]) rfl (by simpa [fitsB] using hf)).mono ?_
        rintro e w' ⟨G, d, rfl, hx, hs, hQ, hl, _, hg⟩
        exact ⟨A, ca, G, d, O, co, rfl, h.newB (by omega) (by simp) hx hs hQ hl hg, hg⟩
  · have ho' : op = 1 ∨ op = 2 := by omega
    cases bs with
    | nil =>
      rw [show doR zs cnt [] os th op arg = ((false, 0, 0, -1), (zs, cnt, [⟨th, op, arg⟩], os)) from (if_neg hq').trans (if_pos ho')]
      refine (do_takeW km A B O ca cb co zs [] os cnt th op arg w h.bx ht hc h.sB.rdW h.sO.rdW hq ho [⟨th, op, arg⟩] rfl rfl).mono ?_
      rintro e w' ⟨G, d, rfl, hx, hs, hQ, hl, _, hg⟩
      exact ⟨A, ca, G, d, O, co, rfl, h.newB (by omega) (by simp) hx hs hQ hl hg, hg⟩
    | cons x r =>
      by_cases hf : (x.op == partB op) = true
      · rw [show doR zs cnt (x :: r) os th op arg = ((true, 0, x.arg, x.th), (zs, cnt, r, os)) from (if_neg hq').trans ((if_pos ho').trans ((if_pos hf).trans (by rw [if_neg (by omega)])))]
        obtain ⟨g, ko, rfl, hr⟩ := row_of h.sB
        refine (do_takeD km A _ O ca cb co zs (x :: r) os cnt th op arg w h.bx ht hc h.sB.rdW h.sO.rdW hq ho g ko x.th x.op x.arg rfl (Nat.succ_pos _) hr hf).mono ?_
        rintro e w' ⟨rfl, hx, hg⟩
        exact ⟨A, ca, tailW g ko cb, cb - 1, O, co, rfl, ⟨hx, SegC.kept h.sA hg (.inr h.lA.ne), SegC.kept (n := r.length) (c := cb - 1) (seg_tailW h.sB h.kB) hg (.inr (by rw [own_tailW g ko cb r.length (x :: r).length (cb - 1) cb]; exact h.lB.ne)), SegC.kept h.sO hg (.inr h.lO.ne), h.d12.right (own_tailW _ _ _ _ _ _ _), h.d13, h.d23.left (own_tailW _ _ _ _ _ _ _), h.lA.grown hg, (h.lB.grown hg).same (own_tailW _ _ _ _ _ _ _), h.lO.grown hg, h.kA, (show r.length ≤ cb - 1 by have := h.kB; simp only [List.length_cons] at this; omega), h.kO, h.bA, h.bB.same (own_tailW _ _ _ _ _ _ _), h.bO, h.nA, (fun e => by unfold tailW at e; split at e <;> cases e), h.nO⟩, hg⟩
      · rw [show doR zs cnt (x :: r) os th op arg = ((false, 0, 0, -1), (zs, cnt, (x :: r) ++ [⟨th, op, arg⟩], os)) from (if_neg hq').trans ((if_pos ho').trans (if_neg hf))]
        refine (do_takeW km A B O ca cb co zs (x :: r) os cnt th op arg w h.bx ht hc h.sB.rdW h.sO.rdW hq ho ((x :: r) ++ [⟨th, op, arg⟩]) rfl (by simpa [fitsB] using hf)).mono ?_
        rintro e w' ⟨G, d, rfl, hx, hs, hQ, hl, _, hg⟩
        exact ⟨A, ca, G, d, O, co, rfl, h.newB (by omega) (by simp) hx hs hQ hl hg, hg⟩
  · have ho' : ¬ (op = 1 ∨ op = 2) := by omega
    cases os with
    | nil =>
      rw [show doR zs cnt bs [] th op arg = ((false, 0, 0, -1), (zs, cnt, bs, [⟨th, op, arg⟩])) from (if_neg hq').trans ((if_neg ho').trans (if_pos ho))]
      refine (do_swapW km A B O ca cb co zs bs [] cnt th op arg w h.bx ht hc h.sB.rdW h.sO.rdW hq ho [⟨th, op, arg⟩] rfl rfl).mono ?_
      rintro e w' ⟨G, d, rfl, hx, hs, hQ, hl, _, hg⟩
      exact ⟨A, ca, B, cb, G, d, rfl, h.newO (by omega) (by simp) hx hs hQ hl hg, hg⟩
    | cons x r =>
      by_cases hf : (x.op == partB op) = true
      · rw [show doR zs cnt bs (x :: r) th op arg = ((true, 0, x.arg, x.th), (zs, cnt, bs, r)) from (if_neg hq').trans ((if_neg ho').trans ((if_pos ho).trans (if_pos hf)))]
        obtain ⟨g, ko, rfl, hr⟩ := row_of h.sO
        refine (do_swapD km A B _ ca cb co zs bs (x :: r) cnt th op arg w h.bx ht hc h.sB.rdW h.sO.rdW hq ho g ko x.th x.op x.arg rfl (Nat.succ_pos _) hr hf).mono ?_
        rintro e w' ⟨rfl, hx, hg⟩
        exact ⟨A, ca, B, cb, tailW g ko co, co - 1, rfl, ⟨hx, SegC.kept h.sA hg (.inr h.lA.ne), SegC.kept h.sB hg (.inr h.lB.ne), SegC.kept (n := r.length) (c := co - 1) (seg_tailW h.sO h.kO) hg (.inr (by rw [own_tailW g ko co r.length (x :: r).length (co - 1) co]; exact h.lO.ne)), h.d12, h.d13.right (own_tailW _ _ _ _ _ _ _), h.d23.right (own_tailW _ _ _ _ _ _ _), h.lA.grown hg, h.lB.grown hg, (h.lO.grown hg).same (own_tailW _ _ _ _ _ _ _), h.kA, h.kB, (show r.length ≤ co - 1 by have := h.kO; simp only [List.length_cons] at this; omega), h.bA, h.bB, h.bO.same (own_tailW _ _ _ _ _ _ _), h.nA, h.nB, (fun e => by unfold tailW at e; split at e <;> cases e)⟩, hg⟩
      · rw [show doR zs cnt bs (x :: r) th op arg = ((false, 0, 0, -1), (zs, cnt, bs, (x :: r) ++ [⟨th, op, arg⟩])) from (if_neg hq').trans ((if_neg ho').trans ((if_pos ho).trans (if_neg hf)))]
        refine (do_swapW km A B O ca cb co zs bs (x :: r) cnt th op arg w h.bx ht hc h.sB.rdW h.sO.rdW hq ho ((x :: r) ++ [⟨th, op, arg⟩]) rfl (by simpa [fitsB] using hf)).mono ?_
        rintro e w' ⟨G, d, rfl, hx, hs, hQ, hl, _, hg⟩
        exact ⟨A, ca, B, cb, G, d, rfl, h.newO (by omega) (by simp) hx hs hQ hl hg, hg⟩
  · by_cases hn : zs.length = 400
    · rw [show doR zs cnt bs os th op arg = ((false, 7, 0, -1), (zs, cnt, bs, os)) from by unfold doR; rw [if_neg hq', if_neg (by omega), if_neg (by omega), if_pos ho, if_pos hn]]
      refine (do_pushF km A B O ca cb co zs bs os cnt th op arg w h.bx ht hc h.sB.rdW h.sO.rdW hq ho hn).mono ?_
      rintro e w' ⟨rfl, hbl⟩; exact ⟨A, ca, B, cb, O, co, rfl, h.below hbl, grown_below _ hbl⟩
    · rw [show doR zs cnt bs os th op arg = ((true, 0, arg, -1), (arg :: zs, cnt, bs, os)) from by unfold doR; rw [if_neg hq', if_neg (by omega), if_neg (by omega), if_pos ho, if_neg hn]]
      refine (do_push km A B O ca cb co zs bs os cnt th op arg w h.bx ht hc h.sB.rdW h.sO.rdW hq ho (by omega) (arg :: zs) rfl h.sA.rd).mono ?_
      rintro e w' ⟨G, d, rfl, hx, hs, hQ, hl, _, hg⟩
      exact ⟨G, d, B, cb, O, co, rfl, h.newA (by omega) (by simp) hx hs hQ hl hg, hg⟩
  · have e1 : ¬ (op = 1 ∨ op = 2) := by omega
    have e2 : ¬ op = 3 := by omega
    have e3 : ¬ op = 4 := by omega
    cases zs with
    | nil =>
      rw [show doR [] cnt bs os th op arg = ((true, 14, 0, -1), ([], cnt, bs, os)) from (if_neg hq').trans ((if_neg e1).trans ((if_neg e2).trans ((if_neg e3).trans (if_pos ho))))]
      refine (do_popN km A B O ca cb co [] bs os cnt th op arg w h.bx ht hc h.sB.rdW h.sO.rdW hq ho rfl).mono ?_
      rintro e w' ⟨rfl, hbl⟩; exact ⟨A, ca, B, cb, O, co, rfl, h.below hbl, grown_below _ hbl⟩
    | cons z r =>
      rw [show doR (z :: r) cnt bs os th op arg = ((true, 0, z, -1), (r, cnt, bs, os)) from (if_neg hq').trans ((if_neg e1).trans ((if_neg e2).trans ((if_neg e3).trans (if_pos ho))))]
      obtain ⟨g, ko, rfl, hcell⟩ := h.sA.rd 0 (Nat.succ_pos _)
      refine (do_pop km _ B O ca cb co (z :: r) bs os cnt th op arg w h.bx ht hc h.sB.rdW h.sO.rdW hq ho g ko z rfl (Nat.succ_pos _) (by simpa using hcell)).mono ?_
      rintro e w' ⟨rfl, hx, hg⟩
      exact ⟨tailA g ko ca, ca - 1, B, cb, O, co, rfl, ⟨hx, SegC.kept (n := r.length) (c := ca - 1) (seg_tailI h.sA h.kA) hg (.inr (by rw [own_tailA g ko ca r.length (z :: r).length (ca - 1) ca]; exact h.lA.ne)), SegC.kept h.sB hg (.inr h.lB.ne), SegC.kept h.sO hg (.inr h.lO.ne), h.d12.left (own_tailA _ _ _ _ _ _ _), h.d13.left (own_tailA _ _ _ _ _ _ _), h.d23, (h.lA.grown hg).same (own_tailA _ _ _ _ _ _ _), h.lB.grown hg, h.lO.grown hg, (show r.length ≤ ca - 1 by have := h.kA; simp only [List.length_cons] at this; omega), h.kB, h.kO, h.bA.same (own_tailA _ _ _ _ _ _ _), h.bB, h.bO, (fun e => by unfold tailA at e; split at e <;> cases e), h.nB, h.nO⟩, hg⟩
  · by_cases hn : cnt = 1000000000
    · rw [show doR zs cnt bs os th op arg = ((false, 7, 0, -1), (zs, cnt, bs, os)) from by unfold doR; rw [if_neg hq', if_neg (by omega), if_neg (by omega), if_neg (by omega), if_neg (by omega), if_pos hn]]
      refine (do_cntF km A B O ca cb co zs bs os cnt th op arg w h.bx ht hc h.sB.rdW h.sO.rdW hq ho hn).mono ?_
      rintro e w' ⟨rfl, hbl⟩; exact ⟨A, ca, B, cb, O, co, rfl, h.below hbl, grown_below _ hbl⟩
    · rw [show doR zs cnt bs os th op arg = ((true, 0, cnt, -1), (zs, cnt + 1, bs, os)) from by unfold doR; rw [if_neg hq', if_neg (by omega), if_neg (by omega), if_neg (by omega), if_neg (by omega), if_neg hn]]
      refine (do_cnt km A B O ca cb co zs bs os cnt th op arg w h.bx ht hc h.sB.rdW h.sO.rdW hq ho hn hc0 hc1).mono ?_
      rintro e w' ⟨rfl, hx, hg⟩
      exact ⟨A, ca, B, cb, O, co, rfl, h.cnt hx hg, hg⟩
end Go.Proofs.Ythianfhfamkcmaa
