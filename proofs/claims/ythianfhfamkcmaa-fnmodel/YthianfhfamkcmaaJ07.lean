/-
  Threads (chapter 3): contracts of the model's ThreadOK and of what it calls.
  append onto a row of the call's own, the source a slice that reads as a list (nil, empty or not).
  Contracts: writeFault, StoreCell of the program; l01Load, l01Store, StoreCell of the model (chapter 2).
  Contracts: l01Load, l01Store, StoreCell of the model (chapter 2).
-/
import Derived.Test.YthianfhfamkcmaaJ01
import Derived.Test.YthianfhfamkcmaaJ06
import Derived.Maps.AppendAt
namespace Go.Proofs.Ythianfhfamkcmaa
open Go.RowKit

theorem l01Bit_any (b : Bool) (w : World) : Calls Try.prog 135 #[.bool b] w fun e w' => e = .returned (.int .i64 (if b = true then 1 else 0)) ∧ w = w' := by
  cases b
  all_goals
    go_enter Try.func135, Try.ntmps135
    go_wp2
    go_ret
    exact ⟨rfl, rfl⟩
theorem bit_true (w : World) : Calls Try.prog 135 #[.bool true] w fun e w' => e = .returned (.int .i64 1) ∧ w = w' := l01Bit_any true w
theorem bit_false (w : World) : Calls Try.prog 135 #[.bool false] w fun e w' => e = .returned (.int .i64 0) ∧ w = w' := l01Bit_any false w

set_option maxHeartbeats 1000000 in
theorem l02Arg_any (op arg : Int) (w : World) : Calls Try.prog 106 #[.int .i64 op, .int .i64 arg] w fun e w' => e = .returned (.bool (argB op arg)) ∧ w = w' := by
  by_cases h : op = 1 ∨ op = 3 ∨ op = 4
  · have HV : Hid (argB op arg = inB arg 0 999) := by unfold Hid argB; rw [if_pos ((bringsB_iff op).2 h)]
    rcases h with rfl | rfl | rfl
    all_goals
      go_enter Try.func106, Try.ntmps106
      go_wp2_with (first | (go_at_call 135; refine (bit_true _).mono ?_; rintro e w' ⟨rfl, rfl⟩) | (go_at_call 102; refine (l01In_any _ _ _ _).mono ?_; rintro e w' ⟨rfl, rfl⟩))
      go_ret
      exact ⟨ret_bool HV.out.symm, rfl⟩
  · have HV : Hid (argB op arg = inB arg 0 0) := by unfold Hid argB; rw [if_neg (fun e => h ((bringsB_iff op).1 e))]
    have g1 : (op == 1) = false := by simp; omega
    have g3 : (op == 3) = false := by simp; omega
    have g4 : (op == 4) = false := by simp; omega
    clear h
    go_enter Try.func106, Try.ntmps106
    go_wp2_with (first | (go_at_call 135; refine (bit_false _).mono ?_; rintro e w' ⟨rfl, rfl⟩) | (go_at_call 102; refine (l01In_any _ _ _ _).mono ?_; rintro e w' ⟨rfl, rfl⟩))
    go_ret
    exact ⟨ret_bool HV.out.symm, rfl⟩

theorem regsB_at {r0 r1 r2 r3 r4 : Int} {k : Nat} (hk : k < 5) (h : wordB ([r0, r1, r2, r3, r4].getD k 0) = false) : regsB r0 r1 r2 r3 r4 = false := by
  rw [← wordsB_regs]; exact wordsB_false (by simpa using hk) h
theorem regsB_all {r0 r1 r2 r3 r4 : Int} (h : ∀ j, j < 5 → wordB ([r0, r1, r2, r3, r4].getD j 0) = true) : regsB r0 r1 r2 r3 r4 = true := by
  rw [← wordsB_regs]; exact (wordsB_iff _).2 h

/-- Where one of these is not so, a thread is not right. -/
theorem thB_bad (id st op arg pc til : Int) (per can : Bool) (r0 r1 r2 r3 r4 code res : Int) (h : inB st 0 2 = false ∨ inB code 0 19 = false ∨ inB res 0 1000000000 = false ∨ inB til 0 1000000 = false ∨ regsB r0 r1 r2 r3 r4 = false) : thB id st op arg pc til per can r0 r1 r2 r3 r4 code res = false := by
  cases h0 : inB id 0 3
  · exact thB_id id st op arg pc til per can r0 r1 r2 r3 r4 code res h0
  by_cases s0 : st = 0
  · subst s0
    rw [thB_idle _ _ _ _ _ _ _ _ _ _ _ _ _ _ h0]
    cases hb : idleB op arg pc til per can r0 r1 r2 r3 r4 code res
    · rfl
    · simp [idleB, bareB, zeroB, regsB, wordB, inB] at *
      obtain ⟨⟨⟨⟨⟨⟨⟨⟨rfl, rfl⟩, rfl⟩, rfl⟩, rfl⟩, rfl⟩, hz⟩, hc⟩, hr⟩ := hb
      omega
  have hcall : ∀ b, callB op arg pc til r0 r1 r2 r3 r4 code res = b → (inB code 0 19 = false ∨ inB res 0 1000000000 = false ∨ inB til 0 1000000 = false ∨ regsB r0 r1 r2 r3 r4 = false) → callB op arg pc til r0 r1 r2 r3 r4 code res = false := by
    intro b hb hx
    cases b
    · exact hb
    · exfalso
      simp only [callB, Bool.and_eq_true, beq_iff_eq] at hb
      obtain ⟨⟨⟨⟨⟨⟨ho, ha⟩, ht⟩, hp⟩, hr⟩, hc⟩, hs⟩ := hb
      subst hc hs
      rcases hx with hx | hx | hx | hx
      · exact absurd hx (by decide)
      · exact absurd hx (by decide)
      · have h1 := inB_false hx
        unfold tilB at ht
        have h2 := inB_true ht
        split at h2 <;> omega
      · rw [hr] at hx; cases hx
  by_cases s1 : st = 1
  · subst s1
    rw [thB_runs _ _ _ _ _ _ _ _ _ _ _ _ _ _ h0]
    exact hcall _ rfl (by rcases h with h | h; exact absurd h (by decide); exact h)
  by_cases s2 : st = 2
  · subst s2
    rw [thB_parked _ _ _ _ _ _ _ _ _ _ _ _ _ _ h0, hcall _ rfl (by rcases h with h | h; exact absurd h (by decide); exact h)]; rfl
  · exact thB_other id st op arg pc til per can r0 r1 r2 r3 r4 code res s0 s1 s2

/-- What is left of it in a call. -/
theorem thB_call (id st op arg pc til : Int) (per can : Bool) (r0 r1 r2 r3 r4 code res : Int) (h0 : inB id 0 3 = true) (hs : st = 1 ∨ st = 2) (ht : inB til 0 1000000 = true) (hr : regsB r0 r1 r2 r3 r4 = true) :
    thB id st op arg pc til per can r0 r1 r2 r3 r4 code res = (opB op && argB op arg && inB pc 0 16 && (st != 2 || waitB op) && (til == 0 || waitB op) && code == 0 && res == 0) := by
  have e : tilB op til = (til == 0 || waitB op) := by
    unfold tilB
    cases hw : waitB op
    · rw [if_neg (by decide), Bool.or_false, Bool.eq_iff_iff, inB_iff]; simp; omega
    · rw [if_pos rfl, ht]; simp
  rcases hs with rfl | rfl
  · rw [thB_runs _ _ _ _ _ _ _ _ _ _ _ _ _ _ h0]
    unfold callB
    rw [e, hr]
    generalize opB op = b1; generalize argB op arg = b2; generalize (til == 0 || waitB op) = b3; generalize inB pc 0 16 = b4
    cases b1 <;> cases b2 <;> cases b3 <;> cases b4 <;> simp
  · rw [thB_parked _ _ _ _ _ _ _ _ _ _ _ _ _ _ h0]
    unfold callB
    rw [e, hr]
    generalize opB op = b1; generalize argB op arg = b2; generalize (til == 0) = b3; generalize inB pc 0 16 = b4; generalize waitB op = b5; generalize (code == 0) = b6; generalize (res == 0) = b7
    cases b1 <;> cases b2 <;> cases b3 <;> cases b4 <;> cases b5 <;> cases b6 <;> cases b7 <;> rfl
theorem thB_bare (id op arg pc til : Int) (per can : Bool) (r0 r1 r2 r3 r4 code res : Int) (h0 : inB id 0 3 = true) (hc : inB code 0 19 = true) (hr : inB res 0 1000000000 = true) :
    thB id 0 op arg pc til per can r0 r1 r2 r3 r4 code res = (op == 0 && arg == 0 && pc == 0 && til == 0 && per == false && can == false && zeroB r0 r1 r2 r3 r4) := by
  rw [thB_idle _ _ _ _ _ _ _ _ _ _ _ _ _ _ h0]
  unfold idleB bareB
  rw [hc, hr, Bool.and_true, Bool.and_true]
end Go.Proofs.Ythianfhfamkcmaa

namespace Go.Proofs.Ythianfhfamkcmaa
open Go.RowKit

theorem run_app_nil {P : Program} (w : World) (base : Nat) (t ty e : TypeId) (i : TypeInfo) (size : Nat) (ht : P.underlying t = some (.slice e)) (hi : P.info? e = some i)
    (v : Value) (n : Nat) (xs : List Value) (hown : w.ownsRow base e size v n xs) (c : Nat) : (Builtin.append_ #[t, t] ty #[v, .slice none 0 c]).run P w = .ok v w := by
  rcases hown.2 with ⟨rfl, _⟩ | ⟨g, cap, cur, rfl, _, _, hnc, _⟩
  · simp [Builtin.append_, run_underlying ht, sizeOf, typeInfo, hi, Builtin.lenOf, Builtin.firstCells]
  · simp [Builtin.append_, run_underlying ht, sizeOf, typeInfo, hi, Builtin.lenOf, Builtin.firstCells, hnc, storeCells]

theorem wpList_append_rd {P : Program} (w : World) {ops : Array Oper} {rest : List Oper} {o : Oper} {a : Act} {Q : Exit → Act → World → Prop} (hgd : o.guard = none) (s x : Operand) (t : TypeId)
    (ho : o.op = .call { callee := .builtin .append, args := #[s, x], argTypes := #[t, t] })
    (base : Nat) (e : TypeId) (i : TypeInfo) (z : Value) (bytes : Nat) (ht : P.underlying t = some (.slice e)) (hi : P.info? e = some i) (hz : i.zero = some z)
    (hsize : i.size = 1) (hby : i.bytes = bytes) (hzs : z.cells.size = 1)
    (v : Value) (xs : List Int) (hs : a.eval s = v) (hown : w.ownsRow base e 1 v xs.length (ints xs))
    (A : Option Addr) (c : Nat) (ys : List Int) (hx : a.eval x = .slice A ys.length c) (hA : Rd w A ys)
    (hbytes : (xs.length + ys.length) * bytes ≤ 140737488355328) (h63 : xs.length + ys.length ≤ maxLen) (hbase : base ≤ w.heap.size)
    (h : ∀ B d w', w'.ownsRow base e 1 (.slice B (xs ++ ys).length d) (xs ++ ys).length (ints (xs ++ ys)) → w.grownBy w' v.ownBlock → wpList P ops Q rest (a.put o.dst (.slice B (xs ++ ys).length d)) w') :
    wpList P ops Q (o :: rest) a w := by
  have hlen : (xs ++ ys).length = xs.length + ys.length := by simp
  have hform : ∀ (v' : Value) (w' : World), w'.ownsRow base e 1 v' (xs.length + ys.length) (ints xs ++ ints ys) → ∃ B d, v' = .slice B (xs ++ ys).length d ∧ w'.ownsRow base e 1 (.slice B (xs ++ ys).length d) (xs ++ ys).length (ints (xs ++ ys)) := by
    intro v' w' ho'
    have he : ints xs ++ ints ys = ints (xs ++ ys) := by simp [ints]
    rw [he] at ho'
    rcases ho'.2 with ⟨rfl, h0⟩ | ⟨g, cap, cur, rfl, r⟩
    · refine ⟨none, 0, ?_, ?_⟩
      · rw [hlen, h0]
      · rw [hlen, h0]; rw [h0] at ho'; exact ho'
    · exact ⟨_, _, by rw [hlen], by rw [hlen]; exact ho'⟩
  rcases A with _ | ad
  · have hm : ys.length = 0 := by
      rcases Nat.eq_zero_or_pos ys.length with h0 | h0
      · exact h0
      · obtain ⟨b, o, h, _⟩ := hA 0 h0
        cases h
    obtain rfl : ys = [] := List.eq_nil_of_length_eq_zero hm
    refine wpList_plain hgd fun K hK' => ?_
    have hrun := run_app_nil (P := P) w base t o.type e i 1 ht hi v xs.length (ints xs) hown c
    obtain ⟨B, d, hv, hown'⟩ := hform v w (by simpa [ints] using hown)
    unfold Oper.wp
    simp [execOp, ho, resolve, invoke, builtin, hs, hx, hrun, Result.andThen]
    rw [hv]
    exact hK' _ _ (h B d w hown' (World.grownBy.refl _ _))
  · refine wpList_append_own w hgd s x t ho base e i z 1 bytes ht hi hz hsize hby hzs (by decide) v xs.length (ints xs) hs hown ad ys.length c (ints ys) hx (by rw [length_ints]; omega) ?_ (ints_one _) h63 hbytes hbase ?_
    · intro j u hu
      have hj : j < ys.length := by have := (List.getElem?_eq_some_iff.1 hu).1; rwa [length_ints] at this
      obtain ⟨ad', hA', hc⟩ := rd_cells hA (by omega)
      obtain rfl := Option.some.inj hA'
      exact hc j u hu
    · intro v' w' h2 h3 _
      obtain ⟨B, d, rfl, hown'⟩ := hform v' w' h2
      exact h B d w' hown' h3

theorem below_alloc4 (w : World) (a b c d : Obj) : Below w.heap.size w ((((w.alloc a).alloc b).alloc c).alloc d) := below_trans (below_alloc3 _ _ _ _) (below_alloc _ _)
theorem own_empty (w0 : World) (base k : Nat) (e : TypeId) (hk : w0.heap.size = k) (hb : base ≤ k) : (w0.alloc (.cells #[] e)).ownsRow base e 1 (.slice (some ⟨k, 0, none⟩) 0 0) ([] : List Int).length (ints []) := by
  subst hk
  exact World.ownsRow_lit w0 #[] 0 hb (Nat.zero_le _) rfl

end Go.Proofs.Ythianfhfamkcmaa

namespace Go.Proofs.Ythianfhfamkcmaa
open Go.RowKit

def writeCode (zs : List Int) (p v : Int) : Int := if cellCode zs p = 0 then (if wordB v = true then 0 else 4) else cellCode zs p
def storeZs (zs : List Int) (p v : Int) : List Int := if writeCode zs p v = 0 then zs.set p.toNat v else []
theorem writeCode_zero {zs : List Int} {p v : Int} (h : writeCode zs p v = 0) : cellCode zs p = 0 ∧ wordB v = true := by
  unfold writeCode at h
  by_cases h1 : cellCode zs p = 0
  · rw [if_pos h1] at h
    cases hw : wordB v
    · rw [hw] at h; simp at h
    · exact ⟨h1, rfl⟩
  · rw [if_neg h1] at h; exact absurd h h1

/-- What a struct result of the model's and the program's looks like: an arena and a code. -/
theorem ret_agg_int {k : IntKind} {v : Value} {a b : Int} (h : a = b) : Ending.returned (.tuple #[.agg #[v], .int k a]) = .returned (.tuple #[.agg #[v], .int k b]) := by rw [h]

end Go.Proofs.Ythianfhfamkcmaa

namespace Go.Proofs.Ythianfhfamkcmaa
open Go.RowKit

def loadZ (zs : List Int) (p : Int) : Int := if inB p 1 ((zs.length : Int) - 1) = true then zs.getD p.toNat 0 else 0
def putZ (zs : List Int) (p v : Int) : List Int := if inB p 1 ((zs.length : Int) - 1) = true ∧ wordB v = true then zs.set p.toNat v else zs
theorem putZ_length (zs : List Int) (p v : Int) : (putZ zs p v).length = zs.length := by
  unfold putZ; split <;> simp

theorem NewA.put {B : Nat} {w : World} {g c : Nat} {zs : List Int} (h : NewA B w (some ⟨g, 0, none⟩) c zs) (k : Nat) (v : Int) : NewA B (w.setCell ⟨g, k, none⟩ (.int .i64 v)) (some ⟨g, 0, none⟩) c (zs.set k v) := by
  unfold NewA at *
  have := (h.stored k (.int .i64 v)).1
  rw [ints_set] at this
  rwa [List.length_set]

theorem eqArena_same (A B : Option Addr) (c d : Nat) (xs : List Int) (w : World) (hn : xs.length ≤ maxLen) (hA : Rd w A xs) (hB : Rd w B xs) :
    Calls Try.prog 94 #[.agg #[.slice A xs.length c], .agg #[.slice B xs.length d]] w fun e w' => e = .returned (.bool true) ∧ Below w.heap.size w w' :=
  (eqArena_any A B c d xs xs w hn hn hA hB).mono fun e w' ⟨he, hb⟩ => ⟨by rw [he, decide_eq_true rfl], hb⟩
theorem NewA.kept {B : Nat} {w w' : World} {A : Option Addr} {c : Nat} {zs : List Int} {row : Option Nat} (h : NewA B w A c zs) (hg : w.grownBy w' row) (hne : Value.ownBlock (.slice A zs.length c) = none ∨ Value.ownBlock (.slice A zs.length c) ≠ row) : NewA B w' A c zs := World.ownsRow.kept h hg hne
theorem ranges_ne {v u : Value} {lo hi lo' hi' : Nat} (h1 : ∀ k, v.ownBlock = some k → lo ≤ k ∧ k < hi) (h2 : ∀ k, u.ownBlock = some k → lo' ≤ k ∧ k < hi') (hd : hi ≤ lo' ∨ hi' ≤ lo) : v.ownBlock = none ∨ v.ownBlock ≠ u.ownBlock := by
  cases hv : v.ownBlock with
  | none => exact .inl rfl
  | some k =>
    refine .inr fun e => ?_
    have a := h1 k hv
    have b := h2 k e.symm
    omega
theorem storeZs_len (zs : List Int) (p v : Int) : (storeZs zs p v).length ≤ zs.length := by
  unfold storeZs; split <;> simp

theorem frozen_keep {w w' : World} (hb : Below w.heap.size w w') {b o : Nat} (hlt : b < w.heap.size) (h : w.frozen? ⟨b, o, none⟩ = false) : w'.frozen? ⟨b, o, none⟩ = false :=
  (hb.frozen (p := ⟨b, o, none⟩) hlt).trans h

end Go.Proofs.Ythianfhfamkcmaa
