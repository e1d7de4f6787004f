/-
  Rows of structs: a slice of structs read as a list, and one of the call's own.
-/
import Derived.Test.YtiogebflfnicgaaLists
import Derived.Deep.MidRow
import Derived.Laws.OwnMore
namespace Go.Proofs.Ytiogebflfnicgaa
open Go.RowKit

/-- The cells of so many structs, one behind the other. -/
def flatV {α : Type} (f : α → List Value) (l : List α) : List Value := (l.map f).flatten
theorem flatV_len {α : Type} {f : α → List Value} {s : Nat} (hf : ∀ x, (f x).length = s) : ∀ l : List α, (flatV f l).length = l.length * s
  | [] => by simp [flatV]
  | x :: l => by
    have := flatV_len hf l
    unfold flatV at this ⊢
    rw [List.map_cons, List.flatten_cons, List.length_append, this, hf, List.length_cons, Nat.add_mul]
    omega
theorem flatV_get {α : Type} {f : α → List Value} {s : Nat} (hf : ∀ x, (f x).length = s) : ∀ (l : List α) (i j : Nat) (x : α), l[i]? = some x → j < s → (flatV f l)[i * s + j]? = (f x)[j]?
  | [], i, _, _, h, _ => by simp at h
  | y :: l, 0, j, x, h, hj => by
    simp at h
    subst h
    unfold flatV
    rw [List.map_cons, List.flatten_cons, Nat.zero_mul, Nat.zero_add, List.getElem?_append_left (by rw [hf]; exact hj)]
  | y :: l, i + 1, j, x, h, hj => by
    have ih := flatV_get hf l i j x (by simpa using h) hj
    unfold flatV at ih ⊢
    rw [List.map_cons, List.flatten_cons, List.getElem?_append_right (by rw [hf, Nat.add_mul]; omega), hf, ← ih]
    congr 1
    rw [Nat.add_mul]; omega

/-- A slice of structs reads as this list. -/
def RdR {α : Type} (f : α → List Value) (w : World) (A : Option Addr) (l : List α) : Prop := l = [] ∨ ∃ b o, A = some ⟨b, o, none⟩ ∧ w.rangeAt b o (flatV f l)
theorem RdR.nil {α : Type} (f : α → List Value) (w : World) (A : Option Addr) : RdR f w A [] := .inl rfl
theorem RdR.row {α : Type} {f : α → List Value} {s : Nat} (hf : ∀ x, (f x).length = s) {w : World} {A : Option Addr} {l : List α} (h : RdR f w A l) (i : Nat) (x : α) (hx : l[i]? = some x) :
    ∃ b o, A = some ⟨b, o, none⟩ ∧ w.rangeAt b (o + i * s) (f x) := by
  rcases h with rfl | ⟨b, o, rfl, hr⟩
  · simp at hx
  · refine ⟨b, o, rfl, fun j v hv => ?_⟩
    have hj : j < s := by have := (List.getElem?_eq_some_iff.1 hv).1; rwa [hf] at this
    have := hr (i * s + j) v (by rw [flatV_get hf l i j x hx hj]; exact hv)
    rwa [← Nat.add_assoc] at this
theorem RdR.below {α : Type} {f : α → List Value} {w w' : World} {A : Option Addr} {l : List α} (h : RdR f w A l) (hb : Below w.heap.size w w') : RdR f w' A l := by
  rcases h with rfl | ⟨b, o, rfl, hr⟩
  · exact .inl rfl
  · exact .inr ⟨b, o, rfl, fun j v hv => cell_keep hb (hr j v hv)⟩

/-- A slice of structs of the call's own. -/
def OwnR {α : Type} (f : α → List Value) (s : Nat) (T : TypeId) (B : Nat) (w : World) (A : Option Addr) (c : Nat) (l : List α) : Prop := w.ownsRow B T s (.slice A l.length c) l.length (flatV f l)
theorem OwnR.rd {α : Type} {f : α → List Value} {s : Nat} {T : TypeId} {B : Nat} {w : World} {A : Option Addr} {c : Nat} {l : List α} (h : OwnR f s T B w A c l) : RdR f w A l := by
  rcases h.2 with ⟨h1, h2⟩ | ⟨g, cap, cur, h1, hg, hh, hn, hm, hs, ht⟩
  · exact .inl (List.eq_nil_of_length_eq_zero h2)
  · simp only [Value.slice.injEq] at h1
    obtain ⟨rfl, _, rfl⟩ := h1
    refine .inr ⟨g, 0, rfl, fun j v hv => ?_⟩
    have hj : j < (flatV f l).length := (List.getElem?_eq_some_iff.1 hv).1
    rw [← ht, List.getElem?_take] at hv
    split at hv
    · rw [Nat.zero_add]
      rw [cell_of_row w g j cur T (0, 0) hh]
      simpa using hv
    · cases hv
theorem OwnR.below {α : Type} {f : α → List Value} {s : Nat} {T : TypeId} {B : Nat} {w w' : World} {A : Option Addr} {c : Nat} {l : List α} (h : OwnR f s T B w A c l) (hb : Below w.heap.size w w') : OwnR f s T B w' A c l := own_below h hb
theorem OwnR.base {α : Type} {f : α → List Value} {s : Nat} {T : TypeId} {B B' : Nat} {w : World} {A : Option Addr} {c : Nat} {l : List α} (h : OwnR f s T B w A c l) (hb : B' ≤ B) : OwnR f s T B' w A c l := own_base h hb

/-- So many values written over a list from here on. -/
def setSeg : List Value → Nat → List Value → List Value
  | xs, _, [] => xs
  | xs, o, v :: r => setSeg (xs.set o v) (o + 1) r
theorem setSeg_get : ∀ (vs xs : List Value) (o i : Nat), (setSeg xs o vs)[i]? = if o ≤ i ∧ i < o + vs.length ∧ i < xs.length then vs[i - o]? else xs[i]?
  | [], xs, o, i => by
    unfold setSeg
    split
    · rename_i h; simp at h; omega
    · rfl
  | v :: r, xs, o, i => by
    unfold setSeg
    rw [setSeg_get r (xs.set o v) (o + 1) i, List.length_set, List.getElem?_set]
    simp only [List.length_cons]
    by_cases h1 : i = o
    · subst h1
      by_cases h2 : i < xs.length
      · rw [if_neg (by omega), if_pos rfl, if_pos h2, if_pos (by omega)]; simp
      · rw [if_neg (by omega), if_pos rfl, if_neg h2, if_neg (by omega), List.getElem?_eq_none (by omega)]
    · rw [if_neg (Ne.symm h1)]
      by_cases h3 : o + 1 ≤ i ∧ i < o + 1 + r.length ∧ i < xs.length
      · rw [if_pos h3, if_pos (by omega)]
        rw [show i - o = (i - (o + 1)) + 1 from by omega, List.getElem?_cons_succ]
      · rw [if_neg h3, if_neg (by omega)]
theorem flatV_set {α : Type} {f : α → List Value} {s : Nat} (hf : ∀ x, (f x).length = s) (l : List α) (k : Nat) (x : α) (hk : k < l.length) : setSeg (flatV f l) (k * s) (f x) = flatV f (l.set k x) := by
  apply List.ext_getElem?
  intro i
  rw [setSeg_get, hf, flatV_len hf]
  by_cases hs : s = 0
  · subst hs
    rw [if_neg (by omega)]
    have h1 : flatV f l = [] := List.eq_nil_of_length_eq_zero (by rw [flatV_len hf]; omega)
    have h2 : flatV f (l.set k x) = [] := List.eq_nil_of_length_eq_zero (by rw [flatV_len hf]; omega)
    rw [h1, h2]
  have hpos : 0 < s := Nat.pos_of_ne_zero hs
  by_cases hi : i < l.length * s
  · have hq : i / s < l.length := (Nat.div_lt_iff_lt_mul hpos).2 hi
    have hr : i % s < s := Nat.mod_lt _ hpos
    have hd : i / s * s + i % s = i := by rw [Nat.mul_comm]; exact Nat.div_add_mod i s
    by_cases hkk : i / s = k
    · have hg := flatV_get hf (l.set k x) k (i % s) x (by rw [List.getElem?_set, if_pos rfl, if_pos hk]) hr
      have hik : k * s + i % s = i := by rw [← hkk]; exact hd
      rw [hik] at hg
      rw [hg, if_pos ⟨by omega, by omega, hi⟩, show i - k * s = i % s from by omega]
    · have hy : l[i / s]? = some (l[i / s]) := List.getElem?_eq_getElem hq
      have hg1 := flatV_get hf l (i / s) (i % s) _ hy hr
      have hg2 := flatV_get hf (l.set k x) (i / s) (i % s) _ (by rw [List.getElem?_set, if_neg (fun h => hkk h.symm)]; exact hy) hr
      rw [hd] at hg1 hg2
      rw [hg2, ← hg1]
      refine if_neg (fun hh => hkk ?_)
      have h1 := hh.1
      have h2 := hh.2.1
      apply Nat.le_antisymm
      · apply Nat.lt_succ_iff.1
        rw [Nat.div_lt_iff_lt_mul hpos, Nat.succ_mul]; omega
      · rw [Nat.le_div_iff_mul_le hpos]; exact h1
  · rw [if_neg (by omega), List.getElem?_eq_none (by rw [flatV_len hf]; omega), List.getElem?_eq_none (by rw [flatV_len hf, List.length_set]; omega)]

theorem owns_setCells {B : Nat} {e : TypeId} {size n cap g : Nat} : ∀ (vs : List Value) (o : Nat) (w : World) (xs : List Value), w.ownsRow B e size (.slice (some ⟨g, 0, none⟩) n cap) n xs → o + vs.length ≤ xs.length →
    (w.setCells g o vs).ownsRow B e size (.slice (some ⟨g, 0, none⟩) n cap) n (setSeg xs o vs)
  | [], _, _, _, h, _ => h
  | v :: r, o, w, xs, h, hl => by
    rw [World.setCells, setSeg]
    simp only [List.length_cons] at hl
    exact owns_setCells r (o + 1) _ _ (h.stored o v).1 (by rw [List.length_set]; omega)
theorem OwnR.set {α : Type} {f : α → List Value} {s : Nat} (hf : ∀ x, (f x).length = s) {T : TypeId} {B g c : Nat} {w : World} {l : List α} (h : OwnR f s T B w (some ⟨g, 0, none⟩) c l) (k : Nat) (x : α) (hk : k < l.length) :
    OwnR f s T B (w.setCells g (k * s) (f x)) (some ⟨g, 0, none⟩) c (l.set k x) := by
  have h1 := owns_setCells (f x) (k * s) w _ h (by rw [hf, flatV_len hf, ← Nat.succ_mul]; exact Nat.mul_le_mul_right s hk)
  unfold OwnR
  rw [← flatV_set hf l k x hk, List.length_set]
  exact h1
/-- An element's cells are there. -/
theorem OwnR.there {α : Type} {f : α → List Value} {s : Nat} (hf : ∀ x, (f x).length = s) {T : TypeId} {B g c : Nat} {w : World} {l : List α} (h : OwnR f s T B w (some ⟨g, 0, none⟩) c l) (k : Nat) (hk : k < l.length) : w.there g (k * s) s := by
  intro j hj
  obtain ⟨b, o, hA, hr⟩ := h.rd.row hf k _ (List.getElem?_eq_getElem hk)
  simp only [Option.some.injEq, Addr.mk.injEq, and_true] at hA
  obtain ⟨rfl, rfl⟩ := hA
  rw [Nat.zero_add] at hr
  refine ⟨hr.isSome j (by rw [hf]; exact hj), h.frozenAt (k * s + j)⟩
theorem below_setCells {W : World} {B g : Nat} (hg : B ≤ g) : ∀ (vs : List Value) (o : Nat) (w : World), Below B W w → Below B W (w.setCells g o vs)
  | [], _, _, h => h
  | v :: r, o, _, h => below_setCells hg r (o + 1) _ (h.setCell hg v)
end Go.Proofs.Ytiogebflfnicgaa
