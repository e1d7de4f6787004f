/-
  Models (chapter 11): the program's ModelOK.
-/
import Derived.Test.YthianfhfamkcmaaJ11
import Derived.Test.YthianfhfamkcmaaJ05
namespace Go.Proofs.Ythianfhfamkcmaa
open Go.RowKit

theorem okVal_any (v : Int) (w : World) : Calls Try.prog 73 #[.int .i64 v] w fun e w' => e = .returned (.bool (!inB v 0 999)) ∧ w = w' := by
  have HE : Hid (argB 4 v = inB v 0 999) := by unfold Hid argB; rw [if_pos (by decide)]
  go_enter Try.func73, Try.ntmps73
  go_wp2_with (first | (go_at_call 74; refine (argOK_any _ _ _).mono ?_; rintro e w' ⟨rfl, rfl⟩; rw [HE.out]))
  go_ret
  exact ⟨rfl, rfl⟩
theorem badF_no {zs : List Int} {k : Nat} {v : Int} (h : zs[k]? = some v) (hv : inB v 0 999 = true) : (zs.drop k).all (fun v => inB v 0 999) = (zs.drop (k + 1)).all (fun v => inB v 0 999) := by rw [dropW h, List.all_cons, hv]; rfl
theorem badF_yes {zs : List Int} {k : Nat} {v : Int} (h : zs[k]? = some v) (hv : inB v 0 999 = false) : (zs.drop k).all (fun v => inB v 0 999) = false := by rw [dropW h, List.all_cons, hv]; rfl

set_option maxHeartbeats 2000000 in
theorem idxVals_any (A : Option Addr) (c : Nat) (zs : List Int) (w : World) (hz : zs.length ≤ 1048576) (hA : Rd w A zs) :
    Calls Try.prog 124 #[.slice A zs.length c, .func (.func 73) #[] #[]] w fun e w' => (∃ n : Int, e = .returned (.int .i64 n) ∧ decide (0 ≤ n) = !(zs.all (fun v => inB v 0 999))) ∧ Below w.heap.size w w' := by
  have HA := Lib.hid hA; clear hA
  go_enter Try.func124, Try.ntmps124
  go_wp2_with fail
  go_loopw [8] (fun i wr => ∃ k : Nat, k ≤ zs.length ∧ i = .int .i64 k ∧ zs.all (fun v => inB v 0 999) = (zs.drop k).all (fun v => inB v 0 999) ∧ Below w.heap.size w wr) (fun i _ => zs.length - (intOf i).toNat)
  case atStart => exact ⟨0, Nat.zero_le _, rfl, rfl, Below.refl _ _⟩
  case round =>
    obtain ⟨k, hk, rfl, hall, hbl⟩ := hrel
    have HL := Lib.hid hall; have HB := Lib.hid hbl
    clear hall hbl
    by_cases hlt : k < zs.length
    · have hlt' : (k : Int) < zs.length := by omega
      obtain ⟨v, hv⟩ : ∃ v, zs[k]? = some v := ⟨_, List.getElem?_eq_getElem hlt⟩
      obtain ⟨b, o, rfl, hc⟩ := HA.out k hlt
      have HC : Hid (wr.cell? ⟨b, o + k, none⟩ = some (.int .i64 v)) := by
        unfold Hid
        have h1 := cell_keep HB.out hc
        rw [h1]
        congr 2
        rw [List.getD_eq_getElem?_getD, hv]; rfl
      have HV := Lib.hid hv
      clear hc hv
      have hc := HC.out
      cases q : inB v 0 999
      · have HN := Lib.hid (badF_yes HV.out q)
        go_wp2_with (first | (go_at_call 73; refine (okVal_any _ _).mono ?_; rintro e w' ⟨rfl, rfl⟩; rw [q]))
        go_ret
        refine ⟨⟨k, rfl, ?_⟩, HB.out⟩
        rw [HL.out, HN.out, decide_eq_true (by omega)]; rfl
      · have HN := Lib.hid (badF_no HV.out q)
        go_wp2_with (first | (go_at_call 73; refine (okVal_any _ _).mono ?_; rintro e w' ⟨rfl, rfl⟩; rw [q]))
        go_roundw
        case rel => exact ⟨k + 1, by omega, by go_num, HL.out.trans HN.out, HB.out⟩
        case measure => simp [intOf]; omega
    · have hge : ¬ (k : Int) < zs.length := by omega
      have HF : Hid (zs.all (fun v => inB v 0 999) = true) := by unfold Hid; rw [HL.out, show k = zs.length from by omega, List.drop_length]; rfl
      go_wp2
      go_ret
      exact ⟨⟨-1, rfl, by rw [HF.out]; rfl⟩, HB.out⟩

set_option maxHeartbeats 1000000 in
theorem hasBad_any (A : Option Addr) (c : Nat) (zs : List Int) (w : World) (hz : zs.length ≤ 1048576) (hA : Rd w A zs) :
    Calls Try.prog 72 #[.slice A zs.length c, .func (.func 73) #[] #[]] w fun e w' => e = .returned (.bool (!(zs.all (fun v => inB v 0 999)))) ∧ Below w.heap.size w w' := by
  go_enter Try.func72, Try.ntmps72
  go_wp2_with fail
  refine (idxVals_any A c zs w hz hA).mono ?_
  rintro e w1 ⟨⟨n, rfl, hn⟩, hb⟩
  have HN := Lib.hid hn; have HB := Lib.hid hb
  clear hn hb
  by_cases h0 : 0 ≤ n
  · have hd : decide (0 ≤ n) = true := decide_eq_true h0
    go_wp2
    go_ret
    exact ⟨ret_bool (hd.symm.trans HN.out), HB.out⟩
  · have hd : decide (0 ≤ n) = false := decide_eq_false h0
    go_wp2
    go_ret
    exact ⟨ret_bool (hd.symm.trans HN.out), HB.out⟩

theorem md_1 {zs : List Int} {cnt : Int} {bs os : List Wtr} (h : ¬ zs.length ≤ 400) : mdB zs cnt bs os = false := by unfold mdB; rw [decide_eq_false h]; rfl
theorem md_2 {zs : List Int} {cnt : Int} {bs os : List Wtr} (h : inB cnt 0 1000000000 = false) : mdB zs cnt bs os = false := by unfold mdB; rw [h]; simp
theorem md_3 {zs : List Int} {cnt : Int} {bs os : List Wtr} (h : ¬ os.length ≤ 1) : mdB zs cnt bs os = false := by unfold mdB; rw [decide_eq_false h]; simp
theorem md_4 {zs : List Int} {cnt : Int} {bs os : List Wtr} (h : zs.all (fun v => inB v 0 999) = false) : mdB zs cnt bs os = false := by unfold mdB; rw [h]; simp
theorem md_5 {zs : List Int} {cnt : Int} {bs os : List Wtr} (h1 : zs.length ≤ 400) (h2 : inB cnt 0 1000000000 = true) (h3 : os.length ≤ 1) (h4 : zs.all (fun v => inB v 0 999) = true) : mdB zs cnt bs os = wsB bs os := by unfold mdB; rw [decide_eq_true h1, h2, decide_eq_true h3, h4]; rfl

set_option maxHeartbeats 2000000 in
theorem implModelOK_any (A B O : Option Addr) (ca cb co : Nat) (zs : List Int) (bs os : List Wtr) (cnt : Int) (w : World) (hz : zs.length ≤ 1048576) (ht : bs.length ≤ 1048576) (hc : os.length ≤ 1048576) (hA : Rd w A zs) (hT : RdR Wtr.cs w B bs) (hC : RdR Wtr.cs w O os) :
    Calls Try.prog 24 #[.agg #[.slice A zs.length ca, .int .i64 cnt, .slice B bs.length cb, .slice O os.length co]] w fun e w' => e = .returned (.bool (mdB zs cnt bs os)) ∧ Below w.heap.size w w' := by
  have HA := Lib.hid hA; have HT := Lib.hid hT; have HC := Lib.hid hC; clear hA hT hC
  by_cases q1 : zs.length ≤ 400
  rotate_left
  · have HV := Lib.hid (md_1 (cnt := cnt) (bs := bs) (os := os) q1)
    have q1' : (400 : Int) < (zs.length : Int) := by omega
    go_enter Try.func24, Try.ntmps24
    go_wp2
    go_ret
    exact ⟨ret_bool HV.out.symm, below_alloc _ _⟩
  have q1' : ¬ (400 : Int) < (zs.length : Int) := by omega
  cases q2 : inB cnt 0 1000000000
  · have HV := Lib.hid (md_2 (zs := zs) (bs := bs) (os := os) q2)
    go_enter Try.func24, Try.ntmps24
    go_wp2_with (first | (go_at_call 71; refine (resultOK_any _ _).mono ?_; rintro e w' ⟨rfl, rfl⟩; rw [q2]))
    go_ret
    exact ⟨ret_bool HV.out.symm, below_alloc _ _⟩
  by_cases q3 : os.length ≤ 1
  rotate_left
  · have HV := Lib.hid (md_3 (zs := zs) (cnt := cnt) (bs := bs) q3)
    have q3' : (1 : Int) < (os.length : Int) := by omega
    go_enter Try.func24, Try.ntmps24
    go_wp2_with (first | (go_at_call 71; refine (resultOK_any _ _).mono ?_; rintro e w' ⟨rfl, rfl⟩; rw [q2]))
    go_ret
    exact ⟨ret_bool HV.out.symm, below_alloc _ _⟩
  have q3' : ¬ (1 : Int) < (os.length : Int) := by omega
  have HM := Lib.hid (BoxC.new 31 w #[.slice A zs.length ca, .int .i64 cnt, .slice B bs.length cb, .slice O os.length co])
  cases q4 : zs.all (fun v => inB v 0 999)
  · have HV := Lib.hid (md_4 (cnt := cnt) (bs := bs) (os := os) q4)
    go_enter Try.func24, Try.ntmps24
    go_wp2_with (first | (go_at_call 71; refine (resultOK_any _ _).mono ?_; rintro e w' ⟨rfl, rfl⟩; rw [q2]))
    refine (hasBad_any _ _ zs _ hz (HA.out.below (below_alloc _ _))).mono ?_
    rintro e w1 ⟨rfl, hb⟩
    rw [q4]
    have HB := Lib.hid (below_trans (below_alloc _ _) hb)
    clear hb
    go_wp2
    go_ret
    exact ⟨ret_bool HV.out.symm, HB.out⟩
  have HV := Lib.hid (md_5 (bs := bs) q1 q2 q3 q4)
  go_enter Try.func24, Try.ntmps24
  go_wp2_with (first | (go_at_call 71; refine (resultOK_any _ _).mono ?_; rintro e w' ⟨rfl, rfl⟩; rw [q2]))
  refine (hasBad_any _ _ zs _ hz (HA.out.below (below_alloc _ _))).mono ?_
  rintro e w1 ⟨rfl, hb⟩
  rw [q4]
  have HB := Lib.hid (below_trans (below_alloc _ _) hb)
  have HM1 := Lib.hid (HM.out.below hb)
  clear hb HM
  have hm := HM1.out.cell
  go_wp2_with fail
  refine (waitersOK_any _ _ _ _ _ _ zs bs os cnt _ ht hc (HT.out.below HB.out) (HC.out.below HB.out)).mono ?_
  rintro e w2 ⟨rfl, hb⟩
  have HB2 := Lib.hid (below_trans HB.out hb)
  clear hb HM1 HB hm
  go_wp2
  go_ret
  exact ⟨ret_bool HV.out.symm, HB2.out⟩
end Go.Proofs.Ythianfhfamkcmaa
