/-
  The walks of the laws PeerNil, PeerRights, PeerLong of layer 21: each returns true, and writes nothing that was there.
-/
import Derived.Test.YtfpniipbdkdhlaaPee
namespace Go.Proofs.Ytfpniipbdkdhlaa
open Go.RowKit Go.MapKept
set_option linter.unusedVariables false
set_option linter.unusedSimpArgs false
set_option maxRecDepth 100000

/-- n letters. -/
def aB (n : Nat) : ByteArray := ⟨(List.replicate n 97).toArray⟩
theorem aB_size (n : Nat) : (aB n).size = n := by simp [aB, ByteArray.size]
theorem aB_add (n : Nat) (hn : n ≤ 1000) (V : World) : (Op.stringOp .add (aB n) ⟨#[97]⟩).run Try.prog V = .ok (.string (aB (n + 1))) V := by
  have e : aB n ++ (⟨#[97]⟩ : ByteArray) = aB (n + 1) := by
    unfold aB
    rw [show (#[97] : Array UInt8) = [97].toArray from rfl, ByteArray.mk_append_mk, List.replicate_succ']
  have hs : (aB n).size + (⟨#[97]⟩ : ByteArray).size ≤ 9223372036854775807 := by
    rw [aB_size, show (⟨#[97]⟩ : ByteArray).size = 1 from rfl]; omega
  rw [run_string_add_sum V _ _ hs, e]
theorem aB_ok : ∀ k, k < 105 → okA (aB k) = (decide (1 ≤ k) && decide (k ≤ 100)) := by decide +kernel
theorem aB_em (k : Nat) (h : 1 ≤ k) : emA (aB k) = false := decide_eq_false (by rw [aB_size]; omega)
theorem aB_len (k : Nat) (h : k ≤ 1000) : (aB k).size ≤ 9223372036854775807 := by rw [aB_size]; omega

set_option maxHeartbeats 1600000 in
theorem pnils (s : ByteArray) (w : World) :
    Calls Try.prog 6 #[.string s] w fun e w' => e = .returned (.bool true) ∧ Below w.heap.size w w' := by
  by_cases h9 : s.size > 1000
  · have i0 : (s.size : Int) > 1000 := by omega
    clear h9
    have hBw : Below w.heap.size w w := Below.refl _ _
    go_enter Try.func6, Try.ntmps6
    go_wp2_with fail
    refine (pawake _).mono ?_
    rintro e x1 ⟨rfl, hq⟩
    have hBx1 := hBw.trans (hq.mono hBw.size)
    clear hq hBw 
    go_wp2_with fail
    refine (pawake _).mono ?_
    rintro e x2 ⟨rfl, hq⟩
    have hBx2 := hBx1.trans (hq.mono hBx1.size)
    clear hq hBx1 
    go_wp2_with fail
    go_ret
    exact ⟨rfl, hBx2⟩
  have i0 : ¬ (s.size : Int) > 1000 := by omega
  have i1 : decide ((s.size : Int) > 1000) = false := decide_eq_false i0
  have hBw : Below w.heap.size w w := Below.refl _ _
  go_enter Try.func6, Try.ntmps6
  go_wp2_with fail
  refine (pawake _).mono ?_
  rintro e x3 ⟨rfl, hq⟩
  have hBx3 := hBw.trans (hq.mono hBw.size)
  clear hq hBw 
  go_wp2_with fail
  refine (paddr_nil _).mono ?_
  rintro e w9 ⟨rfl, hv9⟩
  rw [hv9]
  clear hv9 w9
  go_wp2_with fail
  refine (pmove_nil s _).mono ?_
  rintro e x4 ⟨rfl, hq⟩
  have hBx4 := hBx3.trans (hq.mono hBx3.size)
  clear hq hBx3 
  go_wp2_with fail
  refine (pmoves_nil _).mono ?_
  rintro e w9 ⟨rfl, hv9⟩
  rw [hv9]
  clear hv9 w9
  go_wp2_with fail
  refine (pmet_nil s _).mono ?_
  rintro e w9 ⟨rfl, hv9⟩
  rw [hv9]
  clear hv9 w9
  go_wp2_with fail
  go_ret
  exact ⟨rfl, hBx4⟩

set_option maxHeartbeats 4000000 in
theorem prights (s t : ByteArray) (w : World) (hs : s.size ≤ maxLen) (ht : t.size ≤ maxLen) :
    Calls Try.prog 4 #[.string s, .string t] w fun e w' => e = .returned (.bool true) ∧ Below w.heap.size w w' := by
  rw [maxLen_eq] at hs ht
  by_cases h8 : s.size > 1000
  · have i0 : (s.size : Int) > 1000 := by omega
    clear h8 hs ht
    have hBw : Below w.heap.size w w := Below.refl _ _
    go_enter Try.func4, Try.ntmps4
    go_wp2_with fail
    refine (pawake _).mono ?_
    rintro e x1 ⟨rfl, hq⟩
    have hBx1 := hBw.trans (hq.mono hBw.size)
    clear hq hBw 
    go_wp2_with fail
    refine (pawake _).mono ?_
    rintro e x2 ⟨rfl, hq⟩
    have hBx2 := hBx1.trans (hq.mono hBx1.size)
    clear hq hBx1 
    go_wp2_with fail
    go_ret
    exact ⟨rfl, hBx2⟩
  have i0 : ¬ (s.size : Int) > 1000 := by omega
  have i1 : decide ((s.size : Int) > 1000) = false := decide_eq_false i0
  by_cases h9 : t.size > 1000
  · have i2 : (t.size : Int) > 1000 := by omega
    clear h8 h9 hs ht
    have hBw : Below w.heap.size w w := Below.refl _ _
    go_enter Try.func4, Try.ntmps4
    go_wp2_with fail
    refine (pawake _).mono ?_
    rintro e x3 ⟨rfl, hq⟩
    have hBx3 := hBw.trans (hq.mono hBw.size)
    clear hq hBw 
    go_wp2_with fail
    refine (pawake _).mono ?_
    rintro e x4 ⟨rfl, hq⟩
    have hBx4 := hBx3.trans (hq.mono hBx3.size)
    clear hq hBx3 
    go_wp2_with fail
    go_ret
    exact ⟨rfl, hBx4⟩
  have i2 : ¬ (t.size : Int) > 1000 := by omega
  have i3 : decide ((t.size : Int) > 1000) = false := decide_eq_false i2
  have HS := Lib.hid hs
  have HT := Lib.hid ht
  clear h8 h9 hs ht
  obtain ⟨N, hN⟩ : ∃ N, Lib.compareBytes s.data.toList t.data.toList = N := ⟨_, rfl⟩
  have hR := cmp_range s.data.toList t.data.toList
  rw [hN] at hR
  have HN := Lib.hid hN
  have HM := Lib.hid (show Lib.compareBytes t.data.toList s.data.toList = -N by rw [cmp_swap, hN])
  have HL1 := Lib.hid (show lessA s t = decide (N < 0) by unfold lessA; rw [hN])
  have HL2 := Lib.hid (show lessA t s = decide (-N < 0) by unfold lessA; rw [HM.out])
  clear hN
  obtain ⟨z, hz⟩ : ∃ z, okA s = z := ⟨_, rfl⟩
  have HZ := Lib.hid hz
  clear hz
  rcases hR with rfl | rfl | rfl
  · have HM2 := Lib.hid (HM.out.trans (show -(-1 : Int) = 1 by decide))
    clear HM
    have hBw : Below w.heap.size w w := Below.refl _ _
    go_enter Try.func4, Try.ntmps4
    go_wp2_with fail
    refine (pawake _).mono ?_
    rintro e x5 ⟨rfl, hq⟩
    have hBx5 := hBw.trans (hq.mono hBw.size)
    clear hq hBw 
    go_wp2_with fail
    refine (pcompare s t _).mono ?_
    rintro e w9 ⟨rfl, hv9⟩
    rw [hv9]
    clear hv9 w9
    rw [HN.out]
    go_wp2_with fail
    refine (pright s _).mono ?_
    rintro e x6 ⟨rfl, hq⟩
    have hBx6 := hBx5.trans (hq.mono hBx5.size)
    clear hq hBx5 
    rw [HZ.out]
    go_wp2_with fail
    refine (rright s _ HS.out).mono ?_
    rintro e x7 ⟨rfl, hq⟩
    have hBx7 := hBx6.trans (hq.mono hBx6.size)
    clear hq hBx6 
    rw [HZ.out]
    go_wp2_with fail
    refine (rless s t _ HS.out).mono ?_
    rintro e x8 ⟨rfl, hq⟩
    have hBx8 := hBx7.trans (hq.mono hBx7.size)
    clear hq hBx7 
    rw [show lessA s t = true from HL1.out.trans (by decide)]
    go_wp2_with fail
    refine (rless t s _ HT.out).mono ?_
    rintro e x9 ⟨rfl, hq⟩
    have hBx9 := hBx8.trans (hq.mono hBx8.size)
    clear hq hBx8 
    rw [show lessA t s = false from HL2.out.trans (by decide)]
    go_wp2_with fail
    refine (pcompare t s _).mono ?_
    rintro e w9 ⟨rfl, hv9⟩
    rw [hv9]
    clear hv9 w9
    rw [HM2.out]
    go_wp2_with fail
    go_ret
    exact ⟨rfl, hBx9⟩
  · have HM2 := Lib.hid (HM.out.trans (show -(0 : Int) = 0 by decide))
    clear HM
    have hBw : Below w.heap.size w w := Below.refl _ _
    go_enter Try.func4, Try.ntmps4
    go_wp2_with fail
    refine (pawake _).mono ?_
    rintro e x10 ⟨rfl, hq⟩
    have hBx10 := hBw.trans (hq.mono hBw.size)
    clear hq hBw 
    go_wp2_with fail
    refine (pcompare s t _).mono ?_
    rintro e w9 ⟨rfl, hv9⟩
    rw [hv9]
    clear hv9 w9
    rw [HN.out]
    go_wp2_with fail
    refine (pright s _).mono ?_
    rintro e x11 ⟨rfl, hq⟩
    have hBx11 := hBx10.trans (hq.mono hBx10.size)
    clear hq hBx10 
    rw [HZ.out]
    go_wp2_with fail
    refine (rright s _ HS.out).mono ?_
    rintro e x12 ⟨rfl, hq⟩
    have hBx12 := hBx11.trans (hq.mono hBx11.size)
    clear hq hBx11 
    rw [HZ.out]
    go_wp2_with fail
    refine (rless s t _ HS.out).mono ?_
    rintro e x13 ⟨rfl, hq⟩
    have hBx13 := hBx12.trans (hq.mono hBx12.size)
    clear hq hBx12 
    rw [show lessA s t = false from HL1.out.trans (by decide)]
    go_wp2_with fail
    refine (rless t s _ HT.out).mono ?_
    rintro e x14 ⟨rfl, hq⟩
    have hBx14 := hBx13.trans (hq.mono hBx13.size)
    clear hq hBx13 
    rw [show lessA t s = false from HL2.out.trans (by decide)]
    go_wp2_with fail
    refine (pcompare t s _).mono ?_
    rintro e w9 ⟨rfl, hv9⟩
    rw [hv9]
    clear hv9 w9
    rw [HM2.out]
    go_wp2_with fail
    go_ret
    exact ⟨rfl, hBx14⟩
  · have HM2 := Lib.hid (HM.out.trans (show -(1 : Int) = -1 by decide))
    clear HM
    have hBw : Below w.heap.size w w := Below.refl _ _
    go_enter Try.func4, Try.ntmps4
    go_wp2_with fail
    refine (pawake _).mono ?_
    rintro e x15 ⟨rfl, hq⟩
    have hBx15 := hBw.trans (hq.mono hBw.size)
    clear hq hBw 
    go_wp2_with fail
    refine (pcompare s t _).mono ?_
    rintro e w9 ⟨rfl, hv9⟩
    rw [hv9]
    clear hv9 w9
    rw [HN.out]
    go_wp2_with fail
    refine (pright s _).mono ?_
    rintro e x16 ⟨rfl, hq⟩
    have hBx16 := hBx15.trans (hq.mono hBx15.size)
    clear hq hBx15 
    rw [HZ.out]
    go_wp2_with fail
    refine (rright s _ HS.out).mono ?_
    rintro e x17 ⟨rfl, hq⟩
    have hBx17 := hBx16.trans (hq.mono hBx16.size)
    clear hq hBx16 
    rw [HZ.out]
    go_wp2_with fail
    refine (rless s t _ HS.out).mono ?_
    rintro e x18 ⟨rfl, hq⟩
    have hBx18 := hBx17.trans (hq.mono hBx17.size)
    clear hq hBx17 
    rw [show lessA s t = false from HL1.out.trans (by decide)]
    go_wp2_with fail
    refine (rless t s _ HT.out).mono ?_
    rintro e x19 ⟨rfl, hq⟩
    have hBx19 := hBx18.trans (hq.mono hBx18.size)
    clear hq hBx18 
    rw [show lessA t s = true from HL2.out.trans (by decide)]
    go_wp2_with fail
    refine (pcompare t s _).mono ?_
    rintro e w9 ⟨rfl, hv9⟩
    rw [hv9]
    clear hv9 w9
    rw [HM2.out]
    go_wp2_with fail
    go_ret
    exact ⟨rfl, hBx19⟩

set_option maxHeartbeats 1600000 in
theorem plongs (n : Nat) (w : World) (hn : n < 256) :
    Calls Try.prog 5 #[.int .u8 (n : Int)] w fun e w' => e = .returned (.bool true) ∧ Below w.heap.size w w' := by
  obtain ⟨m, hm⟩ : ∃ m : Nat, n % 10 = m := ⟨_, rfl⟩
  have i0 : (n : Int) % 10 = (m : Int) := by omega
  obtain ⟨k, hk⟩ : ∃ k, 95 + m = k := ⟨_, rfl⟩
  have i1 : (95 : Int) + (m : Int) = (k : Int) := by omega
  have HK := Lib.hid (show 95 ≤ k ∧ k ≤ 104 by omega)
  have hkl : k ≤ 104 := by omega
  clear hm hk
  have hBw : Below w.heap.size w w := Below.refl _ _
  go_enter Try.func5, Try.ntmps5
  go_wp2_with fail
  refine (pawake _).mono ?_
  rintro e x1 ⟨rfl, hq⟩
  have hBx1 := hBw.trans (hq.mono hBw.size)
  clear hq hBw 
  go_wp2_with fail
  go_loopw [4, 5] (fun v j wr => ∃ (r : Nat), r ≤ k ∧ v = .string (aB r) ∧ j = .int .i64 (r : Int) ∧ Below w.heap.size w wr) (fun v j _ => k - (intOf j).toNat)
  case atStart => exact ⟨0, Nat.zero_le _, rfl, rfl, hBx1⟩
  case round =>
    clear  hBx1
    obtain ⟨r, hr, rfl, rfl, hB0⟩ := hrel
    by_cases hlt : r < k
    · have i2 : (r : Int) < (k : Int) := by omega
      have hadd := aB_add r (by omega)
      have HR := Lib.hid hlt
      go_wp2_with fail
      go_round
      case rel => exact ⟨r + 1, by have := HR.out; omega, rfl, by go_num, hB0⟩
      case measure => have := HR.out; simp [intOf]; omega
    · have i2 : ¬ (r : Int) < (k : Int) := by omega
      obtain rfl : r = k := by omega
      clear hlt hr
      by_cases h100 : 100 < r
      · have i4 : (r : Int) > 100 := by omega
        have HO := Lib.hid (show okA (aB r) = false by rw [aB_ok r (by omega), decide_eq_true (show 1 ≤ r by have := HK.out; omega), decide_eq_false (show ¬ r ≤ 100 by omega)]; rfl)
        have HE := Lib.hid (aB_em r (by have := HK.out; omega))
        clear h100
        have hBwr := hB0
        clear hB0
        go_wp2_with fail
        refine (pnew (aB r) _).mono ?_
        rintro e x2 ⟨g, m2, rfl, hlg, hlm, hpgx2, hq⟩
        have hBx2 := hBwr.trans (hq.mono hBwr.size)
        rw [show plA (aB r) = ⟨#[]⟩ from plA_no HO.out] at hpgx2
        have hp2 := hpgx2
        clear hpgx2
        clear hq hBwr 
        go_wp2_with fail
        refine (paddr g m2 (⟨#[]⟩) 0 0 _ true _ hp2).mono ?_
        rintro e x3 ⟨rfl, hq⟩
        have hBx3 := hBx2.trans (hq.mono hBx2.size)
        clear hp2
        clear hq hBx2 
        rw [show emA (⟨#[]⟩) = true from by decide +kernel]
        simp only [Bool.not_true, Bool.not_false]
        go_wp2_with fail
        refine (pright (aB r) _).mono ?_
        rintro e x4 ⟨rfl, hq⟩
        have hBx4 := hBx3.trans (hq.mono hBx3.size)
        clear hq hBx3 
        rw [HO.out]
        go_wp2_with fail
        go_ret
        exact ⟨rfl, hBx4⟩
      · have i4 : ¬ (r : Int) > 100 := by omega
        have HO := Lib.hid (show okA (aB r) = true by rw [aB_ok r (by omega), decide_eq_true (show 1 ≤ r by have := HK.out; omega), decide_eq_true (show r ≤ 100 by omega)]; rfl)
        have HE := Lib.hid (aB_em r (by have := HK.out; omega))
        clear h100
        have hBwr := hB0
        clear hB0
        go_wp2_with fail
        refine (pnew (aB r) _).mono ?_
        rintro e x5 ⟨g, m2, rfl, hlg, hlm, hpgx5, hq⟩
        have hBx5 := hBwr.trans (hq.mono hBwr.size)
        rw [show plA (aB r) = aB r from plA_ok HO.out] at hpgx5
        have hp2 := hpgx5
        clear hpgx5
        clear hq hBwr 
        go_wp2_with fail
        refine (paddr g m2 (aB r) 0 0 _ true _ hp2).mono ?_
        rintro e x6 ⟨rfl, hq⟩
        have hBx6 := hBx5.trans (hq.mono hBx5.size)
        clear hp2
        clear hq hBx5 
        rw [show emA (aB r) = false from HE.out]
        simp only [Bool.not_true, Bool.not_false]
        go_wp2_with fail
        refine (pright (aB r) _).mono ?_
        rintro e x7 ⟨rfl, hq⟩
        have hBx7 := hBx6.trans (hq.mono hBx6.size)
        clear hq hBx6 
        rw [HO.out]
        go_wp2_with fail
        go_ret
        exact ⟨rfl, hBx7⟩
end Go.Proofs.Ytfpniipbdkdhlaa
