/-
  The walk of the law CounterPeeks of layer 18: for any numbers it returns true, and writes nothing that was there.
-/
import Derived.Test.YtikefjlbjbjajaaCtb
namespace Go.Proofs.Ytikefjlbjbjajaa
open Go.RowKit
set_option linter.unusedVariables false
set_option linter.unusedSimpArgs false
set_option maxRecDepth 100000

set_option maxHeartbeats 1600000 in
theorem cpeeks (x n : Nat) (w : World) (hx : x < 18446744073709551616) (hn : n < 256) :
    Calls Try.prog 7 #[.int .u64 (x : Int), .int .u8 (n : Int)] w fun e w' => e = .returned (.bool true) ∧ Below w.heap.size w w' := by
  obtain ⟨m, hm⟩ : ∃ m, min x 9223372036854775807 = m := ⟨_, rfl⟩
  have HT := Lib.hid (show m ≤ 9223372036854775807 by omega)
  have HM := Lib.hid hm
  have HX := Lib.hid hx
  clear hm hx
  obtain ⟨C, hC⟩ : ∃ C, cdC m false = C := ⟨_, rfl⟩
  obtain ⟨V, hV⟩ : ∃ V, vlC m false = V := ⟨_, rfl⟩
  obtain ⟨G, hG⟩ : ∃ G, upC m false 0 = G := ⟨_, rfl⟩
  obtain ⟨m2, hm2⟩ : ∃ m2, upC m false m = m2 := ⟨_, rfl⟩
  have HG := Lib.hid (show C = 0 ∧ G = 1 ∨ C = 6 ∧ G = 0 by
    unfold upC at hG
    rw [hC] at hG
    unfold cdC at hC
    rw [if_neg (by decide)] at hC
    split at hC <;> subst hC <;> simp at hG <;> omega)
  have HC := Lib.hid hC
  have HV := Lib.hid hV
  have HU := Lib.hid hG
  have H2 := Lib.hid hm2
  clear hC hV hG hm2
  obtain ⟨t, ht⟩ : ∃ t : Nat, n % 20 = t := ⟨_, rfl⟩
  have i0 : (n : Int) % 20 = (t : Int) := by omega
  have ht2 : t < 20 := by omega
  clear ht
  have hBw : Below w.heap.size w w := Below.refl _ _
  go_enter Try.func7, Try.ntmps7
  go_wp2_with fail
  refine (cawake _).mono ?_
  rintro e x1 ⟨rfl, hq⟩
  have hBx1 := hBw.trans (hq.mono hBw.size)
  clear hq hBw 
  go_wp2_with fail
  refine (cnew x _ HX.out).mono ?_
  rintro e x2 ⟨g, rfl, hl, hcgx2, hq⟩
  have hBx2 := hBx1.trans (hq.mono hBx1.size)
  have hlg : w.heap.size ≤ g := Nat.le_trans hBx1.size hl
  rw [show min x 9223372036854775807 = m from HM.out] at hcgx2
  clear hl
  clear hq hBx1 
  go_wp2_with fail
  refine (rcnew x _ HX.out).mono ?_
  rintro e x3 ⟨rfl, hq⟩
  have hcgx3 := (hcgx2).to hq
  have hBx3 := hBx2.trans (hq.mono hBx2.size)
  clear hq hBx2 hcgx2
  rw [show min x 9223372036854775807 = m from HM.out]
  go_wp2_with fail
  refine (rcpeek m 0 m false _ rfl HT.out).mono ?_
  rintro e x4 ⟨rfl, hq⟩
  have hcgx4 := (hcgx3).to hq
  have hBx4 := hBx3.trans (hq.mono hBx3.size)
  clear hq hBx3 hcgx3
  rw [show cdC m false = C from HC.out]
  rw [show vlC m false = V from HV.out]
  go_wp2_with fail
  go_loopw [8] (fun j wr => ∃ (r : Nat), r ≤ t ∧ j = .int .i64 (r : Int) ∧ Ct wr g m 0 false ∧ Below w.heap.size w wr) (fun j _ => t - (intOf j).toNat)
  case atStart => exact ⟨0, Nat.zero_le _, rfl, hcgx4, hBx4⟩
  case round =>
    clear hcgx4 hBx4
    obtain ⟨r, hr, rfl, hcg0, hB0⟩ := hrel
    by_cases hlt : r < t
    · have i1 : (r : Int) < (t : Int) := by omega
      go_wp2_with fail
      refine (cpeek g _ _ _ _ hcg0).mono ?_
      rintro e x5 ⟨rfl, hq⟩
      have hcgx5 := (hcg0).to hq
      have hBx5 := hB0.trans (hq.mono hB0.size)
      clear hq hB0 hcg0
      rw [show cdC m false = C from HC.out]
      rw [show vlC m false = V from HV.out]
      go_wp2_with fail
      refine (told18 C C _).mono ?_
      rintro e w9 ⟨rfl, hv9⟩
      rw [hv9]
      clear hv9 w9
      rw [decide_eq_true rfl]
      go_wp2_with fail
      go_round
      case rel => exact ⟨r + 1, by omega, by go_num, hcgx5, hBx5⟩
      case measure => simp [intOf]; omega
    · have i1 : ¬ (r : Int) < (t : Int) := by omega
      go_wp2_with fail
      refine (cnext g _ _ _ _ hcg0).mono ?_
      rintro e x6 ⟨rfl, hcgx6, hq⟩
      have hBx6 := hB0.trans (hq.on hB0.size (by omega))
      rw [show upC m false m = m2 from H2.out] at hcgx6
      rw [show upC m false 0 = G from HU.out] at hcgx6
      clear hq hB0 hcg0
      rw [show cdC m false = C from HC.out]
      rw [show vlC m false = V from HV.out]
      go_wp2_with fail
      refine (told18 C C _).mono ?_
      rintro e w9 ⟨rfl, hv9⟩
      rw [hv9]
      clear hv9 w9
      rw [decide_eq_true rfl]
      go_wp2_with fail
      refine (cgiven g _ _ _ _ hcgx6).mono ?_
      rintro e w9 ⟨rfl, hv9⟩
      rw [hv9]
      clear hv9 w9
      go_wp2_with fail
      go_ret
      refine ⟨ret_bool ?_, hBx6⟩
      rcases HG.out with ⟨rfl, rfl⟩ | ⟨rfl, rfl⟩ <;> decide +kernel
end Go.Proofs.Ytikefjlbjbjajaa
