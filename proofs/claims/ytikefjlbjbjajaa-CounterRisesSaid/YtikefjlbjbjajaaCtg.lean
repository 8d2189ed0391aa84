/-
  The walk of the law CounterRises of layer 18: for any numbers it returns true, and writes nothing that was there.
-/
import Derived.Test.YtikefjlbjbjajaaCtb
namespace Go.Proofs.Ytikefjlbjbjajaa
open Go.RowKit
set_option linter.unusedVariables false
set_option linter.unusedSimpArgs false
set_option maxRecDepth 100000

set_option maxHeartbeats 1600000 in
theorem crises (b c : Nat) (w : World) (hb : b < 256) (hc : c < 256) :
    Calls Try.prog 4 #[.int .u8 (b : Int), .int .u8 (c : Int)] w fun e w' => e = .returned (.bool true) ∧ Below w.heap.size w w' := by
  obtain ⟨F, hF⟩ : ∃ F, 9223372036854775807 - b = F := ⟨_, rfl⟩
  have hF2 : F + b = 9223372036854775807 := by omega
  have HF := Lib.hid hF2
  have a0 : IntKind.u64.wrap (b : Int) = (b : Int) := by rw [IntKind.wrap_u64]; omega
  have a1 : IntKind.u64.wrap (9223372036854775807 - (b : Int)) = (F : Int) := by rw [IntKind.wrap_u64]; omega
  obtain ⟨d, hd⟩ : ∃ d, c + 1 = d := ⟨_, rfl⟩
  have a2 : wrap64 ((c : Int) + 1) = (d : Int) := by rw [IntWalk.wrap64_in _ (by omega)]; omega
  clear hF hF2
  have hBw : Below w.heap.size w w := Below.refl _ _
  go_enter Try.func4, Try.ntmps4
  go_wp2_with fail
  refine (cawake _).mono ?_
  rintro e x1 ⟨rfl, hq⟩
  have hBx1 := hBw.trans (hq.mono hBw.size)
  clear hq hBw 
  go_wp2_with fail
  refine (cnew F _ (by have := HF.out; omega)).mono ?_
  rintro e x2 ⟨g, rfl, hl, hcgx2, hq⟩
  have hBx2 := hBx1.trans (hq.mono hBx1.size)
  have hlg : w.heap.size ≤ g := Nat.le_trans hBx1.size hl
  rw [show min F 9223372036854775807 = F from (by have := HF.out; omega)] at hcgx2
  clear hl
  clear hq hBx1 
  go_wp2_with fail
  go_loopw [7] (fun j wr => ∃ (r : Nat), r ≤ b ∧ j = .int .i64 (r : Int) ∧ Ct wr g (F + r) r false ∧ Below w.heap.size w wr) (fun j _ => b - (intOf j).toNat)
  case atStart => exact ⟨0, Nat.zero_le _, rfl, hcgx2, hBx2⟩
  case round =>
    clear hcgx2 hBx2
    obtain ⟨r, hr, rfl, hcg0, hB0⟩ := hrel
    by_cases hlt : r < b
    · have i1 : (r : Int) < (b : Int) := by omega
      obtain ⟨q, hq⟩ : ∃ q, F + r = q := ⟨_, rfl⟩
      rw [hq] at hcg0
      have hF := HF.out
      have hz : cdC q false = 0 := by unfold cdC; rw [if_neg (by decide), if_neg (by omega)]
      have HZ := Lib.hid hz
      have HQ := Lib.hid hq
      have i2 : IntKind.u64.wrap (r : Int) = (r : Int) := by rw [IntKind.wrap_u64]; omega
      have i3 : IntKind.u64.wrap ((F : Int) + (r : Int)) = (q : Int) := by rw [IntKind.wrap_u64]; omega
      clear hz hq hF
      go_wp2_with fail
      refine (cnext g _ _ _ _ hcg0).mono ?_
      rintro e x3 ⟨rfl, hcgx3, hq⟩
      have hBx3 := hB0.trans (hq.on hB0.size (by omega))
      rw [show upC q false q = q + 1 from if_pos HZ.out] at hcgx3
      rw [show upC q false r = r + 1 from if_pos HZ.out] at hcgx3
      clear hq hB0 hcg0
      rw [show cdC q false = 0 from HZ.out]
      rw [show vlC q false = q from if_pos HZ.out]
      rw [erW_no rfl]
      go_wp2_with fail
      go_round
      case rel => exact ⟨r + 1, by omega, by go_num, by rw [show F + (r + 1) = q + 1 by have := HQ.out; omega]; exact hcgx3, hBx3⟩
      case measure => simp [intOf]; omega
    · have i1 : ¬ (r : Int) < (b : Int) := by omega
      obtain rfl : r = b := by omega
      rw [HF.out] at hcg0
      skip
      go_wp2_with fail
      go_loopw [10] (fun j2 wq => ∃ (t : Nat), t ≤ d ∧ j2 = .int .i64 (t : Int) ∧ Ct wq g 9223372036854775807 r false ∧ Below w.heap.size w wq) (fun j2 _ => d - (intOf j2).toNat)
      case atStart => exact ⟨0, Nat.zero_le _, rfl, hcg0, hB0⟩
      case round =>
        clear hcg0 hB0
        obtain ⟨t, ht, rfl, hcg0, hB0⟩ := hrel
        by_cases htd : t < d
        · have j1 : (t : Int) < (d : Int) := by omega
          go_wp2_with fail
          refine (cnext g _ _ _ _ hcg0).mono ?_
          rintro e x4 ⟨rfl, hcgx4, hq⟩
          have hBx4 := hB0.trans (hq.on hB0.size (by omega))
          rw [show upC 9223372036854775807 false 9223372036854775807 = 9223372036854775807 from rfl] at hcgx4
          rw [show upC 9223372036854775807 false r = r from rfl] at hcgx4
          clear hq hB0 hcg0
          rw [show cdC 9223372036854775807 false = 6 from rfl]
          rw [show vlC 9223372036854775807 false = 0 from rfl]
          go_wp2_with fail
          refine (told18 6 6 _).mono ?_
          rintro e w9 ⟨rfl, hv9⟩
          rw [hv9]
          clear hv9 w9
          rw [decide_eq_true rfl]
          go_wp2_with fail
          go_round
          case rel => exact ⟨t + 1, by omega, by go_num, hcgx4, hBx4⟩
          case measure => simp [intOf]; omega
        · have j1 : ¬ (t : Int) < (d : Int) := by omega
          go_wp2_with fail
          refine (cgiven g _ _ _ _ hcg0).mono ?_
          rintro e w9 ⟨rfl, hv9⟩
          rw [hv9]
          clear hv9 w9
          go_wp2_with fail
          refine (cleft g _ _ _ _ hcg0).mono ?_
          rintro e x5 ⟨rfl, hq⟩
          have hcgx5 := (hcg0).to hq
          have hBx5 := hB0.trans (hq.mono hB0.size)
          clear hq hB0 hcg0
          rw [show lfC 9223372036854775807 false = 0 from rfl]
          go_wp2_with fail
          go_ret
          exact ⟨rfl, hBx5⟩
end Go.Proofs.Ytikefjlbjbjajaa
