/-
  The walk of the law CounterCloses of layer 18: for any numbers it returns true, and writes nothing that was there.
-/
import Derived.Test.YtikefjlbjbjajaaCtb
namespace Go.Proofs.Ytikefjlbjbjajaa
open Go.RowKit
set_option linter.unusedVariables false
set_option linter.unusedSimpArgs false
set_option maxRecDepth 100000

set_option maxHeartbeats 1600000 in
theorem ccloses (x n : Nat) (w : World) (hx : x < 18446744073709551616) (hn : n < 256) :
    Calls Try.prog 6 #[.int .u64 (x : Int), .int .u8 (n : Int)] w fun e w' => e = .returned (.bool true) ∧ Below w.heap.size w w' := by
  obtain ⟨m, hm⟩ : ∃ m, min x 9223372036854775807 = m := ⟨_, rfl⟩
  have HM := Lib.hid hm
  have HX := Lib.hid hx
  clear hm hx
  have hBw : Below w.heap.size w w := Below.refl _ _
  go_enter Try.func6, Try.ntmps6
  go_wp2_with fail
  refine (cawake _).mono ?_
  rintro e x1 ⟨rfl, hq⟩
  have hBx1 := hBw.trans (hq.mono hBw.size)
  clear hq hBw 
  go_wp2_with fail
  refine (cnew x _ HX.out).mono ?_
  rintro e x2 ⟨g, rfl, hl, hcgx2, hq⟩
  have hBx2 := hBx1.trans (hq.mono hBx1.size)
  have hlg : w.heap.size ≤ g := Nat.le_trans hBx1.size hl
  rw [show min x 9223372036854775807 = m from HM.out] at hcgx2
  clear hl
  clear hq hBx1 
  go_wp2_with fail
  go_loopw [6] (fun j wr => ∃ (r q k : Nat), r ≤ n ∧ j = .int .i64 (r : Int) ∧ Ct wr g q k false ∧ Below w.heap.size w wr) (fun j _ => n - (intOf j).toNat)
  case atStart => exact ⟨0, m, 0, Nat.zero_le _, rfl, hcgx2, hBx2⟩
  case round =>
    clear hcgx2 hBx2
    obtain ⟨r, q, k, hr, rfl, hcg0, hB0⟩ := hrel
    by_cases hlt : r < n
    · have i1 : (r : Int) < (n : Int) := by omega
      go_wp2_with fail
      refine (cnext g _ _ _ _ hcg0).mono ?_
      rintro e x3 ⟨rfl, hcgx3, hq⟩
      have hBx3 := hB0.trans (hq.on hB0.size (by omega))
      clear hq hB0 hcg0
      go_wp2_with fail
      go_round
      case rel => exact ⟨r + 1, upC q false q, upC q false k, by omega, by go_num, hcgx3, hBx3⟩
      case measure => simp [intOf]; omega
    · have i1 : ¬ (r : Int) < (n : Int) := by omega
      go_wp2_with fail
      refine (cgiven g _ _ _ _ hcg0).mono ?_
      rintro e w9 ⟨rfl, hv9⟩
      rw [hv9]
      clear hv9 w9
      go_wp2_with fail
      refine (cclose g _ _ _ _ hcg0).mono ?_
      rintro e x4 ⟨rfl, hcgx4, hq⟩
      have hBx4 := hB0.trans (hq.on hB0.size (by omega))
      clear hq hB0 hcg0
      go_wp2_with fail
      refine (cnext g _ _ _ _ hcgx4).mono ?_
      rintro e x5 ⟨rfl, hcgx5, hq⟩
      have hBx5 := hBx4.trans (hq.on hBx4.size (by omega))
      rw [show upC q true q = q from rfl] at hcgx5
      rw [show upC q true k = k from rfl] at hcgx5
      clear hq hBx4 hcgx4
      rw [show cdC q true = 7 from rfl]
      rw [show vlC q true = 0 from rfl]
      go_wp2_with fail
      refine (cpeek g _ _ _ _ hcgx5).mono ?_
      rintro e x6 ⟨rfl, hq⟩
      have hcgx6 := (hcgx5).to hq
      have hBx6 := hBx5.trans (hq.mono hBx5.size)
      clear hq hBx5 hcgx5
      rw [show cdC q true = 7 from rfl]
      rw [show vlC q true = 0 from rfl]
      go_wp2_with fail
      refine (cclose_nil _).mono ?_
      rintro e w9 ⟨rfl, hv9⟩
      rw [hv9]
      clear hv9 w9
      go_wp2_with fail
      refine (cpeek_nil _).mono ?_
      rintro e x7 ⟨rfl, hq⟩
      have hcgx7 := (hcgx6).to hq
      have hBx7 := hBx6.trans (hq.mono hBx6.size)
      clear hq hBx6 hcgx6
      go_wp2_with fail
      refine (told18 7 7 _).mono ?_
      rintro e w9 ⟨rfl, hv9⟩
      rw [hv9]
      clear hv9 w9
      rw [decide_eq_true rfl]
      go_wp2_with fail
      refine (told18 7 7 _).mono ?_
      rintro e w9 ⟨rfl, hv9⟩
      rw [hv9]
      clear hv9 w9
      rw [decide_eq_true rfl]
      go_wp2_with fail
      refine (told18 7 7 _).mono ?_
      rintro e w9 ⟨rfl, hv9⟩
      rw [hv9]
      clear hv9 w9
      rw [decide_eq_true rfl]
      go_wp2_with fail
      refine (cleft g _ _ _ _ hcgx7).mono ?_
      rintro e x8 ⟨rfl, hq⟩
      have hcgx8 := (hcgx7).to hq
      have hBx8 := hBx7.trans (hq.mono hBx7.size)
      clear hq hBx7 hcgx7
      rw [show lfC q true = 0 from rfl]
      go_wp2_with fail
      refine (cgiven g _ _ _ _ hcgx8).mono ?_
      rintro e w9 ⟨rfl, hv9⟩
      rw [hv9]
      clear hv9 w9
      go_wp2_with fail
      refine (cleft_nil _).mono ?_
      rintro e x9 ⟨rfl, hq⟩
      have hcgx9 := (hcgx8).to hq
      have hBx9 := hBx8.trans (hq.mono hBx8.size)
      clear hq hBx8 hcgx8
      go_wp2_with fail
      refine (cgiven_nil _).mono ?_
      rintro e w9 ⟨rfl, hv9⟩
      rw [hv9]
      clear hv9 w9
      go_wp2_with fail
      go_ret
      exact ⟨rfl, hBx9⟩
end Go.Proofs.Ytikefjlbjbjajaa
