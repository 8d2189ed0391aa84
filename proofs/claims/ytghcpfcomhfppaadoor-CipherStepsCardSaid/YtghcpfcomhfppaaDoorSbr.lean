/-
  Contract of the reference's affine image, by a walk through its text, for any byte; nothing is written.
-/
import Derived.Test.YtghcpfcomhfppaaDoorSbs
import Derived.Test.YtghcpfcomhfppaaDoorFir
namespace Go.Proofs.YtghcpfcomhfppaaDoor
open Go.RowKit
set_option linter.unusedVariables false
set_option maxRecDepth 10000

theorem cnt0 (b i : Nat) (hb : b < 256) (hi : i < 8) : wrap64 (((99 : Int) / 2 ^ i).tmod 2 + (wrap64 ((b : Int) / 2 ^ i)).tmod 2) = ((cnt b i 0 : Nat) : Int) := by
  have e2 := coef_bit b i hb
  have e1 : ((99 : Int) / 2 ^ i).tmod 2 = ((99 / 2 ^ i % 2 : Nat) : Int) := by
    rw [show (99 : Int) / 2 ^ i = ((99 / 2 ^ i : Nat) : Int) by simp]
    generalize 99 / 2 ^ i = q
    rw [Int.tmod_eq_emod_of_nonneg (by omega)]; omega
  rw [e1, e2]
  unfold cnt bt
  rw [IntWalk.wrap64_in _ (by omega)]; omega
theorem cntS (b i m q : Nat) (hb : b < 256) (hm : 4 ≤ m) (hm2 : m < 8) (hq : q = (i + m) % 8) : wrap64 (((cnt b i (m - 4) : Nat) : Int) + (wrap64 ((b : Int) / 2 ^ q)).tmod 2) = ((cnt b i (m + 1 - 4) : Nat) : Int) := by
  have h1 := cnt_le b i (m - 4)
  rw [coef_bit b _ hb, show m + 1 - 4 = m - 4 + 1 by omega, cnt, show 4 + (m - 4) = m by omega, ← hq]
  unfold bt
  rw [IntWalk.wrap64_in _ (by omega)]; omega
theorem affS (b i : Nat) (hi : i < 8) : wrap64 (((affR b i : Nat) : Int) + wrap64 (((cnt b i 4 : Nat) : Int).tmod 2 * 2 ^ i)) = ((affR b (i + 1) : Nat) : Int) := by
  have h1 := affR_lt b i
  have h2 : 2 ^ i ≤ 2 ^ 7 := Nat.pow_le_pow_right (by decide) (by omega)
  have e : ((cnt b i 4 : Nat) : Int).tmod 2 * 2 ^ i = ((cnt b i 4 % 2 * 2 ^ i : Nat) : Int) := by
    rw [Int.tmod_eq_emod_of_nonneg (by omega)]; simp
  have h3 : cnt b i 4 % 2 * 2 ^ i ≤ 1 * 2 ^ i := Nat.mul_le_mul_right _ (by omega)
  rw [e, affR]
  generalize cnt b i 4 % 2 * 2 ^ i = q at *
  generalize affR b i = p at *
  generalize 2 ^ i = r at *
  rw [IntWalk.wrap64_in (q : Int) (by omega), IntWalk.wrap64_in _ (by omega)]
  omega

set_option maxHeartbeats 1600000 in
theorem refaff (b : Nat) (w : World) (hb : b < 256) :
    Calls Tryd.prog 30 #[.int .u8 b] w fun e w' => e = .returned (.int .u8 (aff b : Nat)) ∧ w' = w := by
  have hc0 := Lib.hid (fun i hi => cnt0 b i hb hi)
  have hcS := Lib.hid (fun i m q h1 h2 h3 => cntS b i m q hb h1 h2 h3)
  have hS := Lib.hid (fun i hi => affS b i hi)
  have hfin := Lib.hid (affR_aff b hb)
  have hal := aff_lt b hb
  go_enter Tryd.func30, Tryd.ntmps30
  go_wp2
  go_loopw [3, 4] (fun x i wr => ∃ n : Nat, n ≤ 8 ∧ i = .int .i64 n ∧ x = .int .i64 (affR b n : Nat) ∧ wr = w) (fun _ i _ => 8 - (intOf i).toNat)
  case atStart => exact ⟨0, Nat.zero_le _, rfl, rfl, rfl⟩
  case round =>
    obtain ⟨i, hi, rfl, rfl, rfl⟩ := hrel
    by_cases hlt : i < 8
    · have h0 := hc0.out i hlt
      have hs := Lib.hid (hS.out i hlt)
      go_wp2_with fail
      obtain ⟨x0, hx0⟩ : ∃ x0 : Nat, affR b i = x0 := ⟨_, rfl⟩
      rw [hx0] at hs
      rw [hx0]
      go_loopw [5, 6] (fun x y ws => ∃ m : Nat, 4 ≤ m ∧ m ≤ 8 ∧ y = .int .i64 m ∧ x = .int .i64 (cnt b i (m - 4) : Nat) ∧ ws = wr) (fun _ y _ => 8 - (intOf y).toNat)
      case atStart => exact ⟨4, by omega, by omega, rfl, fval_of h0, rfl⟩
      case round =>
        obtain ⟨m, hm, hm8, rfl, rfl, rfl⟩ := hrel
        clear h0
        by_cases hlm : m < 8
        · obtain ⟨q, hq⟩ : ∃ q : Nat, q = (i + m) % 8 := ⟨_, rfl⟩
          have hc := Lib.hid (hcS.out i m q hm hlm hq)
          have hq8 : q < 8 := by omega
          have e1 : wrap64 ((i : Int) + (m : Int)) = (i : Int) + m := IntWalk.wrap64_in _ (by omega)
          have e2 : ((i : Int) + (m : Int)).tmod 8 = (q : Int) := by rw [Int.tmod_eq_emod_of_nonneg (by omega)]; omega
          clear hq
          go_wp2_with fail
          go_roundw
          case rel => exact ⟨m + 1, by omega, by omega, by go_num, fval_of hc.out, trivial⟩
          case measure => simp [intOf]; omega
        · obtain rfl : m = 8 := by omega
          go_wp2_with fail
          go_roundw
          case rel => exact ⟨i + 1, by omega, by go_num, fval_of hs.out, trivial⟩
          case measure => simp [intOf]; omega
    · obtain rfl : i = 8 := by omega
      have hf : Hid (((affR b 8 : Nat) : Int) % 256 = ((aff b : Nat) : Int)) := by unfold Hid; rw [hfin.out]; omega
      go_wp2_with fail
      go_ret
      exact ⟨fret_of hf.out, rfl⟩
end Go.Proofs.YtghcpfcomhfppaaDoor
