/-
  Contract of sbox.Affine, by a walk through its text, for any byte; nothing is written.
-/
import Derived.Test.YtcnhindhoncpbaaDoorSbs
import Derived.Test.YtcnhindhoncpbaaDoorSb8
namespace Go.Proofs.YtcnhindhoncpbaaDoor
open Go.RowKit
set_option linter.unusedVariables false
set_option maxRecDepth 10000

theorem affK_step (b n : Nat) (hb : b < 256) (hn : n < 4) : bits .xor .u8 ((affK b n : Nat) : Int) ((rl b (n + 1) : Nat) : Int) = ((affK b (n + 1) : Nat) : Int) :=
  xor_n8 _ _ (affK_lt b hb n (by omega)) (rl_lt b hb (n + 1) (by omega))

set_option maxHeartbeats 800000 in
theorem saff (b : Nat) (w : World) (hb : b < 256) :
    Calls Tryd.prog 13 #[.int .u8 b] w fun e w' => e = .returned (.int .u8 (aff b : Nat)) ∧ w' = w := by
  have h0 : bits BinOp.xor IntKind.u8 99 (b : Int) = ((affK b 0 : Nat) : Int) := xor_n8 99 b (by omega) hb
  have hstep := Lib.hid (fun n hn => affK_step b n hb hn)
  go_enter Tryd.func13, Tryd.ntmps13
  go_wp2
  go_loopw [3, 7] (fun x i wr => ∃ n : Nat, n ≤ 4 ∧ i = .int .i64 n ∧ x = .int .u8 (affK b n : Nat) ∧ wr = w) (fun _ i _ => 4 - (intOf i).toNat)
  case atStart => exact ⟨0, Nat.zero_le _, rfl, rfl, rfl⟩
  case round =>
    obtain ⟨n, hn, rfl, rfl, rfl⟩ := hrel
    clear h0
    by_cases hlt : n < 4
    · have hs := Lib.hid (hstep.out n hlt)
      have hw : wrap64 ((n : Int) + 1) = ((n + 1 : Nat) : Int) := by rw [IntWalk.wrap64_in _ (by omega)]; omega
      go_wp2_with fail
      rw [show (n : Int) + 1 = ((n + 1 : Nat) : Int) from rfl]
      refine (rotl8 b (n + 1) _ hb (by omega)).mono ?_
      rintro e w' ⟨rfl, rfl⟩
      go_wp2_with fail
      go_roundw
      case rel => exact ⟨n + 1, by omega, by go_num, fval_of hs.out, trivial⟩
      case measure => simp [intOf]; omega
    · obtain rfl : n = 4 := by omega
      go_wp2_with fail
      go_ret
      exact ⟨rfl, rfl⟩
end Go.Proofs.YtcnhindhoncpbaaDoor
