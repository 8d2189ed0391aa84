/-
  Contract of the powers in the reference package of layer 3, by a walk through its text, for any byte and any number up to 1000; what was there stays as it was.
-/
import Derived.Test.YtghcpfcomhfppaaDoorFir
namespace Go.Proofs.YtghcpfcomhfppaaDoor
open Go.RowKit
set_option linter.unusedVariables false
set_option maxRecDepth 10000

set_option maxHeartbeats 800000 in
theorem refpow (a n : Nat) (w : World) (ha : a < 256) (hn : n ≤ 1000) :
    Calls Tryd.prog 48 #[.int .u8 a, .int .i64 n] w fun e w' => e = .returned (.int .u8 (pwr a n : Nat)) ∧ Below w.heap.size w w' := by
  go_enter Tryd.func48, Tryd.ntmps48
  go_wp2
  go_loopw [5, 6] (fun x i wr => ∃ k : Nat, k ≤ n ∧ i = .int .i64 k ∧ x = .int .u8 (pwr a k : Nat) ∧ Below w.heap.size w wr) (fun _ i _ => n - (intOf i).toNat)
  case atStart => exact ⟨0, Nat.zero_le _, rfl, rfl, Below.refl _ _⟩
  case round =>
    obtain ⟨k, hk, rfl, rfl, hbel⟩ := hrel
    by_cases hlt : k < n
    · have hB := hbel.size
      have hp := pwr_lt a k
      go_wp2_with fail
      refine (refmul (pwr a k) a _ hp ha).mono ?_
      rintro e w1 ⟨rfl, hb1⟩
      have hb2 : Below w.heap.size w w1 := hbel.trans (hb1.mono hB)
      go_wp2_with fail
      go_roundw
      case rel => exact ⟨k + 1, by omega, by go_num, rfl, hb2⟩
      case measure => simp [intOf]; omega
    · obtain rfl : k = n := by omega
      go_wp2_with fail
      go_ret
      exact ⟨rfl, hbel⟩
end Go.Proofs.YtghcpfcomhfppaaDoor
