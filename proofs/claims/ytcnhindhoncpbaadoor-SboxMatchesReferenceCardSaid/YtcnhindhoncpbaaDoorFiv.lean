/-
  Contract of the inverse in the reference package of layer 3, by a walk through its text, for any byte; what was there stays as it was.
-/
import Derived.Test.YtcnhindhoncpbaaDoorFir
namespace Go.Proofs.YtcnhindhoncpbaaDoor
open Go.RowKit
set_option linter.unusedVariables false
set_option maxRecDepth 10000

theorem inv_first (a k : Nat) (ha : a < 256) (hk : k < 256) (h : mul a k = 1) : k = inv a := inv_unique a k ha hk h
theorem inv_none (a : Nat) (ha : a < 256) (h : ∀ j, j < 256 → mul a j ≠ 1) : inv a = 0 := by
  by_cases h0 : a = 0
  · subst h0; exact inv_zero
  · exact absurd (inv_mul a ha h0) (h _ (inv_lt a))

set_option maxHeartbeats 800000 in
theorem refinv (a : Nat) (w : World) (ha : a < 256) :
    Calls Tryd.prog 12 #[.int .u8 a] w fun e w' => e = .returned (.int .u8 (inv a : Nat)) ∧ Below w.heap.size w w' := by
  go_enter Tryd.func12, Tryd.ntmps12
  go_wp2
  go_loopw [3] (fun x wr => ∃ k : Nat, k ≤ 256 ∧ x = .int .i64 k ∧ Hid (∀ j, j < k → mul a j ≠ 1) ∧ Below w.heap.size w wr) (fun x _ => 256 - (intOf x).toNat)
  case atStart => exact ⟨0, Nat.zero_le _, rfl, Lib.hid (fun j h => absurd h (Nat.not_lt_zero _)), Below.refl _ _⟩
  case round =>
    obtain ⟨k, hk, rfl, hno, hbel⟩ := hrel
    by_cases hlt : k < 256
    · have hB := hbel.size
      go_wp2_with fail
      refine (refmul a k _ ha hlt).mono ?_
      rintro e w1 ⟨rfl, hb1⟩
      have hb2 : Below w.heap.size w w1 := hbel.trans (hb1.mono hB)
      clear hb1 hbel hB
      by_cases h1 : mul a k = 1
      · have hi := Lib.hid (inv_first a k ha hlt h1)
        have ht : ((mul a k : Int) == 1) = true := by rw [h1]; rfl
        clear h1
        go_wp2_with fail
        go_ret
        exact ⟨fret_of (by rw [← hi.out]), hb2⟩
      · have ht : ((mul a k : Int) == 1) = false := by simp; omega
        have hn : Hid (∀ j, j < k + 1 → mul a j ≠ 1) := by
          unfold Hid
          intro j hj
          rcases Nat.lt_or_ge j k with h2 | h2
          · exact hno.out j h2
          · obtain rfl : j = k := by omega
            exact h1
        clear h1
        go_wp2_with fail
        go_roundw
        case rel => exact ⟨k + 1, by omega, by go_num, hn, hb2⟩
        case measure => simp [intOf]; omega
    · obtain rfl : k = 256 := by omega
      have hi := Lib.hid (inv_none a ha hno.out)
      go_wp2_with fail
      go_ret
      exact ⟨fret_of (by rw [hi.out]; rfl), hbel⟩
end Go.Proofs.YtcnhindhoncpbaaDoor
