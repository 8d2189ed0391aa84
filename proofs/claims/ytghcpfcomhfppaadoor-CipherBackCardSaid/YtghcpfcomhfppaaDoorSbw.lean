/-
  Contract of sbox.Word, by a walk through its text, for any word; nothing is written.
-/
import Derived.Test.YtghcpfcomhfppaaDoorSbs
import Derived.Test.YtghcpfcomhfppaaDoorSb32
namespace Go.Proofs.YtghcpfcomhfppaaDoor
open Go.RowKit
set_option linter.unusedVariables false
set_option maxRecDepth 10000

theorem word_step (x n : Nat) (hn : n < 4) : bits .or .u32 ((sbK x n : Nat) * 256 % 4294967296) (((sb (wb x n) : Nat) : Int) % 4294967296) = ((sbK x (n + 1) : Nat) : Int) := by
  have h1 := sbK_lt x n
  have h2 := sb_lt (wb x n)
  have h3 : 256 ^ n ≤ 256 ^ 3 := Nat.pow_le_pow_right (by decide) (by omega)
  have e : ((sbK x n : Nat) : Int) * 256 % 4294967296 = ((2 ^ 8 * sbK x n : Nat) : Int) := by omega
  rw [e, show ((sb (wb x n) : Nat) : Int) % 4294967296 = ((sb (wb x n) : Nat) : Int) by omega, or_u32 _ _ (by omega) (by omega), ← Nat.two_pow_add_eq_or_of_lt h2, sbK]
  omega

set_option maxHeartbeats 800000 in
theorem sboxWord (x : Nat) (w : World) (hx : x < 4294967296) (h : Boxes w) :
    Calls Tryd.prog 51 #[.int .u32 x] w fun e w' => e = .returned (.int .u32 (sbw x : Nat)) ∧ w' = w := by
  have hstep := Lib.hid (fun n hn => word_step x n hn)
  have hbyte := Lib.hid (fun n hn => rot8K_byte x hx n hn)
  have hlt8 := Lib.hid (rot8K_lt x hx)
  have hfin := Lib.hid (sbK_four x)
  go_enter Tryd.func51, Tryd.ntmps51
  go_wp2
  go_loopw [0, 3, 4] (fun y z i wr => ∃ n : Nat, n ≤ 4 ∧ i = .int .i64 n ∧ y = .int .u32 (rot8K x n : Nat) ∧ z = .int .u32 (sbK x n : Nat) ∧ wr = w) (fun _ _ i _ => 4 - (intOf i).toNat)
  case atStart => exact ⟨0, Nat.zero_le _, rfl, rfl, rfl, rfl⟩
  case round =>
    obtain ⟨n, hn, rfl, rfl, rfl, rfl⟩ := hrel
    by_cases hlt : n < 4
    · have hs := Lib.hid (hstep.out n hlt)
      have hb := Lib.hid (hbyte.out n hlt)
      have hl := hlt8.out n
      have hl1 := hlt8.out (n + 1)
      have hwb : wb x n < 256 := Nat.mod_lt _ (by decide)
      have hwr : ((rot8K x (n + 1) : Nat) : Int) % 256 = ((wb x n : Nat) : Int) := by have := hb.out; omega
      go_wp2_with fail
      refine (rotl32 _ _ hl).mono ?_
      rintro e w' ⟨rfl, rfl⟩
      rw [show rot8 (rot8K x n) = rot8K x (n + 1) from rfl]
      go_wp2_with fail
      refine (sboxS (wb x n) _ hwb h).mono ?_
      rintro e w' ⟨rfl, rfl⟩
      go_wp2_with fail
      go_roundw
      case rel => exact ⟨n + 1, by omega, by go_num, rfl, fval_of hs.out, trivial⟩
      case measure => simp [intOf]; omega
    · obtain rfl : n = 4 := by omega
      go_wp2_with fail
      go_ret
      exact ⟨fret_of (by rw [hfin.out]), rfl⟩
end Go.Proofs.YtghcpfcomhfppaaDoor
