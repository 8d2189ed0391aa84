/-
  Contract of sbox.Fixed, by a walk through its text; nothing is written.
-/
import Derived.Test.YtcnhindhoncpbaaDoorSbs
namespace Go.Proofs.YtcnhindhoncpbaaDoor
open Go.RowKit
set_option linter.unusedVariables false
set_option maxRecDepth 10000

theorem sb_fixed (i : Nat) (h : i < 256) : ((i : Int) == ((sb i : Nat) : Int)) = false ∧ ((i : Int) == bits BinOp.xor .u8 (if IntKind.u8.signed = true then -1 else IntKind.u8.max) ((sb i : Nat) : Int)) = false := by
  have h1 := sb_ne i h
  have h2 := sb_lt i
  have h3 : sb i ^^^ 255 = 255 - sb i := by
    have H : ∀ x, x < 256 → x ^^^ 255 = 255 - x := by decide +kernel
    exact H _ h2
  have e := xor_n8 255 (sb i) (by omega) h2
  rw [show ((255 : Nat) : Int) = 255 from rfl] at e
  rw [show (if IntKind.u8.signed = true then (-1 : Int) else IntKind.u8.max) = 255 from by decide, e, Nat.xor_comm, h3]
  constructor <;> simp <;> omega
set_option maxHeartbeats 800000 in
theorem sfixed (w : World) (h : Boxes w) :
    Calls Tryd.prog 17 #[] w fun e w' => e = .returned (.tuple #[.int .i64 0, .int .i64 0]) ∧ w' = w := by
  have hfx := Lib.hid sb_fixed
  have hix := Lib.hid box_ix
  go_enter Tryd.func17, Tryd.ntmps17
  go_upto_region 1 with fail
  go_wp2_with (refine wpList_load_mid rfl _ _ rfl _ _ rfl boxV _ h Tryd.arr256 rfl Tryd.size256 ?_; rw [boxA_def])
  go_loopw [0, 1, 5] (fun x y i wr => ∃ n : Nat, n ≤ 256 ∧ i = .int .i64 n ∧ x = .int .i64 0 ∧ y = .int .i64 0 ∧ wr = w) (fun _ _ i _ => 256 - (intOf i).toNat)
  case atStart => exact ⟨0, Nat.zero_le _, rfl, rfl, rfl, rfl⟩
  case round =>
    obtain ⟨n, hn, rfl, rfl, rfl, rfl⟩ := hrel
    by_cases hlt : n < 256
    · obtain ⟨hf1, hf2⟩ := hfx.out n hlt
      have hi := hix.out n hlt wr
      go_wp2_with fail
      go_roundw
      case rel => exact ⟨n + 1, by omega, by go_num, rfl, rfl, trivial⟩
      case measure => simp [intOf]; omega
    · obtain rfl : n = 256 := by omega
      go_wp2_with fail
      go_ret2
      exact ⟨rfl, rfl⟩
end Go.Proofs.YtcnhindhoncpbaaDoor
