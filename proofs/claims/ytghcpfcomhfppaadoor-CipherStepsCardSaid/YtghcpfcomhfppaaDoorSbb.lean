/-
  Contract of sbox.Back, by a walk through its text, for any byte; nothing is written.
-/
import Derived.Test.YtghcpfcomhfppaaDoorSbs
namespace Go.Proofs.YtghcpfcomhfppaaDoor
open Go.RowKit
set_option linter.unusedVariables false
set_option maxRecDepth 10000

set_option maxHeartbeats 800000 in
theorem sback (b : Nat) (w : World) (hb : b < 256) (h : Boxes w) :
    Calls Tryd.prog 39 #[.int .u8 b] w fun e w' => e = .returned (.int .u8 (bk b : Nat)) ∧ w' = w := by
  have hfirst := Lib.hid (fun k hk e => sb_first b k hk e)
  have hhit := Lib.hid (sb_bk b hb)
  have hbl := bk_lt b hb
  go_enter Tryd.func39, Tryd.ntmps39
  go_wp2_with fail
  go_loopw [4] (fun i wr => ∃ n : Nat, n ≤ bk b ∧ i = .int .i64 n ∧ wr = w) (fun i _ => 256 - (intOf i).toNat)
  case atStart => exact ⟨0, Nat.zero_le _, rfl, rfl⟩
  case round =>
    obtain ⟨n, hn, rfl, rfl⟩ := hrel
    have hn2 : n < 256 := by omega
    have hi2 : (n : Int) < 256 := by omega
    have hc := h.at_ n hn2
    by_cases he : sb n = b
    · have hk := Lib.hid (hfirst.out n hn2 he)
      have ht : ((sb n : Int) == (b : Int)) = true := by rw [he]; simp
      clear he
      go_wp2_with fail
      go_ret
      exact ⟨fret_of (by rw [← hk.out]), rfl⟩
    · have ht : ((sb n : Int) == (b : Int)) = false := by simp; omega
      have hne : n ≠ bk b := by rintro rfl; exact he hhit.out
      clear he
      go_wp2_with fail
      go_roundw
      case rel => exact ⟨n + 1, by omega, by go_num, trivial⟩
      case measure => simp [intOf]; omega
end Go.Proofs.YtghcpfcomhfppaaDoor
