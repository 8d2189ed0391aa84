/-
  Contracts of sbox.Back and of the reference's way back, by walks through their texts, for any byte; what was there stays as it was.
-/
import Derived.Test.YtcnhindhoncpbaaDoorSbs
namespace Go.Proofs.YtcnhindhoncpbaaDoor
open Go.RowKit
set_option linter.unusedVariables false
set_option maxRecDepth 10000

set_option maxHeartbeats 800000 in
theorem sback (b : Nat) (w : World) (hb : b < 256) (h : Boxes w) :
    Calls Tryd.prog 14 #[.int .u8 b] w fun e w' => e = .returned (.int .u8 (bk b : Nat)) ∧ w' = w := by
  have hfirst := Lib.hid (fun k hk e => sb_first b k hk e)
  have hhit := Lib.hid (sb_bk b hb)
  have hbl := bk_lt b hb
  go_enter Tryd.func14, Tryd.ntmps14
  go_wp2_with fail
  go_loopw [4] (fun i wr => ∃ n : Nat, n ≤ bk b ∧ i = .int .i64 n ∧ wr = w) (fun i _ => 256 - (intOf i).toNat)
  case atStart => exact ⟨0, Nat.zero_le _, rfl, rfl⟩
  case round =>
    obtain ⟨n, hn, rfl, rfl⟩ := hrel
    have hn2 : n < 256 := by omega
    have hi2 : (n : Int) < 256 := by omega
    have hc := h.at_ n hn2
    by_cases he : sb n = b
    · have hk := Lib.hid (hfirst.out n hn2 he)
      have ht : ((sb n : Int) == (b : Int)) = true := by rw [he]; simp
      clear he
      go_wp2_with fail
      go_ret
      exact ⟨fret_of (by rw [← hk.out]), rfl⟩
    · have ht : ((sb n : Int) == (b : Int)) = false := by simp; omega
      have hne : n ≠ bk b := by rintro rfl; exact he hhit.out
      clear he
      go_wp2_with fail
      go_roundw
      case rel => exact ⟨n + 1, by omega, by go_num, trivial⟩
      case measure => simp [intOf]; omega

set_option maxHeartbeats 800000 in
theorem refback (b : Nat) (w : World) (hb : b < 256) :
    Calls Tryd.prog 15 #[.agg boxA, .int .u8 b] w fun e w' => e = .returned (.int .u8 (bk b : Nat)) ∧ Below w.heap.size w w' := by
  have hfirst := Lib.hid (fun k hk e => sb_first b k hk e)
  have hhit := Lib.hid (sb_bk b hb)
  have hbl := bk_lt b hb
  have hA : Ar (w.alloc (.cells boxA 23)) w.heap.size 256 sb := Ar.new w 256 sb _
  have hbel : Below w.heap.size w (w.alloc (.cells boxA 23)) := (Below.refl _ _).alloc (Nat.le_refl _) _
  go_enter Tryd.func15, Tryd.ntmps15
  go_wp2
  obtain ⟨w2, hw2⟩ : ∃ w2 : World, w2 = w.alloc (.cells boxA 23) := ⟨_, rfl⟩
  rw [← hw2] at hA hbel
  rw [← hw2]
  clear hw2
  go_loopw [5] (fun i wr => ∃ n : Nat, n ≤ bk b ∧ i = .int .i64 n ∧ wr = w2) (fun i _ => 256 - (intOf i).toNat)
  case atStart => exact ⟨0, Nat.zero_le _, rfl, rfl⟩
  case round =>
    obtain ⟨n, hn, rfl, rfl⟩ := hrel
    have hn2 : n < 256 := by omega
    obtain ⟨hc, hf⟩ := hA n hn2
    by_cases he : sb n = b
    · have hk := Lib.hid (hfirst.out n hn2 he)
      have ht : ((sb n : Int) == (b : Int)) = true := by rw [he]; simp
      clear he
      go_wp2_with fail
      go_ret
      exact ⟨fret_of (by rw [← hk.out]), hbel⟩
    · have ht : ((sb n : Int) == (b : Int)) = false := by simp; omega
      have hne : n ≠ bk b := by rintro rfl; exact he hhit.out
      clear he
      go_wp2_with fail
      go_roundw
      case rel => exact ⟨n + 1, by omega, by go_num, trivial⟩
      case measure => simp [intOf]; omega
end Go.Proofs.YtcnhindhoncpbaaDoor
