/-
  Strings of bytes: indexed, compared; the characters as a string. Contract of Value of the reference package of layer 14, by a walk through its text; what was there stays as it was.
-/
import Derived.Test.YtfmlllckfpagkaaDoorTxa
import Derived.Laws.IdiomStrings
import Derived.Laws.Concat
namespace Go.Proofs.YtfmlllckfpagkaaDoor
open Go.RowKit
set_option linter.unusedVariables false
set_option maxRecDepth 100000

/-- A string of bytes. -/
def stB (l : List UInt8) : ByteArray := ⟨l.toArray⟩
theorem stB_size (l : List UInt8) : (stB l).size = l.length := by simp [stB, ByteArray.size]
theorem stB_toList (s : ByteArray) : s = stB s.data.toList := by unfold stB; simp
theorem run_idx (l : List UInt8) (i : Nat) (h : i < l.length) (w : World) : (Instr.index 9 (.string (stB l)) (.int .i64 (i : Int))).run Tryd.prog w = .ok (.int .u8 (lF l i : Nat)) w := by
  rw [run_index_string w 9 (stB l) .i64 (i : Int) Tryd.underlying9]
  have h2 : i < (stB l).size := by rw [stB_size]; exact h
  have h1 : (0 : Int) ≤ (i : Int) ∧ (i : Int) < ((stB l).size : Int) := ⟨by omega, by omega⟩
  rw [dif_pos h1]
  have e : (stB l)[i]'h2 = l[i] := by simp [stB, ByteArray.getElem_eq_getElem_data]; rfl
  simp [e, lF, List.getD, List.getElem?_eq_getElem h]; rfl
/-- All characters. -/
def alL : List UInt8 := (List.range 64).map fun v => UInt8.ofNat (tcF v)
theorem alL_lF : ∀ v, v < 64 → lF alL v = tcF v := by decide +kernel
theorem alL_all : (⟨#[65, 66, 67, 68, 69, 70, 71, 72, 73, 74, 75, 76, 77, 78, 79, 80, 81, 82, 83, 84, 85, 86, 87, 88, 89, 90, 97, 98, 99, 100, 101, 102, 103, 104, 105, 106, 107, 108, 109, 110, 111, 112, 113, 114, 115, 116, 117, 118, 119, 120, 121, 122, 48, 49, 50, 51, 52, 53, 54, 55, 56, 57, 43, 47]⟩ : ByteArray) = stB alL := by decide +kernel
theorem run_all (i : Nat) (h : i < 64) (w : World) : (Instr.index 9 (.string ⟨#[65, 66, 67, 68, 69, 70, 71, 72, 73, 74, 75, 76, 77, 78, 79, 80, 81, 82, 83, 84, 85, 86, 87, 88, 89, 90, 97, 98, 99, 100, 101, 102, 103, 104, 105, 106, 107, 108, 109, 110, 111, 112, 113, 114, 115, 116, 117, 118, 119, 120, 121, 122, 48, 49, 50, 51, 52, 53, 54, 55, 56, 57, 43, 47]⟩) (.int .i64 (i : Int))).run Tryd.prog w = .ok (.int .u8 (tcF i : Nat)) w := by
  rw [alL_all, run_idx alL i (by simpa [alL] using h) w, alL_lF i h]
theorem tv_none {c : Nat} (hc : c < 256) (h : ∀ j, j < 64 → tcF j ≠ c) : tvI c = -1 := by
  have h1 := tv_range c hc
  rcases Int.lt_or_le (tvI c) 0 with h2 | h2
  · omega
  · exact absurd (tc_tv c hc h2) (h _ (by omega))
set_option maxHeartbeats 1600000 in
theorem rval (c : Nat) (w : World) (hc : c < 256) : Calls Tryd.prog 15 #[.int .u8 (c : Int)] w fun e w' => e = .returned (.int .i64 (tvI c)) ∧ Below w.heap.size w w' := by
  have HC := Lib.hid hc
  clear hc
  go_enter Tryd.func15, Tryd.ntmps15
  go_wp2_with fail
  go_loopw [4] (fun i wr => ∃ k : Nat, k ≤ 64 ∧ i = .int .i64 k ∧ (∀ j, j < k → tcF j ≠ c) ∧ Below w.heap.size w wr) (fun i _ => 64 - (intOf i).toNat)
  case atStart => exact ⟨0, by omega, rfl, fun j hj => by omega, Below.refl _ _⟩
  case round =>
    obtain ⟨k, hk, rfl, hno, hB⟩ := hrel
    have HNO := Lib.hid hno
    clear hno
    by_cases hlt : k < 64
    · have i1 : (k : Int) < 64 := by omega
      have hix := run_all k hlt
      have HK := Lib.hid (tv_tc k hlt)
      obtain ⟨y, hy⟩ : ∃ y, tcF k = y := ⟨_, rfl⟩
      rw [hy] at hix HK
      have HY := Lib.hid hy
      clear hy
      by_cases he : y = c
      · subst he
        go_wp2_with fail
        go_ret
        exact ⟨by rw [HK.out]; rfl, hB⟩
      · have hne : ¬ (y : Int) = (c : Int) := by omega
        have HE := Lib.hid he
        clear he
        go_wp2_with fail
        go_roundw
        case rel => exact ⟨k + 1, by omega, by go_num, fun j hj => by
          rcases Nat.lt_or_ge j k with h | h
          · exact HNO.out j h
          · obtain rfl : j = k := by omega
            rw [HY.out]; exact HE.out, hB⟩
        case measure => simp [intOf]; omega
    · have i1 : ¬ (k : Int) < 64 := by omega
      have HV := Lib.hid (tv_none HC.out (fun j hj => HNO.out j (by omega)))
      clear hk hlt
      go_wp2_with fail
      go_ret
      exact ⟨by rw [HV.out]; rfl, hB⟩
end Go.Proofs.YtfmlllckfpagkaaDoor
