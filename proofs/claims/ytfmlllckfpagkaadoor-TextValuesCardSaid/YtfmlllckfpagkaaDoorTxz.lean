/-
  Contracts of package text: Value, Character, wrong, gathered, by walks through their texts; what was there stays as it was. Condition: the table holds what the program's text lays.
-/
import Derived.Test.YtfmlllckfpagkaaDoorTxm
import Derived.Deep.LoopGhost
namespace Go.Proofs.YtfmlllckfpagkaaDoor
open Go.RowKit
set_option linter.unusedVariables false
set_option maxRecDepth 100000

theorem tval (c : Nat) (w : World) (hc : c < 256) (hx : TxG w) : Calls Tryd.prog 13 #[.int .u8 (c : Int)] w fun e w' => e = .returned (.int .i64 (tvI c)) ∧ Below w.heap.size w w' := by
  by_cases h : c < 128
  · have hc1 := hx.tab c h
    have hr := tv_range c hc
    obtain ⟨z, hz⟩ : ∃ z, tvI c = z := ⟨_, rfl⟩
    rw [hz] at hc1 hr
    rw [hz]
    have i1 : ¬ (128 : Int) ≤ (c : Int) := by omega
    have i2 : (c : Int) < 128 := by omega
    clear hz hx hc h
    go_enter Tryd.func13, Tryd.ntmps13
    go_wp2_with fail
    go_ret
    exact ⟨rfl, Below.refl _ _⟩
  · have i1 : (128 : Int) ≤ (c : Int) := by omega
    have i0 : (c : Int) < 256 := by omega
    have e : tvI c = -1 := by unfold tvI; rw [if_neg (by omega), if_neg (by omega), if_neg (by omega), if_neg (by omega), if_neg (by omega)]
    rw [e]
    clear e hx hc h
    go_enter Tryd.func13, Tryd.ntmps13
    go_wp2_with fail
    go_ret
    exact ⟨rfl, Below.refl _ _⟩
theorem tchar (v : Int) (w : World) (hv : -9223372036854775808 ≤ v ∧ v ≤ 9223372036854775807) (hx : TxG w) : Calls Tryd.prog 14 #[.int .i64 v] w fun e w' => e = .returned (.tuple #[.int .u8 (tchN v : Nat), .bool (decide (0 ≤ v ∧ v < 64))]) ∧ Below w.heap.size w w' := by
  rcases (show (0 ≤ v ∧ v < 64) ∨ v < 0 ∨ 64 ≤ v by omega) with h | h | h
  · obtain ⟨k, rfl⟩ : ∃ k : Nat, v = (k : Int) := ⟨v.toNat, by omega⟩
    have hk : k < 64 := by omega
    have hix := run_all k hk
    rw [show tchN (k : Int) = tcF k by unfold tchN; rw [if_pos h]; rfl, decide_eq_true h]
    obtain ⟨y, hy⟩ : ∃ y, tcF k = y := ⟨_, rfl⟩
    rw [hy] at hix
    rw [hy]
    have i1 : ¬ (k : Int) < 0 := by omega
    have i2 : ¬ (64 : Int) ≤ (k : Int) := by omega
    clear hy hx hv h hk
    go_enter Tryd.func14, Tryd.ntmps14
    go_wp2_with fail
    go_ret2
    exact ⟨rfl, Below.refl _ _⟩
  · rw [show tchN v = 0 by unfold tchN; rw [if_neg (by omega)], show decide (0 ≤ v ∧ v < 64) = false from decide_eq_false (by omega)]
    go_enter Tryd.func14, Tryd.ntmps14
    go_wp2_with fail
    go_ret2
    exact ⟨rfl, Below.refl _ _⟩
  · rw [show tchN v = 0 by unfold tchN; rw [if_neg (by omega)], show decide (0 ≤ v ∧ v < 64) = false from decide_eq_false (by omega)]
    have i1 : ¬ v < 0 := by omega
    go_enter Tryd.func14, Tryd.ntmps14
    go_wp2_with fail
    go_ret2
    exact ⟨rfl, Below.refl _ _⟩
/-- The first place that is wrong; 22: none. -/
def wroN (s : List UInt8) : Nat := match badF s 0 22 with | some i => i | none => if (valF s 21).toNat % 16 ≠ 0 then 21 else 22
theorem wro_bad {s : List UInt8} {k : Nat} (hk : k < 22) (h2 : valF s k < 0) (hj : ∀ j, j < k → 0 ≤ valF s j) : wroN s = k := by
  unfold wroN
  rw [bad_at h2 22 0 (by omega) (by omega) (fun j _ h => hj j h)]
theorem wro_last {s : List UInt8} (hj : ∀ j, j < 22 → 0 ≤ valF s j) : wroN s = if (valF s 21).toNat % 16 ≠ 0 then 21 else 22 := by
  unfold wroN
  rw [bad_none 22 0 (fun j _ h => hj j (by omega))]
set_option maxHeartbeats 1600000 in
theorem twrong (s : List UInt8) (w : World) (hn : s.length = 22) (hx : TxG w) : Calls Tryd.prog 17 #[.string (stB s)] w fun e w' => e = .returned (.int .i64 (wroN s : Nat)) ∧ Below w.heap.size w w' := by
  have hidx := Lib.hid (fun i (h : i < s.length) V => run_idx s i h V)
  obtain ⟨S, hS⟩ : ∃ S, stB s = S := ⟨_, rfl⟩
  rw [hS, hn] at hidx
  rw [hS]
  have HX := Lib.hid hx
  clear hS hn hx
  go_enter Tryd.func17, Tryd.ntmps17
  go_wp2_with fail
  go_loopw [5] (fun i wr => ∃ k : Nat, k ≤ 22 ∧ i = .int .i64 k ∧ (∀ j, j < k → 0 ≤ valF s j) ∧ (k = 22 → (valF s 21).toNat % 16 = 0) ∧ Below w.heap.size w wr) (fun i _ => 22 - (intOf i).toNat)
  case atStart => exact ⟨0, by omega, rfl, fun j hj => by omega, fun h => by omega, Below.refl _ _⟩
  case round =>
    obtain ⟨k, hk, rfl, hj, hl, hB⟩ := hrel
    have HJ := Lib.hid hj
    have HL := Lib.hid hl
    clear hj hl
    by_cases hlt : k < 22
    · have i1 : (k : Int) < 22 := by omega
      have hix := hidx.out k hlt
      have HK := Lib.hid hlt
      clear hk hlt HL
      go_wp2_with fail
      refine (tval (lF s k) wr (lF_lt s k) (HX.out.keep hB)).mono ?_
      rintro e w4 ⟨rfl, hq⟩
      have hB4 := hB.trans (hq.mono hB.size)
      clear hix hq hB
      have HVL := Lib.hid (val_lt s k)
      obtain ⟨z, hz9⟩ : ∃ z, valF s k = z := ⟨_, rfl⟩
      rw [show tvI (lF s k) = z from hz9]
      have HZ := Lib.hid hz9
      rw [hz9] at HVL
      clear hz9
      by_cases hneg : z < 0
      · have HW := Lib.hid (wro_bad HK.out (by rw [HZ.out]; exact hneg) HJ.out)
        go_wp2_with fail
        go_ret
        exact ⟨by rw [HW.out]; rfl, hB4⟩
      · obtain ⟨v, rfl⟩ : ∃ v : Nat, z = (v : Int) := ⟨z.toNat, by omega⟩
        have HA := Lib.hid (show ∀ j, j < k + 1 → 0 ≤ valF s j from fun j hj => by
          rcases Nat.lt_or_ge j k with h | h
          · exact HJ.out j h
          · obtain rfl : j = k := by omega
            rw [HZ.out]; omega)
        clear hneg
        have i0 : ¬ (v : Int) < 0 := by omega
        by_cases h21 : k = 21
        · subst h21
          have HT := Lib.hid (show (v : Int).tmod 16 = ((v % 16 : Nat) : Int) by rw [Int.tmod_eq_emod_of_nonneg (by omega)]; omega)
          have HW := Lib.hid (wro_last HA.out)
          have HV := Lib.hid (show (valF s 21).toNat = v by rw [HZ.out]; rfl)
          obtain ⟨q, hq⟩ : ∃ q, v % 16 = q := ⟨_, rfl⟩
          rw [hq] at HT
          have HQ := Lib.hid hq
          clear hq
          have ht := HT.out
          by_cases hq0 : q = 0
          · subst hq0
            go_wp2_with fail
            go_roundw
            case rel => exact ⟨22, by omega, by go_num, HA.out, fun _ => by rw [HV.out, HQ.out], hB4⟩
            case measure => simp [intOf]
          · have hne : ((q : Int) != 0) = true := by simp; omega
            have HW2 := Lib.hid (show wroN s = 21 by rw [HW.out, HV.out, HQ.out, if_pos hq0])
            clear hq0
            go_wp2_with fail
            go_ret
            exact ⟨by rw [HW2.out]; rfl, hB4⟩
        · have hne : ¬ (k : Int) = 21 := by omega
          have HE := Lib.hid h21
          clear h21
          go_wp2_with fail
          go_roundw
          case rel => exact ⟨k + 1, by have := HK.out; omega, by go_num, HA.out, fun h => absurd (show k = 21 by omega) HE.out, hB4⟩
          case measure => simp [intOf]; have := HK.out; omega
    · obtain rfl : k = 22 := by omega
      have i1 : ¬ (22 : Int) < 22 := by omega
      have HW := Lib.hid (show wroN s = 22 by rw [wro_last HJ.out, if_neg (by have := HL.out rfl; omega)])
      clear hk hlt
      go_wp2_with fail
      go_ret
      exact ⟨by rw [HW.out]; rfl, hB⟩
end Go.Proofs.YtfmlllckfpagkaaDoor
