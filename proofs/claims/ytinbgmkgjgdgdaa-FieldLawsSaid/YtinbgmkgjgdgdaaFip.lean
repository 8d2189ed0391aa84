/-
  Contracts of the inverses and the powers of package field and of the reference package of layer 3, each by a walk through its text, for any bytes; what was there stays as it was.
-/
import Derived.Test.YtinbgmkgjgdgdaaFir
namespace Go.Proofs.Ytinbgmkgjgdgdaa
open Go.RowKit
set_option linter.unusedVariables false
set_option maxRecDepth 10000

/-! ### The reference's inverse and powers -/
theorem inv_first (a k : Nat) (ha : a < 256) (hk : k < 256) (h : mul a k = 1) : k = inv a := inv_unique a k ha hk h
theorem inv_none (a : Nat) (ha : a < 256) (h : ∀ j, j < 256 → mul a j ≠ 1) : inv a = 0 := by
  by_cases h0 : a = 0
  · subst h0; exact inv_zero
  · exact absurd (inv_mul a ha h0) (h _ (inv_lt a))

set_option maxHeartbeats 800000 in
theorem refinv (a : Nat) (w : World) (ha : a < 256) :
    Calls Try.prog 13 #[.int .u8 a] w fun e w' => e = .returned (.int .u8 (inv a : Nat)) ∧ Below w.heap.size w w' := by
  go_enter Try.func13, Try.ntmps13
  go_wp2
  go_loopw [3] (fun x wr => ∃ k : Nat, k ≤ 256 ∧ x = .int .i64 k ∧ Hid (∀ j, j < k → mul a j ≠ 1) ∧ Below w.heap.size w wr) (fun x _ => 256 - (intOf x).toNat)
  case atStart => exact ⟨0, Nat.zero_le _, rfl, Lib.hid (fun j h => absurd h (Nat.not_lt_zero _)), Below.refl _ _⟩
  case round =>
    obtain ⟨k, hk, rfl, hno, hbel⟩ := hrel
    by_cases hlt : k < 256
    · have hB := hbel.size
      go_wp2_with fail
      refine (refmul a k _ ha hlt).mono ?_
      rintro e w1 ⟨rfl, hb1⟩
      have hb2 : Below w.heap.size w w1 := hbel.trans (hb1.mono hB)
      clear hb1 hbel hB
      by_cases h1 : mul a k = 1
      · have hi := Lib.hid (inv_first a k ha hlt h1)
        have ht : ((mul a k : Int) == 1) = true := by rw [h1]; rfl
        clear h1
        go_wp2_with fail
        go_ret
        exact ⟨fret_of (by rw [← hi.out]), hb2⟩
      · have ht : ((mul a k : Int) == 1) = false := by simp; omega
        have hn : Hid (∀ j, j < k + 1 → mul a j ≠ 1) := by
          unfold Hid
          intro j hj
          rcases Nat.lt_or_ge j k with h2 | h2
          · exact hno.out j h2
          · obtain rfl : j = k := by omega
            exact h1
        clear h1
        go_wp2_with fail
        go_roundw
        case rel => exact ⟨k + 1, by omega, by go_num, hn, hb2⟩
        case measure => simp [intOf]; omega
    · obtain rfl : k = 256 := by omega
      have hi := Lib.hid (inv_none a ha hno.out)
      go_wp2_with fail
      go_ret
      exact ⟨fret_of (by rw [hi.out]; rfl), hbel⟩

set_option maxHeartbeats 800000 in
theorem refpow (a n : Nat) (w : World) (ha : a < 256) (hn : n ≤ 1000) :
    Calls Try.prog 15 #[.int .u8 a, .int .i64 n] w fun e w' => e = .returned (.int .u8 (pwr a n : Nat)) ∧ Below w.heap.size w w' := by
  go_enter Try.func15, Try.ntmps15
  go_wp2
  go_loopw [5, 6] (fun x i wr => ∃ k : Nat, k ≤ n ∧ i = .int .i64 k ∧ x = .int .u8 (pwr a k : Nat) ∧ Below w.heap.size w wr) (fun _ i _ => n - (intOf i).toNat)
  case atStart => exact ⟨0, Nat.zero_le _, rfl, rfl, Below.refl _ _⟩
  case round =>
    obtain ⟨k, hk, rfl, rfl, hbel⟩ := hrel
    by_cases hlt : k < n
    · have hB := hbel.size
      have hp := pwr_lt a k
      go_wp2_with fail
      refine (refmul (pwr a k) a _ hp ha).mono ?_
      rintro e w1 ⟨rfl, hb1⟩
      have hb2 : Below w.heap.size w w1 := hbel.trans (hb1.mono hB)
      go_wp2_with fail
      go_roundw
      case rel => exact ⟨k + 1, by omega, by go_num, rfl, hb2⟩
      case measure => simp [intOf]; omega
    · obtain rfl : k = n := by omega
      go_wp2_with fail
      go_ret
      exact ⟨rfl, hbel⟩

/-! ### Powers by squares -/
theorem raise_odd (x m p : Nat) (hx : x < 256) (hp : p < 256) (h : m % 2 = 1) : mul (mul p x) (pwr (mul x x) (m / 2)) = mul p (pwr x m) := by
  rw [pwr_sq x _ hx]
  have e : m = 2 * (m / 2) + 1 := by omega
  have e2 : pwr x m = mul (pwr x (2 * (m / 2))) x := by
    conv => lhs; rw [e]
    rfl
  rw [e2, mul_assoc_ p x _ hp hx (pwr_lt x _), mul_comm_ x _ hx (pwr_lt x _)]
theorem raise_even (x m p : Nat) (hx : x < 256) (h : m % 2 = 0) : mul p (pwr (mul x x) (m / 2)) = mul p (pwr x m) := by
  rw [pwr_sq x _ hx, show 2 * (m / 2) = m by omega]

set_option maxHeartbeats 800000 in
theorem fraise (a n : Nat) (w : World) (ha : a < 256) (hn : n < 18446744073709551616) :
    Calls Try.prog 19 #[.int .u8 a, .int .u64 n] w fun e w' => e = .returned (.int .u8 (pwr a n : Nat)) ∧ Below w.heap.size w w' := by
  have h0 : mul 1 (pwr a n) = pwr a n := one_mul_ _ (pwr_lt a n)
  go_enter Try.func19, Try.ntmps19
  go_wp2
  go_loopw [0, 1, 5] (fun x y z wr => ∃ u m p : Nat, u < 256 ∧ m < 18446744073709551616 ∧ p < 256 ∧ x = .int .u8 u ∧ y = .int .u64 m ∧ z = .int .u8 p ∧ Hid (mul p (pwr u m) = pwr a n) ∧ Below w.heap.size w wr) (fun _ y _ _ => (intOf y).toNat)
  case atStart => exact ⟨a, n, 1, ha, hn, by omega, rfl, rfl, rfl, Lib.hid h0, Below.refl _ _⟩
  case round =>
    obtain ⟨u, m, p, hu, hm, hp, rfl, rfl, rfl, hinv, hbel⟩ := hrel
    have hB := hbel.size
    by_cases hlt : 0 < m
    · rcases Nat.mod_two_eq_zero_or_one m with h2 | h2
      · have ht : (bits .and .u64 (m : Int) 1 == 1) = false := by rw [and1_u64 m hm, h2]; rfl
        have hnx := Lib.hid ((raise_even u m p hu h2).trans hinv.out)
        clear h2 hinv h0
        go_wp2_with fail
        refine (fmul u u _ hu hu).mono ?_
        rintro e w1 ⟨rfl, hb1⟩
        have hb2 : Below w.heap.size w w1 := hbel.trans (hb1.mono hB)
        go_wp2_with fail
        go_roundw
        case rel => exact ⟨mul u u, m / 2, p, mul_lt _ _ hu, by omega, hp, rfl, fval_of (by simp), rfl, hnx, hb2⟩
        case measure => simp [intOf]; omega
      · have ht : (bits .and .u64 (m : Int) 1 == 1) = true := by rw [and1_u64 m hm, h2]; rfl
        have hnx := Lib.hid ((raise_odd u m p hu hp h2).trans hinv.out)
        clear h2 hinv h0
        go_wp2_with fail
        refine (fmul p u _ hp hu).mono ?_
        rintro e w1 ⟨rfl, hb1⟩
        have hb2 : Below w.heap.size w w1 := hbel.trans (hb1.mono hB)
        have hB2 := hb2.size
        go_wp2_with fail
        refine (fmul u u _ hu hu).mono ?_
        rintro e w2 ⟨rfl, hb3⟩
        have hb4 : Below w.heap.size w w2 := hb2.trans (hb3.mono hB2)
        go_wp2_with fail
        go_roundw
        case rel => exact ⟨mul u u, m / 2, mul p u, mul_lt _ _ hu, by omega, mul_lt _ _ hp, rfl, fval_of (by simp), rfl, hnx, hb4⟩
        case measure => simp [intOf]; omega
    · obtain rfl : m = 0 := by omega
      have he : Hid (p = pwr a n) := by
        have h := hinv.out
        rw [show pwr u 0 = 1 from rfl, mul_one_ p hp] at h
        exact h
      go_wp2_with fail
      go_ret
      exact ⟨fret_of (by rw [he.out]), hbel⟩

theorem finv (a : Nat) (w : World) (ha : a < 256) :
    Calls Try.prog 12 #[.int .u8 a] w fun e w' => e = .returned (.int .u8 (inv a : Nat)) ∧ Below w.heap.size w w' := by
  have hi := Lib.hid (show pwr a 254 = inv a from rfl)
  go_enter Try.func12, Try.ntmps12
  go_wp2_with fail
  refine (fraise a 254 _ ha (by omega)).mono ?_
  rintro e w1 ⟨rfl, hb1⟩
  go_wp2_with fail
  go_ret
  exact ⟨fret_of (by rw [hi.out]), hb1⟩

theorem fpow (a n : Nat) (w : World) (ha : a < 256) (hn : n < 9223372036854775808) :
    Calls Try.prog 14 #[.int .u8 a, .int .i64 n] w fun e w' => e = .returned (.int .u8 (pwr a n : Nat)) ∧ Below w.heap.size w w' := by
  go_enter Try.func14, Try.ntmps14
  go_wp2_with fail
  refine (fraise a n _ ha (by omega)).mono ?_
  rintro e w1 ⟨rfl, hb1⟩
  go_wp2_with fail
  go_ret
  exact ⟨rfl, hb1⟩

theorem fpow_neg (a n : Nat) (w : World) (ha : a < 256) (h0 : 0 < n) (hn : n < 9223372036854775808) :
    Calls Try.prog 14 #[.int .u8 a, .int .i64 (-(n : Int))] w fun e w' => e = .returned (.int .u8 (pwr (inv a) n : Nat)) ∧ Below w.heap.size w w' := by
  have h1 : IntKind.u64.wrap (-IntKind.u64.wrap (-(n : Int))) = (n : Int) := by simp only [IntKind.wrap_u64]; omega
  have hneg : -(n : Int) < 0 := by omega
  go_enter Try.func14, Try.ntmps14
  go_wp2_with fail
  refine (finv a _ ha).mono ?_
  rintro e w1 ⟨rfl, hb1⟩
  go_wp2_with fail
  trace_state
  refine (fraise (inv a) n _ (inv_lt a) (by omega)).mono ?_
  rintro e w2 ⟨rfl, hb2⟩
  go_wp2_with fail
  go_ret
  exact ⟨rfl, hb1.trans (hb2.mono hb1.size)⟩
end Go.Proofs.Ytinbgmkgjgdgdaa
