/-
  Contracts of raising to powers and of the inverse in package field, each by a walk through its text, for any bytes; what was there stays as it was.
-/
import Derived.Test.YtghcpfcomhfppaaDoorFie
namespace Go.Proofs.YtghcpfcomhfppaaDoor
open Go.RowKit
set_option linter.unusedVariables false
set_option maxRecDepth 10000

theorem raise_odd (x m p : Nat) (hx : x < 256) (hp : p < 256) (h : m % 2 = 1) : mul (mul p x) (pwr (mul x x) (m / 2)) = mul p (pwr x m) := by
  rw [pwr_sq x _ hx]
  have e : m = 2 * (m / 2) + 1 := by omega
  have e2 : pwr x m = mul (pwr x (2 * (m / 2))) x := by
    conv => lhs; rw [e]
    rfl
  rw [e2, mul_assoc_ p x _ hp hx (pwr_lt x _), mul_comm_ x _ hx (pwr_lt x _)]
theorem raise_even (x m p : Nat) (hx : x < 256) (h : m % 2 = 0) : mul p (pwr (mul x x) (m / 2)) = mul p (pwr x m) := by
  rw [pwr_sq x _ hx, show 2 * (m / 2) = m by omega]

set_option maxHeartbeats 800000 in
theorem fraise (a n : Nat) (w : World) (ha : a < 256) (hn : n < 18446744073709551616) :
    Calls Tryd.prog 56 #[.int .u8 a, .int .u64 n] w fun e w' => e = .returned (.int .u8 (pwr a n : Nat)) ∧ Below w.heap.size w w' := by
  have h0 : mul 1 (pwr a n) = pwr a n := one_mul_ _ (pwr_lt a n)
  go_enter Tryd.func56, Tryd.ntmps56
  go_wp2
  go_loopw [0, 1, 5] (fun x y z wr => ∃ u m p : Nat, u < 256 ∧ m < 18446744073709551616 ∧ p < 256 ∧ x = .int .u8 u ∧ y = .int .u64 m ∧ z = .int .u8 p ∧ Hid (mul p (pwr u m) = pwr a n) ∧ Below w.heap.size w wr) (fun _ y _ _ => (intOf y).toNat)
  case atStart => exact ⟨a, n, 1, ha, hn, by omega, rfl, rfl, rfl, Lib.hid h0, Below.refl _ _⟩
  case round =>
    obtain ⟨u, m, p, hu, hm, hp, rfl, rfl, rfl, hinv, hbel⟩ := hrel
    have hB := hbel.size
    by_cases hlt : 0 < m
    · rcases Nat.mod_two_eq_zero_or_one m with h2 | h2
      · have ht : (bits .and .u64 (m : Int) 1 == 1) = false := by rw [and1_u64 m hm, h2]; rfl
        have hnx := Lib.hid ((raise_even u m p hu h2).trans hinv.out)
        clear h2 hinv h0
        go_wp2_with fail
        refine (fmul u u _ hu hu).mono ?_
        rintro e w1 ⟨rfl, hb1⟩
        have hb2 : Below w.heap.size w w1 := hbel.trans (hb1.mono hB)
        go_wp2_with fail
        go_roundw
        case rel => exact ⟨mul u u, m / 2, p, mul_lt _ _ hu, by omega, hp, rfl, fval_of (by simp), rfl, hnx, hb2⟩
        case measure => simp [intOf]; omega
      · have ht : (bits .and .u64 (m : Int) 1 == 1) = true := by rw [and1_u64 m hm, h2]; rfl
        have hnx := Lib.hid ((raise_odd u m p hu hp h2).trans hinv.out)
        clear h2 hinv h0
        go_wp2_with fail
        refine (fmul p u _ hp hu).mono ?_
        rintro e w1 ⟨rfl, hb1⟩
        have hb2 : Below w.heap.size w w1 := hbel.trans (hb1.mono hB)
        have hB2 := hb2.size
        go_wp2_with fail
        refine (fmul u u _ hu hu).mono ?_
        rintro e w2 ⟨rfl, hb3⟩
        have hb4 : Below w.heap.size w w2 := hb2.trans (hb3.mono hB2)
        go_wp2_with fail
        go_roundw
        case rel => exact ⟨mul u u, m / 2, mul p u, mul_lt _ _ hu, by omega, mul_lt _ _ hp, rfl, fval_of (by simp), rfl, hnx, hb4⟩
        case measure => simp [intOf]; omega
    · obtain rfl : m = 0 := by omega
      have he : Hid (p = pwr a n) := by
        have h := hinv.out
        rw [show pwr u 0 = 1 from rfl, mul_one_ p hp] at h
        exact h
      go_wp2_with fail
      go_ret
      exact ⟨fret_of (by rw [he.out]), hbel⟩

theorem finv (a : Nat) (w : World) (ha : a < 256) :
    Calls Tryd.prog 57 #[.int .u8 a] w fun e w' => e = .returned (.int .u8 (inv a : Nat)) ∧ Below w.heap.size w w' := by
  have hi := Lib.hid (show pwr a 254 = inv a from rfl)
  go_enter Tryd.func57, Tryd.ntmps57
  go_wp2_with fail
  refine (fraise a 254 _ ha (by omega)).mono ?_
  rintro e w1 ⟨rfl, hb1⟩
  go_wp2_with fail
  go_ret
  exact ⟨fret_of (by rw [hi.out]), hb1⟩
end Go.Proofs.YtghcpfcomhfppaaDoor
