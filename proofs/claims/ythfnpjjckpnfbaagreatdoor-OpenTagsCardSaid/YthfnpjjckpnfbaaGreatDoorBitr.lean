/-
 Contracts of the functions of package bits and of the reference package of layer 1 that only read: rotations, comparing, zeros, a bit; each by a walk through its text, for slices of bytes of less than 2^47 bytes and for any words.
-/
import Derived.Test.YthfnpjjckpnfbaaGreatDoorBits
namespace Go.Proofs.YthfnpjjckpnfbaaGreatDoor
open Go.RowKit
set_option linter.unusedVariables false

/-! ### Rotations -/
/-! ### Comparing -/
set_option maxHeartbeats 400000 in
theorem same_loop (A A' : Option Addr) (n c c' : Nat) (l l' : List UInt8) (w : World) (h : Sl w w.heap.size A n l) (h' : Sl w w.heap.size A' n l') (hn : n ≤ 140737488351232) :
  Calls Tryz.prog 14 #[.slice A n c, .slice A' n c'] w fun e w' => e = .returned (.bool (decide (l = l'))) ∧ Dr w w' := by
 go_enter Tryz.func14, Tryz.ntmps14
 go_wp2
 go_loopw [5] (fun i wr => ∃ k : Nat, k ≤ n ∧ i = .int .i64 k ∧ Hid (l.take k = l'.take k) ∧ ∃ q, wr = w.drewN q) (fun i _ => n - (intOf i).toNat)
 case atStart => exact ⟨0, Nat.zero_le _, rfl, Lib.hid (by simp), 0, rfl⟩
 case round =>
  obtain ⟨k, hk, rfl, heq, q, rfl⟩ := hrel
  by_cases hlt : k < n
  ·obtain ⟨b, off, rfl, hb, hc⟩ := h.at_ hlt
   obtain ⟨b', off', rfl, hb', hc'⟩ := h'.at_ hlt
   by_cases hx : l[k]?.getD 0 = l'[k]?.getD 0
   ·have hne : (((l[k]?.getD 0).toNat : Int) != ((l'[k]?.getD 0).toNat : Int)) = false := by rw [hx]; simp
    have hnext : Hid (l.take (k + 1) = l'.take (k + 1)) := by
     unfold Hid
     rw [take_snoc l k (by have := h.len; omega), take_snoc l' k (by have := h'.len; omega), heq.out, hx]
    clear hx
    go_wp2
    go_quiet (fail)
    go_wp2
    go_roundw
    case rel => exact ⟨k + 1, by omega, by go_num, hnext, _, rfl⟩
    case measure => simp [intOf]; omega
   ·have hne : (((l[k]?.getD 0).toNat : Int) != ((l'[k]?.getD 0).toNat : Int)) = true := by
     simp; intro e; exact hx (UInt8.toNat_inj.1 (by omega))
    have hno : Hid (decide (l = l') = false) := by
     unfold Hid
     rw [decide_eq_false_iff_not]; rintro rfl; exact hx rfl
    clear hx
    go_wp2
    go_quiet (fail)
    go_wp2
    go_ret
    exact ⟨ret_bool hno.out.symm, Dr.more ⟨q, rfl⟩ _⟩
  ·have hyes : Hid (decide (l = l') = true) := by
    unfold Hid
    have h1 := heq.out
    rw [List.take_of_length_le (by have := h.len; omega), List.take_of_length_le (by have := h'.len; omega)] at h1
    simpa using h1
   go_wp2
   go_ret
   exact ⟨ret_bool hyes.out.symm, q, rfl⟩

set_option maxHeartbeats 400000 in
theorem same (A A' : Option Addr) (n m c c' : Nat) (l l' : List UInt8) (w : World) (h : Sl w w.heap.size A n l) (h' : Sl w w.heap.size A' m l') (hn : n ≤ 140737488351232) (hm : m ≤ 140737488351232) :
  Calls Tryz.prog 14 #[.slice A n c, .slice A' m c'] w fun e w' => e = .returned (.bool (decide (l = l'))) ∧ Dr w w' := by
 by_cases he : n = m
 ·subst he
  exact same_loop A A' n c c' l l' w h h' hn
 ·have hne : ((n : Int) != (m : Int)) = true := by simp; omega
  have hno : Hid (decide (l = l') = false) := by
   unfold Hid
   rw [decide_eq_false_iff_not]; rintro rfl
   exact he (h.len.symm.trans h'.len)
  go_enter Tryz.func14, Tryz.ntmps14
  go_wp2
  go_ret
  exact ⟨ret_bool hno.out.symm, Dr.refl _⟩

theorem xor_eq_zero (a b : UInt8) : (a ^^^ b).toNat = 0 ↔ a = b := by
 constructor
 ·intro h
  have h1 : a ^^^ b = 0 := UInt8.toNat_inj.1 (by simpa using h)
  have h2 : (a ^^^ b) ^^^ b = 0 ^^^ b := by rw [h1]
  simpa [UInt8.xor_assoc] using h2
 ·rintro rfl; simp

theorem diff_step (d : Nat) (a b : UInt8) (hd : d < 256) : ∃ d' : Nat, d' < 256 ∧ bits .or .u8 (d : Int) (bits .xor .u8 (a.toNat : Int) (b.toNat : Int)) = (d' : Int) ∧ (d' = 0 ↔ d = 0 ∧ a = b) := by
 have hx := (a ^^^ b).toNat_lt
 refine ⟨d ||| (a ^^^ b).toNat, Nat.or_lt_two_pow (n := 8) hd hx, ?_, ?_⟩
 ·rw [xor_u8, or_u8 _ _ hd hx]
 ·rw [Nat.or_eq_zero_iff, xor_eq_zero]

set_option maxHeartbeats 400000 in
theorem equal_loop (A A' : Option Addr) (n c c' : Nat) (l l' : List UInt8) (w : World) (h : Sl w w.heap.size A n l) (h' : Sl w w.heap.size A' n l') (hn : n ≤ 140737488351232) :
  Calls Tryz.prog 27 #[.slice A n c, .slice A' n c'] w fun e w' => e = .returned (.bool (decide (l = l'))) ∧ Dr w w' := by
 go_enter Tryz.func27, Tryz.ntmps27
 go_wp2
 go_loopw [5, 14] (fun v i wr => ∃ k d : Nat, k ≤ n ∧ i = .int .i64 k ∧ v = .int .u8 d ∧ d < 256 ∧ Hid (d = 0 ↔ l.take k = l'.take k) ∧ ∃ q, wr = w.drewN q) (fun _ i _ => n - (intOf i).toNat)
 case atStart => exact ⟨0, 0, Nat.zero_le _, rfl, rfl, by omega, Lib.hid (by simp), 0, rfl⟩
 case round =>
  obtain ⟨k, d, hk, rfl, rfl, hd, heq, q, rfl⟩ := hrel
  by_cases hlt : k < n
  ·obtain ⟨b, off, rfl, hb, hc⟩ := h.at_ hlt
   obtain ⟨b', off', rfl, hb', hc'⟩ := h'.at_ hlt
   obtain ⟨d', hd', hs, hz⟩ := diff_step d (l[k]?.getD 0) (l'[k]?.getD 0) hd
   have hnext : Hid (d' = 0 ↔ l.take (k + 1) = l'.take (k + 1)) := by
    unfold Hid
    rw [take_snoc l k (by have := h.len; omega), take_snoc l' k (by have := h'.len; omega), hz, heq.out]
    constructor
    ·rintro ⟨h1, h2⟩; rw [h1, h2]
    ·intro h1
     have h2 := List.append_inj h1 (by simp; have := h.len; have := h'.len; omega)
     exact ⟨h2.1, by simpa using h2.2⟩
   clear hz
   have Hs := Lib.hid hs
   clear hs
   go_wp2
   go_quiet (fail)
   go_wp2
   go_roundw
   case rel => exact ⟨k + 1, d', by omega, by go_num, val_of Hs.out, hd', hnext, _, rfl⟩
   case measure => simp [intOf]; omega
  ·have hres : Hid (((d : Int) == 0) = decide (l = l')) := by
    have h1 := heq.out
    rw [List.take_of_length_le (by have := h.len; omega), List.take_of_length_le (by have := h'.len; omega)] at h1
    unfold Hid
    rw [Bool.eq_iff_iff]
    simp [← h1]
   go_wp2
   go_ret
   exact ⟨ret_bool hres.out, q, rfl⟩

set_option maxHeartbeats 400000 in
theorem equal (A A' : Option Addr) (n m c c' : Nat) (l l' : List UInt8) (w : World) (h : Sl w w.heap.size A n l) (h' : Sl w w.heap.size A' m l') (hn : n ≤ 140737488351232) (hm : m ≤ 140737488351232) :
  Calls Tryz.prog 27 #[.slice A n c, .slice A' m c'] w fun e w' => e = .returned (.bool (decide (l = l'))) ∧ Dr w w' := by
 by_cases he : n = m
 ·subst he
  exact equal_loop A A' n c c' l l' w h h' hn
 ·have hne : ((n : Int) != (m : Int)) = true := by simp; omega
  have hno : Hid (decide (l = l') = false) := by
   unfold Hid
   rw [decide_eq_false_iff_not]; rintro rfl
   exact he (h.len.symm.trans h'.len)
  go_enter Tryz.func27, Tryz.ntmps27
  go_wp2
  go_ret
  exact ⟨ret_bool hno.out.symm, Dr.refl _⟩

/-! ### Zeros and a bit -/
theorem lowbit (x k : Nat) (hx : x < 18446744073709551616) : bits .and .u64 ((x : Int) / 2 ^ k) 1 = ((x / 2 ^ k % 2 : Nat) : Int) := by
 have e : (x : Int) / 2 ^ k = ((x / 2 ^ k : Nat) : Int) := by simp
 rw [e, and1_u64 _ (Nat.lt_of_le_of_lt (Nat.div_le_self _ _) hx)]

set_option maxHeartbeats 400000 in
theorem zeros (x : Nat) (w : World) (hx : x < 18446744073709551616) :
  Calls Tryz.prog 107 #[.int .u64 x] w fun e w' => e = .returned (.int .i64 (zer x : Nat)) ∧ w' = w := by
 go_enter Tryz.func107, Tryz.ntmps107
 go_wp2
 go_loop [4] (fun i => ∃ k : Nat, k ≤ 64 ∧ i = .int .i64 k ∧ Hid (∀ j, j < k → x / 2 ^ j % 2 = 0)) (fun i => 64 - (intOf i).toNat)
 case atStart => exact ⟨0, Nat.zero_le _, rfl, Lib.hid (fun j h => absurd h (Nat.not_lt_zero _))⟩
 case round =>
  obtain ⟨k, hk, rfl, hz⟩ := hrel
  by_cases hlt : k < 64
  ·have hb := lowbit x k hx
   by_cases h1 : x / 2 ^ k % 2 = 1
   ·have ht : (bits .and .u64 ((x : Int) / 2 ^ k) 1 == 1) = true := by rw [hb, h1]; rfl
    have hr := Lib.hid (zer_eq x k (by omega) hz.out (fun _ => h1))
    clear hb h1
    go_wp2
    go_ret
    exact ⟨ret_of (by rw [hr.out]), rfl⟩
   ·have h0 : x / 2 ^ k % 2 = 0 := by omega
    have ht : (bits .and .u64 ((x : Int) / 2 ^ k) 1 == 1) = false := by rw [hb, h0]; rfl
    have hz' : Hid (∀ j, j < k + 1 → x / 2 ^ j % 2 = 0) := by
     unfold Hid
     intro j hj
     rcases Nat.lt_or_ge j k with h2 | h2
     ·exact hz.out j h2
     ·obtain rfl : j = k := by omega
      exact h0
    clear hb h1 h0
    go_wp2
    go_round
    case rel => exact ⟨k + 1, by omega, by go_num, hz'⟩
    case measure => simp [intOf]; omega
  ·have hr : Hid (zer x = 64) := by
    obtain rfl : k = 64 := by omega
    exact Lib.hid (zer_eq x 64 (by omega) hz.out (fun h => absurd h (by omega)))
   go_wp2
   go_ret
   exact ⟨ret_of (by rw [hr.out]; rfl), rfl⟩

set_option maxHeartbeats 400000 in
theorem refZeros (x : Nat) (w : World) (hx : x < 18446744073709551616) :
  Calls Tryz.prog 82 #[.int .u64 x] w fun e w' => e = .returned (.int .i64 (zer x : Nat)) ∧ w' = w := by
 go_enter Tryz.func82, Tryz.ntmps82
 go_wp2
 go_loop [0, 3] (fun y i => ∃ k q : Nat, k ≤ 64 ∧ i = .int .i64 k ∧ y = .int .u64 q ∧ q < 18446744073709551616 ∧ Hid (q = x / 2 ^ k) ∧ Hid (∀ j, j < k → x / 2 ^ j % 2 = 0)) (fun _ i => 64 - (intOf i).toNat)
 case atStart => exact ⟨0, x, Nat.zero_le _, rfl, rfl, hx, Lib.hid (by simp), Lib.hid (fun j h => absurd h (Nat.not_lt_zero _))⟩
 case round =>
  obtain ⟨k, q, hk, rfl, rfl, hq, hqx, hz⟩ := hrel
  by_cases hlt : k < 64
  ·by_cases h1 : q % 2 = 1
   ·have ht : ((q : Int) % 2 == 0) = false := by simp; omega
    have hr := Lib.hid (zer_eq x k (by omega) hz.out (fun _ => by rw [← hqx.out]; exact h1))
    clear h1
    go_wp2
    go_ret
    exact ⟨ret_of (by rw [hr.out]), rfl⟩
   ·have ht : ((q : Int) % 2 == 0) = true := by simp; omega
    have hz' : Hid (∀ j, j < k + 1 → x / 2 ^ j % 2 = 0) := by
     unfold Hid
     intro j hj
     rcases Nat.lt_or_ge j k with h2 | h2
     ·exact hz.out j h2
     ·obtain rfl : j = k := by omega
      rw [← hqx.out]; omega
    have hq' : Hid (q / 2 = x / 2 ^ (k + 1)) := by
     unfold Hid
     rw [Nat.pow_succ, ← Nat.div_div_eq_div_mul, ← hqx.out]
    clear h1
    go_wp2
    go_round
    case rel => exact ⟨k + 1, q / 2, by omega, by go_num, val_of (by simp), by omega, hq', hz'⟩
    case measure => simp [intOf]; omega
  ·have hr : Hid (zer x = 64) := by
    obtain rfl : k = 64 := by omega
    exact Lib.hid (zer_eq x 64 (by omega) hz.out (fun h => absurd h (by omega)))
   have hk64 : Hid (k = 64) := Lib.hid (by omega)
   go_wp2
   go_ret
   exact ⟨ret_of (by rw [hr.out, hk64.out]), rfl⟩

end Go.Proofs.YthfnpjjckpnfbaaGreatDoor
