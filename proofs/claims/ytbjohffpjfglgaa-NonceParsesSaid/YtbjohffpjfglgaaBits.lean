/-
  Contracts of the functions of package bits and of the reference package of layer 1, each by a walk through its text: what it returns for slices of bytes of less than 2^47 bytes and for any words; none writes what was there.
-/
import Derived.Test.YtbjohffpjfglgaaRows
import Derived.Test.YtbjohffpjfglgaaFre
import Derived.WalkSpells
import Derived.Deep.QuietTactic
import Derived.BigQuiet
import Derived.RegionTactic
namespace Go.Proofs.Ytbjohffpjfglgaa
open Go.RowKit
set_option linter.unusedVariables false

theorem ret_of {k : IntKind} {a b : Int} (h : a = b) : Ending.returned (.int k a) = .returned (.int k b) := by rw [h]
theorem ret_bool {a b : Bool} (h : a = b) : Ending.returned (.bool a) = .returned (.bool b) := by rw [h]
theorem val_of {k : IntKind} {a b : Int} (h : a = b) : Value.int k a = .int k b := by rw [h]

theorem take_snoc (l : List UInt8) (k : Nat) (h : k < l.length) : l.take (k + 1) = l.take k ++ [l[k]?.getD 0] := by
  rw [List.take_succ_eq_append_getElem h]; simp [List.getElem?_eq_getElem h]

/-! ### Numbers -/
theorem step_num (x : Nat) (b : UInt8) (hx : x < 18446744073709551616) : IntKind.u64.wrap (IntKind.u64.wrap ((x : Int) * 256) + IntKind.u64.wrap (b.toNat : Int)) = ((x * 256 + b.toNat) % 18446744073709551616 : Nat) := by
  have := b.toNat_lt
  simp only [IntKind.wrap_u64]
  omega

set_option maxHeartbeats 400000 in
theorem refNumber (A : Option Addr) (n c : Nat) (l : List UInt8) (w : World) (h : Sl w w.heap.size A n l) (hn : n ≤ 140737488351232) :
    Calls Try.prog 23 #[.slice A n c] w fun e w' => e = .returned (.int .u64 (num l : Nat)) ∧ w' = w := by
  go_enter Try.func23, Try.ntmps23
  go_wp2
  go_loop [3, 4] (fun x i => ∃ k : Nat, k ≤ n ∧ i = .int .i64 k ∧ x = .int .u64 (num (l.take k) : Nat)) (fun _ i => n - (intOf i).toNat)
  case atStart => exact ⟨0, Nat.zero_le _, rfl, rfl⟩
  case round =>
    obtain ⟨k, hk, rfl, rfl⟩ := hrel
    by_cases hlt : k < n
    · obtain ⟨b, off, rfl, hb, hc⟩ := h.at_ hlt
      have hm := num_lt (l.take k)
      have hs := Lib.hid ((step_num (num (l.take k)) (l[k]?.getD 0) hm).trans (congrArg Nat.cast (num_take l k (by have := h.len; omega)).symm))
      go_wp2
      go_round
      case rel => exact ⟨k + 1, by omega, by go_num, val_of hs.out⟩
      case measure => simp [intOf]; omega
    · have he := Lib.hid (show l.take k = l from List.take_of_length_le (by have := h.len; omega))
      go_wp2
      go_ret
      exact ⟨ret_of (by rw [he.out]), rfl⟩

theorem step_num8 (x : Nat) (b : UInt8) (hx : x < 18446744073709551616) : bits .or .u64 (IntKind.u64.wrap ((x : Int) * 256)) (IntKind.u64.wrap (b.toNat : Int)) = ((x * 256 + b.toNat) % 18446744073709551616 : Nat) := by
  have hb := b.toNat_lt
  have e1 : IntKind.u64.wrap ((x : Int) * 256) = ((x * 256 % 18446744073709551616 : Nat) : Int) := by rw [IntKind.wrap_u64]; omega
  have e2 : IntKind.u64.wrap (b.toNat : Int) = (b.toNat : Int) := by rw [IntKind.wrap_u64]; omega
  rw [e1, e2, or_u64 _ _ (Nat.mod_lt _ (by decide)) (by omega)]
  have e3 : x * 256 % 18446744073709551616 = 2 ^ 8 * (x % 72057594037927936) := by
    rw [show 18446744073709551616 = 256 * 72057594037927936 by decide, Nat.mul_comm x, Nat.mul_mod_mul_left]
  rw [e3, ← Nat.two_pow_add_eq_or_of_lt (by simpa using hb)]
  congr 1
  rw [← e3]
  omega

set_option maxHeartbeats 800000 in
/-- A string of at most 8 bytes. -/
theorem number_short (A : Option Addr) (n c : Nat) (l : List UInt8) (w : World) (h : Sl w w.heap.size A n l) (hn : n ≤ 8) :
    Calls Try.prog 21 #[.slice A n c] w fun e w' => e = .returned (.int .u64 (num l : Nat)) ∧ w' = w := by
  go_enter Try.func21, Try.ntmps21
  go_wp2
  all_goals
    go_loop [4, 14] (fun x i => ∃ k : Nat, k ≤ n ∧ i = .int .i64 k ∧ x = .int .u64 (num (l.take k) : Nat)) (fun _ i => n - (intOf i).toNat)
    case atStart => exact ⟨0, Nat.zero_le _, rfl, rfl⟩
    case round =>
      obtain ⟨k, hk, rfl, rfl⟩ := hrel
      by_cases hlt : k < n
      · obtain ⟨b, off, rfl, hb, hc⟩ := h.at_ hlt
        have hm := num_lt (l.take k)
        have hs := Lib.hid ((step_num8 (num (l.take k)) (l[k]?.getD 0) hm).trans (congrArg Nat.cast (num_take l k (by have := h.len; omega)).symm))
        go_wp2
        go_round
        case rel => exact ⟨k + 1, by omega, by go_num, val_of hs.out⟩
        case measure => simp [intOf]; omega
      · have he := Lib.hid (show l.take k = l from List.take_of_length_le (by have := h.len; omega))
        go_wp2
        go_ret
        exact ⟨ret_of (by rw [he.out]), rfl⟩

set_option maxHeartbeats 800000 in
/-- A longer string: its last 8 bytes. -/
theorem number_long (A : Option Addr) (n c : Nat) (l : List UInt8) (w : World) (h : Sl w w.heap.size A n l) (hn : 8 < n) (hm : n ≤ 140737488351232) (hc : n ≤ c) :
    Calls Try.prog 21 #[.slice A n c] w fun e w' => e = .returned (.int .u64 (num l : Nat)) ∧ w' = w := by
  have hd := Lib.hid (num_drop l)
  have hlen := h.len
  obtain ⟨b, off, rfl, hb, hcells⟩ := h.2 (by omega)
  clear h
  obtain ⟨m, rfl⟩ : ∃ m, n = m + 8 := ⟨n - 8, by omega⟩
  have hS : Sl w w.heap.size (some ⟨b, off + m, none⟩) 8 (l.drop m) := by
    refine ⟨by simp; omega, fun _ => ⟨b, off + m, rfl, hb, fun j u hu => ?_⟩⟩
    rw [List.getElem?_drop] at hu
    rw [Nat.add_assoc]
    exact hcells _ u hu
  clear hcells
  have hdd : Hid (num (l.drop m) = num l) := by
    have := hd.out
    rw [hlen, show m + 8 - 8 = m by omega] at this
    exact this
  clear hd hlen
  generalize l.drop m = r at *
  have hc1 : ¬ c = m := by omega
  have hm8 : (0 : Int) < (m : Int) := by omega
  have hm9 : ¬ m = 0 := by omega
  go_enter Try.func21, Try.ntmps21
  go_wp2
  go_loop [4, 14] (fun x i => ∃ k : Nat, k ≤ 8 ∧ i = .int .i64 k ∧ x = .int .u64 (num (r.take k) : Nat)) (fun _ i => 8 - (intOf i).toNat)
  case atStart => exact ⟨0, Nat.zero_le _, rfl, rfl⟩
  case round =>
    obtain ⟨k, hk, rfl, rfl⟩ := hrel
    by_cases hlt : k < 8
    · obtain ⟨b1, off1, e1, hb1, hc1⟩ := hS.at_ hlt
      injection e1 with e1
      injection e1 with e1 e2
      subst e1 e2
      have hm := num_lt (r.take k)
      have hs := Lib.hid ((step_num8 (num (r.take k)) (r[k]?.getD 0) hm).trans (congrArg Nat.cast (num_take r k (by have := hS.len; omega)).symm))
      go_wp2
      go_round
      case rel => exact ⟨k + 1, by omega, by go_num, val_of hs.out⟩
      case measure => simp [intOf]; omega
    · have he := Lib.hid (show r.take k = r from List.take_of_length_le (by have := hS.len; omega))
      go_wp2
      go_ret
      exact ⟨ret_of (by rw [he.out, hdd.out]), rfl⟩

theorem number (A : Option Addr) (n c : Nat) (l : List UInt8) (w : World) (h : Sl w w.heap.size A n l) (hm : n ≤ 140737488351232) (hc : n ≤ c) :
    Calls Try.prog 21 #[.slice A n c] w fun e w' => e = .returned (.int .u64 (num l : Nat)) ∧ w' = w := by
  rcases Nat.lt_or_ge 8 n with h8 | h8
  · exact number_long A n c l w h h8 hm hc
  · exact number_short A n c l w h h8

end Go.Proofs.Ytbjohffpjfglgaa
