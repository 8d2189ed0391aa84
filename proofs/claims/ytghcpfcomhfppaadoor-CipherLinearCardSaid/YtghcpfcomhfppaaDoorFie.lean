/-
  Contracts of sums, doubles and products in package field, each by a walk through its text: what it returns for any bytes; none writes what was there.
-/
import Derived.Test.YtghcpfcomhfppaaDoorFre
namespace Go.Proofs.YtghcpfcomhfppaaDoor
open Go.RowKit
set_option linter.unusedVariables false


/-! ### Sums -/
def sumN (l : List UInt8) : Nat := l.foldl (fun x b => x ^^^ b.toNat) 0
theorem sumN_snoc (l : List UInt8) (b : UInt8) : sumN (l ++ [b]) = sumN l ^^^ b.toNat := by unfold sumN; rw [List.foldl_append]; rfl
theorem sumN_lt (l : List UInt8) : sumN l < 256 := by
  refine snoc_ind (P := fun l => sumN l < 256) (by decide) (fun l a h => ?_) l
  rw [sumN_snoc]; exact xor_lt _ _ h a.toNat_lt
theorem sumN_take (l : List UInt8) (k : Nat) (h : k < l.length) : bits .xor .u8 (sumN (l.take k) : Nat) ((l[k]?.getD 0).toNat : Int) = (sumN (l.take (k + 1)) : Nat) := by
  rw [xor_n8 _ _ (sumN_lt _) (UInt8.toNat_lt _), List.take_succ_eq_append_getElem h, sumN_snoc]
  simp [List.getElem?_eq_getElem h]

set_option maxHeartbeats 400000 in
theorem fsum (A : Option Addr) (n c : Nat) (l : List UInt8) (w : World) (h : Sl w w.heap.size A n l) (hn : n ≤ 140737488351232) :
    Calls Tryd.prog 37 #[.slice A n c] w fun e w' => e = .returned (.int .u8 (sumN l : Nat)) ∧ w' = w := by
  go_enter Tryd.func37, Tryd.ntmps37
  go_wp2
  go_loop [3, 8] (fun x i => ∃ k : Nat, k ≤ n ∧ i = .int .i64 k ∧ x = .int .u8 (sumN (l.take k) : Nat)) (fun _ i => n - (intOf i).toNat)
  case atStart => exact ⟨0, Nat.zero_le _, rfl, rfl⟩
  case round =>
    obtain ⟨k, hk, rfl, rfl⟩ := hrel
    by_cases hlt : k < n
    · obtain ⟨b, off, rfl, hb, hc⟩ := h.at_ hlt
      have hs := Lib.hid (sumN_take l k (by have := h.len; omega))
      go_wp2
      go_round
      case rel => exact ⟨k + 1, by omega, by go_num, fval_of hs.out⟩
      case measure => simp [intOf]; omega
    · have he := Lib.hid (show l.take k = l from List.take_of_length_le (by have := h.len; omega))
      go_wp2
      go_ret
      exact ⟨fret_of (by rw [he.out]), rfl⟩


/-! ### Doubles -/
theorem dbl_low (a : Nat) (h : a < 128) : (a : Int) * 2 = (dbl a : Nat) := by
  have H : ∀ a, a < 128 → dbl a = a * 2 := by decide +kernel
  rw [H a h]; omega
theorem dbl_high (a : Nat) (h : a < 256) (h1 : 128 ≤ a) : bits .xor .u8 (IntKind.u8.wrap ((a : Int) * 2)) 27 = (dbl a : Nat) := by
  have e : IntKind.u8.wrap ((a : Int) * 2) = ((a * 2 - 256 : Nat) : Int) := by rw [IntKind.wrap_u8]; omega
  rw [e]
  have H : ∀ a, a < 256 → 128 ≤ a → dbl a = (a * 2 - 256) ^^^ 27 := by decide +kernel
  rw [H a h h1]
  exact xor_n8 (a * 2 - 256) 27 (by omega) (by omega)

set_option maxHeartbeats 400000 in
theorem fdouble (a : Nat) (w : World) (ha : a < 256) :
    Calls Tryd.prog 54 #[.int .u8 a] w fun e w' => e = .returned (.int .u8 (dbl a : Nat)) ∧ w' = w := by
  rcases Nat.lt_or_ge a 128 with h | h
  · have hs := Lib.hid (dbl_low a h)
    have hd : ((a : Int) / 128) = 0 := by omega
    go_enter Tryd.func54, Tryd.ntmps54
    go_wp2
    go_ret
    exact ⟨fret_of hs.out, rfl⟩
  · have hs := Lib.hid (dbl_high a ha h)
    have hd : ((a : Int) / 128) = 1 := by omega
    go_enter Tryd.func54, Tryd.ntmps54
    go_wp2
    go_ret
    exact ⟨fret_of hs.out, rfl⟩

/-! ### Products -/
theorem b8_nat (x : Nat) (h : x < 256) : (UInt8.ofNat x).toNat = x := UInt8.toNat_ofNat_of_lt' (by simpa using h)
theorem sl_two {w : World} {g x y : Nat} (hg : g = w.heap.size) (hx : x < 256) (hy : y < 256) :
    Sl (w.alloc (.cells #[.int .u8 (x : Int), .int .u8 (y : Int)] 5)) (w.alloc (.cells #[.int .u8 (x : Int), .int .u8 (y : Int)] 5)).heap.size (some ⟨g, 0, none⟩) 2 [UInt8.ofNat x, UInt8.ofNat y] := by
  subst hg
  refine ⟨rfl, fun _ => ⟨w.heap.size, 0, rfl, by simp, fun j u hu => ?_⟩⟩
  rw [World.cell?_alloc_at _ _ _ _ rfl]
  rcases j with _ | _ | j
  · simp at hu; subst hu; rw [b8_ofNat _ hx]; rfl
  · simp at hu; subst hu; rw [b8_ofNat _ hy]; rfl
  · simp at hu
theorem sum_two (x y : Nat) (hx : x < 256) (hy : y < 256) : sumN [UInt8.ofNat x, UInt8.ofNat y] = x ^^^ y := by
  simp [sumN, b8_nat x hx, b8_nat y hy]
theorem bit_and (b k : Nat) (hb : b < 256) : bits .and .u8 ((b : Int) / 2 ^ k) 1 = ((b / 2 ^ k % 2 : Nat) : Int) := by
  have e : (b : Int) / 2 ^ k = ((b / 2 ^ k : Nat) : Int) := by simp
  have h := (bits_nat .u8 8 (by decide) wraps_u8 (b / 2 ^ k) 1 (Nat.lt_of_le_of_lt (Nat.div_le_self _ _) hb) (by decide)).1
  rw [Nat.and_one_is_mod] at h
  rw [e]; exact h

set_option maxHeartbeats 1600000 in
theorem fmul (a b : Nat) (w : World) (ha : a < 256) (hb : b < 256) :
    Calls Tryd.prog 49 #[.int .u8 a, .int .u8 b] w fun e w' => e = .returned (.int .u8 (mul a b : Nat)) ∧ Below w.heap.size w w' := by
  have hpl := Lib.hid (pw_lt a ha)
  have hml := Lib.hid (mulK_lt a b ha)
  have hstop := Lib.hid (mulK_stop a b)
  go_enter Tryd.func49, Tryd.ntmps49
  go_wp2
  go_step3
  go_wp2
  go_step3
  go_wp2
  go_loopw [0, 5, 8] (fun x p i wr => ∃ k : Nat, k ≤ 8 ∧ i = .int .i64 k ∧ p = .int .u8 (mulK a b k : Nat) ∧ x = .int .u8 (pw a k : Nat) ∧ Below w.heap.size w wr) (fun _ _ i _ => 8 - (intOf i).toNat)
  case atStart => exact ⟨0, Nat.zero_le _, rfl, rfl, rfl, Below.refl _ _⟩
  case round =>
    obtain ⟨k, hk, rfl, rfl, rfl, hbel⟩ := hrel
    by_cases hlt : k < 8
    · have hp := hpl.out k
      have hm := hml.out k
      by_cases h0 : b / 2 ^ k = 0
      · have e : ((b : Int) / 2 ^ k) = ((b / 2 ^ k : Nat) : Int) := by simp
        have ht : ((b : Int) / 2 ^ k == 0) = true := by rw [e, h0]; rfl
        have hs := Lib.hid (hstop.out k h0 hk)
        clear h0 e
        go_wp2
        rw [Exit.noGoto_ret]
        go_ret
        exact ⟨fret_of (by rw [hs.out]), hbel⟩
      · have e : ((b : Int) / 2 ^ k) = ((b / 2 ^ k : Nat) : Int) := by simp
        have ht : ((b : Int) / 2 ^ k == 0) = false := by rw [e]; simp; omega
        have hba := bit_and b k hb
        cases hbit : b.testBit k with
        | true =>
          have h1 : (bits .and .u8 ((b : Int) / 2 ^ k) 1 == 1) = true := by
            rw [hba]; rw [Nat.testBit_eq_decide_div_mod_eq] at hbit; rw [of_decide_eq_true hbit]; rfl
          have hnext : Hid (mulK a b (k + 1) = mulK a b k ^^^ pw a k) := by
            unfold Hid; rw [mulK, hbit]; simp
          clear h0 e hba hbit
          go_wp2_with fail
          refine (fsum _ 2 2 _ _ (sl_two rfl hm hp) (by omega)).mono ?_
          rintro e w' ⟨rfl, rfl⟩
          rw [sum_two _ _ hm hp]
          go_wp2_with fail
          refine (fdouble _ _ hp).mono ?_
          rintro e w' ⟨rfl, rfl⟩
          go_wp2_with fail
          go_roundw
          case rel => exact ⟨k + 1, by omega, by go_num, fval_of (by rw [hnext.out]), rfl, hbel.alloc hbel.size _⟩
          case measure => simp [intOf]; omega
        | false =>
          have h1 : (bits .and .u8 ((b : Int) / 2 ^ k) 1 == 1) = false := by
            rw [hba]; rw [Nat.testBit_eq_decide_div_mod_eq] at hbit
            have := of_decide_eq_false hbit
            rw [show b / 2 ^ k % 2 = 0 by omega]; rfl
          have hnext : Hid (mulK a b (k + 1) = mulK a b k) := by
            unfold Hid; rw [mulK, hbit]; simp
          clear h0 e hba hbit
          go_wp2_with fail
          refine (fdouble _ _ hp).mono ?_
          rintro e w' ⟨rfl, rfl⟩
          go_wp2_with fail
          go_roundw
          case rel => exact ⟨k + 1, by omega, by go_num, fval_of (by rw [hnext.out]), rfl, hbel⟩
          case measure => simp [intOf]; omega
    · obtain rfl : k = 8 := by omega
      go_wp2
      rw [Exit.noGoto_ret]
      go_ret
      exact ⟨rfl, hbel⟩
end Go.Proofs.YtghcpfcomhfppaaDoor
