/-
  Contracts of package nonce: known, Other, ParseHead, Head, by walks through their texts; what was there stays as it was.
-/
import Derived.Test.YtbjohffpjfglgaaNcc
import Derived.Deep.RegionHeld3
namespace Go.Proofs.Ytbjohffpjfglgaa
open Go.RowKit
set_option linter.unusedVariables false
set_option maxRecDepth 100000

set_option linter.unusedSimpArgs false
theorem and63_u64 (a : Nat) (ha : a < 18446744073709551616) : bits .and .u64 (a : Int) 9223372036854775807 = ((a % 9223372036854775808 : Nat) : Int) := by
  have h := (bits_nat .u64 64 (by decide) wraps_u64' a 9223372036854775807 ha (by decide)).1
  have e := Nat.and_two_pow_sub_one_eq_mod a 63
  simp only [Nat.reducePow, Nat.reduceSub] at e
  rw [e] at h
  exact h
theorem results_ttt {P : Program} {fn : Func} {T : Array Value} {w : World} {p q r : Tmp} {v u x : Value} (hr : fn.results = #[.tmp p, .tmp q, .tmp r]) (hp : T.getD p undef = v) (hq : T.getD q undef = u) (hq2 : T.getD r undef = x) :
    (results fn T).run P w = .ok (.tuple #[v, u, x]) w := by
  have hp' : T[p]?.getD undef = v := by simpa using hp
  have hq' : T[q]?.getD undef = u := by simpa using hq
  have hr' : T[r]?.getD undef = x := by simpa using hq2
  simp only [results, hr]
  simp [hp', hq', hr']
theorem or63_u64 {d x y : Nat} (hd : d < 2) (hx : x < 9223372036854775808) (h : hnN d x = y) : bits .or .u64 (IntKind.u64.wrap ((d : Int) * 9223372036854775808)) (x : Int) = (y : Int) := by
  have e1 : IntKind.u64.wrap ((d : Int) * 9223372036854775808) = ((d * 9223372036854775808 : Nat) : Int) := by rw [IntKind.wrap_u64]; omega
  rw [e1, or_u64 _ _ (by omega) (by omega), ← h]
  have e3 : d * 9223372036854775808 = 2 ^ 63 * d := by omega
  rw [e3, ← Nat.two_pow_add_eq_or_of_lt (by simpa using hx)]
  unfold hnN
  congr 1
  omega

set_option maxHeartbeats 1600000 in
theorem nknown (d : Int) (w : World) (hd : -9223372036854775808 ≤ d ∧ d ≤ 9223372036854775807) :
    Calls Try.prog 19 #[.int .i64 d] w fun e w' => e = .returned (.bool (decide (d = 0 ∨ d = 1))) ∧ w' = w := by
  by_cases h0 : d = 0
  · subst h0
    rw [decide_eq_true (by omega)]
    go_enter Try.func19, Try.ntmps19
    go_wp2
    go_ret
    exact ⟨rfl, rfl⟩
  by_cases h1 : d = 1
  · subst h1
    clear h0
    rw [decide_eq_true (by omega)]
    go_enter Try.func19, Try.ntmps19
    go_wp2
    go_ret
    exact ⟨rfl, rfl⟩
  rw [decide_eq_false (by omega)]
  have b0 : (d == 0) = false := by simp [h0]
  have b1 : (d == 1) = false := by simp [h1]
  go_enter Try.func19, Try.ntmps19
  go_wp2
  go_ret
  exact ⟨by simp [b0, b1], rfl⟩

set_option maxHeartbeats 1600000 in
theorem nother (d : Int) (w : World) (hd : -9223372036854775808 ≤ d ∧ d ≤ 9223372036854775807) :
    Calls Try.prog 18 #[.int .i64 d] w fun e w' => e = .returned (.int .i64 (if d = 0 then 1 else 0)) ∧ Below w.heap.size w w' := by
  by_cases h0 : d = 0
  · subst h0
    rw [if_pos rfl]
    go_enter Try.func18, Try.ntmps18
    go_wp2
    go_ret
    exact ⟨rfl, Below.refl _ _⟩
  rw [if_neg h0]
  go_enter Try.func18, Try.ntmps18
  go_wp2
  go_ret
  exact ⟨rfl, Below.refl _ _⟩

set_option maxHeartbeats 1000000 in
theorem nphead (A : Option Addr) (n c : Nat) (l : List UInt8) (w : World) (h : Sl w w.heap.size A n l) (hnc : n ≤ c) (hc : c ≤ maxLen) :
    Calls Try.prog 12 #[.slice A n c] w fun e w' => e = .returned (.tuple #[.int .i64 (phD l : Nat), .int .u64 (phX l : Nat), .bool (decide (8 ≤ l.length))]) ∧ Below w.heap.size w w' := by
  have hlen := h.len
  by_cases h8 : 8 ≤ n
  · obtain ⟨b, off, rfl, hb, hcells⟩ := h.2 (by omega)
    have hS : Sl w w.heap.size (some ⟨b, off, none⟩) 8 (l.take 8) := by
      refine ⟨by rw [List.length_take, h.len]; omega, fun _ => ⟨b, off, rfl, hb, fun j u hu => hcells j u ?_⟩⟩
      rcases Nat.lt_or_ge j 8 with h1 | h1
      · rwa [List.getElem?_take_of_lt h1] at hu
      · rw [List.getElem?_eq_none (by rw [List.length_take]; omega)] at hu; cases hu
    clear h hcells
    obtain ⟨r, hr⟩ : ∃ r, l.take 8 = r := ⟨_, rfl⟩
    obtain ⟨y, hy⟩ : ∃ y, num r = y := ⟨_, rfl⟩
    have hlt : y < 18446744073709551616 := by rw [← hy]; exact num_lt r
    obtain ⟨q, hq⟩ : ∃ q, y / 9223372036854775808 = q := ⟨_, rfl⟩
    obtain ⟨z, hz⟩ : ∃ z, y % 9223372036854775808 = z := ⟨_, rfl⟩
    have a1 : bits .and .u64 (y : Int) 9223372036854775807 = (z : Int) := by rw [and63_u64 y hlt, hz]
    have a2 : (y : Int) / 9223372036854775808 = (q : Int) := by omega
    have a3 : (q : Int) < 2 := by omega
    rw [show phD l = q by unfold phD hdD; rw [if_pos (by omega), hr, hy, hq], show phX l = z by unfold phX hdX; rw [if_pos (by omega), hr, hy, hz], decide_eq_true (by omega : 8 ≤ l.length)]
    rw [hr] at hS
    have HY := Lib.hid hy
    have i1 : (8 : Int) ≤ (c : Int) := by omega
    have i2 : ¬ (n : Int) < 8 := by omega
    clear hr hy hlt hq hz hb hlen hnc h8
    go_enter Try.func12, Try.ntmps12
    go_upto_region 3 with fail
    go_wp2_with fail
    refine (number _ 8 _ r _ hS (by omega) (by omega)).mono ?_
    rintro e w1 ⟨rfl, rfl⟩
    rw [HY.out]
    clear hS i1
    go_wp2
    refine bodyPost_ret (results_ttt rfl rfl rfl rfl) rfl ⟨rfl, Below.refl _ _⟩
  · rw [show phD l = 0 by unfold phD; rw [if_neg (by omega)], show phX l = 0 by unfold phX; rw [if_neg (by omega)], decide_eq_false (by omega : ¬ 8 ≤ l.length)]
    have i2 : (n : Int) < 8 := by omega
    clear h hlen
    go_enter Try.func12, Try.ntmps12
    go_wp2
    refine bodyPost_ret (results_ttt rfl rfl rfl rfl) rfl ⟨rfl, Below.refl _ _⟩
end Go.Proofs.Ytbjohffpjfglgaa
