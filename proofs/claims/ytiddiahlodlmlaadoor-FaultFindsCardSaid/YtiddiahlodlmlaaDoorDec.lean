/-
  The decimal digits of a number, as the reference package of layer 2 makes them: they are those of strconv.Itoa. No condition.
-/
import Derived.Test.YtiddiahlodlmlaaDoorRows
import Derived.WalkKit
import Derived.ProofKit
import Derived.Lib.Hide
import Derived.Lib.ItoaNum
import Derived.Lib.ItoaMem
import Derived.Lib.ItoaLen
import Derived.WalkSpells
import Derived.Deep.QuietTactic
import Derived.BigQuiet
import Derived.Deep.Draws
import Derived.IntWalk
namespace Go.Proofs.YtiddiahlodlmlaaDoor
open Go.RowKit
set_option linter.unusedVariables false

/-- A decimal numeral as a string. -/
def itoaB (n : Int) : ByteArray := ⟨(Lib.itoa n).toArray⟩
theorem itoaB_eq (n : Int) : (⟨(Lib.itoa n).toArray⟩ : ByteArray) = itoaB n := rfl
def digB (n : Nat) : ByteArray := ⟨#[UInt8.ofNat (48 + n)]⟩

theorem baExt {a b : ByteArray} (h : a.data.toList = b.data.toList) : a = b := by
  cases a; cases b; simp at h; simp [h]
theorem baApp (a b : ByteArray) : (a ++ b).data.toList = a.data.toList ++ b.data.toList := by simp
theorem itoa_app (n : Nat) (h : 10 ≤ n) : itoaB (n / 10 : Nat) ++ digB (n % 10) = itoaB (n : Nat) := by
  apply baExt
  rw [baApp]
  simp only [itoaB, Lib.itoa_nonneg, digB]
  rw [show Lib.decDigits n = Lib.decDigits (n / 10) ++ [UInt8.ofNat (48 + n % 10)] by rw [Lib.decDigits]; simp [show ¬ n < 10 by omega]]
theorem itoa_one (n : Nat) (h : n < 10) : itoaB (n : Nat) = digB n := by
  apply baExt
  simp only [itoaB, Lib.itoa_nonneg, digB, Lib.decDigits_one h]
theorem itoa_minus (n : Nat) (h : 0 < n) : (⟨#[45]⟩ : ByteArray) ++ itoaB (n : Nat) = itoaB (-(n : Int)) := by
  apply baExt
  rw [baApp]
  simp only [itoaB, Lib.itoa_nonneg, Lib.itoa_neg n h]
  rfl
theorem itoa_napp (n : Nat) (h : 10 ≤ n) : itoaB (-((n / 10 : Nat) : Int)) ++ digB (n % 10) = itoaB (-(n : Int)) := by
  apply baExt
  rw [baApp]
  simp only [itoaB, Lib.itoa_neg n (by omega), Lib.itoa_neg (n / 10) (by omega), digB]
  rw [show Lib.decDigits n = Lib.decDigits (n / 10) ++ [UInt8.ofNat (48 + n % 10)] by rw [Lib.decDigits]; simp [show ¬ n < 10 by omega]]
  rfl
theorem itoaB_size (n : Int) (h0 : -9223372036854775808 ≤ n) (h1 : n ≤ 9223372036854775807) : (itoaB n).size ≤ 21 := by
  have := Lib.itoa_length_le n h0 h1
  simpa [itoaB, ByteArray.size] using this

theorem digits_one (n : Nat) (h : n < 10) : (⟨#[48, 49, 50, 51, 52, 53, 54, 55, 56, 57]⟩ : ByteArray).extract n (n + 1) = digB n := by
  have h1 : ∀ i : Fin 10, (⟨#[48, 49, 50, 51, 52, 53, 54, 55, 56, 57]⟩ : ByteArray).extract i.val (i.val + 1) = digB i.val := by decide +kernel
  exact h1 ⟨n, h⟩
theorem str_of {a b : ByteArray} (h : a = b) : Ending.returned (.string a) = .returned (.string b) := by rw [h]

theorem w64 (n : Int) (h0 : -9223372036854775808 ≤ n) (h1 : n ≤ 9223372036854775807) : wrap64 n = n := by unfold wrap64; omega

theorem dec_facts (n : Nat) (hn : n ≤ 9223372036854775807) :
    IntKind.i64.wrap ((n / 10 : Nat) : Int) = ((n / 10 : Nat) : Int) ∧ IntKind.i64.wrap ((n % 10 : Nat) : Int) = ((n % 10 : Nat) : Int) ∧ (n : Int).tdiv 10 = ((n / 10 : Nat) : Int) ∧ (n : Int).tmod 10 = ((n % 10 : Nat) : Int) ∧
      IntKind.i64.wrap (((n % 10 : Nat) : Int) + 1) = ((n % 10 : Nat) : Int) + 1 ∧ wrap64 ((n / 10 : Nat) : Int) = ((n / 10 : Nat) : Int) ∧ wrap64 ((n % 10 : Nat) : Int) = ((n % 10 : Nat) : Int) ∧ wrap64 (((n % 10 : Nat) : Int) + 1) = ((n % 10 : Nat) : Int) + 1 := by
  have h1 : (n : Int).tdiv 10 = ((n / 10 : Nat) : Int) := by rw [Int.tdiv_eq_ediv_of_nonneg (by omega)]; omega
  have h2 : (n : Int).tmod 10 = ((n % 10 : Nat) : Int) := by rw [Int.tmod_eq_emod_of_nonneg (by omega)]; omega
  have h3 : n / 10 ≤ 922337203685477580 := by omega
  have h4 : n % 10 < 10 := by omega
  rw [h1, h2]
  generalize n % 10 = r at *
  generalize n / 10 = q at *
  exact ⟨IntWalk.i64_in _ (by omega), IntWalk.i64_in _ (by omega), rfl, rfl, IntWalk.i64_in _ (by omega), w64 _ (by omega) (by omega), w64 _ (by omega) (by omega), w64 _ (by omega) (by omega)⟩

theorem dec_size (q r : Nat) (hq : q ≤ 9223372036854775807) : ¬ 9223372036854775807 < (itoaB (q : Int)).size + (digB r).size := by
  have h1 := itoaB_size (q : Int) (by omega) (by omega)
  have h2 : (digB r).size = 1 := rfl
  omega

set_option maxHeartbeats 1600000 in
theorem refDecimal_pos (N : Nat) : ∀ (n : Nat) (w : World), n ≤ N → n ≤ 9223372036854775807 →
    Calls Tryd.prog 24 #[.int .i64 n] w fun e w' => e = .returned (.string (itoaB n)) ∧ ∃ k, w' = w.drewN k := by
  induction N using Nat.strongRecOn with
  | _ N ih =>
    intro n w hN hn
    by_cases h10 : n < 10
    · have hd := Lib.hid (digits_one n h10)
      have ho := Lib.hid (itoa_one n h10)
      go_enter Tryd.func24, Tryd.ntmps24
      go_wp2_with fail
      go_ret
      exact ⟨str_of (hd.out.trans ho.out.symm), 0, rfl⟩
    · have hd := Lib.hid (digits_one (n % 10) (by omega))
      have ho := Lib.hid (itoa_app n (by omega))
      have hc : ∀ k, Calls Tryd.prog 24 #[.int .i64 ((n / 10 : Nat) : Int)] (w.drewN k) fun e w' => e = .returned (.string (itoaB (n / 10 : Nat))) ∧ ∃ q, w' = (w.drewN k).drewN q := fun k => ih (n / 10) (by omega) (n / 10) _ (Nat.le_refl _) (by omega)
      clear ih
      have hz := Nat.mod_lt n (show 0 < 10 by decide)
      have hsz := dec_size (n / 10) (n % 10) (Nat.le_trans (Nat.div_le_self _ _) hn)
      obtain ⟨hq, hm, hq1, hm1, ha, hw1, hw2, hw3⟩ := dec_facts n hn
      generalize n % 10 = r at *
      generalize n / 10 = q at *
      have hb : (0 : Int) ≤ (r : Int) := Int.natCast_nonneg r
      have hb2 : (r : Int) + 1 ≤ 10 := by omega
      have hb3 : (r : Int) ≤ (r : Int) + 1 := by omega
      have hb4 : ((r : Int) + 1).toNat = r + 1 := by omega
      have hb5 : (0 : Int) ≤ (r : Int) + 1 := by omega
      have hb6 : (r : Int) < 10 := by omega
      have hx := hd.out
      go_enter Tryd.func24, Tryd.ntmps24
      go_wp2_with fail
      go_quiet ((go_at_call 24; exact Calls.quiet_of (hc _)))
      go_wp2_with fail
      go_ret
      exact ⟨str_of (by rw [ho.out]), _, rfl⟩

theorem neg_facts (n : Nat) (hn : n ≤ 9223372036854775808) :
    (-(n : Int)).tdiv 10 = -((n / 10 : Nat) : Int) ∧ (-(n : Int)).tmod 10 = -((n % 10 : Nat) : Int) ∧ wrap64 (-((n / 10 : Nat) : Int)) = -((n / 10 : Nat) : Int) ∧ wrap64 (-((n % 10 : Nat) : Int)) = -((n % 10 : Nat) : Int) ∧
      IntKind.i64.wrap (-((n / 10 : Nat) : Int)) = -((n / 10 : Nat) : Int) ∧ IntKind.i64.wrap (-((n % 10 : Nat) : Int)) = -((n % 10 : Nat) : Int) ∧ IntKind.i64.wrap ((n % 10 : Nat) : Int) = ((n % 10 : Nat) : Int) ∧ wrap64 ((n % 10 : Nat) : Int) = ((n % 10 : Nat) : Int) := by
  have h1 : (-(n : Int)).tdiv 10 = -((n / 10 : Nat) : Int) := by rw [Int.neg_tdiv, Int.tdiv_eq_ediv_of_nonneg (by omega)]; omega
  have h2 : (-(n : Int)).tmod 10 = -((n % 10 : Nat) : Int) := by rw [Int.neg_tmod, Int.tmod_eq_emod_of_nonneg (by omega)]; omega
  have h3 : n / 10 ≤ 922337203685477580 := by omega
  have h4 : n % 10 < 10 := by omega
  rw [h1, h2]
  generalize n % 10 = r at *
  generalize n / 10 = q at *
  exact ⟨rfl, rfl, w64 _ (by omega) (by omega), w64 _ (by omega) (by omega), IntWalk.i64_in _ (by omega), IntWalk.i64_in _ (by omega), IntWalk.i64_in _ (by omega), w64 _ (by omega) (by omega)⟩
theorem neg_size (q : Int) (b : ByteArray) (h0 : -9223372036854775808 ≤ q) (h1 : q ≤ 9223372036854775807) (hb : b.size ≤ 100) : ¬ 9223372036854775807 < (itoaB q).size + b.size ∧ ¬ 9223372036854775807 < b.size + (itoaB q).size := by
  have h1 := itoaB_size q h0 h1
  omega

set_option maxHeartbeats 1600000 in
theorem refDecimal_neg (N : Nat) : ∀ (n : Nat) (w : World), n ≤ N → 0 < n → n ≤ 9223372036854775808 →
    Calls Tryd.prog 24 #[.int .i64 (-(n : Int))] w fun e w' => e = .returned (.string (itoaB (-(n : Int)))) ∧ ∃ k, w' = w.drewN k := by
  induction N using Nat.strongRecOn with
  | _ N ih =>
    intro n w hN h0 hn
    by_cases h10 : n < 10
    · have ho := Lib.hid (itoa_minus n h0)
      have hsz := (neg_size (n : Int) ⟨#[45]⟩ (by omega) (by omega) (by decide)).2
      have e1 : ¬ (-(n : Int)) < -9 := by omega
      have e2 : (-(n : Int)) < 0 := by omega
      have e3 : IntKind.i64.wrap (- -(n : Int)) = (n : Int) := by rw [Int.neg_neg]; exact IntWalk.i64_in _ (by omega)
      have e4 : wrap64 (n : Int) = (n : Int) := w64 _ (by omega) (by omega)
      have hc := refDecimal_pos n n w (Nat.le_refl _) (by omega)
      clear ih
      go_enter Tryd.func24, Tryd.ntmps24
      go_wp2_with fail
      refine hc.mono ?_
      rintro e w1 ⟨rfl, k, rfl⟩
      go_wp2_with fail
      go_ret
      exact ⟨str_of ho.out, k, rfl⟩
    · have hr0 := Nat.mod_lt n (show 0 < 10 by decide)
      have hm1 : itoaB ((n % 10 : Nat) : Int) = digB (n % 10) := itoa_one _ hr0
      have ho := Lib.hid (hm1 ▸ itoa_napp n (by omega))
      have e1 : (-(n : Int)) < -9 := by omega
      have hsz := (neg_size (-((n / 10 : Nat) : Int)) (itoaB ((n % 10 : Nat) : Int)) (by omega) (by omega) (by rw [hm1]; exact (by decide : 1 ≤ 100))).1
      have hc1 := ih (n / 10) (by omega) (n / 10) w (Nat.le_refl _) (by omega) (by omega)
      have hc2 := fun w => refDecimal_pos (n % 10) (n % 10) w (Nat.le_refl _) (by omega)
      clear ih hm1
      obtain ⟨f1, f2, f3, f4, f5, f6, f7, f8⟩ := neg_facts n hn
      generalize n % 10 = r at *
      generalize n / 10 = q at *
      go_enter Tryd.func24, Tryd.ntmps24
      go_wp2_with fail
      refine hc1.mono ?_
      rintro e w1 ⟨rfl, k, rfl⟩
      go_wp2_with fail
      refine (hc2 _).mono ?_
      rintro e w1 ⟨rfl, k2, rfl⟩
      go_wp2_with fail
      go_ret
      exact ⟨str_of ho.out, k + k2, rfl⟩

/-- The decimal digits of any int. -/
theorem refDecimal (n : Int) (w : World) (h0 : -9223372036854775808 ≤ n) (h1 : n ≤ 9223372036854775807) :
    Calls Tryd.prog 24 #[.int .i64 n] w fun e w' => e = .returned (.string (itoaB n)) ∧ ∃ k, w' = w.drewN k := by
  rcases Int.lt_or_le n 0 with h | h
  · obtain ⟨m, rfl⟩ : ∃ m : Nat, n = -(m : Int) := ⟨n.natAbs, by omega⟩
    exact refDecimal_neg m m w (Nat.le_refl _) (by omega) (by omega)
  · obtain ⟨m, rfl⟩ : ∃ m : Nat, n = (m : Int) := ⟨n.natAbs, by omega⟩
    exact refDecimal_pos m m w (Nat.le_refl _) (by omega)
end Go.Proofs.YtiddiahlodlmlaaDoor
