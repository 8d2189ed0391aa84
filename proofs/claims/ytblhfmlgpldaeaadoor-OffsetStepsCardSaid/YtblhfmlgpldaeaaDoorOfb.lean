/-
  Contract of the library's bits.Len, by a walk through its text: how many bits hold a number; nothing is written.
-/
import Derived.Test.YtblhfmlgpldaeaaDoorBrc
import Derived.Lib.BitFns
import Derived.Lib.Walk
import Derived.Lib.Strings
import Derived.Lib.Slices
import Derived.Lib.Small
namespace Go.Proofs.YtblhfmlgpldaeaaDoor
open Go.RowKit
set_option linter.unusedVariables false
set_option maxRecDepth 100000

theorem len_byte : ∀ n : Fin 256, n.val < 2 ^ (Lib.len8tab[n.val]'(by rw [Lib.len8tab_size]; exact n.isLt)).toNat ∧ (Lib.len8tab[n.val]'(by rw [Lib.len8tab_size]; exact n.isLt)).toNat ≤ 8 := by decide +kernel
/-- What the table says of the highest byte that is not 0, and the bits below it. -/
theorem len_end (x : Int) (k : Nat) (c i : Int) (hc : c = (k : Int)) (h : i = x / 2 ^ k) (hk : k ≤ 56) (h0 : 0 ≤ x) (hb : i < 256) (hi : i.toNat < Lib.len8tab.size) :
    ∃ n : Nat, Ending.returned (.int .i64 (wrap64 (c + wrap64 ((Lib.len8tab[i.toNat]'hi).toNat : Int)))) = Ending.returned (.int .i64 n) ∧ n ≤ 64 ∧ x.toNat < 2 ^ n := by
  obtain ⟨y, rfl⟩ := Int.eq_ofNat_of_zero_le h0
  have e : (y : Int) / 2 ^ k = ((y / 2 ^ k : Nat) : Int) := by rw [Int.natCast_ediv, Int.natCast_pow]; rfl
  rw [e] at h
  subst h
  have hb2 : y / 2 ^ k < 256 := by omega
  have h1 := len_byte ⟨y / 2 ^ k, hb2⟩
  dsimp only at h1
  generalize hv : (Lib.len8tab[((y / 2 ^ k : Nat) : Int).toNat]'hi).toNat = v
  have hv2 : (Lib.len8tab[y / 2 ^ k]'(by rw [Lib.len8tab_size]; exact hb2)).toNat = v := hv
  rw [hv2] at h1
  subst hc
  refine ⟨k + v, ?_, by omega, ?_⟩
  · rw [IntWalk.wrap64_in (v : Int) (by omega), IntWalk.wrap64_in _ (by omega), Int.natCast_add]
  · rw [Int.toNat_natCast, Nat.pow_add, Nat.mul_comm, ← Nat.div_lt_iff_lt_mul (Nat.two_pow_pos k)]
    exact h1.1
theorem len_tab : (⟨(([0, 1, 2, 2, 3, 3, 3, 3, 4, 4, 4, 4, 4, 4, 4, 4, 5, 5, 5, 5, 5, 5, 5, 5, 5, 5, 5, 5, 5, 5, 5, 5, 6, 6, 6, 6, 6, 6, 6, 6, 6, 6, 6, 6, 6, 6, 6, 6, 6, 6, 6, 6, 6, 6, 6, 6, 6, 6, 6, 6, 6, 6, 6, 6].append [7, 7, 7, 7, 7, 7, 7, 7, 7, 7, 7, 7, 7, 7, 7, 7, 7, 7, 7, 7, 7, 7, 7, 7, 7, 7, 7, 7, 7, 7, 7, 7, 7, 7, 7, 7, 7, 7, 7, 7, 7, 7, 7, 7, 7, 7, 7, 7, 7, 7, 7, 7, 7, 7, 7, 7, 7, 7, 7, 7, 7, 7, 7, 7]).append ([8, 8, 8, 8, 8, 8, 8, 8, 8, 8, 8, 8, 8, 8, 8, 8, 8, 8, 8, 8, 8, 8, 8, 8, 8, 8, 8, 8, 8, 8, 8, 8, 8, 8, 8, 8, 8, 8, 8, 8, 8, 8, 8, 8, 8, 8, 8, 8, 8, 8, 8, 8, 8, 8, 8, 8, 8, 8, 8, 8, 8, 8, 8, 8].append [8, 8, 8, 8, 8, 8, 8, 8, 8, 8, 8, 8, 8, 8, 8, 8, 8, 8, 8, 8, 8, 8, 8, 8, 8, 8, 8, 8, 8, 8, 8, 8, 8, 8, 8, 8, 8, 8, 8, 8, 8, 8, 8, 8, 8, 8, 8, 8, 8, 8, 8, 8, 8, 8, 8, 8, 8, 8, 8, 8, 8, 8, 8, 8])).toArray⟩ : ByteArray) = Lib.len8tab := by decide +kernel
set_option maxHeartbeats 4000000 in
theorem len64i (x : Int) (w : World) (h0 : 0 ≤ x) (h1 : x ≤ 18446744073709551615) :
    Calls Tryd.prog 63 #[.int .u64 x] w fun e w' => (∃ n : Nat, e = .returned (.int .i64 n) ∧ n ≤ 64 ∧ x.toNat < 2 ^ n) ∧ w' = w := by
  go_enter Tryd.func63, Tryd.ntmps63
  rw [len_tab]
  have hts := Lib.len8tab_size
  go_upto_region 10 with fail
  all_goals go_wp2_with fail
  all_goals first
    | (exfalso; rename_i hno; exact hno (by rw [hts]; omega))
    | (go_ret
       first
         | exact ⟨len_end x 56 56 _ rfl (by omega) (by omega) h0 (by omega) _, rfl⟩
         | exact ⟨len_end x 48 48 _ rfl (by omega) (by omega) h0 (by omega) _, rfl⟩
         | exact ⟨len_end x 40 40 _ rfl (by omega) (by omega) h0 (by omega) _, rfl⟩
         | exact ⟨len_end x 32 32 _ rfl (by omega) (by omega) h0 (by omega) _, rfl⟩
         | exact ⟨len_end x 24 24 _ rfl (by omega) (by omega) h0 (by omega) _, rfl⟩
         | exact ⟨len_end x 16 16 _ rfl (by omega) (by omega) h0 (by omega) _, rfl⟩
         | exact ⟨len_end x 8 8 _ rfl (by omega) (by omega) h0 (by omega) _, rfl⟩
         | exact ⟨by have hz := len_end x 0 0 x rfl (by simp) (by omega) h0 (by omega) (by rw [hts]; omega); rwa [Int.zero_add] at hz, rfl⟩)
theorem blen (x : Nat) (w : World) (h : x < 18446744073709551616) :
    Calls Tryd.prog 38 #[.int .u64 x] w fun e w' => (∃ n : Nat, e = .returned (.int .i64 n) ∧ n ≤ 64 ∧ x < 2 ^ n) ∧ w' = w := by
  have hl := Lib.hid (len64i x w (by omega) (by omega))
  go_enter Tryd.func38, Tryd.ntmps38
  go_wp2_with fail
  refine hl.out.mono ?_
  rintro e w1 ⟨⟨n, rfl, hn, hx⟩, rfl⟩
  go_wp2_with fail
  go_ret
  exact ⟨⟨n, rfl, hn, hx⟩, rfl⟩
end Go.Proofs.YtblhfmlgpldaeaaDoor
