/-
  Keys as texts of 22 characters, as functions on numbers: the characters and their values, six bits at a time; the sextets of a key, and the key of sextets; that they lead back to each other. No condition; nothing of the program is named here.
-/
import Derived.Test.YtfmlllckfpagkaaDoorGbk
namespace Go.Proofs.YtfmlllckfpagkaaDoor
open Go.RowKit
set_option linter.unusedVariables false
set_option maxRecDepth 100000
/-- The character with a value. -/
def tcF (v : Nat) : Nat := if v < 26 then v + 65 else if v < 52 then v + 71 else if v < 62 then v - 4 else if v = 62 then 43 else 47
/-- The value of a byte. -/
def tvI (c : Nat) : Int := if 65 ≤ c ∧ c ≤ 90 then (c : Int) - 65 else if 97 ≤ c ∧ c ≤ 122 then (c : Int) - 71 else if 48 ≤ c ∧ c ≤ 57 then (c : Int) + 4 else if c = 43 then 62 else if c = 47 then 63 else -1
theorem tcF_lt : ∀ v, v < 64 → tcF v < 128 := by decide +kernel
theorem tv_tc : ∀ v, v < 64 → tvI (tcF v) = (v : Int) := by decide +kernel
theorem tv_range : ∀ c, c < 256 → -1 ≤ tvI c ∧ tvI c < 64 := by decide +kernel
theorem tc_tv : ∀ c, c < 256 → 0 ≤ tvI c → tcF (tvI c).toNat = c := by decide +kernel
theorem tc_inj (v x : Nat) (hv : v < 64) (hx : x < 64) (h : tcF v = tcF x) : v = x := by
  have h1 := tv_tc v hv
  rw [h, tv_tc x hx] at h1
  omega
/-- The sextet i of bits. -/
def by6 (l : Nat → Nat) (i : Nat) : Nat := ((((l (6 * i) * 2 + l (6 * i + 1)) * 2 + l (6 * i + 2)) * 2 + l (6 * i + 3)) * 2 + l (6 * i + 4)) * 2 + l (6 * i + 5)
/-- The bits of a key, and zeros behind them. -/
def kbF (f : Nat → Nat) (k : Nat) : Nat := if k < 128 then bitF f k else 0
/-- The sextets of a key. -/
def sxF (f : Nat → Nat) (i : Nat) : Nat := by6 (kbF f) i
/-- The bits of sextets. -/
def vbF (v : Nat → Nat) (k : Nat) : Nat := v (k / 6) / 2 ^ (5 - k % 6) % 2
/-- The key of sextets. -/
def kyF (v : Nat → Nat) (j : Nat) : Nat := by8 (vbF v) j
theorem kbF_lt (f : Nat → Nat) (k : Nat) : kbF f k < 2 := by
  unfold kbF
  split
  · exact bitF_lt f k
  · omega
theorem vbF_lt (v : Nat → Nat) (k : Nat) : vbF v k < 2 := Nat.mod_lt _ (by decide)
theorem by6_lt (l : Nat → Nat) (hl : ∀ k, l k < 2) (i : Nat) : by6 l i < 64 := by
  have h0 := hl (6 * i); have h1 := hl (6 * i + 1); have h2 := hl (6 * i + 2); have h3 := hl (6 * i + 3); have h4 := hl (6 * i + 4); have h5 := hl (6 * i + 5)
  unfold by6
  omega
theorem sxF_lt (f : Nat → Nat) (i : Nat) : sxF f i < 64 := by6_lt _ (kbF_lt f) i
theorem six_digits (a b c d e g : Nat) (ha : a < 2) (hb : b < 2) (hc : c < 2) (hd : d < 2) (he : e < 2) (hg : g < 2) :
    (((((a * 2 + b) * 2 + c) * 2 + d) * 2 + e) * 2 + g) / 32 % 2 = a ∧ (((((a * 2 + b) * 2 + c) * 2 + d) * 2 + e) * 2 + g) / 16 % 2 = b ∧ (((((a * 2 + b) * 2 + c) * 2 + d) * 2 + e) * 2 + g) / 8 % 2 = c ∧
    (((((a * 2 + b) * 2 + c) * 2 + d) * 2 + e) * 2 + g) / 4 % 2 = d ∧ (((((a * 2 + b) * 2 + c) * 2 + d) * 2 + e) * 2 + g) / 2 % 2 = e ∧ (((((a * 2 + b) * 2 + c) * 2 + d) * 2 + e) * 2 + g) / 1 % 2 = g := by
  refine ⟨?_, ?_, ?_, ?_, ?_, ?_⟩ <;> omega
theorem vb_by6 (l : Nat → Nat) (hl : ∀ k, l k < 2) (k : Nat) : vbF (by6 l) k = l k := by
  obtain ⟨i, t, ht, rfl⟩ : ∃ i t, t < 6 ∧ k = 6 * i + t := ⟨k / 6, k % 6, Nat.mod_lt _ (by decide), by omega⟩
  have h := six_digits _ _ _ _ _ _ (hl (6 * i)) (hl (6 * i + 1)) (hl (6 * i + 2)) (hl (6 * i + 3)) (hl (6 * i + 4)) (hl (6 * i + 5))
  unfold vbF
  rw [show (6 * i + t) / 6 = i by omega, show (6 * i + t) % 6 = t by omega]
  unfold by6
  rcases (show t = 0 ∨ t = 1 ∨ t = 2 ∨ t = 3 ∨ t = 4 ∨ t = 5 by omega) with rfl | rfl | rfl | rfl | rfl | rfl
  · exact h.1
  · exact h.2.1
  · exact h.2.2.1
  · exact h.2.2.2.1
  · exact h.2.2.2.2.1
  · exact h.2.2.2.2.2
theorem by6_vb (v : Nat → Nat) (i : Nat) (hv : v i < 64) : by6 (vbF v) i = v i := by
  have H : ∀ x, x < 64 → (((((x / 2 ^ (5 - 0) % 2) * 2 + x / 2 ^ (5 - 1) % 2) * 2 + x / 2 ^ (5 - 2) % 2) * 2 + x / 2 ^ (5 - 3) % 2) * 2 + x / 2 ^ (5 - 4) % 2) * 2 + x / 2 ^ (5 - 5) % 2 = x := by decide +kernel
  unfold by6 vbF
  rw [show (6 * i) / 6 = i by omega, show (6 * i + 1) / 6 = i by omega, show (6 * i + 2) / 6 = i by omega, show (6 * i + 3) / 6 = i by omega, show (6 * i + 4) / 6 = i by omega, show (6 * i + 5) / 6 = i by omega,
    show (6 * i) % 6 = 0 by omega, show (6 * i + 1) % 6 = 1 by omega, show (6 * i + 2) % 6 = 2 by omega, show (6 * i + 3) % 6 = 3 by omega, show (6 * i + 4) % 6 = 4 by omega, show (6 * i + 5) % 6 = 5 by omega]
  exact H (v i) hv
theorem by6_congr (l m : Nat → Nat) (i : Nat) (h : ∀ t, t < 6 → l (6 * i + t) = m (6 * i + t)) : by6 l i = by6 m i := by
  have h0 := h 0 (by omega); have h1 := h 1 (by omega); have h2 := h 2 (by omega); have h3 := h 3 (by omega); have h4 := h 4 (by omega); have h5 := h 5 (by omega)
  rw [Nat.add_zero] at h0
  unfold by6
  rw [h0, h1, h2, h3, h4, h5]
theorem by8_congr8 (l m : Nat → Nat) (j : Nat) (h : ∀ t, t < 8 → l (8 * j + t) = m (8 * j + t)) : by8 l j = by8 m j := by
  have h0 := h 0 (by omega); have h1 := h 1 (by omega); have h2 := h 2 (by omega); have h3 := h 3 (by omega); have h4 := h 4 (by omega); have h5 := h 5 (by omega); have h6 := h 6 (by omega); have h7 := h 7 (by omega)
  rw [Nat.add_zero] at h0
  unfold by8
  rw [h0, h1, h2, h3, h4, h5, h6, h7]
theorem by8_bit (f : Nat → Nat) (j : Nat) (hf : f j < 256) : by8 (bitF f) j = f j := by
  have H := by8_bits (f j) hf
  unfold by8
  have e : ∀ t, t < 8 → bitF f (8 * j + t) = f j / 2 ^ (7 - t) % 2 := fun t ht => bitF_at f j t ht
  have e0 := e 0 (by omega)
  rw [Nat.add_zero] at e0
  rw [e0, e 1 (by omega), e 2 (by omega), e 3 (by omega), e 4 (by omega), e 5 (by omega), e 6 (by omega), e 7 (by omega)]
  simpa using H
theorem eight_digits (a b c d e g h i : Nat) (ha : a < 2) (hb : b < 2) (hc : c < 2) (hd : d < 2) (he : e < 2) (hg : g < 2) (hh : h < 2) (hi : i < 2) :
    (((((((a * 2 + b) * 2 + c) * 2 + d) * 2 + e) * 2 + g) * 2 + h) * 2 + i) / 128 % 2 = a ∧ (((((((a * 2 + b) * 2 + c) * 2 + d) * 2 + e) * 2 + g) * 2 + h) * 2 + i) / 64 % 2 = b ∧ (((((((a * 2 + b) * 2 + c) * 2 + d) * 2 + e) * 2 + g) * 2 + h) * 2 + i) / 32 % 2 = c ∧ (((((((a * 2 + b) * 2 + c) * 2 + d) * 2 + e) * 2 + g) * 2 + h) * 2 + i) / 16 % 2 = d ∧
    (((((((a * 2 + b) * 2 + c) * 2 + d) * 2 + e) * 2 + g) * 2 + h) * 2 + i) / 8 % 2 = e ∧ (((((((a * 2 + b) * 2 + c) * 2 + d) * 2 + e) * 2 + g) * 2 + h) * 2 + i) / 4 % 2 = g ∧ (((((((a * 2 + b) * 2 + c) * 2 + d) * 2 + e) * 2 + g) * 2 + h) * 2 + i) / 2 % 2 = h ∧ (((((((a * 2 + b) * 2 + c) * 2 + d) * 2 + e) * 2 + g) * 2 + h) * 2 + i) / 1 % 2 = i := by
  refine ⟨?_, ?_, ?_, ?_, ?_, ?_, ?_, ?_⟩ <;> omega
theorem bit_by8 (l : Nat → Nat) (hl : ∀ k, l k < 2) (k : Nat) : bitF (by8 l) k = l k := by
  obtain ⟨j, t, ht, rfl⟩ : ∃ j t, t < 8 ∧ k = 8 * j + t := ⟨k / 8, k % 8, Nat.mod_lt _ (by decide), by omega⟩
  rw [bitF_at _ j t ht]
  unfold by8
  obtain ⟨h0, h1, h2, h3, h4, h5, h6, h7⟩ := eight_digits _ _ _ _ _ _ _ _ (hl (8 * j)) (hl (8 * j + 1)) (hl (8 * j + 2)) (hl (8 * j + 3)) (hl (8 * j + 4)) (hl (8 * j + 5)) (hl (8 * j + 6)) (hl (8 * j + 7))
  rcases (show t = 0 ∨ t = 1 ∨ t = 2 ∨ t = 3 ∨ t = 4 ∨ t = 5 ∨ t = 6 ∨ t = 7 by omega) with rfl | rfl | rfl | rfl | rfl | rfl | rfl | rfl
  · exact h0
  · exact h1
  · exact h2
  · exact h3
  · exact h4
  · exact h5
  · exact h6
  · exact h7
/-- The key of the sextets of a key. -/
theorem ky_sx (f : Nat → Nat) (j : Nat) (hj : j < 16) (hf : f j < 256) : kyF (sxF f) j = f j := by
  unfold kyF
  rw [by8_congr8 (vbF (sxF f)) (bitF f) j (fun t ht => ?_), by8_bit f j hf]
  rw [show vbF (sxF f) (8 * j + t) = kbF f (8 * j + t) from vb_by6 (kbF f) (kbF_lt f) _]
  unfold kbF
  rw [if_pos (by omega)]
/-- The sextets of the key of sextets. -/
theorem sx_ky (v : Nat → Nat) (i : Nat) (hi : i < 21) (hv : v i < 64) : sxF (kyF v) i = v i := by
  unfold sxF
  rw [by6_congr (kbF (kyF v)) (vbF v) i (fun t ht => ?_), by6_vb v i hv]
  unfold kbF
  rw [if_pos (by omega)]
  exact bit_by8 (vbF v) (vbF_lt v) _
theorem sx_ky_last (v : Nat → Nat) (hv : v 21 < 64) (h16 : v 21 % 16 = 0) : sxF (kyF v) 21 = v 21 := by
  have hb : ∀ x, x < 64 → x % 16 = 0 → ∀ t, t < 6 → 2 ≤ t → x / 2 ^ (5 - t) % 2 = 0 := by decide +kernel
  unfold sxF
  rw [by6_congr (kbF (kyF v)) (vbF v) 21 (fun t ht => ?_), by6_vb v 21 hv]
  unfold kbF
  split
  · exact bit_by8 (vbF v) (vbF_lt v) _
  · unfold vbF
    rw [show (6 * 21 + t) / 6 = 21 by omega, show (6 * 21 + t) % 6 = t by omega]
    exact (hb (v 21) hv h16 t ht (by omega)).symm
/-- The last sextet of a key has two bits. -/
theorem sx_last (f : Nat → Nat) : sxF f 21 % 16 = 0 := by
  have h0 := kbF_lt f 126
  have h1 := kbF_lt f 127
  have e : ∀ k, 128 ≤ k → kbF f k = 0 := fun k hk => by unfold kbF; rw [if_neg (by omega)]
  unfold sxF by6
  rw [e (6 * 21 + 2) (by omega), e (6 * 21 + 3) (by omega), e (6 * 21 + 4) (by omega), e (6 * 21 + 5) (by omega)]
  omega
/-- The text of a key. -/
def txL (f : Nat → Nat) : List UInt8 := (List.range 22).map fun i => UInt8.ofNat (tcF (sxF f i))
theorem txL_len (f : Nat → Nat) : (txL f).length = 22 := by simp [txL]
theorem txL_get (f : Nat → Nat) (i : Nat) (hi : i < 22) : (txL f)[i]? = some (UInt8.ofNat (tcF (sxF f i))) := by simp [txL, List.getElem?_map, List.getElem?_range hi]
/-- The values of the bytes of a string. -/
def valF (s : List UInt8) (i : Nat) : Int := tvI (s.getD i 0).toNat
/-- The first byte that is wrong, from the place i on. -/
def badF (s : List UInt8) : Nat → Nat → Option Nat
  | _, 0 => none
  | i, n + 1 => if valF s i < 0 then some i else badF s (i + 1) n
/-- What a string is parsed to: the code and the offset of the error (0: none). -/
def paC (s : List UInt8) : Nat × Nat := if s.length ≠ 22 then (4, s.length) else match badF s 0 22 with | some i => (11, i) | none => if (valF s 21).toNat % 16 ≠ 0 then (11, 21) else (0, 0)
/-- The key of a string. -/
def paK (s : List UInt8) : Nat → Nat := if (paC s).1 = 0 then kyF fun i => (valF s i).toNat else fun _ => 0
theorem badF_none {s : List UInt8} : ∀ n i, badF s i n = none → ∀ j, i ≤ j → j < i + n → 0 ≤ valF s j
  | 0, i, _, j, h1, h2 => by omega
  | n + 1, i, h, j, h1, h2 => by
    unfold badF at h
    split at h
    · cases h
    · rename_i h3
      rcases Nat.lt_or_ge i j with h4 | h4
      · exact badF_none n (i + 1) h j h4 (by omega)
      · obtain rfl : j = i := by omega
        omega
theorem badF_some {s : List UInt8} {k : Nat} : ∀ n i, badF s i n = some k → i ≤ k ∧ k < i + n ∧ valF s k < 0 ∧ ∀ j, i ≤ j → j < k → 0 ≤ valF s j
  | 0, i, h => by cases h
  | n + 1, i, h => by
    unfold badF at h
    split at h
    · obtain rfl := Option.some.inj h
      exact ⟨Nat.le_refl _, by omega, by assumption, fun j h1 h2 => by omega⟩
    · rename_i h3
      obtain ⟨h4, h5, h6, h7⟩ := badF_some n (i + 1) h
      refine ⟨by omega, by omega, h6, fun j h1 h2 => ?_⟩
      rcases Nat.lt_or_ge i j with h8 | h8
      · exact h7 j h8 h2
      · obtain rfl : j = i := by omega
        omega
end Go.Proofs.YtfmlllckfpagkaaDoor
