/-
  Contract of block.Halve, by a walk through its text; what was there stays as it was.
-/
import Derived.Test.YtejgeefhnpeejaaBkb
namespace Go.Proofs.Ytejgeefhnpeejaa
open Go.RowKit
set_option linter.unusedVariables false
set_option maxRecDepth 100000

theorem hv_or (f : Nat → Nat) (n q : Nat) (hq : n = q + 1) (hn : n < 16) (hf : B16 f) : hvG f n / 2 ||| hvG f q * 128 % 256 = hvF f n := by
  have h0 := hvG_lt hf n hn
  have h1 := hvG_lt hf q (by omega)
  have := or_low (hvG f n / 2) (by omega) (hvG f q % 2) (by omega)
  unfold hvF
  rw [if_neg (by omega), show n - 1 = q by omega, show hvG f q * 128 % 256 = hvG f q % 2 * 128 by omega, this]
theorem hv_zero (f : Nat → Nat) (hf : B16 f) : hvG f 0 / 2 ||| f 15 % 2 * 128 = hvF f 0 := by
  have h0 := hvG_lt hf 0 (by omega)
  unfold hvF
  rw [if_pos rfl, or_low (hvG f 0 / 2) (by omega) (f 15 % 2) (by omega)]
theorem hvG_low (f : Nat → Nat) (j : Nat) (hj : j ≠ 15) : hvG f j = f j := by unfold hvG; rw [if_neg hj, Nat.xor_zero]
theorem hvG_top (f : Nat → Nat) : hvG f 15 = f 15 ^^^ f 15 % 2 * 135 := by unfold hvG; rw [if_pos rfl]
/-- The bytes from place n + 1 on are done. -/
def hvP (f : Nat → Nat) (n m : Nat) : Nat := if n < m then hvF f m else hvG f m
theorem hvP_step (f : Nat → Nat) (n q m : Nat) (hq : n = q + 1) : (if m = n then hvF f n else hvP f n m) = hvP f q m := by
  unfold hvP
  by_cases h : m = n
  · rw [if_pos h, if_pos (by omega), h]
  · rw [if_neg h]
    by_cases h2 : n < m
    · rw [if_pos h2, if_pos (by omega)]
    · rw [if_neg h2, if_neg (by omega)]
theorem and1_u8 (a : Nat) (ha : a < 256) : bits .and .u8 (a : Int) 1 = ((a % 2 : Nat) : Int) := by
  have h := (bits_nat .u8 8 (by decide) wraps_u8 a 1 ha (by decide)).1
  rw [Nat.and_one_is_mod] at h
  exact h

set_option maxHeartbeats 1600000 in
theorem bhalve (f : Nat → Nat) (w : World) (hf : B16 f) :
    Calls Try.prog 12 #[.agg (arL 16 f).toArray] w fun e w' => e = .returned (.agg (arL 16 (hvF f)).toArray) ∧ Below w.heap.size w w' := by
  have hz := zero16x
  obtain ⟨kA, hkA⟩ : ∃ kA : Array Value, (arL 16 f).toArray = kA := ⟨_, rfl⟩
  obtain ⟨w1, hw1⟩ : ∃ w1 : World, w1 = w.alloc (.cells (arL 16 f).toArray 22) := ⟨_, rfl⟩
  have hs1 : w1.heap.size = w.heap.size + 1 := by rw [hw1]; simp
  have hb1 : Below w.heap.size w w1 := by rw [hw1]; exact (Below.refl _ _).alloc (Nat.le_refl _) _
  have hK1 : Ar w1 w.heap.size 16 f := by rw [hw1]; exact Ar.new w 16 f _
  obtain ⟨w2, hw2⟩ : ∃ w2 : World, w2 = w1.alloc (.cells (arL 16 fun _ => 0).toArray 22) := ⟨_, rfl⟩
  have hB2 : Below w.heap.size w w2 := by rw [hw2]; exact hb1.alloc (by omega) _
  have hR2 : Ar w2 (w.heap.size + 1) 16 (fun _ => 0) := by rw [hw2, ← hs1]; exact Ar.new w1 16 _ _
  have hK2 : Ar w2 w.heap.size 16 f := by rw [hw2]; exact hK1.alloc (by omega) _
  rw [hkA] at hw1
  rw [hkA]
  clear hb1 hK1 hkA
  have HF := Lib.hid hf
  have h15 := hf 15 (by omega)
  clear hf
  go_enter Try.func12, Try.ntmps12
  go_upto_region 1 with fail
  rw [← hw1, ← hw2]
  clear hw1 hw2 hs1
  obtain ⟨gR, hgR⟩ : ∃ gR : Nat, w.heap.size + 1 = gR := ⟨_, rfl⟩
  have hlR : w.heap.size < gR := by omega
  rw [hgR] at hR2
  try rw [hgR]
  clear hgR
  obtain ⟨c0, f0⟩ := hK2 15 (by omega)
  obtain ⟨o, ho⟩ : ∃ o : Nat, o = f 15 % 2 := ⟨_, rfl⟩
  have ho2 : o < 2 := by omega
  have e0 : bits BinOp.and IntKind.u8 ((f 15 : Nat) : Int) 1 = (o : Int) := by rw [and1_u8 _ h15, ho]
  obtain ⟨r, hr⟩ : ∃ r : Nat, r = o * 135 := ⟨_, rfl⟩
  have a3 : (o : Int) * 135 = (r : Int) := by omega
  have a4 : IntKind.u8.wrap ((o : Int) * 135) = (r : Int) := by rw [IntKind.wrap_u8]; omega
  have hxo : bits BinOp.xor IntKind.u8 ((f 15 : Nat) : Int) (r : Int) = ((hvG f 15 : Nat) : Int) := by rw [xor_n8 (f 15) r h15 (by omega), hvG_top, hr, ho]
  have hK3 : Ar (w2.setCell ⟨w.heap.size, 15, none⟩ (.int .u8 (hvG f 15 : Nat))) w.heap.size 16 (hvP f 15) := (hK2.set (j := 15) (v := hvG f 15) (by omega) rfl).ext (fun m hm => by
    have e : hvP f 15 m = hvG f m := by unfold hvP; rw [if_neg (by omega)]
    rw [e]
    by_cases h : m = 15
    · rw [if_pos h, h]
    · rw [if_neg h, hvG_low f m h])
  have hR3 := hR2.far (p := ⟨w.heap.size, 15, none⟩) (by simp; omega) (.int .u8 (hvG f 15 : Nat))
  have hB3 := hB2.setCell (p := ⟨w.heap.size, 15, none⟩) (by simp) (.int .u8 (hvG f 15 : Nat))
  have HO := Lib.hid ho
  obtain ⟨z, hz15⟩ : ∃ z : Nat, hvG f 15 = z := ⟨_, rfl⟩
  rw [hz15] at hK3 hR3 hB3 hxo
  clear hK2 hR2 hB2 ho hr hz15
  obtain ⟨x, hx15⟩ : ∃ x : Nat, f 15 = x := ⟨_, rfl⟩
  rw [hx15] at c0 h15 e0 hxo
  clear hx15
  go_upto_region 3 with fail
  clear c0 f0 e0 a3 a4 hxo h15
  generalize World.setCell w2 ⟨w.heap.size, 15, none⟩ (.int .u8 (z : Int)) = w3 at *
  go_wp2_with fail
  go_loopw [4] (fun i wr => ∃ n : Nat, n ≤ 15 ∧ i = .int .i64 n ∧ Ar wr w.heap.size 16 (hvP f n) ∧ Ar wr gR 16 (fun _ => 0) ∧ Below w.heap.size w wr) (fun i _ => (intOf i).toNat)
  case atStart => exact ⟨15, Nat.le_refl _, rfl, hK3, hR3, hB3⟩
  case round =>
    clear hK3 hR3 hB3
    obtain ⟨n, hn, rfl, hK, hR, hB⟩ := hrel
    by_cases h0 : 0 < n
    · have i1 : (0 : Int) < (n : Int) := by omega
      have i2 : (n : Int) < 16 := by omega
      obtain ⟨q, hq⟩ : ∃ q : Nat, n = q + 1 := ⟨n - 1, by omega⟩
      have q1 : (n : Int) - 1 = (q : Int) := by omega
      have q2 : (q : Int) < 16 := by omega
      obtain ⟨c0, f0⟩ := hK n (by omega)
      obtain ⟨c1, _⟩ := hK q (by omega)
      rw [show hvP f n n = hvG f n from if_neg (by omega)] at c0
      rw [show hvP f n q = hvG f q from if_neg (by omega)] at c1
      have x0 := hvG_lt HF.out n (by omega)
      have x1 := hvG_lt HF.out q (by omega)
      obtain ⟨p, hp⟩ : ∃ p : Nat, p = hvG f n / 2 := ⟨_, rfl⟩
      obtain ⟨t, ht⟩ : ∃ t : Nat, t = hvG f q * 128 % 256 := ⟨_, rfl⟩
      have hor : bits BinOp.or IntKind.u8 (p : Int) (t : Int) = ((hvF f n : Nat) : Int) := by rw [or_u8 p t (by omega) (by omega), hp, ht, hv_or f n q hq (by omega) HF.out]
      have a1 : ((hvG f n : Nat) : Int) / 2 = (p : Int) := by omega
      have a2 : IntKind.u8.wrap (((hvG f q : Nat) : Int) * 128) = (t : Int) := by rw [IntKind.wrap_u8]; omega
      have a3 : ((hvG f q : Nat) : Int) * 128 % 256 = (t : Int) := by omega
      have hK2 := Lib.hid ((hK.set (j := n) (v := hvF f n) (by omega) rfl).ext (fun m _ => hvP_step f n q m hq))
      have hR2 := Lib.hid (hR.far (p := ⟨w.heap.size, n, none⟩) (by simp; omega) (.int .u8 (hvF f n : Nat)))
      have hB2 := Lib.hid (hB.setCell (p := ⟨w.heap.size, n, none⟩) (by simp) (.int .u8 (hvF f n : Nat)))
      have HQ := Lib.hid hq
      clear hK hR hB hp ht hq
      generalize hvF f n = z at *
      generalize hvG f q = y at *
      generalize hvG f n = x at *
      go_wp2_with fail
      refine wp_region_noPanic ?_
      go_big_region
      refine NoPanic.normal ?_
      clear a1 a2 a3 hor c0 c1 f0
      go_wp2_with fail
      go_roundw
      case rel => exact ⟨q, by omega, by first | rfl | go_num, hK2.out.drew, hR2.out.drew, hB2.out.drew⟩
      case measure => have := HQ.out; simp [intOf]; omega
    · obtain rfl : n = 0 := by omega
      obtain ⟨c0, f0⟩ := hK 0 (by omega)
      rw [show hvP f 0 0 = hvG f 0 from if_neg (by omega)] at c0
      have x0 := hvG_lt HF.out 0 (by omega)
      obtain ⟨p, hp⟩ : ∃ p : Nat, p = hvG f 0 / 2 := ⟨_, rfl⟩
      obtain ⟨t, ht⟩ : ∃ t : Nat, t = o * 128 := ⟨_, rfl⟩
      have hor : bits BinOp.or IntKind.u8 (p : Int) (t : Int) = ((hvF f 0 : Nat) : Int) := by rw [or_u8 p t (by omega) (by omega), hp, ht, HO.out, hv_zero f HF.out]
      have a1 : ((hvG f 0 : Nat) : Int) / 2 = (p : Int) := by omega
      have a2 : IntKind.u8.wrap ((o : Int) * 128) = (t : Int) := by rw [IntKind.wrap_u8]; omega
      have a3 : (o : Int) * 128 = (t : Int) := by omega
      have hK2 := ((hK.set (j := 0) (v := hvF f 0) (by omega) rfl).ext (f' := hvF f) (fun m hm => by
        by_cases h : m = 0
        · rw [if_pos h, h]
        · rw [if_neg h]; unfold hvP; rw [if_pos (by omega)]))
      have hR2 := hR.far (p := ⟨w.heap.size, 0, none⟩) (by simp; omega) (.int .u8 (hvF f 0 : Nat))
      have hB2 := hB.setCell (p := ⟨w.heap.size, 0, none⟩) (by simp) (.int .u8 (hvF f 0 : Nat))
      clear hK hR hB hp ht
      obtain ⟨z, hz15⟩ : ∃ z : Nat, hvF f 0 = z := ⟨_, rfl⟩
      rw [hz15] at hK2 hR2 hB2 hor
      clear hz15
      generalize hvG f 0 = x at *
      go_upto_region 8 with fail
      clear a1 a2 a3 hor
      go_wp2_with (first
        | (refine wpList_load_ar rfl _ _ rfl _ _ _ rfl hK2 Try.arr16x (size16x _) ?_)
        | (refine wpList_store_ar rfl _ _ _ rfl _ _ _ (hvF f) rfl rfl hR2 (size16x _) ?_; intro w8 hA8 hb8 _ _))
      refine bodyPost_ret_ar rfl rfl hA8 Try.arr16x (size16x _) rfl ⟨rfl, ?_⟩
      exact hB2.trans (hb8.mono (by omega))
end Go.Proofs.Ytejgeefhnpeejaa
