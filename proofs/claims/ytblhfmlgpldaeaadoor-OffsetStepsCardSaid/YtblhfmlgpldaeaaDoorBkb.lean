/-
  Contracts of block.Double and block.Halve, by walks through their texts; what was there stays as it was.
-/
import Derived.Test.YtblhfmlgpldaeaaDoorBrf
namespace Go.Proofs.YtblhfmlgpldaeaaDoor
open Go.RowKit
set_option linter.unusedVariables false
set_option maxRecDepth 100000

theorem or_top : ∀ a, a < 128 → ∀ b, b < 2 → a * 2 ||| b = a * 2 + b := by decide +kernel
theorem or_low : ∀ a, a < 128 → ∀ b, b < 2 → a ||| b * 128 = a + b * 128 := by decide +kernel
theorem db_low (f : Nat → Nat) (n : Nat) (hn : n < 15) (hf : B16 f) : f n * 2 % 256 ||| f (n + 1) / 128 = dbF f n := by
  have h0 := hf n (by omega)
  have h1 := hf (n + 1) (by omega)
  have := or_top (f n % 128) (by omega) (f (n + 1) / 128) (by omega)
  rw [show f n % 128 * 2 = f n * 2 % 256 by omega] at this
  unfold dbF
  rw [shB_one, if_neg (by omega), Nat.xor_zero, show cut 16 f n = f n from if_pos (by omega), show cut 16 f (n + 1) = f (n + 1) from if_pos (by omega), this]
theorem db_last (f : Nat → Nat) : f 15 * 2 % 256 ^^^ f 0 / 128 * 135 = dbF f 15 := by
  unfold dbF
  rw [shB_one, if_pos rfl, show cut 16 f 15 = f 15 from if_pos (by omega), show cut 16 f (15 + 1) = 0 from if_neg (by omega)]
  simp
theorem part_step (F G : Nat → Nat) (n m : Nat) : (if m = n then F n else (if m < n then F m else G m)) = if m < n + 1 then F m else G m := by
  by_cases h : m = n
  · rw [if_pos h, if_pos (by omega), h]
  · rw [if_neg h]
    by_cases h2 : m < n
    · rw [if_pos h2, if_pos (by omega)]
    · rw [if_neg h2, if_neg (by omega)]

set_option maxHeartbeats 1600000 in
theorem bdouble (f : Nat → Nat) (w : World) (hf : B16 f) :
    Calls Tryd.prog 29 #[.agg (arL 16 f).toArray] w fun e w' => e = .returned (.agg (arL 16 (dbF f)).toArray) ∧ Below w.heap.size w w' := by
  have hz := zero16x
  obtain ⟨kA, hkA⟩ : ∃ kA : Array Value, (arL 16 f).toArray = kA := ⟨_, rfl⟩
  obtain ⟨w1, hw1⟩ : ∃ w1 : World, w1 = w.alloc (.cells (arL 16 f).toArray 22) := ⟨_, rfl⟩
  have hs1 : w1.heap.size = w.heap.size + 1 := by rw [hw1]; simp
  have hb1 : Below w.heap.size w w1 := by rw [hw1]; exact (Below.refl _ _).alloc (Nat.le_refl _) _
  have hK1 : Ar w1 w.heap.size 16 f := by rw [hw1]; exact Ar.new w 16 f _
  obtain ⟨w2, hw2⟩ : ∃ w2 : World, w2 = w1.alloc (.cells (arL 16 fun _ => 0).toArray 22) := ⟨_, rfl⟩
  have hB2 : Below w.heap.size w w2 := by rw [hw2]; exact hb1.alloc (by omega) _
  have hR2 : Ar w2 (w.heap.size + 1) 16 (fun _ => 0) := by rw [hw2, ← hs1]; exact Ar.new w1 16 _ _
  have hK2 : Ar w2 w.heap.size 16 f := by rw [hw2]; exact hK1.alloc (by omega) _
  rw [hkA] at hw1
  rw [hkA]
  clear hb1 hK1 hkA
  have HF := Lib.hid hf
  have h00 := hf 0 (by omega)
  clear hf
  go_enter Tryd.func29, Tryd.ntmps29
  go_upto_region 1 with fail
  rw [← hw1, ← hw2]
  clear hw1 hw2 hs1
  obtain ⟨gR, hgR⟩ : ∃ gR : Nat, w.heap.size + 1 = gR := ⟨_, rfl⟩
  have hlR : w.heap.size < gR := by omega
  rw [hgR] at hR2
  try rw [hgR]
  clear hgR
  obtain ⟨c00, _⟩ := hK2 0 (by omega)
  obtain ⟨o, ho⟩ : ∃ o : Nat, o = f 0 / 128 := ⟨_, rfl⟩
  have ho2 : o < 2 := by omega
  have e0 : ((f 0 : Nat) : Int) / 128 = (o : Int) := by omega
  have HO := Lib.hid ho
  clear ho
  go_upto_region 3 with fail
  clear c00 e0 h00
  go_wp2_with fail
  go_loopw [8] (fun i wr => ∃ n : Nat, n ≤ 15 ∧ i = .int .i64 n ∧ Ar wr w.heap.size 16 (fun m => if m < n then dbF f m else f m) ∧ Ar wr gR 16 (fun _ => 0) ∧ Below w.heap.size w wr) (fun i _ => 15 - (intOf i).toNat)
  case atStart => exact ⟨0, Nat.zero_le _, rfl, hK2.ext (fun _ _ => rfl), hR2, hB2⟩
  case round =>
    clear hK2 hR2 hB2
    obtain ⟨n, hn, rfl, hK, hR, hB⟩ := hrel
    by_cases hlt : n < 15
    · have i1 : (n : Int) < 15 := by omega
      have i2 : (n : Int) + 1 < 16 := by omega
      obtain ⟨c0, f0⟩ := hK n (by omega)
      obtain ⟨c1, _⟩ := hK (n + 1) (by omega)
      dsimp only at c0 c1
      rw [show (if n < n then dbF f n else f n) = f n from if_neg (by omega)] at c0
      rw [show (if n + 1 < n then dbF f (n + 1) else f (n + 1)) = f (n + 1) from if_neg (by omega)] at c1
      have x0 := HF.out n (by omega)
      have x1 := HF.out (n + 1) (by omega)
      obtain ⟨p, hp⟩ : ∃ p : Nat, p = f n * 2 % 256 := ⟨_, rfl⟩
      obtain ⟨q, hq⟩ : ∃ q : Nat, q = f (n + 1) / 128 := ⟨_, rfl⟩
      have hor : bits BinOp.or IntKind.u8 (p : Int) (q : Int) = ((dbF f n : Nat) : Int) := by rw [or_u8 p q (by omega) (by omega), hp, hq, db_low f n hlt HF.out]
      have a1 : IntKind.u8.wrap (((f n : Nat) : Int) * 2) = (p : Int) := by rw [IntKind.wrap_u8]; omega
      have a2 : ((f n : Nat) : Int) * 2 % 256 = (p : Int) := by omega
      have a3 : ((f (n + 1) : Nat) : Int) / 128 = (q : Int) := by omega
      have hK2 := Lib.hid ((hK.set (j := n) (v := dbF f n) (by omega) rfl).ext (fun m _ => part_step (dbF f) f n m))
      have hR2 := Lib.hid (hR.far (p := ⟨w.heap.size, n, none⟩) (by simp; omega) (.int .u8 (dbF f n : Nat)))
      have hB2 := Lib.hid (hB.setCell (p := ⟨w.heap.size, n, none⟩) (by simp) (.int .u8 (dbF f n : Nat)))
      clear hK hR hB hp hq
      generalize dbF f n = z at *
      generalize f (n + 1) = y at *
      generalize f n = x at *
      go_wp2_with fail
      refine wp_region_noPanic ?_
      go_big_region
      refine NoPanic.normal ?_
      clear a1 a2 a3 hor c0 c1 f0
      go_wp2_with fail
      go_roundw
      case rel => exact ⟨n + 1, by omega, by go_num, hK2.out.drew, hR2.out.drew, hB2.out.drew⟩
      case measure => simp [intOf]; omega
    · obtain rfl : n = 15 := by omega
      obtain ⟨c0, f0⟩ := hK 15 (by omega)
      dsimp only at c0
      rw [show (if 15 < 15 then dbF f 15 else f 15) = f 15 from if_neg (by omega)] at c0
      have x0 := HF.out 15 (by omega)
      obtain ⟨p, hp⟩ : ∃ p : Nat, p = f 15 * 2 % 256 := ⟨_, rfl⟩
      obtain ⟨r, hr⟩ : ∃ r : Nat, r = o * 135 := ⟨_, rfl⟩
      have hxo : bits BinOp.xor IntKind.u8 (p : Int) (r : Int) = ((dbF f 15 : Nat) : Int) := by rw [xor_n8 p r (by omega) (by omega), hp, hr, HO.out, db_last f]
      have a1 : IntKind.u8.wrap (((f 15 : Nat) : Int) * 2) = (p : Int) := by rw [IntKind.wrap_u8]; omega
      have a2 : ((f 15 : Nat) : Int) * 2 % 256 = (p : Int) := by omega
      have a3 : (o : Int) * 135 = (r : Int) := by omega
      have a4 : IntKind.u8.wrap ((o : Int) * 135) = (r : Int) := by rw [IntKind.wrap_u8]; omega
      have hK2 := ((hK.set (j := 15) (v := dbF f 15) (by omega) rfl).ext (f' := dbF f) (fun m hm => by
        by_cases h : m = 15
        · rw [if_pos h, h]
        · rw [if_neg h, if_pos (by omega)]))
      have hR2 := hR.far (p := ⟨w.heap.size, 15, none⟩) (by simp; omega) (.int .u8 (dbF f 15 : Nat))
      have hB2 := hB.setCell (p := ⟨w.heap.size, 15, none⟩) (by simp) (.int .u8 (dbF f 15 : Nat))
      clear hK hR hB hp hr
      obtain ⟨z, hz15⟩ : ∃ z : Nat, dbF f 15 = z := ⟨_, rfl⟩
      rw [hz15] at hK2 hR2 hB2 hxo
      clear hz15
      generalize f 15 = x at *
      go_upto_region 8 with fail
      clear a1 a2 a3 a4 hxo
      go_wp2_with (first
        | (refine wpList_load_ar rfl _ _ rfl _ _ _ rfl hK2 Tryd.arr16x (size16x _) ?_)
        | (refine wpList_store_ar rfl _ _ _ rfl _ _ _ (dbF f) rfl rfl hR2 (size16x _) ?_; intro w8 hA8 hb8 _ _))
      refine bodyPost_ret_ar rfl rfl hA8 Tryd.arr16x (size16x _) rfl ⟨rfl, ?_⟩
      exact hB2.trans (hb8.mono (by omega))
end Go.Proofs.YtblhfmlgpldaeaaDoor
