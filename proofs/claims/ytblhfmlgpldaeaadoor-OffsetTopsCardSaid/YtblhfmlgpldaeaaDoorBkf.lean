/-
  Contract of block.Shift, by a walk through its text: for every number of bits; what was there stays as it was.
-/
import Derived.Test.YtblhfmlgpldaeaaDoorBkd
import Derived.Test.YtblhfmlgpldaeaaDoorBrd
import Derived.Test.YtblhfmlgpldaeaaDoorBkb
import Derived.Lib.MinMax
namespace Go.Proofs.YtblhfmlgpldaeaaDoor
open Go.RowKit
set_option linter.unusedVariables false
set_option maxRecDepth 100000

theorem Tryd.zero25 : (Tryd.prog.info? 96).map (fun i => (i.zero, i.size)) = some (some (.agg (Array.replicate 25 (.int .u8 0))), 25) := by kernel_rfl
theorem zero25 (w : World) : (zeroValue 96).run Tryd.prog w = .ok (.agg (arL 25 fun _ => 0).toArray) w := by
  rw [arL_zero]; exact (zero_of_info Tryd.zero25).1 w
/-- How far a block is shifted at most and at least. -/
def clampN (n : Int) : Nat := (min (max n 0) 64).toNat
theorem clampN_le (n : Int) : clampN n ≤ 64 := by unfold clampN; omega
theorem clampN_eq (n : Int) : min (max n 0) 64 = (clampN n : Int) := by unfold clampN; omega
theorem two_or (s x y : Nat) (hs : s < 8) (hx : x < 256) (hy : y < 256) : x * 2 ^ s % 256 ||| y / 2 ^ (8 - s) = x * 2 ^ s % 256 + y / 2 ^ (8 - s) := by
  have h : ∀ s, s < 8 → ∀ x, x < 256 → ∃ k, x * 2 ^ s % 256 = 2 ^ s * k := fun s hs x hx => by
    refine ⟨x % 2 ^ (8 - s), ?_⟩
    have e : 256 = 2 ^ s * 2 ^ (8 - s) := by rw [← Nat.pow_add, show s + (8 - s) = 8 by omega]
    rw [e, Nat.mul_comm x, Nat.mul_mod_mul_left]
  obtain ⟨k, hk⟩ := h s hs x hx
  have hl : y / 2 ^ (8 - s) < 2 ^ s := by
    rw [Nat.div_lt_iff_lt_mul (by exact Nat.two_pow_pos _), ← Nat.pow_add, show s + (8 - s) = 8 by omega]; exact hy
  rw [hk, Nat.two_pow_add_eq_or_of_lt hl]
theorem shl_fact (s x : Nat) (hs : s < 8) (hx : x < 256) : IntKind.u8.wrap ((x : Int) * 2 ^ s) = ((x * 2 ^ s % 256 : Nat) : Int) := by
  rw [IntKind.wrap_u8]; simp
theorem shr_fact (s y : Nat) : (y : Int) / 2 ^ s = ((y / 2 ^ s : Nat) : Int) := by simp
theorem shB_at (f : Nat → Nat) (m q s k : Nat) (hq : q = m / 8) (hs : s = m % 8) (hf : ∀ j, f j < 256) : f (k + q) * 2 ^ s % 256 ||| f (k + q + 1) / 2 ^ (8 - s) = shB f m k := by
  unfold shB
  rw [two_or s _ _ (by omega) (hf _) (hf _), hq, hs]

set_option maxHeartbeats 1600000 in
theorem bshift (f : Nat → Nat) (n : Int) (w : World) (hf : ∀ j, j < 24 → f j < 256) :
    Calls Tryd.prog 36 #[.agg (arL 24 f).toArray, .int .i64 n] w fun e w' => e = .returned (.agg (arL 16 (shB (cut 24 f) (clampN n))).toArray) ∧ Below w.heap.size w w' := by
  have hz := zero16x
  have hz25 := zero25
  obtain ⟨kA, hkA⟩ : ∃ kA : Array Value, (arL 24 f).toArray = kA := ⟨_, rfl⟩
  obtain ⟨w1, hw1⟩ : ∃ w1 : World, w1 = w.alloc (.cells (arL 24 f).toArray 38) := ⟨_, rfl⟩
  have hs1 : w1.heap.size = w.heap.size + 1 := by rw [hw1]; simp
  have hb1 : Below w.heap.size w w1 := by rw [hw1]; exact (Below.refl _ _).alloc (Nat.le_refl _) _
  have hK1 : Ar w1 w.heap.size 24 f := by rw [hw1]; exact Ar.new w 24 f _
  obtain ⟨w2, hw2⟩ : ∃ w2 : World, w2 = w1.alloc (.cells (arL 16 fun _ => 0).toArray 22) := ⟨_, rfl⟩
  have hs2 : w2.heap.size = w.heap.size + 2 := by rw [hw2]; simp [hs1]
  have hb2 : Below w.heap.size w w2 := by rw [hw2]; exact hb1.alloc (by omega) _
  have hR2 : Ar w2 (w.heap.size + 1) 16 (fun _ => 0) := by rw [hw2, ← hs1]; exact Ar.new w1 16 _ _
  have hK2 : Ar w2 w.heap.size 24 f := by rw [hw2]; exact hK1.alloc (by omega) _
  obtain ⟨w3, hw3⟩ : ∃ V : World, V = w2.alloc (.cells (arL 25 fun _ => 0).toArray 96) := ⟨_, rfl⟩
  have hB3 : Below w.heap.size w w3 := by rw [hw3]; exact hb2.alloc (by omega) _
  have hW3 : Wb w3 (w.heap.size + 2) 25 (fun _ => 0) 96 := by rw [hw3, ← hs2]; exact Wb.new w2 25 _ _
  have hR3 : Ar w3 (w.heap.size + 1) 16 (fun _ => 0) := by rw [hw3]; exact hR2.alloc (by omega) _
  have hK3 : Ar w3 w.heap.size 24 f := by rw [hw3]; exact hK2.alloc (by omega) _
  rw [hkA] at hw1
  rw [hkA]
  clear hb1 hK1 hkA hb2 hR2 hK2
  have HC := Lib.hid (cut_lt hf)
  have hmm := clampN_eq n
  have hml := clampN_le n
  obtain ⟨m, hm⟩ : ∃ m : Nat, clampN n = m := ⟨_, rfl⟩
  rw [hm] at hmm hml ⊢
  obtain ⟨p, hp⟩ : ∃ p : Int, max n 0 = p := ⟨_, rfl⟩
  rw [hp] at hmm
  have HFR := Lib.hid (show splice (arL 25 fun _ => 0) 0 (arL 24 f) = arL 25 (cut 24 f) by
    rw [splice_ar 25 24 _ _ 0 (by omega)]
    exact arL_ext (fun j hj => by unfold cut; simp))
  clear hm hf
  go_enter Tryd.func36, Tryd.ntmps36
  go_upto_region 1 with fail
  rw [← hw1, ← hw2]
  clear hw1 hw2 hs1
  go_upto_region 2 with fail
  go_upto_region 3 with fail
  rw [← hw3]
  clear hw3 hmm hp
  obtain ⟨gR, hgR⟩ : ∃ gR : Nat, w.heap.size + 1 = gR := ⟨_, rfl⟩
  obtain ⟨gL, hgL⟩ : ∃ gL : Nat, w.heap.size + 2 = gL := ⟨_, rfl⟩
  have hgL2 : w.heap.size + 1 + 1 = gL := hgL
  have hlR : w.heap.size < gR := by omega
  have hlL : gR < gL := by omega
  rw [hgR] at hR3
  rw [hgL] at hW3
  try rw [hs2]
  try rw [hgL2]
  try rw [hgL]
  try rw [hgR]
  clear hgR hgL hgL2 hs2
  have hsrc := Lib.hid hK3.drew.src
  have HW := Lib.hid (show w3.drew.heap[gL]? = some (.cells (arL 25 fun _ => 0).toArray 96 (0, 0)) from hW3)
  have HMi := Lib.hid (show (arL 24 f).length = Nat.min 24 25 by rw [arL_len]; rfl)
  have HFi := Lib.hid (show 0 + (arL 24 f).length ≤ (arL 25 fun _ => 0).length by rw [arL_len, arL_len]; omega)
  go_region_law (refine step_copy_splice rfl (.tmp 12) (.tmp 13) 66 66 rfl 5 Tryd.sl8 Tryd.sz8 _ _ _ _ _ _ rfl rfl gL 0 (arL 25 fun _ => 0) 96 HW.out (arL 24 f) HMi.out (fun _ => ⟨rfl, ⟨w.heap.size, 0, none⟩, rfl, hsrc.out⟩) HFi.out (arL_one 24 _) gL w3.drew (Below.refl _ _) (Nat.le_refl _) ?_; intro w4 hW4 hb4)
  have hL4 : Ar w4 gL 25 (cut 24 f) := by
    have h := hW4.out
    rw [HFR.out] at h
    exact Wb.ar (show Wb w4 gL 25 _ _ from h)
  have hR4 := hR3.drew.keep hlL hb4
  have hB4 := hB3.drew.trans (hb4.mono (by omega))
  have hs4 := hb4.size
  have hl4 : gL < w4.heap.size := hL4.lt (by omega)
  clear hR3 hB3 hb4 hW4 HW hsrc HMi HFi hK3 hW3 HFR hs4
  try dsimp only [Act.put]
  obtain ⟨gT, hgT⟩ : ∃ g : Nat, w4.heap.size = g := ⟨_, rfl⟩
  obtain ⟨w5, hw5⟩ : ∃ V : World, V = w4.alloc (.cells (arL 16 fun _ => 0).toArray 22) := ⟨_, rfl⟩
  have hT5 : Ar w5 gT 16 (fun _ => 0) := by rw [hw5, ← hgT]; exact Ar.new w4 16 _ _
  have hL5 : Ar w5 gL 25 (cut 24 f) := by rw [hw5]; exact hL4.alloc (by omega) _
  have hR5 : Ar w5 gR 16 (fun _ => 0) := by rw [hw5]; exact hR4.alloc (by omega) _
  have hB5 : Below w.heap.size w w5 := by rw [hw5]; exact hB4.alloc hB4.size _
  rw [hgT] at hl4
  clear hL4 hR4 hB4
  go_upto_region 5 with fail
  try rw [hgT]
  rw [← hw5]
  clear hw5 hgT
  go_wp2_with fail
  obtain ⟨q, hq⟩ : ∃ q : Nat, q = m / 8 := ⟨_, rfl⟩
  obtain ⟨s, hs⟩ : ∃ s : Nat, s = m % 8 := ⟨_, rfl⟩
  have HQS := Lib.hid (show q = m / 8 ∧ s = m % 8 from ⟨hq, hs⟩)
  have q1 : ((m : Int)).tdiv 8 = (q : Int) := by rw [Int.tdiv_eq_ediv_of_nonneg (by omega)]; omega
  have q2 : (m : Int) / 8 = (q : Int) := by omega
  have s1 : ((m : Int)).tmod 8 = (s : Int) := by rw [Int.tmod_eq_emod_of_nonneg (by omega)]; omega
  have s2 : (m : Int) % 8 = (s : Int) := by omega
  have hq8 : q ≤ 8 := by omega
  have hs8 : s < 8 := by omega
  clear hq hs
  go_loopw [15] (fun i wr => ∃ k : Nat, k ≤ 16 ∧ i = .int .i64 k ∧ Ar wr gT 16 (fun j => if j < k then shB (cut 24 f) m j else 0) ∧ Ar wr gL 25 (cut 24 f) ∧ Ar wr gR 16 (fun _ => 0) ∧ Below w.heap.size w wr) (fun i _ => 16 - (intOf i).toNat)
  case atStart => exact ⟨0, Nat.zero_le _, rfl, hT5.ext (fun _ _ => rfl), hL5, hR5, hB5⟩
  case round =>
    clear hT5 hL5 hR5 hB5
    obtain ⟨k, hk, rfl, hT, hL, hR, hB⟩ := hrel
    by_cases hlt : k < 16
    · have i1 : (k : Int) < 16 := by omega
      obtain ⟨a, ha⟩ : ∃ a : Nat, k + q = a := ⟨_, rfl⟩
      have a1 : (k : Int) + (q : Int) = (a : Int) := by omega
      have a2 : (a : Int) < 25 := by omega
      have a3 : (a : Int) + 1 < 25 := by omega
      obtain ⟨c0, _⟩ := hL a (by omega)
      obtain ⟨c1, _⟩ := hL (a + 1) (by omega)
      obtain ⟨c2, f2⟩ := hT k hlt
      have x0 := HC.out a
      have x1 := HC.out (a + 1)
      obtain ⟨t, ht⟩ : ∃ t : Nat, 8 - s = t := ⟨_, rfl⟩
      have t1 : (8 : Int) - (s : Int) = (t : Int) := by omega
      have t2 : t ≤ 8 := by omega
      have hsh := shB_at (cut 24 f) m q s k HQS.out.1 HQS.out.2 HC.out
      rw [ha, ht] at hsh
      have e1 := shl_fact s (cut 24 f a) hs8 x0
      have e2 := shr_fact t (cut 24 f (a + 1))
      have l1 : cut 24 f a * 2 ^ s % 256 < 256 := Nat.mod_lt _ (by decide)
      have l2 : cut 24 f (a + 1) / 2 ^ t < 256 := Nat.lt_of_le_of_lt (Nat.div_le_self _ _) x1
      have hor := or_u8 _ _ l1 l2
      rw [hsh] at hor
      have e3 : ((cut 24 f a : Nat) : Int) * 2 ^ s % 256 = ((cut 24 f a * 2 ^ s % 256 : Nat) : Int) := by simp
      have hT2 := Lib.hid ((hT.set (j := k) (v := shB (cut 24 f) m k) hlt rfl).ext (fun j _ => low_step (shB (cut 24 f) m) k j))
      have hL2 := Lib.hid (hL.far (p := ⟨gT, k, none⟩) (by simp; omega) (.int .u8 (shB (cut 24 f) m k : Nat)))
      have hR2 := Lib.hid (hR.far (p := ⟨gT, k, none⟩) (by simp; omega) (.int .u8 (shB (cut 24 f) m k : Nat)))
      have hB2 := Lib.hid (hB.setCell (p := ⟨gT, k, none⟩) (by simp; omega) (.int .u8 (shB (cut 24 f) m k : Nat)))
      clear hT hL hR hB hsh ha ht
      generalize shB (cut 24 f) m k = z at *
      generalize cut 24 f a * 2 ^ s % 256 = u at *
      generalize cut 24 f (a + 1) / 2 ^ t = v at *
      generalize cut 24 f (a + 1) = y at *
      generalize cut 24 f a = x at *
      go_wp2_with fail
      refine wp_region_noPanic ?_
      go_big_region
      refine NoPanic.normal ?_
      clear a1 a2 a3 c0 c1 c2 f2 t1 e1 e2 e3 hor
      go_wp2_with fail
      go_roundw
      case rel => exact ⟨k + 1, by omega, by go_num, hT2.out.drew, hL2.out.drew, hR2.out.drew, hB2.out.drew⟩
      case measure => simp [intOf]; omega
    · obtain rfl : k = 16 := by omega
      have hT2 := hT.ext (f' := shB (cut 24 f) m) (fun j hj => by rw [if_pos hj])
      clear hT
      go_wp2_with (first
        | (refine wpList_load_ar rfl _ _ rfl _ _ _ rfl hT2 Tryd.arr16x (size16x _) ?_)
        | (refine wpList_store_ar rfl _ _ _ rfl _ _ _ (shB (cut 24 f) m) rfl rfl hR (size16x _) ?_; intro w8 hA8 hb8 _ _))
      refine bodyPost_ret_ar rfl rfl hA8 Tryd.arr16x (size16x _) rfl ⟨rfl, ?_⟩
      exact hB.trans (hb8.mono (by omega))
end Go.Proofs.YtblhfmlgpldaeaaDoor
