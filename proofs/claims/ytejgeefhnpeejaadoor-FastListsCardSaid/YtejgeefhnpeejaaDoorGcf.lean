/-
  Contracts of package cipher, by walks through their texts, one after the other; what was there stays as it was.
-/
import Derived.Test.YtejgeefhnpeejaaDoorGcr
import Derived.Test.YtejgeefhnpeejaaDoorGsb
import Derived.Test.YtejgeefhnpeejaaDoorGfi
import Derived.Deep.RegionHeld3
import Derived.BigRegion
import Derived.Shelf.Abstract
import Derived.Test.YtejgeefhnpeejaaDoorGke
import Derived.Test.YtejgeefhnpeejaaDoorFre
namespace Go.Proofs.YtejgeefhnpeejaaDoor

/-! Contract of cipher.fill, whatever the function handed to it: its results, one after the other, by a walk through its text; what was there stays as it was. -/
section
open Go.RowKit
set_option linter.unusedVariables false
set_option maxRecDepth 100000

set_option maxHeartbeats 800000 in
theorem cfill (F : Nat) (cap : Array Value) (G : Nat → Nat) (w : World) (hF : ∀ args V, (callFunc F args).run Tryd.prog V = .ok (.enter F args) V)
    (hc : ∀ n, n < 16 → ∀ V, Below w.heap.size w V → Calls Tryd.prog F (#[.int .i64 (n : Int)] ++ cap) V fun e V' => e = .returned (.int .u8 (G n : Nat)) ∧ Below V.heap.size V V') :
    Calls Tryd.prog 54 #[.func (.func F) #[] cap] w fun e w' => e = .returned (.agg (arL 16 G).toArray) ∧ Below w.heap.size w w' := by
  have hz := zero16b
  obtain ⟨w2, hw2⟩ : ∃ w2 : World, w2 = w.alloc (.cells (arL 16 fun _ => 0).toArray 22) := ⟨_, rfl⟩
  have hs2 : w2.heap.size = w.heap.size + 1 := by rw [hw2]; simp
  have hb2 : Below w.heap.size w w2 := by rw [hw2]; exact (Below.refl _ _).alloc (by omega) _
  have hR2 : Ar w2 w.heap.size 16 (fun _ => 0) := by rw [hw2]; exact Ar.new w 16 _ _
  obtain ⟨w3, hw3⟩ : ∃ w3 : World, w3 = w2.alloc (.cells (arL 16 fun _ => 0).toArray 22) := ⟨_, rfl⟩
  have hb3 : Below w.heap.size w w3 := by rw [hw3]; exact hb2.alloc (by omega) _
  have hT3 : Ar w3 (w.heap.size + 1) 16 (fun _ => 0) := by rw [hw3, ← hs2]; exact Ar.new w2 16 _ _
  have hR3 : Ar w3 w.heap.size 16 (fun _ => 0) := by rw [hw3]; exact hR2.alloc (by omega) _
  clear hb2 hR2
  go_enter Tryd.func54, Tryd.ntmps54
  go_upto_region 2 with fail
  rw [← hw2, ← hw3]
  clear hw2 hw3 hs2
  have HC := Lib.hid hc
  clear hc
  go_wp2_with fail
  go_loopw [5] (fun i wr => ∃ n : Nat, n ≤ 16 ∧ i = .int .i64 n ∧ Ar wr w.heap.size 16 (fun _ => 0) ∧ Ar wr (w.heap.size + 1) 16 (fun m => if m < n then G m else 0) ∧ Below w.heap.size w wr) (fun i _ => 16 - (intOf i).toNat)
  case atStart => exact ⟨0, Nat.zero_le _, rfl, hR3, hT3.ext (fun _ _ => rfl), hb3⟩
  case round =>
    clear hR3 hT3 hb3
    obtain ⟨n, hn, rfl, hR, hT, hB⟩ := hrel
    by_cases hlt : n < 16
    · have i1 : (n : Int) < 16 := by omega
      have hcall : ∀ V, (callFunc F (#[.int .i64 (n : Int)] ++ cap)).run Tryd.prog V = .ok (.enter F (#[.int .i64 (n : Int)] ++ cap)) V := fun V => hF _ V
      go_wp2_with fail
      refine (HC.out n hlt _ hB).mono ?_
      rintro e w6 ⟨rfl, hb6⟩
      have hB6 := hB.trans (hb6.mono hB.size)
      have hR6 := hR.to (by omega) hb6
      have hT6 := hT.to (by omega) hb6
      obtain ⟨c1, f1⟩ := hT6 n hlt
      have hT9 := (hT6.set (j := n) (v := G n) (by omega) rfl).ext (f' := fun m => if m < n + 1 then G m else 0) (fun m hm => low_step G n m)
      have hR9 := hR6.far (p := ⟨w.heap.size + 1, n, none⟩) (by simp) (.int .u8 (G n : Nat))
      have hB9 := hB6.setCell (p := ⟨w.heap.size + 1, n, none⟩) (by simp) (.int .u8 (G n : Nat))
      clear hT hR hB hb6 hR6 hT6 hB6
      go_wp2_with fail
      go_roundw
      case rel => exact ⟨n + 1, by omega, by go_num, hR9, hT9, hB9⟩
      case measure => simp [intOf]; omega
    · obtain rfl : n = 16 := by omega
      have hT2 := hT.ext (f' := G) (fun j hj => by rw [if_pos (by omega)])
      clear hT
      go_wp2_with (first
        | (refine wpList_load_ar rfl _ _ rfl _ _ _ rfl hT2 Tryd.arr16b (size16b _) ?_)
        | (refine wpList_store_ar rfl _ _ _ rfl _ _ _ G rfl rfl hR (size16b _) ?_; intro w8 hA8 hb8 _ _))
      refine bodyPost_ret_ar rfl rfl hA8 Tryd.arr16b (size16b _) rfl ⟨rfl, ?_⟩
      exact hB.trans (hb8.mono (by omega))
end

/-! Contracts of the steps Sub, Unsub, Shift and Unshift of package cipher, and of the functions in them, by walks through their texts; what was there stays as it was. -/
section
open Go.RowKit
set_option linter.unusedVariables false
set_option maxRecDepth 100000

theorem cunsub1 (n : Nat) (f : Nat → Nat) (g : Nat) (w : World) (hn : n < 16) (hf : f n < 256) (hA : Ar w g 16 f) (h : Boxes w) :
    Calls Tryd.prog 55 #[.int .i64 (n : Int), .pointer (some ⟨g, 0, none⟩)] w fun e w' => e = .returned (.int .u8 (usF f n : Nat)) ∧ Below w.heap.size w w' := by
  obtain ⟨c, _⟩ := hA n hn
  have i1 : (n : Int) < 16 := by omega
  have hs := sback (f n) w hf h
  rw [show usF f n = bk (f n) from rfl]
  generalize f n = x at *
  go_enter Tryd.func55, Tryd.ntmps55
  go_wp2_with fail
  refine hs.mono ?_
  rintro e w6 ⟨rfl, rfl⟩
  go_wp2_with fail
  go_ret
  exact ⟨rfl, Below.refl _ _⟩
theorem cunshift1 (n : Nat) (f : Nat → Nat) (g : Nat) (w : World) (hn : n < 16) (hA : Ar w g 16 f) :
    Calls Tryd.prog 57 #[.int .i64 (n : Int), .pointer (some ⟨g, 0, none⟩)] w fun e w' => e = .returned (.int .u8 (uhF f n : Nat)) ∧ Below w.heap.size w w' := by
  obtain ⟨a, ha⟩ : ∃ a : Nat, a = n % 4 := ⟨_, rfl⟩
  obtain ⟨b, hb⟩ : ∃ b : Nat, b = (n + 12 * (n % 4)) % 16 := ⟨_, rfl⟩
  have a1 : ((n : Int)).tmod 4 = (a : Int) := by rw [Int.tmod_eq_emod_of_nonneg (by omega)]; omega
  have a2 : (n : Int) % 4 = (a : Int) := by omega
  have b1 : ((n : Int) + 12 * (a : Int)).tmod 16 = (b : Int) := by rw [Int.tmod_eq_emod_of_nonneg (by omega)]; omega
  have b2 : ((n : Int) + 12 * (a : Int)) % 16 = (b : Int) := by omega
  have i1 : (b : Int) < 16 := by omega
  have i2 : (a : Int) < 4 := by omega
  have i3 : (n : Int) < 16 := by omega
  obtain ⟨c, _⟩ := hA b (by omega)
  rw [show uhF f n = f b by rw [uhF, hb]; congr 1; omega]
  clear ha hb
  go_enter Tryd.func57, Tryd.ntmps57
  go_wp2_with fail
  go_ret
  exact ⟨rfl, Below.refl _ _⟩
end

/-! Contract of the function in Add of package cipher, by a walk through its text; what was there stays as it was. -/
section
open Go.RowKit
set_option linter.unusedVariables false
set_option maxRecDepth 10000

theorem held2 {a b : Addr} {x y : Value} {W1 W W' : World} (k : W.cell? a = some x ∧ W.cell? b = some y ∧ Base W1 W) (ha : a.block < W.heap.size) (hb : b.block < W.heap.size) (hl : Below W.heap.size W W') :
    W'.cell? a = some x ∧ W'.cell? b = some y ∧ Base W1 W' := ⟨(hl.cell ha).trans k.1, (hl.cell hb).trans k.2.1, Base.step k.2.2 hl⟩

set_option maxHeartbeats 1600000 in
theorem cadd1 (n : Nat) (f k : Nat → Nat) (g g2 : Nat) (w : World) (hn : n < 16) (hf : f n < 256) (hk : k n < 256) (hA : Ar w g 16 f) (hB : Ar w g2 16 k) :
    Calls Tryd.prog 58 #[.int .i64 (n : Int), .pointer (some ⟨g, 0, none⟩), .pointer (some ⟨g2, 0, none⟩)] w fun e w' => e = .returned (.int .u8 (adF f k n : Nat)) ∧ Below w.heap.size w w' := by
  obtain ⟨c, _⟩ := hA n hn
  obtain ⟨d, _⟩ := hB n hn
  have i1 : (n : Int) < 16 := by omega
  rw [show adF f k n = f n ^^^ k n from rfl]
  clear hA hB
  generalize f n = x at *
  generalize k n = y at *
  have hgl : g < w.heap.size := blk_lt c
  have hgl2 : g2 < w.heap.size := blk_lt d
  go_enter Tryd.func58, Tryd.ntmps58
  go_wp2_with fail
  go_region_held3 (fun W => W.cell? ⟨g, n, none⟩ = some (.int .u8 (x : Nat)) ∧ W.cell? ⟨g2, n, none⟩ = some (.int .u8 (y : Nat)) ∧ Base w W)
    (first | assumption | (exact held2 (by assumption) (blk_lt (And.left (by assumption))) (blk_lt (And.left (And.right (by assumption)))) ((Below.refl _ _).alloc (Nat.le_refl _) _)) | (exact ⟨c, d, (Base.refl _).drew⟩))
    (first
    | (go_at_call 59
       refine (fsum _ 2 2 _ _ (Sl.drew (sl_two (w := w) rfl hf hk)) (by omega)).mono ?_
       rintro e w6 ⟨rfl, rfl⟩)
    | fail)
  have hH : Base w _ := (And.right (And.right (by assumption)))
  go_wp2_with fail
  go_ret
  exact ⟨fret_of (by rw [sum_two _ _ hf hk]), hH⟩
end

/-! Contract of the function in blend of package cipher, by a walk through its text; what was there stays as it was. -/
section
open Go.RowKit
set_option linter.unusedVariables false
set_option maxRecDepth 100000

/-- What the walk asks of the top of a column, and of the places below a byte. -/
theorem colt (n t q : Nat) (hn : n < 16) (hq : q = n % 4) (ht : t = n / 4 * 4) :
    (((n : Int)).tmod 4 = (q : Int) ∧ (n : Int) % 4 = (q : Int)) ∧ (wrap64 ((n : Int) - (q : Int)) = (t : Int) ∧ IntKind.i64.wrap ((n : Int) - (q : Int)) = (t : Int)) ∧ (n : Int) - (q : Int) = (t : Int) := by
  refine ⟨⟨?_, by omega⟩, ⟨?_, ?_⟩, by omega⟩
  · rw [Int.tmod_eq_emod_of_nonneg (by omega)]; omega
  · rw [IntWalk.wrap64_in _ (by omega)]; omega
  · rw [wraps_i64' _ (by omega) (by omega)]; omega
theorem colf (n t kn : Nat) (k : Int) (q : Nat) (hk : k = (kn : Int)) (hn : n < 16) (hkn : kn < 4) (ht : t = n / 4 * 4) (hq : q = (n + kn) % 4) :
    (IntKind.i64.wrap ((n : Int) + k) = (n : Int) + k ∧ wrap64 ((n : Int) + k) = (n : Int) + k) ∧ (((n : Int) + k).tmod 4 = (q : Int) ∧ ((n : Int) + k) % 4 = (q : Int)) ∧
    (IntKind.i64.wrap ((t : Int) + (q : Int)) = (t : Int) + (q : Int) ∧ wrap64 ((t : Int) + (q : Int)) = (t : Int) + (q : Int)) ∧ (t : Int) + (q : Int) < 16 := by
  subst hk
  refine ⟨⟨wraps_i64' _ (by omega) (by omega), IntWalk.wrap64_in _ (by omega)⟩, ⟨?_, by omega⟩, ⟨wraps_i64' _ (by omega) (by omega), IntWalk.wrap64_in _ (by omega)⟩, by omega⟩
  rw [Int.tmod_eq_emod_of_nonneg (by omega)]; omega

set_option maxHeartbeats 1600000 in
theorem cblend1 (a b c d n : Nat) (f : Nat → Nat) (g g2 : Nat) (w : World) (hn : n < 16) (ha : a < 256) (hb : b < 256) (hc : c < 256) (hd : d < 256) (hf : B16 f) (hA : Ar w g 16 f) (hC : C4 g2 a b c d w) :
    Calls Tryd.prog 67 #[.int .i64 (n : Int), .pointer (some ⟨g, 0, none⟩), .pointer (some ⟨g2, 0, none⟩)] w fun e w' => e = .returned (.int .u8 (mxF a b c d f n : Nat)) ∧ Below w.heap.size w w' := by
  obtain ⟨q, hq⟩ : ∃ q : Nat, q = n % 4 := ⟨_, rfl⟩
  obtain ⟨t, ht⟩ : ∃ t : Nat, t = n / 4 * 4 := ⟨_, rfl⟩
  obtain ⟨q1, hq1⟩ : ∃ q : Nat, q = (n + 1) % 4 := ⟨_, rfl⟩
  obtain ⟨q2, hq2⟩ : ∃ q : Nat, q = (n + 2) % 4 := ⟨_, rfl⟩
  obtain ⟨q3, hq3⟩ : ∃ q : Nat, q = (n + 3) % 4 := ⟨_, rfl⟩
  obtain ⟨c0, _⟩ := hA n hn
  obtain ⟨c1, _⟩ := hA (t + q1) (by omega)
  obtain ⟨c2, _⟩ := hA (t + q2) (by omega)
  obtain ⟨c3, _⟩ := hA (t + q3) (by omega)
  have l0 := hf n hn
  have l1 := hf (t + q1) (by omega)
  have l2 := hf (t + q2) (by omega)
  have l3 := hf (t + q3) (by omega)
  rw [show mxF a b c d f n = ((mul a (f n) ^^^ mul b (f (t + q1))) ^^^ mul c (f (t + q2))) ^^^ mul d (f (t + q3)) by rw [mxF, hq1, hq2, hq3, ht]]
  have i0 : (n : Int) < 16 := by omega
  have g1 : g < w.heap.size := blk_lt c0
  have g3 : g2 < w.heap.size := blk_lt hC.1
  obtain ⟨⟨A1, A2⟩, ⟨A3, A4⟩, A5⟩ := colt n t q hn hq ht
  have Hb := Lib.hid (colf n t 1 1 q1 rfl hn (by decide) ht hq1)
  have Hd := Lib.hid (colf n t 2 2 q2 rfl hn (by decide) ht hq2)
  have He := Lib.hid (colf n t 3 3 q3 rfl hn (by decide) ht hq3)
  obtain ⟨k0, k1, k2, k3⟩ := hC
  clear hA hf ht hq hq1 hq2 hq3
  generalize f n = x0 at *
  generalize f (t + q1) = x1 at *
  generalize f (t + q2) = x2 at *
  generalize f (t + q3) = x3 at *
  go_enter Tryd.func67, Tryd.ntmps67
  go_upto_region 2 with fail
  clear A1 A2 A3 A4 A5
  have b4 := Hb.out.2.1.2
  have b7 := Hb.out.2.2.2
  have d4 := Hd.out.2.1.2
  have d7 := Hd.out.2.2.2
  have e4 := He.out.2.1.2
  have e7 := He.out.2.2.2
  clear Hb Hd He
  refine wp_region_noPanic ?_
  go_big_region
  refine NoPanic.normal ?_
  clear b4 b7 d4 d7 e4 e7
  obtain ⟨w5, hw5⟩ : ∃ w5 : World, w5 = w.alloc (Obj.cells #[Value.int IntKind.u8 (x0 : Int), Value.int IntKind.u8 (x1 : Int), Value.int IntKind.u8 (x2 : Int), Value.int IntKind.u8 (x3 : Int)] 55) := ⟨_, rfl⟩
  have hb5 : Below w.heap.size w w5 := by rw [hw5]; exact (Below.refl _ _).alloc (Nat.le_refl _) _
  have m0 := (hb5.drew).cell (p := ⟨g2, 0, none⟩) g3 |>.trans k0
  have m1 := (hb5.drew).cell (p := ⟨g2, 1, none⟩) g3 |>.trans k1
  have m2 := (hb5.drew).cell (p := ⟨g2, 2, none⟩) g3 |>.trans k2
  have m3 := (hb5.drew).cell (p := ⟨g2, 3, none⟩) g3 |>.trans k3
  obtain ⟨p0, p1, p2, p3⟩ : C4 w.heap.size x0 x1 x2 x3 w5.drew := by rw [hw5]; exact ⟨by simp, by simp, by simp, by simp⟩
  rw [← hw5]
  have hb6 := hb5.drew
  generalize w5.drew = w6 at *
  clear hw5 hb5 k0 k1 k2 k3 c0 c1 c2 c3
  go_wp2_with fail
  refine (fdot a b c d x0 x1 x2 x3 _ ha hb hc hd l0 l1 l2 l3).mono ?_
  rintro e w7 ⟨rfl, hb7⟩
  go_wp2_with fail
  go_ret
  exact ⟨rfl, hb6.trans (hb7.mono hb6.size)⟩
end

/-! Contracts of the steps of package cipher, by walks through their texts, over the contract of cipher.fill; what was there stays as it was. -/
section
open Go.RowKit
set_option linter.unusedVariables false
set_option maxRecDepth 100000

set_option maxHeartbeats 800000 in
theorem cunsub (f : Nat → Nat) (w : World) (hf : B16 f) (h : Boxes w) :
    Calls Tryd.prog 39 #[.agg (arL 16 f).toArray] w fun e w' => e = .returned (.agg (arL 16 (usF f)).toArray) ∧ Below w.heap.size w w' := by
  have hz := zero16b
  obtain ⟨kA, hkA⟩ : ∃ kA : Array Value, (arL 16 f).toArray = kA := ⟨_, rfl⟩
  obtain ⟨w1, hw1⟩ : ∃ w1 : World, w1 = w.alloc (.cells (arL 16 f).toArray 22) := ⟨_, rfl⟩
  have hs1 : w1.heap.size = w.heap.size + 1 := by rw [hw1]; simp
  have hb1 : Below w.heap.size w w1 := by rw [hw1]; exact (Below.refl _ _).alloc (Nat.le_refl _) _
  have hK1 : Ar w1 w.heap.size 16 f := by rw [hw1]; exact Ar.new w 16 f _
  obtain ⟨w2, hw2⟩ : ∃ w2 : World, w2 = w1.alloc (.cells (arL 16 fun _ => 0).toArray 22) := ⟨_, rfl⟩
  have hs2 : w2.heap.size = w.heap.size + 2 := by rw [hw2]; simp [hs1]
  have hb2 : Below w.heap.size w w2 := by rw [hw2]; exact hb1.alloc (by omega) _
  have hR2 : Ar w2 (w.heap.size + 1) 16 (fun _ => 0) := by rw [hw2, ← hs1]; exact Ar.new w1 16 _ _
  have hK2 : Ar w2 w.heap.size 16 f := by rw [hw2]; exact hK1.alloc (by omega) _
  have hX2 := h.keep hb2
  rw [hkA] at hw1
  rw [hkA]
  clear hb1 hK1 hkA
  go_enter Tryd.func39, Tryd.ntmps39
  go_upto_region 1 with fail
  rw [← hw1, ← hw2]
  clear hw1 hw2 hs1
  have HC := Lib.hid (show ∀ n, n < 16 → ∀ V, Below w2.heap.size w2 V → Calls Tryd.prog 55 (#[.int .i64 (n : Int)] ++ #[.pointer (some ⟨w.heap.size, 0, none⟩)]) V fun e V' => e = .returned (.int .u8 (usF f n : Nat)) ∧ Below V.heap.size V V' from
    fun n hn V hV => cunsub1 n f _ V hn (hf n hn) (hK2.to (by omega) hV) (hX2.keep hV))
  go_wp2_with fail
  refine (cfill 55 _ (usF f) _ (enters_of Tryd.func55 (by kernel_rfl) rfl) HC.out).mono ?_
  rintro e w3 ⟨rfl, hb3⟩
  have hR3 := hR2.to (by omega) hb3
  have hB3 := hb2.trans (hb3.mono hb2.size)
  clear HC hR2 hK2 hb2 hb3
  go_wp2_with (refine wpList_store_ar rfl _ _ _ rfl _ _ _ (usF f) rfl rfl hR3 (size16b _) ?_; intro w8 hA8 hb8 _ _)
  refine bodyPost_ret_ar rfl rfl hA8 Tryd.arr16b (size16b _) rfl ⟨rfl, ?_⟩
  exact hB3.trans (hb8.mono (by omega))

set_option maxHeartbeats 800000 in
theorem cunshift (f : Nat → Nat) (w : World) :
    Calls Tryd.prog 40 #[.agg (arL 16 f).toArray] w fun e w' => e = .returned (.agg (arL 16 (uhF f)).toArray) ∧ Below w.heap.size w w' := by
  have hz := zero16b
  obtain ⟨kA, hkA⟩ : ∃ kA : Array Value, (arL 16 f).toArray = kA := ⟨_, rfl⟩
  obtain ⟨w1, hw1⟩ : ∃ w1 : World, w1 = w.alloc (.cells (arL 16 f).toArray 22) := ⟨_, rfl⟩
  have hs1 : w1.heap.size = w.heap.size + 1 := by rw [hw1]; simp
  have hb1 : Below w.heap.size w w1 := by rw [hw1]; exact (Below.refl _ _).alloc (Nat.le_refl _) _
  have hK1 : Ar w1 w.heap.size 16 f := by rw [hw1]; exact Ar.new w 16 f _
  obtain ⟨w2, hw2⟩ : ∃ w2 : World, w2 = w1.alloc (.cells (arL 16 fun _ => 0).toArray 22) := ⟨_, rfl⟩
  have hs2 : w2.heap.size = w.heap.size + 2 := by rw [hw2]; simp [hs1]
  have hb2 : Below w.heap.size w w2 := by rw [hw2]; exact hb1.alloc (by omega) _
  have hR2 : Ar w2 (w.heap.size + 1) 16 (fun _ => 0) := by rw [hw2, ← hs1]; exact Ar.new w1 16 _ _
  have hK2 : Ar w2 w.heap.size 16 f := by rw [hw2]; exact hK1.alloc (by omega) _
  rw [hkA] at hw1
  rw [hkA]
  clear hb1 hK1 hkA
  go_enter Tryd.func40, Tryd.ntmps40
  go_upto_region 1 with fail
  rw [← hw1, ← hw2]
  clear hw1 hw2 hs1
  have HC := Lib.hid (show ∀ n, n < 16 → ∀ V, Below w2.heap.size w2 V → Calls Tryd.prog 57 (#[.int .i64 (n : Int)] ++ #[.pointer (some ⟨w.heap.size, 0, none⟩)]) V fun e V' => e = .returned (.int .u8 (uhF f n : Nat)) ∧ Below V.heap.size V V' from
    fun n hn V hV => cunshift1 n f _ V hn (hK2.to (by omega) hV))
  go_wp2_with fail
  refine (cfill 57 _ (uhF f) _ (enters_of Tryd.func57 (by kernel_rfl) rfl) HC.out).mono ?_
  rintro e w3 ⟨rfl, hb3⟩
  have hR3 := hR2.to (by omega) hb3
  have hB3 := hb2.trans (hb3.mono hb2.size)
  clear HC hR2 hK2 hb2 hb3
  go_wp2_with (refine wpList_store_ar rfl _ _ _ rfl _ _ _ (uhF f) rfl rfl hR3 (size16b _) ?_; intro w8 hA8 hb8 _ _)
  refine bodyPost_ret_ar rfl rfl hA8 Tryd.arr16b (size16b _) rfl ⟨rfl, ?_⟩
  exact hB3.trans (hb8.mono (by omega))

set_option maxHeartbeats 800000 in
theorem cadd  (f : Nat → Nat) (k : Nat → Nat) (w : World) (hf : B16 f) (hk : B16 k) :
    Calls Tryd.prog 41 #[.agg (arL 16 f).toArray, .agg (arL 16 k).toArray] w fun e w' => e = .returned (.agg (arL 16 (adF f k)).toArray) ∧ Below w.heap.size w w' := by
  have hz := zero16b
  obtain ⟨kA, hkA⟩ : ∃ kA : Array Value, (arL 16 f).toArray = kA := ⟨_, rfl⟩
  obtain ⟨w1, hw1⟩ : ∃ w1 : World, w1 = w.alloc (.cells (arL 16 f).toArray 22) := ⟨_, rfl⟩
  have hs1 : w1.heap.size = w.heap.size + 1 := by rw [hw1]; simp
  have hb1 : Below w.heap.size w w1 := by rw [hw1]; exact (Below.refl _ _).alloc (Nat.le_refl _) _
  have hK1 : Ar w1 w.heap.size 16 f := by rw [hw1]; exact Ar.new w 16 f _
  obtain ⟨kB, hkB⟩ : ∃ kB : Array Value, (arL 16 k).toArray = kB := ⟨_, rfl⟩
  obtain ⟨w2, hw2⟩ : ∃ w2 : World, w2 = w1.alloc (.cells (arL 16 k).toArray 22) := ⟨_, rfl⟩
  have hs2 : w2.heap.size = w.heap.size + 2 := by rw [hw2]; simp [hs1]
  have hb2 : Below w.heap.size w w2 := by rw [hw2]; exact hb1.alloc (by omega) _
  have hL2 : Ar w2 (w.heap.size + 1) 16 k := by rw [hw2, ← hs1]; exact Ar.new w1 16 k _
  have hK2 : Ar w2 w.heap.size 16 f := by rw [hw2]; exact hK1.alloc (by omega) _
  obtain ⟨w3, hw3⟩ : ∃ w3 : World, w3 = w2.alloc (.cells (arL 16 fun _ => 0).toArray 22) := ⟨_, rfl⟩
  have hb3 : Below w.heap.size w w3 := by rw [hw3]; exact hb2.alloc (by omega) _
  have hR3 : Ar w3 (w.heap.size + 2) 16 (fun _ => 0) := by rw [hw3, ← hs2]; exact Ar.new w2 16 _ _
  have hK3 : Ar w3 w.heap.size 16 f := by rw [hw3]; exact hK2.alloc (by omega) _
  have hL3 : Ar w3 (w.heap.size + 1) 16 k := by rw [hw3]; exact hL2.alloc (by omega) _
  rw [hkA] at hw1
  rw [hkA]
  rw [hkB] at hw2
  rw [hkB]
  clear hkB hL2
  clear hb1 hK1 hkA hb2 hK2
  go_enter Tryd.func41, Tryd.ntmps41
  go_upto_region 1 with fail
  rw [← hw1, ← hw2, ← hw3]
  clear hw1 hw2 hw3 hs1 hs2
  have HC := Lib.hid (show ∀ n, n < 16 → ∀ V, Below w3.heap.size w3 V → Calls Tryd.prog 58 (#[.int .i64 (n : Int)] ++ #[.pointer (some ⟨w.heap.size, 0, none⟩), .pointer (some ⟨w.heap.size + 1, 0, none⟩)]) V fun e V' => e = .returned (.int .u8 (adF f k n : Nat)) ∧ Below V.heap.size V V' from
    fun n hn V hV => cadd1 n f k _ _ V hn (hf n hn) (hk n hn) (hK3.to (by omega) hV) (hL3.to (by omega) hV))
  go_wp2_with fail
  refine (cfill 58 _ (adF f k) _ (enters_of Tryd.func58 (by kernel_rfl) rfl) HC.out).mono ?_
  rintro e w4 ⟨rfl, hb4⟩
  have hR4 := hR3.to (by omega) hb4
  have hB4 := hb3.trans (hb4.mono hb3.size)
  clear HC hR3 hK3 hb3 hb4
  go_wp2_with (refine wpList_store_ar rfl _ _ _ rfl _ _ _ (adF f k) rfl rfl hR4 (size16b _) ?_; intro w8 hA8 hb8 _ _)
  refine bodyPost_ret_ar rfl rfl hA8 Tryd.arr16b (size16b _) rfl ⟨rfl, ?_⟩
  exact hB4.trans (hb8.mono (by omega))

set_option maxHeartbeats 800000 in
theorem cblend (a b c d : Nat) (f : Nat → Nat) (w : World) (ha : a < 256) (hb : b < 256) (hc : c < 256) (hd : d < 256) (hf : B16 f) :
    Calls Tryd.prog 60 #[.agg (arL 16 f).toArray, .agg #[.int .u8 (a : Int), .int .u8 (b : Int), .int .u8 (c : Int), .int .u8 (d : Int)]] w fun e w' => e = .returned (.agg (arL 16 (mxF a b c d f)).toArray) ∧ Below w.heap.size w w' := by
  have hz := zero16b
  obtain ⟨kA, hkA⟩ : ∃ kA : Array Value, (arL 16 f).toArray = kA := ⟨_, rfl⟩
  obtain ⟨w1, hw1⟩ : ∃ w1 : World, w1 = w.alloc (.cells (arL 16 f).toArray 22) := ⟨_, rfl⟩
  have hs1 : w1.heap.size = w.heap.size + 1 := by rw [hw1]; simp
  have hb1 : Below w.heap.size w w1 := by rw [hw1]; exact (Below.refl _ _).alloc (Nat.le_refl _) _
  have hK1 : Ar w1 w.heap.size 16 f := by rw [hw1]; exact Ar.new w 16 f _
  obtain ⟨w2, hw2⟩ : ∃ w2 : World, w2 = w1.alloc (.cells #[.int .u8 (a : Int), .int .u8 (b : Int), .int .u8 (c : Int), .int .u8 (d : Int)] 55) := ⟨_, rfl⟩
  have hs2 : w2.heap.size = w.heap.size + 2 := by rw [hw2]; simp [hs1]
  have hb2 : Below w.heap.size w w2 := by rw [hw2]; exact hb1.alloc (by omega) _
  have hL2 : C4 (w.heap.size + 1) a b c d w2 := by rw [hw2, ← hs1]; exact ⟨by simp, by simp, by simp, by simp⟩
  have hK2 : Ar w2 w.heap.size 16 f := by rw [hw2]; exact hK1.alloc (by omega) _
  obtain ⟨w3, hw3⟩ : ∃ w3 : World, w3 = w2.alloc (.cells (arL 16 fun _ => 0).toArray 22) := ⟨_, rfl⟩
  have hb3 : Below w.heap.size w w3 := by rw [hw3]; exact hb2.alloc (by omega) _
  have hR3 : Ar w3 (w.heap.size + 2) 16 (fun _ => 0) := by rw [hw3, ← hs2]; exact Ar.new w2 16 _ _
  have hK3 : Ar w3 w.heap.size 16 f := by rw [hw3]; exact hK2.alloc (by omega) _
  have hL3 : C4 (w.heap.size + 1) a b c d w3 := by rw [hw3]; exact hL2.to (by omega) ((Below.refl _ _).alloc (Nat.le_refl _) _)
  have hg3 : w.heap.size + 1 < w3.heap.size := by rw [hw3]; simp [hs2]
  rw [hkA] at hw1
  rw [hkA]
  clear hL2
  clear hb1 hK1 hkA hb2 hK2
  go_enter Tryd.func60, Tryd.ntmps60
  go_upto_region 1 with fail
  rw [← hw1, ← hw2, ← hw3]
  clear hw1 hw2 hw3 hs1 hs2
  have HC := Lib.hid (show ∀ n, n < 16 → ∀ V, Below w3.heap.size w3 V → Calls Tryd.prog 67 (#[.int .i64 (n : Int)] ++ #[.pointer (some ⟨w.heap.size, 0, none⟩), .pointer (some ⟨w.heap.size + 1, 0, none⟩)]) V fun e V' => e = .returned (.int .u8 (mxF a b c d f n : Nat)) ∧ Below V.heap.size V V' from
    fun n hn V hV => cblend1 a b c d n f _ _ V hn ha hb hc hd hf (hK3.to (by omega) hV) (hL3.to hg3 hV))
  go_wp2_with fail
  refine (cfill 67 _ (mxF a b c d f) _ (enters_of Tryd.func67 (by kernel_rfl) rfl) HC.out).mono ?_
  rintro e w4 ⟨rfl, hb4⟩
  have hR4 := hR3.to (by omega) hb4
  have hB4 := hb3.trans (hb4.mono hb3.size)
  clear HC hR3 hK3 hb3 hb4
  go_wp2_with (refine wpList_store_ar rfl _ _ _ rfl _ _ _ (mxF a b c d f) rfl rfl hR4 (size16b _) ?_; intro w8 hA8 hb8 _ _)
  refine bodyPost_ret_ar rfl rfl hA8 Tryd.arr16b (size16b _) rfl ⟨rfl, ?_⟩
  exact hB4.trans (hb8.mono (by omega))

set_option maxHeartbeats 800000 in
theorem cunmix (f : Nat → Nat) (w : World) (hf : B16 f) :
    Calls Tryd.prog 42 #[.agg (arL 16 f).toArray] w fun e w' => e = .returned (.agg (arL 16 (umF f)).toArray) ∧ Below w.heap.size w w' := by
  have hz := zero16b
  obtain ⟨kA, hkA⟩ : ∃ kA : Array Value, (arL 16 f).toArray = kA := ⟨_, rfl⟩
  obtain ⟨w1, hw1⟩ : ∃ w1 : World, w1 = w.alloc (.cells (arL 16 f).toArray 22) := ⟨_, rfl⟩
  have hs1 : w1.heap.size = w.heap.size + 1 := by rw [hw1]; simp
  have hb1 : Below w.heap.size w w1 := by rw [hw1]; exact (Below.refl _ _).alloc (Nat.le_refl _) _
  have hK1 : Ar w1 w.heap.size 16 f := by rw [hw1]; exact Ar.new w 16 f _
  obtain ⟨w2, hw2⟩ : ∃ w2 : World, w2 = w1.alloc (.cells (arL 16 fun _ => 0).toArray 22) := ⟨_, rfl⟩
  have hb2 : Below w.heap.size w w2 := by rw [hw2]; exact hb1.alloc (by omega) _
  have hR2 : Ar w2 (w.heap.size + 1) 16 (fun _ => 0) := by rw [hw2, ← hs1]; exact Ar.new w1 16 _ _
  have hK2 : Ar w2 w.heap.size 16 f := by rw [hw2]; exact hK1.alloc (by omega) _
  rw [hkA] at hw1
  rw [hkA]
  clear hb1 hK1 hkA
  have HF := Lib.hid hf
  clear hf
  go_enter Tryd.func42, Tryd.ntmps42
  go_upto_region 1 with fail
  rw [← hw1, ← hw2]
  clear hw1 hw2 hs1
  go_wp2_with (refine wpList_load_ar rfl _ _ rfl _ _ _ rfl hK2 Tryd.arr16b (size16b _) ?_)
  refine (cblend 14 11 13 9 f _ (by decide) (by decide) (by decide) (by decide) HF.out).mono ?_
  rintro e w3 ⟨rfl, hb3⟩
  rw [show mxF 14 11 13 9 f = umF f from rfl]
  have hR3 := hR2.to (by omega) hb3
  have hB3 := hb2.trans (hb3.mono hb2.size)
  clear hR2 hK2 hb2 hb3
  go_wp2_with (refine wpList_store_ar rfl _ _ _ rfl _ _ _ (umF f) rfl rfl hR3 (size16b _) ?_; intro w8 hA8 hb8 _ _)
  refine bodyPost_ret_ar rfl rfl hA8 Tryd.arr16b (size16b _) rfl ⟨rfl, ?_⟩
  exact hB3.trans (hb8.mono (by omega))
end

/-! Contract of cipher.Encrypt, by a walk through its text, over the contracts of the steps; what was there stays as it was. -/
section
open Go.RowKit
set_option linter.unusedVariables false
set_option maxRecDepth 100000

end

/-! Contract of cipher.Decrypt, by a walk through its text, over the contracts of the steps; what was there stays as it was. -/
section
open Go.RowKit
set_option linter.unusedVariables false
set_option maxRecDepth 100000

set_option maxHeartbeats 4000000 in
theorem cdecrypt (f b : Nat → Nat) (w : World) (hf : B16 f) (hb : B16 b) (h : Boxes w) :
    Calls Tryd.prog 15 #[.agg (arL 16 f).toArray, .agg (arL 16 b).toArray] w fun e w' => e = .returned (.agg (arL 16 (deF f b)).toArray) ∧ Below w.heap.size w w' := by
  have hz := zero16b
  have hz176 := zero176e
  obtain ⟨kA, hkA⟩ : ∃ kA : Array Value, (arL 16 f).toArray = kA := ⟨_, rfl⟩
  obtain ⟨kB, hkB⟩ : ∃ kB : Array Value, (arL 16 b).toArray = kB := ⟨_, rfl⟩
  obtain ⟨w1, hw1⟩ : ∃ w1 : World, w1 = w.alloc (.cells (arL 16 f).toArray 22) := ⟨_, rfl⟩
  have hs1 : w1.heap.size = w.heap.size + 1 := by rw [hw1]; simp
  have hb1 : Below w.heap.size w w1 := by rw [hw1]; exact (Below.refl _ _).alloc (Nat.le_refl _) _
  have hK1 : Ar w1 w.heap.size 16 f := by rw [hw1]; exact Ar.new w 16 f _
  obtain ⟨w2, hw2⟩ : ∃ w2 : World, w2 = w1.alloc (.cells (arL 16 b).toArray 22) := ⟨_, rfl⟩
  have hs2 : w2.heap.size = w.heap.size + 2 := by rw [hw2]; simp [hs1]
  have hb2 : Below w.heap.size w w2 := by rw [hw2]; exact hb1.alloc (by omega) _
  have hC2 : Ar w2 (w.heap.size + 1) 16 b := by rw [hw2, ← hs1]; exact Ar.new w1 16 b _
  have hK2 : Ar w2 w.heap.size 16 f := by rw [hw2]; exact hK1.alloc (by omega) _
  obtain ⟨w3, hw3⟩ : ∃ w3 : World, w3 = w2.alloc (.cells (arL 16 fun _ => 0).toArray 22) := ⟨_, rfl⟩
  have hB3 : Below w.heap.size w w3 := by rw [hw3]; exact hb2.alloc (by omega) _
  have hR3 : Ar w3 (w.heap.size + 2) 16 (fun _ => 0) := by rw [hw3, ← hs2]; exact Ar.new w2 16 _ _
  have hC3 : Ar w3 (w.heap.size + 1) 16 b := by rw [hw3]; exact hC2.alloc (by omega) _
  have hK3 : Ar w3 w.heap.size 16 f := by rw [hw3]; exact hK2.alloc (by omega) _
  have HKA := Lib.hid hkA
  have HKB := Lib.hid hkB
  rw [hkA] at hw1
  rw [hkB] at hw2
  rw [hkA, hkB]
  clear hb1 hK1 hkA hkB hb2 hK2 hC2
  have HF := Lib.hid hf
  have HBB := Lib.hid hb
  have HX := Lib.hid h
  have hrow := Lib.hid (fun r => arL_ext (n := 16) (f := fun j => ek f (r * 16 + j)) (g := rk f r) (fun j hj => by rw [Nat.mul_comm r 16, ek_rk f r j hj]))
  have hrk := Lib.hid (fun r => rk_lt f hf r)
  clear hf hb h
  go_enter Tryd.func15, Tryd.ntmps15
  go_upto_region 1 with fail
  rw [← hw1, ← hw2, ← hw3]
  clear hw1 hw2 hw3 hs1 hs2
  obtain ⟨gC, hgC⟩ : ∃ gC : Nat, w.heap.size + 1 = gC := ⟨_, rfl⟩
  obtain ⟨gR, hgR⟩ : ∃ gR : Nat, w.heap.size + 2 = gR := ⟨_, rfl⟩
  have hlC : w.heap.size < gC := by omega
  have hlR : gC < gR := by omega
  have hgR2 : w.heap.size + 1 + 1 = gR := hgR
  rw [hgC] at hC3
  rw [hgR] at hR3
  try rw [hgR2]
  try rw [hgR]
  try rw [hgC]
  clear hgC hgR hgR2
  go_wp2_with (refine wpList_load_ar rfl _ _ rfl _ _ _ rfl hK3 Tryd.arr16b (size16b _) ?_)
  refine (kexpand f HF.out _ (HX.out.keep hB3)).mono ?_
  rintro e w4 ⟨rfl, hq⟩
  have hC4 := hC3.to (by omega) hq
  have hR4 := hR3.to (by omega) hq
  have hB4 := hB3.trans (hq.mono hB3.size)
  clear hC3 hR3 hK3 hB3 hq
  obtain ⟨gE, hgE⟩ : ∃ gE : Nat, w4.heap.size = gE := ⟨_, rfl⟩
  have hlE : gR < gE := by rw [← hgE]; exact hR4.lt (by omega)
  obtain ⟨w5, hw5⟩ : ∃ w5 : World, w5 = w4.alloc (.cells (arL 176 fun _ => 0).toArray 29) := ⟨_, rfl⟩
  have hC5 : Ar w5 gC 16 b := by rw [hw5]; exact hC4.alloc (by omega) _
  have hR5 : Ar w5 gR 16 (fun _ => 0) := by rw [hw5]; exact hR4.alloc (by omega) _
  have hE5 : Ar w5 gE 176 (fun _ => 0) := by rw [hw5, ← hgE]; exact Ar.new w4 176 _ _
  have hB5 : Below w.heap.size w w5 := by rw [hw5]; exact hB4.alloc hB4.size _
  clear hC4 hR4 hB4
  go_upto_region 2 with (first
    | (refine wpList_store_ar rfl _ _ _ rfl _ _ _ (ek f) rfl rfl (by rw [← hw5]; exact hE5) (size176e _) ?_; intro w6 hE6 hb6 hs6 hk6)
    | fail)
  rw [← hw5] at hb6 hs6 hk6
  have hC6 := hk6 _ _ _ (by omega) hC5
  have hR6 := hk6 _ _ _ (by omega) hR5
  have hB6 := hB5.trans (hb6.mono (by omega))
  clear hC5 hR5 hE5 hB5 hb6 hs6 hk6 hw5 hgE
  try dsimp only [Act.put]
  have hr0 := Lib.hid (show arL 16 (fun j => ek f (160 + j)) = arL 16 (rk f 10) from arL_ext (fun j hj => ek_rk f 10 j hj))
  go_wp2_with (first
    | (refine wpList_load_ar rfl _ _ rfl _ _ _ rfl hC6 Tryd.arr16b (size16b _) ?_)
    | (refine wpList_load_arO rfl _ _ rfl _ 176 160 16 _ rfl hE6 (by omega) Tryd.arr16b (size16b _) ?_))
  rw [hr0.out]
  refine (cadd b (rk f 10) _ HBB.out (hrk.out 10)).mono ?_
  rintro e w7 ⟨rfl, hq⟩
  have hC7 := hC6.to (by omega) hq
  have hR7 := hR6.to (by omega) hq
  have hE7 := hE6.to (by omega) hq
  have hB7 := hB6.trans (hq.mono hB6.size)
  clear hC6 hR6 hE6 hB6 hq hr0
  have hl1 := Lib.hid (adF_lt HBB.out (hrk.out 10))
  go_wp2_with fail
  refine (cunshift (adF b (rk f 10)) _).mono ?_
  rintro e w8 ⟨rfl, hq⟩
  have hC8 := hC7.to (by omega) hq
  have hR8 := hR7.to (by omega) hq
  have hE8 := hE7.to (by omega) hq
  have hB8 := hB7.trans (hq.mono hB7.size)
  clear hC7 hR7 hE7 hB7 hq
  go_wp2_with fail
  refine (cunsub (uhF (adF b (rk f 10))) _ (uhF_lt hl1.out) (HX.out.keep hB8)).mono ?_
  rintro e w9 ⟨rfl, hq⟩
  have hC9 := hC8.to (by omega) hq
  have hR9 := hR8.to (by omega) hq
  have hE9 := hE8.to (by omega) hq
  have hB9 := hB8.trans (hq.mono hB8.size)
  clear hC8 hR8 hE8 hB8 hq
  obtain ⟨X0, hX0⟩ : ∃ X0, X0 = usF (uhF (adF b (rk f 10))) := ⟨_, rfl⟩
  have hXl := Lib.hid (show B16 X0 by rw [hX0]; exact usF_lt (uhF_lt hl1.out))
  have hXd := Lib.hid (show deR f 9 X0 = deF f b by rw [hX0]; rfl)
  rw [← hX0]
  clear hX0 hl1
  go_wp2_with (refine wpList_store_ar rfl _ _ _ rfl _ _ _ X0 rfl rfl hC9 (size16b _) ?_; intro w10 hC10 hb10 hs10 hk10)
  have hR10 := hk10 _ _ _ (by omega) hR9
  have hE10 := hk10 _ _ _ (by omega) hE9
  have hB10 := hB9.trans (hb10.mono (by omega))
  clear hC9 hR9 hE9 hB9 hb10 hs10 hk10
  have hstep := Lib.hid (show ∀ r X, 1 ≤ r → r < 10 → deR f (r - 1) (usF (uhF (umF (adF X (rk f r))))) = deR f r X from fun r X h1 h2 => by
    obtain ⟨s, rfl⟩ : ∃ s, r = s + 1 := ⟨r - 1, by omega⟩
    rw [Nat.add_sub_cancel, deR, if_pos h2])
  have hend := Lib.hid (show ∀ X, adF X (rk f 0) = deR f 0 X from fun X => rfl)
  go_loopw [6] (fun i wr => ∃ (r : Nat) (X : Nat → Nat), r ≤ 9 ∧ i = .int .i64 r ∧ B16 X ∧ deR f r X = deF f b ∧ Ar wr gC 16 X ∧ Ar wr gR 16 (fun _ => 0) ∧ Ar wr gE 176 (ek f) ∧ Below w.heap.size w wr) (fun i _ => (intOf i).toNat)
  case atStart => exact ⟨9, X0, by omega, rfl, hXl.out, hXd.out, hC10, hR10, hE10, hB10⟩
  case round =>
    clear hC10 hR10 hE10 hB10 hXl hXd
    obtain ⟨r, X, hr, rfl, hXl, hXd, hC0, hR0, hE0, hB0⟩ := hrel
    have HL := Lib.hid hXl
    have HD := Lib.hid hXd
    clear hXl hXd
    by_cases hlt : 0 < r
    · have i1 : (0 : Int) < (r : Int) := by omega
      have i2 : (r : Int) < 11 := by omega
      go_wp2_with fail
      have rE := hE0.rangeO (r * 16) 16 (by omega)
      rw [hrow.out] at rE
      have hCd := hC0.drew
      have hRd := hR0.drew
      have hEd := hE0.drew
      have hBd := hB0.drew
      clear hC0 hR0 hE0 hB0
      refine wp_region_held_drew (S := fun W => W.rangeAt gE (r * 16) (arL 16 (rk f r))) (by kernel_rfl) (by rwa [World.rangeAt_drew]) (fun hHeld => ?_)
      clear rE
      generalize wr.drew = wd at *
      refine wpAnyH_take (i := 1) (v := ?va1) rfl (by kernel_rfl) (by kernel_rfl) (by kernel_rfl) (fun _ _ _ h => h) (Or.inl ⟨by rfl, ?hya1⟩) (by assumption) ?resta1
      case hya1 =>
        intro W hSw
        go_simp
        try with_reducible rfl
      simp only [Act.put, List.setIfInBounds_toArray, List.set_cons_zero, List.set_cons_succ, List.getElem_toArray, List.getElem_cons_zero, List.getElem_cons_succ]
      refine wpAnyH_take (i := 2) (v := ?va2) rfl (by kernel_rfl) (by kernel_rfl) (by kernel_rfl) (fun _ _ _ h => h) (Or.inl ⟨by rfl, ?hya2⟩) (by assumption) ?resta2
      case hya2 =>
        intro W hSw
        go_simp
        try with_reducible rfl
      simp only [Act.put, List.setIfInBounds_toArray, List.set_cons_zero, List.set_cons_succ, List.getElem_toArray, List.getElem_cons_zero, List.getElem_cons_succ]
      refine wpAnyH_take (i := 3) (v := .agg (arL 16 (rk f r)).toArray) rfl (by kernel_rfl) (by kernel_rfl) (by kernel_rfl) (fun _ _ _ h => h) (yieldsIf_load_mid (by rfl) _ _ rfl gE (r * 16) rfl (arL 16 (rk f r)) _ (fun W hSw => hSw) Tryd.arr16b rfl (size16b _)) (by assumption) ?_
      simp only [Act.put, List.setIfInBounds_toArray, List.set_cons_zero, List.set_cons_succ, List.getElem_toArray, List.getElem_cons_zero, List.getElem_cons_succ]
      refine wpAnyH_ready (rs := [0]) (by kernel_rfl) (by simp) ?_
      refine AllReadyH.cons rfl (fun K hK => ?_) AllReadyH.nil
      rw [if_pos (by rfl)]
      refine wp_load_mid _ _ rfl gC 0 rfl (arL 16 (X)) _ hCd.range Tryd.arr16b rfl (size16b _) ?_
      refine hK.out _ _ hHeld (fun hHeld => ?_)
      clear hK K
      try simp only [Act.put, List.setIfInBounds_toArray, List.set_cons_zero, List.set_cons_succ, List.getElem_toArray, List.getElem_cons_zero]
      refine wpAnyH_ready (rs := [4]) (by kernel_rfl) (by simp) ?_
      refine AllReadyH.cons rfl (fun K hK => ?_) AllReadyH.nil
      go_simp
      refine (cadd X (rk f r) _ HL.out (hrk.out r)).mono ?_
      rintro e w10 ⟨rfl, hq⟩
      go_wp2_with fail
      refine hK.out _ _ (row_kept hHeld hq) (fun hHeld => ?_)
      clear hK K
      have hCw10 := hCd.to (by omega) hq
      have hRw10 := hRd.to (by omega) hq
      have hEw10 := hEd.to (by omega) hq
      have hBw10 := hBd.trans (hq.mono hBd.size)
      clear hq hCd hRd hEd hBd
      try simp only [Act.put, List.setIfInBounds_toArray, List.set_cons_zero, List.set_cons_succ, List.getElem_toArray, List.getElem_cons_zero, List.getElem_cons_succ]
      refine wpAnyH_ready (rs := [5]) (by kernel_rfl) (by simp) ?_
      refine AllReadyH.cons rfl (fun K hK => ?_) AllReadyH.nil
      go_simp
      refine (cunmix (adF X (rk f r)) _ (adF_lt HL.out (hrk.out r))).mono ?_
      rintro e w11 ⟨rfl, hq⟩
      go_wp2_with fail
      refine hK.out _ _ (row_kept hHeld hq) (fun hHeld => ?_)
      clear hK K
      have hCw11 := hCw10.to (by omega) hq
      have hRw11 := hRw10.to (by omega) hq
      have hEw11 := hEw10.to (by omega) hq
      have hBw11 := hBw10.trans (hq.mono hBw10.size)
      clear hq hCw10 hRw10 hEw10 hBw10
      try simp only [Act.put, List.setIfInBounds_toArray, List.set_cons_zero, List.set_cons_succ, List.getElem_toArray, List.getElem_cons_zero, List.getElem_cons_succ]
      refine wpAnyH_ready (rs := [6]) (by kernel_rfl) (by simp) ?_
      refine AllReadyH.cons rfl (fun K hK => ?_) AllReadyH.nil
      go_simp
      refine (cunshift (umF (adF X (rk f r))) _).mono ?_
      rintro e w12 ⟨rfl, hq⟩
      go_wp2_with fail
      refine hK.out _ _ (row_kept hHeld hq) (fun hHeld => ?_)
      clear hK K
      have hCw12 := hCw11.to (by omega) hq
      have hRw12 := hRw11.to (by omega) hq
      have hEw12 := hEw11.to (by omega) hq
      have hBw12 := hBw11.trans (hq.mono hBw11.size)
      clear hq hCw11 hRw11 hEw11 hBw11
      try simp only [Act.put, List.setIfInBounds_toArray, List.set_cons_zero, List.set_cons_succ, List.getElem_toArray, List.getElem_cons_zero, List.getElem_cons_succ]
      refine wpAnyH_ready (rs := [7]) (by kernel_rfl) (by simp) ?_
      refine AllReadyH.cons rfl (fun K hK => ?_) AllReadyH.nil
      go_simp
      refine (cunsub (uhF (umF (adF X (rk f r)))) _ (uhF_lt (umF_lt _)) (HX.out.keep hBw12)).mono ?_
      rintro e w13 ⟨rfl, hq⟩
      go_wp2_with fail
      refine hK.out _ _ (row_kept hHeld hq) (fun hHeld => ?_)
      clear hK K
      have hCw13 := hCw12.to (by omega) hq
      have hRw13 := hRw12.to (by omega) hq
      have hEw13 := hEw12.to (by omega) hq
      have hBw13 := hBw12.trans (hq.mono hBw12.size)
      clear hq hCw12 hRw12 hEw12 hBw12
      try simp only [Act.put, List.setIfInBounds_toArray, List.set_cons_zero, List.set_cons_succ, List.getElem_toArray, List.getElem_cons_zero, List.getElem_cons_succ]
      refine wpAnyH_ready (rs := [8]) (by kernel_rfl) (by simp) ?_
      refine AllReadyH.cons rfl (fun K hK => ?_) AllReadyH.nil
      rw [if_pos (by rfl)]
      refine wp_store_mid _ _ _ rfl gC 0 _ rfl rfl (by rw [List.size_toArray, arL_len]; exact hCw13.there) (by rw [List.size_toArray]; exact size16b _) (all_oneCell_toArray (arL_one 16 (usF (uhF (umF (adF X (rk f r))))))) ?_
      have hCw14 := hCw13.whole (usF (uhF (umF (adF X (rk f r)))))
      have hBw14 := hBw13.trans (Below.setCells (Below.refl w.heap.size _) (b := gC) (by omega) (arL 16 (usF (uhF (umF (adF X (rk f r)))))) 0)
      have hRw14 := hRw13.apart (b := gC) (by omega) (arL 16 (usF (uhF (umF (adF X (rk f r)))))) 0
      have hEw14 := hEw13.apart (b := gC) (by omega) (arL 16 (usF (uhF (umF (adF X (rk f r)))))) 0
      dsimp only [List.toList_toArray]
      generalize World.setCells w13 gC 0 (arL 16 (usF (uhF (umF (adF X (rk f r)))))) = w14 at *
      refine hK.out _ _ (by have q := hEw14.rangeO (r * 16) 16 (by omega); rwa [hrow.out] at q) (fun hHeld => ?_)
      clear hK K hCw13 hRw13 hEw13 hBw13 hHeld
      try simp only [Act.put]
      refine wpAnyH_done (by kernel_rfl) ?_ _
      have hn := Lib.hid ((hstep.out r X (by omega) (by omega)).trans HD.out)
      have hnl := Lib.hid (show B16 (usF (uhF (umF (adF X (rk f r))))) from usF_lt (uhF_lt (umF_lt _)))
      generalize usF (uhF (umF (adF X (rk f r)))) = Y at *
      have hs1 : (r : Int) - 1 = ((r - 1 : Nat) : Int) := by omega
      clear i2
      go_wp2_with fail
      go_roundw
      case rel => exact ⟨r - 1, Y, by omega, by first | (go_num) | (rw [← hs1]), hnl.out, hn.out, hCw14, hRw14, hEw14, hBw14⟩
      case measure => simp [intOf]; omega
    · obtain rfl : r = 0 := by omega
      have hr1 := Lib.hid (show arL 16 (fun j => ek f j) = arL 16 (rk f 0) from arL_ext (fun j hj => by have := ek_rk f 0 j hj; rwa [Nat.mul_zero, Nat.zero_add] at this))
      go_wp2_with (first
        | (refine wpList_load_ar rfl _ _ rfl _ _ _ rfl hC0 Tryd.arr16b (size16b _) ?_)
        | (refine wpList_load_arO rfl _ _ rfl _ 176 0 16 _ rfl hE0 (by omega) Tryd.arr16b (size16b _) ?_))
      rw [hr1.out]
      refine (cadd X (rk f 0) _ HL.out (hrk.out 0)).mono ?_
      rintro e w14 ⟨rfl, hq⟩
      rw [hend.out X, HD.out]
      have hR1 := hR0.to (by omega) hq
      have hB1 := hB0.trans (hq.mono hB0.size)
      clear hC0 hR0 hE0 hB0 hq hr1
      go_wp2_with (refine wpList_store_ar rfl _ _ _ rfl _ _ _ (deF f b) rfl rfl hR1 (size16b _) ?_; intro w15 hR2 hb2 hs2 hk2)
      refine bodyPost_ret_ar rfl rfl hR2 Tryd.arr16b (size16b _) rfl ⟨rfl, hB1.trans (hb2.mono (by omega))⟩
end
end Go.Proofs.YtejgeefhnpeejaaDoor
