/-
  Contracts of the steps of package cipher, by walks through their texts, over the contract of cipher.fill; what was there stays as it was.
-/
import Derived.Test.YtghcpfcomhfppaaDoorCfb
import Derived.Test.YtghcpfcomhfppaaDoorCfc
import Derived.Test.YtghcpfcomhfppaaDoorCfd
import Derived.Shelf.Abstract
namespace Go.Proofs.YtghcpfcomhfppaaDoor
open Go.RowKit
set_option linter.unusedVariables false
set_option maxRecDepth 100000

set_option maxHeartbeats 800000 in
theorem csub (f : Nat → Nat) (w : World) (hf : B16 f) (h : Boxes w) :
    Calls Tryd.prog 15 #[.agg (arL 16 f).toArray] w fun e w' => e = .returned (.agg (arL 16 (suF f)).toArray) ∧ Below w.heap.size w w' := by
  have hz := zero16b
  obtain ⟨kA, hkA⟩ : ∃ kA : Array Value, (arL 16 f).toArray = kA := ⟨_, rfl⟩
  obtain ⟨w1, hw1⟩ : ∃ w1 : World, w1 = w.alloc (.cells (arL 16 f).toArray 22) := ⟨_, rfl⟩
  have hs1 : w1.heap.size = w.heap.size + 1 := by rw [hw1]; simp
  have hb1 : Below w.heap.size w w1 := by rw [hw1]; exact (Below.refl _ _).alloc (Nat.le_refl _) _
  have hK1 : Ar w1 w.heap.size 16 f := by rw [hw1]; exact Ar.new w 16 f _
  obtain ⟨w2, hw2⟩ : ∃ w2 : World, w2 = w1.alloc (.cells (arL 16 fun _ => 0).toArray 22) := ⟨_, rfl⟩
  have hs2 : w2.heap.size = w.heap.size + 2 := by rw [hw2]; simp [hs1]
  have hb2 : Below w.heap.size w w2 := by rw [hw2]; exact hb1.alloc (by omega) _
  have hR2 : Ar w2 (w.heap.size + 1) 16 (fun _ => 0) := by rw [hw2, ← hs1]; exact Ar.new w1 16 _ _
  have hK2 : Ar w2 w.heap.size 16 f := by rw [hw2]; exact hK1.alloc (by omega) _
  have hX2 := h.keep hb2
  rw [hkA] at hw1
  rw [hkA]
  clear hb1 hK1 hkA
  go_enter Tryd.func15, Tryd.ntmps15
  go_upto_region 1 with fail
  rw [← hw1, ← hw2]
  clear hw1 hw2 hs1
  have HC := Lib.hid (show ∀ n, n < 16 → ∀ V, Below w2.heap.size w2 V → Calls Tryd.prog 32 (#[.int .i64 (n : Int)] ++ #[.pointer (some ⟨w.heap.size, 0, none⟩)]) V fun e V' => e = .returned (.int .u8 (suF f n : Nat)) ∧ Below V.heap.size V V' from
    fun n hn V hV => csub1 n f _ V hn (hf n hn) (hK2.to (by omega) hV) (hX2.keep hV))
  go_wp2_with fail
  refine (cfill 32 _ (suF f) _ (enters_of Tryd.func32 (by kernel_rfl) rfl) HC.out).mono ?_
  rintro e w3 ⟨rfl, hb3⟩
  have hR3 := hR2.to (by omega) hb3
  have hB3 := hb2.trans (hb3.mono hb2.size)
  clear HC hR2 hK2 hb2 hb3
  go_wp2_with (refine wpList_store_ar rfl _ _ _ rfl _ _ _ (suF f) rfl rfl hR3 (size16b _) ?_; intro w8 hA8 hb8 _ _)
  refine bodyPost_ret_ar rfl rfl hA8 Tryd.arr16b (size16b _) rfl ⟨rfl, ?_⟩
  exact hB3.trans (hb8.mono (by omega))

set_option maxHeartbeats 800000 in
theorem cunsub (f : Nat → Nat) (w : World) (hf : B16 f) (h : Boxes w) :
    Calls Tryd.prog 24 #[.agg (arL 16 f).toArray] w fun e w' => e = .returned (.agg (arL 16 (usF f)).toArray) ∧ Below w.heap.size w w' := by
  have hz := zero16b
  obtain ⟨kA, hkA⟩ : ∃ kA : Array Value, (arL 16 f).toArray = kA := ⟨_, rfl⟩
  obtain ⟨w1, hw1⟩ : ∃ w1 : World, w1 = w.alloc (.cells (arL 16 f).toArray 22) := ⟨_, rfl⟩
  have hs1 : w1.heap.size = w.heap.size + 1 := by rw [hw1]; simp
  have hb1 : Below w.heap.size w w1 := by rw [hw1]; exact (Below.refl _ _).alloc (Nat.le_refl _) _
  have hK1 : Ar w1 w.heap.size 16 f := by rw [hw1]; exact Ar.new w 16 f _
  obtain ⟨w2, hw2⟩ : ∃ w2 : World, w2 = w1.alloc (.cells (arL 16 fun _ => 0).toArray 22) := ⟨_, rfl⟩
  have hs2 : w2.heap.size = w.heap.size + 2 := by rw [hw2]; simp [hs1]
  have hb2 : Below w.heap.size w w2 := by rw [hw2]; exact hb1.alloc (by omega) _
  have hR2 : Ar w2 (w.heap.size + 1) 16 (fun _ => 0) := by rw [hw2, ← hs1]; exact Ar.new w1 16 _ _
  have hK2 : Ar w2 w.heap.size 16 f := by rw [hw2]; exact hK1.alloc (by omega) _
  have hX2 := h.keep hb2
  rw [hkA] at hw1
  rw [hkA]
  clear hb1 hK1 hkA
  go_enter Tryd.func24, Tryd.ntmps24
  go_upto_region 1 with fail
  rw [← hw1, ← hw2]
  clear hw1 hw2 hs1
  have HC := Lib.hid (show ∀ n, n < 16 → ∀ V, Below w2.heap.size w2 V → Calls Tryd.prog 38 (#[.int .i64 (n : Int)] ++ #[.pointer (some ⟨w.heap.size, 0, none⟩)]) V fun e V' => e = .returned (.int .u8 (usF f n : Nat)) ∧ Below V.heap.size V V' from
    fun n hn V hV => cunsub1 n f _ V hn (hf n hn) (hK2.to (by omega) hV) (hX2.keep hV))
  go_wp2_with fail
  refine (cfill 38 _ (usF f) _ (enters_of Tryd.func38 (by kernel_rfl) rfl) HC.out).mono ?_
  rintro e w3 ⟨rfl, hb3⟩
  have hR3 := hR2.to (by omega) hb3
  have hB3 := hb2.trans (hb3.mono hb2.size)
  clear HC hR2 hK2 hb2 hb3
  go_wp2_with (refine wpList_store_ar rfl _ _ _ rfl _ _ _ (usF f) rfl rfl hR3 (size16b _) ?_; intro w8 hA8 hb8 _ _)
  refine bodyPost_ret_ar rfl rfl hA8 Tryd.arr16b (size16b _) rfl ⟨rfl, ?_⟩
  exact hB3.trans (hb8.mono (by omega))

set_option maxHeartbeats 800000 in
theorem cshift (f : Nat → Nat) (w : World) :
    Calls Tryd.prog 16 #[.agg (arL 16 f).toArray] w fun e w' => e = .returned (.agg (arL 16 (shF f)).toArray) ∧ Below w.heap.size w w' := by
  have hz := zero16b
  obtain ⟨kA, hkA⟩ : ∃ kA : Array Value, (arL 16 f).toArray = kA := ⟨_, rfl⟩
  obtain ⟨w1, hw1⟩ : ∃ w1 : World, w1 = w.alloc (.cells (arL 16 f).toArray 22) := ⟨_, rfl⟩
  have hs1 : w1.heap.size = w.heap.size + 1 := by rw [hw1]; simp
  have hb1 : Below w.heap.size w w1 := by rw [hw1]; exact (Below.refl _ _).alloc (Nat.le_refl _) _
  have hK1 : Ar w1 w.heap.size 16 f := by rw [hw1]; exact Ar.new w 16 f _
  obtain ⟨w2, hw2⟩ : ∃ w2 : World, w2 = w1.alloc (.cells (arL 16 fun _ => 0).toArray 22) := ⟨_, rfl⟩
  have hs2 : w2.heap.size = w.heap.size + 2 := by rw [hw2]; simp [hs1]
  have hb2 : Below w.heap.size w w2 := by rw [hw2]; exact hb1.alloc (by omega) _
  have hR2 : Ar w2 (w.heap.size + 1) 16 (fun _ => 0) := by rw [hw2, ← hs1]; exact Ar.new w1 16 _ _
  have hK2 : Ar w2 w.heap.size 16 f := by rw [hw2]; exact hK1.alloc (by omega) _
  rw [hkA] at hw1
  rw [hkA]
  clear hb1 hK1 hkA
  go_enter Tryd.func16, Tryd.ntmps16
  go_upto_region 1 with fail
  rw [← hw1, ← hw2]
  clear hw1 hw2 hs1
  have HC := Lib.hid (show ∀ n, n < 16 → ∀ V, Below w2.heap.size w2 V → Calls Tryd.prog 34 (#[.int .i64 (n : Int)] ++ #[.pointer (some ⟨w.heap.size, 0, none⟩)]) V fun e V' => e = .returned (.int .u8 (shF f n : Nat)) ∧ Below V.heap.size V V' from
    fun n hn V hV => cshift1 n f _ V hn (hK2.to (by omega) hV))
  go_wp2_with fail
  refine (cfill 34 _ (shF f) _ (enters_of Tryd.func34 (by kernel_rfl) rfl) HC.out).mono ?_
  rintro e w3 ⟨rfl, hb3⟩
  have hR3 := hR2.to (by omega) hb3
  have hB3 := hb2.trans (hb3.mono hb2.size)
  clear HC hR2 hK2 hb2 hb3
  go_wp2_with (refine wpList_store_ar rfl _ _ _ rfl _ _ _ (shF f) rfl rfl hR3 (size16b _) ?_; intro w8 hA8 hb8 _ _)
  refine bodyPost_ret_ar rfl rfl hA8 Tryd.arr16b (size16b _) rfl ⟨rfl, ?_⟩
  exact hB3.trans (hb8.mono (by omega))

set_option maxHeartbeats 800000 in
theorem cunshift (f : Nat → Nat) (w : World) :
    Calls Tryd.prog 25 #[.agg (arL 16 f).toArray] w fun e w' => e = .returned (.agg (arL 16 (uhF f)).toArray) ∧ Below w.heap.size w w' := by
  have hz := zero16b
  obtain ⟨kA, hkA⟩ : ∃ kA : Array Value, (arL 16 f).toArray = kA := ⟨_, rfl⟩
  obtain ⟨w1, hw1⟩ : ∃ w1 : World, w1 = w.alloc (.cells (arL 16 f).toArray 22) := ⟨_, rfl⟩
  have hs1 : w1.heap.size = w.heap.size + 1 := by rw [hw1]; simp
  have hb1 : Below w.heap.size w w1 := by rw [hw1]; exact (Below.refl _ _).alloc (Nat.le_refl _) _
  have hK1 : Ar w1 w.heap.size 16 f := by rw [hw1]; exact Ar.new w 16 f _
  obtain ⟨w2, hw2⟩ : ∃ w2 : World, w2 = w1.alloc (.cells (arL 16 fun _ => 0).toArray 22) := ⟨_, rfl⟩
  have hs2 : w2.heap.size = w.heap.size + 2 := by rw [hw2]; simp [hs1]
  have hb2 : Below w.heap.size w w2 := by rw [hw2]; exact hb1.alloc (by omega) _
  have hR2 : Ar w2 (w.heap.size + 1) 16 (fun _ => 0) := by rw [hw2, ← hs1]; exact Ar.new w1 16 _ _
  have hK2 : Ar w2 w.heap.size 16 f := by rw [hw2]; exact hK1.alloc (by omega) _
  rw [hkA] at hw1
  rw [hkA]
  clear hb1 hK1 hkA
  go_enter Tryd.func25, Tryd.ntmps25
  go_upto_region 1 with fail
  rw [← hw1, ← hw2]
  clear hw1 hw2 hs1
  have HC := Lib.hid (show ∀ n, n < 16 → ∀ V, Below w2.heap.size w2 V → Calls Tryd.prog 40 (#[.int .i64 (n : Int)] ++ #[.pointer (some ⟨w.heap.size, 0, none⟩)]) V fun e V' => e = .returned (.int .u8 (uhF f n : Nat)) ∧ Below V.heap.size V V' from
    fun n hn V hV => cunshift1 n f _ V hn (hK2.to (by omega) hV))
  go_wp2_with fail
  refine (cfill 40 _ (uhF f) _ (enters_of Tryd.func40 (by kernel_rfl) rfl) HC.out).mono ?_
  rintro e w3 ⟨rfl, hb3⟩
  have hR3 := hR2.to (by omega) hb3
  have hB3 := hb2.trans (hb3.mono hb2.size)
  clear HC hR2 hK2 hb2 hb3
  go_wp2_with (refine wpList_store_ar rfl _ _ _ rfl _ _ _ (uhF f) rfl rfl hR3 (size16b _) ?_; intro w8 hA8 hb8 _ _)
  refine bodyPost_ret_ar rfl rfl hA8 Tryd.arr16b (size16b _) rfl ⟨rfl, ?_⟩
  exact hB3.trans (hb8.mono (by omega))

set_option maxHeartbeats 800000 in
theorem cadd  (f : Nat → Nat) (k : Nat → Nat) (w : World) (hf : B16 f) (hk : B16 k) :
    Calls Tryd.prog 22 #[.agg (arL 16 f).toArray, .agg (arL 16 k).toArray] w fun e w' => e = .returned (.agg (arL 16 (adF f k)).toArray) ∧ Below w.heap.size w w' := by
  have hz := zero16b
  obtain ⟨kA, hkA⟩ : ∃ kA : Array Value, (arL 16 f).toArray = kA := ⟨_, rfl⟩
  obtain ⟨w1, hw1⟩ : ∃ w1 : World, w1 = w.alloc (.cells (arL 16 f).toArray 22) := ⟨_, rfl⟩
  have hs1 : w1.heap.size = w.heap.size + 1 := by rw [hw1]; simp
  have hb1 : Below w.heap.size w w1 := by rw [hw1]; exact (Below.refl _ _).alloc (Nat.le_refl _) _
  have hK1 : Ar w1 w.heap.size 16 f := by rw [hw1]; exact Ar.new w 16 f _
  obtain ⟨kB, hkB⟩ : ∃ kB : Array Value, (arL 16 k).toArray = kB := ⟨_, rfl⟩
  obtain ⟨w2, hw2⟩ : ∃ w2 : World, w2 = w1.alloc (.cells (arL 16 k).toArray 22) := ⟨_, rfl⟩
  have hs2 : w2.heap.size = w.heap.size + 2 := by rw [hw2]; simp [hs1]
  have hb2 : Below w.heap.size w w2 := by rw [hw2]; exact hb1.alloc (by omega) _
  have hL2 : Ar w2 (w.heap.size + 1) 16 k := by rw [hw2, ← hs1]; exact Ar.new w1 16 k _
  have hK2 : Ar w2 w.heap.size 16 f := by rw [hw2]; exact hK1.alloc (by omega) _
  obtain ⟨w3, hw3⟩ : ∃ w3 : World, w3 = w2.alloc (.cells (arL 16 fun _ => 0).toArray 22) := ⟨_, rfl⟩
  have hb3 : Below w.heap.size w w3 := by rw [hw3]; exact hb2.alloc (by omega) _
  have hR3 : Ar w3 (w.heap.size + 2) 16 (fun _ => 0) := by rw [hw3, ← hs2]; exact Ar.new w2 16 _ _
  have hK3 : Ar w3 w.heap.size 16 f := by rw [hw3]; exact hK2.alloc (by omega) _
  have hL3 : Ar w3 (w.heap.size + 1) 16 k := by rw [hw3]; exact hL2.alloc (by omega) _
  rw [hkA] at hw1
  rw [hkA]
  rw [hkB] at hw2
  rw [hkB]
  clear hkB hL2
  clear hb1 hK1 hkA hb2 hK2
  go_enter Tryd.func22, Tryd.ntmps22
  go_upto_region 1 with fail
  rw [← hw1, ← hw2, ← hw3]
  clear hw1 hw2 hw3 hs1 hs2
  have HC := Lib.hid (show ∀ n, n < 16 → ∀ V, Below w3.heap.size w3 V → Calls Tryd.prog 36 (#[.int .i64 (n : Int)] ++ #[.pointer (some ⟨w.heap.size, 0, none⟩), .pointer (some ⟨w.heap.size + 1, 0, none⟩)]) V fun e V' => e = .returned (.int .u8 (adF f k n : Nat)) ∧ Below V.heap.size V V' from
    fun n hn V hV => cadd1 n f k _ _ V hn (hf n hn) (hk n hn) (hK3.to (by omega) hV) (hL3.to (by omega) hV))
  go_wp2_with fail
  refine (cfill 36 _ (adF f k) _ (enters_of Tryd.func36 (by kernel_rfl) rfl) HC.out).mono ?_
  rintro e w4 ⟨rfl, hb4⟩
  have hR4 := hR3.to (by omega) hb4
  have hB4 := hb3.trans (hb4.mono hb3.size)
  clear HC hR3 hK3 hb3 hb4
  go_wp2_with (refine wpList_store_ar rfl _ _ _ rfl _ _ _ (adF f k) rfl rfl hR4 (size16b _) ?_; intro w8 hA8 hb8 _ _)
  refine bodyPost_ret_ar rfl rfl hA8 Tryd.arr16b (size16b _) rfl ⟨rfl, ?_⟩
  exact hB4.trans (hb8.mono (by omega))

set_option maxHeartbeats 800000 in
theorem cblend (a b c d : Nat) (f : Nat → Nat) (w : World) (ha : a < 256) (hb : b < 256) (hc : c < 256) (hd : d < 256) (hf : B16 f) :
    Calls Tryd.prog 35 #[.agg (arL 16 f).toArray, .agg #[.int .u8 (a : Int), .int .u8 (b : Int), .int .u8 (c : Int), .int .u8 (d : Int)]] w fun e w' => e = .returned (.agg (arL 16 (mxF a b c d f)).toArray) ∧ Below w.heap.size w w' := by
  have hz := zero16b
  obtain ⟨kA, hkA⟩ : ∃ kA : Array Value, (arL 16 f).toArray = kA := ⟨_, rfl⟩
  obtain ⟨w1, hw1⟩ : ∃ w1 : World, w1 = w.alloc (.cells (arL 16 f).toArray 22) := ⟨_, rfl⟩
  have hs1 : w1.heap.size = w.heap.size + 1 := by rw [hw1]; simp
  have hb1 : Below w.heap.size w w1 := by rw [hw1]; exact (Below.refl _ _).alloc (Nat.le_refl _) _
  have hK1 : Ar w1 w.heap.size 16 f := by rw [hw1]; exact Ar.new w 16 f _
  obtain ⟨w2, hw2⟩ : ∃ w2 : World, w2 = w1.alloc (.cells #[.int .u8 (a : Int), .int .u8 (b : Int), .int .u8 (c : Int), .int .u8 (d : Int)] 32) := ⟨_, rfl⟩
  have hs2 : w2.heap.size = w.heap.size + 2 := by rw [hw2]; simp [hs1]
  have hb2 : Below w.heap.size w w2 := by rw [hw2]; exact hb1.alloc (by omega) _
  have hL2 : C4 (w.heap.size + 1) a b c d w2 := by rw [hw2, ← hs1]; exact ⟨by simp, by simp, by simp, by simp⟩
  have hK2 : Ar w2 w.heap.size 16 f := by rw [hw2]; exact hK1.alloc (by omega) _
  obtain ⟨w3, hw3⟩ : ∃ w3 : World, w3 = w2.alloc (.cells (arL 16 fun _ => 0).toArray 22) := ⟨_, rfl⟩
  have hb3 : Below w.heap.size w w3 := by rw [hw3]; exact hb2.alloc (by omega) _
  have hR3 : Ar w3 (w.heap.size + 2) 16 (fun _ => 0) := by rw [hw3, ← hs2]; exact Ar.new w2 16 _ _
  have hK3 : Ar w3 w.heap.size 16 f := by rw [hw3]; exact hK2.alloc (by omega) _
  have hL3 : C4 (w.heap.size + 1) a b c d w3 := by rw [hw3]; exact hL2.to (by omega) ((Below.refl _ _).alloc (Nat.le_refl _) _)
  have hg3 : w.heap.size + 1 < w3.heap.size := by rw [hw3]; simp [hs2]
  rw [hkA] at hw1
  rw [hkA]
  clear hL2
  clear hb1 hK1 hkA hb2 hK2
  go_enter Tryd.func35, Tryd.ntmps35
  go_upto_region 1 with fail
  rw [← hw1, ← hw2, ← hw3]
  clear hw1 hw2 hw3 hs1 hs2
  have HC := Lib.hid (show ∀ n, n < 16 → ∀ V, Below w3.heap.size w3 V → Calls Tryd.prog 43 (#[.int .i64 (n : Int)] ++ #[.pointer (some ⟨w.heap.size, 0, none⟩), .pointer (some ⟨w.heap.size + 1, 0, none⟩)]) V fun e V' => e = .returned (.int .u8 (mxF a b c d f n : Nat)) ∧ Below V.heap.size V V' from
    fun n hn V hV => cblend1 a b c d n f _ _ V hn ha hb hc hd hf (hK3.to (by omega) hV) (hL3.to hg3 hV))
  go_wp2_with fail
  refine (cfill 43 _ (mxF a b c d f) _ (enters_of Tryd.func43 (by kernel_rfl) rfl) HC.out).mono ?_
  rintro e w4 ⟨rfl, hb4⟩
  have hR4 := hR3.to (by omega) hb4
  have hB4 := hb3.trans (hb4.mono hb3.size)
  clear HC hR3 hK3 hb3 hb4
  go_wp2_with (refine wpList_store_ar rfl _ _ _ rfl _ _ _ (mxF a b c d f) rfl rfl hR4 (size16b _) ?_; intro w8 hA8 hb8 _ _)
  refine bodyPost_ret_ar rfl rfl hA8 Tryd.arr16b (size16b _) rfl ⟨rfl, ?_⟩
  exact hB4.trans (hb8.mono (by omega))

set_option maxHeartbeats 800000 in
theorem cmix (f : Nat → Nat) (w : World) (hf : B16 f) :
    Calls Tryd.prog 17 #[.agg (arL 16 f).toArray] w fun e w' => e = .returned (.agg (arL 16 (miF f)).toArray) ∧ Below w.heap.size w w' := by
  have hz := zero16b
  obtain ⟨kA, hkA⟩ : ∃ kA : Array Value, (arL 16 f).toArray = kA := ⟨_, rfl⟩
  obtain ⟨w1, hw1⟩ : ∃ w1 : World, w1 = w.alloc (.cells (arL 16 f).toArray 22) := ⟨_, rfl⟩
  have hs1 : w1.heap.size = w.heap.size + 1 := by rw [hw1]; simp
  have hb1 : Below w.heap.size w w1 := by rw [hw1]; exact (Below.refl _ _).alloc (Nat.le_refl _) _
  have hK1 : Ar w1 w.heap.size 16 f := by rw [hw1]; exact Ar.new w 16 f _
  obtain ⟨w2, hw2⟩ : ∃ w2 : World, w2 = w1.alloc (.cells (arL 16 fun _ => 0).toArray 22) := ⟨_, rfl⟩
  have hb2 : Below w.heap.size w w2 := by rw [hw2]; exact hb1.alloc (by omega) _
  have hR2 : Ar w2 (w.heap.size + 1) 16 (fun _ => 0) := by rw [hw2, ← hs1]; exact Ar.new w1 16 _ _
  have hK2 : Ar w2 w.heap.size 16 f := by rw [hw2]; exact hK1.alloc (by omega) _
  rw [hkA] at hw1
  rw [hkA]
  clear hb1 hK1 hkA
  have HF := Lib.hid hf
  clear hf
  go_enter Tryd.func17, Tryd.ntmps17
  go_upto_region 1 with fail
  rw [← hw1, ← hw2]
  clear hw1 hw2 hs1
  go_wp2_with (refine wpList_load_ar rfl _ _ rfl _ _ _ rfl hK2 Tryd.arr16b (size16b _) ?_)
  refine (cblend 2 3 1 1 f _ (by decide) (by decide) (by decide) (by decide) HF.out).mono ?_
  rintro e w3 ⟨rfl, hb3⟩
  rw [show mxF 2 3 1 1 f = miF f from rfl]
  have hR3 := hR2.to (by omega) hb3
  have hB3 := hb2.trans (hb3.mono hb2.size)
  clear hR2 hK2 hb2 hb3
  go_wp2_with (refine wpList_store_ar rfl _ _ _ rfl _ _ _ (miF f) rfl rfl hR3 (size16b _) ?_; intro w8 hA8 hb8 _ _)
  refine bodyPost_ret_ar rfl rfl hA8 Tryd.arr16b (size16b _) rfl ⟨rfl, ?_⟩
  exact hB3.trans (hb8.mono (by omega))

set_option maxHeartbeats 800000 in
theorem cunmix (f : Nat → Nat) (w : World) (hf : B16 f) :
    Calls Tryd.prog 26 #[.agg (arL 16 f).toArray] w fun e w' => e = .returned (.agg (arL 16 (umF f)).toArray) ∧ Below w.heap.size w w' := by
  have hz := zero16b
  obtain ⟨kA, hkA⟩ : ∃ kA : Array Value, (arL 16 f).toArray = kA := ⟨_, rfl⟩
  obtain ⟨w1, hw1⟩ : ∃ w1 : World, w1 = w.alloc (.cells (arL 16 f).toArray 22) := ⟨_, rfl⟩
  have hs1 : w1.heap.size = w.heap.size + 1 := by rw [hw1]; simp
  have hb1 : Below w.heap.size w w1 := by rw [hw1]; exact (Below.refl _ _).alloc (Nat.le_refl _) _
  have hK1 : Ar w1 w.heap.size 16 f := by rw [hw1]; exact Ar.new w 16 f _
  obtain ⟨w2, hw2⟩ : ∃ w2 : World, w2 = w1.alloc (.cells (arL 16 fun _ => 0).toArray 22) := ⟨_, rfl⟩
  have hb2 : Below w.heap.size w w2 := by rw [hw2]; exact hb1.alloc (by omega) _
  have hR2 : Ar w2 (w.heap.size + 1) 16 (fun _ => 0) := by rw [hw2, ← hs1]; exact Ar.new w1 16 _ _
  have hK2 : Ar w2 w.heap.size 16 f := by rw [hw2]; exact hK1.alloc (by omega) _
  rw [hkA] at hw1
  rw [hkA]
  clear hb1 hK1 hkA
  have HF := Lib.hid hf
  clear hf
  go_enter Tryd.func26, Tryd.ntmps26
  go_upto_region 1 with fail
  rw [← hw1, ← hw2]
  clear hw1 hw2 hs1
  go_wp2_with (refine wpList_load_ar rfl _ _ rfl _ _ _ rfl hK2 Tryd.arr16b (size16b _) ?_)
  refine (cblend 14 11 13 9 f _ (by decide) (by decide) (by decide) (by decide) HF.out).mono ?_
  rintro e w3 ⟨rfl, hb3⟩
  rw [show mxF 14 11 13 9 f = umF f from rfl]
  have hR3 := hR2.to (by omega) hb3
  have hB3 := hb2.trans (hb3.mono hb2.size)
  clear hR2 hK2 hb2 hb3
  go_wp2_with (refine wpList_store_ar rfl _ _ _ rfl _ _ _ (umF f) rfl rfl hR3 (size16b _) ?_; intro w8 hA8 hb8 _ _)
  refine bodyPost_ret_ar rfl rfl hA8 Tryd.arr16b (size16b _) rfl ⟨rfl, ?_⟩
  exact hB3.trans (hb8.mono (by omega))
end Go.Proofs.YtghcpfcomhfppaaDoor
