/-
  Contracts of the reference package of layer 9, by walks through its texts; what was there stays as it was.
-/
import Derived.Test.YtblhfmlgpldaeaaDoorTba
import Derived.Test.YtblhfmlgpldaeaaDoorBre
import Derived.Test.YtblhfmlgpldaeaaDoorBitr
import Derived.Test.YtblhfmlgpldaeaaDoorEqs
import Derived.Test.YtblhfmlgpldaeaaDoorGcr
import Derived.Test.YtblhfmlgpldaeaaDoorArg
import Derived.Test.YtblhfmlgpldaeaaDoorFre
import Derived.Deep.RegionHeld3
namespace Go.Proofs.YtblhfmlgpldaeaaDoor
open Go.RowKit
set_option linter.unusedVariables false
set_option maxRecDepth 100000

set_option maxHeartbeats 1600000 in
theorem refstar (f : Nat → Nat) (w : World) (hf : B16 f) (h0 : B16 zF) :
    Calls Tryd.prog 26 #[.agg (arL 432 (pkF (ek f) sb)).toArray] w fun e w' => e = .returned (.agg (arL 16 (enF f zF)).toArray) ∧ Below w.heap.size w w' := by
  have hz := zero16b
  have z0 := Lib.hid run_zero16
  obtain ⟨dK, hfs, hrow⟩ := Tryd.structK
  have HS := Lib.hid hfs
  have HW := Lib.hid hrow
  clear hfs hrow
  obtain ⟨kA, hkA⟩ : ∃ kA : Array Value, (arL 432 (pkF (ek f) sb)).toArray = kA := ⟨_, rfl⟩
  obtain ⟨w1, hw1⟩ : ∃ w1 : World, w1 = w.alloc (.cells (arL 432 (pkF (ek f) sb)).toArray 32) := ⟨_, rfl⟩
  have hs1 : w1.heap.size = w.heap.size + 1 := by rw [hw1]; simp
  have hb1 : Below w.heap.size w w1 := by rw [hw1]; exact (Below.refl _ _).alloc (Nat.le_refl _) _
  have hK1 : Ar w1 w.heap.size 432 (pkF (ek f) sb) := by rw [hw1]; exact Ar.new w 432 _ _
  obtain ⟨w2, hw2⟩ : ∃ w2 : World, w2 = w1.alloc (.cells (arL 16 fun _ => 0).toArray 22) := ⟨_, rfl⟩
  have hB2 : Below w.heap.size w w2 := by rw [hw2]; exact hb1.alloc (by omega) _
  have hR2 : Ar w2 (w.heap.size + 1) 16 (fun _ => 0) := by rw [hw2, ← hs1]; exact Ar.new w1 16 _ _
  have hK2 : Ar w2 w.heap.size 432 (pkF (ek f) sb) := by rw [hw2]; exact hK1.alloc (by omega) _
  have HKA := Lib.hid hkA
  rw [hkA] at hw1
  rw [hkA]
  have hcall := Lib.hid (refencrypt f zF w2 hf h0)
  clear hb1 hK1 hkA hf h0
  go_enter Tryd.func26, Tryd.ntmps26
  go_upto_region 1 with fail
  rw [← hw1, ← hw2]
  clear hw1 hw2 hs1
  obtain ⟨gR, hgR⟩ : ∃ gR : Nat, w.heap.size + 1 = gR := ⟨_, rfl⟩
  have hlR : w.heap.size < gR := by omega
  rw [hgR] at hR2
  try rw [hgR]
  clear hgR
  go_wp2_with (first
    | (refine wpList_load_mid rfl _ _ rfl w.heap.size 0 rfl (arL 432 (pkF (ek f) sb)) _ hK2.range HS.out HW.out (sizeK _) ?_)
    | (refine wpList_build_by rfl _ _ rfl [] rfl _ (z0.out _) ?_))
  refine hcall.out.mono ?_
  rintro e w3 ⟨rfl, hq⟩
  have hR3 := hR2.to (by omega) hq
  have hB3 := hB2.trans (hq.mono hB2.size)
  clear hR2 hK2 hB2 hq hcall
  go_wp2_with (refine wpList_store_ar rfl _ _ _ rfl _ _ _ (enF f zF) rfl rfl hR3 (size16b _) ?_; intro w8 hA8 hb8 _ _)
  refine bodyPost_ret_ar rfl rfl hA8 Tryd.arr16b (size16b _) rfl ⟨rfl, ?_⟩
  exact hB3.trans (hb8.mono (by omega))

set_option maxHeartbeats 1600000 in
theorem refat (s : Nat → Nat) (k : Nat) (i : Int) (w : World) (hs : B16 s) (hk1 : 1 ≤ k) (hk : k ≤ 66) (hi : i = (k : Int) - 2) :
    Calls Tryd.prog 43 #[.agg (arL 16 s).toArray, .int .i64 i] w fun e w' => e = .returned (.agg (arL 16 (dk s k)).toArray) ∧ Below w.heap.size w w' := by
  have hz := zero16b
  obtain ⟨kA, hkA⟩ : ∃ kA : Array Value, (arL 16 s).toArray = kA := ⟨_, rfl⟩
  obtain ⟨w1, hw1⟩ : ∃ w1 : World, w1 = w.alloc (.cells (arL 16 s).toArray 22) := ⟨_, rfl⟩
  have hs1 : w1.heap.size = w.heap.size + 1 := by rw [hw1]; simp
  have hb1 : Below w.heap.size w w1 := by rw [hw1]; exact (Below.refl _ _).alloc (Nat.le_refl _) _
  have hK1 : Ar w1 w.heap.size 16 s := by rw [hw1]; exact Ar.new w 16 _ _
  obtain ⟨w2, hw2⟩ : ∃ w2 : World, w2 = w1.alloc (.cells (arL 16 fun _ => 0).toArray 22) := ⟨_, rfl⟩
  have hB2 : Below w.heap.size w w2 := by rw [hw2]; exact hb1.alloc (by omega) _
  have hR2 : Ar w2 (w.heap.size + 1) 16 (fun _ => 0) := by rw [hw2, ← hs1]; exact Ar.new w1 16 _ _
  have hK2 : Ar w2 w.heap.size 16 s := by rw [hw2]; exact hK1.alloc (by omega) _
  have HKA := Lib.hid hkA
  rw [hkA] at hw1
  rw [hkA]
  have hsl := Lib.hid (dk_lt hs)
  clear hb1 hK1 hkA hs
  go_enter Tryd.func43, Tryd.ntmps43
  go_upto_region 1 with fail
  rw [← hw1, ← hw2]
  clear hw1 hw2 hs1
  obtain ⟨gR, hgR⟩ : ∃ gR : Nat, w.heap.size + 1 = gR := ⟨_, rfl⟩
  have hlR : w.heap.size < gR := by omega
  rw [hgR] at hR2
  try rw [hgR]
  clear hgR
  go_wp2_with (refine wpList_load_ar rfl _ _ rfl _ _ _ rfl hK2 Tryd.arr16b (size16b _) ?_)
  refine (refdouble s _ (hsl.out 0)).mono ?_
  rintro e w3 ⟨rfl, hq⟩
  rw [show dbF s = dk s 1 from rfl]
  have hR3 := hR2.to (by omega) hq
  have hB3 := hB2.trans (hq.mono hB2.size)
  clear hR2 hK2 hB2 hq
  obtain ⟨gT, hgT⟩ : ∃ gT : Nat, w3.heap.size = gT := ⟨_, rfl⟩
  have hlT : gR < gT := by rw [← hgT]; exact hR3.lt (by omega)
  obtain ⟨w4, hw4⟩ : ∃ V : World, V = w3.alloc (.cells (arL 16 fun _ => 0).toArray 22) := ⟨_, rfl⟩
  have hT4 : Ar w4 gT 16 (fun _ => 0) := by rw [hw4, ← hgT]; exact Ar.new w3 16 _ _
  have hR4 : Ar w4 gR 16 (fun _ => 0) := by rw [hw4]; exact hR3.alloc (by omega) _
  have hB4 : Below w.heap.size w w4 := by rw [hw4]; exact hB3.alloc hB3.size _
  clear hR3 hB3
  go_upto_region 2 with (refine wpList_store_ar rfl _ _ _ rfl _ _ _ (dk s 1) rfl rfl (by rw [← hw4]; exact hT4) (size16b _) ?_; intro w5 hT5 bel siz kee)
  rw [← hw4] at bel siz kee
  have hR5 := kee _ _ _ (by omega) hR4
  have hB5 := hB4.trans (bel.mono (by omega))
  clear hT4 hR4 hB4 bel siz kee hw4 hgT
  try dsimp only [Act.put]
  go_wp2_with fail
  go_loopw [6] (fun n wr => ∃ r : Nat, r + 1 ≤ k ∧ n = .int .i64 r ∧ Ar wr gT 16 (dk s (r + 1)) ∧ Ar wr gR 16 (fun _ => 0) ∧ Below w.heap.size w wr) (fun n _ => k - (intOf n).toNat)
  case atStart => exact ⟨0, by omega, rfl, hT5, hR5, hB5⟩
  case round =>
    clear hT5 hR5 hB5
    obtain ⟨r, hr, rfl, hT, hR, hB⟩ := hrel
    by_cases hlt : r + 1 < k
    · have i1 : (r : Int) ≤ i := by omega
      go_wp2_with (refine wpList_load_ar rfl _ _ rfl _ _ _ rfl hT Tryd.arr16b (size16b _) ?_)
      refine (refdouble (dk s (r + 1)) _ (hsl.out (r + 1))).mono ?_
      rintro e wa ⟨rfl, hq⟩
      rw [show dbF (dk s (r + 1)) = dk s (r + 2) from rfl]
      have hTa := hT.to (by omega) hq
      have hRa := hR.to (by omega) hq
      have hBa := hB.trans (hq.mono hB.size)
      clear hT hR hB hq
      go_upto_region 4 with (first | (refine wpList_store_ar rfl _ _ _ rfl _ _ _ (dk s (r + 2)) rfl rfl hTa (size16b _) ?_; intro wb hTb bel siz kee) | fail)
      have hRb := kee _ _ _ (by omega) hRa
      have hBb := hBa.trans (bel.mono (by omega))
      clear hTa hRa hBa bel siz kee
      try dsimp only [Act.put]
      go_wp2_with fail
      go_roundw
      case rel => exact ⟨r + 1, by omega, by go_num, hTb, hRb, hBb⟩
      case measure => simp [intOf]; omega
    · obtain rfl : k = r + 1 := by omega
      have i1 : ¬ (r : Int) ≤ i := by omega
      go_wp2_with (first
        | (refine wpList_load_ar rfl _ _ rfl _ _ _ rfl hT Tryd.arr16b (size16b _) ?_)
        | (refine wpList_store_ar rfl _ _ _ rfl _ _ _ (dk s (r + 1)) rfl rfl hR (size16b _) ?_; intro w8 hA8 hb8 _ _))
      refine bodyPost_ret_ar rfl rfl hA8 Tryd.arr16b (size16b _) rfl ⟨rfl, ?_⟩
      exact hB.trans (hb8.mono (by omega))

set_option maxHeartbeats 1600000 in
theorem reffor (s : Nat → Nat) (n : Nat) (w : World) (hs : B16 s) (hn : n < 18446744073709551616) :
    Calls Tryd.prog 25 #[.agg (arL 16 s).toArray, .int .u64 n] w fun e w' => e = .returned (.agg (arL 16 (dk s (zer n + 2))).toArray) ∧ Below w.heap.size w w' := by
  have hz := zero16b
  obtain ⟨z, hzz⟩ : ∃ z, zer n = z := ⟨_, rfl⟩
  have hzr : ∀ V, Calls Tryd.prog 44 #[.int .u64 n] V fun e V' => e = .returned (.int .i64 (z : Nat)) ∧ V' = V := fun V => by rw [← hzz]; exact refZeros n V hn
  have hz64 : z ≤ 64 := by rw [← hzz]; exact zer_le n
  rw [hzz]
  obtain ⟨kA, hkA⟩ : ∃ kA : Array Value, (arL 16 s).toArray = kA := ⟨_, rfl⟩
  obtain ⟨w1, hw1⟩ : ∃ w1 : World, w1 = w.alloc (.cells (arL 16 s).toArray 22) := ⟨_, rfl⟩
  have hs1 : w1.heap.size = w.heap.size + 1 := by rw [hw1]; simp
  have hb1 : Below w.heap.size w w1 := by rw [hw1]; exact (Below.refl _ _).alloc (Nat.le_refl _) _
  have hK1 : Ar w1 w.heap.size 16 s := by rw [hw1]; exact Ar.new w 16 _ _
  obtain ⟨w2, hw2⟩ : ∃ w2 : World, w2 = w1.alloc (.cells (arL 16 fun _ => 0).toArray 22) := ⟨_, rfl⟩
  have hB2 : Below w.heap.size w w2 := by rw [hw2]; exact hb1.alloc (by omega) _
  have hR2 : Ar w2 (w.heap.size + 1) 16 (fun _ => 0) := by rw [hw2, ← hs1]; exact Ar.new w1 16 _ _
  have hK2 : Ar w2 w.heap.size 16 s := by rw [hw2]; exact hK1.alloc (by omega) _
  have HKA := Lib.hid hkA
  rw [hkA] at hw1
  rw [hkA]
  have hsl := Lib.hid hs
  clear hb1 hK1 hkA hs hzz
  go_enter Tryd.func25, Tryd.ntmps25
  go_upto_region 1 with fail
  rw [← hw1, ← hw2]
  clear hw1 hw2 hs1
  obtain ⟨gR, hgR⟩ : ∃ gR : Nat, w.heap.size + 1 = gR := ⟨_, rfl⟩
  have hlR : w.heap.size < gR := by omega
  rw [hgR] at hR2
  try rw [hgR]
  clear hgR
  have hRw2 := hR2
  clear hR2
  refine wp_region_noPanic ?_
  have hRad := hRw2.drew
  refine wp_region_held_drew (S := fun W => Ar W w.heap.size 16 (s) ∧ Below w.heap.size w W) (by kernel_rfl) ⟨hK2.drew, hB2.drew⟩ (fun hHeld => ?_)
  clear hK2 hB2 hRw2
  generalize World.drew w2 = ad at *
  refine wpAnyH_take (i := 0) (v := .agg (arL 16 (s)).toArray) rfl (by kernel_rfl) (by kernel_rfl) (by kernel_rfl) (fun _ _ _ h => h) (yieldsIf_load_mid (by rfl) _ _ rfl w.heap.size (0) rfl (arL 16 (s)) _ (fun W hSw => hSw.1.range) Tryd.arr16b rfl (size16b _)) (by assumption) ?_
  simp only [Act.put, List.setIfInBounds_toArray, List.set_cons_zero, List.set_cons_succ, List.getElem_toArray, List.getElem_cons_zero]
  refine wpAnyH_take (i := 1) (v := ?va1) rfl (by kernel_rfl) (by kernel_rfl) (by kernel_rfl) (fun _ _ _ h => h) (Or.inl ⟨by rfl, ?hya1⟩) (by assumption) ?resta1
  case hya1 =>
    intro W hSw
    go_simp
    try with_reducible rfl
  simp only [Act.put, List.setIfInBounds_toArray, List.set_cons_zero, List.set_cons_succ, List.getElem_toArray, List.getElem_cons_zero, List.getElem_cons_succ]
  refine wpAnyH_ready (rs := [2]) (by kernel_rfl) (by simp) ?_
  refine AllReadyH.cons rfl (fun K hK => ?_) AllReadyH.nil
  go_simp
  refine (hzr _).mono ?_
  rintro e a2 ⟨rfl, rfl⟩
  go_wp2_with fail
  have hRa2 := hRad
  refine hK.out _ _ hHeld (fun hHeld2 => ?_)
  clear hK K hHeld hRad
  have hHeld := hHeld2
  clear hHeld2
  try simp only [Act.put, List.setIfInBounds_toArray, List.set_cons_zero, List.set_cons_succ, List.getElem_toArray, List.getElem_cons_zero, List.getElem_cons_succ]
  refine wpAnyH_ready (rs := [3]) (by kernel_rfl) (by simp) ?_
  refine AllReadyH.cons rfl (fun K hK => ?_) AllReadyH.nil
  go_simp
  refine (refat s (z + 2) z _ hsl.out (by omega) (by omega) (by omega)).mono ?_
  rintro e a3 ⟨rfl, hq⟩
  go_wp2_with fail
  have hRa3 := (hRa2).to (by omega) hq
  refine hK.out _ _ ⟨(hHeld.1).to (by omega) hq, (hHeld.2).trans (hq.mono (hHeld.2).size)⟩ (fun hHeld2 => ?_)
  clear hK K hHeld hq hRa2
  have hHeld := hHeld2
  clear hHeld2
  try simp only [Act.put, List.setIfInBounds_toArray, List.set_cons_zero, List.set_cons_succ, List.getElem_toArray, List.getElem_cons_zero, List.getElem_cons_succ]
  refine wpAnyH_ready (rs := [4]) (by kernel_rfl) (by simp) ?_
  refine AllReadyH.cons rfl (fun K hK => ?_) AllReadyH.nil
  rw [if_pos (by rfl)]
  refine wp_store_mid _ _ _ rfl gR 0 (arL 16 (dk s (z + 2))).toArray rfl rfl hRa3.there (size16b _) (all_oneCell_toArray (arL_one 16 (dk s (z + 2)))) ?_
  have hRa4 := hRa3.whole (dk s (z + 2))
  have hSa4 := show Ar (World.setCells a3 gR 0 (arL 16 (dk s (z + 2)))) w.heap.size 16 (s) ∧ Below w.heap.size w (World.setCells a3 gR 0 (arL 16 (dk s (z + 2)))) from ⟨(hHeld.1).apart (b := gR) (by omega) (arL 16 (dk s (z + 2))) 0, (hHeld.2).trans (Below.setCells (Below.refl w.heap.size _) (b := gR) (by omega) (arL 16 (dk s (z + 2))) 0)⟩
  dsimp only [List.toList_toArray]
  generalize World.setCells a3 gR 0 (arL 16 (dk s (z + 2))) = a4 at *
  refine hK.out _ _ hSa4 (fun hHeld2 => ?_)
  clear hK K hHeld hSa4 hRa3
  have hHeld := hHeld2
  clear hHeld2
  try simp only [Act.put]
  refine wpAnyH_done (by kernel_rfl) ?_ _
  have hR9 := hRa4
  have hB9 := hHeld.2
  clear hHeld hRa4
  refine NoPanic.normal ?_
  go_wp2_with fail
  refine bodyPost_ret_ar rfl rfl hR9 Tryd.arr16b (size16b _) rfl ⟨rfl, hB9⟩
end Go.Proofs.YtblhfmlgpldaeaaDoor
