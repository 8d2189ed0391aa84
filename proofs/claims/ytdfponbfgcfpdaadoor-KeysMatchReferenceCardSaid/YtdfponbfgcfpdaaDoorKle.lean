/-
  The walk of the law KeysMatchReference of layer 5: for every key it returns true, and writes nothing that was there.
-/
import Derived.Test.YtdfponbfgcfpdaaDoorKee
import Derived.Test.YtdfponbfgcfpdaaDoorKex
import Derived.Test.YtdfponbfgcfpdaaDoorQar
import Derived.Deep.RegionHeld3
namespace Go.Proofs.YtdfponbfgcfpdaaDoor
open Go.RowKit
set_option linter.unusedVariables false
set_option maxRecDepth 100000

theorem heldK {g : Nat} {f : Nat → Nat} {W1 W W' : World} (k : W.rangeAt g 0 (arL 16 f) ∧ W.cell? ⟨g, 0, none⟩ = some (.int .u8 (f 0 : Nat)) ∧ Boxes W ∧ Base W1 W) (hb : Below W.heap.size W W') :
    W'.rangeAt g 0 (arL 16 f) ∧ W'.cell? ⟨g, 0, none⟩ = some (.int .u8 (f 0 : Nat)) ∧ Boxes W' ∧ Base W1 W' := by
  obtain ⟨k1, k2, k3, k4⟩ := k
  have hg : g < W.heap.size := by
    rcases Nat.lt_or_ge g W.heap.size with h1 | h1
    · exact h1
    · simp [World.cell?, Array.getElem?_eq_none h1] at k2
  exact ⟨fun j v hv => (hb.cell (p := ⟨g, 0 + j, none⟩) hg).trans (k1 j v hv), (hb.cell (p := ⟨g, 0, none⟩) hg).trans k2, k3.keep hb, Base.step k4 hb⟩
theorem heldKb {g : Nat} {f : Nat → Nat} {W1 W : World} (k : W.rangeAt g 0 (arL 16 f) ∧ W.cell? ⟨g, 0, none⟩ = some (.int .u8 (f 0 : Nat)) ∧ Boxes W ∧ Base W1 W) : Boxes W := k.2.2.1

set_option maxHeartbeats 4000000 in
theorem kmatches (f : Nat → Nat) (w : World) (hf : ∀ j, j < 16 → f j < 256) (h : Boxes w) :
    Calls Tryd.prog 3 #[.agg (arL 16 f).toArray] w fun e w' => e = .returned (.bool true) ∧ Below w.heap.size w w' := by
  have hz44 := zero44w
  have hz176 := zero176
  obtain ⟨kA, hkA⟩ : ∃ kA : Array Value, (arL 16 f).toArray = kA := ⟨_, rfl⟩
  obtain ⟨w1, hw1⟩ : ∃ w1 : World, w1 = w.alloc (.cells (arL 16 f).toArray 22) := ⟨_, rfl⟩
  have hs1 : w1.heap.size = w.heap.size + 1 := by rw [hw1]; simp
  have hb1 : Below w.heap.size w w1 := by rw [hw1]; exact (Below.refl _ _).alloc (Nat.le_refl _) _
  have hK1 : Ar w1 w.heap.size 16 f := by rw [hw1]; exact Ar.new w 16 _ _
  rw [hkA] at hw1
  rw [hkA]
  go_enter Tryd.func3, Tryd.ntmps3
  go_upto_region 1 with fail
  rw [← hw1]
  clear hw1
  go_wp2_with fail
  refine (kawake _ (h.keep hb1)).mono ?_
  rintro e w2 ⟨rfl, k2⟩
  have hK2 := hK1.to (by omega) k2
  have hb2 := hb1.trans (k2.mono hb1.size)
  have hs2 := k2.size
  clear hK1 hb1 k2
  go_wp2_with (refine wpList_load_ar rfl _ _ rfl _ _ _ rfl hK2 Tryd.arr16 (size16 _) ?_)
  rw [← hkA]
  refine (kwords f hf _ (h.keep hb2)).mono ?_
  rintro e w3 ⟨rfl, k3⟩
  have hK3 := hK2.to (by omega) k3
  have hb3 := hb2.trans (k3.mono hb2.size)
  have hs3 := k3.size
  clear hK2 hb2 k3 hkA
  obtain ⟨gU, hgU⟩ : ∃ gU : Nat, w3.heap.size = gU := ⟨_, rfl⟩
  have hlw : w.heap.size < gU := by omega
  have hU4 : Aw (w3.alloc (.cells (awL 44 fun _ => 0).toArray 25)) gU 44 (fun _ => 0) := by rw [← hgU]; exact Aw.new w3 44 _ _
  have hK4 : Ar (w3.alloc (.cells (awL 44 fun _ => 0).toArray 25)) w.heap.size 16 f := hK3.alloc (by omega) _
  have hb4 : Below w.heap.size w (w3.alloc (.cells (awL 44 fun _ => 0).toArray 25)) := hb3.alloc (by omega) _
  clear hK3 hb3 hs1 hs2 hs3
  go_upto_region 4 with (refine wpList_store_aw rfl _ _ _ rfl _ _ _ (wd (ek f)) rfl rfl hU4 (size44w _) ?_; intro w5 hU5 hb5 hs5 hk5)
  have hK5 : Ar w5 w.heap.size 16 f := hK4.keep (B := gU) hlw hb5
  have hB5 := hb4.trans (hb5.mono (by omega))
  clear hU4 hK4 hb4 hb5 hk5 hs5 hgU
  try dsimp only [Act.put]
  go_wp2_with (refine wpList_load_ar rfl _ _ rfl _ _ _ rfl hK5 Tryd.arr16 (size16 _) ?_)
  refine (refwords f hf _).mono ?_
  rintro e w6 ⟨rfl, k6⟩
  have hK6 := hK5.to (by omega) k6
  have hU6 := hU5.to (by omega) k6
  have hB6 := hB5.trans (k6.mono hB5.size)
  clear hK5 hB5 hU5 k6
  obtain ⟨gV, hgV⟩ : ∃ gV : Nat, w6.heap.size = gV := ⟨_, rfl⟩
  have hlV : gU < gV := by rw [← hgV]; exact hU6.lt (by omega)
  have hV7 : Ar (w6.alloc (.cells (arL 176 fun _ => 0).toArray 28)) gV 176 (fun _ => 0) := by rw [← hgV]; exact Ar.new w6 176 _ _
  have hK7 : Ar (w6.alloc (.cells (arL 176 fun _ => 0).toArray 28)) w.heap.size 16 f := hK6.alloc (by omega) _
  have hU7 : Aw (w6.alloc (.cells (arL 176 fun _ => 0).toArray 28)) gU 44 (wd (ek f)) := hU6.alloc (by omega) _
  have hB7 : Below w.heap.size w (w6.alloc (.cells (arL 176 fun _ => 0).toArray 28)) := hB6.alloc hB6.size _
  clear hK6 hU6 hB6
  go_upto_region 5 with (refine wpList_store_ar rfl _ _ _ rfl _ _ _ (ek f) rfl rfl hV7 (size176 _) ?_; intro w8 hV8 hb8 hs8 hk8)
  have hK8 := hk8 _ _ _ (by omega) hK7
  have hU8 : Aw w8 gU 44 (wd (ek f)) := hU7.keep (B := gV) hlV hb8
  have hB8 := hB7.trans (hb8.mono (by omega))
  clear hV7 hK7 hU7 hB7 hb8 hs8 hk8 hgV
  try dsimp only [Act.put]
  have HF := Lib.hid hf
  have HB := Lib.hid h
  clear hf h
  go_upto_region 6 with fail
  go_loopw [5] (fun i wr => ∃ n : Nat, n ≤ 44 ∧ i = .int .i64 n ∧ Ar wr w.heap.size 16 f ∧ Aw wr gU 44 (wd (ek f)) ∧ Ar wr gV 176 (ek f) ∧ Below w.heap.size w wr) (fun i _ => 44 - (intOf i).toNat)
  case atStart => exact ⟨0, by omega, rfl, hK8, hU8, hV8, hB8⟩
  case round =>
    clear hK8 hU8 hV8 hB8
    obtain ⟨n, hn, rfl, hK, hU, hV, hB⟩ := hrel
    by_cases hlt : n < 44
    · obtain ⟨c0, _⟩ := hU n hlt
      obtain ⟨v0, _⟩ := hV (n * 4) (by omega)
      obtain ⟨v1, _⟩ := hV (n * 4 + 1) (by omega)
      obtain ⟨v2, _⟩ := hV (n * 4 + 2) (by omega)
      obtain ⟨v3, _⟩ := hV (n * 4 + 3) (by omega)
      have hX : wd (ek f) n = quad (ek f (n * 4)) (ek f (n * 4 + 1)) (ek f (n * 4 + 2)) (ek f (n * 4 + 3)) := by rw [Nat.mul_comm n 4]; rfl
      have l0 := ek_lt f HF.out (n * 4)
      have l1 := ek_lt f HF.out (n * 4 + 1)
      have l2 := ek_lt f HF.out (n * 4 + 2)
      have l3 := ek_lt f HF.out (n * 4 + 3)
      generalize ek f (n * 4) = b0 at *
      generalize ek f (n * 4 + 1) = b1 at *
      generalize ek f (n * 4 + 2) = b2 at *
      generalize ek f (n * 4 + 3) = b3 at *
      generalize wd (ek f) n = X at *
      have hi : (n : Int) < 44 := by omega
      have hne : ((X : Int) != (b0 : Int) * 16777216 + (b1 : Int) * 65536 + (b2 : Int) * 256 + (b3 : Int)) = false := by
        rw [hX]; unfold quad; simp; omega
      clear hX
      go_wp2_with fail
      go_quiet (fail)
      have hK9 := hK.drewN nq
      have hU9 : Aw (wr.drewN nq) gU 44 (wd (ek f)) := hU.drewN nq
      have hV9 := hV.drewN nq
      have hB9 : Below w.heap.size w (wr.drewN nq) := ⟨hB.os, hB.tape, hB.output, hB.size, hB.block⟩
      clear hK hU hV hB v0 v1 v2 v3 c0 hne
      go_wp2_with fail
      go_roundw
      case rel => exact ⟨n + 1, by omega, by go_num, hK9, hU9, hV9, hB9⟩
      case measure => simp [intOf]; omega
    · obtain rfl : n = 44 := by omega
      have hr := hK.range
      have c0 := (hK 0 (by omega)).1
      have hbx := HB.out.keep hB
      have hu := Tryd.arr16
      have hsz := size16 f
      have heq := eq176 (ek f)
      have hgd := Tryd.eqg176
      clear hU hV hz44 hz176
      go_wp2_with fail
      refine wp_region_held_drew (S := fun W => W.rangeAt w.heap.size 0 (arL 16 f) ∧ W.cell? ⟨w.heap.size, 0, none⟩ = some (.int .u8 (f 0 : Nat)) ∧ Boxes W ∧ Base wr W) (by kernel_rfl) ⟨hr, c0, hbx, (Base.refl _).drew⟩ (fun hHeld => ?_)
      refine wpAnyH_take (i := 0) (v := .agg (arL 16 f).toArray) rfl (by kernel_rfl) (by kernel_rfl) (by kernel_rfl) (fun _ _ _ h => h) (yieldsIf_load_mid (by rfl) _ _ rfl w.heap.size 0 rfl (arL 16 f) _ (fun W hSw => hSw.1) Tryd.arr16 rfl (size16 f)) (by assumption) ?_
      simp only [Act.put, List.setIfInBounds_toArray, List.set_cons_zero, List.set_cons_succ, List.getElem_toArray, List.getElem_cons_zero]
      refine wpAnyH_take (i := 2) (v := .agg (arL 16 f).toArray) rfl (by kernel_rfl) (by kernel_rfl) (by kernel_rfl) (fun _ _ _ h => h) (yieldsIf_load_mid (by rfl) _ _ rfl w.heap.size 0 rfl (arL 16 f) _ (fun W hSw => hSw.1) Tryd.arr16 rfl (size16 f)) (by assumption) ?_
      simp only [Act.put, List.setIfInBounds_toArray, List.set_cons_zero, List.set_cons_succ, List.getElem_toArray, List.getElem_cons_zero, List.getElem_cons_succ]
      refine wpAnyH_ready (rs := [1]) (by kernel_rfl) (by simp) ?_
      refine AllReadyH.cons rfl (fun K hK => ?_) AllReadyH.nil
      go_simp
      refine (kexpand f HF.out _ (heldKb hHeld)).mono ?_
      rintro e w6 ⟨rfl, hb6⟩
      go_wp2_with fail
      refine hK.out _ _ (heldK hHeld hb6) (fun hHeld => ?_)
      clear hK K hb6
      refine wpAnyH_ready (rs := [3]) (by kernel_rfl) (by simp) ?_
      refine AllReadyH.cons rfl (fun K hK => ?_) AllReadyH.nil
      go_simp
      refine (refexpand f HF.out _).mono ?_
      rintro e w7 ⟨rfl, hb6⟩
      go_wp2_with fail
      refine hK.out _ _ (heldK hHeld hb6) (fun hHeld => ?_)
      clear hK K hb6
      refine wpAnyH_take (i := 4) (v := ?va4) rfl (by kernel_rfl) (by kernel_rfl) (by kernel_rfl) (fun _ _ _ h => h) (Or.inl ⟨by rfl, ?hya4⟩) (by assumption) ?resta4
      case hya4 =>
        intro W hSw
        obtain ⟨q0, q1, q2, q3⟩ := hSw
        go_simp
        try with_reducible rfl
      simp only [Act.put, List.setIfInBounds_toArray, List.set_cons_zero, List.set_cons_succ, List.getElem_toArray, List.getElem_cons_zero, List.getElem_cons_succ]
      refine wpAnyH_take (i := 5) (v := ?va5) rfl (by kernel_rfl) (by kernel_rfl) (by kernel_rfl) (fun _ _ _ h => h) (Or.inl ⟨by rfl, ?hya5⟩) (by assumption) ?resta5
      case hya5 =>
        intro W hSw
        obtain ⟨q0, q1, q2, q3⟩ := hSw
        go_simp
        try with_reducible rfl
      simp only [Act.put, List.setIfInBounds_toArray, List.set_cons_zero, List.set_cons_succ, List.getElem_toArray, List.getElem_cons_zero, List.getElem_cons_succ]
      refine wpAnyH_done (by kernel_rfl) ?_ _
      have hH : Base wr _ := hHeld.2.2.2
      clear hHeld
      go_wp2_with fail
      go_ret
      exact ⟨rfl, hB.trans (Below.mono hH hB.size)⟩
end Go.Proofs.YtdfponbfgcfpdaaDoor
