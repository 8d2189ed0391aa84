/-
  The check of the documentation's examples of layer 12 returns true. No condition but what the table of S-boxes holds; what was there stays as it was.
-/
import Derived.Test.YthapnnbdoecoaaaDoorSez
import Derived.Test.YthapnnbdoecoaaaDoorGbk
import Derived.Deep.RegionHeld3
namespace Go.Proofs.YthapnnbdoecoaaaDoor
open Go.RowKit
set_option linter.unusedVariables false
set_option maxRecDepth 100000

set_option linter.unusedSimpArgs false
theorem run_zero12 (w : World) : (Instr.build 23 #[]).run Tryd.prog w = .ok (.agg (arL 12 fun _ => 0).toArray) w := run_build w _ _ _ (by kernel_rfl)
theorem zF12 : B12 (fun _ => 0) := fun _ _ => by show 0 < 256; omega
/-- Five bytes that are 0. -/
def l5 : List UInt8 := List.replicate 5 0
theorem l5_lF (j : Nat) : lF l5 j = 0 := by
  unfold lF l5
  rw [List.getD, List.getElem?_replicate]
  split <;> rfl
theorem sl_five {w : World} {g : Nat} (h : Ar w g 5 fun _ => 0) : Sl w w.heap.size (some ⟨g, 0, none⟩) 5 l5 :=
  Sl.of_ar (l := l5) (h.ext (fun j _ => (l5_lF j).symm)) rfl (h.lt (by omega))
theorem ssize5 (w : World) : Calls Tryd.prog 15 #[.int .i64 5] w fun e w' => e = .returned (.int .i64 21) ∧ w' = w := ssize 5 w (by omega) (by omega)
theorem ssizem (w : World) : Calls Tryd.prog 15 #[.int .i64 (-1)] w fun e w' => e = .returned (.int .i64 0) ∧ w' = w := ssize (-1) w (by omega) (by omega)
def e80 (j : Nat) : Nat := if j = 5 then 128 else 0
theorem cs_five : E16 (csF l5) e80 := by
  show ∀ j, j < 16 → csF l5 j = e80 j
  decide +kernel
theorem mk5 (V : World) : (Instr.makeSlice 24 (.int .i64 5) (.int .i64 5)).run Tryd.prog V = .ok (.slice (some ⟨V.heap.size, 0, none⟩) 5 5) (V.alloc (.cells (arL 5 fun _ => 0).toArray 5)) := make8 5 (by omega) V
theorem run_e80 (w : World) : (Instr.build 22 #[(5, .int .u8 128)]).run Tryd.prog w = .ok (.agg (arL 16 e80).toArray) w := run_build w _ _ _ (by kernel_rfl)

set_option maxHeartbeats 8000000 in
theorem sawake  (w : World)  (hs : Boxes w) :
    Calls Tryd.prog 8 #[] w fun e w' => e = .returned (.bool true) ∧ Below w.heap.size w w' := by
  have HX := Lib.hid hs
  have hz := zero16b
  have z0 := Lib.hid run_zero16
  have n0 := Lib.hid run_zero12
  have hmk := mk5
  have hBw : Below w.heap.size w w := Below.refl _ _
  clear  hs 
  go_enter Tryd.func8, Tryd.ntmps8
  obtain ⟨s, hs0⟩ : ∃ s : Nat → Nat, enF zF zF = s := ⟨_, rfl⟩
  have HS0 := Lib.hid hs0
  have HSL := Lib.hid (show B16 s by rw [← hs0]; exact enR_lt zF_lt zF_lt 10)
  clear hs0
  go_wp2_with (refine wpList_build_by rfl _ _ rfl [] rfl _ (z0.out _) ?_)
  refine (fnew zF _ zF_lt (HX.out.keep hBw)).mono ?_
  rintro e x1 ⟨gC, rfl, hgC, hCx1, hq⟩
  have hBx1 := hBw.trans (hq.mono hBw.size)
  clear hq  hBw
  go_wp2_with fail
  refine (tnew (some ⟨gC, 0, none⟩) zF _ zF_lt (exp_made gC zF _ hCx1) (HX.out.keep hBx1)).mono ?_
  rintro e x2 ⟨gT, rfl, hgT, hTx2, hq⟩
  rw [HS0.out] at hTx2
  have hCx2 := (hCx1).to hq
  have hBx2 := hBx1.trans (hq.mono hBx1.size)
  clear hq hCx1 hBx1
  obtain ⟨a, ha⟩ : ∃ a : Nat → Nat, o0F (enF zF (nbF fun _ => 0)) 0 = a := ⟨_, rfl⟩
  have HA := Lib.hid ha
  clear ha
  have HCSB := Lib.hid (csF_lt l5)
  have HOFB := Lib.hid (show B16 (ofF s a 5) from ofF_lt HSL.out (by rw [← HA.out]; exact o0F_lt (enR_lt zF_lt (nbF_lt zF12) 10) _) 5)
  obtain ⟨m3, hm3⟩ : ∃ V : World, V = x2.alloc (.cells (arL 5 fun _ => 0).toArray 5) := ⟨_, rfl⟩
  have hq : Below x2.heap.size x2 m3 := by rw [hm3]; exact (Below.refl _ _).alloc (Nat.le_refl _) _
  have hpm3 : Ar m3 x2.heap.size 5 (fun _ => 0) := by rw [hm3]; exact Ar.new x2 5 _ _
  have hCm3 := (hCx2).to hq
  have hTm3 := (hTx2).to hq
  have hBm3 := hBx2.trans (hq.mono hBx2.size)
  clear hq hCx2 hTx2 hBx2
  go_wp2_with (refine wpList_build_by rfl _ _ rfl [] rfl _ (n0.out _) ?_)
  rw [← hm3]
  clear hm3
  refine (sseal (some ⟨gT, 0, none⟩) zF s (fun _ => 0) a none 0 0 [] _ 5 5 l5 _ zF_lt HS0.out zF12 HA.out (sl_nil _ _) (Nat.le_refl _) (by omega) (sl_five hpm3) (Nat.le_refl _) (by omega) (wtabs gT gC zF s _ HS0.out (hTm3) (hCm3)) (HX.out.keep hBm3)).mono ?_
  rintro e x4 ⟨A2, c2, rfl, hu0, hcu, hq⟩
  obtain ⟨gu, hgu⟩ : ∃ g, x4.heap.size - 1 = g := ⟨_, rfl⟩
  have hux4 : Sy x4 gu A2 (5 + 16) (seL zF s a l5 (tgF zF s (csF l5) (ofF s a 5) [])) := by rw [← hgu]; exact Sy.new hu0 (Nat.lt_of_lt_of_le (Nat.zero_lt_of_lt (hCm3.lt)) hq.size)
  clear hu0 hgu
  have hCx4 := (hCm3).to hq
  have hTx4 := (hTm3).to hq
  have hBx4 := hBm3.trans (hq.mono hBm3.size)
  clear hq hCm3 hTm3 hBm3
  clear hpm3
  obtain ⟨m5, hm5⟩ : ∃ V : World, V = x4.alloc (.cells (arL 5 fun _ => 0).toArray 5) := ⟨_, rfl⟩
  have hq : Below x4.heap.size x4 m5 := by rw [hm5]; exact (Below.refl _ _).alloc (Nat.le_refl _) _
  have hrm5 : Ar m5 x4.heap.size 5 (fun _ => 0) := by rw [hm5]; exact Ar.new x4 5 _ _
  have hCm5 := (hCx4).to hq
  have hTm5 := (hTx4).to hq
  have hum5 := (hux4).to hq
  have hBm5 := hBx4.trans (hq.mono hBx4.size)
  clear hq hCx4 hTx4 hux4 hBx4
  go_wp2_with (refine wpList_build_by rfl _ _ rfl [] rfl _ (n0.out _) ?_)
  rw [← hm5]
  clear hm5
  refine (scrypt (some ⟨gT, 0, none⟩) zF s (fun _ => 0) a _ 5 5 l5 _ zF_lt HS0.out zF12 HA.out (sl_five hrm5) (Nat.le_refl _) (by omega) (wtabs gT gC zF s _ HS0.out (hTm5) (hCm5)) (HX.out.keep hBm5)).mono ?_
  rintro e x6 ⟨A3, c3, rfl, hc0, hcc, hq⟩
  obtain ⟨gc, hgc⟩ : ∃ g, x6.heap.size - 1 = g := ⟨_, rfl⟩
  have hcx6 : Sy x6 gc A3 (5) (ctL zF s a l5) := by rw [← hgc]; exact Sy.new hc0 (Nat.lt_of_lt_of_le (Nat.zero_lt_of_lt (hCm5.lt)) hq.size)
  clear hc0 hgc
  have hCx6 := (hCm5).to hq
  have hTx6 := (hTm5).to hq
  have hux6 := (hum5).to hq
  have hBx6 := hBm5.trans (hq.mono hBm5.size)
  clear hq hCm5 hTm5 hum5 hBm5
  clear hrm5 hmk
  obtain ⟨O, hO⟩ : ∃ O, ofF s a 5 = O := ⟨_, rfl⟩
  rw [hO] at HOFB
  obtain ⟨G, hG⟩ : ∃ G, csF l5 = G := ⟨_, rfl⟩
  have HG := Lib.hid (show E16 G e80 by rw [← hG]; exact cs_five)
  rw [hG] at HCSB
  obtain ⟨t, ht⟩ : ∃ t, tgF zF s G O [] = t := ⟨_, rfl⟩
  have HTB := Lib.hid (show B16 t by rw [← ht]; exact tgF_lt zF_lt HSL.out HCSB.out HOFB.out [])
  have HTD := Lib.hid ht
  rw [hO, hG, ht] at hux6
  rw [hO, hG]
  clear hO hG ht
  have HCU := Lib.hid hcu
  clear hcu hcc
  obtain ⟨v7, hv7⟩ : ∃ V : World, V = x6.alloc (.cells (arL 16 fun _ => 0).toArray 22) := ⟨_, rfl⟩
  have hsv7 : v7.heap.size = x6.heap.size + 1 := by rw [hv7]; simp
  have hq : Below x6.heap.size x6 v7 := by rw [hv7]; exact (Below.refl _ _).alloc (Nat.le_refl _) _
  have hCv7 := (hCx6).to hq
  have hTv7 := (hTx6).to hq
  have huv7 := (hux6).to hq
  have hcv7 := (hcx6).to hq
  have hBv7 := hBx6.trans (hq.mono hBx6.size)
  have hxv7 : Ar v7 x6.heap.size 16 (fun _ => 0) := by rw [hv7]; exact Ar.new x6 16 _ _
  have hlgCgx : gC < x6.heap.size := hCx6.lt
  have hlgTgx : gT < x6.heap.size := hTx6.lt
  have hlgugx : gu < x6.heap.size := hux6.lt
  have hlgcgx : gc < x6.heap.size := hcx6.lt
  have hlwgx : w.heap.size ≤ x6.heap.size := hBx6.size
  clear hq hCx6 hTx6 hux6 hcx6 hBx6
  obtain ⟨v8, hv8⟩ : ∃ V : World, V = v7.alloc (.cells (arL 16 fun _ => 0).toArray 22) := ⟨_, rfl⟩
  have hq : Below v7.heap.size v7 v8 := by rw [hv8]; exact (Below.refl _ _).alloc (Nat.le_refl _) _
  have hCv8 := (hCv7).to hq
  have hTv8 := (hTv7).to hq
  have huv8 := (huv7).to hq
  have hcv8 := (hcv7).to hq
  have hxv8 := hxv7.to (by omega) hq
  have hBv8 := hBv7.trans (hq.mono hBv7.size)
  have hyv8 : Ar v8 (x6.heap.size + 1) 16 (fun _ => 0) := by rw [hv8, ← hsv7]; exact Ar.new v7 16 _ _
  clear hq hsv7 hCv7 hTv7 huv7 hcv7 hxv7 hBv7
  go_upto_region 4 with (first | (refine wpList_store_ar rfl _ _ _ rfl _ _ _ (G) rfl rfl (by rw [← hv7, ← hv8]; exact hxv8) (size16b _) ?_; intro x9 hxx9 bel8 siz8 kee8) | (refine wpList_store_ar rfl _ _ _ rfl _ _ _ (O) rfl rfl (kee8 _ _ _ (by omega) (by rw [← hv7, ← hv8]; exact hyv8)) (size16b _) ?_; intro x10 hyx10 bel9 siz9 kee9) | fail)
  rw [← hv7, ← hv8] at bel8
  obtain ⟨gx, hgx⟩ : ∃ g : Nat, x6.heap.size = g := ⟨_, rfl⟩
  obtain ⟨gy, hgy⟩ : ∃ g : Nat, x6.heap.size + 1 = g := ⟨_, rfl⟩
  have hlgxgy : gx < gy := by omega
  try rw [hgy]
  try rw [hgx]
  rw [hgx] at hxx9 bel8 hlwgx hlgCgx hlgTgx hlgugx hlgcgx
  rw [hgy] at hyx10 bel9
  have hxx10 := hxx9.keep hlgxgy bel9
  have hCx10 := (hCv8.keep hlgCgx bel8).keep (Nat.lt_trans hlgCgx hlgxgy) bel9
  have hTx10 := (hTv8.keep hlgTgx bel8).keep (Nat.lt_trans hlgTgx hlgxgy) bel9
  have hux10 := (huv8.keep hlgugx bel8).keep (Nat.lt_trans hlgugx hlgxgy) bel9
  have hcx10 := (hcv8.keep hlgcgx bel8).keep (Nat.lt_trans hlgcgx hlgxgy) bel9
  have hBx10 := (hBv8.trans (bel8.mono hlwgx)).trans (bel9.mono (Nat.le_trans hlwgx (Nat.le_of_lt hlgxgy)))
  clear hxx9 bel8 bel9 hCv8 hTv8 huv8 hcv8 hxv8 hyv8 hBv8 siz8 siz9 kee8 kee9 hv7 hv8 hgx hgy
  try dsimp only [Act.put]
  go_wp2_with (first | (refine wpList_load_ar rfl _ _ rfl _ _ _ rfl hxx10 Tryd.arr16b (size16b _) ?_) | (refine wpList_load_ar rfl _ _ rfl _ _ _ rfl hyx10 Tryd.arr16b (size16b _) ?_))
  refine (stag (some ⟨gT, 0, none⟩) zF s G O none 0 0 [] _ zF_lt HS0.out HCSB.out HOFB.out (sl_nil _ _) (Nat.le_refl _) (by omega) (wtabs gT gC zF s _ HS0.out (hTx10) (hCx10)) (HX.out.keep hBx10)).mono ?_
  rintro e x11 ⟨rfl, hq⟩
  rw [HTD.out]
  have hCx11 := (hCx10).to hq
  have hTx11 := (hTx10).to hq
  have hux11 := (hux10).to hq
  have hcx11 := (hcx10).to hq
  have hxx11 := (hxx10).to (by omega) hq
  have hyx11 := (hyx10).to (by omega) hq
  have hBx11 := hBx10.trans (hq.mono hBx10.size)
  clear hq hCx10 hTx10 hux10 hcx10 hxx10 hyx10 hBx10
  obtain ⟨gg, hgg⟩ : ∃ g : Nat, x11.heap.size = g := ⟨_, rfl⟩
  have hlgCgg : gC < gg := by rw [← hgg]; exact hCx11.lt
  have hlgTgg : gT < gg := by rw [← hgg]; exact hTx11.lt
  have hlgugg : gu < gg := by rw [← hgg]; exact hux11.lt
  have hlgcgg : gc < gg := by rw [← hgg]; exact hcx11.lt
  have hlgxgg : gx < gg := by rw [← hgg]; exact hxx11.lt (by omega)
  have hlgygg : gy < gg := by rw [← hgg]; exact hyx11.lt (by omega)
  have hlwgg : w.heap.size ≤ gg := by rw [← hgg]; exact hBx11.size
  have hq : Below x11.heap.size x11 (x11.alloc (.cells (arL 16 fun _ => 0).toArray 22)) := (Below.refl _ _).alloc (Nat.le_refl _) _
  have hCx12a := (hCx11).to hq
  have hTx12a := (hTx11).to hq
  have hux12a := (hux11).to hq
  have hcx12a := (hcx11).to hq
  have hxx12a := (hxx11).to (by omega) hq
  have hyx12a := (hyx11).to (by omega) hq
  have hgx12a := Ar.new x11 16 (fun _ => 0) 22
  have hBx12a := hBx11.alloc hBx11.size (.cells (arL 16 fun _ => 0).toArray 22)
  rw [hgg] at hgx12a
  clear hq hCx11 hTx11 hux11 hcx11 hxx11 hyx11 hBx11
  go_upto_region 5 with (first | (refine wpList_store_ar rfl _ _ _ rfl _ _ _ (t) rfl rfl hgx12a (size16b _) ?_; intro x12 hgx12 belx12 sizx12 keex12) | fail)
  have hCx12 := (hCx12a).keep hlgCgg belx12
  have hTx12 := (hTx12a).keep hlgTgg belx12
  have hux12 := (hux12a).keep hlgugg belx12
  have hcx12 := (hcx12a).keep hlgcgg belx12
  have hxx12 := (hxx12a).keep hlgxgg belx12
  have hyx12 := (hyx12a).keep hlgygg belx12
  have hBx12 := hBx12a.trans (belx12.mono hlwgg)
  clear hCx12a hTx12a hux12a hcx12a hxx12a hyx12a hgx12a hBx12a belx12 sizx12 keex12 hgg
  try dsimp only [Act.put]
  obtain ⟨A9, hsf, hsf2⟩ := slice_from A2 21 c2 5 (by omega) (by have := HCU.out; omega)
  have HSF := Lib.hid hsf
  have HSF2 := Lib.hid hsf2
  have HST := Lib.hid (slice_to2 A2 21 c2 5 (by omega) (by have := HCU.out; omega))
  clear hsf hsf2
  have H80 := Lib.hid run_e80
  have hgx := eq16_true HG.out
  have heq := fun X => eq16_true (f := X) (g := X) (fun _ _ => rfl)
  have hgd := Tryd.eqg16
  go_upto_region 7 with fail
  refine wp_region_noPanic ?_
  refine wp_region_held_drew (S := fun W => Ci W gC (zF) ∧ Ti W gT (some ⟨gC, 0, none⟩) (s) ∧ Sy W gu A2 (5 + 16) (seL zF s a l5 t) ∧ Sy W gc A3 (5) (ctL zF s a l5) ∧ Ar W gx 16 (G) ∧ Ar W gy 16 (O) ∧ Ar W gg 16 (t) ∧ Below w.heap.size w W) (by kernel_rfl) ⟨hCx12.drew, hTx12.drew, hux12.drew, hcx12.drew, hxx12.drew, hyx12.drew, hgx12.drew, hBx12.drew⟩ (fun hHeld => ?_)
  clear hCx12 hTx12 hux12 hcx12 hxx12 hyx12 hgx12 hBx12 
  generalize World.drew x12 = qd at *
  refine wpAnyH_ready (rs := [0]) (by kernel_rfl) (by simp) ?_
  refine AllReadyH.cons rfl (fun K hK => ?_) AllReadyH.nil
  go_simp
  refine (ssize5 _).mono ?_
  rintro e q1 ⟨rfl, rfl⟩
  go_wp2_with fail
  refine hK.out _ _ hHeld (fun hHeld2 => ?_)
  clear hK K hHeld
  have hHeld := hHeld2
  clear hHeld2
  try simp only [Act.put, List.setIfInBounds_toArray, List.set_cons_zero, List.set_cons_succ, List.getElem_toArray, List.getElem_cons_zero, List.getElem_cons_succ]
  refine wpAnyH_take (i := 1) (v := ?vq2) rfl (by kernel_rfl) (by kernel_rfl) (by kernel_rfl) (fun _ _ _ h => h) (Or.inl ⟨by rfl, ?hyq2⟩) (by assumption) ?restq2
  case hyq2 =>
    intro W hSw
    go_simp
    try with_reducible rfl
  simp only [Act.put, List.setIfInBounds_toArray, List.set_cons_zero, List.set_cons_succ, List.getElem_toArray, List.getElem_cons_zero, List.getElem_cons_succ]
  refine wpAnyH_take (i := 2) (v := ?vq3) rfl (by kernel_rfl) (by kernel_rfl) (by kernel_rfl) (fun _ _ _ h => h) (Or.inl ⟨by rfl, ?hyq3⟩) (by assumption) ?restq3
  case hyq3 =>
    intro W hSw
    go_simp
    try with_reducible rfl
  simp only [Act.put, List.setIfInBounds_toArray, List.set_cons_zero, List.set_cons_succ, List.getElem_toArray, List.getElem_cons_zero, List.getElem_cons_succ]
  refine wpAnyH_ready (rs := [3]) (by kernel_rfl) (by simp) ?_
  refine AllReadyH.cons rfl (fun K hK => ?_) AllReadyH.nil
  go_simp
  refine (ssizem _).mono ?_
  rintro e q4 ⟨rfl, rfl⟩
  go_wp2_with fail
  refine hK.out _ _ hHeld (fun hHeld2 => ?_)
  clear hK K hHeld
  have hHeld := hHeld2
  clear hHeld2
  try simp only [Act.put, List.setIfInBounds_toArray, List.set_cons_zero, List.set_cons_succ, List.getElem_toArray, List.getElem_cons_zero, List.getElem_cons_succ]
  refine wpAnyH_take (i := 4) (v := ?vq5) rfl (by kernel_rfl) (by kernel_rfl) (by kernel_rfl) (fun _ _ _ h => h) (Or.inl ⟨by rfl, ?hyq5⟩) (by assumption) ?restq5
  case hyq5 =>
    intro W hSw
    go_simp
    try with_reducible rfl
  simp only [Act.put, List.setIfInBounds_toArray, List.set_cons_zero, List.set_cons_succ, List.getElem_toArray, List.getElem_cons_zero, List.getElem_cons_succ]
  refine wpAnyH_take (i := 5) (v := ?vq6) rfl (by kernel_rfl) (by kernel_rfl) (by kernel_rfl) (fun _ _ _ h => h) (Or.inl ⟨by rfl, ?hyq6⟩) (by assumption) ?restq6
  case hyq6 =>
    intro W hSw
    go_simp
    try with_reducible rfl
  simp only [Act.put, List.setIfInBounds_toArray, List.set_cons_zero, List.set_cons_succ, List.getElem_toArray, List.getElem_cons_zero, List.getElem_cons_succ]
  refine wpAnyH_take (i := 6) (v := ?vq7) rfl (by kernel_rfl) (by kernel_rfl) (by kernel_rfl) (fun _ _ _ h => h) (Or.inl ⟨by rfl, ?hyq7⟩) (by assumption) ?restq7
  case hyq7 =>
    intro W hSw
    go_simp
    try with_reducible rfl
  simp only [Act.put, List.setIfInBounds_toArray, List.set_cons_zero, List.set_cons_succ, List.getElem_toArray, List.getElem_cons_zero, List.getElem_cons_succ]
  refine wpAnyH_take (i := 7) (v := ?vq8) rfl (by kernel_rfl) (by kernel_rfl) (by kernel_rfl) (fun _ _ _ h => h) (Or.inl ⟨by rfl, ?hyq8⟩) (by assumption) ?restq8
  case hyq8 =>
    intro W hSw
    go_simp
    try with_reducible rfl
  simp only [Act.put, List.setIfInBounds_toArray, List.set_cons_zero, List.set_cons_succ, List.getElem_toArray, List.getElem_cons_zero, List.getElem_cons_succ]
  refine wpAnyH_take (i := 8) (v := ?vq9) rfl (by kernel_rfl) (by kernel_rfl) (by kernel_rfl) (fun _ _ _ h => h) (Or.inl ⟨by rfl, ?hyq9⟩) (by assumption) ?restq9
  case hyq9 =>
    intro W hSw
    have h5c : (5 : Int) ≤ (c2 : Int) := by have := HCU.out; omega
    go_simp
    try with_reducible rfl
  simp only [Act.put, List.setIfInBounds_toArray, List.set_cons_zero, List.set_cons_succ, List.getElem_toArray, List.getElem_cons_zero, List.getElem_cons_succ]
  refine wpAnyH_take (i := 9) (v := ?vq10) rfl (by kernel_rfl) (by kernel_rfl) (by kernel_rfl) (fun _ _ _ h => h) (Or.inl ⟨by rfl, ?hyq10⟩) (by assumption) ?restq10
  case hyq10 =>
    intro W hSw
    go_simp
    try with_reducible rfl
  simp only [Act.put, List.setIfInBounds_toArray, List.set_cons_zero, List.set_cons_succ, List.getElem_toArray, List.getElem_cons_zero, List.getElem_cons_succ]
  refine wpAnyH_ready (rs := [10]) (by kernel_rfl) (by simp) ?_
  refine AllReadyH.cons rfl (fun K hK => ?_) AllReadyH.nil
  go_simp
  refine (same_true A2 A3 5 c2 c3 (ctL zF s a l5) _ (by rw [← seL_take zF s a l5 t (n := 5) rfl]; exact sl_take2 (hHeld.2.2.1).sl (by omega)) (hHeld.2.2.2.1).sl (by omega)).mono ?_
  rintro e q11 ⟨rfl, hq⟩
  go_wp2_with fail
  refine hK.out _ _ ⟨(hHeld.1).to hq, (hHeld.2.1).to hq, (hHeld.2.2.1).to hq, (hHeld.2.2.2.1).to hq, (hHeld.2.2.2.2.1).to (by omega) hq, (hHeld.2.2.2.2.2.1).to (by omega) hq, (hHeld.2.2.2.2.2.2.1).to (by omega) hq, (hHeld.2.2.2.2.2.2.2).trans (hq.mono (hHeld.2.2.2.2.2.2.2).size)⟩ (fun hHeld2 => ?_)
  clear hK K hHeld hq
  have hHeld := hHeld2
  clear hHeld2
  try simp only [Act.put, List.setIfInBounds_toArray, List.set_cons_zero, List.set_cons_succ, List.getElem_toArray, List.getElem_cons_zero, List.getElem_cons_succ]
  refine wpAnyH_take (i := 11) (v := ?vq12) rfl (by kernel_rfl) (by kernel_rfl) (by kernel_rfl) (fun _ _ _ h => h) (Or.inl ⟨by rfl, ?hyq12⟩) (by assumption) ?restq12
  case hyq12 =>
    intro W hSw
    go_simp
    try with_reducible rfl
  simp only [Act.put, List.setIfInBounds_toArray, List.set_cons_zero, List.set_cons_succ, List.getElem_toArray, List.getElem_cons_zero, List.getElem_cons_succ]
  refine wpAnyH_take (i := 12) (v := ?vq13) rfl (by kernel_rfl) (by kernel_rfl) (by kernel_rfl) (fun _ _ _ h => h) (Or.inl ⟨by rfl, ?hyq13⟩) (by assumption) ?restq13
  case hyq13 =>
    intro W hSw
    go_simp
    try with_reducible rfl
  simp only [Act.put, List.setIfInBounds_toArray, List.set_cons_zero, List.set_cons_succ, List.getElem_toArray, List.getElem_cons_zero, List.getElem_cons_succ]
  refine wpAnyH_take (i := 13) (v := ?vq14) rfl (by kernel_rfl) (by kernel_rfl) (by kernel_rfl) (fun _ _ _ h => h) (Or.inl ⟨by rfl, ?hyq14⟩) (by assumption) ?restq14
  case hyq14 =>
    intro W hSw
    go_simp
    try with_reducible rfl
  simp only [Act.put, List.setIfInBounds_toArray, List.set_cons_zero, List.set_cons_succ, List.getElem_toArray, List.getElem_cons_zero, List.getElem_cons_succ]
  refine wpAnyH_take (i := 14) (v := ?vq15) rfl (by kernel_rfl) (by kernel_rfl) (by kernel_rfl) (fun _ _ _ h => h) (Or.inl ⟨by rfl, ?hyq15⟩) (by assumption) ?restq15
  case hyq15 =>
    intro W hSw
    have hsf : ∀ W, (Instr.sliceAt 24 (.slice A2 21 c2) (some (.int .i64 5)) none none).run Tryd.prog W = .ok (.slice A9 16 (c2 - 5)) W := HSF.out
    go_simp
    try with_reducible rfl
  simp only [Act.put, List.setIfInBounds_toArray, List.set_cons_zero, List.set_cons_succ, List.getElem_toArray, List.getElem_cons_zero, List.getElem_cons_succ]
  refine wpAnyH_take (i := 15) (v := ?vq16) rfl (by kernel_rfl) (by kernel_rfl) (by kernel_rfl) (fun _ _ _ h => h) (Or.inl ⟨by rfl, ?hyq16⟩) (by assumption) ?restq16
  case hyq16 =>
    intro W hSw
    have hsla := slice16all2
    go_simp
    try with_reducible rfl
  simp only [Act.put, List.setIfInBounds_toArray, List.set_cons_zero, List.set_cons_succ, List.getElem_toArray, List.getElem_cons_zero, List.getElem_cons_succ]
  refine wpAnyH_ready (rs := [16]) (by kernel_rfl) (by simp) ?_
  refine AllReadyH.cons rfl (fun K hK => ?_) AllReadyH.nil
  go_simp
  refine (same_true A9 _ 16 (c2 - 5) 16 (liB 16 t) _ (by rw [← seL_drop zF s a l5 t (n := 5) rfl]; exact HSF2.out _ _ _ (hHeld.2.2.1).sl) (sl_arr (hHeld.2.2.2.2.2.2.1) HTB.out) (by omega)).mono ?_
  rintro e q17 ⟨rfl, hq⟩
  go_wp2_with fail
  refine hK.out _ _ ⟨(hHeld.1).to hq, (hHeld.2.1).to hq, (hHeld.2.2.1).to hq, (hHeld.2.2.2.1).to hq, (hHeld.2.2.2.2.1).to (by omega) hq, (hHeld.2.2.2.2.2.1).to (by omega) hq, (hHeld.2.2.2.2.2.2.1).to (by omega) hq, (hHeld.2.2.2.2.2.2.2).trans (hq.mono (hHeld.2.2.2.2.2.2.2).size)⟩ (fun hHeld2 => ?_)
  clear hK K hHeld hq
  have hHeld := hHeld2
  clear hHeld2
  try simp only [Act.put, List.setIfInBounds_toArray, List.set_cons_zero, List.set_cons_succ, List.getElem_toArray, List.getElem_cons_zero, List.getElem_cons_succ]
  refine wpAnyH_take (i := 17) (v := ?vq18) rfl (by kernel_rfl) (by kernel_rfl) (by kernel_rfl) (fun _ _ _ h => h) (Or.inl ⟨by rfl, ?hyq18⟩) (by assumption) ?restq18
  case hyq18 =>
    intro W hSw
    go_simp
    try with_reducible rfl
  simp only [Act.put, List.setIfInBounds_toArray, List.set_cons_zero, List.set_cons_succ, List.getElem_toArray, List.getElem_cons_zero, List.getElem_cons_succ]
  refine wpAnyH_take (i := 18) (v := ?vq19) rfl (by kernel_rfl) (by kernel_rfl) (by kernel_rfl) (fun _ _ _ h => h) (Or.inl ⟨by rfl, ?hyq19⟩) (by assumption) ?restq19
  case hyq19 =>
    intro W hSw
    go_simp
    try with_reducible rfl
  simp only [Act.put, List.setIfInBounds_toArray, List.set_cons_zero, List.set_cons_succ, List.getElem_toArray, List.getElem_cons_zero, List.getElem_cons_succ]
  refine wpAnyH_take (i := 19) (v := .agg (arL 16 (G)).toArray) rfl (by kernel_rfl) (by kernel_rfl) (by kernel_rfl) (fun _ _ _ h => h) (yieldsIf_load_mid (by rfl) _ _ rfl gx (0) rfl (arL 16 (G)) _ (fun W hSw => hSw.2.2.2.2.1.range) Tryd.arr16b rfl (size16b _)) (by assumption) ?_
  simp only [Act.put, List.setIfInBounds_toArray, List.set_cons_zero, List.set_cons_succ, List.getElem_toArray, List.getElem_cons_zero, List.getElem_cons_succ]
  refine wpAnyH_take (i := 20) (v := .agg (arL 16 e80).toArray) rfl (by kernel_rfl) (by kernel_rfl) (by kernel_rfl) (fun _ _ _ h => h) (yieldsIf_build_by (by rfl) _ _ rfl [(5, .int .u8 128)] rfl (arL 16 e80).toArray H80.out) (by assumption) ?_
  simp only [Act.put, List.setIfInBounds_toArray, List.set_cons_zero, List.set_cons_succ, List.getElem_toArray, List.getElem_cons_zero, List.getElem_cons_succ]
  refine wpAnyH_take (i := 21) (v := ?vq20) rfl (by kernel_rfl) (by kernel_rfl) (by kernel_rfl) (fun _ _ _ h => h) (Or.inl ⟨by rfl, ?hyq20⟩) (by assumption) ?restq20
  case hyq20 =>
    intro W hSw
    go_simp
    try with_reducible rfl
  simp only [Act.put, List.setIfInBounds_toArray, List.set_cons_zero, List.set_cons_succ, List.getElem_toArray, List.getElem_cons_zero, List.getElem_cons_succ]
  refine wpAnyH_take (i := 22) (v := ?vq21) rfl (by kernel_rfl) (by kernel_rfl) (by kernel_rfl) (fun _ _ _ h => h) (Or.inl ⟨by rfl, ?hyq21⟩) (by assumption) ?restq21
  case hyq21 =>
    intro W hSw
    go_simp
    try with_reducible rfl
  simp only [Act.put, List.setIfInBounds_toArray, List.set_cons_zero, List.set_cons_succ, List.getElem_toArray, List.getElem_cons_zero, List.getElem_cons_succ]
  refine wpAnyH_take (i := 23) (v := ?vq22) rfl (by kernel_rfl) (by kernel_rfl) (by kernel_rfl) (fun _ _ _ h => h) (Or.inl ⟨by rfl, ?hyq22⟩) (by assumption) ?restq22
  case hyq22 =>
    intro W hSw
    go_simp
    try with_reducible rfl
  simp only [Act.put, List.setIfInBounds_toArray, List.set_cons_zero, List.getElem_toArray, List.getElem_cons_zero, List.getElem_cons_succ]
  refine wpAnyH_done (by kernel_rfl) ?_ _
  have hBe := hHeld.2.2.2.2.2.2.2
  clear hHeld
  refine NoPanic.normal ?_
  go_wp2_with fail
  go_ret
  exact ⟨rfl, hBe⟩
end Go.Proofs.YthapnnbdoecoaaaDoor
