/-
  The check of the documentation's examples of layer 11 returns true. No condition but what the table of S-boxes holds; what was there stays as it was.
-/
import Derived.Test.YtflbpohcoghonaaDoorHaw
import Derived.Deep.RegionHeld3
namespace Go.Proofs.YtflbpohcoghonaaDoor
open Go.RowKit
set_option linter.unusedVariables false
set_option maxRecDepth 100000

set_option maxHeartbeats 8000000 in
theorem hawake  (w : World)  (hs : Boxes w) :
    Calls Tryd.prog 7 #[] w fun e w' => e = .returned (.bool true) ∧ Below w.heap.size w w' := by
  have HX := Lib.hid hs
  have hz := zero16b
  have z0 := Lib.hid run_zero16
  have hBw : Below w.heap.size w w := Below.refl _ _
  clear  hs 
  go_enter Tryd.func7, Tryd.ntmps7
  obtain ⟨s, hs0⟩ : ∃ s : Nat → Nat, enF zF zF = s := ⟨_, rfl⟩
  have HS0 := Lib.hid hs0
  have HSL := Lib.hid (show B16 s by rw [← hs0]; exact enR_lt zF_lt zF_lt 10)
  clear hs0
  go_wp2_with (refine wpList_build_by rfl _ _ rfl [] rfl _ (z0.out _) ?_)
  refine (fnew zF _ zF_lt (HX.out.keep hBw)).mono ?_
  rintro e x1 ⟨gC, rfl, hgC, hCx1, hq⟩
  have hBx1 := hBw.trans (hq.mono hBw.size)
  clear hq  hBw
  go_wp2_with fail
  refine (tnew (some ⟨gC, 0, none⟩) zF _ zF_lt (exp_made gC zF _ hCx1) (HX.out.keep hBx1)).mono ?_
  rintro e x2 ⟨gT, rfl, hgT, hTx2, hq⟩
  rw [HS0.out] at hTx2
  have hCx2 := (hCx1).to hq
  have hBx2 := hBx1.trans (hq.mono hBx1.size)
  clear hq hCx1 hBx1
  go_wp2_with fail
  refine (wfull0 (some ⟨gT, 0, none⟩) zF s _ zF_lt HS0.out (wtabm gT gC zF s _ HS0.out (hTx2) (hCx2)) (HX.out.keep hBx2)).mono ?_
  rintro e x3 ⟨rfl, hq⟩
  have hCx3 := (hCx2).to hq
  have hTx3 := (hTx2).to hq
  have hBx3 := hBx2.trans (hq.mono hBx2.size)
  clear hq hCx2 hTx2 hBx2
  obtain ⟨v4, hv4⟩ : ∃ V : World, V = x3.alloc (.cells (arL 16 fun _ => 0).toArray 22) := ⟨_, rfl⟩
  have hsv4 : v4.heap.size = x3.heap.size + 1 := by rw [hv4]; simp
  have hq : Below x3.heap.size x3 v4 := by rw [hv4]; exact (Below.refl _ _).alloc (Nat.le_refl _) _
  have hCv4 := (hCx3).to hq
  have hTv4 := (hTx3).to hq
  have hBv4 := hBx3.trans (hq.mono hBx3.size)
  have hav4 : Ar v4 x3.heap.size 16 (fun _ => 0) := by rw [hv4]; exact Ar.new x3 16 _ _
  have hlgCga : gC < x3.heap.size := hCx3.lt
  have hlgTga : gT < x3.heap.size := hTx3.lt
  have hlwga : w.heap.size ≤ x3.heap.size := hBx3.size
  clear hq hCx3 hTx3 hBx3
  obtain ⟨v5, hv5⟩ : ∃ V : World, V = v4.alloc (.cells (arL 16 fun _ => 0).toArray 22) := ⟨_, rfl⟩
  have hq : Below v4.heap.size v4 v5 := by rw [hv5]; exact (Below.refl _ _).alloc (Nat.le_refl _) _
  have hCv5 := (hCv4).to hq
  have hTv5 := (hTv4).to hq
  have hav5 := hav4.to (by omega) hq
  have hBv5 := hBv4.trans (hq.mono hBv4.size)
  have hov5 : Ar v5 (x3.heap.size + 1) 16 (fun _ => 0) := by rw [hv5, ← hsv4]; exact Ar.new v4 16 _ _
  clear hq hsv4 hCv4 hTv4 hav4 hBv4
  go_upto_region 3 with (first | (refine wpList_store_ar rfl _ _ _ rfl _ _ _ (fun _ => 0) rfl rfl (by rw [← hv4, ← hv5]; exact hav5) (size16b _) ?_; intro x6 hax6 bel8 siz8 kee8) | (refine wpList_store_ar rfl _ _ _ rfl _ _ _ (fun _ => 0) rfl rfl (kee8 _ _ _ (by omega) (by rw [← hv4, ← hv5]; exact hov5)) (size16b _) ?_; intro x7 hox7 bel9 siz9 kee9) | fail)
  rw [← hv4, ← hv5] at bel8
  obtain ⟨ga, hga⟩ : ∃ g : Nat, x3.heap.size = g := ⟨_, rfl⟩
  obtain ⟨go, hgo⟩ : ∃ g : Nat, x3.heap.size + 1 = g := ⟨_, rfl⟩
  have hlgago : ga < go := by omega
  try rw [hgo]
  try rw [hga]
  rw [hga] at hax6 bel8 hlwga hlgCga hlgTga
  rw [hgo] at hox7 bel9
  have hax7 := hax6.keep hlgago bel9
  have hCx7 := (hCv5.keep hlgCga bel8).keep (Nat.lt_trans hlgCga hlgago) bel9
  have hTx7 := (hTv5.keep hlgTga bel8).keep (Nat.lt_trans hlgTga hlgago) bel9
  have hBx7 := (hBv5.trans (bel8.mono hlwga)).trans (bel9.mono (Nat.le_trans hlwga (Nat.le_of_lt hlgago)))
  clear hax6 bel8 bel9 hCv5 hTv5 hav5 hov5 hBv5 siz8 siz9 kee8 kee9 hv4 hv5 hga hgo
  try dsimp only [Act.put]
  have m1 := Lib.hid run_o16
  have hbe := Lib.hid built16e
  obtain ⟨v8, hv8⟩ : ∃ V : World, V = x7.alloc (.cells (arL 16 e16).toArray 22) := ⟨_, rfl⟩
  have hq : Below x7.heap.size x7 v8 := by rw [hv8]; exact (Below.refl _ _).alloc (Nat.le_refl _) _
  have hlv8 : Ar v8 x7.heap.size 16 e16 := by rw [hv8]; exact Ar.new x7 16 _ _
  have hCv8 := (hCx7).to hq
  have hTv8 := (hTx7).to hq
  have hav8 := (hax7).to (by omega) hq
  have hov8 := (hox7).to (by omega) hq
  have hBv8 := hBx7.trans (hq.mono hBx7.size)
  clear hq hCx7 hTx7 hax7 hox7 hBx7
  go_wp2_with (first | (refine wpList_build_by rfl _ _ rfl [(0, .int .u8 1)] rfl _ (m1.out _) ?_) | (refine wpList_bs_by rfl _ _ _ rfl [(0, .agg (arL 16 e16).toArray)] rfl _ (hbe.out _) ?_))
  rw [← hv8]
  clear hv8 hbe
  refine (wfull1 (some ⟨gT, 0, none⟩) zF s _ _ hlv8 zF_lt HS0.out (wtabm gT gC zF s _ HS0.out (hTv8) (hCv8)) (HX.out.keep hBv8)).mono ?_
  rintro e x9 ⟨rfl, hq⟩
  have hCx9 := (hCv8).to hq
  have hTx9 := (hTv8).to hq
  have hax9 := (hav8).to (by omega) hq
  have hox9 := (hov8).to (by omega) hq
  have hBx9 := hBv8.trans (hq.mono hBv8.size)
  clear hq hCv8 hTv8 hav8 hov8 hBv8
  clear hlv8
  obtain ⟨X, hX⟩ : ∃ X, hsF zF s (fun _ => e16) 1 = X := ⟨_, rfl⟩
  have HXD := Lib.hid hX
  obtain ⟨D, hD⟩ : ∃ D, dk s 2 = D := ⟨_, rfl⟩
  have HDD := Lib.hid hD
  rw [hX, hD]
  clear hX hD
  obtain ⟨Y, hY⟩ : ∃ Y, hrF zF s (fun _ => 0) [1] = Y := ⟨_, rfl⟩
  have HYD := Lib.hid hY
  clear hY
  obtain ⟨v10, hv10⟩ : ∃ V : World, V = x9.alloc (.cells (arL 16 fun _ => 0).toArray 22) := ⟨_, rfl⟩
  have hsv10 : v10.heap.size = x9.heap.size + 1 := by rw [hv10]; simp
  have hq : Below x9.heap.size x9 v10 := by rw [hv10]; exact (Below.refl _ _).alloc (Nat.le_refl _) _
  have hCv10 := (hCx9).to hq
  have hTv10 := (hTx9).to hq
  have hav10 := (hax9).to (by omega) hq
  have hov10 := (hox9).to (by omega) hq
  have hBv10 := hBx9.trans (hq.mono hBx9.size)
  have hxv10 : Ar v10 x9.heap.size 16 (fun _ => 0) := by rw [hv10]; exact Ar.new x9 16 _ _
  have hlgCgx : gC < x9.heap.size := hCx9.lt
  have hlgTgx : gT < x9.heap.size := hTx9.lt
  have hlgagx : ga < x9.heap.size := hax9.lt (by omega)
  have hlgogx : go < x9.heap.size := hox9.lt (by omega)
  have hlwgx : w.heap.size ≤ x9.heap.size := hBx9.size
  clear hq hCx9 hTx9 hax9 hox9 hBx9
  obtain ⟨v11, hv11⟩ : ∃ V : World, V = v10.alloc (.cells (arL 16 fun _ => 0).toArray 22) := ⟨_, rfl⟩
  have hq : Below v10.heap.size v10 v11 := by rw [hv11]; exact (Below.refl _ _).alloc (Nat.le_refl _) _
  have hCv11 := (hCv10).to hq
  have hTv11 := (hTv10).to hq
  have hav11 := (hav10).to (by omega) hq
  have hov11 := (hov10).to (by omega) hq
  have hxv11 := hxv10.to (by omega) hq
  have hBv11 := hBv10.trans (hq.mono hBv10.size)
  have hyv11 : Ar v11 (x9.heap.size + 1) 16 (fun _ => 0) := by rw [hv11, ← hsv10]; exact Ar.new v10 16 _ _
  clear hq hsv10 hCv10 hTv10 hav10 hov10 hxv10 hBv10
  go_upto_region 4 with (first | (refine wpList_store_ar rfl _ _ _ rfl _ _ _ (X) rfl rfl (by rw [← hv10, ← hv11]; exact hxv11) (size16b _) ?_; intro x12 hxx12 bel8 siz8 kee8) | (refine wpList_store_ar rfl _ _ _ rfl _ _ _ (D) rfl rfl (kee8 _ _ _ (by omega) (by rw [← hv10, ← hv11]; exact hyv11)) (size16b _) ?_; intro x13 hyx13 bel9 siz9 kee9) | fail)
  rw [← hv10, ← hv11] at bel8
  obtain ⟨gx, hgx⟩ : ∃ g : Nat, x9.heap.size = g := ⟨_, rfl⟩
  obtain ⟨gy, hgy⟩ : ∃ g : Nat, x9.heap.size + 1 = g := ⟨_, rfl⟩
  have hlgxgy : gx < gy := by omega
  try rw [hgy]
  try rw [hgx]
  rw [hgx] at hxx12 bel8 hlwgx hlgCgx hlgTgx hlgagx hlgogx
  rw [hgy] at hyx13 bel9
  have hxx13 := hxx12.keep hlgxgy bel9
  have hCx13 := (hCv11.keep hlgCgx bel8).keep (Nat.lt_trans hlgCgx hlgxgy) bel9
  have hTx13 := (hTv11.keep hlgTgx bel8).keep (Nat.lt_trans hlgTgx hlgxgy) bel9
  have hax13 := (hav11.keep hlgagx bel8).keep (Nat.lt_trans hlgagx hlgxgy) bel9
  have hox13 := (hov11.keep hlgogx bel8).keep (Nat.lt_trans hlgogx hlgxgy) bel9
  have hBx13 := (hBv11.trans (bel8.mono hlwgx)).trans (bel9.mono (Nat.le_trans hlwgx (Nat.le_of_lt hlgxgy)))
  clear hxx12 bel8 bel9 hCv11 hTv11 hav11 hov11 hxv11 hyv11 hBv11 siz8 siz9 kee8 kee9 hv10 hv11 hgx hgy
  try dsimp only [Act.put]
  have heq := fun X => eq16_true (f := X) (g := X) (fun _ _ => rfl)
  have hgd := Tryd.eqg16
  have z0 := run_zero16
  refine wp_region_held_drew (S := fun W => Ar W ga 16 (fun _ => 0) ∧ Ar W go 16 (fun _ => 0) ∧ Ar W gx 16 (X) ∧ Ar W gy 16 (D) ∧ Ci W gC (zF) ∧ Ti W gT (some ⟨gC, 0, none⟩) (s) ∧ Below w.heap.size w W) (by kernel_rfl) ⟨hax13.drew, hox13.drew, hxx13.drew, hyx13.drew, hCx13.drew, hTx13.drew, hBx13.drew⟩ (fun hHeld => ?_)
  clear hax13 hox13 hxx13 hyx13 hCx13 hTx13 hBx13 
  generalize World.drew x13 = qd at *
  refine wpAnyH_take (i := 0) (v := ?vq1) rfl (by kernel_rfl) (by kernel_rfl) (by kernel_rfl) (fun _ _ _ h => h) (Or.inl ⟨by rfl, ?hyq1⟩) (by assumption) ?restq1
  case hyq1 =>
    intro W hSw
    go_simp
    try with_reducible rfl
  simp only [Act.put, List.setIfInBounds_toArray, List.set_cons_zero, List.set_cons_succ, List.getElem_toArray, List.getElem_cons_zero]
  refine wpAnyH_take (i := 2) (v := ?vq2) rfl (by kernel_rfl) (by kernel_rfl) (by kernel_rfl) (fun _ _ _ h => h) (Or.inl ⟨by rfl, ?hyq2⟩) (by assumption) ?restq2
  case hyq2 =>
    intro W hSw
    go_simp
    try with_reducible rfl
  simp only [Act.put, List.setIfInBounds_toArray, List.set_cons_zero, List.set_cons_succ, List.getElem_toArray, List.getElem_cons_zero, List.getElem_cons_succ]
  refine wpAnyH_ready (rs := [1]) (by kernel_rfl) (by simp) ?_
  refine AllReadyH.cons rfl (fun K hK => ?_) AllReadyH.nil
  go_simp
  refine (wsum_nil (some ⟨gT, 0, none⟩) zF s _ zF_lt HS0.out (wtabm gT gC zF s _ HS0.out (hHeld.2.2.2.2.2.1) (hHeld.2.2.2.2.1)) (HX.out.keep (hHeld.2.2.2.2.2.2))).mono ?_
  rintro e q3 ⟨rfl, hq⟩
  go_wp2_with fail
  refine hK.out _ _ ⟨(hHeld.1).to (by omega) hq, (hHeld.2.1).to (by omega) hq, (hHeld.2.2.1).to (by omega) hq, (hHeld.2.2.2.1).to (by omega) hq, (hHeld.2.2.2.2.1).to hq, (hHeld.2.2.2.2.2.1).to hq, (hHeld.2.2.2.2.2.2).trans (hq.mono (hHeld.2.2.2.2.2.2).size)⟩ (fun hHeld2 => ?_)
  clear hK K hHeld hq
  have hHeld := hHeld2
  clear hHeld2
  try simp only [Act.put, List.setIfInBounds_toArray, List.set_cons_zero, List.set_cons_succ, List.getElem_toArray, List.getElem_cons_zero, List.getElem_cons_succ]
  refine wpAnyH_take (i := 3) (v := ?vq4) rfl (by kernel_rfl) (by kernel_rfl) (by kernel_rfl) (fun _ _ _ h => h) (Or.inl ⟨by rfl, ?hyq4⟩) (by assumption) ?restq4
  case hyq4 =>
    intro W hSw
    go_simp
    try with_reducible rfl
  simp only [Act.put, List.setIfInBounds_toArray, List.set_cons_zero, List.set_cons_succ, List.getElem_toArray, List.getElem_cons_zero, List.getElem_cons_succ]
  refine wpAnyH_take (i := 4) (v := ?vq5) rfl (by kernel_rfl) (by kernel_rfl) (by kernel_rfl) (fun _ _ _ h => h) (Or.inl ⟨by rfl, ?hyq5⟩) (by assumption) ?restq5
  case hyq5 =>
    intro W hSw
    go_simp
    try with_reducible rfl
  simp only [Act.put, List.setIfInBounds_toArray, List.set_cons_zero, List.set_cons_succ, List.getElem_toArray, List.getElem_cons_zero, List.getElem_cons_succ]
  refine wpAnyH_take (i := 5) (v := .agg (arL 16 (fun _ => 0)).toArray) rfl (by kernel_rfl) (by kernel_rfl) (by kernel_rfl) (fun _ _ _ h => h) (yieldsIf_load_mid (by rfl) _ _ rfl ga (0) rfl (arL 16 (fun _ => 0)) _ (fun W hSw => hSw.1.range) Tryd.arr16b rfl (size16b _)) (by assumption) ?_
  simp only [Act.put, List.setIfInBounds_toArray, List.set_cons_zero, List.set_cons_succ, List.getElem_toArray, List.getElem_cons_zero, List.getElem_cons_succ]
  refine wpAnyH_take (i := 6) (v := ?vq6) rfl (by kernel_rfl) (by kernel_rfl) (by kernel_rfl) (fun _ _ _ h => h) (Or.inl ⟨by rfl, ?hyq6⟩) (by assumption) ?restq6
  case hyq6 =>
    intro W hSw
    go_simp
    try with_reducible rfl
  simp only [Act.put, List.setIfInBounds_toArray, List.set_cons_zero, List.set_cons_succ, List.getElem_toArray, List.getElem_cons_zero, List.getElem_cons_succ]
  refine wpAnyH_take (i := 7) (v := ?vq7) rfl (by kernel_rfl) (by kernel_rfl) (by kernel_rfl) (fun _ _ _ h => h) (Or.inl ⟨by rfl, ?hyq7⟩) (by assumption) ?restq7
  case hyq7 =>
    intro W hSw
    go_simp
    try with_reducible rfl
  simp only [Act.put, List.setIfInBounds_toArray, List.set_cons_zero, List.set_cons_succ, List.getElem_toArray, List.getElem_cons_zero, List.getElem_cons_succ]
  refine wpAnyH_take (i := 8) (v := ?vq8) rfl (by kernel_rfl) (by kernel_rfl) (by kernel_rfl) (fun _ _ _ h => h) (Or.inl ⟨by rfl, ?hyq8⟩) (by assumption) ?restq8
  case hyq8 =>
    intro W hSw
    go_simp
    try with_reducible rfl
  simp only [Act.put, List.setIfInBounds_toArray, List.set_cons_zero, List.set_cons_succ, List.getElem_toArray, List.getElem_cons_zero, List.getElem_cons_succ]
  refine wpAnyH_take (i := 9) (v := ?vq9) rfl (by kernel_rfl) (by kernel_rfl) (by kernel_rfl) (fun _ _ _ h => h) (Or.inl ⟨by rfl, ?hyq9⟩) (by assumption) ?restq9
  case hyq9 =>
    intro W hSw
    go_simp
    try with_reducible rfl
  simp only [Act.put, List.setIfInBounds_toArray, List.set_cons_zero, List.set_cons_succ, List.getElem_toArray, List.getElem_cons_zero, List.getElem_cons_succ]
  refine wpAnyH_take (i := 10) (v := .agg (arL 16 (fun _ => 0)).toArray) rfl (by kernel_rfl) (by kernel_rfl) (by kernel_rfl) (fun _ _ _ h => h) (yieldsIf_load_mid (by rfl) _ _ rfl go (0) rfl (arL 16 (fun _ => 0)) _ (fun W hSw => hSw.2.1.range) Tryd.arr16b rfl (size16b _)) (by assumption) ?_
  simp only [Act.put, List.setIfInBounds_toArray, List.set_cons_zero, List.set_cons_succ, List.getElem_toArray, List.getElem_cons_zero, List.getElem_cons_succ]
  refine wpAnyH_take (i := 11) (v := ?vq10) rfl (by kernel_rfl) (by kernel_rfl) (by kernel_rfl) (fun _ _ _ h => h) (Or.inl ⟨by rfl, ?hyq10⟩) (by assumption) ?restq10
  case hyq10 =>
    intro W hSw
    go_simp
    try with_reducible rfl
  simp only [Act.put, List.setIfInBounds_toArray, List.set_cons_zero, List.set_cons_succ, List.getElem_toArray, List.getElem_cons_zero, List.getElem_cons_succ]
  refine wpAnyH_take (i := 12) (v := ?vq11) rfl (by kernel_rfl) (by kernel_rfl) (by kernel_rfl) (fun _ _ _ h => h) (Or.inl ⟨by rfl, ?hyq11⟩) (by assumption) ?restq11
  case hyq11 =>
    intro W hSw
    go_simp
    try with_reducible rfl
  simp only [Act.put, List.setIfInBounds_toArray, List.set_cons_zero, List.set_cons_succ, List.getElem_toArray, List.getElem_cons_zero, List.getElem_cons_succ]
  refine wpAnyH_take (i := 13) (v := ?vq12) rfl (by kernel_rfl) (by kernel_rfl) (by kernel_rfl) (fun _ _ _ h => h) (Or.inl ⟨by rfl, ?hyq12⟩) (by assumption) ?restq12
  case hyq12 =>
    intro W hSw
    go_simp
    try with_reducible rfl
  simp only [Act.put, List.setIfInBounds_toArray, List.set_cons_zero, List.set_cons_succ, List.getElem_toArray, List.getElem_cons_zero, List.getElem_cons_succ]
  refine wpAnyH_take (i := 14) (v := ?vq13) rfl (by kernel_rfl) (by kernel_rfl) (by kernel_rfl) (fun _ _ _ h => h) (Or.inl ⟨by rfl, ?hyq13⟩) (by assumption) ?restq13
  case hyq13 =>
    intro W hSw
    go_simp
    try with_reducible rfl
  simp only [Act.put, List.setIfInBounds_toArray, List.set_cons_zero, List.set_cons_succ, List.getElem_toArray, List.getElem_cons_zero, List.getElem_cons_succ]
  refine wpAnyH_take (i := 15) (v := ?vq14) rfl (by kernel_rfl) (by kernel_rfl) (by kernel_rfl) (fun _ _ _ h => h) (Or.inl ⟨by rfl, ?hyq14⟩) (by assumption) ?restq14
  case hyq14 =>
    intro W hSw
    go_simp
    try with_reducible rfl
  simp only [Act.put, List.setIfInBounds_toArray, List.set_cons_zero, List.set_cons_succ, List.getElem_toArray, List.getElem_cons_zero, List.getElem_cons_succ]
  refine wpAnyH_take (i := 19) (v := .agg (arL 16 (X)).toArray) rfl (by kernel_rfl) (by kernel_rfl) (by kernel_rfl) (fun _ _ _ h => h) (yieldsIf_load_mid (by rfl) _ _ rfl gx (0) rfl (arL 16 (X)) _ (fun W hSw => hSw.2.2.1.range) Tryd.arr16b rfl (size16b _)) (by assumption) ?_
  simp only [Act.put, List.setIfInBounds_toArray, List.set_cons_zero, List.set_cons_succ, List.getElem_toArray, List.getElem_cons_zero, List.getElem_cons_succ]
  refine wpAnyH_ready (rs := [16]) (by kernel_rfl) (by simp) ?_
  refine AllReadyH.cons rfl (fun K hK => ?_) AllReadyH.nil
  obtain ⟨q15, hyq15⟩ : ∃ V : World, V = q3.alloc (.cells #[.int .u8 1] 5) := ⟨_, rfl⟩
  have hlq15 := by1 q3
  have hq : Below q3.heap.size q3 q15 := by rw [hyq15]; exact (Below.refl _ _).alloc (Nat.le_refl _) _
  rw [← hyq15] at hlq15
  go_simp
  rw [← hyq15]
  clear hyq15
  obtain ⟨gl, hgl⟩ : ∃ g : Nat, q3.heap.size = g := ⟨_, rfl⟩
  rw [hgl] at hlq15
  try rw [hgl]
  refine hK.out _ _ ⟨(hHeld.1).to (by omega) hq, (hHeld.2.1).to (by omega) hq, (hHeld.2.2.1).to (by omega) hq, (hHeld.2.2.2.1).to (by omega) hq, (hHeld.2.2.2.2.1).to hq, (hHeld.2.2.2.2.2.1).to hq, (hHeld.2.2.2.2.2.2).trans (hq.mono (hHeld.2.2.2.2.2.2).size)⟩ (fun hHeld2 => ?_)
  clear hK K hHeld hq hgl
  have hHeld := hHeld2
  clear hHeld2
  try simp only [Act.put, List.setIfInBounds_toArray, List.set_cons_zero, List.set_cons_succ, List.getElem_toArray, List.getElem_cons_zero, List.getElem_cons_succ]
  refine wpAnyH_ready (rs := [17]) (by kernel_rfl) (by simp) ?_
  refine AllReadyH.cons rfl (fun K hK => ?_) AllReadyH.nil
  obtain ⟨q16, cc, hap, hcap, hmq16, hq⟩ := app15 q15 gl hlq15
  rw [if_pos (by rfl)]
  refine Lib.wp_append_run _ _ _ _ _ rfl _ _ rfl rfl _ _ (hap _) ?_
  clear hap
  obtain ⟨gm, hgm⟩ : ∃ g : Nat, q15.heap.size = g := ⟨_, rfl⟩
  rw [hgm] at hmq16
  try rw [hgm]
  have hlq16 := (hlq15).to hq
  refine hK.out _ _ ⟨(hHeld.1).to (by omega) hq, (hHeld.2.1).to (by omega) hq, (hHeld.2.2.1).to (by omega) hq, (hHeld.2.2.2.1).to (by omega) hq, (hHeld.2.2.2.2.1).to hq, (hHeld.2.2.2.2.2.1).to hq, (hHeld.2.2.2.2.2.2).trans (hq.mono (hHeld.2.2.2.2.2.2).size)⟩ (fun hHeld2 => ?_)
  clear hK K hHeld hq hgm hlq15
  have hHeld := hHeld2
  clear hHeld2
  try simp only [Act.put, List.setIfInBounds_toArray, List.set_cons_zero, List.set_cons_succ, List.getElem_toArray, List.getElem_cons_zero, List.getElem_cons_succ]
  refine wpAnyH_ready (rs := [18]) (by kernel_rfl) (by simp) ?_
  refine AllReadyH.cons rfl (fun K hK => ?_) AllReadyH.nil
  go_simp
  refine (wsum16 (some ⟨gT, 0, none⟩) zF s gm cc _ hmq16 hcap zF_lt HS0.out (wtabm gT gC zF s _ HS0.out (hHeld.2.2.2.2.2.1) (hHeld.2.2.2.2.1)) (HX.out.keep (hHeld.2.2.2.2.2.2))).mono ?_
  rintro e q17 ⟨rfl, hq⟩
  rw [HXD.out]
  go_wp2_with fail
  have hlq17 := (hlq16).to hq
  have hmq17 := (hmq16).to hq
  refine hK.out _ _ ⟨(hHeld.1).to (by omega) hq, (hHeld.2.1).to (by omega) hq, (hHeld.2.2.1).to (by omega) hq, (hHeld.2.2.2.1).to (by omega) hq, (hHeld.2.2.2.2.1).to hq, (hHeld.2.2.2.2.2.1).to hq, (hHeld.2.2.2.2.2.2).trans (hq.mono (hHeld.2.2.2.2.2.2).size)⟩ (fun hHeld2 => ?_)
  clear hK K hHeld hq hlq16 hmq16
  have hHeld := hHeld2
  clear hHeld2
  try simp only [Act.put, List.setIfInBounds_toArray, List.set_cons_zero, List.set_cons_succ, List.getElem_toArray, List.getElem_cons_zero, List.getElem_cons_succ]
  refine wpAnyH_take (i := 20) (v := ?vq18) rfl (by kernel_rfl) (by kernel_rfl) (by kernel_rfl) (fun _ _ _ h => h) (Or.inl ⟨by rfl, ?hyq18⟩) (by assumption) ?restq18
  case hyq18 =>
    intro W hSw
    go_simp
    try with_reducible rfl
  simp only [Act.put, List.setIfInBounds_toArray, List.set_cons_zero, List.set_cons_succ, List.getElem_toArray, List.getElem_cons_zero, List.getElem_cons_succ]
  refine wpAnyH_take (i := 21) (v := ?vq19) rfl (by kernel_rfl) (by kernel_rfl) (by kernel_rfl) (fun _ _ _ h => h) (Or.inl ⟨by rfl, ?hyq19⟩) (by assumption) ?restq19
  case hyq19 =>
    intro W hSw
    go_simp
    try with_reducible rfl
  simp only [Act.put, List.setIfInBounds_toArray, List.set_cons_zero, List.set_cons_succ, List.getElem_toArray, List.getElem_cons_zero, List.getElem_cons_succ]
  refine wpAnyH_take (i := 22) (v := ?vq20) rfl (by kernel_rfl) (by kernel_rfl) (by kernel_rfl) (fun _ _ _ h => h) (Or.inl ⟨by rfl, ?hyq20⟩) (by assumption) ?restq20
  case hyq20 =>
    intro W hSw
    go_simp
    try with_reducible rfl
  simp only [Act.put, List.setIfInBounds_toArray, List.set_cons_zero, List.set_cons_succ, List.getElem_toArray, List.getElem_cons_zero, List.getElem_cons_succ]
  refine wpAnyH_take (i := 23) (v := .agg (arL 16 (D)).toArray) rfl (by kernel_rfl) (by kernel_rfl) (by kernel_rfl) (fun _ _ _ h => h) (yieldsIf_load_mid (by rfl) _ _ rfl gy (0) rfl (arL 16 (D)) _ (fun W hSw => hSw.2.2.2.1.range) Tryd.arr16b rfl (size16b _)) (by assumption) ?_
  simp only [Act.put, List.setIfInBounds_toArray, List.set_cons_zero, List.set_cons_succ, List.getElem_toArray, List.getElem_cons_zero, List.getElem_cons_succ]
  refine wpAnyH_take (i := 24) (v := ?vq21) rfl (by kernel_rfl) (by kernel_rfl) (by kernel_rfl) (fun _ _ _ h => h) (Or.inl ⟨by rfl, ?hyq21⟩) (by assumption) ?restq21
  case hyq21 =>
    intro W hSw
    go_simp
    try with_reducible rfl
  simp only [Act.put, List.setIfInBounds_toArray, List.set_cons_zero, List.set_cons_succ, List.getElem_toArray, List.getElem_cons_zero, List.getElem_cons_succ]
  refine wpAnyH_ready (rs := [25]) (by kernel_rfl) (by simp) ?_
  refine AllReadyH.cons rfl (fun K hK => ?_) AllReadyH.nil
  go_simp
  refine (tat0 _ _ s _ (tab_made _ _ _ _ (hHeld.2.2.2.2.2.1))).mono ?_
  rintro e q22 ⟨rfl, hq⟩
  rw [HDD.out]
  go_wp2_with fail
  have hlq22 := (hlq17).to hq
  have hmq22 := (hmq17).to hq
  refine hK.out _ _ ⟨(hHeld.1).to (by omega) hq, (hHeld.2.1).to (by omega) hq, (hHeld.2.2.1).to (by omega) hq, (hHeld.2.2.2.1).to (by omega) hq, (hHeld.2.2.2.2.1).to hq, (hHeld.2.2.2.2.2.1).to hq, (hHeld.2.2.2.2.2.2).trans (hq.mono (hHeld.2.2.2.2.2.2).size)⟩ (fun hHeld2 => ?_)
  clear hK K hHeld hq hlq17 hmq17
  have hHeld := hHeld2
  clear hHeld2
  try simp only [Act.put, List.setIfInBounds_toArray, List.set_cons_zero, List.set_cons_succ, List.getElem_toArray, List.getElem_cons_zero, List.getElem_cons_succ]
  refine wpAnyH_take (i := 26) (v := ?vq23) rfl (by kernel_rfl) (by kernel_rfl) (by kernel_rfl) (fun _ _ _ h => h) (Or.inl ⟨by rfl, ?hyq23⟩) (by assumption) ?restq23
  case hyq23 =>
    intro W hSw
    go_simp
    try with_reducible rfl
  simp only [Act.put, List.setIfInBounds_toArray, List.set_cons_zero, List.set_cons_succ, List.getElem_toArray, List.getElem_cons_zero, List.getElem_cons_succ]
  refine wpAnyH_take (i := 27) (v := ?vq24) rfl (by kernel_rfl) (by kernel_rfl) (by kernel_rfl) (fun _ _ _ h => h) (Or.inl ⟨by rfl, ?hyq24⟩) (by assumption) ?restq24
  case hyq24 =>
    intro W hSw
    go_simp
    try with_reducible rfl
  simp only [Act.put, List.setIfInBounds_toArray, List.set_cons_zero, List.set_cons_succ, List.getElem_toArray, List.getElem_cons_zero, List.getElem_cons_succ]
  refine wpAnyH_take (i := 28) (v := ?vq25) rfl (by kernel_rfl) (by kernel_rfl) (by kernel_rfl) (fun _ _ _ h => h) (Or.inl ⟨by rfl, ?hyq25⟩) (by assumption) ?restq25
  case hyq25 =>
    intro W hSw
    go_simp
    try with_reducible rfl
  simp only [Act.put, List.setIfInBounds_toArray, List.set_cons_zero, List.set_cons_succ, List.getElem_toArray, List.getElem_cons_zero, List.getElem_cons_succ]
  refine wpAnyH_take (i := 29) (v := ?vq26) rfl (by kernel_rfl) (by kernel_rfl) (by kernel_rfl) (fun _ _ _ h => h) (Or.inl ⟨by rfl, ?hyq26⟩) (by assumption) ?restq26
  case hyq26 =>
    intro W hSw
    go_simp
    try with_reducible rfl
  simp only [Act.put, List.setIfInBounds_toArray, List.set_cons_zero, List.set_cons_succ, List.getElem_toArray, List.getElem_cons_zero, List.getElem_cons_succ]
  refine wpAnyH_take (i := 30) (v := .agg (arL 16 (fun _ => 0)).toArray) rfl (by kernel_rfl) (by kernel_rfl) (by kernel_rfl) (fun _ _ _ h => h) (yieldsIf_load_mid (by rfl) _ _ rfl go (0) rfl (arL 16 (fun _ => 0)) _ (fun W hSw => hSw.2.1.range) Tryd.arr16b rfl (size16b _)) (by assumption) ?_
  simp only [Act.put, List.setIfInBounds_toArray, List.set_cons_zero, List.set_cons_succ, List.getElem_toArray, List.getElem_cons_zero, List.getElem_cons_succ]
  refine wpAnyH_take (i := 32) (v := ?vq27) rfl (by kernel_rfl) (by kernel_rfl) (by kernel_rfl) (fun _ _ _ h => h) (Or.inl ⟨by rfl, ?hyq27⟩) (by assumption) ?restq27
  case hyq27 =>
    intro W hSw
    go_simp
    try with_reducible rfl
  simp only [Act.put, List.setIfInBounds_toArray, List.set_cons_zero, List.set_cons_succ, List.getElem_toArray, List.getElem_cons_zero, List.getElem_cons_succ]
  refine wpAnyH_ready (rs := [31]) (by kernel_rfl) (by simp) ?_
  refine AllReadyH.cons rfl (fun K hK => ?_) AllReadyH.nil
  go_simp
  refine (wrest_nil (.pointer (some ⟨gT, 0, none⟩)) zF _ zF_lt (wtab gT gC zF s _ HS0.out (hHeld.2.2.2.2.2.1) (hHeld.2.2.2.2.1)) (HX.out.keep (hHeld.2.2.2.2.2.2))).mono ?_
  rintro e q28 ⟨rfl, hq⟩
  go_wp2_with fail
  have hlq28 := (hlq22).to hq
  have hmq28 := (hmq22).to hq
  refine hK.out _ _ ⟨(hHeld.1).to (by omega) hq, (hHeld.2.1).to (by omega) hq, (hHeld.2.2.1).to (by omega) hq, (hHeld.2.2.2.1).to (by omega) hq, (hHeld.2.2.2.2.1).to hq, (hHeld.2.2.2.2.2.1).to hq, (hHeld.2.2.2.2.2.2).trans (hq.mono (hHeld.2.2.2.2.2.2).size)⟩ (fun hHeld2 => ?_)
  clear hK K hHeld hq hlq22 hmq22
  have hHeld := hHeld2
  clear hHeld2
  try simp only [Act.put, List.setIfInBounds_toArray, List.set_cons_zero, List.set_cons_succ, List.getElem_toArray, List.getElem_cons_zero, List.getElem_cons_succ]
  refine wpAnyH_take (i := 33) (v := ?vq29) rfl (by kernel_rfl) (by kernel_rfl) (by kernel_rfl) (fun _ _ _ h => h) (Or.inl ⟨by rfl, ?hyq29⟩) (by assumption) ?restq29
  case hyq29 =>
    intro W hSw
    go_simp
    try with_reducible rfl
  simp only [Act.put, List.setIfInBounds_toArray, List.set_cons_zero, List.set_cons_succ, List.getElem_toArray, List.getElem_cons_zero, List.getElem_cons_succ]
  refine wpAnyH_take (i := 34) (v := ?vq30) rfl (by kernel_rfl) (by kernel_rfl) (by kernel_rfl) (fun _ _ _ h => h) (Or.inl ⟨by rfl, ?hyq30⟩) (by assumption) ?restq30
  case hyq30 =>
    intro W hSw
    go_simp
    try with_reducible rfl
  simp only [Act.put, List.setIfInBounds_toArray, List.set_cons_zero, List.set_cons_succ, List.getElem_toArray, List.getElem_cons_zero, List.getElem_cons_succ]
  refine wpAnyH_take (i := 35) (v := ?vq31) rfl (by kernel_rfl) (by kernel_rfl) (by kernel_rfl) (fun _ _ _ h => h) (Or.inl ⟨by rfl, ?hyq31⟩) (by assumption) ?restq31
  case hyq31 =>
    intro W hSw
    go_simp
    try with_reducible rfl
  simp only [Act.put, List.setIfInBounds_toArray, List.set_cons_zero, List.set_cons_succ, List.getElem_toArray, List.getElem_cons_zero, List.getElem_cons_succ]
  refine wpAnyH_take (i := 36) (v := ?vq32) rfl (by kernel_rfl) (by kernel_rfl) (by kernel_rfl) (fun _ _ _ h => h) (Or.inl ⟨by rfl, ?hyq32⟩) (by assumption) ?restq32
  case hyq32 =>
    intro W hSw
    go_simp
    try with_reducible rfl
  simp only [Act.put, List.setIfInBounds_toArray, List.set_cons_zero, List.set_cons_succ, List.getElem_toArray, List.getElem_cons_zero, List.getElem_cons_succ]
  refine wpAnyH_take (i := 39) (v := ?vq33) rfl (by kernel_rfl) (by kernel_rfl) (by kernel_rfl) (fun _ _ _ h => h) (Or.inl ⟨by rfl, ?hyq33⟩) (by assumption) ?restq33
  case hyq33 =>
    intro W hSw
    go_simp
    try with_reducible rfl
  simp only [Act.put, List.setIfInBounds_toArray, List.set_cons_zero, List.set_cons_succ, List.getElem_toArray, List.getElem_cons_zero, List.getElem_cons_succ]
  refine wpAnyH_take (i := 40) (v := .agg (arL 16 (fun _ => 0)).toArray) rfl (by kernel_rfl) (by kernel_rfl) (by kernel_rfl) (fun _ _ _ h => h) (yieldsIf_load_mid (by rfl) _ _ rfl go (0) rfl (arL 16 (fun _ => 0)) _ (fun W hSw => hSw.2.1.range) Tryd.arr16b rfl (size16b _)) (by assumption) ?_
  simp only [Act.put, List.setIfInBounds_toArray, List.set_cons_zero, List.set_cons_succ, List.getElem_toArray, List.getElem_cons_zero, List.getElem_cons_succ]
  refine wpAnyH_ready (rs := [37, 41]) (by kernel_rfl) (by simp) ?_
  refine AllReadyH.cons rfl (fun K hK => ?_) (AllReadyH.cons rfl (fun K hK => ?_) AllReadyH.nil)
  · obtain ⟨q34, hyq34⟩ : ∃ V : World, V = q28.alloc (.cells #[.int .u8 1] 5) := ⟨_, rfl⟩
    have hnq34 := by1 q28
    have hq : Below q28.heap.size q28 q34 := by rw [hyq34]; exact (Below.refl _ _).alloc (Nat.le_refl _) _
    rw [← hyq34] at hnq34
    go_simp
    rw [← hyq34]
    clear hyq34
    obtain ⟨gn, hgn⟩ : ∃ g : Nat, q28.heap.size = g := ⟨_, rfl⟩
    rw [hgn] at hnq34
    try rw [hgn]
    have hlq34 := (hlq28).to hq
    have hmq34 := (hmq28).to hq
    refine hK.out _ _ ⟨(hHeld.1).to (by omega) hq, (hHeld.2.1).to (by omega) hq, (hHeld.2.2.1).to (by omega) hq, (hHeld.2.2.2.1).to (by omega) hq, (hHeld.2.2.2.2.1).to hq, (hHeld.2.2.2.2.2.1).to hq, (hHeld.2.2.2.2.2.2).trans (hq.mono (hHeld.2.2.2.2.2.2).size)⟩ (fun hHeld2 => ?_)
    clear hK K hHeld hq hgn hlq28 hmq28
    have hHeld := hHeld2
    clear hHeld2
    try simp only [Act.put, List.setIfInBounds_toArray, List.set_cons_zero, List.set_cons_succ, List.getElem_toArray, List.getElem_cons_zero, List.getElem_cons_succ]
    refine wpAnyH_ready (rs := [38, 41]) (by kernel_rfl) (by simp) ?_
    refine AllReadyH.cons rfl (fun K hK => ?_) (AllReadyH.cons rfl (fun K hK => ?_) AllReadyH.nil)
    · go_simp
      refine (wsum1 (some ⟨gT, 0, none⟩) zF s gn _ hnq34 zF_lt HS0.out (wtabm gT gC zF s _ HS0.out (hHeld.2.2.2.2.2.1) (hHeld.2.2.2.2.1)) (HX.out.keep (hHeld.2.2.2.2.2.2))).mono ?_
      rintro e q35 ⟨rfl, hq⟩
      rw [HYD.out]
      go_wp2_with fail
      have hlq35 := (hlq34).to hq
      have hmq35 := (hmq34).to hq
      have hnq35 := (hnq34).to hq
      refine hK.out _ _ ⟨(hHeld.1).to (by omega) hq, (hHeld.2.1).to (by omega) hq, (hHeld.2.2.1).to (by omega) hq, (hHeld.2.2.2.1).to (by omega) hq, (hHeld.2.2.2.2.1).to hq, (hHeld.2.2.2.2.2.1).to hq, (hHeld.2.2.2.2.2.2).trans (hq.mono (hHeld.2.2.2.2.2.2).size)⟩ (fun hHeld2 => ?_)
      clear hK K hHeld hq hlq34 hmq34 hnq34
      have hHeld := hHeld2
      clear hHeld2
      try simp only [Act.put, List.setIfInBounds_toArray, List.set_cons_zero, List.set_cons_succ, List.getElem_toArray, List.getElem_cons_zero, List.getElem_cons_succ]
      refine wpAnyH_ready (rs := [41]) (by kernel_rfl) (by simp) ?_
      refine AllReadyH.cons rfl (fun K hK => ?_) AllReadyH.nil
      obtain ⟨q36, hyq36⟩ : ∃ V : World, V = q35.alloc (.cells #[.int .u8 1] 5) := ⟨_, rfl⟩
      have hpq36 := by1 q35
      have hq : Below q35.heap.size q35 q36 := by rw [hyq36]; exact (Below.refl _ _).alloc (Nat.le_refl _) _
      rw [← hyq36] at hpq36
      go_simp
      rw [← hyq36]
      clear hyq36
      obtain ⟨gp, hgp⟩ : ∃ g : Nat, q35.heap.size = g := ⟨_, rfl⟩
      rw [hgp] at hpq36
      try rw [hgp]
      have hlq36 := (hlq35).to hq
      have hmq36 := (hmq35).to hq
      have hnq36 := (hnq35).to hq
      refine hK.out _ _ ⟨(hHeld.1).to (by omega) hq, (hHeld.2.1).to (by omega) hq, (hHeld.2.2.1).to (by omega) hq, (hHeld.2.2.2.1).to (by omega) hq, (hHeld.2.2.2.2.1).to hq, (hHeld.2.2.2.2.2.1).to hq, (hHeld.2.2.2.2.2.2).trans (hq.mono (hHeld.2.2.2.2.2.2).size)⟩ (fun hHeld2 => ?_)
      clear hK K hHeld hq hgp hlq35 hmq35 hnq35
      have hHeld := hHeld2
      clear hHeld2
      try simp only [Act.put, List.setIfInBounds_toArray, List.set_cons_zero, List.set_cons_succ, List.getElem_toArray, List.getElem_cons_zero, List.getElem_cons_succ]
      refine wpAnyH_ready (rs := [42]) (by kernel_rfl) (by simp) ?_
      refine AllReadyH.cons rfl (fun K hK => ?_) AllReadyH.nil
      go_simp
      refine (wrest1 (.pointer (some ⟨gT, 0, none⟩)) zF s gp _ hpq36 zF_lt HS0.out (wtab gT gC zF s _ HS0.out (hHeld.2.2.2.2.2.1) (hHeld.2.2.2.2.1)) (HX.out.keep (hHeld.2.2.2.2.2.2))).mono ?_
      rintro e q37 ⟨rfl, hq⟩
      rw [HYD.out]
      go_wp2_with fail
      have hlq37 := (hlq36).to hq
      have hmq37 := (hmq36).to hq
      have hnq37 := (hnq36).to hq
      have hpq37 := (hpq36).to hq
      refine hK.out _ _ ⟨(hHeld.1).to (by omega) hq, (hHeld.2.1).to (by omega) hq, (hHeld.2.2.1).to (by omega) hq, (hHeld.2.2.2.1).to (by omega) hq, (hHeld.2.2.2.2.1).to hq, (hHeld.2.2.2.2.2.1).to hq, (hHeld.2.2.2.2.2.2).trans (hq.mono (hHeld.2.2.2.2.2.2).size)⟩ (fun hHeld2 => ?_)
      clear hK K hHeld hq hlq36 hmq36 hnq36 hpq36
      have hHeld := hHeld2
      clear hHeld2
      try simp only [Act.put, List.setIfInBounds_toArray, List.set_cons_zero, List.set_cons_succ, List.getElem_toArray, List.getElem_cons_zero, List.getElem_cons_succ]
      refine wpAnyH_take (i := 43) (v := ?vq38) rfl (by kernel_rfl) (by kernel_rfl) (by kernel_rfl) (fun _ _ _ h => h) (Or.inl ⟨by rfl, ?hyq38⟩) (by assumption) ?restq38
      case hyq38 =>
        intro W hSw
        go_simp
        try with_reducible rfl
      simp only [Act.put, List.setIfInBounds_toArray, List.set_cons_zero, List.set_cons_succ, List.getElem_toArray, List.getElem_cons_zero, List.getElem_cons_succ]
      refine wpAnyH_take (i := 44) (v := ?vq39) rfl (by kernel_rfl) (by kernel_rfl) (by kernel_rfl) (fun _ _ _ h => h) (Or.inl ⟨by rfl, ?hyq39⟩) (by assumption) ?restq39
      case hyq39 =>
        intro W hSw
        go_simp
        try with_reducible rfl
      simp only [Act.put, List.setIfInBounds_toArray, List.set_cons_zero, List.set_cons_succ, List.getElem_toArray, List.getElem_cons_zero, List.getElem_cons_succ]
      refine wpAnyH_take (i := 45) (v := ?vq40) rfl (by kernel_rfl) (by kernel_rfl) (by kernel_rfl) (fun _ _ _ h => h) (Or.inl ⟨by rfl, ?hyq40⟩) (by assumption) ?restq40
      case hyq40 =>
        intro W hSw
        go_simp
        try with_reducible rfl
      simp only [Act.put, List.setIfInBounds_toArray, List.set_cons_zero, List.getElem_toArray, List.getElem_cons_zero, List.getElem_cons_succ]
      refine wpAnyH_done (by kernel_rfl) ?_ _
      have hBe := hHeld.2.2.2.2.2.2
      clear hHeld
      go_wp2_with fail
      go_ret
      exact ⟨rfl, hBe⟩
    · obtain ⟨q41, hyq41⟩ : ∃ V : World, V = q34.alloc (.cells #[.int .u8 1] 5) := ⟨_, rfl⟩
      have hpq41 := by1 q34
      have hq : Below q34.heap.size q34 q41 := by rw [hyq41]; exact (Below.refl _ _).alloc (Nat.le_refl _) _
      rw [← hyq41] at hpq41
      go_simp
      rw [← hyq41]
      clear hyq41
      obtain ⟨gp, hgp⟩ : ∃ g : Nat, q34.heap.size = g := ⟨_, rfl⟩
      rw [hgp] at hpq41
      try rw [hgp]
      have hlq41 := (hlq34).to hq
      have hmq41 := (hmq34).to hq
      have hnq41 := (hnq34).to hq
      refine hK.out _ _ ⟨(hHeld.1).to (by omega) hq, (hHeld.2.1).to (by omega) hq, (hHeld.2.2.1).to (by omega) hq, (hHeld.2.2.2.1).to (by omega) hq, (hHeld.2.2.2.2.1).to hq, (hHeld.2.2.2.2.2.1).to hq, (hHeld.2.2.2.2.2.2).trans (hq.mono (hHeld.2.2.2.2.2.2).size)⟩ (fun hHeld2 => ?_)
      clear hK K hHeld hq hgp hlq34 hmq34 hnq34
      have hHeld := hHeld2
      clear hHeld2
      try simp only [Act.put, List.setIfInBounds_toArray, List.set_cons_zero, List.set_cons_succ, List.getElem_toArray, List.getElem_cons_zero, List.getElem_cons_succ]
      refine wpAnyH_ready (rs := [38]) (by kernel_rfl) (by simp) ?_
      refine AllReadyH.cons rfl (fun K hK => ?_) AllReadyH.nil
      go_simp
      refine (wsum1 (some ⟨gT, 0, none⟩) zF s gn _ hnq41 zF_lt HS0.out (wtabm gT gC zF s _ HS0.out (hHeld.2.2.2.2.2.1) (hHeld.2.2.2.2.1)) (HX.out.keep (hHeld.2.2.2.2.2.2))).mono ?_
      rintro e q42 ⟨rfl, hq⟩
      rw [HYD.out]
      go_wp2_with fail
      have hlq42 := (hlq41).to hq
      have hmq42 := (hmq41).to hq
      have hnq42 := (hnq41).to hq
      have hpq42 := (hpq41).to hq
      refine hK.out _ _ ⟨(hHeld.1).to (by omega) hq, (hHeld.2.1).to (by omega) hq, (hHeld.2.2.1).to (by omega) hq, (hHeld.2.2.2.1).to (by omega) hq, (hHeld.2.2.2.2.1).to hq, (hHeld.2.2.2.2.2.1).to hq, (hHeld.2.2.2.2.2.2).trans (hq.mono (hHeld.2.2.2.2.2.2).size)⟩ (fun hHeld2 => ?_)
      clear hK K hHeld hq hlq41 hmq41 hnq41 hpq41
      have hHeld := hHeld2
      clear hHeld2
      try simp only [Act.put, List.setIfInBounds_toArray, List.set_cons_zero, List.set_cons_succ, List.getElem_toArray, List.getElem_cons_zero, List.getElem_cons_succ]
      refine wpAnyH_ready (rs := [42]) (by kernel_rfl) (by simp) ?_
      refine AllReadyH.cons rfl (fun K hK => ?_) AllReadyH.nil
      go_simp
      refine (wrest1 (.pointer (some ⟨gT, 0, none⟩)) zF s gp _ hpq42 zF_lt HS0.out (wtab gT gC zF s _ HS0.out (hHeld.2.2.2.2.2.1) (hHeld.2.2.2.2.1)) (HX.out.keep (hHeld.2.2.2.2.2.2))).mono ?_
      rintro e q43 ⟨rfl, hq⟩
      rw [HYD.out]
      go_wp2_with fail
      have hlq43 := (hlq42).to hq
      have hmq43 := (hmq42).to hq
      have hnq43 := (hnq42).to hq
      have hpq43 := (hpq42).to hq
      refine hK.out _ _ ⟨(hHeld.1).to (by omega) hq, (hHeld.2.1).to (by omega) hq, (hHeld.2.2.1).to (by omega) hq, (hHeld.2.2.2.1).to (by omega) hq, (hHeld.2.2.2.2.1).to hq, (hHeld.2.2.2.2.2.1).to hq, (hHeld.2.2.2.2.2.2).trans (hq.mono (hHeld.2.2.2.2.2.2).size)⟩ (fun hHeld2 => ?_)
      clear hK K hHeld hq hlq42 hmq42 hnq42 hpq42
      have hHeld := hHeld2
      clear hHeld2
      try simp only [Act.put, List.setIfInBounds_toArray, List.set_cons_zero, List.set_cons_succ, List.getElem_toArray, List.getElem_cons_zero, List.getElem_cons_succ]
      refine wpAnyH_take (i := 43) (v := ?vq44) rfl (by kernel_rfl) (by kernel_rfl) (by kernel_rfl) (fun _ _ _ h => h) (Or.inl ⟨by rfl, ?hyq44⟩) (by assumption) ?restq44
      case hyq44 =>
        intro W hSw
        go_simp
        try with_reducible rfl
      simp only [Act.put, List.setIfInBounds_toArray, List.set_cons_zero, List.set_cons_succ, List.getElem_toArray, List.getElem_cons_zero, List.getElem_cons_succ]
      refine wpAnyH_take (i := 44) (v := ?vq45) rfl (by kernel_rfl) (by kernel_rfl) (by kernel_rfl) (fun _ _ _ h => h) (Or.inl ⟨by rfl, ?hyq45⟩) (by assumption) ?restq45
      case hyq45 =>
        intro W hSw
        go_simp
        try with_reducible rfl
      simp only [Act.put, List.setIfInBounds_toArray, List.set_cons_zero, List.set_cons_succ, List.getElem_toArray, List.getElem_cons_zero, List.getElem_cons_succ]
      refine wpAnyH_take (i := 45) (v := ?vq46) rfl (by kernel_rfl) (by kernel_rfl) (by kernel_rfl) (fun _ _ _ h => h) (Or.inl ⟨by rfl, ?hyq46⟩) (by assumption) ?restq46
      case hyq46 =>
        intro W hSw
        go_simp
        try with_reducible rfl
      simp only [Act.put, List.setIfInBounds_toArray, List.set_cons_zero, List.getElem_toArray, List.getElem_cons_zero, List.getElem_cons_succ]
      refine wpAnyH_done (by kernel_rfl) ?_ _
      have hBe := hHeld.2.2.2.2.2.2
      clear hHeld
      go_wp2_with fail
      go_ret
      exact ⟨rfl, hBe⟩
  · obtain ⟨q47, hyq47⟩ : ∃ V : World, V = q28.alloc (.cells #[.int .u8 1] 5) := ⟨_, rfl⟩
    have hpq47 := by1 q28
    have hq : Below q28.heap.size q28 q47 := by rw [hyq47]; exact (Below.refl _ _).alloc (Nat.le_refl _) _
    rw [← hyq47] at hpq47
    go_simp
    rw [← hyq47]
    clear hyq47
    obtain ⟨gp, hgp⟩ : ∃ g : Nat, q28.heap.size = g := ⟨_, rfl⟩
    rw [hgp] at hpq47
    try rw [hgp]
    have hlq47 := (hlq28).to hq
    have hmq47 := (hmq28).to hq
    refine hK.out _ _ ⟨(hHeld.1).to (by omega) hq, (hHeld.2.1).to (by omega) hq, (hHeld.2.2.1).to (by omega) hq, (hHeld.2.2.2.1).to (by omega) hq, (hHeld.2.2.2.2.1).to hq, (hHeld.2.2.2.2.2.1).to hq, (hHeld.2.2.2.2.2.2).trans (hq.mono (hHeld.2.2.2.2.2.2).size)⟩ (fun hHeld2 => ?_)
    clear hK K hHeld hq hgp hlq28 hmq28
    have hHeld := hHeld2
    clear hHeld2
    try simp only [Act.put, List.setIfInBounds_toArray, List.set_cons_zero, List.set_cons_succ, List.getElem_toArray, List.getElem_cons_zero, List.getElem_cons_succ]
    refine wpAnyH_ready (rs := [37]) (by kernel_rfl) (by simp) ?_
    refine AllReadyH.cons rfl (fun K hK => ?_) AllReadyH.nil
    obtain ⟨q48, hyq48⟩ : ∃ V : World, V = q47.alloc (.cells #[.int .u8 1] 5) := ⟨_, rfl⟩
    have hnq48 := by1 q47
    have hq : Below q47.heap.size q47 q48 := by rw [hyq48]; exact (Below.refl _ _).alloc (Nat.le_refl _) _
    rw [← hyq48] at hnq48
    go_simp
    rw [← hyq48]
    clear hyq48
    obtain ⟨gn, hgn⟩ : ∃ g : Nat, q47.heap.size = g := ⟨_, rfl⟩
    rw [hgn] at hnq48
    try rw [hgn]
    have hlq48 := (hlq47).to hq
    have hmq48 := (hmq47).to hq
    have hpq48 := (hpq47).to hq
    refine hK.out _ _ ⟨(hHeld.1).to (by omega) hq, (hHeld.2.1).to (by omega) hq, (hHeld.2.2.1).to (by omega) hq, (hHeld.2.2.2.1).to (by omega) hq, (hHeld.2.2.2.2.1).to hq, (hHeld.2.2.2.2.2.1).to hq, (hHeld.2.2.2.2.2.2).trans (hq.mono (hHeld.2.2.2.2.2.2).size)⟩ (fun hHeld2 => ?_)
    clear hK K hHeld hq hgn hlq47 hmq47 hpq47
    have hHeld := hHeld2
    clear hHeld2
    try simp only [Act.put, List.setIfInBounds_toArray, List.set_cons_zero, List.set_cons_succ, List.getElem_toArray, List.getElem_cons_zero, List.getElem_cons_succ]
    refine wpAnyH_ready (rs := [38]) (by kernel_rfl) (by simp) ?_
    refine AllReadyH.cons rfl (fun K hK => ?_) AllReadyH.nil
    go_simp
    refine (wsum1 (some ⟨gT, 0, none⟩) zF s gn _ hnq48 zF_lt HS0.out (wtabm gT gC zF s _ HS0.out (hHeld.2.2.2.2.2.1) (hHeld.2.2.2.2.1)) (HX.out.keep (hHeld.2.2.2.2.2.2))).mono ?_
    rintro e q49 ⟨rfl, hq⟩
    rw [HYD.out]
    go_wp2_with fail
    have hlq49 := (hlq48).to hq
    have hmq49 := (hmq48).to hq
    have hpq49 := (hpq48).to hq
    have hnq49 := (hnq48).to hq
    refine hK.out _ _ ⟨(hHeld.1).to (by omega) hq, (hHeld.2.1).to (by omega) hq, (hHeld.2.2.1).to (by omega) hq, (hHeld.2.2.2.1).to (by omega) hq, (hHeld.2.2.2.2.1).to hq, (hHeld.2.2.2.2.2.1).to hq, (hHeld.2.2.2.2.2.2).trans (hq.mono (hHeld.2.2.2.2.2.2).size)⟩ (fun hHeld2 => ?_)
    clear hK K hHeld hq hlq48 hmq48 hpq48 hnq48
    have hHeld := hHeld2
    clear hHeld2
    try simp only [Act.put, List.setIfInBounds_toArray, List.set_cons_zero, List.set_cons_succ, List.getElem_toArray, List.getElem_cons_zero, List.getElem_cons_succ]
    refine wpAnyH_ready (rs := [42]) (by kernel_rfl) (by simp) ?_
    refine AllReadyH.cons rfl (fun K hK => ?_) AllReadyH.nil
    go_simp
    refine (wrest1 (.pointer (some ⟨gT, 0, none⟩)) zF s gp _ hpq49 zF_lt HS0.out (wtab gT gC zF s _ HS0.out (hHeld.2.2.2.2.2.1) (hHeld.2.2.2.2.1)) (HX.out.keep (hHeld.2.2.2.2.2.2))).mono ?_
    rintro e q50 ⟨rfl, hq⟩
    rw [HYD.out]
    go_wp2_with fail
    have hlq50 := (hlq49).to hq
    have hmq50 := (hmq49).to hq
    have hpq50 := (hpq49).to hq
    have hnq50 := (hnq49).to hq
    refine hK.out _ _ ⟨(hHeld.1).to (by omega) hq, (hHeld.2.1).to (by omega) hq, (hHeld.2.2.1).to (by omega) hq, (hHeld.2.2.2.1).to (by omega) hq, (hHeld.2.2.2.2.1).to hq, (hHeld.2.2.2.2.2.1).to hq, (hHeld.2.2.2.2.2.2).trans (hq.mono (hHeld.2.2.2.2.2.2).size)⟩ (fun hHeld2 => ?_)
    clear hK K hHeld hq hlq49 hmq49 hpq49 hnq49
    have hHeld := hHeld2
    clear hHeld2
    try simp only [Act.put, List.setIfInBounds_toArray, List.set_cons_zero, List.set_cons_succ, List.getElem_toArray, List.getElem_cons_zero, List.getElem_cons_succ]
    refine wpAnyH_take (i := 43) (v := ?vq51) rfl (by kernel_rfl) (by kernel_rfl) (by kernel_rfl) (fun _ _ _ h => h) (Or.inl ⟨by rfl, ?hyq51⟩) (by assumption) ?restq51
    case hyq51 =>
      intro W hSw
      go_simp
      try with_reducible rfl
    simp only [Act.put, List.setIfInBounds_toArray, List.set_cons_zero, List.set_cons_succ, List.getElem_toArray, List.getElem_cons_zero, List.getElem_cons_succ]
    refine wpAnyH_take (i := 44) (v := ?vq52) rfl (by kernel_rfl) (by kernel_rfl) (by kernel_rfl) (fun _ _ _ h => h) (Or.inl ⟨by rfl, ?hyq52⟩) (by assumption) ?restq52
    case hyq52 =>
      intro W hSw
      go_simp
      try with_reducible rfl
    simp only [Act.put, List.setIfInBounds_toArray, List.set_cons_zero, List.set_cons_succ, List.getElem_toArray, List.getElem_cons_zero, List.getElem_cons_succ]
    refine wpAnyH_take (i := 45) (v := ?vq53) rfl (by kernel_rfl) (by kernel_rfl) (by kernel_rfl) (fun _ _ _ h => h) (Or.inl ⟨by rfl, ?hyq53⟩) (by assumption) ?restq53
    case hyq53 =>
      intro W hSw
      go_simp
      try with_reducible rfl
    simp only [Act.put, List.setIfInBounds_toArray, List.set_cons_zero, List.getElem_toArray, List.getElem_cons_zero, List.getElem_cons_succ]
    refine wpAnyH_done (by kernel_rfl) ?_ _
    have hBe := hHeld.2.2.2.2.2.2
    clear hHeld
    go_wp2_with fail
    go_ret
    exact ⟨rfl, hBe⟩
end Go.Proofs.YtflbpohcoghonaaDoor
