/-
  The walk of the law OffsetTops of layer 10: for every key, every nonce and every byte it returns true, and writes nothing that was there.
-/
import Derived.Test.YtblhfmlgpldaeaaDoorOfg
import Derived.Deep.RegionHeld3
namespace Go.Proofs.YtblhfmlgpldaeaaDoor
open Go.RowKit
set_option linter.unusedVariables false
set_option maxRecDepth 100000

set_option maxHeartbeats 8000000 in
theorem otops (f : Nat → Nat) (n : Nat → Nat) (x : Nat) (w : World) (hf : ∀ j, j < 16 → f j < 256) (hn : ∀ j, j < 12 → n j < 256) (hx : x < 256) (hs : Boxes w) :
    Calls Tryd.prog 6 #[.agg (arL 16 f).toArray, .agg (arL 12 n).toArray, .int .u8 x] w fun e w' => e = .returned (.bool true) ∧ Below w.heap.size w w' := by
  have HX := Lib.hid hs
  have hz := zero16b
  have hz12 := zero12
  have hzK := zeroK
  have z0 := run_zero16
  have Hf := Lib.hid hf
  have Hn := Lib.hid hn
  obtain ⟨kf, hkf⟩ : ∃ k : Array Value, (arL 16 f).toArray = k := ⟨_, rfl⟩
  obtain ⟨kn, hkn⟩ : ∃ k : Array Value, (arL 12 n).toArray = k := ⟨_, rfl⟩
  obtain ⟨w1, hw1⟩ : ∃ V : World, V = w.alloc (.cells (arL 16 f).toArray 22) := ⟨_, rfl⟩
  have hs1 : w1.heap.size = w.heap.size + 1 := by rw [hw1]; simp
  have hBw1 : Below w.heap.size w w1 := by rw [hw1]; exact (Below.refl _ _).alloc (Nat.le_refl _) _
  have hfw1 : Ar w1 w.heap.size 16 f := by rw [hw1]; exact Ar.new w 16 f _
  obtain ⟨w2, hw2⟩ : ∃ V : World, V = w1.alloc (.cells (arL 12 n).toArray 23) := ⟨_, rfl⟩
  have hs2 : w2.heap.size = w.heap.size + 2 := by rw [hw2]; simp [hs1]
  have hBw2 : Below w.heap.size w w2 := by rw [hw2]; exact hBw1.alloc (by omega) _
  have hfw2 := hfw1.alloc (by omega) (.cells (arL 12 n).toArray 23)
  rw [← hw2] at hfw2
  have hnw2 : Ar w2 (w.heap.size + 1) 12 n := by rw [hw2, ← hs1]; exact Ar.new w1 12 n _
  rw [hkf] at hw1
  rw [hkn] at hw2
  rw [hkf, hkn]
  clear hkf hkn hs hf hn
  go_enter Tryd.func6, Tryd.ntmps6
  go_upto_region 1 with fail
  rw [← hw1, ← hw2]
  clear hw1 hw2
  try simp only [Nat.add_assoc, Nat.reduceAdd]
  obtain ⟨gf, hgf⟩ : ∃ g : Nat, w.heap.size = g := ⟨_, rfl⟩
  obtain ⟨gn, hgn⟩ : ∃ g : Nat, w.heap.size + 1 = g := ⟨_, rfl⟩
  rw [hgf] at hfw2
  rw [hgn] at hnw2
  try rw [hgn]
  try simp only [hgf]
  have hlf : w.heap.size ≤ gf := by omega
  have hln : w.heap.size ≤ gn := by omega
  have hltn : gf < gn := by omega
  clear hgn hs1 hs2
  go_wp2_with fail
  refine (oawake _ (HX.out.keep hBw2)).mono ?_
  rintro e x1 ⟨rfl, hq⟩
  have hfx1 := (hfw2).to (by omega) hq
  have hnx1 := (hnw2).to (by omega) hq
  have hBx1 := hBw2.trans (hq.mono hBw2.size)
  clear hq hfw2 hnw2 hBw2
  obtain ⟨s, hs0⟩ : ∃ s : Nat → Nat, enF f zF = s := ⟨_, rfl⟩
  have HS0 := Lib.hid hs0
  have HSL := Lib.hid (show B16 s by rw [← hs0]; exact enR_lt Hf.out zF_lt 10)
  clear hs0
  go_wp2_with (refine wpList_load_ar rfl _ _ rfl _ _ _ rfl hfx1 Tryd.arr16b (size16b _) ?_)
  refine (fnew f _ Hf.out (HX.out.keep hBx1)).mono ?_
  rintro e x2 ⟨gC, rfl, hgC, hCx2, hq⟩
  have hfx2 := (hfx1).to (by omega) hq
  have hnx2 := (hnx1).to (by omega) hq
  have hBx2 := hBx1.trans (hq.mono hBx1.size)
  clear hq hfx1 hnx1 hBx1
  go_wp2_with fail
  refine (tnew (some ⟨gC, 0, none⟩) f _ Hf.out (exp_made gC f _ hCx2) (HX.out.keep hBx2)).mono ?_
  rintro e x3 ⟨gT, rfl, hgT, hTx3, hq⟩
  rw [HS0.out] at hTx3
  have hfx3 := (hfx2).to (by omega) hq
  have hnx3 := (hnx2).to (by omega) hq
  have hCx3 := (hCx2).to hq
  have hBx3 := hBx2.trans (hq.mono hBx2.size)
  clear hq hfx2 hnx2 hCx2 hBx2
  obtain ⟨t, ht0⟩ : ∃ t : Nat → Nat, enF f (nbF n) = t := ⟨_, rfl⟩
  have HT0 := Lib.hid ht0
  have HTL := Lib.hid (show B16 t by rw [← ht0]; exact enR_lt Hf.out (nbF_lt Hn.out) 10)
  obtain ⟨o, ho0⟩ : ∃ o : Nat → Nat, o0F (enF f (nbF n)) (n 11) = o := ⟨_, rfl⟩
  have HO := Lib.hid ho0
  have HOL := Lib.hid (show B16 o by rw [← ho0]; exact o0F_lt (enR_lt Hf.out (nbF_lt Hn.out) 10) _)
  clear ht0 ho0
  have HT1 := Lib.hid (show enF f (nbF (xlF n x)) = t by rw [nbF_xl Hn.out]; exact HT0.out)
  have HXL := Lib.hid (xlF_lt Hn.out x)
  have HXV := Lib.hid (xl_facts n x hx Hn.out)
  obtain ⟨N, hN⟩ : ∃ N : Nat → Nat, xlF n x = N := ⟨_, rfl⟩
  rw [hN] at HT1 HXL HXV
  have HN := Lib.hid hN
  obtain ⟨p, hp⟩ : ∃ p : Nat → Nat, o0F t (N 11) = p := ⟨_, rfl⟩
  have HP := Lib.hid hp
  have HP1 := Lib.hid (show o0F (enF f (nbF N)) (N 11) = p by rw [HT1.out]; exact hp)
  clear hp hN HO HOL
  obtain ⟨go, hgo⟩ : ∃ g : Nat, x3.heap.size = g := ⟨_, rfl⟩
  have hlgfgo : gf < go := by rw [← hgo]; exact hfx3.lt (by omega)
  have hlgngo : gn < go := by rw [← hgo]; exact hnx3.lt (by omega)
  have hlgCgo : gC < go := by rw [← hgo]; exact hCx3.lt
  have hlgTgo : gT < go := by rw [← hgo]; exact hTx3.lt
  have hlwgo : w.heap.size ≤ go := by rw [← hgo]; exact hBx3.size
  have hq : Below x3.heap.size x3 (x3.alloc (.cells (arL 12 fun _ => 0).toArray 23)) := (Below.refl _ _).alloc (Nat.le_refl _) _
  have hfx4a := (hfx3).to (by omega) hq
  have hnx4a := (hnx3).to (by omega) hq
  have hCx4a := (hCx3).to hq
  have hTx4a := (hTx3).to hq
  have hox4a := Ar.new x3 12 (fun _ => 0) 23
  have hBx4a := hBx3.alloc hBx3.size (.cells (arL 12 fun _ => 0).toArray 23)
  rw [hgo] at hox4a
  clear hq hfx3 hCx3 hTx3 hBx3
  go_upto_region 5 with (first | (refine wpList_load_ar rfl _ _ rfl _ _ _ rfl hnx3 Tryd.arr12 (size12 _) ?_) | (refine wpList_store_ar rfl _ _ _ rfl _ _ _ (n) rfl rfl hox4a (size12 _) ?_; intro x4 hox4 belx4 sizx4 keex4) | fail)
  have hfx4 := (hfx4a).keep hlgfgo belx4
  have hnx4 := (hnx4a).keep hlgngo belx4
  have hCx4 := (hCx4a).keep hlgCgo belx4
  have hTx4 := (hTx4a).keep hlgTgo belx4
  have hBx4 := hBx4a.trans (belx4.mono hlwgo)
  clear hfx4a hnx4a hCx4a hTx4a hox4a hBx4a belx4 sizx4 keex4 hgo hnx3
  try dsimp only [Act.put]
  obtain ⟨c11, f11⟩ := hox4 11 (by omega)
  obtain ⟨h1, h2, h3, h4⟩ := HXV.out
  obtain ⟨y, hy⟩ : ∃ y : Nat, x % 64 = y := ⟨_, rfl⟩
  rw [hy] at h1 h2
  have hos := (hox4.set (j := 11) (v := N 11) (by omega) rfl).ext (f' := N) (fun j _ => by rw [← HN.out]; unfold xlF; split <;> rfl)
  have bel := (Below.refl go x4).setCell (p := ⟨go, 11, none⟩) (by simp) (.int .u8 (N 11 : Nat))
  have hfs := (hfx4).keep (show gf < go by omega) bel
  have hns := (hnx4).keep (show gn < go by omega) bel
  have hCs := (hCx4).keep (show gC < go by omega) bel
  have hTs := (hTx4).keep (show gT < go by omega) bel
  have hBs := hBx4.trans (bel.mono (by omega))
  clear bel hfx4 hnx4 hCx4 hTx4 hox4 hBx4
  obtain ⟨z, hz11⟩ : ∃ z : Nat, N 11 = z := ⟨_, rfl⟩
  have HZ := Lib.hid hz11
  rw [hz11] at h1 h3
  rw [hz11] at hfs
  rw [hz11] at hns
  rw [hz11] at hCs
  rw [hz11] at hTs
  rw [hz11] at hos
  rw [hz11] at hBs
  obtain ⟨b, hb11⟩ : ∃ b : Nat, n 11 = b := ⟨_, rfl⟩
  rw [hb11] at c11 h1 h4
  clear hz11 hb11 hy
  go_upto_region 6 with fail
  generalize World.setCell x4 ⟨go, 11, none⟩ (.int .u8 (z : Nat)) = ws at *
  clear c11 f11 h1 h2 h3 h4
  have hfws := hfs
  have hnws := hns
  have hCws := hCs
  have hTws := hTs
  have hows := hos
  have hBws := hBs
  clear hfs hns hCs hTs hos hBs
  go_wp2_with (refine wpList_load_ar rfl _ _ rfl _ _ _ rfl hnws Tryd.arr12 (size12 _) ?_)
  refine (wtop (.pointer (some ⟨gT, 0, none⟩)) f n t _ HT0.out Hf.out Hn.out (wtab gT gC f s _ HS0.out (hTws) (hCws)) (HX.out.keep hBws)).mono ?_
  rintro e x5 ⟨rfl, hq⟩
  have hfx5 := (hfws).to (by omega) hq
  have hnx5 := (hnws).to (by omega) hq
  have hCx5 := (hCws).to hq
  have hTx5 := (hTws).to hq
  have hox5 := (hows).to (by omega) hq
  have hBx5 := hBws.trans (hq.mono hBws.size)
  clear hq hfws hnws hCws hTws hows hBws
  obtain ⟨gp, hgp⟩ : ∃ g : Nat, x5.heap.size = g := ⟨_, rfl⟩
  have hlgfgp : gf < gp := by rw [← hgp]; exact hfx5.lt (by omega)
  have hlgngp : gn < gp := by rw [← hgp]; exact hnx5.lt (by omega)
  have hlgCgp : gC < gp := by rw [← hgp]; exact hCx5.lt
  have hlgTgp : gT < gp := by rw [← hgp]; exact hTx5.lt
  have hlgogp : go < gp := by rw [← hgp]; exact hox5.lt (by omega)
  have hlwgp : w.heap.size ≤ gp := by rw [← hgp]; exact hBx5.size
  have hq : Below x5.heap.size x5 (x5.alloc (.cells (arL 16 fun _ => 0).toArray 22)) := (Below.refl _ _).alloc (Nat.le_refl _) _
  have hfx6a := (hfx5).to (by omega) hq
  have hnx6a := (hnx5).to (by omega) hq
  have hCx6a := (hCx5).to hq
  have hTx6a := (hTx5).to hq
  have hox6a := (hox5).to (by omega) hq
  have hpx6a := Ar.new x5 16 (fun _ => 0) 22
  have hBx6a := hBx5.alloc hBx5.size (.cells (arL 16 fun _ => 0).toArray 22)
  rw [hgp] at hpx6a
  clear hq hfx5 hnx5 hCx5 hTx5 hox5 hBx5
  go_upto_region 7 with (first | (refine wpList_store_ar rfl _ _ _ rfl _ _ _ (t) rfl rfl hpx6a (size16b _) ?_; intro x6 hpx6 belx6 sizx6 keex6) | fail)
  have hfx6 := (hfx6a).keep hlgfgp belx6
  have hnx6 := (hnx6a).keep hlgngp belx6
  have hCx6 := (hCx6a).keep hlgCgp belx6
  have hTx6 := (hTx6a).keep hlgTgp belx6
  have hox6 := (hox6a).keep hlgogp belx6
  have hBx6 := hBx6a.trans (belx6.mono hlwgp)
  clear hfx6a hnx6a hCx6a hTx6a hox6a hpx6a hBx6a belx6 sizx6 keex6 hgp
  try dsimp only [Act.put]
  have heq := fun X => eq16_true (f := X) (g := X) (fun _ _ => rfl)
  have hgd := Tryd.eqg16
  refine wp_region_held_drew (S := fun W => Ar W go 12 (N) ∧ Ar W gp 16 (t) ∧ Ci W gC (f) ∧ Ti W gT (some ⟨gC, 0, none⟩) (s) ∧ Below w.heap.size w W) (by kernel_rfl) ⟨hox6.drew, hpx6.drew, hCx6.drew, hTx6.drew, hBx6.drew⟩ (fun hHeld => ?_)
  clear hox6 hpx6 hCx6 hTx6 hfx6 hnx6 hBx6 
  generalize World.drew x6 = qd at *
  refine wpAnyH_take (i := 0) (v := ?vq1) rfl (by kernel_rfl) (by kernel_rfl) (by kernel_rfl) (fun _ _ _ h => h) (Or.inl ⟨by rfl, ?hyq1⟩) (by assumption) ?restq1
  case hyq1 =>
    intro W hSw
    go_simp
    try with_reducible rfl
  simp only [Act.put, List.setIfInBounds_toArray, List.set_cons_zero, List.set_cons_succ, List.getElem_toArray, List.getElem_cons_zero]
  refine wpAnyH_take (i := 1) (v := .agg (arL 12 (N)).toArray) rfl (by kernel_rfl) (by kernel_rfl) (by kernel_rfl) (fun _ _ _ h => h) (yieldsIf_load_mid (by rfl) _ _ rfl go (0) rfl (arL 12 (N)) _ (fun W hSw => hSw.1.range) Tryd.arr12 rfl (size12 _)) (by assumption) ?_
  simp only [Act.put, List.setIfInBounds_toArray, List.set_cons_zero, List.set_cons_succ, List.getElem_toArray, List.getElem_cons_zero, List.getElem_cons_succ]
  refine wpAnyH_take (i := 3) (v := .agg (arL 16 (t)).toArray) rfl (by kernel_rfl) (by kernel_rfl) (by kernel_rfl) (fun _ _ _ h => h) (yieldsIf_load_mid (by rfl) _ _ rfl gp (0) rfl (arL 16 (t)) _ (fun W hSw => hSw.2.1.range) Tryd.arr16b rfl (size16b _)) (by assumption) ?_
  simp only [Act.put, List.setIfInBounds_toArray, List.set_cons_zero, List.set_cons_succ, List.getElem_toArray, List.getElem_cons_zero, List.getElem_cons_succ]
  refine wpAnyH_ready (rs := [2]) (by kernel_rfl) (by simp) ?_
  refine AllReadyH.cons rfl (fun K hK => ?_) AllReadyH.nil
  go_simp
  refine (wtop (.pointer (some ⟨gT, 0, none⟩)) f N t _ HT1.out Hf.out HXL.out (wtab gT gC f s _ HS0.out (hHeld.2.2.2.1) (hHeld.2.2.1)) (HX.out.keep (hHeld.2.2.2.2))).mono ?_
  rintro e q2 ⟨rfl, hq⟩
  go_wp2_with fail
  refine hK.out _ _ ⟨(hHeld.1).to (by omega) hq, (hHeld.2.1).to (by omega) hq, (hHeld.2.2.1).to hq, (hHeld.2.2.2.1).to hq, (hHeld.2.2.2.2).trans (hq.mono (hHeld.2.2.2.2).size)⟩ (fun hHeld2 => ?_)
  clear hK K hHeld hq
  have hHeld := hHeld2
  clear hHeld2
  try simp only [Act.put, List.setIfInBounds_toArray, List.set_cons_zero, List.set_cons_succ, List.getElem_toArray, List.getElem_cons_zero, List.getElem_cons_succ]
  refine wpAnyH_take (i := 4) (v := ?vq3) rfl (by kernel_rfl) (by kernel_rfl) (by kernel_rfl) (fun _ _ _ h => h) (Or.inl ⟨by rfl, ?hyq3⟩) (by assumption) ?restq3
  case hyq3 =>
    intro W hSw
    go_simp
    try with_reducible rfl
  simp only [Act.put, List.setIfInBounds_toArray, List.set_cons_zero, List.set_cons_succ, List.getElem_toArray, List.getElem_cons_zero, List.getElem_cons_succ]
  refine wpAnyH_take (i := 5) (v := ?vq4) rfl (by kernel_rfl) (by kernel_rfl) (by kernel_rfl) (fun _ _ _ h => h) (Or.inl ⟨by rfl, ?hyq4⟩) (by assumption) ?restq4
  case hyq4 =>
    intro W hSw
    go_simp
    try with_reducible rfl
  simp only [Act.put, List.setIfInBounds_toArray, List.set_cons_zero, List.set_cons_succ, List.getElem_toArray, List.getElem_cons_zero, List.getElem_cons_succ]
  refine wpAnyH_take (i := 6) (v := ?vq5) rfl (by kernel_rfl) (by kernel_rfl) (by kernel_rfl) (fun _ _ _ h => h) (Or.inl ⟨by rfl, ?hyq5⟩) (by assumption) ?restq5
  case hyq5 =>
    intro W hSw
    go_simp
    try with_reducible rfl
  simp only [Act.put, List.setIfInBounds_toArray, List.set_cons_zero, List.set_cons_succ, List.getElem_toArray, List.getElem_cons_zero, List.getElem_cons_succ]
  refine wpAnyH_take (i := 7) (v := .agg (arL 12 (N)).toArray) rfl (by kernel_rfl) (by kernel_rfl) (by kernel_rfl) (fun _ _ _ h => h) (yieldsIf_load_mid (by rfl) _ _ rfl go (0) rfl (arL 12 (N)) _ (fun W hSw => hSw.1.range) Tryd.arr12 rfl (size12 _)) (by assumption) ?_
  simp only [Act.put, List.setIfInBounds_toArray, List.set_cons_zero, List.set_cons_succ, List.getElem_toArray, List.getElem_cons_zero, List.getElem_cons_succ]
  refine wpAnyH_take (i := 9) (v := .agg (arL 16 (t)).toArray) rfl (by kernel_rfl) (by kernel_rfl) (by kernel_rfl) (fun _ _ _ h => h) (yieldsIf_load_mid (by rfl) _ _ rfl gp (0) rfl (arL 16 (t)) _ (fun W hSw => hSw.2.1.range) Tryd.arr16b rfl (size16b _)) (by assumption) ?_
  simp only [Act.put, List.setIfInBounds_toArray, List.set_cons_zero, List.set_cons_succ, List.getElem_toArray, List.getElem_cons_zero, List.getElem_cons_succ]
  refine wpAnyH_take (i := 11) (v := .agg (arL 12 (N)).toArray) rfl (by kernel_rfl) (by kernel_rfl) (by kernel_rfl) (fun _ _ _ h => h) (yieldsIf_load_mid (by rfl) _ _ rfl go (0) rfl (arL 12 (N)) _ (fun W hSw => hSw.1.range) Tryd.arr12 rfl (size12 _)) (by assumption) ?_
  simp only [Act.put, List.setIfInBounds_toArray, List.set_cons_zero, List.set_cons_succ, List.getElem_toArray, List.getElem_cons_zero, List.getElem_cons_succ]
  refine wpAnyH_ready (rs := [8]) (by kernel_rfl) (by simp) ?_
  refine AllReadyH.cons rfl (fun K hK => ?_) AllReadyH.nil
  go_simp
  refine (wstart (.pointer (some ⟨gT, 0, none⟩)) f N p _ HP1.out Hf.out HXL.out (wtab gT gC f s _ HS0.out (hHeld.2.2.2.1) (hHeld.2.2.1)) (HX.out.keep (hHeld.2.2.2.2))).mono ?_
  rintro e q6 ⟨rfl, hq⟩
  go_wp2_with fail
  refine hK.out _ _ ⟨(hHeld.1).to (by omega) hq, (hHeld.2.1).to (by omega) hq, (hHeld.2.2.1).to hq, (hHeld.2.2.2.1).to hq, (hHeld.2.2.2.2).trans (hq.mono (hHeld.2.2.2.2).size)⟩ (fun hHeld2 => ?_)
  clear hK K hHeld hq
  have hHeld := hHeld2
  clear hHeld2
  try simp only [Act.put, List.setIfInBounds_toArray, List.set_cons_zero, List.set_cons_succ, List.getElem_toArray, List.getElem_cons_zero, List.getElem_cons_succ]
  refine wpAnyH_ready (rs := [10]) (by kernel_rfl) (by simp) ?_
  refine AllReadyH.cons rfl (fun K hK => ?_) AllReadyH.nil
  go_simp
  refine (rstretch t _ HTL.out).mono ?_
  rintro e q7 ⟨rfl, hq⟩
  go_wp2_with fail
  refine hK.out _ _ ⟨(hHeld.1).to (by omega) hq, (hHeld.2.1).to (by omega) hq, (hHeld.2.2.1).to hq, (hHeld.2.2.2.1).to hq, (hHeld.2.2.2.2).trans (hq.mono (hHeld.2.2.2.2).size)⟩ (fun hHeld2 => ?_)
  clear hK K hHeld hq
  have hHeld := hHeld2
  clear hHeld2
  try simp only [Act.put, List.setIfInBounds_toArray, List.set_cons_zero, List.set_cons_succ, List.getElem_toArray, List.getElem_cons_zero, List.getElem_cons_succ]
  refine wpAnyH_ready (rs := [12]) (by kernel_rfl) (by simp) ?_
  refine AllReadyH.cons rfl (fun K hK => ?_) AllReadyH.nil
  go_simp
  refine (rbottom N _ HXL.out).mono ?_
  rintro e q8 ⟨rfl, hq⟩
  go_wp2_with fail
  refine hK.out _ _ ⟨(hHeld.1).to (by omega) hq, (hHeld.2.1).to (by omega) hq, (hHeld.2.2.1).to hq, (hHeld.2.2.2.1).to hq, (hHeld.2.2.2.2).trans (hq.mono (hHeld.2.2.2.2).size)⟩ (fun hHeld2 => ?_)
  clear hK K hHeld hq
  have hHeld := hHeld2
  clear hHeld2
  try simp only [Act.put, List.setIfInBounds_toArray, List.set_cons_zero, List.set_cons_succ, List.getElem_toArray, List.getElem_cons_zero, List.getElem_cons_succ]
  refine wpAnyH_ready (rs := [13]) (by kernel_rfl) (by simp) ?_
  refine AllReadyH.cons rfl (fun K hK => ?_) AllReadyH.nil
  go_simp
  refine (wrshift t p (N 11) _ HP.out HTL.out).mono ?_
  rintro e q9 ⟨rfl, hq⟩
  go_wp2_with fail
  refine hK.out _ _ ⟨(hHeld.1).to (by omega) hq, (hHeld.2.1).to (by omega) hq, (hHeld.2.2.1).to hq, (hHeld.2.2.2.1).to hq, (hHeld.2.2.2.2).trans (hq.mono (hHeld.2.2.2.2).size)⟩ (fun hHeld2 => ?_)
  clear hK K hHeld hq
  have hHeld := hHeld2
  clear hHeld2
  try simp only [Act.put, List.setIfInBounds_toArray, List.set_cons_zero, List.set_cons_succ, List.getElem_toArray, List.getElem_cons_zero, List.getElem_cons_succ]
  refine wpAnyH_take (i := 14) (v := ?vq10) rfl (by kernel_rfl) (by kernel_rfl) (by kernel_rfl) (fun _ _ _ h => h) (Or.inl ⟨by rfl, ?hyq10⟩) (by assumption) ?restq10
  case hyq10 =>
    intro W hSw
    go_simp
    try with_reducible rfl
  simp only [Act.put, List.setIfInBounds_toArray, List.set_cons_zero, List.set_cons_succ, List.getElem_toArray, List.getElem_cons_zero, List.getElem_cons_succ]
  refine wpAnyH_take (i := 15) (v := ?vq11) rfl (by kernel_rfl) (by kernel_rfl) (by kernel_rfl) (fun _ _ _ h => h) (Or.inl ⟨by rfl, ?hyq11⟩) (by assumption) ?restq11
  case hyq11 =>
    intro W hSw
    go_simp
    try with_reducible rfl
  simp only [Act.put, List.setIfInBounds_toArray, List.set_cons_zero, List.set_cons_succ, List.getElem_toArray, List.getElem_cons_zero, List.getElem_cons_succ]
  refine wpAnyH_take (i := 16) (v := ?vq12) rfl (by kernel_rfl) (by kernel_rfl) (by kernel_rfl) (fun _ _ _ h => h) (Or.inl ⟨by rfl, ?hyq12⟩) (by assumption) ?restq12
  case hyq12 =>
    intro W hSw
    go_simp
    try with_reducible rfl
  simp only [Act.put, List.setIfInBounds_toArray, List.set_cons_zero, List.set_cons_succ, List.getElem_toArray, List.getElem_cons_zero, List.getElem_cons_succ]
  refine wpAnyH_done (by kernel_rfl) ?_ _
  have hBe := hHeld.2.2.2.2
  clear hHeld
  go_wp2_with fail
  go_ret
  exact ⟨rfl, hBe⟩
end Go.Proofs.YtblhfmlgpldaeaaDoor
