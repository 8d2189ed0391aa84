/-
 Contracts of package seal in the forms that the laws of layer 12 want: Crypt, Tag and Seal, over a made Table of a key; what was there stays as it was.
-/
import Derived.Test.YthfnpjjckpnfbaaGreatDoorSqz
import Derived.Test.YthfnpjjckpnfbaaGreatDoorSeq
import Derived.Test.YthfnpjjckpnfbaaGreatDoorSew
import Derived.Deep.RegionHeld3
namespace Go.Proofs.YthfnpjjckpnfbaaGreatDoor
open Go.RowKit
set_option linter.unusedVariables false
set_option maxRecDepth 100000
set_option linter.unusedSimpArgs false
open Go.Shelf

set_option maxHeartbeats 4000000 in
theorem stag (p : Option Addr) (f s : Nat → Nat) (z o : Nat → Nat) (A : Option Addr) (n c : Nat) (d : List UInt8) (w : World) (hf : B16 f) (hs : enF f zF = s) (hk : B16 z) (ho : B16 o) (hS : Sl w w.heap.size A n d) (hnc : n ≤ c) (hn : n ≤ 1000000) (ht : TabS w p f) (hx : Boxes w) :
  Calls Tryz.prog 26 #[.pointer p, .agg (arL 16 z).toArray, .agg (arL 16 o).toArray, .slice A n c] w fun e w' => e = .returned (.agg (arL 16 (tgF f s z o d)).toArray) ∧ Below w.heap.size w w' := by
 obtain ⟨kK, hkK⟩ : ∃ k : Array Value, (arL 16 (z)).toArray = k := ⟨_, rfl⟩
 obtain ⟨kO, hkO⟩ : ∃ k : Array Value, (arL 16 (o)).toArray = k := ⟨_, rfl⟩
 obtain ⟨w1, hw1⟩ : ∃ V : World, V = w.alloc (.cells (arL 16 (z)).toArray 22) := ⟨_, rfl⟩
 have hs1 : w1.heap.size = w.heap.size + 1 := by rw [hw1]; simp
 have hBw1 : Below w.heap.size w w1 := by rw [hw1]; exact (Below.refl _ _).alloc (Nat.le_refl _) _
 have hKw1 : Ar w1 w.heap.size 16 (z) := by rw [hw1]; exact Ar.new w 16 _ _
 obtain ⟨w2, hw2⟩ : ∃ V : World, V = w1.alloc (.cells (arL 16 (o)).toArray 22) := ⟨_, rfl⟩
 have hs2 : w2.heap.size = w.heap.size + 2 := by rw [hw2]; simp [hs1]
 have hBw2 : Below w.heap.size w w2 := by rw [hw2]; exact hBw1.alloc (by omega) _
 have hKw2 := hKw1.alloc (by omega) (.cells (arL 16 (o)).toArray 22)
 rw [← hw2] at hKw2
 have hOw2 : Ar w2 (w.heap.size + 1) 16 (o) := by rw [hw2, ← hs1]; exact Ar.new w1 16 _ _
 clear hKw1 hBw1
 obtain ⟨w3, hw3⟩ : ∃ V : World, V = w2.alloc (.cells (arL 16 (fun _ => 0)).toArray 22) := ⟨_, rfl⟩
 have hs3 : w3.heap.size = w.heap.size + 3 := by rw [hw3]; simp [hs2]
 have hBw3 : Below w.heap.size w w3 := by rw [hw3]; exact hBw2.alloc (by omega) _
 have hKw3 := hKw2.alloc (by omega) (.cells (arL 16 (fun _ => 0)).toArray 22)
 rw [← hw3] at hKw3
 have hOw3 := hOw2.alloc (by omega) (.cells (arL 16 (fun _ => 0)).toArray 22)
 rw [← hw3] at hOw3
 have hRw3 : Ar w3 (w.heap.size + 2) 16 (fun _ => 0) := by rw [hw3, ← hs2]; exact Ar.new w2 16 _ _
 clear hKw2 hOw2 hBw2
 have HKK := Lib.hid hkK
 rw [hkK] at hw1
 have HKO := Lib.hid hkO
 rw [hkO] at hw2
 rw [hkK, hkO]
 clear hkK hkO
 have hz := zero16b
 have HFB := Lib.hid hf
 have HKB := Lib.hid hk
 have HOB := Lib.hid ho
 have HSS := Lib.hid hS
 have HX := Lib.hid hx
 have HN := Lib.hid hn
 have HNC := Lib.hid hnc
 have HS0 := Lib.hid hs
 have HSL := Lib.hid (show B16 s by rw [← hs]; exact enR_lt hf zF_lt 10)
 obtain ⟨h1, h2, _⟩ := ht
 have HT := Lib.hid h1
 have HTM := Lib.hid h2
 obtain ⟨p2, hV, hCp, hcip⟩ := HT.out
 rw [hs] at hV
 have HV := Lib.hid hV
 have HCP := Lib.hid hCp
 have HCIP := Lib.hid hcip
 have HDB := Lib.hid (dk_lt HSL.out 1)
 clear hf hk ho hS hx hn hnc hs h1 h2 hV hCp hcip
 go_enter Tryz.func26, Tryz.ntmps26
 go_upto_region 1 with fail
 rw [← hw1, ← hw2, ← hw3]
 clear hw1 hw2 hw3
 try simp only [Nat.add_assoc, Nat.reduceAdd]
 obtain ⟨gO, hgO⟩ : ∃ g : Nat, w.heap.size + 1 = g := ⟨_, rfl⟩
 rw [hgO] at hOw3
 obtain ⟨gR, hgR⟩ : ∃ g : Nat, w.heap.size + 2 = g := ⟨_, rfl⟩
 rw [hgR] at hRw3
 try rw [hgR]
 try rw [hgO]
 have hlO : w.heap.size < gO := by omega
 have hlR : gO < gR := by omega
 clear hs1 hs2 hs3 hgO hgR
 go_wp2_with (first | (refine wpList_load_ar rfl _ _ rfl _ _ _ rfl hKw3 Tryz.arr16b (size16b _) ?_) | (refine wpList_load_ar rfl _ _ rfl _ _ _ rfl hOw3 Tryz.arr16b (size16b _) ?_))
 refine (bxor z o _ HKB.out HOB.out).mono ?_
 rintro e x1 ⟨rfl, hq⟩
 have hKx1 := (hKw3).to (by omega) hq
 have hOx1 := (hOw3).to (by omega) hq
 have hRx1 := (hRw3).to (by omega) hq
 have hBx1 := hBw3.trans (hq.mono hBw3.size)
 clear hq hKw3 hOw3 hRw3 hBw3
 go_wp2_with fail
 refine (tdollar (.pointer p) p2 s _ (HV.out.to hBx1)).mono ?_
 rintro e x2 ⟨rfl, hq⟩
 have hKx2 := (hKx1).to (by omega) hq
 have hOx2 := (hOx1).to (by omega) hq
 have hRx2 := (hRx1).to (by omega) hq
 have hBx2 := hBx1.trans (hq.mono hBx1.size)
 clear hq hKx1 hOx1 hRx1 hBx1
 obtain ⟨e1, he1⟩ : ∃ u, adF z o = u := ⟨_, rfl⟩
 have HE1 := Lib.hid he1
 have H1B := Lib.hid (show B16 e1 by rw [← he1]; exact adF_lt HKB.out HOB.out)
 rw [he1]
 obtain ⟨d1, hd1⟩ : ∃ u, dk s 1 = u := ⟨_, rfl⟩
 have HD1 := Lib.hid hd1
 rw [hd1] at HDB
 rw [hd1]
 clear he1 hd1
 go_wp2_with fail
 refine (bxor e1 d1 _ H1B.out HDB.out).mono ?_
 rintro e x3 ⟨rfl, hq⟩
 have hKx3 := (hKx2).to (by omega) hq
 have hOx3 := (hOx2).to (by omega) hq
 have hRx3 := (hRx2).to (by omega) hq
 have hBx3 := hBx2.trans (hq.mono hBx2.size)
 clear hq hKx2 hOx2 hRx2 hBx2
 obtain ⟨e2, he2⟩ : ∃ u, adF e1 d1 = u := ⟨_, rfl⟩
 have HE2 := Lib.hid he2
 have H2B := Lib.hid (show B16 e2 by rw [← he2]; exact adF_lt H1B.out HDB.out)
 rw [he2]
 clear he2
 obtain ⟨gE, hgE⟩ : ∃ g : Nat, x3.heap.size = g := ⟨_, rfl⟩
 have hlw_heap_sizegE : w.heap.size < gE := by rw [← hgE]; exact hKx3.lt (by omega)
 have hlgOgE : gO < gE := by rw [← hgE]; exact hOx3.lt (by omega)
 have hlgRgE : gR < gE := by rw [← hgE]; exact hRx3.lt (by omega)
 have hlwgE : w.heap.size ≤ gE := by rw [← hgE]; exact hBx3.size
 have hq : Below x3.heap.size x3 (x3.alloc (.cells (arL 16 fun _ => 0).toArray 22)) := (Below.refl _ _).alloc (Nat.le_refl _) _
 have hKx4a := (hKx3).to (by omega) hq
 have hOx4a := (hOx3).to (by omega) hq
 have hRx4a := (hRx3).to (by omega) hq
 have hEx4a := Ar.new x3 16 (fun _ => 0) 22
 have hBx4a := hBx3.alloc hBx3.size (.cells (arL 16 fun _ => 0).toArray 22)
 rw [hgE] at hEx4a
 clear hq hKx3 hOx3 hRx3 hBx3
 go_upto_region 2 with (first | (refine wpList_store_ar rfl _ _ _ rfl _ _ _ (e2) rfl rfl hEx4a (size16b _) ?_; intro x4 hEx4 belx4 sizx4 keex4) | fail)
 have hKx4 := (hKx4a).keep hlw_heap_sizegE belx4
 have hOx4 := (hOx4a).keep hlgOgE belx4
 have hRx4 := (hRx4a).keep hlgRgE belx4
 have hBx4 := hBx4a.trans (belx4.mono hlwgE)
 clear hKx4a hOx4a hRx4a hEx4a hBx4a belx4 sizx4 keex4 hgE
 try dsimp only [Act.put]
 have heb := Lib.hid (show B16 (enF f e2) from enR_lt HFB.out H2B.out 10)
 have hhb := Lib.hid (show B16 (haF f s d) from adF_lt (hsF_lt HFB.out HSL.out (fun k j _ => pt_lt _ _ _) _) (hrF_lt HFB.out HSL.out (atF_lt zF_lt HSL.out _) _))
 obtain ⟨hd, hhd⟩ : ∃ u, haF f s d = u := ⟨_, rfl⟩
 rw [hhd] at hhb
 have HHD := Lib.hid hhd
 clear hhd
 refine wp_region_noPanic ?_
 have hRad := hRx4.drew
 refine wp_region_held_drew (S := fun W => Ar W w.heap.size 16 (z) ∧ Ar W gO 16 (o) ∧ Ar W gE 16 (e2) ∧ Below w.heap.size w W) (by kernel_rfl) ⟨hKx4.drew, hOx4.drew, hEx4.drew, hBx4.drew⟩ (fun hHeld => ?_)
 clear hKx4 hOx4 hEx4 hBx4 hRx4
 generalize World.drew x4 = ad at *
 refine tw 0 ?va1 rfl ?hya1 ?resta1
 case hya1 =>
  intro W hSw
  go_simp
  try with_reducible rfl
 simp only [Act.put, nrm]
 refine tw 1 ?va2 rfl ?hya2 ?resta2
 case hya2 =>
  intro W hSw
  go_simp
  try with_reducible rfl
 simp only [Act.put, nrm]
 refine tw 3 ?va3 rfl ?hya3 ?resta3
 case hya3 =>
  intro W hSw
  go_simp
  try with_reducible rfl
 simp only [Act.put, nrm]
 refine tk 5 (.agg (arL 16 (e2)).toArray) rfl (yieldsIf_load_mid (by rfl) _ _ rfl gE (0) rfl (arL 16 (e2)) _ (fun W hSw => hSw.2.2.1.range) Tryz.arr16b rfl (size16b _)) ?_
 simp only [Act.put, nrm]
 refine rd 2 rfl (fun K hK => ?_)
 go_simp
 refine (hsum p f s A n c d _ HFB.out HS0.out ((HSS.out.below (hHeld.2.2.2)).more (hHeld.2.2.2).size) HNC.out HN.out (HTM.out.to (hHeld.2.2.2)) (HX.out.keep (hHeld.2.2.2))).mono ?_
 rintro e a4 ⟨rfl, hq⟩
 rw [HHD.out]
 go_wp2_with fail
 have hRa4 := (hRad).to (by omega) hq
 refine hK.out _ _ ⟨(hHeld.1).to (by omega) hq, (hHeld.2.1).to (by omega) hq, (hHeld.2.2.1).to (by omega) hq, (hHeld.2.2.2).trans (hq.mono (hHeld.2.2.2).size)⟩ ?_
 clear hK K hHeld hq hRad
 intro hHeld
 try simp only [Act.put, nrm]
 refine rd 4 rfl (fun K hK => ?_)
 go_simp
 refine (HCIP.out _ (hHeld.2.2.2)).mono ?_
 rintro e a5 ⟨rfl, hq⟩
 go_wp2_with fail
 have hRa5 := (hRa4).to (by omega) hq
 refine hK.out _ _ ⟨(hHeld.1).to (by omega) hq, (hHeld.2.1).to (by omega) hq, (hHeld.2.2.1).to (by omega) hq, (hHeld.2.2.2).trans (hq.mono (hHeld.2.2.2).size)⟩ ?_
 clear hK K hHeld hq hRa4
 intro hHeld
 try simp only [Act.put, nrm]
 refine rd 6 rfl (fun K hK => ?_)
 go_simp
 refine (fencrypt (.pointer p2) f e2 _ HFB.out H2B.out (HCP.out.to (hHeld.2.2.2)) (HX.out.keep (hHeld.2.2.2))).mono ?_
 rintro e a6 ⟨rfl, hq⟩
 go_wp2_with fail
 have hRa6 := (hRa5).to (by omega) hq
 refine hK.out _ _ ⟨(hHeld.1).to (by omega) hq, (hHeld.2.1).to (by omega) hq, (hHeld.2.2.1).to (by omega) hq, (hHeld.2.2.2).trans (hq.mono (hHeld.2.2.2).size)⟩ ?_
 clear hK K hHeld hq hRa5
 intro hHeld
 try simp only [Act.put, nrm]
 refine rd 7 rfl (fun K hK => ?_)
 go_simp
 refine (bxor hd (enF f e2) _ hhb.out heb.out).mono ?_
 rintro e a7 ⟨rfl, hq⟩
 go_wp2_with fail
 have hRa7 := (hRa6).to (by omega) hq
 refine hK.out _ _ ⟨(hHeld.1).to (by omega) hq, (hHeld.2.1).to (by omega) hq, (hHeld.2.2.1).to (by omega) hq, (hHeld.2.2.2).trans (hq.mono (hHeld.2.2.2).size)⟩ ?_
 clear hK K hHeld hq hRa6
 intro hHeld
 try simp only [Act.put, nrm]
 refine rd 8 rfl (fun K hK => ?_)
 rw [if_pos (by rfl)]
 refine wp_store_mid _ _ _ rfl gR 0 (arL 16 (adF hd (enF f e2))).toArray rfl rfl hRa7.there (size16b _) (all_oneCell_toArray (arL_one 16 (adF hd (enF f e2)))) ?_
 have hRa8 := hRa7.whole (adF hd (enF f e2))
 have hSa8 := show Ar (World.setCells a7 gR 0 (arL 16 (adF hd (enF f e2)))) w.heap.size 16 (z) ∧ Ar (World.setCells a7 gR 0 (arL 16 (adF hd (enF f e2)))) gO 16 (o) ∧ Ar (World.setCells a7 gR 0 (arL 16 (adF hd (enF f e2)))) gE 16 (e2) ∧ Below w.heap.size w (World.setCells a7 gR 0 (arL 16 (adF hd (enF f e2)))) from ⟨(hHeld.1).apart (b := gR) (by omega) (arL 16 (adF hd (enF f e2))) 0, (hHeld.2.1).apart (b := gR) (by omega) (arL 16 (adF hd (enF f e2))) 0, (hHeld.2.2.1).apart (b := gR) (by omega) (arL 16 (adF hd (enF f e2))) 0, (hHeld.2.2.2).trans (Below.setCells (Below.refl w.heap.size _) (b := gR) (by omega) (arL 16 (adF hd (enF f e2))) 0)⟩
 dsimp only [List.toList_toArray]
 generalize World.setCells a7 gR 0 (arL 16 (adF hd (enF f e2))) = a8 at *
 refine hK.out _ _ hSa8 ?_
 clear hK K hHeld hSa8 hRa7
 intro hHeld
 try simp only [Act.put]
 refine wpAnyH_done (by kernel_rfl) ?_ _
 have hR9 := hRa8
 have hB9 := hHeld.2.2.2
 clear hHeld hRa8
 refine NoPanic.normal ?_
 go_wp2_with fail
 refine bodyPost_ret_ar rfl rfl hR9 Tryz.arr16b (size16b _) rfl ⟨by unfold tgF; rw [HE1.out, HD1.out, HE2.out, HHD.out, adF_comm], hB9⟩

set_option maxHeartbeats 4000000 in
theorem sseal (p : Option Addr) (f s : Nat → Nat) (q a : Nat → Nat) (D : Option Addr) (m cd : Nat) (d : List UInt8) (A : Option Addr) (n c : Nat) (l : List UInt8) (w : World) (hf : B16 f) (hs : enF f zF = s) (hq0 : B12 q) (ha : o0F (enF f (nbF q)) (q 11) = a) (hD : Sl w w.heap.size D m d) (hmc : m ≤ cd) (hm : m ≤ 1000000) (hS : Sl w w.heap.size A n l) (hnc : n ≤ c) (hn : n ≤ 1000000) (ht : TabS w p f) (hx : Boxes w) :
  Calls Tryz.prog 16 #[.pointer p, .agg (arL 12 q).toArray, .slice D m cd, .slice A n c] w fun e w' => ∃ (A2 : Option Addr) (c2 : Nat), e = .returned (.slice A2 (n + 16) c2) ∧ Sl w' w'.heap.size A2 (n + 16) (seL f s a l (tgF f s (csF l) (ofF s a n) d)) ∧ n + 16 ≤ c2 ∧ Below w.heap.size w w' := by
 obtain ⟨kQ, hkQ⟩ : ∃ k : Array Value, (arL 12 (q)).toArray = k := ⟨_, rfl⟩
 obtain ⟨w1, hw1⟩ : ∃ V : World, V = w.alloc (.cells (arL 12 (q)).toArray 23) := ⟨_, rfl⟩
 have hs1 : w1.heap.size = w.heap.size + 1 := by rw [hw1]; simp
 have hBw1 : Below w.heap.size w w1 := by rw [hw1]; exact (Below.refl _ _).alloc (Nat.le_refl _) _
 have hQw1 : Ar w1 w.heap.size 12 (q) := by rw [hw1]; exact Ar.new w 12 _ _
 have HKQ := Lib.hid hkQ
 rw [hkQ] at hw1
 rw [hkQ]
 clear hkQ
 have hz := zero16b
 have HFB := Lib.hid hf
 have HQB := Lib.hid hq0
 have HAD := Lib.hid ha
 have HSS := Lib.hid hS
 have HDD := Lib.hid hD
 have HX := Lib.hid hx
 have HN := Lib.hid hn
 have HM6 := Lib.hid hm
 have HNC := Lib.hid hnc
 have HMC := Lib.hid hmc
 have HS0 := Lib.hid hs
 have HSL := Lib.hid (show B16 s by rw [← hs]; exact enR_lt hf zF_lt 10)
 have HAB := Lib.hid (show B16 a by rw [← ha]; exact o0F_lt (enR_lt hf (nbF_lt hq0) 10) _)
 have HT := Lib.hid ht
 obtain ⟨h1, h2, p0, rfl⟩ := ht
 have HTC := Lib.hid h1
 obtain ⟨i0, hi0, hz0, hz1, hz2⟩ := info_parts info8x
 have HI0 := Lib.hid hi0
 have HZ1 := Lib.hid hz1
 clear hf hq0 ha hS hD hx hn hm hnc hmc hs h1 h2 hi0 hz0 hz1 hz2
 go_enter Tryz.func16, Tryz.ntmps16
 go_upto_region 1 with fail
 rw [← hw1]
 clear hw1
 try simp only [Nat.add_assoc, Nat.reduceAdd]
 clear hs1 
 go_wp2_with (refine wpList_load_ar rfl _ _ rfl _ _ _ rfl hQw1 Tryz.arr12 (size12 _) ?_)
 refine (scrypt0 p0 f s q a A n c l _ HFB.out HS0.out HQB.out HAD.out ((HSS.out.below hBw1).more hBw1.size) HNC.out HN.out (HTC.out.to hBw1) (HX.out.keep hBw1)).mono ?_
 rintro e x1 ⟨gW, rfl, hgW, hRx1, hq⟩
 have hlW : w.heap.size ≤ gW := Nat.le_trans hBw1.size hgW
 clear hgW
 have hQx1 := (hQw1).to (by omega) hq
 have hBx1 := hBw1.trans (hq.mono hBw1.size)
 clear hq hQw1 hBw1
 obtain ⟨k, hk⟩ : ∃ u, csF l = u := ⟨_, rfl⟩
 obtain ⟨o, ho⟩ : ∃ u, ofF s a n = u := ⟨_, rfl⟩
 have hkb := Lib.hid (show B16 k by rw [← hk]; exact csF_lt l)
 have hob := Lib.hid (show B16 o by rw [← ho]; exact ofF_lt HSL.out HAB.out n)
 rw [hk, ho]
 have HK0 := Lib.hid hk
 have HO0 := Lib.hid ho
 clear hk ho
 obtain ⟨U, hU⟩ : ∃ U, ctL f s a l = U := ⟨_, rfl⟩
 rw [hU] at hRx1
 have HU := Lib.hid hU
 clear hU
 obtain ⟨v2, hv2⟩ : ∃ V : World, V = x1.alloc (.cells (arL 16 fun _ => 0).toArray 22) := ⟨_, rfl⟩
 have hsv2 : v2.heap.size = x1.heap.size + 1 := by rw [hv2]; simp
 have hq : Below x1.heap.size x1 v2 := by rw [hv2]; exact (Below.refl _ _).alloc (Nat.le_refl _) _
 have hQv2 := (hQx1).to (by omega) hq
 have hRv2 := (hRx1).to hq
 have hBv2 := hBx1.trans (hq.mono hBx1.size)
 have hxv2 : Ar v2 x1.heap.size 16 (fun _ => 0) := by rw [hv2]; exact Ar.new x1 16 _ _
 have hlw_heap_sizegx : w.heap.size < x1.heap.size := hQx1.lt (by omega)
 have hlgWgx : gW < x1.heap.size := hRx1.lt
 have hlwgx : w.heap.size ≤ x1.heap.size := hBx1.size
 clear hq hQx1 hRx1 hBx1
 obtain ⟨v3, hv3⟩ : ∃ V : World, V = v2.alloc (.cells (arL 16 fun _ => 0).toArray 22) := ⟨_, rfl⟩
 have hq : Below v2.heap.size v2 v3 := by rw [hv3]; exact (Below.refl _ _).alloc (Nat.le_refl _) _
 have hQv3 := (hQv2).to (by omega) hq
 have hRv3 := (hRv2).to hq
 have hxv3 := hxv2.to (by omega) hq
 have hBv3 := hBv2.trans (hq.mono hBv2.size)
 have hyv3 : Ar v3 (x1.heap.size + 1) 16 (fun _ => 0) := by rw [hv3, ← hsv2]; exact Ar.new v2 16 _ _
 clear hq hsv2 hQv2 hRv2 hxv2 hBv2
 go_upto_region 2 with (first | (refine wpList_store_ar rfl _ _ _ rfl _ _ _ (k) rfl rfl (by rw [← hv2, ← hv3]; exact hxv3) (size16b _) ?_; intro x4 hxx4 bel8 siz8 kee8) | (refine wpList_store_ar rfl _ _ _ rfl _ _ _ (o) rfl rfl (kee8 _ _ _ (by omega) (by rw [← hv2, ← hv3]; exact hyv3)) (size16b _) ?_; intro x5 hyx5 bel9 siz9 kee9) | fail)
 rw [← hv2, ← hv3] at bel8
 obtain ⟨gx, hgx⟩ : ∃ g : Nat, x1.heap.size = g := ⟨_, rfl⟩
 obtain ⟨gy, hgy⟩ : ∃ g : Nat, x1.heap.size + 1 = g := ⟨_, rfl⟩
 have hlgxgy : gx < gy := by omega
 try rw [hgy]
 try rw [hgx]
 rw [hgx] at hxx4 bel8 hlwgx hlw_heap_sizegx hlgWgx
 rw [hgy] at hyx5 bel9
 have hxx5 := hxx4.keep hlgxgy bel9
 have hQx5 := (hQv3.keep hlw_heap_sizegx bel8).keep (Nat.lt_trans hlw_heap_sizegx hlgxgy) bel9
 have hRx5 := (hRv3.keep hlgWgx bel8).keep (Nat.lt_trans hlgWgx hlgxgy) bel9
 have hBx5 := (hBv3.trans (bel8.mono hlwgx)).trans (bel9.mono (Nat.le_trans hlwgx (Nat.le_of_lt hlgxgy)))
 clear hxx4 bel8 bel9 hQv3 hRv3 hxv3 hyv3 hBv3 siz8 siz9 kee8 kee9 hv2 hv3 hgx hgy
 try dsimp only [Act.put]
 go_wp2_with (first | (refine wpList_load_ar rfl _ _ rfl _ _ _ rfl hxx5 Tryz.arr16b (size16b _) ?_) | (refine wpList_load_ar rfl _ _ rfl _ _ _ rfl hyx5 Tryz.arr16b (size16b _) ?_))
 refine (stag (some p0) f s k o D m cd d _ HFB.out HS0.out hkb.out hob.out ((HDD.out.below hBx5).more hBx5.size) HMC.out HM6.out (HT.out.to hBx5) (HX.out.keep hBx5)).mono ?_
 rintro e x6 ⟨rfl, hq⟩
 have hQx6 := (hQx5).to (by omega) hq
 have hRx6 := (hRx5).to hq
 have hxx6 := (hxx5).to (by omega) hq
 have hyx6 := (hyx5).to (by omega) hq
 have hBx6 := hBx5.trans (hq.mono hBx5.size)
 clear hq hQx5 hRx5 hxx5 hyx5 hBx5
 obtain ⟨tg, htg⟩ : ∃ u, tgF f s k o d = u := ⟨_, rfl⟩
 have HTG := Lib.hid htg
 have HTB := Lib.hid (show B16 tg by rw [← htg]; exact adF_lt (enR_lt HFB.out (adF_lt (adF_lt hkb.out hob.out) (dk_lt HSL.out 1)) 10) (adF_lt (hsF_lt HFB.out HSL.out (fun k j _ => pt_lt _ _ _) _) (hrF_lt HFB.out HSL.out (atF_lt zF_lt HSL.out _) _)))
 rw [htg]
 clear htg
 obtain ⟨gt, hgt⟩ : ∃ g : Nat, x6.heap.size = g := ⟨_, rfl⟩
 have hlw_heap_sizegt : w.heap.size < gt := by rw [← hgt]; exact hQx6.lt (by omega)
 have hlgWgt : gW < gt := by rw [← hgt]; exact hRx6.lt
 have hlgxgt : gx < gt := by rw [← hgt]; exact hxx6.lt (by omega)
 have hlgygt : gy < gt := by rw [← hgt]; exact hyx6.lt (by omega)
 have hlwgt : w.heap.size ≤ gt := by rw [← hgt]; exact hBx6.size
 have hq : Below x6.heap.size x6 (x6.alloc (.cells (arL 16 fun _ => 0).toArray 22)) := (Below.refl _ _).alloc (Nat.le_refl _) _
 have hQx7a := (hQx6).to (by omega) hq
 have hRx7a := (hRx6).to hq
 have hxx7a := (hxx6).to (by omega) hq
 have hyx7a := (hyx6).to (by omega) hq
 have htx7a := Ar.new x6 16 (fun _ => 0) 22
 have hBx7a := hBx6.alloc hBx6.size (.cells (arL 16 fun _ => 0).toArray 22)
 rw [hgt] at htx7a
 clear hq hQx6 hRx6 hxx6 hyx6 hBx6
 go_upto_region 3 with (first | (refine wpList_store_ar rfl _ _ _ rfl _ _ _ (tg) rfl rfl htx7a (size16b _) ?_; intro x7 htx7 belx7 sizx7 keex7) | fail)
 have hQx7 := (hQx7a).keep hlw_heap_sizegt belx7
 have hRx7 := (hRx7a).keep hlgWgt belx7
 have hxx7 := (hxx7a).keep hlgxgt belx7
 have hyx7 := (hyx7a).keep hlgygt belx7
 have hBx7 := hBx7a.trans (belx7.mono hlwgt)
 clear hQx7a hRx7a hxx7a hyx7a htx7a hBx7a belx7 sizx7 keex7 hgt
 try dsimp only [Act.put]
 have hsl := slice16all2 gt
 go_wp2_with (at_builtin; refine wpList_append_own_spare _ rfl _ _ 24 rfl gW 5 i0 1 Tryz.underlying24 HI0.out HZ1.out gW n (n + 16) _ rfl hRx7 ⟨gt, 0, none⟩ 16 16 (arL 16 tg) rfl (by simp [arL_len]) htx7.src (arL_one 16 _) (Nat.le_refl _) ?_; intro w9 hown hgrow)
 have hR9 : Ro w9 gW (n + 16) (n + 16) (U ++ liB 16 tg) := by unfold Ro; rw [List.map_append, liB_b8 16 tg HTB.out]; exact hown
 have hB9 := hBx7.grown hgrow hBx7.size (fun k e => by cases e; exact hlW)
 go_ret
 exact ⟨_, _, rfl, by unfold seL; rw [HU.out, HK0.out, HO0.out, HTG.out]; exact hR9.sl, Nat.le_refl _, hB9⟩
end Go.Proofs.YthfnpjjckpnfbaaGreatDoor
