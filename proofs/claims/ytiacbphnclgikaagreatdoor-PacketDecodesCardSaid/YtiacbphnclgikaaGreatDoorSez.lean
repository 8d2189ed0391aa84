/-
 Contracts of package seal in the forms that the laws of layer 12 want: Crypt, Tag and Seal, over a made Table of a key; what was there stays as it was.
-/
import Derived.Test.YtiacbphnclgikaaGreatDoorSqz
import Derived.Test.YtiacbphnclgikaaGreatDoorSeq
import Derived.Test.YtiacbphnclgikaaGreatDoorSew
import Derived.Deep.RegionHeld3
namespace Go.Proofs.YtiacbphnclgikaaGreatDoor
open Go.RowKit
set_option linter.unusedVariables false
set_option maxRecDepth 100000
set_option linter.unusedSimpArgs false
open Go.Shelf
set_option maxHeartbeats 1600000 in
theorem scrypt (p:Option Addr) (f s:Nat→Nat) (q a:Nat→Nat) (A:Option Addr) (n c:Nat) (l:List UInt8) (w:World) (hf:B16 f) (hs:enF f zF=s) (hq0:B12 q) (ha:o0F (enF f (nbF q)) (q 11)=a) (hS:Sl w w.heap.size A n l) (hnc:n≤c) (hn:n≤1000000) (ht:TabS w p f) (hx:Boxes w):
  Calls Tryz.prog 54 #[.pointer p,.agg (arL 12 q).toArray,.slice A n c] w fun e w'=> ∃(A2:Option Addr) (c2:Nat),e= .returned (.tuple #[.slice A2 n c2,.agg (arL 16 (csF l)).toArray,.agg (arL 16 (ofF s a n)).toArray])∧Sl w' w'.heap.size A2 n (ctL f s a l)∧n≤c2∧Below w.heap.size w w':=by
 obtain⟨h1,h2,p0,rfl⟩:=ht
 refine(scrypt0 p0 f s q a A n c l w hf hs hq0 ha hS hnc hn h1 hx).mono ?_
 rintro e w' ⟨gW,rfl,h3,h4,h5⟩
 exact⟨_,_,rfl,h4.sl,by omega,h5⟩
set_option maxHeartbeats 4000000 in
theorem stag (p:Option Addr) (f s:Nat→Nat) (z o:Nat→Nat) (A:Option Addr) (n c:Nat) (d:List UInt8) (w:World) (hf:B16 f) (hs:enF f zF=s) (hk:B16 z) (ho:B16 o) (hS:Sl w w.heap.size A n d) (hnc:n≤c) (hn:n≤1000000) (ht:TabS w p f) (hx:Boxes w):
  Calls Tryz.prog 55 #[.pointer p,.agg (arL 16 z).toArray,.agg (arL 16 o).toArray,.slice A n c] w fun e w'=>e= .returned (.agg (arL 16 (tgF f s z o d)).toArray)∧Below w.heap.size w w':=by
 obtain⟨kK,hkK⟩:=Le ((arL 16 (z)).toArray)
 obtain⟨kO,hkO⟩:=Le ((arL 16 (o)).toArray)
 obtain⟨w1,hw1⟩:=Lv (w.alloc (.cells (arL 16 (z)).toArray 22))
 have hs1:=Zs1 hw1
 have hBw1:=Bl hw1
 have hKw1:Ar w1 w.heap.size 16 (z):=by rw [hw1];exact Ar.new w 16 _ _
 obtain⟨w2,hw2⟩:=Lv (w1.alloc (.cells (arL 16 (o)).toArray 22))
 have hs2:=Zs2 hw2 hs1
 have hBw2:=Bm hw2 hBw1
 have hKw2:=hKw1.alloc (by omega) (.cells (arL 16 (o)).toArray 22)
 rw [←hw2]at hKw2
 have hOw2:Ar w2 (w.heap.size+1) 16 (o):=by rw [hw2,←hs1];exact Ar.new w1 16 _ _
 clear hKw1 hBw1
 obtain⟨w3,hw3⟩:=Lv (w2.alloc (.cells (arL 16 (fun _=>0)).toArray 22))
 have hs3:=Zs3 hw3 hs2
 have hBw3:=Bm hw3 hBw2
 have hKw3:=hKw2.alloc (by omega) (.cells (arL 16 (fun _=>0)).toArray 22)
 rw [←hw3]at hKw3
 have hOw3:=hOw2.alloc (by omega) (.cells (arL 16 (fun _=>0)).toArray 22)
 rw [←hw3]at hOw3
 have hRw3:Ar w3 (w.heap.size+2) 16 (fun _=>0):=by rw [hw3,←hs2];exact Ar.new w2 16 _ _
 clear hKw2 hOw2 hBw2
 have HKK:=Lib.hid hkK
 rw [hkK]at hw1
 have HKO:=Lib.hid hkO
 rw [hkO]at hw2
 rw [hkK,hkO]
 clear hkK hkO
 have hz:=zero16b
 have HFB:=Lib.hid hf
 have HKB:=Lib.hid hk
 have HOB:=Lib.hid ho
 have HSS:=Lib.hid hS
 have HX:=Lib.hid hx
 have HN:=Lib.hid hn
 have HNC:=Lib.hid hnc
 have HS0:=Lib.hid hs
 have HSL:=Lib.hid (show B16 s by rw [←hs];exact enR_lt hf zF_lt 10)
 obtain⟨h1,h2,_⟩:=ht
 have HT:=Lib.hid h1
 have HTM:=Lib.hid h2
 obtain⟨p2,hV,hCp,hcip⟩:=HT.out
 rw [hs]at hV
 have HV:=Lib.hid hV
 have HCP:=Lib.hid hCp
 have HCIP:=Lib.hid hcip
 have HDB:=Lib.hid (dk_lt HSL.out 1)
 clear hf hk ho hS hx hn hnc hs h1 h2 hV hCp hcip
 go_enter Tryz.func55,Tryz.ntmps55
 go_upto_region 1 with fail
 rw [←hw1,←hw2,←hw3]
 clear hw1 hw2 hw3
 try simp only [Nat.add_assoc,Nat.reduceAdd]
 obtain⟨gO,hgO⟩:=Le (w.heap.size+1)
 rw [hgO]at hOw3
 obtain⟨gR,hgR⟩:=Le (w.heap.size+2)
 rw [hgR]at hRw3
 try rw [hgR]
 try rw [hgO]
 have hlO:w.heap.size<gO:=by omega
 have hlR:gO<gR:=by omega
 clear hs1 hs2 hs3 hgO hgR
 go_wp2_with (first|(refine wpList_load_ar rfl _ _ rfl _ _ _ rfl hKw3 Tryz.arr16b (size16b _) ?_)|(refine wpList_load_ar rfl _ _ rfl _ _ _ rfl hOw3 Tryz.arr16b (size16b _) ?_))
 refine(bxor z o _ HKB.out HOB.out).mono ?_
 rintro e x1 ⟨rfl,hq⟩
 have hKx1:=hKw3.t hq
 have hOx1:=hOw3.t hq
 have hRx1:=hRw3.t hq
 have hBx1:=Tq hBw3 hq
 clear hq hKw3 hOw3 hRw3 hBw3
 go_wp2_with fail
 refine(tdollar (.pointer p) p2 s _ (HV.out.to hBx1)).mono ?_
 rintro e x2 ⟨rfl,hq⟩
 have hKx2:=hKx1.t hq
 have hOx2:=hOx1.t hq
 have hRx2:=hRx1.t hq
 have hBx2:=Tq hBx1 hq
 clear hq hKx1 hOx1 hRx1 hBx1
 obtain⟨e1,he1⟩: ∃u,adF z o=u:=⟨_,rfl⟩
 have HE1:=Lib.hid he1
 have H1B:=Lib.hid (show B16 e1 by rw [←he1];exact adF_lt HKB.out HOB.out)
 rw [he1]
 obtain⟨d1,hd1⟩: ∃u,dk s 1=u:=⟨_,rfl⟩
 have HD1:=Lib.hid hd1
 rw [hd1]at HDB
 rw [hd1]
 clear he1 hd1
 go_wp2_with fail
 refine(bxor e1 d1 _ H1B.out HDB.out).mono ?_
 rintro e x3 ⟨rfl,hq⟩
 have hKx3:=hKx2.t hq
 have hOx3:=hOx2.t hq
 have hRx3:=hRx2.t hq
 have hBx3:=Tq hBx2 hq
 clear hq hKx2 hOx2 hRx2 hBx2
 obtain⟨e2,he2⟩: ∃u,adF e1 d1=u:=⟨_,rfl⟩
 have HE2:=Lib.hid he2
 have H2B:=Lib.hid (show B16 e2 by rw [←he2];exact adF_lt H1B.out HDB.out)
 rw [he2]
 clear he2
 obtain⟨gE,hgE⟩:=Le (x3.heap.size)
 have hlw_heap_sizegE:w.heap.size<gE:=by rw [←hgE];exact hKx3.lt (by omega)
 have hlgOgE:gO<gE:=by rw [←hgE];exact hOx3.lt (by omega)
 have hlgRgE:gR<gE:=by rw [←hgE];exact hRx3.lt (by omega)
 have hlwgE:w.heap.size≤gE:=by rw [←hgE];exact hBx3.size
 have hq:=Ba x3 (.cells (arL 16 fun _=>0).toArray 22)
 have hKx4a:=hKx3.t hq
 have hOx4a:=hOx3.t hq
 have hRx4a:=hRx3.t hq
 have hEx4a:=Ar.new x3 16 (fun _=>0) 22
 have hBx4a:=hBx3.alloc hBx3.size (.cells (arL 16 fun _=>0).toArray 22)
 rw [hgE]at hEx4a
 clear hq hKx3 hOx3 hRx3 hBx3
 go_upto_region 2 with (first|(refine wpList_store_ar rfl _ _ _ rfl _ _ _ (e2) rfl rfl hEx4a (size16b _) ?_;intro x4 hEx4 belx4 sizx4 keex4)|fail)
 have hKx4:=(hKx4a).keep hlw_heap_sizegE belx4
 have hOx4:=(hOx4a).keep hlgOgE belx4
 have hRx4:=(hRx4a).keep hlgRgE belx4
 have hBx4:=hBx4a.trans (belx4.mono hlwgE)
 clear hKx4a hOx4a hRx4a hEx4a hBx4a belx4 sizx4 keex4 hgE
 try dsimp only [Act.put]
 have heb:=Lib.hid (show B16 (enF f e2)from enR_lt HFB.out H2B.out 10)
 have hhb:=Lib.hid (show B16 (haF f s d)from adF_lt (hsF_lt HFB.out HSL.out (fun k j _=>pt_lt _ _ _) _) (hrF_lt HFB.out HSL.out (atF_lt zF_lt HSL.out _) _))
 obtain⟨hd,hhd⟩: ∃u,haF f s d=u:=⟨_,rfl⟩
 rw [hhd]at hhb
 have HHD:=Lib.hid hhd
 clear hhd
 refine wp_region_noPanic ?_
 have hRad:=hRx4.drew
 refine wp_region_held_drew (S:=fun W=>Ar W w.heap.size 16 (z)∧Ar W gO 16 (o)∧Ar W gE 16 (e2)∧Below w.heap.size w W) (by kernel_rfl) ⟨hKx4.drew,hOx4.drew,hEx4.drew,hBx4.drew⟩ (fun hH'=> ?_)
 clear hKx4 hOx4 hEx4 hBx4 hRx4
 generalize World.drew x4=ad at*
 refine tw 0 ?va1 rfl ?hya1 ?resta1
 case hya1=>
  intro W hSw
  go_simp
  try with_reducible rfl
 simp only [Act.put,nrm]
 refine tw 1 ?va2 rfl ?hya2 ?resta2
 case hya2=>
  intro W hSw
  go_simp
  try with_reducible rfl
 simp only [Act.put,nrm]
 refine tw 3 ?va3 rfl ?hya3 ?resta3
 case hya3=>
  intro W hSw
  go_simp
  try with_reducible rfl
 simp only [Act.put,nrm]
 refine tk 5 (.agg (arL 16 (e2)).toArray) rfl (yieldsIf_load_mid (by rfl) _ _ rfl gE (0) rfl (arL 16 (e2)) _ (fun W hSw=>hSw.2.2.1.range) Tryz.arr16b rfl (size16b _)) ?_
 simp only [Act.put,nrm]
 refine rd 2 rfl (fun K hK=> ?_)
 go_simp
 refine(hsum p f s A n c d _ HFB.out HS0.out ((HSS.out.below (hH'.2.2.2)).more (hH'.2.2.2).size) HNC.out HN.out (HTM.out.to (hH'.2.2.2)) (HX.out.keep (hH'.2.2.2))).mono ?_
 rintro e a4 ⟨rfl,hq⟩
 rw [HHD.out]
 go_wp2_with fail
 have hRa4:=hRad.t hq
 refine hK.out _ _ ⟨hH'.1.t hq,hH'.2.1.t hq,hH'.2.2.1.t hq,Tq hH'.2.2.2 hq⟩ ?_
 clear hK K hH' hq hRad
 intro hH'
 try simp only [Act.put,nrm]
 refine rd 4 rfl (fun K hK=> ?_)
 go_simp
 refine(HCIP.out _ (hH'.2.2.2)).mono ?_
 rintro e a5 ⟨rfl,hq⟩
 go_wp2_with fail
 have hRa5:=hRa4.t hq
 refine hK.out _ _ ⟨hH'.1.t hq,hH'.2.1.t hq,hH'.2.2.1.t hq,Tq hH'.2.2.2 hq⟩ ?_
 clear hK K hH' hq hRa4
 intro hH'
 try simp only [Act.put,nrm]
 refine rd 6 rfl (fun K hK=> ?_)
 go_simp
 refine(fencrypt (.pointer p2) f e2 _ HFB.out H2B.out (HCP.out.to (hH'.2.2.2)) (HX.out.keep (hH'.2.2.2))).mono ?_
 rintro e a6 ⟨rfl,hq⟩
 go_wp2_with fail
 have hRa6:=hRa5.t hq
 refine hK.out _ _ ⟨hH'.1.t hq,hH'.2.1.t hq,hH'.2.2.1.t hq,Tq hH'.2.2.2 hq⟩ ?_
 clear hK K hH' hq hRa5
 intro hH'
 try simp only [Act.put,nrm]
 refine rd 7 rfl (fun K hK=> ?_)
 go_simp
 refine(bxor hd (enF f e2) _ hhb.out heb.out).mono ?_
 rintro e a7 ⟨rfl,hq⟩
 go_wp2_with fail
 have hRa7:=hRa6.t hq
 refine hK.out _ _ ⟨hH'.1.t hq,hH'.2.1.t hq,hH'.2.2.1.t hq,Tq hH'.2.2.2 hq⟩ ?_
 clear hK K hH' hq hRa6
 intro hH'
 try simp only [Act.put,nrm]
 refine rd 8 rfl (fun K hK=> ?_)
 rw [if_pos (by rfl)]
 refine wp_store_mid _ _ _ rfl gR 0 (arL 16 (adF hd (enF f e2))).toArray rfl rfl hRa7.there (size16b _) (all_oneCell_toArray (arL_one 16 (adF hd (enF f e2)))) ?_
 have hRa8:=hRa7.whole (adF hd (enF f e2))
 dsimp only [List.toList_toArray]
 refine hK.out _ _ ⟨(hH'.1).apart (b:=gR) (by omega) (arL 16 (adF hd (enF f e2))) 0,(hH'.2.1).apart (b:=gR) (by omega) (arL 16 (adF hd (enF f e2))) 0,(hH'.2.2.1).apart (b:=gR) (by omega) (arL 16 (adF hd (enF f e2))) 0,(hH'.2.2.2).trans (Below.setCells (Below.refl w.heap.size _) (b:=gR) (by omega) (arL 16 (adF hd (enF f e2))) 0)⟩ ?_
 clear hK K hH' hRa7
 intro hH'
 generalize World.setCells a7 gR 0 (arL 16 (adF hd (enF f e2)))=a8 at*
 try simp only [Act.put]
 refine wpAnyH_done (by kernel_rfl) ?_ _
 have hR9:=hRa8
 have hB9:=hH'.2.2.2
 clear hH' hRa8
 refine NoPanic.normal ?_
 go_wp2_with fail
 refine bodyPost_ret_ar rfl rfl hR9 Tryz.arr16b (size16b _) rfl ⟨by unfold tgF;rw [HE1.out,HD1.out,HE2.out,HHD.out,adF_comm],hB9⟩
set_option maxHeartbeats 4000000 in
theorem sseal (p:Option Addr) (f s:Nat→Nat) (q a:Nat→Nat) (D:Option Addr) (m cd:Nat) (d:List UInt8) (A:Option Addr) (n c:Nat) (l:List UInt8) (w:World) (hf:B16 f) (hs:enF f zF=s) (hq0:B12 q) (ha:o0F (enF f (nbF q)) (q 11)=a) (hD:Sl w w.heap.size D m d) (hmc:m≤cd) (hm:m≤1000000) (hS:Sl w w.heap.size A n l) (hnc:n≤c) (hn:n≤1000000) (ht:TabS w p f) (hx:Boxes w):
  Calls Tryz.prog 29 #[.pointer p,.agg (arL 12 q).toArray,.slice D m cd,.slice A n c] w fun e w'=> ∃(A2:Option Addr) (c2:Nat),e= .returned (.slice A2 (n+16) c2)∧Sl w' w'.heap.size A2 (n+16) (seL f s a l (tgF f s (csF l) (ofF s a n) d))∧n+16≤c2∧Below w.heap.size w w':=by
 obtain⟨kQ,hkQ⟩:=Le ((arL 12 (q)).toArray)
 obtain⟨w1,hw1⟩:=Lv (w.alloc (.cells (arL 12 (q)).toArray 77))
 have hs1:=Zs1 hw1
 have hBw1:=Bl hw1
 have hQw1:Ar w1 w.heap.size 12 (q):=by rw [hw1];exact Ar.new w 12 _ _
 have HKQ:=Lib.hid hkQ
 rw [hkQ]at hw1
 rw [hkQ]
 clear hkQ
 have hz:=zero16b
 have HFB:=Lib.hid hf
 have HQB:=Lib.hid hq0
 have HAD:=Lib.hid ha
 have HSS:=Lib.hid hS
 have HDD:=Lib.hid hD
 have HX:=Lib.hid hx
 have HN:=Lib.hid hn
 have HM6:=Lib.hid hm
 have HNC:=Lib.hid hnc
 have HMC:=Lib.hid hmc
 have HS0:=Lib.hid hs
 have HSL:=Lib.hid (show B16 s by rw [←hs];exact enR_lt hf zF_lt 10)
 have HAB:=Lib.hid (show B16 a by rw [←ha];exact o0F_lt (enR_lt hf (nbF_lt hq0) 10) _)
 have HT:=Lib.hid ht
 obtain⟨h1,h2,p0,rfl⟩:=ht
 have HTC:=Lib.hid h1
 obtain⟨i0,hi0,hz0,hz1,hz2⟩:=info_parts info8x
 have HI0:=Lib.hid hi0
 have HZ1:=Lib.hid hz1
 clear hf hq0 ha hS hD hx hn hm hnc hmc hs h1 h2 hi0 hz0 hz1 hz2
 go_enter Tryz.func29,Tryz.ntmps29
 go_upto_region 1 with fail
 rw [←hw1]
 clear hw1
 try simp only [Nat.add_assoc,Nat.reduceAdd]
 clear hs1
 go_wp2_with (refine wpList_load_ar rfl _ _ rfl _ _ _ rfl hQw1 Tryz.arr12 (size12 _) ?_)
 refine(scrypt0 p0 f s q a A n c l _ HFB.out HS0.out HQB.out HAD.out ((HSS.out.below hBw1).more hBw1.size) HNC.out HN.out (HTC.out.to hBw1) (HX.out.keep hBw1)).mono ?_
 rintro e x1 ⟨gW,rfl,hgW,hRx1,hq⟩
 have hlW:w.heap.size≤gW:=Nat.le_trans hBw1.size hgW
 clear hgW
 have hQx1:=hQw1.t hq
 have hBx1:=Tq hBw1 hq
 clear hq hQw1 hBw1
 obtain⟨k,hk⟩: ∃u,csF l=u:=⟨_,rfl⟩
 obtain⟨o,ho⟩: ∃u,ofF s a n=u:=⟨_,rfl⟩
 have hkb:=Lib.hid (show B16 k by rw [←hk];exact csF_lt l)
 have hob:=Lib.hid (show B16 o by rw [←ho];exact ofF_lt HSL.out HAB.out n)
 rw [hk,ho]
 have HK0:=Lib.hid hk
 have HO0:=Lib.hid ho
 clear hk ho
 obtain⟨U,hU⟩: ∃U,ctL f s a l=U:=⟨_,rfl⟩
 rw [hU]at hRx1
 have HU:=Lib.hid hU
 clear hU
 obtain⟨v2,hv2⟩:=Lv (x1.alloc (.cells (arL 16 fun _=>0).toArray 22))
 have hsv2:=Zs1 hv2
 have hq:=Bl hv2
 have hQv2:=hQx1.t hq
 have hRv2:=hRx1.to hq
 have hBv2:=Tq hBx1 hq
 have hxv2:Ar v2 x1.heap.size 16 (fun _=>0):=by rw [hv2];exact Ar.new x1 16 _ _
 have hlw_heap_sizegx:w.heap.size<x1.heap.size:=hQx1.lt (by omega)
 have hlgWgx:gW<x1.heap.size:=hRx1.lt
 have hlwgx:w.heap.size≤x1.heap.size:=hBx1.size
 clear hq hQx1 hRx1 hBx1
 obtain⟨v3,hv3⟩:=Lv (v2.alloc (.cells (arL 16 fun _=>0).toArray 22))
 have hq:=Bl hv3
 have hQv3:=hQv2.t hq
 have hRv3:=hRv2.to hq
 have hxv3:=hxv2.t hq
 have hBv3:=Tq hBv2 hq
 have hyv3:Ar v3 (x1.heap.size+1) 16 (fun _=>0):=by rw [hv3,←hsv2];exact Ar.new v2 16 _ _
 clear hq hsv2 hQv2 hRv2 hxv2 hBv2
 go_upto_region 2 with (first|(refine wpList_store_ar rfl _ _ _ rfl _ _ _ (k) rfl rfl (by rw [←hv2,←hv3];exact hxv3) (size16b _) ?_;intro x4 hxx4 bel8 siz8 kee8)|(refine wpList_store_ar rfl _ _ _ rfl _ _ _ (o) rfl rfl (kee8 _ _ _ (by omega) (by rw [←hv2,←hv3];exact hyv3)) (size16b _) ?_;intro x5 hyx5 bel9 siz9 kee9)|fail)
 rw [←hv2,←hv3]at bel8
 obtain⟨gx,hgx⟩:=Le (x1.heap.size)
 obtain⟨gy,hgy⟩:=Le (x1.heap.size+1)
 have hlgxgy:gx<gy:=by omega
 try rw [hgy]
 try rw [hgx]
 rw [hgx]at hxx4 bel8 hlwgx hlw_heap_sizegx hlgWgx
 rw [hgy]at hyx5 bel9
 have hxx5:=hxx4.keep hlgxgy bel9
 have hQx5:=(hQv3.keep hlw_heap_sizegx bel8).keep (Nat.lt_trans hlw_heap_sizegx hlgxgy) bel9
 have hRx5:=(hRv3.keep hlgWgx bel8).keep (Nat.lt_trans hlgWgx hlgxgy) bel9
 have hBx5:=(hBv3.trans (bel8.mono hlwgx)).trans (bel9.mono (Nat.le_trans hlwgx (Nat.le_of_lt hlgxgy)))
 clear hxx4 bel8 bel9 hQv3 hRv3 hxv3 hyv3 hBv3 siz8 siz9 kee8 kee9 hv2 hv3 hgx hgy
 try dsimp only [Act.put]
 go_wp2_with (first|(refine wpList_load_ar rfl _ _ rfl _ _ _ rfl hxx5 Tryz.arr16b (size16b _) ?_)|(refine wpList_load_ar rfl _ _ rfl _ _ _ rfl hyx5 Tryz.arr16b (size16b _) ?_))
 refine(stag (some p0) f s k o D m cd d _ HFB.out HS0.out hkb.out hob.out ((HDD.out.below hBx5).more hBx5.size) HMC.out HM6.out (HT.out.to hBx5) (HX.out.keep hBx5)).mono ?_
 rintro e x6 ⟨rfl,hq⟩
 have hQx6:=hQx5.t hq
 have hRx6:=hRx5.to hq
 have hxx6:=hxx5.t hq
 have hyx6:=hyx5.t hq
 have hBx6:=Tq hBx5 hq
 clear hq hQx5 hRx5 hxx5 hyx5 hBx5
 obtain⟨tg,htg⟩: ∃u,tgF f s k o d=u:=⟨_,rfl⟩
 have HTG:=Lib.hid htg
 have HTB:=Lib.hid (show B16 tg by rw [←htg];exact adF_lt (enR_lt HFB.out (adF_lt (adF_lt hkb.out hob.out) (dk_lt HSL.out 1)) 10) (adF_lt (hsF_lt HFB.out HSL.out (fun k j _=>pt_lt _ _ _) _) (hrF_lt HFB.out HSL.out (atF_lt zF_lt HSL.out _) _)))
 rw [htg]
 clear htg
 obtain⟨gt,hgt⟩:=Le (x6.heap.size)
 have hlw_heap_sizegt:w.heap.size<gt:=by rw [←hgt];exact hQx6.lt (by omega)
 have hlgWgt:gW<gt:=by rw [←hgt];exact hRx6.lt
 have hlgxgt:gx<gt:=by rw [←hgt];exact hxx6.lt (by omega)
 have hlgygt:gy<gt:=by rw [←hgt];exact hyx6.lt (by omega)
 have hlwgt:w.heap.size≤gt:=by rw [←hgt];exact hBx6.size
 have hq:=Ba x6 (.cells (arL 16 fun _=>0).toArray 22)
 have hQx7a:=hQx6.t hq
 have hRx7a:=hRx6.to hq
 have hxx7a:=hxx6.t hq
 have hyx7a:=hyx6.t hq
 have htx7a:=Ar.new x6 16 (fun _=>0) 22
 have hBx7a:=hBx6.alloc hBx6.size (.cells (arL 16 fun _=>0).toArray 22)
 rw [hgt]at htx7a
 clear hq hQx6 hRx6 hxx6 hyx6 hBx6
 go_upto_region 3 with (first|(refine wpList_store_ar rfl _ _ _ rfl _ _ _ (tg) rfl rfl htx7a (size16b _) ?_;intro x7 htx7 belx7 sizx7 keex7)|fail)
 have hQx7:=(hQx7a).keep hlw_heap_sizegt belx7
 have hRx7:=(hRx7a).keep hlgWgt belx7
 have hxx7:=(hxx7a).keep hlgxgt belx7
 have hyx7:=(hyx7a).keep hlgygt belx7
 have hBx7:=hBx7a.trans (belx7.mono hlwgt)
 clear hQx7a hRx7a hxx7a hyx7a htx7a hBx7a belx7 sizx7 keex7 hgt
 try dsimp only [Act.put]
 have hsl:=slice16all2 gt
 go_wp2_with (at_builtin;refine wpList_append_own_spare _ rfl _ _ 25 rfl gW 5 i0 1 Tryz.underlying25 HI0.out HZ1.out gW n (n+16) _ rfl hRx7 ⟨gt,0,none⟩ 16 16 (arL 16 tg) rfl (by simp [arL_len]) htx7.src (arL_one 16 _) (Nat.le_refl _) ?_;intro w9 hown hgrow)
 have hR9:Ro w9 gW (n+16) (n+16) (U++liB 16 tg):=by unfold Ro;rw [List.map_append,liB_b8 16 tg HTB.out];exact hown
 have hB9:=hBx7.grown hgrow hBx7.size (fun k e=>by cases e;exact hlW)
 go_ret
 exact⟨_,_,rfl,by unfold seL;rw [HU.out,HK0.out,HO0.out,HTG.out];exact hR9.sl,Nat.le_refl _,hB9⟩
end Go.Proofs.YtiacbphnclgikaaGreatDoor
