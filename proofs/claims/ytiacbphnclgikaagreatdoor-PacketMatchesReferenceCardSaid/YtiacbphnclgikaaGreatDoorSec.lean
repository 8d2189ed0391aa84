/-
 Contracts of Tag and Seal of the reference package of layer 12, by walks through their texts; what was there stays as it was.
-/
import Derived.Test.YtiacbphnclgikaaGreatDoorSqz
import Derived.Test.YtiacbphnclgikaaGreatDoorSeb
import Derived.Test.YtiacbphnclgikaaGreatDoorGtb
import Derived.Deep.RegionHeld3
namespace Go.Proofs.YtiacbphnclgikaaGreatDoor
open Go.RowKit
set_option linter.unusedVariables false
set_option maxRecDepth 100000
set_option linter.unusedSimpArgs false
theorem haF_lt {f s:Nat→Nat} (hf:B16 f) (hs:B16 s) (l:List UInt8):B16 (haF f s l):=adF_lt (hsF_lt hf hs (fun _ _ _=>pt_lt _ _ _) _) (hrF_lt hf hs (atF_lt zF_lt hs _) _)
set_option maxHeartbeats 4000000 in
theorem rtag (f s c o:Nat→Nat) (v:Value) (A:Option Addr) (n cc:Nat) (d:List UInt8) (w:World) (hf:B16 f) (hs:enF f zF=s) (hc:B16 c) (ho:B16 o) (hS:Sl w w.heap.size A n d) (hnc:n≤cc) (hn:n≤1000000):
  Calls Tryz.prog 61 #[.agg (arL 432 (pkF (ek f) sb)).toArray,.agg (rsL v c o).toArray,.slice A n cc] w fun e w'=>e= .returned (.agg (arL 16 (tgF f s c o d)).toArray)∧Below w.heap.size w w':=by
 obtain⟨kE,hkE⟩:=Le ((arL 432 (pkF (ek f) sb)).toArray)
 obtain⟨kS,hkS⟩:=Le ((rsL v c o).toArray)
 obtain⟨w1,hw1⟩:=Lv (w.alloc (.cells (arL 432 (pkF (ek f) sb)).toArray 48))
 have hs1:=Zs1 hw1
 have hBw1:=Bl hw1
 have hEw1:Ar w1 w.heap.size 432 (pkF (ek f) sb):=by rw [hw1];exact Ar.new w 432 _ _
 obtain⟨w2,hw2⟩:=Lv (w1.alloc (.cells (rsL v c o).toArray 109))
 have hs2:=Zs2 hw2 hs1
 have hBw2:=Bm hw2 hBw1
 have hEw2:=ara hw2 hEw1
 have hSw2:Cx w2 (w.heap.size+1) 33 (fun j=>(rsL v c o).getD j undef):=by rw [hw2,←hs1];rw [rsL_cx];exact Cx.new w1 33 _ _
 clear hEw1 hBw1
 obtain⟨w3,hw3⟩:=Lv (w2.alloc (.cells (arL 16 (fun _=>0)).toArray 22))
 have hs3:=Zs3 hw3 hs2
 have hBw3:=Bm hw3 hBw2
 have hEw3:=ara hw3 hEw2
 have hSw3:Cx w3 (w.heap.size+1) 33 (fun j=>(rsL v c o).getD j undef):=by rw [hw3];exact hSw2.alloc (by omega) _
 have hRw3:Ar w3 (w.heap.size+2) 16 (fun _=>0):=by rw [hw3,←hs2];exact Ar.new w2 16 _ _
 clear hEw2 hSw2 hBw2
 rw [hkE]at hw1
 rw [hkS]at hw2
 rw [hkE,hkS]
 clear hkE hkS
 have hz:=zero16b
 obtain⟨dK,hfs,hrow⟩:=Tryz.structK
 have HS:=Lib.hid hfs
 have HW:=Lib.hid hrow
 clear hfs hrow
 have HFB:=Lib.hid hf
 have HCB:=Lib.hid hc
 have HOB:=Lib.hid ho
 have HSS:=Lib.hid hS
 have HSL:=Lib.hid (show B16 s by rw [←hs];exact enR_lt hf zF_lt 10)
 have hst:=Lib.hid (fun V=>refstar f V hf zF_lt)
 rw [hs]at hst
 have HS0:=Lib.hid hs
 have HNC:=Lib.hid hnc
 have HN:=Lib.hid hn
 clear hf hc ho hS hs hnc hn
 go_enter Tryz.func61,Tryz.ntmps61
 go_upto_region 1 with fail
 rw [←hw1,←hw2,←hw3]
 clear hw1 hw2 hw3
 try simp only [Nat.add_assoc,Nat.reduceAdd]
 obtain⟨gS,hgS⟩:=Le (w.heap.size+1)
 rw [hgS]at hSw3
 obtain⟨gR,hgR⟩:=Le (w.heap.size+2)
 rw [hgR]at hRw3
 try rw [hgR]
 try rw [hgS]
 have hlS:w.heap.size<gS:=by omega
 have hlR:gS<gR:=by omega
 clear hs1 hs2 hs3 hgS hgR
 obtain⟨hvw3,hcw3,how3⟩:=rs_new hSw3
 clear hSw3
 go_wp2_with (first|(refine wpList_load_mid rfl _ _ rfl gS 1 rfl (arL 16 (c)) _ hcw3.range Tryz.arr16b rfl (size16b _) ?_)|(refine wpList_load_mid rfl _ _ rfl gS 17 rfl (arL 16 (o)) _ how3.range Tryz.arr16b rfl (size16b _) ?_))
 refine(refxor8 c o _ HCB.out HOB.out).mono ?_
 rintro e x1 ⟨rfl,hq⟩
 have hEx1:=hEw3.t hq
 have hRx1:=hRw3.t hq
 have hvx1:=hvw3.to hq
 have hcx1:=hcw3.t hq
 have hox1:=how3.t hq
 have hBx1:=Tq hBw3 hq
 clear hq hEw3 hRw3 hvw3 hcw3 how3 hBw3
 obtain⟨gx,hgx⟩:=Le (x1.heap.size)
 have hlw_heap_sizegx:w.heap.size<gx:=by rw [←hgx];exact hEx1.lt (by omega)
 have hlgRgx:gR<gx:=by rw [←hgx];exact hRx1.lt (by omega)
 have hlgSgx:gS<gx:=by rw [←hgx];exact hvx1.lt
 have hlgSgx:gS<gx:=by rw [←hgx];exact hcx1.lt (by omega)
 have hlgSgx:gS<gx:=by rw [←hgx];exact hox1.lt (by omega)
 have hlwgx:w.heap.size≤gx:=by rw [←hgx];exact hBx1.size
 have hq:=Ba x1 (.cells (arL 16 fun _=>0).toArray 22)
 have hEx2a:=hEx1.t hq
 have hRx2a:=hRx1.t hq
 have hvx2a:=hvx1.to hq
 have hcx2a:=hcx1.t hq
 have hox2a:=hox1.t hq
 have hxx2a:=Ar.new x1 16 (fun _=>0) 22
 have hBx2a:=hBx1.alloc hBx1.size (.cells (arL 16 fun _=>0).toArray 22)
 rw [hgx]at hxx2a
 clear hq hEx1 hRx1 hvx1 hcx1 hox1 hBx1
 go_upto_region 2 with (first|(refine wpList_store_ar rfl _ _ _ rfl _ _ _ (adF c o) rfl rfl hxx2a (size16b _) ?_;intro x2 hxx2 belx2 sizx2 keex2)|fail)
 have hEx2:=(hEx2a).keep hlw_heap_sizegx belx2
 have hRx2:=(hRx2a).keep hlgRgx belx2
 have hvx2:=(hvx2a).keep hlgSgx belx2
 have hcx2:=(hcx2a).keep hlgSgx belx2
 have hox2:=(hox2a).keep hlgSgx belx2
 have hBx2:=hBx2a.trans (belx2.mono hlwgx)
 clear hEx2a hRx2a hvx2a hcx2a hox2a hxx2a hBx2a belx2 sizx2 keex2 hgx
 try dsimp only [Act.put]
 apply wp_region_via (F:=fun W=>Ar W w.heap.size 432 (pkF (ek f) sb)∧Ar W gR 16 (fun _=>0)∧Ar W gx 16 (adF (adF c o) (dk s 1))∧Below w.heap.size w W)
 case h1=>
  refine wp_region_noPanic ?_
  have hxtad:=hxx2.drew
  refine wp_region_held_drew (S:=fun W=>Ar W w.heap.size 432 (pkF (ek f) sb)∧Ar W gR 16 (fun _=>0)∧Below w.heap.size w W) (by kernel_rfl) ⟨hEx2.drew,hRx2.drew,hBx2.drew⟩ (fun hH'=> ?_)
  generalize World.drew x2=tad at*
  refine tk 1 (.agg (arL 432 (pkF (ek f) sb)).toArray) rfl (yieldsIf_load_mid (by rfl) _ _ rfl w.heap.size (0) rfl (arL 432 (pkF (ek f) sb)) _ (fun W hSw=>hSw.1.range) HS.out HW.out (sizeK _)) ?_
  simp only [Act.put,nrm]
  refine rd2 0 2 rfl rfl (fun K hK=> ?_) (fun K hK=> ?_)
  ·rw [if_pos (by rfl)]
   refine wp_load_mid _ _ rfl gx 0 rfl (arL 16 (adF c o)) _ hxtad.range Tryz.arr16b rfl (size16b _) ?_
   refine hK.out _ _ hH' ?_
   clear hK K hH'
   intro hH'
   try simp only [Act.put,nrm]
   refine rd 2 rfl (fun K hK=> ?_)
   go_simp
   refine(hst.out _).mono ?_
   rintro e ta1 ⟨rfl,hq⟩
   go_wp2_with fail
   have hxta1:=hxtad.t hq
   refine hK.out _ _ ⟨hH'.1.t hq,hH'.2.1.t hq,Tq hH'.2.2 hq⟩ ?_
   clear hK K hH' hq hxtad
   intro hH'
   try simp only [Act.put,nrm]
   refine rd 3 rfl (fun K hK=> ?_)
   go_simp
   refine(refdk0 s _ HSL.out).mono ?_
   rintro e ta2 ⟨rfl,hq⟩
   go_wp2_with fail
   have hxta2:=hxta1.t hq
   refine hK.out _ _ ⟨hH'.1.t hq,hH'.2.1.t hq,Tq hH'.2.2 hq⟩ ?_
   clear hK K hH' hq hxta1
   intro hH'
   try simp only [Act.put,nrm]
   refine rd 4 rfl (fun K hK=> ?_)
   go_simp
   refine(refxor8 (adF c o) (dk s 1) _ (adF_lt HCB.out HOB.out) (dk_lt HSL.out 1)).mono ?_
   rintro e ta3 ⟨rfl,hq⟩
   go_wp2_with fail
   have hxta3:=hxta2.t hq
   refine hK.out _ _ ⟨hH'.1.t hq,hH'.2.1.t hq,Tq hH'.2.2 hq⟩ ?_
   clear hK K hH' hq hxta2
   intro hH'
   try simp only [Act.put,nrm]
   refine rd 5 rfl (fun K hK=> ?_)
   rw [if_pos (by rfl)]
   refine wp_store_mid _ _ _ rfl gx 0 (arL 16 (adF (adF c o) (dk s 1))).toArray rfl rfl hxta3.there (size16b _) (all_oneCell_toArray (arL_one 16 (adF (adF c o) (dk s 1)))) ?_
   have hxta4:=hxta3.whole (adF (adF c o) (dk s 1))
   dsimp only [List.toList_toArray]
   refine hK.out _ _ ⟨(hH'.1).apart (b:=gx) (by omega) (arL 16 (adF (adF c o) (dk s 1))) 0,(hH'.2.1).apart (b:=gx) (by omega) (arL 16 (adF (adF c o) (dk s 1))) 0,(hH'.2.2).trans (Below.setCells (Below.refl w.heap.size _) (b:=gx) (by omega) (arL 16 (adF (adF c o) (dk s 1))) 0)⟩ ?_
   clear hK K hH' hxta3
   intro hH'
   generalize World.setCells ta3 gx 0 (arL 16 (adF (adF c o) (dk s 1)))=ta4 at*
   try simp only [Act.put]
   refine wpAnyH_done (by kernel_rfl) ?_ _
   refine NoPanic.normal ?_
   exact⟨rfl,rfl,hH'.1,hH'.2.1,hxta4,hH'.2.2⟩
  ·go_simp
   refine(hst.out _).mono ?_
   rintro e ta5 ⟨rfl,hq⟩
   go_wp2_with fail
   have hxta5:=hxtad.t hq
   refine hK.out _ _ ⟨hH'.1.t hq,hH'.2.1.t hq,Tq hH'.2.2 hq⟩ ?_
   clear hK K hH' hq hxtad
   intro hH'
   try simp only [Act.put,nrm]
   refine rd2 0 3 rfl rfl (fun K hK=> ?_) (fun K hK=> ?_)
   ·rw [if_pos (by rfl)]
    refine wp_load_mid _ _ rfl gx 0 rfl (arL 16 (adF c o)) _ hxta5.range Tryz.arr16b rfl (size16b _) ?_
    refine hK.out _ _ hH' ?_
    clear hK K hH'
    intro hH'
    try simp only [Act.put,nrm]
    refine rd 3 rfl (fun K hK=> ?_)
    go_simp
    refine(refdk0 s _ HSL.out).mono ?_
    rintro e ta6 ⟨rfl,hq⟩
    go_wp2_with fail
    have hxta6:=hxta5.t hq
    refine hK.out _ _ ⟨hH'.1.t hq,hH'.2.1.t hq,Tq hH'.2.2 hq⟩ ?_
    clear hK K hH' hq hxta5
    intro hH'
    try simp only [Act.put,nrm]
    refine rd 4 rfl (fun K hK=> ?_)
    go_simp
    refine(refxor8 (adF c o) (dk s 1) _ (adF_lt HCB.out HOB.out) (dk_lt HSL.out 1)).mono ?_
    rintro e ta7 ⟨rfl,hq⟩
    go_wp2_with fail
    have hxta7:=hxta6.t hq
    refine hK.out _ _ ⟨hH'.1.t hq,hH'.2.1.t hq,Tq hH'.2.2 hq⟩ ?_
    clear hK K hH' hq hxta6
    intro hH'
    try simp only [Act.put,nrm]
    refine rd 5 rfl (fun K hK=> ?_)
    rw [if_pos (by rfl)]
    refine wp_store_mid _ _ _ rfl gx 0 (arL 16 (adF (adF c o) (dk s 1))).toArray rfl rfl hxta7.there (size16b _) (all_oneCell_toArray (arL_one 16 (adF (adF c o) (dk s 1)))) ?_
    have hxta8:=hxta7.whole (adF (adF c o) (dk s 1))
    dsimp only [List.toList_toArray]
    refine hK.out _ _ ⟨(hH'.1).apart (b:=gx) (by omega) (arL 16 (adF (adF c o) (dk s 1))) 0,(hH'.2.1).apart (b:=gx) (by omega) (arL 16 (adF (adF c o) (dk s 1))) 0,(hH'.2.2).trans (Below.setCells (Below.refl w.heap.size _) (b:=gx) (by omega) (arL 16 (adF (adF c o) (dk s 1))) 0)⟩ ?_
    clear hK K hH' hxta7
    intro hH'
    generalize World.setCells ta7 gx 0 (arL 16 (adF (adF c o) (dk s 1)))=ta8 at*
    try simp only [Act.put]
    refine wpAnyH_done (by kernel_rfl) ?_ _
    refine NoPanic.normal ?_
    exact⟨rfl,rfl,hH'.1,hH'.2.1,hxta8,hH'.2.2⟩
   ·go_simp
    refine(refdk0 s _ HSL.out).mono ?_
    rintro e ta9 ⟨rfl,hq⟩
    go_wp2_with fail
    have hxta9:=hxta5.t hq
    refine hK.out _ _ ⟨hH'.1.t hq,hH'.2.1.t hq,Tq hH'.2.2 hq⟩ ?_
    clear hK K hH' hq hxta5
    intro hH'
    try simp only [Act.put,nrm]
    refine rd 0 rfl (fun K hK=> ?_)
    rw [if_pos (by rfl)]
    refine wp_load_mid _ _ rfl gx 0 rfl (arL 16 (adF c o)) _ hxta9.range Tryz.arr16b rfl (size16b _) ?_
    refine hK.out _ _ hH' ?_
    clear hK K hH'
    intro hH'
    try simp only [Act.put,nrm]
    refine rd 4 rfl (fun K hK=> ?_)
    go_simp
    refine(refxor8 (adF c o) (dk s 1) _ (adF_lt HCB.out HOB.out) (dk_lt HSL.out 1)).mono ?_
    rintro e ta10 ⟨rfl,hq⟩
    go_wp2_with fail
    have hxta10:=hxta9.t hq
    refine hK.out _ _ ⟨hH'.1.t hq,hH'.2.1.t hq,Tq hH'.2.2 hq⟩ ?_
    clear hK K hH' hq hxta9
    intro hH'
    try simp only [Act.put,nrm]
    refine rd 5 rfl (fun K hK=> ?_)
    rw [if_pos (by rfl)]
    refine wp_store_mid _ _ _ rfl gx 0 (arL 16 (adF (adF c o) (dk s 1))).toArray rfl rfl hxta10.there (size16b _) (all_oneCell_toArray (arL_one 16 (adF (adF c o) (dk s 1)))) ?_
    have hxta11:=hxta10.whole (adF (adF c o) (dk s 1))
    dsimp only [List.toList_toArray]
    refine hK.out _ _ ⟨(hH'.1).apart (b:=gx) (by omega) (arL 16 (adF (adF c o) (dk s 1))) 0,(hH'.2.1).apart (b:=gx) (by omega) (arL 16 (adF (adF c o) (dk s 1))) 0,(hH'.2.2).trans (Below.setCells (Below.refl w.heap.size _) (b:=gx) (by omega) (arL 16 (adF (adF c o) (dk s 1))) 0)⟩ ?_
    clear hK K hH' hxta10
    intro hH'
    generalize World.setCells ta10 gx 0 (arL 16 (adF (adF c o) (dk s 1)))=ta11 at*
    try simp only [Act.put]
    refine wpAnyH_done (by kernel_rfl) ?_ _
    refine NoPanic.normal ?_
    exact⟨rfl,rfl,hH'.1,hH'.2.1,hxta11,hH'.2.2⟩
 rintro x3 ⟨hEx3,hRx3,hxx3,hBx3⟩
 clear hEx2 hRx2 hxx2 hBx2
 have hyb:=Lib.hid (adF_lt (adF_lt HCB.out HOB.out) (dk_lt HSL.out 1))
 obtain⟨y,hy⟩: ∃u,adF (adF c o) (dk s 1)=u:=⟨_,rfl⟩
 rw [hy]at hyb hxx3
 have HY:=Lib.hid hy
 clear hy
 go_upto_region 3 with fail
 refine wp_region_noPanic ?_
 have hRtbd:=hRx3.drew
 refine wp_region_held_drew (S:=fun W=>Ar W w.heap.size 432 (pkF (ek f) sb)∧Ar W gx 16 (y)∧Below w.heap.size w W) (by kernel_rfl) ⟨hEx3.drew,hxx3.drew,hBx3.drew⟩ (fun hH'=> ?_)
 clear hEx3 hxx3 hBx3 hRx3
 generalize World.drew x3=tbd at*
 refine tk 0 (.agg (arL 432 (pkF (ek f) sb)).toArray) rfl (yieldsIf_load_mid (by rfl) _ _ rfl w.heap.size (0) rfl (arL 432 (pkF (ek f) sb)) _ (fun W hSw=>hSw.1.range) HS.out HW.out (sizeK _)) ?_
 simp only [Act.put,nrm]
 refine tk 1 (.agg (arL 16 (y)).toArray) rfl (yieldsIf_load_mid (by rfl) _ _ rfl gx (0) rfl (arL 16 (y)) _ (fun W hSw=>hSw.2.1.range) Tryz.arr16b rfl (size16b _)) ?_
 simp only [Act.put,nrm]
 refine tk 3 (.agg (arL 432 (pkF (ek f) sb)).toArray) rfl (yieldsIf_load_mid (by rfl) _ _ rfl w.heap.size (0) rfl (arL 432 (pkF (ek f) sb)) _ (fun W hSw=>hSw.1.range) HS.out HW.out (sizeK _)) ?_
 simp only [Act.put,nrm]
 refine tw 4 ?vtb1 rfl ?hytb1 ?resttb1
 case hytb1=>
  intro W hSw
  go_simp
  try with_reducible rfl
 simp only [Act.put,nrm]
 refine rd 2 rfl (fun K hK=> ?_)
 go_simp
 refine(refencrypt f y _ HFB.out hyb.out).mono ?_
 rintro e tb2 ⟨rfl,hq⟩
 go_wp2_with fail
 have hRtb2:=hRtbd.t hq
 refine hK.out _ _ ⟨hH'.1.t hq,hH'.2.1.t hq,Tq hH'.2.2 hq⟩ ?_
 clear hK K hH' hq hRtbd
 intro hH'
 try simp only [Act.put,nrm]
 refine rd 5 rfl (fun K hK=> ?_)
 go_simp
 refine(rsum f s A n cc d _ HFB.out HS0.out ((HSS.out.below (hH'.2.2)).more (hH'.2.2).size) HNC.out HN.out).mono ?_
 rintro e tb3 ⟨rfl,hq⟩
 go_wp2_with fail
 have hRtb3:=hRtb2.t hq
 refine hK.out _ _ ⟨hH'.1.t hq,hH'.2.1.t hq,Tq hH'.2.2 hq⟩ ?_
 clear hK K hH' hq hRtb2
 intro hH'
 try simp only [Act.put,nrm]
 refine rd 6 rfl (fun K hK=> ?_)
 go_simp
 refine(refxor8 (enF f y) (haF f s d) _ (enR_lt HFB.out hyb.out 10) (haF_lt HFB.out HSL.out d)).mono ?_
 rintro e tb4 ⟨rfl,hq⟩
 go_wp2_with fail
 have hRtb4:=hRtb3.t hq
 refine hK.out _ _ ⟨hH'.1.t hq,hH'.2.1.t hq,Tq hH'.2.2 hq⟩ ?_
 clear hK K hH' hq hRtb3
 intro hH'
 try simp only [Act.put,nrm]
 refine rd 7 rfl (fun K hK=> ?_)
 rw [if_pos (by rfl)]
 refine wp_store_mid _ _ _ rfl gR 0 (arL 16 (adF (enF f y) (haF f s d))).toArray rfl rfl hRtb4.there (size16b _) (all_oneCell_toArray (arL_one 16 (adF (enF f y) (haF f s d)))) ?_
 have hRtb5:=hRtb4.whole (adF (enF f y) (haF f s d))
 dsimp only [List.toList_toArray]
 refine hK.out _ _ ⟨(hH'.1).apart (b:=gR) (by omega) (arL 16 (adF (enF f y) (haF f s d))) 0,(hH'.2.1).apart (b:=gR) (by omega) (arL 16 (adF (enF f y) (haF f s d))) 0,(hH'.2.2).trans (Below.setCells (Below.refl w.heap.size _) (b:=gR) (by omega) (arL 16 (adF (enF f y) (haF f s d))) 0)⟩ ?_
 clear hK K hH' hRtb4
 intro hH'
 generalize World.setCells tb4 gR 0 (arL 16 (adF (enF f y) (haF f s d)))=tb5 at*
 try simp only [Act.put]
 refine wpAnyH_done (by kernel_rfl) ?_ _
 have hR9:=hRtb5
 have hB9:=hH'.2.2
 clear hH' hRtb5
 refine NoPanic.normal ?_
 go_wp2_with fail
 refine bodyPost_ret_ar rfl rfl hR9 Tryz.arr16b (size16b _) rfl ⟨by rw [←HY.out];rfl,hB9⟩
theorem csF_lt (l:List UInt8):B16 (csF l):=by
 unfold csF
 split
 ·exact ckF_lt (fun _ _ _=>pt_lt _ _ _) _
 ·exact adF_lt (ckF_lt (fun _ _ _=>pt_lt _ _ _) _) (fun _ _=>lF_lt _ _)
theorem ofF_lt {s a:Nat→Nat} (hs:B16 s) (ha:B16 a) (n:Nat):B16 (ofF s a n):=by
 unfold ofF
 split
 ·exact atF_lt ha hs _
 ·exact adF_lt (atF_lt ha hs _) hs
theorem tgF_lt {f s c o:Nat→Nat} (hf:B16 f) (hs:B16 s) (hc:B16 c) (ho:B16 o) (d:List UInt8):B16 (tgF f s c o d):=adF_lt (enR_lt hf (adF_lt (adF_lt hc ho) (dk_lt hs 1)) 10) (haF_lt hf hs d)
set_option maxHeartbeats 4000000 in
theorem rseal (f q s a:Nat→Nat) (D:Option Addr) (m cd:Nat) (d:List UInt8) (A:Option Addr) (n c:Nat) (l:List UInt8) (w:World) (hf:B16 f) (hq0:B12 q) (hs:enF f zF=s) (ha:o0F (enF f (nbF q)) (q 11)=a) (hD:Sl w w.heap.size D m d) (hmc:m≤cd) (hm:m≤1000000) (hS:Sl w w.heap.size A n l) (hnc:n≤c) (hn:n≤1000000):
  Calls Tryz.prog 36 #[.agg (arL 432 (pkF (ek f) sb)).toArray,.agg (arL 12 q).toArray,.slice D m cd,.slice A n c] w fun e w'=> ∃(A2:Option Addr) (c2:Nat),e= .returned (.slice A2 (n+16) c2)∧Ow8 w' w.heap.size (.slice A2 (n+16) c2) (n+16) (seL f s a l (tgF f s (csF l) (ofF s a n) d))∧Below w.heap.size w w':=by
 obtain⟨kE,hkE⟩:=Le ((arL 432 (pkF (ek f) sb)).toArray)
 obtain⟨kQ,hkQ⟩:=Le ((arL 12 (q)).toArray)
 obtain⟨w1,hw1⟩:=Lv (w.alloc (.cells (arL 432 (pkF (ek f) sb)).toArray 48))
 have hs1:=Zs1 hw1
 have hBw1:=Bl hw1
 have hEw1:Ar w1 w.heap.size 432 (pkF (ek f) sb):=by rw [hw1];exact Ar.new w 432 _ _
 obtain⟨w2,hw2⟩:=Lv (w1.alloc (.cells (arL 12 (q)).toArray 77))
 have hs2:=Zs2 hw2 hs1
 have hBw2:=Bm hw2 hBw1
 have hEw2:=ara hw2 hEw1
 have hQw2:Ar w2 (w.heap.size+1) 12 (q):=by rw [hw2,←hs1];exact Ar.new w1 12 _ _
 clear hEw1 hBw1
 rw [hkE]at hw1
 rw [hkQ]at hw2
 rw [hkE,hkQ]
 clear hkE hkQ
 have hz:=zero16b
 have hzR:=zeroR
 obtain⟨dK,hfs,hrow⟩:=Tryz.structK
 have HS:=Lib.hid hfs
 have HW:=Lib.hid hrow
 clear hfs hrow
 obtain⟨dR,hfs,hrow⟩:=Tryz.structR
 have HSR:=Lib.hid hfs
 have HWR:=Lib.hid hrow
 clear hfs hrow
 have hlen:=hS.len
 have HLEN:=Lib.hid hlen
 have HFB:=Lib.hid hf
 have HQB:=Lib.hid hq0
 have HSS:=Lib.hid hS
 have HDD:=Lib.hid hD
 have HSL:=Lib.hid (show B16 s by rw [←hs];exact enR_lt hf zF_lt 10)
 have HAL:=Lib.hid (show B16 a by rw [←ha];exact o0F_lt (enR_lt hf (nbF_lt hq0) 10) _)
 have HS0:=Lib.hid hs
 have HA0:=Lib.hid ha
 have HNC:=Lib.hid hnc
 have HN:=Lib.hid hn
 have HMC:=Lib.hid hmc
 have HM:=Lib.hid hm
 obtain⟨i0,hi0,hz0,hz1,hz2⟩:=info_parts info8x
 have HI0:=Lib.hid hi0
 have HZ0:=Lib.hid hz0
 have HZ1:=Lib.hid hz1
 have HZ2:=Lib.hid hz2
 clear hi0 hz0 hz1 hz2 hf hq0 hS hD hs ha hnc hn hmc hm hlen
 go_enter Tryz.func36,Tryz.ntmps36
 go_upto_region 1 with fail
 rw [←hw1,←hw2]
 clear hw1 hw2
 try simp only [Nat.add_assoc,Nat.reduceAdd]
 obtain⟨gQ,hgQ⟩:=Le (w.heap.size+1)
 rw [hgQ]at hQw2
 try rw [hgQ]
 have hlQ:w.heap.size<gQ:=by omega
 clear hs1 hs2 hgQ
 go_wp2_with (first|(refine wpList_load_mid rfl _ _ rfl w.heap.size 0 rfl (arL 432 (pkF (ek f) sb)) _ hEw2.range HS.out HW.out (sizeK _) ?_)|(refine wpList_load_ar rfl _ _ rfl _ _ _ rfl hQw2 Tryz.arr12 (size12 _) ?_))
 refine(rcrypt f q s a A n c l _ HFB.out HQB.out HS0.out HA0.out ((HSS.out.below hBw2).more hBw2.size) HNC.out HN.out).mono ?_
 rintro e x1 ⟨A2,c2,rfl,hO0,hq⟩
 obtain⟨b0,hb0⟩:=Le (w2.heap.size)
 have hqs:=hq.size
 have hlb0:w.heap.size<b0:=by rw [←hb0];exact hEw2.lt (by omega)
 rw [hb0]at hO0 hqs
 obtain⟨gw,hgw⟩: ∃g,x1.heap.size-1=g:=⟨_,rfl⟩
 have hwx1:Ob x1 b0 gw (.slice A2 n c2) n (ctL f s a l):=by rw [←hgw];exact Ob.new hO0 hqs (by omega)
 clear hO0 hb0 hqs hgw
 have hEx1:=hEw2.t hq
 have hQx1:=hQw2.t hq
 have hBx1:=Tq hBw2 hq
 clear hq hEw2 hQw2 hBw2
 obtain⟨v1,hv1⟩:=Lv (x1.alloc (.cells (rsL (.slice none 0 0) (fun _=>0) (fun _=>0)).toArray 109))
 have hq:=Bl hv1
 have hEv1:=hEx1.t hq
 have hQv1:=hQx1.t hq
 have hwv1:=hwx1.to hq
 have hBv1:=Tq hBx1 hq
 have hrv1:Cx v1 x1.heap.size 33 (fun j=>(rsL (.slice none 0 0) (fun _=>0) (fun _=>0)).getD j undef):=by rw [hv1,rsL_cx];exact Cx.new x1 33 _ _
 have hlr:gw<x1.heap.size:=hwx1.lt
 have hlQr:gQ<x1.heap.size:=hQx1.lt (by omega)
 have hlw:w.heap.size≤x1.heap.size:=hBx1.size
 clear hq hEx1 hQx1 hwx1 hBx1
 go_upto_region 2 with (first|(refine wpList_store_cx rfl _ _ _ rfl _ 33 0 _ (rsL (.slice A2 n c2) (csF l) (ofF s a n)) rfl rfl (by rw [←hv1];exact hrv1) (by rw [rsL_len];decide) (sizeR _ _ _) (rsL_one rfl _ _) ?_;intro y1 hy1 bel1 siz1 kee1)|fail)
 rw [←hv1]at bel1 siz1
 obtain⟨hvy1,hcy1,hoy1⟩:=rs_put hy1
 obtain⟨gr,hgr⟩:=Le (x1.heap.size)
 try rw [hgr]
 rw [hgr]at hlr hlQr hlw bel1 hvy1 hcy1 hoy1
 have hEy1:=hEv1.keep (by omega) bel1
 have hQy1:=hQv1.keep (by omega) bel1
 have hwy1:=hwv1.keep (by omega) bel1
 have hBy1:=hBv1.trans (bel1.mono hlw)
 clear hy1 bel1 siz1 kee1 hgr hv1 hrv1 hEv1 hQv1 hwv1 hBv1
 try dsimp only [Act.put]
 have hcsb:=Lib.hid (csF_lt l)
 have hofb:=Lib.hid (ofF_lt HSL.out HAL.out n)
 go_wp2_with (first|(refine wpList_load_mid rfl _ _ rfl w.heap.size 0 rfl (arL 432 (pkF (ek f) sb)) _ hEy1.range HS.out HW.out (sizeK _) ?_)|(refine wpList_load_mid rfl _ _ rfl gr 0 rfl (rsL (.slice A2 n c2) (csF l) (ofF s a n)) _ (rs_range hvy1 hcy1 hoy1) HSR.out HWR.out (sizeR _ _ _) ?_))
 refine(rtag f s (csF l) (ofF s a n) (.slice A2 n c2) D m cd d _ HFB.out HS0.out hcsb.out hofb.out ((HDD.out.below hBy1).more hBy1.size) HMC.out HM.out).mono ?_
 rintro e x2 ⟨rfl,hq⟩
 have hEx2:=hEy1.t hq
 have hQx2:=hQy1.t hq
 have hwx2:=hwy1.to hq
 have hvx2:=hvy1.to hq
 have hcx2:=hcy1.t hq
 have hox2:=hoy1.t hq
 have hBx2:=Tq hBy1 hq
 clear hq hEy1 hQy1 hwy1 hvy1 hcy1 hoy1 hBy1
 have htb:=Lib.hid (tgF_lt HFB.out HSL.out hcsb.out hofb.out d)
 obtain⟨tg,htg⟩: ∃u,tgF f s (csF l) (ofF s a n) d=u:=⟨_,rfl⟩
 rw [htg]at htb
 rw [htg]
 have HTG:=Lib.hid htg
 clear htg
 have HJO:=Lib.hid (show(ctL f s a l).map b8++arL 16 tg=(seL f s a l tg).map b8 by unfold seL;rw [List.map_append,liB_b8 16 _ htb.out])
 obtain⟨gg,hgg⟩:=Le (x2.heap.size)
 have hlw_heap_sizegg:w.heap.size<gg:=by rw [←hgg];exact hEx2.lt (by omega)
 have hlgQgg:gQ<gg:=by rw [←hgg];exact hQx2.lt (by omega)
 have hlgwgg:gw<gg:=by rw [←hgg];exact hwx2.lt
 have hlgrgg:gr<gg:=by rw [←hgg];exact hvx2.lt
 have hlgrgg:gr<gg:=by rw [←hgg];exact hcx2.lt (by omega)
 have hlgrgg:gr<gg:=by rw [←hgg];exact hox2.lt (by omega)
 have hlwgg:w.heap.size≤gg:=by rw [←hgg];exact hBx2.size
 have hq:=Ba x2 (.cells (arL 16 fun _=>0).toArray 22)
 have hEx3a:=hEx2.t hq
 have hQx3a:=hQx2.t hq
 have hwx3a:=hwx2.to hq
 have hvx3a:=hvx2.to hq
 have hcx3a:=hcx2.t hq
 have hox3a:=hox2.t hq
 have hgx3a:=Ar.new x2 16 (fun _=>0) 22
 have hBx3a:=hBx2.alloc hBx2.size (.cells (arL 16 fun _=>0).toArray 22)
 rw [hgg]at hgx3a
 clear hq hEx2 hQx2 hwx2 hvx2 hcx2 hox2 hBx2
 go_upto_region 3 with (first|(refine wpList_store_ar rfl _ _ _ rfl _ _ _ (tg) rfl rfl hgx3a (size16b _) ?_;intro x3 hgx3 belx3 sizx3 keex3)|fail)
 have hEx3:=(hEx3a).keep hlw_heap_sizegg belx3
 have hQx3:=(hQx3a).keep hlgQgg belx3
 have hwx3:=(hwx3a).keep hlgwgg belx3
 have hvx3:=(hvx3a).keep hlgrgg belx3
 have hcx3:=(hcx3a).keep hlgrgg belx3
 have hox3:=(hox3a).keep hlgrgg belx3
 have hBx3:=hBx3a.trans (belx3.mono hlwgg)
 clear hEx3a hQx3a hwx3a hvx3a hcx3a hox3a hgx3a hBx3a belx3 sizx3 keex3 hgg
 try dsimp only [Act.put]
 refine wp_region_noPanic ?_
 have hwtcd:=hwx3.drew
 refine wp_region_held_drew (S:=fun W=>Ar W w.heap.size 432 (pkF (ek f) sb)∧Ce W gr (.slice A2 n c2)∧Ar W gg 16 (tg)∧Below w.heap.size w W) (by kernel_rfl) ⟨hEx3.drew,hvx3.drew,hgx3.drew,hBx3.drew⟩ (fun hH'=> ?_)
 clear hEx3 hvx3 hgx3 hQx3 hcx3 hox3 hBx3 hwx3
 generalize World.drew x3=tcd at*
 refine tw 0 ?vtc1 rfl ?hytc1 ?resttc1
 case hytc1=>
  intro W hSw
  go_simp
  try with_reducible rfl
 simp only [Act.put,nrm]
 refine tw 1 ?vtc2 rfl ?hytc2 ?resttc2
 case hytc2=>
  intro W hSw
  have cF:=hSw.2.1.1
  go_simp
  try with_reducible rfl
 simp only [Act.put,nrm]
 refine tw 2 ?vtc3 rfl ?hytc3 ?resttc3
 case hytc3=>
  intro W hSw
  have hsla:=slice16all2
  go_simp
  try with_reducible rfl
 simp only [Act.put,nrm]
 refine rd 3 rfl (fun K hK=> ?_)
 have hbl:=(hwtcd).2.1
 have hsz:=(hwtcd).1
 have hbs:b0≤tcd.heap.size:=by omega
 rw [if_pos (by rfl)]
 refine wp_append_own _ _ _ 25 rfl b0 5 i0 (.int .u8 0) 1 1 Tryz.underlying25 HI0.out HZ0.out HZ1.out HZ2.out (by decide) (by decide) _ _ _ rfl (hwtcd).2.2.2 ⟨gg,0,none⟩ 16 16 (arL 16 tg) rfl (by simp [arL_len]) (fun j u hu=>by rw [Addr.add_mid];exact(hH'.2.2.1).range j u hu) (by first|exact arL_one 16 _|(intro u hu;simp at hu;subst hu;rfl)) (by have e1:=HN.out;unfold maxLen;omega) (by have e1:=HN.out;omega) hbs ?_
 intro v8 tc4 hown8 hgrow8 _
 have k8:Below b0 tcd tc4:=(Below.refl _ _).grown hgrow8 hbs (fun g hg=>own_block (hwtcd).2.2.2 hg)
 obtain⟨A5,c5,rfl⟩:=own_shape hown8
 have hO8:Ow8 tc4 b0 (.slice A5 (n+16) c5) (n+16) (seL f s a l tg):=by unfold Ow8;rw [←HJO.out];exact hown8
 have hsz8:=k8.size
 obtain⟨g5,hg5⟩: ∃g,tc4.heap.size-1=g:=⟨_,rfl⟩
 have hwtc4:Ob tc4 b0 g5 (.slice A5 (n+16) c5) (n+16) (seL f s a l tg):=by rw [←hg5];exact Ob.new hO8 (by omega) (by omega)
 have hltg5:b0≤g5+1:=hwtc4.2.1
 refine hK.out _ _ ⟨(hH'.1).keep (by omega) k8,ce_grown (hH'.2.1) hgrow8 (Ob.ne hwtcd (by omega)),ar_grown (hH'.2.2.1) (by omega) hgrow8 (Ob.ne hwtcd (by omega)),(hH'.2.2.2).trans (k8.mono (by omega))⟩ ?_
 clear hK K hH' hown8 hgrow8 k8 hO8 hsz8 hg5 hbl hsz hbs hwtcd
 intro hH'
 try simp only [Act.put,nrm]
 refine tw 4 ?vtc5 rfl ?hytc5 ?resttc5
 case hytc5=>
  intro W hSw
  go_simp
  try with_reducible rfl
 simp only [Act.put,nrm]
 refine wpAnyH_done (by kernel_rfl) ?_ _
 have hw9:=hwtc4
 have hB9:=hH'.2.2.2
 clear hH' hwtc4
 refine NoPanic.normal ?_
 go_wp2_with fail
 go_ret
 exact⟨A5,c5,rfl,by rw [HTG.out];exact own_more hw9.2.2.2 (by omega),hB9⟩
end Go.Proofs.YtiacbphnclgikaaGreatDoor
