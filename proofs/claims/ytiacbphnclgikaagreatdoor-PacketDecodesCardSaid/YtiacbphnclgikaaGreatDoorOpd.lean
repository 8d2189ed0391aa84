/-
 Contracts of Decrypt and Open of the reference package of layer 13, by walks through their texts; what was there stays as it was.
-/
import Derived.Test.YtiacbphnclgikaaGreatDoorSqz
import Derived.Test.YtiacbphnclgikaaGreatDoorOpa
import Derived.Test.YtiacbphnclgikaaGreatDoorOpc
import Derived.Test.YtiacbphnclgikaaGreatDoorSec
import Derived.Deep.RegionHeld3
namespace Go.Proofs.YtiacbphnclgikaaGreatDoor
open Go.RowKit
set_option linter.unusedVariables false
set_option maxRecDepth 100000
set_option linter.unusedSimpArgs false
set_option maxHeartbeats 4000000 in
theorem rdecrypt (f q s a:Nat→Nat) (A:Option Addr) (n c:Nat) (l:List UInt8) (w:World) (hf:B16 f) (hq0:B12 q) (hs:enF f zF=s) (ha:o0F (enF f (nbF q)) (q 11)=a) (hS:Sl w w.heap.size A n l) (hnc:n≤c) (hn:n≤1000000):
  Calls Tryz.prog 66 #[.agg (arL 432 (pkF (ek f) sb)).toArray,.agg (arL 12 q).toArray,.slice A n c] w fun e w'=> ∃(A2:Option Addr) (c2:Nat),e= .returned (.slice A2 n c2)∧Ow8 w' w.heap.size (.slice A2 n c2) n (dtL f s a l)∧Below w.heap.size w w':=by
 obtain⟨kE,hkE⟩:=Le ((arL 432 (pkF (ek f) sb)).toArray)
 obtain⟨kQ,hkQ⟩:=Le ((arL 12 (q)).toArray)
 obtain⟨w1,hw1⟩:=Lv (w.alloc (.cells (arL 432 (pkF (ek f) sb)).toArray 48))
 have hs1:=Zs1 hw1
 have hBw1:=Bl hw1
 have hEw1:Ar w1 w.heap.size 432 (pkF (ek f) sb):=by rw [hw1];exact Ar.new w 432 _ _
 obtain⟨w2,hw2⟩:=Lv (w1.alloc (.cells (arL 12 (q)).toArray 77))
 have hs2:=Zs2 hw2 hs1
 have hBw2:=Bm hw2 hBw1
 have hEw2:=ara hw2 hEw1
 have hQw2:Ar w2 (w.heap.size+1) 12 (q):=by rw [hw2,←hs1];exact Ar.new w1 12 _ _
 clear hEw1 hBw1
 rw [hkE]at hw1
 rw [hkQ]at hw2
 rw [hkE,hkQ]
 clear hkE hkQ
 have hz:=zero16b
 obtain⟨dK,hfs,hrow⟩:=Tryz.structK
 have HS:=Lib.hid hfs
 have HW:=Lib.hid hrow
 clear hfs hrow
 have hlen:=hS.len
 have HLEN:=Lib.hid hlen
 have HFB:=Lib.hid hf
 have HSS:=Lib.hid hS
 have HSL:=Lib.hid (show B16 s by rw [←hs];exact enR_lt hf zF_lt 10)
 have HAL:=Lib.hid (show B16 a by rw [←ha];exact o0F_lt (enR_lt hf (nbF_lt hq0) 10) _)
 have hst:=Lib.hid (fun V=>refstar f V hf zF_lt)
 rw [hs]at hst
 have hra:=Lib.hid (fun V=>rstart f q V hf hq0)
 rw [ha]at hra
 obtain⟨N,hN⟩:=Le (n/16)
 obtain⟨o,ho⟩:=Le (16*N)
 have HFA:=Lib.hid (hfacts hn hN ho)
 have HFB2:=Lib.hid (rfacts2 hn hN ho)
 have HNN:=Lib.hid hN
 have HO:=Lib.hid ho
 have HN6:=Lib.hid (show N≤62500 by omega)
 have HN:=Lib.hid hn
 have HNC:=Lib.hid hnc
 have HPB:=Lib.hid (fun k (j:Nat) (_:j<16)=>pt_lt l k j)
 obtain⟨i0,hi0,hz0,hz1,hz2⟩:=info_parts info8x
 have HI0:=Lib.hid hi0
 have HZ0:=Lib.hid hz0
 have HZ1:=Lib.hid hz1
 have HZ2:=Lib.hid hz2
 clear hi0 hz0 hz1 hz2 hf hq0 hS hn hs ha hN ho hlen hnc
 go_enter Tryz.func66,Tryz.ntmps66
 go_upto_region 1 with fail
 rw [←hw1,←hw2]
 clear hw1 hw2
 try simp only [Nat.add_assoc,Nat.reduceAdd]
 obtain⟨gQ,hgQ⟩:=Le (w.heap.size+1)
 rw [hgQ]at hQw2
 try rw [hgQ]
 have hlQ:w.heap.size<gQ:=by omega
 clear hs1 hs2 hgQ
 go_wp2_with (refine wpList_load_mid rfl _ _ rfl w.heap.size 0 rfl (arL 432 (pkF (ek f) sb)) _ hEw2.range HS.out HW.out (sizeK _) ?_)
 refine(hst.out _).mono ?_
 rintro e x1 ⟨rfl,hq⟩
 have hEx1:=hEw2.t hq
 have hQx1:=hQw2.t hq
 have hBx1:=Tq hBw2 hq
 clear hq hEw2 hQw2 hBw2
 obtain⟨gs,hgs⟩:=Le (x1.heap.size)
 have hlw_heap_sizegs:w.heap.size<gs:=by rw [←hgs];exact hEx1.lt (by omega)
 have hlgQgs:gQ<gs:=by rw [←hgs];exact hQx1.lt (by omega)
 have hlwgs:w.heap.size≤gs:=by rw [←hgs];exact hBx1.size
 have hq:=Ba x1 (.cells (arL 16 fun _=>0).toArray 22)
 have hEx2a:=hEx1.t hq
 have hQx2a:=hQx1.t hq
 have hsx2a:=Ar.new x1 16 (fun _=>0) 22
 have hBx2a:=hBx1.alloc hBx1.size (.cells (arL 16 fun _=>0).toArray 22)
 rw [hgs]at hsx2a
 clear hq hEx1 hQx1 hBx1
 go_upto_region 2 with (first|(refine wpList_store_ar rfl _ _ _ rfl _ _ _ (s) rfl rfl hsx2a (size16b _) ?_;intro x2 hsx2 belx2 sizx2 keex2)|fail)
 have hEx2:=(hEx2a).keep hlw_heap_sizegs belx2
 have hQx2:=(hQx2a).keep hlgQgs belx2
 have hBx2:=hBx2a.trans (belx2.mono hlwgs)
 clear hEx2a hQx2a hsx2a hBx2a belx2 sizx2 keex2 hgs
 try dsimp only [Act.put]
 go_wp2_with (first|(refine wpList_load_mid rfl _ _ rfl w.heap.size 0 rfl (arL 432 (pkF (ek f) sb)) _ hEx2.range HS.out HW.out (sizeK _) ?_)|(refine wpList_load_ar rfl _ _ rfl _ _ _ rfl hQx2 Tryz.arr12 (size12 _) ?_))
 refine(hra.out _).mono ?_
 rintro e x3 ⟨rfl,hq⟩
 have hEx3:=hEx2.t hq
 have hQx3:=hQx2.t hq
 have hsx3:=hsx2.t hq
 have hBx3:=Tq hBx2 hq
 clear hq hEx2 hQx2 hsx2 hBx2
 obtain⟨go,hgo⟩:=Le (x3.heap.size)
 have hlw_heap_sizego:w.heap.size<go:=by rw [←hgo];exact hEx3.lt (by omega)
 have hlgQgo:gQ<go:=by rw [←hgo];exact hQx3.lt (by omega)
 have hlgsgo:gs<go:=by rw [←hgo];exact hsx3.lt (by omega)
 have hlwgo:w.heap.size≤go:=by rw [←hgo];exact hBx3.size
 have hq:=Ba x3 (.cells (arL 16 fun _=>0).toArray 22)
 have hEx4a:=hEx3.t hq
 have hQx4a:=hQx3.t hq
 have hsx4a:=hsx3.t hq
 have hox4a:=Ar.new x3 16 (fun _=>0) 22
 have hBx4a:=hBx3.alloc hBx3.size (.cells (arL 16 fun _=>0).toArray 22)
 rw [hgo]at hox4a
 clear hq hEx3 hQx3 hsx3 hBx3
 go_upto_region 3 with (first|(refine wpList_store_ar rfl _ _ _ rfl _ _ _ (a) rfl rfl hox4a (size16b _) ?_;intro x4 hox4 belx4 sizx4 keex4)|fail)
 have hEx4:=(hEx4a).keep hlw_heap_sizego belx4
 have hQx4:=(hQx4a).keep hlgQgo belx4
 have hsx4:=(hsx4a).keep hlgsgo belx4
 have hBx4:=hBx4a.trans (belx4.mono hlwgo)
 clear hEx4a hQx4a hsx4a hox4a hBx4a belx4 sizx4 keex4 hgo
 try dsimp only [Act.put]
 clear hQx4
 obtain⟨b0,hb0⟩:=Le (go+1)
 have hlb:go<b0:=by omega
 have hlo0:=hox4.lt (by omega)
 have hwx4:Ob x4 b0 go (.slice none 0 0) 0 (liB 0 (dtF f s a l N)):=⟨hlo0,by omega,fun k hk=>by simp [Value.ownBlock]at hk,World.ownsRow_nil _ _ _ _⟩
 clear hb0 hlo0
 obtain⟨j1,j2,j3⟩:=HFA.out
 clear j3
 have hN6:=HN6.out
 go_wp2_with fail
 clear j1 j2
 have ho0:=hox4.ext (f':=atF a s 0) (fun j _=>by rw [atF_zero])
 clear hox4
 have hox4:=ho0
 clear ho0
 go_loopw [9,11] (fun v i wr=> ∃(k:Nat) (A2:Option Addr) (c2 gw:Nat),k≤N∧i= .int .i64 k∧v= .slice A2 (16*k) c2∧go≤gw∧Ar wr w.heap.size 432 (pkF (ek f) sb)∧Ar wr gs 16 (s)∧Ar wr go 16 (atF a s k)∧Ob wr b0 gw (.slice A2 (16*k) c2) (16*k) (liB (16*k) (dtF f s a l N))∧Below w.heap.size w wr) (fun _ i _=>N-(intOf i).toNat)
 case atStart=>exact⟨0,none,0,go,Nat.zero_le _,rfl,rfl,Nat.le_refl _,hEx4,hsx4,hox4,hwx4,hBx4⟩
 case round=>
  clear hEx4 hsx4 hox4 hwx4 hBx4
  obtain⟨k,A2,c2,gw,hk,rfl,rfl,hgw,hEwr,hswr,howr,hwwr,hBwr⟩:=hrel
  by_cases hlt:k<N
  ·have i1:(k:Int)<(N:Int):=by omega
   have HK6:=Lib.hid (show 16*k+16≤n by have:=HNN.out;omega)
   obtain⟨b,ob,hA1,hbl⟩:=sl_some HSS.out (Nat.lt_of_lt_of_le (Nat.succ_pos _) HK6.out)
   subst hA1
   obtain⟨q1,hq1⟩:=Le (k+1)
   have HQF:=Lib.hid (rfacts hq1 (by omega))
   have hob:=Lib.hid (atF_lt HAL.out HSL.out k)
   have HST:=Lib.hid (atF_step a s k)
   have hfor:=Lib.hid (fun V=>reffor s (k+1) V HSL.out (by omega))
   have HCT:=Lib.hid (show(liB (16*k) (dtF f s a l N)).map b8++arL 16 (opF f (pt l k) (atF a s (k+1)))=(liB (16*(k+1)) (dtF f s a l N)).map b8 by rw [dt_part f s a l N k hlt,List.map_append,liB_b8 16 _ (opF_lt HFB.out (HPB.out k) (atF_lt HAL.out HSL.out _))])
   obtain⟨ok,hok⟩: ∃u,atF a s k=u:=⟨_,rfl⟩
   rw [hok]at hob HST
   rw [hq1]at HST hfor
   have hdb:=Lib.hid (dk_lt HSL.out (zer q1+2))
   obtain⟨d,hd⟩: ∃d,dk s (zer q1+2)=d:=⟨_,rfl⟩
   rw [hd]at HST hfor hdb
   have ho1b:=Lib.hid (adF_lt hob.out hdb.out)
   obtain⟨o1,ho1⟩: ∃o1,atF a s q1=o1:=⟨_,rfl⟩
   rw [HST.out,ho1]at ho1b
   rw [ho1]at HST
   have hpb:=Lib.hid (HPB.out k)
   have HCT2:=Lib.hid (show(liB (16*k) (dtF f s a l N)).map b8++arL 16 (opF f (pt l k) o1)=(liB (16*(k+1)) (dtF f s a l N)).map b8 by rw [←ho1,←hq1];exact HCT.out)
   clear HCT
   obtain⟨P,hP⟩: ∃P,pt l k=P:=⟨_,rfl⟩
   have HPC:=Lib.hid (fun V hb=>pt_cell3 ((HSS.out.below (w':=V) hb)) k HK6.out)
   rw [hP]at hpb HPC HCT2
   have hxb:=Lib.hid (adF_lt hpb.out ho1b.out)
   have heb:=Lib.hid (show B16 (deF f (adF P o1))from deR_lt HFB.out 10 hxb.out)
   obtain⟨cp,hcp⟩: ∃u,opF f P o1=u:=⟨_,rfl⟩
   have HCP:=Lib.hid (show adF (deF f (adF P o1)) o1=cp from hcp)
   rw [hcp]at HCT2
   have HQ1:=Lib.hid hq1
   have HO1:=Lib.hid ho1
   rw [hok]at howr
   clear hok hd hP hq1 ho1 hN6 hcp
   go_upto_region 8 with fail
   apply wp_region_via (F:=fun W=>Ar W w.heap.size 432 (pkF (ek f) sb)∧Ar W gs 16 (s)∧Ob W b0 gw (.slice A2 (16*k) c2) (16*k) (liB (16*k) (dtF f s a l N))∧Ar W go 16 (o1)∧Below w.heap.size w W)
   case h1=>
    refine wp_region_noPanic ?_
    have hotad:=howr.drew
    refine wp_region_held_drew (S:=fun W=>Ar W w.heap.size 432 (pkF (ek f) sb)∧Ar W gs 16 (s)∧Ob W b0 gw (.slice A2 (16*k) c2) (16*k) (liB (16*k) (dtF f s a l N))∧Below w.heap.size w W) (by kernel_rfl) ⟨hEwr.drew,hswr.drew,hwwr.drew,hBwr.drew⟩ (fun hH'=> ?_)
    generalize World.drew wr=tad at*
    refine tk 1 (.agg (arL 16 (s)).toArray) rfl (yieldsIf_load_mid (by rfl) _ _ rfl gs (0) rfl (arL 16 (s)) _ (fun W hSw=>hSw.2.1.range) Tryz.arr16b rfl (size16b _)) ?_
    simp only [Act.put,nrm]
    refine tw 2 ?vta1 rfl ?hyta1 ?restta1
    case hyta1=>
     intro W hSw
     go_simp
     try with_reducible rfl
    simp only [Act.put,nrm]
    refine tw 3 ?vta2 rfl ?hyta2 ?restta2
    case hyta2=>
     intro W hSw
     obtain⟨j1,j2,j3,j4,j5,j6⟩:=HQF.out
     go_simp
     try with_reducible rfl
    simp only [Act.put,nrm]
    refine tw 4 ?vta3 rfl ?hyta3 ?restta3
    case hyta3=>
     intro W hSw
     obtain⟨j1,j2,j3,j4,j5,j6⟩:=HQF.out
     go_simp
     try with_reducible rfl
    simp only [Act.put,nrm]
    refine rd2 0 5 rfl rfl (fun K hK=> ?_) (fun K hK=> ?_)
    ·rw [if_pos (by rfl)]
     refine wp_load_mid _ _ rfl go 0 rfl (arL 16 (ok)) _ hotad.range Tryz.arr16b rfl (size16b _) ?_
     refine hK.out _ _ hH' ?_
     clear hK K hH'
     intro hH'
     try simp only [Act.put,nrm]
     refine rd 5 rfl (fun K hK=> ?_)
     go_simp
     refine(hfor.out _).mono ?_
     rintro e ta4 ⟨rfl,hq⟩
     go_wp2_with fail
     have hota4:=hotad.t hq
     refine hK.out _ _ ⟨hH'.1.t hq,hH'.2.1.t hq,hH'.2.2.1.to hq,Tq hH'.2.2.2 hq⟩ ?_
     clear hK K hH' hq hotad
     intro hH'
     try simp only [Act.put,nrm]
     refine rd 6 rfl (fun K hK=> ?_)
     go_simp
     refine(refxor8 ok d _ hob.out hdb.out).mono ?_
     rintro e ta5 ⟨rfl,hq⟩
     rw [HST.out]
     go_wp2_with fail
     have hota5:=hota4.t hq
     refine hK.out _ _ ⟨hH'.1.t hq,hH'.2.1.t hq,hH'.2.2.1.to hq,Tq hH'.2.2.2 hq⟩ ?_
     clear hK K hH' hq hota4
     intro hH'
     try simp only [Act.put,nrm]
     refine rd 7 rfl (fun K hK=> ?_)
     rw [if_pos (by rfl)]
     refine wp_store_mid _ _ _ rfl go 0 (arL 16 (o1)).toArray rfl rfl hota5.there (size16b _) (all_oneCell_toArray (arL_one 16 (o1))) ?_
     have hota6:=hota5.whole (o1)
     dsimp only [List.toList_toArray]
     refine hK.out _ _ ⟨(hH'.1).apart (b:=go) (by omega) (arL 16 (o1)) 0,(hH'.2.1).apart (b:=go) (by omega) (arL 16 (o1)) 0,(hH'.2.2.1).old (by omega) (arL 16 (o1)) 0,(hH'.2.2.2).trans (Below.setCells (Below.refl w.heap.size _) (b:=go) (by omega) (arL 16 (o1)) 0)⟩ ?_
     clear hK K hH' hota5
     intro hH'
     generalize World.setCells ta5 go 0 (arL 16 (o1))=ta6 at*
     try simp only [Act.put]
     refine wpAnyH_done (by kernel_rfl) ?_ _
     refine NoPanic.normal ?_
     exact⟨rfl,rfl,hH'.1,hH'.2.1,hH'.2.2.1,hota6,hH'.2.2.2⟩
    ·go_simp
     refine(hfor.out _).mono ?_
     rintro e ta7 ⟨rfl,hq⟩
     go_wp2_with fail
     have hota7:=hotad.t hq
     refine hK.out _ _ ⟨hH'.1.t hq,hH'.2.1.t hq,hH'.2.2.1.to hq,Tq hH'.2.2.2 hq⟩ ?_
     clear hK K hH' hq hotad
     intro hH'
     try simp only [Act.put,nrm]
     refine rd 0 rfl (fun K hK=> ?_)
     rw [if_pos (by rfl)]
     refine wp_load_mid _ _ rfl go 0 rfl (arL 16 (ok)) _ hota7.range Tryz.arr16b rfl (size16b _) ?_
     refine hK.out _ _ hH' ?_
     clear hK K hH'
     intro hH'
     try simp only [Act.put,nrm]
     refine rd 6 rfl (fun K hK=> ?_)
     go_simp
     refine(refxor8 ok d _ hob.out hdb.out).mono ?_
     rintro e ta8 ⟨rfl,hq⟩
     rw [HST.out]
     go_wp2_with fail
     have hota8:=hota7.t hq
     refine hK.out _ _ ⟨hH'.1.t hq,hH'.2.1.t hq,hH'.2.2.1.to hq,Tq hH'.2.2.2 hq⟩ ?_
     clear hK K hH' hq hota7
     intro hH'
     try simp only [Act.put,nrm]
     refine rd 7 rfl (fun K hK=> ?_)
     rw [if_pos (by rfl)]
     refine wp_store_mid _ _ _ rfl go 0 (arL 16 (o1)).toArray rfl rfl hota8.there (size16b _) (all_oneCell_toArray (arL_one 16 (o1))) ?_
     have hota9:=hota8.whole (o1)
     dsimp only [List.toList_toArray]
     refine hK.out _ _ ⟨(hH'.1).apart (b:=go) (by omega) (arL 16 (o1)) 0,(hH'.2.1).apart (b:=go) (by omega) (arL 16 (o1)) 0,(hH'.2.2.1).old (by omega) (arL 16 (o1)) 0,(hH'.2.2.2).trans (Below.setCells (Below.refl w.heap.size _) (b:=go) (by omega) (arL 16 (o1)) 0)⟩ ?_
     clear hK K hH' hota8
     intro hH'
     generalize World.setCells ta8 go 0 (arL 16 (o1))=ta9 at*
     try simp only [Act.put]
     refine wpAnyH_done (by kernel_rfl) ?_ _
     refine NoPanic.normal ?_
     exact⟨rfl,rfl,hH'.1,hH'.2.1,hH'.2.2.1,hota9,hH'.2.2.2⟩
   rintro x5 ⟨hEx5,hsx5,hwx5,hox5,hBx5⟩
   clear hEwr hswr hwwr howr hBwr
   go_upto_region 9 with fail
   apply wp_region_viaG (F:=fun gy W=>Ar W w.heap.size 432 (pkF (ek f) sb)∧Ar W gs 16 (s)∧Ob W b0 gw (.slice A2 (16*k) c2) (16*k) (liB (16*k) (dtF f s a l N))∧Ar W go 16 (o1)∧Ar W gy 16 (cp)∧gw<gy∧Below w.heap.size w W)
   case h1=>
    refine wp_region_noPanic ?_
    refine wp_region_held_drew (S:=fun W=>Ar W w.heap.size 432 (pkF (ek f) sb)∧Ar W gs 16 (s)∧Ob W b0 gw (.slice A2 (16*k) c2) (16*k) (liB (16*k) (dtF f s a l N))∧Ar W go 16 (o1)∧Below w.heap.size w W) (by kernel_rfl) ⟨hEx5.drew,hsx5.drew,hwx5.drew,hox5.drew,hBx5.drew⟩ (fun hH'=> ?_)
    generalize World.drew x5=tbd at*
    refine tk 0 (.agg (arL 432 (pkF (ek f) sb)).toArray) rfl (yieldsIf_load_mid (by rfl) _ _ rfl w.heap.size (0) rfl (arL 432 (pkF (ek f) sb)) _ (fun W hSw=>hSw.1.range) HS.out HW.out (sizeK _)) ?_
    simp only [Act.put,nrm]
    refine tw 1 ?vtb1 rfl ?hytb1 ?resttb1
    case hytb1=>
     intro W hSw
     go_simp
     try with_reducible rfl
    simp only [Act.put,nrm]
    refine tw 2 ?vtb2 rfl ?hytb2 ?resttb2
    case hytb2=>
     intro W hSw
     go_simp
     try with_reducible rfl
    simp only [Act.put,nrm]
    refine tk 4 (.agg (arL 16 (o1)).toArray) rfl (yieldsIf_load_mid (by rfl) _ _ rfl go (0) rfl (arL 16 (o1)) _ (fun W hSw=>hSw.2.2.2.1.range) Tryz.arr16b rfl (size16b _)) ?_
    simp only [Act.put,nrm]
    refine tk 7 (.agg (arL 16 (o1)).toArray) rfl (yieldsIf_load_mid (by rfl) _ _ rfl go (0) rfl (arL 16 (o1)) _ (fun W hSw=>hSw.2.2.2.1.range) Tryz.arr16b rfl (size16b _)) ?_
    simp only [Act.put,nrm]
    refine rd2 3 9 rfl rfl (fun K hK=> ?_) (fun K hK=> ?_)
    ·go_simp
     refine(refpart3 b ob n c k P _ HK6.out HNC.out HN.out (HPC.out _ (hH'.2.2.2.2)) (Nat.lt_of_lt_of_le hbl (hH'.2.2.2.2).size)).mono ?_
     rintro e tb3 ⟨rfl,hq⟩
     go_wp2_with fail
     refine hK.out _ _ ⟨hH'.1.t hq,hH'.2.1.t hq,hH'.2.2.1.to hq,hH'.2.2.2.1.t hq,Tq hH'.2.2.2.2 hq⟩ ?_
     clear hK K hH' hq
     intro hH'
     try simp only [Act.put,nrm]
     refine rd2 5 9 rfl rfl (fun K hK=> ?_) (fun K hK=> ?_)
     ·go_simp
      refine(refxor8 P o1 _ hpb.out ho1b.out).mono ?_
      rintro e tb4 ⟨rfl,hq⟩
      go_wp2_with fail
      refine hK.out _ _ ⟨hH'.1.t hq,hH'.2.1.t hq,hH'.2.2.1.to hq,hH'.2.2.2.1.t hq,Tq hH'.2.2.2.2 hq⟩ ?_
      clear hK K hH' hq
      intro hH'
      try simp only [Act.put,nrm]
      refine rd2 6 9 rfl rfl (fun K hK=> ?_) (fun K hK=> ?_)
      ·go_simp
       refine(refblock13 f (adF P o1) _ HFB.out hxb.out).mono ?_
       rintro e tb5 ⟨rfl,hq⟩
       go_wp2_with fail
       refine hK.out _ _ ⟨hH'.1.t hq,hH'.2.1.t hq,hH'.2.2.1.to hq,hH'.2.2.2.1.t hq,Tq hH'.2.2.2.2 hq⟩ ?_
       clear hK K hH' hq
       intro hH'
       try simp only [Act.put,nrm]
       refine rd2 8 9 rfl rfl (fun K hK=> ?_) (fun K hK=> ?_)
       ·go_simp
        refine(refxor8 (deF f (adF P o1)) o1 _ heb.out ho1b.out).mono ?_
        rintro e tb6 ⟨rfl,hq⟩
        rw [HCP.out]
        go_wp2_with fail
        refine hK.out _ _ ⟨hH'.1.t hq,hH'.2.1.t hq,hH'.2.2.1.to hq,hH'.2.2.2.1.t hq,Tq hH'.2.2.2.2 hq⟩ ?_
        clear hK K hH' hq
        intro hH'
        try simp only [Act.put,nrm]
        refine rd 9 rfl (fun K hK=> ?_)
        obtain⟨gy,hggy⟩:=Le (tb6.heap.size)
        have hlgwgy:gw<gy:=by rw [←hggy];exact(hH'.2.2.1).lt
        have hq:=Ba tb6 (.cells (arL 16 fun _=>0).toArray 22)
        have hytb7:=Ar.new tb6 16 (fun _=>0) 22
        rw [hggy]at hytb7
        go_simp
        obtain⟨tb7,hwtb7⟩:=Lv (tb6.alloc (.cells (arL 16 fun _=>0).toArray 22))
        have hytb7:Ar tb7 gy 16 (fun _=>0):=by rw [hwtb7];exact hytb7
        try rw [hggy]
        rw [←hwtb7]
        refine hK.out _ _ (by rw [hwtb7];exact⟨hH'.1.t hq,hH'.2.1.t hq,hH'.2.2.1.to hq,hH'.2.2.2.1.t hq,Tq hH'.2.2.2.2 hq⟩) ?_
        clear hK K hH' hq hwtb7 hggy
        intro hH'
        try simp only [Act.put,nrm]
        refine rd 10 rfl (fun K hK=> ?_)
        rw [if_pos (by rfl)]
        refine wp_store_mid _ _ _ rfl gy 0 (arL 16 (cp)).toArray rfl rfl hytb7.there (size16b _) (all_oneCell_toArray (arL_one 16 (cp))) ?_
        have hytb8:=hytb7.whole (cp)
        dsimp only [List.toList_toArray]
        refine hK.out _ _ ⟨(hH'.1).apart (b:=gy) (by omega) (arL 16 (cp)) 0,(hH'.2.1).apart (b:=gy) (by omega) (arL 16 (cp)) 0,(hH'.2.2.1).apart (b:=gy) (by omega) (arL 16 (cp)) 0,(hH'.2.2.2.1).apart (b:=gy) (by omega) (arL 16 (cp)) 0,(hH'.2.2.2.2).trans (Below.setCells (Below.refl w.heap.size _) (b:=gy) (by omega) (arL 16 (cp)) 0)⟩ ?_
        clear hK K hH' hytb7
        intro hH'
        generalize World.setCells tb7 gy 0 (arL 16 (cp))=tb8 at*
        try simp only [Act.put]
        refine wpAnyH_done (by kernel_rfl) ?_ _
        refine NoPanic.normal ?_
        exact⟨rfl,gy,rfl,hH'.1,hH'.2.1,hH'.2.2.1,hH'.2.2.2.1,hytb8,by omega,hH'.2.2.2.2⟩
       ·obtain⟨gy,hggy⟩:=Le (tb5.heap.size)
        have hlgwgy:gw<gy:=by rw [←hggy];exact(hH'.2.2.1).lt
        have hq:=Ba tb5 (.cells (arL 16 fun _=>0).toArray 22)
        have hytb9:=Ar.new tb5 16 (fun _=>0) 22
        rw [hggy]at hytb9
        go_simp
        obtain⟨tb9,hwtb9⟩:=Lv (tb5.alloc (.cells (arL 16 fun _=>0).toArray 22))
        have hytb9:Ar tb9 gy 16 (fun _=>0):=by rw [hwtb9];exact hytb9
        try rw [hggy]
        rw [←hwtb9]
        refine hK.out _ _ (by rw [hwtb9];exact⟨hH'.1.t hq,hH'.2.1.t hq,hH'.2.2.1.to hq,hH'.2.2.2.1.t hq,Tq hH'.2.2.2.2 hq⟩) ?_
        clear hK K hH' hq hwtb9 hggy
        intro hH'
        try simp only [Act.put,nrm]
        refine rd 8 rfl (fun K hK=> ?_)
        go_simp
        refine(refxor8 (deF f (adF P o1)) o1 _ heb.out ho1b.out).mono ?_
        rintro e tb10 ⟨rfl,hq⟩
        rw [HCP.out]
        go_wp2_with fail
        have hytb10:=hytb9.t hq
        refine hK.out _ _ ⟨hH'.1.t hq,hH'.2.1.t hq,hH'.2.2.1.to hq,hH'.2.2.2.1.t hq,Tq hH'.2.2.2.2 hq⟩ ?_
        clear hK K hH' hq hytb9
        intro hH'
        try simp only [Act.put,nrm]
        refine rd 10 rfl (fun K hK=> ?_)
        rw [if_pos (by rfl)]
        refine wp_store_mid _ _ _ rfl gy 0 (arL 16 (cp)).toArray rfl rfl hytb10.there (size16b _) (all_oneCell_toArray (arL_one 16 (cp))) ?_
        have hytb11:=hytb10.whole (cp)
        dsimp only [List.toList_toArray]
        refine hK.out _ _ ⟨(hH'.1).apart (b:=gy) (by omega) (arL 16 (cp)) 0,(hH'.2.1).apart (b:=gy) (by omega) (arL 16 (cp)) 0,(hH'.2.2.1).apart (b:=gy) (by omega) (arL 16 (cp)) 0,(hH'.2.2.2.1).apart (b:=gy) (by omega) (arL 16 (cp)) 0,(hH'.2.2.2.2).trans (Below.setCells (Below.refl w.heap.size _) (b:=gy) (by omega) (arL 16 (cp)) 0)⟩ ?_
        clear hK K hH' hytb10
        intro hH'
        generalize World.setCells tb10 gy 0 (arL 16 (cp))=tb11 at*
        try simp only [Act.put]
        refine wpAnyH_done (by kernel_rfl) ?_ _
        refine NoPanic.normal ?_
        exact⟨rfl,gy,rfl,hH'.1,hH'.2.1,hH'.2.2.1,hH'.2.2.2.1,hytb11,by omega,hH'.2.2.2.2⟩
      ·obtain⟨gy,hggy⟩:=Le (tb4.heap.size)
       have hlgwgy:gw<gy:=by rw [←hggy];exact(hH'.2.2.1).lt
       have hq:=Ba tb4 (.cells (arL 16 fun _=>0).toArray 22)
       have hytb12:=Ar.new tb4 16 (fun _=>0) 22
       rw [hggy]at hytb12
       go_simp
       obtain⟨tb12,hwtb12⟩:=Lv (tb4.alloc (.cells (arL 16 fun _=>0).toArray 22))
       have hytb12:Ar tb12 gy 16 (fun _=>0):=by rw [hwtb12];exact hytb12
       try rw [hggy]
       rw [←hwtb12]
       refine hK.out _ _ (by rw [hwtb12];exact⟨hH'.1.t hq,hH'.2.1.t hq,hH'.2.2.1.to hq,hH'.2.2.2.1.t hq,Tq hH'.2.2.2.2 hq⟩) ?_
       clear hK K hH' hq hwtb12 hggy
       intro hH'
       try simp only [Act.put,nrm]
       refine rd 6 rfl (fun K hK=> ?_)
       go_simp
       refine(refblock13 f (adF P o1) _ HFB.out hxb.out).mono ?_
       rintro e tb13 ⟨rfl,hq⟩
       go_wp2_with fail
       have hytb13:=hytb12.t hq
       refine hK.out _ _ ⟨hH'.1.t hq,hH'.2.1.t hq,hH'.2.2.1.to hq,hH'.2.2.2.1.t hq,Tq hH'.2.2.2.2 hq⟩ ?_
       clear hK K hH' hq hytb12
       intro hH'
       try simp only [Act.put,nrm]
       refine rd 8 rfl (fun K hK=> ?_)
       go_simp
       refine(refxor8 (deF f (adF P o1)) o1 _ heb.out ho1b.out).mono ?_
       rintro e tb14 ⟨rfl,hq⟩
       rw [HCP.out]
       go_wp2_with fail
       have hytb14:=hytb13.t hq
       refine hK.out _ _ ⟨hH'.1.t hq,hH'.2.1.t hq,hH'.2.2.1.to hq,hH'.2.2.2.1.t hq,Tq hH'.2.2.2.2 hq⟩ ?_
       clear hK K hH' hq hytb13
       intro hH'
       try simp only [Act.put,nrm]
       refine rd 10 rfl (fun K hK=> ?_)
       rw [if_pos (by rfl)]
       refine wp_store_mid _ _ _ rfl gy 0 (arL 16 (cp)).toArray rfl rfl hytb14.there (size16b _) (all_oneCell_toArray (arL_one 16 (cp))) ?_
       have hytb15:=hytb14.whole (cp)
       dsimp only [List.toList_toArray]
       refine hK.out _ _ ⟨(hH'.1).apart (b:=gy) (by omega) (arL 16 (cp)) 0,(hH'.2.1).apart (b:=gy) (by omega) (arL 16 (cp)) 0,(hH'.2.2.1).apart (b:=gy) (by omega) (arL 16 (cp)) 0,(hH'.2.2.2.1).apart (b:=gy) (by omega) (arL 16 (cp)) 0,(hH'.2.2.2.2).trans (Below.setCells (Below.refl w.heap.size _) (b:=gy) (by omega) (arL 16 (cp)) 0)⟩ ?_
       clear hK K hH' hytb14
       intro hH'
       generalize World.setCells tb14 gy 0 (arL 16 (cp))=tb15 at*
       try simp only [Act.put]
       refine wpAnyH_done (by kernel_rfl) ?_ _
       refine NoPanic.normal ?_
       exact⟨rfl,gy,rfl,hH'.1,hH'.2.1,hH'.2.2.1,hH'.2.2.2.1,hytb15,by omega,hH'.2.2.2.2⟩
     ·obtain⟨gy,hggy⟩:=Le (tb3.heap.size)
      have hlgwgy:gw<gy:=by rw [←hggy];exact(hH'.2.2.1).lt
      have hq:=Ba tb3 (.cells (arL 16 fun _=>0).toArray 22)
      have hytb16:=Ar.new tb3 16 (fun _=>0) 22
      rw [hggy]at hytb16
      go_simp
      obtain⟨tb16,hwtb16⟩:=Lv (tb3.alloc (.cells (arL 16 fun _=>0).toArray 22))
      have hytb16:Ar tb16 gy 16 (fun _=>0):=by rw [hwtb16];exact hytb16
      try rw [hggy]
      rw [←hwtb16]
      refine hK.out _ _ (by rw [hwtb16];exact⟨hH'.1.t hq,hH'.2.1.t hq,hH'.2.2.1.to hq,hH'.2.2.2.1.t hq,Tq hH'.2.2.2.2 hq⟩) ?_
      clear hK K hH' hq hwtb16 hggy
      intro hH'
      try simp only [Act.put,nrm]
      refine rd 5 rfl (fun K hK=> ?_)
      go_simp
      refine(refxor8 P o1 _ hpb.out ho1b.out).mono ?_
      rintro e tb17 ⟨rfl,hq⟩
      go_wp2_with fail
      have hytb17:=hytb16.t hq
      refine hK.out _ _ ⟨hH'.1.t hq,hH'.2.1.t hq,hH'.2.2.1.to hq,hH'.2.2.2.1.t hq,Tq hH'.2.2.2.2 hq⟩ ?_
      clear hK K hH' hq hytb16
      intro hH'
      try simp only [Act.put,nrm]
      refine rd 6 rfl (fun K hK=> ?_)
      go_simp
      refine(refblock13 f (adF P o1) _ HFB.out hxb.out).mono ?_
      rintro e tb18 ⟨rfl,hq⟩
      go_wp2_with fail
      have hytb18:=hytb17.t hq
      refine hK.out _ _ ⟨hH'.1.t hq,hH'.2.1.t hq,hH'.2.2.1.to hq,hH'.2.2.2.1.t hq,Tq hH'.2.2.2.2 hq⟩ ?_
      clear hK K hH' hq hytb17
      intro hH'
      try simp only [Act.put,nrm]
      refine rd 8 rfl (fun K hK=> ?_)
      go_simp
      refine(refxor8 (deF f (adF P o1)) o1 _ heb.out ho1b.out).mono ?_
      rintro e tb19 ⟨rfl,hq⟩
      rw [HCP.out]
      go_wp2_with fail
      have hytb19:=hytb18.t hq
      refine hK.out _ _ ⟨hH'.1.t hq,hH'.2.1.t hq,hH'.2.2.1.to hq,hH'.2.2.2.1.t hq,Tq hH'.2.2.2.2 hq⟩ ?_
      clear hK K hH' hq hytb18
      intro hH'
      try simp only [Act.put,nrm]
      refine rd 10 rfl (fun K hK=> ?_)
      rw [if_pos (by rfl)]
      refine wp_store_mid _ _ _ rfl gy 0 (arL 16 (cp)).toArray rfl rfl hytb19.there (size16b _) (all_oneCell_toArray (arL_one 16 (cp))) ?_
      have hytb20:=hytb19.whole (cp)
      dsimp only [List.toList_toArray]
      refine hK.out _ _ ⟨(hH'.1).apart (b:=gy) (by omega) (arL 16 (cp)) 0,(hH'.2.1).apart (b:=gy) (by omega) (arL 16 (cp)) 0,(hH'.2.2.1).apart (b:=gy) (by omega) (arL 16 (cp)) 0,(hH'.2.2.2.1).apart (b:=gy) (by omega) (arL 16 (cp)) 0,(hH'.2.2.2.2).trans (Below.setCells (Below.refl w.heap.size _) (b:=gy) (by omega) (arL 16 (cp)) 0)⟩ ?_
      clear hK K hH' hytb19
      intro hH'
      generalize World.setCells tb19 gy 0 (arL 16 (cp))=tb20 at*
      try simp only [Act.put]
      refine wpAnyH_done (by kernel_rfl) ?_ _
      refine NoPanic.normal ?_
      exact⟨rfl,gy,rfl,hH'.1,hH'.2.1,hH'.2.2.1,hH'.2.2.2.1,hytb20,by omega,hH'.2.2.2.2⟩
    ·obtain⟨gy,hggy⟩:=Le (tbd.heap.size)
     have hlgwgy:gw<gy:=by rw [←hggy];exact(hH'.2.2.1).lt
     have hq:=Ba tbd (.cells (arL 16 fun _=>0).toArray 22)
     have hytb21:=Ar.new tbd 16 (fun _=>0) 22
     rw [hggy]at hytb21
     go_simp
     obtain⟨tb21,hwtb21⟩:=Lv (tbd.alloc (.cells (arL 16 fun _=>0).toArray 22))
     have hytb21:Ar tb21 gy 16 (fun _=>0):=by rw [hwtb21];exact hytb21
     try rw [hggy]
     rw [←hwtb21]
     refine hK.out _ _ (by rw [hwtb21];exact⟨hH'.1.t hq,hH'.2.1.t hq,hH'.2.2.1.to hq,hH'.2.2.2.1.t hq,Tq hH'.2.2.2.2 hq⟩) ?_
     clear hK K hH' hq hwtb21 hggy
     intro hH'
     try simp only [Act.put,nrm]
     refine rd 3 rfl (fun K hK=> ?_)
     go_simp
     refine(refpart3 b ob n c k P _ HK6.out HNC.out HN.out (HPC.out _ (hH'.2.2.2.2)) (Nat.lt_of_lt_of_le hbl (hH'.2.2.2.2).size)).mono ?_
     rintro e tb22 ⟨rfl,hq⟩
     go_wp2_with fail
     have hytb22:=hytb21.t hq
     refine hK.out _ _ ⟨hH'.1.t hq,hH'.2.1.t hq,hH'.2.2.1.to hq,hH'.2.2.2.1.t hq,Tq hH'.2.2.2.2 hq⟩ ?_
     clear hK K hH' hq hytb21
     intro hH'
     try simp only [Act.put,nrm]
     refine rd 5 rfl (fun K hK=> ?_)
     go_simp
     refine(refxor8 P o1 _ hpb.out ho1b.out).mono ?_
     rintro e tb23 ⟨rfl,hq⟩
     go_wp2_with fail
     have hytb23:=hytb22.t hq
     refine hK.out _ _ ⟨hH'.1.t hq,hH'.2.1.t hq,hH'.2.2.1.to hq,hH'.2.2.2.1.t hq,Tq hH'.2.2.2.2 hq⟩ ?_
     clear hK K hH' hq hytb22
     intro hH'
     try simp only [Act.put,nrm]
     refine rd 6 rfl (fun K hK=> ?_)
     go_simp
     refine(refblock13 f (adF P o1) _ HFB.out hxb.out).mono ?_
     rintro e tb24 ⟨rfl,hq⟩
     go_wp2_with fail
     have hytb24:=hytb23.t hq
     refine hK.out _ _ ⟨hH'.1.t hq,hH'.2.1.t hq,hH'.2.2.1.to hq,hH'.2.2.2.1.t hq,Tq hH'.2.2.2.2 hq⟩ ?_
     clear hK K hH' hq hytb23
     intro hH'
     try simp only [Act.put,nrm]
     refine rd 8 rfl (fun K hK=> ?_)
     go_simp
     refine(refxor8 (deF f (adF P o1)) o1 _ heb.out ho1b.out).mono ?_
     rintro e tb25 ⟨rfl,hq⟩
     rw [HCP.out]
     go_wp2_with fail
     have hytb25:=hytb24.t hq
     refine hK.out _ _ ⟨hH'.1.t hq,hH'.2.1.t hq,hH'.2.2.1.to hq,hH'.2.2.2.1.t hq,Tq hH'.2.2.2.2 hq⟩ ?_
     clear hK K hH' hq hytb24
     intro hH'
     try simp only [Act.put,nrm]
     refine rd 10 rfl (fun K hK=> ?_)
     rw [if_pos (by rfl)]
     refine wp_store_mid _ _ _ rfl gy 0 (arL 16 (cp)).toArray rfl rfl hytb25.there (size16b _) (all_oneCell_toArray (arL_one 16 (cp))) ?_
     have hytb26:=hytb25.whole (cp)
     dsimp only [List.toList_toArray]
     refine hK.out _ _ ⟨(hH'.1).apart (b:=gy) (by omega) (arL 16 (cp)) 0,(hH'.2.1).apart (b:=gy) (by omega) (arL 16 (cp)) 0,(hH'.2.2.1).apart (b:=gy) (by omega) (arL 16 (cp)) 0,(hH'.2.2.2.1).apart (b:=gy) (by omega) (arL 16 (cp)) 0,(hH'.2.2.2.2).trans (Below.setCells (Below.refl w.heap.size _) (b:=gy) (by omega) (arL 16 (cp)) 0)⟩ ?_
     clear hK K hH' hytb25
     intro hH'
     generalize World.setCells tb25 gy 0 (arL 16 (cp))=tb26 at*
     try simp only [Act.put]
     refine wpAnyH_done (by kernel_rfl) ?_ _
     refine NoPanic.normal ?_
     exact⟨rfl,gy,rfl,hH'.1,hH'.2.1,hH'.2.2.1,hH'.2.2.2.1,hytb26,by omega,hH'.2.2.2.2⟩
   rintro gy x6 ⟨hEx6,hsx6,hwx6,hox6,hyx6,hlgy,hBx6⟩
   clear hEx5 hsx5 hwx5 hox5 hBx5
   have hsla:=slice16all2 gy
   have hbs:b0≤x6.heap.size:=by have:=hwx6.1;have:=hwx6.2.1;omega
   go_wp2_with (at_builtin;refine wpList_append_own _ rfl _ _ 25 rfl b0 5 i0 (.int .u8 0) 1 1 Tryz.underlying25 HI0.out HZ0.out HZ1.out HZ2.out (by decide) (by decide) _ _ _ rfl hwx6.2.2.2 ⟨gy,0,none⟩ 16 16 (arL 16 cp) rfl (by simp [arL_len]) hyx6.src (arL_one 16 cp) (by have e1:=HN.out;have e2:=HK6.out;unfold maxLen;omega) (by have e1:=HN.out;have e2:=HK6.out;omega) hbs ?_;intro v8 z1 hown8 hgrow8 _;obtain⟨A3,c3,rfl⟩:=own_shape hown8)
   have k8:Below b0 x6 z1:=(Below.refl _ _).grown hgrow8 hbs (fun g hg=>own_block hwx6.2.2.2 hg)
   have hO8:Ow8 z1 b0 (.slice A3 (16*k+16) c3) (16*k+16) (liB (16*(k+1)) (dtF f s a l N)):=by unfold Ow8;rw [←HCT2.out];exact hown8
   have hsz8:=k8.size
   have hwz1:Ob z1 b0 (z1.heap.size-1) (.slice A3 (16*(k+1)) c3) (16*(k+1)) (liB (16*(k+1)) (dtF f s a l N)):=Ob.new hO8 (by omega) (by omega)
   have hEz1:=hEx6.keep (by omega) k8
   have hsz1:=hsx6.keep (by omega) k8
   have hoz1:=hox6.keep (by omega) k8
   have hBz1:=hBx6.trans (k8.mono (by omega))
   have hg3:go≤z1.heap.size-1:=by have:=hoz1.lt (by omega);omega
   clear hown8 hgrow8 k8 hO8 hsz8 hbs hsla
   have hN6:=HN6.out
   go_wp2_with fail
   go_roundw
   case rel=>exact⟨k+1,A3,c3,z1.heap.size-1,by have h9:=HQ1.out;omega,by first|go_num|(rw [HQF.out.2.1,HQ1.out]),rfl,hg3,hEz1,hsz1,by rw [HQ1.out,HO1.out];exact hoz1,hwz1,hBz1⟩
   case measure=>(try rw [HQF.out.2.1]);simp [intOf];have h9:=HQ1.out;omega
  ·obtain rfl:N=k:=by omega
   have i1: ¬(N:Int)<(N:Int):=by omega
   have hab:=Lib.hid (atF_lt HAL.out HSL.out N)
   have HCC:=Lib.hid (fun i hi=>dt_rest f s a l N i hi)
   obtain⟨an,han⟩: ∃u,atF a s N=u:=⟨_,rfl⟩
   rw [han]at hab HCC
   have ho2b:=Lib.hid (adF_lt hab.out HSL.out)
   obtain⟨o2,ho2⟩: ∃u,adF an s=u:=⟨_,rfl⟩
   rw [ho2]at ho2b HCC
   have HO2:=Lib.hid ho2
   have hpdb:=Lib.hid (show B16 (enF f o2)from enR_lt HFB.out ho2b.out 10)
   have hpad:=Lib.hid (fun V=>refencrypt f o2 V HFB.out ho2b.out)
   obtain⟨pd,hpd⟩: ∃u,enF f o2=u:=⟨_,rfl⟩
   rw [hpd]at hpdb hpad HCC
   rw [han]at howr
   have hlwb:w.heap.size≤b0:=by omega
   have hgw1:gw<wr.heap.size:=hwwr.1
   clear han hpd ho2 hgw1
   go_upto_region 11 with fail
   clear hk hlt i1
   apply wp_region_viaG (F:=fun gp W=>Ar W w.heap.size 432 (pkF (ek f) sb)∧Ar W gs 16 (s)∧Ar W go 16 (an)∧Ob W b0 gw (.slice A2 (16*N) c2) (16*N) (liB (16*N) (dtF f s a l N))∧Wb W gp 16 (pd) 22∧gw<gp∧Below w.heap.size w W)
   case h1=>
    refine wp_region_noPanic ?_
    refine wp_region_held_drew (S:=fun W=>Ar W w.heap.size 432 (pkF (ek f) sb)∧Ar W gs 16 (s)∧Ar W go 16 (an)∧Ob W b0 gw (.slice A2 (16*N) c2) (16*N) (liB (16*N) (dtF f s a l N))∧Below w.heap.size w W) (by kernel_rfl) ⟨hEwr.drew,hswr.drew,howr.drew,hwwr.drew,hBwr.drew⟩ (fun hH'=> ?_)
    generalize World.drew wr=tcd at*
    refine tk 0 (.agg (arL 432 (pkF (ek f) sb)).toArray) rfl (yieldsIf_load_mid (by rfl) _ _ rfl w.heap.size (0) rfl (arL 432 (pkF (ek f) sb)) _ (fun W hSw=>hSw.1.range) HS.out HW.out (sizeK _)) ?_
    simp only [Act.put,nrm]
    refine tk 1 (.agg (arL 16 (an)).toArray) rfl (yieldsIf_load_mid (by rfl) _ _ rfl go (0) rfl (arL 16 (an)) _ (fun W hSw=>hSw.2.2.1.range) Tryz.arr16b rfl (size16b _)) ?_
    simp only [Act.put,nrm]
    refine tk 2 (.agg (arL 16 (s)).toArray) rfl (yieldsIf_load_mid (by rfl) _ _ rfl gs (0) rfl (arL 16 (s)) _ (fun W hSw=>hSw.2.1.range) Tryz.arr16b rfl (size16b _)) ?_
    simp only [Act.put,nrm]
    refine rd2 3 5 rfl rfl (fun K hK=> ?_) (fun K hK=> ?_)
    ·go_simp
     refine(refxor8 an s _ hab.out HSL.out).mono ?_
     rintro e tc1 ⟨rfl,hq⟩
     rw [HO2.out]
     go_wp2_with fail
     refine hK.out _ _ ⟨hH'.1.t hq,hH'.2.1.t hq,hH'.2.2.1.t hq,hH'.2.2.2.1.to hq,Tq hH'.2.2.2.2 hq⟩ ?_
     clear hK K hH' hq
     intro hH'
     try simp only [Act.put,nrm]
     refine rd2 4 5 rfl rfl (fun K hK=> ?_) (fun K hK=> ?_)
     ·go_simp
      refine(hpad.out _).mono ?_
      rintro e tc2 ⟨rfl,hq⟩
      go_wp2_with fail
      refine hK.out _ _ ⟨hH'.1.t hq,hH'.2.1.t hq,hH'.2.2.1.t hq,hH'.2.2.2.1.to hq,Tq hH'.2.2.2.2 hq⟩ ?_
      clear hK K hH' hq
      intro hH'
      try simp only [Act.put,nrm]
      refine rd 5 rfl (fun K hK=> ?_)
      obtain⟨gp,hggp⟩:=Le (tc2.heap.size)
      have hlgwgp:gw<gp:=by rw [←hggp];exact(hH'.2.2.2.1).lt
      have hq:=Ba tc2 (.cells (arL 16 fun _=>0).toArray 22)
      have hptc3:=Wb.new tc2 16 (fun _=>0) 22
      rw [hggp]at hptc3
      go_simp
      obtain⟨tc3,hwtc3⟩:=Lv (tc2.alloc (.cells (arL 16 fun _=>0).toArray 22))
      have hptc3:Wb tc3 gp 16 (fun _=>0) 22:=by rw [hwtc3];exact hptc3
      try rw [hggp]
      rw [←hwtc3]
      refine hK.out _ _ (by rw [hwtc3];exact⟨hH'.1.t hq,hH'.2.1.t hq,hH'.2.2.1.t hq,hH'.2.2.2.1.to hq,Tq hH'.2.2.2.2 hq⟩) ?_
      clear hK K hH' hq hwtc3 hggp
      intro hH'
      try simp only [Act.put,nrm]
      refine rd 6 rfl (fun K hK=> ?_)
      rw [if_pos (by rfl)]
      refine wp_store_mid _ _ _ rfl gp 0 (arL 16 (pd)).toArray rfl rfl hptc3.ar.there (size16b _) (all_oneCell_toArray (arL_one 16 (pd))) ?_
      have hptc4:=hptc3.whole (pd)
      dsimp only [List.toList_toArray]
      refine hK.out _ _ ⟨(hH'.1).apart (b:=gp) (by omega) (arL 16 (pd)) 0,(hH'.2.1).apart (b:=gp) (by omega) (arL 16 (pd)) 0,(hH'.2.2.1).apart (b:=gp) (by omega) (arL 16 (pd)) 0,(hH'.2.2.2.1).apart (b:=gp) (by omega) (arL 16 (pd)) 0,(hH'.2.2.2.2).trans (Below.setCells (Below.refl w.heap.size _) (b:=gp) (by omega) (arL 16 (pd)) 0)⟩ ?_
      clear hK K hH' hptc3
      intro hH'
      generalize World.setCells tc3 gp 0 (arL 16 (pd))=tc4 at*
      try simp only [Act.put]
      refine wpAnyH_done (by kernel_rfl) ?_ _
      refine NoPanic.normal ?_
      exact⟨rfl,gp,rfl,hH'.1,hH'.2.1,hH'.2.2.1,hH'.2.2.2.1,hptc4,by omega,hH'.2.2.2.2⟩
     ·obtain⟨gp,hggp⟩:=Le (tc1.heap.size)
      have hlgwgp:gw<gp:=by rw [←hggp];exact(hH'.2.2.2.1).lt
      have hq:=Ba tc1 (.cells (arL 16 fun _=>0).toArray 22)
      have hptc5:=Wb.new tc1 16 (fun _=>0) 22
      rw [hggp]at hptc5
      go_simp
      obtain⟨tc5,hwtc5⟩:=Lv (tc1.alloc (.cells (arL 16 fun _=>0).toArray 22))
      have hptc5:Wb tc5 gp 16 (fun _=>0) 22:=by rw [hwtc5];exact hptc5
      try rw [hggp]
      rw [←hwtc5]
      refine hK.out _ _ (by rw [hwtc5];exact⟨hH'.1.t hq,hH'.2.1.t hq,hH'.2.2.1.t hq,hH'.2.2.2.1.to hq,Tq hH'.2.2.2.2 hq⟩) ?_
      clear hK K hH' hq hwtc5 hggp
      intro hH'
      try simp only [Act.put,nrm]
      refine rd 4 rfl (fun K hK=> ?_)
      go_simp
      refine(hpad.out _).mono ?_
      rintro e tc6 ⟨rfl,hq⟩
      go_wp2_with fail
      have hptc6:=wb_to (hptc5) (by omega) hq
      refine hK.out _ _ ⟨hH'.1.t hq,hH'.2.1.t hq,hH'.2.2.1.t hq,hH'.2.2.2.1.to hq,Tq hH'.2.2.2.2 hq⟩ ?_
      clear hK K hH' hq hptc5
      intro hH'
      try simp only [Act.put,nrm]
      refine rd 6 rfl (fun K hK=> ?_)
      rw [if_pos (by rfl)]
      refine wp_store_mid _ _ _ rfl gp 0 (arL 16 (pd)).toArray rfl rfl hptc6.ar.there (size16b _) (all_oneCell_toArray (arL_one 16 (pd))) ?_
      have hptc7:=hptc6.whole (pd)
      dsimp only [List.toList_toArray]
      refine hK.out _ _ ⟨(hH'.1).apart (b:=gp) (by omega) (arL 16 (pd)) 0,(hH'.2.1).apart (b:=gp) (by omega) (arL 16 (pd)) 0,(hH'.2.2.1).apart (b:=gp) (by omega) (arL 16 (pd)) 0,(hH'.2.2.2.1).apart (b:=gp) (by omega) (arL 16 (pd)) 0,(hH'.2.2.2.2).trans (Below.setCells (Below.refl w.heap.size _) (b:=gp) (by omega) (arL 16 (pd)) 0)⟩ ?_
      clear hK K hH' hptc6
      intro hH'
      generalize World.setCells tc6 gp 0 (arL 16 (pd))=tc7 at*
      try simp only [Act.put]
      refine wpAnyH_done (by kernel_rfl) ?_ _
      refine NoPanic.normal ?_
      exact⟨rfl,gp,rfl,hH'.1,hH'.2.1,hH'.2.2.1,hH'.2.2.2.1,hptc7,by omega,hH'.2.2.2.2⟩
    ·obtain⟨gp,hggp⟩:=Le (tcd.heap.size)
     have hlgwgp:gw<gp:=by rw [←hggp];exact(hH'.2.2.2.1).lt
     have hq:=Ba tcd (.cells (arL 16 fun _=>0).toArray 22)
     have hptc8:=Wb.new tcd 16 (fun _=>0) 22
     rw [hggp]at hptc8
     go_simp
     obtain⟨tc8,hwtc8⟩:=Lv (tcd.alloc (.cells (arL 16 fun _=>0).toArray 22))
     have hptc8:Wb tc8 gp 16 (fun _=>0) 22:=by rw [hwtc8];exact hptc8
     try rw [hggp]
     rw [←hwtc8]
     refine hK.out _ _ (by rw [hwtc8];exact⟨hH'.1.t hq,hH'.2.1.t hq,hH'.2.2.1.t hq,hH'.2.2.2.1.to hq,Tq hH'.2.2.2.2 hq⟩) ?_
     clear hK K hH' hq hwtc8 hggp
     intro hH'
     try simp only [Act.put,nrm]
     refine rd 3 rfl (fun K hK=> ?_)
     go_simp
     refine(refxor8 an s _ hab.out HSL.out).mono ?_
     rintro e tc9 ⟨rfl,hq⟩
     rw [HO2.out]
     go_wp2_with fail
     have hptc9:=wb_to (hptc8) (by omega) hq
     refine hK.out _ _ ⟨hH'.1.t hq,hH'.2.1.t hq,hH'.2.2.1.t hq,hH'.2.2.2.1.to hq,Tq hH'.2.2.2.2 hq⟩ ?_
     clear hK K hH' hq hptc8
     intro hH'
     try simp only [Act.put,nrm]
     refine rd 4 rfl (fun K hK=> ?_)
     go_simp
     refine(hpad.out _).mono ?_
     rintro e tc10 ⟨rfl,hq⟩
     go_wp2_with fail
     have hptc10:=wb_to (hptc9) (by omega) hq
     refine hK.out _ _ ⟨hH'.1.t hq,hH'.2.1.t hq,hH'.2.2.1.t hq,hH'.2.2.2.1.to hq,Tq hH'.2.2.2.2 hq⟩ ?_
     clear hK K hH' hq hptc9
     intro hH'
     try simp only [Act.put,nrm]
     refine rd 6 rfl (fun K hK=> ?_)
     rw [if_pos (by rfl)]
     refine wp_store_mid _ _ _ rfl gp 0 (arL 16 (pd)).toArray rfl rfl hptc10.ar.there (size16b _) (all_oneCell_toArray (arL_one 16 (pd))) ?_
     have hptc11:=hptc10.whole (pd)
     dsimp only [List.toList_toArray]
     refine hK.out _ _ ⟨(hH'.1).apart (b:=gp) (by omega) (arL 16 (pd)) 0,(hH'.2.1).apart (b:=gp) (by omega) (arL 16 (pd)) 0,(hH'.2.2.1).apart (b:=gp) (by omega) (arL 16 (pd)) 0,(hH'.2.2.2.1).apart (b:=gp) (by omega) (arL 16 (pd)) 0,(hH'.2.2.2.2).trans (Below.setCells (Below.refl w.heap.size _) (b:=gp) (by omega) (arL 16 (pd)) 0)⟩ ?_
     clear hK K hH' hptc10
     intro hH'
     generalize World.setCells tc10 gp 0 (arL 16 (pd))=tc11 at*
     try simp only [Act.put]
     refine wpAnyH_done (by kernel_rfl) ?_ _
     refine NoPanic.normal ?_
     exact⟨rfl,gp,rfl,hH'.1,hH'.2.1,hH'.2.2.1,hH'.2.2.2.1,hptc11,by omega,hH'.2.2.2.2⟩
   rintro gp x7 ⟨hEx7,hsx7,hox7,hwx7,hpx7,hlgp,hBx7⟩
   clear hEwr hswr howr hwwr hBwr
   obtain⟨k1,k2,k3,k4⟩:=HFB2.out
   go_wp2_with fail
   clear k1 k2 k3 k4
   have hw3:Ob x7 b0 gw (.slice A2 o c2) o (liB o (dtF f s a l N)):=by rw [←HO.out];exact hwx7
   have hon:o≤n:=by have:=HNN.out;have:=HO.out;omega
   try rw [HO.out]
   go_loopw [9,14] (fun v t wr=> ∃(i:Nat) (A2:Option Addr) (c2 gw:Nat),o≤i∧i≤n∧t= .int .i64 i∧v= .slice A2 i c2∧Wb wr gp 16 (pd) 22∧Ob wr b0 gw (.slice A2 i c2) (i) (liB i (dtF f s a l N))∧Below w.heap.size w wr) (fun _ t _=>n-(intOf t).toNat)
   case atStart=>exact⟨o,A2,c2,gw,Nat.le_refl _,hon,rfl,rfl,hpx7,hw3,hBx7⟩
   case round=>
    clear hEx7 hsx7 hox7 hwx7 hpx7 hBx7 hw3 hgw
    obtain⟨i,A4,c4,gw4,hoi,hin,rfl,rfl,hpwr,hwwr,hBwr⟩:=hrel
    by_cases hlt2:i<n
    ·have i2:(i:Int)<(n:Int):=by omega
     obtain⟨b,ob,hA1,hbl⟩:=sl_some HSS.out (by omega)
     subst hA1
     obtain⟨q1,hq1⟩:=Le (i-o)
     have hq16:q1<16:=by have:=HNN.out;have:=HO.out;omega
     have HIF:=Lib.hid (ifacts (i:=i) (o:=o) (q:=q1) (by omega) (by have:=HN.out;omega))
     have HBI:=Lib.hid (HCC.out i (by rw [HO.out];exact hoi))
     rw [HO.out,hq1]at HBI
     have HXX:=Lib.hid (xor_n8 _ _ (lF_lt l i) (hpdb.out q1 hq16))
     have hzb:lF l i^^^pd q1<256:=Nat.xor_lt_two_pow (n:=8) (lF_lt l i) (hpdb.out q1 hq16)
     have HPI:=Lib.hid (fun V (hb:Below w.heap.size w V)=>sl_byte (HSS.out.below hb) i hlt2)
     obtain⟨x,hx⟩: ∃u,lF l i=u:=⟨_,rfl⟩
     rw [hx]at HXX HBI HPI hzb
     obtain⟨z,hz0⟩: ∃u,x^^^pd q1=u:=⟨_,rfl⟩
     rw [hz0]at HXX HBI hzb
     have HCJ:=Lib.hid (show(liB i (dtF f s a l N)).map b8++ [n8 z]=(liB (i+1) (dtF f s a l N)).map b8 by rw [HBI.out,List.map_append,List.map_singleton,b8_ofNat _ hzb];rfl)
     have HQ16:=Lib.hid (show(q1:Int)<16 by omega)
     clear hx hz0 hq1 hzb HBI
     go_upto_region 15 with fail
     refine wp_region_noPanic ?_
     have hwted:=hwwr.drew
     refine wp_region_held_drew (S:=fun W=>Wb W gp 16 (pd) 22∧Below w.heap.size w W) (by kernel_rfl) ⟨hpwr.drew,hBwr.drew⟩ (fun hH'=> ?_)
     clear hpwr hBwr hwwr
     generalize World.drew wr=ted at*
     refine tw 0 ?vte1 rfl ?hyte1 ?restte1
     case hyte1=>
      intro W hSw
      go_simp
      try with_reducible rfl
     simp only [Act.put,nrm]
     refine tw 1 ?vte2 rfl ?hyte2 ?restte2
     case hyte2=>
      intro W hSw
      go_simp
      try with_reducible rfl
     simp only [Act.put,nrm]
     refine tw 2 ?vte3 rfl ?hyte3 ?restte3
     case hyte3=>
      intro W hSw
      go_simp
      try with_reducible rfl
     simp only [Act.put,nrm]
     refine tw 3 ?vte4 rfl ?hyte4 ?restte4
     case hyte4=>
      intro W hSw
      have hpi:=HPI.out W hSw.2
      go_simp
      try with_reducible rfl
     simp only [Act.put,nrm]
     refine tw 4 ?vte5 rfl ?hyte5 ?restte5
     case hyte5=>
      intro W hSw
      have hpi:=HPI.out W hSw.2
      go_simp
      try with_reducible rfl
     simp only [Act.put,nrm]
     refine tw 5 ?vte6 rfl ?hyte6 ?restte6
     case hyte6=>
      intro W hSw
      go_simp
      try with_reducible rfl
     simp only [Act.put,nrm]
     refine tw 6 ?vte7 rfl ?hyte7 ?restte7
     case hyte7=>
      intro W hSw
      go_simp
      try with_reducible rfl
     simp only [Act.put,nrm]
     refine tw 7 ?vte8 rfl ?hyte8 ?restte8
     case hyte8=>
      intro W hSw
      obtain⟨k1,k2,k3,k4⟩:=HFB2.out
      obtain⟨m1,m2,m3,m4⟩:=HIF.out
      go_simp
      try with_reducible rfl
     simp only [Act.put,nrm]
     refine tw 8 ?vte9 rfl ?hyte9 ?restte9
     case hyte9=>
      intro W hSw
      obtain⟨k1,k2,k3,k4⟩:=HFB2.out
      obtain⟨m1,m2,m3,m4⟩:=HIF.out
      go_simp
      try with_reducible rfl
     simp only [Act.put,nrm]
     refine tw 9 ?vte10 rfl ?hyte10 ?restte10
     case hyte10=>
      intro W hSw
      have hq16:=HQ16.out
      obtain⟨m1,m2,m3,m4⟩:=HIF.out
      go_simp
      try with_reducible rfl
     simp only [Act.put,nrm]
     refine tw 10 ?vte11 rfl ?hyte11 ?restte11
     case hyte11=>
      intro W hSw
      have hpc:=((hSw.1).ar q1 (by have:=HQ16.out;omega)).1
      go_simp
      try with_reducible rfl
     simp only [Act.put,nrm]
     refine tw 11 ?vte12 rfl ?hyte12 ?restte12
     case hyte12=>
      intro W hSw
      have hxx:=HXX.out
      go_simp
      try with_reducible rfl
     simp only [Act.put,nrm]
     refine rd 12 rfl (fun K hK=> ?_)
     obtain⟨te13,hyte13⟩:=Lv (ted.alloc (.cells #[n8 z] 5))
     have hq:=Bl hyte13
     have hZ0:te13.cell? ⟨ted.heap.size,0,none⟩=some (n8 z):=by rw [hyte13,World.cell?_alloc_at _ _ _ _ rfl];rfl
     go_simp
     rw [show ted.alloc (.cells #[.int .u8 (z:Nat)] 5)=te13 from hyte13.symm]
     clear hyte13
     obtain⟨gz,hgz⟩:=Le (ted.heap.size)
     rw [hgz]at hZ0
     try rw [hgz]
     have hwte13:=hwted.to hq
     refine hK.out _ _ ⟨wb_to (hH'.1) (by omega) hq,Tq hH'.2 hq⟩ ?_
     clear hK K hH' hq hgz hwted
     intro hH'
     try simp only [Act.put,nrm]
     refine rd 13 rfl (fun K hK=> ?_)
     have hbl:=(hwte13).2.1
     have hsz:=(hwte13).1
     have hbs:b0≤te13.heap.size:=by omega
     rw [if_pos (by rfl)]
     refine wp_append_own _ _ _ 25 rfl b0 5 i0 (.int .u8 0) 1 1 Tryz.underlying25 HI0.out HZ0.out HZ1.out HZ2.out (by decide) (by decide) _ _ _ rfl (hwte13).2.2.2 ⟨gz,0,none⟩ 1 1 ([n8 z]) rfl (by simp [arL_len]) (fun j u hu=>by cases j with|zero=>(simp at hu;subst hu;exact hZ0)|succ j=>simp at hu) (by first|exact arL_one 16 _|(intro u hu;simp at hu;subst hu;rfl)) (by have e1:=HN.out;have e2:=hin;unfold maxLen;omega) (by have e1:=HN.out;have e2:=hin;omega) hbs ?_
     intro v8 te14 hown8 hgrow8 _
     have k8:Below b0 te13 te14:=(Below.refl _ _).grown hgrow8 hbs (fun g hg=>own_block (hwte13).2.2.2 hg)
     obtain⟨A5,c5,rfl⟩:=own_shape hown8
     have hO8:Ow8 te14 b0 (.slice A5 (i+1) c5) (i+1) (liB (i+1) (dtF f s a l N)):=by unfold Ow8;rw [←HCJ.out];exact hown8
     have hsz8:=k8.size
     obtain⟨g5,hg5⟩: ∃g,te14.heap.size-1=g:=⟨_,rfl⟩
     have hwte14:Ob te14 b0 g5 (.slice A5 (i+1) c5) (i+1) (liB (i+1) (dtF f s a l N)):=by rw [←hg5];exact Ob.new hO8 (by omega) (by omega)
     have hltg5:b0≤g5+1:=hwte14.2.1
     refine hK.out _ _ ⟨wb_grown (hH'.1) (by omega) hgrow8 (wb_ne (hH'.1) hwte13.2.2.2),(hH'.2).trans (k8.mono (by omega))⟩ ?_
     clear hK K hH' hown8 hgrow8 k8 hO8 hsz8 hg5 hbl hsz hbs hwte13
     intro hH'
     try simp only [Act.put,nrm]
     refine tw 14 ?vte15 rfl ?hyte15 ?restte15
     case hyte15=>
      intro W hSw
      go_simp
      try with_reducible rfl
     simp only [Act.put,nrm]
     refine wpAnyH_done (by kernel_rfl) ?_ _
     have hpz2:=hH'.1
     have hBz2:=hH'.2
     have hwz2:=hwte14
     clear hH' hwte14
     refine NoPanic.normal ?_
     try dsimp only [Act.put]
     have e1:=HN.out
     clear HIF HQ16 HXX HCJ HPI
     go_wp2_with fail
     go_roundw
     case rel=>exact⟨i+1,A5,c5,g5,by omega,by omega,by go_num,rfl,hpz2,hwz2,hBz2⟩
     case measure=>simp [intOf];omega
    ·obtain rfl:n=i:=by omega
     have i2: ¬(n:Int)<(n:Int):=by omega
     go_wp2_with fail
     go_ret
     exact⟨A4,c4,rfl,by rw [←dt_eq HLEN.out HNN.out];exact own_more hwwr.2.2.2 hlwb,hBwr⟩
end Go.Proofs.YtiacbphnclgikaaGreatDoor
