/-
 Contract of Crypt of the reference package of layer 12, by a walk through its text; what was there stays as it was.
-/
import Derived.Test.YtiacbphnclgikaaGreatDoorSqz
import Derived.Test.YtiacbphnclgikaaGreatDoorSea
import Derived.Test.YtiacbphnclgikaaGreatDoorGof
import Derived.Test.YtiacbphnclgikaaGreatDoorGtb
import Derived.Deep.RegionHeld3
namespace Go.Proofs.YtiacbphnclgikaaGreatDoor
open Go.RowKit
set_option linter.unusedVariables false
set_option maxRecDepth 100000
set_option linter.unusedSimpArgs false
theorem ifacts {i o q:Nat} (h:i=o+q) (hi:i<1000000):wrap64 ((i:Int)-(o:Int))=(q:Int)∧IntKind.i64.wrap ((i:Int)-(o:Int))=(q:Int)∧(i:Int)-(o:Int)=(q:Int)∧IntKind.i64.wrap (q:Int)=(q:Int):=by
 subst h
 refine⟨?_,?_,by omega,wraps_i64' _ (by omega) (by omega)⟩
 ·rw [IntWalk.wrap64_in _ (by omega)];omega
 ·rw [wraps_i64' _ (by omega) (by omega)];omega
theorem sl_byte {w:World} {B n b o:Nat} {l:List UInt8} (h:Sl w B (some ⟨b,o,none⟩) n l) (i:Nat) (hi:i<n):w.cell? ⟨b,o+i,none⟩=some (.int .u8 (lF l i:Nat)):=by
 obtain⟨b2,o2,e,_,hc⟩:=h.2 (by omega)
 injection e with e
 injection e with e1 e2
 subst e1 e2
 have hl:=h.len
 rw [hc i l[i] (List.getElem?_eq_getElem (by omega))]
 simp [b8,lF,List.getD,List.getElem?_eq_getElem (show i<l.length by omega)]
theorem sfacts12 {n N o:Nat} (hn:n≤1000000) (hN:n/16=N) (ho:16*N=o):wrap64 (16*(N:Int))=(o:Int)∧IntKind.i64.wrap (16*(N:Int))=(o:Int)∧16*(N:Int)=(o:Int)∧IntKind.i64.wrap (o:Int)=(o:Int):=rfacts2 hn hN ho
set_option maxHeartbeats 8000000 in
theorem rcrypt (f q s a:Nat→Nat) (A:Option Addr) (n c:Nat) (l:List UInt8) (w:World) (hf:B16 f) (hq0:B12 q) (hs:enF f zF=s) (ha:o0F (enF f (nbF q)) (q 11)=a) (hS:Sl w w.heap.size A n l) (hnc:n≤c) (hn:n≤1000000):
  Calls Tryz.prog 60 #[.agg (arL 432 (pkF (ek f) sb)).toArray,.agg (arL 12 q).toArray,.slice A n c] w fun e w'=> ∃(A2:Option Addr) (c2:Nat),e= .returned (.agg (rsL (.slice A2 n c2) (csF l) (ofF s a n)).toArray)∧Ow8 w' w.heap.size (.slice A2 n c2) n (ctL f s a l)∧Below w.heap.size w w':=by
 have hz:=zero16b
 have hzR:=zeroR
 obtain⟨dK,hfs,hrow⟩:=Tryz.structK
 have HS:=Lib.hid hfs
 have HW:=Lib.hid hrow
 clear hfs hrow
 obtain⟨dR,hfs,hrow⟩:=Tryz.structR
 have HSR:=Lib.hid hfs
 have HWR:=Lib.hid hrow
 clear hfs hrow
 have hlen:=hS.len
 have HLEN:=Lib.hid hlen
 have HFB:=Lib.hid hf
 have HQB:=Lib.hid hq0
 have HSS:=Lib.hid hS
 have HSL:=Lib.hid (show B16 s by rw [←hs];exact enR_lt hf zF_lt 10)
 have HAL:=Lib.hid (show B16 a by rw [←ha];exact o0F_lt (enR_lt hf (nbF_lt hq0) 10) _)
 have hst:=Lib.hid (fun V=>refstar f V hf zF_lt)
 rw [hs]at hst
 have hra:=Lib.hid (fun V=>rstart f q V hf hq0)
 rw [ha]at hra
 obtain⟨N,hN⟩:=Le (n/16)
 obtain⟨o,ho⟩:=Le (16*N)
 obtain⟨r,hr⟩:=Le (n%16)
 have HFA:=Lib.hid (hfacts hn hN ho)
 have HFB2:=Lib.hid (rfacts2 hn hN ho)
 have HFR:=Lib.hid (rfacts3 hr)
 have HRR:=Lib.hid hr
 have HNN:=Lib.hid hN
 have HO:=Lib.hid ho
 obtain⟨A9,hsl,hsl3⟩:=slice_from A n c o (by omega) hnc
 have HSLI:=Lib.hid hsl
 have HSL2:=Lib.hid hsl3
 have HN6:=Lib.hid (show N≤62500 by omega)
 have HN:=Lib.hid hn
 have HNC:=Lib.hid hnc
 have HPB:=Lib.hid (fun k (j:Nat) (_:j<16)=>pt_lt l k j)
 obtain⟨i0,hi0,hz0,hz1,hz2⟩:=info_parts info8x
 have HI0:=Lib.hid hi0
 have HZ0:=Lib.hid hz0
 have HZ1:=Lib.hid hz1
 have HZ2:=Lib.hid hz2
 clear hi0 hz0 hz1 hz2 hf hq0 hS hn hs ha hN ho hr hsl hsl3 hlen hnc
 obtain⟨kE,hkE⟩:=Le ((arL 432 (pkF (ek f) sb)).toArray)
 obtain⟨kQ,hkQ⟩:=Le ((arL 12 q).toArray)
 obtain⟨w1,hw1⟩:=Lv (w.alloc (.cells (arL 432 (pkF (ek f) sb)).toArray 48))
 have hs1:=Zs1 hw1
 have hBw1:=Bl hw1
 have hEw1:Ar w1 w.heap.size 432 (pkF (ek f) sb):=by rw [hw1];exact Ar.new w 432 _ _
 obtain⟨w2,hw2⟩:=Lv (w1.alloc (.cells (arL 12 q).toArray 77))
 have hs2:=Zs2 hw2 hs1
 have hBw2:=Bm hw2 hBw1
 have hEw2:=ara hw2 hEw1
 have hQw2:Ar w2 (w.heap.size+1) 12 q:=by rw [hw2,←hs1];exact Ar.new w1 12 _ _
 obtain⟨w3,hw3⟩:=Lv (w2.alloc (.cells (rsL (.slice none 0 0) (fun _=>0) (fun _=>0)).toArray 109))
 have hs3:=Zs3 hw3 hs2
 have hBw3:=Bm hw3 hBw2
 have hEw3:=ara hw3 hEw2
 have hQw3:=ara hw3 hQw2
 obtain⟨rz,hrz⟩: ∃c:Nat→Value,(fun j=>(rsL (.slice none 0 0) (fun _=>0) (fun _=>0)).getD j undef)=c:=⟨_,rfl⟩
 have hRw3:Cx w3 (w.heap.size+2) 33 rz:=by rw [hw3,←hs2,rsL_cx,hrz];exact Cx.new w2 33 _ _
 clear hEw1 hBw1 hEw2 hQw2 hBw2 hrz
 rw [hkE]at hw1
 rw [hkQ]at hw2
 rw [hkE,hkQ]
 clear hkE hkQ
 go_enter Tryz.func60,Tryz.ntmps60
 go_upto_region 1 with fail
 rw [←hw1,←hw2,←hw3]
 clear hw1 hw2 hw3
 try simp only [Nat.add_assoc,Nat.reduceAdd]
 obtain⟨gQ,hgQ⟩:=Le (w.heap.size+1)
 obtain⟨gR,hgR⟩:=Le (w.heap.size+2)
 rw [hgQ]at hQw3
 rw [hgR]at hRw3
 try rw [hgR]
 try rw [hgQ]
 have hlQ:w.heap.size<gQ:=by omega
 have hlR:gQ<gR:=by omega
 clear hs1 hs2 hs3 hgQ hgR
 go_wp2_with (refine wpList_load_mid rfl _ _ rfl w.heap.size 0 rfl (arL 432 (pkF (ek f) sb)) _ hEw3.range HS.out HW.out (sizeK _) ?_)
 refine(hst.out _).mono ?_
 rintro e x1 ⟨rfl,hq⟩
 have hEx1:=hEw3.t hq
 have hQx1:=hQw3.t hq
 have hRx1:=hRw3.t hq
 have hBx1:=Tq hBw3 hq
 clear hq hEw3 hQw3 hRw3 hBw3
 obtain⟨gs,hgs⟩:=Le (x1.heap.size)
 have hlw_heap_sizegs:w.heap.size<gs:=by rw [←hgs];exact hEx1.lt (by omega)
 have hlgQgs:gQ<gs:=by rw [←hgs];exact hQx1.lt (by omega)
 have hlgRgs:gR<gs:=by rw [←hgs];exact hRx1.lt (by omega)
 have hlwgs:w.heap.size≤gs:=by rw [←hgs];exact hBx1.size
 have hq:=Ba x1 (.cells (arL 16 fun _=>0).toArray 22)
 have hEx2a:=hEx1.t hq
 have hQx2a:=hQx1.t hq
 have hRx2a:=hRx1.t hq
 have hsx2a:=Ar.new x1 16 (fun _=>0) 22
 have hBx2a:=hBx1.alloc hBx1.size (.cells (arL 16 fun _=>0).toArray 22)
 rw [hgs]at hsx2a
 clear hq hEx1 hQx1 hRx1 hBx1
 go_upto_region 2 with (first|(refine wpList_store_ar rfl _ _ _ rfl _ _ _ (s) rfl rfl hsx2a (size16b _) ?_;intro x2 hsx2 belx2 sizx2 keex2)|fail)
 have hEx2:=(hEx2a).keep hlw_heap_sizegs belx2
 have hQx2:=(hQx2a).keep hlgQgs belx2
 have hRx2:=(hRx2a).keep hlgRgs belx2
 have hBx2:=hBx2a.trans (belx2.mono hlwgs)
 clear hEx2a hQx2a hRx2a hsx2a hBx2a belx2 sizx2 keex2 hgs
 try dsimp only [Act.put]
 go_wp2_with (first|(refine wpList_load_mid rfl _ _ rfl w.heap.size 0 rfl (arL 432 (pkF (ek f) sb)) _ hEx2.range HS.out HW.out (sizeK _) ?_)|(refine wpList_load_ar rfl _ _ rfl _ _ _ rfl hQx2 Tryz.arr12 (size12 _) ?_))
 refine(hra.out _).mono ?_
 rintro e x3 ⟨rfl,hq⟩
 have hEx3:=hEx2.t hq
 have hQx3:=hQx2.t hq
 have hRx3:=hRx2.t hq
 have hsx3:=hsx2.t hq
 have hBx3:=Tq hBx2 hq
 clear hq hEx2 hQx2 hRx2 hsx2 hBx2
 obtain⟨v1,hv1⟩:=Lv (x3.alloc (.cells (rsL (.slice none 0 0) (fun _=>0) (fun _=>0)).toArray 109))
 have hq:=Bl hv1
 have hsv:=Zs1 hv1
 have hEv1:=hEx3.t hq
 have hQv1:=hQx3.t hq
 have hRv1:=hRx3.t hq
 have hsv1:=hsx3.t hq
 have hBv1:=Tq hBx3 hq
 have hrv1:Cx v1 x3.heap.size 33 (fun j=>(rsL (.slice none 0 0) (fun _=>0) (fun _=>0)).getD j undef):=by rw [hv1,rsL_cx];exact Cx.new x3 33 _ _
 have hlr:gs<x3.heap.size:=hsx3.lt (by omega)
 have hlw:w.heap.size≤x3.heap.size:=hBx3.size
 have hbr:=Lib.hid (run_res a)
 clear hq hEx3 hQx3 hRx3 hsx3 hBx3
 go_upto_region 3 with (first|(refine wpList_build_by rfl _ _ rfl [(2,.agg (arL 16 a).toArray)] rfl _ (hbr.out _) ?_)|(refine wpList_store_cx rfl _ _ _ rfl _ 33 0 _ (rsL (.slice none 0 0) (fun _=>0) a) rfl rfl (by rw [←hv1];exact hrv1) (by rw [rsL_len];decide) (sizeR _ _ _) (rsL_one rfl _ _) ?_;intro y1 hy1 bel1 siz1 kee1)|fail)
 rw [←hv1]at bel1 siz1
 obtain⟨hvy1,hcy1,hoy1⟩:=rs_put hy1
 obtain⟨gr,hgr⟩:=Le (x3.heap.size)
 try rw [hgr]
 rw [hgr]at hlr hlw bel1 hvy1 hcy1 hoy1
 have hEy1:=hEv1.keep (by omega) bel1
 have hQy1:=hQv1.keep (by omega) bel1
 have hRy1:=hRv1.keep (by omega) bel1
 have hsy1:=hsv1.keep (by omega) bel1
 have hBy1:=hBv1.trans (bel1.mono hlw)
 have hsy1:y1.heap.size=gr+1:=by rw [siz1,hsv,hgr]
 obtain⟨b0,hb0⟩:=Le (gr+1)
 have hlb:gr<b0:=by omega
 have hwy1:Ob y1 b0 gr (.slice none 0 0) 0 (liB 0 (ctF f s a l N)):=⟨by omega,by omega,fun k hk=>by simp [Value.ownBlock]at hk,World.ownsRow_nil _ _ _ _⟩
 clear hy1 bel1 siz1 kee1 hsv hgr hv1 hrv1 hbr hb0 hsy1 hEv1 hQv1 hRv1 hsv1 hBv1
 try dsimp only [Act.put]
 clear hQy1
 obtain⟨j1,j2,j3⟩:=HFA.out
 clear j3
 have hN6:=HN6.out
 go_wp2_with fail
 clear j1 j2
 have ho0:=hoy1.ext (d:=atF a s 0) (fun j _=>by rw [atF_zero])
 clear hoy1
 have hoy1:=ho0
 clear ho0
 go_loopw [10] (fun i wr=> ∃(k:Nat) (A2:Option Addr) (c2 gw:Nat),k≤N∧i= .int .i64 k∧gr≤gw∧Ar wr w.heap.size 432 (pkF (ek f) sb)∧Cx wr gR 33 (rz)∧Ar wr gs 16 (s)∧Ce wr gr (.slice A2 (16*k) c2)∧Po wr gr 1 16 (ckF (pt l) k)∧Po wr gr 17 16 (atF a s k)∧Ob wr b0 gw (.slice A2 (16*k) c2) (16*k) (liB (16*k) (ctF f s a l N))∧Below w.heap.size w wr) (fun i _=>N-(intOf i).toNat)
 case atStart=>exact⟨0,none,0,gr,Nat.zero_le _,rfl,Nat.le_refl _,hEy1,hRy1,hsy1,hvy1,hcy1,hoy1,hwy1,hBy1⟩
 case round=>
  clear hEy1 hRy1 hsy1 hvy1 hcy1 hoy1 hwy1 hBy1
  obtain⟨k,A2,c2,gw,hk,rfl,hgw,hEwr,hRwr,hswr,hvwr,hcwr,howr,hwwr,hBwr⟩:=hrel
  by_cases hlt:k<N
  ·have i1:(k:Int)<(N:Int):=by omega
   have HK6:=Lib.hid (show 16*k+16≤n by have:=HNN.out;omega)
   obtain⟨b,ob,hA1,hbl⟩:=sl_some HSS.out (Nat.lt_of_lt_of_le (Nat.succ_pos _) HK6.out)
   subst hA1
   obtain⟨q1,hq1⟩:=Le (k+1)
   have HQF:=Lib.hid (rfacts hq1 (by omega))
   have hcb:=Lib.hid (ckF_lt HPB.out k)
   have hob:=Lib.hid (atF_lt HAL.out HSL.out k)
   have HST:=Lib.hid (atF_step a s k)
   have hfor:=Lib.hid (fun V=>reffor s (k+1) V HSL.out (by omega))
   have HCT:=Lib.hid (show(liB (16*k) (ctF f s a l N)).map b8++arL 16 (cpF f (pt l k) (atF a s (k+1)))=(liB (16*(k+1)) (ctF f s a l N)).map b8 by rw [ct_part l N k hlt,List.map_append,liB_b8 16 _ (cpF_lt HFB.out (HPB.out k) (atF_lt HAL.out HSL.out _))])
   obtain⟨ck,hck⟩: ∃u,ckF (pt l) k=u:=⟨_,rfl⟩
   obtain⟨ok,hok⟩: ∃u,atF a s k=u:=⟨_,rfl⟩
   rw [hck]at hcb
   rw [hok]at hob HST
   rw [hq1]at HST hfor
   have hdb:=Lib.hid (dk_lt HSL.out (zer q1+2))
   obtain⟨d,hd⟩: ∃d,dk s (zer q1+2)=d:=⟨_,rfl⟩
   rw [hd]at HST hfor hdb
   have ho1b:=Lib.hid (adF_lt hob.out hdb.out)
   obtain⟨o1,ho1⟩: ∃o1,atF a s q1=o1:=⟨_,rfl⟩
   rw [HST.out,ho1]at ho1b
   rw [ho1]at HST
   have hpb:=Lib.hid (HPB.out k)
   have HCT2:=Lib.hid (show(liB (16*k) (ctF f s a l N)).map b8++arL 16 (cpF f (pt l k) o1)=(liB (16*(k+1)) (ctF f s a l N)).map b8 by rw [←ho1,←hq1];exact HCT.out)
   clear HCT
   obtain⟨P,hP⟩: ∃P,pt l k=P:=⟨_,rfl⟩
   have HPC:=Lib.hid (fun V hb=>pt_cell3 ((HSS.out.below (w':=V) hb)) k HK6.out)
   rw [hP]at hpb HPC HCT2
   have hxb:=Lib.hid (adF_lt hpb.out ho1b.out)
   have heb:=Lib.hid (show B16 (enF f (adF P o1))from enR_lt HFB.out hxb.out 10)
   obtain⟨cp,hcp⟩: ∃u,cpF f P o1=u:=⟨_,rfl⟩
   have HCP:=Lib.hid (show adF (enF f (adF P o1)) o1=cp from hcp)
   rw [hcp]at HCT2
   have HCK:=Lib.hid (show adF (ckF (pt l) k) (pt l k)=ckF (pt l) (k+1)from rfl)
   rw [hck,hP]at HCK
   have HQ1:=Lib.hid hq1
   have HO1:=Lib.hid ho1
   have HPK:=Lib.hid hP
   rw [hck]at hcwr
   rw [hok]at howr
   clear hck hok hd hP hq1 ho1 hN6 hcp
   have hpt:=Lib.hid (refpart3 b ob n c k P wr HK6.out HNC.out HN.out (HPC.out _ hBwr) (Nat.lt_of_lt_of_le hbl hBwr.size))
   go_wp2_with fail
   refine(hpt.out).mono ?_
   rintro e x4 ⟨rfl,hq⟩
   have hEx4:=hEwr.t hq
   have hRx4:=hRwr.t hq
   have hsx4:=hswr.t hq
   have hvx4:=hvwr.to hq
   have hcx4:=hcwr.t hq
   have hox4:=howr.t hq
   have hwx4:=hwwr.to hq
   have hBx4:=Tq hBwr hq
   clear hq hEwr hRwr hswr hvwr hcwr howr hwwr hBwr
   clear hpt
   obtain⟨gx,hgx⟩:=Le (x4.heap.size)
   have hlw_heap_sizegx:w.heap.size<gx:=by rw [←hgx];exact hEx4.lt (by omega)
   have hlgRgx:gR<gx:=by rw [←hgx];exact hRx4.lt (by omega)
   have hlgsgx:gs<gx:=by rw [←hgx];exact hsx4.lt (by omega)
   have hlgrgx:gr<gx:=by rw [←hgx];exact hvx4.lt
   have hlgrgx:gr<gx:=by rw [←hgx];exact hcx4.lt (by omega)
   have hlgrgx:gr<gx:=by rw [←hgx];exact hox4.lt (by omega)
   have hlgwgx:gw<gx:=by rw [←hgx];exact hwx4.lt
   have hlwgx:w.heap.size≤gx:=by rw [←hgx];exact hBx4.size
   have hq:=Ba x4 (.cells (arL 16 fun _=>0).toArray 22)
   have hEx5a:=hEx4.t hq
   have hRx5a:=hRx4.t hq
   have hsx5a:=hsx4.t hq
   have hvx5a:=hvx4.to hq
   have hcx5a:=hcx4.t hq
   have hox5a:=hox4.t hq
   have hwx5a:=hwx4.to hq
   have hxx5a:=Ar.new x4 16 (fun _=>0) 22
   have hBx5a:=hBx4.alloc hBx4.size (.cells (arL 16 fun _=>0).toArray 22)
   rw [hgx]at hxx5a
   clear hq hEx4 hRx4 hsx4 hvx4 hcx4 hox4 hwx4 hBx4
   go_upto_region 8 with (first|(refine wpList_store_ar rfl _ _ _ rfl _ _ _ (P) rfl rfl hxx5a (size16b _) ?_;intro x5 hxx5 belx5 sizx5 keex5)|fail)
   have hEx5:=(hEx5a).keep hlw_heap_sizegx belx5
   have hRx5:=(hRx5a).keep hlgRgx belx5
   have hsx5:=(hsx5a).keep hlgsgx belx5
   have hvx5:=(hvx5a).keep hlgrgx belx5
   have hcx5:=(hcx5a).keep hlgrgx belx5
   have hox5:=(hox5a).keep hlgrgx belx5
   have hwx5:=(hwx5a).keep hlgwgx belx5
   have hBx5:=hBx5a.trans (belx5.mono hlwgx)
   clear hEx5a hRx5a hsx5a hvx5a hcx5a hox5a hwx5a hxx5a hBx5a belx5 sizx5 keex5 hgx
   try dsimp only [Act.put]
   apply wp_region_via (F:=fun W=>Ar W w.heap.size 432 (pkF (ek f) sb)∧Cx W gR 33 (rz)∧Ar W gs 16 (s)∧Ce W gr (.slice A2 (16*k) c2)∧Po W gr 1 16 (ck)∧Ob W b0 gw (.slice A2 (16*k) c2) (16*k) (liB (16*k) (ctF f s a l N))∧Ar W gx 16 (P)∧Po W gr 17 16 (o1)∧Below w.heap.size w W)
   case h1=>
    refine wp_region_noPanic ?_
    have hotad:=hox5.drew
    refine wp_region_held_drew (S:=fun W=>Ar W w.heap.size 432 (pkF (ek f) sb)∧Cx W gR 33 (rz)∧Ar W gs 16 (s)∧Ce W gr (.slice A2 (16*k) c2)∧Po W gr 1 16 (ck)∧Ob W b0 gw (.slice A2 (16*k) c2) (16*k) (liB (16*k) (ctF f s a l N))∧Ar W gx 16 (P)∧Below w.heap.size w W) (by kernel_rfl) ⟨hEx5.drew,hRx5.drew,hsx5.drew,hvx5.drew,hcx5.drew,hwx5.drew,hxx5.drew,hBx5.drew⟩ (fun hH'=> ?_)
    generalize World.drew x5=tad at*
    refine tw 0 ?vta1 rfl ?hyta1 ?restta1
    case hyta1=>
     intro W hSw
     go_simp
     try with_reducible rfl
    simp only [Act.put,nrm]
    refine tk 2 (.agg (arL 16 (s)).toArray) rfl (yieldsIf_load_mid (by rfl) _ _ rfl gs (0) rfl (arL 16 (s)) _ (fun W hSw=>hSw.2.2.1.range) Tryz.arr16b rfl (size16b _)) ?_
    simp only [Act.put,nrm]
    refine tw 3 ?vta2 rfl ?hyta2 ?restta2
    case hyta2=>
     intro W hSw
     go_simp
     try with_reducible rfl
    simp only [Act.put,nrm]
    refine tw 4 ?vta3 rfl ?hyta3 ?restta3
    case hyta3=>
     intro W hSw
     obtain⟨j1,j2,j3,j4,j5,j6⟩:=HQF.out
     go_simp
     try with_reducible rfl
    simp only [Act.put,nrm]
    refine tw 5 ?vta4 rfl ?hyta4 ?restta4
    case hyta4=>
     intro W hSw
     obtain⟨j1,j2,j3,j4,j5,j6⟩:=HQF.out
     go_simp
     try with_reducible rfl
    simp only [Act.put,nrm]
    refine rd2 1 6 rfl rfl (fun K hK=> ?_) (fun K hK=> ?_)
    ·rw [if_pos (by rfl)]
     refine wp_load_mid _ _ rfl gr 17 rfl (arL 16 (ok)) _ hotad.range Tryz.arr16b rfl (size16b _) ?_
     refine hK.out _ _ hH' ?_
     clear hK K hH'
     intro hH'
     try simp only [Act.put,nrm]
     refine rd 6 rfl (fun K hK=> ?_)
     go_simp
     refine(hfor.out _).mono ?_
     rintro e ta5 ⟨rfl,hq⟩
     go_wp2_with fail
     have hota5:=hotad.t hq
     refine hK.out _ _ ⟨hH'.1.t hq,hH'.2.1.t hq,hH'.2.2.1.t hq,hH'.2.2.2.1.to hq,hH'.2.2.2.2.1.t hq,hH'.2.2.2.2.2.1.to hq,hH'.2.2.2.2.2.2.1.t hq,Tq hH'.2.2.2.2.2.2.2 hq⟩ ?_
     clear hK K hH' hq hotad
     intro hH'
     try simp only [Act.put,nrm]
     refine rd 7 rfl (fun K hK=> ?_)
     go_simp
     refine(refxor8 ok d _ hob.out hdb.out).mono ?_
     rintro e ta6 ⟨rfl,hq⟩
     rw [HST.out]
     go_wp2_with fail
     have hota6:=hota5.t hq
     refine hK.out _ _ ⟨hH'.1.t hq,hH'.2.1.t hq,hH'.2.2.1.t hq,hH'.2.2.2.1.to hq,hH'.2.2.2.2.1.t hq,hH'.2.2.2.2.2.1.to hq,hH'.2.2.2.2.2.2.1.t hq,Tq hH'.2.2.2.2.2.2.2 hq⟩ ?_
     clear hK K hH' hq hota5
     intro hH'
     try simp only [Act.put,nrm]
     refine tw 8 ?vta7 rfl ?hyta7 ?restta7
     case hyta7=>
      intro W hSw
      go_simp
      try with_reducible rfl
     simp only [Act.put,nrm]
     refine rd 9 rfl (fun K hK=> ?_)
     rw [if_pos (by rfl)]
     refine wp_store_mid _ _ _ rfl gr 17 (arL 16 (o1)).toArray rfl rfl (hota6.there (o1)) (size16b _) (all_oneCell_toArray (arL_one 16 (o1))) ?_
     have hota8:=hota6.put (o1)
     dsimp only [List.toList_toArray]
     refine hK.out _ _ ⟨(hH'.1).apart (b:=gr) (by omega) (arL 16 (o1)) 17,(hH'.2.1).apart (b:=gr) (by omega) (arL 16 (o1)) 17,(hH'.2.2.1).apart (b:=gr) (by omega) (arL 16 (o1)) 17,(hH'.2.2.2.1).off (b:=gr) (arL 16 (o1)) 17 (.inr (by omega)),(hH'.2.2.2.2.1).off (b:=gr) (arL 16 (o1)) 17 (.inr (.inl (by omega))),(hH'.2.2.2.2.2.1).old (by omega) (arL 16 (o1)) 17,(hH'.2.2.2.2.2.2.1).apart (b:=gr) (by omega) (arL 16 (o1)) 17,(hH'.2.2.2.2.2.2.2).trans (Below.setCells (Below.refl w.heap.size _) (b:=gr) (by omega) (arL 16 (o1)) 17)⟩ ?_
     clear hK K hH' hota6
     intro hH'
     generalize World.setCells ta6 gr 17 (arL 16 (o1))=ta8 at*
     try simp only [Act.put]
     refine wpAnyH_done (by kernel_rfl) ?_ _
     refine NoPanic.normal ?_
     exact⟨rfl,rfl,hH'.1,hH'.2.1,hH'.2.2.1,hH'.2.2.2.1,hH'.2.2.2.2.1,hH'.2.2.2.2.2.1,hH'.2.2.2.2.2.2.1,hota8,hH'.2.2.2.2.2.2.2⟩
    ·go_simp
     refine(hfor.out _).mono ?_
     rintro e ta9 ⟨rfl,hq⟩
     go_wp2_with fail
     have hota9:=hotad.t hq
     refine hK.out _ _ ⟨hH'.1.t hq,hH'.2.1.t hq,hH'.2.2.1.t hq,hH'.2.2.2.1.to hq,hH'.2.2.2.2.1.t hq,hH'.2.2.2.2.2.1.to hq,hH'.2.2.2.2.2.2.1.t hq,Tq hH'.2.2.2.2.2.2.2 hq⟩ ?_
     clear hK K hH' hq hotad
     intro hH'
     try simp only [Act.put,nrm]
     refine rd 1 rfl (fun K hK=> ?_)
     rw [if_pos (by rfl)]
     refine wp_load_mid _ _ rfl gr 17 rfl (arL 16 (ok)) _ hota9.range Tryz.arr16b rfl (size16b _) ?_
     refine hK.out _ _ hH' ?_
     clear hK K hH'
     intro hH'
     try simp only [Act.put,nrm]
     refine rd 7 rfl (fun K hK=> ?_)
     go_simp
     refine(refxor8 ok d _ hob.out hdb.out).mono ?_
     rintro e ta10 ⟨rfl,hq⟩
     rw [HST.out]
     go_wp2_with fail
     have hota10:=hota9.t hq
     refine hK.out _ _ ⟨hH'.1.t hq,hH'.2.1.t hq,hH'.2.2.1.t hq,hH'.2.2.2.1.to hq,hH'.2.2.2.2.1.t hq,hH'.2.2.2.2.2.1.to hq,hH'.2.2.2.2.2.2.1.t hq,Tq hH'.2.2.2.2.2.2.2 hq⟩ ?_
     clear hK K hH' hq hota9
     intro hH'
     try simp only [Act.put,nrm]
     refine tw 8 ?vta11 rfl ?hyta11 ?restta11
     case hyta11=>
      intro W hSw
      go_simp
      try with_reducible rfl
     simp only [Act.put,nrm]
     refine rd 9 rfl (fun K hK=> ?_)
     rw [if_pos (by rfl)]
     refine wp_store_mid _ _ _ rfl gr 17 (arL 16 (o1)).toArray rfl rfl (hota10.there (o1)) (size16b _) (all_oneCell_toArray (arL_one 16 (o1))) ?_
     have hota12:=hota10.put (o1)
     dsimp only [List.toList_toArray]
     refine hK.out _ _ ⟨(hH'.1).apart (b:=gr) (by omega) (arL 16 (o1)) 17,(hH'.2.1).apart (b:=gr) (by omega) (arL 16 (o1)) 17,(hH'.2.2.1).apart (b:=gr) (by omega) (arL 16 (o1)) 17,(hH'.2.2.2.1).off (b:=gr) (arL 16 (o1)) 17 (.inr (by omega)),(hH'.2.2.2.2.1).off (b:=gr) (arL 16 (o1)) 17 (.inr (.inl (by omega))),(hH'.2.2.2.2.2.1).old (by omega) (arL 16 (o1)) 17,(hH'.2.2.2.2.2.2.1).apart (b:=gr) (by omega) (arL 16 (o1)) 17,(hH'.2.2.2.2.2.2.2).trans (Below.setCells (Below.refl w.heap.size _) (b:=gr) (by omega) (arL 16 (o1)) 17)⟩ ?_
     clear hK K hH' hota10
     intro hH'
     generalize World.setCells ta10 gr 17 (arL 16 (o1))=ta12 at*
     try simp only [Act.put]
     refine wpAnyH_done (by kernel_rfl) ?_ _
     refine NoPanic.normal ?_
     exact⟨rfl,rfl,hH'.1,hH'.2.1,hH'.2.2.1,hH'.2.2.2.1,hH'.2.2.2.2.1,hH'.2.2.2.2.2.1,hH'.2.2.2.2.2.2.1,hota12,hH'.2.2.2.2.2.2.2⟩
   rintro x6 ⟨hEx6,hRx6,hsx6,hvx6,hcx6,hwx6,hxx6,hox6,hBx6⟩
   clear hEx5 hRx5 hsx5 hvx5 hcx5 hwx5 hxx5 hox5 hBx5
   go_upto_region 9 with fail
   apply wp_region_viaG (F:=fun gy W=>Ar W w.heap.size 432 (pkF (ek f) sb)∧Cx W gR 33 (rz)∧Ar W gs 16 (s)∧Ce W gr (.slice A2 (16*k) c2)∧Po W gr 1 16 (ck)∧Ob W b0 gw (.slice A2 (16*k) c2) (16*k) (liB (16*k) (ctF f s a l N))∧Ar W gx 16 (P)∧Po W gr 17 16 (o1)∧Ar W gy 16 (cp)∧gx<gy∧Below w.heap.size w W)
   case h1=>
    refine wp_region_noPanic ?_
    refine wp_region_held_drew (S:=fun W=>Ar W w.heap.size 432 (pkF (ek f) sb)∧Cx W gR 33 (rz)∧Ar W gs 16 (s)∧Ce W gr (.slice A2 (16*k) c2)∧Po W gr 1 16 (ck)∧Ob W b0 gw (.slice A2 (16*k) c2) (16*k) (liB (16*k) (ctF f s a l N))∧Ar W gx 16 (P)∧Po W gr 17 16 (o1)∧Below w.heap.size w W) (by kernel_rfl) ⟨hEx6.drew,hRx6.drew,hsx6.drew,hvx6.drew,hcx6.drew,hwx6.drew,hxx6.drew,hox6.drew,hBx6.drew⟩ (fun hH'=> ?_)
    generalize World.drew x6=tbd at*
    refine tk 0 (.agg (arL 432 (pkF (ek f) sb)).toArray) rfl (yieldsIf_load_mid (by rfl) _ _ rfl w.heap.size (0) rfl (arL 432 (pkF (ek f) sb)) _ (fun W hSw=>hSw.1.range) HS.out HW.out (sizeK _)) ?_
    simp only [Act.put,nrm]
    refine tk 1 (.agg (arL 16 (P)).toArray) rfl (yieldsIf_load_mid (by rfl) _ _ rfl gx (0) rfl (arL 16 (P)) _ (fun W hSw=>hSw.2.2.2.2.2.2.1.range) Tryz.arr16b rfl (size16b _)) ?_
    simp only [Act.put,nrm]
    refine tw 2 ?vtb1 rfl ?hytb1 ?resttb1
    case hytb1=>
     intro W hSw
     go_simp
     try with_reducible rfl
    simp only [Act.put,nrm]
    refine tk 3 (.agg (arL 16 (o1)).toArray) rfl (yieldsIf_load_mid (by rfl) _ _ rfl gr (17) rfl (arL 16 (o1)) _ (fun W hSw=>(hSw.2.2.2.2.2.2.2.1).range) Tryz.arr16b rfl (size16b _)) ?_
    simp only [Act.put,nrm]
    refine tw 6 ?vtb2 rfl ?hytb2 ?resttb2
    case hytb2=>
     intro W hSw
     go_simp
     try with_reducible rfl
    simp only [Act.put,nrm]
    refine tk 7 (.agg (arL 16 (o1)).toArray) rfl (yieldsIf_load_mid (by rfl) _ _ rfl gr (17) rfl (arL 16 (o1)) _ (fun W hSw=>(hSw.2.2.2.2.2.2.2.1).range) Tryz.arr16b rfl (size16b _)) ?_
    simp only [Act.put,nrm]
    refine rd2 4 9 rfl rfl (fun K hK=> ?_) (fun K hK=> ?_)
    ·go_simp
     refine(refxor8 P o1 _ hpb.out ho1b.out).mono ?_
     rintro e tb3 ⟨rfl,hq⟩
     go_wp2_with fail
     refine hK.out _ _ ⟨hH'.1.t hq,hH'.2.1.t hq,hH'.2.2.1.t hq,hH'.2.2.2.1.to hq,hH'.2.2.2.2.1.t hq,hH'.2.2.2.2.2.1.to hq,hH'.2.2.2.2.2.2.1.t hq,hH'.2.2.2.2.2.2.2.1.t hq,Tq hH'.2.2.2.2.2.2.2.2 hq⟩ ?_
     clear hK K hH' hq
     intro hH'
     try simp only [Act.put,nrm]
     refine rd2 5 9 rfl rfl (fun K hK=> ?_) (fun K hK=> ?_)
     ·go_simp
      refine(refencrypt f (adF P o1) _ HFB.out hxb.out).mono ?_
      rintro e tb4 ⟨rfl,hq⟩
      go_wp2_with fail
      refine hK.out _ _ ⟨hH'.1.t hq,hH'.2.1.t hq,hH'.2.2.1.t hq,hH'.2.2.2.1.to hq,hH'.2.2.2.2.1.t hq,hH'.2.2.2.2.2.1.to hq,hH'.2.2.2.2.2.2.1.t hq,hH'.2.2.2.2.2.2.2.1.t hq,Tq hH'.2.2.2.2.2.2.2.2 hq⟩ ?_
      clear hK K hH' hq
      intro hH'
      try simp only [Act.put,nrm]
      refine rd2 8 9 rfl rfl (fun K hK=> ?_) (fun K hK=> ?_)
      ·go_simp
       refine(refxor8 (enF f (adF P o1)) o1 _ heb.out ho1b.out).mono ?_
       rintro e tb5 ⟨rfl,hq⟩
       rw [HCP.out]
       go_wp2_with fail
       refine hK.out _ _ ⟨hH'.1.t hq,hH'.2.1.t hq,hH'.2.2.1.t hq,hH'.2.2.2.1.to hq,hH'.2.2.2.2.1.t hq,hH'.2.2.2.2.2.1.to hq,hH'.2.2.2.2.2.2.1.t hq,hH'.2.2.2.2.2.2.2.1.t hq,Tq hH'.2.2.2.2.2.2.2.2 hq⟩ ?_
       clear hK K hH' hq
       intro hH'
       try simp only [Act.put,nrm]
       refine rd 9 rfl (fun K hK=> ?_)
       obtain⟨gy,hggy⟩:=Le (tb5.heap.size)
       have hlgxgy:gx<gy:=by rw [←hggy];exact(hH'.2.2.2.2.2.2.1).lt (by omega)
       have hq:=Ba tb5 (.cells (arL 16 fun _=>0).toArray 22)
       have hytb6:=Ar.new tb5 16 (fun _=>0) 22
       rw [hggy]at hytb6
       go_simp
       obtain⟨tb6,hwtb6⟩:=Lv (tb5.alloc (.cells (arL 16 fun _=>0).toArray 22))
       have hytb6:Ar tb6 gy 16 (fun _=>0):=by rw [hwtb6];exact hytb6
       try rw [hggy]
       rw [←hwtb6]
       refine hK.out _ _ (by rw [hwtb6];exact⟨hH'.1.t hq,hH'.2.1.t hq,hH'.2.2.1.t hq,hH'.2.2.2.1.to hq,hH'.2.2.2.2.1.t hq,hH'.2.2.2.2.2.1.to hq,hH'.2.2.2.2.2.2.1.t hq,hH'.2.2.2.2.2.2.2.1.t hq,Tq hH'.2.2.2.2.2.2.2.2 hq⟩) ?_
       clear hK K hH' hq hwtb6 hggy
       intro hH'
       try simp only [Act.put,nrm]
       refine rd 10 rfl (fun K hK=> ?_)
       rw [if_pos (by rfl)]
       refine wp_store_mid _ _ _ rfl gy 0 (arL 16 (cp)).toArray rfl rfl hytb6.there (size16b _) (all_oneCell_toArray (arL_one 16 (cp))) ?_
       have hytb7:=hytb6.whole (cp)
       dsimp only [List.toList_toArray]
       refine hK.out _ _ ⟨(hH'.1).apart (b:=gy) (by omega) (arL 16 (cp)) 0,(hH'.2.1).apart (b:=gy) (by omega) (arL 16 (cp)) 0,(hH'.2.2.1).apart (b:=gy) (by omega) (arL 16 (cp)) 0,(hH'.2.2.2.1).apart (b:=gy) (by omega) (arL 16 (cp)) 0,(hH'.2.2.2.2.1).apart (b:=gy) (by omega) (arL 16 (cp)) 0,(hH'.2.2.2.2.2.1).apart (b:=gy) (by omega) (arL 16 (cp)) 0,(hH'.2.2.2.2.2.2.1).apart (b:=gy) (by omega) (arL 16 (cp)) 0,(hH'.2.2.2.2.2.2.2.1).apart (b:=gy) (by omega) (arL 16 (cp)) 0,(hH'.2.2.2.2.2.2.2.2).trans (Below.setCells (Below.refl w.heap.size _) (b:=gy) (by omega) (arL 16 (cp)) 0)⟩ ?_
       clear hK K hH' hytb6
       intro hH'
       generalize World.setCells tb6 gy 0 (arL 16 (cp))=tb7 at*
       try simp only [Act.put]
       refine wpAnyH_done (by kernel_rfl) ?_ _
       refine NoPanic.normal ?_
       exact⟨rfl,gy,rfl,hH'.1,hH'.2.1,hH'.2.2.1,hH'.2.2.2.1,hH'.2.2.2.2.1,hH'.2.2.2.2.2.1,hH'.2.2.2.2.2.2.1,hH'.2.2.2.2.2.2.2.1,hytb7,by omega,hH'.2.2.2.2.2.2.2.2⟩
      ·obtain⟨gy,hggy⟩:=Le (tb4.heap.size)
       have hlgxgy:gx<gy:=by rw [←hggy];exact(hH'.2.2.2.2.2.2.1).lt (by omega)
       have hq:=Ba tb4 (.cells (arL 16 fun _=>0).toArray 22)
       have hytb8:=Ar.new tb4 16 (fun _=>0) 22
       rw [hggy]at hytb8
       go_simp
       obtain⟨tb8,hwtb8⟩:=Lv (tb4.alloc (.cells (arL 16 fun _=>0).toArray 22))
       have hytb8:Ar tb8 gy 16 (fun _=>0):=by rw [hwtb8];exact hytb8
       try rw [hggy]
       rw [←hwtb8]
       refine hK.out _ _ (by rw [hwtb8];exact⟨hH'.1.t hq,hH'.2.1.t hq,hH'.2.2.1.t hq,hH'.2.2.2.1.to hq,hH'.2.2.2.2.1.t hq,hH'.2.2.2.2.2.1.to hq,hH'.2.2.2.2.2.2.1.t hq,hH'.2.2.2.2.2.2.2.1.t hq,Tq hH'.2.2.2.2.2.2.2.2 hq⟩) ?_
       clear hK K hH' hq hwtb8 hggy
       intro hH'
       try simp only [Act.put,nrm]
       refine rd 8 rfl (fun K hK=> ?_)
       go_simp
       refine(refxor8 (enF f (adF P o1)) o1 _ heb.out ho1b.out).mono ?_
       rintro e tb9 ⟨rfl,hq⟩
       rw [HCP.out]
       go_wp2_with fail
       have hytb9:=hytb8.t hq
       refine hK.out _ _ ⟨hH'.1.t hq,hH'.2.1.t hq,hH'.2.2.1.t hq,hH'.2.2.2.1.to hq,hH'.2.2.2.2.1.t hq,hH'.2.2.2.2.2.1.to hq,hH'.2.2.2.2.2.2.1.t hq,hH'.2.2.2.2.2.2.2.1.t hq,Tq hH'.2.2.2.2.2.2.2.2 hq⟩ ?_
       clear hK K hH' hq hytb8
       intro hH'
       try simp only [Act.put,nrm]
       refine rd 10 rfl (fun K hK=> ?_)
       rw [if_pos (by rfl)]
       refine wp_store_mid _ _ _ rfl gy 0 (arL 16 (cp)).toArray rfl rfl hytb9.there (size16b _) (all_oneCell_toArray (arL_one 16 (cp))) ?_
       have hytb10:=hytb9.whole (cp)
       dsimp only [List.toList_toArray]
       refine hK.out _ _ ⟨(hH'.1).apart (b:=gy) (by omega) (arL 16 (cp)) 0,(hH'.2.1).apart (b:=gy) (by omega) (arL 16 (cp)) 0,(hH'.2.2.1).apart (b:=gy) (by omega) (arL 16 (cp)) 0,(hH'.2.2.2.1).apart (b:=gy) (by omega) (arL 16 (cp)) 0,(hH'.2.2.2.2.1).apart (b:=gy) (by omega) (arL 16 (cp)) 0,(hH'.2.2.2.2.2.1).apart (b:=gy) (by omega) (arL 16 (cp)) 0,(hH'.2.2.2.2.2.2.1).apart (b:=gy) (by omega) (arL 16 (cp)) 0,(hH'.2.2.2.2.2.2.2.1).apart (b:=gy) (by omega) (arL 16 (cp)) 0,(hH'.2.2.2.2.2.2.2.2).trans (Below.setCells (Below.refl w.heap.size _) (b:=gy) (by omega) (arL 16 (cp)) 0)⟩ ?_
       clear hK K hH' hytb9
       intro hH'
       generalize World.setCells tb9 gy 0 (arL 16 (cp))=tb10 at*
       try simp only [Act.put]
       refine wpAnyH_done (by kernel_rfl) ?_ _
       refine NoPanic.normal ?_
       exact⟨rfl,gy,rfl,hH'.1,hH'.2.1,hH'.2.2.1,hH'.2.2.2.1,hH'.2.2.2.2.1,hH'.2.2.2.2.2.1,hH'.2.2.2.2.2.2.1,hH'.2.2.2.2.2.2.2.1,hytb10,by omega,hH'.2.2.2.2.2.2.2.2⟩
     ·obtain⟨gy,hggy⟩:=Le (tb3.heap.size)
      have hlgxgy:gx<gy:=by rw [←hggy];exact(hH'.2.2.2.2.2.2.1).lt (by omega)
      have hq:=Ba tb3 (.cells (arL 16 fun _=>0).toArray 22)
      have hytb11:=Ar.new tb3 16 (fun _=>0) 22
      rw [hggy]at hytb11
      go_simp
      obtain⟨tb11,hwtb11⟩:=Lv (tb3.alloc (.cells (arL 16 fun _=>0).toArray 22))
      have hytb11:Ar tb11 gy 16 (fun _=>0):=by rw [hwtb11];exact hytb11
      try rw [hggy]
      rw [←hwtb11]
      refine hK.out _ _ (by rw [hwtb11];exact⟨hH'.1.t hq,hH'.2.1.t hq,hH'.2.2.1.t hq,hH'.2.2.2.1.to hq,hH'.2.2.2.2.1.t hq,hH'.2.2.2.2.2.1.to hq,hH'.2.2.2.2.2.2.1.t hq,hH'.2.2.2.2.2.2.2.1.t hq,Tq hH'.2.2.2.2.2.2.2.2 hq⟩) ?_
      clear hK K hH' hq hwtb11 hggy
      intro hH'
      try simp only [Act.put,nrm]
      refine rd 5 rfl (fun K hK=> ?_)
      go_simp
      refine(refencrypt f (adF P o1) _ HFB.out hxb.out).mono ?_
      rintro e tb12 ⟨rfl,hq⟩
      go_wp2_with fail
      have hytb12:=hytb11.t hq
      refine hK.out _ _ ⟨hH'.1.t hq,hH'.2.1.t hq,hH'.2.2.1.t hq,hH'.2.2.2.1.to hq,hH'.2.2.2.2.1.t hq,hH'.2.2.2.2.2.1.to hq,hH'.2.2.2.2.2.2.1.t hq,hH'.2.2.2.2.2.2.2.1.t hq,Tq hH'.2.2.2.2.2.2.2.2 hq⟩ ?_
      clear hK K hH' hq hytb11
      intro hH'
      try simp only [Act.put,nrm]
      refine rd 8 rfl (fun K hK=> ?_)
      go_simp
      refine(refxor8 (enF f (adF P o1)) o1 _ heb.out ho1b.out).mono ?_
      rintro e tb13 ⟨rfl,hq⟩
      rw [HCP.out]
      go_wp2_with fail
      have hytb13:=hytb12.t hq
      refine hK.out _ _ ⟨hH'.1.t hq,hH'.2.1.t hq,hH'.2.2.1.t hq,hH'.2.2.2.1.to hq,hH'.2.2.2.2.1.t hq,hH'.2.2.2.2.2.1.to hq,hH'.2.2.2.2.2.2.1.t hq,hH'.2.2.2.2.2.2.2.1.t hq,Tq hH'.2.2.2.2.2.2.2.2 hq⟩ ?_
      clear hK K hH' hq hytb12
      intro hH'
      try simp only [Act.put,nrm]
      refine rd 10 rfl (fun K hK=> ?_)
      rw [if_pos (by rfl)]
      refine wp_store_mid _ _ _ rfl gy 0 (arL 16 (cp)).toArray rfl rfl hytb13.there (size16b _) (all_oneCell_toArray (arL_one 16 (cp))) ?_
      have hytb14:=hytb13.whole (cp)
      dsimp only [List.toList_toArray]
      refine hK.out _ _ ⟨(hH'.1).apart (b:=gy) (by omega) (arL 16 (cp)) 0,(hH'.2.1).apart (b:=gy) (by omega) (arL 16 (cp)) 0,(hH'.2.2.1).apart (b:=gy) (by omega) (arL 16 (cp)) 0,(hH'.2.2.2.1).apart (b:=gy) (by omega) (arL 16 (cp)) 0,(hH'.2.2.2.2.1).apart (b:=gy) (by omega) (arL 16 (cp)) 0,(hH'.2.2.2.2.2.1).apart (b:=gy) (by omega) (arL 16 (cp)) 0,(hH'.2.2.2.2.2.2.1).apart (b:=gy) (by omega) (arL 16 (cp)) 0,(hH'.2.2.2.2.2.2.2.1).apart (b:=gy) (by omega) (arL 16 (cp)) 0,(hH'.2.2.2.2.2.2.2.2).trans (Below.setCells (Below.refl w.heap.size _) (b:=gy) (by omega) (arL 16 (cp)) 0)⟩ ?_
      clear hK K hH' hytb13
      intro hH'
      generalize World.setCells tb13 gy 0 (arL 16 (cp))=tb14 at*
      try simp only [Act.put]
      refine wpAnyH_done (by kernel_rfl) ?_ _
      refine NoPanic.normal ?_
      exact⟨rfl,gy,rfl,hH'.1,hH'.2.1,hH'.2.2.1,hH'.2.2.2.1,hH'.2.2.2.2.1,hH'.2.2.2.2.2.1,hH'.2.2.2.2.2.2.1,hH'.2.2.2.2.2.2.2.1,hytb14,by omega,hH'.2.2.2.2.2.2.2.2⟩
    ·obtain⟨gy,hggy⟩:=Le (tbd.heap.size)
     have hlgxgy:gx<gy:=by rw [←hggy];exact(hH'.2.2.2.2.2.2.1).lt (by omega)
     have hq:=Ba tbd (.cells (arL 16 fun _=>0).toArray 22)
     have hytb15:=Ar.new tbd 16 (fun _=>0) 22
     rw [hggy]at hytb15
     go_simp
     obtain⟨tb15,hwtb15⟩:=Lv (tbd.alloc (.cells (arL 16 fun _=>0).toArray 22))
     have hytb15:Ar tb15 gy 16 (fun _=>0):=by rw [hwtb15];exact hytb15
     try rw [hggy]
     rw [←hwtb15]
     refine hK.out _ _ (by rw [hwtb15];exact⟨hH'.1.t hq,hH'.2.1.t hq,hH'.2.2.1.t hq,hH'.2.2.2.1.to hq,hH'.2.2.2.2.1.t hq,hH'.2.2.2.2.2.1.to hq,hH'.2.2.2.2.2.2.1.t hq,hH'.2.2.2.2.2.2.2.1.t hq,Tq hH'.2.2.2.2.2.2.2.2 hq⟩) ?_
     clear hK K hH' hq hwtb15 hggy
     intro hH'
     try simp only [Act.put,nrm]
     refine rd 4 rfl (fun K hK=> ?_)
     go_simp
     refine(refxor8 P o1 _ hpb.out ho1b.out).mono ?_
     rintro e tb16 ⟨rfl,hq⟩
     go_wp2_with fail
     have hytb16:=hytb15.t hq
     refine hK.out _ _ ⟨hH'.1.t hq,hH'.2.1.t hq,hH'.2.2.1.t hq,hH'.2.2.2.1.to hq,hH'.2.2.2.2.1.t hq,hH'.2.2.2.2.2.1.to hq,hH'.2.2.2.2.2.2.1.t hq,hH'.2.2.2.2.2.2.2.1.t hq,Tq hH'.2.2.2.2.2.2.2.2 hq⟩ ?_
     clear hK K hH' hq hytb15
     intro hH'
     try simp only [Act.put,nrm]
     refine rd 5 rfl (fun K hK=> ?_)
     go_simp
     refine(refencrypt f (adF P o1) _ HFB.out hxb.out).mono ?_
     rintro e tb17 ⟨rfl,hq⟩
     go_wp2_with fail
     have hytb17:=hytb16.t hq
     refine hK.out _ _ ⟨hH'.1.t hq,hH'.2.1.t hq,hH'.2.2.1.t hq,hH'.2.2.2.1.to hq,hH'.2.2.2.2.1.t hq,hH'.2.2.2.2.2.1.to hq,hH'.2.2.2.2.2.2.1.t hq,hH'.2.2.2.2.2.2.2.1.t hq,Tq hH'.2.2.2.2.2.2.2.2 hq⟩ ?_
     clear hK K hH' hq hytb16
     intro hH'
     try simp only [Act.put,nrm]
     refine rd 8 rfl (fun K hK=> ?_)
     go_simp
     refine(refxor8 (enF f (adF P o1)) o1 _ heb.out ho1b.out).mono ?_
     rintro e tb18 ⟨rfl,hq⟩
     rw [HCP.out]
     go_wp2_with fail
     have hytb18:=hytb17.t hq
     refine hK.out _ _ ⟨hH'.1.t hq,hH'.2.1.t hq,hH'.2.2.1.t hq,hH'.2.2.2.1.to hq,hH'.2.2.2.2.1.t hq,hH'.2.2.2.2.2.1.to hq,hH'.2.2.2.2.2.2.1.t hq,hH'.2.2.2.2.2.2.2.1.t hq,Tq hH'.2.2.2.2.2.2.2.2 hq⟩ ?_
     clear hK K hH' hq hytb17
     intro hH'
     try simp only [Act.put,nrm]
     refine rd 10 rfl (fun K hK=> ?_)
     rw [if_pos (by rfl)]
     refine wp_store_mid _ _ _ rfl gy 0 (arL 16 (cp)).toArray rfl rfl hytb18.there (size16b _) (all_oneCell_toArray (arL_one 16 (cp))) ?_
     have hytb19:=hytb18.whole (cp)
     dsimp only [List.toList_toArray]
     refine hK.out _ _ ⟨(hH'.1).apart (b:=gy) (by omega) (arL 16 (cp)) 0,(hH'.2.1).apart (b:=gy) (by omega) (arL 16 (cp)) 0,(hH'.2.2.1).apart (b:=gy) (by omega) (arL 16 (cp)) 0,(hH'.2.2.2.1).apart (b:=gy) (by omega) (arL 16 (cp)) 0,(hH'.2.2.2.2.1).apart (b:=gy) (by omega) (arL 16 (cp)) 0,(hH'.2.2.2.2.2.1).apart (b:=gy) (by omega) (arL 16 (cp)) 0,(hH'.2.2.2.2.2.2.1).apart (b:=gy) (by omega) (arL 16 (cp)) 0,(hH'.2.2.2.2.2.2.2.1).apart (b:=gy) (by omega) (arL 16 (cp)) 0,(hH'.2.2.2.2.2.2.2.2).trans (Below.setCells (Below.refl w.heap.size _) (b:=gy) (by omega) (arL 16 (cp)) 0)⟩ ?_
     clear hK K hH' hytb18
     intro hH'
     generalize World.setCells tb18 gy 0 (arL 16 (cp))=tb19 at*
     try simp only [Act.put]
     refine wpAnyH_done (by kernel_rfl) ?_ _
     refine NoPanic.normal ?_
     exact⟨rfl,gy,rfl,hH'.1,hH'.2.1,hH'.2.2.1,hH'.2.2.2.1,hH'.2.2.2.2.1,hH'.2.2.2.2.2.1,hH'.2.2.2.2.2.2.1,hH'.2.2.2.2.2.2.2.1,hytb19,by omega,hH'.2.2.2.2.2.2.2.2⟩
   rintro gy x7 ⟨hEx7,hRx7,hsx7,hvx7,hcx7,hwx7,hxx7,hox7,hyx7,hlgy,hBx7⟩
   clear hEx6 hRx6 hsx6 hvx6 hcx6 hwx6 hxx6 hox6 hBx6
   go_upto_region 10 with fail
   refine wp_region_noPanic ?_
   have hvtcd:=hvx7.drew
   have hwtcd:=hwx7.drew
   refine wp_region_held_drew (S:=fun W=>Ar W w.heap.size 432 (pkF (ek f) sb)∧Cx W gR 33 (rz)∧Ar W gs 16 (s)∧Po W gr 1 16 (ck)∧Po W gr 17 16 (o1)∧Ar W gx 16 (P)∧Ar W gy 16 (cp)∧Below w.heap.size w W) (by kernel_rfl) ⟨hEx7.drew,hRx7.drew,hsx7.drew,hcx7.drew,hox7.drew,hxx7.drew,hyx7.drew,hBx7.drew⟩ (fun hH'=> ?_)
   clear hEx7 hRx7 hsx7 hcx7 hox7 hxx7 hyx7 hBx7 hvx7 hwx7
   generalize World.drew x7=tcd at*
   refine tw 0 ?vtc1 rfl ?hytc1 ?resttc1
   case hytc1=>
    intro W hSw
    go_simp
    try with_reducible rfl
   simp only [Act.put,nrm]
   refine tw 2 ?vtc2 rfl ?hytc2 ?resttc2
   case hytc2=>
    intro W hSw
    have hsla:=slice16all2
    go_simp
    try with_reducible rfl
   simp only [Act.put,nrm]
   refine rd 1 rfl (fun K hK=> ?_)
   have cF:=(hvtcd).1
   go_simp
   refine hK.out _ _ hH' ?_
   clear hK K hH' cF
   intro hH'
   try simp only [Act.put,nrm]
   refine rd 3 rfl (fun K hK=> ?_)
   have hbl:=(hwtcd).2.1
   have hsz:=(hwtcd).1
   have hbs:b0≤tcd.heap.size:=by omega
   rw [if_pos (by rfl)]
   refine wp_append_own _ _ _ 25 rfl b0 5 i0 (.int .u8 0) 1 1 Tryz.underlying25 HI0.out HZ0.out HZ1.out HZ2.out (by decide) (by decide) _ _ _ rfl (hwtcd).2.2.2 ⟨gy,0,none⟩ 16 16 (arL 16 cp) rfl (by simp [arL_len]) (fun j u hu=>by rw [Addr.add_mid];exact(hH'.2.2.2.2.2.2.1).range j u hu) (by first|exact arL_one 16 _|(intro u hu;simp at hu;subst hu;rfl)) (by have e1:=HN.out;have e2:=HK6.out;unfold maxLen;omega) (by have e1:=HN.out;have e2:=HK6.out;omega) hbs ?_
   intro v8 tc3 hown8 hgrow8 _
   have k8:Below b0 tcd tc3:=(Below.refl _ _).grown hgrow8 hbs (fun g hg=>own_block (hwtcd).2.2.2 hg)
   obtain⟨A3,c3,rfl⟩:=own_shape hown8
   have hO8:Ow8 tc3 b0 (.slice A3 (16*(k+1)) c3) (16*(k+1)) (liB (16*(k+1)) (ctF f s a l N)):=by unfold Ow8;rw [←HCT2.out];exact hown8
   have hsz8:=k8.size
   obtain⟨g3,hg3⟩: ∃g,tc3.heap.size-1=g:=⟨_,rfl⟩
   have hwtc3:Ob tc3 b0 g3 (.slice A3 (16*(k+1)) c3) (16*(k+1)) (liB (16*(k+1)) (ctF f s a l N)):=by rw [←hg3];exact Ob.new hO8 (by omega) (by omega)
   have hltg3:b0≤g3+1:=hwtc3.2.1
   have hvtc3:=(hvtcd).keep (by omega) k8
   refine hK.out _ _ ⟨(hH'.1).keep (by omega) k8,(hH'.2.1).keep (by omega) k8,(hH'.2.2.1).keep (by omega) k8,(hH'.2.2.2.1).keep (by omega) k8,(hH'.2.2.2.2.1).keep (by omega) k8,ar_grown (hH'.2.2.2.2.2.1) (by omega) hgrow8 (Ob.ne hwtcd (by omega)),ar_grown (hH'.2.2.2.2.2.2.1) (by omega) hgrow8 (Ob.ne hwtcd (by omega)),(hH'.2.2.2.2.2.2.2).trans (k8.mono (by omega))⟩ ?_
   clear hK K hH' hown8 hgrow8 k8 hO8 hsz8 hg3 hbl hsz hbs hvtcd hwtcd
   intro hH'
   try simp only [Act.put,nrm]
   refine tw 4 ?vtc4 rfl ?hytc4 ?resttc4
   case hytc4=>
    intro W hSw
    go_simp
    try with_reducible rfl
   simp only [Act.put,nrm]
   refine rd 5 rfl (fun K hK=> ?_)
   have cF:=(hvtc3).1
   have fF:=(hvtc3).2
   go_simp
   clear cF fF
   have hvtc5:=(hvtc3).put (.slice A3 (16*k+16) c3)
   have hwtc5:=(hwtc3).old1 ⟨gr,0,none⟩ (by simp<;>omega) (.slice A3 (16*k+16) c3)
   refine hK.out _ _ ⟨(hH'.1).far (p:=⟨gr,0,none⟩) (by simp<;>omega) (.slice A3 (16*k+16) c3),(hH'.2.1).far (p:=⟨gr,0,none⟩) (by simp<;>omega) (.slice A3 (16*k+16) c3),(hH'.2.2.1).far (p:=⟨gr,0,none⟩) (by simp<;>omega) (.slice A3 (16*k+16) c3),(hH'.2.2.2.1).far (p:=⟨gr,0,none⟩) (by simp<;>omega) (.slice A3 (16*k+16) c3),(hH'.2.2.2.2.1).far (p:=⟨gr,0,none⟩) (by simp<;>omega) (.slice A3 (16*k+16) c3),(hH'.2.2.2.2.2.1).far (p:=⟨gr,0,none⟩) (by simp<;>omega) (.slice A3 (16*k+16) c3),(hH'.2.2.2.2.2.2.1).far (p:=⟨gr,0,none⟩) (by simp<;>omega) (.slice A3 (16*k+16) c3),(hH'.2.2.2.2.2.2.2).setCell (p:=⟨gr,0,none⟩) (by simp<;>omega) (.slice A3 (16*k+16) c3)⟩ ?_
   clear hK K hH' hvtc3 hwtc3
   intro hH'
   generalize World.setCell tc3 ⟨gr,0,none⟩ (.slice A3 (16*k+16) c3)=tc5 at*
   try simp only [Act.put]
   refine wpAnyH_done (by kernel_rfl) ?_ _
   have hEz1:=hH'.1
   have hRz1:=hH'.2.1
   have hsz1:=hH'.2.2.1
   have hcz1:=hH'.2.2.2.1
   have hoz1:=hH'.2.2.2.2.1
   have hxz1:=hH'.2.2.2.2.2.1
   have hyz1:=hH'.2.2.2.2.2.2.1
   have hBz1:=hH'.2.2.2.2.2.2.2
   have hvz1:=hvtc5
   have hwz1:=hwtc5
   clear hH' hvtc5 hwtc5
   refine NoPanic.normal ?_
   try dsimp only [Act.put]
   go_wp2_with (first|(refine wpList_load_mid rfl _ _ rfl gr 1 rfl (arL 16 (ck)) _ hcz1.range Tryz.arr16b rfl (size16b _) ?_)|(refine wpList_load_ar rfl _ _ rfl _ _ _ rfl hxz1 Tryz.arr16b (size16b _) ?_))
   refine(refxor8 ck P _ hcb.out hpb.out).mono ?_
   rintro e x8 ⟨rfl,hq⟩
   have hEx8:=hEz1.t hq
   have hRx8:=hRz1.t hq
   have hsx8:=hsz1.t hq
   have hvx8:=hvz1.to hq
   have hcx8:=hcz1.t hq
   have hwx8:=hwz1.to hq
   have hxx8:=hxz1.t hq
   have hox8:=hoz1.t hq
   have hyx8:=hyz1.t hq
   have hBx8:=Tq hBz1 hq
   clear hq hEz1 hRz1 hsz1 hvz1 hcz1 hwz1 hxz1 hoz1 hyz1 hBz1
   go_upto_region 6 with (first|(refine wpList_store_mid rfl _ _ _ rfl gr 1 _ rfl rfl (hcx8.there (adF ck P)) (size16b _) (all_oneCell_toArray (arL_one 16 (adF ck P))) ?_)|fail)
   try dsimp only [List.toList_toArray]
   have hcx9:=hcx8.put (adF ck P)
   have hEx9:=(hEx8).apart (b:=gr) (by omega) (arL 16 (adF ck P)) 1
   have hRx9:=(hRx8).apart (b:=gr) (by omega) (arL 16 (adF ck P)) 1
   have hsx9:=(hsx8).apart (b:=gr) (by omega) (arL 16 (adF ck P)) 1
   have hvx9:=(hvx8).off (b:=gr) (arL 16 (adF ck P)) 1 (.inr (by omega))
   have hwx9:=(hwx8).old (by omega) (arL 16 (adF ck P)) 1
   have hxx9:=(hxx8).apart (b:=gr) (by omega) (arL 16 (adF ck P)) 1
   have hox9:=(hox8).off (b:=gr) (arL 16 (adF ck P)) 1 (.inr (.inr (by rw [arL_len];omega)))
   have hyx9:=(hyx8).apart (b:=gr) (by omega) (arL 16 (adF ck P)) 1
   have hBx9:=hBx8.trans (Below.setCells (Below.refl w.heap.size _) (b:=gr) (by omega) (arL 16 (adF ck P)) 1)
   generalize World.setCells x8 gr 1 (arL 16 (adF ck P))=x9 at*
   clear hEx8 hRx8 hsx8 hvx8 hcx8 hwx8 hxx8 hox8 hyx8 hBx8
   try dsimp only [Act.put]
   have hN6:=HN6.out
   go_wp2_with fail
   go_roundw
   case rel=>exact⟨k+1,A3,c3,g3,by omega,by go_num,by omega,hEx9,hRx9,hsx9,hvx9,by rw [←HCK.out];exact hcx9,by rw [HQ1.out,HO1.out];exact hox9,hwx9,hBx9⟩
   case measure=>simp [intOf];omega
  ·obtain rfl:N=k:=by omega
   have i1: ¬(N:Int)<(N:Int):=by omega
   by_cases hr0:r=0
   ·have j1:(n:Int).tmod 16=0:=by rw [HFR.out.1,hr0];rfl
    have j2:(n:Int)%16=0:=by rw [HFR.out.2,hr0];rfl
    have HN16:=Lib.hid (show n=16*N by have:=HNN.out;have:=HRR.out;omega)
    go_wp2_with (first|(refine wpList_load_mid rfl _ _ rfl gr 0 rfl (rsL (.slice A2 (16*N) c2) (ckF (pt l) N) (atF a s N)) _ (rs_range hvwr hcwr howr) HSR.out HWR.out (sizeR _ _ _) ?_)|(refine wpList_store_mid rfl _ _ _ rfl gR 0 (rsL (.slice A2 (16*N) c2) (ckF (pt l) N) (atF a s N)).toArray rfl rfl (by rw [List.size_toArray];exact hRwr.there 0 _ (by rw [rsL_len];decide)) (by rw [List.size_toArray];exact sizeR _ _ _) (all_oneCell_toArray (rsL_one rfl _ _)) ?_))
    try dsimp only [List.toList_toArray]
    have hR9:=hRwr.put 0 (rsL (.slice A2 (16*N) c2) (ckF (pt l) N) (atF a s N)) (by rw [rsL_len];decide)
    have hw9:=hwwr.old (b:=gR) (by omega) (rsL (.slice A2 (16*N) c2) (ckF (pt l) N) (atF a s N)) 0
    have hB9:=hBwr.trans (Below.setCells (Below.refl w.heap.size _) (b:=gR) (by omega) (rsL (.slice A2 (16*N) c2) (ckF (pt l) N) (atF a s N)) 0)
    obtain⟨hv8,hc8,ho8⟩:=rs_put hR9
    refine bodyPost_ret_cells rfl rfl (rs_range hv8 hc8 ho8) HSR.out HWR.out (sizeR _ _ _) rfl ⟨A2,c2,?_,?_,hB9⟩
    ·rw [cs_none HLEN.out HNN.out HRR.out hr0,of_none HNN.out HRR.out hr0,HN16.out]
    ·rw [←ct_eq HLEN.out HNN.out,HN16.out];exact own_more hw9.2.2.2 (by omega)
   ·obtain⟨j1,j2⟩:=HFR.out
    have j3:(0:Int)<(r:Int):=by omega
    have hab:=Lib.hid (atF_lt HAL.out HSL.out N)
    have HCC:=Lib.hid (fun i hi=>ct_rest (f:=f) (s:=s) (a:=a) l N i hi)
    have hcb:=Lib.hid (ckF_lt HPB.out N)
    have HCB:=Lib.hid (fun j hj=>ctF_lt HFB.out HSL.out HAL.out l N j hj)
    have HPAD:=Lib.hid (fun V (hb:Below w.heap.size w V)=>refpad A9 (n-o) (c-o) (l.drop o) V (HSL2.out V V.heap.size l ((HSS.out.below hb).more hb.size)) (by have:=HNN.out;have:=HO.out;omega))
    obtain⟨ck0,hck⟩: ∃u,ckF (pt l) N=u:=⟨_,rfl⟩
    obtain⟨an,han⟩: ∃u,atF a s N=u:=⟨_,rfl⟩
    rw [hck]at hcb
    rw [han]at hab HCC
    have ho2b:=Lib.hid (adF_lt hab.out HSL.out)
    obtain⟨o2,ho2⟩: ∃u,adF an s=u:=⟨_,rfl⟩
    rw [ho2]at ho2b HCC
    have HO2:=Lib.hid ho2
    have hpdb:=Lib.hid (show B16 (enF f o2)from enR_lt HFB.out ho2b.out 10)
    have hpad:=Lib.hid (fun V=>refencrypt f o2 V HFB.out ho2b.out)
    obtain⟨pd,hpd⟩: ∃u,enF f o2=u:=⟨_,rfl⟩
    rw [hpd]at hpdb hpad HCC
    obtain⟨P,hP⟩: ∃u,lF (padL (l.drop o) 16)=u:=⟨_,rfl⟩
    have hpb:=Lib.hid (show B16 P by rw [←hP];exact fun _ _=>lF_lt _ _)
    rw [hP]at HPAD
    have HPD:=Lib.hid hP
    have HCK:=Lib.hid hck
    have HAN:=Lib.hid han
    rw [hck]at hcwr
    rw [han]at howr
    clear hck han hpd hP ho2
    go_wp2_with (first|(refine wpList_load_mid rfl _ _ rfl gr 17 rfl (arL 16 (an)) _ howr.range Tryz.arr16b rfl (size16b _) ?_)|(refine wpList_load_ar rfl _ _ rfl _ _ _ rfl hswr Tryz.arr16b (size16b _) ?_))
    refine(refxor8 an s _ hab.out HSL.out).mono ?_
    rintro e x10 ⟨rfl,hq⟩
    rw [HO2.out]
    have hEx10:=hEwr.t hq
    have hRx10:=hRwr.t hq
    have hsx10:=hswr.t hq
    have hvx10:=hvwr.to hq
    have hcx10:=hcwr.t hq
    have hox10:=howr.t hq
    have hwx10:=hwwr.to hq
    have hBx10:=Tq hBwr hq
    clear hq hEwr hRwr hswr hvwr hcwr howr hwwr hBwr
    go_upto_region 14 with (first|(refine wpList_store_mid rfl _ _ _ rfl gr 17 _ rfl rfl (hox10.there (o2)) (size16b _) (all_oneCell_toArray (arL_one 16 (o2))) ?_)|fail)
    try dsimp only [List.toList_toArray]
    have hox11:=hox10.put (o2)
    have hEx11:=(hEx10).apart (b:=gr) (by omega) (arL 16 (o2)) 17
    have hRx11:=(hRx10).apart (b:=gr) (by omega) (arL 16 (o2)) 17
    have hsx11:=(hsx10).apart (b:=gr) (by omega) (arL 16 (o2)) 17
    have hvx11:=(hvx10).off (b:=gr) (arL 16 (o2)) 17 (.inr (by omega))
    have hcx11:=(hcx10).off (b:=gr) (arL 16 (o2)) 17 (.inr (.inl (by omega)))
    have hwx11:=(hwx10).old (by omega) (arL 16 (o2)) 17
    have hBx11:=hBx10.trans (Below.setCells (Below.refl w.heap.size _) (b:=gr) (by omega) (arL 16 (o2)) 17)
    generalize World.setCells x10 gr 17 (arL 16 (o2))=x11 at*
    clear hEx10 hRx10 hsx10 hvx10 hcx10 hox10 hwx10 hBx10
    try dsimp only [Act.put]
    clear j1 j2 j3 i1
    go_wp2_with (first|(refine wpList_load_mid rfl _ _ rfl w.heap.size 0 rfl (arL 432 (pkF (ek f) sb)) _ hEx11.range HS.out HW.out (sizeK _) ?_)|(refine wpList_load_mid rfl _ _ rfl gr 17 rfl (arL 16 (o2)) _ hox11.range Tryz.arr16b rfl (size16b _) ?_))
    refine(hpad.out _).mono ?_
    rintro e x12 ⟨rfl,hq⟩
    have hEx12:=hEx11.t hq
    have hRx12:=hRx11.t hq
    have hsx12:=hsx11.t hq
    have hvx12:=hvx11.to hq
    have hcx12:=hcx11.t hq
    have hox12:=hox11.t hq
    have hwx12:=hwx11.to hq
    have hBx12:=Tq hBx11 hq
    clear hq hEx11 hRx11 hsx11 hvx11 hcx11 hox11 hwx11 hBx11
    obtain⟨p1,hp1⟩:=Lv (x12.alloc (.cells (arL 16 fun _=>0).toArray 22))
    have hq:=Bl hp1
    have hlp:gw<x12.heap.size:=hwx12.lt
    have hlwp:w.heap.size≤x12.heap.size:=hBx12.size
    have hlrp:gr<x12.heap.size:=hvx12.lt
    have hEp1:=hEx12.t hq
    have hRp1:=hRx12.t hq
    have hsp1:=hsx12.t hq
    have hvp1:=hvx12.to hq
    have hcp1:=hcx12.t hq
    have hop1:=hox12.t hq
    have hwp1:=hwx12.to hq
    have hBp1:=Tq hBx12 hq
    have hpp1:Wb p1 x12.heap.size 16 (fun _=>0) 22:=by rw [hp1];exact Wb.new x12 16 _ _
    clear hq hEx12 hRx12 hsx12 hvx12 hcx12 hox12 hwx12 hBx12
    go_upto_region 15 with (first|(refine wpList_store_wb rfl _ _ _ rfl _ _ _ pd 22 rfl rfl (by rw [←hp1];exact hpp1) (size16b _) ?_;intro p2 hpp2 bel siz kee)|fail)
    rw [←hp1]at bel
    obtain⟨gp,hgp⟩:=Le (x12.heap.size)
    try rw [hgp]
    rw [hgp]at hlp hlwp hlrp hpp2 bel
    have hEp2:=hEp1.keep (by omega) bel
    have hRp2:=hRp1.keep (by omega) bel
    have hsp2:=hsp1.keep (by omega) bel
    have hvp2:=hvp1.keep (by omega) bel
    have hcp2:=hcp1.keep (by omega) bel
    have hop2:=hop1.keep (by omega) bel
    have hwp2:=hwp1.keep (by omega) bel
    have hBp2:=hBp1.trans (bel.mono hlwp)
    clear bel siz kee hgp hp1 hpp1 hEp1 hRp1 hsp1 hvp1 hcp1 hop1 hwp1 hBp1
    try dsimp only [Act.put]
    obtain⟨k1,k2,k3,k4⟩:=HFB2.out
    go_wp2_with fail
    clear k1 k2 k3 k4
    have hvp3:Ce p2 gr (.slice A2 o c2):=by rw [←HO.out];exact hvp2
    have hwp3:Ob p2 b0 gw (.slice A2 o c2) o (liB o (ctF f s a l N)):=by rw [←HO.out];exact hwp2
    have hon:o≤n:=by have:=HNN.out;have:=HO.out;omega
    go_loopw [14] (fun t wr=> ∃(i:Nat) (A2:Option Addr) (c2 gw:Nat),o≤i∧i≤n∧t= .int .i64 i∧gr≤gw∧Ar wr w.heap.size 432 (pkF (ek f) sb)∧Cx wr gR 33 (rz)∧Ar wr gs 16 (s)∧Ce wr gr (.slice A2 i c2)∧Po wr gr 1 16 (ck0)∧Po wr gr 17 16 (o2)∧Ob wr b0 gw (.slice A2 i c2) (i) (liB i (ctF f s a l N))∧Wb wr gp 16 (pd) 22∧Below w.heap.size w wr) (fun t _=>n-(intOf t).toNat)
    case atStart=>exact⟨o,A2,c2,gw,Nat.le_refl _,hon,rfl,hgw,hEp2,hRp2,hsp2,hvp3,hcp2,hop2,hwp3,hpp2,hBp2⟩
    case round=>
     clear hEp2 hRp2 hsp2 hvp2 hcp2 hop2 hwp2 hpp2 hBp2 hvp3 hwp3 hgw
     obtain⟨i,A4,c4,gw4,hoi,hin,rfl,hgw,hEwr,hRwr,hswr,hvwr,hcwr,howr,hwwr,hpwr,hBwr⟩:=hrel
     by_cases hlt2:i<n
     ·have i2:(i:Int)<(n:Int):=by omega
      obtain⟨b,ob,hA1,hbl⟩:=sl_some HSS.out (by omega)
      subst hA1
      obtain⟨q1,hq1⟩:=Le (i-o)
      have hq16:q1<16:=by have:=HNN.out;have:=HO.out;omega
      have HIF:=Lib.hid (ifacts (i:=i) (o:=o) (q:=q1) (by omega) (by have:=HN.out;omega))
      have HBI:=Lib.hid (HCC.out i (by rw [HO.out];exact hoi))
      rw [HO.out,hq1]at HBI
      have HXX:=Lib.hid (xor_n8 _ _ (lF_lt l i) (hpdb.out q1 hq16))
      have hzb:lF l i^^^pd q1<256:=Nat.xor_lt_two_pow (n:=8) (lF_lt l i) (hpdb.out q1 hq16)
      have HPI:=Lib.hid (fun V (hb:Below w.heap.size w V)=>sl_byte (HSS.out.below hb) i hlt2)
      obtain⟨x,hx⟩: ∃u,lF l i=u:=⟨_,rfl⟩
      rw [hx]at HXX HBI HPI hzb
      obtain⟨z,hz0⟩: ∃u,x^^^pd q1=u:=⟨_,rfl⟩
      rw [hz0]at HXX HBI hzb
      have HCJ:=Lib.hid (show(liB i (ctF f s a l N)).map b8++ [n8 z]=(liB (i+1) (ctF f s a l N)).map b8 by rw [HBI.out,List.map_append,List.map_singleton,b8_ofNat _ hzb];rfl)
      have HQ16:=Lib.hid (show(q1:Int)<16 by omega)
      clear hx hz0 hq1 hzb HBI
      go_upto_region 18 with fail
      refine wp_region_noPanic ?_
      have hvted:=hvwr.drew
      have hwted:=hwwr.drew
      refine wp_region_held_drew (S:=fun W=>Ar W w.heap.size 432 (pkF (ek f) sb)∧Cx W gR 33 (rz)∧Ar W gs 16 (s)∧Po W gr 1 16 (ck0)∧Po W gr 17 16 (o2)∧Wb W gp 16 (pd) 22∧Below w.heap.size w W) (by kernel_rfl) ⟨hEwr.drew,hRwr.drew,hswr.drew,hcwr.drew,howr.drew,hpwr.drew,hBwr.drew⟩ (fun hH'=> ?_)
      clear hEwr hRwr hswr hcwr howr hpwr hBwr hvwr hwwr
      generalize World.drew wr=ted at*
      refine tw 0 ?vte1 rfl ?hyte1 ?restte1
      case hyte1=>
       intro W hSw
       go_simp
       try with_reducible rfl
      simp only [Act.put,nrm]
      refine tw 2 ?vte2 rfl ?hyte2 ?restte2
      case hyte2=>
       intro W hSw
       go_simp
       try with_reducible rfl
      simp only [Act.put,nrm]
      refine tw 3 ?vte3 rfl ?hyte3 ?restte3
      case hyte3=>
       intro W hSw
       go_simp
       try with_reducible rfl
      simp only [Act.put,nrm]
      refine tw 4 ?vte4 rfl ?hyte4 ?restte4
      case hyte4=>
       intro W hSw
       have hpi:=HPI.out W hSw.2.2.2.2.2.2
       go_simp
       try with_reducible rfl
      simp only [Act.put,nrm]
      refine tw 5 ?vte5 rfl ?hyte5 ?restte5
      case hyte5=>
       intro W hSw
       have hpi:=HPI.out W hSw.2.2.2.2.2.2
       go_simp
       try with_reducible rfl
      simp only [Act.put,nrm]
      refine tw 6 ?vte6 rfl ?hyte6 ?restte6
      case hyte6=>
       intro W hSw
       go_simp
       try with_reducible rfl
      simp only [Act.put,nrm]
      refine tw 7 ?vte7 rfl ?hyte7 ?restte7
      case hyte7=>
       intro W hSw
       go_simp
       try with_reducible rfl
      simp only [Act.put,nrm]
      refine tw 8 ?vte8 rfl ?hyte8 ?restte8
      case hyte8=>
       intro W hSw
       obtain⟨k1,k2,k3,k4⟩:=HFB2.out
       obtain⟨m1,m2,m3,m4⟩:=HIF.out
       go_simp
       try with_reducible rfl
      simp only [Act.put,nrm]
      refine tw 9 ?vte9 rfl ?hyte9 ?restte9
      case hyte9=>
       intro W hSw
       obtain⟨k1,k2,k3,k4⟩:=HFB2.out
       obtain⟨m1,m2,m3,m4⟩:=HIF.out
       go_simp
       try with_reducible rfl
      simp only [Act.put,nrm]
      refine tw 10 ?vte10 rfl ?hyte10 ?restte10
      case hyte10=>
       intro W hSw
       have hq16:=HQ16.out
       obtain⟨m1,m2,m3,m4⟩:=HIF.out
       go_simp
       try with_reducible rfl
      simp only [Act.put,nrm]
      refine tw 11 ?vte11 rfl ?hyte11 ?restte11
      case hyte11=>
       intro W hSw
       have hpc:=((hSw.2.2.2.2.2.1).ar q1 (by have:=HQ16.out;omega)).1
       go_simp
       try with_reducible rfl
      simp only [Act.put,nrm]
      refine tw 12 ?vte12 rfl ?hyte12 ?restte12
      case hyte12=>
       intro W hSw
       have hxx:=HXX.out
       go_simp
       try with_reducible rfl
      simp only [Act.put,nrm]
      refine rd2 1 13 rfl rfl (fun K hK=> ?_) (fun K hK=> ?_)
      ·have cF:=(hvted).1
       go_simp
       refine hK.out _ _ hH' ?_
       clear hK K hH' cF
       intro hH'
       try simp only [Act.put,nrm]
       refine rd 13 rfl (fun K hK=> ?_)
       obtain⟨te13,hyte13⟩:=Lv (ted.alloc (.cells #[n8 z] 5))
       have hq:=Bl hyte13
       have hZ0:te13.cell? ⟨ted.heap.size,0,none⟩=some (n8 z):=by rw [hyte13,World.cell?_alloc_at _ _ _ _ rfl];rfl
       go_simp
       rw [show ted.alloc (.cells #[.int .u8 (z:Nat)] 5)=te13 from hyte13.symm]
       clear hyte13
       obtain⟨gz,hgz⟩:=Le (ted.heap.size)
       rw [hgz]at hZ0
       try rw [hgz]
       have hvte13:=hvted.to hq
       have hwte13:=hwted.to hq
       refine hK.out _ _ ⟨hH'.1.t hq,hH'.2.1.t hq,hH'.2.2.1.t hq,hH'.2.2.2.1.t hq,hH'.2.2.2.2.1.t hq,wb_to (hH'.2.2.2.2.2.1) (by omega) hq,Tq hH'.2.2.2.2.2.2 hq⟩ ?_
       clear hK K hH' hq hgz hvted hwted
       intro hH'
       try simp only [Act.put,nrm]
       refine rd 14 rfl (fun K hK=> ?_)
       have hbl:=(hwte13).2.1
       have hsz:=(hwte13).1
       have hbs:b0≤te13.heap.size:=by omega
       rw [if_pos (by rfl)]
       refine wp_append_own _ _ _ 25 rfl b0 5 i0 (.int .u8 0) 1 1 Tryz.underlying25 HI0.out HZ0.out HZ1.out HZ2.out (by decide) (by decide) _ _ _ rfl (hwte13).2.2.2 ⟨gz,0,none⟩ 1 1 ([n8 z]) rfl (by simp [arL_len]) (fun j u hu=>by cases j with|zero=>(simp at hu;subst hu;exact hZ0)|succ j=>simp at hu) (by first|exact arL_one 16 _|(intro u hu;simp at hu;subst hu;rfl)) (by have e1:=HN.out;have e2:=hin;unfold maxLen;omega) (by have e1:=HN.out;have e2:=hin;omega) hbs ?_
       intro v8 te14 hown8 hgrow8 _
       have k8:Below b0 te13 te14:=(Below.refl _ _).grown hgrow8 hbs (fun g hg=>own_block (hwte13).2.2.2 hg)
       obtain⟨A5,c5,rfl⟩:=own_shape hown8
       have hO8:Ow8 te14 b0 (.slice A5 (i+1) c5) (i+1) (liB (i+1) (ctF f s a l N)):=by unfold Ow8;rw [←HCJ.out];exact hown8
       have hsz8:=k8.size
       obtain⟨g5,hg5⟩: ∃g,te14.heap.size-1=g:=⟨_,rfl⟩
       have hwte14:Ob te14 b0 g5 (.slice A5 (i+1) c5) (i+1) (liB (i+1) (ctF f s a l N)):=by rw [←hg5];exact Ob.new hO8 (by omega) (by omega)
       have hltg5:b0≤g5+1:=hwte14.2.1
       have hvte14:=(hvte13).keep (by omega) k8
       refine hK.out _ _ ⟨(hH'.1).keep (by omega) k8,(hH'.2.1).keep (by omega) k8,(hH'.2.2.1).keep (by omega) k8,(hH'.2.2.2.1).keep (by omega) k8,(hH'.2.2.2.2.1).keep (by omega) k8,wb_grown (hH'.2.2.2.2.2.1) (by omega) hgrow8 (wb_ne (hH'.2.2.2.2.2.1) hwte13.2.2.2),(hH'.2.2.2.2.2.2).trans (k8.mono (by omega))⟩ ?_
       clear hK K hH' hown8 hgrow8 k8 hO8 hsz8 hg5 hbl hsz hbs hvte13 hwte13
       intro hH'
       try simp only [Act.put,nrm]
       refine tw 15 ?vte15 rfl ?hyte15 ?restte15
       case hyte15=>
        intro W hSw
        go_simp
        try with_reducible rfl
       simp only [Act.put,nrm]
       refine rd 16 rfl (fun K hK=> ?_)
       have cF:=(hvte14).1
       have fF:=(hvte14).2
       go_simp
       clear cF fF
       have hvte16:=(hvte14).put (.slice A5 (i+1) c5)
       have hwte16:=(hwte14).old1 ⟨gr,0,none⟩ (by simp<;>omega) (.slice A5 (i+1) c5)
       refine hK.out _ _ ⟨(hH'.1).far (p:=⟨gr,0,none⟩) (by simp<;>omega) (.slice A5 (i+1) c5),(hH'.2.1).far (p:=⟨gr,0,none⟩) (by simp<;>omega) (.slice A5 (i+1) c5),(hH'.2.2.1).far (p:=⟨gr,0,none⟩) (by simp<;>omega) (.slice A5 (i+1) c5),(hH'.2.2.2.1).far (p:=⟨gr,0,none⟩) (by simp<;>omega) (.slice A5 (i+1) c5),(hH'.2.2.2.2.1).far (p:=⟨gr,0,none⟩) (by simp<;>omega) (.slice A5 (i+1) c5),wb_far (hH'.2.2.2.2.2.1) (p:=⟨gr,0,none⟩) (by simp<;>omega) (.slice A5 (i+1) c5),(hH'.2.2.2.2.2.2).setCell (p:=⟨gr,0,none⟩) (by simp<;>omega) (.slice A5 (i+1) c5)⟩ ?_
       clear hK K hH' hvte14 hwte14
       intro hH'
       generalize World.setCell te14 ⟨gr,0,none⟩ (.slice A5 (i+1) c5)=te16 at*
       try simp only [Act.put]
       refine wpAnyH_done (by kernel_rfl) ?_ _
       have hEz2:=hH'.1
       have hRz2:=hH'.2.1
       have hsz2:=hH'.2.2.1
       have hcz2:=hH'.2.2.2.1
       have hoz2:=hH'.2.2.2.2.1
       have hpz2:=hH'.2.2.2.2.2.1
       have hBz2:=hH'.2.2.2.2.2.2
       have hvz2:=hvte16
       have hwz2:=hwte16
       clear hH' hvte16 hwte16
       refine NoPanic.normal ?_
       try dsimp only [Act.put]
       have e1:=HN.out
       clear HIF HQ16 HXX HCJ HPI
       go_wp2_with fail
       go_roundw
       case rel=>exact⟨i+1,A5,c5,g5,by omega,by omega,by go_num,by omega,hEz2,hRz2,hsz2,hvz2,hcz2,hoz2,hwz2,hpz2,hBz2⟩
       case measure=>simp [intOf];omega
      ·obtain⟨te17,hyte17⟩:=Lv (ted.alloc (.cells #[n8 z] 5))
       have hq:=Bl hyte17
       have hZ0:te17.cell? ⟨ted.heap.size,0,none⟩=some (n8 z):=by rw [hyte17,World.cell?_alloc_at _ _ _ _ rfl];rfl
       go_simp
       rw [show ted.alloc (.cells #[.int .u8 (z:Nat)] 5)=te17 from hyte17.symm]
       clear hyte17
       obtain⟨gz,hgz⟩:=Le (ted.heap.size)
       rw [hgz]at hZ0
       try rw [hgz]
       have hvte17:=hvted.to hq
       have hwte17:=hwted.to hq
       refine hK.out _ _ ⟨hH'.1.t hq,hH'.2.1.t hq,hH'.2.2.1.t hq,hH'.2.2.2.1.t hq,hH'.2.2.2.2.1.t hq,wb_to (hH'.2.2.2.2.2.1) (by omega) hq,Tq hH'.2.2.2.2.2.2 hq⟩ ?_
       clear hK K hH' hq hgz hvted hwted
       intro hH'
       try simp only [Act.put,nrm]
       refine rd 1 rfl (fun K hK=> ?_)
       have cF:=(hvte17).1
       go_simp
       refine hK.out _ _ hH' ?_
       clear hK K hH' cF
       intro hH'
       try simp only [Act.put,nrm]
       refine rd 14 rfl (fun K hK=> ?_)
       have hbl:=(hwte17).2.1
       have hsz:=(hwte17).1
       have hbs:b0≤te17.heap.size:=by omega
       rw [if_pos (by rfl)]
       refine wp_append_own _ _ _ 25 rfl b0 5 i0 (.int .u8 0) 1 1 Tryz.underlying25 HI0.out HZ0.out HZ1.out HZ2.out (by decide) (by decide) _ _ _ rfl (hwte17).2.2.2 ⟨gz,0,none⟩ 1 1 ([n8 z]) rfl (by simp [arL_len]) (fun j u hu=>by cases j with|zero=>(simp at hu;subst hu;exact hZ0)|succ j=>simp at hu) (by first|exact arL_one 16 _|(intro u hu;simp at hu;subst hu;rfl)) (by have e1:=HN.out;have e2:=hin;unfold maxLen;omega) (by have e1:=HN.out;have e2:=hin;omega) hbs ?_
       intro v8 te18 hown8 hgrow8 _
       have k8:Below b0 te17 te18:=(Below.refl _ _).grown hgrow8 hbs (fun g hg=>own_block (hwte17).2.2.2 hg)
       obtain⟨A5,c5,rfl⟩:=own_shape hown8
       have hO8:Ow8 te18 b0 (.slice A5 (i+1) c5) (i+1) (liB (i+1) (ctF f s a l N)):=by unfold Ow8;rw [←HCJ.out];exact hown8
       have hsz8:=k8.size
       obtain⟨g5,hg5⟩: ∃g,te18.heap.size-1=g:=⟨_,rfl⟩
       have hwte18:Ob te18 b0 g5 (.slice A5 (i+1) c5) (i+1) (liB (i+1) (ctF f s a l N)):=by rw [←hg5];exact Ob.new hO8 (by omega) (by omega)
       have hltg5:b0≤g5+1:=hwte18.2.1
       have hvte18:=(hvte17).keep (by omega) k8
       refine hK.out _ _ ⟨(hH'.1).keep (by omega) k8,(hH'.2.1).keep (by omega) k8,(hH'.2.2.1).keep (by omega) k8,(hH'.2.2.2.1).keep (by omega) k8,(hH'.2.2.2.2.1).keep (by omega) k8,wb_grown (hH'.2.2.2.2.2.1) (by omega) hgrow8 (wb_ne (hH'.2.2.2.2.2.1) hwte17.2.2.2),(hH'.2.2.2.2.2.2).trans (k8.mono (by omega))⟩ ?_
       clear hK K hH' hown8 hgrow8 k8 hO8 hsz8 hg5 hbl hsz hbs hvte17 hwte17
       intro hH'
       try simp only [Act.put,nrm]
       refine tw 15 ?vte19 rfl ?hyte19 ?restte19
       case hyte19=>
        intro W hSw
        go_simp
        try with_reducible rfl
       simp only [Act.put,nrm]
       refine rd 16 rfl (fun K hK=> ?_)
       have cF:=(hvte18).1
       have fF:=(hvte18).2
       go_simp
       clear cF fF
       have hvte20:=(hvte18).put (.slice A5 (i+1) c5)
       have hwte20:=(hwte18).old1 ⟨gr,0,none⟩ (by simp<;>omega) (.slice A5 (i+1) c5)
       refine hK.out _ _ ⟨(hH'.1).far (p:=⟨gr,0,none⟩) (by simp<;>omega) (.slice A5 (i+1) c5),(hH'.2.1).far (p:=⟨gr,0,none⟩) (by simp<;>omega) (.slice A5 (i+1) c5),(hH'.2.2.1).far (p:=⟨gr,0,none⟩) (by simp<;>omega) (.slice A5 (i+1) c5),(hH'.2.2.2.1).far (p:=⟨gr,0,none⟩) (by simp<;>omega) (.slice A5 (i+1) c5),(hH'.2.2.2.2.1).far (p:=⟨gr,0,none⟩) (by simp<;>omega) (.slice A5 (i+1) c5),wb_far (hH'.2.2.2.2.2.1) (p:=⟨gr,0,none⟩) (by simp<;>omega) (.slice A5 (i+1) c5),(hH'.2.2.2.2.2.2).setCell (p:=⟨gr,0,none⟩) (by simp<;>omega) (.slice A5 (i+1) c5)⟩ ?_
       clear hK K hH' hvte18 hwte18
       intro hH'
       generalize World.setCell te18 ⟨gr,0,none⟩ (.slice A5 (i+1) c5)=te20 at*
       try simp only [Act.put]
       refine wpAnyH_done (by kernel_rfl) ?_ _
       have hEz2:=hH'.1
       have hRz2:=hH'.2.1
       have hsz2:=hH'.2.2.1
       have hcz2:=hH'.2.2.2.1
       have hoz2:=hH'.2.2.2.2.1
       have hpz2:=hH'.2.2.2.2.2.1
       have hBz2:=hH'.2.2.2.2.2.2
       have hvz2:=hvte20
       have hwz2:=hwte20
       clear hH' hvte20 hwte20
       refine NoPanic.normal ?_
       try dsimp only [Act.put]
       have e1:=HN.out
       clear HIF HQ16 HXX HCJ HPI
       go_wp2_with fail
       go_roundw
       case rel=>exact⟨i+1,A5,c5,g5,by omega,by omega,by go_num,by omega,hEz2,hRz2,hsz2,hvz2,hcz2,hoz2,hwz2,hpz2,hBz2⟩
       case measure=>simp [intOf];omega
     ·obtain rfl:n=i:=by omega
      have i2: ¬(n:Int)<(n:Int):=by omega
      go_upto_region 19 with fail
      clear i2
      apply wp_region_via (F:=fun W=>Ar W w.heap.size 432 (pkF (ek f) sb)∧Cx W gR 33 (rz)∧Ar W gs 16 (s)∧Ce W gr (.slice A4 n c4)∧Po W gr 17 16 (o2)∧Ob W b0 gw4 (.slice A4 n c4) (n) (liB n (ctF f s a l N))∧Wb W gp 16 (pd) 22∧Po W gr 1 16 (adF ck0 P)∧Below w.heap.size w W)
      case h1=>
       refine wp_region_noPanic ?_
       have hctfd:=hcwr.drew
       refine wp_region_held_drew (S:=fun W=>Ar W w.heap.size 432 (pkF (ek f) sb)∧Cx W gR 33 (rz)∧Ar W gs 16 (s)∧Ce W gr (.slice A4 n c4)∧Po W gr 17 16 (o2)∧Ob W b0 gw4 (.slice A4 n c4) (n) (liB n (ctF f s a l N))∧Wb W gp 16 (pd) 22∧Below w.heap.size w W) (by kernel_rfl) ⟨hEwr.drew,hRwr.drew,hswr.drew,hvwr.drew,howr.drew,hwwr.drew,hpwr.drew,hBwr.drew⟩ (fun hH'=> ?_)
       generalize World.drew wr=tfd at*
       refine tw 0 ?vtf1 rfl ?hytf1 ?resttf1
       case hytf1=>
        intro W hSw
        go_simp
        try with_reducible rfl
       simp only [Act.put,nrm]
       refine tw 2 ?vtf2 rfl ?hytf2 ?resttf2
       case hytf2=>
        intro W hSw
        go_simp
        try with_reducible rfl
       simp only [Act.put,nrm]
       refine tw 3 ?vtf3 rfl ?hytf3 ?resttf3
       case hytf3=>
        intro W hSw
        go_simp
        try with_reducible rfl
       simp only [Act.put,nrm]
       refine tw 4 ?vtf4 rfl ?hytf4 ?resttf4
       case hytf4=>
        intro W hSw
        obtain⟨k1,k2,k3,k4⟩:=HFB2.out
        go_simp
        try with_reducible rfl
       simp only [Act.put,nrm]
       refine tw 5 ?vtf5 rfl ?hytf5 ?resttf5
       case hytf5=>
        intro W hSw
        have hslc:=HSLI.out
        go_simp
        try with_reducible rfl
       simp only [Act.put,nrm]
       refine rd2 1 6 rfl rfl (fun K hK=> ?_) (fun K hK=> ?_)
       ·rw [if_pos (by rfl)]
        refine wp_load_mid _ _ rfl gr 1 rfl (arL 16 (ck0)) _ hctfd.range Tryz.arr16b rfl (size16b _) ?_
        refine hK.out _ _ hH' ?_
        clear hK K hH'
        intro hH'
        try simp only [Act.put,nrm]
        refine rd 6 rfl (fun K hK=> ?_)
        go_simp
        refine(HPAD.out _ (hH'.2.2.2.2.2.2.2)).mono ?_
        rintro e tf6 ⟨rfl,hq⟩
        go_wp2_with fail
        have hctf6:=hctfd.t hq
        refine hK.out _ _ ⟨hH'.1.t hq,hH'.2.1.t hq,hH'.2.2.1.t hq,hH'.2.2.2.1.to hq,hH'.2.2.2.2.1.t hq,hH'.2.2.2.2.2.1.to hq,wb_to (hH'.2.2.2.2.2.2.1) (by omega) hq,Tq hH'.2.2.2.2.2.2.2 hq⟩ ?_
        clear hK K hH' hq hctfd
        intro hH'
        try simp only [Act.put,nrm]
        refine rd 7 rfl (fun K hK=> ?_)
        go_simp
        refine(refxor8 ck0 P _ hcb.out hpb.out).mono ?_
        rintro e tf7 ⟨rfl,hq⟩
        go_wp2_with fail
        have hctf7:=hctf6.t hq
        refine hK.out _ _ ⟨hH'.1.t hq,hH'.2.1.t hq,hH'.2.2.1.t hq,hH'.2.2.2.1.to hq,hH'.2.2.2.2.1.t hq,hH'.2.2.2.2.2.1.to hq,wb_to (hH'.2.2.2.2.2.2.1) (by omega) hq,Tq hH'.2.2.2.2.2.2.2 hq⟩ ?_
        clear hK K hH' hq hctf6
        intro hH'
        try simp only [Act.put,nrm]
        refine tw 8 ?vtf8 rfl ?hytf8 ?resttf8
        case hytf8=>
         intro W hSw
         go_simp
         try with_reducible rfl
        simp only [Act.put,nrm]
        refine rd 9 rfl (fun K hK=> ?_)
        rw [if_pos (by rfl)]
        refine wp_store_mid _ _ _ rfl gr 1 (arL 16 (adF ck0 P)).toArray rfl rfl (hctf7.there (adF ck0 P)) (size16b _) (all_oneCell_toArray (arL_one 16 (adF ck0 P))) ?_
        have hctf9:=hctf7.put (adF ck0 P)
        dsimp only [List.toList_toArray]
        refine hK.out _ _ ⟨(hH'.1).apart (b:=gr) (by omega) (arL 16 (adF ck0 P)) 1,(hH'.2.1).apart (b:=gr) (by omega) (arL 16 (adF ck0 P)) 1,(hH'.2.2.1).apart (b:=gr) (by omega) (arL 16 (adF ck0 P)) 1,(hH'.2.2.2.1).off (b:=gr) (arL 16 (adF ck0 P)) 1 (.inr (by omega)),(hH'.2.2.2.2.1).off (b:=gr) (arL 16 (adF ck0 P)) 1 (.inr (.inr (by rw [arL_len];omega))),(hH'.2.2.2.2.2.1).old (by omega) (arL 16 (adF ck0 P)) 1,wb_off (hH'.2.2.2.2.2.2.1) (b:=gr) (by omega) (arL 16 (adF ck0 P)) 1,(hH'.2.2.2.2.2.2.2).trans (Below.setCells (Below.refl w.heap.size _) (b:=gr) (by omega) (arL 16 (adF ck0 P)) 1)⟩ ?_
        clear hK K hH' hctf7
        intro hH'
        generalize World.setCells tf7 gr 1 (arL 16 (adF ck0 P))=tf9 at*
        try simp only [Act.put]
        refine wpAnyH_done (by kernel_rfl) ?_ _
        refine NoPanic.normal ?_
        exact⟨rfl,rfl,hH'.1,hH'.2.1,hH'.2.2.1,hH'.2.2.2.1,hH'.2.2.2.2.1,hH'.2.2.2.2.2.1,hH'.2.2.2.2.2.2.1,hctf9,hH'.2.2.2.2.2.2.2⟩
       ·go_simp
        refine(HPAD.out _ (hH'.2.2.2.2.2.2.2)).mono ?_
        rintro e tf10 ⟨rfl,hq⟩
        go_wp2_with fail
        have hctf10:=hctfd.t hq
        refine hK.out _ _ ⟨hH'.1.t hq,hH'.2.1.t hq,hH'.2.2.1.t hq,hH'.2.2.2.1.to hq,hH'.2.2.2.2.1.t hq,hH'.2.2.2.2.2.1.to hq,wb_to (hH'.2.2.2.2.2.2.1) (by omega) hq,Tq hH'.2.2.2.2.2.2.2 hq⟩ ?_
        clear hK K hH' hq hctfd
        intro hH'
        try simp only [Act.put,nrm]
        refine rd 1 rfl (fun K hK=> ?_)
        rw [if_pos (by rfl)]
        refine wp_load_mid _ _ rfl gr 1 rfl (arL 16 (ck0)) _ hctf10.range Tryz.arr16b rfl (size16b _) ?_
        refine hK.out _ _ hH' ?_
        clear hK K hH'
        intro hH'
        try simp only [Act.put,nrm]
        refine rd 7 rfl (fun K hK=> ?_)
        go_simp
        refine(refxor8 ck0 P _ hcb.out hpb.out).mono ?_
        rintro e tf11 ⟨rfl,hq⟩
        go_wp2_with fail
        have hctf11:=hctf10.t hq
        refine hK.out _ _ ⟨hH'.1.t hq,hH'.2.1.t hq,hH'.2.2.1.t hq,hH'.2.2.2.1.to hq,hH'.2.2.2.2.1.t hq,hH'.2.2.2.2.2.1.to hq,wb_to (hH'.2.2.2.2.2.2.1) (by omega) hq,Tq hH'.2.2.2.2.2.2.2 hq⟩ ?_
        clear hK K hH' hq hctf10
        intro hH'
        try simp only [Act.put,nrm]
        refine tw 8 ?vtf12 rfl ?hytf12 ?resttf12
        case hytf12=>
         intro W hSw
         go_simp
         try with_reducible rfl
        simp only [Act.put,nrm]
        refine rd 9 rfl (fun K hK=> ?_)
        rw [if_pos (by rfl)]
        refine wp_store_mid _ _ _ rfl gr 1 (arL 16 (adF ck0 P)).toArray rfl rfl (hctf11.there (adF ck0 P)) (size16b _) (all_oneCell_toArray (arL_one 16 (adF ck0 P))) ?_
        have hctf13:=hctf11.put (adF ck0 P)
        dsimp only [List.toList_toArray]
        refine hK.out _ _ ⟨(hH'.1).apart (b:=gr) (by omega) (arL 16 (adF ck0 P)) 1,(hH'.2.1).apart (b:=gr) (by omega) (arL 16 (adF ck0 P)) 1,(hH'.2.2.1).apart (b:=gr) (by omega) (arL 16 (adF ck0 P)) 1,(hH'.2.2.2.1).off (b:=gr) (arL 16 (adF ck0 P)) 1 (.inr (by omega)),(hH'.2.2.2.2.1).off (b:=gr) (arL 16 (adF ck0 P)) 1 (.inr (.inr (by rw [arL_len];omega))),(hH'.2.2.2.2.2.1).old (by omega) (arL 16 (adF ck0 P)) 1,wb_off (hH'.2.2.2.2.2.2.1) (b:=gr) (by omega) (arL 16 (adF ck0 P)) 1,(hH'.2.2.2.2.2.2.2).trans (Below.setCells (Below.refl w.heap.size _) (b:=gr) (by omega) (arL 16 (adF ck0 P)) 1)⟩ ?_
        clear hK K hH' hctf11
        intro hH'
        generalize World.setCells tf11 gr 1 (arL 16 (adF ck0 P))=tf13 at*
        try simp only [Act.put]
        refine wpAnyH_done (by kernel_rfl) ?_ _
        refine NoPanic.normal ?_
        exact⟨rfl,rfl,hH'.1,hH'.2.1,hH'.2.2.1,hH'.2.2.2.1,hH'.2.2.2.2.1,hH'.2.2.2.2.2.1,hH'.2.2.2.2.2.2.1,hctf13,hH'.2.2.2.2.2.2.2⟩
      rintro x13 ⟨hEx13,hRx13,hsx13,hvx13,hox13,hwx13,hpx13,hcx13,hBx13⟩
      clear hEwr hRwr hswr hvwr howr hwwr hpwr hcwr hBwr
      go_wp2_with (first|(refine wpList_load_mid rfl _ _ rfl gr 0 rfl (rsL (.slice A4 n c4) (adF ck0 P) (o2)) _ (rs_range hvx13 hcx13 hox13) HSR.out HWR.out (sizeR _ _ _) ?_)|(refine wpList_store_mid rfl _ _ _ rfl gR 0 (rsL (.slice A4 n c4) (adF ck0 P) (o2)).toArray rfl rfl (by rw [List.size_toArray];exact hRx13.there 0 _ (by rw [rsL_len];decide)) (by rw [List.size_toArray];exact sizeR _ _ _) (all_oneCell_toArray (rsL_one rfl _ _)) ?_))
      try dsimp only [List.toList_toArray]
      have hR9:=hRx13.put 0 (rsL (.slice A4 n c4) (adF ck0 P) (o2)) (by rw [rsL_len];decide)
      have hw9:=hwx13.old (b:=gR) (by omega) (rsL (.slice A4 n c4) (adF ck0 P) (o2)) 0
      have hB9:=hBx13.trans (Below.setCells (Below.refl w.heap.size _) (b:=gR) (by omega) (rsL (.slice A4 n c4) (adF ck0 P) (o2)) 0)
      obtain⟨hv8,hc8,ho8⟩:=rs_put hR9
      refine bodyPost_ret_cells rfl rfl (rs_range hv8 hc8 ho8) HSR.out HWR.out (sizeR _ _ _) rfl ⟨A4,c4,?_,?_,hB9⟩
      ·rw [cs_some HLEN.out HNN.out HRR.out hr0 HO.out HPD.out,of_some HNN.out HRR.out hr0,HCK.out,HAN.out,HO2.out]
      ·rw [←ct_eq HLEN.out HNN.out];exact own_more hw9.2.2.2 (by omega)
end Go.Proofs.YtiacbphnclgikaaGreatDoor
