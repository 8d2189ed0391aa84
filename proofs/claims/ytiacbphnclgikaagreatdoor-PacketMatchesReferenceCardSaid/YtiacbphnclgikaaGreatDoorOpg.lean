/-
 Contract of Decrypt of package open, by a walk through its text: the plaintext, in a slice of its own, its checksum and the offset; over a made Table of a key; what was there stays as it was.
-/
import Derived.Test.YtiacbphnclgikaaGreatDoorSqz
import Derived.Test.YtiacbphnclgikaaGreatDoorOpf
import Derived.Test.YtiacbphnclgikaaGreatDoorSeq
import Derived.Deep.RegionHeld3
import Derived.Laws.EntriesVeiled
namespace Go.Proofs.YtiacbphnclgikaaGreatDoor
open Go.RowKit
set_option linter.unusedVariables false
set_option maxRecDepth 100000
set_option linter.unusedSimpArgs false
open Go.Shelf
theorem tfacts {k q:Nat} (h:k+1=q) (hk:k<1000000):(k:Int)+1=(q:Int)∧wrap64 ((k:Int)+1)=(q:Int)∧IntKind.i64.wrap ((k:Int)+1)=(q:Int)∧wrap64 (q:Int)=(q:Int)∧IntKind.u64.wrap (q:Int)=(q:Int)∧IntKind.i64.wrap (q:Int)=(q:Int):=rfacts h hk
set_option maxHeartbeats 4000000 in
theorem odec (p:Option Addr) (f s q a:Nat→Nat) (A:Option Addr) (n c:Nat) (l:List UInt8) (w:World) (hf:B16 f) (hs:enF f zF=s) (hq0:B12 q) (ha:o0F (enF f (nbF q)) (q 11)=a) (hS:Sl w w.heap.size A n l) (hnc:n≤c) (hn:n≤1000000) (ht:TabO w p f) (hx:Boxes w):
  Calls Tryz.prog 57 #[.pointer p,.agg (arL 12 q).toArray,.slice A n c] w fun e w'=> ∃(A2:Option Addr) (c2:Nat),e= .returned (.tuple #[.slice A2 n c2,.agg (arL 16 (csF (dtL f s a l))).toArray,.agg (arL 16 (ofF s a n)).toArray])∧Ow8 w' w.heap.size (.slice A2 n c2) n (dtL f s a l)∧Below w.heap.size w w':=by
 obtain⟨kQ,hkQ⟩:=Le ((arL 12 (q)).toArray)
 obtain⟨w1,hw1⟩:=Lv (w.alloc (.cells (arL 12 (q)).toArray 77))
 have hs1:=Zs1 hw1
 have hBw1:=Bl hw1
 have hQw1:Ar w1 w.heap.size 12 (q):=by rw [hw1];exact Ar.new w 12 _ _
 obtain⟨w2,hw2⟩:=Lv (w1.alloc (.cells #[.slice A n c] 25))
 have hs2:=Zs2 hw2 hs1
 have hBw2:=Bm hw2 hBw1
 have hQw2:=ara hw2 hQw1
 have hXw2:Bv w2 (w.heap.size+1) 25 (.slice A n c):=by rw [hw2,←hs1];exact Bv.new w1 _ _
 clear hQw1 hBw1
 obtain⟨w3,hw3⟩:=Lv (w2.alloc (.cells (arL 16 (fun _=>0)).toArray 22))
 have hs3:=Zs3 hw3 hs2
 have hBw3:=Bm hw3 hBw2
 have hQw3:=ara hw3 hQw2
 have hXw3:Bv w3 (w.heap.size+1) 25 (.slice A n c):=by rw [hw3];exact hXw2.alloc _
 have hKw3:Ar w3 (w.heap.size+2) 16 (fun _=>0):=by rw [hw3,←hs2];exact Ar.new w2 16 _ _
 clear hQw2 hXw2 hBw2
 obtain⟨w4,hw4⟩:=Lv (w3.alloc (.cells (arL 16 (fun _=>0)).toArray 22))
 have hs4:=Zs4 hw4 hs3
 have hBw4:=Bm hw4 hBw3
 have hQw4:=ara hw4 hQw3
 have hXw4:Bv w4 (w.heap.size+1) 25 (.slice A n c):=by rw [hw4];exact hXw3.alloc _
 have hKw4:=ara hw4 hKw3
 have hLw4:Ar w4 (w.heap.size+3) 16 (fun _=>0):=by rw [hw4,←hs3];exact Ar.new w3 16 _ _
 clear hQw3 hXw3 hKw3 hBw3
 rw [hkQ]at hw1
 rw [hkQ]
 clear hkQ
 have hz:=zero16b
 have hlen:=hS.len
 have HLEN:=Lib.hid hlen
 have HFB:=Lib.hid hf
 have HQB:=Lib.hid hq0
 have HSS:=Lib.hid hS
 have HT:=Lib.hid ht.1.1
 have HMD:=Lib.hid ht.2
 have HX:=Lib.hid hx
 have HS0:=Lib.hid hs
 have HNC:=Lib.hid hnc
 have HN:=Lib.hid hn
 have HSL:=Lib.hid (show B16 s by rw [←hs];exact enR_lt hf zF_lt 10)
 have HAB:=Lib.hid (show B16 a by rw [←ha];exact o0F_lt (enR_lt hf (nbF_lt hq0) 10) _)
 have hst:=Lib.hid (fun V h1 h2=>ostart (.pointer p) f q V hf hq0 h1 h2)
 rw [ha]at hst
 obtain⟨N,hN⟩:=Le (n/16)
 obtain⟨o,ho⟩:=Le (16*N)
 obtain⟨r,hr⟩:=Le (n-o)
 have HFA:=Lib.hid (hfacts hn hN ho)
 have HPF:=Lib.hid (pfacts hn hN ho hr)
 have HNN:=Lib.hid hN
 have HO:=Lib.hid ho
 have HR0:=Lib.hid hr
 obtain⟨i0,hi0,hz0,hz1,hz2⟩:=info_parts info8x
 have HI0:=Lib.hid hi0
 have HZ0:=Lib.hid hz0
 have HZ1:=Lib.hid hz1
 have HZ2:=Lib.hid hz2
 have HMF:=Lib.hid (show∀(fn:Fn) (first cap:Array Value) (w:World),(Instr.makeFunc fn first cap).run Tryz.prog w= .ok (.func fn first cap) w from fun _ _ _ _=>rfl)
 obtain⟨p2,hV,hCp,hcip⟩:=HT.out
 rw [HS0.out]at hV
 have HV:=Lib.hid hV
 have HCP:=Lib.hid hCp
 have HCIP:=Lib.hid hcip
 clear hf hq0 hS ht hx hs ha hnc hn hN ho hr hi0 hz0 hz1 hz2 hlen hV hCp hcip
 go_enter Tryz.func57,Tryz.ntmps57
 go_upto_region 1 with fail
 rw [←hw1,←hw2,←hw3,←hw4]
 clear hw1 hw2 hw3 hw4
 try simp only [Nat.add_assoc,Nat.reduceAdd]
 obtain⟨gX,hgX⟩:=Le (w.heap.size+1)
 rw [hgX]at hXw4
 obtain⟨gK,hgK⟩:=Le (w.heap.size+2)
 rw [hgK]at hKw4
 obtain⟨gL,hgL⟩:=Le (w.heap.size+3)
 rw [hgL]at hLw4
 try rw [hgL]
 try rw [hgK]
 try rw [hgX]
 have hlX:w.heap.size<gX:=by omega
 have hlK:gX<gK:=by omega
 have hlL:gK<gL:=by omega
 clear hs1 hs2 hs3 hs4 hgX hgK hgL
 go_wp2_with fail
 refine(HMD.out _ hBw4).mono ?_
 rintro e x1 ⟨rfl,hq⟩
 have hQx1:=hQw4.t hq
 have hXx1:=hXw4.to hq
 have hKx1:=hKw4.t hq
 have hLx1:=hLw4.t hq
 have hBx1:=Tq hBw4 hq
 clear hq hQw4 hXw4 hKw4 hLw4 hBw4
 obtain⟨v7,hmk,hown,hg7⟩:=run_make_own (P:=Tryz.prog) x1 x1.heap.size 25 5 i0 _ 1 Tryz.underlying25 HI0.out HZ0.out HZ1.out .i64 .i64 n (by rw [HZ2.out];have:=HN.out;omega) (by unfold maxLen;have:=HN.out;omega) (Nat.le_refl _)
 have hq:Below x1.heap.size x1 v7:=(Below.refl _ _).grown hg7 (Nat.le_refl _) (fun k e=>by cases e)
 have c0:=hXx1.cell
 obtain⟨b0,hb0⟩:=Le (x1.heap.size)
 have lW:gL<b0:=by rw [←hb0];exact hLx1.lt (by omega)
 rw [hb0]at hmk hown
 have hQv7:=hQx1.t hq
 have hXv7:=hXx1.to hq
 have hKv7:=hKx1.t hq
 have hLv7:=hLx1.t hq
 have hBv7:=Tq hBx1 hq
 have hwv7:Ob v7 b0 b0 (.slice (some ⟨b0,0,none⟩) 0 n) 0 (liB 0 (dtF f s a l N)):=⟨own_lt hown rfl,by omega,fun k hk=>by simp [Value.ownBlock]at hk;omega,hown⟩
 clear hq hg7 hown hb0 hBx1 hQx1 hXx1 hKx1 hLx1
 have h6:=HN.out
 go_upto_region 3 with fail
 clear c0 hmk h6
 have hmf:=HMF.out
 go_upto_region 4 with fail
 clear hmf
 go_wp2_with (refine wpList_load_ar rfl _ _ rfl _ _ _ rfl hQv7 Tryz.arr12 (size12 _) ?_)
 refine(hst.out _ (HT.out.to hBv7) (HX.out.keep hBv7)).mono ?_
 rintro e x2 ⟨rfl,hq⟩
 have hQx2:=hQv7.t hq
 have hXx2:=hXv7.to hq
 have hKx2:=hKv7.t hq
 have hLx2:=hLv7.t hq
 have hwx2:=hwv7.to hq
 have hBx2:=Tq hBv7 hq
 clear hq hQv7 hXv7 hKv7 hLv7 hwv7 hBv7
 clear hQx2
 go_upto_region 5 with (first|(refine wpList_store_arE rfl _ _ _ rfl _ _ _ (a) rfl rfl hLx2 (size16b _) ?_;intro z3 he3 hLz3;have HE3:=Lib.hid he3;clear he3)|fail)
 have he3:=HE3.out
 have hXz3:Bv z3 gX 25 (.slice A n c):=by rw [he3];exact hXx2.apart (b:=gL) (by omega) _ 0
 have hKz3:Ar z3 gK 16 (fun _=>0):=by rw [he3];exact hKx2.apart (b:=gL) (by omega) _ 0
 have hwz3:Ob z3 b0 b0 (.slice (some ⟨b0,0,none⟩) 0 n) (0) (liB 0 (dtF f s a l N)):=by rw [he3];exact hwx2.old (by omega) _ 0
 have hBz3:Below w.heap.size w z3:=by rw [he3];exact hBx2.trans ((below_setCells _ gL _ 0).mono (by omega))
 clear he3 HE3 hBx2 hXx2 hKx2 hLx2 hwx2
 try dsimp only [Act.put]
 obtain⟨j1,j2,j3,j4,j5,j6,j7⟩:=HFA.out
 have c0:=hXz3.cell
 have h6:=HN.out
 go_wp2_with fail
 clear j1 j2 j3 j4 j5 j6 j7 c0 h6
 have hK9:=hKz3.ext (f':=ckF (odD f s a l) 0) (fun _ _=>rfl)
 have hL9:=hLz3.ext (f':=atF a s 0) (fun j _=>by rw [atF_zero])
 clear hKz3 hLz3
 have hX9:Bv z3 gX 25 (.slice A (n-16*0) (c-16*0)):=by rw [Nat.mul_zero,Nat.sub_zero,Nat.sub_zero];exact hXz3
 clear hXz3
 go_loopw [6,31] (fun v i wr=> ∃(k:Nat) (A2:Option Addr) (c2 gw:Nat) (AX:Option Addr),k≤N∧i= .int .i64 k∧v= .slice A2 (16*k) c2∧(∀(W:World) (B:Nat),Sl W B A n l→Sl W B AX (n-16*k) (l.drop (16*k)))∧Bv wr gX 25 (.slice AX (n-16*k) (c-16*k))∧Ar wr gK 16 (ckF (odD f s a l) k)∧Ar wr gL 16 (atF a s k)∧Ob wr b0 gw (.slice A2 (16*k) c2) (16*k) (liB (16*k) (dtF f s a l N))∧Below w.heap.size w wr) (fun _ i _=>N-(intOf i).toNat)
 case atStart=>exact⟨0,some ⟨b0,0,none⟩,n,b0,A,Nat.zero_le _,rfl,rfl,fun W B h=>by rw [Nat.mul_zero,Nat.sub_zero,List.drop_zero];exact h,hX9,hK9,hL9,hwz3,hBz3⟩
 case round=>
  clear hX9 hK9 hL9 hwz3 hBz3
  obtain⟨k,A2,c2,gw,AX,hk,rfl,rfl,hax,hXwr,hKwr,hLwr,hwwr,hBwr⟩:=hrel
  have HAX:=Lib.hid hax
  clear hax
  have hlw0:b0≤gw+1:=hwwr.2.1
  by_cases hlt:k<N
  ·have i1:(k:Int)<(N:Int):=by omega
   obtain⟨q1,hq1⟩:=Le (k+1)
   have HQF:=Lib.hid (tfacts hq1 (by have:=HPF.out;omega))
   have HQ1:=Lib.hid hq1
   have HQZ:=Lib.hid (show q1≠0 by omega)
   have HQT:=Lib.hid (show q1<18446744073709551616 by have:=HPF.out;omega)
   have HKN:=Lib.hid hlt
   have HK6:=Lib.hid (show 16*k+16≤n by have:=HNN.out;omega)
   obtain⟨m,hm⟩:=Le (n-16*k)
   obtain⟨cm,hcm⟩:=Le (c-16*k)
   have HM:=Lib.hid hm
   have HCM:=Lib.hid hcm
   have HM16:=Lib.hid (show 16≤m∧m≤cm by have:=HK6.out;have:=HNC.out;omega)
   rw [hm,hcm]at hXwr
   obtain⟨A9,hsl,hsl3⟩:=slice_from AX m cm 16 HM16.out.1 HM16.out.2
   have HSLI:=Lib.hid hsl
   have HAX2:=Lib.hid (show∀(W:World) (B:Nat),Sl W B A n l→Sl W B A9 (n-16*q1) (l.drop (16*q1))from fun W B h=>by
  have h2:=hsl3 W B _ (hm▸HAX.out W B h)
  rw [List.drop_drop]at h2
  rw [show n-16*q1=m-16 by omega,show 16*q1=16*k+16 by omega]
  exact h2)
   have HSLX:=Lib.hid (show Sl wr wr.heap.size AX m (l.drop (16*k))from hm▸HAX.out wr wr.heap.size ((HSS.out.below hBwr).more hBwr.size))
   clear hsl hsl3 hm hcm
   have hlwg:w.heap.size≤gX:=by omega
   have hob:=Lib.hid (atF_lt HAB.out HSL.out k)
   have HST:=Lib.hid (atF_step a s k)
   have HCT:=Lib.hid (show(liB (16*k) (dtF f s a l N)).map b8++arL 16 (opF f (pt l k) (atF a s (k+1)))=(liB (16*(k+1)) (dtF f s a l N)).map b8 by rw [dt_part f s a l N k hlt,List.map_append,liB_b8 16 _ (opF_lt HFB.out (fun j _=>pt_lt l k j) (atF_lt HAB.out HSL.out _))])
   have hkb:=Lib.hid (ckF_lt (odD_lt HFB.out HSL.out HAB.out l) k)
   have HCK:=Lib.hid (show adF (ckF (odD f s a l) k) (opF f (pt l k) (atF a s (k+1)))=ckF (odD f s a l) (k+1)from rfl)
   have hcb:=Lib.hid (opF_lt HFB.out (fun j _=>pt_lt l k j) (atF_lt HAB.out HSL.out (k+1)))
   obtain⟨u0,hu0⟩: ∃u,ckF (odD f s a l) k=u:=⟨_,rfl⟩
   rw [hu0]at hkb HCK hKwr
   obtain⟨ok,hok⟩: ∃u,atF a s k=u:=⟨_,rfl⟩
   rw [hok]at hob HST hLwr
   rw [hq1]at HST HCT HCK hcb
   have hdb:=Lib.hid (dk_lt HSL.out (zer q1+2))
   obtain⟨d,hd⟩: ∃d,dk s (zer q1+2)=d:=⟨_,rfl⟩
   rw [hd]at HST hdb
   have HD:=Lib.hid hd
   have ho1b:=Lib.hid (adF_lt hob.out hdb.out)
   obtain⟨o1,ho1⟩: ∃o1,atF a s q1=o1:=⟨_,rfl⟩
   rw [HST.out,ho1]at ho1b
   rw [ho1]at HST HCT HCK hcb
   have HO1:=Lib.hid ho1
   have hpb:=Lib.hid (show B16 (pt l k)from fun j _=>pt_lt l k j)
   have HPD:=Lib.hid (pt_drop l k)
   obtain⟨P,hP⟩: ∃P,pt l k=P:=⟨_,rfl⟩
   rw [hP]at hpb HCT HCK HPD hcb
   have hxb:=Lib.hid (adF_lt hpb.out ho1b.out)
   have heb:=Lib.hid (show B16 (deF f (adF P o1))from deR_lt HFB.out 10 hxb.out)
   obtain⟨cp,hcp⟩: ∃u,opF f P o1=u:=⟨_,rfl⟩
   have HCPE:=Lib.hid (show adF (deF f (adF P o1)) o1=cp from hcp)
   rw [hcp]at HCT HCK hcb
   clear hok hd hP hq1 ho1 hu0 hcp hlt
   have hmf:=HMF.out
   go_wp2_with fail
   clear hmf
   refine(otake gX 16 (m-16) (cm-16) AX A9 m cm (l.drop (16*k)) wr hXwr HSLX.out (Nat.min_eq_right HM16.out.1) HSLI.out).mono ?_
   rintro e x4 ⟨rfl,hXx4,hAd⟩
   rw [HPD.out]
   have hKx4:=ar_add hKwr (by omega) hAd (by omega) (by omega)
   have hLx4:=ar_add hLwr (by omega) hAd (by omega) (by omega)
   have hwx4:=hwwr.add hAd (by omega)
   have hBx4:=hBwr.trans (hAd.below hBwr.size (by omega) (by omega))
   clear hAd hBwr hXwr hKwr hLwr hwwr
   clear HSLI HSLX HPD
   obtain⟨gb,hgb⟩:=Le (x4.heap.size)
   have hlgXgb:gX<gb:=by rw [←hgb];exact hXx4.lt
   have hlgKgb:gK<gb:=by rw [←hgb];exact hKx4.lt (by omega)
   have hlgLgb:gL<gb:=by rw [←hgb];exact hLx4.lt (by omega)
   have hlgwgb:gw<gb:=by rw [←hgb];exact hwx4.lt
   have hlwgb:w.heap.size≤gb:=by rw [←hgb];exact hBx4.size
   have hq:=Ba x4 (.cells (arL 16 fun _=>0).toArray 22)
   have hXx5a:=hXx4.to hq
   have hKx5a:=hKx4.t hq
   have hLx5a:=hLx4.t hq
   have hwx5a:=hwx4.to hq
   have hbx5a:=Ar.new x4 16 (fun _=>0) 22
   have hBx5a:=hBx4.alloc hBx4.size (.cells (arL 16 fun _=>0).toArray 22)
   rw [hgb]at hbx5a
   clear hq hXx4 hKx4 hLx4 hwx4 hBx4
   go_upto_region 9 with (first|(refine wpList_store_ar rfl _ _ _ rfl _ _ _ (P) rfl rfl hbx5a (size16b _) ?_;intro x5 hbx5 belx5 sizx5 keex5)|fail)
   have hXx5:=(hXx5a).keep hlgXgb belx5
   have hKx5:=(hKx5a).keep hlgKgb belx5
   have hLx5:=(hLx5a).keep hlgLgb belx5
   have hwx5:=(hwx5a).keep hlgwgb belx5
   have hBx5:=hBx5a.trans (belx5.mono hlwgb)
   clear hXx5a hKx5a hLx5a hwx5a hbx5a hBx5a belx5 sizx5 keex5 hgb
   try dsimp only [Act.put]
   obtain⟨j1,j2,j3,j4,j5,j6⟩:=HQF.out
   go_wp2_with (refine wpList_load_ar rfl _ _ rfl _ _ _ rfl hLx5 Tryz.arr16b (size16b _) ?_)
   refine(wnext (.pointer p) f ok s d q1 _ HS0.out HD.out HQZ.out HQT.out HFB.out hob.out (HT.out.to hBx5)).mono ?_
   rintro e x6 ⟨rfl,hq⟩
   rw [HST.out]
   have hXx6:=hXx5.to hq
   have hKx6:=hKx5.t hq
   have hLx6:=hLx5.t hq
   have hwx6:=hwx5.to hq
   have hbx6:=hbx5.t hq
   have hBx6:=Tq hBx5 hq
   clear hq hXx5 hKx5 hLx5 hwx5 hbx5 hBx5
   clear j1 j2 j3 j4 j5 j6
   go_upto_region 10 with (first|(refine wpList_store_arE rfl _ _ _ rfl _ _ _ (o1) rfl rfl hLx6 (size16b _) ?_;intro z7 he3 hLz7;have HE3:=Lib.hid he3;clear he3)|fail)
   have he3:=HE3.out
   have hXz7:Bv z7 gX 25 (.slice A9 (m-16) (cm-16)):=by rw [he3];exact hXx6.apart (b:=gL) (by omega) _ 0
   have hKz7:Ar z7 gK 16 (u0):=by rw [he3];exact hKx6.apart (b:=gL) (by omega) _ 0
   have hwz7:Ob z7 b0 gw (.slice A2 (16*k) c2) (16*k) (liB (16*k) (dtF f s a l N)):=by rw [he3];exact hwx6.old (by omega) _ 0
   have hbz7:Ar z7 gb 16 (P):=by rw [he3];exact hbx6.apart (b:=gL) (by omega) _ 0
   have hBz7:Below w.heap.size w z7:=by rw [he3];exact hBx6.trans ((below_setCells _ gL _ 0).mono (by omega))
   clear he3 HE3 hBx6 hXx6 hKx6 hLx6 hwx6 hbx6
   try dsimp only [Act.put]
   apply wp_region_viaG (F:=fun gy W=>Bv W gX 25 (.slice A9 (m-16) (cm-16))∧Ar W gK 16 (u0)∧Ar W gL 16 (o1)∧Ob W b0 gw (.slice A2 (16*k) c2) (16*k) (liB (16*k) (dtF f s a l N))∧Ar W gb 16 (P)∧Ar W gy 16 (cp)∧gb<gy∧Below w.heap.size w W)
   case h1=>
    refine wp_region_noPanic ?_
    refine wp_region_held_drew (S:=fun W=>Bv W gX 25 (.slice A9 (m-16) (cm-16))∧Ar W gK 16 (u0)∧Ar W gL 16 (o1)∧Ob W b0 gw (.slice A2 (16*k) c2) (16*k) (liB (16*k) (dtF f s a l N))∧Ar W gb 16 (P)∧Below w.heap.size w W) (by kernel_rfl) ⟨hXz7.drew,hKz7.drew,hLz7.drew,hwz7.drew,hbz7.drew,hBz7.drew⟩ (fun hH'=> ?_)
    generalize World.drew z7=tbd at*
    refine tw 0 ?vtb1 rfl ?hytb1 ?resttb1
    case hytb1=>
     intro W hSw
     go_simp
     try with_reducible rfl
    simp only [Act.put,nrm]
    refine tk 2 (.agg (arL 16 (P)).toArray) rfl (yieldsIf_load_mid (by rfl) _ _ rfl gb (0) rfl (arL 16 (P)) _ (fun W hSw=>hSw.2.2.2.2.1.range) Tryz.arr16b rfl (size16b _)) ?_
    simp only [Act.put,nrm]
    refine tk 3 (.agg (arL 16 (o1)).toArray) rfl (yieldsIf_load_mid (by rfl) _ _ rfl gL (0) rfl (arL 16 (o1)) _ (fun W hSw=>hSw.2.2.1.range) Tryz.arr16b rfl (size16b _)) ?_
    simp only [Act.put,nrm]
    refine tk 6 (.agg (arL 16 (o1)).toArray) rfl (yieldsIf_load_mid (by rfl) _ _ rfl gL (0) rfl (arL 16 (o1)) _ (fun W hSw=>hSw.2.2.1.range) Tryz.arr16b rfl (size16b _)) ?_
    simp only [Act.put,nrm]
    refine rd2 1 8 rfl rfl (fun K hK=> ?_) (fun K hK=> ?_)
    ·go_simp
     refine(HCIP.out _ (hH'.2.2.2.2.2)).mono ?_
     rintro e tb2 ⟨rfl,hq⟩
     go_wp2_with fail
     refine hK.out _ _ ⟨hH'.1.to hq,hH'.2.1.t hq,hH'.2.2.1.t hq,hH'.2.2.2.1.to hq,hH'.2.2.2.2.1.t hq,Tq hH'.2.2.2.2.2 hq⟩ ?_
     clear hK K hH' hq
     intro hH'
     try simp only [Act.put,nrm]
     refine rd2 4 8 rfl rfl (fun K hK=> ?_) (fun K hK=> ?_)
     ·go_simp
      refine(bxor P o1 _ hpb.out ho1b.out).mono ?_
      rintro e tb3 ⟨rfl,hq⟩
      go_wp2_with fail
      refine hK.out _ _ ⟨hH'.1.to hq,hH'.2.1.t hq,hH'.2.2.1.t hq,hH'.2.2.2.1.to hq,hH'.2.2.2.2.1.t hq,Tq hH'.2.2.2.2.2 hq⟩ ?_
      clear hK K hH' hq
      intro hH'
      try simp only [Act.put,nrm]
      refine rd2 5 8 rfl rfl (fun K hK=> ?_) (fun K hK=> ?_)
      ·go_simp
       refine(fdecrypt (.pointer p2) f (adF P o1) _ HFB.out hxb.out (HCP.out.to (hH'.2.2.2.2.2)) (HX.out.keep (hH'.2.2.2.2.2))).mono ?_
       rintro e tb4 ⟨rfl,hq⟩
       go_wp2_with fail
       refine hK.out _ _ ⟨hH'.1.to hq,hH'.2.1.t hq,hH'.2.2.1.t hq,hH'.2.2.2.1.to hq,hH'.2.2.2.2.1.t hq,Tq hH'.2.2.2.2.2 hq⟩ ?_
       clear hK K hH' hq
       intro hH'
       try simp only [Act.put,nrm]
       refine rd2 7 8 rfl rfl (fun K hK=> ?_) (fun K hK=> ?_)
       ·go_simp
        refine(bxor (deF f (adF P o1)) o1 _ heb.out ho1b.out).mono ?_
        rintro e tb5 ⟨rfl,hq⟩
        rw [HCPE.out]
        go_wp2_with fail
        refine hK.out _ _ ⟨hH'.1.to hq,hH'.2.1.t hq,hH'.2.2.1.t hq,hH'.2.2.2.1.to hq,hH'.2.2.2.2.1.t hq,Tq hH'.2.2.2.2.2 hq⟩ ?_
        clear hK K hH' hq
        intro hH'
        try simp only [Act.put,nrm]
        refine rd 8 rfl (fun K hK=> ?_)
        obtain⟨gy,hggy⟩:=Le (tb5.heap.size)
        have hlgbgy:gb<gy:=by rw [←hggy];exact(hH'.2.2.2.2.1).lt (by omega)
        have hlgwgy:gw<gy:=by rw [←hggy];exact(hH'.2.2.2.1).lt
        have hlgLgy:gL<gy:=by rw [←hggy];exact(hH'.2.2.1).lt (by omega)
        have hq:=Ba tb5 (.cells (arL 16 fun _=>0).toArray 22)
        have hytb6:=Ar.new tb5 16 (fun _=>0) 22
        rw [hggy]at hytb6
        go_simp
        obtain⟨tb6,hwtb6⟩:=Lv (tb5.alloc (.cells (arL 16 fun _=>0).toArray 22))
        have hytb6:Ar tb6 gy 16 (fun _=>0):=by rw [hwtb6];exact hytb6
        try rw [hggy]
        rw [←hwtb6]
        refine hK.out _ _ (by rw [hwtb6];exact⟨hH'.1.to hq,hH'.2.1.t hq,hH'.2.2.1.t hq,hH'.2.2.2.1.to hq,hH'.2.2.2.2.1.t hq,Tq hH'.2.2.2.2.2 hq⟩) ?_
        clear hK K hH' hq hwtb6 hggy
        intro hH'
        try simp only [Act.put,nrm]
        refine rd 9 rfl (fun K hK=> ?_)
        rw [if_pos (by rfl)]
        refine wp_store_mid _ _ _ rfl gy 0 (arL 16 (cp)).toArray rfl rfl hytb6.there (size16b _) (all_oneCell_toArray (arL_one 16 (cp))) ?_
        have hytb7:=hytb6.whole (cp)
        dsimp only [List.toList_toArray]
        refine hK.out _ _ ⟨(hH'.1).apart (b:=gy) (by omega) (arL 16 (cp)) 0,(hH'.2.1).apart (b:=gy) (by omega) (arL 16 (cp)) 0,(hH'.2.2.1).apart (b:=gy) (by omega) (arL 16 (cp)) 0,(hH'.2.2.2.1).apart (b:=gy) (by omega) (arL 16 (cp)) 0,(hH'.2.2.2.2.1).apart (b:=gy) (by omega) (arL 16 (cp)) 0,(hH'.2.2.2.2.2).trans (Below.setCells (Below.refl w.heap.size _) (b:=gy) (by omega) (arL 16 (cp)) 0)⟩ ?_
        clear hK K hH' hytb6
        intro hH'
        generalize World.setCells tb6 gy 0 (arL 16 (cp))=tb7 at*
        try simp only [Act.put]
        refine wpAnyH_done (by kernel_rfl) ?_ _
        refine NoPanic.normal ?_
        exact⟨rfl,gy,rfl,hH'.1,hH'.2.1,hH'.2.2.1,hH'.2.2.2.1,hH'.2.2.2.2.1,hytb7,by omega,hH'.2.2.2.2.2⟩
       ·obtain⟨gy,hggy⟩:=Le (tb4.heap.size)
        have hlgbgy:gb<gy:=by rw [←hggy];exact(hH'.2.2.2.2.1).lt (by omega)
        have hlgwgy:gw<gy:=by rw [←hggy];exact(hH'.2.2.2.1).lt
        have hlgLgy:gL<gy:=by rw [←hggy];exact(hH'.2.2.1).lt (by omega)
        have hq:=Ba tb4 (.cells (arL 16 fun _=>0).toArray 22)
        have hytb8:=Ar.new tb4 16 (fun _=>0) 22
        rw [hggy]at hytb8
        go_simp
        obtain⟨tb8,hwtb8⟩:=Lv (tb4.alloc (.cells (arL 16 fun _=>0).toArray 22))
        have hytb8:Ar tb8 gy 16 (fun _=>0):=by rw [hwtb8];exact hytb8
        try rw [hggy]
        rw [←hwtb8]
        refine hK.out _ _ (by rw [hwtb8];exact⟨hH'.1.to hq,hH'.2.1.t hq,hH'.2.2.1.t hq,hH'.2.2.2.1.to hq,hH'.2.2.2.2.1.t hq,Tq hH'.2.2.2.2.2 hq⟩) ?_
        clear hK K hH' hq hwtb8 hggy
        intro hH'
        try simp only [Act.put,nrm]
        refine rd 7 rfl (fun K hK=> ?_)
        go_simp
        refine(bxor (deF f (adF P o1)) o1 _ heb.out ho1b.out).mono ?_
        rintro e tb9 ⟨rfl,hq⟩
        rw [HCPE.out]
        go_wp2_with fail
        have hytb9:=hytb8.t hq
        refine hK.out _ _ ⟨hH'.1.to hq,hH'.2.1.t hq,hH'.2.2.1.t hq,hH'.2.2.2.1.to hq,hH'.2.2.2.2.1.t hq,Tq hH'.2.2.2.2.2 hq⟩ ?_
        clear hK K hH' hq hytb8
        intro hH'
        try simp only [Act.put,nrm]
        refine rd 9 rfl (fun K hK=> ?_)
        rw [if_pos (by rfl)]
        refine wp_store_mid _ _ _ rfl gy 0 (arL 16 (cp)).toArray rfl rfl hytb9.there (size16b _) (all_oneCell_toArray (arL_one 16 (cp))) ?_
        have hytb10:=hytb9.whole (cp)
        dsimp only [List.toList_toArray]
        refine hK.out _ _ ⟨(hH'.1).apart (b:=gy) (by omega) (arL 16 (cp)) 0,(hH'.2.1).apart (b:=gy) (by omega) (arL 16 (cp)) 0,(hH'.2.2.1).apart (b:=gy) (by omega) (arL 16 (cp)) 0,(hH'.2.2.2.1).apart (b:=gy) (by omega) (arL 16 (cp)) 0,(hH'.2.2.2.2.1).apart (b:=gy) (by omega) (arL 16 (cp)) 0,(hH'.2.2.2.2.2).trans (Below.setCells (Below.refl w.heap.size _) (b:=gy) (by omega) (arL 16 (cp)) 0)⟩ ?_
        clear hK K hH' hytb9
        intro hH'
        generalize World.setCells tb9 gy 0 (arL 16 (cp))=tb10 at*
        try simp only [Act.put]
        refine wpAnyH_done (by kernel_rfl) ?_ _
        refine NoPanic.normal ?_
        exact⟨rfl,gy,rfl,hH'.1,hH'.2.1,hH'.2.2.1,hH'.2.2.2.1,hH'.2.2.2.2.1,hytb10,by omega,hH'.2.2.2.2.2⟩
      ·obtain⟨gy,hggy⟩:=Le (tb3.heap.size)
       have hlgbgy:gb<gy:=by rw [←hggy];exact(hH'.2.2.2.2.1).lt (by omega)
       have hlgwgy:gw<gy:=by rw [←hggy];exact(hH'.2.2.2.1).lt
       have hlgLgy:gL<gy:=by rw [←hggy];exact(hH'.2.2.1).lt (by omega)
       have hq:=Ba tb3 (.cells (arL 16 fun _=>0).toArray 22)
       have hytb11:=Ar.new tb3 16 (fun _=>0) 22
       rw [hggy]at hytb11
       go_simp
       obtain⟨tb11,hwtb11⟩:=Lv (tb3.alloc (.cells (arL 16 fun _=>0).toArray 22))
       have hytb11:Ar tb11 gy 16 (fun _=>0):=by rw [hwtb11];exact hytb11
       try rw [hggy]
       rw [←hwtb11]
       refine hK.out _ _ (by rw [hwtb11];exact⟨hH'.1.to hq,hH'.2.1.t hq,hH'.2.2.1.t hq,hH'.2.2.2.1.to hq,hH'.2.2.2.2.1.t hq,Tq hH'.2.2.2.2.2 hq⟩) ?_
       clear hK K hH' hq hwtb11 hggy
       intro hH'
       try simp only [Act.put,nrm]
       refine rd 5 rfl (fun K hK=> ?_)
       go_simp
       refine(fdecrypt (.pointer p2) f (adF P o1) _ HFB.out hxb.out (HCP.out.to (hH'.2.2.2.2.2)) (HX.out.keep (hH'.2.2.2.2.2))).mono ?_
       rintro e tb12 ⟨rfl,hq⟩
       go_wp2_with fail
       have hytb12:=hytb11.t hq
       refine hK.out _ _ ⟨hH'.1.to hq,hH'.2.1.t hq,hH'.2.2.1.t hq,hH'.2.2.2.1.to hq,hH'.2.2.2.2.1.t hq,Tq hH'.2.2.2.2.2 hq⟩ ?_
       clear hK K hH' hq hytb11
       intro hH'
       try simp only [Act.put,nrm]
       refine rd 7 rfl (fun K hK=> ?_)
       go_simp
       refine(bxor (deF f (adF P o1)) o1 _ heb.out ho1b.out).mono ?_
       rintro e tb13 ⟨rfl,hq⟩
       rw [HCPE.out]
       go_wp2_with fail
       have hytb13:=hytb12.t hq
       refine hK.out _ _ ⟨hH'.1.to hq,hH'.2.1.t hq,hH'.2.2.1.t hq,hH'.2.2.2.1.to hq,hH'.2.2.2.2.1.t hq,Tq hH'.2.2.2.2.2 hq⟩ ?_
       clear hK K hH' hq hytb12
       intro hH'
       try simp only [Act.put,nrm]
       refine rd 9 rfl (fun K hK=> ?_)
       rw [if_pos (by rfl)]
       refine wp_store_mid _ _ _ rfl gy 0 (arL 16 (cp)).toArray rfl rfl hytb13.there (size16b _) (all_oneCell_toArray (arL_one 16 (cp))) ?_
       have hytb14:=hytb13.whole (cp)
       dsimp only [List.toList_toArray]
       refine hK.out _ _ ⟨(hH'.1).apart (b:=gy) (by omega) (arL 16 (cp)) 0,(hH'.2.1).apart (b:=gy) (by omega) (arL 16 (cp)) 0,(hH'.2.2.1).apart (b:=gy) (by omega) (arL 16 (cp)) 0,(hH'.2.2.2.1).apart (b:=gy) (by omega) (arL 16 (cp)) 0,(hH'.2.2.2.2.1).apart (b:=gy) (by omega) (arL 16 (cp)) 0,(hH'.2.2.2.2.2).trans (Below.setCells (Below.refl w.heap.size _) (b:=gy) (by omega) (arL 16 (cp)) 0)⟩ ?_
       clear hK K hH' hytb13
       intro hH'
       generalize World.setCells tb13 gy 0 (arL 16 (cp))=tb14 at*
       try simp only [Act.put]
       refine wpAnyH_done (by kernel_rfl) ?_ _
       refine NoPanic.normal ?_
       exact⟨rfl,gy,rfl,hH'.1,hH'.2.1,hH'.2.2.1,hH'.2.2.2.1,hH'.2.2.2.2.1,hytb14,by omega,hH'.2.2.2.2.2⟩
     ·obtain⟨gy,hggy⟩:=Le (tb2.heap.size)
      have hlgbgy:gb<gy:=by rw [←hggy];exact(hH'.2.2.2.2.1).lt (by omega)
      have hlgwgy:gw<gy:=by rw [←hggy];exact(hH'.2.2.2.1).lt
      have hlgLgy:gL<gy:=by rw [←hggy];exact(hH'.2.2.1).lt (by omega)
      have hq:=Ba tb2 (.cells (arL 16 fun _=>0).toArray 22)
      have hytb15:=Ar.new tb2 16 (fun _=>0) 22
      rw [hggy]at hytb15
      go_simp
      obtain⟨tb15,hwtb15⟩:=Lv (tb2.alloc (.cells (arL 16 fun _=>0).toArray 22))
      have hytb15:Ar tb15 gy 16 (fun _=>0):=by rw [hwtb15];exact hytb15
      try rw [hggy]
      rw [←hwtb15]
      refine hK.out _ _ (by rw [hwtb15];exact⟨hH'.1.to hq,hH'.2.1.t hq,hH'.2.2.1.t hq,hH'.2.2.2.1.to hq,hH'.2.2.2.2.1.t hq,Tq hH'.2.2.2.2.2 hq⟩) ?_
      clear hK K hH' hq hwtb15 hggy
      intro hH'
      try simp only [Act.put,nrm]
      refine rd 4 rfl (fun K hK=> ?_)
      go_simp
      refine(bxor P o1 _ hpb.out ho1b.out).mono ?_
      rintro e tb16 ⟨rfl,hq⟩
      go_wp2_with fail
      have hytb16:=hytb15.t hq
      refine hK.out _ _ ⟨hH'.1.to hq,hH'.2.1.t hq,hH'.2.2.1.t hq,hH'.2.2.2.1.to hq,hH'.2.2.2.2.1.t hq,Tq hH'.2.2.2.2.2 hq⟩ ?_
      clear hK K hH' hq hytb15
      intro hH'
      try simp only [Act.put,nrm]
      refine rd 5 rfl (fun K hK=> ?_)
      go_simp
      refine(fdecrypt (.pointer p2) f (adF P o1) _ HFB.out hxb.out (HCP.out.to (hH'.2.2.2.2.2)) (HX.out.keep (hH'.2.2.2.2.2))).mono ?_
      rintro e tb17 ⟨rfl,hq⟩
      go_wp2_with fail
      have hytb17:=hytb16.t hq
      refine hK.out _ _ ⟨hH'.1.to hq,hH'.2.1.t hq,hH'.2.2.1.t hq,hH'.2.2.2.1.to hq,hH'.2.2.2.2.1.t hq,Tq hH'.2.2.2.2.2 hq⟩ ?_
      clear hK K hH' hq hytb16
      intro hH'
      try simp only [Act.put,nrm]
      refine rd 7 rfl (fun K hK=> ?_)
      go_simp
      refine(bxor (deF f (adF P o1)) o1 _ heb.out ho1b.out).mono ?_
      rintro e tb18 ⟨rfl,hq⟩
      rw [HCPE.out]
      go_wp2_with fail
      have hytb18:=hytb17.t hq
      refine hK.out _ _ ⟨hH'.1.to hq,hH'.2.1.t hq,hH'.2.2.1.t hq,hH'.2.2.2.1.to hq,hH'.2.2.2.2.1.t hq,Tq hH'.2.2.2.2.2 hq⟩ ?_
      clear hK K hH' hq hytb17
      intro hH'
      try simp only [Act.put,nrm]
      refine rd 9 rfl (fun K hK=> ?_)
      rw [if_pos (by rfl)]
      refine wp_store_mid _ _ _ rfl gy 0 (arL 16 (cp)).toArray rfl rfl hytb18.there (size16b _) (all_oneCell_toArray (arL_one 16 (cp))) ?_
      have hytb19:=hytb18.whole (cp)
      dsimp only [List.toList_toArray]
      refine hK.out _ _ ⟨(hH'.1).apart (b:=gy) (by omega) (arL 16 (cp)) 0,(hH'.2.1).apart (b:=gy) (by omega) (arL 16 (cp)) 0,(hH'.2.2.1).apart (b:=gy) (by omega) (arL 16 (cp)) 0,(hH'.2.2.2.1).apart (b:=gy) (by omega) (arL 16 (cp)) 0,(hH'.2.2.2.2.1).apart (b:=gy) (by omega) (arL 16 (cp)) 0,(hH'.2.2.2.2.2).trans (Below.setCells (Below.refl w.heap.size _) (b:=gy) (by omega) (arL 16 (cp)) 0)⟩ ?_
      clear hK K hH' hytb18
      intro hH'
      generalize World.setCells tb18 gy 0 (arL 16 (cp))=tb19 at*
      try simp only [Act.put]
      refine wpAnyH_done (by kernel_rfl) ?_ _
      refine NoPanic.normal ?_
      exact⟨rfl,gy,rfl,hH'.1,hH'.2.1,hH'.2.2.1,hH'.2.2.2.1,hH'.2.2.2.2.1,hytb19,by omega,hH'.2.2.2.2.2⟩
    ·obtain⟨gy,hggy⟩:=Le (tbd.heap.size)
     have hlgbgy:gb<gy:=by rw [←hggy];exact(hH'.2.2.2.2.1).lt (by omega)
     have hlgwgy:gw<gy:=by rw [←hggy];exact(hH'.2.2.2.1).lt
     have hlgLgy:gL<gy:=by rw [←hggy];exact(hH'.2.2.1).lt (by omega)
     have hq:=Ba tbd (.cells (arL 16 fun _=>0).toArray 22)
     have hytb20:=Ar.new tbd 16 (fun _=>0) 22
     rw [hggy]at hytb20
     go_simp
     obtain⟨tb20,hwtb20⟩:=Lv (tbd.alloc (.cells (arL 16 fun _=>0).toArray 22))
     have hytb20:Ar tb20 gy 16 (fun _=>0):=by rw [hwtb20];exact hytb20
     try rw [hggy]
     rw [←hwtb20]
     refine hK.out _ _ (by rw [hwtb20];exact⟨hH'.1.to hq,hH'.2.1.t hq,hH'.2.2.1.t hq,hH'.2.2.2.1.to hq,hH'.2.2.2.2.1.t hq,Tq hH'.2.2.2.2.2 hq⟩) ?_
     clear hK K hH' hq hwtb20 hggy
     intro hH'
     try simp only [Act.put,nrm]
     refine rd 1 rfl (fun K hK=> ?_)
     go_simp
     refine(HCIP.out _ (hH'.2.2.2.2.2)).mono ?_
     rintro e tb21 ⟨rfl,hq⟩
     go_wp2_with fail
     have hytb21:=hytb20.t hq
     refine hK.out _ _ ⟨hH'.1.to hq,hH'.2.1.t hq,hH'.2.2.1.t hq,hH'.2.2.2.1.to hq,hH'.2.2.2.2.1.t hq,Tq hH'.2.2.2.2.2 hq⟩ ?_
     clear hK K hH' hq hytb20
     intro hH'
     try simp only [Act.put,nrm]
     refine rd 4 rfl (fun K hK=> ?_)
     go_simp
     refine(bxor P o1 _ hpb.out ho1b.out).mono ?_
     rintro e tb22 ⟨rfl,hq⟩
     go_wp2_with fail
     have hytb22:=hytb21.t hq
     refine hK.out _ _ ⟨hH'.1.to hq,hH'.2.1.t hq,hH'.2.2.1.t hq,hH'.2.2.2.1.to hq,hH'.2.2.2.2.1.t hq,Tq hH'.2.2.2.2.2 hq⟩ ?_
     clear hK K hH' hq hytb21
     intro hH'
     try simp only [Act.put,nrm]
     refine rd 5 rfl (fun K hK=> ?_)
     go_simp
     refine(fdecrypt (.pointer p2) f (adF P o1) _ HFB.out hxb.out (HCP.out.to (hH'.2.2.2.2.2)) (HX.out.keep (hH'.2.2.2.2.2))).mono ?_
     rintro e tb23 ⟨rfl,hq⟩
     go_wp2_with fail
     have hytb23:=hytb22.t hq
     refine hK.out _ _ ⟨hH'.1.to hq,hH'.2.1.t hq,hH'.2.2.1.t hq,hH'.2.2.2.1.to hq,hH'.2.2.2.2.1.t hq,Tq hH'.2.2.2.2.2 hq⟩ ?_
     clear hK K hH' hq hytb22
     intro hH'
     try simp only [Act.put,nrm]
     refine rd 7 rfl (fun K hK=> ?_)
     go_simp
     refine(bxor (deF f (adF P o1)) o1 _ heb.out ho1b.out).mono ?_
     rintro e tb24 ⟨rfl,hq⟩
     rw [HCPE.out]
     go_wp2_with fail
     have hytb24:=hytb23.t hq
     refine hK.out _ _ ⟨hH'.1.to hq,hH'.2.1.t hq,hH'.2.2.1.t hq,hH'.2.2.2.1.to hq,hH'.2.2.2.2.1.t hq,Tq hH'.2.2.2.2.2 hq⟩ ?_
     clear hK K hH' hq hytb23
     intro hH'
     try simp only [Act.put,nrm]
     refine rd 9 rfl (fun K hK=> ?_)
     rw [if_pos (by rfl)]
     refine wp_store_mid _ _ _ rfl gy 0 (arL 16 (cp)).toArray rfl rfl hytb24.there (size16b _) (all_oneCell_toArray (arL_one 16 (cp))) ?_
     have hytb25:=hytb24.whole (cp)
     dsimp only [List.toList_toArray]
     refine hK.out _ _ ⟨(hH'.1).apart (b:=gy) (by omega) (arL 16 (cp)) 0,(hH'.2.1).apart (b:=gy) (by omega) (arL 16 (cp)) 0,(hH'.2.2.1).apart (b:=gy) (by omega) (arL 16 (cp)) 0,(hH'.2.2.2.1).apart (b:=gy) (by omega) (arL 16 (cp)) 0,(hH'.2.2.2.2.1).apart (b:=gy) (by omega) (arL 16 (cp)) 0,(hH'.2.2.2.2.2).trans (Below.setCells (Below.refl w.heap.size _) (b:=gy) (by omega) (arL 16 (cp)) 0)⟩ ?_
     clear hK K hH' hytb24
     intro hH'
     generalize World.setCells tb24 gy 0 (arL 16 (cp))=tb25 at*
     try simp only [Act.put]
     refine wpAnyH_done (by kernel_rfl) ?_ _
     refine NoPanic.normal ?_
     exact⟨rfl,gy,rfl,hH'.1,hH'.2.1,hH'.2.2.1,hH'.2.2.2.1,hH'.2.2.2.2.1,hytb25,by omega,hH'.2.2.2.2.2⟩
   rintro gy x8 ⟨hXx8,hKx8,hLx8,hwx8,hbx8,hyx8,hlgy,hBx8⟩
   clear hXz7 hKz7 hLz7 hwz7 hbz7 hBz7
   clear hbx8
   have hsla:=slice16all2 gy
   have hbs:b0≤x8.heap.size:=by have h1:=hwx8.1;have h2:=hwx8.2.1;omega
   go_upto_region 12 with (first|(at_builtin;refine wpList_append_own _ rfl _ _ 25 rfl b0 5 i0 (.int .u8 0) 1 1 Tryz.underlying25 HI0.out HZ0.out HZ1.out HZ2.out (by decide) (by decide) _ _ _ rfl hwx8.2.2.2 ⟨gy,0,none⟩ 16 16 (arL 16 (cp)) rfl (by simp [arL_len]) hyx8.src (arL_one 16 _) (by have e1:=HN.out;have e2:=HK6.out;unfold maxLen;omega) (by have e1:=HN.out;have e2:=HK6.out;omega) hbs ?_;intro v8 z9 hown8 hgrow8 _;obtain⟨A3,c3,rfl⟩:=own_shape hown8)|fail)
   have k8:Below b0 x8 z9:=(Below.refl _ _).grown hgrow8 hbs (fun g hg=>own_block hwx8.2.2.2 hg)
   have hO8:Ow8 z9 b0 (.slice A3 (16*k+16) c3) (16*k+16) (liB (16*q1) (dtF f s a l N)):=by unfold Ow8;rw [←HCT.out];exact hown8
   have hsz8:=k8.size
   obtain⟨g3,hg3⟩:=Le (z9.heap.size-1)
   have hXz9:=hXx8.keep (by omega) k8
   have hKz9:=hKx8.keep (by omega) k8
   have hLz9:=hLx8.keep (by omega) k8
   have hyz9:=ar_grown hyx8 (by omega) hgrow8 (Ob.ne hwx8 (by omega))
   have hwz9:Ob z9 b0 g3 (.slice A3 (16*k+16) c3) (16*k+16) (liB (16*q1) (dtF f s a l N)):=by rw [←hg3];exact Ob.new hO8 (by omega) (by have:=hLz9.lt (by omega);omega)
   have hBz9:=hBx8.trans (k8.mono (by omega))
   clear hown8 hgrow8 k8 hO8 hsz8 hbs hg3 hBx8 hXx8 hKx8 hLx8 hwx8 hyx8
   try dsimp only [Act.put]
   clear hsla HCT
   go_wp2_with (first|(refine wpList_load_ar rfl _ _ rfl _ _ _ rfl hKz9 Tryz.arr16b (size16b _) ?_)|(refine wpList_load_ar rfl _ _ rfl _ _ _ rfl hyz9 Tryz.arr16b (size16b _) ?_))
   refine(bxor u0 cp _ hkb.out hcb.out).mono ?_
   rintro e x10 ⟨rfl,hq⟩
   rw [HCK.out]
   have hXx10:=hXz9.to hq
   have hKx10:=hKz9.t hq
   have hLx10:=hLz9.t hq
   have hwx10:=hwz9.to hq
   have hyx10:=hyz9.t hq
   have hBx10:=Tq hBz9 hq
   clear hq hXz9 hKz9 hLz9 hwz9 hyz9 hBz9
   clear hyx10
   go_upto_region 13 with (first|(refine wpList_store_arE rfl _ _ _ rfl _ _ _ (ckF (odD f s a l) q1) rfl rfl hKx10 (size16b _) ?_;intro z11 he3 hKz11;have HE3:=Lib.hid he3;clear he3)|fail)
   have he3:=HE3.out
   have hXz11:Bv z11 gX 25 (.slice A9 (m-16) (cm-16)):=by rw [he3];exact hXx10.apart (b:=gK) (by omega) _ 0
   have hLz11:Ar z11 gL 16 (o1):=by rw [he3];exact hLx10.apart (b:=gK) (by omega) _ 0
   have hwz11:Ob z11 b0 g3 (.slice A3 (16*k+16) c3) (16*k+16) (liB (16*q1) (dtF f s a l N)):=by rw [he3];exact hwx10.old (by omega) _ 0
   have hBz11:Below w.heap.size w z11:=by rw [he3];exact hBx10.trans ((below_setCells _ gK _ 0).mono (by omega))
   clear he3 HE3 hBx10 hXx10 hKx10 hLx10 hwx10
   try dsimp only [Act.put]
   go_wp2_with fail
   go_roundw
   case rel=>exact⟨q1,A3,c3,g3,A9,by have h9:=HQ1.out;have:=HKN.out;omega,by first|go_num|(rw [HQF.out.2.1])|(rw [HQF.out.1]),by rw [←HQ1.out];rfl,HAX2.out,by rw [show n-16*q1=m-16 by have:=HQ1.out;have:=HM.out;omega,show c-16*q1=cm-16 by have:=HQ1.out;have:=HCM.out;omega];exact hXz11,hKz11,by rw [HO1.out];exact hLz11,by have h9:=hwz11;rw [show 16*k+16=16*q1 by have:=HQ1.out;omega]at h9;exact h9,hBz11⟩
   case measure=>(try rw [HQF.out.2.1]);simp [intOf];have h9:=HQ1.out;have:=HKN.out;omega
  ·have e:N=k:=by omega
   subst e
   have i1: ¬(N:Int)<(N:Int):=by omega
   clear hk hlt
   have hlwg:w.heap.size≤gX:=by omega
   obtain⟨cm,hcm⟩:=Le (c-16*N)
   rw [hcm]at hXwr
   rw [HO.out,HR0.out]at hXwr
   rw [HO.out]at hwwr
   try rw [HO.out]
   have HPR:=Lib.hid (show r≤cm∧r<16∧r≤16 by have:=HPF.out;have:=HNC.out;have:=HO.out;have:=HR0.out;omega)
   obtain⟨A9,hsl,hsl3⟩:=slice_from AX r cm r (Nat.le_refl _) HPR.out.1
   have HSLI:=Lib.hid hsl
   have HSLX:=Lib.hid (show Sl wr wr.heap.size AX r (l.drop o)from by
  have h9:=HAX.out wr wr.heap.size ((HSS.out.below hBwr).more hBwr.size)
  rw [HO.out,HR0.out]at h9
  exact h9)
   clear hsl hsl3 hcm
   have HDN:=Lib.hid (fun h=>cs_dt_none (r:=r) HFB.out HSL.out HAB.out HLEN.out HNN.out HPF.out.1 h)
   have HDS:=Lib.hid (fun h Q hQ=>cs_dt_some (r:=r) (P:=Q) HFB.out HSL.out HAB.out HLEN.out HNN.out HPF.out.1 h HO.out hQ)
   have HON:=Lib.hid (fun h=>of_none (s:=s) (a:=a) (r:=r) HNN.out HPF.out.1 h)
   have HOS:=Lib.hid (fun h=>of_some (s:=s) (a:=a) (r:=r) HNN.out HPF.out.1 h)
   have HTL:=Lib.hid (dt_tail (f:=f) (s:=s) (a:=a) HLEN.out HNN.out HO.out HR0.out)
   have HDR:=Lib.hid (dt_drop (f:=f) (s:=s) (a:=a) HLEN.out HNN.out HO.out HR0.out)
   have HDE:=Lib.hid (dt_eq (f:=f) (s:=s) (a:=a) HLEN.out HNN.out)
   have hkb:=Lib.hid (ckF_lt (odD_lt HFB.out HSL.out HAB.out l) N)
   have hab:=Lib.hid (atF_lt HAB.out HSL.out N)
   have htb:=Lib.hid (show B16 (lF (l.drop o))from fun _ _=>lF_lt _ _)
   obtain⟨u0,hu0⟩: ∃u,ckF (odD f s a l) N=u:=⟨_,rfl⟩
   rw [hu0]at hkb HDN HDS hKwr
   obtain⟨an,han⟩: ∃u,atF a s N=u:=⟨_,rfl⟩
   rw [han]at hab HON HOS HTL HDR hLwr
   obtain⟨T,hT⟩: ∃u,lF (l.drop o)=u:=⟨_,rfl⟩
   rw [hT]at htb HTL HDR
   have HTE:=Lib.hid hT
   clear hu0 han hT
   have hmf:=HMF.out
   go_wp2_with fail
   clear hmf
   refine(otake gX r (r-r) (cm-r) AX A9 r cm (l.drop o) wr hXwr HSLX.out (Nat.min_eq_left HPR.out.2.2) HSLI.out).mono ?_
   rintro e x12 ⟨rfl,hXx12,hAd⟩
   rw [HTE.out]
   have hKx12:=ar_add hKwr (by omega) hAd (by omega) (by omega)
   have hLx12:=ar_add hLwr (by omega) hAd (by omega) (by omega)
   have hwx12:=hwwr.add hAd (by omega)
   have hBx12:=hBwr.trans (hAd.below hBwr.size (by omega) (by omega))
   clear hAd hBwr hXwr hKwr hLwr hwwr
   clear i1
   clear HSLI HSLX HTE
   clear hXx12
   obtain⟨gb,hgb⟩:=Le (x12.heap.size)
   have hlgKgb:gK<gb:=by rw [←hgb];exact hKx12.lt (by omega)
   have hlgLgb:gL<gb:=by rw [←hgb];exact hLx12.lt (by omega)
   have hlgwgb:gw<gb:=by rw [←hgb];exact hwx12.lt
   have hlwgb:w.heap.size≤gb:=by rw [←hgb];exact hBx12.size
   have hq:=Ba x12 (.cells (arL 16 fun _=>0).toArray 22)
   have hKx13a:=hKx12.t hq
   have hLx13a:=hLx12.t hq
   have hwx13a:=hwx12.to hq
   have hbx13a:=Ar.new x12 16 (fun _=>0) 22
   have hBx13a:=hBx12.alloc hBx12.size (.cells (arL 16 fun _=>0).toArray 22)
   rw [hgb]at hbx13a
   clear hq hKx12 hLx12 hwx12 hBx12
   go_upto_region 15 with (first|(refine wpList_store_ar rfl _ _ _ rfl _ _ _ (T) rfl rfl hbx13a (size16b _) ?_;intro x13 hbx13 belx13 sizx13 keex13)|fail)
   have hKx13:=(hKx13a).keep hlgKgb belx13
   have hLx13:=(hLx13a).keep hlgLgb belx13
   have hwx13:=(hwx13a).keep hlgwgb belx13
   have hBx13:=hBx13a.trans (belx13.mono hlwgb)
   clear hKx13a hLx13a hwx13a hbx13a hBx13a belx13 sizx13 keex13 hgb
   try dsimp only [Act.put]
   by_cases hr0:r=0
   ·have jr: ¬(0:Int)<(r:Int):=by omega
    have HR9:=Lib.hid hr0
    clear hr0
    go_upto_region 21 with fail
    clear jr
    refine wp_region_noPanic ?_
    refine wp_region_held_drew (S:=fun W=>Ar W gK 16 (u0)∧Ar W gL 16 (an)∧Ob W b0 gw (.slice A2 o c2) (o) (liB o (dtF f s a l N))∧Below w.heap.size w W) (by kernel_rfl) ⟨hKx13.drew,hLx13.drew,hwx13.drew,hBx13.drew⟩ (fun hH'=> ?_)
    clear hKx13 hLx13 hwx13 hbx13 hBx13
    generalize World.drew x13=fad at*
    refine tw 0 ?vfa1 rfl ?hyfa1 ?restfa1
    case hyfa1=>
     intro W hSw
     go_simp
     try with_reducible rfl
    simp only [Act.put,nrm]
    refine tk 1 (.agg (arL 16 (u0)).toArray) rfl (yieldsIf_load_mid (by rfl) _ _ rfl gK (0) rfl (arL 16 (u0)) _ (fun W hSw=>hSw.1.range) Tryz.arr16b rfl (size16b _)) ?_
    simp only [Act.put,nrm]
    refine tk 2 (.agg (arL 16 (an)).toArray) rfl (yieldsIf_load_mid (by rfl) _ _ rfl gL (0) rfl (arL 16 (an)) _ (fun W hSw=>hSw.2.1.range) Tryz.arr16b rfl (size16b _)) ?_
    simp only [Act.put,nrm]
    refine tw 3 ?vfa2 rfl ?hyfa2 ?restfa2
    case hyfa2=>
     intro W hSw
     go_simp
     try with_reducible rfl
    simp only [Act.put,nrm]
    refine rd 4 rfl (fun K hK=> ?_)
    rw [if_pos (by rfl)]
    refine wp_store_mid _ _ _ rfl gK 0 (arL 16 (u0)).toArray rfl rfl (hH'.1).there (size16b _) (all_oneCell_toArray (arL_one 16 (u0))) ?_
    dsimp only [List.toList_toArray]
    refine hK.out _ _ ⟨(hH'.1).whole (u0),(hH'.2.1).apart (b:=gK) (by omega) (arL 16 (u0)) 0,(hH'.2.2.1).old (by omega) (arL 16 (u0)) 0,(hH'.2.2.2).trans (Below.setCells (Below.refl w.heap.size _) (b:=gK) (by omega) (arL 16 (u0)) 0)⟩ ?_
    clear hK K hH'
    intro hH'
    generalize World.setCells fad gK 0 (arL 16 (u0))=fa3 at*
    try simp only [Act.put]
    refine rd 5 rfl (fun K hK=> ?_)
    rw [if_pos (by rfl)]
    refine wp_store_mid _ _ _ rfl gL 0 (arL 16 (an)).toArray rfl rfl (hH'.2.1).there (size16b _) (all_oneCell_toArray (arL_one 16 (an))) ?_
    dsimp only [List.toList_toArray]
    refine hK.out _ _ ⟨(hH'.1).apart (b:=gL) (by omega) (arL 16 (an)) 0,(hH'.2.1).whole (an),(hH'.2.2.1).old (by omega) (arL 16 (an)) 0,(hH'.2.2.2).trans (Below.setCells (Below.refl w.heap.size _) (b:=gL) (by omega) (arL 16 (an)) 0)⟩ ?_
    clear hK K hH'
    intro hH'
    generalize World.setCells fa3 gL 0 (arL 16 (an))=fa4 at*
    try simp only [Act.put]
    refine wpAnyH_done (by kernel_rfl) ?_ _
    refine NoPanic.normal ?_
    try dsimp only [Act.put]
    obtain⟨hK9,hL9,hw9,hB9⟩:=hH'
    go_wp2_with fail
    refine bodyPost_ret (v:= .tuple #[.slice A2 o c2,.agg (arL 16 (u0)).toArray,.agg (arL 16 (an)).toArray]) (results_pcr rfl rfl rfl rfl hK9 hL9 Tryz.arr16b (size16b _) (size16b _)) rfl ⟨A2,c2,by rw [HDN.out HR9.out,HON.out HR9.out,show o=n by have:=HPF.out;have:=HR9.out;omega],(by
  have h9:=hw9.2.2.2
  have e9:o=n:=by have:=HPF.out;have:=HR9.out;omega
  rw [←HDE.out]
  rw [e9]at h9
  exact own_more h9 (by omega)),hB9⟩
   ·have jr:(0:Int)<(r:Int):=by omega
    have HR9:=Lib.hid hr0
    clear hr0
    have ho2b:=Lib.hid (adF_lt hab.out HSL.out)
    obtain⟨o2,ho2⟩: ∃u,adF an s=u:=⟨_,rfl⟩
    rw [ho2]at ho2b HOS HTL HDR
    have HO2:=Lib.hid ho2
    have hpdb:=Lib.hid (show B16 (enF f o2)from enR_lt HFB.out ho2b.out 10)
    have hrb:=Lib.hid (adF_lt htb.out hpdb.out)
    obtain⟨rs,hrs⟩: ∃u,adF T (enF f o2)=u:=⟨_,rfl⟩
    rw [hrs]at HTL HDR hrb
    have HRS:=Lib.hid hrs
    clear ho2 hrs
    go_upto_region 16 with fail
    clear jr
    apply wp_region_via (F:=fun W=>Ar W gK 16 (u0)∧Ob W b0 gw (.slice A2 o c2) (o) (liB o (dtF f s a l N))∧Ar W gb 16 (T)∧Ar W gL 16 (o2)∧Below w.heap.size w W)
    case h1=>
     refine wp_region_noPanic ?_
     have hLtcd:=hLx13.drew
     refine wp_region_held_drew (S:=fun W=>Ar W gK 16 (u0)∧Ob W b0 gw (.slice A2 o c2) (o) (liB o (dtF f s a l N))∧Ar W gb 16 (T)∧Below w.heap.size w W) (by kernel_rfl) ⟨hKx13.drew,hwx13.drew,hbx13.drew,hBx13.drew⟩ (fun hH'=> ?_)
     generalize World.drew x13=tcd at*
     refine tw 1 ?vtc1 rfl ?hytc1 ?resttc1
     case hytc1=>
      intro W hSw
      go_simp
      try with_reducible rfl
     simp only [Act.put,nrm]
     refine rd2 0 2 rfl rfl (fun K hK=> ?_) (fun K hK=> ?_)
     ·rw [if_pos (by rfl)]
      refine wp_load_mid _ _ rfl gL 0 rfl (arL 16 (an)) _ hLtcd.range Tryz.arr16b rfl (size16b _) ?_
      refine hK.out _ _ hH' ?_
      clear hK K hH'
      intro hH'
      try simp only [Act.put,nrm]
      refine rd 2 rfl (fun K hK=> ?_)
      go_simp
      refine(tstar (.pointer p) p2 s _ (HV.out.to (hH'.2.2.2))).mono ?_
      rintro e tc2 ⟨rfl,hq⟩
      go_wp2_with fail
      have hLtc2:=hLtcd.t hq
      refine hK.out _ _ ⟨hH'.1.t hq,hH'.2.1.to hq,hH'.2.2.1.t hq,Tq hH'.2.2.2 hq⟩ ?_
      clear hK K hH' hq hLtcd
      intro hH'
      try simp only [Act.put,nrm]
      refine rd 3 rfl (fun K hK=> ?_)
      go_simp
      refine(bxor an s _ hab.out HSL.out).mono ?_
      rintro e tc3 ⟨rfl,hq⟩
      rw [HO2.out]
      go_wp2_with fail
      have hLtc3:=hLtc2.t hq
      refine hK.out _ _ ⟨hH'.1.t hq,hH'.2.1.to hq,hH'.2.2.1.t hq,Tq hH'.2.2.2 hq⟩ ?_
      clear hK K hH' hq hLtc2
      intro hH'
      try simp only [Act.put,nrm]
      refine rd 4 rfl (fun K hK=> ?_)
      rw [if_pos (by rfl)]
      refine wp_store_mid _ _ _ rfl gL 0 (arL 16 (o2)).toArray rfl rfl hLtc3.there (size16b _) (all_oneCell_toArray (arL_one 16 (o2))) ?_
      have hLtc4:=hLtc3.whole (o2)
      dsimp only [List.toList_toArray]
      refine hK.out _ _ ⟨(hH'.1).apart (b:=gL) (by omega) (arL 16 (o2)) 0,(hH'.2.1).old (by omega) (arL 16 (o2)) 0,(hH'.2.2.1).apart (b:=gL) (by omega) (arL 16 (o2)) 0,(hH'.2.2.2).trans (Below.setCells (Below.refl w.heap.size _) (b:=gL) (by omega) (arL 16 (o2)) 0)⟩ ?_
      clear hK K hH' hLtc3
      intro hH'
      generalize World.setCells tc3 gL 0 (arL 16 (o2))=tc4 at*
      try simp only [Act.put]
      refine wpAnyH_done (by kernel_rfl) ?_ _
      refine NoPanic.normal ?_
      exact⟨rfl,rfl,hH'.1,hH'.2.1,hH'.2.2.1,hLtc4,hH'.2.2.2⟩
     ·go_simp
      refine(tstar (.pointer p) p2 s _ (HV.out.to (hH'.2.2.2))).mono ?_
      rintro e tc5 ⟨rfl,hq⟩
      go_wp2_with fail
      have hLtc5:=hLtcd.t hq
      refine hK.out _ _ ⟨hH'.1.t hq,hH'.2.1.to hq,hH'.2.2.1.t hq,Tq hH'.2.2.2 hq⟩ ?_
      clear hK K hH' hq hLtcd
      intro hH'
      try simp only [Act.put,nrm]
      refine rd 0 rfl (fun K hK=> ?_)
      rw [if_pos (by rfl)]
      refine wp_load_mid _ _ rfl gL 0 rfl (arL 16 (an)) _ hLtc5.range Tryz.arr16b rfl (size16b _) ?_
      refine hK.out _ _ hH' ?_
      clear hK K hH'
      intro hH'
      try simp only [Act.put,nrm]
      refine rd 3 rfl (fun K hK=> ?_)
      go_simp
      refine(bxor an s _ hab.out HSL.out).mono ?_
      rintro e tc6 ⟨rfl,hq⟩
      rw [HO2.out]
      go_wp2_with fail
      have hLtc6:=hLtc5.t hq
      refine hK.out _ _ ⟨hH'.1.t hq,hH'.2.1.to hq,hH'.2.2.1.t hq,Tq hH'.2.2.2 hq⟩ ?_
      clear hK K hH' hq hLtc5
      intro hH'
      try simp only [Act.put,nrm]
      refine rd 4 rfl (fun K hK=> ?_)
      rw [if_pos (by rfl)]
      refine wp_store_mid _ _ _ rfl gL 0 (arL 16 (o2)).toArray rfl rfl hLtc6.there (size16b _) (all_oneCell_toArray (arL_one 16 (o2))) ?_
      have hLtc7:=hLtc6.whole (o2)
      dsimp only [List.toList_toArray]
      refine hK.out _ _ ⟨(hH'.1).apart (b:=gL) (by omega) (arL 16 (o2)) 0,(hH'.2.1).old (by omega) (arL 16 (o2)) 0,(hH'.2.2.1).apart (b:=gL) (by omega) (arL 16 (o2)) 0,(hH'.2.2.2).trans (Below.setCells (Below.refl w.heap.size _) (b:=gL) (by omega) (arL 16 (o2)) 0)⟩ ?_
      clear hK K hH' hLtc6
      intro hH'
      generalize World.setCells tc6 gL 0 (arL 16 (o2))=tc7 at*
      try simp only [Act.put]
      refine wpAnyH_done (by kernel_rfl) ?_ _
      refine NoPanic.normal ?_
      exact⟨rfl,rfl,hH'.1,hH'.2.1,hH'.2.2.1,hLtc7,hH'.2.2.2⟩
    rintro x14 ⟨hKx14,hwx14,hbx14,hLx14,hBx14⟩
    clear hKx13 hwx13 hbx13 hLx13 hBx13
    go_upto_region 17 with fail
    apply wp_region_viaG (F:=fun gy W=>Ar W gK 16 (u0)∧Ob W b0 gw (.slice A2 o c2) (o) (liB o (dtF f s a l N))∧Ar W gb 16 (T)∧Ar W gL 16 (o2)∧Ar W gy 16 (rs)∧gb<gy∧Below w.heap.size w W)
    case h1=>
     refine wp_region_noPanic ?_
     refine wp_region_held_drew (S:=fun W=>Ar W gK 16 (u0)∧Ob W b0 gw (.slice A2 o c2) (o) (liB o (dtF f s a l N))∧Ar W gb 16 (T)∧Ar W gL 16 (o2)∧Below w.heap.size w W) (by kernel_rfl) ⟨hKx14.drew,hwx14.drew,hbx14.drew,hLx14.drew,hBx14.drew⟩ (fun hH'=> ?_)
     generalize World.drew x14=tdd at*
     refine tk 0 (.agg (arL 16 (T)).toArray) rfl (yieldsIf_load_mid (by rfl) _ _ rfl gb (0) rfl (arL 16 (T)) _ (fun W hSw=>hSw.2.2.1.range) Tryz.arr16b rfl (size16b _)) ?_
     simp only [Act.put,nrm]
     refine tw 1 ?vtd1 rfl ?hytd1 ?resttd1
     case hytd1=>
      intro W hSw
      go_simp
      try with_reducible rfl
     simp only [Act.put,nrm]
     refine tk 3 (.agg (arL 16 (o2)).toArray) rfl (yieldsIf_load_mid (by rfl) _ _ rfl gL (0) rfl (arL 16 (o2)) _ (fun W hSw=>hSw.2.2.2.1.range) Tryz.arr16b rfl (size16b _)) ?_
     simp only [Act.put,nrm]
     refine rd2 2 6 rfl rfl (fun K hK=> ?_) (fun K hK=> ?_)
     ·go_simp
      refine(HCIP.out _ (hH'.2.2.2.2)).mono ?_
      rintro e td2 ⟨rfl,hq⟩
      go_wp2_with fail
      refine hK.out _ _ ⟨hH'.1.t hq,hH'.2.1.to hq,hH'.2.2.1.t hq,hH'.2.2.2.1.t hq,Tq hH'.2.2.2.2 hq⟩ ?_
      clear hK K hH' hq
      intro hH'
      try simp only [Act.put,nrm]
      refine rd2 4 6 rfl rfl (fun K hK=> ?_) (fun K hK=> ?_)
      ·go_simp
       refine(fencrypt (.pointer p2) f o2 _ HFB.out ho2b.out (HCP.out.to (hH'.2.2.2.2)) (HX.out.keep (hH'.2.2.2.2))).mono ?_
       rintro e td3 ⟨rfl,hq⟩
       go_wp2_with fail
       refine hK.out _ _ ⟨hH'.1.t hq,hH'.2.1.to hq,hH'.2.2.1.t hq,hH'.2.2.2.1.t hq,Tq hH'.2.2.2.2 hq⟩ ?_
       clear hK K hH' hq
       intro hH'
       try simp only [Act.put,nrm]
       refine rd2 5 6 rfl rfl (fun K hK=> ?_) (fun K hK=> ?_)
       ·go_simp
        refine(bxor T (enF f o2) _ htb.out hpdb.out).mono ?_
        rintro e td4 ⟨rfl,hq⟩
        rw [HRS.out]
        go_wp2_with fail
        refine hK.out _ _ ⟨hH'.1.t hq,hH'.2.1.to hq,hH'.2.2.1.t hq,hH'.2.2.2.1.t hq,Tq hH'.2.2.2.2 hq⟩ ?_
        clear hK K hH' hq
        intro hH'
        try simp only [Act.put,nrm]
        refine rd 6 rfl (fun K hK=> ?_)
        obtain⟨gy,hggy⟩:=Le (td4.heap.size)
        have hlgbgy:gb<gy:=by rw [←hggy];exact(hH'.2.2.1).lt (by omega)
        have hlgwgy:gw<gy:=by rw [←hggy];exact(hH'.2.1).lt
        have hlgLgy:gL<gy:=by rw [←hggy];exact(hH'.2.2.2.1).lt (by omega)
        have hq:=Ba td4 (.cells (arL 16 fun _=>0).toArray 22)
        have hytd5:=Ar.new td4 16 (fun _=>0) 22
        rw [hggy]at hytd5
        go_simp
        obtain⟨td5,hwtd5⟩:=Lv (td4.alloc (.cells (arL 16 fun _=>0).toArray 22))
        have hytd5:Ar td5 gy 16 (fun _=>0):=by rw [hwtd5];exact hytd5
        try rw [hggy]
        rw [←hwtd5]
        refine hK.out _ _ (by rw [hwtd5];exact⟨hH'.1.t hq,hH'.2.1.to hq,hH'.2.2.1.t hq,hH'.2.2.2.1.t hq,Tq hH'.2.2.2.2 hq⟩) ?_
        clear hK K hH' hq hwtd5 hggy
        intro hH'
        try simp only [Act.put,nrm]
        refine rd 7 rfl (fun K hK=> ?_)
        rw [if_pos (by rfl)]
        refine wp_store_mid _ _ _ rfl gy 0 (arL 16 (rs)).toArray rfl rfl hytd5.there (size16b _) (all_oneCell_toArray (arL_one 16 (rs))) ?_
        have hytd6:=hytd5.whole (rs)
        dsimp only [List.toList_toArray]
        refine hK.out _ _ ⟨(hH'.1).apart (b:=gy) (by omega) (arL 16 (rs)) 0,(hH'.2.1).apart (b:=gy) (by omega) (arL 16 (rs)) 0,(hH'.2.2.1).apart (b:=gy) (by omega) (arL 16 (rs)) 0,(hH'.2.2.2.1).apart (b:=gy) (by omega) (arL 16 (rs)) 0,(hH'.2.2.2.2).trans (Below.setCells (Below.refl w.heap.size _) (b:=gy) (by omega) (arL 16 (rs)) 0)⟩ ?_
        clear hK K hH' hytd5
        intro hH'
        generalize World.setCells td5 gy 0 (arL 16 (rs))=td6 at*
        try simp only [Act.put]
        refine wpAnyH_done (by kernel_rfl) ?_ _
        refine NoPanic.normal ?_
        exact⟨rfl,gy,rfl,hH'.1,hH'.2.1,hH'.2.2.1,hH'.2.2.2.1,hytd6,by omega,hH'.2.2.2.2⟩
       ·obtain⟨gy,hggy⟩:=Le (td3.heap.size)
        have hlgbgy:gb<gy:=by rw [←hggy];exact(hH'.2.2.1).lt (by omega)
        have hlgwgy:gw<gy:=by rw [←hggy];exact(hH'.2.1).lt
        have hlgLgy:gL<gy:=by rw [←hggy];exact(hH'.2.2.2.1).lt (by omega)
        have hq:=Ba td3 (.cells (arL 16 fun _=>0).toArray 22)
        have hytd7:=Ar.new td3 16 (fun _=>0) 22
        rw [hggy]at hytd7
        go_simp
        obtain⟨td7,hwtd7⟩:=Lv (td3.alloc (.cells (arL 16 fun _=>0).toArray 22))
        have hytd7:Ar td7 gy 16 (fun _=>0):=by rw [hwtd7];exact hytd7
        try rw [hggy]
        rw [←hwtd7]
        refine hK.out _ _ (by rw [hwtd7];exact⟨hH'.1.t hq,hH'.2.1.to hq,hH'.2.2.1.t hq,hH'.2.2.2.1.t hq,Tq hH'.2.2.2.2 hq⟩) ?_
        clear hK K hH' hq hwtd7 hggy
        intro hH'
        try simp only [Act.put,nrm]
        refine rd 5 rfl (fun K hK=> ?_)
        go_simp
        refine(bxor T (enF f o2) _ htb.out hpdb.out).mono ?_
        rintro e td8 ⟨rfl,hq⟩
        rw [HRS.out]
        go_wp2_with fail
        have hytd8:=hytd7.t hq
        refine hK.out _ _ ⟨hH'.1.t hq,hH'.2.1.to hq,hH'.2.2.1.t hq,hH'.2.2.2.1.t hq,Tq hH'.2.2.2.2 hq⟩ ?_
        clear hK K hH' hq hytd7
        intro hH'
        try simp only [Act.put,nrm]
        refine rd 7 rfl (fun K hK=> ?_)
        rw [if_pos (by rfl)]
        refine wp_store_mid _ _ _ rfl gy 0 (arL 16 (rs)).toArray rfl rfl hytd8.there (size16b _) (all_oneCell_toArray (arL_one 16 (rs))) ?_
        have hytd9:=hytd8.whole (rs)
        dsimp only [List.toList_toArray]
        refine hK.out _ _ ⟨(hH'.1).apart (b:=gy) (by omega) (arL 16 (rs)) 0,(hH'.2.1).apart (b:=gy) (by omega) (arL 16 (rs)) 0,(hH'.2.2.1).apart (b:=gy) (by omega) (arL 16 (rs)) 0,(hH'.2.2.2.1).apart (b:=gy) (by omega) (arL 16 (rs)) 0,(hH'.2.2.2.2).trans (Below.setCells (Below.refl w.heap.size _) (b:=gy) (by omega) (arL 16 (rs)) 0)⟩ ?_
        clear hK K hH' hytd8
        intro hH'
        generalize World.setCells td8 gy 0 (arL 16 (rs))=td9 at*
        try simp only [Act.put]
        refine wpAnyH_done (by kernel_rfl) ?_ _
        refine NoPanic.normal ?_
        exact⟨rfl,gy,rfl,hH'.1,hH'.2.1,hH'.2.2.1,hH'.2.2.2.1,hytd9,by omega,hH'.2.2.2.2⟩
      ·obtain⟨gy,hggy⟩:=Le (td2.heap.size)
       have hlgbgy:gb<gy:=by rw [←hggy];exact(hH'.2.2.1).lt (by omega)
       have hlgwgy:gw<gy:=by rw [←hggy];exact(hH'.2.1).lt
       have hlgLgy:gL<gy:=by rw [←hggy];exact(hH'.2.2.2.1).lt (by omega)
       have hq:=Ba td2 (.cells (arL 16 fun _=>0).toArray 22)
       have hytd10:=Ar.new td2 16 (fun _=>0) 22
       rw [hggy]at hytd10
       go_simp
       obtain⟨td10,hwtd10⟩:=Lv (td2.alloc (.cells (arL 16 fun _=>0).toArray 22))
       have hytd10:Ar td10 gy 16 (fun _=>0):=by rw [hwtd10];exact hytd10
       try rw [hggy]
       rw [←hwtd10]
       refine hK.out _ _ (by rw [hwtd10];exact⟨hH'.1.t hq,hH'.2.1.to hq,hH'.2.2.1.t hq,hH'.2.2.2.1.t hq,Tq hH'.2.2.2.2 hq⟩) ?_
       clear hK K hH' hq hwtd10 hggy
       intro hH'
       try simp only [Act.put,nrm]
       refine rd 4 rfl (fun K hK=> ?_)
       go_simp
       refine(fencrypt (.pointer p2) f o2 _ HFB.out ho2b.out (HCP.out.to (hH'.2.2.2.2)) (HX.out.keep (hH'.2.2.2.2))).mono ?_
       rintro e td11 ⟨rfl,hq⟩
       go_wp2_with fail
       have hytd11:=hytd10.t hq
       refine hK.out _ _ ⟨hH'.1.t hq,hH'.2.1.to hq,hH'.2.2.1.t hq,hH'.2.2.2.1.t hq,Tq hH'.2.2.2.2 hq⟩ ?_
       clear hK K hH' hq hytd10
       intro hH'
       try simp only [Act.put,nrm]
       refine rd 5 rfl (fun K hK=> ?_)
       go_simp
       refine(bxor T (enF f o2) _ htb.out hpdb.out).mono ?_
       rintro e td12 ⟨rfl,hq⟩
       rw [HRS.out]
       go_wp2_with fail
       have hytd12:=hytd11.t hq
       refine hK.out _ _ ⟨hH'.1.t hq,hH'.2.1.to hq,hH'.2.2.1.t hq,hH'.2.2.2.1.t hq,Tq hH'.2.2.2.2 hq⟩ ?_
       clear hK K hH' hq hytd11
       intro hH'
       try simp only [Act.put,nrm]
       refine rd 7 rfl (fun K hK=> ?_)
       rw [if_pos (by rfl)]
       refine wp_store_mid _ _ _ rfl gy 0 (arL 16 (rs)).toArray rfl rfl hytd12.there (size16b _) (all_oneCell_toArray (arL_one 16 (rs))) ?_
       have hytd13:=hytd12.whole (rs)
       dsimp only [List.toList_toArray]
       refine hK.out _ _ ⟨(hH'.1).apart (b:=gy) (by omega) (arL 16 (rs)) 0,(hH'.2.1).apart (b:=gy) (by omega) (arL 16 (rs)) 0,(hH'.2.2.1).apart (b:=gy) (by omega) (arL 16 (rs)) 0,(hH'.2.2.2.1).apart (b:=gy) (by omega) (arL 16 (rs)) 0,(hH'.2.2.2.2).trans (Below.setCells (Below.refl w.heap.size _) (b:=gy) (by omega) (arL 16 (rs)) 0)⟩ ?_
       clear hK K hH' hytd12
       intro hH'
       generalize World.setCells td12 gy 0 (arL 16 (rs))=td13 at*
       try simp only [Act.put]
       refine wpAnyH_done (by kernel_rfl) ?_ _
       refine NoPanic.normal ?_
       exact⟨rfl,gy,rfl,hH'.1,hH'.2.1,hH'.2.2.1,hH'.2.2.2.1,hytd13,by omega,hH'.2.2.2.2⟩
     ·obtain⟨gy,hggy⟩:=Le (tdd.heap.size)
      have hlgbgy:gb<gy:=by rw [←hggy];exact(hH'.2.2.1).lt (by omega)
      have hlgwgy:gw<gy:=by rw [←hggy];exact(hH'.2.1).lt
      have hlgLgy:gL<gy:=by rw [←hggy];exact(hH'.2.2.2.1).lt (by omega)
      have hq:=Ba tdd (.cells (arL 16 fun _=>0).toArray 22)
      have hytd14:=Ar.new tdd 16 (fun _=>0) 22
      rw [hggy]at hytd14
      go_simp
      obtain⟨td14,hwtd14⟩:=Lv (tdd.alloc (.cells (arL 16 fun _=>0).toArray 22))
      have hytd14:Ar td14 gy 16 (fun _=>0):=by rw [hwtd14];exact hytd14
      try rw [hggy]
      rw [←hwtd14]
      refine hK.out _ _ (by rw [hwtd14];exact⟨hH'.1.t hq,hH'.2.1.to hq,hH'.2.2.1.t hq,hH'.2.2.2.1.t hq,Tq hH'.2.2.2.2 hq⟩) ?_
      clear hK K hH' hq hwtd14 hggy
      intro hH'
      try simp only [Act.put,nrm]
      refine rd 2 rfl (fun K hK=> ?_)
      go_simp
      refine(HCIP.out _ (hH'.2.2.2.2)).mono ?_
      rintro e td15 ⟨rfl,hq⟩
      go_wp2_with fail
      have hytd15:=hytd14.t hq
      refine hK.out _ _ ⟨hH'.1.t hq,hH'.2.1.to hq,hH'.2.2.1.t hq,hH'.2.2.2.1.t hq,Tq hH'.2.2.2.2 hq⟩ ?_
      clear hK K hH' hq hytd14
      intro hH'
      try simp only [Act.put,nrm]
      refine rd 4 rfl (fun K hK=> ?_)
      go_simp
      refine(fencrypt (.pointer p2) f o2 _ HFB.out ho2b.out (HCP.out.to (hH'.2.2.2.2)) (HX.out.keep (hH'.2.2.2.2))).mono ?_
      rintro e td16 ⟨rfl,hq⟩
      go_wp2_with fail
      have hytd16:=hytd15.t hq
      refine hK.out _ _ ⟨hH'.1.t hq,hH'.2.1.to hq,hH'.2.2.1.t hq,hH'.2.2.2.1.t hq,Tq hH'.2.2.2.2 hq⟩ ?_
      clear hK K hH' hq hytd15
      intro hH'
      try simp only [Act.put,nrm]
      refine rd 5 rfl (fun K hK=> ?_)
      go_simp
      refine(bxor T (enF f o2) _ htb.out hpdb.out).mono ?_
      rintro e td17 ⟨rfl,hq⟩
      rw [HRS.out]
      go_wp2_with fail
      have hytd17:=hytd16.t hq
      refine hK.out _ _ ⟨hH'.1.t hq,hH'.2.1.to hq,hH'.2.2.1.t hq,hH'.2.2.2.1.t hq,Tq hH'.2.2.2.2 hq⟩ ?_
      clear hK K hH' hq hytd16
      intro hH'
      try simp only [Act.put,nrm]
      refine rd 7 rfl (fun K hK=> ?_)
      rw [if_pos (by rfl)]
      refine wp_store_mid _ _ _ rfl gy 0 (arL 16 (rs)).toArray rfl rfl hytd17.there (size16b _) (all_oneCell_toArray (arL_one 16 (rs))) ?_
      have hytd18:=hytd17.whole (rs)
      dsimp only [List.toList_toArray]
      refine hK.out _ _ ⟨(hH'.1).apart (b:=gy) (by omega) (arL 16 (rs)) 0,(hH'.2.1).apart (b:=gy) (by omega) (arL 16 (rs)) 0,(hH'.2.2.1).apart (b:=gy) (by omega) (arL 16 (rs)) 0,(hH'.2.2.2.1).apart (b:=gy) (by omega) (arL 16 (rs)) 0,(hH'.2.2.2.2).trans (Below.setCells (Below.refl w.heap.size _) (b:=gy) (by omega) (arL 16 (rs)) 0)⟩ ?_
      clear hK K hH' hytd17
      intro hH'
      generalize World.setCells td17 gy 0 (arL 16 (rs))=td18 at*
      try simp only [Act.put]
      refine wpAnyH_done (by kernel_rfl) ?_ _
      refine NoPanic.normal ?_
      exact⟨rfl,gy,rfl,hH'.1,hH'.2.1,hH'.2.2.1,hH'.2.2.2.1,hytd18,by omega,hH'.2.2.2.2⟩
    rintro gy x15 ⟨hKx15,hwx15,hbx15,hLx15,hyx15,hlgy,hBx15⟩
    clear hKx14 hwx14 hbx14 hLx14 hBx14
    clear hbx15
    have HCT3:=Lib.hid (show(liB o (dtF f s a l N)).map b8++arL r rs=(dtL f s a l).map b8 by rw [←HTL.out,List.map_append,liB_b8 r _ (fun j hj=>hrb.out j (by have:=HPR.out;omega))])
    have hslh:=slice16h gy r HPR.out.2.2
    have hbs:b0≤x15.heap.size:=by have h1:=hwx15.1;have h2:=hwx15.2.1;omega
    go_upto_region 19 with (first|(at_builtin;refine wpList_append_own _ rfl _ _ 25 rfl b0 5 i0 (.int .u8 0) 1 1 Tryz.underlying25 HI0.out HZ0.out HZ1.out HZ2.out (by decide) (by decide) _ _ _ rfl hwx15.2.2.2 ⟨gy,0,none⟩ r 16 (arL r (rs)) rfl (by simp [arL_len]) (fun j u hj=>by obtain⟨hj1,rfl⟩:=arL_get_some hj;have hm9:=HPR.out;rw [Addr.add_mid,Nat.zero_add];exact(hyx15 j (by omega)).1) (arL_one r _) (by have e1:=HN.out;have e2:=HPF.out;unfold maxLen;omega) (by have e1:=HN.out;have e2:=HPF.out;omega) hbs ?_;intro v8 z16 hown8 hgrow8 _;obtain⟨A3,c3,rfl⟩:=own_shape hown8)|fail)
    have k8:Below b0 x15 z16:=(Below.refl _ _).grown hgrow8 hbs (fun g hg=>own_block hwx15.2.2.2 hg)
    have hO8:Ow8 z16 b0 (.slice A3 (o+r) c3) (o+r) (dtL f s a l):=by unfold Ow8;rw [←HCT3.out];exact hown8
    have hsz8:=k8.size
    obtain⟨g3,hg3⟩:=Le (z16.heap.size-1)
    have hKz16:=hKx15.keep (by omega) k8
    have hLz16:=hLx15.keep (by omega) k8
    have hyz16:=ar_grown hyx15 (by omega) hgrow8 (Ob.ne hwx15 (by omega))
    have hwz16:Ob z16 b0 g3 (.slice A3 (o+r) c3) (o+r) (dtL f s a l):=by rw [←hg3];exact Ob.new hO8 (by omega) (by have:=hLz16.lt (by omega);omega)
    have hBz16:=hBx15.trans (k8.mono (by omega))
    clear hown8 hgrow8 k8 hO8 hsz8 hbs hg3 hBx15 hKx15 hwx15 hLx15 hyx15
    try dsimp only [Act.put]
    clear HCT3
    have HPAD:=Lib.hid (bpad (some ⟨gy,0,none⟩) r 16 (liB r rs) z16 (Sl.of_fun (o:=0) (fun j hj=>hrb.out j (by have:=HPR.out;omega)) (fun j hj=>by rw [Nat.zero_add];exact(hyz16 j (by have:=HPR.out;omega)).1) (hyz16.lt (by omega))) HPR.out.2.1)
    obtain⟨PP,hPP⟩: ∃u,lF (padL (liB r rs) 16)=u:=⟨_,rfl⟩
    have hppb:=Lib.hid (show B16 PP by rw [←hPP];exact fun _ _=>lF_lt _ _)
    rw [hPP]at HPAD
    have HDQ:=Lib.hid (HDS.out HR9.out PP (by rw [HDR.out];exact hPP))
    clear hPP
    go_wp2_with fail
    refine(HPAD.out).mono ?_
    rintro e x17 ⟨rfl,hq⟩
    have hKx17:=hKz16.t hq
    have hwx17:=hwz16.to hq
    have hLx17:=hLz16.t hq
    have hyx17:=hyz16.t hq
    have hBx17:=Tq hBz16 hq
    clear hq hKz16 hwz16 hLz16 hyz16 hBz16
    clear HPAD hslh
    clear hyx17
    obtain⟨gP,hgP⟩:=Le (x17.heap.size)
    have hlgKgP:gK<gP:=by rw [←hgP];exact hKx17.lt (by omega)
    have hlg3gP:g3<gP:=by rw [←hgP];exact hwx17.lt
    have hlgLgP:gL<gP:=by rw [←hgP];exact hLx17.lt (by omega)
    have hlwgP:w.heap.size≤gP:=by rw [←hgP];exact hBx17.size
    have hq:=Ba x17 (.cells (arL 16 fun _=>0).toArray 22)
    have hKx18a:=hKx17.t hq
    have hwx18a:=hwx17.to hq
    have hLx18a:=hLx17.t hq
    have hPx18a:=Ar.new x17 16 (fun _=>0) 22
    have hBx18a:=hBx17.alloc hBx17.size (.cells (arL 16 fun _=>0).toArray 22)
    rw [hgP]at hPx18a
    clear hq hKx17 hwx17 hLx17 hBx17
    go_upto_region 20 with (first|(refine wpList_store_ar rfl _ _ _ rfl _ _ _ (PP) rfl rfl hPx18a (size16b _) ?_;intro x18 hPx18 belx18 sizx18 keex18)|fail)
    have hKx18:=(hKx18a).keep hlgKgP belx18
    have hwx18:=(hwx18a).keep hlg3gP belx18
    have hLx18:=(hLx18a).keep hlgLgP belx18
    have hBx18:=hBx18a.trans (belx18.mono hlwgP)
    clear hKx18a hwx18a hLx18a hPx18a hBx18a belx18 sizx18 keex18 hgP
    try dsimp only [Act.put]
    go_wp2_with (first|(refine wpList_load_ar rfl _ _ rfl _ _ _ rfl hKx18 Tryz.arr16b (size16b _) ?_)|(refine wpList_load_ar rfl _ _ rfl _ _ _ rfl hPx18 Tryz.arr16b (size16b _) ?_))
    refine(bxor u0 PP _ hkb.out hppb.out).mono ?_
    rintro e x19 ⟨rfl,hq⟩
    have hKx19:=hKx18.t hq
    have hwx19:=hwx18.to hq
    have hLx19:=hLx18.t hq
    have hPx19:=hPx18.t hq
    have hBx19:=Tq hBx18 hq
    clear hq hKx18 hwx18 hLx18 hPx18 hBx18
    clear hPx19
    go_upto_region 21 with (first|(refine wpList_store_arE rfl _ _ _ rfl _ _ _ (adF u0 PP) rfl rfl hKx19 (size16b _) ?_;intro z20 he3 hKz20;have HE3:=Lib.hid he3;clear he3)|fail)
    have he3:=HE3.out
    have hwz20:Ob z20 b0 g3 (.slice A3 (o+r) c3) (o+r) (dtL f s a l):=by rw [he3];exact hwx19.old (by omega) _ 0
    have hLz20:Ar z20 gL 16 (o2):=by rw [he3];exact hLx19.apart (b:=gK) (by omega) _ 0
    have hBz20:Below w.heap.size w z20:=by rw [he3];exact hBx19.trans ((below_setCells _ gK _ 0).mono (by omega))
    clear he3 HE3 hBx19 hKx19 hwx19 hLx19
    try dsimp only [Act.put]
    refine wp_region_noPanic ?_
    refine wp_region_held_drew (S:=fun W=>Ar W gK 16 (adF u0 PP)∧Ar W gL 16 (o2)∧Ob W b0 g3 (.slice A3 (o+r) c3) (o+r) (dtL f s a l)∧Below w.heap.size w W) (by kernel_rfl) ⟨hKz20.drew,hLz20.drew,hwz20.drew,hBz20.drew⟩ (fun hH'=> ?_)
    clear hKz20 hwz20 hLz20 hBz20
    generalize World.drew z20=fbd at*
    refine tw 0 ?vfb1 rfl ?hyfb1 ?restfb1
    case hyfb1=>
     intro W hSw
     go_simp
     try with_reducible rfl
    simp only [Act.put,nrm]
    refine tk 1 (.agg (arL 16 (adF u0 PP)).toArray) rfl (yieldsIf_load_mid (by rfl) _ _ rfl gK (0) rfl (arL 16 (adF u0 PP)) _ (fun W hSw=>hSw.1.range) Tryz.arr16b rfl (size16b _)) ?_
    simp only [Act.put,nrm]
    refine tk 2 (.agg (arL 16 (o2)).toArray) rfl (yieldsIf_load_mid (by rfl) _ _ rfl gL (0) rfl (arL 16 (o2)) _ (fun W hSw=>hSw.2.1.range) Tryz.arr16b rfl (size16b _)) ?_
    simp only [Act.put,nrm]
    refine tw 3 ?vfb2 rfl ?hyfb2 ?restfb2
    case hyfb2=>
     intro W hSw
     go_simp
     try with_reducible rfl
    simp only [Act.put,nrm]
    refine rd 4 rfl (fun K hK=> ?_)
    rw [if_pos (by rfl)]
    refine wp_store_mid _ _ _ rfl gK 0 (arL 16 (adF u0 PP)).toArray rfl rfl (hH'.1).there (size16b _) (all_oneCell_toArray (arL_one 16 (adF u0 PP))) ?_
    dsimp only [List.toList_toArray]
    refine hK.out _ _ ⟨(hH'.1).whole (adF u0 PP),(hH'.2.1).apart (b:=gK) (by omega) (arL 16 (adF u0 PP)) 0,(hH'.2.2.1).old (by omega) (arL 16 (adF u0 PP)) 0,(hH'.2.2.2).trans (Below.setCells (Below.refl w.heap.size _) (b:=gK) (by omega) (arL 16 (adF u0 PP)) 0)⟩ ?_
    clear hK K hH'
    intro hH'
    generalize World.setCells fbd gK 0 (arL 16 (adF u0 PP))=fb3 at*
    try simp only [Act.put]
    refine rd 5 rfl (fun K hK=> ?_)
    rw [if_pos (by rfl)]
    refine wp_store_mid _ _ _ rfl gL 0 (arL 16 (o2)).toArray rfl rfl (hH'.2.1).there (size16b _) (all_oneCell_toArray (arL_one 16 (o2))) ?_
    dsimp only [List.toList_toArray]
    refine hK.out _ _ ⟨(hH'.1).apart (b:=gL) (by omega) (arL 16 (o2)) 0,(hH'.2.1).whole (o2),(hH'.2.2.1).old (by omega) (arL 16 (o2)) 0,(hH'.2.2.2).trans (Below.setCells (Below.refl w.heap.size _) (b:=gL) (by omega) (arL 16 (o2)) 0)⟩ ?_
    clear hK K hH'
    intro hH'
    generalize World.setCells fb3 gL 0 (arL 16 (o2))=fb4 at*
    try simp only [Act.put]
    refine wpAnyH_done (by kernel_rfl) ?_ _
    refine NoPanic.normal ?_
    try dsimp only [Act.put]
    obtain⟨hK9,hL9,hw9,hB9⟩:=hH'
    go_wp2_with fail
    refine bodyPost_ret (v:= .tuple #[.slice A3 (o+r) c3,.agg (arL 16 (adF u0 PP)).toArray,.agg (arL 16 (o2)).toArray]) (results_pcr rfl rfl rfl rfl hK9 hL9 Tryz.arr16b (size16b _) (size16b _)) rfl ⟨A3,c3,by rw [HDQ.out,HOS.out HR9.out,show o+r=n from HPF.out.2.2.1],(by
  have h9:=hw9.2.2.2
  rw [show o+r=n from HPF.out.2.2.1]at h9
  exact own_more h9 (by omega)),hB9⟩
end Go.Proofs.YtiacbphnclgikaaGreatDoor
