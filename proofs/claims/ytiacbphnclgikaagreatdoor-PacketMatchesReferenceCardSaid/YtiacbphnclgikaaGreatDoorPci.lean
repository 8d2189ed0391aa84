/-
 The walk of the law PacketMatchesReference of layer 17: for every key and every packet it returns true, and writes nothing that was there.
-/
import Derived.Test.YtiacbphnclgikaaGreatDoorSqz
import Derived.Test.YtiacbphnclgikaaGreatDoorPce
import Derived.Deep.RegionHeld3
import Derived.Test.YtiacbphnclgikaaGreatDoorPkc
import Derived.Test.YtiacbphnclgikaaGreatDoorPke
import Derived.Test.YtiacbphnclgikaaGreatDoorGcr
import Derived.Test.YtiacbphnclgikaaGreatDoorEqs
namespace Go.Proofs.YtiacbphnclgikaaGreatDoor
open Go.RowKit
set_option linter.unusedVariables false
set_option maxRecDepth 100000
set_option linter.unusedSimpArgs false
set_option maxHeartbeats 8000000 in
theorem pmatches (f:Nat→Nat) (d:Int) (x t e:Nat) (A:Option Addr) (n c:Nat) (l:List UInt8) (w:World) (hf: ∀j,j<16→f j<256) (hd: -9223372036854775808≤d∧d≤9223372036854775807) (hx:x<18446744073709551616) (ht:t<65536) (he:e<65536) (hS:Sl w w.heap.size A n l) (hnc:n≤c) (hcm:c≤maxLen) (hs:Boxes w):
  Calls Tryz.prog 3 #[.agg (arL 16 f).toArray,.agg #[.int .i64 d,.int .u64 (x:Int),.int .u16 (t:Int),.int .u16 (e:Int),.slice A n c]] w fun e9 w'=>e9= .returned (.bool true)∧Below w.heap.size w w':=by
 obtain⟨kf,hkf⟩:=Le ((arL 16 (f)).toArray)
 obtain⟨w1,hw1⟩:=Lv (w.alloc (.cells (arL 16 (f)).toArray 22))
 have hs1:=Zs1 hw1
 have hBw1:=Bl hw1
 have hfw1:Ar w1 w.heap.size 16 (f):=by rw [hw1];exact Ar.new w 16 _ _
 obtain⟨w2,hw2⟩:=Lv (w1.alloc (.cells #[.int .i64 d,.int .u64 (x:Int),.int .u16 (t:Int),.int .u16 (e:Int),.slice A n c] 27))
 have hs2:=Zs2 hw2 hs1
 have hBw2:=Bm hw2 hBw1
 have hfw2:=ara hw2 hfw1
 have hPw2:Cx w2 (w.heap.size+1) 5 (pcF (.int .i64 d) (.int .u64 (x:Int)) (.int .u16 (t:Int)) (.int .u16 (e:Int)) (.slice A n c)):=by rw [hw2,←hs1];exact Cx.new w1 5 (pcF (.int .i64 d) (.int .u64 (x:Int)) (.int .u16 (t:Int)) (.int .u16 (e:Int)) (.slice A n c)) _
 clear hfw1 hBw1
 rw [hkf]at hw1
 rw [hkf]
 clear hkf
 have HX:=Lib.hid hs
 have Hf:=Lib.hid hf
 clear hs hf
 have hz:=zero16b
 have hzp:=zeroP
 have hzK:=zeroK
 obtain⟨dP,hfs,hrow⟩:=Tryz.structP
 have HS2:=Lib.hid hfs
 have HW2:=Lib.hid hrow
 clear hfs hrow
 obtain⟨dK,hfs,hrow⟩:=Tryz.structK
 have HS:=Lib.hid hfs
 have HW:=Lib.hid hrow
 clear hfs hrow
 have HD:=Lib.hid hd
 have HXX:=Lib.hid hx
 have HT:=Lib.hid ht
 have HE:=Lib.hid he
 have HSS:=Lib.hid hS
 have HLEN:=Lib.hid hS.len
 have HNC:=Lib.hid hnc
 have hn63:n≤9223372036854775807:=by have h:=hcm;simp [maxLen]at h;omega
 clear hd hx ht he hS hnc hcm
 go_enter Tryz.func3,Tryz.ntmps3
 go_upto_region 1 with fail
 rw [←hw1,←hw2]
 clear hw1 hw2
 try simp only [Nat.add_assoc,Nat.reduceAdd]
 obtain⟨gP,hgP⟩:=Le (w.heap.size+1)
 rw [hgP]at hPw2
 try rw [hgP]
 have hlP:w.heap.size<gP:=by omega
 clear hs1 hs2 hgP
 go_wp2_with fail
 refine(pawake _ (HX.out.keep hBw2)).mono ?_
 rintro e x1 ⟨rfl,hq⟩
 have hfx1:=hfw2.t hq
 have hPx1:=hPw2.t hq
 have hBx1:=Tq hBw2 hq
 clear hq hfw2 hPw2 hBw2
 have cP4:=(hPx1 4 (by omega)).1
 simp only [pcF]at cP4
 go_wp2_with fail
 refine(rfew A n c _).mono ?_
 rintro e x2 ⟨rfl,hw9⟩
 have hq:Below x1.heap.size x1 x2:=by rw [hw9];exact Below.refl _ _
 clear hw9
 have hfx2:=hfx1.t hq
 have hPx2:=hPx1.t hq
 have hBx2:=Tq hBx1 hq
 clear hq hfx1 hPx1 hBx1
 clear cP4
 by_cases hg:n≤120
 ·rw [decide_eq_true hg]
  have HG:=Lib.hid hg
  clear hn63
  obtain⟨s,hs0⟩:=Le (enF f zF)
  have HS0:=Lib.hid hs0
  have HSL:=Lib.hid (show B16 s by rw [←hs0];exact enR_lt Hf.out zF_lt 10)
  clear hs0
  go_wp2_with (refine wpList_load_ar rfl _ _ rfl _ _ _ rfl hfx2 Tryz.arr16b (size16b _) ?_)
  refine(fnew f _ Hf.out (HX.out.keep hBx2)).mono ?_
  rintro e x3 ⟨gC,rfl,hgC,hCx3,hq⟩
  have hfx3:=hfx2.t hq
  have hPx3:=hPx2.t hq
  have hBx3:=Tq hBx2 hq
  clear hq hfx2 hPx2 hBx2
  go_wp2_with fail
  refine(tnew (some ⟨gC,0,none⟩) f _ Hf.out (exp_made gC f _ hCx3) (HX.out.keep hBx3)).mono ?_
  rintro e x4 ⟨gT,rfl,hgT,hTx4,hq⟩
  rw [HS0.out]at hTx4
  have hfx4:=hfx3.t hq
  have hPx4:=hPx3.t hq
  have hCx4:=hCx3.to hq
  have hBx4:=Tq hBx3 hq
  clear hq hfx3 hPx3 hCx3 hBx3
  clear hg
  obtain⟨C,hC9⟩: ∃C,ckC d x n=C:=⟨_,rfl⟩
  have HC:=Lib.hid hC9
  obtain⟨EL,hEL9⟩: ∃EL,(if C=0 then dgL f d.toNat x t e l else [])=EL:=⟨_,rfl⟩
  have HEL:=Lib.hid hEL9
  obtain⟨M,hM9⟩: ∃M,EL.length=M:=⟨_,rfl⟩
  have HM:=Lib.hid hM9
  clear hC9 hEL9 hM9
  go_wp2_with (refine wpList_load_mid rfl _ _ rfl gP 0 rfl _ _ (pk_range hPx4) HS2.out HW2.out size5P ?_)
  refine(pencode (some ⟨gT,0,none⟩) f d x t e A n c l EL C _ Hf.out HD.out HXX.out HT.out HE.out ((HSS.out.below hBx4).more hBx4.size) HNC.out (by have:=HG.out;omega) HC.out HEL.out (wtabo gT gC f s _ HS0.out (hTx4) (hCx4)) (HX.out.keep hBx4)).mono ?_
  rintro e9 x5 ⟨A5,c5,rfl,hu0,hcu,_,hq⟩
  rw [HM.out]at hu0 hcu
  rw [HM.out]
  have HCU:=Lib.hid hcu
  clear hcu
  obtain⟨gu,hgu⟩: ∃g,x5.heap.size-1=g:=⟨_,rfl⟩
  have hux5:Sy x5 gu A5 (M) (EL):=by rw [←hgu];exact Sy.new hu0 (Nat.lt_of_lt_of_le (Nat.zero_lt_of_lt (hCx4.lt)) hq.size)
  clear hu0 hgu
  have hfx5:=hfx4.t hq
  have hPx5:=hPx4.t hq
  have hCx5:=hCx4.to hq
  have hTx5:=hTx4.to hq
  have hBx5:=Tq hBx4 hq
  clear hq hfx4 hPx4 hCx4 hTx4 hBx4
  go_wp2_with (refine wpList_load_mid rfl _ _ rfl gP 0 rfl _ _ (pk_range hPx5) HS2.out HW2.out size5P ?_)
  refine(rpcheck d x t e A n c _ HD.out HXX.out (by have:=HG.out;omega)).mono ?_
  rintro e x6 ⟨rfl,hq⟩
  rw [HC.out]
  have hfx6:=hfx5.t hq
  have hPx6:=hPx5.t hq
  have hCx6:=hCx5.to hq
  have hTx6:=hTx5.to hq
  have hux6:=hux5.to hq
  have hBx6:=Tq hBx5 hq
  clear hq hfx5 hPx5 hCx5 hTx5 hux5 hBx5
  go_wp2_with (refine wpList_load_mid rfl _ _ rfl gP 0 rfl _ _ (pk_range hPx6) HS2.out HW2.out size5P ?_)
  refine(pright d x t e A n c _ HD.out HXX.out (by have:=HG.out;omega)).mono ?_
  rintro e x7 ⟨rfl,hq⟩
  rw [HC.out]
  have hfx7:=hfx6.t hq
  have hPx7:=hPx6.t hq
  have hCx7:=hCx6.to hq
  have hTx7:=hTx6.to hq
  have hux7:=hux6.to hq
  have hBx7:=Tq hBx6 hq
  clear hq hfx6 hPx6 hCx6 hTx6 hux6 hBx6
  by_cases hC:C=0
  ·rw [decide_eq_true hC]
   obtain⟨hd2,hx2,hn2⟩:=ck_zero (HC.out.trans hC)
   obtain⟨D,hD⟩: ∃D:Nat,d=(D:Int):=⟨d.toNat,by omega⟩
   have hD2:D<2:=by omega
   subst hD
   have HDG:=Lib.hid (show dgL f D x t e l=EL by rw [←HEL.out,if_pos hC,Int.toNat_natCast])
   have hMn:M=n+28:=by rw [←HM.out,←HDG.out,dgL_len,HLEN.out]
   have HMN:=Lib.hid (show wrap64 ((n:Int)+28)=(M:Int)∧(n:Int)+28=(M:Int)∧IntKind.i64.wrap (M:Int)=(M:Int)from⟨(smfacts hMn.symm (by omega)).1,(smfacts hMn.symm (by omega)).2.2.1,(smfacts hMn.symm (by omega)).2.2.2⟩)
   have HDV:=Lib.hid (dv_dg (f:=f) (d:=D) (x:=x) (t:=t) (e:=e) (p:=l) Hf.out hD2 hx2 HT.out HE.out (by rw [HLEN.out];exact hn2))
   rw [HDG.out]at HDV
   have HR:=Lib.hid (show D<2∧x<9223372036854775808 from⟨hD2,hx2⟩)
   subst hC
   try simp only [show erW 0= .nilIface from rfl]
   have HMB:=Lib.hid (show M≤1000 by have:=HG.out;omega)
   clear hd2 hx2 hn2 hD2 hMn
   go_wp2_with fail
   refine(pdecode (some ⟨gT,0,none⟩) f A5 M c5 EL _ Hf.out hux7.sl HCU.out (by have:=HMB.out;omega) (wtabo gT gC f s _ HS0.out (hTx7) (hCx7)) (HX.out.keep hBx7)).mono ?_
   rintro e9 x8 ⟨A6,c6,rfl,hz0,hcv,hq⟩
   rw [HDV.out.2.2.2.2.2,HLEN.out]at hz0
   rw [HDV.out.1,HDV.out.2.1,HDV.out.2.2.1,HDV.out.2.2.2.1,HDV.out.2.2.2.2.1,HDV.out.2.2.2.2.2,HLEN.out,erW_no rfl]
   clear hcv
   obtain⟨gz,hgz⟩: ∃g,x8.heap.size-1=g:=⟨_,rfl⟩
   have hzx8:Sy x8 gz A6 (n) (l):=by rw [←hgz];exact Sy.new hz0 (Nat.lt_of_lt_of_le (Nat.zero_lt_of_lt (hCx7.lt)) hq.size)
   clear hz0 hgz
   have hfx8:=hfx7.t hq
   have hPx8:=hPx7.t hq
   have hCx8:=hCx7.to hq
   have hTx8:=hTx7.to hq
   have hux8:=hux7.to hq
   have hBx8:=Tq hBx7 hq
   clear hq hfx7 hPx7 hCx7 hTx7 hux7 hBx7
   obtain⟨gx,hgx⟩:=Le (x8.heap.size)
   have hlw_heap_sizegx:w.heap.size<gx:=by rw [←hgx];exact hfx8.lt (by omega)
   have hlgPgx:gP<gx:=by rw [←hgx];exact hPx8.lt (by omega)
   have hlgCgx:gC<gx:=by rw [←hgx];exact hCx8.lt
   have hlgTgx:gT<gx:=by rw [←hgx];exact hTx8.lt
   have hlgugx:gu<gx:=by rw [←hgx];exact hux8.lt
   have hlgzgx:gz<gx:=by rw [←hgx];exact hzx8.lt
   have hlwgx:w.heap.size≤gx:=by rw [←hgx];exact hBx8.size
   have hq:=Ba x8 (.cells (cxL 5 zpF).toArray 27)
   have hfx9a:=hfx8.t hq
   have hPx9a:=hPx8.t hq
   have hCx9a:=hCx8.to hq
   have hTx9a:=hTx8.to hq
   have hux9a:=hux8.to hq
   have hzx9a:=hzx8.to hq
   have hxx9a:=Cx.new x8 5 zpF 27
   have hBx9a:=hBx8.alloc hBx8.size (.cells (cxL 5 zpF).toArray 27)
   rw [hgx]at hxx9a
   clear hq hfx8 hPx8 hCx8 hTx8 hux8 hzx8 hBx8
   go_upto_region 11 with (first|(refine wpList_store_cx rfl _ _ _ rfl gx 5 0 zpF [.int .i64 (D:Int),.int .u64 (x:Int),.int .u16 (t:Int),.int .u16 (e:Int),.slice A6 n c6] rfl rfl hxx9a (by simp) size5P (pc_one _ _ _ _ _ rfl rfl rfl rfl rfl) ?_;intro x9 hxx90 belx9 sizx9 keex9)|fail)
   have hxx9:=hxx90.ext (pc_whole zpF _ _ _ _ _)
   have hfx9:=(hfx9a).keep hlw_heap_sizegx belx9
   have hPx9:=(hPx9a).keep hlgPgx belx9
   have hCx9:=(hCx9a).keep hlgCgx belx9
   have hTx9:=(hTx9a).keep hlgTgx belx9
   have hux9:=(hux9a).keep hlgugx belx9
   have hzx9:=(hzx9a).keep hlgzgx belx9
   have hBx9:=hBx9a.trans (belx9.mono hlwgx)
   clear hfx9a hPx9a hCx9a hTx9a hux9a hzx9a hxx9a hxx90 hBx9a belx9 sizx9 keex9 hgx
   try dsimp only [Act.put]
   refine wp_region_noPanic ?_
   refine wp_region_held_drew (S:=fun W=>Ar W w.heap.size 16 (f)∧Cx W gP 5 (pcF (.int .i64 (D:Int)) (.int .u64 (x:Int)) (.int .u16 (t:Int)) (.int .u16 (e:Int)) (.slice A n c))∧Cx W gx 5 (pcF (.int .i64 (D:Int)) (.int .u64 (x:Int)) (.int .u16 (t:Int)) (.int .u16 (e:Int)) (.slice A6 n c6))∧Sy W gu A5 (M) (EL)∧Sy W gz A6 (n) (l)∧Below w.heap.size w W) (by kernel_rfl) ⟨hfx9.drew,hPx9.drew,hxx9.drew,hux9.drew,hzx9.drew,hBx9.drew⟩ (fun hH'=> ?_)
   clear hfx9 hPx9 hCx9 hTx9 hux9 hzx9 hxx9 hBx9
   generalize World.drew x9=yd at*
   refine tw 0 ?vy1 rfl ?hyy1 ?resty1
   case hyy1=>
    intro W hSw
    go_simp
    try with_reducible rfl
   simp only [Act.put,nrm]
   refine tw 1 ?vy2 rfl ?hyy2 ?resty2
   case hyy2=>
    intro W hSw
    go_simp
    try with_reducible rfl
   simp only [Act.put,nrm]
   refine tw 2 ?vy3 rfl ?hyy3 ?resty3
   case hyy3=>
    intro W hSw
    go_simp
    try with_reducible rfl
   simp only [Act.put,nrm]
   refine tw 3 ?vy4 rfl ?hyy4 ?resty4
   case hyy4=>
    intro W hSw
    go_simp
    try with_reducible rfl
   simp only [Act.put,nrm]
   refine tk 4 (.agg (arL 16 (f)).toArray) rfl (yieldsIf_load_mid (by rfl) _ _ rfl w.heap.size (0) rfl (arL 16 (f)) _ (fun W hSw=>hSw.1.range) Tryz.arr16b rfl (size16b _)) ?_
   simp only [Act.put,nrm]
   refine tk 6 (.agg ([.int .i64 (D:Int),.int .u64 (x:Int),.int .u16 (t:Int),.int .u16 (e:Int),.slice A n c]).toArray) rfl (yieldsIf_load_mid (by rfl) _ _ rfl gP (0) rfl ([.int .i64 (D:Int),.int .u64 (x:Int),.int .u16 (t:Int),.int .u16 (e:Int),.slice A n c]) _ (fun W hSw=>pk_range (hSw.2.1)) HS2.out HW2.out size5P) ?_
   simp only [Act.put,nrm]
   refine rd 5 rfl (fun K hK=> ?_)
   go_simp
   refine(refprepare f _ Hf.out).mono ?_
   rintro e y5 ⟨rfl,hq⟩
   go_wp2_with fail
   refine hK.out _ _ ⟨hH'.1.t hq,hH'.2.1.t hq,hH'.2.2.1.t hq,hH'.2.2.2.1.to hq,hH'.2.2.2.2.1.to hq,Tq hH'.2.2.2.2.2 hq⟩ ?_
   clear hK K hH' hq
   intro hH'
   try simp only [Act.put,nrm]
   refine rd 7 rfl (fun K hK=> ?_)
   go_simp
   refine(rpenc f D x t e A n c l _ Hf.out HR.out.1 HR.out.2 HT.out HE.out ((HSS.out.below (hH'.2.2.2.2.2)).more (hH'.2.2.2.2.2).size) HNC.out (by have:=HG.out;omega)).mono ?_
   rintro e9 y6 ⟨A8,c8,rfl,hyy6,_,hq⟩
   rw [HDG.out,show n+28=M from Int.ofNat.inj HMN.out.2.1]at hyy6
   rw [show n+28=M from Int.ofNat.inj HMN.out.2.1]
   go_wp2_with fail
   refine hK.out _ _ ⟨hH'.1.t hq,hH'.2.1.t hq,hH'.2.2.1.t hq,hH'.2.2.2.1.to hq,hH'.2.2.2.2.1.to hq,Tq hH'.2.2.2.2.2 hq⟩ ?_
   clear hK K hH' hq
   intro hH'
   try simp only [Act.put,nrm]
   refine rd 8 rfl (fun K hK=> ?_)
   go_simp
   refine(same_true A5 A8 M c5 c8 EL _ (hH'.2.2.2.1).sl hyy6 (by have:=HMB.out;omega)).mono ?_
   rintro e9 y7 ⟨rfl,hq⟩
   go_wp2_with fail
   refine hK.out _ _ ⟨hH'.1.t hq,hH'.2.1.t hq,hH'.2.2.1.t hq,hH'.2.2.2.1.to hq,hH'.2.2.2.2.1.to hq,Tq hH'.2.2.2.2.2 hq⟩ ?_
   clear hK K hH' hq
   intro hH'
   try simp only [Act.put,nrm]
   clear hyy6
   refine tw 9 ?vy8 rfl ?hyy8 ?resty8
   case hyy8=>
    intro W hSw
    go_simp
    try with_reducible rfl
   simp only [Act.put,nrm]
   refine tw 10 ?vy9 rfl ?hyy9 ?resty9
   case hyy9=>
    intro W hSw
    go_simp
    try with_reducible rfl
   simp only [Act.put,nrm]
   refine tw 11 ?vy10 rfl ?hyy10 ?resty10
   case hyy10=>
    intro W hSw
    go_simp
    try with_reducible rfl
   simp only [Act.put,nrm]
   refine tw 12 ?vy11 rfl ?hyy11 ?resty11
   case hyy11=>
    intro W hSw
    go_simp
    try with_reducible rfl
   simp only [Act.put,nrm]
   refine tw 13 ?vy12 rfl ?hyy12 ?resty12
   case hyy12=>
    intro W hSw
    go_simp
    try with_reducible rfl
   simp only [Act.put,nrm]
   refine tw 14 ?vy13 rfl ?hyy13 ?resty13
   case hyy13=>
    intro W hSw
    have c9:=((hSw.2.1) 4 (by omega)).1
    simp only [pcF]at c9
    go_simp
    try with_reducible rfl
   simp only [Act.put,nrm]
   refine tw 15 ?vy14 rfl ?hyy14 ?resty14
   case hyy14=>
    intro W hSw
    go_simp
    try with_reducible rfl
   simp only [Act.put,nrm]
   refine tw 16 ?vy15 rfl ?hyy15 ?resty15
   case hyy15=>
    intro W hSw
    obtain⟨m1,m2,m3⟩:=HMN.out
    go_simp
    try with_reducible rfl
   simp only [Act.put,nrm]
   refine tw 17 (.bool true) rfl ?hyy16 ?resty16
   case hyy16=>
    intro W hSw
    obtain⟨m1,m2,m3⟩:=HMN.out
    go_simp
    try with_reducible rfl
   simp only [Act.put,nrm]
   refine tw 18 ?vy17 rfl ?hyy17 ?resty17
   case hyy17=>
    intro W hSw
    go_simp
    try with_reducible rfl
   simp only [Act.put,nrm]
   refine tw 19 ?vy18 rfl ?hyy18 ?resty18
   case hyy18=>
    intro W hSw
    go_simp
    try with_reducible rfl
   simp only [Act.put,nrm]
   refine tw 20 ?vy19 rfl ?hyy19 ?resty19
   case hyy19=>
    intro W hSw
    go_simp
    try with_reducible rfl
   simp only [Act.put,nrm]
   refine tw 21 ?vy20 rfl ?hyy20 ?resty20
   case hyy20=>
    intro W hSw
    go_simp
    try with_reducible rfl
   simp only [Act.put,nrm]
   refine tw 22 ?vy21 rfl ?hyy21 ?resty21
   case hyy21=>
    intro W hSw
    go_simp
    try with_reducible rfl
   simp only [Act.put,nrm]
   refine tw 23 ?vy22 rfl ?hyy22 ?resty22
   case hyy22=>
    intro W hSw
    go_simp
    try with_reducible rfl
   simp only [Act.put,nrm]
   refine tk 24 (.agg ([.int .i64 (D:Int),.int .u64 (x:Int),.int .u16 (t:Int),.int .u16 (e:Int),.slice A6 n c6]).toArray) rfl (yieldsIf_load_mid (by rfl) _ _ rfl gx (0) rfl ([.int .i64 (D:Int),.int .u64 (x:Int),.int .u16 (t:Int),.int .u16 (e:Int),.slice A6 n c6]) _ (fun W hSw=>pk_range (hSw.2.2.1)) HS2.out HW2.out size5P) ?_
   simp only [Act.put,nrm]
   refine tk 25 (.agg ([.int .i64 (D:Int),.int .u64 (x:Int),.int .u16 (t:Int),.int .u16 (e:Int),.slice A n c]).toArray) rfl (yieldsIf_load_mid (by rfl) _ _ rfl gP (0) rfl ([.int .i64 (D:Int),.int .u64 (x:Int),.int .u16 (t:Int),.int .u16 (e:Int),.slice A n c]) _ (fun W hSw=>pk_range (hSw.2.1)) HS2.out HW2.out size5P) ?_
   simp only [Act.put,nrm]
   refine rd 26 rfl (fun K hK=> ?_)
   go_simp
   refine(rpsame D x t e A6 n c6 l D x t e A n c l _ (hH'.2.2.2.2.1).sl ((HSS.out.below (hH'.2.2.2.2.2)).more (hH'.2.2.2.2.2).size) (by have:=HG.out;omega) (by have:=HG.out;omega)).mono ?_
   rintro e y23 ⟨rfl,hq⟩
   rw [decide_eq_true ⟨rfl,rfl,rfl,rfl,rfl⟩]
   go_wp2_with fail
   refine hK.out _ _ ⟨hH'.1.t hq,hH'.2.1.t hq,hH'.2.2.1.t hq,hH'.2.2.2.1.to hq,hH'.2.2.2.2.1.to hq,Tq hH'.2.2.2.2.2 hq⟩ ?_
   clear hK K hH' hq
   intro hH'
   try simp only [Act.put,nrm]
   refine tw 27 ?vy24 rfl ?hyy24 ?resty24
   case hyy24=>
    intro W hSw
    go_simp
    try with_reducible rfl
   simp only [Act.put,nrm]
   refine tw 28 ?vy25 rfl ?hyy25 ?resty25
   case hyy25=>
    intro W hSw
    go_simp
    try with_reducible rfl
   simp only [Act.put,nrm]
   refine wpAnyH_done (by kernel_rfl) ?_ _
   have hB9:=hH'.2.2.2.2.2
   clear hH'
   refine NoPanic.normal ?_
   try dsimp only [Act.put]
   go_wp2_with fail
   go_ret
   exact⟨rfl,hB9⟩
  ·rw [decide_eq_false hC]
   have hce:=erW_is hC
   try simp only [hce]
   have hcn: ¬(C:Int)=0:=by omega
   have hcn2:((C:Int)==0)=false:=by simp;omega
   have hqC:=eqCdT (C:Int)
   have hM0:M=0:=by rw [←HM.out,←HEL.out,if_neg hC];rfl
   subst hM0
   clear hce hC
   go_wp2_with fail
   go_ret
   exact⟨rfl,hBx7⟩
 ·rw [decide_eq_false hg]
  go_wp2_with fail
  refine(pawake _ (HX.out.keep hBx2)).mono ?_
  rintro e x10 ⟨rfl,hq⟩
  have hfx10:=hfx2.t hq
  have hPx10:=hPx2.t hq
  have hBx10:=Tq hBx2 hq
  clear hq hfx2 hPx2 hBx2
  go_wp2_with fail
  go_ret
  exact⟨rfl,hBx10⟩
end Go.Proofs.YtiacbphnclgikaaGreatDoor
