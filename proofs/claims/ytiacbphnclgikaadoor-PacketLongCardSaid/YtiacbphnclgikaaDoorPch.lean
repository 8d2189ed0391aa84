/-
 The walk of the law PacketLong of layer 17: for every key, every number and every packet it returns true, and writes nothing that was there.
-/
import Derived.Test.YtiacbphnclgikaaDoorSqz
import Derived.Test.YtiacbphnclgikaaDoorPce
import Derived.Deep.RegionHeld3
import Derived.Test.YtiacbphnclgikaaDoorPcz
import Derived.Test.YtiacbphnclgikaaDoorPke
import Derived.Test.YtiacbphnclgikaaDoorEqs
namespace Go.Proofs.YtiacbphnclgikaaDoor
open Go.RowKit
set_option linter.unusedVariables false
set_option maxRecDepth 100000
set_option linter.unusedSimpArgs false
set_option maxHeartbeats 8000000 in
theorem plongs (f:Nat→Nat) (N:Nat) (d:Int) (x t e:Nat) (A:Option Addr) (n c:Nat) (l:List UInt8) (w:World) (hf: ∀j,j<16→f j<256) (hN:N<65536) (hd: -9223372036854775808≤d∧d≤9223372036854775807) (hx:x<18446744073709551616) (ht:t<65536) (he:e<65536) (hS:Sl w w.heap.size A n l) (hnc:n≤c) (hcm:c≤maxLen) (hs:Boxes w):
  Calls Tryd.prog 5 #[.agg (arL 16 f).toArray,.int .u16 (N:Int),.agg #[.int .i64 d,.int .u64 (x:Int),.int .u16 (t:Int),.int .u16 (e:Int),.slice A n c]] w fun e9 w'=>e9= .returned (.bool true)∧Below w.heap.size w w':=by
 obtain⟨kf,hkf⟩:=Le ((arL 16 (f)).toArray)
 obtain⟨w1,hw1⟩:=Lv (w.alloc (.cells (arL 16 (f)).toArray 35))
 have hs1:=Zs1 hw1
 have hBw1:=Bl hw1
 have hfw1:Ar w1 w.heap.size 16 (f):=by rw [hw1];exact Ar.new w 16 _ _
 obtain⟨w2,hw2⟩:=Lv (w1.alloc (.cells #[.int .i64 d,.int .u64 (x:Int),.int .u16 (t:Int),.int .u16 (e:Int),.slice A n c] 33))
 have hs2:=Zs2 hw2 hs1
 have hBw2:=Bm hw2 hBw1
 have hfw2:=ara hw2 hfw1
 have hPw2:Cx w2 (w.heap.size+1) 5 (pcF (.int .i64 d) (.int .u64 (x:Int)) (.int .u16 (t:Int)) (.int .u16 (e:Int)) (.slice A n c)):=by rw [hw2,←hs1];exact Cx.new w1 5 (pcF (.int .i64 d) (.int .u64 (x:Int)) (.int .u16 (t:Int)) (.int .u16 (e:Int)) (.slice A n c)) _
 clear hfw1 hBw1
 rw [hkf]at hw1
 rw [hkf]
 clear hkf
 have HX:=Lib.hid hs
 have Hf:=Lib.hid hf
 have HNN:=Lib.hid hN
 clear hs hf hN
 have hz:=zero16b
 have hzp:=zeroP
 obtain⟨dP,hfs,hrow⟩:=Tryd.structP
 have HS2:=Lib.hid hfs
 have HW2:=Lib.hid hrow
 clear hfs hrow
 obtain⟨i0,hi0,hz0,hz1,hz2⟩:=info_parts info8x
 have HI0:=Lib.hid hi0
 have HZ0:=Lib.hid hz0
 have HZ1:=Lib.hid hz1
 have HZ2:=Lib.hid hz2
 clear hi0 hz0 hz1 hz2
 have HD:=Lib.hid hd
 have HXX:=Lib.hid hx
 have HT:=Lib.hid ht
 have HE:=Lib.hid he
 have HSS:=Lib.hid hS
 have HLEN:=Lib.hid hS.len
 have HNC:=Lib.hid hnc
 have hn63:n≤9223372036854775807:=by have h:=hcm;simp [maxLen]at h;omega
 clear hd hx ht he hS hnc hcm
 go_enter Tryd.func5,Tryd.ntmps5
 go_upto_region 1 with fail
 rw [←hw1,←hw2]
 clear hw1 hw2
 try simp only [Nat.add_assoc,Nat.reduceAdd]
 obtain⟨gP,hgP⟩:=Le (w.heap.size+1)
 rw [hgP]at hPw2
 try rw [hgP]
 have hlP:w.heap.size<gP:=by omega
 clear hs1 hs2 hgP
 go_wp2_with fail
 refine(pawake _ (HX.out.keep hBw2)).mono ?_
 rintro e x1 ⟨rfl,hq⟩
 have hfx1:=hfw2.t hq
 have hPx1:=hPw2.t hq
 have hBx1:=Tq hBw2 hq
 clear hq hfw2 hPw2 hBw2
 have cP4:=(hPx1 4 (by omega)).1
 simp only [pcF]at cP4
 go_wp2_with fail
 refine(rfew A n c _).mono ?_
 rintro e x2 ⟨rfl,hw9⟩
 have hq:Below x1.heap.size x1 x2:=by rw [hw9];exact Below.refl _ _
 clear hw9
 have hfx2:=hfx1.t hq
 have hPx2:=hPx1.t hq
 have hBx2:=Tq hBx1 hq
 clear hq hfx1 hPx1 hBx1
 clear cP4
 by_cases hg:n≤120
 ·rw [decide_eq_true hg]
  clear hn63
  by_cases hx63:x<9223372036854775808
  ·have j1:decide ((9223372036854775808:Int)≤(x:Int))=false:=decide_eq_false (by omega)
   have j2: ¬(9223372036854775808:Int)≤(x:Int):=by omega
   have HX63:=Lib.hid hx63
   by_cases hd0:d=0
   ·subst hd0
    have cP0:=(hPx2 0 (by omega)).1
    have cP1:=(hPx2 1 (by omega)).1
    simp only [pcF]at cP0 cP1
    obtain⟨r,hr⟩: ∃r,N%20=r:=⟨_,rfl⟩
    obtain⟨K,hK⟩: ∃K,1190+r=K:=⟨_,rfl⟩
    have hr20:r<20:=by omega
    have hK9:1190≤K∧K<1210:=by omega
    have HK9:=Lib.hid hK9
    have hN65:=HNN.out
    have HR20:=Lib.hid hr20
    have HRK:=Lib.hid (show(1190:Int)+(r:Int)=(K:Int)by omega)
    have HRN:=Lib.hid (show(N:Int)%20=(r:Int)by omega)
    clear hr hK hr20 hK9 hN65
    go_upto_region 3 with fail
    clear cP0 cP1 j1 j2
    have r1:=HRN.out
    have hr20:=HR20.out
    have hN65:=HNN.out
    go_upto_region 4 with fail
    rw [HRK.out]
    clear r1 hr20 hN65
    have cP1:=(hPx2 1 (by omega)).1
    simp only [pcF]at cP1
    go_wp2_with fail
    refine(rspread x K _ HXX.out (by have:=HK9.out;omega)).mono ?_
    rintro e9 x3 ⟨A1,c1,lp,rfl,hll,hO0,hq⟩
    obtain⟨gv,cap,hv,hgv1,hgv2⟩:=World.ownsRow.form hO0 (by have:=HK9.out;omega)
    injection hv with e1 _ e3
    subst e1
    have HC1:=Lib.hid (own_cap hO0).1
    have hlPv:gP<gv:=Nat.lt_of_lt_of_le (hPx2.lt (by omega)) hgv1
    have hvx3:=sy_of (Sl.of_own hO0) hgv2
    have HLL:=Lib.hid hll
    clear hO0 hgv1 hgv2 e3 hll
    have hfx3:=hfx2.t hq
    have hPx3:=hPx2.t hq
    have hBx3:=Tq hBx2 hq
    clear hq hfx2 hPx2 hBx2
    clear cP1
    have cF:=(hPx3 4 (by omega)).1
    have fF:=(hPx3 4 (by omega)).2
    go_upto_region 5 with fail
    clear cF fF
    have hPx40:=hPx3.set (j:=4) (.slice (some ⟨gv,0,none⟩) K c1) (by omega)
    have hfx4:=hfx3.far (p:=⟨gP,4,none⟩) (by simp;omega) (.slice (some ⟨gv,0,none⟩) K c1)
    have hvx4:Sy (World.setCell x3 ⟨gP,4,none⟩ (.slice (some ⟨gv,0,none⟩) K c1)) gv (some ⟨gv,0,none⟩) K lp:=⟨by simpa using hvx3.1,sl_far hvx3.2 (by simp;omega) (.slice (some ⟨gv,0,none⟩) K c1)⟩
    have hBx4:=hBx3.setCell (p:=⟨gP,4,none⟩) (by simp;omega) (.slice (some ⟨gv,0,none⟩) K c1)
    generalize World.setCell x3 ⟨gP,4,none⟩ (.slice (some ⟨gv,0,none⟩) K c1)=x4 at*
    have hPx4:Cx x4 gP 5 (pcF (.int .i64 0) (.int .u64 (x:Int)) (.int .u16 (t:Int)) (.int .u16 (e:Int)) (.slice (some ⟨gv,0,none⟩) K c1)):=hPx40.ext (fun j hj=>by have h:j=0∨j=1∨j=2∨j=3∨j=4:=(by omega);rcases h with rfl|rfl|rfl|rfl|rfl<;>rfl)
    clear hPx40 hPx3 hfx3 hvx3 hBx3
    obtain⟨s,hs0⟩:=Le (enF f zF)
    have HS0:=Lib.hid hs0
    have HSL:=Lib.hid (show B16 s by rw [←hs0];exact enR_lt Hf.out zF_lt 10)
    clear hs0
    go_wp2_with (refine wpList_load_ar rfl _ _ rfl _ _ _ rfl hfx4 Tryd.arr16b (size16b _) ?_)
    refine(fnew f _ Hf.out (HX.out.keep hBx4)).mono ?_
    rintro e x5 ⟨gC,rfl,hgC,hCx5,hq⟩
    have hfx5:=hfx4.t hq
    have hPx5:=hPx4.t hq
    have hvx5:=hvx4.to hq
    have hBx5:=Tq hBx4 hq
    clear hq hfx4 hPx4 hvx4 hBx4
    go_wp2_with fail
    refine(tnew (some ⟨gC,0,none⟩) f _ Hf.out (exp_made gC f _ hCx5) (HX.out.keep hBx5)).mono ?_
    rintro e x6 ⟨gT,rfl,hgT,hTx6,hq⟩
    rw [HS0.out]at hTx6
    have hfx6:=hfx5.t hq
    have hPx6:=hPx5.t hq
    have hvx6:=hvx5.to hq
    have hCx6:=hCx5.to hq
    have hBx6:=Tq hBx5 hq
    clear hq hfx5 hPx5 hvx5 hCx5 hBx5
    by_cases hK:K≤1200
    ·obtain⟨DG,hDG⟩: ∃DG,dgL f 0 x t e lp=DG:=⟨_,rfl⟩
     obtain⟨M,hM⟩: ∃M,K+28=M:=⟨_,rfl⟩
     have hDL:DG.length=M:=by rw [←hDG,dgL_len,HLL.out];exact hM
     have HDG:=Lib.hid hDG
     have HDL:=Lib.hid hDL
     have HMB:=Lib.hid (show 1218≤M∧M≤1228 by have:=HK9.out;omega)
     have HDV:=Lib.hid (dv_dg (f:=f) (d:=0) (x:=x) (t:=t) (e:=e) (p:=lp) Hf.out (by omega) HX63.out HT.out HE.out (by rw [HLL.out];exact hK))
     rw [hDG]at HDV
     have i7: ¬(K:Int)>1200:=by omega
     have HMM:=Lib.hid (show wrap64 ((K:Int)+28)=(M:Int)∧(K:Int)+28=(M:Int)∧IntKind.i64.wrap (M:Int)=(M:Int)from⟨(smfacts hM (by omega)).1,(smfacts hM (by omega)).2.2.1,(smfacts hM (by omega)).2.2.2⟩)
     have HKR:=Lib.hid hK
     have HCK:=Lib.hid (show ckC 0 x K=0 by unfold ckC;rw [if_pos (by omega),if_pos HX63.out,if_pos hK])
     clear hDG hDL hM hK
     go_wp2_with (refine wpList_load_mid rfl _ _ rfl gP 0 rfl _ _ (pk_range hPx6) HS2.out HW2.out size5P ?_)
     refine(pencode (some ⟨gT,0,none⟩) f 0 x t e (some ⟨gv,0,none⟩) K c1 lp DG 0 _ Hf.out HD.out HXX.out HT.out HE.out hvx6.sl HC1.out (by have:=HKR.out;omega) HCK.out (by rw [if_pos rfl];exact HDG.out) (wtabo gT gC f s _ HS0.out (hTx6) (hCx6)) (HX.out.keep hBx6)).mono ?_
     rintro e9 x7 ⟨A5,c5,rfl,hu0,hcu,_,hq⟩
     rw [HDL.out]at hu0 hcu
     rw [HDL.out,erW_no rfl]
     have HCU:=Lib.hid hcu
     clear hcu
     obtain⟨gu,hgu⟩: ∃g,x7.heap.size-1=g:=⟨_,rfl⟩
     have hux7:Sy x7 gu A5 (M) (DG):=by rw [←hgu];exact Sy.new hu0 (Nat.lt_of_lt_of_le (Nat.zero_lt_of_lt (hCx6.lt)) hq.size)
     clear hu0 hgu
     have hfx7:=hfx6.t hq
     have hPx7:=hPx6.t hq
     have hvx7:=hvx6.to hq
     have hCx7:=hCx6.to hq
     have hTx7:=hTx6.to hq
     have hBx7:=Tq hBx6 hq
     clear hq hfx6 hPx6 hvx6 hCx6 hTx6 hBx6
     go_wp2_with fail
     refine(pdecode (some ⟨gT,0,none⟩) f A5 M c5 DG _ Hf.out hux7.sl HCU.out (by have:=HMB.out;omega) (wtabo gT gC f s _ HS0.out (hTx7) (hCx7)) (HX.out.keep hBx7)).mono ?_
     rintro e9 x8 ⟨A6,c6,rfl,hz0,hcv,hq⟩
     rw [HDV.out.2.2.2.2.2,HLL.out]at hz0
     rw [HDV.out.1,HDV.out.2.1,HDV.out.2.2.1,HDV.out.2.2.2.1,HDV.out.2.2.2.2.1,HDV.out.2.2.2.2.2,HLL.out,erW_no rfl]
     clear hcv
     obtain⟨gz,hgz⟩: ∃g,x8.heap.size-1=g:=⟨_,rfl⟩
     have hzx8:Sy x8 gz A6 (K) (lp):=by rw [←hgz];exact Sy.new hz0 (Nat.lt_of_lt_of_le (Nat.zero_lt_of_lt (hCx7.lt)) hq.size)
     clear hz0 hgz
     have hfx8:=hfx7.t hq
     have hPx8:=hPx7.t hq
     have hvx8:=hvx7.to hq
     have hCx8:=hCx7.to hq
     have hTx8:=hTx7.to hq
     have hux8:=hux7.to hq
     have hBx8:=Tq hBx7 hq
     clear hq hfx7 hPx7 hvx7 hCx7 hTx7 hux7 hBx7
     clear i7
     obtain⟨gx,hgx⟩:=Le (x8.heap.size)
     have hlw_heap_sizegx:w.heap.size<gx:=by rw [←hgx];exact hfx8.lt (by omega)
     have hlgPgx:gP<gx:=by rw [←hgx];exact hPx8.lt (by omega)
     have hlgvgx:gv<gx:=by rw [←hgx];exact hvx8.lt
     have hlgCgx:gC<gx:=by rw [←hgx];exact hCx8.lt
     have hlgTgx:gT<gx:=by rw [←hgx];exact hTx8.lt
     have hlgugx:gu<gx:=by rw [←hgx];exact hux8.lt
     have hlgzgx:gz<gx:=by rw [←hgx];exact hzx8.lt
     have hlwgx:w.heap.size≤gx:=by rw [←hgx];exact hBx8.size
     have hq:=Ba x8 (.cells (cxL 5 zpF).toArray 33)
     have hfx9a:=hfx8.t hq
     have hPx9a:=hPx8.t hq
     have hvx9a:=hvx8.to hq
     have hCx9a:=hCx8.to hq
     have hTx9a:=hTx8.to hq
     have hux9a:=hux8.to hq
     have hzx9a:=hzx8.to hq
     have hxx9a:=Cx.new x8 5 zpF 33
     have hBx9a:=hBx8.alloc hBx8.size (.cells (cxL 5 zpF).toArray 33)
     rw [hgx]at hxx9a
     clear hq hfx8 hPx8 hvx8 hCx8 hTx8 hux8 hzx8 hBx8
     go_upto_region 10 with (first|(refine wpList_store_cx rfl _ _ _ rfl gx 5 0 zpF [.int .i64 ((0:Nat):Int),.int .u64 (x:Int),.int .u16 (t:Int),.int .u16 (e:Int),.slice A6 K c6] rfl rfl hxx9a (by simp) size5P (pc_one _ _ _ _ _ rfl rfl rfl rfl rfl) ?_;intro x9 hxx90 belx9 sizx9 keex9)|fail)
     have hxx9:=hxx90.ext (pc_whole zpF _ _ _ _ _)
     have hfx9:=(hfx9a).keep hlw_heap_sizegx belx9
     have hPx9:=(hPx9a).keep hlgPgx belx9
     have hvx9:=(hvx9a).keep hlgvgx belx9
     have hCx9:=(hCx9a).keep hlgCgx belx9
     have hTx9:=(hTx9a).keep hlgTgx belx9
     have hux9:=(hux9a).keep hlgugx belx9
     have hzx9:=(hzx9a).keep hlgzgx belx9
     have hBx9:=hBx9a.trans (belx9.mono hlwgx)
     clear hfx9a hPx9a hvx9a hCx9a hTx9a hux9a hzx9a hxx9a hxx90 hBx9a belx9 sizx9 keex9 hgx
     try dsimp only [Act.put]
     have hOk:=World.ownsRow_lit (base:=x9.heap.size) (e:=5) (size:=1) x9 #[] 0 (Nat.le_refl _) (by simp [maxLen]) rfl
     have hslk:=hux9.sl.alloc (Nat.le_refl _) (.cells #[] 5)
     obtain⟨NN,hNN⟩: ∃NN,M+1229=NN:=⟨_,rfl⟩
     have HNNL:=Lib.hid hNN
     clear hNN
     go_wp2_with (first|(at_builtin;refine wpList_append_sl _ rfl _ _ 22 rfl x9.heap.size 5 i0 (.int .u8 0) Tryd.underlying22 HI0.out HZ0.out HZ1.out HZ2.out rfl _ 0 _ rfl hOk x9.heap.size A5 M c5 DG rfl hslk (by have:=HMB.out;omega) (by simp) ?_;intro v6 k10 hown6 hgrow6 _;have hq6:Below x9.heap.size x9 k10:=((Below.refl _ x9).alloc (Nat.le_refl _) _).grown hgrow6 (by simp) (fun g hg=>own_block hOk hg);obtain⟨Ak,ck,rfl⟩:=own_shape hown6;have hown7:Ow8 k10 x9.heap.size (.slice Ak M ck) M DG:=(by unfold Ow8;simpa using hown6);simp only [Nat.zero_add];obtain⟨Az,cz,k11,happ,hOz,hBz⟩:=app_zeros k10 x9.heap.size Ak M ck 1229 DG hown7 (by have:=HMB.out;omega) (by omega) hq6.size (by have:=HMB.out;omega))|(at_builtin;refine Lib.wpList_append_run _ rfl _ _ _ _ rfl _ _ rfl rfl _ _ (happ _) ?_))
     have hNN:=HNNL.out
     have hM9:=HMB.out
     rw [hNN]at hOz
     try rw [hNN]
     have hq:Below x9.heap.size x9 k11:=hq6.trans (hBz.mono (Nat.le_refl _))
     have hzl:=Sl.of_own hOz
     have hzc:=(own_cap hOz).1
     have HL2:=Lib.hid (show dcC f (DG++List.replicate 1229 0)=2 from dcC_long (n:=NN) hzl.len (by omega))
     have HV2:=Lib.hid (dv_no (f:=f) (l:=DG++List.replicate 1229 0) (by rw [HL2.out];omega))
     have HNB:=Lib.hid (show NN≤9223372036854775807 by omega)
     have hfk11:=hfx9.t hq
     have hPk11:=hPx9.t hq
     have hvk11:=hvx9.to hq
     have hCk11:=hCx9.to hq
     have hTk11:=hTx9.to hq
     have huk11:=hux9.to hq
     have hzk11:=hzx9.to hq
     have hxk11:=hxx9.t hq
     have hBk11:=Tq hBx9 hq
     clear hq hq6 hBz hOz hown6 hown7 hgrow6 hOk hslk happ hM9 hNN hfx9 hPx9 hvx9 hCx9 hTx9 hux9 hzx9 hxx9 hBx9
     refine(pdecode (some ⟨gT,0,none⟩) f Az NN cz (DG++List.replicate 1229 0) _ Hf.out hzl hzc HNB.out (wtabo gT gC f s _ HS0.out (hTk11) (hCk11)) (HX.out.keep hBk11)).mono ?_
     rintro e9 x12 ⟨A7,c7,rfl,_,_,hq⟩
     clear hzl hzc
     rw [HL2.out,HV2.out.1,HV2.out.2.1,HV2.out.2.2.1,HV2.out.2.2.2.1,HV2.out.2.2.2.2,erW_is (by omega)]
     have hnl:([]:List UInt8).length=0:=rfl
     rw [hnl]
     clear hnl
     have hfx12:=hfk11.t hq
     have hPx12:=hPk11.t hq
     have hvx12:=hvk11.to hq
     have hCx12:=hCk11.to hq
     have hTx12:=hTk11.to hq
     have hux12:=huk11.to hq
     have hzx12:=hzk11.to hq
     have hxx12:=hxk11.t hq
     have hBx12:=Tq hBk11 hq
     clear hq hfk11 hPk11 hvk11 hCk11 hTk11 huk11 hzk11 hxk11 hBk11
     obtain⟨gy,hgy⟩:=Le (x12.heap.size)
     have hlw_heap_sizegy:w.heap.size<gy:=by rw [←hgy];exact hfx12.lt (by omega)
     have hlgPgy:gP<gy:=by rw [←hgy];exact hPx12.lt (by omega)
     have hlgvgy:gv<gy:=by rw [←hgy];exact hvx12.lt
     have hlgCgy:gC<gy:=by rw [←hgy];exact hCx12.lt
     have hlgTgy:gT<gy:=by rw [←hgy];exact hTx12.lt
     have hlgugy:gu<gy:=by rw [←hgy];exact hux12.lt
     have hlgzgy:gz<gy:=by rw [←hgy];exact hzx12.lt
     have hlgxgy:gx<gy:=by rw [←hgy];exact hxx12.lt (by omega)
     have hlwgy:w.heap.size≤gy:=by rw [←hgy];exact hBx12.size
     have hq:=Ba x12 (.cells (cxL 5 zpF).toArray 33)
     have hfx13a:=hfx12.t hq
     have hPx13a:=hPx12.t hq
     have hvx13a:=hvx12.to hq
     have hCx13a:=hCx12.to hq
     have hTx13a:=hTx12.to hq
     have hux13a:=hux12.to hq
     have hzx13a:=hzx12.to hq
     have hxx13a:=hxx12.t hq
     have hyx13a:=Cx.new x12 5 zpF 33
     have hBx13a:=hBx12.alloc hBx12.size (.cells (cxL 5 zpF).toArray 33)
     rw [hgy]at hyx13a
     clear hq hfx12 hPx12 hvx12 hCx12 hTx12 hux12 hzx12 hxx12 hBx12
     go_upto_region 11 with (first|(refine wpList_store_cx rfl _ _ _ rfl gy 5 0 zpF [.int .i64 ((0:Nat):Int),.int .u64 ((0:Nat):Int),.int .u16 ((0:Nat):Int),.int .u16 ((0:Nat):Int),.slice A7 0 c7] rfl rfl hyx13a (by simp) size5P (pc_one _ _ _ _ _ rfl rfl rfl rfl rfl) ?_;intro x13 hyx130 belx13 sizx13 keex13)|fail)
     have hyx13:=hyx130.ext (pc_whole zpF _ _ _ _ _)
     have hfx13:=(hfx13a).keep hlw_heap_sizegy belx13
     have hPx13:=(hPx13a).keep hlgPgy belx13
     have hvx13:=(hvx13a).keep hlgvgy belx13
     have hCx13:=(hCx13a).keep hlgCgy belx13
     have hTx13:=(hTx13a).keep hlgTgy belx13
     have hux13:=(hux13a).keep hlgugy belx13
     have hzx13:=(hzx13a).keep hlgzgy belx13
     have hxx13:=(hxx13a).keep hlgxgy belx13
     have hBx13:=hBx13a.trans (belx13.mono hlwgy)
     clear hfx13a hPx13a hvx13a hCx13a hTx13a hux13a hzx13a hxx13a hyx13a hyx130 hBx13a belx13 sizx13 keex13 hgy
     try dsimp only [Act.put]
     clear hyx13
     obtain⟨m1,m2,m3⟩:=HMM.out
     have hq2:=eqCdT 2
     go_wp2_with (first|(refine wpList_load_pkW rfl _ _ rfl gx rfl _ (pk_range hxx13) HS2.out HW2.out size5P ?_)|(refine wpList_load_pkW rfl _ _ rfl gP rfl _ (pk_range hPx13) HS2.out HW2.out size5P ?_))
     refine(rpsame 0 x t e A6 K c6 lp 0 x t e (some ⟨gv,0,none⟩) K c1 lp _ hzx13.sl hvx13.sl (by have:=HKR.out;omega) (by have:=HKR.out;omega)).mono ?_
     rintro e x14 ⟨rfl,hq⟩
     rw [decide_eq_true ⟨rfl,rfl,rfl,rfl,rfl⟩]
     have hfx14:=hfx13.t hq
     have hPx14:=hPx13.t hq
     have hvx14:=hvx13.to hq
     have hCx14:=hCx13.to hq
     have hTx14:=hTx13.to hq
     have hux14:=hux13.to hq
     have hzx14:=hzx13.to hq
     have hxx14:=hxx13.t hq
     have hBx14:=Tq hBx13 hq
     clear hq hfx13 hPx13 hvx13 hCx13 hTx13 hux13 hzx13 hxx13 hBx13
     go_wp2_with fail
     go_ret
     exact⟨rfl,hBx14⟩
    ·have i7:(K:Int)>1200:=by omega
     have HCK:=Lib.hid (show ckC 0 x K=2 by unfold ckC;rw [if_pos (by omega),if_pos HX63.out,if_neg hK])
     clear hK
     have hq2:=eqCdT 2
     go_wp2_with (refine wpList_load_mid rfl _ _ rfl gP 0 rfl _ _ (pk_range hPx6) HS2.out HW2.out size5P ?_)
     refine(pencode (some ⟨gT,0,none⟩) f 0 x t e (some ⟨gv,0,none⟩) K c1 lp [] 2 _ Hf.out HD.out HXX.out HT.out HE.out hvx6.sl HC1.out (by have:=HK9.out;omega) HCK.out (if_neg (by omega)) (wtabo gT gC f s _ HS0.out (hTx6) (hCx6)) (HX.out.keep hBx6)).mono ?_
     rintro e9 x15 ⟨A5,c5,rfl,_,_,_,hq⟩
     rw [erW_is (by omega)]
     have hnl:([]:List UInt8).length=0:=rfl
     rw [hnl]
     clear hnl
     have hfx15:=hfx6.t hq
     have hPx15:=hPx6.t hq
     have hvx15:=hvx6.to hq
     have hCx15:=hCx6.to hq
     have hTx15:=hTx6.to hq
     have hBx15:=Tq hBx6 hq
     clear hq hfx6 hPx6 hvx6 hCx6 hTx6 hBx6
     go_wp2_with fail
     go_ret
     exact⟨rfl,hBx15⟩
   by_cases hd1:d=1
   ·subst hd1
    have cP0:=(hPx2 0 (by omega)).1
    have cP1:=(hPx2 1 (by omega)).1
    simp only [pcF]at cP0 cP1
    obtain⟨r,hr⟩: ∃r,N%20=r:=⟨_,rfl⟩
    obtain⟨K,hK⟩: ∃K,1190+r=K:=⟨_,rfl⟩
    have hr20:r<20:=by omega
    have hK9:1190≤K∧K<1210:=by omega
    have HK9:=Lib.hid hK9
    have hN65:=HNN.out
    have HR20:=Lib.hid hr20
    have HRK:=Lib.hid (show(1190:Int)+(r:Int)=(K:Int)by omega)
    have HRN:=Lib.hid (show(N:Int)%20=(r:Int)by omega)
    clear hr hK hr20 hK9 hN65
    go_upto_region 3 with fail
    clear cP0 cP1 j1 j2
    have r1:=HRN.out
    have hr20:=HR20.out
    have hN65:=HNN.out
    go_upto_region 4 with fail
    rw [HRK.out]
    clear r1 hr20 hN65
    have cP1:=(hPx2 1 (by omega)).1
    simp only [pcF]at cP1
    go_wp2_with fail
    refine(rspread x K _ HXX.out (by have:=HK9.out;omega)).mono ?_
    rintro e9 x16 ⟨A1,c1,lp,rfl,hll,hO0,hq⟩
    obtain⟨gv,cap,hv,hgv1,hgv2⟩:=World.ownsRow.form hO0 (by have:=HK9.out;omega)
    injection hv with e1 _ e3
    subst e1
    have HC1:=Lib.hid (own_cap hO0).1
    have hlPv:gP<gv:=Nat.lt_of_lt_of_le (hPx2.lt (by omega)) hgv1
    have hvx16:=sy_of (Sl.of_own hO0) hgv2
    have HLL:=Lib.hid hll
    clear hO0 hgv1 hgv2 e3 hll
    have hfx16:=hfx2.t hq
    have hPx16:=hPx2.t hq
    have hBx16:=Tq hBx2 hq
    clear hq hfx2 hPx2 hBx2
    clear cP1
    have cF:=(hPx16 4 (by omega)).1
    have fF:=(hPx16 4 (by omega)).2
    go_upto_region 5 with fail
    clear cF fF
    have hPx170:=hPx16.set (j:=4) (.slice (some ⟨gv,0,none⟩) K c1) (by omega)
    have hfx17:=hfx16.far (p:=⟨gP,4,none⟩) (by simp;omega) (.slice (some ⟨gv,0,none⟩) K c1)
    have hvx17:Sy (World.setCell x16 ⟨gP,4,none⟩ (.slice (some ⟨gv,0,none⟩) K c1)) gv (some ⟨gv,0,none⟩) K lp:=⟨by simpa using hvx16.1,sl_far hvx16.2 (by simp;omega) (.slice (some ⟨gv,0,none⟩) K c1)⟩
    have hBx17:=hBx16.setCell (p:=⟨gP,4,none⟩) (by simp;omega) (.slice (some ⟨gv,0,none⟩) K c1)
    generalize World.setCell x16 ⟨gP,4,none⟩ (.slice (some ⟨gv,0,none⟩) K c1)=x17 at*
    have hPx17:Cx x17 gP 5 (pcF (.int .i64 1) (.int .u64 (x:Int)) (.int .u16 (t:Int)) (.int .u16 (e:Int)) (.slice (some ⟨gv,0,none⟩) K c1)):=hPx170.ext (fun j hj=>by have h:j=0∨j=1∨j=2∨j=3∨j=4:=(by omega);rcases h with rfl|rfl|rfl|rfl|rfl<;>rfl)
    clear hPx170 hPx16 hfx16 hvx16 hBx16
    obtain⟨s,hs0⟩:=Le (enF f zF)
    have HS0:=Lib.hid hs0
    have HSL:=Lib.hid (show B16 s by rw [←hs0];exact enR_lt Hf.out zF_lt 10)
    clear hs0
    go_wp2_with (refine wpList_load_ar rfl _ _ rfl _ _ _ rfl hfx17 Tryd.arr16b (size16b _) ?_)
    refine(fnew f _ Hf.out (HX.out.keep hBx17)).mono ?_
    rintro e x18 ⟨gC,rfl,hgC,hCx18,hq⟩
    have hfx18:=hfx17.t hq
    have hPx18:=hPx17.t hq
    have hvx18:=hvx17.to hq
    have hBx18:=Tq hBx17 hq
    clear hq hfx17 hPx17 hvx17 hBx17
    go_wp2_with fail
    refine(tnew (some ⟨gC,0,none⟩) f _ Hf.out (exp_made gC f _ hCx18) (HX.out.keep hBx18)).mono ?_
    rintro e x19 ⟨gT,rfl,hgT,hTx19,hq⟩
    rw [HS0.out]at hTx19
    have hfx19:=hfx18.t hq
    have hPx19:=hPx18.t hq
    have hvx19:=hvx18.to hq
    have hCx19:=hCx18.to hq
    have hBx19:=Tq hBx18 hq
    clear hq hfx18 hPx18 hvx18 hCx18 hBx18
    by_cases hK:K≤1200
    ·obtain⟨DG,hDG⟩: ∃DG,dgL f 1 x t e lp=DG:=⟨_,rfl⟩
     obtain⟨M,hM⟩: ∃M,K+28=M:=⟨_,rfl⟩
     have hDL:DG.length=M:=by rw [←hDG,dgL_len,HLL.out];exact hM
     have HDG:=Lib.hid hDG
     have HDL:=Lib.hid hDL
     have HMB:=Lib.hid (show 1218≤M∧M≤1228 by have:=HK9.out;omega)
     have HDV:=Lib.hid (dv_dg (f:=f) (d:=1) (x:=x) (t:=t) (e:=e) (p:=lp) Hf.out (by omega) HX63.out HT.out HE.out (by rw [HLL.out];exact hK))
     rw [hDG]at HDV
     have i7: ¬(K:Int)>1200:=by omega
     have HMM:=Lib.hid (show wrap64 ((K:Int)+28)=(M:Int)∧(K:Int)+28=(M:Int)∧IntKind.i64.wrap (M:Int)=(M:Int)from⟨(smfacts hM (by omega)).1,(smfacts hM (by omega)).2.2.1,(smfacts hM (by omega)).2.2.2⟩)
     have HKR:=Lib.hid hK
     have HCK:=Lib.hid (show ckC 1 x K=0 by unfold ckC;rw [if_pos (by omega),if_pos HX63.out,if_pos hK])
     clear hDG hDL hM hK
     go_wp2_with (refine wpList_load_mid rfl _ _ rfl gP 0 rfl _ _ (pk_range hPx19) HS2.out HW2.out size5P ?_)
     refine(pencode (some ⟨gT,0,none⟩) f 1 x t e (some ⟨gv,0,none⟩) K c1 lp DG 0 _ Hf.out HD.out HXX.out HT.out HE.out hvx19.sl HC1.out (by have:=HKR.out;omega) HCK.out (by rw [if_pos rfl];exact HDG.out) (wtabo gT gC f s _ HS0.out (hTx19) (hCx19)) (HX.out.keep hBx19)).mono ?_
     rintro e9 x20 ⟨A5,c5,rfl,hu0,hcu,_,hq⟩
     rw [HDL.out]at hu0 hcu
     rw [HDL.out,erW_no rfl]
     have HCU:=Lib.hid hcu
     clear hcu
     obtain⟨gu,hgu⟩: ∃g,x20.heap.size-1=g:=⟨_,rfl⟩
     have hux20:Sy x20 gu A5 (M) (DG):=by rw [←hgu];exact Sy.new hu0 (Nat.lt_of_lt_of_le (Nat.zero_lt_of_lt (hCx19.lt)) hq.size)
     clear hu0 hgu
     have hfx20:=hfx19.t hq
     have hPx20:=hPx19.t hq
     have hvx20:=hvx19.to hq
     have hCx20:=hCx19.to hq
     have hTx20:=hTx19.to hq
     have hBx20:=Tq hBx19 hq
     clear hq hfx19 hPx19 hvx19 hCx19 hTx19 hBx19
     go_wp2_with fail
     refine(pdecode (some ⟨gT,0,none⟩) f A5 M c5 DG _ Hf.out hux20.sl HCU.out (by have:=HMB.out;omega) (wtabo gT gC f s _ HS0.out (hTx20) (hCx20)) (HX.out.keep hBx20)).mono ?_
     rintro e9 x21 ⟨A6,c6,rfl,hz0,hcv,hq⟩
     rw [HDV.out.2.2.2.2.2,HLL.out]at hz0
     rw [HDV.out.1,HDV.out.2.1,HDV.out.2.2.1,HDV.out.2.2.2.1,HDV.out.2.2.2.2.1,HDV.out.2.2.2.2.2,HLL.out,erW_no rfl]
     clear hcv
     obtain⟨gz,hgz⟩: ∃g,x21.heap.size-1=g:=⟨_,rfl⟩
     have hzx21:Sy x21 gz A6 (K) (lp):=by rw [←hgz];exact Sy.new hz0 (Nat.lt_of_lt_of_le (Nat.zero_lt_of_lt (hCx20.lt)) hq.size)
     clear hz0 hgz
     have hfx21:=hfx20.t hq
     have hPx21:=hPx20.t hq
     have hvx21:=hvx20.to hq
     have hCx21:=hCx20.to hq
     have hTx21:=hTx20.to hq
     have hux21:=hux20.to hq
     have hBx21:=Tq hBx20 hq
     clear hq hfx20 hPx20 hvx20 hCx20 hTx20 hux20 hBx20
     clear i7
     obtain⟨gx,hgx⟩:=Le (x21.heap.size)
     have hlw_heap_sizegx:w.heap.size<gx:=by rw [←hgx];exact hfx21.lt (by omega)
     have hlgPgx:gP<gx:=by rw [←hgx];exact hPx21.lt (by omega)
     have hlgvgx:gv<gx:=by rw [←hgx];exact hvx21.lt
     have hlgCgx:gC<gx:=by rw [←hgx];exact hCx21.lt
     have hlgTgx:gT<gx:=by rw [←hgx];exact hTx21.lt
     have hlgugx:gu<gx:=by rw [←hgx];exact hux21.lt
     have hlgzgx:gz<gx:=by rw [←hgx];exact hzx21.lt
     have hlwgx:w.heap.size≤gx:=by rw [←hgx];exact hBx21.size
     have hq:=Ba x21 (.cells (cxL 5 zpF).toArray 33)
     have hfx22a:=hfx21.t hq
     have hPx22a:=hPx21.t hq
     have hvx22a:=hvx21.to hq
     have hCx22a:=hCx21.to hq
     have hTx22a:=hTx21.to hq
     have hux22a:=hux21.to hq
     have hzx22a:=hzx21.to hq
     have hxx22a:=Cx.new x21 5 zpF 33
     have hBx22a:=hBx21.alloc hBx21.size (.cells (cxL 5 zpF).toArray 33)
     rw [hgx]at hxx22a
     clear hq hfx21 hPx21 hvx21 hCx21 hTx21 hux21 hzx21 hBx21
     go_upto_region 10 with (first|(refine wpList_store_cx rfl _ _ _ rfl gx 5 0 zpF [.int .i64 ((1:Nat):Int),.int .u64 (x:Int),.int .u16 (t:Int),.int .u16 (e:Int),.slice A6 K c6] rfl rfl hxx22a (by simp) size5P (pc_one _ _ _ _ _ rfl rfl rfl rfl rfl) ?_;intro x22 hxx220 belx22 sizx22 keex22)|fail)
     have hxx22:=hxx220.ext (pc_whole zpF _ _ _ _ _)
     have hfx22:=(hfx22a).keep hlw_heap_sizegx belx22
     have hPx22:=(hPx22a).keep hlgPgx belx22
     have hvx22:=(hvx22a).keep hlgvgx belx22
     have hCx22:=(hCx22a).keep hlgCgx belx22
     have hTx22:=(hTx22a).keep hlgTgx belx22
     have hux22:=(hux22a).keep hlgugx belx22
     have hzx22:=(hzx22a).keep hlgzgx belx22
     have hBx22:=hBx22a.trans (belx22.mono hlwgx)
     clear hfx22a hPx22a hvx22a hCx22a hTx22a hux22a hzx22a hxx22a hxx220 hBx22a belx22 sizx22 keex22 hgx
     try dsimp only [Act.put]
     have hOk:=World.ownsRow_lit (base:=x22.heap.size) (e:=5) (size:=1) x22 #[] 0 (Nat.le_refl _) (by simp [maxLen]) rfl
     have hslk:=hux22.sl.alloc (Nat.le_refl _) (.cells #[] 5)
     obtain⟨NN,hNN⟩: ∃NN,M+1229=NN:=⟨_,rfl⟩
     have HNNL:=Lib.hid hNN
     clear hNN
     go_wp2_with (first|(at_builtin;refine wpList_append_sl _ rfl _ _ 22 rfl x22.heap.size 5 i0 (.int .u8 0) Tryd.underlying22 HI0.out HZ0.out HZ1.out HZ2.out rfl _ 0 _ rfl hOk x22.heap.size A5 M c5 DG rfl hslk (by have:=HMB.out;omega) (by simp) ?_;intro v6 k23 hown6 hgrow6 _;have hq6:Below x22.heap.size x22 k23:=((Below.refl _ x22).alloc (Nat.le_refl _) _).grown hgrow6 (by simp) (fun g hg=>own_block hOk hg);obtain⟨Ak,ck,rfl⟩:=own_shape hown6;have hown7:Ow8 k23 x22.heap.size (.slice Ak M ck) M DG:=(by unfold Ow8;simpa using hown6);simp only [Nat.zero_add];obtain⟨Az,cz,k24,happ,hOz,hBz⟩:=app_zeros k23 x22.heap.size Ak M ck 1229 DG hown7 (by have:=HMB.out;omega) (by omega) hq6.size (by have:=HMB.out;omega))|(at_builtin;refine Lib.wpList_append_run _ rfl _ _ _ _ rfl _ _ rfl rfl _ _ (happ _) ?_))
     have hNN:=HNNL.out
     have hM9:=HMB.out
     rw [hNN]at hOz
     try rw [hNN]
     have hq:Below x22.heap.size x22 k24:=hq6.trans (hBz.mono (Nat.le_refl _))
     have hzl:=Sl.of_own hOz
     have hzc:=(own_cap hOz).1
     have HL2:=Lib.hid (show dcC f (DG++List.replicate 1229 0)=2 from dcC_long (n:=NN) hzl.len (by omega))
     have HV2:=Lib.hid (dv_no (f:=f) (l:=DG++List.replicate 1229 0) (by rw [HL2.out];omega))
     have HNB:=Lib.hid (show NN≤9223372036854775807 by omega)
     have hfk24:=hfx22.t hq
     have hPk24:=hPx22.t hq
     have hvk24:=hvx22.to hq
     have hCk24:=hCx22.to hq
     have hTk24:=hTx22.to hq
     have huk24:=hux22.to hq
     have hzk24:=hzx22.to hq
     have hxk24:=hxx22.t hq
     have hBk24:=Tq hBx22 hq
     clear hq hq6 hBz hOz hown6 hown7 hgrow6 hOk hslk happ hM9 hNN hfx22 hPx22 hvx22 hCx22 hTx22 hux22 hzx22 hxx22 hBx22
     refine(pdecode (some ⟨gT,0,none⟩) f Az NN cz (DG++List.replicate 1229 0) _ Hf.out hzl hzc HNB.out (wtabo gT gC f s _ HS0.out (hTk24) (hCk24)) (HX.out.keep hBk24)).mono ?_
     rintro e9 x25 ⟨A7,c7,rfl,_,_,hq⟩
     clear hzl hzc
     rw [HL2.out,HV2.out.1,HV2.out.2.1,HV2.out.2.2.1,HV2.out.2.2.2.1,HV2.out.2.2.2.2,erW_is (by omega)]
     have hnl:([]:List UInt8).length=0:=rfl
     rw [hnl]
     clear hnl
     have hfx25:=hfk24.t hq
     have hPx25:=hPk24.t hq
     have hvx25:=hvk24.to hq
     have hCx25:=hCk24.to hq
     have hTx25:=hTk24.to hq
     have hux25:=huk24.to hq
     have hzx25:=hzk24.to hq
     have hxx25:=hxk24.t hq
     have hBx25:=Tq hBk24 hq
     clear hq hfk24 hPk24 hvk24 hCk24 hTk24 huk24 hzk24 hxk24 hBk24
     obtain⟨gy,hgy⟩:=Le (x25.heap.size)
     have hlw_heap_sizegy:w.heap.size<gy:=by rw [←hgy];exact hfx25.lt (by omega)
     have hlgPgy:gP<gy:=by rw [←hgy];exact hPx25.lt (by omega)
     have hlgvgy:gv<gy:=by rw [←hgy];exact hvx25.lt
     have hlgCgy:gC<gy:=by rw [←hgy];exact hCx25.lt
     have hlgTgy:gT<gy:=by rw [←hgy];exact hTx25.lt
     have hlgugy:gu<gy:=by rw [←hgy];exact hux25.lt
     have hlgzgy:gz<gy:=by rw [←hgy];exact hzx25.lt
     have hlgxgy:gx<gy:=by rw [←hgy];exact hxx25.lt (by omega)
     have hlwgy:w.heap.size≤gy:=by rw [←hgy];exact hBx25.size
     have hq:=Ba x25 (.cells (cxL 5 zpF).toArray 33)
     have hfx26a:=hfx25.t hq
     have hPx26a:=hPx25.t hq
     have hvx26a:=hvx25.to hq
     have hCx26a:=hCx25.to hq
     have hTx26a:=hTx25.to hq
     have hux26a:=hux25.to hq
     have hzx26a:=hzx25.to hq
     have hxx26a:=hxx25.t hq
     have hyx26a:=Cx.new x25 5 zpF 33
     have hBx26a:=hBx25.alloc hBx25.size (.cells (cxL 5 zpF).toArray 33)
     rw [hgy]at hyx26a
     clear hq hfx25 hPx25 hvx25 hCx25 hTx25 hux25 hzx25 hxx25 hBx25
     go_upto_region 11 with (first|(refine wpList_store_cx rfl _ _ _ rfl gy 5 0 zpF [.int .i64 ((0:Nat):Int),.int .u64 ((0:Nat):Int),.int .u16 ((0:Nat):Int),.int .u16 ((0:Nat):Int),.slice A7 0 c7] rfl rfl hyx26a (by simp) size5P (pc_one _ _ _ _ _ rfl rfl rfl rfl rfl) ?_;intro x26 hyx260 belx26 sizx26 keex26)|fail)
     have hyx26:=hyx260.ext (pc_whole zpF _ _ _ _ _)
     have hfx26:=(hfx26a).keep hlw_heap_sizegy belx26
     have hPx26:=(hPx26a).keep hlgPgy belx26
     have hvx26:=(hvx26a).keep hlgvgy belx26
     have hCx26:=(hCx26a).keep hlgCgy belx26
     have hTx26:=(hTx26a).keep hlgTgy belx26
     have hux26:=(hux26a).keep hlgugy belx26
     have hzx26:=(hzx26a).keep hlgzgy belx26
     have hxx26:=(hxx26a).keep hlgxgy belx26
     have hBx26:=hBx26a.trans (belx26.mono hlwgy)
     clear hfx26a hPx26a hvx26a hCx26a hTx26a hux26a hzx26a hxx26a hyx26a hyx260 hBx26a belx26 sizx26 keex26 hgy
     try dsimp only [Act.put]
     clear hyx26
     obtain⟨m1,m2,m3⟩:=HMM.out
     have hq2:=eqCdT 2
     go_wp2_with (first|(refine wpList_load_pkW rfl _ _ rfl gx rfl _ (pk_range hxx26) HS2.out HW2.out size5P ?_)|(refine wpList_load_pkW rfl _ _ rfl gP rfl _ (pk_range hPx26) HS2.out HW2.out size5P ?_))
     refine(rpsame 1 x t e A6 K c6 lp 1 x t e (some ⟨gv,0,none⟩) K c1 lp _ hzx26.sl hvx26.sl (by have:=HKR.out;omega) (by have:=HKR.out;omega)).mono ?_
     rintro e x27 ⟨rfl,hq⟩
     rw [decide_eq_true ⟨rfl,rfl,rfl,rfl,rfl⟩]
     have hfx27:=hfx26.t hq
     have hPx27:=hPx26.t hq
     have hvx27:=hvx26.to hq
     have hCx27:=hCx26.to hq
     have hTx27:=hTx26.to hq
     have hux27:=hux26.to hq
     have hzx27:=hzx26.to hq
     have hxx27:=hxx26.t hq
     have hBx27:=Tq hBx26 hq
     clear hq hfx26 hPx26 hvx26 hCx26 hTx26 hux26 hzx26 hxx26 hBx26
     go_wp2_with fail
     go_ret
     exact⟨rfl,hBx27⟩
    ·have i7:(K:Int)>1200:=by omega
     have HCK:=Lib.hid (show ckC 1 x K=2 by unfold ckC;rw [if_pos (by omega),if_pos HX63.out,if_neg hK])
     clear hK
     have hq2:=eqCdT 2
     go_wp2_with (refine wpList_load_mid rfl _ _ rfl gP 0 rfl _ _ (pk_range hPx19) HS2.out HW2.out size5P ?_)
     refine(pencode (some ⟨gT,0,none⟩) f 1 x t e (some ⟨gv,0,none⟩) K c1 lp [] 2 _ Hf.out HD.out HXX.out HT.out HE.out hvx19.sl HC1.out (by have:=HK9.out;omega) HCK.out (if_neg (by omega)) (wtabo gT gC f s _ HS0.out (hTx19) (hCx19)) (HX.out.keep hBx19)).mono ?_
     rintro e9 x28 ⟨A5,c5,rfl,_,_,_,hq⟩
     rw [erW_is (by omega)]
     have hnl:([]:List UInt8).length=0:=rfl
     rw [hnl]
     clear hnl
     have hfx28:=hfx19.t hq
     have hPx28:=hPx19.t hq
     have hvx28:=hvx19.to hq
     have hCx28:=hCx19.to hq
     have hTx28:=hTx19.to hq
     have hBx28:=Tq hBx19 hq
     clear hq hfx19 hPx19 hvx19 hCx19 hTx19 hBx19
     go_wp2_with fail
     go_ret
     exact⟨rfl,hBx28⟩
   have k0:(d !=0)=true:=by simp [hd0]
   have k1:(d !=1)=true:=by simp [hd1]
   have cP0:=(hPx2 0 (by omega)).1
   have cP1:=(hPx2 1 (by omega)).1
   simp only [pcF]at cP0 cP1
   go_wp2_with fail
   refine(pawake _ (HX.out.keep hBx2)).mono ?_
   rintro e x29 ⟨rfl,hq⟩
   have hfx29:=hfx2.t hq
   have hPx29:=hPx2.t hq
   have hBx29:=Tq hBx2 hq
   clear hq hfx2 hPx2 hBx2
   go_wp2_with fail
   go_ret
   exact⟨rfl,hBx29⟩
  ·have j1:(x:Int)≥9223372036854775808:=by omega
   by_cases hd0:d=0
   ·subst hd0
    have cP0:=(hPx2 0 (by omega)).1
    have cP1:=(hPx2 1 (by omega)).1
    simp only [pcF]at cP0 cP1
    go_wp2_with fail
    refine(pawake _ (HX.out.keep hBx2)).mono ?_
    rintro e x30 ⟨rfl,hq⟩
    have hfx30:=hfx2.t hq
    have hPx30:=hPx2.t hq
    have hBx30:=Tq hBx2 hq
    clear hq hfx2 hPx2 hBx2
    go_wp2_with fail
    go_ret
    exact⟨rfl,hBx30⟩
   by_cases hd1:d=1
   ·subst hd1
    have cP0:=(hPx2 0 (by omega)).1
    have cP1:=(hPx2 1 (by omega)).1
    simp only [pcF]at cP0 cP1
    go_wp2_with fail
    refine(pawake _ (HX.out.keep hBx2)).mono ?_
    rintro e x31 ⟨rfl,hq⟩
    have hfx31:=hfx2.t hq
    have hPx31:=hPx2.t hq
    have hBx31:=Tq hBx2 hq
    clear hq hfx2 hPx2 hBx2
    go_wp2_with fail
    go_ret
    exact⟨rfl,hBx31⟩
   have k0:(d !=0)=true:=by simp [hd0]
   have k1:(d !=1)=true:=by simp [hd1]
   have cP0:=(hPx2 0 (by omega)).1
   have cP1:=(hPx2 1 (by omega)).1
   simp only [pcF]at cP0 cP1
   go_wp2_with fail
   refine(pawake _ (HX.out.keep hBx2)).mono ?_
   rintro e x32 ⟨rfl,hq⟩
   have hfx32:=hfx2.t hq
   have hPx32:=hPx2.t hq
   have hBx32:=Tq hBx2 hq
   clear hq hfx2 hPx2 hBx2
   go_wp2_with fail
   go_ret
   exact⟨rfl,hBx32⟩
 ·rw [decide_eq_false hg]
  have cP0:=(hPx2 0 (by omega)).1
  have cP1:=(hPx2 1 (by omega)).1
  simp only [pcF]at cP0 cP1
  go_wp2_with fail
  refine(pawake _ (HX.out.keep hBx2)).mono ?_
  rintro e x33 ⟨rfl,hq⟩
  have hfx33:=hfx2.t hq
  have hPx33:=hPx2.t hq
  have hBx33:=Tq hBx2 hq
  clear hq hfx2 hPx2 hBx2
  go_wp2_with fail
  go_ret
  exact⟨rfl,hBx33⟩
end Go.Proofs.YtiacbphnclgikaaDoor
