/-
 The walk of the law PacketDecodes of layer 17: for every key and all bytes it returns true, and writes nothing that was there.
-/
import Derived.Test.YtiacbphnclgikaaGreatDoorSqz
import Derived.Test.YtiacbphnclgikaaGreatDoorPce
import Derived.Deep.RegionHeld3
import Derived.Test.YtiacbphnclgikaaGreatDoorPkd
import Derived.Test.YtiacbphnclgikaaGreatDoorGcr
import Derived.Test.YtiacbphnclgikaaGreatDoorEqs
namespace Go.Proofs.YtiacbphnclgikaaGreatDoor
open Go.RowKit
set_option linter.unusedVariables false
set_option maxRecDepth 100000
set_option linter.unusedSimpArgs false
set_option maxHeartbeats 8000000 in
theorem pdecodes (f:Nat→Nat) (A:Option Addr) (n c:Nat) (l:List UInt8) (w:World) (hf: ∀j,j<16→f j<256) (hS:Sl w w.heap.size A n l) (hnc:n≤c) (hcm:c≤maxLen) (hs:Boxes w):
  Calls Tryz.prog 4 #[.agg (arL 16 f).toArray,.slice A n c] w fun e w'=>e= .returned (.bool true)∧Below w.heap.size w w':=by
 have HX:=Lib.hid hs
 have hz:=zero16b
 have z0:=Lib.hid run_zero16
 have hzp:=zeroP
 obtain⟨dP,hfs,hrow⟩:=Tryz.structP
 have HS2:=Lib.hid hfs
 have HW2:=Lib.hid hrow
 clear hfs hrow
 have HLEN:=Lib.hid hS.len
 have HSS:=Lib.hid hS
 have HNC:=Lib.hid hnc
 have HCM:=Lib.hid hcm
 have hn63:n≤9223372036854775807:=by have h:=hcm;simp [maxLen]at h;omega
 clear hS hnc hcm
 have Hf:=Lib.hid hf
 obtain⟨kf,hkf⟩:=Le ((arL 16 f).toArray)
 obtain⟨w1,hw1⟩:=Lv (w.alloc (.cells (arL 16 f).toArray 22))
 have hs1:=Zs1 hw1
 have hBw1:=Bl hw1
 have hfw1:Ar w1 w.heap.size 16 f:=by rw [hw1];exact Ar.new w 16 f _
 rw [hkf]at hw1
 rw [hkf]
 clear hkf hs hf
 go_enter Tryz.func4,Tryz.ntmps4
 go_upto_region 1 with fail
 rw [←hw1]
 clear hw1
 try simp only [Nat.add_assoc,Nat.reduceAdd]
 obtain⟨gf,hgf⟩:=Le (w.heap.size)
 rw [hgf]at hfw1
 try simp only [hgf]
 have hlf:w.heap.size≤gf:=by omega
 clear hs1
 go_wp2_with fail
 refine(pawake _ (HX.out.keep hBw1)).mono ?_
 rintro e x1 ⟨rfl,hq⟩
 have hfx1:=hfw1.t hq
 have hBx1:=Tq hBw1 hq
 clear hq hfw1 hBw1
 by_cases g1:n≤150
 ·have g2: ¬(n:Int)>150:=by omega
  have g3: ¬(n:Int)>1400:=by omega
  have HN6:=Lib.hid (show n≤1400 by omega)
  have HN2:=Lib.hid (show n≤150 by omega)
  obtain⟨s,hs0⟩:=Le (enF f zF)
  have HS0:=Lib.hid hs0
  have HSL:=Lib.hid (show B16 s by rw [←hs0];exact enR_lt Hf.out zF_lt 10)
  clear hs0
  go_wp2_with (refine wpList_load_ar rfl _ _ rfl _ _ _ rfl hfx1 Tryz.arr16b (size16b _) ?_)
  refine(fnew f _ Hf.out (HX.out.keep hBx1)).mono ?_
  rintro e x2 ⟨gC,rfl,hgC,hCx2,hq⟩
  have hfx2:=hfx1.t hq
  have hBx2:=Tq hBx1 hq
  clear hq hfx1 hBx1
  go_wp2_with fail
  refine(tnew (some ⟨gC,0,none⟩) f _ Hf.out (exp_made gC f _ hCx2) (HX.out.keep hBx2)).mono ?_
  rintro e x3 ⟨gT,rfl,hgT,hTx3,hq⟩
  rw [HS0.out]at hTx3
  have hfx3:=hfx2.t hq
  have hCx3:=hCx2.to hq
  have hBx3:=Tq hBx2 hq
  clear hq hfx2 hCx2 hBx2
  clear g1 g2 g3 hn63
  obtain⟨D,hD9⟩: ∃u,dvD f l=u:=⟨_,rfl⟩
  obtain⟨X,hX9⟩: ∃u,dvX f l=u:=⟨_,rfl⟩
  obtain⟨T,hT9⟩: ∃u,dvT f l=u:=⟨_,rfl⟩
  obtain⟨E,hE9⟩: ∃u,dvE f l=u:=⟨_,rfl⟩
  obtain⟨PL,hPL9⟩: ∃u,dvL f l=u:=⟨_,rfl⟩
  obtain⟨C,hC9⟩: ∃u,dcC f l=u:=⟨_,rfl⟩
  obtain⟨mm,hmm⟩: ∃u,PL.length=u:=⟨_,rfl⟩
  have HDV:=Lib.hid (show dvD f l=D∧dvX f l=X∧dvT f l=T∧dvE f l=E∧dvL f l=PL∧dcC f l=C from⟨hD9,hX9,hT9,hE9,hPL9,hC9⟩)
  have HMM:=Lib.hid hmm
  have HPD:=Lib.hid (fun V (hB:Below w.heap.size w V) (hT:TabO V (some ⟨gT,0,none⟩) f) (hX:Boxes V)=>pdecode (some ⟨gT,0,none⟩) f A n c l V Hf.out ((HSS.out.below hB).more hB.size) HNC.out (by have:=HN6.out;omega) hT hX)
  have HRD:=Lib.hid (fun V (hB:Below w.heap.size w V)=>rpdec f A n c l V Hf.out ((HSS.out.below hB).more hB.size) HNC.out HCM.out)
  rw [hD9,hX9,hT9,hE9,hPL9,hC9,hmm]at HPD HRD
  have HMB:=Lib.hid (show mm≤1400 by have h9:=dvL_le (f:=f) HLEN.out;rw [hPL9,hmm]at h9;have:=HN6.out;omega)
  clear hD9 hX9 hT9 hE9 hPL9 hC9 hmm
  go_wp2_with fail
  refine(HPD.out _ hBx3 (wtabo gT gC f s _ HS0.out (hTx3) (hCx3)) (HX.out.keep hBx3)).mono ?_
  rintro e9 x4 ⟨A6,c6,rfl,hv0,hcv,hq⟩
  have HCV:=Lib.hid hcv
  clear hcv
  obtain⟨gv,hgv⟩: ∃g,x4.heap.size-1=g:=⟨_,rfl⟩
  have hvx4:Sy x4 gv A6 (mm) (PL):=by rw [←hgv];exact Sy.new hv0 (Nat.lt_of_lt_of_le (Nat.zero_lt_of_lt (hCx3.lt)) hq.size)
  clear hv0 hgv
  have hfx4:=hfx3.t hq
  have hCx4:=hCx3.to hq
  have hTx4:=hTx3.to hq
  have hBx4:=Tq hBx3 hq
  clear hq hfx3 hCx3 hTx3 hBx3
  obtain⟨gx,hgx⟩:=Le (x4.heap.size)
  have hlgfgx:gf<gx:=by rw [←hgx];exact hfx4.lt (by omega)
  have hlgCgx:gC<gx:=by rw [←hgx];exact hCx4.lt
  have hlgTgx:gT<gx:=by rw [←hgx];exact hTx4.lt
  have hlgvgx:gv<gx:=by rw [←hgx];exact hvx4.lt
  have hlwgx:w.heap.size≤gx:=by rw [←hgx];exact hBx4.size
  have hq:=Ba x4 (.cells (cxL 5 zpF).toArray 27)
  have hfx5a:=hfx4.t hq
  have hCx5a:=hCx4.to hq
  have hTx5a:=hTx4.to hq
  have hvx5a:=hvx4.to hq
  have hxx5a:=Cx.new x4 5 zpF 27
  have hBx5a:=hBx4.alloc hBx4.size (.cells (cxL 5 zpF).toArray 27)
  rw [hgx]at hxx5a
  clear hq hfx4 hCx4 hTx4 hvx4 hBx4
  go_upto_region 5 with (first|(refine wpList_store_cx rfl _ _ _ rfl gx 5 0 zpF [.int .i64 (D:Int),.int .u64 (X:Int),.int .u16 (T:Int),.int .u16 (E:Int),.slice A6 mm c6] rfl rfl hxx5a (by simp) size5P (pc_one _ _ _ _ _ rfl rfl rfl rfl rfl) ?_;intro x5 hxx50 belx5 sizx5 keex5)|fail)
  have hxx5:=hxx50.ext (pc_whole zpF _ _ _ _ _)
  have hfx5:=(hfx5a).keep hlgfgx belx5
  have hCx5:=(hCx5a).keep hlgCgx belx5
  have hTx5:=(hTx5a).keep hlgTgx belx5
  have hvx5:=(hvx5a).keep hlgvgx belx5
  have hBx5:=hBx5a.trans (belx5.mono hlwgx)
  clear hfx5a hCx5a hTx5a hvx5a hxx5a hxx50 hBx5a belx5 sizx5 keex5 hgx
  try dsimp only [Act.put]
  go_wp2_with (refine wpList_load_ar rfl _ _ rfl _ _ _ rfl hfx5 Tryz.arr16b (size16b _) ?_)
  refine(refprepare f _ Hf.out).mono ?_
  rintro e x6 ⟨rfl,hq⟩
  have hfx6:=hfx5.t hq
  have hCx6:=hCx5.to hq
  have hTx6:=hTx5.to hq
  have hvx6:=hvx5.to hq
  have hxx6:=hxx5.t hq
  have hBx6:=Tq hBx5 hq
  clear hq hfx5 hCx5 hTx5 hvx5 hxx5 hBx5
  go_wp2_with fail
  refine(HRD.out _ hBx6).mono ?_
  rintro e9 x7 ⟨A7,c7,rfl,hk0,_,hq⟩
  obtain⟨gk,hgk⟩: ∃g,x7.heap.size-1=g:=⟨_,rfl⟩
  have hkx7:Sy x7 gk A7 (mm) (PL):=by rw [←hgk];exact Sy.new hk0 (Nat.lt_of_lt_of_le (Nat.zero_lt_of_lt (hCx6.lt)) hq.size)
  clear hk0 hgk
  have hfx7:=hfx6.t hq
  have hCx7:=hCx6.to hq
  have hTx7:=hTx6.to hq
  have hvx7:=hvx6.to hq
  have hxx7:=hxx6.t hq
  have hBx7:=Tq hBx6 hq
  clear hq hfx6 hCx6 hTx6 hvx6 hxx6 hBx6
  obtain⟨gy,hgy⟩:=Le (x7.heap.size)
  have hlgfgy:gf<gy:=by rw [←hgy];exact hfx7.lt (by omega)
  have hlgCgy:gC<gy:=by rw [←hgy];exact hCx7.lt
  have hlgTgy:gT<gy:=by rw [←hgy];exact hTx7.lt
  have hlgvgy:gv<gy:=by rw [←hgy];exact hvx7.lt
  have hlgxgy:gx<gy:=by rw [←hgy];exact hxx7.lt (by omega)
  have hlgkgy:gk<gy:=by rw [←hgy];exact hkx7.lt
  have hlwgy:w.heap.size≤gy:=by rw [←hgy];exact hBx7.size
  have hq:=Ba x7 (.cells (cxL 5 zpF).toArray 27)
  have hfx8a:=hfx7.t hq
  have hCx8a:=hCx7.to hq
  have hTx8a:=hTx7.to hq
  have hvx8a:=hvx7.to hq
  have hxx8a:=hxx7.t hq
  have hkx8a:=hkx7.to hq
  have hyx8a:=Cx.new x7 5 zpF 27
  have hBx8a:=hBx7.alloc hBx7.size (.cells (cxL 5 zpF).toArray 27)
  rw [hgy]at hyx8a
  clear hq hfx7 hCx7 hTx7 hvx7 hxx7 hkx7 hBx7
  go_upto_region 6 with (first|(refine wpList_store_cx rfl _ _ _ rfl gy 5 0 zpF [.int .i64 (D:Int),.int .u64 (X:Int),.int .u16 (T:Int),.int .u16 (E:Int),.slice A7 mm c7] rfl rfl hyx8a (by simp) size5P (pc_one _ _ _ _ _ rfl rfl rfl rfl rfl) ?_;intro x8 hyx80 belx8 sizx8 keex8)|fail)
  have hyx8:=hyx80.ext (pc_whole zpF _ _ _ _ _)
  have hfx8:=(hfx8a).keep hlgfgy belx8
  have hCx8:=(hCx8a).keep hlgCgy belx8
  have hTx8:=(hTx8a).keep hlgTgy belx8
  have hvx8:=(hvx8a).keep hlgvgy belx8
  have hxx8:=(hxx8a).keep hlgxgy belx8
  have hkx8:=(hkx8a).keep hlgkgy belx8
  have hBx8:=hBx8a.trans (belx8.mono hlwgy)
  clear hfx8a hCx8a hTx8a hvx8a hxx8a hkx8a hyx8a hyx80 hBx8a belx8 sizx8 keex8 hgy
  try dsimp only [Act.put]
  go_wp2_with (first|(refine wpList_load_mid rfl _ _ rfl gx 0 rfl _ _ (pk_range hxx8) HS2.out HW2.out size5P ?_)|(refine wpList_load_mid rfl _ _ rfl gy 0 rfl _ _ (pk_range hyx8) HS2.out HW2.out size5P ?_))
  refine(rpsame D X T E A6 mm c6 PL D X T E A7 mm c7 PL _ hvx8.sl hkx8.sl (by have:=HMB.out;omega) (by have:=HMB.out;omega)).mono ?_
  rintro e x9 ⟨rfl,hq⟩
  rw [decide_eq_true ⟨rfl,rfl,rfl,rfl,rfl⟩]
  have hfx9:=hfx8.t hq
  have hCx9:=hCx8.to hq
  have hTx9:=hTx8.to hq
  have hvx9:=hvx8.to hq
  have hxx9:=hxx8.t hq
  have hkx9:=hkx8.to hq
  have hyx9:=hyx8.t hq
  have hBx9:=Tq hBx8 hq
  clear hq hfx8 hCx8 hTx8 hvx8 hxx8 hkx8 hyx8 hBx8
  clear hyx9 hkx9
  by_cases hC:C=0
  ·have hC9:dcC f l=0:=HDV.out.2.2.2.2.2.trans hC
   have hdv:=dv_yes hC9
   have hdg:=dg_dc Hf.out HLEN.out hC9
   have hsp:=dc_sp HLEN.out hC9
   have hpl:=dcP_len HLEN.out hC9
   rw [←hdv.1,←hdv.2.1,←hdv.2.2.1,←hdv.2.2.2.1,←hdv.2.2.2.2,HDV.out.1,HDV.out.2.1,HDV.out.2.2.1,HDV.out.2.2.2.1,HDV.out.2.2.2.2.1]at hdg
   have hD2:D<2:=by rw [←HDV.out.1,hdv.1];exact hdD_lt _
   have hX2:X<9223372036854775808:=by rw [←HDV.out.2.1,hdv.2.1];exact hdX_lt _
   have hT2:T<65536:=by rw [←HDV.out.2.2.1,hdv.2.2.1];exact ptT_lt _
   have hE2:E<65536:=by rw [←HDV.out.2.2.2.1,hdv.2.2.2.1];exact ptE_lt _
   have hm2:mm≤1200:=by rw [←HMM.out,←HDV.out.2.2.2.2.1,hdv.2.2.2.2,List.length_drop];omega
   have HDG:=Lib.hid hdg
   have HCK:=Lib.hid (show ckC (D:Int) X mm=0 by unfold ckC;rw [if_pos (by omega),if_pos hX2,if_pos hm2])
   have HR1:=Lib.hid (show D<2∧X<9223372036854775808∧T<65536∧E<65536∧mm≤1200 from⟨hD2,hX2,hT2,hE2,hm2⟩)
   subst hC
   try simp only [show erW 0= .nilIface from rfl]
   clear hC9 hdv hdg hsp hpl hD2 hX2 hT2 hE2 hm2
   go_wp2_with (refine wpList_load_mid rfl _ _ rfl gx 0 rfl _ _ (pk_range hxx9) HS2.out HW2.out size5P ?_)
   refine(pencode (some ⟨gT,0,none⟩) f (D:Int) X T E A6 mm c6 PL l 0 _ Hf.out (by have:=HR1.out;omega) (by have:=HR1.out;omega) (by have:=HR1.out;omega) (by have:=HR1.out;omega) hvx9.sl HCV.out (by have:=HR1.out;omega) HCK.out (by rw [if_pos rfl,Int.toNat_natCast];exact HDG.out) (wtabo gT gC f s _ HS0.out (hTx9) (hCx9)) (HX.out.keep hBx9)).mono ?_
   rintro e9 x10 ⟨A8,c8,rfl,hu0,_,_,hq⟩
   rw [HLEN.out]at hu0
   rw [HLEN.out,show erW 0= .nilIface from rfl]
   obtain⟨gu,hgu⟩: ∃g,x10.heap.size-1=g:=⟨_,rfl⟩
   have hux10:Sy x10 gu A8 (n) (l):=by rw [←hgu];exact Sy.new hu0 (Nat.lt_of_lt_of_le (Nat.zero_lt_of_lt (hCx9.lt)) hq.size)
   clear hu0 hgu
   have hfx10:=hfx9.t hq
   have hCx10:=hCx9.to hq
   have hTx10:=hTx9.to hq
   have hvx10:=hvx9.to hq
   have hxx10:=hxx9.t hq
   have hBx10:=Tq hBx9 hq
   clear hq hfx9 hCx9 hTx9 hvx9 hxx9 hBx9
   go_wp2_with fail
   refine(same_true A8 A n c8 c l _ hux10.sl ((HSS.out.below hBx10).more hBx10.size) (by have:=HN6.out;omega)).mono ?_
   rintro e x11 ⟨rfl,hq⟩
   have hfx11:=hfx10.t hq
   have hCx11:=hCx10.to hq
   have hTx11:=hTx10.to hq
   have hvx11:=hvx10.to hq
   have hxx11:=hxx10.t hq
   have hux11:=hux10.to hq
   have hBx11:=Tq hBx10 hq
   clear hq hfx10 hCx10 hTx10 hvx10 hxx10 hux10 hBx10
   go_wp2_with fail
   go_ret
   exact⟨rfl,hBx11⟩
  ·have hce:=erW_is hC
   try simp only [hce]
   have hcn: ¬(C:Int)=0:=by omega
   have hqC:=eqCdT (C:Int)
   clear hce hC
   go_wp2_with fail
   go_ret
   exact⟨rfl,hBx9⟩
 have i1:(n:Int)>150:=by omega
 by_cases h2:n<1229
 ·have i2:(n:Int)<1229:=by omega
  go_wp2_with fail
  refine(pawake _ (HX.out.keep hBx1)).mono ?_
  rintro e x12 ⟨rfl,hq⟩
  have hfx12:=hfx1.t hq
  have hBx12:=Tq hBx1 hq
  clear hq hfx1 hBx1
  go_wp2_with fail
  go_ret
  exact⟨rfl,hBx12⟩
 have i2: ¬(n:Int)<1229:=by omega
 by_cases h3:n>1400
 ·have i3:(n:Int)>1400:=by omega
  go_wp2_with fail
  refine(pawake _ (HX.out.keep hBx1)).mono ?_
  rintro e x13 ⟨rfl,hq⟩
  have hfx13:=hfx1.t hq
  have hBx13:=Tq hBx1 hq
  clear hq hfx1 hBx1
  go_wp2_with fail
  go_ret
  exact⟨rfl,hBx13⟩
 have g2: ¬(n:Int)>1400:=by omega
 have g3:1229≤n:=by omega
 have HN6:=Lib.hid (show n≤1400 by omega)
 have HCC:=Lib.hid (dcC_long (f:=f) HLEN.out (show 1228<n by omega))
 obtain⟨s,hs0⟩:=Le (enF f zF)
 have HS0:=Lib.hid hs0
 have HSL:=Lib.hid (show B16 s by rw [←hs0];exact enR_lt Hf.out zF_lt 10)
 clear hs0
 go_wp2_with (refine wpList_load_ar rfl _ _ rfl _ _ _ rfl hfx1 Tryz.arr16b (size16b _) ?_)
 refine(fnew f _ Hf.out (HX.out.keep hBx1)).mono ?_
 rintro e x14 ⟨gC,rfl,hgC,hCx14,hq⟩
 have hfx14:=hfx1.t hq
 have hBx14:=Tq hBx1 hq
 clear hq hfx1 hBx1
 go_wp2_with fail
 refine(tnew (some ⟨gC,0,none⟩) f _ Hf.out (exp_made gC f _ hCx14) (HX.out.keep hBx14)).mono ?_
 rintro e x15 ⟨gT,rfl,hgT,hTx15,hq⟩
 rw [HS0.out]at hTx15
 have hfx15:=hfx14.t hq
 have hCx15:=hCx14.to hq
 have hBx15:=Tq hBx14 hq
 clear hq hfx14 hCx14 hBx14
 clear g1 g2 g3 hn63
 obtain⟨D,hD9⟩: ∃u,dvD f l=u:=⟨_,rfl⟩
 obtain⟨X,hX9⟩: ∃u,dvX f l=u:=⟨_,rfl⟩
 obtain⟨T,hT9⟩: ∃u,dvT f l=u:=⟨_,rfl⟩
 obtain⟨E,hE9⟩: ∃u,dvE f l=u:=⟨_,rfl⟩
 obtain⟨PL,hPL9⟩: ∃u,dvL f l=u:=⟨_,rfl⟩
 obtain⟨C,hC9⟩: ∃u,dcC f l=u:=⟨_,rfl⟩
 obtain⟨mm,hmm⟩: ∃u,PL.length=u:=⟨_,rfl⟩
 have HDV:=Lib.hid (show dvD f l=D∧dvX f l=X∧dvT f l=T∧dvE f l=E∧dvL f l=PL∧dcC f l=C from⟨hD9,hX9,hT9,hE9,hPL9,hC9⟩)
 have HMM:=Lib.hid hmm
 have HPD:=Lib.hid (fun V (hB:Below w.heap.size w V) (hT:TabO V (some ⟨gT,0,none⟩) f) (hX:Boxes V)=>pdecode (some ⟨gT,0,none⟩) f A n c l V Hf.out ((HSS.out.below hB).more hB.size) HNC.out (by have:=HN6.out;omega) hT hX)
 have HRD:=Lib.hid (fun V (hB:Below w.heap.size w V)=>rpdec f A n c l V Hf.out ((HSS.out.below hB).more hB.size) HNC.out HCM.out)
 rw [hD9,hX9,hT9,hE9,hPL9,hC9,hmm]at HPD HRD
 have HMB:=Lib.hid (show mm≤1400 by have h9:=dvL_le (f:=f) HLEN.out;rw [hPL9,hmm]at h9;have:=HN6.out;omega)
 clear hD9 hX9 hT9 hE9 hPL9 hC9 hmm
 go_wp2_with fail
 refine(HPD.out _ hBx15 (wtabo gT gC f s _ HS0.out (hTx15) (hCx15)) (HX.out.keep hBx15)).mono ?_
 rintro e9 x16 ⟨A6,c6,rfl,hv0,hcv,hq⟩
 have HCV:=Lib.hid hcv
 clear hcv
 obtain⟨gv,hgv⟩: ∃g,x16.heap.size-1=g:=⟨_,rfl⟩
 have hvx16:Sy x16 gv A6 (mm) (PL):=by rw [←hgv];exact Sy.new hv0 (Nat.lt_of_lt_of_le (Nat.zero_lt_of_lt (hCx15.lt)) hq.size)
 clear hv0 hgv
 have hfx16:=hfx15.t hq
 have hCx16:=hCx15.to hq
 have hTx16:=hTx15.to hq
 have hBx16:=Tq hBx15 hq
 clear hq hfx15 hCx15 hTx15 hBx15
 obtain⟨gx,hgx⟩:=Le (x16.heap.size)
 have hlgfgx:gf<gx:=by rw [←hgx];exact hfx16.lt (by omega)
 have hlgCgx:gC<gx:=by rw [←hgx];exact hCx16.lt
 have hlgTgx:gT<gx:=by rw [←hgx];exact hTx16.lt
 have hlgvgx:gv<gx:=by rw [←hgx];exact hvx16.lt
 have hlwgx:w.heap.size≤gx:=by rw [←hgx];exact hBx16.size
 have hq:=Ba x16 (.cells (cxL 5 zpF).toArray 27)
 have hfx17a:=hfx16.t hq
 have hCx17a:=hCx16.to hq
 have hTx17a:=hTx16.to hq
 have hvx17a:=hvx16.to hq
 have hxx17a:=Cx.new x16 5 zpF 27
 have hBx17a:=hBx16.alloc hBx16.size (.cells (cxL 5 zpF).toArray 27)
 rw [hgx]at hxx17a
 clear hq hfx16 hCx16 hTx16 hvx16 hBx16
 go_upto_region 5 with (first|(refine wpList_store_cx rfl _ _ _ rfl gx 5 0 zpF [.int .i64 (D:Int),.int .u64 (X:Int),.int .u16 (T:Int),.int .u16 (E:Int),.slice A6 mm c6] rfl rfl hxx17a (by simp) size5P (pc_one _ _ _ _ _ rfl rfl rfl rfl rfl) ?_;intro x17 hxx170 belx17 sizx17 keex17)|fail)
 have hxx17:=hxx170.ext (pc_whole zpF _ _ _ _ _)
 have hfx17:=(hfx17a).keep hlgfgx belx17
 have hCx17:=(hCx17a).keep hlgCgx belx17
 have hTx17:=(hTx17a).keep hlgTgx belx17
 have hvx17:=(hvx17a).keep hlgvgx belx17
 have hBx17:=hBx17a.trans (belx17.mono hlwgx)
 clear hfx17a hCx17a hTx17a hvx17a hxx17a hxx170 hBx17a belx17 sizx17 keex17 hgx
 try dsimp only [Act.put]
 go_wp2_with (refine wpList_load_ar rfl _ _ rfl _ _ _ rfl hfx17 Tryz.arr16b (size16b _) ?_)
 refine(refprepare f _ Hf.out).mono ?_
 rintro e x18 ⟨rfl,hq⟩
 have hfx18:=hfx17.t hq
 have hCx18:=hCx17.to hq
 have hTx18:=hTx17.to hq
 have hvx18:=hvx17.to hq
 have hxx18:=hxx17.t hq
 have hBx18:=Tq hBx17 hq
 clear hq hfx17 hCx17 hTx17 hvx17 hxx17 hBx17
 go_wp2_with fail
 refine(HRD.out _ hBx18).mono ?_
 rintro e9 x19 ⟨A7,c7,rfl,hk0,_,hq⟩
 obtain⟨gk,hgk⟩: ∃g,x19.heap.size-1=g:=⟨_,rfl⟩
 have hkx19:Sy x19 gk A7 (mm) (PL):=by rw [←hgk];exact Sy.new hk0 (Nat.lt_of_lt_of_le (Nat.zero_lt_of_lt (hCx18.lt)) hq.size)
 clear hk0 hgk
 have hfx19:=hfx18.t hq
 have hCx19:=hCx18.to hq
 have hTx19:=hTx18.to hq
 have hvx19:=hvx18.to hq
 have hxx19:=hxx18.t hq
 have hBx19:=Tq hBx18 hq
 clear hq hfx18 hCx18 hTx18 hvx18 hxx18 hBx18
 obtain⟨gy,hgy⟩:=Le (x19.heap.size)
 have hlgfgy:gf<gy:=by rw [←hgy];exact hfx19.lt (by omega)
 have hlgCgy:gC<gy:=by rw [←hgy];exact hCx19.lt
 have hlgTgy:gT<gy:=by rw [←hgy];exact hTx19.lt
 have hlgvgy:gv<gy:=by rw [←hgy];exact hvx19.lt
 have hlgxgy:gx<gy:=by rw [←hgy];exact hxx19.lt (by omega)
 have hlgkgy:gk<gy:=by rw [←hgy];exact hkx19.lt
 have hlwgy:w.heap.size≤gy:=by rw [←hgy];exact hBx19.size
 have hq:=Ba x19 (.cells (cxL 5 zpF).toArray 27)
 have hfx20a:=hfx19.t hq
 have hCx20a:=hCx19.to hq
 have hTx20a:=hTx19.to hq
 have hvx20a:=hvx19.to hq
 have hxx20a:=hxx19.t hq
 have hkx20a:=hkx19.to hq
 have hyx20a:=Cx.new x19 5 zpF 27
 have hBx20a:=hBx19.alloc hBx19.size (.cells (cxL 5 zpF).toArray 27)
 rw [hgy]at hyx20a
 clear hq hfx19 hCx19 hTx19 hvx19 hxx19 hkx19 hBx19
 go_upto_region 6 with (first|(refine wpList_store_cx rfl _ _ _ rfl gy 5 0 zpF [.int .i64 (D:Int),.int .u64 (X:Int),.int .u16 (T:Int),.int .u16 (E:Int),.slice A7 mm c7] rfl rfl hyx20a (by simp) size5P (pc_one _ _ _ _ _ rfl rfl rfl rfl rfl) ?_;intro x20 hyx200 belx20 sizx20 keex20)|fail)
 have hyx20:=hyx200.ext (pc_whole zpF _ _ _ _ _)
 have hfx20:=(hfx20a).keep hlgfgy belx20
 have hCx20:=(hCx20a).keep hlgCgy belx20
 have hTx20:=(hTx20a).keep hlgTgy belx20
 have hvx20:=(hvx20a).keep hlgvgy belx20
 have hxx20:=(hxx20a).keep hlgxgy belx20
 have hkx20:=(hkx20a).keep hlgkgy belx20
 have hBx20:=hBx20a.trans (belx20.mono hlwgy)
 clear hfx20a hCx20a hTx20a hvx20a hxx20a hkx20a hyx20a hyx200 hBx20a belx20 sizx20 keex20 hgy
 try dsimp only [Act.put]
 go_wp2_with (first|(refine wpList_load_mid rfl _ _ rfl gx 0 rfl _ _ (pk_range hxx20) HS2.out HW2.out size5P ?_)|(refine wpList_load_mid rfl _ _ rfl gy 0 rfl _ _ (pk_range hyx20) HS2.out HW2.out size5P ?_))
 refine(rpsame D X T E A6 mm c6 PL D X T E A7 mm c7 PL _ hvx20.sl hkx20.sl (by have:=HMB.out;omega) (by have:=HMB.out;omega)).mono ?_
 rintro e x21 ⟨rfl,hq⟩
 rw [decide_eq_true ⟨rfl,rfl,rfl,rfl,rfl⟩]
 have hfx21:=hfx20.t hq
 have hCx21:=hCx20.to hq
 have hTx21:=hTx20.to hq
 have hvx21:=hvx20.to hq
 have hxx21:=hxx20.t hq
 have hkx21:=hkx20.to hq
 have hyx21:=hyx20.t hq
 have hBx21:=Tq hBx20 hq
 clear hq hfx20 hCx20 hTx20 hvx20 hxx20 hkx20 hyx20 hBx20
 clear hyx21 hkx21
 have hC:C≠0:=by have h9:=HDV.out.2.2.2.2.2;rw [HCC.out]at h9;omega
 have hce:=erW_is hC
 try simp only [hce]
 have hcn: ¬(C:Int)=0:=by omega
 have hqC:=eqCdT (C:Int)
 clear hce hC
 go_wp2_with fail
 go_ret
 exact⟨rfl,hBx21⟩
end Go.Proofs.YtiacbphnclgikaaGreatDoor
