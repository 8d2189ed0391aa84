/-
 The check of the documentation's examples of layer 17 returns true. No condition but what the table of S-boxes holds; what was there stays as it was. Plain facts of packets.
-/
import Derived.Test.YtiacbphnclgikaaGreatDoorSqz
import Derived.Test.YtiacbphnclgikaaGreatDoorPcd
import Derived.Test.YtiacbphnclgikaaGreatDoorEqs
import Derived.Test.YtiacbphnclgikaaGreatDoorGbk
import Derived.Great.BuildSlice
import Derived.Deep.RegionHeld3
import Derived.BigFrame
import Derived.Lib.SlBytesConst
namespace Go.Proofs.YtiacbphnclgikaaGreatDoor
open Go.RowKit
set_option linter.unusedVariables false
set_option maxRecDepth 100000
set_option linter.unusedSimpArgs false
theorem dvL_le {f:Nat→Nat} {l:List UInt8} {n:Nat} (hl:l.length=n):(dvL f l).length≤n:=by
 by_cases h:dcC f l=0
 ·have h1:=dcP_len hl h
  rw [(dv_yes h).2.2.2.2,List.length_drop]
  omega
 ·rw [(dv_no h).2.2.2.2]
  exact Nat.zero_le _
theorem un_out {n:Nat} (h:unC n≠0):n<28∨(¬n<28∧1228<n):=by
 unfold unC at h
 split at h
 ·exact .inl (by assumption)
 ·split at h
  ·exact .inr ⟨by assumption,by assumption⟩
  ·exact absurd rfl h
theorem wpList_load_pkW {P:Program} {ops:Array Oper} {rest:List Oper} {op:Oper} {a:Act} {w:World} {Q:Exit→Act→World→Prop} (hw:Region.wanted op (yielded ops a.tmps)=true) (ty:TypeId) (x:Operand) (ho:op.op= .load ty x)
  (g:Nat) (hx:a.eval x= .pointer (some ⟨g,0,none⟩)) (vs:List Value) (hr:w.rangeAt g 0 vs) {d:TypeDesc} (hu:P.underlying ty=some d) (hd:d.isRow=true) (hi:(P.info? ty).map (·.size)=some vs.length)
  (h:wpList P ops Q rest (a.put op.dst (.agg vs.toArray)) w):wpList P ops Q (op::rest) a w:=
 BigFrame.wpList_want hw fun _ hK=>wp_load_mid ty x ho g 0 hx vs _ hr hu hd hi (hK _ _ h)
def helloL:List UInt8:= [104,101,108,108,111]
theorem helloL_len:helloL.length=5:=rfl
def helloA:Array Value:= #[.int .u8 104,.int .u8 101,.int .u8 108,.int .u8 108,.int .u8 111]
theorem sy_hello (W:World):Sy (W.alloc (.cells #[.int .u8 104,.int .u8 101,.int .u8 108,.int .u8 108,.int .u8 111] 5 (5,6))) W.heap.size (some ⟨W.heap.size,0,none⟩) 5 helloL:=
 ⟨by simp,rfl,fun _=>⟨W.heap.size,0,rfl,Nat.lt_succ_self _,fun j u hj=>by
  have hc: ∀k,(W.alloc (.cells #[.int .u8 104,.int .u8 101,.int .u8 108,.int .u8 108,.int .u8 111] 5 (5,6))).cell? ⟨W.heap.size,k,none⟩=(#[Value.int .u8 104,.int .u8 101,.int .u8 108,.int .u8 108,.int .u8 111])[k]?:=fun k=>by
   have h9:=heap_alloc_new W (.cells #[.int .u8 104,.int .u8 101,.int .u8 108,.int .u8 108,.int .u8 111] 5 (5,6))
   unfold World.cell?
   simp only [h9]
   rfl
  rw [Nat.zero_add,hc]
  match j,hj with
  |0,hj=>obtain rfl:=Option.some.inj hj;rfl
  |1,hj=>obtain rfl:=Option.some.inj hj;rfl
  |2,hj=>obtain rfl:=Option.some.inj hj;rfl
  |3,hj=>obtain rfl:=Option.some.inj hj;rfl
  |4,hj=>obtain rfl:=Option.some.inj hj;rfl
  |j+5,hj=>simp [helloL]at hj⟩⟩
theorem bz5P (w:World):(Instr.build 27 #[]).run Tryz.prog w= .ok (.agg #[.int .i64 0,.int .u64 0,.int .u16 0,.int .u16 0,.slice none 0 0]) w:=run_build w _ _ _ (by kernel_rfl)
theorem b5P (d x t e:Int) (A:Option Addr) (m c:Nat) (w:World):(Instr.build 27 #[(0,.int .i64 d),(1,.int .u64 x),(2,.int .u16 t),(3,.int .u16 e),(4,.slice A m c)]).run Tryz.prog w= .ok (.agg #[.int .i64 d,.int .u64 x,.int .u16 t,.int .u16 e,.slice A m c]) w:=run_build w _ _ _ (by kernel_rfl)
theorem eqCd (c x:Int) (w:World):(binOp .eql 35 (.iface 40 (.int .i64 c)) (.iface 40 (.int .i64 x))).run Tryz.prog w= .ok (.bool (decide (c=x))) w:=by
 obtain⟨i,hi,hcmp⟩:=Option.map_eq_some_iff.1 (show(Tryz.prog.info? 40).map (·.comparable)=some true by kernel_rfl)
 have h: ∀d:Nat,(Op.equalIn (d+2) 35 (.iface 40 (.int .i64 c)) (.iface 40 (.int .i64 x))).run Tryz.prog w= .ok (decide (c=x)) w:=fun d=>by
  simp [Op.equalIn,run_underlying Tryz.underlying35,run_underlying Tryz.underlying40,typeInfo,hi,hcmp]
  rfl
 simp only [binOp]
 simp [Op.equal,Op.maxDepth,h 9998]
theorem eqCdT (c:Int) (w:World):(binOp .eql 35 (.iface 40 (.int .i64 c)) (.iface 40 (.int .i64 c))).run Tryz.prog w= .ok (.bool true) w:=by
 rw [eqCd,decide_eq_true rfl]
theorem dv_dg {f:Nat→Nat} {d x t e:Nat} {p:List UInt8} (hf:B16 f) (hd:d<2) (hx:x<9223372036854775808) (ht:t<65536) (he:e<65536) (hp:p.length≤1200):
  dcC f (dgL f d x t e p)=0∧dvD f (dgL f d x t e p)=d∧dvX f (dgL f d x t e p)=x∧dvT f (dgL f d x t e p)=t∧dvE f (dgL f d x t e p)=e∧dvL f (dgL f d x t e p)=p:=by
 obtain⟨h1,h2⟩:=dc_dg (f:=f) (t:=t) (e:=e) (p:=p) hf hd hx hp
 obtain⟨k1,k2,k3,k4,k5⟩:=dv_yes h1
 obtain⟨m1,m2⟩:=pt_pl ht he p
 refine⟨h1,?_,?_,?_,?_,?_⟩
 ·rw [k1,dgL_head,hdD_hd hd hx]
 ·rw [k2,dgL_head,hdX_hd hd hx]
 ·rw [k3,h2,m1]
 ·rw [k4,h2,m2]
 ·rw [k5,h2];rfl
theorem pk_dg {f:Nat→Nat} {d x t e n:Nat} {p:List UInt8} (hd:d<2) (hx:x<9223372036854775808) (hn:(dgL f d x t e p).length=n) (h:unC n=0):pkD n (dgL f d x t e p)=d∧pkX n (dgL f d x t e p)=x:=by
 obtain⟨h1,h2⟩:=un_mid h
 unfold pkD pkX phD phX
 rw [if_pos h,if_pos h,if_pos (by omega),if_pos (by omega),dgL_head]
 exact⟨hdD_hd hd hx,hdX_hd hd hx⟩
set_option maxHeartbeats 8000000 in
theorem pawake (w:World) (hs:Boxes w):
  Calls Tryz.prog 5 #[] w fun e w'=>e= .returned (.bool true)∧Below w.heap.size w w':=by
 have HX:=Lib.hid hs
 have hz:=zero16b
 have z0:=Lib.hid run_zero16
 have hzp:=zeroP
 obtain⟨dP,hfs,hrow⟩:=Tryz.structP
 have HS2:=Lib.hid hfs
 have HW2:=Lib.hid hrow
 clear hfs hrow
 have hBw:Below w.heap.size w w:=Below.refl _ _
 clear hs
 go_enter Tryz.func5,Tryz.ntmps5
 obtain⟨s,hs0⟩:=Le (enF zF zF)
 have HS0:=Lib.hid hs0
 have HSL:=Lib.hid (show B16 s by rw [←hs0];exact enR_lt zF_lt zF_lt 10)
 clear hs0
 go_wp2_with (refine wpList_build_by rfl _ _ rfl [] rfl _ (z0.out _) ?_)
 refine(fnew zF _ zF_lt (HX.out.keep hBw)).mono ?_
 rintro e x1 ⟨gC,rfl,hgC,hCx1,hq⟩
 have hBx1:=Tq hBw hq
 clear hq hBw
 go_wp2_with fail
 refine(tnew (some ⟨gC,0,none⟩) zF _ zF_lt (exp_made gC zF _ hCx1) (HX.out.keep hBx1)).mono ?_
 rintro e x2 ⟨gT,rfl,hgT,hTx2,hq⟩
 rw [HS0.out]at hTx2
 have hCx2:=hCx1.to hq
 have hBx2:=Tq hBx1 hq
 clear hq hCx1 hBx1
 obtain⟨m1,hm1⟩:=Le (x2.alloc (.cells #[.int .u8 104,.int .u8 101,.int .u8 108,.int .u8 108,.int .u8 111] 5 (5,6)))
 obtain⟨gm,hgm⟩: ∃g,x2.heap.size=g:=⟨_,rfl⟩
 have hcv:(convert 25 25 (.slice (some ⟨gm,0,none⟩) 5 5)).run Tryz.prog (x2.alloc (.cells #[.int .u8 104,.int .u8 101,.int .u8 108,.int .u8 108,.int .u8 111] 5))= .ok (.slice (some ⟨gm,0,none⟩) 5 5) m1:=by rw [←hgm,←hm1];exact Lib.run_convert_bytes_const x2 25 5 _ 5 5 Tryz.underlying25 Tryz.underlying5
 have hq:Below x2.heap.size x2 m1:=by rw [←hm1];exact(Below.refl _ _).alloc (Nat.le_refl _) _
 have hmm1:Sy m1 gm (some ⟨gm,0,none⟩) 5 helloL:=by rw [←hm1,←hgm];exact sy_hello x2
 have hCm1:=hCx2.to hq
 have hTm1:=hTx2.to hq
 have hBm1:=Tq hBx2 hq
 clear hq hCx2 hTx2 hBx2
 obtain⟨gp,hgp⟩:=Le (m1.heap.size)
 have hlgCgp:gC<gp:=by rw [←hgp];exact hCm1.lt
 have hlgTgp:gT<gp:=by rw [←hgp];exact hTm1.lt
 have hlgmgp:gm<gp:=by rw [←hgp];exact hmm1.lt
 have hlwgp:w.heap.size≤gp:=by rw [←hgp];exact hBm1.size
 have hq:=Ba m1 (.cells (cxL 5 zpF).toArray 27)
 have hCx3a:=hCm1.to hq
 have hTx3a:=hTm1.to hq
 have hmx3a:=hmm1.to hq
 have hpx3a:=Cx.new m1 5 zpF 27
 have hBx3a:=hBm1.alloc hBm1.size (.cells (cxL 5 zpF).toArray 27)
 rw [hgp]at hpx3a
 clear hq hCm1 hTm1 hmm1 hBm1
 go_upto_region 3 with (first|(refine wpList_build_by rfl 27 _ rfl _ rfl _ (b5P _ _ _ _ _ _ _ _) ?_)|(refine wpList_store_cx rfl _ _ _ rfl gp 5 0 zpF [.int .i64 1,.int .u64 7,.int .u16 258,.int .u16 3,.slice (some ⟨gm,0,none⟩) 5 5] rfl rfl hpx3a (by simp) size5P (pc_one _ _ _ _ _ rfl rfl rfl rfl rfl) ?_;intro x3 hpx30 belx3 sizx3 keex3)|fail)
 have hpx3:=hpx30.ext (pc_whole zpF _ _ _ _ _)
 have hCx3:=(hCx3a).keep hlgCgp belx3
 have hTx3:=(hTx3a).keep hlgTgp belx3
 have hmx3:=(hmx3a).keep hlgmgp belx3
 have hBx3:=hBx3a.trans (belx3.mono hlwgp)
 clear hCx3a hTx3a hmx3a hpx3a hpx30 hBx3a belx3 sizx3 keex3 hgp
 try dsimp only [Act.put]
 clear hcv hm1 hgm
 obtain⟨DG,hDG⟩: ∃DG,dgL zF 1 7 258 3 helloL=DG:=⟨_,rfl⟩
 have hDL:DG.length=33:=by rw [←hDG,dgL_len];rfl
 have HDG:=Lib.hid hDG
 have HDL:=Lib.hid hDL
 have HDV:=Lib.hid (dv_dg (f:=zF) (d:=1) (x:=7) (t:=258) (e:=3) (p:=helloL) zF_lt (by omega) (by omega) (by omega) (by omega) (by decide))
 have HPK:=Lib.hid (pk_dg (f:=zF) (d:=1) (x:=7) (t:=258) (e:=3) (p:=helloL) (n:=33) (by omega) (by omega) (by rw [hDG];exact hDL) (by decide))
 rw [hDG]at HDV HPK
 clear hDG hDL
 go_wp2_with (refine wpList_load_mid rfl _ _ rfl gp 0 rfl _ _ (pk_range hpx3) HS2.out HW2.out size5P ?_)
 refine(pencode (some ⟨gT,0,none⟩) zF 1 7 258 3 (some ⟨gm,0,none⟩) 5 5 helloL DG 0 _ zF_lt (by omega) (by omega) (by omega) (by omega) hmx3.sl (Nat.le_refl _) (by omega) (by decide) (by rw [if_pos rfl];exact HDG.out) (wtabo gT gC zF s _ HS0.out (hTx3) (hCx3)) (HX.out.keep hBx3)).mono ?_
 rintro e x4 ⟨A5,c5,rfl,hu0,hcu,hcM,hq⟩
 rw [HDL.out]at hu0 hcu
 rw [HDL.out,erW_no rfl]
 have HCU:=Lib.hid hcu
 have HCM:=Lib.hid hcM
 clear hcu hcM
 obtain⟨gu,hgu⟩: ∃g,x4.heap.size-1=g:=⟨_,rfl⟩
 have hux4:Sy x4 gu A5 (33) (DG):=by rw [←hgu];exact Sy.new hu0 (Nat.lt_of_lt_of_le (Nat.zero_lt_of_lt (hCx3.lt)) hq.size)
 clear hu0 hgu
 have hCx4:=hCx3.to hq
 have hTx4:=hTx3.to hq
 have hmx4:=hmx3.to hq
 have hpx4:=hpx3.t hq
 have hBx4:=Tq hBx3 hq
 clear hq hCx3 hTx3 hmx3 hpx3 hBx3
 go_wp2_with fail
 refine(pdecode (some ⟨gT,0,none⟩) zF A5 33 c5 DG _ zF_lt hux4.sl HCU.out (by omega) (wtabo gT gC zF s _ HS0.out (hTx4) (hCx4)) (HX.out.keep hBx4)).mono ?_
 rintro e x5 ⟨A6,c6,rfl,hv0,hcv,hq⟩
 rw [HDV.out.2.2.2.2.2,helloL_len]at hv0
 rw [HDV.out.1,HDV.out.2.1,HDV.out.2.2.1,HDV.out.2.2.2.1,HDV.out.2.2.2.2.1,HDV.out.2.2.2.2.2,helloL_len,erW_no rfl]
 clear hcv
 obtain⟨gv,hgv⟩: ∃g,x5.heap.size-1=g:=⟨_,rfl⟩
 have hvx5:Sy x5 gv A6 (5) (helloL):=by rw [←hgv];exact Sy.new hv0 (Nat.lt_of_lt_of_le (Nat.zero_lt_of_lt (hCx4.lt)) hq.size)
 clear hv0 hgv
 have hCx5:=hCx4.to hq
 have hTx5:=hTx4.to hq
 have hmx5:=hmx4.to hq
 have hpx5:=hpx4.t hq
 have hux5:=hux4.to hq
 have hBx5:=Tq hBx4 hq
 clear hq hCx4 hTx4 hmx4 hpx4 hux4 hBx4
 obtain⟨gx,hgx⟩:=Le (x5.heap.size)
 have hlgCgx:gC<gx:=by rw [←hgx];exact hCx5.lt
 have hlgTgx:gT<gx:=by rw [←hgx];exact hTx5.lt
 have hlgmgx:gm<gx:=by rw [←hgx];exact hmx5.lt
 have hlgpgx:gp<gx:=by rw [←hgx];exact hpx5.lt (by omega)
 have hlgugx:gu<gx:=by rw [←hgx];exact hux5.lt
 have hlgvgx:gv<gx:=by rw [←hgx];exact hvx5.lt
 have hlwgx:w.heap.size≤gx:=by rw [←hgx];exact hBx5.size
 have hq:=Ba x5 (.cells (cxL 5 zpF).toArray 27)
 have hCx6a:=hCx5.to hq
 have hTx6a:=hTx5.to hq
 have hmx6a:=hmx5.to hq
 have hpx6a:=hpx5.t hq
 have hux6a:=hux5.to hq
 have hvx6a:=hvx5.to hq
 have hxx6a:=Cx.new x5 5 zpF 27
 have hBx6a:=hBx5.alloc hBx5.size (.cells (cxL 5 zpF).toArray 27)
 rw [hgx]at hxx6a
 clear hq hCx5 hTx5 hmx5 hpx5 hux5 hvx5 hBx5
 go_upto_region 5 with (first|(refine wpList_store_cx rfl _ _ _ rfl gx 5 0 zpF [.int .i64 ((1:Nat):Int),.int .u64 ((7:Nat):Int),.int .u16 ((258:Nat):Int),.int .u16 ((3:Nat):Int),.slice A6 5 c6] rfl rfl hxx6a (by simp) size5P (pc_one _ _ _ _ _ rfl rfl rfl rfl rfl) ?_;intro x6 hxx60 belx6 sizx6 keex6)|fail)
 have hxx6:=hxx60.ext (pc_whole zpF _ _ _ _ _)
 have hCx6:=(hCx6a).keep hlgCgx belx6
 have hTx6:=(hTx6a).keep hlgTgx belx6
 have hmx6:=(hmx6a).keep hlgmgx belx6
 have hpx6:=(hpx6a).keep hlgpgx belx6
 have hux6:=(hux6a).keep hlgugx belx6
 have hvx6:=(hvx6a).keep hlgvgx belx6
 have hBx6:=hBx6a.trans (belx6.mono hlwgx)
 clear hCx6a hTx6a hmx6a hpx6a hux6a hvx6a hxx6a hxx60 hBx6a belx6 sizx6 keex6 hgx
 try dsimp only [Act.put]
 have HNI:=Lib.hid (show dcC zF []=1 from dcC_short (n:=0) rfl (by omega))
 have HNV:=Lib.hid (dv_no (f:=zF) (l:= []) (by rw [HNI.out];omega))
 go_wp2_with fail
 refine(pdecode (some ⟨gT,0,none⟩) zF none 0 0 [] _ zF_lt (sl_nil _ _) (Nat.le_refl _) (by omega) (wtabo gT gC zF s _ HS0.out (hTx6) (hCx6)) (HX.out.keep hBx6)).mono ?_
 rintro e x7 ⟨A7,c7,rfl,_,_,hq⟩
 rw [HNI.out,HNV.out.1,HNV.out.2.1,HNV.out.2.2.1,HNV.out.2.2.2.1,HNV.out.2.2.2.2,erW_is (by omega)]
 have hnl:([]:List UInt8).length=0:=rfl
 rw [hnl]
 clear hnl
 have hCx7:=hCx6.to hq
 have hTx7:=hTx6.to hq
 have hmx7:=hmx6.to hq
 have hpx7:=hpx6.t hq
 have hux7:=hux6.to hq
 have hvx7:=hvx6.to hq
 have hxx7:=hxx6.t hq
 have hBx7:=Tq hBx6 hq
 clear hq hCx6 hTx6 hmx6 hpx6 hux6 hvx6 hxx6 hBx6
 obtain⟨gy,hgy⟩:=Le (x7.heap.size)
 have hlgCgy:gC<gy:=by rw [←hgy];exact hCx7.lt
 have hlgTgy:gT<gy:=by rw [←hgy];exact hTx7.lt
 have hlgmgy:gm<gy:=by rw [←hgy];exact hmx7.lt
 have hlgpgy:gp<gy:=by rw [←hgy];exact hpx7.lt (by omega)
 have hlgugy:gu<gy:=by rw [←hgy];exact hux7.lt
 have hlgvgy:gv<gy:=by rw [←hgy];exact hvx7.lt
 have hlgxgy:gx<gy:=by rw [←hgy];exact hxx7.lt (by omega)
 have hlwgy:w.heap.size≤gy:=by rw [←hgy];exact hBx7.size
 have hq:=Ba x7 (.cells (cxL 5 zpF).toArray 27)
 have hCx8a:=hCx7.to hq
 have hTx8a:=hTx7.to hq
 have hmx8a:=hmx7.to hq
 have hpx8a:=hpx7.t hq
 have hux8a:=hux7.to hq
 have hvx8a:=hvx7.to hq
 have hxx8a:=hxx7.t hq
 have hyx8a:=Cx.new x7 5 zpF 27
 have hBx8a:=hBx7.alloc hBx7.size (.cells (cxL 5 zpF).toArray 27)
 rw [hgy]at hyx8a
 clear hq hCx7 hTx7 hmx7 hpx7 hux7 hvx7 hxx7 hBx7
 go_upto_region 6 with (first|(refine wpList_store_cx rfl _ _ _ rfl gy 5 0 zpF [.int .i64 ((0:Nat):Int),.int .u64 ((0:Nat):Int),.int .u16 ((0:Nat):Int),.int .u16 ((0:Nat):Int),.slice A7 0 c7] rfl rfl hyx8a (by simp) size5P (pc_one _ _ _ _ _ rfl rfl rfl rfl rfl) ?_;intro x8 hyx80 belx8 sizx8 keex8)|fail)
 have hyx8:=hyx80.ext (pc_whole zpF _ _ _ _ _)
 have hCx8:=(hCx8a).keep hlgCgy belx8
 have hTx8:=(hTx8a).keep hlgTgy belx8
 have hmx8:=(hmx8a).keep hlgmgy belx8
 have hpx8:=(hpx8a).keep hlgpgy belx8
 have hux8:=(hux8a).keep hlgugy belx8
 have hvx8:=(hvx8a).keep hlgvgy belx8
 have hxx8:=(hxx8a).keep hlgxgy belx8
 have hBx8:=hBx8a.trans (belx8.mono hlwgy)
 clear hCx8a hTx8a hmx8a hpx8a hux8a hvx8a hxx8a hyx8a hyx80 hBx8a belx8 sizx8 keex8 hgy
 try dsimp only [Act.put]
 clear hyx8
 go_wp2_with fail
 refine(ppeek A5 33 c5 DG _ hux8.sl HCU.out HCM.out).mono ?_
 rintro e x9 ⟨rfl,hq⟩
 rw [HPK.out.1,HPK.out.2,decide_eq_true (show unC 33=0 from rfl)]
 have hCx9:=hCx8.to hq
 have hTx9:=hTx8.to hq
 have hmx9:=hmx8.to hq
 have hpx9:=hpx8.t hq
 have hux9:=hux8.to hq
 have hvx9:=hvx8.to hq
 have hxx9:=hxx8.t hq
 have hBx9:=Tq hBx8 hq
 clear hq hCx8 hTx8 hmx8 hpx8 hux8 hvx8 hxx8 hBx8
 have hq1:=eqCdT 1
 go_wp2_with (first|(refine wpList_load_pkW rfl _ _ rfl gx rfl _ (pk_range hxx9) HS2.out HW2.out size5P ?_)|(refine wpList_load_pkW rfl _ _ rfl gp rfl _ (pk_range hpx9) HS2.out HW2.out size5P ?_))
 refine(rpsame 1 7 258 3 A6 5 c6 helloL 1 7 258 3 (some ⟨gm,0,none⟩) 5 5 helloL _ hvx9.sl hmx9.sl (by omega) (by omega)).mono ?_
 rintro e x10 ⟨rfl,hq⟩
 rw [decide_eq_true ⟨rfl,rfl,rfl,rfl,rfl⟩]
 have hCx10:=hCx9.to hq
 have hTx10:=hTx9.to hq
 have hmx10:=hmx9.to hq
 have hpx10:=hpx9.t hq
 have hux10:=hux9.to hq
 have hvx10:=hvx9.to hq
 have hxx10:=hxx9.t hq
 have hBx10:=Tq hBx9 hq
 clear hq hCx9 hTx9 hmx9 hpx9 hux9 hvx9 hxx9 hBx9
 go_wp2_with fail
 refine(psize 5 _ (by omega)).mono ?_
 rintro e x11 ⟨rfl,hw9⟩
 have hq:Below x10.heap.size x10 x11:=by rw [hw9];exact Below.refl _ _
 clear hw9
 rw [show(if(0:Int)≤5∧(5:Int)≤1200 then(5:Int)+28 else 0)=33 by decide]
 have hCx11:=hCx10.to hq
 have hTx11:=hTx10.to hq
 have hmx11:=hmx10.to hq
 have hpx11:=hpx10.t hq
 have hux11:=hux10.to hq
 have hvx11:=hvx10.to hq
 have hxx11:=hxx10.t hq
 have hBx11:=Tq hBx10 hq
 clear hq hCx10 hTx10 hmx10 hpx10 hux10 hvx10 hxx10 hBx10
 go_wp2_with (refine wpList_load_pkW rfl _ _ rfl gp rfl _ (pk_range hpx11) HS2.out HW2.out size5P ?_)
 refine(pright 1 7 258 3 (some ⟨gm,0,none⟩) 5 5 _ (by omega) (by omega) (by omega)).mono ?_
 rintro e x12 ⟨rfl,hq⟩
 rw [decide_eq_true (show ckC 1 7 5=0 by decide)]
 have hCx12:=hCx11.to hq
 have hTx12:=hTx11.to hq
 have hmx12:=hmx11.to hq
 have hpx12:=hpx11.t hq
 have hux12:=hux11.to hq
 have hvx12:=hvx11.to hq
 have hxx12:=hxx11.t hq
 have hBx12:=Tq hBx11 hq
 clear hq hCx11 hTx11 hmx11 hpx11 hux11 hvx11 hxx11 hBx11
 go_wp2_with (refine wpList_load_pkW rfl _ _ rfl gp rfl _ (pk_range hpx12) HS2.out HW2.out size5P ?_)
 refine(psame 1 7 258 3 (some ⟨gm,0,none⟩) 5 5 helloL 1 7 258 3 (some ⟨gm,0,none⟩) 5 5 helloL _ (by omega) (by omega) (by omega) (by omega) (by omega) (by omega) hmx12.sl hmx12.sl (by omega) (by omega)).mono ?_
 rintro e x13 ⟨rfl,hq⟩
 rw [decide_eq_true ⟨rfl,rfl,rfl,rfl,rfl⟩]
 have hCx13:=hCx12.to hq
 have hTx13:=hTx12.to hq
 have hmx13:=hmx12.to hq
 have hpx13:=hpx12.t hq
 have hux13:=hux12.to hq
 have hvx13:=hvx12.to hq
 have hxx13:=hxx12.t hq
 have hBx13:=Tq hBx12 hq
 clear hq hCx12 hTx12 hmx12 hpx12 hux12 hvx12 hxx12 hBx12
 go_wp2_with (first|(refine wpList_load_pkW rfl _ _ rfl gp rfl _ (pk_range hpx13) HS2.out HW2.out size5P ?_)|(refine wpList_build_byW rfl 27 _ rfl _ rfl _ (bz5P _) ?_))
 refine(psame 1 7 258 3 (some ⟨gm,0,none⟩) 5 5 helloL 0 0 0 0 none 0 0 [] _ (by omega) (by omega) (by omega) (by omega) (by omega) (by omega) hmx13.sl (sl_nil _ _) (by omega) (by omega)).mono ?_
 rintro e x14 ⟨rfl,hq⟩
 rw [decide_eq_false (fun h9=>absurd h9.1 (by decide))]
 have hCx14:=hCx13.to hq
 have hTx14:=hTx13.to hq
 have hmx14:=hmx13.to hq
 have hpx14:=hpx13.t hq
 have hux14:=hux13.to hq
 have hvx14:=hvx13.to hq
 have hxx14:=hxx13.t hq
 have hBx14:=Tq hBx13 hq
 clear hq hCx13 hTx13 hmx13 hpx13 hux13 hvx13 hxx13 hBx13
 go_wp2_with fail
 go_ret
 exact⟨rfl,hBx14⟩
end Go.Proofs.YtiacbphnclgikaaGreatDoor
