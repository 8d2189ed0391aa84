/-
 Contract of Block of the reference package of layer 13: the block that is encrypted to a block, by undoing the steps, by a walk through its text; what was there stays as it was.
-/
import Derived.Test.YtiacbphnclgikaaGreatDoorSqz
import Derived.Test.YtiacbphnclgikaaGreatDoorOpb
import Derived.Test.YtiacbphnclgikaaGreatDoorGcr
import Derived.Test.YtiacbphnclgikaaGreatDoorFre
import Derived.Test.YtiacbphnclgikaaGreatDoorEqs
import Derived.Deep.RegionHeld3
namespace Go.Proofs.YtiacbphnclgikaaGreatDoor
open Go.RowKit
set_option linter.unusedVariables false
set_option maxRecDepth 100000
set_option linter.unusedSimpArgs false
theorem below_setCellsO (W:World) (g:Nat) (vs:List Value) (o:Nat):Below g W (W.setCells g o vs):=Below.setCells (Below.refl _ _) (Nat.le_refl _) _ _
theorem wpList_store_arF {P:Program} {ops:Array Oper} {rest:List Oper} {op:Oper} {a:Act} {w:World} {Q:Exit→Act→World→Prop} (hgd:op.guard=none) (ty:TypeId) (x y:Operand) (ho:op.op= .store ty x y)
  (g n:Nat) (f f':Nat→Nat) (hx:a.eval x= .pointer (some ⟨g,0,none⟩)) (hy:a.eval y= .agg (arL n f').toArray)
  (hA:Ar w g n f) (hi:(P.info? ty).map (·.size)=some (arL n f').length)
  (h: ∀w',w'=w.setCells g 0 (arL n f')→Ar w' g n f'→wpList P ops Q rest (a.put op.dst undef) w'):
  wpList P ops Q (op::rest) a w:=by
 refine wpList_store_mid hgd ty x y ho g 0 _ hx hy ?_ ?_ (all_oneCell_toArray (arL_one n f')) ?_
 ·rw [List.size_toArray,arL_len];exact hA.there
 ·rw [List.size_toArray];exact hi
 ·exact h _ rfl (hA.whole f')
def dsF (f b:Nat→Nat):Nat→Nat→Nat
 |0=>b
 |k+1=>usF (uhF (if 10-k<10 then umF (adF (dsF f b k) (rk f (10-k)))else adF (dsF f b k) (rk f (10-k))))
theorem ds_de (f b:Nat→Nat): ∀k,k≤10→deR f (10-k) (dsF f b k)=deF f b
 |0,_=>rfl
 |k+1,h=>by
  have ih:=ds_de f b k (by omega)
  show deR f (10-(k+1)) (usF (uhF (if 10-k<10 then umF (adF (dsF f b k) (rk f (10-k)))else adF (dsF f b k) (rk f (10-k)))))=deF f b
  rw [show 10-k=(10-(k+1))+1 by omega]at ih⊢
  exact ih
theorem dsF_lt {f b:Nat→Nat} (hf:B16 f) (hb:B16 b): ∀k,B16 (dsF f b k)
 |0=>hb
 |k+1=>by
  refine usF_lt (uhF_lt ?_)
  split
  ·exact umF_lt _
  ·exact adF_lt (dsF_lt hf hb k) (rk_lt f hf _)
theorem runmix (X:Nat→Nat) (w:World) (h:B16 X):
  Calls Tryz.prog 136 #[.agg (arL 16 (tr X)).toArray] w fun e w'=>e= .returned (.agg (arL 16 (tr (umF X))).toArray)∧Below w.heap.size w w':=by
 have e:arL 16 (tr (umF (tr (tr X))))=arL 16 (tr (umF X)):=arL_ext (n:=16) (fun j hj=>(tr_congr (mxF_congr 14 11 13 9 (tr_tr X))) j hj)
 have h1:=refUnmix (tr X) w (tr_lt h)
 rwa [e]at h1
theorem rShift3 (X:Nat→Nat) (w:World) (h:B16 X):
  Calls Tryz.prog 129 #[.agg (arL 16 (tr (shF (shF X)))).toArray] w fun e w'=>e= .returned (.agg (arL 16 (tr (uhF X))).toArray)∧Below w.heap.size w w':=by
 have e:arL 16 (tr (shF (shF (shF X))))=arL 16 (tr (uhF X)):=arL_ext (n:=16) (fun j hj=>(tr_congr (sh_three X)) j hj)
 have h1:=rShift (shF (shF X)) w (shF_lt (shF_lt h))
 rwa [e]at h1
theorem bfacts {r q:Nat} (hr:r≤10) (h1:1≤r) (hq:r-1=q):wrap64 ((r:Int)-1)=(q:Int)∧IntKind.i64.wrap ((r:Int)-1)=(q:Int)∧(r:Int)-1=(q:Int)∧IntKind.i64.wrap (q:Int)=(q:Int):=by
 refine⟨?_,?_,by omega,wraps_i64' _ (by omega) (by omega)⟩
 ·rw [IntWalk.wrap64_in _ (by omega)];omega
 ·rw [show(r:Int)-1=(q:Int)by omega,wraps_i64' _ (by omega) (by omega)]
theorem ds_step (f b:Nat→Nat) {r k:Nat} (hk:10-r=k) (hr:r≤10) (h1:1≤r):dsF f b (10-(r-1))=usF (uhF (if r<10 then umF (adF (dsF f b k) (rk f r))else adF (dsF f b k) (rk f r))):=by
 subst hk
 rw [show 10-(r-1)=(10-r)+1 by omega]
 show usF (uhF (if 10-(10-r)<10 then umF (adF (dsF f b (10-r)) (rk f (10-(10-r))))else adF (dsF f b (10-r)) (rk f (10-(10-r)))))=_
 rw [show 10-(10-r)=r by omega]
set_option maxHeartbeats 4000000 in
theorem refblock0 (f b pk:Nat→Nat) (w:World) (hf:B16 f) (hb:B16 b) (hrow: ∀r,r≤10→arL 16 (fun j=>pk (r*16+j))=arL 16 (rk f r)) (htab:(arL 256 (fun j=>pk (176+j))).toArray=boxA):
  Calls Tryz.prog 99 #[.agg (arL 432 pk).toArray,.agg (arL 16 b).toArray] w fun e w'=>e= .returned (.agg (arL 16 (deF f b)).toArray)∧Below w.heap.size w w':=by
 obtain⟨dK,hfs,hrow⟩:=Tryz.structK
 have HS:=Lib.hid hfs
 have HW:=Lib.hid hrow
 clear hfs hrow
 obtain⟨kE,hkE⟩:=Le ((arL 432 (pk)).toArray)
 obtain⟨kC,hkC⟩:=Le ((arL 16 (b)).toArray)
 obtain⟨w1,hw1⟩:=Lv (w.alloc (.cells (arL 432 (pk)).toArray 48))
 have hs1:=Zs1 hw1
 have hBw1:=Bl hw1
 have hEw1:Ar w1 w.heap.size 432 (pk):=by rw [hw1];exact Ar.new w 432 _ _
 obtain⟨w2,hw2⟩:=Lv (w1.alloc (.cells (arL 16 (b)).toArray 22))
 have hs2:=Zs2 hw2 hs1
 have hBw2:=Bm hw2 hBw1
 have hEw2:=hEw1.alloc (by omega) (.cells (arL 16 (b)).toArray 22)
 rw [←hw2]at hEw2
 have hCw2:Ar w2 (w.heap.size+1) 16 (b):=by rw [hw2,←hs1];exact Ar.new w1 16 _ _
 clear hEw1 hBw1
 obtain⟨w3,hw3⟩:=Lv (w2.alloc (.cells (arL 16 (fun _=>0)).toArray 22))
 have hs3:=Zs3 hw3 hs2
 have hBw3:=Bm hw3 hBw2
 have hEw3:=hEw2.alloc (by omega) (.cells (arL 16 (fun _=>0)).toArray 22)
 rw [←hw3]at hEw3
 have hCw3:=hCw2.alloc (by omega) (.cells (arL 16 (fun _=>0)).toArray 22)
 rw [←hw3]at hCw3
 have hRw3:Ar w3 (w.heap.size+2) 16 (fun _=>0):=by rw [hw3,←hs2];exact Ar.new w2 16 _ _
 clear hEw2 hCw2 hBw2
 have HKE:=Lib.hid hkE
 rw [hkE]at hw1
 have HKC:=Lib.hid hkC
 rw [hkC]at hw2
 rw [hkE,hkC]
 clear hkE hkC
 have hz:=zero16b
 have hzG:=zeroG
 have hz256:=zero256
 have HFB:=Lib.hid hf
 have HBB:=Lib.hid hb
 have HROW:=Lib.hid hrow
 have HTAB:=Lib.hid htab
 have HRK:=Lib.hid (fun r=>rk_lt f hf r)
 clear hf hb hrow htab
 go_enter Tryz.func99,Tryz.ntmps99
 go_upto_region 1 with fail
 rw [←hw1,←hw2,←hw3]
 clear hw1 hw2 hw3
 try simp only [Nat.add_assoc,Nat.reduceAdd]
 obtain⟨gC,hgC⟩:=Le (w.heap.size+1)
 rw [hgC]at hCw3
 obtain⟨gR,hgR⟩:=Le (w.heap.size+2)
 rw [hgR]at hRw3
 try rw [hgR]
 try rw [hgC]
 have hlC:w.heap.size<gC:=by omega
 have hlR:gC<gR:=by omega
 clear hs1 hs2 hs3 hgC hgR
 go_wp2_with (refine wpList_load_arO rfl _ _ rfl _ 432 176 256 _ rfl hEw3 (by omega) Tryz.arr256 (size_arL _) ?_;rw [HTAB.out])
 refine(refturned _).mono ?_
 rintro e x1 ⟨rfl,hq⟩
 have hEx1:=hEw3.t hq
 have hCx1:=hCw3.t hq
 have hRx1:=hRw3.t hq
 have hBx1:=Tq hBw3 hq
 clear hq hEw3 hCw3 hRw3 hBw3
 obtain⟨gV,hgV⟩:=Le (x1.heap.size)
 have hlw_heap_sizegV:w.heap.size<gV:=by rw [←hgV];exact hEx1.lt (by omega)
 have hlgCgV:gC<gV:=by rw [←hgV];exact hCx1.lt (by omega)
 have hlgRgV:gR<gV:=by rw [←hgV];exact hRx1.lt (by omega)
 have hlwgV:w.heap.size≤gV:=by rw [←hgV];exact hBx1.size
 have hq:=Ba x1 (.cells (arL 256 fun _=>0).toArray 46)
 have hEx2a:=hEx1.t hq
 have hCx2a:=hCx1.t hq
 have hRx2a:=hRx1.t hq
 have hVx2a:=Ar.new x1 256 (fun _=>0) 46
 have hBx2a:=hBx1.alloc hBx1.size (.cells (arL 256 fun _=>0).toArray 46)
 rw [hgV]at hVx2a
 clear hq hEx1 hCx1 hRx1 hBx1
 go_upto_region 2 with (first|(refine wpList_store_ar rfl _ _ _ rfl _ _ _ (bk) rfl rfl hVx2a (size_arL _) ?_;intro x2 hVx2 belx2 sizx2 keex2)|fail)
 have hEx2:=(hEx2a).keep hlw_heap_sizegV belx2
 have hCx2:=(hCx2a).keep hlgCgV belx2
 have hRx2:=(hRx2a).keep hlgRgV belx2
 have hBx2:=hBx2a.trans (belx2.mono hlwgV)
 clear hEx2a hCx2a hRx2a hVx2a hBx2a belx2 sizx2 keex2 hgV
 try dsimp only [Act.put]
 go_wp2_with (refine wpList_load_ar rfl _ _ rfl _ _ _ rfl hCx2 Tryz.arr16b (size16b _) ?_)
 refine(refOf b _).mono ?_
 rintro e x3 ⟨rfl,hq⟩
 have hEx3:=hEx2.t hq
 have hCx3:=hCx2.t hq
 have hRx3:=hRx2.t hq
 have hVx3:=hVx2.t hq
 have hBx3:=Tq hBx2 hq
 clear hq hEx2 hCx2 hRx2 hVx2 hBx2
 obtain⟨gG,hgG⟩:=Le (x3.heap.size)
 have hlw_heap_sizegG:w.heap.size<gG:=by rw [←hgG];exact hEx3.lt (by omega)
 have hlgCgG:gC<gG:=by rw [←hgG];exact hCx3.lt (by omega)
 have hlgRgG:gR<gG:=by rw [←hgG];exact hRx3.lt (by omega)
 have hlgVgG:gV<gG:=by rw [←hgG];exact hVx3.lt (by omega)
 have hlwgG:w.heap.size≤gG:=by rw [←hgG];exact hBx3.size
 have hq:=Ba x3 (.cells (arL 16 fun _=>0).toArray 162)
 have hEx4a:=hEx3.t hq
 have hCx4a:=hCx3.t hq
 have hRx4a:=hRx3.t hq
 have hVx4a:=hVx3.t hq
 have hGx4a:=Ar.new x3 16 (fun _=>0) 162
 have hBx4a:=hBx3.alloc hBx3.size (.cells (arL 16 fun _=>0).toArray 162)
 rw [hgG]at hGx4a
 clear hq hEx3 hCx3 hRx3 hVx3 hBx3
 go_upto_region 3 with (first|(refine wpList_store_ar rfl _ _ _ rfl _ _ _ (tr b) rfl rfl hGx4a (sizeG _) ?_;intro x4 hGx4 belx4 sizx4 keex4)|fail)
 have hEx4:=(hEx4a).keep hlw_heap_sizegG belx4
 have hCx4:=(hCx4a).keep hlgCgG belx4
 have hRx4:=(hRx4a).keep hlgRgG belx4
 have hVx4:=(hVx4a).keep hlgVgG belx4
 have hBx4:=hBx4a.trans (belx4.mono hlwgG)
 clear hEx4a hCx4a hRx4a hVx4a hGx4a hBx4a belx4 sizx4 keex4 hgG
 try dsimp only [Act.put]
 go_wp2_with fail
 clear hCx4
 go_loopw [7] (fun i wr=> ∃(r:Nat),r≤10∧i= .int .i64 r∧Ar wr w.heap.size 432 (pk)∧Ar wr gR 16 (fun _=>0)∧Ar wr gV 256 (bk)∧Ar wr gG 16 (tr (dsF f b (10-r)))∧Below w.heap.size w wr) (fun i _=>(intOf i).toNat)
 case atStart=>exact⟨10,Nat.le_refl _,rfl,hEx4,hRx4,hVx4,hGx4,hBx4⟩
 case round=>
  clear hEx4 hRx4 hVx4 hGx4 hBx4
  obtain⟨r,hr,rfl,hE0,hR0,hV0,hG0,hB0⟩:=hrel
  have hEwr:=hE0
  have hRwr:=hR0
  have hVwr:=hV0
  have hGwr:=hG0
  have hBwr:=hB0
  clear hE0 hR0 hV0 hG0 hB0
  by_cases hlt:1≤r
  ·have i1:(1:Int)≤(r:Int):=by omega
   have i2:(r:Int)<11:=by omega
   obtain⟨k,hk⟩:=Le (10-r)
   obtain⟨q,hq0⟩:=Le (r-1)
   have HK:=Lib.hid hk
   have HQ:=Lib.hid hq0
   have HQ2:=Lib.hid (bfacts hr hlt hq0)
   have HST:=Lib.hid (ds_step f b hk hr hlt)
   have hxb:=Lib.hid (dsF_lt HFB.out HBB.out k)
   have HRR:=Lib.hid hr
   rw [hq0]at HST
   rw [hk]at hGwr
   obtain⟨X,hX⟩: ∃X,dsF f b k=X:=⟨_,rfl⟩
   rw [hX]at hGwr hxb HST
   have hrb:=Lib.hid (HRK.out r)
   have HRW:=Lib.hid (HROW.out r hr)
   obtain⟨rr,hrr⟩: ∃u,rk f r=u:=⟨_,rfl⟩
   rw [hrr]at hrb HST HRW
   have hyb:=Lib.hid (adF_lt hxb.out hrb.out)
   obtain⟨Y,hY⟩: ∃Y,adF X rr=Y:=⟨_,rfl⟩
   have HY:=Lib.hid hY
   rw [hY]at hyb HST
   clear hk hq0 hX hrr hY
   go_upto_region 6 with fail
   refine wp_region_noPanic ?_
   have hGad:=hGwr.drew
   refine wp_region_held_drew (S:=fun W=>Ar W w.heap.size 432 (pk)∧Ar W gR 16 (fun _=>0)∧Ar W gV 256 (bk)∧Below w.heap.size w W) (by kernel_rfl) ⟨hEwr.drew,hRwr.drew,hVwr.drew,hBwr.drew⟩ (fun hH'=> ?_)
   clear hEwr hRwr hVwr hBwr hGwr
   generalize World.drew wr=ad at*
   refine tw 1 ?va1 rfl ?hya1 ?resta1
   case hya1=>
    intro W hSw
    go_simp
    try with_reducible rfl
   simp only [Act.put,nrm]
   refine tw 2 ?va2 rfl ?hya2 ?resta2
   case hya2=>
    intro W hSw
    go_simp
    try with_reducible rfl
   simp only [Act.put,nrm]
   refine tw 3 ?va3 rfl ?hya3 ?resta3
   case hya3=>
    intro W hSw
    go_simp
    try with_reducible rfl
   simp only [Act.put,nrm]
   refine tk 4 (.agg (arL 16 (rr)).toArray) rfl (yieldsIf_load_mid (by rfl) _ _ rfl w.heap.size ((r*16)) rfl (arL 16 (rr)) _ (fun W hSw=>(by have q9:=(hSw.1).rangeO (r*16) 16 (by have:=HRR.out;omega);rwa [HRW.out]at q9)) Tryz.arr16b rfl (size16b _)) ?_
   simp only [Act.put,nrm]
   refine rd 0 rfl (fun K hK=> ?_)
   rw [if_pos (by rfl)]
   refine wp_load_mid _ _ rfl gG 0 rfl (arL 16 (tr X)) _ hGad.range Tryz.arrG rfl (sizeG _) ?_
   refine hK.out _ _ hH' ?_
   clear hK K hH'
   intro hH'
   try simp only [Act.put,nrm]
   refine rd 5 rfl (fun K hK=> ?_)
   go_simp
   refine(rAdd X rr _ hxb.out hrb.out).mono ?_
   rintro e a4 ⟨rfl,hq⟩
   rw [HY.out]
   go_wp2_with fail
   have hGa4:=hGad.t hq
   refine hK.out _ _ ⟨hH'.1.t hq,hH'.2.1.t hq,hH'.2.2.1.t hq,Tq hH'.2.2.2 hq⟩ ?_
   clear hK K hH' hq hGad
   intro hH'
   try simp only [Act.put,nrm]
   refine rd 6 rfl (fun K hK=> ?_)
   rw [if_pos (by rfl)]
   refine wp_store_mid _ _ _ rfl gG 0 (arL 16 (tr Y)).toArray rfl rfl hGa4.there (sizeG _) (all_oneCell_toArray (arL_one 16 (tr Y))) ?_
   have hGa5:=hGa4.whole (tr Y)
   dsimp only [List.toList_toArray]
   refine hK.out _ _ ⟨(hH'.1).apart (b:=gG) (by omega) (arL 16 (tr Y)) 0,(hH'.2.1).apart (b:=gG) (by omega) (arL 16 (tr Y)) 0,(hH'.2.2.1).apart (b:=gG) (by omega) (arL 16 (tr Y)) 0,(hH'.2.2.2).trans (Below.setCells (Below.refl w.heap.size _) (b:=gG) (by omega) (arL 16 (tr Y)) 0)⟩ ?_
   clear hK K hH' hGa4
   intro hH'
   generalize World.setCells a4 gG 0 (arL 16 (tr Y))=a5 at*
   try simp only [Act.put]
   refine wpAnyH_done (by kernel_rfl) ?_ _
   have hEy6:=hH'.1
   have hRy6:=hH'.2.1
   have hVy6:=hH'.2.2.1
   have hBy6:=hH'.2.2.2
   have hGy6:=hGa5
   clear hH' hGa5
   refine NoPanic.normal ?_
   try dsimp only [Act.put]
   by_cases h10:r<10
   ·have i3:(r:Int)<10:=by omega
    have HST1:=HST.out
    rw [if_pos h10]at HST1
    have HST1:=Lib.hid HST1
    go_wp2_with (refine wpList_load_ar rfl _ _ rfl _ _ _ rfl hGy6 Tryz.arrG (sizeG _) ?_)
    refine(runmix Y _ hyb.out).mono ?_
    rintro e x5 ⟨rfl,hq⟩
    have hEx5:=hEy6.t hq
    have hRx5:=hRy6.t hq
    have hVx5:=hVy6.t hq
    have hGx5:=hGy6.t hq
    have hBx5:=Tq hBy6 hq
    clear hq hEy6 hRy6 hVy6 hGy6 hBy6
    have hzb:=Lib.hid (umF_lt Y)
    obtain⟨Z,hZ⟩: ∃Z,umF Y=Z:=⟨_,rfl⟩
    have HST2:=HST1.out
    rw [hZ]at HST2 hzb
    rw [hZ]
    have HST2:=Lib.hid HST2
    clear hZ
    go_upto_region 9 with (first|(refine wpList_store_arF rfl _ _ _ rfl _ _ _ (tr (Z)) rfl rfl hGx5 (sizeG _) ?_;intro z6 he3 hGz6;have HE3:=Lib.hid he3;clear he3)|fail)
    have he3:=HE3.out
    have hEz6:Ar z6 w.heap.size 432 (pk):=by rw [he3];exact hEx5.apart (b:=gG) (by omega) _ 0
    have hRz6:Ar z6 gR 16 (fun _=>0):=by rw [he3];exact hRx5.apart (b:=gG) (by omega) _ 0
    have hVz6:Ar z6 gV 256 (bk):=by rw [he3];exact hVx5.apart (b:=gG) (by omega) _ 0
    have hBz6:Below w.heap.size w z6:=by rw [he3];exact hBx5.trans ((below_setCellsO _ gG _ 0).mono (by omega))
    clear he3 HE3 hBx5 hEx5 hRx5 hVx5 hGx5
    go_wp2_with (refine wpList_load_ar rfl _ _ rfl _ _ _ rfl hGz6 Tryz.arrG (sizeG _) ?_)
    refine(rShift Z _ hzb.out).mono ?_
    rintro e x7 ⟨rfl,hq⟩
    have hEx7:=hEz6.t hq
    have hRx7:=hRz6.t hq
    have hVx7:=hVz6.t hq
    have hGx7:=hGz6.t hq
    have hBx7:=Tq hBz6 hq
    clear hq hEz6 hRz6 hVz6 hGz6 hBz6
    go_wp2_with fail
    refine(rShift (shF Z) _ (shF_lt hzb.out)).mono ?_
    rintro e x8 ⟨rfl,hq⟩
    have hEx8:=hEx7.t hq
    have hRx8:=hRx7.t hq
    have hVx8:=hVx7.t hq
    have hGx8:=hGx7.t hq
    have hBx8:=Tq hBx7 hq
    clear hq hEx7 hRx7 hVx7 hGx7 hBx7
    go_wp2_with fail
    refine(rShift3 Z _ hzb.out).mono ?_
    rintro e x9 ⟨rfl,hq⟩
    have hEx9:=hEx8.t hq
    have hRx9:=hRx8.t hq
    have hVx9:=hVx8.t hq
    have hGx9:=hGx8.t hq
    have hBx9:=Tq hBx8 hq
    clear hq hEx8 hRx8 hVx8 hGx8 hBx8
    have hub:=Lib.hid (uhF_lt hzb.out)
    obtain⟨U,hU⟩: ∃U,uhF Z=U:=⟨_,rfl⟩
    rw [hU]at HST2 hub
    rw [hU]
    clear hU
    go_upto_region 10 with (first|(refine wpList_store_arF rfl _ _ _ rfl _ _ _ (tr (U)) rfl rfl hGx9 (sizeG _) ?_;intro z10 he3 hGz10;have HE3:=Lib.hid he3;clear he3)|fail)
    have he3:=HE3.out
    have hEz10:Ar z10 w.heap.size 432 (pk):=by rw [he3];exact hEx9.apart (b:=gG) (by omega) _ 0
    have hRz10:Ar z10 gR 16 (fun _=>0):=by rw [he3];exact hRx9.apart (b:=gG) (by omega) _ 0
    have hVz10:Ar z10 gV 256 (bk):=by rw [he3];exact hVx9.apart (b:=gG) (by omega) _ 0
    have hBz10:Below w.heap.size w z10:=by rw [he3];exact hBx9.trans ((below_setCellsO _ gG _ 0).mono (by omega))
    clear he3 HE3 hBx9 hEx9 hRx9 hVx9 hGx9
    go_wp2_with (first|(refine wpList_load_ar rfl _ _ rfl _ _ _ rfl hGz10 Tryz.arrG (sizeG _) ?_)|(refine wpList_load_ar rfl _ _ rfl _ _ _ rfl hVz10 Tryz.arr256 (size_arL _) ?_))
    refine(rUsub U _ hub.out).mono ?_
    rintro e x11 ⟨rfl,hq⟩
    have hEx11:=hEz10.t hq
    have hRx11:=hRz10.t hq
    have hVx11:=hVz10.t hq
    have hGx11:=hGz10.t hq
    have hBx11:=Tq hBz10 hq
    clear hq hEz10 hRz10 hVz10 hGz10 hBz10
    go_wp2_with (refine wpList_store_arF rfl _ _ _ rfl _ _ _ (tr (usF U)) rfl rfl hGx11 (sizeG _) ?_;intro z12 he3 hGz12;have HE3:=Lib.hid he3;clear he3)
    have he3:=HE3.out
    have hEz12:Ar z12 w.heap.size 432 (pk):=by rw [he3];exact hEx11.apart (b:=gG) (by omega) _ 0
    have hRz12:Ar z12 gR 16 (fun _=>0):=by rw [he3];exact hRx11.apart (b:=gG) (by omega) _ 0
    have hVz12:Ar z12 gV 256 (bk):=by rw [he3];exact hVx11.apart (b:=gG) (by omega) _ 0
    have hBz12:Below w.heap.size w z12:=by rw [he3];exact hBx11.trans ((below_setCellsO _ gG _ 0).mono (by omega))
    clear he3 HE3 hBx11 hEx11 hRx11 hVx11 hGx11
    obtain⟨e1,e2,e3,e4⟩:=HQ2.out
    go_wp2_with fail
    go_roundw
    case rel=>exact⟨q,by omega,by go_num,hEz12,hRz12,hVz12,by rw [HST2.out];exact hGz12,hBz12⟩
    case measure=>simp [intOf];omega
   ·have i3: ¬(r:Int)<10:=by omega
    have HST1:=HST.out
    rw [if_neg h10]at HST1
    have HST2:=Lib.hid HST1
    have hzb:=hyb
    go_wp2_with (refine wpList_load_ar rfl _ _ rfl _ _ _ rfl hGy6 Tryz.arrG (sizeG _) ?_)
    refine(rShift Y _ hzb.out).mono ?_
    rintro e x13 ⟨rfl,hq⟩
    have hEx13:=hEy6.t hq
    have hRx13:=hRy6.t hq
    have hVx13:=hVy6.t hq
    have hGx13:=hGy6.t hq
    have hBx13:=Tq hBy6 hq
    clear hq hEy6 hRy6 hVy6 hGy6 hBy6
    go_wp2_with fail
    refine(rShift (shF Y) _ (shF_lt hzb.out)).mono ?_
    rintro e x14 ⟨rfl,hq⟩
    have hEx14:=hEx13.t hq
    have hRx14:=hRx13.t hq
    have hVx14:=hVx13.t hq
    have hGx14:=hGx13.t hq
    have hBx14:=Tq hBx13 hq
    clear hq hEx13 hRx13 hVx13 hGx13 hBx13
    go_wp2_with fail
    refine(rShift3 Y _ hzb.out).mono ?_
    rintro e x15 ⟨rfl,hq⟩
    have hEx15:=hEx14.t hq
    have hRx15:=hRx14.t hq
    have hVx15:=hVx14.t hq
    have hGx15:=hGx14.t hq
    have hBx15:=Tq hBx14 hq
    clear hq hEx14 hRx14 hVx14 hGx14 hBx14
    have hub:=Lib.hid (uhF_lt hzb.out)
    obtain⟨U,hU⟩: ∃U,uhF Y=U:=⟨_,rfl⟩
    rw [hU]at HST2 hub
    rw [hU]
    clear hU
    go_upto_region 10 with (first|(refine wpList_store_arF rfl _ _ _ rfl _ _ _ (tr (U)) rfl rfl hGx15 (sizeG _) ?_;intro z16 he3 hGz16;have HE3:=Lib.hid he3;clear he3)|fail)
    have he3:=HE3.out
    have hEz16:Ar z16 w.heap.size 432 (pk):=by rw [he3];exact hEx15.apart (b:=gG) (by omega) _ 0
    have hRz16:Ar z16 gR 16 (fun _=>0):=by rw [he3];exact hRx15.apart (b:=gG) (by omega) _ 0
    have hVz16:Ar z16 gV 256 (bk):=by rw [he3];exact hVx15.apart (b:=gG) (by omega) _ 0
    have hBz16:Below w.heap.size w z16:=by rw [he3];exact hBx15.trans ((below_setCellsO _ gG _ 0).mono (by omega))
    clear he3 HE3 hBx15 hEx15 hRx15 hVx15 hGx15
    go_wp2_with (first|(refine wpList_load_ar rfl _ _ rfl _ _ _ rfl hGz16 Tryz.arrG (sizeG _) ?_)|(refine wpList_load_ar rfl _ _ rfl _ _ _ rfl hVz16 Tryz.arr256 (size_arL _) ?_))
    refine(rUsub U _ hub.out).mono ?_
    rintro e x17 ⟨rfl,hq⟩
    have hEx17:=hEz16.t hq
    have hRx17:=hRz16.t hq
    have hVx17:=hVz16.t hq
    have hGx17:=hGz16.t hq
    have hBx17:=Tq hBz16 hq
    clear hq hEz16 hRz16 hVz16 hGz16 hBz16
    go_wp2_with (refine wpList_store_arF rfl _ _ _ rfl _ _ _ (tr (usF U)) rfl rfl hGx17 (sizeG _) ?_;intro z18 he3 hGz18;have HE3:=Lib.hid he3;clear he3)
    have he3:=HE3.out
    have hEz18:Ar z18 w.heap.size 432 (pk):=by rw [he3];exact hEx17.apart (b:=gG) (by omega) _ 0
    have hRz18:Ar z18 gR 16 (fun _=>0):=by rw [he3];exact hRx17.apart (b:=gG) (by omega) _ 0
    have hVz18:Ar z18 gV 256 (bk):=by rw [he3];exact hVx17.apart (b:=gG) (by omega) _ 0
    have hBz18:Below w.heap.size w z18:=by rw [he3];exact hBx17.trans ((below_setCellsO _ gG _ 0).mono (by omega))
    clear he3 HE3 hBx17 hEx17 hRx17 hVx17 hGx17
    obtain⟨e1,e2,e3,e4⟩:=HQ2.out
    go_wp2_with fail
    go_roundw
    case rel=>exact⟨q,by omega,by go_num,hEz18,hRz18,hVz18,by rw [HST2.out];exact hGz18,hBz18⟩
    case measure=>simp [intOf];omega
  ·have e:r=0:=by omega
   subst e
   have i1: ¬(1:Int)≤((0:Nat):Int):=by omega
   have h0b:=Lib.hid (dsF_lt HFB.out HBB.out 10)
   have hrb:=Lib.hid (HRK.out 0)
   have HR0:=Lib.hid (HROW.out 0 (by omega))
   have HV0:=Lib.hid (show adF (dsF f b 10) (rk f 0)=deF f b from ds_de f b 10 (Nat.le_refl _))
   rw [show 10-0=10 from rfl]at hGwr
   obtain⟨X,hX⟩: ∃X,dsF f b 10=X:=⟨_,rfl⟩
   rw [hX]at hGwr h0b HV0
   obtain⟨rr,hrr⟩: ∃u,rk f 0=u:=⟨_,rfl⟩
   rw [hrr]at hrb HR0 HV0
   clear hX hrr
   go_upto_region 11 with fail
   go_wp2_with (first|(refine wpList_load_ar rfl _ _ rfl _ _ _ rfl hGwr Tryz.arrG (sizeG _) ?_)|(refine wpList_load_arO rfl _ _ rfl _ 432 0 16 _ rfl hEwr (by omega) Tryz.arr16b (size16b _) ?_;rw [show arL 16 (fun j=>pk (0+j))=arL 16 rr from(by have q9:=HR0.out;rwa [Nat.zero_mul]at q9)]))
   refine(rAdd X rr _ h0b.out hrb.out).mono ?_
   rintro e x19 ⟨rfl,hq⟩
   have hEx19:=hEwr.t hq
   have hRx19:=hRwr.t hq
   have hVx19:=hVwr.t hq
   have hGx19:=hGwr.t hq
   have hBx19:=Tq hBwr hq
   clear hq hEwr hRwr hVwr hGwr hBwr
   go_wp2_with fail
   refine(rBlock (adF X rr) _).mono ?_
   rintro e x20 ⟨rfl,hq⟩
   have hEx20:=hEx19.t hq
   have hRx20:=hRx19.t hq
   have hVx20:=hVx19.t hq
   have hGx20:=hGx19.t hq
   have hBx20:=Tq hBx19 hq
   clear hq hEx19 hRx19 hVx19 hGx19 hBx19
   rw [HV0.out]
   go_wp2_with (refine wpList_store_ar rfl _ _ _ rfl _ _ _ (deF f b) rfl rfl hRx20 (size16b _) ?_;intro y8 hRy8 bel8 siz8 kee8)
   refine bodyPost_ret_ar rfl rfl hRy8 Tryz.arr16b (size16b _) rfl ⟨rfl,hBx20.trans (bel8.mono (by omega))⟩
theorem refblock13 (f b:Nat→Nat) (w:World) (hf:B16 f) (hb:B16 b):Calls Tryz.prog 99 #[.agg (arL 432 (pkF (ek f) sb)).toArray,.agg (arL 16 b).toArray] w fun e w'=>e= .returned (.agg (arL 16 (deF f b)).toArray)∧Below w.heap.size w w':=
 refblock0 f b _ w hf hb (fun r hr=>arL_ext (fun j hj=>by rw [pkF,if_pos (by omega),Nat.mul_comm r 16,ek_rk f r j hj])) (by rw [arL_ext (n:=256) (g:=sb) (fun j hj=>by rw [pkF,if_neg (by omega),Nat.add_sub_cancel_left])];rfl)
end Go.Proofs.YtiacbphnclgikaaGreatDoor
