/-
 Contract of Decode of the reference package of layer 17, by a walk through its text; what was there stays as it was.
-/
import Derived.Test.YtiacbphnclgikaaGreatDoorSqz
import Derived.Test.YtiacbphnclgikaaGreatDoorPka
import Derived.Test.YtiacbphnclgikaaGreatDoorPkb
import Derived.Test.YtiacbphnclgikaaGreatDoorGnc
import Derived.Test.YtiacbphnclgikaaGreatDoorOpe
import Derived.Test.YtiacbphnclgikaaGreatDoorGbl
import Derived.Test.YtiacbphnclgikaaGreatDoorSew
import Derived.Deep.RegionHeld3
namespace Go.Proofs.YtiacbphnclgikaaGreatDoor
open Go.RowKit
set_option linter.unusedVariables false
set_option maxRecDepth 100000
set_option linter.unusedSimpArgs false
open Go.Shelf
set_option maxHeartbeats 4000000 in
theorem rpdec (f:Nat→Nat) (A:Option Addr) (n c:Nat) (l:List UInt8) (w:World) (hf:B16 f) (hS:Sl w w.heap.size A n l) (hnc:n≤c) (hc:c≤maxLen):
  Calls Tryz.prog 17 #[.agg (arL 432 (pkF (ek f) sb)).toArray,.slice A n c] w fun e9 w'=> ∃(A2:Option Addr) (c2:Nat),e9= .returned (.tuple #[.agg #[.int .i64 (dvD f l:Nat),.int .u64 (dvX f l:Nat),.int .u16 (dvT f l:Nat),.int .u16 (dvE f l:Nat),.slice A2 (dvL f l).length c2],.int .i64 (dcC f l:Nat)])∧Sl w' w'.heap.size A2 (dvL f l).length (dvL f l)∧(dvL f l).length≤c2∧Below w.heap.size w w':=by
 have hlen:=hS.len
 by_cases h28:n<28
 ·obtain⟨kE,hkE⟩:=Le ((arL 432 (pkF (ek f) sb)).toArray)
  obtain⟨w1,hw1⟩:=Lv (w.alloc (.cells (arL 432 (pkF (ek f) sb)).toArray 48))
  have hs1:=Zs1 hw1
  have hBw1:=Bl hw1
  have hEw1:Ar w1 w.heap.size 432 (pkF (ek f) sb):=by rw [hw1];exact Ar.new w 432 _ _
  obtain⟨w2,hw2⟩:=Lv (w1.alloc (.cells (cxL 5 zpF).toArray 27))
  have hs2:=Zs2 hw2 hs1
  have hBw2:=Bm hw2 hBw1
  have hEw2:=ara hw2 hEw1
  have hRw2:Cx w2 (w.heap.size+1) 5 zpF:=by rw [hw2,←hs1];exact Cx.new w1 5 zpF _
  clear hEw1 hBw1
  rw [hkE]at hw1
  rw [hkE]
  clear hkE
  have hz:=zeroP
  obtain⟨dK,hfs,hrow⟩:=Tryz.structK
  have HS:=Lib.hid hfs
  have HW:=Lib.hid hrow
  obtain⟨dP,hfs2,hrow2⟩:=Tryz.structP
  have HS2:=Lib.hid hfs2
  have HW2:=Lib.hid hrow2
  clear hfs hrow hfs2 hrow2
  have i1:(n:Int)<28:=by omega
  have HC:=Lib.hid (dcC_short (f:=f) hlen h28)
  have HV:=Lib.hid (dv_no (f:=f) (l:=l) (by rw [HC.out];omega))
  clear hf hS hnc hc hlen h28
  go_enter Tryz.func17,Tryz.ntmps17
  go_upto_region 1 with fail
  rw [←hw1,←hw2]
  clear hw1 hw2
  try simp only [Nat.add_assoc,Nat.reduceAdd]
  obtain⟨gR,hgR⟩:=Le (w.heap.size+1)
  rw [hgR]at hRw2
  try rw [hgR]
  have hlR:w.heap.size<gR:=by omega
  clear hs1 hs2 hgR
  go_wp2_with (first|(refine wpList_build_by rfl 27 _ rfl _ rfl _ (bzP _) ?_)|(refine wpList_store_cx rfl _ _ _ rfl gR 5 0 zpF (cxL 5 (zpF)) rfl rfl hRw2 (by rw [cxL_len];omega) (sizeP _) (pc_one _ _ _ _ _ rfl rfl rfl rfl rfl) ?_;intro w8 hRw8 belw8 sizw8 keew8))
  have hR9:=hRw8.ext (pc_whole zpF _ _ _ _ _)
  refine bodyPost_ret (results_cxt rfl rfl rfl hR9 HS2.out HW2.out (sizeP _)) rfl ⟨none,0,by rw [HV.out.1,HV.out.2.1,HV.out.2.2.1,HV.out.2.2.2.1,HV.out.2.2.2.2,HC.out];rfl,by rw [HV.out.2.2.2.2];exact Sl.nil_,by rw [HV.out.2.2.2.2];exact Nat.le_refl _,hBw2.trans (belw8.mono (by omega))⟩
 by_cases h12:1228<n
 ·obtain⟨kE,hkE⟩:=Le ((arL 432 (pkF (ek f) sb)).toArray)
  obtain⟨w1,hw1⟩:=Lv (w.alloc (.cells (arL 432 (pkF (ek f) sb)).toArray 48))
  have hs1:=Zs1 hw1
  have hBw1:=Bl hw1
  have hEw1:Ar w1 w.heap.size 432 (pkF (ek f) sb):=by rw [hw1];exact Ar.new w 432 _ _
  obtain⟨w2,hw2⟩:=Lv (w1.alloc (.cells (cxL 5 zpF).toArray 27))
  have hs2:=Zs2 hw2 hs1
  have hBw2:=Bm hw2 hBw1
  have hEw2:=ara hw2 hEw1
  have hRw2:Cx w2 (w.heap.size+1) 5 zpF:=by rw [hw2,←hs1];exact Cx.new w1 5 zpF _
  clear hEw1 hBw1
  rw [hkE]at hw1
  rw [hkE]
  clear hkE
  have hz:=zeroP
  obtain⟨dK,hfs,hrow⟩:=Tryz.structK
  have HS:=Lib.hid hfs
  have HW:=Lib.hid hrow
  obtain⟨dP,hfs2,hrow2⟩:=Tryz.structP
  have HS2:=Lib.hid hfs2
  have HW2:=Lib.hid hrow2
  clear hfs hrow hfs2 hrow2
  have i1: ¬(n:Int)<28:=by omega
  have i2:(n:Int)>1228:=by omega
  have HC:=Lib.hid (dcC_long (f:=f) hlen h12)
  have HV:=Lib.hid (dv_no (f:=f) (l:=l) (by rw [HC.out];omega))
  clear hf hS hnc hc hlen h28 h12
  go_enter Tryz.func17,Tryz.ntmps17
  go_upto_region 1 with fail
  rw [←hw1,←hw2]
  clear hw1 hw2
  try simp only [Nat.add_assoc,Nat.reduceAdd]
  obtain⟨gR,hgR⟩:=Le (w.heap.size+1)
  rw [hgR]at hRw2
  try rw [hgR]
  have hlR:w.heap.size<gR:=by omega
  clear hs1 hs2 hgR
  go_wp2_with (first|(refine wpList_build_by rfl 27 _ rfl _ rfl _ (bzP _) ?_)|(refine wpList_store_cx rfl _ _ _ rfl gR 5 0 zpF (cxL 5 (zpF)) rfl rfl hRw2 (by rw [cxL_len];omega) (sizeP _) (pc_one _ _ _ _ _ rfl rfl rfl rfl rfl) ?_;intro w8 hRw8 belw8 sizw8 keew8))
  have hR9:=hRw8.ext (pc_whole zpF _ _ _ _ _)
  refine bodyPost_ret (results_cxt rfl rfl rfl hR9 HS2.out HW2.out (sizeP _)) rfl ⟨none,0,by rw [HV.out.1,HV.out.2.1,HV.out.2.2.1,HV.out.2.2.2.1,HV.out.2.2.2.2,HC.out];rfl,by rw [HV.out.2.2.2.2];exact Sl.nil_,by rw [HV.out.2.2.2.2];exact Nat.le_refl _,hBw2.trans (belw8.mono (by omega))⟩
 obtain⟨kE,hkE⟩:=Le ((arL 432 (pkF (ek f) sb)).toArray)
 obtain⟨w1,hw1⟩:=Lv (w.alloc (.cells (arL 432 (pkF (ek f) sb)).toArray 48))
 have hs1:=Zs1 hw1
 have hBw1:=Bl hw1
 have hEw1:Ar w1 w.heap.size 432 (pkF (ek f) sb):=by rw [hw1];exact Ar.new w 432 _ _
 obtain⟨w2,hw2⟩:=Lv (w1.alloc (.cells (cxL 5 zpF).toArray 27))
 have hs2:=Zs2 hw2 hs1
 have hBw2:=Bm hw2 hBw1
 have hEw2:=ara hw2 hEw1
 have hRw2:Cx w2 (w.heap.size+1) 5 zpF:=by rw [hw2,←hs1];exact Cx.new w1 5 zpF _
 clear hEw1 hBw1
 rw [hkE]at hw1
 rw [hkE]
 clear hkE
 have hz:=zeroP
 obtain⟨dK,hfs,hrow⟩:=Tryz.structK
 have HS:=Lib.hid hfs
 have HW:=Lib.hid hrow
 obtain⟨dP,hfs2,hrow2⟩:=Tryz.structP
 have HS2:=Lib.hid hfs2
 have HW2:=Lib.hid hrow2
 clear hfs hrow hfs2 hrow2
 have i1: ¬(n:Int)<28:=by omega
 have i2: ¬(n:Int)>1228:=by omega
 have HC:=Lib.hid (dcC_mid (f:=f) hlen (by omega) (by omega))
 have HRH:=Lib.hid (fun V (hB:Below w.heap.size w V)=>rphead A n c l V ((hS.below hB).more hB.size) (by omega) hnc hc)
 obtain⟨D,hD⟩: ∃D,hdD (l.take 8)=D:=⟨_,rfl⟩
 obtain⟨X,hX⟩: ∃X,hdX (l.take 8)=X:=⟨_,rfl⟩
 have hD2:D<2:=by rw [←hD];exact hdD_lt _
 have hX2:X<9223372036854775808:=by rw [←hX];exact hdX_lt _
 rw [hD,hX]at HRH
 obtain⟨q,hq0⟩: ∃q,dcQ l=q:=⟨_,rfl⟩
 have hqB:B12 q:=by rw [←hq0];exact nqF_lt _ _
 have HMK:=Lib.hid (fun V=>rmake D X V hD2 hX2)
 rw [show noF (hdF D X)=q by rw [←hq0];unfold dcQ;rw [hD,hX];rfl]at HMK
 obtain⟨A9,hsl,hsl3⟩:=slice_from A n c 8 (by omega) hnc
 obtain⟨n8,hn8⟩: ∃m,n-8=m:=⟨_,rfl⟩
 obtain⟨c8,hc8⟩: ∃m,c-8=m:=⟨_,rfl⟩
 rw [hn8,hc8]at hsl
 have HSLI:=Lib.hid (show∀W:World,(Instr.sliceAt 25 (.slice A n c) (some (.int .i64 8)) none none).run Tryz.prog W= .ok (.slice A9 n8 c8) W from hsl)
 rw [hn8]at hsl3
 obtain⟨C,hC0⟩: ∃C,doC f q (l.drop 8)=C:=⟨_,rfl⟩
 obtain⟨PL,hPL⟩: ∃P,doL f q (l.drop 8)=P:=⟨_,rfl⟩
 rw [hq0,hC0]at HC
 have HPL:=Lib.hid (show dcP f l=PL by unfold dcP;rw [hq0];exact hPL)
 have HDX:=Lib.hid (show hdD (l.take 8)=D∧hdX (l.take 8)=X from⟨hD,hX⟩)
 have HOP:=Lib.hid (fun V (hB:Below w.heap.size w V)=>ropenF f q (enF f zF) (kaF f q) none 0 0 [] A9 n8 c8 (l.drop 8) PL C V hf hqB rfl rfl Sl.nil_ (Nat.le_refl _) (by omega) (hsl3 V _ _ ((hS.below hB).more hB.size)) (by omega) (by omega) hC0 hPL)
 have HL:=Lib.hid (fun(h:dcC f l=0)=>dcP_len hlen h)
 have HN:=Lib.hid (show 28≤n∧n≤1228∧8≤c from⟨by omega,by omega,by omega⟩)
 have i3:(8:Int)≤(n:Int):=by omega
 clear hf hS hnc hc hlen h28 h12 hD hX hD2 hX2 hq0 hqB hsl hsl3 hn8 hc8 hC0 hPL
 go_enter Tryz.func17,Tryz.ntmps17
 go_upto_region 1 with fail
 rw [←hw1,←hw2]
 clear hw1 hw2
 try simp only [Nat.add_assoc,Nat.reduceAdd]
 obtain⟨gR,hgR⟩:=Le (w.heap.size+1)
 rw [hgR]at hRw2
 try rw [hgR]
 have hlR:w.heap.size<gR:=by omega
 clear hs1 hs2 hgR
 go_wp2_with fail
 refine(HRH.out _ hBw2).mono ?_
 rintro e9 x1 ⟨rfl,hw9⟩
 have hq:Below w2.heap.size w2 x1:=by rw [hw9];exact Below.refl _ _
 clear hw9
 have hEx1:=hEw2.t hq
 have hRx1:=hRw2.t hq
 have hBx1:=Tq hBw2 hq
 clear hq hEw2 hRw2 hBw2
 go_upto_region 6 with fail
 refine wp_region_noPanic ?_
 refine wp_region_held_drew (S:=fun W=>Ar W w.heap.size 432 (pkF (ek f) sb)∧Cx W gR 5 zpF∧Below w.heap.size w W) (by kernel_rfl) ⟨hEx1.drew,hRx1.drew,hBx1.drew⟩ (fun hH'=> ?_)
 clear hEx1 hRx1 hBx1
 generalize World.drew x1=qd at*
 refine tk 0 (.agg (arL 432 (pkF (ek f) sb)).toArray) rfl (yieldsIf_load_mid (by rfl) _ _ rfl w.heap.size (0) rfl (arL 432 (pkF (ek f) sb)) _ (fun W hSw=>hSw.1.range) HS.out HW.out (sizeK _)) ?_
 simp only [Act.put,nrm]
 refine tw 1 ?vq1 rfl ?hyq1 ?restq1
 case hyq1=>
  intro W hSw
  go_simp
  try with_reducible rfl
 simp only [Act.put,nrm]
 refine tw 2 ?vq2 rfl ?hyq2 ?restq2
 case hyq2=>
  intro W hSw
  go_simp
  try with_reducible rfl
 simp only [Act.put,nrm]
 refine tw 4 ?vq3 rfl ?hyq3 ?restq3
 case hyq3=>
  intro W hSw
  go_simp
  try with_reducible rfl
 simp only [Act.put,nrm]
 refine tw 5 ?vq4 rfl ?hyq4 ?restq4
 case hyq4=>
  intro W hSw
  have hslc:=HSLI.out
  go_simp
  try with_reducible rfl
 simp only [Act.put,nrm]
 refine rd 3 rfl (fun K hK=> ?_)
 go_simp
 refine(HMK.out _).mono ?_
 rintro e q5 ⟨rfl,hq⟩
 go_wp2_with fail
 refine hK.out _ _ ⟨hH'.1.t hq,hH'.2.1.t hq,Tq hH'.2.2 hq⟩ ?_
 clear hK K hH' hq
 intro hH'
 try simp only [Act.put,nrm]
 refine rd 6 rfl (fun K hK=> ?_)
 go_simp
 refine(HOP.out _ (hH'.2.2)).mono ?_
 rintro e9 q6 ⟨A2,c2,rfl,hZ0,hc2,hq,hfr⟩
 have HFR:=Lib.hid (fun a2 h=>Nat.lt_of_lt_of_le ((hH'.2.1).lt (by omega)) (hfr a2 h))
 have hZq6:=hZ0
 clear hZ0 hfr
 go_wp2_with fail
 refine hK.out _ _ ⟨hH'.1.t hq,hH'.2.1.t hq,Tq hH'.2.2 hq⟩ ?_
 clear hK K hH' hq
 intro hH'
 try simp only [Act.put,nrm]
 refine tw 7 ?vq7 rfl ?hyq7 ?restq7
 case hyq7=>
  intro W hSw
  go_simp
  try with_reducible rfl
 simp only [Act.put,nrm]
 refine tw 8 ?vq8 rfl ?hyq8 ?restq8
 case hyq8=>
  intro W hSw
  go_simp
  try with_reducible rfl
 simp only [Act.put,nrm]
 refine tw 9 ?vq9 rfl ?hyq9 ?restq9
 case hyq9=>
  intro W hSw
  go_simp
  try with_reducible rfl
 simp only [Act.put,nrm]
 refine tw 10 ?vq10 rfl ?hyq10 ?restq10
 case hyq10=>
  intro W hSw
  go_simp
  try with_reducible rfl
 simp only [Act.put,nrm]
 refine tw 11 ?vq11 rfl ?hyq11 ?restq11
 case hyq11=>
  intro W hSw
  go_simp
  try with_reducible rfl
 simp only [Act.put,nrm]
 refine wpAnyH_done (by kernel_rfl) ?_ _
 refine NoPanic.normal ?_
 have hR9:=hH'.2.1
 have hB9:=hH'.2.2
 clear hH'
 by_cases hC9:C=0
 ·have HV:=Lib.hid (dv_yes (f:=f) (l:=l) (by rw [HC.out];exact hC9))
  have hPn:=HL.out (by rw [HC.out];exact hC9)
  rw [HPL.out]at hPn HV
  rw [HDX.out.1,HDX.out.2]at HV
  obtain⟨m,hm⟩: ∃m,PL.length=m:=⟨_,rfl⟩
  rw [hm]at hZq6 hc2 hPn
  try rw [hm]
  have hm4:4≤m:=by have:=HN.out;omega
  have HPm:=Lib.hid hm
  subst hC9
  clear hm hPn
  obtain⟨A3,hsl4,hsl5⟩:=slice_from A2 m c2 4 hm4 hc2
  obtain⟨bp,op,rfl,hbp,_⟩:=hZq6.2 (by omega)
  have hbg:=HFR.out _ rfl
  simp only at hbg
  obtain⟨m4,hm5⟩: ∃u,m-4=u:=⟨_,rfl⟩
  obtain⟨c4,hc5⟩: ∃u,c2-4=u:=⟨_,rfl⟩
  have HCC:=Lib.hid (show m4≤c4 by omega)
  rw [hm5,hc5]at hsl4
  have hsl6: ∀W:World,(Instr.sliceAt 25 (.slice (some ⟨bp,op,none⟩) m c2) (some (.int .i64 4)) none none).run Tryz.prog W= .ok (.slice A3 m4 c4) W:=hsl4
  clear hsl4
  rw [hm5]at hsl5
  have HS5:=Lib.hid hsl5
  have hm6:4≤c2:=by omega
  clear hsl5 hm5 hc5 hbp
  obtain⟨p0,hp0⟩: ∃u,lF PL 0=u:=⟨_,rfl⟩
  obtain⟨p1,hp1⟩: ∃u,lF PL 1=u:=⟨_,rfl⟩
  obtain⟨p2,hp2⟩: ∃u,lF PL 2=u:=⟨_,rfl⟩
  obtain⟨p3,hp3⟩: ∃u,lF PL 3=u:=⟨_,rfl⟩
  obtain⟨T,hT⟩: ∃u,tmT PL=u:=⟨_,rfl⟩
  obtain⟨E,hE⟩: ∃u,tmE PL=u:=⟨_,rfl⟩
  rw [hT,hE]at HV
  have HU1:=Lib.hid (up_facts (a:=p0) (b:=p1) (T:=T) (by rw [←hp0];exact lF_lt _ _) (by rw [←hp1];exact lF_lt _ _) (by rw [←hT,←hp0,←hp1];rfl))
  have HU2:=Lib.hid (up_facts (a:=p2) (b:=p3) (T:=E) (by rw [←hp2];exact lF_lt _ _) (by rw [←hp3];exact lF_lt _ _) (by rw [←hE,←hp2,←hp3];rfl))
  have HP0:=Lib.hid hp0
  have HP1:=Lib.hid hp1
  have HP2:=Lib.hid hp2
  have HP3:=Lib.hid hp3
  clear hp0 hp1 hp2 hp3 hT hE
  obtain⟨gO,hgO⟩:=Le (q6.heap.size)
  have hlO:gR<gO:=by rw [←hgO];exact hR9.lt (by omega)
  have hwO:w.heap.size≤gO:=by rw [←hgO];exact hB9.size
  have hq:=Ba q6 (.cells (cxL 5 zpF).toArray 27)
  have hRa:=hR9.t hq
  have hBa:=Tq hB9 hq
  have hOa:=Cx.new q6 5 zpF 27
  rw [hgO]at hOa hq
  have hZa:Sl (q6.alloc (.cells (cxL 5 zpF).toArray 27)) gO (some ⟨bp,op,none⟩) m PL:=by rw [←hgO]at hq⊢;exact hZq6.below hq
  clear hq hR9 hB9 hZq6
  go_upto_region 10 with (first|(refine wpList_store_cx rfl _ _ _ rfl gO 5 0 zpF [.int .i64 (D:Int),.int .u64 (X:Int),.int .u16 0,.int .u16 0,.slice A3 m4 c4] rfl rfl hOa (by simp) size5P (pc_one _ _ _ _ _ rfl rfl rfl rfl rfl) ?_;intro v1 hO1 bel1 siz1 kee1)|fail)
  have hO2:=hO1.ext (pc_whole zpF _ _ _ _ _)
  have hR1:=hRa.keep hlO bel1
  have hB1:=hBa.trans (bel1.mono hwO)
  have hZ1:=hZa.below bel1
  clear hO1 hRa hBa hOa hZa bel1 siz1 kee1 hsl6 hgO
  try dsimp only [Act.put]
  refine wp_region_noPanic ?_
  have hOad:=hO2.drew
  refine wp_region_held_drew (S:=fun W=>Cx W gR 5 zpF∧Sl W gO (some ⟨bp,op,none⟩) m (PL)∧Below w.heap.size w W) (by kernel_rfl) ⟨hR1.drew,hZ1.drew,hB1.drew⟩ (fun hH'=> ?_)
  clear hO2
  generalize World.drew v1=ad at*
  refine tw 0 ?va1 rfl ?hya1 ?resta1
  case hya1=>
   intro W hSw
   go_simp
   try with_reducible rfl
  simp only [Act.put,nrm]
  refine tw 1 ?va2 rfl ?hya2 ?resta2
  case hya2=>
   intro W hSw
   have h9:0<m:=by omega
   have h10:(0:Int)<(m:Int):=by omega
   go_simp
   try with_reducible rfl
  simp only [Act.put,nrm]
  refine tw 2 ?va3 rfl ?hya3 ?resta3
  case hya3=>
   intro W hSw
   have c9:=sl_cell (hSw.2.1) (k:=0) (by omega)
   rw [HP0.out]at c9
   simp only [Nat.add_zero]at c9
   go_simp
   try with_reducible rfl
  simp only [Act.put,nrm]
  refine tw 3 ?va4 rfl ?hya4 ?resta4
  case hya4=>
   intro W hSw
   obtain⟨u1,u2,u3,u4,u5,u6⟩:=HU1.out
   go_simp
   try with_reducible rfl
  simp only [Act.put,nrm]
  refine tw 4 ?va5 rfl ?hya5 ?resta5
  case hya5=>
   intro W hSw
   obtain⟨u1,u2,u3,u4,u5,u6⟩:=HU1.out
   go_simp
   try with_reducible rfl
  simp only [Act.put,nrm]
  refine tw 5 ?va6 rfl ?hya6 ?resta6
  case hya6=>
   intro W hSw
   go_simp
   try with_reducible rfl
  simp only [Act.put,nrm]
  refine tw 6 ?va7 rfl ?hya7 ?resta7
  case hya7=>
   intro W hSw
   have h9:1<m:=by omega
   have h10:(1:Int)<(m:Int):=by omega
   go_simp
   try with_reducible rfl
  simp only [Act.put,nrm]
  refine tw 7 ?va8 rfl ?hya8 ?resta8
  case hya8=>
   intro W hSw
   have c9:=sl_cell (hSw.2.1) (k:=1) (by omega)
   rw [HP1.out]at c9
   go_simp
   try with_reducible rfl
  simp only [Act.put,nrm]
  refine tw 8 ?va9 rfl ?hya9 ?resta9
  case hya9=>
   intro W hSw
   obtain⟨u1,u2,u3,u4,u5,u6⟩:=HU1.out
   go_simp
   try with_reducible rfl
  simp only [Act.put,nrm]
  refine tw 9 ?va10 rfl ?hya10 ?resta10
  case hya10=>
   intro W hSw
   obtain⟨u1,u2,u3,u4,u5,u6⟩:=HU1.out
   go_simp
   try with_reducible rfl
  simp only [Act.put,nrm]
  refine tw 10 ?va11 rfl ?hya11 ?resta11
  case hya11=>
   intro W hSw
   go_simp
   try with_reducible rfl
  simp only [Act.put,nrm]
  refine rd 11 rfl (fun K hK=> ?_)
  have cF:=(hOad 2 (by omega)).1
  have fF:=(hOad 2 (by omega)).2
  go_simp
  clear cF fF
  have hOa12:=hOad.set (j:=2) (.int .u16 (T:Int)) (by omega)
  refine hK.out _ _ ⟨(hH'.1).far (p:=⟨gO,2,none⟩) (by simp;omega) (.int .u16 (T:Int)),(hH'.2.1).setCell (p:=⟨gO,2,none⟩) (by simp) (.int .u16 (T:Int)),(hH'.2.2).setCell (p:=⟨gO,2,none⟩) (by simp;omega) (.int .u16 (T:Int))⟩ ?_
  clear hK K hH' hOad
  intro hH'
  generalize World.setCell ad ⟨gO,2,none⟩ (.int .u16 (T:Int))=a12 at*
  try simp only [Act.put]
  refine wpAnyH_done (by kernel_rfl) ?_ _
  refine NoPanic.normal ?_
  have hR5:=hH'.1
  have hZ5:=hH'.2.1
  have hB5:=hH'.2.2
  clear hH'
  obtain⟨v5,hv5⟩: ∃V,a12=V:=⟨_,rfl⟩
  subst hv5
  go_upto_region 11 with fail
  refine wp_region_noPanic ?_
  have hObd:=hOa12.drew
  refine wp_region_held_drew (S:=fun W=>Cx W gR 5 zpF∧Sl W gO (some ⟨bp,op,none⟩) m (PL)∧Below w.heap.size w W) (by kernel_rfl) ⟨hR5.drew,hZ5.drew,hB5.drew⟩ (fun hH'=> ?_)
  clear hOa12
  generalize World.drew a12=bd at*
  refine tw 0 ?vb1 rfl ?hyb1 ?restb1
  case hyb1=>
   intro W hSw
   go_simp
   try with_reducible rfl
  simp only [Act.put,nrm]
  refine tw 1 ?vb2 rfl ?hyb2 ?restb2
  case hyb2=>
   intro W hSw
   have h9:2<m:=by omega
   have h10:(2:Int)<(m:Int):=by omega
   go_simp
   try with_reducible rfl
  simp only [Act.put,nrm]
  refine tw 2 ?vb3 rfl ?hyb3 ?restb3
  case hyb3=>
   intro W hSw
   have c9:=sl_cell (hSw.2.1) (k:=2) (by omega)
   rw [HP2.out]at c9
   go_simp
   try with_reducible rfl
  simp only [Act.put,nrm]
  refine tw 3 ?vb4 rfl ?hyb4 ?restb4
  case hyb4=>
   intro W hSw
   obtain⟨u1,u2,u3,u4,u5,u6⟩:=HU2.out
   go_simp
   try with_reducible rfl
  simp only [Act.put,nrm]
  refine tw 4 ?vb5 rfl ?hyb5 ?restb5
  case hyb5=>
   intro W hSw
   obtain⟨u1,u2,u3,u4,u5,u6⟩:=HU2.out
   go_simp
   try with_reducible rfl
  simp only [Act.put,nrm]
  refine tw 5 ?vb6 rfl ?hyb6 ?restb6
  case hyb6=>
   intro W hSw
   go_simp
   try with_reducible rfl
  simp only [Act.put,nrm]
  refine tw 6 ?vb7 rfl ?hyb7 ?restb7
  case hyb7=>
   intro W hSw
   have h9:3<m:=by omega
   have h10:(3:Int)<(m:Int):=by omega
   go_simp
   try with_reducible rfl
  simp only [Act.put,nrm]
  refine tw 7 ?vb8 rfl ?hyb8 ?restb8
  case hyb8=>
   intro W hSw
   have c9:=sl_cell (hSw.2.1) (k:=3) (by omega)
   rw [HP3.out]at c9
   go_simp
   try with_reducible rfl
  simp only [Act.put,nrm]
  refine tw 8 ?vb9 rfl ?hyb9 ?restb9
  case hyb9=>
   intro W hSw
   obtain⟨u1,u2,u3,u4,u5,u6⟩:=HU2.out
   go_simp
   try with_reducible rfl
  simp only [Act.put,nrm]
  refine tw 9 ?vb10 rfl ?hyb10 ?restb10
  case hyb10=>
   intro W hSw
   obtain⟨u1,u2,u3,u4,u5,u6⟩:=HU2.out
   go_simp
   try with_reducible rfl
  simp only [Act.put,nrm]
  refine tw 10 ?vb11 rfl ?hyb11 ?restb11
  case hyb11=>
   intro W hSw
   go_simp
   try with_reducible rfl
  simp only [Act.put,nrm]
  refine rd 11 rfl (fun K hK=> ?_)
  have cF:=(hObd 3 (by omega)).1
  have fF:=(hObd 3 (by omega)).2
  go_simp
  clear cF fF
  have hOb12:=hObd.set (j:=3) (.int .u16 (E:Int)) (by omega)
  refine hK.out _ _ ⟨(hH'.1).far (p:=⟨gO,3,none⟩) (by simp;omega) (.int .u16 (E:Int)),(hH'.2.1).setCell (p:=⟨gO,3,none⟩) (by simp) (.int .u16 (E:Int)),(hH'.2.2).setCell (p:=⟨gO,3,none⟩) (by simp;omega) (.int .u16 (E:Int))⟩ ?_
  clear hK K hH' hObd
  intro hH'
  generalize World.setCell bd ⟨gO,3,none⟩ (.int .u16 (E:Int))=b12 at*
  try simp only [Act.put]
  refine wpAnyH_done (by kernel_rfl) ?_ _
  refine NoPanic.normal ?_
  have hR7:=hH'.1
  have hZ7:=hH'.2.1
  have hB7:=hH'.2.2
  clear hH'
  have hO7:Cx b12 gO 5 (pcF (.int .i64 (D:Int)) (.int .u64 (X:Int)) (.int .u16 (T:Int)) (.int .u16 (E:Int)) (.slice A3 m4 c4)):=hOb12.ext (fun j hj=>by have h:j=0∨j=1∨j=2∨j=3∨j=4:=(by omega);rcases h with rfl|rfl|rfl|rfl|rfl<;>rfl)
  have hr7:b12.rangeAt gO 0 (cxL 5 (pcF (.int .i64 (D:Int)) (.int .u64 (X:Int)) (.int .u16 (T:Int)) (.int .u16 (E:Int)) (.slice A3 m4 c4))):=hO7.range 0 _ (by rw [cxL_len];omega) (fun j v hv=>by rw [Nat.zero_add];exact(cxL_get_some hv).2.symm)
  have hO8:gO≤b12.heap.size:=Nat.le_of_lt (hO7.lt (by omega))
  clear hOb12 hO7
  go_wp2_with (first|(refine wpList_load_mid rfl _ _ rfl gO 0 rfl (cxL 5 (pcF (.int .i64 (D:Int)) (.int .u64 (X:Int)) (.int .u16 (T:Int)) (.int .u16 (E:Int)) (.slice A3 m4 c4))) _ hr7 HS2.out HW2.out (sizeP _) ?_)|(refine wpList_store_mid rfl _ _ _ rfl gR 0 (cxL 5 (pcF (.int .i64 (D:Int)) (.int .u64 (X:Int)) (.int .u16 (T:Int)) (.int .u16 (E:Int)) (.slice A3 m4 c4))).toArray rfl rfl (by rw [List.size_toArray,cxL_len];exact hR7.there 0 5 (by omega)) (by rw [List.size_toArray];exact sizeP _) (all_oneCell_toArray (pc_one _ _ _ _ _ rfl rfl rfl rfl rfl)) ?_))
  have hR6:=(hR7.put 0 (cxL 5 (pcF (.int .i64 (D:Int)) (.int .u64 (X:Int)) (.int .u16 (T:Int)) (.int .u16 (E:Int)) (.slice A3 m4 c4))) (by rw [cxL_len];omega)).ext (pc_whole zpF _ _ _ _ _)
  have hS8:=HS5.out _ _ _ (sl_apart hZ7 (by omega:bp≠gR) (cxL 5 (pcF (.int .i64 (D:Int)) (.int .u64 (X:Int)) (.int .u16 (T:Int)) (.int .u16 (E:Int)) (.slice A3 m4 c4))) 0)
  have hl8:=hS8.len
  try dsimp only [List.toList_toArray]
  refine bodyPost_ret (results_cxt rfl rfl rfl hR6 HS2.out HW2.out (sizeP _)) rfl ⟨A3,c4,by rw [HV.out.1,HV.out.2.1,HV.out.2.2.1,HV.out.2.2.2.1,HV.out.2.2.2.2,HC.out,hl8];rfl,?_,by rw [HV.out.2.2.2.2,hl8];exact HCC.out,hB7.trans (Below.setCells (Below.refl w.heap.size _) (b:=gR) (by omega) _ 0)⟩
  rw [HV.out.2.2.2.2,hl8]
  exact hS8.more (by rw [World.setCells_size];exact hO8)
 ·have i5:((C:Int) !=0)=true:=by simp;omega
  have HV:=Lib.hid (dv_no (f:=f) (l:=l) (by rw [HC.out];exact hC9))
  clear hC9 hZq6
  go_wp2_with (first|(refine wpList_build_by rfl 27 _ rfl _ rfl _ (bzP _) ?_)|(refine wpList_store_cx rfl _ _ _ rfl gR 5 0 zpF (cxL 5 (zpF)) rfl rfl hR9 (by rw [cxL_len];omega) (sizeP _) (pc_one _ _ _ _ _ rfl rfl rfl rfl rfl) ?_;intro w8 hRw8 belw8 sizw8 keew8))
  have hR8:=hRw8.ext (pc_whole zpF _ _ _ _ _)
  refine bodyPost_ret (results_cxt rfl rfl rfl hR8 HS2.out HW2.out (sizeP _)) rfl ⟨none,0,by rw [HV.out.1,HV.out.2.1,HV.out.2.2.1,HV.out.2.2.2.1,HV.out.2.2.2.2,HC.out];rfl,by rw [HV.out.2.2.2.2];exact Sl.nil_,by rw [HV.out.2.2.2.2];exact Nat.le_refl _,hB9.trans (belw8.mono (by omega))⟩
end Go.Proofs.YtiacbphnclgikaaGreatDoor
