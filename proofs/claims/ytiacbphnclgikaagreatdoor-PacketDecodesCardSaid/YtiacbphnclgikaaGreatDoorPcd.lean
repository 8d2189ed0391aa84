/-
 Contracts of Decode and Peek of package packet, by walks through their texts: the packet of a datagram, or nothing and the code of the error; over a made Table of a key; what was there stays as it was.
-/
import Derived.Test.YtiacbphnclgikaaGreatDoorSqz
import Derived.Test.YtiacbphnclgikaaGreatDoorPcc
import Derived.Deep.RegionHeld3
namespace Go.Proofs.YtiacbphnclgikaaGreatDoor
open Go.RowKit
set_option linter.unusedVariables false
set_option maxRecDepth 100000
set_option linter.unusedSimpArgs false
open Go.Shelf
def pkD (n:Nat) (l:List UInt8):Nat:=if unC n=0 then phD l else 0
def pkX (n:Nat) (l:List UInt8):Nat:=if unC n=0 then phX l else 0
theorem un_mid {n:Nat} (h:unC n=0):28≤n∧n≤1228:=by
 unfold unC at h
 split at h
 ·cases h
 ·split at h
  ·cases h
  ·omega
theorem dcC_un {f:Nat→Nat} {l:List UInt8} {n:Nat} (hl:l.length=n) (h:unC n≠0):dcC f l=unC n:=by
 unfold unC at h⊢
 unfold dcC
 rw [hl]
 by_cases h1:n<28
 ·rw [if_pos h1,if_pos h1]
 ·rw [if_neg h1,if_neg h1]
  by_cases h2:1228<n
  ·rw [if_pos h2,if_pos h2]
  ·rw [if_neg h1,if_neg h2]at h;exact absurd rfl h
theorem num_two (l:List UInt8) (h:2≤l.length):num (l.take 2)=tmT l:=by
 match l,h with
 |a::b::r,_=>
  have ha:=a.toNat_lt
  have hb:=b.toNat_lt
  show num ([]++ [a]++ [b])=_
  unfold num tmT lF
  rw [val_snoc,val_snoc]
  simp only [List.getD_cons_zero,List.getD_cons_succ]
  show((0*256+a.toNat)*256+b.toNat)%18446744073709551616=_
  omega
theorem arrayAt8p {b o n c:Nat} (h:8≤n) (w:World):(Instr.arrayAt 71 (.slice (some ⟨b,o,none⟩) n c)).run Tryz.prog w= .ok (.pointer (some ⟨b,o,none⟩)) w:=by
 simp [Instr.arrayAt,run_underlying Tryz.arr8n]
 omega
theorem sl_range8 {w:World} {B b o n:Nat} {l:List UInt8} (h:Sl w B (some ⟨b,o,none⟩) n l) (h8:8≤n):w.rangeAt b o (arL 8 (lF (l.take 8))):=fun j v hv=>by
 rw [←map_lF (l.take 8) 8 (by rw [List.length_take,h.len];omega),List.getElem?_map]at hv
 obtain⟨u,hu,rfl⟩:=Option.map_eq_some_iff.1 hv
 obtain⟨b',o',e,_,hc⟩:=h.2 (by omega)
 injection e with e
 injection e with e1 e2
 subst e1;subst e2
 rcases Nat.lt_or_ge j 8 with h1|h1
 ·rw [List.getElem?_take_of_lt h1]at hu
  exact hc j u hu
 ·rw [List.getElem?_eq_none (by rw [List.length_take];omega)]at hu;cases hu
theorem b4P (A:Option Addr) (m c:Nat) (w:World):(Instr.build 27 #[(4,.slice A m c)]).run Tryz.prog w= .ok (.agg (cxL 5 (pcF (.int .i64 0) (.int .u64 0) (.int .u16 0) (.int .u16 0) (.slice A m c))).toArray) w:=run_build w _ _ _ (by kernel_rfl)
theorem ph_hd {D X:Nat} (hD:D<2) (hX:X<9223372036854775808):phD (hdL D X)=D∧phX (hdL D X)=X:=by
 have hl:=hdL_len D X
 unfold phD phX
 rw [if_pos (by omega),if_pos (by omega),List.take_of_length_le (by omega)]
 exact⟨hdD_hd hD hX,hdX_hd hD hX⟩
set_option maxHeartbeats 1600000 in
theorem ptof (A:Option Addr) (n c:Nat) (l:List UInt8) (w:World) (h:Sl w w.heap.size A n l) (h2:2≤n) (hnc:n≤c):
  Calls Tryz.prog 34 #[.slice A n c] w fun e9 w'=>e9= .returned (.int .u16 (tmT l:Nat))∧w'=w:=by
 have hlen:=h.len
 have HS2:=Lib.hid (sl_take2 h h2)
 have HSL:=Lib.hid (slice_to2 A n c 2 h2 hnc)
 have HNU:=Lib.hid (num_two l (by omega))
 obtain⟨T,hT⟩: ∃T,tmT l=T:=⟨_,rfl⟩
 have hT2:T<65536:=by rw [←hT];exact ptT_lt l
 rw [hT]at HNU⊢
 have m1:IntKind.u16.wrap (T:Int)=(T:Int):=by rw [IntKind.wrap_u16];omega
 have hsl:=HSL.out
 clear h hT hlen
 go_enter Tryz.func34,Tryz.ntmps34
 go_wp2_with fail
 clear hsl
 refine(number A 2 c (l.take 2) _ HS2.out (by omega) (by omega)).mono ?_
 rintro e9 w1 ⟨rfl,rfl⟩
 rw [HNU.out]
 go_wp2_with fail
 go_ret
 exact⟨rfl,rfl⟩
set_option maxHeartbeats 1600000 in
theorem ppeek (A:Option Addr) (n c:Nat) (l:List UInt8) (w:World) (hS:Sl w w.heap.size A n l) (hnc:n≤c) (hcm:c≤maxLen):
  Calls Tryz.prog 18 #[.slice A n c] w fun e9 w'=>e9= .returned (.tuple #[.int .i64 (pkD n l:Nat),.int .u64 (pkX n l:Nat),.bool (decide (unC n=0))])∧Below w.heap.size w w':=by
 by_cases hU0:unC n=0
 ·rw [show pkD n l=phD l from if_pos hU0,show pkX n l=phX l from if_pos hU0,decide_eq_true hU0]
  have HS:=Lib.hid hS
  have HCM:=Lib.hid hcm
  have HNC:=Lib.hid hnc
  have HN:=Lib.hid (show n≤9223372036854775807 by unfold maxLen at hcm;omega)
  have HL:=Lib.hid hS.len
  clear hS hnc hcm
  go_enter Tryz.func18,Tryz.ntmps18
  go_wp2_with fail
  refine(punfit A n c _ HN.out).mono ?_
  rintro e9 w1 ⟨rfl,rfl⟩
  rw [erW_no hU0]
  have HU:=Lib.hid (un_mid hU0)
  clear hU0
  go_wp2_with fail
  refine(nphead A n c l _ HS.out HNC.out HCM.out).mono ?_
  rintro e9 w1 ⟨rfl,hq⟩
  rw [decide_eq_true (show 8≤l.length by have:=HU.out;rw [HL.out];omega)]
  go_wp2_with fail
  refine bodyPost_ret (results_ttt rfl rfl rfl rfl) rfl ⟨rfl,hq⟩
 ·rw [show pkD n l=0 from if_neg hU0,show pkX n l=0 from if_neg hU0,decide_eq_false hU0]
  have HS:=Lib.hid hS
  have HCM:=Lib.hid hcm
  have HNC:=Lib.hid hnc
  have HN:=Lib.hid (show n≤9223372036854775807 by unfold maxLen at hcm;omega)
  have HL:=Lib.hid hS.len
  clear hS hnc hcm
  go_enter Tryz.func18,Tryz.ntmps18
  go_wp2_with fail
  refine(punfit A n c _ HN.out).mono ?_
  rintro e9 w1 ⟨rfl,rfl⟩
  rw [erW_is hU0]
  have he:=fun W=>erNe 40 (.int .i64 (unC n:Nat)) W
  clear hU0
  go_wp2_with fail
  refine bodyPost_ret (results_ttt rfl rfl rfl rfl) rfl ⟨rfl,Below.refl _ _⟩
set_option maxHeartbeats 8000000 in
theorem pdecode (p:Option Addr) (f:Nat→Nat) (A:Option Addr) (n c:Nat) (l:List UInt8) (w:World) (hf:B16 f) (hS:Sl w w.heap.size A n l) (hnc:n≤c) (hn:n≤9223372036854775807) (hT:TabO w p f) (hX:Boxes w):
  Calls Tryz.prog 12 #[.pointer p,.slice A n c] w fun e9 w'=> ∃(A2:Option Addr) (c2:Nat),e9= .returned (.tuple #[.agg #[.int .i64 (dvD f l:Nat),.int .u64 (dvX f l:Nat),.int .u16 (dvT f l:Nat),.int .u16 (dvE f l:Nat),.slice A2 (dvL f l).length c2],erW (dcC f l)])∧Sl w' w'.heap.size A2 (dvL f l).length (dvL f l)∧(dvL f l).length≤c2∧Below w.heap.size w w':=by
 obtain⟨w1,hw1⟩:=Lv (w.alloc (.cells (cxL 5 zpF).toArray 27))
 have hs1:=Zs1 hw1
 have hBw1:=Bl hw1
 have hRw1:Cx w1 (w.heap.size) 5 zpF:=by rw [hw1];exact Cx.new w 5 zpF _
 have hz:=zeroP
 have hz8:=zero8n
 obtain⟨dP,hfs,hrow⟩:=Tryz.structP
 have HS2:=Lib.hid hfs
 have HW2:=Lib.hid hrow
 clear hfs hrow
 have hlen:=hS.len
 have HLEN:=Lib.hid hlen
 have HFB:=Lib.hid hf
 have HSS:=Lib.hid hS
 have HNC:=Lib.hid hnc
 have HN63:=Lib.hid hn
 have HT:=Lib.hid hT
 have HBX:=Lib.hid hX
 clear hf hS hnc hn hT hX hlen
 go_enter Tryz.func12,Tryz.ntmps12
 go_upto_region 1 with fail
 rw [←hw1]
 clear hw1
 try simp only [Nat.add_assoc,Nat.reduceAdd]
 clear hs1
 go_wp2_with fail
 refine(punfit A n c _ HN63.out).mono ?_
 rintro e9 x1 ⟨rfl,hw9⟩
 have hq:Below w1.heap.size w1 x1:=by rw [hw9];exact Below.refl _ _
 clear hw9
 have hRx1:=hRw1.t hq
 have hBx1:=Tq hBw1 hq
 clear hq hRw1 hBw1
 by_cases hU:unC n=0
 ·rw [erW_no hU]
  obtain⟨h28,h12⟩:=un_mid hU
  clear hU
  have HC:=Lib.hid (dcC_mid (f:=f) HLEN.out h28 h12)
  obtain⟨bb,oo,rfl,hbb,hcc⟩:=HSS.out.2 (by omega)
  clear hbb hcc
  obtain⟨D,hD⟩: ∃D,hdD (l.take 8)=D:=⟨_,rfl⟩
  obtain⟨X,hX⟩: ∃X,hdX (l.take 8)=X:=⟨_,rfl⟩
  have hD2:D<2:=by rw [←hD];exact hdD_lt _
  have hX2:X<9223372036854775808:=by rw [←hX];exact hdX_lt _
  have h8l:(l.take 8).length=8:=by rw [List.length_take,HLEN.out];omega
  have hdl:hdL D X=l.take 8:=by rw [←hD,←hX];exact hd_of h8l
  obtain⟨H,hH⟩: ∃H,hdF D X=H:=⟨_,rfl⟩
  have hlH:lF (l.take 8)=H:=by rw [←hH,←hdl];rfl
  have HHB:=Lib.hid (show∀j,j<8→H j<256 by rw [←hH];exact hdF_lt D X)
  have HHL:=Lib.hid (show liB 8 H=hdL D X by rw [←hH];exact hd_li D X)
  have HRG:=Lib.hid (fun V (hB:Below w.heap.size w V)=>sl_range8 (HSS.out.below hB) (show 8≤n by omega))
  rw [hlH]at HRG
  have HAT:=Lib.hid (fun V=>arrayAt8p (b:=bb) (o:=oo) (n:=n) (c:=c) (by omega) V)
  have HPH:=Lib.hid (ph_hd hD2 hX2)
  have HHD:=Lib.hid (hdL_len D X)
  obtain⟨q,hq0⟩: ∃q,dcQ l=q:=⟨_,rfl⟩
  have hqB:B12 q:=by rw [←hq0];exact nqF_lt _ _
  have HNQ:=Lib.hid (show noF H=q by rw [←hq0,←hH,←hD,←hX];rfl)
  obtain⟨A9,hsl,hsl3⟩:=slice_from (some ⟨bb,oo,none⟩) n c 8 (by omega) HNC.out
  obtain⟨n8,hn8⟩: ∃m,n-8=m:=⟨_,rfl⟩
  obtain⟨c8,hc8⟩: ∃m,c-8=m:=⟨_,rfl⟩
  have hnc8:n8≤c8:=by have:=HNC.out;omega
  rw [hn8,hc8]at hsl
  have HSLI:=Lib.hid (show∀W:World,(Instr.sliceAt 25 (.slice (some ⟨bb,oo,none⟩) n c) (some (.int .i64 8)) none none).run Tryz.prog W= .ok (.slice A9 n8 c8) W from hsl)
  rw [hn8]at hsl3
  obtain⟨C,hC0⟩: ∃C,doC f q (l.drop 8)=C:=⟨_,rfl⟩
  obtain⟨PL,hPL⟩: ∃P,doL f q (l.drop 8)=P:=⟨_,rfl⟩
  rw [hq0,hC0]at HC
  have HPL:=Lib.hid (show dcP f l=PL by unfold dcP;rw [hq0];exact hPL)
  have HDX:=Lib.hid (show hdD (l.take 8)=D∧hdX (l.take 8)=X from⟨hD,hX⟩)
  have HOP:=Lib.hid (fun V (hB:Below w.heap.size w V)=>oopenF p f (enF f zF) q (kaF f q) none 0 0 [] A9 n8 c8 (l.drop 8) PL C V HFB.out rfl hqB rfl (sl_nil _ _) (Nat.le_refl _) (by omega) (hsl3 V _ _ ((HSS.out.below hB).more hB.size)) hnc8 (by omega) hC0 hPL (HT.out.to hB) (HBX.out.keep hB))
  have HL:=Lib.hid (fun(h:dcC f l=0)=>dcP_len HLEN.out h)
  have HN:=Lib.hid (show 28≤n∧n≤1228 from⟨h28,h12⟩)
  clear h28 h12 hD hX hD2 hX2 h8l hdl hH hlH hq0 hqB hsl hsl3 hn8 hc8 hnc8 hC0 hPL
  have hrg:=HRG.out _ hBx1
  have hat:=HAT.out
  obtain⟨gh,hgh⟩:=Le (x1.heap.size)
  have hlw_heap_sizegh:w.heap.size<gh:=by rw [←hgh];exact hRx1.lt (by omega)
  have hlwgh:w.heap.size≤gh:=by rw [←hgh];exact hBx1.size
  have hq:=Ba x1 (.cells (arL 8 fun _=>0).toArray 71)
  have hRx2a:=hRx1.t hq
  have hhx2a:=Ar.new x1 8 (fun _=>0) 71
  have hBx2a:=hBx1.alloc hBx1.size (.cells (arL 8 fun _=>0).toArray 71)
  rw [hgh]at hhx2a
  clear hq hRx1 hBx1
  go_upto_region 5 with (first|(refine wpList_load_mid rfl _ _ rfl bb oo rfl (arL 8 (H)) _ hrg Tryz.arr8n rfl (size8n _) ?_)|(refine wpList_store_ar rfl _ _ _ rfl _ _ _ (H) rfl rfl hhx2a (size8n _) ?_;intro x2 hhx2 belx2 sizx2 keex2)|fail)
  have hRx2:=(hRx2a).keep hlw_heap_sizegh belx2
  have hBx2:=hBx2a.trans (belx2.mono hlwgh)
  clear hRx2a hhx2a hBx2a belx2 sizx2 keex2 hgh
  try dsimp only [Act.put]
  clear hrg hat
  refine wp_region_noPanic ?_
  refine wp_region_held_drew (S:=fun W=>Cx W (w.heap.size) 5 zpF∧Ar W gh 8 (H)∧Below w.heap.size w W) (by kernel_rfl) ⟨hRx2.drew,hhx2.drew,hBx2.drew⟩ (fun hH'=> ?_)
  clear hRx2 hhx2 hBx2
  generalize World.drew x2=qd at*
  refine tw 0 ?vq1 rfl ?hyq1 ?restq1
  case hyq1=>
   intro W hSw
   go_simp
   try with_reducible rfl
  simp only [Act.put,nrm]
  refine tk 1 (.agg (arL 8 (H)).toArray) rfl (yieldsIf_load_mid (by rfl) _ _ rfl gh (0) rfl (arL 8 (H)) _ (fun W hSw=>hSw.2.1.range) Tryz.arr8n rfl (size8n _)) ?_
  simp only [Act.put,nrm]
  refine tw 3 ?vq2 rfl ?hyq2 ?restq2
  case hyq2=>
   intro W hSw
   go_simp
   try with_reducible rfl
  simp only [Act.put,nrm]
  refine tw 4 ?vq3 rfl ?hyq3 ?restq3
  case hyq3=>
   intro W hSw
   have hsl:=HSLI.out
   go_simp
   try with_reducible rfl
  simp only [Act.put,nrm]
  refine rd 2 rfl (fun K hK=> ?_)
  go_simp
  refine(nwhole H _ HHB.out).mono ?_
  rintro e q4 ⟨rfl,hq⟩
  rw [HNQ.out]
  go_wp2_with fail
  refine hK.out _ _ ⟨hH'.1.t hq,hH'.2.1.t hq,Tq hH'.2.2 hq⟩ ?_
  clear hK K hH' hq
  intro hH'
  try simp only [Act.put,nrm]
  refine rd 5 rfl (fun K hK=> ?_)
  go_simp
  refine(HOP.out _ (hH'.2.2)).mono ?_
  rintro e9 q5 ⟨A2,c2,rfl,hZ0,hc2,hq,hfr⟩
  have HFR:=Lib.hid (fun a2 h=>Nat.lt_of_lt_of_le ((hH'.1).lt (by omega)) (hfr a2 h))
  have hZq5:=hZ0
  clear hZ0 hfr
  go_wp2_with fail
  refine hK.out _ _ ⟨hH'.1.t hq,hH'.2.1.t hq,Tq hH'.2.2 hq⟩ ?_
  clear hK K hH' hq
  intro hH'
  try simp only [Act.put,nrm]
  refine tw 6 ?vq6 rfl ?hyq6 ?restq6
  case hyq6=>
   intro W hSw
   go_simp
   try with_reducible rfl
  simp only [Act.put,nrm]
  refine tw 7 ?vq7 rfl ?hyq7 ?restq7
  case hyq7=>
   intro W hSw
   go_simp
   try with_reducible rfl
  simp only [Act.put,nrm]
  refine tw 8 ?vq8 rfl ?hyq8 ?restq8
  case hyq8=>
   intro W hSw
   go_simp
   try with_reducible rfl
  simp only [Act.put,nrm]
  refine tw 9 ?vq9 rfl ?hyq9 ?restq9
  case hyq9=>
   intro W hSw
   go_simp
   try with_reducible rfl
  simp only [Act.put,nrm]
  refine tw 10 ?vq10 rfl ?hyq10 ?restq10
  case hyq10=>
   intro W hSw
   go_simp
   try with_reducible rfl
  simp only [Act.put,nrm]
  refine wpAnyH_done (by kernel_rfl) ?_ _
  refine NoPanic.normal ?_
  have hR9:=hH'.1
  have hh9:=hH'.2.1
  have hB9:=hH'.2.2
  clear hH'
  have hZ9:=hZq5
  clear hZq5
  have HCC2:=Lib.hid hc2
  clear hc2
  by_cases hC:C=0
  ·rw [errV_no hC]
   have HV:=Lib.hid (dv_yes (f:=f) (l:=l) (by rw [HC.out];exact hC))
   have hPn:=HL.out (by rw [HC.out];exact hC)
   rw [HPL.out]at hPn HV
   rw [HDX.out.1,HDX.out.2]at HV
   obtain⟨m,hm⟩: ∃m,PL.length=m:=⟨_,rfl⟩
   rw [hm]at hZ9 HCC2 hPn
   try rw [hm]
   have hm4:4≤m:=by have:=HN.out;omega
   have hmM:m≤1204:=by have:=HN.out;omega
   have HPm:=Lib.hid hm
   have HC1:=Lib.hid hC
   subst hC
   clear hm hPn
   obtain⟨A3,hsl4,hsl5⟩:=slice_from A2 m c2 4 hm4 HCC2.out
   obtain⟨A4,hsl6,hsl7⟩:=slice_from A2 m c2 2 (by omega) HCC2.out
   obtain⟨bp,op,rfl,hbp,_⟩:=hZ9.2 (by omega)
   have hbg:=HFR.out _ rfl
   simp only at hbg
   obtain⟨m4,hm5⟩: ∃u,m-4=u:=⟨_,rfl⟩
   obtain⟨c4,hc5⟩: ∃u,c2-4=u:=⟨_,rfl⟩
   obtain⟨m2,hm6⟩: ∃u,m-2=u:=⟨_,rfl⟩
   obtain⟨c6,hc7⟩: ∃u,c2-2=u:=⟨_,rfl⟩
   have hm7:2≤m2∧m2≤c6:=by have:=HCC2.out;omega
   have HCC:=Lib.hid (show m4≤c4 by have:=HCC2.out;omega)
   rw [hm5,hc5]at hsl4
   rw [hm6,hc7]at hsl6
   have HS4:=Lib.hid (show∀W:World,(Instr.sliceAt 25 (.slice (some ⟨bp,op,none⟩) m c2) (some (.int .i64 4)) none none).run Tryz.prog W= .ok (.slice A3 m4 c4) W from hsl4)
   have HS6:=Lib.hid (show∀W:World,(Instr.sliceAt 25 (.slice (some ⟨bp,op,none⟩) m c2) (some (.int .i64 2)) none none).run Tryz.prog W= .ok (.slice A4 m2 c6) W from hsl6)
   rw [hm5]at hsl5
   rw [hm6]at hsl7
   have HS5:=Lib.hid hsl5
   have HS7:=Lib.hid hsl7
   have HM7:=Lib.hid hm7
   clear hsl4 hsl5 hsl6 hsl7 hm5 hc5 hm6 hc7 hm7
   obtain⟨T,hT⟩: ∃u,tmT PL=u:=⟨_,rfl⟩
   obtain⟨E,hE⟩: ∃u,tmE PL=u:=⟨_,rfl⟩
   rw [hT,hE]at HV
   have HTT:=Lib.hid hT
   have HEE:=Lib.hid (show tmT (PL.drop 2)=E by rw [←hE];unfold tmT tmE;rw [lF_drop,lF_drop])
   clear hT hE
   obtain⟨gO,hgO⟩:=Le (q5.heap.size)
   have hlO:w.heap.size<gO:=by rw [←hgO];exact hR9.lt (by omega)
   have hlh:gh<gO:=by rw [←hgO];exact hh9.lt (by omega)
   have hq:=Ba q5 (.cells (cxL 5 zpF).toArray 27)
   have hRa:=hR9.t hq
   have hha:=hh9.t hq
   have hBa:=Tq hB9 hq
   have hOa:=Cx.new q5 5 zpF 27
   rw [hgO]at hOa hq
   have hZa:Sl (q5.alloc (.cells (cxL 5 zpF).toArray 27)) gO (some ⟨bp,op,none⟩) m PL:=by rw [←hgO]at hq⊢;exact hZ9.below hq
   clear hq hR9 hB9 hZ9 hh9
   have hsl4:=HS4.out
   go_upto_region 9 with (first|(refine wpList_build_by rfl 27 _ rfl [(4,.slice A3 m4 c4)] rfl _ (b4P _ _ _ _) ?_)|(refine wpList_store_cx rfl _ _ _ rfl gO 5 0 zpF (cxL 5 (pcF (.int .i64 0) (.int .u64 0) (.int .u16 0) (.int .u16 0) (.slice A3 m4 c4))) rfl rfl hOa (by rw [cxL_len];omega) (sizeP _) (pc_one _ _ _ _ _ rfl rfl rfl rfl rfl) ?_;intro v1 hO1 bel1 siz1 kee1)|fail)
   have hO2:=hO1.ext (pc_whole zpF _ _ _ _ _)
   have hR1:=hRa.keep hlO bel1
   have hh1:=hha.keep hlh bel1
   have hB1:=hBa.trans (bel1.mono (Nat.le_of_lt hlO))
   have hZ1:=hZa.below bel1
   clear hO1 hRa hBa hOa hZa hha bel1 siz1 kee1 hsl4 hgO
   try dsimp only [Act.put]
   have hs8:=slice8p gh v1
   go_wp2_with fail
   clear hs8
   refine(nphead (some ⟨gh,0,none⟩) 8 8 (liB 8 H) _ (Sl.of_fun (o:=0) (fun j hj=>HHB.out j hj) (fun j hj=>by rw [Nat.zero_add];exact(hh1 j hj).1) (hh1.lt (by omega))) (Nat.le_refl _) (by unfold maxLen;omega)).mono ?_
   rintro e9 v2 ⟨rfl,hq⟩
   rw [HHL.out,HPH.out.1,HPH.out.2]
   have hgO2:=hO2.lt (by omega)
   have hO3:=hO2.t hq
   have hR3:=hR1.t hq
   have hZ3:=hZ1.below (hq.mono (Nat.le_of_lt hgO2))
   have hB3:=Tq hB1 hq
   clear hq hO2 hR1 hZ1 hB1 hh1
   have cF0:=(hO3 0 (by omega)).1
   have fF0:=(hO3 0 (by omega)).2
   have cF1:=(hO3 1 (by omega)).1
   have fF1:=(hO3 1 (by omega)).2
   go_upto_region 10 with fail
   clear cF0 fF0 cF1 fF1
   have hO4:=(hO3.set (j:=0) (.int .i64 (D:Int)) (by omega)).set (j:=1) (.int .u64 (X:Int)) (by omega)
   have hR4:=(hR3.far (p:=⟨gO,0,none⟩) (by simp;omega) (.int .i64 (D:Int))).far (p:=⟨gO,1,none⟩) (by simp;omega) (.int .u64 (X:Int))
   have hZ4:=(hZ3.setCell (p:=⟨gO,0,none⟩) (by simp) (.int .i64 (D:Int))).setCell (p:=⟨gO,1,none⟩) (by simp) (.int .u64 (X:Int))
   have hB4:=(hB3.setCell (p:=⟨gO,0,none⟩) (by simp;omega) (.int .i64 (D:Int))).setCell (p:=⟨gO,1,none⟩) (by simp;omega) (.int .u64 (X:Int))
   generalize World.setCell (World.setCell v2 ⟨gO,0,none⟩ (.int .i64 (D:Int))) ⟨gO,1,none⟩ (.int .u64 (X:Int))=v4 at*
   have hO5:Cx v4 gO 5 (pcF (.int .i64 (D:Int)) (.int .u64 (X:Int)) (.int .u16 0) (.int .u16 0) (.slice A3 m4 c4)):=hO4.ext (fun j hj=>by have h:j=0∨j=1∨j=2∨j=3∨j=4:=(by omega);rcases h with rfl|rfl|rfl|rfl|rfl<;>rfl)
   clear hO3 hR3 hZ3 hB3 hO4
   go_wp2_with fail
   refine(ptof (some ⟨bp,op,none⟩) m c2 PL _ (hZ4.more (Nat.le_of_lt (hO5.lt (by omega)))) (by omega) HCC2.out).mono ?_
   rintro e9 v5 ⟨rfl,rfl⟩
   rw [HTT.out]
   have cF0:=(hO5 2 (by omega)).1
   have fF0:=(hO5 2 (by omega)).2
   go_upto_region 11 with fail
   clear cF0 fF0
   have hO6:=hO5.set (j:=2) (.int .u16 (T:Int)) (by omega)
   have hR6:=hR4.far (p:=⟨gO,2,none⟩) (by simp;omega) (.int .u16 (T:Int))
   have hZ6:=hZ4.setCell (p:=⟨gO,2,none⟩) (by simp) (.int .u16 (T:Int))
   have hB6:=hB4.setCell (p:=⟨gO,2,none⟩) (by simp;omega) (.int .u16 (T:Int))
   generalize World.setCell v5 ⟨gO,2,none⟩ (.int .u16 (T:Int))=v6 at*
   have hO7:Cx v6 gO 5 (pcF (.int .i64 (D:Int)) (.int .u64 (X:Int)) (.int .u16 (T:Int)) (.int .u16 0) (.slice A3 m4 c4)):=hO6.ext (fun j hj=>by have h:j=0∨j=1∨j=2∨j=3∨j=4:=(by omega);rcases h with rfl|rfl|rfl|rfl|rfl<;>rfl)
   clear hO5 hR4 hZ4 hB4 hO6
   have hsl6:=HS6.out
   go_wp2_with fail
   clear hsl6
   refine(ptof A4 m2 c6 (PL.drop 2) _ ((HS7.out _ _ _ hZ6).more (Nat.le_of_lt (hO7.lt (by omega)))) HM7.out.1 HM7.out.2).mono ?_
   rintro e9 v7 ⟨rfl,rfl⟩
   rw [HEE.out]
   have cF0:=(hO7 3 (by omega)).1
   have fF0:=(hO7 3 (by omega)).2
   go_upto_region 12 with fail
   clear cF0 fF0
   have hO8:=hO7.set (j:=3) (.int .u16 (E:Int)) (by omega)
   have hR8:=hR6.far (p:=⟨gO,3,none⟩) (by simp;omega) (.int .u16 (E:Int))
   have hZ8:=hZ6.setCell (p:=⟨gO,3,none⟩) (by simp) (.int .u16 (E:Int))
   have hB8:=hB6.setCell (p:=⟨gO,3,none⟩) (by simp;omega) (.int .u16 (E:Int))
   generalize World.setCell v7 ⟨gO,3,none⟩ (.int .u16 (E:Int))=v8 at*
   have hO9:Cx v8 gO 5 (pcF (.int .i64 (D:Int)) (.int .u64 (X:Int)) (.int .u16 (T:Int)) (.int .u16 (E:Int)) (.slice A3 m4 c4)):=hO8.ext (fun j hj=>by have h:j=0∨j=1∨j=2∨j=3∨j=4:=(by omega);rcases h with rfl|rfl|rfl|rfl|rfl<;>rfl)
   clear hO7 hR6 hZ6 hB6 hO8
   have hr7:v8.rangeAt gO 0 (cxL 5 (pcF (.int .i64 (D:Int)) (.int .u64 (X:Int)) (.int .u16 (T:Int)) (.int .u16 (E:Int)) (.slice A3 m4 c4))):=hO9.range 0 _ (by rw [cxL_len];omega) (fun j v hv=>by rw [Nat.zero_add];exact(cxL_get_some hv).2.symm)
   have hO8:gO≤v8.heap.size:=Nat.le_of_lt (hO9.lt (by omega))
   clear hO9
   go_wp2_with (first|(refine wpList_load_mid rfl _ _ rfl gO 0 rfl (cxL 5 (pcF (.int .i64 (D:Int)) (.int .u64 (X:Int)) (.int .u16 (T:Int)) (.int .u16 (E:Int)) (.slice A3 m4 c4))) _ hr7 HS2.out HW2.out (sizeP _) ?_)|(refine wpList_store_mid rfl _ _ _ rfl (w.heap.size) 0 (cxL 5 (pcF (.int .i64 (D:Int)) (.int .u64 (X:Int)) (.int .u16 (T:Int)) (.int .u16 (E:Int)) (.slice A3 m4 c4))).toArray rfl rfl (by rw [show((cxL 5 (pcF (.int .i64 (D:Int)) (.int .u64 (X:Int)) (.int .u16 (T:Int)) (.int .u16 (E:Int)) (.slice A3 m4 c4))).toArray).size=5 by rw [List.size_toArray,cxL_len]];exact hR8.there 0 5 (by omega)) (by rw [List.size_toArray];exact sizeP _) (all_oneCell_toArray (pc_one _ _ _ _ _ rfl rfl rfl rfl rfl)) ?_))
   have hR6:=(hR8.put 0 (cxL 5 (pcF (.int .i64 (D:Int)) (.int .u64 (X:Int)) (.int .u16 (T:Int)) (.int .u16 (E:Int)) (.slice A3 m4 c4))) (by rw [cxL_len];omega)).ext (pc_whole zpF _ _ _ _ _)
   have hS8:=HS5.out _ _ _ (sl_apart hZ8 (by omega:bp≠w.heap.size) (cxL 5 (pcF (.int .i64 (D:Int)) (.int .u64 (X:Int)) (.int .u16 (T:Int)) (.int .u16 (E:Int)) (.slice A3 m4 c4))) 0)
   have hl8:=hS8.len
   try dsimp only [List.toList_toArray]
   refine bodyPost_ret (results_cxt rfl rfl rfl hR6 HS2.out HW2.out (sizeP _)) rfl ⟨A3,c4,by rw [HV.out.1,HV.out.2.1,HV.out.2.2.1,HV.out.2.2.2.1,HV.out.2.2.2.2,HC.out,hl8];rfl,?_,by rw [HV.out.2.2.2.2,hl8];exact HCC.out,hB8.trans (Below.setCells (Below.refl w.heap.size _) (b:=w.heap.size) (Nat.le_refl _) _ 0)⟩
   rw [HV.out.2.2.2.2,hl8]
   exact hS8.more (by rw [World.setCells_size];exact hO8)
  ·rw [errV_is hC]
   have HV:=Lib.hid (dv_no (f:=f) (l:=l) (by rw [HC.out];exact hC))
   have HC1:=Lib.hid hC
   have he:=erNe 40 (.int .i64 (C:Nat)) q5
   clear hC
   go_wp2_with (first|(refine wpList_build_by rfl 27 _ rfl _ rfl _ (bzP _) ?_)|(refine wpList_store_cx rfl _ _ _ rfl (w.heap.size) 5 0 zpF (cxL 5 (zpF)) rfl rfl hR9 (by rw [cxL_len];omega) (sizeP _) (pc_one _ _ _ _ _ rfl rfl rfl rfl rfl) ?_;intro w8 hRw8 belw8 sizw8 keew8))
   have hR9:=hRw8.ext (pc_whole zpF _ _ _ _ _)
   refine bodyPost_ret (results_cxt rfl rfl rfl hR9 HS2.out HW2.out (sizeP _)) rfl ⟨none,0,by rw [HV.out.1,HV.out.2.1,HV.out.2.2.1,HV.out.2.2.2.1,HV.out.2.2.2.2,HC.out,erW_is HC1.out];rfl,by rw [HV.out.2.2.2.2];exact Sl.nil_,by rw [HV.out.2.2.2.2];exact Nat.le_refl _,hB9.trans (belw8.mono (by omega))⟩
 ·rw [erW_is hU]
  have HC:=Lib.hid (dcC_un (f:=f) HLEN.out hU)
  have HV:=Lib.hid (dv_no (f:=f) (l:=l) (by rw [HC.out];exact hU))
  have HU0:=Lib.hid hU
  have he:=erNe 40 (.int .i64 (unC n:Nat)) x1
  clear hU
  go_wp2_with (first|(refine wpList_build_by rfl 27 _ rfl _ rfl _ (bzP _) ?_)|(refine wpList_store_cx rfl _ _ _ rfl (w.heap.size) 5 0 zpF (cxL 5 (zpF)) rfl rfl hRx1 (by rw [cxL_len];omega) (sizeP _) (pc_one _ _ _ _ _ rfl rfl rfl rfl rfl) ?_;intro w8 hRw8 belw8 sizw8 keew8))
  have hR9:=hRw8.ext (pc_whole zpF _ _ _ _ _)
  refine bodyPost_ret (results_cxt rfl rfl rfl hR9 HS2.out HW2.out (sizeP _)) rfl ⟨none,0,by rw [HV.out.1,HV.out.2.1,HV.out.2.2.1,HV.out.2.2.2.1,HV.out.2.2.2.2,HC.out,erW_is HU0.out];rfl,by rw [HV.out.2.2.2.2];exact Sl.nil_,by rw [HV.out.2.2.2.2];exact Nat.le_refl _,hBx1.trans (belw8.mono (by omega))⟩
end Go.Proofs.YtiacbphnclgikaaGreatDoor
