/-
 Contract of Encode of package packet, by a walk through its text: the datagram of a right packet, in a slice of its own, or nothing and the code of the error; over a made Table of a key; what was there stays as it was.
-/
import Derived.Test.YtiacbphnclgikaaGreatDoorSqz
import Derived.Test.YtiacbphnclgikaaGreatDoorPcb
import Derived.Test.YtiacbphnclgikaaGreatDoorOph
import Derived.Test.YtiacbphnclgikaaGreatDoorPkc
import Derived.Test.YtiacbphnclgikaaGreatDoorGnc
import Derived.Deep.RegionHeld3
namespace Go.Proofs.YtiacbphnclgikaaGreatDoor
open Go.RowKit
set_option linter.unusedVariables false
set_option maxRecDepth 100000
set_option linter.unusedSimpArgs false
open Go.Shelf
theorem hb_byt (t e:Nat):byt t 2++byt e 2=hbL t e:=by
 have h: ∀x:Nat,UInt8.ofNat (x/256^0)=UInt8.ofNat (x%256):=fun x=>by
  rw [Nat.pow_zero,Nat.div_one]
  apply UInt8.toNat_inj.1
  simp
 unfold byt byt byt hbL
 rw [h,h,Nat.pow_one]
 rfl
theorem hd_li (d x:Nat):liB 8 (hdF d x)=hdL d x:=by
 refine lF_ext8 (by rw [liB_len,hdL_len]) fun j hj=> ?_
 rw [hdL_len]at hj
 rw [lF_liB _ _ (fun j hj=>hdF_lt d x j hj) j hj]
 rfl
set_option maxHeartbeats 8000000 in
theorem pencode (p:Option Addr) (f:Nat→Nat) (d:Int) (x t e:Nat) (A:Option Addr) (n c:Nat) (l EL:List UInt8) (C:Nat) (w:World) (hf:B16 f) (hd: -9223372036854775808≤d∧d≤9223372036854775807) (hx:x<18446744073709551616) (ht:t<65536) (he:e<65536) (hS:Sl w w.heap.size A n l) (hnc:n≤c) (hn:n≤9223372036854775807) (hC:ckC d x n=C) (hEL:(if C=0 then dgL f d.toNat x t e l else [])=EL) (hT:TabO w p f) (hX:Boxes w):
  Calls Tryz.prog 9 #[.pointer p,.agg #[.int .i64 (d:Int),.int .u64 (x:Int),.int .u16 (t:Int),.int .u16 (e:Int),.slice A n c]] w fun e9 w'=> ∃(A2:Option Addr) (c2:Nat),e9= .returned (.tuple #[.slice A2 EL.length c2,erW C])∧Sl w' w'.heap.size A2 EL.length EL∧EL.length≤c2∧c2≤maxLen∧Below w.heap.size w w':=by
 obtain⟨w1,hw1⟩:=Lv (w.alloc (.cells #[.int .i64 (d:Int),.int .u64 (x:Int),.int .u16 (t:Int),.int .u16 (e:Int),.slice A n c] 27))
 have hs1:=Zs1 hw1
 have hBw1:=Bl hw1
 have hPw1:Cx w1 w.heap.size 5 (pcF (.int .i64 (d:Int)) (.int .u64 (x:Int)) (.int .u16 (t:Int)) (.int .u16 (e:Int)) (.slice A n c)):=by rw [hw1];exact Cx.new w 5 (pcF (.int .i64 (d:Int)) (.int .u64 (x:Int)) (.int .u16 (t:Int)) (.int .u16 (e:Int)) (.slice A n c)) _
 obtain⟨dP,hfs,hrow⟩:=Tryz.structP
 have HS2:=Lib.hid hfs
 have HW2:=Lib.hid hrow
 clear hfs hrow
 have hz8:=zero8n
 have HFB:=Lib.hid hf
 have HDR:=Lib.hid hd
 have HXR:=Lib.hid hx
 have HTR:=Lib.hid ht
 have HER:=Lib.hid he
 have HSS:=Lib.hid hS
 have HNC:=Lib.hid hnc
 have HN:=Lib.hid hn
 have HC:=Lib.hid hC
 have HEL:=Lib.hid hEL
 have HT:=Lib.hid hT
 have HBX:=Lib.hid hX
 clear hf hd hx ht he hS hnc hn hC hEL hT hX
 go_enter Tryz.func9,Tryz.ntmps9
 go_upto_region 1 with fail
 rw [←hw1]
 clear hw1
 try simp only [Nat.add_assoc,Nat.reduceAdd]
 clear hs1
 go_wp2_with (refine wpList_load_mid rfl _ _ rfl w.heap.size 0 rfl _ _ (pk_range hPw1) HS2.out HW2.out size5P ?_)
 refine(pwrong d x t e A n c _ HDR.out HXR.out HN.out).mono ?_
 rintro e x1 ⟨rfl,hq⟩
 rw [HC.out]
 have hPx1:=hPw1.t hq
 have hBx1:=Tq hBw1 hq
 clear hq hPw1 hBw1
 by_cases hC:C=0
 ·rw [erW_no hC]
  have HEL2:=Lib.hid ((if_pos hC).symm.trans HEL.out)
  obtain⟨hd2,hx2,hn2⟩:=ck_zero (HC.out.trans hC)
  obtain⟨D,hD⟩: ∃D:Nat,d=(D:Int):=⟨d.toNat,by omega⟩
  have hD2:D<2:=by omega
  subst hD
  have HOK:=Lib.hid (ok_yes hd2 hx2)
  have HHZ:=Lib.hid (show hdZ (D:Int) x=hdF D x by unfold hdZ;rw [if_pos HOK.out,Int.toNat_natCast])
  have HN2:=Lib.hid hn2
  rw [Int.toNat_natCast]at HEL2
  obtain⟨H,hH⟩: ∃H,hdF D x=H:=⟨_,rfl⟩
  have HHB:=Lib.hid (show∀j,j<8→H j<256 by rw [←hH];exact hdF_lt D x)
  have HHL:=Lib.hid (show liB 8 H=hdL D x by rw [←hH];exact hd_li D x)
  rw [hH]at HHZ
  obtain⟨q,hq0⟩: ∃q,nqF D x=q:=⟨_,rfl⟩
  have hqB:B12 q:=by rw [←hq0];exact nqF_lt D x
  have HNQ:=Lib.hid (show noF H=q by rw [←hH];exact hq0)
  obtain⟨PL,hPL⟩: ∃PL,plL t e l=PL:=⟨_,rfl⟩
  obtain⟨m4,hm4⟩: ∃m,2+2+n=m:=⟨_,rfl⟩
  have hPl:PL.length=m4:=by rw [←hPL,plL_len,HSS.out.len];omega
  have HPL:=Lib.hid (show byt t 2++byt e 2++l=PL by rw [hb_byt];exact hPL)
  obtain⟨SD,hSD⟩: ∃SD,sdL f q PL=SD:=⟨_,rfl⟩
  obtain⟨m20,hm20⟩: ∃m,m4+16=m:=⟨_,rfl⟩
  have HSE:=Lib.hid (fun V A6 c6 (h6:Sl V V.heap.size A6 m4 PL) (hc6:m4≤c6) (hT6:TabO V p f) (hX6:Boxes V)=>sseal p f (enF f zF) q (kaF f q) none 0 0 [] A6 m4 c6 PL V HFB.out rfl hqB rfl (sl_nil _ _) (Nat.le_refl _) (by omega) h6 hc6 (by omega) hT6.1 hX6)
  rw [show seL f (enF f zF) (kaF f q) PL (tgF f (enF f zF) (csF PL) (ofF (enF f zF) (kaF f q) m4) [])=SD by rw [←hSD];unfold sdL;rw [hPl]]at HSE
  rw [hm20]at HSE
  have HDG:=Lib.hid (show hdL D x++SD=EL by rw [←HEL2.out,←hSD,←hPL,←hq0];rfl)
  have HNN:=Lib.hid (show 8+m20=EL.length by rw [←HEL2.out,dgL_len,HSS.out.len];omega)
  have HM4:=Lib.hid hm4
  have HMM:=Lib.hid (show m4≤10000∧m20≤10000∧n≤10000 by omega)
  have HSB:=Lib.hid hD2
  subst hC
  clear hH hq0 hqB hPL hPl hSD hm4 hm20 hd2 hx2 hn2 hD2 HEL2
  have c0:=(hPx1 0 (by omega)).1
  have c1:=(hPx1 1 (by omega)).1
  simp only [pcF]at c0 c1
  go_wp2_with fail
  refine(nhead (D:Int) x _ HDR.out HXR.out).mono ?_
  rintro e x2 ⟨rfl,hq⟩
  rw [HHZ.out,HOK.out]
  have hPx2:=hPx1.t hq
  have hBx2:=Tq hBx1 hq
  clear hq hPx1 hBx1
  clear c0 c1
  obtain⟨gh,hgh⟩:=Le (x2.heap.size)
  have hlw_heap_sizegh:w.heap.size<gh:=by rw [←hgh];exact hPx2.lt (by omega)
  have hlwgh:w.heap.size≤gh:=by rw [←hgh];exact hBx2.size
  have hq:=Ba x2 (.cells (arL 8 fun _=>0).toArray 71)
  have hPx3a:=hPx2.t hq
  have hhx3a:=Ar.new x2 8 (fun _=>0) 71
  have hBx3a:=hBx2.alloc hBx2.size (.cells (arL 8 fun _=>0).toArray 71)
  rw [hgh]at hhx3a
  clear hq hPx2 hBx2
  go_upto_region 5 with (first|(refine wpList_store_ar rfl _ _ _ rfl _ _ _ (H) rfl rfl hhx3a (size8n _) ?_;intro x3 hhx3 belx3 sizx3 keex3)|fail)
  have hPx3:=(hPx3a).keep hlw_heap_sizegh belx3
  have hBx3:=hBx3a.trans (belx3.mono hlwgh)
  clear hPx3a hhx3a hBx3a belx3 sizx3 keex3 hgh
  try dsimp only [Act.put]
  refine wp_region_noPanic ?_
  refine wp_region_held_drew (S:=fun W=>Cx W (w.heap.size) 5 (pcF (.int .i64 (D:Int)) (.int .u64 (x:Int)) (.int .u16 (t:Int)) (.int .u16 (e:Int)) (.slice A n c))∧Ar W gh 8 (H)∧Below w.heap.size w W) (by kernel_rfl) ⟨hPx3.drew,hhx3.drew,hBx3.drew⟩ (fun hH'=> ?_)
  clear hPx3 hhx3 hBx3
  generalize World.drew x3=qd at*
  refine tw 0 ?vq1 rfl ?hyq1 ?restq1
  case hyq1=>
   intro W hSw
   go_simp
   try with_reducible rfl
  simp only [Act.put,nrm]
  refine tw 1 ?vq2 rfl ?hyq2 ?restq2
  case hyq2=>
   intro W hSw
   have c9:=(hSw.1 2 (by omega)).1
   simp only [pcF]at c9
   go_simp
   try with_reducible rfl
  simp only [Act.put,nrm]
  refine tw 3 ?vq3 rfl ?hyq3 ?restq3
  case hyq3=>
   intro W hSw
   go_simp
   try with_reducible rfl
  simp only [Act.put,nrm]
  refine tw 4 ?vq4 rfl ?hyq4 ?restq4
  case hyq4=>
   intro W hSw
   have c9:=(hSw.1 3 (by omega)).1
   simp only [pcF]at c9
   go_simp
   try with_reducible rfl
  simp only [Act.put,nrm]
  refine tw 6 ?vq5 rfl ?hyq5 ?restq5
  case hyq5=>
   intro W hSw
   go_simp
   try with_reducible rfl
  simp only [Act.put,nrm]
  refine tw 7 ?vq6 rfl ?hyq6 ?restq6
  case hyq6=>
   intro W hSw
   have c9:=(hSw.1 4 (by omega)).1
   simp only [pcF]at c9
   go_simp
   try with_reducible rfl
  simp only [Act.put,nrm]
  refine rd 2 rfl (fun K hK=> ?_)
  go_simp
  refine(ptb t _ HTR.out).mono ?_
  rintro e q7 ⟨A1,c1,rfl,hO0,hq⟩
  have hUq7:=Sl.of_own hO0
  clear hO0
  go_wp2_with fail
  refine hK.out _ _ ⟨hH'.1.t hq,hH'.2.1.t hq,Tq hH'.2.2 hq⟩ ?_
  clear hK K hH' hq
  intro hH'
  try simp only [Act.put,nrm]
  refine rd 5 rfl (fun K hK=> ?_)
  go_simp
  refine(ptb e _ HER.out).mono ?_
  rintro e9 q8 ⟨A2,c2,rfl,hO0,hq⟩
  have hVq8:=Sl.of_own hO0
  clear hO0
  go_wp2_with fail
  have hUq8:=((hUq7).below hq).more hq.size
  refine hK.out _ _ ⟨hH'.1.t hq,hH'.2.1.t hq,Tq hH'.2.2 hq⟩ ?_
  clear hK K hH' hq hUq7
  intro hH'
  try simp only [Act.put,nrm]
  refine rd 8 rfl (fun K hK=> ?_)
  rw [if_pos (by rfl)]
  refine wpP_bs _ _ _ rfl [(0,.slice A1 2 c1),(1,.slice A2 2 c2),(2,.slice A n c)] rfl _ ((built3 A1 A2 A 2 c1 2 c2 n c) q8) ?_
  obtain⟨gG,hggG⟩:=Le (q8.heap.size)
  obtain⟨q9,hwq9⟩:=Lv (q8.alloc (.cells #[.slice A1 2 c1,.slice A2 2 c2,.slice A n c] 25))
  have hq:=Bl hwq9
  have hGq9:Cx q9 gG 3 (pk3 (.slice A1 2 c1) (.slice A2 2 c2) (.slice A n c)):=by rw [hwq9,←hggG];exact Cx.new q8 3 (pk3 (.slice A1 2 c1) (.slice A2 2 c2) (.slice A n c)) _
  rw [←hwq9]
  try rw [hggG]
  have hUq9:=((hUq8).below hq).more hq.size
  have hVq9:=((hVq8).below hq).more hq.size
  refine hK.out _ _ ⟨hH'.1.t hq,hH'.2.1.t hq,Tq hH'.2.2 hq⟩ ?_
  clear hK K hH' hq hwq9 hggG hUq8 hVq8
  intro hH'
  try simp only [Act.put,nrm]
  refine rd 9 rfl (fun K hK=> ?_)
  go_simp
  refine(scat3 gG A1 A2 A 2 c1 2 c2 n c (byt t 2) (byt e 2) l _ hGq9 hUq9 hVq9 ((HSS.out.below (hH'.2.2)).more (hH'.2.2).size) (by omega) (by omega) HMM.out.2.2).mono ?_
  rintro e9 q10 ⟨A9,c9,rfl,hRq10,hc9,hq⟩
  rw [HPL.out,HM4.out]at hRq10
  rw [HM4.out]at hc9
  rw [HM4.out]
  go_wp2_with fail
  refine hK.out _ _ ⟨hH'.1.t hq,hH'.2.1.t hq,Tq hH'.2.2 hq⟩ ?_
  clear hK K hH' hq
  intro hH'
  try simp only [Act.put,nrm]
  clear hUq9 hVq9 hGq9
  refine tw 10 ?vq11 rfl ?hyq11 ?restq11
  case hyq11=>
   intro W hSw
   go_simp
   try with_reducible rfl
  simp only [Act.put,nrm]
  refine wpAnyH_done (by kernel_rfl) ?_ _
  refine NoPanic.normal ?_
  have hP9:=hH'.1
  have hh9:=hH'.2.1
  have hB9:=hH'.2.2
  clear hH'
  have hR9:=hRq10
  clear hRq10
  go_upto_region 6 with fail
  refine wp_region_noPanic ?_
  have hRvd:Sl (World.drew q10) (World.heap (World.drew q10)).size A9 m4 PL:=hR9
  clear hR9
  refine wp_region_held_drew (S:=fun W=>Ar W gh 8 (H)∧Below w.heap.size w W) (by kernel_rfl) ⟨hh9.drew,hB9.drew⟩ (fun hH'=> ?_)
  clear hh9 hB9 hP9
  generalize World.drew q10=vd at*
  refine tw 0 ?vv1 rfl ?hyv1 ?restv1
  case hyv1=>
   intro W hSw
   have hsl:=slice8p gh W
   go_simp
   try with_reducible rfl
  simp only [Act.put,nrm]
  refine tw 1 ?vv2 rfl ?hyv2 ?restv2
  case hyv2=>
   intro W hSw
   go_simp
   try with_reducible rfl
  simp only [Act.put,nrm]
  refine tk 2 (.agg (arL 8 (H)).toArray) rfl (yieldsIf_load_mid (by rfl) _ _ rfl gh (0) rfl (arL 8 (H)) _ (fun W hSw=>hSw.1.range) Tryz.arr8n rfl (size8n _)) ?_
  simp only [Act.put,nrm]
  refine tw 4 ?vv3 rfl ?hyv3 ?restv3
  case hyv3=>
   intro W hSw
   go_simp
   try with_reducible rfl
  simp only [Act.put,nrm]
  refine rd 3 rfl (fun K hK=> ?_)
  go_simp
  refine(nwhole H _ HHB.out).mono ?_
  rintro e v4 ⟨rfl,hq⟩
  rw [HNQ.out]
  go_wp2_with fail
  have hRv4:=((hRvd).below hq).more hq.size
  refine hK.out _ _ ⟨hH'.1.t hq,Tq hH'.2 hq⟩ ?_
  clear hK K hH' hq hRvd
  intro hH'
  try simp only [Act.put,nrm]
  refine rd 5 rfl (fun K hK=> ?_)
  go_simp
  refine(HSE.out _ A9 c9 hRv4 hc9 (HT.out.to (hH'.2)) (HBX.out.keep (hH'.2))).mono ?_
  rintro e v5 ⟨A7,c7,rfl,hZv5,hc7,hq⟩
  go_wp2_with fail
  refine hK.out _ _ ⟨hH'.1.t hq,Tq hH'.2 hq⟩ ?_
  clear hK K hH' hq
  intro hH'
  try simp only [Act.put,nrm]
  clear hRv4
  refine rd 6 rfl (fun K hK=> ?_)
  rw [if_pos (by rfl)]
  refine wpP_bs _ _ _ rfl [(0,.slice (some ⟨gh,0,none⟩) 8 8),(1,.slice A7 m20 c7)] rfl _ ((built2 (some ⟨gh,0,none⟩) A7 8 8 m20 c7) v5) ?_
  obtain⟨gG,hggG⟩:=Le (v5.heap.size)
  obtain⟨v6,hwv6⟩:=Lv (v5.alloc (.cells #[.slice (some ⟨gh,0,none⟩) 8 8,.slice A7 m20 c7] 25))
  have hq:=Bl hwv6
  have hGv6:Cx v6 gG 2 (pk3 (.slice (some ⟨gh,0,none⟩) 8 8) (.slice A7 m20 c7) (.slice A7 m20 c7)):=by rw [hwv6,←hggG];exact Cx.new v5 2 (pk3 (.slice (some ⟨gh,0,none⟩) 8 8) (.slice A7 m20 c7) (.slice A7 m20 c7)) _
  rw [←hwv6]
  try rw [hggG]
  have hZv6:=((hZv5).below hq).more hq.size
  refine hK.out _ _ ⟨hH'.1.t hq,Tq hH'.2 hq⟩ ?_
  clear hK K hH' hq hwv6 hggG hZv5
  intro hH'
  try simp only [Act.put,nrm]
  refine rd 7 rfl (fun K hK=> ?_)
  go_simp
  refine(scat2 gG (some ⟨gh,0,none⟩) A7 8 8 m20 c7 (liB 8 H) SD _ hGv6 (Sl.of_fun (o:=0) (fun j hj=>HHB.out j hj) (fun j hj=>by rw [Nat.zero_add];exact((hH'.1) j hj).1) ((hH'.1).lt (by omega))) hZv6 (by omega) HMM.out.2.1).mono ?_
  rintro e v7 ⟨A8,c8,rfl,hYv7,hc8,hcM,hq⟩
  go_wp2_with fail
  refine hK.out _ _ ⟨hH'.1.t hq,Tq hH'.2 hq⟩ ?_
  clear hK K hH' hq
  intro hH'
  try simp only [Act.put,nrm]
  clear hZv6 hGv6
  refine tw 8 ?vv8 rfl ?hyv8 ?restv8
  case hyv8=>
   intro W hSw
   go_simp
   try with_reducible rfl
  simp only [Act.put,nrm]
  refine tw 9 ?vv9 rfl ?hyv9 ?restv9
  case hyv9=>
   intro W hSw
   go_simp
   try with_reducible rfl
  simp only [Act.put,nrm]
  refine wpAnyH_done (by kernel_rfl) ?_ _
  refine NoPanic.normal ?_
  have hB8:=hH'.2
  clear hH'
  try dsimp only [Act.put]
  have hY8:=hYv7
  clear hYv7
  rw [HHL.out,HDG.out,HNN.out]at hY8
  rw [HNN.out]at hc8
  rw [HNN.out]
  go_wp2_with fail
  go_ret2
  exact⟨A8,c8,rfl,hY8,hc8,hcM,hB8⟩
 ·rw [erW_is hC]
  have HV:=Lib.hid ((if_neg hC).symm.trans HEL.out)
  have HC0:=Lib.hid hC
  have he:=erNe 40 (.int .i64 (C:Nat)) x1
  clear hC
  go_wp2_with fail
  go_ret2
  exact⟨none,0,by rw [←HV.out,erW_is HC0.out];rfl,by rw [←HV.out];exact sl_nil _ _,by rw [←HV.out];exact Nat.le_refl _,Nat.zero_le _,hBx1⟩
end Go.Proofs.YtiacbphnclgikaaGreatDoor
