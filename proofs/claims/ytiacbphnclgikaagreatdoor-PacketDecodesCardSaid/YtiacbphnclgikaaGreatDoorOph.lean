/-
 Contracts of Open and Right of package open, by walks through their texts: the plaintext of bytes that are opened, or nothing and the code of the error; over a made Table of a key; what was there stays as it was.
-/
import Derived.Test.YtiacbphnclgikaaGreatDoorSqz
import Derived.Test.YtiacbphnclgikaaGreatDoorOpg
import Derived.Test.YtiacbphnclgikaaGreatDoorSez
import Derived.Deep.RegionHeld3
namespace Go.Proofs.YtiacbphnclgikaaGreatDoor
open Go.RowKit
set_option linter.unusedVariables false
set_option maxRecDepth 100000
set_option linter.unusedSimpArgs false
open Go.Shelf
def errV (C:Nat):Value:=if C=0 then .nilIface else .iface 40 (.int .i64 (C:Int))
theorem errV_no {C:Nat} (h:C=0):errV C= .nilIface:=if_pos h
theorem errV_is {C:Nat} (h:C≠0):errV C= .iface 40 (.int .i64 (C:Int)):=if_neg h
theorem ofacts {n M:Nat} (h:n-16=M) (h2:16≤n) (hn:n≤1000000):wrap64 ((n:Int)-16)=(M:Int)∧IntKind.i64.wrap ((n:Int)-16)=(M:Int)∧(n:Int)-16=(M:Int)∧IntKind.i64.wrap (M:Int)=(M:Int)∧M≤n∧M+16=n:=by
 refine⟨?_,?_,by omega,wraps_i64' _ (by omega) (by omega),by omega,by omega⟩
 ·rw [IntWalk.wrap64_in _ (by omega)];omega
 ·rw [show(n:Int)-16=(M:Int)by omega,wraps_i64' _ (by omega) (by omega)]
theorem ofacts0 {n:Nat} {z:Int} (h:(n:Int)-16=z) (h2:n<16):wrap64 ((n:Int)-16)=z∧IntKind.i64.wrap ((n:Int)-16)=z∧(n:Int)-16=z∧IntKind.i64.wrap z=z∧z<0:=by
 refine⟨?_,?_,h,?_,by omega⟩
 ·rw [IntWalk.wrap64_in _ (by omega)];omega
 ·rw [IntKind.wrap_i64];omega
 ·rw [IntKind.wrap_i64];omega
theorem equal16 (A A':Option Addr) (n m c c':Nat) (l l':List UInt8) (w:World) (h:Sl w w.heap.size A n l) (h':Sl w w.heap.size A' m l') (hn:n≤1000000) (hm:m≤1000000):
  Calls Tryz.prog 43 #[.slice A n c,.slice A' m c'] w fun e w'=>e= .returned (.bool (decide (l=l')))∧Below w.heap.size w w':=by
 refine(equal A A' n m c c' l l' w h h' (by omega) (by omega)).mono ?_
 rintro e w' ⟨rfl,hd⟩
 exact⟨rfl,hd.below _⟩
theorem wp_region_viaD {P:Program} {c:Code} {Q:Exit→Act→World→Prop} {a:Act} {w:World} {T:Nat→Nat→Option Addr→Nat→Act} (F:Nat→Nat→Option Addr→Nat→World→Prop) (h1:Code.wp P c (fun e a w=>e= .normal∧ ∃g h A k,a=T g h A k∧F g h A k w) a w) (h2: ∀g h A k w,F g h A k w→Q .normal (T g h A k) w):Code.wp P c Q a w:=
 Code.wp_mono (fun e a w h=>by obtain⟨rfl,g,h,A,k,rfl,h3⟩:=h;exact h2 g h A k w h3) h1
set_option maxHeartbeats 4000000 in
theorem oopenF (p:Option Addr) (f s q a:Nat→Nat) (D:Option Addr) (m cd:Nat) (d:List UInt8) (A:Option Addr) (n c:Nat) (l PL:List UInt8) (C:Nat) (w:World) (hf:B16 f) (hs:enF f zF=s) (hq0:B12 q) (ha:o0F (enF f (nbF q)) (q 11)=a) (hD:Sl w w.heap.size D m d) (hmc:m≤cd) (hm:m≤1000000) (hS:Sl w w.heap.size A n l) (hnc:n≤c) (hn:n≤1000000) (hC:opC f s a d l=C) (hPL:opL f s a d l=PL) (ht:TabO w p f) (hx:Boxes w):
  Calls Tryz.prog 32 #[.pointer p,.agg (arL 12 q).toArray,.slice D m cd,.slice A n c] w fun e w'=> ∃(A2:Option Addr) (c2:Nat),e= .returned (.tuple #[.slice A2 PL.length c2,errV C])∧Sl w' w'.heap.size A2 PL.length PL∧PL.length≤c2∧Below w.heap.size w w'∧(∀a2,A2=some a2→w.heap.size≤a2.block):=by
 obtain⟨kQ,hkQ⟩:=Le ((arL 12 (q)).toArray)
 obtain⟨w1,hw1⟩:=Lv (w.alloc (.cells (arL 12 (q)).toArray 77))
 have hs1:=Zs1 hw1
 have hBw1:=Bl hw1
 have hQw1:Ar w1 w.heap.size 12 (q):=by rw [hw1];exact Ar.new w 12 _ _
 rw [hkQ]at hw1
 rw [hkQ]
 clear hkQ
 have hz:=zero16b
 have hlen:=hS.len
 have HLEN:=Lib.hid hlen
 have HFB:=Lib.hid hf
 have HQB:=Lib.hid hq0
 have HSS:=Lib.hid hS
 have HDD:=Lib.hid hD
 have HTO:=Lib.hid ht
 have HX:=Lib.hid hx
 have HS0:=Lib.hid hs
 have HA0:=Lib.hid ha
 have HNC:=Lib.hid hnc
 have HN:=Lib.hid hn
 have HMC:=Lib.hid hmc
 have HM:=Lib.hid hm
 have HC:=Lib.hid hC
 have HPL:=Lib.hid hPL
 have HSL:=Lib.hid (show B16 s by rw [←hs];exact enR_lt hf zF_lt 10)
 have HAB:=Lib.hid (show B16 a by rw [←ha];exact o0F_lt (enR_lt hf (nbF_lt hq0) 10) _)
 have hn63:(n:Int)<9223372036854775808:=by omega
 clear hf hq0 hS hD ht hx hs ha hnc hn hmc hm hlen hC hPL
 go_enter Tryz.func32,Tryz.ntmps32
 go_upto_region 1 with fail
 rw [←hw1]
 clear hw1
 try simp only [Nat.add_assoc,Nat.reduceAdd]
 clear hs1
 by_cases h16:n<16
 ·obtain⟨z,hz0⟩: ∃z:Int,(n:Int)-16=z:=⟨_,rfl⟩
  obtain⟨m1,m2,m3,m4,m5⟩:=ofacts0 hz0 h16
  have HC1:=Lib.hid (HC.out.symm.trans (opC_short HLEN.out h16))
  have HP1:=Lib.hid (HPL.out.symm.trans (opL_no (by rw [opC_short HLEN.out h16];decide)))
  clear h16 hz0
  go_wp2_with fail
  go_ret2
  exact⟨none,0,by rw [HC1.out,HP1.out];rfl,by rw [HP1.out];exact sl_nil _ _,by rw [HP1.out];exact Nat.le_refl _,hBw1,fun _ h9=>by cases h9⟩
 ·obtain⟨M,hM⟩:=Le (n-16)
  have HM0:=Lib.hid hM
  have H16:=Lib.hid (show 16≤n by omega)
  have HMF:=Lib.hid (ofacts hM H16.out HN.out)
  have HSLI:=Lib.hid (slice_to2 A n c M HMF.out.2.2.2.2.1 HNC.out)
  obtain⟨A9,hsl,hsl3⟩:=slice_from A n c M HMF.out.2.2.2.2.1 HNC.out
  have e16:n-M=16:=by have:=HMF.out.2.2.2.2.2;omega
  rw [e16]at hsl hsl3
  have HSLF:=Lib.hid hsl
  have HSLG:=Lib.hid hsl3
  clear hM h16 hsl hsl3 e16
  obtain⟨m1,m2,m3,m4,m5,m6⟩:=HMF.out
  have i2: ¬(M:Int)<0:=by omega
  go_wp2_with fail
  refine(HTO.out.2 _ hBw1).mono ?_
  rintro e x1 ⟨rfl,hq⟩
  have hQx1:=hQw1.t hq
  have hBx1:=Tq hBw1 hq
  clear hq hQw1 hBw1
  clear m1 m2 m3 m4 m5 m6 i2
  obtain⟨PL9,hP9⟩: ∃u,dtL f s a (l.take M)=u:=⟨_,rfl⟩
  have HP9:=Lib.hid hP9
  have HL9:=Lib.hid (show PL9.length=M by rw [←hP9,dtL_len,List.length_take,HLEN.out];have:=HMF.out.2.2.2.2.1;omega)
  obtain⟨k,hk⟩: ∃u,csF PL9=u:=⟨_,rfl⟩
  have HK0:=Lib.hid hk
  have hkb:=Lib.hid (show B16 k by rw [←hk];exact csF_lt PL9)
  obtain⟨o,ho⟩: ∃u,ofF s a M=u:=⟨_,rfl⟩
  have HO0:=Lib.hid ho
  have hob:=Lib.hid (show B16 o by rw [←ho];exact ofF_lt HSL.out HAB.out M)
  clear hP9 hk ho
  go_upto_region 5 with fail
  apply wp_region_viaD (F:=fun gx gy A5 c5 W=>(∃gp,Sy W gp A5 M PL9)∧M≤c5∧Ar W gx 16 k∧Ar W gy 16 o∧Below w.heap.size w W∧(∀a2,A5=some a2→w.heap.size≤a2.block))
  case h1=>
   refine wp_region_noPanic ?_
   refine wp_region_held_drew (S:=fun W=>Ar W w.heap.size 12 (q)∧Below w.heap.size w W) (by kernel_rfl) ⟨hQx1.drew,hBx1.drew⟩ (fun hH'=> ?_)
   generalize World.drew x1=ad at*
   refine tw 0 ?va1 rfl ?hya1 ?resta1
   case hya1=>
    intro W hSw
    go_simp
    try with_reducible rfl
   simp only [Act.put,nrm]
   refine tk 1 (.agg (arL 12 (q)).toArray) rfl (yieldsIf_load_mid (by rfl) _ _ rfl w.heap.size (0) rfl (arL 12 (q)) _ (fun W hSw=>hSw.1.range) Tryz.arr12 rfl (size12 _)) ?_
   simp only [Act.put,nrm]
   refine tw 2 ?va2 rfl ?hya2 ?resta2
   case hya2=>
    intro W hSw
    go_simp
    try with_reducible rfl
   simp only [Act.put,nrm]
   refine tw 3 ?va3 rfl ?hya3 ?resta3
   case hya3=>
    intro W hSw
    obtain⟨m1,m2,m3,m4,m5,m6⟩:=HMF.out
    go_simp
    try with_reducible rfl
   simp only [Act.put,nrm]
   refine tw 4 ?va4 rfl ?hya4 ?resta4
   case hya4=>
    intro W hSw
    have hsl:=HSLI.out W
    go_simp
    try with_reducible rfl
   simp only [Act.put,nrm]
   refine wpAnyH_ready (rs:= [5,10,11]) (by kernel_rfl) (by simp) ?_
   refine AllReadyH.cons rfl (fun K hK=> ?_) (AllReadyH.cons rfl (fun K hK=> ?_) (AllReadyH.cons rfl (fun K hK=> ?_) AllReadyH.nil))
   ·go_simp
    obtain⟨b0,hb0⟩:=Le (ad.heap.size)
    have hl0b:w.heap.size<b0:=by rw [←hb0];exact(hH'.1).lt (by omega)
    refine(odec p f s q a A M c (l.take M) _ HFB.out HS0.out HQB.out HA0.out (sl_take2 ((HSS.out.below (hH'.2)).more (hH'.2).size) HMF.out.2.2.2.2.1) (Nat.le_trans HMF.out.2.2.2.2.1 HNC.out) (Nat.le_trans HMF.out.2.2.2.2.1 HN.out) (HTO.out.to (hH'.2)) (HX.out.keep (hH'.2))).mono ?_
    rintro e a5 ⟨A5,c5,rfl,hO8,hq⟩
    rw [HP9.out]at hO8⊢
    rw [HK0.out,HO0.out]
    have hsz8:=hq.size
    obtain⟨gq,hgq⟩:=Le (a5.heap.size-1)
    rw [hb0]at hO8 hsz8
    have hwa5:Ob a5 b0 gq (.slice A5 M c5) M (PL9):=by rw [←hgq];exact Ob.new hO8 hsz8 (by omega)
    clear hO8 hgq hsz8
    go_wp2_with fail
    refine hK.out _ _ ⟨hH'.1.t hq,Tq hH'.2 hq⟩ ?_
    clear hK K hH' hq hb0
    intro hH'
    try simp only [Act.put,nrm]
    refine tw 6 ?va6 rfl ?hya6 ?resta6
    case hya6=>
     intro W hSw
     go_simp
     try with_reducible rfl
    simp only [Act.put,nrm]
    refine tw 7 ?va7 rfl ?hya7 ?resta7
    case hya7=>
     intro W hSw
     go_simp
     try with_reducible rfl
    simp only [Act.put,nrm]
    refine tw 8 ?va8 rfl ?hya8 ?resta8
    case hya8=>
     intro W hSw
     go_simp
     try with_reducible rfl
    simp only [Act.put,nrm]
    refine tw 9 ?va9 rfl ?hya9 ?resta9
    case hya9=>
     intro W hSw
     go_simp
     try with_reducible rfl
    simp only [Act.put,nrm]
    refine rd2 10 11 rfl rfl (fun K hK=> ?_) (fun K hK=> ?_)
    ·obtain⟨gx,hggx⟩:=Le (a5.heap.size)
     have hl0gx:w.heap.size<gx:=by rw [←hggx];exact(hH'.1).lt (by omega)
     have hlgqgx:gq<gx:=by rw [←hggx];exact hwa5.lt
     have hq:=Ba a5 (.cells (arL 16 fun _=>0).toArray 22)
     have hxa10:=Ar.new a5 16 (fun _=>0) 22
     rw [hggx]at hxa10
     have hwa10:=hwa5.to hq
     go_simp
     obtain⟨a10,hwa100⟩:=Lv (a5.alloc (.cells (arL 16 fun _=>0).toArray 22))
     have hxa10:Ar a10 gx 16 (fun _=>0):=by rw [hwa100];exact hxa10
     have hwa10:Ob a10 b0 gq (.slice A5 M c5) (M) (PL9):=by rw [hwa100];exact hwa10
     try rw [hggx]
     rw [←hwa100]
     refine hK.out _ _ (by rw [hwa100];exact⟨hH'.1.t hq,Tq hH'.2 hq⟩) ?_
     clear hK K hH' hq hwa100 hggx hwa5
     intro hH'
     try simp only [Act.put,nrm]
     refine rd 11 rfl (fun K hK=> ?_)
     obtain⟨gy,hggy⟩:=Le (a10.heap.size)
     have hl0gy:w.heap.size<gy:=by rw [←hggy];exact(hH'.1).lt (by omega)
     have hlgqgy:gq<gy:=by rw [←hggy];exact hwa10.lt
     have hlgxgy:gx<gy:=by rw [←hggy];exact hxa10.lt (by omega)
     have hq:=Ba a10 (.cells (arL 16 fun _=>0).toArray 22)
     have hya11:=Ar.new a10 16 (fun _=>0) 22
     rw [hggy]at hya11
     have hwa11:=hwa10.to hq
     have hxa11:=hxa10.t hq
     go_simp
     obtain⟨a11,hwa110⟩:=Lv (a10.alloc (.cells (arL 16 fun _=>0).toArray 22))
     have hya11:Ar a11 gy 16 (fun _=>0):=by rw [hwa110];exact hya11
     have hwa11:Ob a11 b0 gq (.slice A5 M c5) (M) (PL9):=by rw [hwa110];exact hwa11
     have hxa11:Ar a11 gx 16 (fun _=>0):=by rw [hwa110];exact hxa11
     try rw [hggy]
     rw [←hwa110]
     refine hK.out _ _ (by rw [hwa110];exact⟨hH'.1.t hq,Tq hH'.2 hq⟩) ?_
     clear hK K hH' hq hwa110 hggy hwa10 hxa10
     intro hH'
     try simp only [Act.put,nrm]
     refine tw 12 ?va12 rfl ?hya12 ?resta12
     case hya12=>
      intro W hSw
      go_simp
      try with_reducible rfl
     simp only [Act.put,nrm]
     refine rd 13 rfl (fun K hK=> ?_)
     rw [if_pos (by rfl)]
     refine wp_store_mid _ _ _ rfl gx 0 (arL 16 (k)).toArray rfl rfl hxa11.there (size16b _) (all_oneCell_toArray (arL_one 16 (k))) ?_
     have hxa13:=hxa11.whole (k)
     have hwa13:Ob (World.setCells a11 gx 0 (arL 16 (k))) b0 gq (.slice A5 M c5) (M) (PL9):=by first|exact hwa11.old (by omega) (arL 16 (k)) 0|exact hwa11.apart (by omega) (arL 16 (k)) 0
     have hya13:=hya11.apart (b:=gx) (by omega) (arL 16 (k)) 0
     dsimp only [List.toList_toArray]
     refine hK.out _ _ ⟨(hH'.1).apart (b:=gx) (by omega) (arL 16 (k)) 0,(hH'.2).trans (Below.setCells (Below.refl w.heap.size _) (b:=gx) (by omega) (arL 16 (k)) 0)⟩ ?_
     clear hK K hH' hwa11 hxa11 hya11
     intro hH'
     generalize World.setCells a11 gx 0 (arL 16 (k))=a13 at*
     try simp only [Act.put]
     refine rd 14 rfl (fun K hK=> ?_)
     rw [if_pos (by rfl)]
     refine wp_store_mid _ _ _ rfl gy 0 (arL 16 (o)).toArray rfl rfl hya13.there (size16b _) (all_oneCell_toArray (arL_one 16 (o))) ?_
     have hya14:=hya13.whole (o)
     have hwa14:Ob (World.setCells a13 gy 0 (arL 16 (o))) b0 gq (.slice A5 M c5) (M) (PL9):=by first|exact hwa13.old (by omega) (arL 16 (o)) 0|exact hwa13.apart (by omega) (arL 16 (o)) 0
     have hxa14:=hxa13.apart (b:=gy) (by omega) (arL 16 (o)) 0
     dsimp only [List.toList_toArray]
     refine hK.out _ _ ⟨(hH'.1).apart (b:=gy) (by omega) (arL 16 (o)) 0,(hH'.2).trans (Below.setCells (Below.refl w.heap.size _) (b:=gy) (by omega) (arL 16 (o)) 0)⟩ ?_
     clear hK K hH' hwa13 hxa13 hya13
     intro hH'
     generalize World.setCells a13 gy 0 (arL 16 (o))=a14 at*
     try simp only [Act.put]
     refine wpAnyH_done (by kernel_rfl) ?_ _
     refine NoPanic.normal ?_
     exact⟨rfl,gx,gy,A5,c5,rfl,⟨_,Sy.new (Sl.of_own hwa14.2.2.2) (Nat.zero_lt_of_lt hwa14.1)⟩,own_capS hwa14.2.2.2,hxa14,hya14,hH'.2,fun a2 h9=>by subst h9;exact Nat.le_trans (Nat.le_of_lt hl0b) (own_block hwa14.2.2.2 rfl)⟩
    ·obtain⟨gy,hggy⟩:=Le (a5.heap.size)
     have hl0gy:w.heap.size<gy:=by rw [←hggy];exact(hH'.1).lt (by omega)
     have hlgqgy:gq<gy:=by rw [←hggy];exact hwa5.lt
     have hq:=Ba a5 (.cells (arL 16 fun _=>0).toArray 22)
     have hya15:=Ar.new a5 16 (fun _=>0) 22
     rw [hggy]at hya15
     have hwa15:=hwa5.to hq
     go_simp
     obtain⟨a15,hwa150⟩:=Lv (a5.alloc (.cells (arL 16 fun _=>0).toArray 22))
     have hya15:Ar a15 gy 16 (fun _=>0):=by rw [hwa150];exact hya15
     have hwa15:Ob a15 b0 gq (.slice A5 M c5) (M) (PL9):=by rw [hwa150];exact hwa15
     try rw [hggy]
     rw [←hwa150]
     refine hK.out _ _ (by rw [hwa150];exact⟨hH'.1.t hq,Tq hH'.2 hq⟩) ?_
     clear hK K hH' hq hwa150 hggy hwa5
     intro hH'
     try simp only [Act.put,nrm]
     refine rd 10 rfl (fun K hK=> ?_)
     obtain⟨gx,hggx⟩:=Le (a15.heap.size)
     have hl0gx:w.heap.size<gx:=by rw [←hggx];exact(hH'.1).lt (by omega)
     have hlgqgx:gq<gx:=by rw [←hggx];exact hwa15.lt
     have hlgygx:gy<gx:=by rw [←hggx];exact hya15.lt (by omega)
     have hq:=Ba a15 (.cells (arL 16 fun _=>0).toArray 22)
     have hxa16:=Ar.new a15 16 (fun _=>0) 22
     rw [hggx]at hxa16
     have hwa16:=hwa15.to hq
     have hya16:=hya15.t hq
     go_simp
     obtain⟨a16,hwa160⟩:=Lv (a15.alloc (.cells (arL 16 fun _=>0).toArray 22))
     have hxa16:Ar a16 gx 16 (fun _=>0):=by rw [hwa160];exact hxa16
     have hwa16:Ob a16 b0 gq (.slice A5 M c5) (M) (PL9):=by rw [hwa160];exact hwa16
     have hya16:Ar a16 gy 16 (fun _=>0):=by rw [hwa160];exact hya16
     try rw [hggx]
     rw [←hwa160]
     refine hK.out _ _ (by rw [hwa160];exact⟨hH'.1.t hq,Tq hH'.2 hq⟩) ?_
     clear hK K hH' hq hwa160 hggx hwa15 hya15
     intro hH'
     try simp only [Act.put,nrm]
     refine tw 12 ?va17 rfl ?hya17 ?resta17
     case hya17=>
      intro W hSw
      go_simp
      try with_reducible rfl
     simp only [Act.put,nrm]
     refine rd 13 rfl (fun K hK=> ?_)
     rw [if_pos (by rfl)]
     refine wp_store_mid _ _ _ rfl gx 0 (arL 16 (k)).toArray rfl rfl hxa16.there (size16b _) (all_oneCell_toArray (arL_one 16 (k))) ?_
     have hxa18:=hxa16.whole (k)
     have hwa18:Ob (World.setCells a16 gx 0 (arL 16 (k))) b0 gq (.slice A5 M c5) (M) (PL9):=by first|exact hwa16.old (by omega) (arL 16 (k)) 0|exact hwa16.apart (by omega) (arL 16 (k)) 0
     have hya18:=hya16.apart (b:=gx) (by omega) (arL 16 (k)) 0
     dsimp only [List.toList_toArray]
     refine hK.out _ _ ⟨(hH'.1).apart (b:=gx) (by omega) (arL 16 (k)) 0,(hH'.2).trans (Below.setCells (Below.refl w.heap.size _) (b:=gx) (by omega) (arL 16 (k)) 0)⟩ ?_
     clear hK K hH' hwa16 hya16 hxa16
     intro hH'
     generalize World.setCells a16 gx 0 (arL 16 (k))=a18 at*
     try simp only [Act.put]
     refine rd 14 rfl (fun K hK=> ?_)
     rw [if_pos (by rfl)]
     refine wp_store_mid _ _ _ rfl gy 0 (arL 16 (o)).toArray rfl rfl hya18.there (size16b _) (all_oneCell_toArray (arL_one 16 (o))) ?_
     have hya19:=hya18.whole (o)
     have hwa19:Ob (World.setCells a18 gy 0 (arL 16 (o))) b0 gq (.slice A5 M c5) (M) (PL9):=by first|exact hwa18.old (by omega) (arL 16 (o)) 0|exact hwa18.apart (by omega) (arL 16 (o)) 0
     have hxa19:=hxa18.apart (b:=gy) (by omega) (arL 16 (o)) 0
     dsimp only [List.toList_toArray]
     refine hK.out _ _ ⟨(hH'.1).apart (b:=gy) (by omega) (arL 16 (o)) 0,(hH'.2).trans (Below.setCells (Below.refl w.heap.size _) (b:=gy) (by omega) (arL 16 (o)) 0)⟩ ?_
     clear hK K hH' hwa18 hya18 hxa18
     intro hH'
     generalize World.setCells a18 gy 0 (arL 16 (o))=a19 at*
     try simp only [Act.put]
     refine wpAnyH_done (by kernel_rfl) ?_ _
     refine NoPanic.normal ?_
     exact⟨rfl,gx,gy,A5,c5,rfl,⟨_,Sy.new (Sl.of_own hwa19.2.2.2) (Nat.zero_lt_of_lt hwa19.1)⟩,own_capS hwa19.2.2.2,hxa19,hya19,hH'.2,fun a2 h9=>by subst h9;exact Nat.le_trans (Nat.le_of_lt hl0b) (own_block hwa19.2.2.2 rfl)⟩
   ·obtain⟨gx,hggx⟩:=Le (ad.heap.size)
    have hl0gx:w.heap.size<gx:=by rw [←hggx];exact(hH'.1).lt (by omega)
    have hq:=Ba ad (.cells (arL 16 fun _=>0).toArray 22)
    have hxa20:=Ar.new ad 16 (fun _=>0) 22
    rw [hggx]at hxa20
    go_simp
    obtain⟨a20,hwa200⟩:=Lv (ad.alloc (.cells (arL 16 fun _=>0).toArray 22))
    have hxa20:Ar a20 gx 16 (fun _=>0):=by rw [hwa200];exact hxa20
    try rw [hggx]
    rw [←hwa200]
    refine hK.out _ _ (by rw [hwa200];exact⟨hH'.1.t hq,Tq hH'.2 hq⟩) ?_
    clear hK K hH' hq hwa200 hggx
    intro hH'
    try simp only [Act.put,nrm]
    refine rd2 5 11 rfl rfl (fun K hK=> ?_) (fun K hK=> ?_)
    ·go_simp
     obtain⟨b0,hb0⟩:=Le (a20.heap.size)
     have hl0b:w.heap.size<b0:=by rw [←hb0];exact(hH'.1).lt (by omega)
     have hlbx:gx<b0:=by rw [←hb0];exact hxa20.lt (by omega)
     refine(odec p f s q a A M c (l.take M) _ HFB.out HS0.out HQB.out HA0.out (sl_take2 ((HSS.out.below (hH'.2)).more (hH'.2).size) HMF.out.2.2.2.2.1) (Nat.le_trans HMF.out.2.2.2.2.1 HNC.out) (Nat.le_trans HMF.out.2.2.2.2.1 HN.out) (HTO.out.to (hH'.2)) (HX.out.keep (hH'.2))).mono ?_
     rintro e a21 ⟨A5,c5,rfl,hO8,hq⟩
     rw [HP9.out]at hO8⊢
     rw [HK0.out,HO0.out]
     have hsz8:=hq.size
     obtain⟨gq,hgq⟩:=Le (a21.heap.size-1)
     rw [hb0]at hO8 hsz8
     have hwa21:Ob a21 b0 gq (.slice A5 M c5) M (PL9):=by rw [←hgq];exact Ob.new hO8 hsz8 (by omega)
     clear hO8 hgq hsz8
     go_wp2_with fail
     have hxa21:=hxa20.t hq
     refine hK.out _ _ ⟨hH'.1.t hq,Tq hH'.2 hq⟩ ?_
     clear hK K hH' hq hb0 hxa20
     intro hH'
     try simp only [Act.put,nrm]
     refine tw 6 ?va22 rfl ?hya22 ?resta22
     case hya22=>
      intro W hSw
      go_simp
      try with_reducible rfl
     simp only [Act.put,nrm]
     refine tw 7 ?va23 rfl ?hya23 ?resta23
     case hya23=>
      intro W hSw
      go_simp
      try with_reducible rfl
     simp only [Act.put,nrm]
     refine tw 8 ?va24 rfl ?hya24 ?resta24
     case hya24=>
      intro W hSw
      go_simp
      try with_reducible rfl
     simp only [Act.put,nrm]
     refine tw 9 ?va25 rfl ?hya25 ?resta25
     case hya25=>
      intro W hSw
      go_simp
      try with_reducible rfl
     simp only [Act.put,nrm]
     refine rd 11 rfl (fun K hK=> ?_)
     obtain⟨gy,hggy⟩:=Le (a21.heap.size)
     have hl0gy:w.heap.size<gy:=by rw [←hggy];exact(hH'.1).lt (by omega)
     have hlgxgy:gx<gy:=by rw [←hggy];exact hxa21.lt (by omega)
     have hlgqgy:gq<gy:=by rw [←hggy];exact hwa21.lt
     have hq:=Ba a21 (.cells (arL 16 fun _=>0).toArray 22)
     have hya26:=Ar.new a21 16 (fun _=>0) 22
     rw [hggy]at hya26
     have hxa26:=hxa21.t hq
     have hwa26:=hwa21.to hq
     go_simp
     obtain⟨a26,hwa260⟩:=Lv (a21.alloc (.cells (arL 16 fun _=>0).toArray 22))
     have hya26:Ar a26 gy 16 (fun _=>0):=by rw [hwa260];exact hya26
     have hxa26:Ar a26 gx 16 (fun _=>0):=by rw [hwa260];exact hxa26
     have hwa26:Ob a26 b0 gq (.slice A5 M c5) (M) (PL9):=by rw [hwa260];exact hwa26
     try rw [hggy]
     rw [←hwa260]
     refine hK.out _ _ (by rw [hwa260];exact⟨hH'.1.t hq,Tq hH'.2 hq⟩) ?_
     clear hK K hH' hq hwa260 hggy hxa21 hwa21
     intro hH'
     try simp only [Act.put,nrm]
     refine tw 12 ?va27 rfl ?hya27 ?resta27
     case hya27=>
      intro W hSw
      go_simp
      try with_reducible rfl
     simp only [Act.put,nrm]
     refine rd 13 rfl (fun K hK=> ?_)
     rw [if_pos (by rfl)]
     refine wp_store_mid _ _ _ rfl gx 0 (arL 16 (k)).toArray rfl rfl hxa26.there (size16b _) (all_oneCell_toArray (arL_one 16 (k))) ?_
     have hxa28:=hxa26.whole (k)
     have hwa28:Ob (World.setCells a26 gx 0 (arL 16 (k))) b0 gq (.slice A5 M c5) (M) (PL9):=by first|exact hwa26.old (by omega) (arL 16 (k)) 0|exact hwa26.apart (by omega) (arL 16 (k)) 0
     have hya28:=hya26.apart (b:=gx) (by omega) (arL 16 (k)) 0
     dsimp only [List.toList_toArray]
     refine hK.out _ _ ⟨(hH'.1).apart (b:=gx) (by omega) (arL 16 (k)) 0,(hH'.2).trans (Below.setCells (Below.refl w.heap.size _) (b:=gx) (by omega) (arL 16 (k)) 0)⟩ ?_
     clear hK K hH' hxa26 hwa26 hya26
     intro hH'
     generalize World.setCells a26 gx 0 (arL 16 (k))=a28 at*
     try simp only [Act.put]
     refine rd 14 rfl (fun K hK=> ?_)
     rw [if_pos (by rfl)]
     refine wp_store_mid _ _ _ rfl gy 0 (arL 16 (o)).toArray rfl rfl hya28.there (size16b _) (all_oneCell_toArray (arL_one 16 (o))) ?_
     have hya29:=hya28.whole (o)
     have hxa29:=hxa28.apart (b:=gy) (by omega) (arL 16 (o)) 0
     have hwa29:Ob (World.setCells a28 gy 0 (arL 16 (o))) b0 gq (.slice A5 M c5) (M) (PL9):=by first|exact hwa28.old (by omega) (arL 16 (o)) 0|exact hwa28.apart (by omega) (arL 16 (o)) 0
     dsimp only [List.toList_toArray]
     refine hK.out _ _ ⟨(hH'.1).apart (b:=gy) (by omega) (arL 16 (o)) 0,(hH'.2).trans (Below.setCells (Below.refl w.heap.size _) (b:=gy) (by omega) (arL 16 (o)) 0)⟩ ?_
     clear hK K hH' hxa28 hwa28 hya28
     intro hH'
     generalize World.setCells a28 gy 0 (arL 16 (o))=a29 at*
     try simp only [Act.put]
     refine wpAnyH_done (by kernel_rfl) ?_ _
     refine NoPanic.normal ?_
     exact⟨rfl,gx,gy,A5,c5,rfl,⟨_,Sy.new (Sl.of_own hwa29.2.2.2) (Nat.zero_lt_of_lt hwa29.1)⟩,own_capS hwa29.2.2.2,hxa29,hya29,hH'.2,fun a2 h9=>by subst h9;exact Nat.le_trans (Nat.le_of_lt hl0b) (own_block hwa29.2.2.2 rfl)⟩
    ·obtain⟨gy,hggy⟩:=Le (a20.heap.size)
     have hl0gy:w.heap.size<gy:=by rw [←hggy];exact(hH'.1).lt (by omega)
     have hlgxgy:gx<gy:=by rw [←hggy];exact hxa20.lt (by omega)
     have hq:=Ba a20 (.cells (arL 16 fun _=>0).toArray 22)
     have hya30:=Ar.new a20 16 (fun _=>0) 22
     rw [hggy]at hya30
     have hxa30:=hxa20.t hq
     go_simp
     obtain⟨a30,hwa300⟩:=Lv (a20.alloc (.cells (arL 16 fun _=>0).toArray 22))
     have hya30:Ar a30 gy 16 (fun _=>0):=by rw [hwa300];exact hya30
     have hxa30:Ar a30 gx 16 (fun _=>0):=by rw [hwa300];exact hxa30
     try rw [hggy]
     rw [←hwa300]
     refine hK.out _ _ (by rw [hwa300];exact⟨hH'.1.t hq,Tq hH'.2 hq⟩) ?_
     clear hK K hH' hq hwa300 hggy hxa20
     intro hH'
     try simp only [Act.put,nrm]
     refine rd 5 rfl (fun K hK=> ?_)
     go_simp
     obtain⟨b0,hb0⟩:=Le (a30.heap.size)
     have hl0b:w.heap.size<b0:=by rw [←hb0];exact(hH'.1).lt (by omega)
     have hlbx:gx<b0:=by rw [←hb0];exact hxa30.lt (by omega)
     have hlby:gy<b0:=by rw [←hb0];exact hya30.lt (by omega)
     refine(odec p f s q a A M c (l.take M) _ HFB.out HS0.out HQB.out HA0.out (sl_take2 ((HSS.out.below (hH'.2)).more (hH'.2).size) HMF.out.2.2.2.2.1) (Nat.le_trans HMF.out.2.2.2.2.1 HNC.out) (Nat.le_trans HMF.out.2.2.2.2.1 HN.out) (HTO.out.to (hH'.2)) (HX.out.keep (hH'.2))).mono ?_
     rintro e a31 ⟨A5,c5,rfl,hO8,hq⟩
     rw [HP9.out]at hO8⊢
     rw [HK0.out,HO0.out]
     have hsz8:=hq.size
     obtain⟨gq,hgq⟩:=Le (a31.heap.size-1)
     rw [hb0]at hO8 hsz8
     have hwa31:Ob a31 b0 gq (.slice A5 M c5) M (PL9):=by rw [←hgq];exact Ob.new hO8 hsz8 (by omega)
     clear hO8 hgq hsz8
     go_wp2_with fail
     have hxa31:=hxa30.t hq
     have hya31:=hya30.t hq
     refine hK.out _ _ ⟨hH'.1.t hq,Tq hH'.2 hq⟩ ?_
     clear hK K hH' hq hb0 hxa30 hya30
     intro hH'
     try simp only [Act.put,nrm]
     refine tw 6 ?va32 rfl ?hya32 ?resta32
     case hya32=>
      intro W hSw
      go_simp
      try with_reducible rfl
     simp only [Act.put,nrm]
     refine tw 7 ?va33 rfl ?hya33 ?resta33
     case hya33=>
      intro W hSw
      go_simp
      try with_reducible rfl
     simp only [Act.put,nrm]
     refine tw 8 ?va34 rfl ?hya34 ?resta34
     case hya34=>
      intro W hSw
      go_simp
      try with_reducible rfl
     simp only [Act.put,nrm]
     refine tw 9 ?va35 rfl ?hya35 ?resta35
     case hya35=>
      intro W hSw
      go_simp
      try with_reducible rfl
     simp only [Act.put,nrm]
     refine tw 12 ?va36 rfl ?hya36 ?resta36
     case hya36=>
      intro W hSw
      go_simp
      try with_reducible rfl
     simp only [Act.put,nrm]
     refine rd 13 rfl (fun K hK=> ?_)
     rw [if_pos (by rfl)]
     refine wp_store_mid _ _ _ rfl gx 0 (arL 16 (k)).toArray rfl rfl hxa31.there (size16b _) (all_oneCell_toArray (arL_one 16 (k))) ?_
     have hxa37:=hxa31.whole (k)
     have hya37:=hya31.apart (b:=gx) (by omega) (arL 16 (k)) 0
     have hwa37:Ob (World.setCells a31 gx 0 (arL 16 (k))) b0 gq (.slice A5 M c5) (M) (PL9):=by first|exact hwa31.old (by omega) (arL 16 (k)) 0|exact hwa31.apart (by omega) (arL 16 (k)) 0
     dsimp only [List.toList_toArray]
     refine hK.out _ _ ⟨(hH'.1).apart (b:=gx) (by omega) (arL 16 (k)) 0,(hH'.2).trans (Below.setCells (Below.refl w.heap.size _) (b:=gx) (by omega) (arL 16 (k)) 0)⟩ ?_
     clear hK K hH' hxa31 hya31 hwa31
     intro hH'
     generalize World.setCells a31 gx 0 (arL 16 (k))=a37 at*
     try simp only [Act.put]
     refine rd 14 rfl (fun K hK=> ?_)
     rw [if_pos (by rfl)]
     refine wp_store_mid _ _ _ rfl gy 0 (arL 16 (o)).toArray rfl rfl hya37.there (size16b _) (all_oneCell_toArray (arL_one 16 (o))) ?_
     have hya38:=hya37.whole (o)
     have hxa38:=hxa37.apart (b:=gy) (by omega) (arL 16 (o)) 0
     have hwa38:Ob (World.setCells a37 gy 0 (arL 16 (o))) b0 gq (.slice A5 M c5) (M) (PL9):=by first|exact hwa37.old (by omega) (arL 16 (o)) 0|exact hwa37.apart (by omega) (arL 16 (o)) 0
     dsimp only [List.toList_toArray]
     refine hK.out _ _ ⟨(hH'.1).apart (b:=gy) (by omega) (arL 16 (o)) 0,(hH'.2).trans (Below.setCells (Below.refl w.heap.size _) (b:=gy) (by omega) (arL 16 (o)) 0)⟩ ?_
     clear hK K hH' hxa37 hya37 hwa37
     intro hH'
     generalize World.setCells a37 gy 0 (arL 16 (o))=a38 at*
     try simp only [Act.put]
     refine wpAnyH_done (by kernel_rfl) ?_ _
     refine NoPanic.normal ?_
     exact⟨rfl,gx,gy,A5,c5,rfl,⟨_,Sy.new (Sl.of_own hwa38.2.2.2) (Nat.zero_lt_of_lt hwa38.1)⟩,own_capS hwa38.2.2.2,hxa38,hya38,hH'.2,fun a2 h9=>by subst h9;exact Nat.le_trans (Nat.le_of_lt hl0b) (own_block hwa38.2.2.2 rfl)⟩
   ·obtain⟨gy,hggy⟩:=Le (ad.heap.size)
    have hl0gy:w.heap.size<gy:=by rw [←hggy];exact(hH'.1).lt (by omega)
    have hq:=Ba ad (.cells (arL 16 fun _=>0).toArray 22)
    have hya39:=Ar.new ad 16 (fun _=>0) 22
    rw [hggy]at hya39
    go_simp
    obtain⟨a39,hwa390⟩:=Lv (ad.alloc (.cells (arL 16 fun _=>0).toArray 22))
    have hya39:Ar a39 gy 16 (fun _=>0):=by rw [hwa390];exact hya39
    try rw [hggy]
    rw [←hwa390]
    refine hK.out _ _ (by rw [hwa390];exact⟨hH'.1.t hq,Tq hH'.2 hq⟩) ?_
    clear hK K hH' hq hwa390 hggy
    intro hH'
    try simp only [Act.put,nrm]
    refine rd2 5 10 rfl rfl (fun K hK=> ?_) (fun K hK=> ?_)
    ·go_simp
     obtain⟨b0,hb0⟩:=Le (a39.heap.size)
     have hl0b:w.heap.size<b0:=by rw [←hb0];exact(hH'.1).lt (by omega)
     have hlby:gy<b0:=by rw [←hb0];exact hya39.lt (by omega)
     refine(odec p f s q a A M c (l.take M) _ HFB.out HS0.out HQB.out HA0.out (sl_take2 ((HSS.out.below (hH'.2)).more (hH'.2).size) HMF.out.2.2.2.2.1) (Nat.le_trans HMF.out.2.2.2.2.1 HNC.out) (Nat.le_trans HMF.out.2.2.2.2.1 HN.out) (HTO.out.to (hH'.2)) (HX.out.keep (hH'.2))).mono ?_
     rintro e a40 ⟨A5,c5,rfl,hO8,hq⟩
     rw [HP9.out]at hO8⊢
     rw [HK0.out,HO0.out]
     have hsz8:=hq.size
     obtain⟨gq,hgq⟩:=Le (a40.heap.size-1)
     rw [hb0]at hO8 hsz8
     have hwa40:Ob a40 b0 gq (.slice A5 M c5) M (PL9):=by rw [←hgq];exact Ob.new hO8 hsz8 (by omega)
     clear hO8 hgq hsz8
     go_wp2_with fail
     have hya40:=hya39.t hq
     refine hK.out _ _ ⟨hH'.1.t hq,Tq hH'.2 hq⟩ ?_
     clear hK K hH' hq hb0 hya39
     intro hH'
     try simp only [Act.put,nrm]
     refine tw 6 ?va41 rfl ?hya41 ?resta41
     case hya41=>
      intro W hSw
      go_simp
      try with_reducible rfl
     simp only [Act.put,nrm]
     refine tw 7 ?va42 rfl ?hya42 ?resta42
     case hya42=>
      intro W hSw
      go_simp
      try with_reducible rfl
     simp only [Act.put,nrm]
     refine tw 8 ?va43 rfl ?hya43 ?resta43
     case hya43=>
      intro W hSw
      go_simp
      try with_reducible rfl
     simp only [Act.put,nrm]
     refine tw 9 ?va44 rfl ?hya44 ?resta44
     case hya44=>
      intro W hSw
      go_simp
      try with_reducible rfl
     simp only [Act.put,nrm]
     refine rd 10 rfl (fun K hK=> ?_)
     obtain⟨gx,hggx⟩:=Le (a40.heap.size)
     have hl0gx:w.heap.size<gx:=by rw [←hggx];exact(hH'.1).lt (by omega)
     have hlgygx:gy<gx:=by rw [←hggx];exact hya40.lt (by omega)
     have hlgqgx:gq<gx:=by rw [←hggx];exact hwa40.lt
     have hq:=Ba a40 (.cells (arL 16 fun _=>0).toArray 22)
     have hxa45:=Ar.new a40 16 (fun _=>0) 22
     rw [hggx]at hxa45
     have hya45:=hya40.t hq
     have hwa45:=hwa40.to hq
     go_simp
     obtain⟨a45,hwa450⟩:=Lv (a40.alloc (.cells (arL 16 fun _=>0).toArray 22))
     have hxa45:Ar a45 gx 16 (fun _=>0):=by rw [hwa450];exact hxa45
     have hya45:Ar a45 gy 16 (fun _=>0):=by rw [hwa450];exact hya45
     have hwa45:Ob a45 b0 gq (.slice A5 M c5) (M) (PL9):=by rw [hwa450];exact hwa45
     try rw [hggx]
     rw [←hwa450]
     refine hK.out _ _ (by rw [hwa450];exact⟨hH'.1.t hq,Tq hH'.2 hq⟩) ?_
     clear hK K hH' hq hwa450 hggx hya40 hwa40
     intro hH'
     try simp only [Act.put,nrm]
     refine tw 12 ?va46 rfl ?hya46 ?resta46
     case hya46=>
      intro W hSw
      go_simp
      try with_reducible rfl
     simp only [Act.put,nrm]
     refine rd 13 rfl (fun K hK=> ?_)
     rw [if_pos (by rfl)]
     refine wp_store_mid _ _ _ rfl gx 0 (arL 16 (k)).toArray rfl rfl hxa45.there (size16b _) (all_oneCell_toArray (arL_one 16 (k))) ?_
     have hxa47:=hxa45.whole (k)
     have hya47:=hya45.apart (b:=gx) (by omega) (arL 16 (k)) 0
     have hwa47:Ob (World.setCells a45 gx 0 (arL 16 (k))) b0 gq (.slice A5 M c5) (M) (PL9):=by first|exact hwa45.old (by omega) (arL 16 (k)) 0|exact hwa45.apart (by omega) (arL 16 (k)) 0
     dsimp only [List.toList_toArray]
     refine hK.out _ _ ⟨(hH'.1).apart (b:=gx) (by omega) (arL 16 (k)) 0,(hH'.2).trans (Below.setCells (Below.refl w.heap.size _) (b:=gx) (by omega) (arL 16 (k)) 0)⟩ ?_
     clear hK K hH' hya45 hwa45 hxa45
     intro hH'
     generalize World.setCells a45 gx 0 (arL 16 (k))=a47 at*
     try simp only [Act.put]
     refine rd 14 rfl (fun K hK=> ?_)
     rw [if_pos (by rfl)]
     refine wp_store_mid _ _ _ rfl gy 0 (arL 16 (o)).toArray rfl rfl hya47.there (size16b _) (all_oneCell_toArray (arL_one 16 (o))) ?_
     have hya48:=hya47.whole (o)
     have hwa48:Ob (World.setCells a47 gy 0 (arL 16 (o))) b0 gq (.slice A5 M c5) (M) (PL9):=by first|exact hwa47.old (by omega) (arL 16 (o)) 0|exact hwa47.apart (by omega) (arL 16 (o)) 0
     have hxa48:=hxa47.apart (b:=gy) (by omega) (arL 16 (o)) 0
     dsimp only [List.toList_toArray]
     refine hK.out _ _ ⟨(hH'.1).apart (b:=gy) (by omega) (arL 16 (o)) 0,(hH'.2).trans (Below.setCells (Below.refl w.heap.size _) (b:=gy) (by omega) (arL 16 (o)) 0)⟩ ?_
     clear hK K hH' hya47 hwa47 hxa47
     intro hH'
     generalize World.setCells a47 gy 0 (arL 16 (o))=a48 at*
     try simp only [Act.put]
     refine wpAnyH_done (by kernel_rfl) ?_ _
     refine NoPanic.normal ?_
     exact⟨rfl,gx,gy,A5,c5,rfl,⟨_,Sy.new (Sl.of_own hwa48.2.2.2) (Nat.zero_lt_of_lt hwa48.1)⟩,own_capS hwa48.2.2.2,hxa48,hya48,hH'.2,fun a2 h9=>by subst h9;exact Nat.le_trans (Nat.le_of_lt hl0b) (own_block hwa48.2.2.2 rfl)⟩
    ·obtain⟨gx,hggx⟩:=Le (a39.heap.size)
     have hl0gx:w.heap.size<gx:=by rw [←hggx];exact(hH'.1).lt (by omega)
     have hlgygx:gy<gx:=by rw [←hggx];exact hya39.lt (by omega)
     have hq:=Ba a39 (.cells (arL 16 fun _=>0).toArray 22)
     have hxa49:=Ar.new a39 16 (fun _=>0) 22
     rw [hggx]at hxa49
     have hya49:=hya39.t hq
     go_simp
     obtain⟨a49,hwa490⟩:=Lv (a39.alloc (.cells (arL 16 fun _=>0).toArray 22))
     have hxa49:Ar a49 gx 16 (fun _=>0):=by rw [hwa490];exact hxa49
     have hya49:Ar a49 gy 16 (fun _=>0):=by rw [hwa490];exact hya49
     try rw [hggx]
     rw [←hwa490]
     refine hK.out _ _ (by rw [hwa490];exact⟨hH'.1.t hq,Tq hH'.2 hq⟩) ?_
     clear hK K hH' hq hwa490 hggx hya39
     intro hH'
     try simp only [Act.put,nrm]
     refine rd 5 rfl (fun K hK=> ?_)
     go_simp
     obtain⟨b0,hb0⟩:=Le (a49.heap.size)
     have hl0b:w.heap.size<b0:=by rw [←hb0];exact(hH'.1).lt (by omega)
     have hlby:gy<b0:=by rw [←hb0];exact hya49.lt (by omega)
     have hlbx:gx<b0:=by rw [←hb0];exact hxa49.lt (by omega)
     refine(odec p f s q a A M c (l.take M) _ HFB.out HS0.out HQB.out HA0.out (sl_take2 ((HSS.out.below (hH'.2)).more (hH'.2).size) HMF.out.2.2.2.2.1) (Nat.le_trans HMF.out.2.2.2.2.1 HNC.out) (Nat.le_trans HMF.out.2.2.2.2.1 HN.out) (HTO.out.to (hH'.2)) (HX.out.keep (hH'.2))).mono ?_
     rintro e a50 ⟨A5,c5,rfl,hO8,hq⟩
     rw [HP9.out]at hO8⊢
     rw [HK0.out,HO0.out]
     have hsz8:=hq.size
     obtain⟨gq,hgq⟩:=Le (a50.heap.size-1)
     rw [hb0]at hO8 hsz8
     have hwa50:Ob a50 b0 gq (.slice A5 M c5) M (PL9):=by rw [←hgq];exact Ob.new hO8 hsz8 (by omega)
     clear hO8 hgq hsz8
     go_wp2_with fail
     have hya50:=hya49.t hq
     have hxa50:=hxa49.t hq
     refine hK.out _ _ ⟨hH'.1.t hq,Tq hH'.2 hq⟩ ?_
     clear hK K hH' hq hb0 hya49 hxa49
     intro hH'
     try simp only [Act.put,nrm]
     refine tw 6 ?va51 rfl ?hya51 ?resta51
     case hya51=>
      intro W hSw
      go_simp
      try with_reducible rfl
     simp only [Act.put,nrm]
     refine tw 7 ?va52 rfl ?hya52 ?resta52
     case hya52=>
      intro W hSw
      go_simp
      try with_reducible rfl
     simp only [Act.put,nrm]
     refine tw 8 ?va53 rfl ?hya53 ?resta53
     case hya53=>
      intro W hSw
      go_simp
      try with_reducible rfl
     simp only [Act.put,nrm]
     refine tw 9 ?va54 rfl ?hya54 ?resta54
     case hya54=>
      intro W hSw
      go_simp
      try with_reducible rfl
     simp only [Act.put,nrm]
     refine tw 12 ?va55 rfl ?hya55 ?resta55
     case hya55=>
      intro W hSw
      go_simp
      try with_reducible rfl
     simp only [Act.put,nrm]
     refine rd 13 rfl (fun K hK=> ?_)
     rw [if_pos (by rfl)]
     refine wp_store_mid _ _ _ rfl gx 0 (arL 16 (k)).toArray rfl rfl hxa50.there (size16b _) (all_oneCell_toArray (arL_one 16 (k))) ?_
     have hxa56:=hxa50.whole (k)
     have hya56:=hya50.apart (b:=gx) (by omega) (arL 16 (k)) 0
     have hwa56:Ob (World.setCells a50 gx 0 (arL 16 (k))) b0 gq (.slice A5 M c5) (M) (PL9):=by first|exact hwa50.old (by omega) (arL 16 (k)) 0|exact hwa50.apart (by omega) (arL 16 (k)) 0
     dsimp only [List.toList_toArray]
     refine hK.out _ _ ⟨(hH'.1).apart (b:=gx) (by omega) (arL 16 (k)) 0,(hH'.2).trans (Below.setCells (Below.refl w.heap.size _) (b:=gx) (by omega) (arL 16 (k)) 0)⟩ ?_
     clear hK K hH' hya50 hxa50 hwa50
     intro hH'
     generalize World.setCells a50 gx 0 (arL 16 (k))=a56 at*
     try simp only [Act.put]
     refine rd 14 rfl (fun K hK=> ?_)
     rw [if_pos (by rfl)]
     refine wp_store_mid _ _ _ rfl gy 0 (arL 16 (o)).toArray rfl rfl hya56.there (size16b _) (all_oneCell_toArray (arL_one 16 (o))) ?_
     have hya57:=hya56.whole (o)
     have hxa57:=hxa56.apart (b:=gy) (by omega) (arL 16 (o)) 0
     have hwa57:Ob (World.setCells a56 gy 0 (arL 16 (o))) b0 gq (.slice A5 M c5) (M) (PL9):=by first|exact hwa56.old (by omega) (arL 16 (o)) 0|exact hwa56.apart (by omega) (arL 16 (o)) 0
     dsimp only [List.toList_toArray]
     refine hK.out _ _ ⟨(hH'.1).apart (b:=gy) (by omega) (arL 16 (o)) 0,(hH'.2).trans (Below.setCells (Below.refl w.heap.size _) (b:=gy) (by omega) (arL 16 (o)) 0)⟩ ?_
     clear hK K hH' hya56 hxa56 hwa56
     intro hH'
     generalize World.setCells a56 gy 0 (arL 16 (o))=a57 at*
     try simp only [Act.put]
     refine wpAnyH_done (by kernel_rfl) ?_ _
     refine NoPanic.normal ?_
     exact⟨rfl,gx,gy,A5,c5,rfl,⟨_,Sy.new (Sl.of_own hwa57.2.2.2) (Nat.zero_lt_of_lt hwa57.1)⟩,own_capS hwa57.2.2.2,hxa57,hya57,hH'.2,fun a2 h9=>by subst h9;exact Nat.le_trans (Nat.le_of_lt hl0b) (own_block hwa57.2.2.2 rfl)⟩
  rintro gx gy A5 c5 z5 ⟨⟨gp,hpz5⟩,hcc,hxz5,hyz5,hBz5,hfr⟩
  clear hQx1 hBx1
  have HCC:=Lib.hid hcc
  have HFR:=Lib.hid hfr
  clear hcc hfr
  go_wp2_with (first|(refine wpList_load_ar rfl _ _ rfl _ _ _ rfl hxz5 Tryz.arr16b (size16b _) ?_)|(refine wpList_load_ar rfl _ _ rfl _ _ _ rfl hyz5 Tryz.arr16b (size16b _) ?_))
  refine(stag p f s k o D m cd d _ HFB.out HS0.out hkb.out hob.out ((HDD.out.below hBz5).more hBz5.size) HMC.out HM.out (HTO.out.1.to hBz5) (HX.out.keep hBz5)).mono ?_
  rintro e x2 ⟨rfl,hq⟩
  have hpx2:=hpz5.to hq
  have hxx2:=hxz5.t hq
  have hyx2:=hyz5.t hq
  have hBx2:=Tq hBz5 hq
  clear hq hpz5 hxz5 hyz5 hBz5
  obtain⟨tg,htg⟩: ∃u,tgF f s k o d=u:=⟨_,rfl⟩
  have HTG:=Lib.hid (show otF f s a d l M=tg by unfold otF;rw [HP9.out,HK0.out,HO0.out];exact htg)
  have HTB:=Lib.hid (show B16 tg by rw [←htg];exact tgF_lt HFB.out HSL.out hkb.out hob.out d)
  rw [htg]
  clear htg
  obtain⟨gt,hgt⟩:=Le (x2.heap.size)
  have hlgpgt:gp<gt:=by rw [←hgt];exact hpx2.lt
  have hlgxgt:gx<gt:=by rw [←hgt];exact hxx2.lt (by omega)
  have hlgygt:gy<gt:=by rw [←hgt];exact hyx2.lt (by omega)
  have hlwgt:w.heap.size≤gt:=by rw [←hgt];exact hBx2.size
  have hq:=Ba x2 (.cells (arL 16 fun _=>0).toArray 22)
  have hpx3a:=hpx2.to hq
  have hxx3a:=hxx2.t hq
  have hyx3a:=hyx2.t hq
  have htx3a:=Ar.new x2 16 (fun _=>0) 22
  have hBx3a:=hBx2.alloc hBx2.size (.cells (arL 16 fun _=>0).toArray 22)
  rw [hgt]at htx3a
  clear hq hpx2 hxx2 hyx2 hBx2
  go_upto_region 7 with (first|(refine wpList_store_ar rfl _ _ _ rfl _ _ _ (tg) rfl rfl htx3a (size16b _) ?_;intro x3 htx3 belx3 sizx3 keex3)|fail)
  have hpx3:=(hpx3a).keep hlgpgt belx3
  have hxx3:=(hxx3a).keep hlgxgt belx3
  have hyx3:=(hyx3a).keep hlgygt belx3
  have hBx3:=hBx3a.trans (belx3.mono hlwgt)
  clear hpx3a hxx3a hyx3a htx3a hBx3a belx3 sizx3 keex3 hgt
  try dsimp only [Act.put]
  by_cases hE:liB 16 tg=l.drop M
  ·have hd:decide (liB 16 tg=l.drop M)=true:=by simp [hE]
   have HT:=Lib.hid (show liB 16 (otF f s a d l M)=l.drop M by rw [HTG.out];exact hE)
   have HC1:=Lib.hid (opC_ok HLEN.out HM0.out H16.out HT.out)
   have HP1:=Lib.hid (HPL.out.symm.trans ((opL_ok HLEN.out HM0.out HC1.out).trans HP9.out))
   have HC2:=Lib.hid (HC.out.symm.trans HC1.out)
   have HDEC:=Lib.hid hd
   clear hd hE
   refine wp_region_noPanic ?_
   refine wp_region_held_drew (S:=fun W=>Sy W gp A5 (M) (PL9)∧Ar W gt 16 (tg)∧Below w.heap.size w W) (by kernel_rfl) ⟨hpx3.drew,htx3.drew,hBx3.drew⟩ (fun hH'=> ?_)
   clear hpx3 htx3 hxx3 hyx3 hBx3
   generalize World.drew x3=bd at*
   refine tw 0 ?vb1 rfl ?hyb1 ?restb1
   case hyb1=>
    intro W hSw
    have hsla:=slice16all2
    go_simp
    try with_reducible rfl
   simp only [Act.put,nrm]
   refine tw 1 ?vb2 rfl ?hyb2 ?restb2
   case hyb2=>
    intro W hSw
    go_simp
    try with_reducible rfl
   simp only [Act.put,nrm]
   refine tw 2 ?vb3 rfl ?hyb3 ?restb3
   case hyb3=>
    intro W hSw
    go_simp
    try with_reducible rfl
   simp only [Act.put,nrm]
   refine tw 3 ?vb4 rfl ?hyb4 ?restb4
   case hyb4=>
    intro W hSw
    have hsl:=HSLF.out W
    go_simp
    try with_reducible rfl
   simp only [Act.put,nrm]
   refine rd 4 rfl (fun K hK=> ?_)
   go_simp
   refine(equal16 (some ⟨gt,0,none⟩) A9 16 16 16 (c-M) (liB 16 tg) (l.drop M) _ (sl_arr (hH'.2.1) HTB.out) (HSLG.out _ _ _ ((HSS.out.below (hH'.2.2)).more (hH'.2.2).size)) (by omega) (by omega)).mono ?_
   rintro e b5 ⟨rfl,hq⟩
   rw [HDEC.out]
   go_wp2_with fail
   refine hK.out _ _ ⟨hH'.1.to hq,hH'.2.1.t hq,Tq hH'.2.2 hq⟩ ?_
   clear hK K hH' hq
   intro hH'
   try simp only [Act.put,nrm]
   refine tw 5 ?vb6 rfl ?hyb6 ?restb6
   case hyb6=>
    intro W hSw
    go_simp
    try with_reducible rfl
   simp only [Act.put,nrm]
   refine wpAnyH_done (by kernel_rfl) ?_ _
   have hpy9:=hH'.1
   have hty9:=hH'.2.1
   have hBy9:=hH'.2.2
   clear hH'
   refine NoPanic.normal ?_
   try dsimp only [Act.put]
   go_wp2_with fail
   go_ret2
   exact⟨A5,c5,by rw [HC2.out,HP1.out,HL9.out];rfl,by rw [HP1.out,HL9.out];exact hpy9.sl,by rw [HP1.out,HL9.out];exact HCC.out,hBy9,HFR.out⟩
  ·have hd:decide (liB 16 tg=l.drop M)=false:=by simp [hE]
   have HT:=Lib.hid (show liB 16 (otF f s a d l M)≠l.drop M by rw [HTG.out];exact hE)
   have HC1:=Lib.hid (opC_no HLEN.out HM0.out H16.out HT.out)
   have HP1:=Lib.hid (HPL.out.symm.trans (opL_no (by rw [HC1.out];decide)))
   have HC2:=Lib.hid (HC.out.symm.trans HC1.out)
   have HDEC:=Lib.hid hd
   clear hd hE
   refine wp_region_noPanic ?_
   refine wp_region_held_drew (S:=fun W=>Sy W gp A5 (M) (PL9)∧Ar W gt 16 (tg)∧Below w.heap.size w W) (by kernel_rfl) ⟨hpx3.drew,htx3.drew,hBx3.drew⟩ (fun hH'=> ?_)
   clear hpx3 htx3 hxx3 hyx3 hBx3
   generalize World.drew x3=cd at*
   refine tw 0 ?vc1 rfl ?hyc1 ?restc1
   case hyc1=>
    intro W hSw
    have hsla:=slice16all2
    go_simp
    try with_reducible rfl
   simp only [Act.put,nrm]
   refine tw 1 ?vc2 rfl ?hyc2 ?restc2
   case hyc2=>
    intro W hSw
    go_simp
    try with_reducible rfl
   simp only [Act.put,nrm]
   refine tw 2 ?vc3 rfl ?hyc3 ?restc3
   case hyc3=>
    intro W hSw
    go_simp
    try with_reducible rfl
   simp only [Act.put,nrm]
   refine tw 3 ?vc4 rfl ?hyc4 ?restc4
   case hyc4=>
    intro W hSw
    have hsl:=HSLF.out W
    go_simp
    try with_reducible rfl
   simp only [Act.put,nrm]
   refine rd 4 rfl (fun K hK=> ?_)
   go_simp
   refine(equal16 (some ⟨gt,0,none⟩) A9 16 16 16 (c-M) (liB 16 tg) (l.drop M) _ (sl_arr (hH'.2.1) HTB.out) (HSLG.out _ _ _ ((HSS.out.below (hH'.2.2)).more (hH'.2.2).size)) (by omega) (by omega)).mono ?_
   rintro e c5 ⟨rfl,hq⟩
   rw [HDEC.out]
   go_wp2_with fail
   refine hK.out _ _ ⟨hH'.1.to hq,hH'.2.1.t hq,Tq hH'.2.2 hq⟩ ?_
   clear hK K hH' hq
   intro hH'
   try simp only [Act.put,nrm]
   refine tw 5 ?vc6 rfl ?hyc6 ?restc6
   case hyc6=>
    intro W hSw
    go_simp
    try with_reducible rfl
   simp only [Act.put,nrm]
   refine wpAnyH_done (by kernel_rfl) ?_ _
   have hpy9:=hH'.1
   have hty9:=hH'.2.1
   have hBy9:=hH'.2.2
   clear hH'
   refine NoPanic.normal ?_
   try dsimp only [Act.put]
   go_wp2_with fail
   go_ret2
   exact⟨none,0,by rw [HC2.out,HP1.out];rfl,by rw [HP1.out];exact sl_nil _ _,by rw [HP1.out];exact Nat.le_refl _,hBy9,fun _ h9=>by cases h9⟩
set_option maxHeartbeats 1600000 in
theorem oopen (p:Option Addr) (f s q a:Nat→Nat) (D:Option Addr) (m cd:Nat) (d:List UInt8) (A:Option Addr) (n c:Nat) (l PL:List UInt8) (C:Nat) (w:World) (hf:B16 f) (hs:enF f zF=s) (hq0:B12 q) (ha:o0F (enF f (nbF q)) (q 11)=a) (hD:Sl w w.heap.size D m d) (hmc:m≤cd) (hm:m≤1000000) (hS:Sl w w.heap.size A n l) (hnc:n≤c) (hn:n≤1000000) (hC:opC f s a d l=C) (hPL:opL f s a d l=PL) (ht:TabO w p f) (hx:Boxes w):
  Calls Tryz.prog 32 #[.pointer p,.agg (arL 12 q).toArray,.slice D m cd,.slice A n c] w fun e w'=> ∃(A2:Option Addr) (c2:Nat),e= .returned (.tuple #[.slice A2 PL.length c2,errV C])∧Sl w' w'.heap.size A2 PL.length PL∧PL.length≤c2∧Below w.heap.size w w':=by
 refine(oopenF p f s q a D m cd d A n c l PL C w hf hs hq0 ha hD hmc hm hS hnc hn hC hPL ht hx).mono ?_
 rintro e w' ⟨A5,c5,h1,h2,h3,h4,_⟩
 exact⟨A5,c5,h1,h2,h3,h4⟩
theorem nilEq0 (t:Nat) (v:Value) (w:World):(binOp .eql 35 (.iface t v) .nilIface).run Tryz.prog w= .ok (.bool false) w:=by
 have h: ∀d:Nat,(Op.equalIn (d+1) 35 (.iface t v) .nilIface).run Tryz.prog w= .ok false w:=fun d=>by simp [Op.equalIn,run_underlying Tryz.underlying35]
 simp only [binOp]
 simp [Op.equal,Op.maxDepth,h 9999]
end Go.Proofs.YtiacbphnclgikaaGreatDoor
