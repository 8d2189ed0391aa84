/-
 Contracts of the reference package of layer 6, by walks through their texts, one after the other; what was there stays as it was.
-/
import Derived.Test.YtiacbphnclgikaaGreatDoorSqz
import Derived.Test.YtiacbphnclgikaaGreatDoorFre
import Derived.Test.YtiacbphnclgikaaGreatDoorGsb
import Derived.BigRegion
import Derived.Deep.RegionHeld3
import Derived.Test.YtiacbphnclgikaaGreatDoorGfi
import Derived.Test.YtiacbphnclgikaaGreatDoorGke
import Derived.Deep.RegionWith
namespace Go.Proofs.YtiacbphnclgikaaGreatDoor
section
open Go.RowKit
set_option linter.unusedVariables false
set_option maxRecDepth 100000
theorem Tryz.arr16b:Tryz.prog.underlying 22=some (.array 16 5):=by kernel_rfl
theorem Tryz.zero16b:(Tryz.prog.info? 22).map (fun i=>(i.zero,i.size))=some (some (.agg (Array.replicate 16 (.int .u8 0))),16):=by kernel_rfl
theorem size16b (f:Nat→Nat):(Tryz.prog.info? 22).map (·.size)=some (arL 16 f).length:=by rw [arL_len];exact(zero_of_info Tryz.zero16b).2
theorem zero16b (w:World):(zeroValue 22).run Tryz.prog w= .ok (.agg (arL 16 fun _=>0).toArray) w:=by
 rw [arL_zero];exact(zero_of_info Tryz.zero16b).1 w
theorem Tryz.arrG:Tryz.prog.underlying 162=some (.array 4 112):=by kernel_rfl
theorem Tryz.zeroG:(Tryz.prog.info? 162).map (fun i=>(i.zero,i.size))=some (some (.agg (Array.replicate 16 (.int .u8 0))),16):=by kernel_rfl
theorem sizeG (f:Nat→Nat):(Tryz.prog.info? 162).map (·.size)=some (arL 16 f).length:=by rw [arL_len];exact(zero_of_info Tryz.zeroG).2
theorem zeroG (w:World):(zeroValue 162).run Tryz.prog w= .ok (.agg (arL 16 fun _=>0).toArray) w:=by
 rw [arL_zero];exact(zero_of_info Tryz.zeroG).1 w
theorem tr_step (f:Nat→Nat) (n m a b:Nat) (ha:a=n%4) (hb:b=n/4) (hn:n<16) (hm:m<16):
  (if m=a*4+b then f n else(if 4*(m%4)+m/4<n then tr f m else 0))=if 4*(m%4)+m/4<n+1 then tr f m else 0:=by
 by_cases h:m=a*4+b
 ·have e:4*(m%4)+m/4=n:=by omega
  rw [if_pos h,if_pos (by omega),tr,e]
 ·rw [if_neg h]
  have e:4*(m%4)+m/4≠n:=by omega
  by_cases h2:4*(m%4)+m/4<n
  ·rw [if_pos h2,if_pos (by omega)]
  ·rw [if_neg h2,if_neg (by omega)]
set_option maxHeartbeats 800000 in
theorem refOf (f:Nat→Nat) (w:World):
  Calls Tryz.prog 128 #[.agg (arL 16 f).toArray] w fun e w'=>e= .returned (.agg (arL 16 (tr f)).toArray)∧Below w.heap.size w w':=by
 have hz:=zeroG
 obtain⟨kA,hkA⟩:=Le ((arL 16 f).toArray)
 obtain⟨w1,hw1⟩:=Lv (w.alloc (.cells (arL 16 f).toArray 22))
 have hs1:=Zs1 hw1
 have hb1:=Bl hw1
 have hK1:Ar w1 w.heap.size 16 f:=by rw [hw1];exact Ar.new w 16 f _
 obtain⟨w2,hw2⟩:=Lv (w1.alloc (.cells (arL 16 fun _=>0).toArray 162))
 have hs2:=Zs2 hw2 hs1
 have hb2:=Bm hw2 hb1
 have hR2:Ar w2 (w.heap.size+1) 16 (fun _=>0):=by rw [hw2,←hs1];exact Ar.new w1 16 _ _
 have hK2:=ara hw2 hK1
 obtain⟨w3,hw3⟩:=Lv (w2.alloc (.cells (arL 16 fun _=>0).toArray 162))
 have hb3:=Bm hw3 hb2
 have hT3:Ar w3 (w.heap.size+2) 16 (fun _=>0):=by rw [hw3,←hs2];exact Ar.new w2 16 _ _
 have hR3:=ara hw3 hR2
 have hK3:=ara hw3 hK2
 rw [hkA]at hw1
 rw [hkA]
 clear hb1 hK1 hb2 hR2 hK2 hkA
 go_enter Tryz.func128,Tryz.ntmps128
 go_upto_region 2 with fail
 rw [←hw1,←hw2,←hw3]
 clear hw1 hw2 hw3 hs1 hs2
 obtain⟨gT,hgT⟩:=Le (w.heap.size+2)
 have hge:w.heap.size+2≤gT:=by omega
 have hgT2:w.heap.size+1+1=gT:=hgT
 rw [hgT]at hT3
 rw [hgT2]
 clear hgT hgT2
 go_wp2_with fail
 go_loopw [4] (fun i wr=> ∃n:Nat,n≤16∧i= .int .i64 n∧Ar wr w.heap.size 16 f∧Ar wr (w.heap.size+1) 16 (fun _=>0)∧Ar wr gT 16 (fun m=>if 4*(m%4)+m/4<n then tr f m else 0)∧Below w.heap.size w wr) (fun i _=>16-(intOf i).toNat)
 case atStart=>exact⟨0,Nat.zero_le _,rfl,hK3,hR3,hT3.ext (fun _ _=>by simp),hb3⟩
 case round=>
  clear hK3 hR3 hT3 hb3
  obtain⟨n,hn,rfl,hK,hR,hT,hB⟩:=hrel
  by_cases hlt:n<16
  ·obtain⟨a,ha⟩:=Lv (n%4)
   obtain⟨b,hb⟩:=Lv (n/4)
   have a1:((n:Int)).tmod 4=(a:Int):=by rw [Int.tmod_eq_emod_of_nonneg (by omega)];omega
   have a2:(n:Int)%4=(a:Int):=by omega
   have a3:IntKind.i64.wrap (a:Int)=(a:Int):=wraps_i64' _ (by omega) (by omega)
   have b1:((n:Int)).tdiv 4=(b:Int):=by rw [Int.tdiv_eq_ediv_of_nonneg (by omega)];omega
   have b2:(n:Int)/4=(b:Int):=by omega
   have b3:IntKind.i64.wrap (b:Int)=(b:Int):=wraps_i64' _ (by omega) (by omega)
   have i1:(a:Int)<4:=by omega
   have i2:(b:Int)<4:=by omega
   have i3:(n:Int)<16:=by omega
   obtain⟨c0,_⟩:=hK n hlt
   obtain⟨c1,f1⟩:=hT (a*4+b) (by omega)
   have hT2:=(hT.set (j:=a*4+b) (v:=f n) (by omega) rfl).ext (fun m hm=>tr_step f n m a b ha hb hlt hm)
   have hK2:=hK.far (p:=⟨gT,a*4+b,none⟩) (by simp;omega) (.int .u8 (f n:Nat))
   have hR2:=hR.far (p:=⟨gT,a*4+b,none⟩) (by simp;omega) (.int .u8 (f n:Nat))
   have hB2:=hB.setCell (p:=⟨gT,a*4+b,none⟩) (by simp;omega) (.int .u8 (f n:Nat))
   clear hT hK hR hB ha hb
   go_wp2_with fail
   refine wp_region_noPanic ?_
   go_big_region
   refine NoPanic.normal ?_
   go_wp2_with fail
   go_roundw
   case rel=>exact⟨n+1,by omega,by go_num,hK2.drew,hR2.drew,hT2.drew,hB2.drew⟩
   case measure=>simp [intOf];omega
  ·obtain rfl:n=16:=by omega
   have hT2:=hT.ext (f':=tr f) (fun j hj=>by rw [if_pos (by omega)])
   clear hT
   go_wp2_with (first
    |(refine wpList_load_ar rfl _ _ rfl _ _ _ rfl hT2 Tryz.arrG (sizeG _) ?_)
    |(refine wpList_store_ar rfl _ _ _ rfl _ _ _ (tr f) rfl rfl hR (sizeG _) ?_;intro w8 hA8 hb8 _ _))
   refine bodyPost_ret_ar rfl rfl hA8 Tryz.arrG (sizeG _) rfl ⟨rfl,?_⟩
   exact hB.trans (hb8.mono (by omega))
end
section
open Go.RowKit
set_option linter.unusedVariables false
set_option maxRecDepth 100000
set_option maxHeartbeats 800000 in
theorem refBlock (f:Nat→Nat) (w:World):
  Calls Tryz.prog 132 #[.agg (arL 16 f).toArray] w fun e w'=>e= .returned (.agg (arL 16 (tr f)).toArray)∧Below w.heap.size w w':=by
 have hz:=zero16b
 obtain⟨kA,hkA⟩:=Le ((arL 16 f).toArray)
 obtain⟨w1,hw1⟩:=Lv (w.alloc (.cells (arL 16 f).toArray 162))
 have hs1:=Zs1 hw1
 have hb1:=Bl hw1
 have hK1:Ar w1 w.heap.size 16 f:=by rw [hw1];exact Ar.new w 16 f _
 obtain⟨w2,hw2⟩:=Lv (w1.alloc (.cells (arL 16 fun _=>0).toArray 22))
 have hs2:=Zs2 hw2 hs1
 have hb2:=Bm hw2 hb1
 have hR2:Ar w2 (w.heap.size+1) 16 (fun _=>0):=by rw [hw2,←hs1];exact Ar.new w1 16 _ _
 have hK2:=ara hw2 hK1
 obtain⟨w3,hw3⟩:=Lv (w2.alloc (.cells (arL 16 fun _=>0).toArray 22))
 have hb3:=Bm hw3 hb2
 have hT3:Ar w3 (w.heap.size+2) 16 (fun _=>0):=by rw [hw3,←hs2];exact Ar.new w2 16 _ _
 have hR3:=ara hw3 hR2
 have hK3:=ara hw3 hK2
 rw [hkA]at hw1
 rw [hkA]
 clear hb1 hK1 hb2 hR2 hK2 hkA
 go_enter Tryz.func132,Tryz.ntmps132
 go_upto_region 2 with fail
 rw [←hw1,←hw2,←hw3]
 clear hw1 hw2 hw3 hs1 hs2
 obtain⟨gT,hgT⟩:=Le (w.heap.size+2)
 have hge:w.heap.size+2≤gT:=by omega
 have hgT2:w.heap.size+1+1=gT:=hgT
 rw [hgT]at hT3
 rw [hgT2]
 clear hgT hgT2
 go_wp2_with fail
 go_loopw [4] (fun i wr=> ∃n:Nat,n≤16∧i= .int .i64 n∧Ar wr w.heap.size 16 f∧Ar wr (w.heap.size+1) 16 (fun _=>0)∧Ar wr gT 16 (fun m=>if m<n then tr f m else 0)∧Below w.heap.size w wr) (fun i _=>16-(intOf i).toNat)
 case atStart=>exact⟨0,Nat.zero_le _,rfl,hK3,hR3,hT3.ext (fun _ _=>rfl),hb3⟩
 case round=>
  clear hK3 hR3 hT3 hb3
  obtain⟨n,hn,rfl,hK,hR,hT,hB⟩:=hrel
  by_cases hlt:n<16
  ·obtain⟨a,ha⟩:=Lv (n%4)
   obtain⟨b,hb⟩:=Lv (n/4)
   have a1:((n:Int)).tmod 4=(a:Int):=by rw [Int.tmod_eq_emod_of_nonneg (by omega)];omega
   have a2:(n:Int)%4=(a:Int):=by omega
   have a3:IntKind.i64.wrap (a:Int)=(a:Int):=wraps_i64' _ (by omega) (by omega)
   have b1:((n:Int)).tdiv 4=(b:Int):=by rw [Int.tdiv_eq_ediv_of_nonneg (by omega)];omega
   have b2:(n:Int)/4=(b:Int):=by omega
   have b3:IntKind.i64.wrap (b:Int)=(b:Int):=wraps_i64' _ (by omega) (by omega)
   have i1:(a:Int)<4:=by omega
   have i2:(b:Int)<4:=by omega
   have i3:(n:Int)<16:=by omega
   obtain⟨c0,_⟩:=hK (a*4+b) (by omega)
   have htr:f (a*4+b)=tr f n:=by rw [tr,ha,hb,Nat.mul_comm]
   rw [htr]at c0
   obtain⟨c1,f1⟩:=hT n hlt
   generalize hX:tr f n=X at*
   have hT2:=(hT.set (j:=n) (v:=X) (by omega) rfl).ext (f':=fun m=>if m<n+1 then tr f m else 0) (fun m hm=>by rw [←hX];exact low_step (tr f) n m)
   have hK2:=hK.far (p:=⟨gT,n,none⟩) (by simp;omega) (.int .u8 (X:Nat))
   have hR2:=hR.far (p:=⟨gT,n,none⟩) (by simp;omega) (.int .u8 (X:Nat))
   have hB2:=hB.setCell (p:=⟨gT,n,none⟩) (by simp;omega) (.int .u8 (X:Nat))
   clear hT hK hR hB ha hb htr hX
   go_wp2_with fail
   go_roundw
   case rel=>exact⟨n+1,by omega,by go_num,hK2,hR2,hT2,hB2⟩
   case measure=>simp [intOf];omega
  ·obtain rfl:n=16:=by omega
   have hT2:=hT.ext (f':=tr f) (fun j hj=>by rw [if_pos (by omega)])
   clear hT
   go_wp2_with (first
    |(refine wpList_load_ar rfl _ _ rfl _ _ _ rfl hT2 Tryz.arr16b (size16b _) ?_)
    |(refine wpList_store_ar rfl _ _ _ rfl _ _ _ (tr f) rfl rfl hR (size16b _) ?_;intro w8 hA8 hb8 _ _))
   refine bodyPost_ret_ar rfl rfl hA8 Tryz.arr16b (size16b _) rfl ⟨rfl,?_⟩
   exact hB.trans (hb8.mono (by omega))
end
section
open Go.RowKit
set_option linter.unusedVariables false
set_option maxRecDepth 100000
theorem mid_step (F f:Nat→Nat) (o m:Nat):(if m=o then F o else(if m<o then F m else f m))=if m<o+1 then F m else f m:=by
 by_cases h:m=o
 ·rw [if_pos h,if_pos (by omega),h]
 ·rw [if_neg h]
  by_cases h2:m<o
  ·rw [if_pos h2,if_pos (by omega)]
  ·rw [if_neg h2,if_neg (by omega)]
set_option maxHeartbeats 1600000 in
theorem refSub6 (f:Nat→Nat) (w:World) (hf:B16 f):
  Calls Tryz.prog 130 #[.agg (arL 16 f).toArray,.agg boxA] w fun e w'=>e= .returned (.agg (arL 16 (suF f)).toArray)∧Below w.heap.size w w':=by
 have hz:=zeroG
 obtain⟨kA,hkA⟩:=Le ((arL 16 f).toArray)
 obtain⟨w1,hw1⟩:=Lv (w.alloc (.cells (arL 16 f).toArray 162))
 have hs1:=Zs1 hw1
 have hb1:=Bl hw1
 have hG1:Ar w1 w.heap.size 16 f:=by rw [hw1];exact Ar.new w 16 f _
 obtain⟨w2,hw2⟩:=Lv (w1.alloc (.cells boxA 46))
 have hs2:=Zs2 hw2 hs1
 have hb2:=Bm hw2 hb1
 have hX2:Ar w2 (w.heap.size+1) 256 sb:=by rw [hw2,←hs1];exact Ar.new w1 256 sb _
 have hG2:=ara hw2 hG1
 obtain⟨w3,hw3⟩:=Lv (w2.alloc (.cells (arL 16 fun _=>0).toArray 162))
 have hb3:=Bm hw3 hb2
 have hR3:Ar w3 (w.heap.size+2) 16 (fun _=>0):=by rw [hw3,←hs2];exact Ar.new w2 16 _ _
 have hX3:=ara hw3 hX2
 have hG3:=ara hw3 hG2
 rw [hkA]at hw1
 rw [hkA]
 clear hb1 hG1 hb2 hX2 hG2 hkA
 go_enter Tryz.func130,Tryz.ntmps130
 go_upto_region 1 with fail
 rw [←hw1,←hw2,←hw3]
 clear hw1 hw2 hw3 hs1 hs2
 obtain⟨gR,hgR⟩:=Le (w.heap.size+2)
 have hge:w.heap.size+2≤gR:=by omega
 have hgR2:w.heap.size+1+1=gR:=hgR
 rw [hgR]at hR3
 rw [hgR2]
 clear hgR hgR2
 obtain⟨bA,hbA⟩:=Le (boxA)
 rw [hbA]
 clear hbA
 go_wp2_with fail
 go_loopw [5] (fun i wr=> ∃r:Nat,r≤4∧i= .int .i64 r∧Ar wr w.heap.size 16 (fun m=>if m<4*r then suF f m else f m)∧Ar wr (w.heap.size+1) 256 sb∧Ar wr gR 16 (fun _=>0)∧Below w.heap.size w wr) (fun i _=>4-(intOf i).toNat)
 case atStart=>exact⟨0,Nat.zero_le _,rfl,hG3.ext (fun _ _=>rfl),hX3,hR3,hb3⟩
 case round=>
  clear hG3 hX3 hR3 hb3
  obtain⟨r,hr,rfl,hG,hX,hR,hB⟩:=hrel
  by_cases hlt:r<4
  ·have i1:(r:Int)<4:=by omega
   have hG0:Ar wr w.heap.size 16 (fun m=>if m<4*r+0 then suF f m else f m):=hG
   clear hG
   go_wp2_with fail
   obtain⟨wo,rfl⟩:=Lv (wr)
   go_loopw [6] (fun i wr=> ∃c:Nat,c≤4∧i= .int .i64 c∧Ar wr w.heap.size 16 (fun m=>if m<4*r+c then suF f m else f m)∧Ar wr (w.heap.size+1) 256 sb∧Ar wr gR 16 (fun _=>0)∧Below w.heap.size w wr) (fun i _=>4-(intOf i).toNat)
   case atStart=>exact⟨0,Nat.zero_le _,rfl,hG0,hX,hR,hB⟩
   case round=>
    clear hG0 hX hR hB
    obtain⟨c,hc,rfl,hG,hX,hR,hB⟩:=hrel
    by_cases hlc:c<4
    ·obtain⟨o,ho⟩:=Lv (r*4+c)
     have i2:(c:Int)<4:=by omega
     have hfo:=hf o (by omega)
     obtain⟨c0,f0⟩:=hG o (by omega)
     dsimp only at c0
     rw [if_neg (by omega),ho]at c0
     rw [ho]at f0
     obtain⟨c1,_⟩:=hX (f (r*4+c)) (by rw [←ho];exact hfo)
     have i3:((f (r*4+c):Nat):Int)<256:=by rw [←ho];omega
     have e1:4*r+c=o:=by omega
     have hG2:=(hG.set (j:=r*4+c) (v:=sb (f (r*4+c))) (by omega) rfl).ext (f':=fun m=>if m<4*r+(c+1)then suF f m else f m) (fun m _=>by
      rw [show 4*r+(c+1)=o+1 by omega,e1,←ho];exact mid_step (suF f) f o m)
     have hX2:=hX.far (p:=⟨w.heap.size,r*4+c,none⟩) (by simp) (.int .u8 (sb (f (r*4+c)):Nat))
     have hR2:=hR.far (p:=⟨w.heap.size,r*4+c,none⟩) (by simp;omega) (.int .u8 (sb (f (r*4+c)):Nat))
     have hB2:=hB.setCell (p:=⟨w.heap.size,r*4+c,none⟩) (by simp) (.int .u8 (sb (f (r*4+c)):Nat))
     clear hG hX hR hB ho hfo e1
     generalize f (r*4+c)=x at*
     go_wp2_with fail
     refine wp_region_noPanic ?_
     go_big_region
     refine NoPanic.normal ?_
     go_wp2_with fail
     go_roundw
     case rel=>exact⟨c+1,by omega,by go_num,hG2.drew,hX2.drew,hR2.drew,hB2.drew⟩
     case measure=>simp [intOf];omega
    ·obtain rfl:c=4:=by omega
     go_wp2_with fail
     go_roundw
     case rel=>exact⟨r+1,by omega,by go_num,hG,hX,hR,hB⟩
     case measure=>simp [intOf];omega
  ·obtain rfl:r=4:=by omega
   have hG2:=hG.ext (f':=suF f) (fun j hj=>by rw [if_pos (by omega)])
   clear hG
   go_wp2_with (first
    |(refine wpList_load_ar rfl _ _ rfl _ _ _ rfl hG2 Tryz.arrG (sizeG _) ?_)
    |(refine wpList_store_ar rfl _ _ _ rfl _ _ _ (suF f) rfl rfl hR (sizeG _) ?_;intro w8 hA8 hb8 _ _))
   refine bodyPost_ret_ar rfl rfl hA8 Tryz.arrG (sizeG _) rfl ⟨rfl,?_⟩
   exact hB.trans (hb8.mono (by omega))
end
section
open Go.RowKit
set_option linter.unusedVariables false
set_option maxRecDepth 100000
set_option maxHeartbeats 1600000 in
theorem refAdd6 (f k:Nat→Nat) (w:World) (hf:B16 f) (hk:B16 k):
  Calls Tryz.prog 127 #[.agg (arL 16 f).toArray,.agg (arL 16 k).toArray] w fun e w'=>e= .returned (.agg (arL 16 (adF f (tr k))).toArray)∧Below w.heap.size w w':=by
 have hz:=zeroG
 obtain⟨kA,hkA⟩:=Le ((arL 16 f).toArray)
 obtain⟨kB,hkB⟩:=Le ((arL 16 k).toArray)
 obtain⟨w1,hw1⟩:=Lv (w.alloc (.cells (arL 16 f).toArray 162))
 have hs1:=Zs1 hw1
 have hb1:=Bl hw1
 have hG1:Ar w1 w.heap.size 16 f:=by rw [hw1];exact Ar.new w 16 f _
 obtain⟨w2,hw2⟩:=Lv (w1.alloc (.cells (arL 16 k).toArray 22))
 have hs2:=Zs2 hw2 hs1
 have hb2:=Bm hw2 hb1
 have hX2:Ar w2 (w.heap.size+1) 16 k:=by rw [hw2,←hs1];exact Ar.new w1 16 k _
 have hG2:=ara hw2 hG1
 obtain⟨w3,hw3⟩:=Lv (w2.alloc (.cells (arL 16 fun _=>0).toArray 162))
 have hb3:=Bm hw3 hb2
 have hR3:Ar w3 (w.heap.size+2) 16 (fun _=>0):=by rw [hw3,←hs2];exact Ar.new w2 16 _ _
 have hX3:=ara hw3 hX2
 have hG3:=ara hw3 hG2
 rw [hkA]at hw1
 rw [hkB]at hw2
 rw [hkA,hkB]
 clear hb1 hG1 hb2 hX2 hG2 hkA hkB
 go_enter Tryz.func127,Tryz.ntmps127
 go_upto_region 1 with fail
 rw [←hw1,←hw2,←hw3]
 clear hw1 hw2 hw3 hs1 hs2
 obtain⟨gR,hgR⟩:=Le (w.heap.size+2)
 have hge:w.heap.size+2≤gR:=by omega
 have hgR2:w.heap.size+1+1=gR:=hgR
 rw [hgR]at hR3
 rw [hgR2]
 clear hgR hgR2
 go_wp2_with (refine wpList_load_ar rfl _ _ rfl _ _ _ rfl hX3 Tryz.arr16b (size16b _) ?_)
 refine(refOf k _).mono ?_
 rintro e w4 ⟨rfl,k4⟩
 have hG4:=hG3.to (by omega) k4
 have hR4:=hR3.to (by omega) k4
 have hb4:=hb3.trans (k4.mono hb3.size)
 clear hG3 hR3 hX3 hb3 k4
 obtain⟨gT,hgT⟩:=Le (w4.heap.size)
 have hlT:gR<gT:=by rw [←hgT];exact hR4.lt (by omega)
 have hT5:Ar (w4.alloc (.cells (arL 16 fun _=>0).toArray 162)) gT 16 (fun _=>0):=by rw [←hgT];exact Ar.new w4 16 _ _
 have hG5:Ar (w4.alloc (.cells (arL 16 fun _=>0).toArray 162)) w.heap.size 16 f:=hG4.alloc (by omega) _
 have hR5:Ar (w4.alloc (.cells (arL 16 fun _=>0).toArray 162)) gR 16 (fun _=>0):=hR4.alloc (by omega) _
 have hb5:Below w.heap.size w (w4.alloc (.cells (arL 16 fun _=>0).toArray 162)):=hb4.alloc hb4.size _
 clear hG4 hR4 hb4
 go_upto_region 2 with (refine wpList_store_ar rfl _ _ _ rfl _ _ _ (tr k) rfl rfl hT5 (sizeG _) ?_;intro w6 hX6 hb6 hs6 hk6)
 have hG6:=hk6 _ _ _ (by omega) hG5
 have hR6:=hk6 _ _ _ (by omega) hR5
 have hb7:=hb5.trans (hb6.mono (by omega))
 clear hT5 hG5 hR5 hb5 hb6 hs6 hk6 hgT
 try dsimp only [Act.put]
 have hkt:B16 (tr k):=fun j hj=>hk _ (by omega)
 obtain⟨K,hK⟩: ∃K:Nat→Nat,K=tr k:=⟨_,rfl⟩
 rw [←hK]at hX6 hkt
 rw [←hK]
 have HK:=Lib.hid hK
 clear hk hK
 go_wp2_with fail
 go_loopw [6] (fun i wr=> ∃r:Nat,r≤4∧i= .int .i64 r∧Ar wr w.heap.size 16 (fun m=>if m<4*r then adF f K m else f m)∧Ar wr gT 16 K∧Ar wr gR 16 (fun _=>0)∧Below w.heap.size w wr) (fun i _=>4-(intOf i).toNat)
 case atStart=>exact⟨0,Nat.zero_le _,rfl,hG6.ext (fun _ _=>rfl),hX6,hR6,hb7⟩
 case round=>
  clear hG6 hX6 hR6 hb7
  obtain⟨r,hr,rfl,hG,hX,hR,hB⟩:=hrel
  by_cases hlt:r<4
  ·have i1:(r:Int)<4:=by omega
   have hG0:Ar wr w.heap.size 16 (fun m=>if m<4*r+0 then adF f K m else f m):=hG
   clear hG
   go_wp2_with fail
   obtain⟨wo,rfl⟩:=Lv (wr)
   go_loopw [7] (fun i wr=> ∃c:Nat,c≤4∧i= .int .i64 c∧Ar wr w.heap.size 16 (fun m=>if m<4*r+c then adF f K m else f m)∧Ar wr gT 16 K∧Ar wr gR 16 (fun _=>0)∧Below w.heap.size w wr) (fun i _=>4-(intOf i).toNat)
   case atStart=>exact⟨0,Nat.zero_le _,rfl,hG0,hX,hR,hB⟩
   case round=>
    clear hG0 hX hR hB
    obtain⟨c,hc,rfl,hG,hX,hR,hB⟩:=hrel
    by_cases hlc:c<4
    ·obtain⟨o,ho⟩:=Lv (r*4+c)
     have i2:(c:Int)<4:=by omega
     have hfo:=hf o (by omega)
     have hko:=hkt o (by omega)
     obtain⟨c0,f0⟩:=hG o (by omega)
     dsimp only at c0
     rw [if_neg (by omega),ho]at c0
     rw [ho]at f0
     obtain⟨c1,_⟩:=hX o (by omega)
     rw [ho]at c1
     have e1:4*r+c=o:=by omega
     have hxx:bits BinOp.xor IntKind.u8 ((f (r*4+c):Nat):Int) ((K (r*4+c):Nat):Int)=((adF f K (r*4+c):Nat):Int):=by rw [←ho];exact xor_n8 _ _ hfo hko
     have hG2:=(hG.set (j:=r*4+c) (v:=adF f K (r*4+c)) (by omega) rfl).ext (f':=fun m=>if m<4*r+(c+1)then adF f K m else f m) (fun m _=>by
      rw [show 4*r+(c+1)=o+1 by omega,e1,←ho];exact mid_step (adF f K) f o m)
     have hX2:=hX.far (p:=⟨w.heap.size,r*4+c,none⟩) (by simp;omega) (.int .u8 (adF f K (r*4+c):Nat))
     have hR2:=hR.far (p:=⟨w.heap.size,r*4+c,none⟩) (by simp;omega) (.int .u8 (adF f K (r*4+c):Nat))
     have hB2:=hB.setCell (p:=⟨w.heap.size,r*4+c,none⟩) (by simp) (.int .u8 (adF f K (r*4+c):Nat))
     clear hG hX hR hB ho hfo hko e1
     generalize adF f K (r*4+c)=z at*
     generalize f (r*4+c)=x at*
     generalize K (r*4+c)=y at*
     go_wp2_with fail
     refine wp_region_noPanic ?_
     go_big_region
     refine NoPanic.normal ?_
     go_wp2_with fail
     go_roundw
     case rel=>exact⟨c+1,by omega,by go_num,hG2.drew,hX2.drew,hR2.drew,hB2.drew⟩
     case measure=>simp [intOf];omega
    ·obtain rfl:c=4:=by omega
     go_wp2_with fail
     go_roundw
     case rel=>exact⟨r+1,by omega,by go_num,hG,hX,hR,hB⟩
     case measure=>simp [intOf];omega
  ·obtain rfl:r=4:=by omega
   have hG2:=hG.ext (f':=adF f K) (fun j hj=>by rw [if_pos (by omega)])
   clear hG
   go_wp2_with (first
    |(refine wpList_load_ar rfl _ _ rfl _ _ _ rfl hG2 Tryz.arrG (sizeG _) ?_)
    |(refine wpList_store_ar rfl _ _ _ rfl _ _ _ (adF f K) rfl rfl hR (sizeG _) ?_;intro w8 hA8 hb8 _ _))
   refine bodyPost_ret_ar rfl rfl hA8 Tryz.arrG (sizeG _) rfl ⟨by rw [HK.out],?_⟩
   exact hB.trans (hb8.mono (by omega))
end
section
open Go.RowKit
set_option linter.unusedVariables false
set_option maxRecDepth 100000
def shP (f:Nat→Nat) (r n m:Nat):Nat:=if m/4<r then f (m/4*4+(m%4+m/4)%4)else if m/4=r then f (r*4+(m%4+n)%4)else f m
theorem shP_next (f:Nat→Nat) (r m:Nat):shP f r r m=shP f (r+1) 0 m:=by
 unfold shP
 by_cases h1:m/4<r
 ·rw [if_pos h1,if_pos (by omega)]
 ·rw [if_neg h1]
  by_cases h2:m/4=r
  ·rw [if_pos h2,if_pos (by omega),h2]
  ·rw [if_neg h2,if_neg (by omega)]
   by_cases h3:m/4=r+1
   ·rw [if_pos h3];congr 1;omega
   ·rw [if_neg h3]
theorem shP_start (f:Nat→Nat) (m:Nat) (hm:m<16):f m=shP f 1 0 m:=by
 unfold shP
 by_cases h1:m/4<1
 ·rw [if_pos h1];congr 1;omega
 ·rw [if_neg h1]
  by_cases h2:m/4=1
  ·rw [if_pos h2];congr 1;omega
  ·rw [if_neg h2]
theorem shP_end (f:Nat→Nat) (m:Nat) (hm:m<16):shP f 4 0 m=tr (shF (tr f)) m:=by
 have H: ∀m,m<16→m/4*4+(m%4+m/4)%4=4*((4*(m%4)+m/4+4*((4*(m%4)+m/4)%4))%16%4)+(4*(m%4)+m/4+4*((4*(m%4)+m/4)%4))%16/4:=by decide
 unfold shP tr shF
 rw [if_pos (by omega),H m hm]
theorem shP_row (f:Nat→Nat) (r n k:Nat) (hk:k<4):shP f r n (r*4+k)=f (r*4+(k+n)%4):=by
 unfold shP
 rw [if_neg (by omega),if_pos (by omega)]
 congr 1;omega
theorem shP_step (f:Nat→Nat) (r n m:Nat):
  (if m=r*4+3 then f (r*4+n%4)else if m=r*4+2 then f (r*4+(3+n)%4)else if m=r*4+1 then f (r*4+(2+n)%4)else if m=r*4 then f (r*4+(1+n)%4)else shP f r n m)=shP f r (n+1) m:=by
 have h: ∀k,k<4→m=r*4+k→shP f r (n+1) m=f (r*4+(k+(n+1))%4):=fun k hk e=>by rw [e];exact shP_row f r (n+1) k hk
 by_cases h3:m=r*4+3
 ·rw [if_pos h3,h 3 (by omega) h3];congr 1;omega
 rw [if_neg h3]
 by_cases h2:m=r*4+2
 ·rw [if_pos h2,h 2 (by omega) h2];congr 1;omega
 rw [if_neg h2]
 by_cases h1:m=r*4+1
 ·rw [if_pos h1,h 1 (by omega) h1];congr 1;omega
 rw [if_neg h1]
 by_cases h0:m=r*4
 ·rw [if_pos h0,h 0 (by omega) h0];congr 1;omega
 rw [if_neg h0]
 unfold shP
 by_cases h4:m/4<r
 ·rw [if_pos h4,if_pos h4]
 ·rw [if_neg h4,if_neg h4,if_neg (by omega),if_neg (by omega)]
theorem Ar.set4c {w:World} {g n o v0 v1 v2 v3:Nat} {f:Nat→Nat} (h:Ar w g n f) (ho:o+3<n):
  Ar ((((w.setCell ⟨g,o,none⟩ (.int .u8 (v0:Int))).setCell ⟨g,o+1,none⟩ (.int .u8 (v1:Int))).setCell ⟨g,o+2,none⟩ (.int .u8 (v2:Int))).setCell ⟨g,o+3,none⟩ (.int .u8 (v3:Int))) g n
   (fun i=>if i=o+3 then v3 else if i=o+2 then v2 else if i=o+1 then v1 else if i=o then v0 else f i):=
 (((h.set (v:=v0) (by omega) rfl).set (v:=v1) (by omega) rfl).set (v:=v2) (by omega) rfl).set (v:=v3) (by omega) rfl
theorem Ar.far4c {w:World} {g g' n o o1 o2 o3:Nat} {v0 v1 v2 v3:Value} {f:Nat→Nat} (h:Ar w g n f) (hg:g'≠g):
  Ar ((((w.setCell ⟨g',o,none⟩ v0).setCell ⟨g',o1,none⟩ v1).setCell ⟨g',o2,none⟩ v2).setCell ⟨g',o3,none⟩ v3) g n f:=
 (((h.far (p:=⟨g',o,none⟩) hg _).far (p:=⟨g',o1,none⟩) hg _).far (p:=⟨g',o2,none⟩) hg _).far (p:=⟨g',o3,none⟩) hg _
theorem below_set4c {B:Nat} {a w:World} {g' o o1 o2 o3:Nat} {v0 v1 v2 v3:Value} (h:Below B a w) (hg:B≤g'):
  Below B a ((((w.setCell ⟨g',o,none⟩ v0).setCell ⟨g',o1,none⟩ v1).setCell ⟨g',o2,none⟩ v2).setCell ⟨g',o3,none⟩ v3):=
 (((h.setCell (p:=⟨g',o,none⟩) hg _).setCell (p:=⟨g',o1,none⟩) hg _).setCell (p:=⟨g',o2,none⟩) hg _).setCell (p:=⟨g',o3,none⟩) hg _
set_option maxHeartbeats 1600000 in
theorem refShift6 (f:Nat→Nat) (w:World) (hf:B16 f):
  Calls Tryz.prog 129 #[.agg (arL 16 f).toArray] w fun e w'=>e= .returned (.agg (arL 16 (tr (shF (tr f)))).toArray)∧Below w.heap.size w w':=by
 have hz:=zeroG
 obtain⟨kA,hkA⟩:=Le ((arL 16 f).toArray)
 obtain⟨w1,hw1⟩:=Lv (w.alloc (.cells (arL 16 f).toArray 162))
 have hs1:=Zs1 hw1
 have hb1:=Bl hw1
 have hG1:Ar w1 w.heap.size 16 f:=by rw [hw1];exact Ar.new w 16 f _
 obtain⟨w3,hw3⟩:=Lv (w1.alloc (.cells (arL 16 fun _=>0).toArray 162))
 have hb3:=Bm hw3 hb1
 have hR3:Ar w3 (w.heap.size+1) 16 (fun _=>0):=by rw [hw3,←hs1];exact Ar.new w1 16 _ _
 have hG3:=ara hw3 hG1
 rw [hkA]at hw1
 rw [hkA]
 clear hb1 hG1 hkA
 go_enter Tryz.func129,Tryz.ntmps129
 go_upto_region 1 with fail
 rw [←hw1,←hw3]
 clear hw1 hw3 hs1
 go_wp2_with fail
 go_loopw [3] (fun i wr=> ∃r:Nat,1≤r∧r≤4∧i= .int .i64 r∧Ar wr w.heap.size 16 (shP f r 0)∧Ar wr (w.heap.size+1) 16 (fun _=>0)∧Below w.heap.size w wr) (fun i _=>4-(intOf i).toNat)
 case atStart=>exact⟨1,by omega,by omega,rfl,hG3.ext (shP_start f),hR3,hb3⟩
 case round=>
  clear hG3 hR3 hb3
  obtain⟨r,hr1,hr,rfl,hG,hR,hB⟩:=hrel
  by_cases hlt:r<4
  ·have i1:(r:Int)<4:=by omega
   go_wp2_with fail
   obtain⟨wo,rfl⟩:=Lv (wr)
   go_loopw [4] (fun i wr=> ∃n:Nat,n≤r∧i= .int .i64 n∧Ar wr w.heap.size 16 (shP f r n)∧Ar wr (w.heap.size+1) 16 (fun _=>0)∧Below w.heap.size w wr) (fun i _=>r-(intOf i).toNat)
   case atStart=>exact⟨0,Nat.zero_le _,rfl,hG,hR,hB⟩
   case round=>
    clear hG hR hB
    obtain⟨n,hn,rfl,hG,hR,hB⟩:=hrel
    by_cases hlc:n<r
    ·have row: ∀k,k<4→ ∀j,j=r*4+k→wr.cell? ⟨w.heap.size,j,none⟩=some (.int .u8 (f (r*4+(k+n)%4):Nat))∧wr.frozen? ⟨w.heap.size,j,none⟩=false:=fun k hk j hj=>by
      rw [hj,←shP_row f r n k hk];exact hG (r*4+k) (by omega)
     obtain⟨c0,f0⟩:=row 0 (by omega) (r*4) (by omega)
     obtain⟨c1,f1⟩:=row 1 (by omega) (r*4+1) (by omega)
     obtain⟨c2,f2⟩:=row 2 (by omega) (r*4+2) (by omega)
     obtain⟨c3,f3⟩:=row 3 (by omega) (r*4+3) (by omega)
     rw [Nat.zero_add]at c0
     have hG2:=(hG.set4c (o:=r*4) (v0:=f (r*4+(1+n)%4)) (v1:=f (r*4+(2+n)%4)) (v2:=f (r*4+(3+n)%4)) (v3:=f (r*4+n%4)) (by omega)).ext (fun m _=>shP_step f r n m)
     have hR2:=hR.far4c (g':=w.heap.size) (o:=r*4) (o1:=r*4+1) (o2:=r*4+2) (o3:=r*4+3) (v0:= .int .u8 (f (r*4+(1+n)%4):Nat)) (v1:= .int .u8 (f (r*4+(2+n)%4):Nat)) (v2:= .int .u8 (f (r*4+(3+n)%4):Nat)) (v3:= .int .u8 (f (r*4+n%4):Nat)) (by omega)
     have hB2:=below_set4c (B:=w.heap.size) hB (g':=w.heap.size) (o:=r*4) (o1:=r*4+1) (o2:=r*4+2) (o3:=r*4+3) (v0:= .int .u8 (f (r*4+(1+n)%4):Nat)) (v1:= .int .u8 (f (r*4+(2+n)%4):Nat)) (v2:= .int .u8 (f (r*4+(3+n)%4):Nat)) (v3:= .int .u8 (f (r*4+n%4):Nat)) (by omega)
     clear hG hR hB row
     generalize f (r*4+(1+n)%4)=x1 at*
     generalize f (r*4+(2+n)%4)=x2 at*
     generalize f (r*4+(3+n)%4)=x3 at*
     generalize f (r*4+n%4)=x0 at*
     go_wp2_with fail
     refine wp_region_noPanic ?_
     go_big_region
     refine NoPanic.normal ?_
     go_wp2_with fail
     go_roundw
     case rel=>exact⟨n+1,by omega,by go_num,hG2.drew,hR2.drew,hB2.drew⟩
     case measure=>simp [intOf];omega
    ·obtain rfl:n=r:=by omega
     have hG2:=hG.ext (fun m _=>shP_next f n m)
     clear hG
     go_wp2_with fail
     go_roundw
     case rel=>exact⟨n+1,by omega,by omega,by go_num,hG2,hR,hB⟩
     case measure=>simp [intOf];omega
  ·obtain rfl:r=4:=by omega
   have hG2:=hG.ext (fun j hj=>shP_end f j hj)
   clear hG
   go_wp2_with (first
    |(refine wpList_load_ar rfl _ _ rfl _ _ _ rfl hG2 Tryz.arrG (sizeG _) ?_)
    |(refine wpList_store_ar rfl _ _ _ rfl _ _ _ (tr (shF (tr f))) rfl rfl hR (sizeG _) ?_;intro w8 hA8 hb8 _ _))
   refine bodyPost_ret_ar rfl rfl hA8 Tryz.arrG (sizeG _) rfl ⟨rfl,?_⟩
   exact hB.trans (hb8.mono (by omega))
end
section
open Go.RowKit
set_option linter.unusedVariables false
set_option maxRecDepth 100000
def mxG (f:Nat→Nat) (m:Nat):Nat:=
 ((mul 2 (f m)^^^mul 3 (f ((m/4+1)%4*4+m%4)))^^^f ((m/4+2)%4*4+m%4))^^^f ((m/4+3)%4*4+m%4)
theorem mxG_tr (f:Nat→Nat) (hf:B16 f) (m:Nat) (hm:m<16):mxG f m=tr (miF (tr f)) m:=by
 have H1: ∀m,m<16→4*((4*(m%4)+m/4)%4)+(4*(m%4)+m/4)/4=m:=by decide
 have H2: ∀k,k<4→ ∀m,m<16→4*(((4*(m%4)+m/4)/4*4+(4*(m%4)+m/4+k)%4)%4)+((4*(m%4)+m/4)/4*4+(4*(m%4)+m/4+k)%4)/4=(m/4+k)%4*4+m%4:=by decide
 unfold mxG miF mxF tr
 dsimp only
 rw [H1 m hm,H2 1 (by omega) m hm,H2 2 (by omega) m hm,H2 3 (by omega) m hm,one_mul_ _ (hf _ (by omega)),one_mul_ _ (hf _ (by omega))]
def mxP (f:Nat→Nat) (c r m:Nat):Nat:=if m%4<c∨m%4=c∧m/4<r then mxG f m else 0
theorem mxP_next (f:Nat→Nat) (c m:Nat) (hm:m<16):mxP f c 4 m=mxP f (c+1) 0 m:=by
 unfold mxP
 by_cases h:m%4<c∨m%4=c∧m/4<4
 ·rw [if_pos h,if_pos (by omega)]
 ·rw [if_neg h,if_neg (by omega)]
theorem mxP_step (f:Nat→Nat) (c r m:Nat) (hc:c<4) (hr:r<4) (hm:m<16):(if m=r*4+c then mxG f (r*4+c)else mxP f c r m)=mxP f c (r+1) m:=by
 unfold mxP
 by_cases h:m=r*4+c
 ·rw [if_pos h,if_pos (by omega),h]
 ·rw [if_neg h]
  by_cases h2:m%4<c∨m%4=c∧m/4<r
  ·rw [if_pos h2,if_pos (by omega)]
  ·rw [if_neg h2,if_neg (by omega)]
theorem heldT {a b:Addr} {x y:Value} {W1 W W':World} (k:W.cell? a=some x∧W.cell? b=some y∧Base W1 W) (ha:a.block<W.heap.size) (hb:b.block<W.heap.size) (hl:Below W.heap.size W W'):
  W'.cell? a=some x∧W'.cell? b=some y∧Base W1 W':=⟨(hl.cell ha).trans k.1,(hl.cell hb).trans k.2.1,Base.step k.2.2 hl⟩
theorem cell_lt {W:World} {g o:Nat} {x:Value} (h:W.cell? ⟨g,o,none⟩=some x):g<W.heap.size:=by
 rcases Nat.lt_or_ge g W.heap.size with h1|h1
 ·exact h1
 ·simp [World.cell?,Array.getElem?_eq_none h1]at h
theorem rowf (r kn:Nat) (k:Int) (q:Nat) (hk:k=(kn:Int)) (hr:r<4) (hkn:kn<4) (hq:q=(r+kn)%4):
  (IntKind.i64.wrap ((r:Int)+k)=(r:Int)+k∧wrap64 ((r:Int)+k)=(r:Int)+k)∧(((r:Int)+k).tmod 4=(q:Int)∧((r:Int)+k)%4=(q:Int))∧IntKind.i64.wrap (q:Int)=(q:Int)∧(q:Int)<4:=by
 subst hk
 refine⟨⟨wraps_i64' _ (by omega) (by omega),IntWalk.wrap64_in _ (by omega)⟩,⟨?_,by omega⟩,wraps_i64' _ (by omega) (by omega),by omega⟩
 rw [Int.tmod_eq_emod_of_nonneg (by omega)];omega
theorem refmul2 (x:Nat) (w:World) (hx:x<256):Calls Tryz.prog 63 #[.int .u8 2,.int .u8 x] w fun e w'=>e= .returned (.int .u8 (mul 2 x:Nat))∧Below w.heap.size w w':=refmul 2 x w (by omega) hx
theorem refmul3 (x:Nat) (w:World) (hx:x<256):Calls Tryz.prog 63 #[.int .u8 3,.int .u8 x] w fun e w'=>e= .returned (.int .u8 (mul 3 x:Nat))∧Below w.heap.size w w':=refmul 3 x w (by omega) hx
set_option maxHeartbeats 1600000 in
theorem refMix6 (f:Nat→Nat) (w:World) (hf:B16 f):
  Calls Tryz.prog 131 #[.agg (arL 16 f).toArray] w fun e w'=>e= .returned (.agg (arL 16 (tr (miF (tr f)))).toArray)∧Below w.heap.size w w':=by
 have hz:=zeroG
 obtain⟨kA,hkA⟩:=Le ((arL 16 f).toArray)
 obtain⟨w1,hw1⟩:=Lv (w.alloc (.cells (arL 16 f).toArray 162))
 have hs1:=Zs1 hw1
 have hb1:=Bl hw1
 have hK1:Ar w1 w.heap.size 16 f:=by rw [hw1];exact Ar.new w 16 f _
 obtain⟨w2,hw2⟩:=Lv (w1.alloc (.cells (arL 16 fun _=>0).toArray 162))
 have hs2:=Zs2 hw2 hs1
 have hb2:=Bm hw2 hb1
 have hR2:Ar w2 (w.heap.size+1) 16 (fun _=>0):=by rw [hw2,←hs1];exact Ar.new w1 16 _ _
 have hK2:=ara hw2 hK1
 obtain⟨w3,hw3⟩:=Lv (w2.alloc (.cells (arL 16 fun _=>0).toArray 162))
 have hb3:=Bm hw3 hb2
 have hT3:Ar w3 (w.heap.size+2) 16 (fun _=>0):=by rw [hw3,←hs2];exact Ar.new w2 16 _ _
 have hR3:=ara hw3 hR2
 have hK3:=ara hw3 hK2
 rw [hkA]at hw1
 rw [hkA]
 clear hb1 hK1 hb2 hR2 hK2 hkA
 go_enter Tryz.func131,Tryz.ntmps131
 go_upto_region 2 with fail
 rw [←hw1,←hw2,←hw3]
 clear hw1 hw2 hw3 hs1 hs2
 obtain⟨gT,hgT⟩:=Le (w.heap.size+2)
 have hge:w.heap.size+2≤gT:=by omega
 have hgT2:w.heap.size+1+1=gT:=hgT
 rw [hgT]at hT3
 rw [hgT2]
 clear hgT hgT2
 have HF:=Lib.hid hf
 clear hf
 go_wp2_with fail
 go_loopw [4] (fun i wr=> ∃c:Nat,c≤4∧i= .int .i64 c∧Ar wr w.heap.size 16 f∧Ar wr (w.heap.size+1) 16 (fun _=>0)∧Ar wr gT 16 (mxP f c 0)∧Below w.heap.size w wr) (fun i _=>4-(intOf i).toNat)
 case atStart=>exact⟨0,Nat.zero_le _,rfl,hK3,hR3,hT3.ext (fun _ _=>by unfold mxP;rw [if_neg (by omega)]),hb3⟩
 case round=>
  clear hK3 hR3 hT3 hb3
  obtain⟨c,hc,rfl,hK,hR,hT,hB⟩:=hrel
  by_cases hlt:c<4
  ·have i1:(c:Int)<4:=by omega
   go_wp2_with fail
   obtain⟨wo,rfl⟩:=Lv (wr)
   go_loopw [5] (fun i wr=> ∃r:Nat,r≤4∧i= .int .i64 r∧Ar wr w.heap.size 16 f∧Ar wr (w.heap.size+1) 16 (fun _=>0)∧Ar wr gT 16 (mxP f c r)∧Below w.heap.size w wr) (fun i _=>4-(intOf i).toNat)
   case atStart=>exact⟨0,Nat.zero_le _,rfl,hK,hR,hT,hB⟩
   case round=>
    clear hK hR hT hB
    obtain⟨r,hr,rfl,hK,hR,hT,hB⟩:=hrel
    by_cases hlr:r<4
    ·have i2:(r:Int)<4:=by omega
     obtain⟨r1,hr1⟩:=Lv ((r+1)%4)
     obtain⟨c0,_⟩:=hK (r*4+c) (by omega)
     obtain⟨c1,_⟩:=hK (r1*4+c) (by omega)
     have l0:=HF.out (r*4+c) (by omega)
     have l1:=HF.out (r1*4+c) (by omega)
     have hgl:=cell_lt c0
     obtain⟨x0,hx0⟩:=Lv (f (r*4+c))
     obtain⟨x1,hx1⟩:=Lv (f (r1*4+c))
     rw [←hx0]at c0 l0
     rw [←hx1]at c1 l1
     have hxx:bits BinOp.xor IntKind.u8 ((mul 2 x0:Nat):Int) ((mul 3 x1:Nat):Int)=((mul 2 x0^^^mul 3 x1:Nat):Int):=xor_n8 _ _ (mul_lt _ _ (by omega)) (mul_lt _ _ (by omega))
     have HX0:=Lib.hid hx0
     have HX1:=Lib.hid hx1
     have HR1:=Lib.hid hr1
     have L0:=Lib.hid l0
     have L1:=Lib.hid l1
     obtain⟨⟨a1,a2⟩,⟨a3,a4⟩,a5,j1⟩:=rowf r 1 1 r1 rfl hlr (by decide) hr1
     clear hx0 hx1 hr1 l0 l1
     go_wp2_with fail
     go_region_held3 (fun W=>W.cell? ⟨w.heap.size,r*4+c,none⟩=some (.int .u8 (x0:Nat))∧W.cell? ⟨w.heap.size,r1*4+c,none⟩=some (.int .u8 (x1:Nat))∧Base wr W)
      (first|assumption|(exact⟨c0,c1,(Base.refl _).drew⟩))
      (first
      |(go_at_call 63;(with_reducible refine(refmul2 _ _ ?_).mono ?_);(· exact L0.out);rintro e w6 ⟨rfl,hb6⟩;have hN:=heldT (by assumption) (cell_lt (And.left (by assumption))) (cell_lt (And.left (by assumption))) hb6)
      |(go_at_call 63;(with_reducible refine(refmul3 _ _ ?_).mono ?_);(· exact L1.out);rintro e w6 ⟨rfl,hb6⟩;have hN:=heldT (by assumption) (cell_lt (And.left (by assumption))) (cell_lt (And.left (by assumption))) hb6))
     have hH:Base wr w6:=(And.right (And.right (by assumption)))
     clear a1 a2 a3 a4 a5 j1 hxx
     have hK6:=hK.to (by decide) hH
     have hR6:=hR.to (by decide) hH
     have hT6:=hT.to (by decide) hH
     have hB6:=hB.trans (Below.mono hH hB.size)
     obtain⟨wz,hwz⟩:=Lv (w6)
     rw [←hwz]at hK6 hR6 hT6 hB6
     rw [←hwz]
     clear hwz hK hR hT hB c0 c1 hgl
     obtain⟨p,hp⟩:=Lv (mul 2 x0^^^mul 3 x1)
     have hpl:p<256:=by rw [hp];exact xor_lt _ _ (mul_lt _ _ (by decide)) (mul_lt _ _ (by decide))
     rw [←hp]
     obtain⟨r2,hr2⟩:=Lv ((r+2)%4)
     obtain⟨r3,hr3⟩:=Lv ((r+3)%4)
     have o2:r2*4+c<16:=by omega
     have o3:r3*4+c<16:=by omega
     have o4:r*4+c<16:=by omega
     have e4:(r*4+c)/4=r:=by omega
     have e5:(r*4+c)%4=c:=by omega
     have g1:gT≠w.heap.size:=by omega
     have g2:gT≠w.heap.size+1:=by omega
     have g3:w.heap.size≤gT:=by omega
     obtain⟨q2,_⟩:=hK6 (r2*4+c) o2
     obtain⟨q3,_⟩:=hK6 (r3*4+c) o3
     obtain⟨q4,f4⟩:=hT6 (r*4+c) o4
     have l2:=HF.out (r2*4+c) o2
     have l3:=HF.out (r3*4+c) o3
     have hz9:(p^^^f (r2*4+c))^^^f (r3*4+c)=mxG f (r*4+c):=by
      unfold mxG
      rw [e4,e5,hp,HX0.out,HX1.out,HR1.out,hr2,hr3]
     have y2:bits BinOp.xor IntKind.u8 ((p:Nat):Int) ((f (r2*4+c):Nat):Int)=((p^^^f (r2*4+c):Nat):Int):=xor_n8 _ _ hpl l2
     have y3:bits BinOp.xor IntKind.u8 ((p^^^f (r2*4+c):Nat):Int) ((f (r3*4+c):Nat):Int)=(((p^^^f (r2*4+c))^^^f (r3*4+c):Nat):Int):=xor_n8 _ _ (xor_lt _ _ hpl l2) l3
     rw [hz9]at y3
     have hT9:=(hT6.set (j:=r*4+c) (v:=mxG f (r*4+c)) o4 rfl).ext (fun m hm=>mxP_step f c r m hlt hlr hm)
     have hK9:=hK6.far (p:=⟨gT,r*4+c,none⟩) g1 (.int .u8 (mxG f (r*4+c):Nat))
     have hR9:=hR6.far (p:=⟨gT,r*4+c,none⟩) g2 (.int .u8 (mxG f (r*4+c):Nat))
     have hB9:=hB6.setCell (p:=⟨gT,r*4+c,none⟩) g3 (.int .u8 (mxG f (r*4+c):Nat))
     have HT9:=Lib.hid hT9
     have HK9:=Lib.hid hK9
     have HR9:=Lib.hid hR9
     have HB9:=Lib.hid hB9
     obtain⟨⟨b1,b2⟩,⟨b3,b4⟩,b5,j2⟩:=rowf r 2 2 r2 rfl hlr (by decide) hr2
     obtain⟨⟨d1,d2⟩,⟨d3,d4⟩,d5,j3⟩:=rowf r 3 3 r3 rfl hlr (by decide) hr3
     clear hz9 hp hr2 hr3 hK6 hR6 hT6 hB6 hpl l2 l3 hT9 hK9 hR9 hB9 e4 e5 o2 o3 o4 g1 g2 g3
     generalize mxG f (r*4+c)=z9 at*
     generalize f (r2*4+c)=x2 at*
     generalize f (r3*4+c)=x3 at*
     generalize p^^^x2=z8 at*
     go_wp2_with fail
     refine wp_region_noPanic ?_
     go_big_region
     refine NoPanic.normal ?_
     obtain⟨⟨a1,a2⟩,_⟩:=rowf r 1 1 _ rfl hlr (by decide) rfl
     go_wp2_with fail
     go_roundw
     case rel=>clear a1 a2 b1 b2 b3 b4 b5 d1 d2 d3 d4 d5;exact⟨r+1,by omega,by go_num,HK9.out.drew,HR9.out.drew,HT9.out.drew,HB9.out.drew⟩
     case measure=>clear a1 a2 b1 b2 b3 b4 b5 d1 d2 d3 d4 d5;simp [intOf];omega
    ·obtain rfl:r=4:=by omega
     have hT2:=hT.ext (fun m hm=>mxP_next f c m hm)
     clear hT
     go_wp2_with fail
     go_roundw
     case rel=>exact⟨c+1,by omega,by go_num,hK,hR,hT2,hB⟩
     case measure=>simp [intOf];omega
  ·obtain rfl:c=4:=by omega
   have hT2:=hT.ext (f':=tr (miF (tr f))) (fun j hj=>by unfold mxP;rw [if_pos (by omega)];exact mxG_tr f HF.out j hj)
   clear hT
   go_wp2_with (first
    |(refine wpList_load_ar rfl _ _ rfl _ _ _ rfl hT2 Tryz.arrG (sizeG _) ?_)
    |(refine wpList_store_ar rfl _ _ _ rfl _ _ _ (tr (miF (tr f))) rfl rfl hR (sizeG _) ?_;intro w8 hA8 hb8 _ _))
   refine bodyPost_ret_ar rfl rfl hA8 Tryz.arrG (sizeG _) rfl ⟨rfl,?_⟩
   exact hB.trans (hb8.mono (by omega))
end
section
open Go.RowKit
set_option linter.unusedVariables false
set_option maxRecDepth 100000
def pkF (e s:Nat→Nat) (j:Nat):Nat:=if j<176 then e j else s (j-176)
theorem Tryz.structK: ∃d,Tryz.prog.underlying 48=some d∧d.isRow=true:=by
 have h:(Tryz.prog.underlying 48).map (·.isRow)=some true:=by kernel_rfl
 cases hu:Tryz.prog.underlying 48 with
 |none=>rw [hu]at h;cases h
 |some d=>rw [hu]at h;exact⟨d,rfl,Option.some.inj h⟩
theorem Tryz.zeroK:(Tryz.prog.info? 48).map (fun i=>(i.zero,i.size))=some (some (.agg (Array.replicate 432 (.int .u8 0))),432):=by kernel_rfl
theorem sizeK (f:Nat→Nat):(Tryz.prog.info? 48).map (·.size)=some (arL 432 f).length:=by rw [arL_len];exact(zero_of_info Tryz.zeroK).2
theorem zeroK (w:World):(zeroValue 48).run Tryz.prog w= .ok (.agg (arL 432 fun _=>0).toArray) w:=by
 rw [arL_zero];exact(zero_of_info Tryz.zeroK).1 w
theorem built_key (e s:Nat→Nat):Tryz.prog.built 48 [(0,.agg (arL 176 e).toArray),(1,.agg (arL 256 s).toArray)]=some (arL 432 (pkF e s)).toArray:=by kernel_rfl
theorem run_key (e:Nat→Nat) (w:World):(Instr.build 48 #[(0,.agg (arL 176 e).toArray),(1,.agg boxA)]).run Tryz.prog w= .ok (.agg (arL 432 (pkF e sb)).toArray) w:=
 run_build w _ _ _ (built_key e sb)
theorem bodyPost_ret_row {P:Program} {fn:Func} {R:Ending→World→Prop} {a:Act} {w:World} {p:Tmp} {ty:TypeId} {g n:Nat} {f:Nat→Nat} {d:TypeDesc} (hr:fn.results= #[.cell p ty]) (hp:a.tmps.getD p undef= .pointer (some ⟨g,0,none⟩))
  (hA:Ar w g n f) (hu:P.underlying ty=some d) (hrow:d.isRow=true) (hi:(P.info? ty).map (·.size)=some (arL n f).length) (hd:a.defers= []) (hR:R (.returned (.agg (arL n f).toArray)) w):bodyPost P fn R .ret a w:=by
 refine bodyPost_ret (v:= .agg (arL n f).toArray) ?_ hd hR
 have hp':a.tmps[p]?.getD undef= .pointer (some ⟨g,0,none⟩):=by simpa using hp
 simp only [results,hr]
 simp [hp',asAddr,run_loadVar_mid (P:=P) w g 0 ty (arL n f) _ hA.range hu hrow hi]
set_option maxHeartbeats 1600000 in
theorem refprepare (f:Nat→Nat) (w:World) (hf:B16 f):
  Calls Tryz.prog 15 #[.agg (arL 16 f).toArray] w fun e w'=>e= .returned (.agg (arL 432 (pkF (ek f) sb)).toArray)∧Below w.heap.size w w':=by
 have hz:=zeroK
 obtain⟨kA,hkA⟩:=Le ((arL 16 f).toArray)
 obtain⟨w1,hw1⟩:=Lv (w.alloc (.cells (arL 16 f).toArray 22))
 have hs1:=Zs1 hw1
 have hb1:=Bl hw1
 have hK1:Ar w1 w.heap.size 16 f:=by rw [hw1];exact Ar.new w 16 f _
 obtain⟨w2,hw2⟩:=Lv (w1.alloc (.cells (arL 432 fun _=>0).toArray 48))
 have hb2:=Bm hw2 hb1
 have hR2:Ar w2 (w.heap.size+1) 432 (fun _=>0):=by rw [hw2,←hs1];exact Ar.new w1 432 _ _
 have hK2:=ara hw2 hK1
 have HF:=Lib.hid hf
 rw [hkA]at hw1
 rw [hkA]
 clear hb1 hK1 hf hkA
 go_enter Tryz.func15,Tryz.ntmps15
 go_upto_region 1 with fail
 rw [←hw1,←hw2]
 clear hw1 hw2 hs1
 go_wp2_with (refine wpList_load_ar rfl _ _ rfl _ _ _ rfl hK2 Tryz.arr16b (size16b _) ?_)
 refine(refexpand f HF.out _).mono ?_
 rintro e w3 ⟨rfl,hq⟩
 have hR3:=hR2.t hq
 have hB3:=Tq hb2 hq
 clear hR2 hb2 hK2 hq
 go_wp2_with fail
 refine(reftable _).mono ?_
 rintro e w4 ⟨rfl,hq⟩
 have hR4:=hR3.t hq
 have hB4:=Tq hB3 hq
 clear hR3 hB3 hq
 obtain⟨G,hG⟩: ∃G:Nat→Nat,G=pkF (ek f) sb:=⟨_,rfl⟩
 obtain⟨bA,hbA⟩:=Le (boxA)
 have hbd:=Lib.hid (run_key (ek f))
 rw [←hG,hbA]at hbd
 rw [hbA]
 have HG:=Lib.hid hG
 clear hG hbA
 obtain⟨d,hfs,hrow⟩:=Tryz.structK
 have HS:=Lib.hid hfs
 have HW:=Lib.hid hrow
 clear hfs hrow
 go_wp2_with (first
  |(refine wpList_build_by rfl _ _ rfl [(0,.agg (arL 176 (ek f)).toArray),(1,.agg bA)] rfl _ (hbd.out _) ?_)
  |(refine wpList_store_ar rfl _ _ _ rfl _ _ _ G rfl rfl hR4 (sizeK _) ?_;intro w8 hA8 hb8 _ _))
 refine bodyPost_ret_row rfl rfl hA8 HS.out HW.out (sizeK _) rfl ⟨by rw [HG.out],?_⟩
 exact hB4.trans (hb8.mono (by omega))
end
section
open Go.RowKit
set_option linter.unusedVariables false
theorem tr_lt {X:Nat→Nat} (h:B16 X):B16 (tr X):=fun j hj=>h _ (by omega)
theorem rSub (X:Nat→Nat) (w:World) (h:B16 X):
  Calls Tryz.prog 130 #[.agg (arL 16 (tr X)).toArray,.agg boxA] w fun e w'=>e= .returned (.agg (arL 16 (tr (suF X))).toArray)∧Below w.heap.size w w':=refSub6 (tr X) w (tr_lt h)
theorem rShift (X:Nat→Nat) (w:World) (h:B16 X):
  Calls Tryz.prog 129 #[.agg (arL 16 (tr X)).toArray] w fun e w'=>e= .returned (.agg (arL 16 (tr (shF X))).toArray)∧Below w.heap.size w w':=by
 have e:=arL_ext (n:=16) (fun j hj=>(tr_congr (shF_congr (tr_tr X))) j hj)
 have h1:=refShift6 (tr X) w (tr_lt h)
 rwa [e]at h1
theorem rMix (X:Nat→Nat) (w:World) (h:B16 X):
  Calls Tryz.prog 131 #[.agg (arL 16 (tr X)).toArray] w fun e w'=>e= .returned (.agg (arL 16 (tr (miF X))).toArray)∧Below w.heap.size w w':=by
 have e:arL 16 (tr (miF (tr (tr X))))=arL 16 (tr (miF X)):=arL_ext (n:=16) (fun j hj=>(tr_congr (mxF_congr 2 3 1 1 (tr_tr X))) j hj)
 have h1:=refMix6 (tr X) w (tr_lt h)
 rwa [e]at h1
theorem rAdd (X k:Nat→Nat) (w:World) (h:B16 X) (hk:B16 k):
  Calls Tryz.prog 127 #[.agg (arL 16 (tr X)).toArray,.agg (arL 16 k).toArray] w fun e w'=>e= .returned (.agg (arL 16 (tr (adF X k))).toArray)∧Below w.heap.size w w':=refAdd6 (tr X) k w (tr_lt h) hk
theorem rBlock (X:Nat→Nat) (w:World):
  Calls Tryz.prog 132 #[.agg (arL 16 (tr X)).toArray] w fun e w'=>e= .returned (.agg (arL 16 X).toArray)∧Below w.heap.size w w':=by
 have e:=arL_ext (n:=16) (fun j hj=>tr_tr X j hj)
 have h1:=refBlock (tr X) w
 rwa [e]at h1
end
section
open Go.RowKit
set_option linter.unusedVariables false
set_option maxRecDepth 100000
noncomputable def reRegC:Code:=((Tryz.f94.body.bind (regionNo 1)).getD .skip)
set_option maxHeartbeats 4000000 in
theorem reReg (f b pk:Nat→Nat) (gE gC gR B:Nat) (hr0:arL 16 (fun j=>pk (0+j))=arL 16 (rk f 0)) (hb:B16 b) (h0l:B16 (rk f 0)) {Q0:Exit→Act→World→Prop} {t0 t1 t4 t5 t6 t7 t8 t9 t10 t11 t12 t13 t14 t15 t16 t17 t18 t19 t20 t21 t22 t23 t24 t25 t26 t27 t28 t29 t30 t31 t32 t33:Value} {W0 W:World} (hlB:B≤gE) (hlC:gE<gC) (hlR:gC<gR)
  (hCW:Ar W gC 16 b) (hRW:Ar W gR 16 (fun _=>0)) (hEW:Ar W gE 432 pk) (hBW:Below B W0 W)
  (hQ: ∀gT w9,gR<gT→Ar w9 gT 16 (tr (adF b (rk f 0)))→Ar w9 gR 16 (fun _=>0)→Ar w9 gE 432 pk→Below B W0 w9→Q0 .normal ⟨(t0::t1:: .pointer (some ⟨gE,0,none⟩):: .pointer (some ⟨gC,0,none⟩)::t4:: .pointer (some ⟨gT,0,none⟩)::t6:: .agg (arL 16 (b)).toArray:: .agg (arL 16 (tr b)).toArray:: .pointer (some ⟨gE,0,none⟩):: .pointer (some ⟨gE,0,none⟩):: .agg (arL 16 (rk f 0)).toArray:: .agg (arL 16 (tr (adF b (rk f 0)))).toArray::t13::t14::t15::t16::t17::t18::t19::t20::t21::t22::t23::t24::t25::t26::t27::t28::t29::t30::t31::t32::t33:: []).toArray,[]⟩ w9):
  Code.wp Tryz.prog reRegC Q0 ⟨(t0::t1:: .pointer (some ⟨gE,0,none⟩):: .pointer (some ⟨gC,0,none⟩)::t4::t5::t6::t7::t8::t9::t10::t11::t12::t13::t14::t15::t16::t17::t18::t19::t20::t21::t22::t23::t24::t25::t26::t27::t28::t29::t30::t31::t32::t33:: []).toArray,[]⟩ W:=by
 have hz:=zeroG
 have HQ:=Lib.hid hQ
 clear hQ
 refine Code.wp_mono NoPanic.imp ?_
 conv=>arg 2;whnf
 refine wp_region_held_drew (S:=fun W=>W.rangeAt gE 0 (arL 16 (rk f 0))) (by kernel_rfl) (by have q:=hEW.rangeO 0 16 (by omega);rw [World.rangeAt_drew];rwa [hr0]at q) (fun hH'=> ?_)
 have hCd:=hCW.drew
 have hRd:=hRW.drew
 have hEd:=hEW.drew
 have hBd:=hBW.drew
 clear hCW hRW hEW hBW
 generalize W.drew=Wd at*
 refine tw 2 ?va2 rfl ?hya2 ?resta2
 case hya2=>
  intro W hSw
  go_simp
  try with_reducible rfl
 simp only [Act.put,nrm]
 refine tw 3 ?va3 rfl ?hya3 ?resta3
 case hya3=>
  intro W hSw
  go_simp
  try with_reducible rfl
 simp only [Act.put,nrm]
 refine tk 4 (.agg (arL 16 (rk f 0)).toArray) rfl (yieldsIf_load_mid (by rfl) _ _ rfl gE 0 rfl (arL 16 (rk f 0)) _ (fun W hSw=>hSw) Tryz.arr16b rfl (size16b _)) ?_
 simp only [Act.put,nrm]
 refine rd2 0 6 rfl rfl (fun K hK=> ?_) (fun K hK=> ?_)
 ·rw [if_pos (by rfl)]
  refine wp_load_mid _ _ rfl gC 0 rfl (arL 16 b) _ hCd.range Tryz.arr16b rfl (size16b _) ?_
  refine hK.out _ _ hH' (fun hH'=> ?_)
  clear hK K
  try simp only [Act.put,nrm]
  refine rd2 1 6 rfl rfl (fun K hK=> ?_) (fun K hK=> ?_)
  ·go_simp
   refine(refOf b _).mono ?_
   rintro e v2 ⟨rfl,hq⟩
   go_wp2_with fail
   refine hK.out _ _ (row_kept hH' hq) (fun hH'=> ?_)
   clear hK K
   have hCv2:=hCd.t hq
   have hRv2:=hRd.t hq
   have hEv2:=hEd.t hq
   have hBv2:=hBd.trans (hq.mono (by have:=hEd.lt (by omega);omega))
   clear hq
   try simp only [Act.put,nrm]
   refine rd2 5 6 rfl rfl (fun K hK=> ?_) (fun K hK=> ?_)
   ·go_simp
    refine(rAdd b (rk f 0) _ hb h0l).mono ?_
    rintro e v3 ⟨rfl,hq⟩
    go_wp2_with fail
    refine hK.out _ _ (row_kept hH' hq) (fun hH'=> ?_)
    clear hK K
    have hCv3:=hCv2.t hq
    have hRv3:=hRv2.t hq
    have hEv3:=hEv2.t hq
    have hBv3:=hBv2.trans (hq.mono (by have:=hEv2.lt (by omega);omega))
    clear hq
    try simp only [Act.put,nrm]
    refine rd 6 rfl (fun K hK=> ?_)
    obtain⟨gT4,hgT4⟩:=Le (v3.heap.size)
    have hlT4:gR<gT4:=by rw [←hgT4];exact hRv3.lt (by omega)
    have hCnv4:=hCv3.alloc (by omega) (.cells (arL 16 fun _=>0).toArray 162)
    have hRnv4:=hRv3.alloc (by omega) (.cells (arL 16 fun _=>0).toArray 162)
    have hEnv4:=hEv3.alloc (by omega) (.cells (arL 16 fun _=>0).toArray 162)
    have hTnv4:=Ar.new v3 16 (fun _=>0) 162
    have hBnv4:=hBv3.alloc (by have:=hEv3.lt (by omega);omega) (.cells (arL 16 fun _=>0).toArray 162)
    rw [hgT4]at hTnv4
    obtain⟨v4,hv4⟩:=Lv (v3.alloc (.cells (arL 16 fun _=>0).toArray 162))
    rw [←hv4]at hCnv4 hRnv4 hEnv4 hTnv4 hBnv4
    have hCv4:=hCnv4
    have hRv4:=hRnv4
    have hEv4:=hEnv4
    have hTv4:=hTnv4
    have hBv4:=hBnv4
    clear hCnv4 hRnv4 hEnv4 hTnv4 hBnv4
    go_simp
    try rw [hgT4]
    rw [←hv4]
    refine hK.out _ _ (by have q:=hEv4.rangeO 0 16 (by omega);rwa [hr0]at q) (fun hH'=> ?_)
    clear hK K hv4 hgT4
    try simp only [Act.put,nrm]
    refine rd 7 rfl (fun K hK=> ?_)
    rw [if_pos (by rfl)]
    refine wp_store_mid _ _ _ rfl _ 0 _ rfl rfl (by rw [List.size_toArray,arL_len];exact hTv4.there) (by rw [List.size_toArray];exact sizeG _) (all_oneCell_toArray (arL_one 16 _)) ?_
    refine hK.out _ _ (by have q:=hEv4.apart (b:=gT4) (by omega) (arL 16 (tr (adF b (rk f 0)))) 0;have q2:=q.rangeO 0 16 (by omega);rwa [hr0]at q2) (fun hH'=> ?_)
    clear hK K
    try simp only [Act.put]
    refine wpAnyH_done (by kernel_rfl) ?_ _
    exact NoPanic.normal (HQ.out gT4 _ (by omega) (hTv4.whole _) (hRv4.apart (by omega) _ _) (hEv4.apart (by omega) _ _) (hBv4.trans (Below.setCells (Below.refl _ _) (by omega) _ _)))
   ·obtain⟨gT5,hgT5⟩:=Le (v2.heap.size)
    have hlT5:gR<gT5:=by rw [←hgT5];exact hRv2.lt (by omega)
    have hCnv5:=hCv2.alloc (by omega) (.cells (arL 16 fun _=>0).toArray 162)
    have hRnv5:=hRv2.alloc (by omega) (.cells (arL 16 fun _=>0).toArray 162)
    have hEnv5:=hEv2.alloc (by omega) (.cells (arL 16 fun _=>0).toArray 162)
    have hTnv5:=Ar.new v2 16 (fun _=>0) 162
    have hBnv5:=hBv2.alloc (by have:=hEv2.lt (by omega);omega) (.cells (arL 16 fun _=>0).toArray 162)
    rw [hgT5]at hTnv5
    obtain⟨v5,hv5⟩:=Lv (v2.alloc (.cells (arL 16 fun _=>0).toArray 162))
    rw [←hv5]at hCnv5 hRnv5 hEnv5 hTnv5 hBnv5
    have hCv5:=hCnv5
    have hRv5:=hRnv5
    have hEv5:=hEnv5
    have hTv5:=hTnv5
    have hBv5:=hBnv5
    clear hCnv5 hRnv5 hEnv5 hTnv5 hBnv5
    go_simp
    try rw [hgT5]
    rw [←hv5]
    refine hK.out _ _ (by have q:=hEv5.rangeO 0 16 (by omega);rwa [hr0]at q) (fun hH'=> ?_)
    clear hK K hv5 hgT5
    try simp only [Act.put,nrm]
    refine rd 5 rfl (fun K hK=> ?_)
    go_simp
    refine(rAdd b (rk f 0) _ hb h0l).mono ?_
    rintro e v6 ⟨rfl,hq⟩
    go_wp2_with fail
    refine hK.out _ _ (row_kept hH' hq) (fun hH'=> ?_)
    clear hK K
    have hCv6:=hCv5.t hq
    have hRv6:=hRv5.t hq
    have hEv6:=hEv5.t hq
    have hTv6:=hTv5.t hq
    have hBv6:=hBv5.trans (hq.mono (by have:=hEv5.lt (by omega);omega))
    clear hq
    try simp only [Act.put,nrm]
    refine rd 7 rfl (fun K hK=> ?_)
    rw [if_pos (by rfl)]
    refine wp_store_mid _ _ _ rfl _ 0 _ rfl rfl (by rw [List.size_toArray,arL_len];exact hTv6.there) (by rw [List.size_toArray];exact sizeG _) (all_oneCell_toArray (arL_one 16 _)) ?_
    refine hK.out _ _ (by have q:=hEv6.apart (b:=gT5) (by omega) (arL 16 (tr (adF b (rk f 0)))) 0;have q2:=q.rangeO 0 16 (by omega);rwa [hr0]at q2) (fun hH'=> ?_)
    clear hK K
    try simp only [Act.put]
    refine wpAnyH_done (by kernel_rfl) ?_ _
    exact NoPanic.normal (HQ.out gT5 _ (by omega) (hTv6.whole _) (hRv6.apart (by omega) _ _) (hEv6.apart (by omega) _ _) (hBv6.trans (Below.setCells (Below.refl _ _) (by omega) _ _)))
  ·obtain⟨gT7,hgT7⟩:=Le (Wd.heap.size)
   have hlT7:gR<gT7:=by rw [←hgT7];exact hRd.lt (by omega)
   have hCnv7:=hCd.alloc (by omega) (.cells (arL 16 fun _=>0).toArray 162)
   have hRnv7:=hRd.alloc (by omega) (.cells (arL 16 fun _=>0).toArray 162)
   have hEnv7:=hEd.alloc (by omega) (.cells (arL 16 fun _=>0).toArray 162)
   have hTnv7:=Ar.new Wd 16 (fun _=>0) 162
   have hBnv7:=hBd.alloc (by have:=hEd.lt (by omega);omega) (.cells (arL 16 fun _=>0).toArray 162)
   rw [hgT7]at hTnv7
   obtain⟨v7,hv7⟩:=Lv (Wd.alloc (.cells (arL 16 fun _=>0).toArray 162))
   rw [←hv7]at hCnv7 hRnv7 hEnv7 hTnv7 hBnv7
   have hCv7:=hCnv7
   have hRv7:=hRnv7
   have hEv7:=hEnv7
   have hTv7:=hTnv7
   have hBv7:=hBnv7
   clear hCnv7 hRnv7 hEnv7 hTnv7 hBnv7
   go_simp
   try rw [hgT7]
   rw [←hv7]
   refine hK.out _ _ (by have q:=hEv7.rangeO 0 16 (by omega);rwa [hr0]at q) (fun hH'=> ?_)
   clear hK K hv7 hgT7
   try simp only [Act.put,nrm]
   refine rd 1 rfl (fun K hK=> ?_)
   go_simp
   refine(refOf b _).mono ?_
   rintro e v8 ⟨rfl,hq⟩
   go_wp2_with fail
   refine hK.out _ _ (row_kept hH' hq) (fun hH'=> ?_)
   clear hK K
   have hCv8:=hCv7.t hq
   have hRv8:=hRv7.t hq
   have hEv8:=hEv7.t hq
   have hTv8:=hTv7.t hq
   have hBv8:=hBv7.trans (hq.mono (by have:=hEv7.lt (by omega);omega))
   clear hq
   try simp only [Act.put,nrm]
   refine rd 5 rfl (fun K hK=> ?_)
   go_simp
   refine(rAdd b (rk f 0) _ hb h0l).mono ?_
   rintro e v9 ⟨rfl,hq⟩
   go_wp2_with fail
   refine hK.out _ _ (row_kept hH' hq) (fun hH'=> ?_)
   clear hK K
   have hCv9:=hCv8.t hq
   have hRv9:=hRv8.t hq
   have hEv9:=hEv8.t hq
   have hTv9:=hTv8.t hq
   have hBv9:=hBv8.trans (hq.mono (by have:=hEv8.lt (by omega);omega))
   clear hq
   try simp only [Act.put,nrm]
   refine rd 7 rfl (fun K hK=> ?_)
   rw [if_pos (by rfl)]
   refine wp_store_mid _ _ _ rfl _ 0 _ rfl rfl (by rw [List.size_toArray,arL_len];exact hTv9.there) (by rw [List.size_toArray];exact sizeG _) (all_oneCell_toArray (arL_one 16 _)) ?_
   refine hK.out _ _ (by have q:=hEv9.apart (b:=gT7) (by omega) (arL 16 (tr (adF b (rk f 0)))) 0;have q2:=q.rangeO 0 16 (by omega);rwa [hr0]at q2) (fun hH'=> ?_)
   clear hK K
   try simp only [Act.put]
   refine wpAnyH_done (by kernel_rfl) ?_ _
   exact NoPanic.normal (HQ.out gT7 _ (by omega) (hTv9.whole _) (hRv9.apart (by omega) _ _) (hEv9.apart (by omega) _ _) (hBv9.trans (Below.setCells (Below.refl _ _) (by omega) _ _)))
 ·obtain⟨gT10,hgT10⟩:=Le (Wd.heap.size)
  have hlT10:gR<gT10:=by rw [←hgT10];exact hRd.lt (by omega)
  have hCnv10:=hCd.alloc (by omega) (.cells (arL 16 fun _=>0).toArray 162)
  have hRnv10:=hRd.alloc (by omega) (.cells (arL 16 fun _=>0).toArray 162)
  have hEnv10:=hEd.alloc (by omega) (.cells (arL 16 fun _=>0).toArray 162)
  have hTnv10:=Ar.new Wd 16 (fun _=>0) 162
  have hBnv10:=hBd.alloc (by have:=hEd.lt (by omega);omega) (.cells (arL 16 fun _=>0).toArray 162)
  rw [hgT10]at hTnv10
  obtain⟨v10,hv10⟩:=Lv (Wd.alloc (.cells (arL 16 fun _=>0).toArray 162))
  rw [←hv10]at hCnv10 hRnv10 hEnv10 hTnv10 hBnv10
  have hCv10:=hCnv10
  have hRv10:=hRnv10
  have hEv10:=hEnv10
  have hTv10:=hTnv10
  have hBv10:=hBnv10
  clear hCnv10 hRnv10 hEnv10 hTnv10 hBnv10
  go_simp
  try rw [hgT10]
  rw [←hv10]
  refine hK.out _ _ (by have q:=hEv10.rangeO 0 16 (by omega);rwa [hr0]at q) (fun hH'=> ?_)
  clear hK K hv10 hgT10
  try simp only [Act.put,nrm]
  refine rd 0 rfl (fun K hK=> ?_)
  rw [if_pos (by rfl)]
  refine wp_load_mid _ _ rfl gC 0 rfl (arL 16 b) _ hCv10.range Tryz.arr16b rfl (size16b _) ?_
  refine hK.out _ _ hH' (fun hH'=> ?_)
  clear hK K
  try simp only [Act.put,nrm]
  refine rd 1 rfl (fun K hK=> ?_)
  go_simp
  refine(refOf b _).mono ?_
  rintro e v12 ⟨rfl,hq⟩
  go_wp2_with fail
  refine hK.out _ _ (row_kept hH' hq) (fun hH'=> ?_)
  clear hK K
  have hCv12:=hCv10.t hq
  have hRv12:=hRv10.t hq
  have hEv12:=hEv10.t hq
  have hTv12:=hTv10.t hq
  have hBv12:=hBv10.trans (hq.mono (by have:=hEv10.lt (by omega);omega))
  clear hq
  try simp only [Act.put,nrm]
  refine rd 5 rfl (fun K hK=> ?_)
  go_simp
  refine(rAdd b (rk f 0) _ hb h0l).mono ?_
  rintro e v13 ⟨rfl,hq⟩
  go_wp2_with fail
  refine hK.out _ _ (row_kept hH' hq) (fun hH'=> ?_)
  clear hK K
  have hCv13:=hCv12.t hq
  have hRv13:=hRv12.t hq
  have hEv13:=hEv12.t hq
  have hTv13:=hTv12.t hq
  have hBv13:=hBv12.trans (hq.mono (by have:=hEv12.lt (by omega);omega))
  clear hq
  try simp only [Act.put,nrm]
  refine rd 7 rfl (fun K hK=> ?_)
  rw [if_pos (by rfl)]
  refine wp_store_mid _ _ _ rfl _ 0 _ rfl rfl (by rw [List.size_toArray,arL_len];exact hTv13.there) (by rw [List.size_toArray];exact sizeG _) (all_oneCell_toArray (arL_one 16 _)) ?_
  refine hK.out _ _ (by have q:=hEv13.apart (b:=gT10) (by omega) (arL 16 (tr (adF b (rk f 0)))) 0;have q2:=q.rangeO 0 16 (by omega);rwa [hr0]at q2) (fun hH'=> ?_)
  clear hK K
  try simp only [Act.put]
  refine wpAnyH_done (by kernel_rfl) ?_ _
  exact NoPanic.normal (HQ.out gT10 _ (by omega) (hTv13.whole _) (hRv13.apart (by omega) _ _) (hEv13.apart (by omega) _ _) (hBv13.trans (Below.setCells (Below.refl _ _) (by omega) _ _)))
end
section
open Go.RowKit
set_option linter.unusedVariables false
set_option maxRecDepth 100000
set_option maxHeartbeats 4000000 in
theorem refencrypt (f b:Nat→Nat) (w:World) (hf:B16 f) (hb:B16 b):
  Calls Tryz.prog 94 #[.agg (arL 432 (pkF (ek f) sb)).toArray,.agg (arL 16 b).toArray] w fun e w'=>e= .returned (.agg (arL 16 (enF f b)).toArray)∧Below w.heap.size w w':=by
 have hz:=zero16b
 obtain⟨kA,hkA⟩:=Le ((arL 432 (pkF (ek f) sb)).toArray)
 obtain⟨kB,hkB⟩:=Le ((arL 16 b).toArray)
 obtain⟨w1,hw1⟩:=Lv (w.alloc (.cells (arL 432 (pkF (ek f) sb)).toArray 48))
 have hs1:=Zs1 hw1
 have hb1:=Bl hw1
 have hK1:Ar w1 w.heap.size 432 (pkF (ek f) sb):=by rw [hw1];exact Ar.new w 432 _ _
 obtain⟨w2,hw2⟩:=Lv (w1.alloc (.cells (arL 16 b).toArray 22))
 have hs2:=Zs2 hw2 hs1
 have hb2:=Bm hw2 hb1
 have hC2:Ar w2 (w.heap.size+1) 16 b:=by rw [hw2,←hs1];exact Ar.new w1 16 b _
 have hK2:=ara hw2 hK1
 obtain⟨w3,hw3⟩:=Lv (w2.alloc (.cells (arL 16 fun _=>0).toArray 22))
 have hB3:=Bm hw3 hb2
 have hR3:Ar w3 (w.heap.size+2) 16 (fun _=>0):=by rw [hw3,←hs2];exact Ar.new w2 16 _ _
 have hC3:=ara hw3 hC2
 have hE3:=ara hw3 hK2
 have HKA:=Lib.hid hkA
 have HKB:=Lib.hid hkB
 rw [hkA]at hw1
 rw [hkB]at hw2
 rw [hkA,hkB]
 clear hb1 hK1 hkA hkB hb2 hK2 hC2
 have HF:=Lib.hid hf
 have HBB:=Lib.hid hb
 have hrow:=Lib.hid (show∀r,r≤10→arL 16 (fun j=>pkF (ek f) sb (r*16+j))=arL 16 (rk f r)from fun r hr=>arL_ext (fun j hj=>by
  rw [pkF,if_pos (by omega),Nat.mul_comm r 16,ek_rk f r j hj]))
 have htab:=Lib.hid (show(arL 256 (fun j=>pkF (ek f) sb (176+j))).toArray=boxA by
  rw [arL_ext (n:=256) (g:=sb) (fun j hj=>by rw [pkF,if_neg (by omega),Nat.add_sub_cancel_left])];rfl)
 have hrk:=Lib.hid (fun r=>rk_lt f hf r)
 have hel:=Lib.hid (enR_lt hf hb)
 have hstep:=Lib.hid (show∀r,1≤r→r<10→adF (miF (shF (suF (enR f b (r-1))))) (rk f r)=enR f b r from fun r h1 h2=>by
  obtain⟨s,rfl⟩: ∃s,r=s+1:=⟨r-1,by omega⟩
  rw [enR,if_pos h2,Nat.add_sub_cancel])
 have hlast:=Lib.hid (show adF (shF (suF (enR f b 9))) (rk f 10)=enR f b 10 from rfl)
 obtain⟨pk,hpk⟩: ∃pk:Nat→Nat,pk=pkF (ek f) sb:=⟨_,rfl⟩
 rw [←hpk]at hrow htab hE3
 clear hf hb hpk HKA
 go_enter Tryz.func94,Tryz.ntmps94
 go_upto_region 1 with fail
 rw [←hw1,←hw2,←hw3]
 clear hw1 hw2 hw3 hs1 hs2
 obtain⟨gE,hgE⟩:=Le (w.heap.size)
 obtain⟨gC,hgC⟩:=Le (w.heap.size+1)
 obtain⟨gR,hgR⟩:=Le (w.heap.size+2)
 have hgR2:w.heap.size+1+1=gR:=hgR
 rw [hgC]at hC3
 rw [hgR]at hR3
 rw [hgE]at hE3
 try rw [hgR2]
 try rw [hgR]
 try rw [hgC]
 try simp only [hgE]
 have hlB:w.heap.size≤gE:=by omega
 have hlC:gE<gC:=by omega
 have hlR:gC<gR:=by omega
 clear hgC hgR hgR2
 refine reReg f b pk gE gC gR w.heap.size (hrow.out 0 (by omega)) HBB.out (hrk.out 0) hlB hlC hlR hC3 hR3 hE3 hB3 ?_
 intro gT w4 hlT hT4 hR4 hE4 hB4
 rw [show adF b (rk f 0)=enR f b 0 from rfl]at hT4
 rw [show adF b (rk f 0)=enR f b 0 from rfl]
 clear hC3 hR3 hE3 hB3
 go_wp2_with fail
 go_loopw [6] (fun i wr=> ∃r:Nat,1≤r∧r≤11∧i= .int .i64 r∧Ar wr gT 16 (tr (enR f b (r-1)))∧Ar wr gR 16 (fun _=>0)∧Ar wr gE 432 pk∧Below w.heap.size w wr) (fun i _=>11-(intOf i).toNat)
 case atStart=>exact⟨1,by omega,by omega,rfl,hT4,hR4,hE4,hB4⟩
 case round=>
  clear hT4 hR4 hE4 hB4
  obtain⟨r,hr1,hr,rfl,hT0,hR0,hE0,hB0⟩:=hrel
  by_cases hlt:r<11
  ·have i1:(r:Int)≤10:=by omega
   have i2:(r:Int)<11:=by omega
   go_upto_region 5 with fail
   go_upto_region 6 with (first
    |(refine wpList_load_ar rfl _ _ rfl _ _ _ rfl hT0 Tryz.arrG (sizeG _) ?_)
    |(refine wpList_load_arO rfl _ _ rfl _ 432 176 256 _ rfl hE0 (by omega) Tryz.arr256 (size_arL _) ?_;rw [htab.out])
    |fail)
   refine(rSub (enR f b (r-1)) _ (hel.out _)).mono ?_
   rintro e w10 ⟨rfl,hq⟩
   have hT1:=hT0.t hq
   have hR1:=hR0.t hq
   have hE1:=hE0.t hq
   have hB1:=Tq hB0 hq
   clear hT0 hR0 hE0 hB0 hq
   go_wp2_with fail
   refine(rShift (suF (enR f b (r-1))) _ (suF_lt _)).mono ?_
   rintro e w11 ⟨rfl,hq⟩
   have hT2:=hT1.t hq
   have hR2:=hR1.t hq
   have hE2:=hE1.t hq
   have hB2:=Tq hB1 hq
   clear hT1 hR1 hE1 hB1 hq
   have HS:=Lib.hid (show B16 (shF (suF (enR f b (r-1))))from shF_lt (suF_lt _))
   by_cases h10:r<10
   ·have i3:(r:Int)<10:=by omega
    have hst:=Lib.hid (hstep.out r hr1 h10)
    generalize shF (suF (enR f b (r-1)))=Y0 at*
    go_upto_region 7 with (first
     |(refine wpList_store_ar rfl _ _ _ rfl _ _ _ (tr Y0) rfl rfl hT2 (sizeG _) ?_;intro w12 hT3 hb3 hs3 hk3)
     |fail)
    have hR3:=hk3 _ _ _ (by omega) hR2
    have hE3:=hk3 _ _ _ (by omega) hE2
    have hB3:=hB2.trans (hb3.mono (by omega))
    clear hT2 hR2 hE2 hB2 hb3 hs3 hk3
    go_wp2_with (refine wpList_load_ar rfl _ _ rfl _ _ _ rfl hT3 Tryz.arrG (sizeG _) ?_)
    refine(rMix Y0 _ HS.out).mono ?_
    rintro e w13 ⟨rfl,hq⟩
    have hT4:=hT3.t hq
    have hR4:=hR3.t hq
    have hE4:=hE3.t hq
    have hB4:=Tq hB3 hq
    clear hT3 hR3 hE3 hB3 hq
    have HM:=Lib.hid (miF_lt Y0)
    generalize miF Y0=Y at*
    go_wp2_with (refine wpList_store_ar rfl _ _ _ rfl _ _ _ (tr Y) rfl rfl hT4 (sizeG _) ?_;intro w14 hT5 hb5 hs5 hk5)
    have hR5:=hk5 _ _ _ (by omega) hR4
    have hE5:=hk5 _ _ _ (by omega) hE4
    have hB5:=hB4.trans (hb5.mono (by omega))
    clear hT4 hR4 hE4 hB4 hb5 hs5 hk5 HS
    have rE:=hE5.rangeO (r*16) 16 (by omega)
    rw [hrow.out r (by omega)]at rE
    have hTd:=hT5.drew
    have hRd:=hR5.drew
    have hEd:=hE5.drew
    have hBd:=hB5.drew
    clear hT5 hR5 hE5 hB5
    refine wp_region_held_drew (S:=fun W=>W.rangeAt gE (r*16) (arL 16 (rk f r))) (by kernel_rfl) (by rwa [World.rangeAt_drew]) (fun hH'=> ?_)
    clear rE
    generalize w14.drew=wd at*
    refine tw 1 ?vca1 rfl ?hyca1 ?restca1
    case hyca1=>
     intro W hSw
     go_simp
     try with_reducible rfl
    simp only [Act.put,nrm]
    refine tw 2 ?vca2 rfl ?hyca2 ?restca2
    case hyca2=>
     intro W hSw
     go_simp
     try with_reducible rfl
    simp only [Act.put,nrm]
    refine tw 3 ?vca3 rfl ?hyca3 ?restca3
    case hyca3=>
     intro W hSw
     go_simp
     try with_reducible rfl
    simp only [Act.put,nrm]
    refine tk 4 (.agg (arL 16 (rk f r)).toArray) rfl (yieldsIf_load_mid (by rfl) _ _ rfl gE (r*16) rfl (arL 16 (rk f r)) _ (fun W hSw=>hSw) Tryz.arr16b rfl (size16b _)) ?_
    simp only [Act.put,nrm]
    refine rd 0 rfl (fun K hK=> ?_)
    rw [if_pos (by rfl)]
    refine wp_load_mid _ _ rfl gT 0 rfl (arL 16 (tr Y)) _ hTd.range Tryz.arrG rfl (sizeG _) ?_
    refine hK.out _ _ hH' (fun hH'=> ?_)
    clear hK K
    try simp only [Act.put,nrm]
    refine rd 5 rfl (fun K hK=> ?_)
    go_simp
    refine(rAdd Y (rk f r) _ HM.out (hrk.out r)).mono ?_
    rintro e w16 ⟨rfl,hq⟩
    go_wp2_with fail
    refine hK.out _ _ (row_kept hH' hq) (fun hH'=> ?_)
    clear hK K
    have hTw16:=hTd.t hq
    have hRw16:=hRd.t hq
    have hEw16:=hEd.t hq
    have hBw16:=Tq hBd hq
    clear hq hTd hRd hEd hBd
    try simp only [Act.put,nrm]
    refine rd 6 rfl (fun K hK=> ?_)
    rw [if_pos (by rfl)]
    refine wp_store_mid _ _ _ rfl gT 0 _ rfl rfl (by rw [List.size_toArray,arL_len];exact hTw16.there) (by rw [List.size_toArray];exact sizeG _) (all_oneCell_toArray (arL_one 16 (tr (adF Y (rk f r))))) ?_
    have hTw17:=hTw16.whole (tr (adF Y (rk f r)))
    have hBw17:=hBw16.trans (Below.setCells (Below.refl w.heap.size _) (b:=gT) (by omega) (arL 16 (tr (adF Y (rk f r)))) 0)
    have hRw17:=hRw16.apart (b:=gT) (by omega) (arL 16 (tr (adF Y (rk f r)))) 0
    have hEw17:=hEw16.apart (b:=gT) (by omega) (arL 16 (tr (adF Y (rk f r)))) 0
    dsimp only [List.toList_toArray]
    generalize World.setCells w16 gT 0 (arL 16 (tr (adF Y (rk f r))))=w17 at*
    refine hK.out _ _ (by have q:=hEw17.rangeO (r*16) 16 (by omega);rwa [hrow.out r (by omega)]at q) (fun hH'=> ?_)
    clear hK K hTw16 hRw16 hEw16 hBw16 hH'
    try simp only [Act.put]
    refine wpAnyH_done (by kernel_rfl) ?_ _
    rw [hst.out]at hTw17
    clear i2
    go_wp2_with fail
    go_roundw
    case rel=>exact⟨r+1,by omega,by omega,by go_num,by rw [Nat.add_sub_cancel];exact hTw17,hRw17,hEw17,hBw17⟩
    case measure=>simp [intOf];try omega
   ·obtain rfl:r=10:=by omega
    have hst:=Lib.hid hlast.out
    rw [show 10-1=9 from rfl]at*
    generalize shF (suF (enR f b 9))=Y at*
    go_wp2_with (first
     |(refine wpList_store_ar rfl _ _ _ rfl _ _ _ (tr Y) rfl rfl hT2 (sizeG _) ?_;intro w14 hT5 hb5 hs5 hk5)
     |fail)
    have hR5:=hk5 _ _ _ (by omega) hR2
    have hE5:=hk5 _ _ _ (by omega) hE2
    have hB5:=hB2.trans (hb5.mono (by omega))
    clear hT2 hR2 hE2 hB2 hb5 hs5 hk5
    have HM:=HS
    clear HS
    have rE:=hE5.rangeO (160) 16 (by omega)
    rw [hrow.out 10 (by omega)]at rE
    have hTd:=hT5.drew
    have hRd:=hR5.drew
    have hEd:=hE5.drew
    have hBd:=hB5.drew
    clear hT5 hR5 hE5 hB5
    refine wp_region_held_drew (S:=fun W=>W.rangeAt gE (160) (arL 16 (rk f 10))) (by kernel_rfl) (by rwa [World.rangeAt_drew]) (fun hH'=> ?_)
    clear rE
    generalize w14.drew=wd at*
    refine tw 1 ?vcb1 rfl ?hycb1 ?restcb1
    case hycb1=>
     intro W hSw
     go_simp
     try with_reducible rfl
    simp only [Act.put,nrm]
    refine tw 2 ?vcb2 rfl ?hycb2 ?restcb2
    case hycb2=>
     intro W hSw
     go_simp
     try with_reducible rfl
    simp only [Act.put,nrm]
    refine tw 3 ?vcb3 rfl ?hycb3 ?restcb3
    case hycb3=>
     intro W hSw
     go_simp
     try with_reducible rfl
    simp only [Act.put,nrm]
    refine tk 4 (.agg (arL 16 (rk f 10)).toArray) rfl (yieldsIf_load_mid (by rfl) _ _ rfl gE (160) rfl (arL 16 (rk f 10)) _ (fun W hSw=>hSw) Tryz.arr16b rfl (size16b _)) ?_
    simp only [Act.put,nrm]
    refine rd 0 rfl (fun K hK=> ?_)
    rw [if_pos (by rfl)]
    refine wp_load_mid _ _ rfl gT 0 rfl (arL 16 (tr Y)) _ hTd.range Tryz.arrG rfl (sizeG _) ?_
    refine hK.out _ _ hH' (fun hH'=> ?_)
    clear hK K
    try simp only [Act.put,nrm]
    refine rd 5 rfl (fun K hK=> ?_)
    go_simp
    refine(rAdd Y (rk f 10) _ HM.out (hrk.out 10)).mono ?_
    rintro e w16 ⟨rfl,hq⟩
    go_wp2_with fail
    refine hK.out _ _ (row_kept hH' hq) (fun hH'=> ?_)
    clear hK K
    have hTw16:=hTd.t hq
    have hRw16:=hRd.t hq
    have hEw16:=hEd.t hq
    have hBw16:=Tq hBd hq
    clear hq hTd hRd hEd hBd
    try simp only [Act.put,nrm]
    refine rd 6 rfl (fun K hK=> ?_)
    rw [if_pos (by rfl)]
    refine wp_store_mid _ _ _ rfl gT 0 _ rfl rfl (by rw [List.size_toArray,arL_len];exact hTw16.there) (by rw [List.size_toArray];exact sizeG _) (all_oneCell_toArray (arL_one 16 (tr (adF Y (rk f 10))))) ?_
    have hTw17:=hTw16.whole (tr (adF Y (rk f 10)))
    have hBw17:=hBw16.trans (Below.setCells (Below.refl w.heap.size _) (b:=gT) (by omega) (arL 16 (tr (adF Y (rk f 10)))) 0)
    have hRw17:=hRw16.apart (b:=gT) (by omega) (arL 16 (tr (adF Y (rk f 10)))) 0
    have hEw17:=hEw16.apart (b:=gT) (by omega) (arL 16 (tr (adF Y (rk f 10)))) 0
    dsimp only [List.toList_toArray]
    generalize World.setCells w16 gT 0 (arL 16 (tr (adF Y (rk f 10))))=w17 at*
    refine hK.out _ _ (by have q:=hEw17.rangeO (160) 16 (by omega);rwa [hrow.out 10 (by omega)]at q) (fun hH'=> ?_)
    clear hK K hTw16 hRw16 hEw16 hBw16 hH'
    try simp only [Act.put]
    refine wpAnyH_done (by kernel_rfl) ?_ _
    rw [hst.out]at hTw17
    clear i2
    go_wp2_with fail
    go_roundw
    case rel=>exact⟨10+1,by omega,by omega,by go_num,by rw [Nat.add_sub_cancel];exact hTw17,hRw17,hEw17,hBw17⟩
    case measure=>simp [intOf];try omega
  ·obtain rfl:r=11:=by omega
   go_wp2_with (refine wpList_load_ar rfl _ _ rfl _ _ _ rfl hT0 Tryz.arrG (sizeG _) ?_)
   refine(rBlock (enR f b 10) _).mono ?_
   rintro e w10 ⟨rfl,hq⟩
   have hR1:=hR0.t hq
   have hB1:=Tq hB0 hq
   clear hT0 hR0 hE0 hB0 hq
   go_wp2_with (refine wpList_store_ar rfl _ _ _ rfl _ _ _ (enR f b 10) rfl rfl hR1 (size16b _) ?_;intro w15 hR2 hb2 hs2 hk2)
   refine bodyPost_ret_ar rfl rfl hR2 Tryz.arr16b (size16b _) rfl ⟨rfl,hB1.trans (hb2.mono (by omega))⟩
end
end Go.Proofs.YtiacbphnclgikaaGreatDoor
