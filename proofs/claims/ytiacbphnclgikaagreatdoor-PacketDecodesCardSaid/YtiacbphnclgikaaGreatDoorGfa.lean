/-
 Contracts of package fast, by walks through their texts, one after the other; what was there stays as it was.
-/
import Derived.Test.YtiacbphnclgikaaGreatDoorSqz
import Derived.Test.YtiacbphnclgikaaGreatDoorFre
import Derived.Test.YtiacbphnclgikaaGreatDoorGke
import Derived.Test.YtiacbphnclgikaaGreatDoorGcr
import Derived.BigRegion
import Derived.Test.YtiacbphnclgikaaGreatDoorGsb
import Derived.Test.YtiacbphnclgikaaGreatDoorGfi
import Derived.Deep.RegionHeld3
import Derived.Test.YtiacbphnclgikaaGreatDoorCaw
namespace Go.Proofs.YtiacbphnclgikaaGreatDoor
section
open Go.RowKit
set_option linter.unusedVariables false
set_option maxRecDepth 100000
theorem rotr8 (x:Nat) (w:World) (hx:x<4294967296):
  Calls Tryz.prog 100 #[.int .u32 x,.int .i64 (-8)] w fun e w'=>e= .returned (.int .u32 (rotN x 24:Nat))∧w'=w:=by
 have hr:Hid (bits BinOp.or IntKind.u32 ((x:Int)*2^24%4294967296) ((x:Int)/2^8)=((rotN x 24:Nat):Int)):=by
  have e1:((x:Int)*2^24%4294967296)=((x*2^24%4294967296:Nat):Int):=by simp
  have e2:((x:Int)/2^8)=((x/2^(32-24):Nat):Int):=by simp
  unfold Hid
  rw [e1,e2,or_u32 _ _ (Nat.mod_lt _ (by decide)) (Nat.lt_of_le_of_lt (Nat.div_le_self _ _) hx),rot_or x 24 hx (by decide)]
 have hk1:IntKind.u64.wrap (-8)=18446744073709551608:=by decide+kernel
 have hk2:bits BinOp.and IntKind.u64 18446744073709551608 31=24:=by decide+kernel
 go_enter Tryz.func100,Tryz.ntmps100
 go_wp2
 go_ret
 exact⟨fret_of hr.out,rfl⟩
theorem rotr16 (x:Nat) (w:World) (hx:x<4294967296):
  Calls Tryz.prog 100 #[.int .u32 x,.int .i64 (-16)] w fun e w'=>e= .returned (.int .u32 (rotN x 16:Nat))∧w'=w:=by
 have hr:Hid (bits BinOp.or IntKind.u32 ((x:Int)*2^16%4294967296) ((x:Int)/2^16)=((rotN x 16:Nat):Int)):=by
  have e1:((x:Int)*2^16%4294967296)=((x*2^16%4294967296:Nat):Int):=by simp
  have e2:((x:Int)/2^16)=((x/2^(32-16):Nat):Int):=by simp
  unfold Hid
  rw [e1,e2,or_u32 _ _ (Nat.mod_lt _ (by decide)) (Nat.lt_of_le_of_lt (Nat.div_le_self _ _) hx),rot_or x 16 hx (by decide)]
 have hk1:IntKind.u64.wrap (-16)=18446744073709551600:=by decide+kernel
 have hk2:bits BinOp.and IntKind.u64 18446744073709551600 31=16:=by decide+kernel
 go_enter Tryz.func100,Tryz.ntmps100
 go_wp2
 go_ret
 exact⟨fret_of hr.out,rfl⟩
theorem rotr24 (x:Nat) (w:World) (hx:x<4294967296):
  Calls Tryz.prog 100 #[.int .u32 x,.int .i64 (-24)] w fun e w'=>e= .returned (.int .u32 (rotN x 8:Nat))∧w'=w:=by
 have hr:Hid (bits BinOp.or IntKind.u32 ((x:Int)*2^8%4294967296) ((x:Int)/2^24)=((rotN x 8:Nat):Int)):=by
  have e1:((x:Int)*2^8%4294967296)=((x*2^8%4294967296:Nat):Int):=by simp
  have e2:((x:Int)/2^24)=((x/2^(32-8):Nat):Int):=by simp
  unfold Hid
  rw [e1,e2,or_u32 _ _ (Nat.mod_lt _ (by decide)) (Nat.lt_of_le_of_lt (Nat.div_le_self _ _) hx),rot_or x 8 hx (by decide)]
 have hk1:IntKind.u64.wrap (-24)=18446744073709551592:=by decide+kernel
 have hk2:bits BinOp.and IntKind.u64 18446744073709551592 31=8:=by decide+kernel
 go_enter Tryz.func100,Tryz.ntmps100
 go_wp2
 go_ret
 exact⟨fret_of hr.out,rfl⟩
theorem fstack (a b c d:Nat) (w:World) (ha:a<4294967296) (hb:b<4294967296) (hc:c<4294967296) (hd:d<4294967296):
  Calls Tryz.prog 67 #[.int .u32 a,.int .u32 b,.int .u32 c,.int .u32 d] w fun e w'=>e= .returned (.int .u32 (stk a b c d:Nat))∧w'=w:=by
 have hb2:=rotN_lt b hb 24
 have hc2:=rotN_lt c hc 16
 have hd2:=rotN_lt d hd 8
 have e1:=Lib.hid (xor_u32 a (rotN b 24) ha hb2)
 have l1:=xor32_lt a (rotN b 24) ha hb2
 have e2:=Lib.hid (xor_u32 _ (rotN c 16) l1 hc2)
 have l2:=xor32_lt _ (rotN c 16) l1 hc2
 have e3:=Lib.hid (xor_u32 _ (rotN d 8) l2 hd2)
 have r1:=Lib.hid (rotr8 b w hb)
 have r2:=Lib.hid (rotr16 c w hc)
 have r3:=Lib.hid (rotr24 d w hd)
 rw [show stk a b c d=a^^^rotN b 24^^^rotN c 16^^^rotN d 8 from rfl]
 generalize rotN b 24=rb at*
 generalize rotN c 16=rc at*
 generalize rotN d 8=rd at*
 go_enter Tryz.func67,Tryz.ntmps67
 go_wp2_with fail
 refine r1.out.mono ?_
 rintro e w' ⟨rfl,rfl⟩
 have e1:=e1.out
 go_wp2_with fail
 refine r2.out.mono ?_
 rintro e w' ⟨rfl,rfl⟩
 have e2:=e2.out
 go_wp2_with fail
 refine r3.out.mono ?_
 rintro e w' ⟨rfl,rfl⟩
 have e3:=e3.out
 go_wp2_with fail
 go_ret
 exact⟨rfl,rfl⟩
theorem gat_facts (a b c d:Nat) (ha:a<4294967296) (hb:b<4294967296) (hc:c<4294967296) (hd:d<4294967296): ∃A B C D X Y:Nat,
  bits .and .u32 (a:Int) 4278190080=(A:Int)∧bits .and .u32 (b:Int) 16711680=(B:Int)∧bits .and .u32 (c:Int) 65280=(C:Int)∧bits .and .u32 (d:Int) 255=(D:Int)∧
  bits .or .u32 (A:Int) (B:Int)=(X:Int)∧bits .or .u32 (X:Int) (C:Int)=(Y:Int)∧bits .or .u32 (Y:Int) (D:Int)=((gat a b c d:Nat):Int):=by
 have l0:=wb_lt a 0
 have l1:=wb_lt b 1
 have l2:=wb_lt c 2
 have l3:=wb_lt d 3
 have n1:wb a 0*16777216|||wb b 1*65536<4294967296:=Nat.or_lt_two_pow (n:=32) (by omega) (by omega)
 have n2:wb a 0*16777216|||wb b 1*65536|||wb c 2*256<4294967296:=Nat.or_lt_two_pow (n:=32) n1 (by omega)
 refine⟨wb a 0*16777216,wb b 1*65536,wb c 2*256,wb d 3,_,_,?_,?_,?_,?_,or_u32 _ _ (by omega) (by omega),or_u32 _ _ n1 (by omega),?_⟩
 ·have h:=and_u32 a 4278190080 ha (by decide);rw [and_b0 a ha]at h;exact h
 ·have h:=and_u32 b 16711680 hb (by decide);rw [and_b1 b hb]at h;exact h
 ·have h:=and_u32 c 65280 hc (by decide);rw [and_b2 c hc]at h;exact h
 ·have h:=and_u32 d 255 hd (by decide);rw [and_b3 d]at h;exact h
 ·rw [or_u32 _ _ n2 (by omega),quad_or _ _ _ _ l1 l2 l3];rfl
theorem fgather (a b c d:Nat) (w:World) (ha:a<4294967296) (hb:b<4294967296) (hc:c<4294967296) (hd:d<4294967296):
  Calls Tryz.prog 69 #[.int .u32 a,.int .u32 b,.int .u32 c,.int .u32 d] w fun e w'=>e= .returned (.int .u32 (gat a b c d:Nat))∧w'=w:=by
 obtain⟨A,B,C,D,X,Y,a0,a1,a2,a3,o1,o2,o3⟩:=gat_facts a b c d ha hb hc hd
 go_enter Tryz.func69,Tryz.ntmps69
 go_wp2
 go_ret
 exact⟨rfl,rfl⟩
end
section
open Go.RowKit
set_option linter.unusedVariables false
set_option maxRecDepth 100000
theorem Tryz.arrCw:Tryz.prog.underlying 64=some (.array 4 62):=by kernel_rfl
theorem sizeCw (f:Nat→Nat):(Tryz.prog.info? 64).map (·.size)=some (awL 4 f).length:=by rw [awL_len];kernel_rfl
theorem aw4 (W:Nat→Nat):(awL 4 W).toArray= #[.int .u32 (W 0:Nat),.int .u32 (W 1:Nat),.int .u32 (W 2:Nat),.int .u32 (W 3:Nat)]:=rfl
def spl (f:Nat→Nat) (n i:Nat):Nat:=pre f (4*i) (min 4 (n-4*i))
theorem spl_zero (f:Nat→Nat) (i:Nat):spl f 0 i=0:=by simp [spl,pre]
theorem spl_end (f:Nat→Nat) (i:Nat) (hi:i<4):spl f 16 i=wd f i:=by
 rw [spl,show min 4 (16-4*i)=4 by omega,pre_four]
theorem spl_step (f:Nat→Nat) (n i:Nat) (hn:n<16):(if i=n/4 then pre f (4*(n/4)) (n%4+1)else spl f n i)=spl f (n+1) i:=by
 unfold spl
 by_cases h:i=n/4
 ·subst h
  rw [if_pos rfl,show min 4 (n+1-4*(n/4))=n%4+1 by omega]
 ·rw [if_neg h]
  congr 1;omega
theorem spl_now (f:Nat→Nat) (n:Nat):spl f n (n/4)=pre f (4*(n/4)) (n%4):=by
 rw [spl,show min 4 (n-4*(n/4))=n%4 by omega]
set_option maxHeartbeats 800000 in
theorem fsplit (f:Nat→Nat) (w:World) (hf:B16 f):
  Calls Tryz.prog 24 #[.agg (arL 16 f).toArray] w fun e w'=>e= .returned (.agg #[.int .u32 (wd f 0:Nat),.int .u32 (wd f 1:Nat),.int .u32 (wd f 2:Nat),.int .u32 (wd f 3:Nat)])∧Below w.heap.size w w':=by
 obtain⟨kA,hkA⟩:=Le ((arL 16 f).toArray)
 obtain⟨w1,hw1⟩:=Lv (w.alloc (.cells (arL 16 f).toArray 22))
 have hs1:=Zs1 hw1
 have hb1:=Bl hw1
 have hK1:Ar w1 w.heap.size 16 f:=by rw [hw1];exact Ar.new w 16 _ _
 obtain⟨w2,hw2⟩:=Lv (w1.alloc (.cells #[.int .u32 0,.int .u32 0,.int .u32 0,.int .u32 0] 64))
 have hs2:=Zs2 hw2 hs1
 have hb2:=Bm hw2 hb1
 have hR2:Aw w2 (w.heap.size+1) 4 (fun _=>0):=by rw [hw2,←hs1];exact Aw.new w1 4 (fun _=>0) _
 have hK2:=ara hw2 hK1
 obtain⟨w3,hw3⟩:=Lv (w2.alloc (.cells #[.int .u32 0,.int .u32 0,.int .u32 0,.int .u32 0] 64))
 have hb3:=Bm hw3 hb2
 have hT3:Aw w3 (w.heap.size+2) 4 (spl f 0):=by
  have h:Aw w3 (w.heap.size+2) 4 (fun _=>0):=by rw [hw3,←hs2];exact Aw.new w2 4 (fun _=>0) _
  exact h.ext (fun j _=>(spl_zero f j).symm)
 have hR3:=awa hw3 hR2
 have hK3:=ara hw3 hK2
 rw [hkA]at hw1
 rw [hkA]
 clear hb1 hK1 hb2 hR2 hK2 hkA
 have hstep:=Lib.hid (fun o n ho hn=>pre_step f o n hf ho hn)
 have hlt:=Lib.hid (fun o n h=>pre_lt f o hf n h)
 have hix:=Lib.hid (fun n (hn:n<16)=>hf n hn)
 have hget:=Lib.hid (fun n hn=>arL_get 16 f n hn)
 clear hf
 go_enter Tryz.func24,Tryz.ntmps24
 go_upto_region 2 with fail
 rw [←hw1,←hw2,←hw3]
 clear hw1 hw2 hw3 hs1 hs2
 go_wp2_with (refine wpList_load_ar rfl _ _ rfl _ _ _ rfl hK3 Tryz.arr16b (size16b _) ?_)
 obtain⟨kB,hkB⟩:=Le ((arL 16 f).toArray)
 rw [hkB]
 go_loopw [7] (fun i wr=> ∃n:Nat,n≤16∧i= .int .i64 n∧Aw wr (w.heap.size+1) 4 (fun _=>0)∧Aw wr (w.heap.size+2) 4 (spl f n)∧Below w.heap.size w wr) (fun i _=>16-(intOf i).toNat)
 case atStart=>exact⟨0,Nat.zero_le _,rfl,hR3,hT3,hb3⟩
 case round=>
  clear hR3 hT3 hb3 hK3
  obtain⟨n,hn,rfl,hR,hT,hB⟩:=hrel
  by_cases hl:n<16
  ·have hix2: ∀V,(Instr.index 22 (.agg kB) (.int .i64 n)).run Tryz.prog V= .ok (.int .u8 (f n:Nat)) V:=fun V=>
    run_index_arr Tryz.arr16b Tryz.underlying5 rfl (by kernel_rfl) kB n _ hl (by rw [←hkB,List.getElem?_toArray];exact hget.out n hl) V
   obtain⟨q,hq⟩:=Lv (n/4)
   obtain⟨k,hk⟩:=Lv (n%4)
   have e0:4*q+k=n:=by omega
   have hq1:((n:Int)).tdiv 4=(q:Int):=by rw [Int.tdiv_eq_ediv_of_nonneg (by omega)];omega
   have hq2:(n:Int)/4=(q:Int):=by omega
   have hq4:q<4:=by omega
   have hs:=Lib.hid (hstep.out (4*q) k (by omega) (by omega))
   have h3:pre f (4*q) k<16777216:=by have:=hlt.out (4*q) k (by omega);have h3:256^k≤256^3:=Nat.pow_le_pow_right (by decide) (by omega);omega
   have hfn:=hix.out n hl
   obtain⟨c0,d0⟩:=hT q hq4
   rw [show spl f n q=pre f (4*q) k by rw [hq,hk];exact spl_now f n]at c0
   rw [e0]at hs
   have hup:=Lib.hid (fun i=>spl_step f n i hl)
   rw [←hq,←hk]at hup
   clear hq hk
   go_wp2_with fail
   go_roundw
   case rel=>
    refine⟨n+1,by omega,by go_num,hR.far (p:=⟨w.heap.size+2,q,none⟩) (by simp) _,(hT.set (j:=q) (v:=pre f (4*q) (k+1)) (by omega) ?_).ext (fun m _=>hup.out m),hB.setCell (p:=⟨w.heap.size+2,q,none⟩) (by simp) _⟩
    exact hs.out
   case measure=>simp [intOf];omega
  ·obtain rfl:n=16:=by omega
   have hT2:=hT.ext (fun j hj=>spl_end f j hj)
   clear hT
   go_wp2_with (first
    |(refine wpList_load_aw rfl _ _ rfl _ _ _ rfl hT2 Tryz.arrCw (sizeCw _) ?_)
    |(refine wpList_store_aw rfl _ _ _ rfl _ _ _ (wd f) rfl rfl hR (sizeCw _) ?_;intro w8 hA8 hb8 _ _))
   refine bodyPost_ret_aw rfl rfl hA8 Tryz.arrCw (sizeCw _) rfl ⟨rfl,?_⟩
   exact hB.trans (hb8.mono (by omega))
set_option maxHeartbeats 800000 in
theorem fjoin0 (W:Nat→Nat) (hW: ∀i,i<4→W i<4294967296) (w:World):
  Calls Tryz.prog 48 #[.agg #[.int .u32 (W 0:Nat),.int .u32 (W 1:Nat),.int .u32 (W 2:Nat),.int .u32 (W 3:Nat)]] w fun e w'=>e= .returned (.agg (arL 16 (jn W)).toArray)∧Below w.heap.size w w':=by
 have hz:=zero16b
 obtain⟨w1,hw1⟩:=Lv (w.alloc (.cells #[.int .u32 (W 0:Nat),.int .u32 (W 1:Nat),.int .u32 (W 2:Nat),.int .u32 (W 3:Nat)] 64))
 have hs1:=Zs1 hw1
 have hb1:=Bl hw1
 have hK1:Aw w1 w.heap.size 4 W:=by rw [hw1];exact Aw.new w 4 W _
 obtain⟨w2,hw2⟩:=Lv (w1.alloc (.cells (arL 16 fun _=>0).toArray 22))
 have hs2:=Zs2 hw2 hs1
 have hb2:=Bm hw2 hb1
 have hR2:Ar w2 (w.heap.size+1) 16 (fun _=>0):=by rw [hw2,←hs1];exact Ar.new w1 16 _ _
 have hK2:=awa hw2 hK1
 obtain⟨w3,hw3⟩:=Lv (w2.alloc (.cells (arL 16 fun _=>0).toArray 22))
 have hb3:=Bm hw3 hb2
 have hT3:Ar w3 (w.heap.size+2) 16 (fun _=>0):=by rw [hw3,←hs2];exact Ar.new w2 16 _ _
 have hR3:=ara hw3 hR2
 have hK3:=awa hw3 hK2
 clear hb1 hK1 hb2 hR2 hK2
 go_enter Tryz.func48,Tryz.ntmps48
 go_upto_region 2 with fail
 rw [←hw1,←hw2,←hw3]
 clear hw1 hw2 hw3 hs1 hs2
 go_wp2_with fail
 go_loopw [5] (fun i wr=> ∃n:Nat,n≤16∧i= .int .i64 n∧Aw wr w.heap.size 4 W∧Ar wr (w.heap.size+1) 16 (fun _=>0)∧Ar wr (w.heap.size+2) 16 (fun m=>if m<n then jn W m else 0)∧Below w.heap.size w wr) (fun i _=>16-(intOf i).toNat)
 case atStart=>exact⟨0,Nat.zero_le _,rfl,hK3,hR3,hT3.ext (fun _ _=>rfl),hb3⟩
 case round=>
  clear hK3 hR3 hT3 hb3
  obtain⟨n,hn,rfl,hK,hR,hT,hB⟩:=hrel
  by_cases hlt:n<16
  ·obtain⟨q,hq⟩:=Lv (n/4)
   obtain⟨k,hk⟩:=Lv (n%4)
   obtain⟨s,hs⟩:=Lv (24-k*8)
   have hq1:((n:Int)).tdiv 4=(q:Int):=by rw [Int.tdiv_eq_ediv_of_nonneg (by omega)];omega
   have hq2:(n:Int)/4=(q:Int):=by omega
   have hk1:((n:Int)).tmod 4=(k:Int):=by rw [Int.tmod_eq_emod_of_nonneg (by omega)];omega
   have hk2:(n:Int)%4=(k:Int):=by omega
   have e1:wrap64 ((k:Int)*8)=(k:Int)*8:=IntWalk.wrap64_in _ (by omega)
   have e2:wrap64 (24-(k:Int)*8)=(s:Int):=by rw [IntWalk.wrap64_in _ (by omega)];omega
   have e3:24-(k:Int)*8=(s:Int):=by omega
   have hby:=Lib.hid (join_byte (W q) k s (by omega) hs)
   have hj:=Lib.hid (show jn W n=wb (W q) k by rw [jn,hq,hk])
   have hq4:q<4:=by omega
   have hs32:s<32:=by omega
   obtain⟨c0,_⟩:=hK q hq4
   obtain⟨c1,d1⟩:=hT n hlt
   have hwq:=hW q hq4
   clear hq hk hs
   go_wp2_with fail
   rw [hby.out,←hj.out]
   go_roundw
   case rel=>
    exact⟨n+1,by omega,by go_num,hK.far (p:=⟨w.heap.size+2,n,none⟩) (by simp) _,hR.far (p:=⟨w.heap.size+2,n,none⟩) (by simp) _,
     (hT.set (j:=n) (v:=jn W n) (by omega) rfl).ext (fun m _=>low_step (jn W) n m),hB.setCell (p:=⟨w.heap.size+2,n,none⟩) (by simp) _⟩
   case measure=>simp [intOf];omega
  ·obtain rfl:n=16:=by omega
   have hT2:=hT.ext (f':=jn W) (fun j hj=>by rw [if_pos hj])
   clear hT
   go_wp2_with (first
    |(refine wpList_load_ar rfl _ _ rfl _ _ _ rfl hT2 Tryz.arr16b (size16b _) ?_)
    |(refine wpList_store_ar rfl _ _ _ rfl _ _ _ (jn W) rfl rfl hR (size16b _) ?_;intro w8 hA8 hb8 _ _))
   refine bodyPost_ret_ar rfl rfl hA8 Tryz.arr16b (size16b _) rfl ⟨rfl,?_⟩
   exact hB.trans (hb8.mono (by omega))
theorem fjoin (f:Nat→Nat) (w:World) (hf:B16 f):
  Calls Tryz.prog 48 #[.agg #[.int .u32 (wd f 0:Nat),.int .u32 (wd f 1:Nat),.int .u32 (wd f 2:Nat),.int .u32 (wd f 3:Nat)]] w fun e w'=>e= .returned (.agg (arL 16 f).toArray)∧Below w.heap.size w w':=by
 have h:=fjoin0 (wd f) (fun i hi=>wd_lt f i hf hi) w
 rwa [arL_ext (n:=16) (jn_wd f hf)]at h
end
section
open Go.RowKit
set_option linter.unusedVariables false
set_option maxRecDepth 100000
theorem low_up (F G:Nat→Nat) (n m:Nat):(if m=n then G n else(if m<n then G m else F m))=if m<n+1 then G m else F m:=by
 by_cases h:m=n
 ·rw [if_pos h,if_pos (by omega),h]
 ·rw [if_neg h]
  by_cases h2:m<n
  ·rw [if_pos h2,if_pos (by omega)]
  ·rw [if_neg h2,if_neg (by omega)]
set_option maxHeartbeats 800000 in
theorem fadd (f k:Nat→Nat) (w:World) (hf:B16 f) (hk:B16 k):
  Calls Tryz.prog 45 #[.agg #[.int .u32 (wd f 0:Nat),.int .u32 (wd f 1:Nat),.int .u32 (wd f 2:Nat),.int .u32 (wd f 3:Nat)],.agg #[.int .u32 (wd k 0:Nat),.int .u32 (wd k 1:Nat),.int .u32 (wd k 2:Nat),.int .u32 (wd k 3:Nat)]] w fun e w'=>e= .returned (.agg #[.int .u32 (wd (adF f k) 0:Nat),.int .u32 (wd (adF f k) 1:Nat),.int .u32 (wd (adF f k) 2:Nat),.int .u32 (wd (adF f k) 3:Nat)])∧Below w.heap.size w w':=by
 obtain⟨w1,hw1⟩:=Lv (w.alloc (.cells #[.int .u32 (wd f 0:Nat),.int .u32 (wd f 1:Nat),.int .u32 (wd f 2:Nat),.int .u32 (wd f 3:Nat)] 64))
 have hs1:=Zs1 hw1
 have hb1:=Bl hw1
 have hK1:Aw w1 w.heap.size 4 (wd f):=by rw [hw1];exact Aw.new w 4 (wd f) _
 obtain⟨w2,hw2⟩:=Lv (w1.alloc (.cells #[.int .u32 (wd k 0:Nat),.int .u32 (wd k 1:Nat),.int .u32 (wd k 2:Nat),.int .u32 (wd k 3:Nat)] 64))
 have hs2:=Zs2 hw2 hs1
 have hb2:=Bm hw2 hb1
 have hL2:Aw w2 (w.heap.size+1) 4 (wd k):=by rw [hw2,←hs1];exact Aw.new w1 4 (wd k) _
 have hK2:=awa hw2 hK1
 obtain⟨w3,hw3⟩:=Lv (w2.alloc (.cells #[.int .u32 0,.int .u32 0,.int .u32 0,.int .u32 0] 64))
 have hb3:=Bm hw3 hb2
 have hR3:Aw w3 (w.heap.size+2) 4 (fun _=>0):=by rw [hw3,←hs2];exact Aw.new w2 4 (fun _=>0) _
 have hL3:=awa hw3 hL2
 have hK3:=awa hw3 hK2
 clear hb1 hK1 hb2 hL2 hK2
 go_enter Tryz.func45,Tryz.ntmps45
 go_upto_region 1 with fail
 rw [←hw1,←hw2,←hw3]
 clear hw1 hw2 hw3 hs1 hs2
 have hl:=Lib.hid (fun i hi=>wd_lt f i hf hi)
 have hm:=Lib.hid (fun i hi=>wd_lt k i hk hi)
 have hx:=Lib.hid (fun i hi=>wd_ad f k i hf hk hi)
 clear hf hk
 go_wp2_with fail
 go_loopw [6] (fun i wr=> ∃n:Nat,n≤4∧i= .int .i64 n∧Aw wr w.heap.size 4 (fun m=>if m<n then wd (adF f k) m else wd f m)∧Aw wr (w.heap.size+1) 4 (wd k)∧Aw wr (w.heap.size+2) 4 (fun _=>0)∧Below w.heap.size w wr) (fun i _=>4-(intOf i).toNat)
 case atStart=>exact⟨0,Nat.zero_le _,rfl,hK3.ext (fun _ _=>rfl),hL3,hR3,hb3⟩
 case round=>
  clear hK3 hL3 hR3 hb3
  obtain⟨n,hn,rfl,hK,hL,hR,hB⟩:=hrel
  by_cases hlt:n<4
  ·obtain⟨c0,d0⟩:=hK n hlt
   obtain⟨c1,_⟩:=hL n hlt
   replace c0:wr.cell? ⟨w.heap.size,n,none⟩=some (.int .u32 (wd f n:Nat)):=c0.trans (by simp)
   have l0:=hl.out n hlt
   have l1:=hm.out n hlt
   have hxu:=xor_u32 (wd f n) (wd k n) l0 l1
   rw [hx.out n hlt]at hxu
   have i1:(n:Int)<4:=by omega
   have hK9:=((hK.set (j:=n) (v:=wd (adF f k) n) (by omega) rfl).ext (fun m _=>low_up (wd f) (wd (adF f k)) n m))
   have hL9:=hL.far (p:=⟨w.heap.size,n,none⟩) (by simp) (.int .u32 (wd (adF f k) n:Nat))
   have hR9:=hR.far (p:=⟨w.heap.size,n,none⟩) (by simp) (.int .u32 (wd (adF f k) n:Nat))
   have hB9:=hB.setCell (p:=⟨w.heap.size,n,none⟩) (by simp) (.int .u32 (wd (adF f k) n:Nat))
   go_upto_region 4 with fail
   refine wp_region_noPanic ?_
   go_big_region
   refine NoPanic.normal ?_
   go_wp2_with fail
   go_roundw
   case rel=>exact⟨n+1,by omega,by go_num,hK9,hL9,hR9,hB9.drew⟩
   case measure=>simp [intOf];omega
  ·obtain rfl:n=4:=by omega
   have hK8:=hK.ext (f':=wd (adF f k)) (fun j hj=>by rw [if_pos hj])
   clear hK
   go_wp2_with (first
    |(refine wpList_load_aw rfl _ _ rfl _ _ _ rfl hK8 Tryz.arrCw (sizeCw _) ?_)
    |(refine wpList_store_aw rfl _ _ _ rfl _ _ _ (wd (adF f k)) rfl rfl hR (sizeCw _) ?_;intro w8 hA8 hb8 _ _))
   refine bodyPost_ret_aw rfl rfl hA8 Tryz.arrCw (sizeCw _) rfl ⟨rfl,?_⟩
   exact hB.trans (hb8.mono (by omega))
end
section
open Go.RowKit
set_option linter.unusedVariables false
set_option maxRecDepth 100000
set_option maxHeartbeats 1600000 in
theorem fsubw (f:Nat→Nat) (w:World) (hf:B16 f) (h:Boxes w):
  Calls Tryz.prog 49 #[.agg #[.int .u32 (wd f 0:Nat),.int .u32 (wd f 1:Nat),.int .u32 (wd f 2:Nat),.int .u32 (wd f 3:Nat)]] w fun e w'=>e= .returned (.agg #[.int .u32 (wd (suF f) 0:Nat),.int .u32 (wd (suF f) 1:Nat),.int .u32 (wd (suF f) 2:Nat),.int .u32 (wd (suF f) 3:Nat)])∧Below w.heap.size w w':=by
 obtain⟨w1,hw1⟩:=Lv (w.alloc (.cells #[.int .u32 (wd f 0:Nat),.int .u32 (wd f 1:Nat),.int .u32 (wd f 2:Nat),.int .u32 (wd f 3:Nat)] 64))
 have hs1:=Zs1 hw1
 have hb1:=Bl hw1
 have hK1:Aw w1 w.heap.size 4 (wd f):=by rw [hw1];exact Aw.new w 4 (wd f) _
 obtain⟨w2,hw2⟩:=Lv (w1.alloc (.cells #[.int .u32 0,.int .u32 0,.int .u32 0,.int .u32 0] 64))
 have hb2:=Bm hw2 hb1
 have hR2:Aw w2 (w.heap.size+1) 4 (fun _=>0):=by rw [hw2,←hs1];exact Aw.new w1 4 (fun _=>0) _
 have hK2:=awa hw2 hK1
 clear hb1 hK1
 have HX:=Lib.hid h
 have hst:=Lib.hid (fun i hi=>sbw_wd f i hf hi)
 clear h
 have hl:=Lib.hid (fun i hi=>wd_lt f i hf hi)
 clear hf
 go_enter Tryz.func49,Tryz.ntmps49
 go_upto_region 1 with fail
 rw [←hw1,←hw2]
 clear hw1 hw2 hs1
 go_wp2_with (refine wpList_load_aw rfl _ _ rfl _ _ _ rfl hK2 Tryz.arrCw (sizeCw _) ?_)
 rw [aw4]
 obtain⟨kB,hkB⟩: ∃kB:Array Value,#[.int .u32 (wd f 0:Nat),.int .u32 (wd f 1:Nat),.int .u32 (wd f 2:Nat),.int .u32 (wd f 3:Nat)]=kB:=⟨_,rfl⟩
 have hget:=Lib.hid (fun n (hn:n<4)=>show kB[n]?=some (.int .u32 (wd f n:Nat))by rw [←hkB,←aw4,List.getElem?_toArray];exact awL_get 4 _ n hn)
 rw [hkB]
 go_loopw [6] (fun i wr=> ∃n:Nat,n≤4∧i= .int .i64 n∧Aw wr w.heap.size 4 (fun m=>if m<n then wd (suF f) m else wd f m)∧Aw wr (w.heap.size+1) 4 (fun _=>0)∧Below w.heap.size w wr) (fun i _=>4-(intOf i).toNat)
 case atStart=>exact⟨0,Nat.zero_le _,rfl,hK2.ext (fun _ _=>rfl),hR2,hb2⟩
 case round=>
  clear hK2 hR2 hb2
  obtain⟨n,hn,rfl,hK,hR,hB⟩:=hrel
  by_cases hlt:n<4
  ·have hix: ∀V,(Instr.index 64 (.agg kB) (.int .i64 n)).run Tryz.prog V= .ok (.int .u32 (wd f n:Nat)) V:=fun V=>
    run_index_arr Tryz.arrCw Tryz.underlying62 rfl (by kernel_rfl) kB n _ hlt (hget.out n hlt) V
   have l0:=hl.out n hlt
   have i1:(n:Int)<4:=by omega
   have k0:=Lib.hid (hst.out n hlt)
   go_wp2_with fail
   refine(sboxWord (wd f n) _ l0 (HX.out.keep hB)).mono ?_
   rintro e v4 ⟨rfl,rfl⟩
   rw [k0.out]
   have hKz:=hK
   have hRz:=hR
   have hBz:=hB
   clear hK hR hB
   have hK9:=((hKz.set (j:=n) (v:=wd (suF f) n) (by omega) rfl).ext (fun m _=>low_up (wd f) (wd (suF f)) n m))
   have hR9:=hRz.far (p:=⟨w.heap.size,n,none⟩) (by simp) (.int .u32 (wd (suF f) n:Nat))
   have hB9:=hBz.setCell (p:=⟨w.heap.size,n,none⟩) (by simp) (.int .u32 (wd (suF f) n:Nat))
   obtain⟨c0,d0⟩:=hKz n hlt
   go_wp2_with fail
   go_roundw
   case rel=>exact⟨n+1,by omega,by go_num,hK9,hR9,hB9⟩
   case measure=>simp [intOf];omega
  ·obtain rfl:n=4:=by omega
   have hK8:=hK.ext (f':=wd (suF f)) (fun j hj=>by rw [if_pos hj])
   clear hK
   go_wp2_with (first
    |(refine wpList_load_aw rfl _ _ rfl _ _ _ rfl hK8 Tryz.arrCw (sizeCw _) ?_)
    |(refine wpList_store_aw rfl _ _ _ rfl _ _ _ (wd (suF f)) rfl rfl hR (sizeCw _) ?_;intro w8 hA8 hb8 _ _))
   refine bodyPost_ret_aw rfl rfl hA8 Tryz.arrCw (sizeCw _) rfl ⟨rfl,?_⟩
   exact hB.trans (hb8.mono (by omega))
end
section
open Go.RowKit
set_option linter.unusedVariables false
set_option maxRecDepth 100000
theorem stand_facts (a b c d:Nat) (ha:a<256) (hb:b<256) (hc:c<256) (hd:d<256):
  bits .or .u32 (bits .or .u32 (bits .or .u32 ((a:Int)*16777216) ((b:Int)*65536)) ((c:Int)*256)) (d:Int)=((quad a b c d:Nat):Int):=by
 have n1:a*16777216|||b*65536<4294967296:=Nat.or_lt_two_pow (n:=32) (by omega) (by omega)
 have n2:a*16777216|||b*65536|||c*256<4294967296:=Nat.or_lt_two_pow (n:=32) n1 (by omega)
 rw [show(a:Int)*16777216=((a*16777216:Nat):Int)by omega,show(b:Int)*65536=((b*65536:Nat):Int)by omega,show(c:Int)*256=((c*256:Nat):Int)by omega,
  or_u32 _ _ (by omega) (by omega),or_u32 _ _ n1 (by omega),or_u32 _ _ n2 (by omega),quad_or _ _ _ _ hb hc hd]
theorem fstand (a b c d:Nat) (w:World) (ha:a<256) (hb:b<256) (hc:c<256) (hd:d<256):
  Calls Tryz.prog 103 #[.int .u8 a,.int .u8 b,.int .u8 c,.int .u8 d] w fun e w'=>e= .returned (.int .u32 (quad a b c d:Nat))∧w'=w:=by
 have hs:=Lib.hid (stand_facts a b c d ha hb hc hd)
 go_enter Tryz.func103,Tryz.ntmps103
 go_wp2
 go_ret
 exact⟨fret_of hs.out,rfl⟩
theorem fmixed (x:Nat) (w:World) (hx:x<256) (h:Boxes w):
  Calls Tryz.prog 68 #[.int .u8 x] w fun e w'=>e= .returned (.int .u32 (mxd x:Nat))∧w'=w:=by
 have hs:=Lib.hid (sboxS x w hx h)
 have hl:=sb_lt x
 have hq:=Lib.hid (quad_mx (sb x) hl)
 rw [show mxd x=fac 2 1 1 3 (sb x)from rfl]
 generalize sb x=s at*
 have hd:=dbl_lt s hl
 have hdo:=Lib.hid (fdouble s w hl)
 have hxo:=xor_n8 (dbl s) s hd hl
 have hl2:=xor_lt (dbl s) s hd hl
 generalize dbl s^^^s=u at*
 generalize dbl s=t at*
 go_enter Tryz.func68,Tryz.ntmps68
 go_wp2_with fail
 refine hs.out.mono ?_
 rintro e w1 ⟨rfl,rfl⟩
 go_wp2_with fail
 refine hdo.out.mono ?_
 rintro e w2 ⟨rfl,rfl⟩
 go_wp2_with fail
 refine(fstand t s s u _ hd hl hl hl2).mono ?_
 rintro e w3 ⟨rfl,rfl⟩
 rw [hq.out]
 go_wp2_with fail
 go_ret
 exact⟨rfl,rfl⟩
theorem funmixed (b:Nat) (w:World) (hb:b<256):
  Calls Tryz.prog 141 #[.int .u8 b] w fun e w'=>e= .returned (.int .u32 (umd b:Nat))∧w'=w:=by
 have h2:=dbl_lt b hb
 have h4:=dbl_lt _ h2
 have h8:=dbl_lt _ h4
 have hq:=Lib.hid (quad_um b hb)
 have d2:=Lib.hid (fdouble b w hb)
 have d4:=Lib.hid (fdouble _ w h2)
 have d8:=Lib.hid (fdouble _ w h4)
 rw [show umd b=fac 14 9 13 11 b from rfl]
 generalize dbl (dbl (dbl b))=e at*
 generalize dbl (dbl b)=f at*
 generalize dbl b=t at*
 have x1:=xor_n8 e f h8 h4
 have l1:=xor_lt e f h8 h4
 have x2:=xor_n8 (e^^^f) t l1 h2
 have l2:=xor_lt (e^^^f) t l1 h2
 have x3:=xor_n8 e b h8 hb
 have l3:=xor_lt e b h8 hb
 have x4:=xor_n8 (e^^^f) b l1 hb
 have l4:=xor_lt (e^^^f) b l1 hb
 have x5:=xor_n8 e t h8 h2
 have l5:=xor_lt e t h8 h2
 have x6:=xor_n8 (e^^^t) b l5 hb
 have l6:=xor_lt (e^^^t) b l5 hb
 generalize e^^^f^^^t=u1 at*
 generalize e^^^b=u2 at*
 generalize e^^^f^^^b=u3 at*
 generalize e^^^t^^^b=u4 at*
 generalize e^^^f=v1 at*
 generalize e^^^t=v2 at*
 go_enter Tryz.func141,Tryz.ntmps141
 go_wp2_with fail
 refine d2.out.mono ?_
 rintro e w1 ⟨rfl,rfl⟩
 go_wp2_with fail
 refine d4.out.mono ?_
 rintro e w1 ⟨rfl,rfl⟩
 go_wp2_with fail
 refine d8.out.mono ?_
 rintro e w1 ⟨rfl,rfl⟩
 go_wp2_with fail
 refine(fstand u1 u2 u3 u4 _ l2 l3 l4 l6).mono ?_
 rintro e w3 ⟨rfl,rfl⟩
 rw [hq.out]
 go_wp2_with fail
 go_ret
 exact⟨rfl,rfl⟩
end
section
open Go.RowKit
set_option linter.unusedVariables false
set_option maxRecDepth 100000
theorem bytes_of (x:Nat) (hx:x<4294967296):(x:Int)/16777216%256=((wb x 0:Nat):Int)∧(x:Int)/16777216=((wb x 0:Nat):Int)∧(x:Int)/65536%256=((wb x 1:Nat):Int)∧(x:Int)/256%256=((wb x 2:Nat):Int)∧
  (x:Int)%256=((wb x 3:Nat):Int)∧bits .and .u32 ((x:Int)/65536) 255=((wb x 1:Nat):Int)∧bits .and .u32 ((x:Int)/256) 255=((wb x 2:Nat):Int)∧bits .and .u32 (x:Int) 255=((wb x 3:Nat):Int):=by
 have a: ∀y:Nat,y<4294967296→bits .and .u32 (y:Int) 255=((y%256:Nat):Int):=fun y hy=>by
  have h:=and_u32 y 255 hy (by decide);rw [and_255]at h;exact h
 have e1:=a (x/65536) (by omega)
 have e2:=a (x/256) (by omega)
 have e3:=a x hx
 simp only [wb,Nat.reduceSub,Nat.reducePow]
 refine⟨by omega,by omega,by omega,by omega,by omega,?_,?_,?_⟩
 ·rw [show(x:Int)/65536=((x/65536:Nat):Int)by omega,e1]
 ·rw [show(x:Int)/256=((x/256:Nat):Int)by omega,e2]
 ·rw [e3];omega
set_option maxHeartbeats 1600000 in
theorem fmix (f:Nat→Nat) (w:World) (hf:B16 f) (h:Boxes w):
  Calls Tryz.prog 46 #[.agg #[.int .u32 (wd f 0:Nat),.int .u32 (wd f 1:Nat),.int .u32 (wd f 2:Nat),.int .u32 (wd f 3:Nat)]] w fun e w'=>e= .returned (.agg #[.int .u32 (wd (miF (suF f)) 0:Nat),.int .u32 (wd (miF (suF f)) 1:Nat),.int .u32 (wd (miF (suF f)) 2:Nat),.int .u32 (wd (miF (suF f)) 3:Nat)])∧Below w.heap.size w w':=by
 obtain⟨w1,hw1⟩:=Lv (w.alloc (.cells #[.int .u32 (wd f 0:Nat),.int .u32 (wd f 1:Nat),.int .u32 (wd f 2:Nat),.int .u32 (wd f 3:Nat)] 64))
 have hs1:=Zs1 hw1
 have hb1:=Bl hw1
 have hK1:Aw w1 w.heap.size 4 (wd f):=by rw [hw1];exact Aw.new w 4 (wd f) _
 obtain⟨w2,hw2⟩:=Lv (w1.alloc (.cells #[.int .u32 0,.int .u32 0,.int .u32 0,.int .u32 0] 64))
 have hb2:=Bm hw2 hb1
 have hR2:Aw w2 (w.heap.size+1) 4 (fun _=>0):=by rw [hw2,←hs1];exact Aw.new w1 4 (fun _=>0) _
 have hK2:=awa hw2 hK1
 clear hb1 hK1
 have HX:=Lib.hid h
 have hst:=Lib.hid (fun i hi=>stk_mx f i hf hi)
 clear h
 have hl:=Lib.hid (fun i hi=>wd_lt f i hf hi)
 clear hf
 go_enter Tryz.func46,Tryz.ntmps46
 go_upto_region 1 with fail
 rw [←hw1,←hw2]
 clear hw1 hw2 hs1
 go_wp2_with (refine wpList_load_aw rfl _ _ rfl _ _ _ rfl hK2 Tryz.arrCw (sizeCw _) ?_)
 rw [aw4]
 obtain⟨kB,hkB⟩: ∃kB:Array Value,#[.int .u32 (wd f 0:Nat),.int .u32 (wd f 1:Nat),.int .u32 (wd f 2:Nat),.int .u32 (wd f 3:Nat)]=kB:=⟨_,rfl⟩
 have hget:=Lib.hid (fun n (hn:n<4)=>show kB[n]?=some (.int .u32 (wd f n:Nat))by rw [←hkB,←aw4,List.getElem?_toArray];exact awL_get 4 _ n hn)
 rw [hkB]
 go_loopw [6] (fun i wr=> ∃n:Nat,n≤4∧i= .int .i64 n∧Aw wr w.heap.size 4 (fun m=>if m<n then wd (miF (suF f)) m else wd f m)∧Aw wr (w.heap.size+1) 4 (fun _=>0)∧Below w.heap.size w wr) (fun i _=>4-(intOf i).toNat)
 case atStart=>exact⟨0,Nat.zero_le _,rfl,hK2.ext (fun _ _=>rfl),hR2,hb2⟩
 case round=>
  clear hK2 hR2 hb2
  obtain⟨n,hn,rfl,hK,hR,hB⟩:=hrel
  by_cases hlt:n<4
  ·have hix: ∀V,(Instr.index 64 (.agg kB) (.int .i64 n)).run Tryz.prog V= .ok (.int .u32 (wd f n:Nat)) V:=fun V=>
    run_index_arr Tryz.arrCw Tryz.underlying62 rfl (by kernel_rfl) kB n _ hlt (hget.out n hlt) V
   have l0:=hl.out n hlt
   have i1:(n:Int)<4:=by omega
   have k0:=Lib.hid (hst.out n hlt)
   obtain⟨b0,b1,b2,b3,b4,b5,b6,b7⟩:=bytes_of (wd f n) l0
   go_wp2_with fail
   refine(fmixed (wb (wd f n) 0) _ (wb_lt _ _) (HX.out.keep hB)).mono ?_
   rintro e v0 ⟨rfl,rfl⟩
   go_wp2_with fail
   refine(fmixed (wb (wd f n) 1) _ (wb_lt _ _) (HX.out.keep hB)).mono ?_
   rintro e v1 ⟨rfl,rfl⟩
   go_wp2_with fail
   refine(fmixed (wb (wd f n) 2) _ (wb_lt _ _) (HX.out.keep hB)).mono ?_
   rintro e v2 ⟨rfl,rfl⟩
   go_wp2_with fail
   refine(fmixed (wb (wd f n) 3) _ (wb_lt _ _) (HX.out.keep hB)).mono ?_
   rintro e v3 ⟨rfl,rfl⟩
   go_wp2_with fail
   refine(fstack _ _ _ _ _ (mxd_lt _) (mxd_lt _) (mxd_lt _) (mxd_lt _)).mono ?_
   rintro e v4 ⟨rfl,rfl⟩
   rw [k0.out]
   have hKz:=hK
   have hRz:=hR
   have hBz:=hB
   clear hK hR hB
   have hK9:=((hKz.set (j:=n) (v:=wd (miF (suF f)) n) (by omega) rfl).ext (fun m _=>low_up (wd f) (wd (miF (suF f))) n m))
   have hR9:=hRz.far (p:=⟨w.heap.size,n,none⟩) (by simp) (.int .u32 (wd (miF (suF f)) n:Nat))
   have hB9:=hBz.setCell (p:=⟨w.heap.size,n,none⟩) (by simp) (.int .u32 (wd (miF (suF f)) n:Nat))
   obtain⟨c0,d0⟩:=hKz n hlt
   go_wp2_with fail
   go_roundw
   case rel=>exact⟨n+1,by omega,by go_num,hK9,hR9,hB9⟩
   case measure=>simp [intOf];omega
  ·obtain rfl:n=4:=by omega
   have hK8:=hK.ext (f':=wd (miF (suF f))) (fun j hj=>by rw [if_pos hj])
   clear hK
   go_wp2_with (first
    |(refine wpList_load_aw rfl _ _ rfl _ _ _ rfl hK8 Tryz.arrCw (sizeCw _) ?_)
    |(refine wpList_store_aw rfl _ _ _ rfl _ _ _ (wd (miF (suF f))) rfl rfl hR (sizeCw _) ?_;intro w8 hA8 hb8 _ _))
   refine bodyPost_ret_aw rfl rfl hA8 Tryz.arrCw (sizeCw _) rfl ⟨rfl,?_⟩
   exact hB.trans (hb8.mono (by omega))
set_option maxHeartbeats 1600000 in
theorem funmix (f:Nat→Nat) (w:World) (hf:B16 f):
  Calls Tryz.prog 120 #[.agg #[.int .u32 (wd f 0:Nat),.int .u32 (wd f 1:Nat),.int .u32 (wd f 2:Nat),.int .u32 (wd f 3:Nat)]] w fun e w'=>e= .returned (.agg #[.int .u32 (wd (umF f) 0:Nat),.int .u32 (wd (umF f) 1:Nat),.int .u32 (wd (umF f) 2:Nat),.int .u32 (wd (umF f) 3:Nat)])∧Below w.heap.size w w':=by
 obtain⟨w1,hw1⟩:=Lv (w.alloc (.cells #[.int .u32 (wd f 0:Nat),.int .u32 (wd f 1:Nat),.int .u32 (wd f 2:Nat),.int .u32 (wd f 3:Nat)] 64))
 have hs1:=Zs1 hw1
 have hb1:=Bl hw1
 have hK1:Aw w1 w.heap.size 4 (wd f):=by rw [hw1];exact Aw.new w 4 (wd f) _
 obtain⟨w2,hw2⟩:=Lv (w1.alloc (.cells #[.int .u32 0,.int .u32 0,.int .u32 0,.int .u32 0] 64))
 have hb2:=Bm hw2 hb1
 have hR2:Aw w2 (w.heap.size+1) 4 (fun _=>0):=by rw [hw2,←hs1];exact Aw.new w1 4 (fun _=>0) _
 have hK2:=awa hw2 hK1
 clear hb1 hK1
 have hst:=Lib.hid (fun i hi=>stk_um f i hf hi)
 have hl:=Lib.hid (fun i hi=>wd_lt f i hf hi)
 clear hf
 go_enter Tryz.func120,Tryz.ntmps120
 go_upto_region 1 with fail
 rw [←hw1,←hw2]
 clear hw1 hw2 hs1
 go_wp2_with (refine wpList_load_aw rfl _ _ rfl _ _ _ rfl hK2 Tryz.arrCw (sizeCw _) ?_)
 rw [aw4]
 obtain⟨kB,hkB⟩: ∃kB:Array Value,#[.int .u32 (wd f 0:Nat),.int .u32 (wd f 1:Nat),.int .u32 (wd f 2:Nat),.int .u32 (wd f 3:Nat)]=kB:=⟨_,rfl⟩
 have hget:=Lib.hid (fun n (hn:n<4)=>show kB[n]?=some (.int .u32 (wd f n:Nat))by rw [←hkB,←aw4,List.getElem?_toArray];exact awL_get 4 _ n hn)
 rw [hkB]
 go_loopw [6] (fun i wr=> ∃n:Nat,n≤4∧i= .int .i64 n∧Aw wr w.heap.size 4 (fun m=>if m<n then wd (umF f) m else wd f m)∧Aw wr (w.heap.size+1) 4 (fun _=>0)∧Below w.heap.size w wr) (fun i _=>4-(intOf i).toNat)
 case atStart=>exact⟨0,Nat.zero_le _,rfl,hK2.ext (fun _ _=>rfl),hR2,hb2⟩
 case round=>
  clear hK2 hR2 hb2
  obtain⟨n,hn,rfl,hK,hR,hB⟩:=hrel
  by_cases hlt:n<4
  ·have hix: ∀V,(Instr.index 64 (.agg kB) (.int .i64 n)).run Tryz.prog V= .ok (.int .u32 (wd f n:Nat)) V:=fun V=>
    run_index_arr Tryz.arrCw Tryz.underlying62 rfl (by kernel_rfl) kB n _ hlt (hget.out n hlt) V
   have l0:=hl.out n hlt
   have i1:(n:Int)<4:=by omega
   have k0:=Lib.hid (hst.out n hlt)
   obtain⟨b0,b1,b2,b3,b4,b5,b6,b7⟩:=bytes_of (wd f n) l0
   go_wp2_with fail
   refine(funmixed (wb (wd f n) 0) _ (wb_lt _ _)).mono ?_
   rintro e v0 ⟨rfl,rfl⟩
   go_wp2_with fail
   refine(funmixed (wb (wd f n) 1) _ (wb_lt _ _)).mono ?_
   rintro e v1 ⟨rfl,rfl⟩
   go_wp2_with fail
   refine(funmixed (wb (wd f n) 2) _ (wb_lt _ _)).mono ?_
   rintro e v2 ⟨rfl,rfl⟩
   go_wp2_with fail
   refine(funmixed (wb (wd f n) 3) _ (wb_lt _ _)).mono ?_
   rintro e v3 ⟨rfl,rfl⟩
   go_wp2_with fail
   refine(fstack _ _ _ _ _ (umd_lt _) (umd_lt _) (umd_lt _) (umd_lt _)).mono ?_
   rintro e v4 ⟨rfl,rfl⟩
   rw [k0.out]
   have hKz:=hK
   have hRz:=hR
   have hBz:=hB
   clear hK hR hB
   have hK9:=((hKz.set (j:=n) (v:=wd (umF f) n) (by omega) rfl).ext (fun m _=>low_up (wd f) (wd (umF f)) n m))
   have hR9:=hRz.far (p:=⟨w.heap.size,n,none⟩) (by simp) (.int .u32 (wd (umF f) n:Nat))
   have hB9:=hBz.setCell (p:=⟨w.heap.size,n,none⟩) (by simp) (.int .u32 (wd (umF f) n:Nat))
   obtain⟨c0,d0⟩:=hKz n hlt
   go_wp2_with fail
   go_roundw
   case rel=>exact⟨n+1,by omega,by go_num,hK9,hR9,hB9⟩
   case measure=>simp [intOf];omega
  ·obtain rfl:n=4:=by omega
   have hK8:=hK.ext (f':=wd (umF f)) (fun j hj=>by rw [if_pos hj])
   clear hK
   go_wp2_with (first
    |(refine wpList_load_aw rfl _ _ rfl _ _ _ rfl hK8 Tryz.arrCw (sizeCw _) ?_)
    |(refine wpList_store_aw rfl _ _ _ rfl _ _ _ (wd (umF f)) rfl rfl hR (sizeCw _) ?_;intro w8 hA8 hb8 _ _))
   refine bodyPost_ret_aw rfl rfl hA8 Tryz.arrCw (sizeCw _) rfl ⟨rfl,?_⟩
   exact hB.trans (hb8.mono (by omega))
end
section
open Go.RowKit
set_option linter.unusedVariables false
set_option maxRecDepth 100000
def rtF (n y:Nat):Nat:=if bk y<n then bk y else 0
theorem rt_step (n y:Nat) (hn:n<256) (hy:y<256):(if y=sb n then n else rtF n y)=rtF (n+1) y:=by
 unfold rtF
 by_cases h:y=sb n
 ·subst h
  rw [if_pos rfl,bk_sb n hn,if_pos (by omega)]
 ·have h2:bk y≠n:=fun e=>h (by rw [←e,sb_bk y hy])
  rw [if_neg h]
  by_cases h3:bk y<n
  ·rw [if_pos h3,if_pos (by omega)]
  ·rw [if_neg h3,if_neg (by omega)]
set_option maxHeartbeats 1600000 in
theorem froots (w:World) (h:Boxes w):
  Calls Tryz.prog 117 #[] w fun e w'=>e= .returned (.agg (arL 256 bk).toArray)∧Below w.heap.size w w':=by
 have hz:=zero256
 have HX:=Lib.hid h
 clear h
 obtain⟨w1,hw1⟩:=Lv (w.alloc (.cells (arL 256 fun _=>0).toArray 46))
 have hs1:=Zs1 hw1
 have hb1:=Bl hw1
 have hR1:Ar w1 w.heap.size 256 (fun _=>0):=by rw [hw1];exact Ar.new w 256 _ _
 obtain⟨w2,hw2⟩:=Lv (w1.alloc (.cells (arL 256 fun _=>0).toArray 46))
 have hb2:=Bm hw2 hb1
 have hL2:Ar w2 (w.heap.size+1) 256 (fun _=>0):=by rw [hw2,←hs1];exact Ar.new w1 256 _ _
 have hR2:=ara hw2 hR1
 clear hb1 hR1
 go_enter Tryz.func117,Tryz.ntmps117
 go_upto_region 2 with fail
 rw [←hw1,←hw2]
 clear hw1 hw2 hs1
 obtain⟨gL,hgL⟩:=Le (w.heap.size+1)
 have hlL:w.heap.size<gL:=by omega
 rw [hgL]at hL2
 rw [hgL]
 clear hgL
 go_wp2_with fail
 go_loopw [3] (fun i wr=> ∃n:Nat,n≤256∧i= .int .i64 n∧Ar wr w.heap.size 256 (fun _=>0)∧Ar wr gL 256 (rtF n)∧Below w.heap.size w wr) (fun i _=>256-(intOf i).toNat)
 case atStart=>exact⟨0,Nat.zero_le _,rfl,hR2,hL2.ext (fun j _=>by unfold rtF;rw [if_neg (by omega)]),hb2⟩
 case round=>
  clear hR2 hL2 hb2
  obtain⟨n,hn,rfl,hR,hL,hB⟩:=hrel
  by_cases hlt:n<256
  ·have i1:(n:Int)<256:=by omega
   have e1:(n:Int)%256=(n:Int):=by omega
   have HN:=Lib.hid hlt
   go_wp2_with fail
   refine(sboxS n _ HN.out (HX.out.keep hB)).mono ?_
   rintro e v1 ⟨rfl,rfl⟩
   have hsl:=sb_lt n
   have i2:((sb n:Nat):Int)<256:=by omega
   have hst:=Lib.hid (fun y hy=>rt_step n y HN.out hy)
   obtain⟨s,hs⟩:=Le (sb n)
   rw [hs]at hsl i2 hst⊢
   clear hs
   have hL9:=(hL.set (j:=s) (v:=n) hsl rfl).ext (f':=rtF (n+1)) (fun y hy=>hst.out y hy)
   have hR9:=hR.far (p:=⟨gL,s,none⟩) (by simp;omega) (.int .u8 (n:Nat))
   have hB9:=hB.setCell (p:=⟨gL,s,none⟩) (by simp;omega) (.int .u8 (n:Nat))
   obtain⟨c0,d0⟩:=hL s hsl
   clear hL hR hB
   go_wp2_with fail
   go_roundw
   case rel=>exact⟨n+1,by omega,by go_num,hR9,hL9,hB9⟩
   case measure=>simp [intOf];omega
  ·obtain rfl:n=256:=by omega
   have hL8:=hL.ext (f':=bk) (fun j hj=>by unfold rtF;rw [if_pos (bk_lt j hj)])
   clear hL
   go_wp2_with (first
    |(refine wpList_load_ar rfl _ _ rfl _ _ _ rfl hL8 Tryz.arr256 (size_arL _) ?_)
    |(refine wpList_store_ar rfl _ _ _ rfl _ _ _ bk rfl rfl hR (size_arL _) ?_;intro w8 hA8 hb8 _ _))
   refine bodyPost_ret_ar rfl rfl hA8 Tryz.arr256 (size_arL _) rfl ⟨rfl,?_⟩
   exact hB.trans (hb8.mono (by omega))
set_option maxHeartbeats 4000000 in
theorem funsub (f:Nat→Nat) (w:World) (hf:B16 f):
  Calls Tryz.prog 118 #[.agg #[.int .u32 (wd f 0:Nat),.int .u32 (wd f 1:Nat),.int .u32 (wd f 2:Nat),.int .u32 (wd f 3:Nat)],.agg (arL 256 bk).toArray] w fun e w'=>e= .returned (.agg #[.int .u32 (wd (usF f) 0:Nat),.int .u32 (wd (usF f) 1:Nat),.int .u32 (wd (usF f) 2:Nat),.int .u32 (wd (usF f) 3:Nat)])∧Below w.heap.size w w':=by
 obtain⟨kL,hkL⟩:=Le ((arL 256 bk).toArray)
 obtain⟨w1,hw1⟩:=Lv (w.alloc (.cells #[.int .u32 (wd f 0:Nat),.int .u32 (wd f 1:Nat),.int .u32 (wd f 2:Nat),.int .u32 (wd f 3:Nat)] 64))
 have hs1:=Zs1 hw1
 have hb1:=Bl hw1
 have hK1:Aw w1 w.heap.size 4 (wd f):=by rw [hw1];exact Aw.new w 4 (wd f) _
 obtain⟨w2,hw2⟩:=Lv (w1.alloc (.cells (arL 256 bk).toArray 46))
 have hs2:=Zs2 hw2 hs1
 have hb2:=Bm hw2 hb1
 have hL2:Ar w2 (w.heap.size+1) 256 bk:=by rw [hw2,←hs1];exact Ar.new w1 256 bk _
 have hK2:=awa hw2 hK1
 obtain⟨w3,hw3⟩:=Lv (w2.alloc (.cells #[.int .u32 0,.int .u32 0,.int .u32 0,.int .u32 0] 64))
 have hb3:=Bm hw3 hb2
 have hR3:Aw w3 (w.heap.size+2) 4 (fun _=>0):=by rw [hw3,←hs2];exact Aw.new w2 4 (fun _=>0) _
 have hL3:=ara hw3 hL2
 have hK3:=awa hw3 hK2
 rw [hkL]at hw2
 rw [hkL]
 clear hb1 hK1 hb2 hL2 hK2 hkL
 have hl:=Lib.hid (fun i hi=>wd_lt f i hf hi)
 have hst:=Lib.hid (fun i hi=>quad_us f i hf hi)
 clear hf
 go_enter Tryz.func118,Tryz.ntmps118
 go_upto_region 1 with fail
 rw [←hw1,←hw2,←hw3]
 clear hw1 hw2 hw3 hs1 hs2
 obtain⟨gL,hgL⟩:=Le (w.heap.size+1)
 obtain⟨gR,hgR⟩:=Le (w.heap.size+2)
 have hgR2:w.heap.size+1+1=gR:=hgR
 have hlL:w.heap.size<gL:=by omega
 have hlR:gL<gR:=by omega
 rw [hgL]at hL3
 rw [hgR]at hR3
 try rw [hgR2]
 try rw [hgR]
 try rw [hgL]
 clear hgL hgR hgR2
 go_wp2_with (refine wpList_load_aw rfl _ _ rfl _ _ _ rfl hK3 Tryz.arrCw (sizeCw _) ?_)
 rw [aw4]
 obtain⟨kB,hkB⟩: ∃kB:Array Value,#[.int .u32 (wd f 0:Nat),.int .u32 (wd f 1:Nat),.int .u32 (wd f 2:Nat),.int .u32 (wd f 3:Nat)]=kB:=⟨_,rfl⟩
 have hget:=Lib.hid (fun n (hn:n<4)=>show kB[n]?=some (.int .u32 (wd f n:Nat))by rw [←hkB,←aw4,List.getElem?_toArray];exact awL_get 4 _ n hn)
 rw [hkB]
 go_loopw [8] (fun i wr=> ∃n:Nat,n≤4∧i= .int .i64 n∧Ar wr gL 256 bk∧Aw wr w.heap.size 4 (fun m=>if m<n then wd (usF f) m else wd f m)∧Aw wr gR 4 (fun _=>0)∧Below w.heap.size w wr) (fun i _=>4-(intOf i).toNat)
 case atStart=>exact⟨0,Nat.zero_le _,rfl,hL3,hK3.ext (fun _ _=>rfl),hR3,hb3⟩
 case round=>
  clear hK3 hL3 hR3 hb3
  obtain⟨n,hn,rfl,hL,hK,hR,hB⟩:=hrel
  by_cases hlt:n<4
  ·have hix: ∀V,(Instr.index 64 (.agg kB) (.int .i64 n)).run Tryz.prog V= .ok (.int .u32 (wd f n:Nat)) V:=fun V=>
    run_index_arr Tryz.arrCw Tryz.underlying62 rfl (by kernel_rfl) kB n _ hlt (hget.out n hlt) V
   have l0:=hl.out n hlt
   have i1:(n:Int)<4:=by omega
   have k0:=Lib.hid (hst.out n hlt)
   obtain⟨b0,b1,b2,b3,b4,b5,b6,b7⟩:=bytes_of (wd f n) l0
   go_upto_region 4 with fail
   have hBy:=fun k=>wb_lt (wd f n) k
   have l0:=hBy 0
   have l1:=hBy 1
   have l2:=hBy 2
   have l3:=hBy 3
   clear hBy b0 b2 b3 b4
   have HK0:=k0.out
   clear k0
   generalize wb (wd f n) 0=y0 at*
   generalize wb (wd f n) 1=y1 at*
   generalize wb (wd f n) 2=y2 at*
   generalize wb (wd f n) 3=y3 at*
   have k0:=Lib.hid HK0
   clear HK0
   have j0:((y0:Nat):Int)<256:=by omega
   have j1:((y1:Nat):Int)<256:=by omega
   have j2:((y2:Nat):Int)<256:=by omega
   have j3:((y3:Nat):Int)<256:=by omega
   have hKwr:=hK
   clear hK
   have hKad:=hKwr.drew
   refine wp_region_held_drew (S:=fun W=>Ar W gL 256 (bk)∧Aw W gR 4 (fun _=>0)∧Below w.heap.size w W) (by kernel_rfl) ⟨hL.drew,hR.drew,hB.drew⟩ (fun hH'=> ?_)
   clear hL hR hB hKwr
   generalize World.drew wr=ad at*
   refine tw 0 ?va1 rfl ?hya1 ?resta1
   case hya1=>
    intro W hSw
    go_simp
    try with_reducible rfl
   simp only [Act.put,nrm]
   refine tw 1 ?va2 rfl ?hya2 ?resta2
   case hya2=>
    intro W hSw
    go_simp
    try with_reducible rfl
   simp only [Act.put,nrm]
   refine tw 2 ?va3 rfl ?hya3 ?resta3
   case hya3=>
    intro W hSw
    go_simp
    try with_reducible rfl
   simp only [Act.put,nrm]
   refine tw 3 ?va4 rfl ?hya4 ?resta4
   case hya4=>
    intro W hSw
    go_simp
    try with_reducible rfl
   simp only [Act.put,nrm]
   refine tw 4 ?va5 rfl ?hya5 ?resta5
   case hya5=>
    intro W hSw
    obtain⟨c,_⟩:=hSw.1 y0 l0
    go_simp
    try with_reducible rfl
   simp only [Act.put,nrm]
   refine tw 5 ?va6 rfl ?hya6 ?resta6
   case hya6=>
    intro W hSw
    go_simp
    try with_reducible rfl
   simp only [Act.put,nrm]
   refine tw 6 ?va7 rfl ?hya7 ?resta7
   case hya7=>
    intro W hSw
    go_simp
    try with_reducible rfl
   simp only [Act.put,nrm]
   refine tw 7 ?va8 rfl ?hya8 ?resta8
   case hya8=>
    intro W hSw
    go_simp
    try with_reducible rfl
   simp only [Act.put,nrm]
   refine tw 8 ?va9 rfl ?hya9 ?resta9
   case hya9=>
    intro W hSw
    go_simp
    try with_reducible rfl
   simp only [Act.put,nrm]
   refine tw 9 ?va10 rfl ?hya10 ?resta10
   case hya10=>
    intro W hSw
    obtain⟨c,_⟩:=hSw.1 y1 l1
    go_simp
    try with_reducible rfl
   simp only [Act.put,nrm]
   refine tw 10 ?va11 rfl ?hya11 ?resta11
   case hya11=>
    intro W hSw
    go_simp
    try with_reducible rfl
   simp only [Act.put,nrm]
   refine tw 11 ?va12 rfl ?hya12 ?resta12
   case hya12=>
    intro W hSw
    go_simp
    try with_reducible rfl
   simp only [Act.put,nrm]
   refine tw 12 ?va13 rfl ?hya13 ?resta13
   case hya13=>
    intro W hSw
    go_simp
    try with_reducible rfl
   simp only [Act.put,nrm]
   refine tw 13 ?va14 rfl ?hya14 ?resta14
   case hya14=>
    intro W hSw
    go_simp
    try with_reducible rfl
   simp only [Act.put,nrm]
   refine tw 14 ?va15 rfl ?hya15 ?resta15
   case hya15=>
    intro W hSw
    obtain⟨c,_⟩:=hSw.1 y2 l2
    go_simp
    try with_reducible rfl
   simp only [Act.put,nrm]
   refine tw 15 ?va16 rfl ?hya16 ?resta16
   case hya16=>
    intro W hSw
    go_simp
    try with_reducible rfl
   simp only [Act.put,nrm]
   refine tw 16 ?va17 rfl ?hya17 ?resta17
   case hya17=>
    intro W hSw
    go_simp
    try with_reducible rfl
   simp only [Act.put,nrm]
   refine tw 17 ?va18 rfl ?hya18 ?resta18
   case hya18=>
    intro W hSw
    go_simp
    try with_reducible rfl
   simp only [Act.put,nrm]
   refine tw 18 ?va19 rfl ?hya19 ?resta19
   case hya19=>
    intro W hSw
    obtain⟨c,_⟩:=hSw.1 y3 l3
    go_simp
    try with_reducible rfl
   simp only [Act.put,nrm]
   refine rd 19 rfl (fun K hK=> ?_)
   go_simp
   refine(fstand (bk y0) (bk y1) (bk y2) (bk y3) _ (bk_lt _ l0) (bk_lt _ l1) (bk_lt _ l2) (bk_lt _ l3)).mono ?_
   rintro e a20 ⟨rfl,rfl⟩
   rw [k0.out]
   go_wp2_with fail
   have hKa20:=hKad
   refine hK.out _ _ hH' ?_
   clear hK K hH' hKad
   intro hH'
   try simp only [Act.put,nrm]
   refine tw 20 ?va21 rfl ?hya21 ?resta21
   case hya21=>
    intro W hSw
    go_simp
    try with_reducible rfl
   simp only [Act.put,nrm]
   refine rd 21 rfl (fun K hK=> ?_)
   obtain⟨ca22,da22⟩:=hKa20 n hlt
   go_simp
   have hKa22:=(hKa20.set (j:=n) (v:=wd (usF f) n) hlt rfl)
   refine hK.out _ _ ⟨(hH'.1).far (p:=⟨w.heap.size,n,none⟩) (by simp;omega) (.int .u32 (wd (usF f) n:Nat)),(hH'.2.1).far (p:=⟨w.heap.size,n,none⟩) (by simp;omega) (.int .u32 (wd (usF f) n:Nat)),(hH'.2.2).setCell (p:=⟨w.heap.size,n,none⟩) (by simp) (.int .u32 (wd (usF f) n:Nat))⟩ ?_
   clear hK K hH' ca22 da22 hKa20
   intro hH'
   generalize World.setCell a20 ⟨w.heap.size,n,none⟩ (.int .u32 (wd (usF f) n:Nat))=a22 at*
   try simp only [Act.put]
   refine wpAnyH_done (by kernel_rfl) ?_ _
   obtain⟨hL9,hR9,hB9⟩:=hH'
   have hK9:=hKa22
   go_wp2_with fail
   go_roundw
   case rel=>exact⟨n+1,by omega,by go_num,hL9,hK9.ext (fun m _=>low_up (wd f) (wd (usF f)) n m),hR9,hB9⟩
   case measure=>simp [intOf];omega
  ·obtain rfl:n=4:=by omega
   have hK8:=hK.ext (f':=wd (usF f)) (fun j hj=>by rw [if_pos hj])
   clear hK
   go_wp2_with (first
    |(refine wpList_load_aw rfl _ _ rfl _ _ _ rfl hK8 Tryz.arrCw (sizeCw _) ?_)
    |(refine wpList_store_aw rfl _ _ _ rfl _ _ _ (wd (usF f)) rfl rfl hR (sizeCw _) ?_;intro w8 hA8 hb8 _ _))
   refine bodyPost_ret_aw rfl rfl hA8 Tryz.arrCw (sizeCw _) rfl ⟨rfl,?_⟩
   exact hB.trans (hb8.mono (by omega))
end
section
open Go.RowKit
set_option linter.unusedVariables false
set_option maxRecDepth 100000
set_option maxHeartbeats 4000000 in
theorem fshift (f:Nat→Nat) (w:World) (hf:B16 f):
  Calls Tryz.prog 47 #[.agg #[.int .u32 (wd f 0:Nat),.int .u32 (wd f 1:Nat),.int .u32 (wd f 2:Nat),.int .u32 (wd f 3:Nat)]] w fun e w'=>e= .returned (.agg #[.int .u32 (wd (shF f) 0:Nat),.int .u32 (wd (shF f) 1:Nat),.int .u32 (wd (shF f) 2:Nat),.int .u32 (wd (shF f) 3:Nat)])∧Below w.heap.size w w':=by
 obtain⟨w1,hw1⟩:=Lv (w.alloc (.cells #[.int .u32 (wd f 0:Nat),.int .u32 (wd f 1:Nat),.int .u32 (wd f 2:Nat),.int .u32 (wd f 3:Nat)] 64))
 have hs1:=Zs1 hw1
 have hb1:=Bl hw1
 have hK1:Aw w1 w.heap.size 4 (wd f):=by rw [hw1];exact Aw.new w 4 (wd f) _
 obtain⟨w2,hw2⟩:=Lv (w1.alloc (.cells #[.int .u32 0,.int .u32 0,.int .u32 0,.int .u32 0] 64))
 have hb2:=Bm hw2 hb1
 have hR2:Aw w2 (w.heap.size+1) 4 (fun _=>0):=by rw [hw2,←hs1];exact Aw.new w1 4 (fun _=>0) _
 have hK2:=awa hw2 hK1
 clear hb1 hK1
 have l0:=wd_lt f 0 hf (by decide)
 have l1:=wd_lt f 1 hf (by decide)
 have l2:=wd_lt f 2 hf (by decide)
 have l3:=wd_lt f 3 hf (by decide)
 obtain⟨g0,g1,g2,g3⟩:=gat_sh f hf
 have G0:=Lib.hid g0
 have G1:=Lib.hid g1
 have G2:=Lib.hid g2
 have G3:=Lib.hid g3
 clear hf g0 g1 g2 g3
 go_enter Tryz.func47,Tryz.ntmps47
 go_upto_region 1 with fail
 rw [←hw1,←hw2]
 clear hw1 hw2 hs1
 go_upto_region 1 with fail
 have hRd:=hR2.drew
 refine wp_region_held_drew (S:=fun W=>Aw W w.heap.size 4 (wd f)∧Below w.heap.size w W) (by kernel_rfl) ⟨hK2.drew,hb2.drew⟩ (fun hH'=> ?_)
 clear hK2 hR2 hb2
 generalize w2.drew=wd0 at*
 refine tw 0 ?vs1 rfl ?hys1 ?rests1
 case hys1=>
  intro W hSw
  go_simp
  try with_reducible rfl
 simp only [Act.put,nrm]
 refine tw 1 ?vs2 rfl ?hys2 ?rests2
 case hys2=>
  intro W hSw
  obtain⟨c0,_⟩:=hSw.1 0 (by decide)
  obtain⟨c1,_⟩:=hSw.1 1 (by decide)
  obtain⟨c2,_⟩:=hSw.1 2 (by decide)
  obtain⟨c3,_⟩:=hSw.1 3 (by decide)
  go_simp
  try with_reducible rfl
 simp only [Act.put,nrm]
 refine tw 2 ?vs3 rfl ?hys3 ?rests3
 case hys3=>
  intro W hSw
  go_simp
  try with_reducible rfl
 simp only [Act.put,nrm]
 refine tw 3 ?vs4 rfl ?hys4 ?rests4
 case hys4=>
  intro W hSw
  obtain⟨c0,_⟩:=hSw.1 0 (by decide)
  obtain⟨c1,_⟩:=hSw.1 1 (by decide)
  obtain⟨c2,_⟩:=hSw.1 2 (by decide)
  obtain⟨c3,_⟩:=hSw.1 3 (by decide)
  go_simp
  try with_reducible rfl
 simp only [Act.put,nrm]
 refine tw 4 ?vs5 rfl ?hys5 ?rests5
 case hys5=>
  intro W hSw
  go_simp
  try with_reducible rfl
 simp only [Act.put,nrm]
 refine tw 5 ?vs6 rfl ?hys6 ?rests6
 case hys6=>
  intro W hSw
  obtain⟨c0,_⟩:=hSw.1 0 (by decide)
  obtain⟨c1,_⟩:=hSw.1 1 (by decide)
  obtain⟨c2,_⟩:=hSw.1 2 (by decide)
  obtain⟨c3,_⟩:=hSw.1 3 (by decide)
  go_simp
  try with_reducible rfl
 simp only [Act.put,nrm]
 refine tw 6 ?vs7 rfl ?hys7 ?rests7
 case hys7=>
  intro W hSw
  go_simp
  try with_reducible rfl
 simp only [Act.put,nrm]
 refine tw 7 ?vs8 rfl ?hys8 ?rests8
 case hys8=>
  intro W hSw
  obtain⟨c0,_⟩:=hSw.1 0 (by decide)
  obtain⟨c1,_⟩:=hSw.1 1 (by decide)
  obtain⟨c2,_⟩:=hSw.1 2 (by decide)
  obtain⟨c3,_⟩:=hSw.1 3 (by decide)
  go_simp
  try with_reducible rfl
 simp only [Act.put,nrm]
 refine tw 9 ?vs9 rfl ?hys9 ?rests9
 case hys9=>
  intro W hSw
  go_simp
  try with_reducible rfl
 simp only [Act.put,nrm]
 refine tw 10 ?vs10 rfl ?hys10 ?rests10
 case hys10=>
  intro W hSw
  obtain⟨c0,_⟩:=hSw.1 0 (by decide)
  obtain⟨c1,_⟩:=hSw.1 1 (by decide)
  obtain⟨c2,_⟩:=hSw.1 2 (by decide)
  obtain⟨c3,_⟩:=hSw.1 3 (by decide)
  go_simp
  try with_reducible rfl
 simp only [Act.put,nrm]
 refine tw 11 ?vs11 rfl ?hys11 ?rests11
 case hys11=>
  intro W hSw
  go_simp
  try with_reducible rfl
 simp only [Act.put,nrm]
 refine tw 12 ?vs12 rfl ?hys12 ?rests12
 case hys12=>
  intro W hSw
  obtain⟨c0,_⟩:=hSw.1 0 (by decide)
  obtain⟨c1,_⟩:=hSw.1 1 (by decide)
  obtain⟨c2,_⟩:=hSw.1 2 (by decide)
  obtain⟨c3,_⟩:=hSw.1 3 (by decide)
  go_simp
  try with_reducible rfl
 simp only [Act.put,nrm]
 refine tw 13 ?vs13 rfl ?hys13 ?rests13
 case hys13=>
  intro W hSw
  go_simp
  try with_reducible rfl
 simp only [Act.put,nrm]
 refine tw 14 ?vs14 rfl ?hys14 ?rests14
 case hys14=>
  intro W hSw
  obtain⟨c0,_⟩:=hSw.1 0 (by decide)
  obtain⟨c1,_⟩:=hSw.1 1 (by decide)
  obtain⟨c2,_⟩:=hSw.1 2 (by decide)
  obtain⟨c3,_⟩:=hSw.1 3 (by decide)
  go_simp
  try with_reducible rfl
 simp only [Act.put,nrm]
 refine tw 15 ?vs15 rfl ?hys15 ?rests15
 case hys15=>
  intro W hSw
  go_simp
  try with_reducible rfl
 simp only [Act.put,nrm]
 refine tw 16 ?vs16 rfl ?hys16 ?rests16
 case hys16=>
  intro W hSw
  obtain⟨c0,_⟩:=hSw.1 0 (by decide)
  obtain⟨c1,_⟩:=hSw.1 1 (by decide)
  obtain⟨c2,_⟩:=hSw.1 2 (by decide)
  obtain⟨c3,_⟩:=hSw.1 3 (by decide)
  go_simp
  try with_reducible rfl
 simp only [Act.put,nrm]
 refine tw 18 ?vs17 rfl ?hys17 ?rests17
 case hys17=>
  intro W hSw
  go_simp
  try with_reducible rfl
 simp only [Act.put,nrm]
 refine tw 19 ?vs18 rfl ?hys18 ?rests18
 case hys18=>
  intro W hSw
  obtain⟨c0,_⟩:=hSw.1 0 (by decide)
  obtain⟨c1,_⟩:=hSw.1 1 (by decide)
  obtain⟨c2,_⟩:=hSw.1 2 (by decide)
  obtain⟨c3,_⟩:=hSw.1 3 (by decide)
  go_simp
  try with_reducible rfl
 simp only [Act.put,nrm]
 refine tw 20 ?vs19 rfl ?hys19 ?rests19
 case hys19=>
  intro W hSw
  go_simp
  try with_reducible rfl
 simp only [Act.put,nrm]
 refine tw 21 ?vs20 rfl ?hys20 ?rests20
 case hys20=>
  intro W hSw
  obtain⟨c0,_⟩:=hSw.1 0 (by decide)
  obtain⟨c1,_⟩:=hSw.1 1 (by decide)
  obtain⟨c2,_⟩:=hSw.1 2 (by decide)
  obtain⟨c3,_⟩:=hSw.1 3 (by decide)
  go_simp
  try with_reducible rfl
 simp only [Act.put,nrm]
 refine tw 22 ?vs21 rfl ?hys21 ?rests21
 case hys21=>
  intro W hSw
  go_simp
  try with_reducible rfl
 simp only [Act.put,nrm]
 refine tw 23 ?vs22 rfl ?hys22 ?rests22
 case hys22=>
  intro W hSw
  obtain⟨c0,_⟩:=hSw.1 0 (by decide)
  obtain⟨c1,_⟩:=hSw.1 1 (by decide)
  obtain⟨c2,_⟩:=hSw.1 2 (by decide)
  obtain⟨c3,_⟩:=hSw.1 3 (by decide)
  go_simp
  try with_reducible rfl
 simp only [Act.put,nrm]
 refine tw 24 ?vs23 rfl ?hys23 ?rests23
 case hys23=>
  intro W hSw
  go_simp
  try with_reducible rfl
 simp only [Act.put,nrm]
 refine tw 25 ?vs24 rfl ?hys24 ?rests24
 case hys24=>
  intro W hSw
  obtain⟨c0,_⟩:=hSw.1 0 (by decide)
  obtain⟨c1,_⟩:=hSw.1 1 (by decide)
  obtain⟨c2,_⟩:=hSw.1 2 (by decide)
  obtain⟨c3,_⟩:=hSw.1 3 (by decide)
  go_simp
  try with_reducible rfl
 simp only [Act.put,nrm]
 refine tw 27 ?vs25 rfl ?hys25 ?rests25
 case hys25=>
  intro W hSw
  go_simp
  try with_reducible rfl
 simp only [Act.put,nrm]
 refine tw 28 ?vs26 rfl ?hys26 ?rests26
 case hys26=>
  intro W hSw
  obtain⟨c0,_⟩:=hSw.1 0 (by decide)
  obtain⟨c1,_⟩:=hSw.1 1 (by decide)
  obtain⟨c2,_⟩:=hSw.1 2 (by decide)
  obtain⟨c3,_⟩:=hSw.1 3 (by decide)
  go_simp
  try with_reducible rfl
 simp only [Act.put,nrm]
 refine tw 29 ?vs27 rfl ?hys27 ?rests27
 case hys27=>
  intro W hSw
  go_simp
  try with_reducible rfl
 simp only [Act.put,nrm]
 refine tw 30 ?vs28 rfl ?hys28 ?rests28
 case hys28=>
  intro W hSw
  obtain⟨c0,_⟩:=hSw.1 0 (by decide)
  obtain⟨c1,_⟩:=hSw.1 1 (by decide)
  obtain⟨c2,_⟩:=hSw.1 2 (by decide)
  obtain⟨c3,_⟩:=hSw.1 3 (by decide)
  go_simp
  try with_reducible rfl
 simp only [Act.put,nrm]
 refine tw 31 ?vs29 rfl ?hys29 ?rests29
 case hys29=>
  intro W hSw
  go_simp
  try with_reducible rfl
 simp only [Act.put,nrm]
 refine tw 32 ?vs30 rfl ?hys30 ?rests30
 case hys30=>
  intro W hSw
  obtain⟨c0,_⟩:=hSw.1 0 (by decide)
  obtain⟨c1,_⟩:=hSw.1 1 (by decide)
  obtain⟨c2,_⟩:=hSw.1 2 (by decide)
  obtain⟨c3,_⟩:=hSw.1 3 (by decide)
  go_simp
  try with_reducible rfl
 simp only [Act.put,nrm]
 refine tw 33 ?vs31 rfl ?hys31 ?rests31
 case hys31=>
  intro W hSw
  go_simp
  try with_reducible rfl
 simp only [Act.put,nrm]
 refine tw 34 ?vs32 rfl ?hys32 ?rests32
 case hys32=>
  intro W hSw
  obtain⟨c0,_⟩:=hSw.1 0 (by decide)
  obtain⟨c1,_⟩:=hSw.1 1 (by decide)
  obtain⟨c2,_⟩:=hSw.1 2 (by decide)
  obtain⟨c3,_⟩:=hSw.1 3 (by decide)
  go_simp
  try with_reducible rfl
 simp only [Act.put,nrm]
 refine rd 8 rfl (fun K hK=> ?_)
 go_simp
 refine(fgather _ _ _ _ _ (by assumption) (by assumption) (by assumption) (by assumption)).mono ?_
 rintro e sy33 ⟨rfl,rfl⟩
 rw [G0.out]
 go_wp2_with fail
 refine hK.out _ _ hH' ?_
 clear hK K hH'
 intro hH'
 try simp only [Act.put,nrm]
 refine rd 17 rfl (fun K hK=> ?_)
 go_simp
 refine(fgather _ _ _ _ _ (by assumption) (by assumption) (by assumption) (by assumption)).mono ?_
 rintro e sy34 ⟨rfl,rfl⟩
 rw [G1.out]
 go_wp2_with fail
 refine hK.out _ _ hH' ?_
 clear hK K hH'
 intro hH'
 try simp only [Act.put,nrm]
 refine rd 26 rfl (fun K hK=> ?_)
 go_simp
 refine(fgather _ _ _ _ _ (by assumption) (by assumption) (by assumption) (by assumption)).mono ?_
 rintro e sy35 ⟨rfl,rfl⟩
 rw [G2.out]
 go_wp2_with fail
 refine hK.out _ _ hH' ?_
 clear hK K hH'
 intro hH'
 try simp only [Act.put,nrm]
 refine rd 35 rfl (fun K hK=> ?_)
 go_simp
 refine(fgather _ _ _ _ _ (by assumption) (by assumption) (by assumption) (by assumption)).mono ?_
 rintro e sy36 ⟨rfl,rfl⟩
 rw [G3.out]
 go_wp2_with fail
 refine hK.out _ _ hH' ?_
 clear hK K hH'
 intro hH'
 try simp only [Act.put,nrm]
 refine tw 36 ?vs37 rfl ?hys37 ?rests37
 case hys37=>
  intro W hSw
  go_simp
  try with_reducible rfl
 simp only [Act.put,nrm]
 refine rd 37 rfl (fun K hK=> ?_)
 rw [if_pos (by rfl)]
 refine wp_store_mid _ _ _ rfl (w.heap.size+1) 0 (awL 4 (wd (shF f))).toArray rfl rfl hRd.there (sizeCw _) (all_oneCell_toArray (awL_one 4 (wd (shF f)))) ?_
 have hR9:=hRd.whole (wd (shF f))
 have hK9:=(hH'.1).apart (b:=w.heap.size+1) (by omega) (awL 4 (wd (shF f))) 0
 have hB9:=(hH'.2).trans (Below.setCells (Below.refl w.heap.size _) (b:=w.heap.size+1) (by omega) (awL 4 (wd (shF f))) 0)
 clear hH'
 dsimp only [List.toList_toArray]
 generalize World.setCells _ (w.heap.size+1) 0 (awL 4 (wd (shF f)))=w9 at*
 refine hK.out _ _ ⟨hK9,hB9⟩ (fun hH'=> ?_)
 clear hK
 try simp only [Act.put]
 refine wpAnyH_done (by kernel_rfl) ?_ _
 go_wp2_with fail
 refine bodyPost_ret_aw rfl rfl hR9 Tryz.arrCw (sizeCw _) rfl ⟨rfl,hB9⟩
set_option maxHeartbeats 4000000 in
theorem funshift (f:Nat→Nat) (w:World) (hf:B16 f):
  Calls Tryz.prog 119 #[.agg #[.int .u32 (wd f 0:Nat),.int .u32 (wd f 1:Nat),.int .u32 (wd f 2:Nat),.int .u32 (wd f 3:Nat)]] w fun e w'=>e= .returned (.agg #[.int .u32 (wd (uhF f) 0:Nat),.int .u32 (wd (uhF f) 1:Nat),.int .u32 (wd (uhF f) 2:Nat),.int .u32 (wd (uhF f) 3:Nat)])∧Below w.heap.size w w':=by
 obtain⟨w1,hw1⟩:=Lv (w.alloc (.cells #[.int .u32 (wd f 0:Nat),.int .u32 (wd f 1:Nat),.int .u32 (wd f 2:Nat),.int .u32 (wd f 3:Nat)] 64))
 have hs1:=Zs1 hw1
 have hb1:=Bl hw1
 have hK1:Aw w1 w.heap.size 4 (wd f):=by rw [hw1];exact Aw.new w 4 (wd f) _
 obtain⟨w2,hw2⟩:=Lv (w1.alloc (.cells #[.int .u32 0,.int .u32 0,.int .u32 0,.int .u32 0] 64))
 have hb2:=Bm hw2 hb1
 have hR2:Aw w2 (w.heap.size+1) 4 (fun _=>0):=by rw [hw2,←hs1];exact Aw.new w1 4 (fun _=>0) _
 have hK2:=awa hw2 hK1
 clear hb1 hK1
 have l0:=wd_lt f 0 hf (by decide)
 have l1:=wd_lt f 1 hf (by decide)
 have l2:=wd_lt f 2 hf (by decide)
 have l3:=wd_lt f 3 hf (by decide)
 obtain⟨g0,g1,g2,g3⟩:=gat_uh f hf
 have G0:=Lib.hid g0
 have G1:=Lib.hid g1
 have G2:=Lib.hid g2
 have G3:=Lib.hid g3
 clear hf g0 g1 g2 g3
 go_enter Tryz.func119,Tryz.ntmps119
 go_upto_region 1 with fail
 rw [←hw1,←hw2]
 clear hw1 hw2 hs1
 go_upto_region 1 with fail
 have hRd:=hR2.drew
 refine wp_region_held_drew (S:=fun W=>Aw W w.heap.size 4 (wd f)∧Below w.heap.size w W) (by kernel_rfl) ⟨hK2.drew,hb2.drew⟩ (fun hH'=> ?_)
 clear hK2 hR2 hb2
 generalize w2.drew=wd0 at*
 refine tw 0 ?vu1 rfl ?hyu1 ?restu1
 case hyu1=>
  intro W hSw
  go_simp
  try with_reducible rfl
 simp only [Act.put,nrm]
 refine tw 1 ?vu2 rfl ?hyu2 ?restu2
 case hyu2=>
  intro W hSw
  obtain⟨c0,_⟩:=hSw.1 0 (by decide)
  obtain⟨c1,_⟩:=hSw.1 1 (by decide)
  obtain⟨c2,_⟩:=hSw.1 2 (by decide)
  obtain⟨c3,_⟩:=hSw.1 3 (by decide)
  go_simp
  try with_reducible rfl
 simp only [Act.put,nrm]
 refine tw 2 ?vu3 rfl ?hyu3 ?restu3
 case hyu3=>
  intro W hSw
  go_simp
  try with_reducible rfl
 simp only [Act.put,nrm]
 refine tw 3 ?vu4 rfl ?hyu4 ?restu4
 case hyu4=>
  intro W hSw
  obtain⟨c0,_⟩:=hSw.1 0 (by decide)
  obtain⟨c1,_⟩:=hSw.1 1 (by decide)
  obtain⟨c2,_⟩:=hSw.1 2 (by decide)
  obtain⟨c3,_⟩:=hSw.1 3 (by decide)
  go_simp
  try with_reducible rfl
 simp only [Act.put,nrm]
 refine tw 4 ?vu5 rfl ?hyu5 ?restu5
 case hyu5=>
  intro W hSw
  go_simp
  try with_reducible rfl
 simp only [Act.put,nrm]
 refine tw 5 ?vu6 rfl ?hyu6 ?restu6
 case hyu6=>
  intro W hSw
  obtain⟨c0,_⟩:=hSw.1 0 (by decide)
  obtain⟨c1,_⟩:=hSw.1 1 (by decide)
  obtain⟨c2,_⟩:=hSw.1 2 (by decide)
  obtain⟨c3,_⟩:=hSw.1 3 (by decide)
  go_simp
  try with_reducible rfl
 simp only [Act.put,nrm]
 refine tw 6 ?vu7 rfl ?hyu7 ?restu7
 case hyu7=>
  intro W hSw
  go_simp
  try with_reducible rfl
 simp only [Act.put,nrm]
 refine tw 7 ?vu8 rfl ?hyu8 ?restu8
 case hyu8=>
  intro W hSw
  obtain⟨c0,_⟩:=hSw.1 0 (by decide)
  obtain⟨c1,_⟩:=hSw.1 1 (by decide)
  obtain⟨c2,_⟩:=hSw.1 2 (by decide)
  obtain⟨c3,_⟩:=hSw.1 3 (by decide)
  go_simp
  try with_reducible rfl
 simp only [Act.put,nrm]
 refine tw 9 ?vu9 rfl ?hyu9 ?restu9
 case hyu9=>
  intro W hSw
  go_simp
  try with_reducible rfl
 simp only [Act.put,nrm]
 refine tw 10 ?vu10 rfl ?hyu10 ?restu10
 case hyu10=>
  intro W hSw
  obtain⟨c0,_⟩:=hSw.1 0 (by decide)
  obtain⟨c1,_⟩:=hSw.1 1 (by decide)
  obtain⟨c2,_⟩:=hSw.1 2 (by decide)
  obtain⟨c3,_⟩:=hSw.1 3 (by decide)
  go_simp
  try with_reducible rfl
 simp only [Act.put,nrm]
 refine tw 11 ?vu11 rfl ?hyu11 ?restu11
 case hyu11=>
  intro W hSw
  go_simp
  try with_reducible rfl
 simp only [Act.put,nrm]
 refine tw 12 ?vu12 rfl ?hyu12 ?restu12
 case hyu12=>
  intro W hSw
  obtain⟨c0,_⟩:=hSw.1 0 (by decide)
  obtain⟨c1,_⟩:=hSw.1 1 (by decide)
  obtain⟨c2,_⟩:=hSw.1 2 (by decide)
  obtain⟨c3,_⟩:=hSw.1 3 (by decide)
  go_simp
  try with_reducible rfl
 simp only [Act.put,nrm]
 refine tw 13 ?vu13 rfl ?hyu13 ?restu13
 case hyu13=>
  intro W hSw
  go_simp
  try with_reducible rfl
 simp only [Act.put,nrm]
 refine tw 14 ?vu14 rfl ?hyu14 ?restu14
 case hyu14=>
  intro W hSw
  obtain⟨c0,_⟩:=hSw.1 0 (by decide)
  obtain⟨c1,_⟩:=hSw.1 1 (by decide)
  obtain⟨c2,_⟩:=hSw.1 2 (by decide)
  obtain⟨c3,_⟩:=hSw.1 3 (by decide)
  go_simp
  try with_reducible rfl
 simp only [Act.put,nrm]
 refine tw 15 ?vu15 rfl ?hyu15 ?restu15
 case hyu15=>
  intro W hSw
  go_simp
  try with_reducible rfl
 simp only [Act.put,nrm]
 refine tw 16 ?vu16 rfl ?hyu16 ?restu16
 case hyu16=>
  intro W hSw
  obtain⟨c0,_⟩:=hSw.1 0 (by decide)
  obtain⟨c1,_⟩:=hSw.1 1 (by decide)
  obtain⟨c2,_⟩:=hSw.1 2 (by decide)
  obtain⟨c3,_⟩:=hSw.1 3 (by decide)
  go_simp
  try with_reducible rfl
 simp only [Act.put,nrm]
 refine tw 18 ?vu17 rfl ?hyu17 ?restu17
 case hyu17=>
  intro W hSw
  go_simp
  try with_reducible rfl
 simp only [Act.put,nrm]
 refine tw 19 ?vu18 rfl ?hyu18 ?restu18
 case hyu18=>
  intro W hSw
  obtain⟨c0,_⟩:=hSw.1 0 (by decide)
  obtain⟨c1,_⟩:=hSw.1 1 (by decide)
  obtain⟨c2,_⟩:=hSw.1 2 (by decide)
  obtain⟨c3,_⟩:=hSw.1 3 (by decide)
  go_simp
  try with_reducible rfl
 simp only [Act.put,nrm]
 refine tw 20 ?vu19 rfl ?hyu19 ?restu19
 case hyu19=>
  intro W hSw
  go_simp
  try with_reducible rfl
 simp only [Act.put,nrm]
 refine tw 21 ?vu20 rfl ?hyu20 ?restu20
 case hyu20=>
  intro W hSw
  obtain⟨c0,_⟩:=hSw.1 0 (by decide)
  obtain⟨c1,_⟩:=hSw.1 1 (by decide)
  obtain⟨c2,_⟩:=hSw.1 2 (by decide)
  obtain⟨c3,_⟩:=hSw.1 3 (by decide)
  go_simp
  try with_reducible rfl
 simp only [Act.put,nrm]
 refine tw 22 ?vu21 rfl ?hyu21 ?restu21
 case hyu21=>
  intro W hSw
  go_simp
  try with_reducible rfl
 simp only [Act.put,nrm]
 refine tw 23 ?vu22 rfl ?hyu22 ?restu22
 case hyu22=>
  intro W hSw
  obtain⟨c0,_⟩:=hSw.1 0 (by decide)
  obtain⟨c1,_⟩:=hSw.1 1 (by decide)
  obtain⟨c2,_⟩:=hSw.1 2 (by decide)
  obtain⟨c3,_⟩:=hSw.1 3 (by decide)
  go_simp
  try with_reducible rfl
 simp only [Act.put,nrm]
 refine tw 24 ?vu23 rfl ?hyu23 ?restu23
 case hyu23=>
  intro W hSw
  go_simp
  try with_reducible rfl
 simp only [Act.put,nrm]
 refine tw 25 ?vu24 rfl ?hyu24 ?restu24
 case hyu24=>
  intro W hSw
  obtain⟨c0,_⟩:=hSw.1 0 (by decide)
  obtain⟨c1,_⟩:=hSw.1 1 (by decide)
  obtain⟨c2,_⟩:=hSw.1 2 (by decide)
  obtain⟨c3,_⟩:=hSw.1 3 (by decide)
  go_simp
  try with_reducible rfl
 simp only [Act.put,nrm]
 refine tw 27 ?vu25 rfl ?hyu25 ?restu25
 case hyu25=>
  intro W hSw
  go_simp
  try with_reducible rfl
 simp only [Act.put,nrm]
 refine tw 28 ?vu26 rfl ?hyu26 ?restu26
 case hyu26=>
  intro W hSw
  obtain⟨c0,_⟩:=hSw.1 0 (by decide)
  obtain⟨c1,_⟩:=hSw.1 1 (by decide)
  obtain⟨c2,_⟩:=hSw.1 2 (by decide)
  obtain⟨c3,_⟩:=hSw.1 3 (by decide)
  go_simp
  try with_reducible rfl
 simp only [Act.put,nrm]
 refine tw 29 ?vu27 rfl ?hyu27 ?restu27
 case hyu27=>
  intro W hSw
  go_simp
  try with_reducible rfl
 simp only [Act.put,nrm]
 refine tw 30 ?vu28 rfl ?hyu28 ?restu28
 case hyu28=>
  intro W hSw
  obtain⟨c0,_⟩:=hSw.1 0 (by decide)
  obtain⟨c1,_⟩:=hSw.1 1 (by decide)
  obtain⟨c2,_⟩:=hSw.1 2 (by decide)
  obtain⟨c3,_⟩:=hSw.1 3 (by decide)
  go_simp
  try with_reducible rfl
 simp only [Act.put,nrm]
 refine tw 31 ?vu29 rfl ?hyu29 ?restu29
 case hyu29=>
  intro W hSw
  go_simp
  try with_reducible rfl
 simp only [Act.put,nrm]
 refine tw 32 ?vu30 rfl ?hyu30 ?restu30
 case hyu30=>
  intro W hSw
  obtain⟨c0,_⟩:=hSw.1 0 (by decide)
  obtain⟨c1,_⟩:=hSw.1 1 (by decide)
  obtain⟨c2,_⟩:=hSw.1 2 (by decide)
  obtain⟨c3,_⟩:=hSw.1 3 (by decide)
  go_simp
  try with_reducible rfl
 simp only [Act.put,nrm]
 refine tw 33 ?vu31 rfl ?hyu31 ?restu31
 case hyu31=>
  intro W hSw
  go_simp
  try with_reducible rfl
 simp only [Act.put,nrm]
 refine tw 34 ?vu32 rfl ?hyu32 ?restu32
 case hyu32=>
  intro W hSw
  obtain⟨c0,_⟩:=hSw.1 0 (by decide)
  obtain⟨c1,_⟩:=hSw.1 1 (by decide)
  obtain⟨c2,_⟩:=hSw.1 2 (by decide)
  obtain⟨c3,_⟩:=hSw.1 3 (by decide)
  go_simp
  try with_reducible rfl
 simp only [Act.put,nrm]
 refine rd 8 rfl (fun K hK=> ?_)
 go_simp
 refine(fgather _ _ _ _ _ (by assumption) (by assumption) (by assumption) (by assumption)).mono ?_
 rintro e uy33 ⟨rfl,rfl⟩
 rw [G0.out]
 go_wp2_with fail
 refine hK.out _ _ hH' ?_
 clear hK K hH'
 intro hH'
 try simp only [Act.put,nrm]
 refine rd 17 rfl (fun K hK=> ?_)
 go_simp
 refine(fgather _ _ _ _ _ (by assumption) (by assumption) (by assumption) (by assumption)).mono ?_
 rintro e uy34 ⟨rfl,rfl⟩
 rw [G1.out]
 go_wp2_with fail
 refine hK.out _ _ hH' ?_
 clear hK K hH'
 intro hH'
 try simp only [Act.put,nrm]
 refine rd 26 rfl (fun K hK=> ?_)
 go_simp
 refine(fgather _ _ _ _ _ (by assumption) (by assumption) (by assumption) (by assumption)).mono ?_
 rintro e uy35 ⟨rfl,rfl⟩
 rw [G2.out]
 go_wp2_with fail
 refine hK.out _ _ hH' ?_
 clear hK K hH'
 intro hH'
 try simp only [Act.put,nrm]
 refine rd 35 rfl (fun K hK=> ?_)
 go_simp
 refine(fgather _ _ _ _ _ (by assumption) (by assumption) (by assumption) (by assumption)).mono ?_
 rintro e uy36 ⟨rfl,rfl⟩
 rw [G3.out]
 go_wp2_with fail
 refine hK.out _ _ hH' ?_
 clear hK K hH'
 intro hH'
 try simp only [Act.put,nrm]
 refine tw 36 ?vu37 rfl ?hyu37 ?restu37
 case hyu37=>
  intro W hSw
  go_simp
  try with_reducible rfl
 simp only [Act.put,nrm]
 refine rd 37 rfl (fun K hK=> ?_)
 rw [if_pos (by rfl)]
 refine wp_store_mid _ _ _ rfl (w.heap.size+1) 0 (awL 4 (wd (uhF f))).toArray rfl rfl hRd.there (sizeCw _) (all_oneCell_toArray (awL_one 4 (wd (uhF f)))) ?_
 have hR9:=hRd.whole (wd (uhF f))
 have hK9:=(hH'.1).apart (b:=w.heap.size+1) (by omega) (awL 4 (wd (uhF f))) 0
 have hB9:=(hH'.2).trans (Below.setCells (Below.refl w.heap.size _) (b:=w.heap.size+1) (by omega) (awL 4 (wd (uhF f))) 0)
 clear hH'
 dsimp only [List.toList_toArray]
 generalize World.setCells _ (w.heap.size+1) 0 (awL 4 (wd (uhF f)))=w9 at*
 refine hK.out _ _ ⟨hK9,hB9⟩ (fun hH'=> ?_)
 clear hK
 try simp only [Act.put]
 refine wpAnyH_done (by kernel_rfl) ?_ _
 go_wp2_with fail
 refine bodyPost_ret_aw rfl rfl hR9 Tryz.arrCw (sizeCw _) rfl ⟨rfl,hB9⟩
end
section
open Go.RowKit
set_option linter.unusedVariables false
set_option maxRecDepth 100000
def ciF (f T:Nat→Nat) (b:Bool) (j:Nat):Value:=if j<16 then n8 (f j)else if j<60 then w32 (T (j-16))else .bool b
theorem ciF_one (f T:Nat→Nat) (b:Bool) (j:Nat):(ciF f T b j).oneCell'=true:=by
 unfold ciF
 repeat' split
 all_goals rfl
theorem built_cip (f:Nat→Nat):Tryz.prog.built 67 [(0,.agg (arL 16 f).toArray),(2,.bool true)]=some (cxL 61 (ciF f (fun _=>0) true)).toArray:=by kernel_rfl
theorem run_cip (f:Nat→Nat) (w:World):(Instr.build 67 #[(0,.agg (arL 16 f).toArray),(2,.bool true)]).run Tryz.prog w= .ok (.agg (cxL 61 (ciF f (fun _=>0) true)).toArray) w:=
 run_build w _ _ _ (built_cip f)
def thF (f:Nat→Nat) (n m:Nat):Nat:=if m/4<n then wd (rk f (m/4)) (m%4)else 0
def Ci (w:World) (g:Nat) (f:Nat→Nat):Prop:=Cx w g 61 (ciF f (thF f 11) true)
theorem ciF_key (f T:Nat→Nat) (b:Bool) (j:Nat) (v:Value) (h:(arL 16 f)[j]?=some v):ciF f T b (0+j)=v:=by
 obtain⟨h1,rfl⟩:=arL_get_some h
 unfold ciF;rw [if_pos (by omega),Nat.zero_add]
theorem ciF_there (f T:Nat→Nat) (b:Bool) (r:Nat) (hr:r<11) (W:Nat→Nat) (hW: ∀k,k<4→T (4*r+k)=W k) (j:Nat) (v:Value) (h:(awL 4 W)[j]?=some v):ciF f T b (16+r*4+j)=v:=by
 obtain⟨h1,rfl⟩:=awL_get_some h
 unfold ciF;rw [if_neg (by omega),if_pos (by omega),show 16+r*4+j-16=4*r+j by omega,hW j h1]
theorem Ci.there {w:World} {g:Nat} {f:Nat→Nat} (h:Ci w g f) (r:Nat) (hr:r<11):w.rangeAt g (16+r*4) (awL 4 (wd (rk f r))):=
 Cx.range h _ _ (by rw [awL_len];omega) (ciF_there _ _ _ r hr _ (fun k hk=>by unfold thF;rw [show(4*r+k)/4=r by omega,show(4*r+k)%4=k by omega,if_pos hr]))
theorem Ci.key {w:World} {g:Nat} {f:Nat→Nat} (h:Ci w g f):w.rangeAt g 0 (arL 16 f):=Cx.range h _ _ (by rw [arL_len];omega) (ciF_key _ _ _)
theorem Ci.ready {w:World} {g:Nat} {f:Nat→Nat} (h:Ci w g f):w.cell? ⟨g,60,none⟩=some (.bool true):=(h 60 (by decide)).1
theorem Ci.to {w w':World} {g:Nat} {f:Nat→Nat} (h:Ci w g f) (hb:Below w.heap.size w w'):Ci w' g f:=Cx.to h (by decide) hb
theorem Ci.keep {w w':World} {B g:Nat} {f:Nat→Nat} (h:Ci w g f) (hg:g<B) (hb:Below B w w'):Ci w' g f:=Cx.keep h hg hb
theorem Ci.drew {w:World} {g:Nat} {f:Nat→Nat} (h:Ci w g f):Ci w.drew g f:=h
theorem Ci.lt {w:World} {g:Nat} {f:Nat→Nat} (h:Ci w g f):g<w.heap.size:=Cx.lt h (by decide)
theorem ciF_putT (f T T':Nat→Nat) (b:Bool) (r:Nat) (hr:r<11) (W:Nat→Nat) (hT: ∀m,m<44→(if m/4=r then W (m%4)else T m)=T' m) (j:Nat) (hj:j<61):cxP (ciF f T b) (16+r*4) (awL 4 W) j=ciF f T' b j:=by
 unfold cxP
 rw [awL_len]
 by_cases hc:16+r*4≤j∧j<16+r*4+4
 ·rw [if_pos hc,awL_get 4 W _ (by omega)]
  unfold ciF
  rw [if_neg (by omega),if_pos (by omega),←hT _ (by omega),if_pos (by omega),show j-(16+r*4)=(j-16)%4 by omega];rfl
 ·rw [if_neg hc]
  unfold ciF
  split
  ·rfl
  ·split
   ·rw [←hT _ (by omega),if_neg (by omega)]
   ·rfl
end
section
open Go.RowKit
set_option linter.unusedVariables false
set_option maxRecDepth 100000
theorem thF_zero (f:Nat→Nat) (m:Nat):thF f 0 m=0:=by simp [thF]
theorem thF_step (f:Nat→Nat) (n m:Nat):(if m/4=n then wd (rk f n) (m%4)else thF f n m)=thF f (n+1) m:=by
 unfold thF
 by_cases h:m/4=n
 ·rw [if_pos h,if_pos (by omega),h]
 ·rw [if_neg h]
  by_cases h2:m/4<n
  ·rw [if_pos h2,if_pos (by omega)]
  ·rw [if_neg h2,if_neg (by omega)]
set_option maxHeartbeats 4000000 in
theorem fnew (f:Nat→Nat) (w:World) (hf:B16 f) (h:Boxes w):
  Calls Tryz.prog 8 #[.agg (arL 16 f).toArray] w fun e w'=> ∃g,e= .returned (.pointer (some ⟨g,0,none⟩))∧w.heap.size≤g∧Ci w' g f∧Below w.heap.size w w':=by
 have hz:=zero16b
 obtain⟨kA,hkA⟩:=Le ((arL 16 f).toArray)
 obtain⟨w1,hw1⟩:=Lv (w.alloc (.cells (arL 16 f).toArray 22))
 have hs1:=Zs1 hw1
 have hb1:=Bl hw1
 have hK1:Ar w1 w.heap.size 16 f:=by rw [hw1];exact Ar.new w 16 f _
 obtain⟨w2,hw2⟩:=Lv (w1.alloc (.cells (cxL 61 (ciF f (fun _=>0) true)).toArray 67))
 have hb2:=Bm hw2 hb1
 have hC2:Cx w2 (w.heap.size+1) 61 (ciF f (thF f 0) true):=by
  have h0:Cx w2 (w.heap.size+1) 61 (ciF f (fun _=>0) true):=by rw [hw2,←hs1];exact Cx.new w1 61 _ _
  refine h0.ext (fun j _=> ?_)
  unfold ciF
  simp only [thF_zero]
 have hK2:=ara hw2 hK1
 obtain⟨cA,hcA⟩:=Le ((cxL 61 (ciF f (fun _=>0) true)).toArray)
 have hbd:=Lib.hid (run_cip f)
 have HKA:=Lib.hid hkA
 rw [hkA]at hw1
 rw [hcA]at hw2 hbd
 rw [hkA]
 clear hkA hcA hb1
 have HF:=Lib.hid hf
 have HX:=Lib.hid h
 clear hf h
 go_enter Tryz.func8,Tryz.ntmps8
 go_upto_region 1 with fail
 rw [←hw1]
 clear hw1
 go_upto_region 2 with (first
  |(refine wpList_load_ar rfl _ _ rfl _ _ _ rfl hK1 Tryz.arr16b (size16b _) ?_)
  |(refine wpList_build_by rfl _ _ rfl [(0,.agg (arL 16 f).toArray),(2,.bool true)] rfl _ (hbd.out _) ?_))
 rw [←hw2]
 obtain⟨gC,hgC⟩:=Le (w.heap.size+1)
 have hlC:w.heap.size<gC:=by omega
 rw [hgC]at hC2
 try rw [hgC]
 clear hw2 hs1 hK1 hgC
 go_wp2_with (refine wpList_load_ar rfl _ _ rfl _ _ _ rfl hK2 Tryz.arr16b (size16b _) ?_)
 refine(kexpand f HF.out _ (HX.out.keep hb2)).mono ?_
 rintro e w3 ⟨rfl,hq⟩
 have hC3:=hC2.to (by decide) hq
 have hB3:=Tq hb2 hq
 clear hC2 hb2 hK2 hq hbd
 go_wp2_with fail
 have hrow:=Lib.hid (fun r=>arL_ext (n:=16) (f:=fun j=>ek f (r*16+j)) (g:=rk f r) (fun j hj=>by rw [Nat.mul_comm r 16,ek_rk f r j hj]))
 have hrk:=Lib.hid (fun r=>rk_lt f HF.out r)
 obtain⟨eA,heA⟩:=Le ((arL 176 (ek f)).toArray)
 have HEA:=Lib.hid heA
 rw [heA]
 clear heA
 go_loopw [11] (fun i wr=> ∃n:Nat,n≤11∧i= .int .i64 n∧Cx wr gC 61 (ciF f (thF f n) true)∧Below w.heap.size w wr) (fun i _=>11-(intOf i).toNat)
 case atStart=>exact⟨0,Nat.zero_le _,rfl,hC3,hB3⟩
 case round=>
  clear hC3 hB3
  obtain⟨n,hn,rfl,hC,hB⟩:=hrel
  by_cases hlt:n<11
  ·have i1:(n:Int)<11:=by omega
   have hix: ∀V,(Instr.index 45 (.agg eA) (.int .i64 n)).run Tryz.prog V= .ok (.agg (arL 16 (rk f n)).toArray) V:=fun V=>by
    have:=run_index_row (P:=Tryz.prog) (m:=16) Tryz.arr11 Tryz.arr16b (by kernel_rfl) (ek f) 176 n hlt (by omega) V
    rw [hrow.out,HEA.out]at this
    exact this
   obtain⟨gR,hgR⟩:=Le (wr.heap.size)
   have hlR:gC<gR:=by rw [←hgR];exact hC.lt (by decide)
   obtain⟨wa,hwa⟩:=Lv (wr.alloc (.cells (arL 16 fun _=>0).toArray 22))
   have hRa:Ar wa gR 16 (fun _=>0):=by rw [hwa,←hgR];exact Ar.new wr 16 _ _
   have hCa:Cx wa gC 61 (ciF f (thF f n) true):=by rw [hwa];exact hC.alloc (by decide) _
   have hBa:=Bm hwa hB
   clear hC hB
   go_upto_region 5 with (first
    |(refine wpList_store_ar rfl _ _ _ rfl _ _ _ (rk f n) rfl rfl (by rw [←hwa];exact hRa) (size16b _) ?_;intro wb hRb hbb hsb _)
    |fail)
   rw [←hwa]at hbb hsb
   have hCwb:=hCa.keep hlR hbb
   have hBb:=hBa.trans (hbb.mono (by omega))
   clear hRa hCa hBa hbb hsb hwa hgR hix
   try dsimp only [Act.put]
   have hCad:=hCwb.drew
   refine wp_region_held_drew (S:=fun W=>Ar W gR 16 (rk f n)∧Below w.heap.size w W) (by kernel_rfl) ⟨hRb.drew,hBb.drew⟩ (fun hH'=> ?_)
   clear hRb hBb hCwb
   generalize World.drew wb=ad at*
   refine tw 0 ?va1 rfl ?hya1 ?resta1
   case hya1=>
    intro W hSw
    go_simp
    try with_reducible rfl
   simp only [Act.put,nrm]
   refine tw 1 ?va2 rfl ?hya2 ?resta2
   case hya2=>
    intro W hSw
    go_simp
    try with_reducible rfl
   simp only [Act.put,nrm]
   refine tk 2 (.agg (arL 16 (rk f n)).toArray) rfl (yieldsIf_load_mid (by rfl) _ _ rfl gR (0) rfl (arL 16 (rk f n)) _ (fun W hSw=>hSw.1.range) Tryz.arr16b rfl (size16b _)) ?_
   simp only [Act.put,nrm]
   refine tw 4 ?va3 rfl ?hya3 ?resta3
   case hya3=>
    intro W hSw
    go_simp
    try with_reducible rfl
   simp only [Act.put,nrm]
   refine tw 5 ?va4 rfl ?hya4 ?resta4
   case hya4=>
    intro W hSw
    go_simp
    try with_reducible rfl
   simp only [Act.put,nrm]
   refine rd 3 rfl (fun K hK=> ?_)
   go_simp
   refine(fsplit (rk f n) _ (hrk.out n)).mono ?_
   rintro e a5 ⟨rfl,hq⟩
   go_wp2_with fail
   have hCa5:=(hCad).to (by decide) hq
   refine hK.out _ _ ⟨hH'.1.t hq,Tq hH'.2 hq⟩ ?_
   clear hK K hH' hq hCad
   intro hH'
   try simp only [Act.put,nrm]
   refine tw 6 ?va6 rfl ?hya6 ?resta6
   case hya6=>
    intro W hSw
    go_simp
    try with_reducible rfl
   simp only [Act.put,nrm]
   refine rd 7 rfl (fun K hK=> ?_)
   rw [if_pos (by rfl)]
   refine wp_store_mid _ _ _ rfl gC (16+n*4) (awL 4 (wd (rk f n))).toArray rfl rfl (hCa5.there (16+n*4) 4 (by omega)) (sizeCw _) (all_oneCell_toArray (awL_one 4 (wd (rk f n)))) ?_
   have hCa7:=hCa5.put (16+n*4) (awL 4 (wd (rk f n))) (by rw [awL_len];omega)
   dsimp only [List.toList_toArray]
   refine hK.out _ _ ⟨(hH'.1).apart (b:=gC) (by omega) (awL 4 (wd (rk f n))) (16+n*4),(hH'.2).trans (Below.setCells (Below.refl w.heap.size _) (b:=gC) (by omega) (awL 4 (wd (rk f n))) (16+n*4))⟩ ?_
   clear hK K hH' hCa5
   intro hH'
   generalize World.setCells a5 gC (16+n*4) (awL 4 (wd (rk f n)))=a7 at*
   try simp only [Act.put]
   refine wpAnyH_done (by kernel_rfl) ?_ _
   have hC9:=hCa7.ext (fun j hj=>ciF_putT f (thF f n) (thF f (n+1)) true n hlt _ (fun m _=>thF_step f n m) j hj)
   have hB9:=hH'.2
   clear hH' hCa7
   go_wp2_with fail
   go_roundw
   case rel=>exact⟨n+1,by omega,by go_num,hC9,hB9⟩
   case measure=>simp [intOf];omega
  ·obtain rfl:n=11:=by omega
   go_wp2_with fail
   go_ret
   exact⟨gC,rfl,by omega,hC,hB⟩
end
section
open Go.RowKit
set_option linter.unusedVariables false
set_option maxRecDepth 100000
def CipV (w:World) (v:Value) (f:Nat→Nat):Prop:= ∀V,Below w.heap.size w V→Calls Tryz.prog 44 #[v] V fun e V'=> ∃g,e= .returned (.pointer (some ⟨g,0,none⟩))∧Ci V' g f∧(g<w.heap.size∨V.heap.size≤g)∧Below V.heap.size V V'
theorem CipV.to {w w':World} {v:Value} {f:Nat→Nat} (h:CipV w v f) (hb:Below w.heap.size w w'):CipV w' v f:=fun V hV=>(h V (hb.trans (hV.mono hb.size))).mono fun e V' ⟨g,h1,h2,h3,h4⟩=>⟨g,h1,h2,h3.imp (fun h=>Nat.lt_of_lt_of_le h hb.size) id,h4⟩
theorem exp_made (g:Nat) (f:Nat→Nat) (w:World) (h:Ci w g f):CipV w (.pointer (some ⟨g,0,none⟩)) f:=by
 intro V hV
 have hc:=h.to hV
 have c0:=hc.ready
 have hl:=h.lt
 clear h hV
 go_enter Tryz.func44,Tryz.ntmps44
 go_wp2_with fail
 go_ret
 exact⟨g,rfl,hc,Or.inl hl,Below.refl _ _⟩
theorem exp_nil (w:World) (h:Boxes w):CipV w (.pointer none) zF:=by
 intro V hV
 have z0:=Lib.hid run_zero16
 have hn:=Lib.hid (fnew zF V zF_lt (h.keep hV))
 clear h hV
 go_enter Tryz.func44,Tryz.ntmps44
 go_wp2_with (refine wpList_build_by rfl _ _ rfl [] rfl _ (z0.out _) ?_)
 refine hn.out.mono ?_
 rintro e w1 ⟨g,rfl,hg,hC,hb⟩
 go_wp2_with fail
 go_ret
 exact⟨g,rfl,hC,Or.inr hg,hb⟩
theorem exp_zero (g:Nat) (T:Nat→Nat) (w:World) (hz:Cx w g 61 (ciF zF T false)) (h:Boxes w):CipV w (.pointer (some ⟨g,0,none⟩)) zF:=by
 intro V hV
 have z0:=Lib.hid run_zero16
 have hn:=Lib.hid (fnew zF V zF_lt (h.keep hV))
 have c0:V.cell? ⟨g,60,none⟩=some (.bool false):=((hz.to (by decide) hV) 60 (by decide)).1
 clear h hV hz
 go_enter Tryz.func44,Tryz.ntmps44
 go_wp2_with (refine wpList_build_by rfl _ _ rfl [] rfl _ (z0.out _) ?_)
 refine hn.out.mono ?_
 rintro e w1 ⟨g,rfl,hg,hC,hb⟩
 go_wp2_with fail
 go_ret
 exact⟨g,rfl,hC,Or.inr hg,hb⟩
set_option maxHeartbeats 800000 in
theorem fkey (g:Nat) (f T:Nat→Nat) (b:Bool) (w:World) (h:Cx w g 61 (ciF f T b)):
  Calls Tryz.prog 86 #[.pointer (some ⟨g,0,none⟩)] w fun e w'=>e= .returned (.agg (arL 16 f).toArray)∧Below w.heap.size w w':=by
 have hz:=zero16b
 obtain⟨w1,hw1⟩:=Lv (w.alloc (.cells (arL 16 fun _=>0).toArray 22))
 have hb1:=Bl hw1
 have hR1:Ar w1 w.heap.size 16 (fun _=>0):=by rw [hw1];exact Ar.new w 16 _ _
 have hc:=(Cx.to h (by decide) hb1).range 0 (arL 16 f) (by rw [arL_len];omega) (ciF_key _ _ _)
 clear h
 go_enter Tryz.func86,Tryz.ntmps86
 go_upto_region 1 with fail
 rw [←hw1]
 clear hw1
 go_wp2_with (first
  |(refine wpList_load_mid rfl _ _ rfl g 0 rfl (arL 16 f) _ hc Tryz.arr16b rfl (size16b _) ?_)
  |(refine wpList_store_ar rfl _ _ _ rfl _ _ _ f rfl rfl hR1 (size16b _) ?_;intro w8 hA8 hb8 _ _))
 refine bodyPost_ret_ar rfl rfl hA8 Tryz.arr16b (size16b _) rfl ⟨rfl,?_⟩
 exact hb1.trans hb8
set_option maxHeartbeats 800000 in
theorem fkey_nil (w:World):
  Calls Tryz.prog 86 #[.pointer none] w fun e w'=>e= .returned (.agg (arL 16 zF).toArray)∧Below w.heap.size w w':=by
 have hz:=zero16b
 have z0:=Lib.hid run_zero16
 obtain⟨w1,hw1⟩:=Lv (w.alloc (.cells (arL 16 fun _=>0).toArray 22))
 have hb1:=Bl hw1
 have hR1:Ar w1 w.heap.size 16 (fun _=>0):=by rw [hw1];exact Ar.new w 16 _ _
 go_enter Tryz.func86,Tryz.ntmps86
 go_upto_region 1 with fail
 rw [←hw1]
 clear hw1
 go_wp2_with (first
  |(refine wpList_build_by rfl _ _ rfl [] rfl _ (z0.out _) ?_)
  |(refine wpList_store_ar rfl _ _ _ rfl _ _ _ (fun _=>0) rfl rfl hR1 (size16b _) ?_;intro w8 hA8 hb8 _ _))
 refine bodyPost_ret_ar rfl rfl hA8 Tryz.arr16b (size16b _) rfl ⟨rfl,?_⟩
 exact hb1.trans hb8
end
section
open Go.RowKit
set_option linter.unusedVariables false
set_option maxRecDepth 100000
noncomputable def fencryptRegC:Code:=((Tryz.f21.body.bind (regionNo 2)).getD .skip)
set_option maxHeartbeats 4000000 in
theorem fencryptReg (f b:Nat→Nat) (gB gC gR:Nat) {Q0:Exit→Act→World→Prop} {t1 t2 t5 t6 t7 t8 t9 t10 t11 t12 t13 t14 t15 t16 t17 t18 t19 t20 t21 t22 t23 t24 t25 t26 t27 t28 t29 t30 t31 t32 t33 t34 t35 t36 t37 t38 t39 t40:Value} {w W:World} (hb:B16 b) (hk:B16 (rk f 0)) (hlB:w.heap.size≤gB) (hlR:gB<gR) (hbW:Ar W gB 16 b) (hCW:Ci W gC f) (hRW:Ar W gR 16 (fun _=>0)) (hBW:Below w.heap.size w W)
  (hQ: ∀(gT:Nat) (w9:World) (u9 u10 u11 u12 u13 u14 u15 u16:Value),gR<gT→gC<gT→Aw w9 gT 4 (wd (adF b (rk f 0)))→Ar w9 gB 16 b→Ci w9 gC f→Ar w9 gR 16 (fun _=>0)→Below w.heap.size w w9→Q0 .normal ⟨(.pointer (some ⟨gC,0,none⟩)::t1::t2:: .pointer (some ⟨gB,0,none⟩):: .pointer (some ⟨gR,0,none⟩):: .pointer (some ⟨gT,0,none⟩)::t6::t7::t8::u9::u10::u11::u12::u13::u14::u15::u16::t17::t18::t19::t20::t21::t22::t23::t24::t25::t26::t27::t28::t29::t30::t31::t32::t33::t34::t35::t36::t37::t38::t39::t40:: []).toArray,[]⟩ w9):
  Code.wp Tryz.prog fencryptRegC Q0 ⟨(.pointer (some ⟨gC,0,none⟩)::t1::t2:: .pointer (some ⟨gB,0,none⟩):: .pointer (some ⟨gR,0,none⟩)::t5::t6::t7::t8::t9::t10::t11::t12::t13::t14::t15::t16::t17::t18::t19::t20::t21::t22::t23::t24::t25::t26::t27::t28::t29::t30::t31::t32::t33::t34::t35::t36::t37::t38::t39::t40:: []).toArray,[]⟩ W:=by
 have HQ:=Lib.hid hQ
 clear hQ
 refine Code.wp_mono NoPanic.imp ?_
 conv=>arg 2;whnf
 refine wp_region_held_drew (S:=fun W=>Ar W gB 16 (b)∧Ci W gC (f)∧Ar W gR 16 (fun _=>0)∧Below w.heap.size w W) (by kernel_rfl) ⟨hbW,hCW.drew,hRW,hBW.drew⟩ (fun hH'=> ?_)
 clear hbW hCW hRW hBW
 generalize World.drew W=ad at*
 refine tk 0 (.agg (arL 16 (b)).toArray) rfl (yieldsIf_load_mid (by rfl) _ _ rfl gB (0) rfl (arL 16 (b)) _ (fun W hSw=>hSw.1.range) Tryz.arr16b rfl (size16b _)) ?_
 simp only [Act.put,nrm]
 refine tw 2 ?va1 rfl ?hya1 ?resta1
 case hya1=>
  intro W hSw
  go_simp
  try with_reducible rfl
 simp only [Act.put,nrm]
 refine tw 3 ?va2 rfl ?hya2 ?resta2
 case hya2=>
  intro W hSw
  go_simp
  try with_reducible rfl
 simp only [Act.put,nrm]
 refine tw 4 ?va3 rfl ?hya3 ?resta3
 case hya3=>
  intro W hSw
  go_simp
  try with_reducible rfl
 simp only [Act.put,nrm]
 refine tw 5 ?va4 rfl ?hya4 ?resta4
 case hya4=>
  intro W hSw
  go_simp
  try with_reducible rfl
 simp only [Act.put,nrm]
 refine tk 6 (.agg (awL 4 (wd (rk f 0))).toArray) rfl (yieldsIf_load_mid (by rfl) _ _ rfl gC (16) rfl (awL 4 (wd (rk f 0))) _ (fun W hSw=>(hSw.2.1).there 0 (by decide)) Tryz.arrCw rfl (sizeCw _)) ?_
 simp only [Act.put,nrm]
 refine rd2 1 8 rfl rfl (fun K hK=> ?_) (fun K hK=> ?_)
 ·go_simp
  refine(fsplit b _ hb).mono ?_
  rintro e a5 ⟨rfl,hq⟩
  go_wp2_with fail
  refine hK.out _ _ ⟨hH'.1.t hq,hH'.2.1.to hq,hH'.2.2.1.t hq,Tq hH'.2.2.2 hq⟩ ?_
  clear hK K hH' hq
  intro hH'
  try simp only [Act.put,nrm]
  refine rd2 7 8 rfl rfl (fun K hK=> ?_) (fun K hK=> ?_)
  ·go_simp
   refine(fadd b (rk f 0) _ hb hk).mono ?_
   rintro e a6 ⟨rfl,hq⟩
   go_wp2_with fail
   refine hK.out _ _ ⟨hH'.1.t hq,hH'.2.1.to hq,hH'.2.2.1.t hq,Tq hH'.2.2.2 hq⟩ ?_
   clear hK K hH' hq
   intro hH'
   try simp only [Act.put,nrm]
   refine rd 8 rfl (fun K hK=> ?_)
   obtain⟨gT,hggT⟩:=Le (a6.heap.size)
   have hlgRgT:gR<gT:=by rw [←hggT];exact(hH'.2.2.1).lt (by omega)
   have hlgCgT:gC<gT:=by rw [←hggT];exact(hH'.2.1).lt
   have hq:=Ba a6 (.cells #[.int .u32 0,.int .u32 0,.int .u32 0,.int .u32 0] 64)
   have hTa7:=Aw.new a6 4 (fun _=>0) 64
   rw [hggT]at hTa7
   go_simp
   obtain⟨a7,hwa7⟩:=Lv (a6.alloc (.cells #[.int .u32 0,.int .u32 0,.int .u32 0,.int .u32 0] 64))
   have hTa7:Aw a7 gT 4 (fun _=>0):=by rw [hwa7];exact hTa7
   try rw [hggT]
   rw [←hwa7]
   refine hK.out _ _ (by rw [hwa7];exact⟨hH'.1.t hq,hH'.2.1.to hq,hH'.2.2.1.t hq,Tq hH'.2.2.2 hq⟩) ?_
   clear hK K hH' hq hwa7 hggT
   intro hH'
   try simp only [Act.put,nrm]
   refine rd 9 rfl (fun K hK=> ?_)
   rw [if_pos (by rfl)]
   refine wp_store_mid _ _ _ rfl gT 0 (awL 4 (wd (adF b (rk f 0)))).toArray rfl rfl hTa7.there (sizeCw _) (all_oneCell_toArray (awL_one 4 (wd (adF b (rk f 0))))) ?_
   have hTa8:=hTa7.whole (wd (adF b (rk f 0)))
   dsimp only [List.toList_toArray]
   refine hK.out _ _ ⟨(hH'.1).apart (b:=gT) (by omega) (awL 4 (wd (adF b (rk f 0)))) 0,Cx.apart (hH'.2.1) (b:=gT) (by omega) (awL 4 (wd (adF b (rk f 0)))) 0,(hH'.2.2.1).apart (b:=gT) (by omega) (awL 4 (wd (adF b (rk f 0)))) 0,(hH'.2.2.2).trans (Below.setCells (Below.refl w.heap.size _) (b:=gT) (by omega) (awL 4 (wd (adF b (rk f 0)))) 0)⟩ ?_
   clear hK K hH' hTa7
   intro hH'
   generalize World.setCells a7 gT 0 (awL 4 (wd (adF b (rk f 0))))=a8 at*
   try simp only [Act.put]
   refine wpAnyH_done (by kernel_rfl) ?_ _
   exact NoPanic.normal (HQ.out gT a8 _ _ _ _ _ _ _ _ (by omega) (by omega) hTa8 hH'.1 hH'.2.1 hH'.2.2.1 hH'.2.2.2)
  ·obtain⟨gT,hggT⟩:=Le (a5.heap.size)
   have hlgRgT:gR<gT:=by rw [←hggT];exact(hH'.2.2.1).lt (by omega)
   have hlgCgT:gC<gT:=by rw [←hggT];exact(hH'.2.1).lt
   have hq:=Ba a5 (.cells #[.int .u32 0,.int .u32 0,.int .u32 0,.int .u32 0] 64)
   have hTa9:=Aw.new a5 4 (fun _=>0) 64
   rw [hggT]at hTa9
   go_simp
   obtain⟨a9,hwa9⟩:=Lv (a5.alloc (.cells #[.int .u32 0,.int .u32 0,.int .u32 0,.int .u32 0] 64))
   have hTa9:Aw a9 gT 4 (fun _=>0):=by rw [hwa9];exact hTa9
   try rw [hggT]
   rw [←hwa9]
   refine hK.out _ _ (by rw [hwa9];exact⟨hH'.1.t hq,hH'.2.1.to hq,hH'.2.2.1.t hq,Tq hH'.2.2.2 hq⟩) ?_
   clear hK K hH' hq hwa9 hggT
   intro hH'
   try simp only [Act.put,nrm]
   refine rd 7 rfl (fun K hK=> ?_)
   go_simp
   refine(fadd b (rk f 0) _ hb hk).mono ?_
   rintro e a10 ⟨rfl,hq⟩
   go_wp2_with fail
   have hTa10:=hTa9.t hq
   refine hK.out _ _ ⟨hH'.1.t hq,hH'.2.1.to hq,hH'.2.2.1.t hq,Tq hH'.2.2.2 hq⟩ ?_
   clear hK K hH' hq hTa9
   intro hH'
   try simp only [Act.put,nrm]
   refine rd 9 rfl (fun K hK=> ?_)
   rw [if_pos (by rfl)]
   refine wp_store_mid _ _ _ rfl gT 0 (awL 4 (wd (adF b (rk f 0)))).toArray rfl rfl hTa10.there (sizeCw _) (all_oneCell_toArray (awL_one 4 (wd (adF b (rk f 0))))) ?_
   have hTa11:=hTa10.whole (wd (adF b (rk f 0)))
   dsimp only [List.toList_toArray]
   refine hK.out _ _ ⟨(hH'.1).apart (b:=gT) (by omega) (awL 4 (wd (adF b (rk f 0)))) 0,Cx.apart (hH'.2.1) (b:=gT) (by omega) (awL 4 (wd (adF b (rk f 0)))) 0,(hH'.2.2.1).apart (b:=gT) (by omega) (awL 4 (wd (adF b (rk f 0)))) 0,(hH'.2.2.2).trans (Below.setCells (Below.refl w.heap.size _) (b:=gT) (by omega) (awL 4 (wd (adF b (rk f 0)))) 0)⟩ ?_
   clear hK K hH' hTa10
   intro hH'
   generalize World.setCells a10 gT 0 (awL 4 (wd (adF b (rk f 0))))=a11 at*
   try simp only [Act.put]
   refine wpAnyH_done (by kernel_rfl) ?_ _
   exact NoPanic.normal (HQ.out gT a11 _ _ _ _ _ _ _ _ (by omega) (by omega) hTa11 hH'.1 hH'.2.1 hH'.2.2.1 hH'.2.2.2)
 ·obtain⟨gT,hggT⟩:=Le (ad.heap.size)
  have hlgRgT:gR<gT:=by rw [←hggT];exact(hH'.2.2.1).lt (by omega)
  have hlgCgT:gC<gT:=by rw [←hggT];exact(hH'.2.1).lt
  have hq:=Ba ad (.cells #[.int .u32 0,.int .u32 0,.int .u32 0,.int .u32 0] 64)
  have hTa12:=Aw.new ad 4 (fun _=>0) 64
  rw [hggT]at hTa12
  go_simp
  obtain⟨a12,hwa12⟩:=Lv (ad.alloc (.cells #[.int .u32 0,.int .u32 0,.int .u32 0,.int .u32 0] 64))
  have hTa12:Aw a12 gT 4 (fun _=>0):=by rw [hwa12];exact hTa12
  try rw [hggT]
  rw [←hwa12]
  refine hK.out _ _ (by rw [hwa12];exact⟨hH'.1.t hq,hH'.2.1.to hq,hH'.2.2.1.t hq,Tq hH'.2.2.2 hq⟩) ?_
  clear hK K hH' hq hwa12 hggT
  intro hH'
  try simp only [Act.put,nrm]
  refine rd 1 rfl (fun K hK=> ?_)
  go_simp
  refine(fsplit b _ hb).mono ?_
  rintro e a13 ⟨rfl,hq⟩
  go_wp2_with fail
  have hTa13:=hTa12.t hq
  refine hK.out _ _ ⟨hH'.1.t hq,hH'.2.1.to hq,hH'.2.2.1.t hq,Tq hH'.2.2.2 hq⟩ ?_
  clear hK K hH' hq hTa12
  intro hH'
  try simp only [Act.put,nrm]
  refine rd 7 rfl (fun K hK=> ?_)
  go_simp
  refine(fadd b (rk f 0) _ hb hk).mono ?_
  rintro e a14 ⟨rfl,hq⟩
  go_wp2_with fail
  have hTa14:=hTa13.t hq
  refine hK.out _ _ ⟨hH'.1.t hq,hH'.2.1.to hq,hH'.2.2.1.t hq,Tq hH'.2.2.2 hq⟩ ?_
  clear hK K hH' hq hTa13
  intro hH'
  try simp only [Act.put,nrm]
  refine rd 9 rfl (fun K hK=> ?_)
  rw [if_pos (by rfl)]
  refine wp_store_mid _ _ _ rfl gT 0 (awL 4 (wd (adF b (rk f 0)))).toArray rfl rfl hTa14.there (sizeCw _) (all_oneCell_toArray (awL_one 4 (wd (adF b (rk f 0))))) ?_
  have hTa15:=hTa14.whole (wd (adF b (rk f 0)))
  dsimp only [List.toList_toArray]
  refine hK.out _ _ ⟨(hH'.1).apart (b:=gT) (by omega) (awL 4 (wd (adF b (rk f 0)))) 0,Cx.apart (hH'.2.1) (b:=gT) (by omega) (awL 4 (wd (adF b (rk f 0)))) 0,(hH'.2.2.1).apart (b:=gT) (by omega) (awL 4 (wd (adF b (rk f 0)))) 0,(hH'.2.2.2).trans (Below.setCells (Below.refl w.heap.size _) (b:=gT) (by omega) (awL 4 (wd (adF b (rk f 0)))) 0)⟩ ?_
  clear hK K hH' hTa14
  intro hH'
  generalize World.setCells a14 gT 0 (awL 4 (wd (adF b (rk f 0))))=a15 at*
  try simp only [Act.put]
  refine wpAnyH_done (by kernel_rfl) ?_ _
  exact NoPanic.normal (HQ.out gT a15 _ _ _ _ _ _ _ _ (by omega) (by omega) hTa15 hH'.1 hH'.2.1 hH'.2.2.1 hH'.2.2.2)
set_option maxHeartbeats 4000000 in
theorem fencrypt (v:Value) (f b:Nat→Nat) (w:World) (hf:B16 f) (hb:B16 b) (hv:CipV w v f) (h:Boxes w):
  Calls Tryz.prog 21 #[v,.agg (arL 16 b).toArray] w fun e w'=>e= .returned (.agg (arL 16 (enF f b)).toArray)∧Below w.heap.size w w':=by
 have hz:=zero16b
 obtain⟨kB,hkB⟩:=Le ((arL 16 b).toArray)
 obtain⟨w1,hw1⟩:=Lv (w.alloc (.cells (arL 16 b).toArray 22))
 have hs1:=Zs1 hw1
 have hb1:=Bl hw1
 have hK1:Ar w1 w.heap.size 16 b:=by rw [hw1];exact Ar.new w 16 b _
 obtain⟨w2,hw2⟩:=Lv (w1.alloc (.cells (arL 16 fun _=>0).toArray 22))
 have hb2:=Bm hw2 hb1
 have hR2:Ar w2 (w.heap.size+1) 16 (fun _=>0):=by rw [hw2,←hs1];exact Ar.new w1 16 _ _
 have hK2:=ara hw2 hK1
 have HF:=Lib.hid hf
 have HBB:=Lib.hid hb
 have HX:=Lib.hid h
 have hv2:=Lib.hid (hv w2 hb2)
 rw [hkB]at hw1
 rw [hkB]
 clear hb1 hK1 hkB hf hb h hv
 go_enter Tryz.func21,Tryz.ntmps21
 go_upto_region 1 with fail
 rw [←hw1,←hw2]
 clear hw1 hw2 hs1
 obtain⟨gB,hgB⟩:=Le (w.heap.size)
 obtain⟨gR,hgR⟩:=Le (w.heap.size+1)
 have hlB:w.heap.size≤gB:=by omega
 have hlR:gB<gR:=by omega
 rw [hgR]at hR2
 rw [hgB]at hK2
 try rw [hgR]
 try simp only [hgB]
 clear hgR
 go_wp2_with fail
 refine hv2.out.mono ?_
 rintro e w3 ⟨gC,rfl,hC3,hor,hq⟩
 have hneR:gC≠gR:=by have hs:=hR2.lt (by omega);omega
 have hR3:=hR2.t hq
 have hK3:=hK2.t hq
 have hB3:=Tq hb2 hq
 clear hR2 hK2 hb2 hq hv2
 have hrk:=Lib.hid (fun r=>rk_lt f HF.out r)
 have hel:=Lib.hid (enR_lt HF.out HBB.out)
 have hst:=Lib.hid (show∀r,1≤r→r<10→adF (miF (shF (suF (enR f b (r-1))))) (rk f r)=enR f b r from fun r h1 h2=>by
  obtain⟨s,rfl⟩: ∃s,r=s+1:=⟨r-1,by omega⟩
  rw [enR,if_pos h2,Nat.add_sub_cancel])
 have hlast:=Lib.hid (show adF (shF (suF (enR f b (10-1)))) (rk f 10)=enF f b from rfl)
 go_upto_region 2 with fail
 refine fencryptReg f b gB gC gR HBB.out (hrk.out 0) hlB hlR hK3 hC3 hR3 hB3 ?_
 intro gT w4 u9 u10 u11 u12 u13 u14 u15 u16 hlT hlT2 hT4 hK4 hC4 hR4 hB4
 clear hK3 hC3 hR3 hB3 hK4
 go_wp2_with fail
 go_loopw [6] (fun i wr=> ∃r:Nat,1≤r∧r≤10∧i= .int .i64 r∧Aw wr gT 4 (wd (enR f b (r-1)))∧Ci wr gC f∧Ar wr gR 16 (fun _=>0)∧Below w.heap.size w wr) (fun i _=>10-(intOf i).toNat)
 case atStart=>exact⟨1,by omega,by omega,rfl,hT4,hC4,hR4,hB4⟩
 case round=>
  clear hT4 hC4 hR4 hB4
  obtain⟨r,hr1,hr,rfl,hT0,hC0,hR0,hB0⟩:=hrel
  have hlC:=hC0.lt
  by_cases hlt:r<10
  ·have i1:(r:Int)<10:=by omega
   have i2:(r:Int)<11:=by omega
   go_upto_region 6 with fail
   have hTwr:=hT0
   clear hT0
   have hTbd:=hTwr.drew
   refine wp_region_held_drew (S:=fun W=>Ci W gC (f)∧Ar W gR 16 (fun _=>0)∧Below w.heap.size w W) (by kernel_rfl) ⟨hC0.drew,hR0.drew,hB0.drew⟩ (fun hH'=> ?_)
   clear hC0 hR0 hB0 hTwr
   generalize World.drew wr=bd at*
   refine tw 3 ?vb1 rfl ?hyb1 ?restb1
   case hyb1=>
    intro W hSw
    go_simp
    try with_reducible rfl
   simp only [Act.put,nrm]
   refine tw 4 ?vb2 rfl ?hyb2 ?restb2
   case hyb2=>
    intro W hSw
    go_simp
    try with_reducible rfl
   simp only [Act.put,nrm]
   refine tw 5 ?vb3 rfl ?hyb3 ?restb3
   case hyb3=>
    intro W hSw
    go_simp
    try with_reducible rfl
   simp only [Act.put,nrm]
   refine tw 6 ?vb4 rfl ?hyb4 ?restb4
   case hyb4=>
    intro W hSw
    go_simp
    try with_reducible rfl
   simp only [Act.put,nrm]
   refine tw 7 ?vb5 rfl ?hyb5 ?restb5
   case hyb5=>
    intro W hSw
    go_simp
    try with_reducible rfl
   simp only [Act.put,nrm]
   refine tk 8 (.agg (awL 4 (wd (rk f r))).toArray) rfl (yieldsIf_load_mid (by rfl) _ _ rfl gC (16+r*4) rfl (awL 4 (wd (rk f r))) _ (fun W hSw=>(hSw.1).there r (by omega)) Tryz.arrCw rfl (sizeCw _)) ?_
   simp only [Act.put,nrm]
   refine rd 0 rfl (fun K hK=> ?_)
   rw [if_pos (by rfl)]
   refine wp_load_mid _ _ rfl gT 0 rfl (awL 4 (wd (enR f b (r-1)))) _ hTbd.range Tryz.arrCw rfl (sizeCw _) ?_
   refine hK.out _ _ hH' ?_
   clear hK K hH'
   intro hH'
   try simp only [Act.put,nrm]
   refine rd 1 rfl (fun K hK=> ?_)
   go_simp
   refine(fshift (enR f b (r-1)) _ (hel.out _)).mono ?_
   rintro e b6 ⟨rfl,hq⟩
   go_wp2_with fail
   have hTb6:=hTbd.t hq
   refine hK.out _ _ ⟨hH'.1.to hq,hH'.2.1.t hq,Tq hH'.2.2 hq⟩ ?_
   clear hK K hH' hq hTbd
   intro hH'
   try simp only [Act.put,nrm]
   refine rd 2 rfl (fun K hK=> ?_)
   go_simp
   refine(fmix (shF (enR f b (r-1))) _ (shF_lt (hel.out _)) (HX.out.keep (hH'.2.2))).mono ?_
   rintro e b7 ⟨rfl,hq⟩
   rw [show miF (suF (shF (enR f b (r-1))))=miF (shF (suF (enR f b (r-1))))from rfl]
   go_wp2_with fail
   have hTb7:=hTb6.t hq
   refine hK.out _ _ ⟨hH'.1.to hq,hH'.2.1.t hq,Tq hH'.2.2 hq⟩ ?_
   clear hK K hH' hq hTb6
   intro hH'
   try simp only [Act.put,nrm]
   refine rd 9 rfl (fun K hK=> ?_)
   go_simp
   refine(fadd (miF (shF (suF (enR f b (r-1))))) (rk f r) _ (miF_lt _) (hrk.out r)).mono ?_
   rintro e b8 ⟨rfl,hq⟩
   go_wp2_with fail
   have hTb8:=hTb7.t hq
   refine hK.out _ _ ⟨hH'.1.to hq,hH'.2.1.t hq,Tq hH'.2.2 hq⟩ ?_
   clear hK K hH' hq hTb7
   intro hH'
   try simp only [Act.put,nrm]
   refine rd 10 rfl (fun K hK=> ?_)
   rw [if_pos (by rfl)]
   refine wp_store_mid _ _ _ rfl gT 0 (awL 4 (wd (adF (miF (shF (suF (enR f b (r-1))))) (rk f r)))).toArray rfl rfl hTb8.there (sizeCw _) (all_oneCell_toArray (awL_one 4 (wd (adF (miF (shF (suF (enR f b (r-1))))) (rk f r))))) ?_
   have hTb9:=hTb8.whole (wd (adF (miF (shF (suF (enR f b (r-1))))) (rk f r)))
   dsimp only [List.toList_toArray]
   refine hK.out _ _ ⟨Cx.apart (hH'.1) (b:=gT) (by omega) (awL 4 (wd (adF (miF (shF (suF (enR f b (r-1))))) (rk f r)))) 0,(hH'.2.1).apart (b:=gT) (by omega) (awL 4 (wd (adF (miF (shF (suF (enR f b (r-1))))) (rk f r)))) 0,(hH'.2.2).trans (Below.setCells (Below.refl w.heap.size _) (b:=gT) (by omega) (awL 4 (wd (adF (miF (shF (suF (enR f b (r-1))))) (rk f r)))) 0)⟩ ?_
   clear hK K hH' hTb8
   intro hH'
   generalize World.setCells b8 gT 0 (awL 4 (wd (adF (miF (shF (suF (enR f b (r-1))))) (rk f r))))=b9 at*
   try simp only [Act.put]
   refine wpAnyH_done (by kernel_rfl) ?_ _
   obtain⟨hC9,hR9,hB9⟩:=hH'
   have hT9:=hTb9
   clear hTb9
   rw [hst.out r hr1 hlt]at hT9
   clear i2
   go_wp2_with fail
   go_roundw
   case rel=>exact⟨r+1,by omega,by omega,by go_num,by rw [Nat.add_sub_cancel];exact hT9,hC9,hR9,hB9⟩
   case measure=>simp [intOf];omega
  ·obtain rfl:r=10:=by omega
   go_upto_region 7 with fail
   have hRwr:=hR0
   clear hR0
   obtain⟨X9,hX9⟩:=Le (enR f b (10-1))
   have hxl:=Lib.hid (show B16 X9 by rw [←hX9];exact hel.out _)
   have hlast:=hlast.out
   rw [hX9]at hlast hT0
   have hlast:=Lib.hid hlast
   obtain⟨K9,hK9⟩:=Le (rk f 10)
   have hkl:=Lib.hid (show B16 K9 by rw [←hK9];exact hrk.out 10)
   have hrange:=Lib.hid (show∀W,Ci W gC f→W.rangeAt gC (16+10*4) (awL 4 (wd K9))from fun W h=>by rw [←hK9];exact h.there 10 (by decide))
   rw [hK9]at hlast
   clear hX9 hK9
   have hRcd:=hRwr.drew
   refine wp_region_held_drew (S:=fun W=>Ci W gC (f)∧Aw W gT 4 (wd X9)∧Below w.heap.size w W) (by kernel_rfl) ⟨hC0.drew,hT0.drew,hB0.drew⟩ (fun hH'=> ?_)
   clear hC0 hT0 hB0 hRwr
   generalize World.drew wr=cd at*
   refine tk 0 (.agg (awL 4 (wd X9)).toArray) rfl (yieldsIf_load_mid (by rfl) _ _ rfl gT (0) rfl (awL 4 (wd X9)) _ (fun W hSw=>hSw.2.1.range) Tryz.arrCw rfl (sizeCw _)) ?_
   simp only [Act.put,nrm]
   refine tw 3 ?vc1 rfl ?hyc1 ?restc1
   case hyc1=>
    intro W hSw
    go_simp
    try with_reducible rfl
   simp only [Act.put,nrm]
   refine tw 4 ?vc2 rfl ?hyc2 ?restc2
   case hyc2=>
    intro W hSw
    go_simp
    try with_reducible rfl
   simp only [Act.put,nrm]
   refine tw 5 ?vc3 rfl ?hyc3 ?restc3
   case hyc3=>
    intro W hSw
    go_simp
    try with_reducible rfl
   simp only [Act.put,nrm]
   refine tw 6 ?vc4 rfl ?hyc4 ?restc4
   case hyc4=>
    intro W hSw
    go_simp
    try with_reducible rfl
   simp only [Act.put,nrm]
   refine tk 7 (.agg (awL 4 (wd (K9))).toArray) rfl (yieldsIf_load_mid (by rfl) _ _ rfl gC (16+10*4) rfl (awL 4 (wd (K9))) _ (fun W hSw=>hrange.out _ (hSw.1)) Tryz.arrCw rfl (sizeCw _)) ?_
   simp only [Act.put,nrm]
   refine rd 1 rfl (fun K hK=> ?_)
   go_simp
   refine(fshift (X9) _ hxl.out).mono ?_
   rintro e c5 ⟨rfl,hq⟩
   go_wp2_with fail
   have hRc5:=hRcd.t hq
   refine hK.out _ _ ⟨hH'.1.to hq,hH'.2.1.t hq,Tq hH'.2.2 hq⟩ ?_
   clear hK K hH' hq hRcd
   intro hH'
   try simp only [Act.put,nrm]
   refine rd 2 rfl (fun K hK=> ?_)
   go_simp
   refine(fsubw (shF (X9)) _ (shF_lt hxl.out) (HX.out.keep (hH'.2.2))).mono ?_
   rintro e c6 ⟨rfl,hq⟩
   rw [show suF (shF (X9))=shF (suF (X9))from rfl]
   go_wp2_with fail
   have hRc6:=hRc5.t hq
   refine hK.out _ _ ⟨hH'.1.to hq,hH'.2.1.t hq,Tq hH'.2.2 hq⟩ ?_
   clear hK K hH' hq hRc5
   intro hH'
   try simp only [Act.put,nrm]
   refine rd 8 rfl (fun K hK=> ?_)
   go_simp
   refine(fadd (shF (suF (X9))) (K9) _ (shF_lt (suF_lt _)) hkl.out).mono ?_
   rintro e c7 ⟨rfl,hq⟩
   go_wp2_with fail
   have hRc7:=hRc6.t hq
   refine hK.out _ _ ⟨hH'.1.to hq,hH'.2.1.t hq,Tq hH'.2.2 hq⟩ ?_
   clear hK K hH' hq hRc6
   intro hH'
   try simp only [Act.put,nrm]
   refine rd 9 rfl (fun K hK=> ?_)
   go_simp
   refine(fjoin (adF (shF (suF (X9))) (K9)) _ (adF_lt (shF_lt (suF_lt _)) hkl.out)).mono ?_
   rintro e c8 ⟨rfl,hq⟩
   go_wp2_with fail
   have hRc8:=hRc7.t hq
   refine hK.out _ _ ⟨hH'.1.to hq,hH'.2.1.t hq,Tq hH'.2.2 hq⟩ ?_
   clear hK K hH' hq hRc7
   intro hH'
   try simp only [Act.put,nrm]
   refine rd 10 rfl (fun K hK=> ?_)
   rw [if_pos (by rfl)]
   refine wp_store_mid _ _ _ rfl gR 0 (arL 16 (adF (shF (suF (X9))) (K9))).toArray rfl rfl hRc8.there (size16b _) (all_oneCell_toArray (arL_one 16 (adF (shF (suF (X9))) (K9)))) ?_
   have hRc9:=hRc8.whole (adF (shF (suF (X9))) (K9))
   dsimp only [List.toList_toArray]
   refine hK.out _ _ ⟨Cx.apart (hH'.1) (b:=gR) (by omega) (arL 16 (adF (shF (suF (X9))) (K9))) 0,(hH'.2.1).apart (b:=gR) (by omega) (arL 16 (adF (shF (suF (X9))) (K9))) 0,(hH'.2.2).trans (Below.setCells (Below.refl w.heap.size _) (b:=gR) (by omega) (arL 16 (adF (shF (suF (X9))) (K9))) 0)⟩ ?_
   clear hK K hH' hRc8
   intro hH'
   generalize World.setCells c8 gR 0 (arL 16 (adF (shF (suF (X9))) (K9)))=c9 at*
   try simp only [Act.put]
   refine wpAnyH_done (by kernel_rfl) ?_ _
   have hB9:=hH'.2.2
   have hR9:=hRc9
   clear hH' hRc9
   rw [hlast.out]at hR9
   go_wp2_with fail
   refine bodyPost_ret_ar rfl rfl hR9 Tryz.arr16b (size16b _) rfl ⟨rfl,hB9⟩
end
section
open Go.RowKit
set_option linter.unusedVariables false
set_option maxRecDepth 100000
def dS (f c:Nat→Nat):Nat→Nat→Nat
 |0=>usF (uhF (adF c (rk f 10)))
 |k+1=>usF (uhF (umF (adF (dS f c k) (rk f (9-k)))))
theorem dS_lt {f c:Nat→Nat} (hf:B16 f) (hc:B16 c): ∀k,B16 (dS f c k)
 |0=>usF_lt (uhF_lt (adF_lt hc (rk_lt f hf 10)))
 |k+1=>usF_lt (uhF_lt (umF_lt _))
theorem dS_de (f c:Nat→Nat): ∀k,k≤9→deR f (9-k) (dS f c k)=deF f c
 |0,_=>rfl
 |k+1,h=>by
  rw [←dS_de f c k (by omega)]
  obtain⟨m,hm⟩: ∃m,9-k=m+1:=⟨8-k,by omega⟩
  rw [hm,show 9-(k+1)=m by omega,deR,if_pos (by omega),dS,hm]
theorem dS_step (f c:Nat→Nat) (r q:Nat) (h:r=q+1) (hr:r≤9):usF (uhF (umF (adF (dS f c (9-r)) (rk f r))))=dS f c (9-q):=by
 obtain⟨k,hk⟩: ∃k,9-q=k+1:=⟨8-q,by omega⟩
 rw [hk,dS,show 9-r=k by omega,show 9-k=r by omega]
theorem dS_last (f c:Nat→Nat):adF (dS f c 9) (rk f 0)=deF f c:=dS_de f c 9 (Nat.le_refl _)
noncomputable def fdecryptRegC:Code:=((Tryz.f88.body.bind (regionNo 3)).getD .skip)
set_option maxHeartbeats 4000000 in
theorem fdecryptReg (f b K9:Nat→Nat) (gB gC gR gL:Nat) {Q0:Exit→Act→World→Prop} {t1 t2 t6 t7 t8 t9 t10 t11 t12 t13 t14 t15 t16 t17 t18 t19 t20 t21 t22 t23 t24 t25 t26 t27 t28 t29 t30 t31 t32 t33 t34 t35 t36 t37 t38 t39 t40 t41 t42 t43 t44 t45:Value} {w W:World} (hb:B16 b) (hk:B16 K9) (hlB:w.heap.size≤gB) (hlR:gB<gR) (hlL:gR<gL) (hrange: ∀W,Ci W gC f→W.rangeAt gC (16+10*4) (awL 4 (wd K9))) (hbW:Ar W gB 16 b) (hCW:Ci W gC f) (hRW:Ar W gR 16 (fun _=>0)) (hLW:Ar W gL 256 bk) (hBW:Below w.heap.size w W)
  (hQ: ∀(gT:Nat) (w9:World) (u11 u12 u13 u14 u15 u16 u17 u18 u19 u20 u21:Value),gL<gT→gC<gT→Aw w9 gT 4 (wd (usF (uhF (adF b K9))))→Ar w9 gB 16 b→Ci w9 gC f→Ar w9 gR 16 (fun _=>0)→Ar w9 gL 256 bk→Below w.heap.size w w9→Q0 .normal ⟨(.pointer (some ⟨gC,0,none⟩)::t1::t2:: .pointer (some ⟨gB,0,none⟩):: .pointer (some ⟨gR,0,none⟩):: .pointer (some ⟨gL,0,none⟩):: .pointer (some ⟨gT,0,none⟩)::t7::t8::t9::t10::u11::u12::u13::u14::u15::u16::u17::u18::u19::u20::u21::t22::t23::t24::t25::t26::t27::t28::t29::t30::t31::t32::t33::t34::t35::t36::t37::t38::t39::t40::t41::t42::t43::t44::t45:: []).toArray,[]⟩ w9):
  Code.wp Tryz.prog fdecryptRegC Q0 ⟨(.pointer (some ⟨gC,0,none⟩)::t1::t2:: .pointer (some ⟨gB,0,none⟩):: .pointer (some ⟨gR,0,none⟩):: .pointer (some ⟨gL,0,none⟩)::t6::t7::t8::t9::t10::t11::t12::t13::t14::t15::t16::t17::t18::t19::t20::t21::t22::t23::t24::t25::t26::t27::t28::t29::t30::t31::t32::t33::t34::t35::t36::t37::t38::t39::t40::t41::t42::t43::t44::t45:: []).toArray,[]⟩ W:=by
 have HQ:=Lib.hid hQ
 clear hQ
 refine Code.wp_mono NoPanic.imp ?_
 conv=>arg 2;whnf
 refine wp_region_held_drew (S:=fun W=>Ar W gB 16 (b)∧Ci W gC (f)∧Ar W gR 16 (fun _=>0)∧Ar W gL 256 (bk)∧Below w.heap.size w W) (by kernel_rfl) ⟨hbW,hCW.drew,hRW,hLW,hBW.drew⟩ (fun hH'=> ?_)
 clear hbW hCW hRW hLW hBW
 generalize World.drew W=ad at*
 refine tk 0 (.agg (arL 16 (b)).toArray) rfl (yieldsIf_load_mid (by rfl) _ _ rfl gB (0) rfl (arL 16 (b)) _ (fun W hSw=>hSw.1.range) Tryz.arr16b rfl (size16b _)) ?_
 simp only [Act.put,nrm]
 refine tw 2 ?va1 rfl ?hya1 ?resta1
 case hya1=>
  intro W hSw
  go_simp
  try with_reducible rfl
 simp only [Act.put,nrm]
 refine tw 3 ?va2 rfl ?hya2 ?resta2
 case hya2=>
  intro W hSw
  go_simp
  try with_reducible rfl
 simp only [Act.put,nrm]
 refine tw 4 ?va3 rfl ?hya3 ?resta3
 case hya3=>
  intro W hSw
  go_simp
  try with_reducible rfl
 simp only [Act.put,nrm]
 refine tw 5 ?va4 rfl ?hya4 ?resta4
 case hya4=>
  intro W hSw
  go_simp
  try with_reducible rfl
 simp only [Act.put,nrm]
 refine tk 6 (.agg (awL 4 (wd K9)).toArray) rfl (yieldsIf_load_mid (by rfl) _ _ rfl gC (16+10*4) rfl (awL 4 (wd K9)) _ (fun W hSw=>hrange _ (hSw.2.1)) Tryz.arrCw rfl (sizeCw _)) ?_
 simp only [Act.put,nrm]
 refine tk 9 (.agg (arL 256 (bk)).toArray) rfl (yieldsIf_load_mid (by rfl) _ _ rfl gL (0) rfl (arL 256 (bk)) _ (fun W hSw=>hSw.2.2.2.1.range) Tryz.arr256 rfl (size_arL _)) ?_
 simp only [Act.put,nrm]
 refine rd2 1 11 rfl rfl (fun K hK=> ?_) (fun K hK=> ?_)
 ·go_simp
  refine(fsplit b _ hb).mono ?_
  rintro e a5 ⟨rfl,hq⟩
  go_wp2_with fail
  refine hK.out _ _ ⟨hH'.1.t hq,hH'.2.1.to hq,hH'.2.2.1.t hq,hH'.2.2.2.1.t hq,Tq hH'.2.2.2.2 hq⟩ ?_
  clear hK K hH' hq
  intro hH'
  try simp only [Act.put,nrm]
  refine rd2 7 11 rfl rfl (fun K hK=> ?_) (fun K hK=> ?_)
  ·go_simp
   refine(fadd b K9 _ hb hk).mono ?_
   rintro e a6 ⟨rfl,hq⟩
   go_wp2_with fail
   refine hK.out _ _ ⟨hH'.1.t hq,hH'.2.1.to hq,hH'.2.2.1.t hq,hH'.2.2.2.1.t hq,Tq hH'.2.2.2.2 hq⟩ ?_
   clear hK K hH' hq
   intro hH'
   try simp only [Act.put,nrm]
   refine rd2 8 11 rfl rfl (fun K hK=> ?_) (fun K hK=> ?_)
   ·go_simp
    refine(funshift (adF b K9) _ (adF_lt hb hk)).mono ?_
    rintro e a7 ⟨rfl,hq⟩
    go_wp2_with fail
    refine hK.out _ _ ⟨hH'.1.t hq,hH'.2.1.to hq,hH'.2.2.1.t hq,hH'.2.2.2.1.t hq,Tq hH'.2.2.2.2 hq⟩ ?_
    clear hK K hH' hq
    intro hH'
    try simp only [Act.put,nrm]
    refine rd2 10 11 rfl rfl (fun K hK=> ?_) (fun K hK=> ?_)
    ·go_simp
     refine(funsub (uhF (adF b K9)) _ (uhF_lt (adF_lt hb hk))).mono ?_
     rintro e a8 ⟨rfl,hq⟩
     go_wp2_with fail
     refine hK.out _ _ ⟨hH'.1.t hq,hH'.2.1.to hq,hH'.2.2.1.t hq,hH'.2.2.2.1.t hq,Tq hH'.2.2.2.2 hq⟩ ?_
     clear hK K hH' hq
     intro hH'
     try simp only [Act.put,nrm]
     refine rd 11 rfl (fun K hK=> ?_)
     obtain⟨gT,hggT⟩:=Le (a8.heap.size)
     have hlgRgT:gR<gT:=by rw [←hggT];exact(hH'.2.2.1).lt (by omega)
     have hlgLgT:gL<gT:=by rw [←hggT];exact(hH'.2.2.2.1).lt (by omega)
     have hlgCgT:gC<gT:=by rw [←hggT];exact(hH'.2.1).lt
     have hq:=Ba a8 (.cells #[.int .u32 0,.int .u32 0,.int .u32 0,.int .u32 0] 64)
     have hTa9:=Aw.new a8 4 (fun _=>0) 64
     rw [hggT]at hTa9
     go_simp
     obtain⟨a9,hwa9⟩:=Lv (a8.alloc (.cells #[.int .u32 0,.int .u32 0,.int .u32 0,.int .u32 0] 64))
     have hTa9:Aw a9 gT 4 (fun _=>0):=by rw [hwa9];exact hTa9
     try rw [hggT]
     rw [←hwa9]
     refine hK.out _ _ (by rw [hwa9];exact⟨hH'.1.t hq,hH'.2.1.to hq,hH'.2.2.1.t hq,hH'.2.2.2.1.t hq,Tq hH'.2.2.2.2 hq⟩) ?_
     clear hK K hH' hq hwa9 hggT
     intro hH'
     try simp only [Act.put,nrm]
     refine rd 12 rfl (fun K hK=> ?_)
     rw [if_pos (by rfl)]
     refine wp_store_mid _ _ _ rfl gT 0 (awL 4 (wd (usF (uhF (adF b K9))))).toArray rfl rfl hTa9.there (sizeCw _) (all_oneCell_toArray (awL_one 4 (wd (usF (uhF (adF b K9)))))) ?_
     have hTa10:=hTa9.whole (wd (usF (uhF (adF b K9))))
     dsimp only [List.toList_toArray]
     refine hK.out _ _ ⟨(hH'.1).apart (b:=gT) (by omega) (awL 4 (wd (usF (uhF (adF b K9))))) 0,Cx.apart (hH'.2.1) (b:=gT) (by omega) (awL 4 (wd (usF (uhF (adF b K9))))) 0,(hH'.2.2.1).apart (b:=gT) (by omega) (awL 4 (wd (usF (uhF (adF b K9))))) 0,(hH'.2.2.2.1).apart (b:=gT) (by omega) (awL 4 (wd (usF (uhF (adF b K9))))) 0,(hH'.2.2.2.2).trans (Below.setCells (Below.refl w.heap.size _) (b:=gT) (by omega) (awL 4 (wd (usF (uhF (adF b K9))))) 0)⟩ ?_
     clear hK K hH' hTa9
     intro hH'
     generalize World.setCells a9 gT 0 (awL 4 (wd (usF (uhF (adF b K9)))))=a10 at*
     try simp only [Act.put]
     refine wpAnyH_done (by kernel_rfl) ?_ _
     exact NoPanic.normal (HQ.out gT a10 _ _ _ _ _ _ _ _ _ _ _ (by omega) (by omega) hTa10 hH'.1 hH'.2.1 hH'.2.2.1 hH'.2.2.2.1 hH'.2.2.2.2)
    ·obtain⟨gT,hggT⟩:=Le (a7.heap.size)
     have hlgRgT:gR<gT:=by rw [←hggT];exact(hH'.2.2.1).lt (by omega)
     have hlgLgT:gL<gT:=by rw [←hggT];exact(hH'.2.2.2.1).lt (by omega)
     have hlgCgT:gC<gT:=by rw [←hggT];exact(hH'.2.1).lt
     have hq:=Ba a7 (.cells #[.int .u32 0,.int .u32 0,.int .u32 0,.int .u32 0] 64)
     have hTa11:=Aw.new a7 4 (fun _=>0) 64
     rw [hggT]at hTa11
     go_simp
     obtain⟨a11,hwa11⟩:=Lv (a7.alloc (.cells #[.int .u32 0,.int .u32 0,.int .u32 0,.int .u32 0] 64))
     have hTa11:Aw a11 gT 4 (fun _=>0):=by rw [hwa11];exact hTa11
     try rw [hggT]
     rw [←hwa11]
     refine hK.out _ _ (by rw [hwa11];exact⟨hH'.1.t hq,hH'.2.1.to hq,hH'.2.2.1.t hq,hH'.2.2.2.1.t hq,Tq hH'.2.2.2.2 hq⟩) ?_
     clear hK K hH' hq hwa11 hggT
     intro hH'
     try simp only [Act.put,nrm]
     refine rd 10 rfl (fun K hK=> ?_)
     go_simp
     refine(funsub (uhF (adF b K9)) _ (uhF_lt (adF_lt hb hk))).mono ?_
     rintro e a12 ⟨rfl,hq⟩
     go_wp2_with fail
     have hTa12:=hTa11.t hq
     refine hK.out _ _ ⟨hH'.1.t hq,hH'.2.1.to hq,hH'.2.2.1.t hq,hH'.2.2.2.1.t hq,Tq hH'.2.2.2.2 hq⟩ ?_
     clear hK K hH' hq hTa11
     intro hH'
     try simp only [Act.put,nrm]
     refine rd 12 rfl (fun K hK=> ?_)
     rw [if_pos (by rfl)]
     refine wp_store_mid _ _ _ rfl gT 0 (awL 4 (wd (usF (uhF (adF b K9))))).toArray rfl rfl hTa12.there (sizeCw _) (all_oneCell_toArray (awL_one 4 (wd (usF (uhF (adF b K9)))))) ?_
     have hTa13:=hTa12.whole (wd (usF (uhF (adF b K9))))
     dsimp only [List.toList_toArray]
     refine hK.out _ _ ⟨(hH'.1).apart (b:=gT) (by omega) (awL 4 (wd (usF (uhF (adF b K9))))) 0,Cx.apart (hH'.2.1) (b:=gT) (by omega) (awL 4 (wd (usF (uhF (adF b K9))))) 0,(hH'.2.2.1).apart (b:=gT) (by omega) (awL 4 (wd (usF (uhF (adF b K9))))) 0,(hH'.2.2.2.1).apart (b:=gT) (by omega) (awL 4 (wd (usF (uhF (adF b K9))))) 0,(hH'.2.2.2.2).trans (Below.setCells (Below.refl w.heap.size _) (b:=gT) (by omega) (awL 4 (wd (usF (uhF (adF b K9))))) 0)⟩ ?_
     clear hK K hH' hTa12
     intro hH'
     generalize World.setCells a12 gT 0 (awL 4 (wd (usF (uhF (adF b K9)))))=a13 at*
     try simp only [Act.put]
     refine wpAnyH_done (by kernel_rfl) ?_ _
     exact NoPanic.normal (HQ.out gT a13 _ _ _ _ _ _ _ _ _ _ _ (by omega) (by omega) hTa13 hH'.1 hH'.2.1 hH'.2.2.1 hH'.2.2.2.1 hH'.2.2.2.2)
   ·obtain⟨gT,hggT⟩:=Le (a6.heap.size)
    have hlgRgT:gR<gT:=by rw [←hggT];exact(hH'.2.2.1).lt (by omega)
    have hlgLgT:gL<gT:=by rw [←hggT];exact(hH'.2.2.2.1).lt (by omega)
    have hlgCgT:gC<gT:=by rw [←hggT];exact(hH'.2.1).lt
    have hq:=Ba a6 (.cells #[.int .u32 0,.int .u32 0,.int .u32 0,.int .u32 0] 64)
    have hTa14:=Aw.new a6 4 (fun _=>0) 64
    rw [hggT]at hTa14
    go_simp
    obtain⟨a14,hwa14⟩:=Lv (a6.alloc (.cells #[.int .u32 0,.int .u32 0,.int .u32 0,.int .u32 0] 64))
    have hTa14:Aw a14 gT 4 (fun _=>0):=by rw [hwa14];exact hTa14
    try rw [hggT]
    rw [←hwa14]
    refine hK.out _ _ (by rw [hwa14];exact⟨hH'.1.t hq,hH'.2.1.to hq,hH'.2.2.1.t hq,hH'.2.2.2.1.t hq,Tq hH'.2.2.2.2 hq⟩) ?_
    clear hK K hH' hq hwa14 hggT
    intro hH'
    try simp only [Act.put,nrm]
    refine rd 8 rfl (fun K hK=> ?_)
    go_simp
    refine(funshift (adF b K9) _ (adF_lt hb hk)).mono ?_
    rintro e a15 ⟨rfl,hq⟩
    go_wp2_with fail
    have hTa15:=hTa14.t hq
    refine hK.out _ _ ⟨hH'.1.t hq,hH'.2.1.to hq,hH'.2.2.1.t hq,hH'.2.2.2.1.t hq,Tq hH'.2.2.2.2 hq⟩ ?_
    clear hK K hH' hq hTa14
    intro hH'
    try simp only [Act.put,nrm]
    refine rd 10 rfl (fun K hK=> ?_)
    go_simp
    refine(funsub (uhF (adF b K9)) _ (uhF_lt (adF_lt hb hk))).mono ?_
    rintro e a16 ⟨rfl,hq⟩
    go_wp2_with fail
    have hTa16:=hTa15.t hq
    refine hK.out _ _ ⟨hH'.1.t hq,hH'.2.1.to hq,hH'.2.2.1.t hq,hH'.2.2.2.1.t hq,Tq hH'.2.2.2.2 hq⟩ ?_
    clear hK K hH' hq hTa15
    intro hH'
    try simp only [Act.put,nrm]
    refine rd 12 rfl (fun K hK=> ?_)
    rw [if_pos (by rfl)]
    refine wp_store_mid _ _ _ rfl gT 0 (awL 4 (wd (usF (uhF (adF b K9))))).toArray rfl rfl hTa16.there (sizeCw _) (all_oneCell_toArray (awL_one 4 (wd (usF (uhF (adF b K9)))))) ?_
    have hTa17:=hTa16.whole (wd (usF (uhF (adF b K9))))
    dsimp only [List.toList_toArray]
    refine hK.out _ _ ⟨(hH'.1).apart (b:=gT) (by omega) (awL 4 (wd (usF (uhF (adF b K9))))) 0,Cx.apart (hH'.2.1) (b:=gT) (by omega) (awL 4 (wd (usF (uhF (adF b K9))))) 0,(hH'.2.2.1).apart (b:=gT) (by omega) (awL 4 (wd (usF (uhF (adF b K9))))) 0,(hH'.2.2.2.1).apart (b:=gT) (by omega) (awL 4 (wd (usF (uhF (adF b K9))))) 0,(hH'.2.2.2.2).trans (Below.setCells (Below.refl w.heap.size _) (b:=gT) (by omega) (awL 4 (wd (usF (uhF (adF b K9))))) 0)⟩ ?_
    clear hK K hH' hTa16
    intro hH'
    generalize World.setCells a16 gT 0 (awL 4 (wd (usF (uhF (adF b K9)))))=a17 at*
    try simp only [Act.put]
    refine wpAnyH_done (by kernel_rfl) ?_ _
    exact NoPanic.normal (HQ.out gT a17 _ _ _ _ _ _ _ _ _ _ _ (by omega) (by omega) hTa17 hH'.1 hH'.2.1 hH'.2.2.1 hH'.2.2.2.1 hH'.2.2.2.2)
  ·obtain⟨gT,hggT⟩:=Le (a5.heap.size)
   have hlgRgT:gR<gT:=by rw [←hggT];exact(hH'.2.2.1).lt (by omega)
   have hlgLgT:gL<gT:=by rw [←hggT];exact(hH'.2.2.2.1).lt (by omega)
   have hlgCgT:gC<gT:=by rw [←hggT];exact(hH'.2.1).lt
   have hq:=Ba a5 (.cells #[.int .u32 0,.int .u32 0,.int .u32 0,.int .u32 0] 64)
   have hTa18:=Aw.new a5 4 (fun _=>0) 64
   rw [hggT]at hTa18
   go_simp
   obtain⟨a18,hwa18⟩:=Lv (a5.alloc (.cells #[.int .u32 0,.int .u32 0,.int .u32 0,.int .u32 0] 64))
   have hTa18:Aw a18 gT 4 (fun _=>0):=by rw [hwa18];exact hTa18
   try rw [hggT]
   rw [←hwa18]
   refine hK.out _ _ (by rw [hwa18];exact⟨hH'.1.t hq,hH'.2.1.to hq,hH'.2.2.1.t hq,hH'.2.2.2.1.t hq,Tq hH'.2.2.2.2 hq⟩) ?_
   clear hK K hH' hq hwa18 hggT
   intro hH'
   try simp only [Act.put,nrm]
   refine rd 7 rfl (fun K hK=> ?_)
   go_simp
   refine(fadd b K9 _ hb hk).mono ?_
   rintro e a19 ⟨rfl,hq⟩
   go_wp2_with fail
   have hTa19:=hTa18.t hq
   refine hK.out _ _ ⟨hH'.1.t hq,hH'.2.1.to hq,hH'.2.2.1.t hq,hH'.2.2.2.1.t hq,Tq hH'.2.2.2.2 hq⟩ ?_
   clear hK K hH' hq hTa18
   intro hH'
   try simp only [Act.put,nrm]
   refine rd 8 rfl (fun K hK=> ?_)
   go_simp
   refine(funshift (adF b K9) _ (adF_lt hb hk)).mono ?_
   rintro e a20 ⟨rfl,hq⟩
   go_wp2_with fail
   have hTa20:=hTa19.t hq
   refine hK.out _ _ ⟨hH'.1.t hq,hH'.2.1.to hq,hH'.2.2.1.t hq,hH'.2.2.2.1.t hq,Tq hH'.2.2.2.2 hq⟩ ?_
   clear hK K hH' hq hTa19
   intro hH'
   try simp only [Act.put,nrm]
   refine rd 10 rfl (fun K hK=> ?_)
   go_simp
   refine(funsub (uhF (adF b K9)) _ (uhF_lt (adF_lt hb hk))).mono ?_
   rintro e a21 ⟨rfl,hq⟩
   go_wp2_with fail
   have hTa21:=hTa20.t hq
   refine hK.out _ _ ⟨hH'.1.t hq,hH'.2.1.to hq,hH'.2.2.1.t hq,hH'.2.2.2.1.t hq,Tq hH'.2.2.2.2 hq⟩ ?_
   clear hK K hH' hq hTa20
   intro hH'
   try simp only [Act.put,nrm]
   refine rd 12 rfl (fun K hK=> ?_)
   rw [if_pos (by rfl)]
   refine wp_store_mid _ _ _ rfl gT 0 (awL 4 (wd (usF (uhF (adF b K9))))).toArray rfl rfl hTa21.there (sizeCw _) (all_oneCell_toArray (awL_one 4 (wd (usF (uhF (adF b K9)))))) ?_
   have hTa22:=hTa21.whole (wd (usF (uhF (adF b K9))))
   dsimp only [List.toList_toArray]
   refine hK.out _ _ ⟨(hH'.1).apart (b:=gT) (by omega) (awL 4 (wd (usF (uhF (adF b K9))))) 0,Cx.apart (hH'.2.1) (b:=gT) (by omega) (awL 4 (wd (usF (uhF (adF b K9))))) 0,(hH'.2.2.1).apart (b:=gT) (by omega) (awL 4 (wd (usF (uhF (adF b K9))))) 0,(hH'.2.2.2.1).apart (b:=gT) (by omega) (awL 4 (wd (usF (uhF (adF b K9))))) 0,(hH'.2.2.2.2).trans (Below.setCells (Below.refl w.heap.size _) (b:=gT) (by omega) (awL 4 (wd (usF (uhF (adF b K9))))) 0)⟩ ?_
   clear hK K hH' hTa21
   intro hH'
   generalize World.setCells a21 gT 0 (awL 4 (wd (usF (uhF (adF b K9)))))=a22 at*
   try simp only [Act.put]
   refine wpAnyH_done (by kernel_rfl) ?_ _
   exact NoPanic.normal (HQ.out gT a22 _ _ _ _ _ _ _ _ _ _ _ (by omega) (by omega) hTa22 hH'.1 hH'.2.1 hH'.2.2.1 hH'.2.2.2.1 hH'.2.2.2.2)
 ·obtain⟨gT,hggT⟩:=Le (ad.heap.size)
  have hlgRgT:gR<gT:=by rw [←hggT];exact(hH'.2.2.1).lt (by omega)
  have hlgLgT:gL<gT:=by rw [←hggT];exact(hH'.2.2.2.1).lt (by omega)
  have hlgCgT:gC<gT:=by rw [←hggT];exact(hH'.2.1).lt
  have hq:=Ba ad (.cells #[.int .u32 0,.int .u32 0,.int .u32 0,.int .u32 0] 64)
  have hTa23:=Aw.new ad 4 (fun _=>0) 64
  rw [hggT]at hTa23
  go_simp
  obtain⟨a23,hwa23⟩:=Lv (ad.alloc (.cells #[.int .u32 0,.int .u32 0,.int .u32 0,.int .u32 0] 64))
  have hTa23:Aw a23 gT 4 (fun _=>0):=by rw [hwa23];exact hTa23
  try rw [hggT]
  rw [←hwa23]
  refine hK.out _ _ (by rw [hwa23];exact⟨hH'.1.t hq,hH'.2.1.to hq,hH'.2.2.1.t hq,hH'.2.2.2.1.t hq,Tq hH'.2.2.2.2 hq⟩) ?_
  clear hK K hH' hq hwa23 hggT
  intro hH'
  try simp only [Act.put,nrm]
  refine rd 1 rfl (fun K hK=> ?_)
  go_simp
  refine(fsplit b _ hb).mono ?_
  rintro e a24 ⟨rfl,hq⟩
  go_wp2_with fail
  have hTa24:=hTa23.t hq
  refine hK.out _ _ ⟨hH'.1.t hq,hH'.2.1.to hq,hH'.2.2.1.t hq,hH'.2.2.2.1.t hq,Tq hH'.2.2.2.2 hq⟩ ?_
  clear hK K hH' hq hTa23
  intro hH'
  try simp only [Act.put,nrm]
  refine rd 7 rfl (fun K hK=> ?_)
  go_simp
  refine(fadd b K9 _ hb hk).mono ?_
  rintro e a25 ⟨rfl,hq⟩
  go_wp2_with fail
  have hTa25:=hTa24.t hq
  refine hK.out _ _ ⟨hH'.1.t hq,hH'.2.1.to hq,hH'.2.2.1.t hq,hH'.2.2.2.1.t hq,Tq hH'.2.2.2.2 hq⟩ ?_
  clear hK K hH' hq hTa24
  intro hH'
  try simp only [Act.put,nrm]
  refine rd 8 rfl (fun K hK=> ?_)
  go_simp
  refine(funshift (adF b K9) _ (adF_lt hb hk)).mono ?_
  rintro e a26 ⟨rfl,hq⟩
  go_wp2_with fail
  have hTa26:=hTa25.t hq
  refine hK.out _ _ ⟨hH'.1.t hq,hH'.2.1.to hq,hH'.2.2.1.t hq,hH'.2.2.2.1.t hq,Tq hH'.2.2.2.2 hq⟩ ?_
  clear hK K hH' hq hTa25
  intro hH'
  try simp only [Act.put,nrm]
  refine rd 10 rfl (fun K hK=> ?_)
  go_simp
  refine(funsub (uhF (adF b K9)) _ (uhF_lt (adF_lt hb hk))).mono ?_
  rintro e a27 ⟨rfl,hq⟩
  go_wp2_with fail
  have hTa27:=hTa26.t hq
  refine hK.out _ _ ⟨hH'.1.t hq,hH'.2.1.to hq,hH'.2.2.1.t hq,hH'.2.2.2.1.t hq,Tq hH'.2.2.2.2 hq⟩ ?_
  clear hK K hH' hq hTa26
  intro hH'
  try simp only [Act.put,nrm]
  refine rd 12 rfl (fun K hK=> ?_)
  rw [if_pos (by rfl)]
  refine wp_store_mid _ _ _ rfl gT 0 (awL 4 (wd (usF (uhF (adF b K9))))).toArray rfl rfl hTa27.there (sizeCw _) (all_oneCell_toArray (awL_one 4 (wd (usF (uhF (adF b K9)))))) ?_
  have hTa28:=hTa27.whole (wd (usF (uhF (adF b K9))))
  dsimp only [List.toList_toArray]
  refine hK.out _ _ ⟨(hH'.1).apart (b:=gT) (by omega) (awL 4 (wd (usF (uhF (adF b K9))))) 0,Cx.apart (hH'.2.1) (b:=gT) (by omega) (awL 4 (wd (usF (uhF (adF b K9))))) 0,(hH'.2.2.1).apart (b:=gT) (by omega) (awL 4 (wd (usF (uhF (adF b K9))))) 0,(hH'.2.2.2.1).apart (b:=gT) (by omega) (awL 4 (wd (usF (uhF (adF b K9))))) 0,(hH'.2.2.2.2).trans (Below.setCells (Below.refl w.heap.size _) (b:=gT) (by omega) (awL 4 (wd (usF (uhF (adF b K9))))) 0)⟩ ?_
  clear hK K hH' hTa27
  intro hH'
  generalize World.setCells a27 gT 0 (awL 4 (wd (usF (uhF (adF b K9)))))=a28 at*
  try simp only [Act.put]
  refine wpAnyH_done (by kernel_rfl) ?_ _
  exact NoPanic.normal (HQ.out gT a28 _ _ _ _ _ _ _ _ _ _ _ (by omega) (by omega) hTa28 hH'.1 hH'.2.1 hH'.2.2.1 hH'.2.2.2.1 hH'.2.2.2.2)
set_option maxHeartbeats 4000000 in
theorem fdecrypt (v:Value) (f b:Nat→Nat) (w:World) (hf:B16 f) (hb:B16 b) (hv:CipV w v f) (h:Boxes w):
  Calls Tryz.prog 88 #[v,.agg (arL 16 b).toArray] w fun e w'=>e= .returned (.agg (arL 16 (deF f b)).toArray)∧Below w.heap.size w w':=by
 have hz:=zero16b
 have hzL:=zero256
 obtain⟨kB,hkB⟩:=Le ((arL 16 b).toArray)
 obtain⟨w1,hw1⟩:=Lv (w.alloc (.cells (arL 16 b).toArray 22))
 have hs1:=Zs1 hw1
 have hb1:=Bl hw1
 have hK1:Ar w1 w.heap.size 16 b:=by rw [hw1];exact Ar.new w 16 b _
 obtain⟨w2,hw2⟩:=Lv (w1.alloc (.cells (arL 16 fun _=>0).toArray 22))
 have hb2:=Bm hw2 hb1
 have hR2:Ar w2 (w.heap.size+1) 16 (fun _=>0):=by rw [hw2,←hs1];exact Ar.new w1 16 _ _
 have hK2:=ara hw2 hK1
 have HF:=Lib.hid hf
 have HBB:=Lib.hid hb
 have HX:=Lib.hid h
 have hv2:=Lib.hid (hv w2 hb2)
 rw [hkB]at hw1
 rw [hkB]
 clear hb1 hK1 hkB hf hb h hv
 go_enter Tryz.func88,Tryz.ntmps88
 go_upto_region 1 with fail
 rw [←hw1,←hw2]
 clear hw1 hw2 hs1
 obtain⟨gB,hgB⟩:=Le (w.heap.size)
 obtain⟨gR,hgR⟩:=Le (w.heap.size+1)
 have hlB:w.heap.size≤gB:=by omega
 have hlR:gB<gR:=by omega
 rw [hgR]at hR2
 rw [hgB]at hK2
 try rw [hgR]
 try simp only [hgB]
 clear hgR
 go_wp2_with fail
 refine hv2.out.mono ?_
 rintro e w3 ⟨gC,rfl,hC3,hor,hq⟩
 have hneR:gC≠gR:=by have hs:=hR2.lt (by omega);omega
 have hR3:=hR2.t hq
 have hK3:=hK2.t hq
 have hB3:=Tq hb2 hq
 clear hR2 hK2 hb2 hq hv2 hor
 go_wp2_with fail
 refine(froots _ (HX.out.keep hB3)).mono ?_
 rintro e w4 ⟨rfl,hq⟩
 have hC4:=hC3.to hq
 have hR4:=hR3.t hq
 have hK4:=hK3.t hq
 have hB4:=Tq hB3 hq
 clear hC3 hR3 hK3 hB3 hq
 obtain⟨gL,hgL⟩:=Le (w4.heap.size)
 have hlL:gR<gL:=by rw [←hgL];exact hR4.lt (by omega)
 have hlC:gC<gL:=by rw [←hgL];exact hC4.lt
 obtain⟨w5,hw5⟩:=Lv (w4.alloc (.cells (arL 256 fun _=>0).toArray 46))
 have hL5:Ar w5 gL 256 (fun _=>0):=by rw [hw5,←hgL];exact Ar.new w4 256 _ _
 have hC5:Ci w5 gC f:=by rw [hw5];exact Cx.alloc hC4 (by decide) _
 have hR5:=ara hw5 hR4
 have hK5:=ara hw5 hK4
 have hB5:=Bm hw5 hB4
 clear hC4 hR4 hK4 hB4
 go_upto_region 3 with (first
  |(refine wpList_store_ar rfl _ _ _ rfl _ _ _ bk rfl rfl (by rw [←hw5];exact hL5) (size_arL _) ?_;intro w6 hL6 bel siz kee)
  |fail)
 rw [←hw5]at bel siz kee
 have hC6:Ci w6 gC f:=Cx.keep hC5 hlC bel
 have hR6:=hR5.keep hlL bel
 have hK6:=hK5.keep (show gB<gL by omega) bel
 have hB6:=hB5.trans (bel.mono (by omega))
 clear hL5 hC5 hR5 hK5 hB5 bel siz kee hw5 hgL hzL
 try dsimp only [Act.put]
 have hrk:=Lib.hid (fun r=>rk_lt f HF.out r)
 have hel:=Lib.hid (dS_lt HF.out HBB.out)
 obtain⟨K9,hK9⟩:=Le (rk f 10)
 refine fdecryptReg f b K9 gB gC gR gL HBB.out (by rw [←hK9];exact hrk.out 10) hlB hlR hlL (fun W h=>by rw [←hK9];exact h.there 10 (by decide)) hK6 hC6 hR6 hL6 hB6 ?_
 intro gT w7 u11 u12 u13 u14 u15 u16 u17 u18 u19 u20 u21 hlT hlT2 hT7 hK7 hC7 hR7 hL7 hB7
 rw [←hK9,show usF (uhF (adF b (rk f 10)))=dS f b (9-9)from rfl]at hT7
 clear hK6 hC6 hR6 hL6 hB6 hK7 hK9 K9
 go_wp2_with fail
 go_loopw [7] (fun i wr=> ∃r:Nat,r≤9∧i= .int .i64 r∧Aw wr gT 4 (wd (dS f b (9-r)))∧Ci wr gC f∧Ar wr gR 16 (fun _=>0)∧Ar wr gL 256 bk∧Below w.heap.size w wr) (fun i _=>(intOf i).toNat)
 case atStart=>exact⟨9,by omega,rfl,hT7,hC7,hR7,hL7,hB7⟩
 case round=>
  clear hT7 hC7 hR7 hL7 hB7
  obtain⟨r,hr,rfl,hT0,hC0,hR0,hL0,hB0⟩:=hrel
  obtain⟨X9,hX9⟩:=Le (dS f b (9-r))
  have hxl:=Lib.hid (show B16 X9 by rw [←hX9];exact hel.out _)
  by_cases h0:0<r
  ·have i1:(0:Int)<(r:Int):=by omega
   have i2:(r:Int)<11:=by omega
   obtain⟨q,hq⟩: ∃q:Nat,r=q+1:=⟨r-1,by omega⟩
   have q1:(r:Int)-1=(q:Int):=by omega
   have q2:wrap64 (q:Int)=(q:Int):=IntWalk.wrap64_in _ (by omega)
   have q3:IntKind.i64.wrap (q:Int)=(q:Int):=wraps_i64' _ (by omega) (by omega)
   obtain⟨K9,hK9⟩:=Le (rk f r)
   have hkl:=Lib.hid (show B16 K9 by rw [←hK9];exact hrk.out r)
   have hrange:=Lib.hid (show∀W,Ci W gC f→W.rangeAt gC (16+r*4) (awL 4 (wd K9))from fun W h=>by rw [←hK9];exact h.there r (by omega))
   have hst:=Lib.hid (show usF (uhF (umF (adF X9 K9)))=dS f b (9-q)by rw [←hX9,←hK9];exact dS_step f b r q hq hr)
   have HQ1:=Lib.hid hq
   rw [hX9]at hT0
   clear hX9 hK9 hq
   go_upto_region 7 with fail
   have hTwr:=hT0
   clear hT0
   have hTbd:=hTwr.drew
   refine wp_region_held_drew (S:=fun W=>Ci W gC (f)∧Ar W gR 16 (fun _=>0)∧Ar W gL 256 (bk)∧Below w.heap.size w W) (by kernel_rfl) ⟨hC0.drew,hR0.drew,hL0.drew,hB0.drew⟩ (fun hH'=> ?_)
   clear hC0 hR0 hL0 hB0 hTwr
   generalize World.drew wr=bd at*
   refine tw 1 ?vb1 rfl ?hyb1 ?restb1
   case hyb1=>
    intro W hSw
    go_simp
    try with_reducible rfl
   simp only [Act.put,nrm]
   refine tw 2 ?vb2 rfl ?hyb2 ?restb2
   case hyb2=>
    intro W hSw
    go_simp
    try with_reducible rfl
   simp only [Act.put,nrm]
   refine tw 3 ?vb3 rfl ?hyb3 ?restb3
   case hyb3=>
    intro W hSw
    go_simp
    try with_reducible rfl
   simp only [Act.put,nrm]
   refine tw 4 ?vb4 rfl ?hyb4 ?restb4
   case hyb4=>
    intro W hSw
    go_simp
    try with_reducible rfl
   simp only [Act.put,nrm]
   refine tw 5 ?vb5 rfl ?hyb5 ?restb5
   case hyb5=>
    intro W hSw
    go_simp
    try with_reducible rfl
   simp only [Act.put,nrm]
   refine tk 6 (.agg (awL 4 (wd K9)).toArray) rfl (yieldsIf_load_mid (by rfl) _ _ rfl gC (16+r*4) rfl (awL 4 (wd K9)) _ (fun W hSw=>hrange.out _ (hSw.1)) Tryz.arrCw rfl (sizeCw _)) ?_
   simp only [Act.put,nrm]
   refine tk 10 (.agg (arL 256 (bk)).toArray) rfl (yieldsIf_load_mid (by rfl) _ _ rfl gL (0) rfl (arL 256 (bk)) _ (fun W hSw=>hSw.2.2.1.range) Tryz.arr256 rfl (size_arL _)) ?_
   simp only [Act.put,nrm]
   refine rd 0 rfl (fun K hK=> ?_)
   rw [if_pos (by rfl)]
   refine wp_load_mid _ _ rfl gT 0 rfl (awL 4 (wd X9)) _ hTbd.range Tryz.arrCw rfl (sizeCw _) ?_
   refine hK.out _ _ hH' ?_
   clear hK K hH'
   intro hH'
   try simp only [Act.put,nrm]
   refine rd 7 rfl (fun K hK=> ?_)
   go_simp
   refine(fadd X9 K9 _ hxl.out hkl.out).mono ?_
   rintro e b6 ⟨rfl,hq⟩
   go_wp2_with fail
   have hTb6:=hTbd.t hq
   refine hK.out _ _ ⟨hH'.1.to hq,hH'.2.1.t hq,hH'.2.2.1.t hq,Tq hH'.2.2.2 hq⟩ ?_
   clear hK K hH' hq hTbd
   intro hH'
   try simp only [Act.put,nrm]
   refine rd 8 rfl (fun K hK=> ?_)
   go_simp
   refine(funmix (adF X9 K9) _ (adF_lt hxl.out hkl.out)).mono ?_
   rintro e b7 ⟨rfl,hq⟩
   go_wp2_with fail
   have hTb7:=hTb6.t hq
   refine hK.out _ _ ⟨hH'.1.to hq,hH'.2.1.t hq,hH'.2.2.1.t hq,Tq hH'.2.2.2 hq⟩ ?_
   clear hK K hH' hq hTb6
   intro hH'
   try simp only [Act.put,nrm]
   refine rd 9 rfl (fun K hK=> ?_)
   go_simp
   refine(funshift (umF (adF X9 K9)) _ (umF_lt _)).mono ?_
   rintro e b8 ⟨rfl,hq⟩
   go_wp2_with fail
   have hTb8:=hTb7.t hq
   refine hK.out _ _ ⟨hH'.1.to hq,hH'.2.1.t hq,hH'.2.2.1.t hq,Tq hH'.2.2.2 hq⟩ ?_
   clear hK K hH' hq hTb7
   intro hH'
   try simp only [Act.put,nrm]
   refine rd 11 rfl (fun K hK=> ?_)
   go_simp
   refine(funsub (uhF (umF (adF X9 K9))) _ (uhF_lt (umF_lt _))).mono ?_
   rintro e b9 ⟨rfl,hq⟩
   go_wp2_with fail
   have hTb9:=hTb8.t hq
   refine hK.out _ _ ⟨hH'.1.to hq,hH'.2.1.t hq,hH'.2.2.1.t hq,Tq hH'.2.2.2 hq⟩ ?_
   clear hK K hH' hq hTb8
   intro hH'
   try simp only [Act.put,nrm]
   refine rd 12 rfl (fun K hK=> ?_)
   rw [if_pos (by rfl)]
   refine wp_store_mid _ _ _ rfl gT 0 (awL 4 (wd (usF (uhF (umF (adF X9 K9)))))).toArray rfl rfl hTb9.there (sizeCw _) (all_oneCell_toArray (awL_one 4 (wd (usF (uhF (umF (adF X9 K9))))))) ?_
   have hTb10:=hTb9.whole (wd (usF (uhF (umF (adF X9 K9)))))
   dsimp only [List.toList_toArray]
   refine hK.out _ _ ⟨Cx.apart (hH'.1) (b:=gT) (by omega) (awL 4 (wd (usF (uhF (umF (adF X9 K9)))))) 0,(hH'.2.1).apart (b:=gT) (by omega) (awL 4 (wd (usF (uhF (umF (adF X9 K9)))))) 0,(hH'.2.2.1).apart (b:=gT) (by omega) (awL 4 (wd (usF (uhF (umF (adF X9 K9)))))) 0,(hH'.2.2.2).trans (Below.setCells (Below.refl w.heap.size _) (b:=gT) (by omega) (awL 4 (wd (usF (uhF (umF (adF X9 K9)))))) 0)⟩ ?_
   clear hK K hH' hTb9
   intro hH'
   generalize World.setCells b9 gT 0 (awL 4 (wd (usF (uhF (umF (adF X9 K9))))))=b10 at*
   try simp only [Act.put]
   refine wpAnyH_done (by kernel_rfl) ?_ _
   obtain⟨hC9,hR9,hL9,hB9⟩:=hH'
   have hT9:=hTb10
   clear hTb10
   rw [hst.out]at hT9
   clear i2
   go_wp2_with fail
   go_roundw
   case rel=>exact⟨q,by omega,by first|rfl|go_num,hT9,hC9,hR9,hL9,hB9⟩
   case measure=>simp [intOf];omega
  ·obtain rfl:r=0:=by omega
   obtain⟨K9,hK9⟩:=Le (rk f 0)
   have hkl:=Lib.hid (show B16 K9 by rw [←hK9];exact hrk.out 0)
   have hrange:=Lib.hid (show∀W,Ci W gC f→W.rangeAt gC 16 (awL 4 (wd K9))from fun W h=>by rw [←hK9];exact h.there 0 (by decide))
   have hlast:=Lib.hid (show adF X9 K9=deF f b by rw [←hX9,←hK9];exact dS_last f b)
   rw [hX9]at hT0
   clear hX9 hK9
   go_upto_region 8 with fail
   have hRwr:=hR0
   clear hR0
   have hRcd:=hRwr.drew
   refine wp_region_held_drew (S:=fun W=>Ci W gC (f)∧Aw W gT 4 (wd X9)∧Below w.heap.size w W) (by kernel_rfl) ⟨hC0.drew,hT0.drew,hB0.drew⟩ (fun hH'=> ?_)
   clear hC0 hT0 hB0 hRwr
   generalize World.drew wr=cd at*
   refine tk 0 (.agg (awL 4 (wd X9)).toArray) rfl (yieldsIf_load_mid (by rfl) _ _ rfl gT (0) rfl (awL 4 (wd X9)) _ (fun W hSw=>hSw.2.1.range) Tryz.arrCw rfl (sizeCw _)) ?_
   simp only [Act.put,nrm]
   refine tw 1 ?vc1 rfl ?hyc1 ?restc1
   case hyc1=>
    intro W hSw
    go_simp
    try with_reducible rfl
   simp only [Act.put,nrm]
   refine tw 2 ?vc2 rfl ?hyc2 ?restc2
   case hyc2=>
    intro W hSw
    go_simp
    try with_reducible rfl
   simp only [Act.put,nrm]
   refine tw 3 ?vc3 rfl ?hyc3 ?restc3
   case hyc3=>
    intro W hSw
    go_simp
    try with_reducible rfl
   simp only [Act.put,nrm]
   refine tw 4 ?vc4 rfl ?hyc4 ?restc4
   case hyc4=>
    intro W hSw
    go_simp
    try with_reducible rfl
   simp only [Act.put,nrm]
   refine tk 5 (.agg (awL 4 (wd K9)).toArray) rfl (yieldsIf_load_mid (by rfl) _ _ rfl gC (16) rfl (awL 4 (wd K9)) _ (fun W hSw=>hrange.out _ (hSw.1)) Tryz.arrCw rfl (sizeCw _)) ?_
   simp only [Act.put,nrm]
   refine rd 6 rfl (fun K hK=> ?_)
   go_simp
   refine(fadd X9 K9 _ hxl.out hkl.out).mono ?_
   rintro e c5 ⟨rfl,hq⟩
   go_wp2_with fail
   have hRc5:=hRcd.t hq
   refine hK.out _ _ ⟨hH'.1.to hq,hH'.2.1.t hq,Tq hH'.2.2 hq⟩ ?_
   clear hK K hH' hq hRcd
   intro hH'
   try simp only [Act.put,nrm]
   refine rd 7 rfl (fun K hK=> ?_)
   go_simp
   refine(fjoin (adF X9 K9) _ (adF_lt hxl.out hkl.out)).mono ?_
   rintro e c6 ⟨rfl,hq⟩
   go_wp2_with fail
   have hRc6:=hRc5.t hq
   refine hK.out _ _ ⟨hH'.1.to hq,hH'.2.1.t hq,Tq hH'.2.2 hq⟩ ?_
   clear hK K hH' hq hRc5
   intro hH'
   try simp only [Act.put,nrm]
   refine rd 8 rfl (fun K hK=> ?_)
   rw [if_pos (by rfl)]
   refine wp_store_mid _ _ _ rfl gR 0 (arL 16 (adF X9 K9)).toArray rfl rfl hRc6.there (size16b _) (all_oneCell_toArray (arL_one 16 (adF X9 K9))) ?_
   have hRc7:=hRc6.whole (adF X9 K9)
   dsimp only [List.toList_toArray]
   refine hK.out _ _ ⟨Cx.apart (hH'.1) (b:=gR) (by omega) (arL 16 (adF X9 K9)) 0,(hH'.2.1).apart (b:=gR) (by omega) (arL 16 (adF X9 K9)) 0,(hH'.2.2).trans (Below.setCells (Below.refl w.heap.size _) (b:=gR) (by omega) (arL 16 (adF X9 K9)) 0)⟩ ?_
   clear hK K hH' hRc6
   intro hH'
   generalize World.setCells c6 gR 0 (arL 16 (adF X9 K9))=c7 at*
   try simp only [Act.put]
   refine wpAnyH_done (by kernel_rfl) ?_ _
   have hB9:=hH'.2.2
   have hR9:=hRc7
   clear hH' hRc7
   rw [hlast.out]at hR9
   go_wp2_with fail
   refine bodyPost_ret_ar rfl rfl hR9 Tryz.arr16b (size16b _) rfl ⟨rfl,hB9⟩
end
end Go.Proofs.YtiacbphnclgikaaGreatDoor
