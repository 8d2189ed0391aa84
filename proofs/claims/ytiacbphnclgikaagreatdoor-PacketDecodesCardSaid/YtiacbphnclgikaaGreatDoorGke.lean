/-
 Contracts of package keys and of the reference package of layer 5, by walks through their texts, one after the other; what was there stays as it was.
-/
import Derived.Test.YtiacbphnclgikaaGreatDoorSqz
import Derived.Test.YtiacbphnclgikaaGreatDoorRows
import Derived.Deep.RegionWith
import Derived.Test.YtiacbphnclgikaaGreatDoorFre
import Derived.Test.YtiacbphnclgikaaGreatDoorGfi
import Derived.Test.YtiacbphnclgikaaGreatDoorGsb
import Derived.Deep.RegionHeld3
import Derived.BigRegion
namespace Go.Proofs.YtiacbphnclgikaaGreatDoor
section
def regionNo (k:Nat):Code→Option Code
 | .region i ops b=>if i=k then some (.region i ops b)else none
 | .loop c=>regionNo k c
 | .seq a b=>match regionNo k a with
  |some c=>some c
  |none=>regionNo k b
 | .block _ c=>regionNo k c
 | .scope c=>regionNo k c
 | .cond _ a b=>match regionNo k a with
  |some c=>some c
  |none=>regionNo k b
 |_=>none
end
section
open Go.RowKit
set_option linter.unusedVariables false
set_option maxRecDepth 10000
set_option maxHeartbeats 400000 in
theorem kconst (n:Nat) (w:World) (h1:1≤n) (h2:n≤10):
  Calls Tryz.prog 105 #[.int .i64 n] w fun e w'=>e= .returned (.int .u8 (pwr 2 (n-1):Nat))∧Below w.heap.size w w':=by
 obtain⟨m,hm⟩: ∃m:Nat,n=m+1:=⟨n-1,by omega⟩
 subst hm
 have e1:wrap64 (((m+1:Nat):Int)-1)=(m:Int):=by rw [IntWalk.wrap64_in _ (by omega)];omega
 have e2:((m+1:Nat):Int)-1=(m:Int):=by omega
 have i1: ¬(((m+1:Nat):Int)<1):=by omega
 have i2: ¬((10:Int)<((m+1:Nat):Int)):=by omega
 go_enter Tryz.func105,Tryz.ntmps105
 go_wp2_with fail
 refine(fpow 2 m _ (by omega) (by omega)).mono ?_
 rintro e w1 ⟨rfl,hb⟩
 go_wp2_with fail
 go_ret
 exact⟨rfl,hb⟩
set_option maxHeartbeats 400000 in
theorem kconst_no (z:Int) (w:World) (h:z<1∨10<z):
  Calls Tryz.prog 105 #[.int .i64 z] w fun e w'=>e= .returned (.int .u8 0)∧w'=w:=by
 rcases h with h|h
 ·go_enter Tryz.func105,Tryz.ntmps105
  go_wp2_with fail
  go_ret
  exact⟨rfl,rfl⟩
 ·have h2: ¬z<1:=by omega
  go_enter Tryz.func105,Tryz.ntmps105
  go_wp2_with fail
  go_ret
  exact⟨rfl,rfl⟩
set_option maxHeartbeats 400000 in
theorem kturn (x n:Nat) (w:World) (hx:x<4294967296) (h1:1≤n) (h2:n≤10) (h:Boxes w):
  Calls Tryz.prog 72 #[.int .u32 x,.int .i64 n] w fun e w'=>e= .returned (.int .u32 (trn x (pwr 2 (n-1)):Nat))∧Below w.heap.size w w':=by
 have hl:=rot8_lt x hx
 have hp:=pwr_lt 2 (n-1)
 have hsl:=sbw_lt (rot8 x)
 have hxx:Hid (bits BinOp.xor IntKind.u32 ((sbw (rot8 x):Nat):Int) (((pwr 2 (n-1):Nat):Int)*16777216)=((trn x (pwr 2 (n-1)):Nat):Int)):=by
  unfold Hid trn
  have:=bits_xor_nat .u32 32 (by decide) wraps_u32' (sbw (rot8 x)) (pwr 2 (n-1)*16777216) hsl (by omega)
  rw [←this];simp
 go_enter Tryz.func72,Tryz.ntmps72
 go_wp2_with fail
 refine(rotl32 x _ hx).mono ?_
 rintro e w1 ⟨rfl,rfl⟩
 go_wp2_with fail
 refine(sboxWord _ _ hl h).mono ?_
 rintro e w2 ⟨rfl,rfl⟩
 go_wp2_with fail
 refine(kconst n _ h1 h2).mono ?_
 rintro e w3 ⟨rfl,hb⟩
 go_wp2_with fail
 go_ret
 exact⟨fret_of hxx.out,hb⟩
end
section
open Go.RowKit
set_option linter.unusedVariables false
set_option maxRecDepth 10000
def pre (f:Nat→Nat) (o:Nat):Nat→Nat
 |0=>0
 |n+1=>pre f o n*256+f (o+n)
theorem pre_lt (f:Nat→Nat) (o:Nat) (hf: ∀j,j<16→f j<256): ∀n,o+n≤16→pre f o n<256^n
 |0,_=>by simp [pre]
 |n+1,h=>by
  have h1:=pre_lt f o hf n (by omega)
  have h2:=hf (o+n) (by omega)
  rw [pre,Nat.pow_succ];omega
theorem pre_four (f:Nat→Nat) (i:Nat):pre f (4*i) 4=wd f i:=by simp [pre,wd,quad]
theorem pre_step (f:Nat→Nat) (o n:Nat) (hf: ∀j,j<16→f j<256) (ho:o+4≤16) (hn:n<4):
  bits .or .u32 (((pre f o n:Nat):Int)*256) ((f (o+n):Nat):Int)=((pre f o (n+1):Nat):Int):=by
 have h1:=pre_lt f o hf n (by omega)
 have h2:=hf (o+n) (by omega)
 have h3:256^n≤256^3:=Nat.pow_le_pow_right (by decide) (by omega)
 have e:((pre f o n:Nat):Int)*256=((2^8*pre f o n:Nat):Int):=by omega
 rw [e,or_u32 _ _ (by omega) (by omega),←Nat.two_pow_add_eq_or_of_lt h2,pre]
 omega
theorem Tryz.arr16:Tryz.prog.underlying 22=some (.array 16 5):=by kernel_rfl
theorem slice16 (g o:Nat) (ho:o+4≤16) (w:World):(Instr.sliceAt 22 (.pointer (some ⟨g,0,none⟩)) (some (.int .i64 (o:Int))) (some (.int .i64 ((o:Int)+4))) none).run Tryz.prog w= .ok (.slice (some ⟨g,o,none⟩) 4 (16-o)) w:=by
 have hal:Tryz.prog.arrayLen 22=16:=by simp [Program.arrayLen]
 have hel:Tryz.prog.elem 22=5:=by simp [Program.elem]
 have hs:(sizeOf 5).run Tryz.prog w= .ok 1 w:=by kernel_rfl
 rw [run_sliceAt_array_lh w 22 ⟨g,0,none⟩ (by rw [hal,hel];exact Tryz.arr16) .i64 .i64 (o:Int) ((o:Int)+4) (by omega) (by omega) (by rw [hal];omega),hal,hel,hs]
 simp only [Result.andThen_ok,slicedAt]
 have e1:((o:Int)).toNat=o:=by omega
 have e2:((o:Int)+4).toNat=o+4:=by omega
 rw [e1,e2,if_neg (by omega)]
 simp [Addr.add]
 omega
set_option maxHeartbeats 800000 in
theorem kword (g o:Nat) (f:Nat→Nat) (w:World) (ho:o+4≤16) (hA:Ar w g 16 f) (hf: ∀j,j<16→f j<256):
  Calls Tryz.prog 104 #[.int .i64 o,.pointer (some ⟨g,0,none⟩)] w fun e w'=>e= .returned (.int .u32 (pre f o 4:Nat))∧w'=w:=by
 have hstep:=Lib.hid (fun n hn=>pre_step f o n hf ho hn)
 have hlt:=Lib.hid (fun n h=>pre_lt f o hf n h)
 have hcell:=Lib.hid hA
 have hb:=Lib.hid hf
 have hsl:=slice16 g o ho
 clear hA hf
 go_enter Tryz.func104,Tryz.ntmps104
 go_wp2_with fail
 go_loop [4,12] (fun x i=> ∃n:Nat,n≤4∧i= .int .i64 n∧x= .int .u32 (pre f o n:Nat)) (fun _ i=>4-(intOf i).toNat)
 case atStart=>exact⟨0,Nat.zero_le _,rfl,rfl⟩
 case round=>
  obtain⟨n,hn,rfl,rfl⟩:=hrel
  by_cases hl:n<4
  ·have hs:=Lib.hid (hstep.out n hl)
   have h1:=(hcell.out (o+n) (by omega)).1
   have h2:=hb.out (o+n) (by omega)
   have h3:pre f o n<16777216:=by have:=hlt.out n (by omega);have h3:256^n≤256^3:=Nat.pow_le_pow_right (by decide) (by omega);omega
   go_wp2_with fail
   go_round
   case rel=>exact⟨n+1,by omega,by go_num,fval_of hs.out⟩
   case measure=>simp [intOf];omega
  ·obtain rfl:n=4:=by omega
   go_wp2_with fail
   go_ret
   exact⟨rfl,rfl⟩
theorem Tryz.arr4w:Tryz.prog.underlying 63=some (.array 4 62):=by kernel_rfl
theorem size4w (f:Nat→Nat):(Tryz.prog.info? 63).map (·.size)=some (awL 4 f).length:=by rw [awL_len];kernel_rfl
theorem Tryz.zero16:(Tryz.prog.info? 22).map (fun i=>(i.zero,i.size))=some (some (.agg (Array.replicate 16 (.int .u8 0))),16):=by kernel_rfl
theorem size16 (f:Nat→Nat):(Tryz.prog.info? 22).map (·.size)=some (arL 16 f).length:=by rw [arL_len];exact(zero_of_info Tryz.zero16).2
theorem zero16 (w:World):(zeroValue 22).run Tryz.prog w= .ok (.agg (arL 16 fun _=>0).toArray) w:=by
 rw [arL_zero];exact(zero_of_info Tryz.zero16).1 w
theorem Aw.four {w:World} {g:Nat} {f:Nat→Nat} (h:Aw w g 4 f) (W:Nat→Nat):
  Aw ((((w.setCell ⟨g,0,none⟩ (.int .u32 (W 0:Nat))).setCell ⟨g,1,none⟩ (.int .u32 (W 1:Nat))).setCell ⟨g,2,none⟩ (.int .u32 (W 2:Nat))).setCell ⟨g,3,none⟩ (.int .u32 (W 3:Nat))) g 4 W:=
 ((((h.set (j := 0) (v := W 0) (by omega) rfl).set (j := 1) (v := W 1) (by omega) rfl).set (j := 2) (v := W 2) (by omega) rfl).set (j := 3) (v := W 3) (by omega) rfl).ext (fun j hj => by
  rcases(show j=0∨j=1∨j=2∨j=3 by omega)with rfl|rfl|rfl|rfl<;>simp)
set_option maxHeartbeats 800000 in
theorem ksplit (f:Nat→Nat) (hf: ∀j,j<16→f j<256) (w:World):
  Calls Tryz.prog 71 #[.agg (arL 16 f).toArray] w fun e w'=>e= .returned (.agg #[.int .u32 (wd f 0:Nat),.int .u32 (wd f 1:Nat),.int .u32 (wd f 2:Nat),.int .u32 (wd f 3:Nat)])∧Below w.heap.size w w':=by
 obtain⟨kA,hkA⟩:=Le ((arL 16 f).toArray)
 obtain⟨w1,hw1⟩:=Lv (w.alloc (.cells (arL 16 f).toArray 22))
 have hs1:=Zs1 hw1
 have hb1:=Bl hw1
 have hK1:Ar w1 w.heap.size 16 f:=by rw [hw1];exact Ar.new w 16 _ _
 have hK2:Ar (w1.alloc (.cells #[.int .u32 0,.int .u32 0,.int .u32 0,.int .u32 0] 63)) w.heap.size 16 f:=hK1.alloc (by omega) _
 have hb2:Below w.heap.size w (w1.alloc (.cells #[.int .u32 0,.int .u32 0,.int .u32 0,.int .u32 0] 63)):=hb1.alloc (by omega) _
 rw [hkA]at hw1
 rw [hkA]
 clear hb1 hK1
 go_enter Tryz.func71,Tryz.ntmps71
 go_upto_region 1 with fail
 rw [←hw1]
 clear hw1
 have hR:Aw (w1.alloc (.cells #[.int .u32 0,.int .u32 0,.int .u32 0,.int .u32 0] 63)) (w.heap.size+1) 4 (fun _=>0):=by rw [←hs1];exact Aw.new w1 4 (fun _=>0) _
 obtain⟨w2,hw2⟩:=Lv (w1.alloc (.cells #[.int .u32 0,.int .u32 0,.int .u32 0,.int .u32 0] 63))
 rw [←hw2]at hK2 hb2 hR
 rw [←hw2]
 clear hw2 hs1
 obtain⟨c0,d0⟩:=hR 0 (by omega)
 obtain⟨c1,d1⟩:=hR 1 (by omega)
 obtain⟨c2,d2⟩:=hR 2 (by omega)
 obtain⟨c3,d3⟩:=hR 3 (by omega)
 have hA:=Lib.hid hK2
 have hf2:=Lib.hid hf
 have p0:=Lib.hid (pre_four f 0)
 have p1:=Lib.hid (pre_four f 1)
 have p2:=Lib.hid (pre_four f 2)
 have p3:=Lib.hid (pre_four f 3)
 have HR:=Lib.hid (hR.four (wd f))
 clear hR hK2 hf hkA
 go_wp2_with fail
 refine(kword w.heap.size 0 f _ (by omega) hA.out hf2.out).mono ?_
 rintro e w3 ⟨rfl,rfl⟩
 rw [show pre f 0 4=wd f 0 from p0.out]
 go_wp2_with fail
 refine(kword w.heap.size 4 f _ (by omega) hA.out hf2.out).mono ?_
 rintro e w3 ⟨rfl,rfl⟩
 rw [show pre f 4 4=wd f 1 from p1.out]
 go_wp2_with fail
 refine(kword w.heap.size 8 f _ (by omega) hA.out hf2.out).mono ?_
 rintro e w3 ⟨rfl,rfl⟩
 rw [show pre f 8 4=wd f 2 from p2.out]
 go_wp2_with fail
 refine(kword w.heap.size 12 f _ (by omega) hA.out hf2.out).mono ?_
 rintro e w3 ⟨rfl,rfl⟩
 rw [show pre f 12 4=wd f 3 from p3.out]
 go_wp2_with fail
 refine bodyPost_ret_aw rfl rfl HR.out Tryz.arr4w (size4w _) rfl ⟨rfl,?_⟩
 exact(((hb2.setCell (p:=⟨w.heap.size+1,0,none⟩) (by simp) _).setCell (p:=⟨w.heap.size+1,1,none⟩) (by simp) _).setCell (p:=⟨w.heap.size+1,2,none⟩) (by simp) _).setCell (p:=⟨w.heap.size+1,3,none⟩) (by simp) _
theorem join_byte (x k s:Nat) (hk:k<4) (hs:s=24-k*8):((x:Int)/2^s)%256=((wb x k:Nat):Int):=by
 subst hs
 rcases(show k=0∨k=1∨k=2∨k=3 by omega)with rfl|rfl|rfl|rfl<;>simp [wb]
set_option maxHeartbeats 800000 in
theorem kjoin (W:Nat→Nat) (hW: ∀i,i<4→W i<4294967296) (w:World):
  Calls Tryz.prog 73 #[.agg #[.int .u32 (W 0:Nat),.int .u32 (W 1:Nat),.int .u32 (W 2:Nat),.int .u32 (W 3:Nat)]] w fun e w'=>e= .returned (.agg (arL 16 (jn W)).toArray)∧Below w.heap.size w w':=by
 have hz:=zero16
 obtain⟨w1,hw1⟩:=Lv (w.alloc (.cells #[.int .u32 (W 0:Nat),.int .u32 (W 1:Nat),.int .u32 (W 2:Nat),.int .u32 (W 3:Nat)] 63))
 have hs1:=Zs1 hw1
 have hb1:=Bl hw1
 have hK1:Aw w1 w.heap.size 4 W:=by rw [hw1];exact Aw.new w 4 W _
 obtain⟨w2,hw2⟩:=Lv (w1.alloc (.cells (arL 16 fun _=>0).toArray 22))
 have hs2:=Zs2 hw2 hs1
 have hb2:=Bm hw2 hb1
 have hR2:Ar w2 (w.heap.size+1) 16 (fun _=>0):=by rw [hw2,←hs1];exact Ar.new w1 16 _ _
 have hK2:=awa hw2 hK1
 obtain⟨w3,hw3⟩:=Lv (w2.alloc (.cells (arL 16 fun _=>0).toArray 22))
 have hb3:=Bm hw3 hb2
 have hT3:Ar w3 (w.heap.size+2) 16 (fun _=>0):=by rw [hw3,←hs2];exact Ar.new w2 16 _ _
 have hR3:=ara hw3 hR2
 have hK3:=awa hw3 hK2
 clear hb1 hK1 hb2 hR2 hK2
 go_enter Tryz.func73,Tryz.ntmps73
 go_upto_region 2 with fail
 rw [←hw1,←hw2,←hw3]
 clear hw1 hw2 hw3 hs1 hs2
 go_wp2_with fail
 go_loopw [5] (fun i wr=> ∃n:Nat,n≤16∧i= .int .i64 n∧Aw wr w.heap.size 4 W∧Ar wr (w.heap.size+1) 16 (fun _=>0)∧Ar wr (w.heap.size+2) 16 (fun m=>if m<n then jn W m else 0)∧Below w.heap.size w wr) (fun i _=>16-(intOf i).toNat)
 case atStart=>exact⟨0,Nat.zero_le _,rfl,hK3,hR3,hT3.ext (fun _ _=>rfl),hb3⟩
 case round=>
  clear hK3 hR3 hT3 hb3
  obtain⟨n,hn,rfl,hK,hR,hT,hB⟩:=hrel
  by_cases hlt:n<16
  ·obtain⟨q,hq⟩:=Lv (n/4)
   obtain⟨k,hk⟩:=Lv (n%4)
   obtain⟨s,hs⟩:=Lv (24-k*8)
   have hq1:((n:Int)).tdiv 4=(q:Int):=by rw [Int.tdiv_eq_ediv_of_nonneg (by omega)];omega
   have hq2:(n:Int)/4=(q:Int):=by omega
   have hk1:((n:Int)).tmod 4=(k:Int):=by rw [Int.tmod_eq_emod_of_nonneg (by omega)];omega
   have hk2:(n:Int)%4=(k:Int):=by omega
   have e1:wrap64 ((k:Int)*8)=(k:Int)*8:=IntWalk.wrap64_in _ (by omega)
   have e2:wrap64 (24-(k:Int)*8)=(s:Int):=by rw [IntWalk.wrap64_in _ (by omega)];omega
   have e3:24-(k:Int)*8=(s:Int):=by omega
   have hby:=Lib.hid (join_byte (W q) k s (by omega) hs)
   have hj:=Lib.hid (show jn W n=wb (W q) k by rw [jn,hq,hk])
   have hq4:q<4:=by omega
   have hs32:s<32:=by omega
   obtain⟨c0,_⟩:=hK q hq4
   obtain⟨c1,d1⟩:=hT n hlt
   have hwq:=hW q hq4
   clear hq hk hs
   go_wp2_with fail
   rw [hby.out,←hj.out]
   go_roundw
   case rel=>
    exact⟨n+1,by omega,by go_num,hK.far (p:=⟨w.heap.size+2,n,none⟩) (by simp) _,hR.far (p:=⟨w.heap.size+2,n,none⟩) (by simp) _,
     (hT.set (j:=n) (v:=jn W n) (by omega) rfl).ext (fun m _=>low_step (jn W) n m),hB.setCell (p:=⟨w.heap.size+2,n,none⟩) (by simp) _⟩
   case measure=>simp [intOf];omega
  ·obtain rfl:n=16:=by omega
   have hT2:=hT.ext (f':=jn W) (fun j hj=>by rw [if_pos hj])
   clear hT
   go_wp2_with (first
    |(refine wpList_load_ar rfl _ _ rfl _ _ _ rfl hT2 Tryz.arr16 (size16 _) ?_)
    |(refine wpList_store_ar rfl _ _ _ rfl _ _ _ (jn W) rfl rfl hR (size16 _) ?_;intro w8 hA8 hb8 _ _))
   refine bodyPost_ret_ar rfl rfl hA8 Tryz.arr16 (size16 _) rfl ⟨rfl,?_⟩
   exact hB.trans (hb8.mono (by omega))
end
section
open Go.RowKit
set_option linter.unusedVariables false
set_option maxRecDepth 100000
theorem xor_w (a b:Nat) (ha:a<4294967296) (hb:b<4294967296):bits .xor .u32 (a:Int) (b:Int)=((a^^^b:Nat):Int):=bits_xor_nat .u32 32 (by decide) wraps_u32' a b ha hb
noncomputable def knRegC:Code:=((Tryz.f50.body.bind (regionNo 4)).getD .skip)
set_option maxHeartbeats 1600000 in
theorem knReg (r m x0 x3 y z gB:Nat) {Q0:Exit→Act→World→Prop} {t1 t2 t3 t4 t5 t7 t8 t9 t10 t11 t12 t13 t14 t15 t16 t17 t18 t19 t20 t21 t22 t23 t24 t25 t26 t27 t28 t29 t30 t31 t32 t33 t34 t35 t36 t37 t38 t39 t40 t41 t42 t43 t44:Value} {W:World} (hr:r<10) (hm:m=r+1) (hx0:x0<4294967296) (hy:y<4294967296) (hz:x0^^^y=z)
  (hT: ∀V:World,Boxes V→Calls Tryz.prog 72 #[.int .u32 (x3:Nat),.int .i64 m] V fun e w'=>e= .returned (.int .u32 (y:Nat))∧Below V.heap.size V w') (hB:Boxes W)
  (c0:W.cell? ⟨gB,0,none⟩=some (.int .u32 (x0:Nat))) (c3:W.cell? ⟨gB,3,none⟩=some (.int .u32 (x3:Nat))) (d0:W.frozen? ⟨gB,0,none⟩=false)
  (hQ: ∀w9,Below W.heap.size W w9→Q0 .normal ⟨(.int .i64 (r:Int)::t1::t2::t3::t4::t5:: .pointer (some ⟨gB,0,none⟩)::t7::t8::t9::t10::t11::t12::t13::t14::t15:: .pointer (some ⟨gB,0,none⟩):: .int .u32 ((x0:Nat):Int):: .pointer (some ⟨gB,3,none⟩):: .int .u32 ((x3:Nat):Int):: .int .i64 (r:Int):: .int .i64 (m:Int):: .int .u32 ((y:Nat):Int):: .int .u32 ((z:Nat):Int):: .pointer (some ⟨gB,0,none⟩)::t25::t26::t27::t28::t29::t30::t31::t32::t33::t34::t35::t36::t37::t38::t39::t40::t41::t42::t43::t44:: []).toArray,[]⟩ (w9.setCell ⟨gB,0,none⟩ (.int .u32 (z:Nat)))):
  Code.wp Tryz.prog knRegC Q0 ⟨(.int .i64 (r:Int)::t1::t2::t3::t4::t5:: .pointer (some ⟨gB,0,none⟩)::t7::t8::t9::t10::t11::t12::t13::t14::t15::t16::t17::t18::t19::t20::t21::t22::t23::t24::t25::t26::t27::t28::t29::t30::t31::t32::t33::t34::t35::t36::t37::t38::t39::t40::t41::t42::t43::t44:: []).toArray,[]⟩ W:=by
 have hg:gB<W.heap.size:=by
  rcases Nat.lt_or_ge gB W.heap.size with h1|h1
  ·exact h1
  ·simp [World.cell?,Array.getElem?_eq_none h1]at c0
 have m1:IntKind.i64.wrap ((r:Int)+1)=(m:Int):=by rw [wraps_i64' _ (by omega) (by omega)];omega
 have m2:wrap64 ((r:Int)+1)=(m:Int):=by rw [IntWalk.wrap64_in _ (by omega)];omega
 have m3:(r:Int)+1=(m:Int):=by omega
 have m4:IntKind.i64.wrap (m:Int)=(m:Int):=wraps_i64' _ (by omega) (by omega)
 clear hm
 have hxx:bits BinOp.xor IntKind.u32 ((x0:Nat):Int) ((y:Nat):Int)=((z:Nat):Int):=by rw [xor_w _ _ hx0 hy,hz]
 have hkeep: ∀V:World,Below W.drew.heap.size W.drew V→V.cell? ⟨gB,0,none⟩=some (.int .u32 (x0:Nat))∧V.frozen? ⟨gB,0,none⟩=false∧Below W.heap.size W V:=fun V h=>
  ⟨(h.cell (p:=⟨gB,0,none⟩) hg).trans c0,(h.frozen (p:=⟨gB,0,none⟩) hg).trans d0,⟨h.os,h.tape,h.output,h.size,h.block⟩⟩
 have hQ2:=Lib.hid hQ
 have hT2:=Lib.hid hT
 clear hQ hT hz hx0 hy
 refine Code.wp_mono NoPanic.imp ?_
 conv=>arg 2;whnf
 go_region_with (go_at_call 72;refine(hT2.out W.drew hB).mono ?_;rintro e w9 ⟨rfl,hb9⟩;obtain⟨k1,k2,k3⟩:=hkeep _ hb9)
 all_goals exact NoPanic.normal (hQ2.out _ k3)
end
section
open Go.RowKit
set_option linter.unusedVariables false
set_option maxRecDepth 10000
set_option maxHeartbeats 800000 in
theorem knext_no (z:Int) (f:Nat→Nat) (w:World) (hz:z<0∨10≤z):
  Calls Tryz.prog 50 #[.int .i64 z,.agg (arL 16 f).toArray] w fun e w'=>e= .returned (.tuple #[.agg (arL 16 fun _=>0).toArray,.bool false])∧Below w.heap.size w w':=by
 have hz0:=zero16
 obtain⟨kA,hkA⟩:=Le ((arL 16 f).toArray)
 obtain⟨w1,hw1⟩:=Lv (w.alloc (.cells (arL 16 f).toArray 22))
 have hs1:=Zs1 hw1
 have hb1:=Bl hw1
 obtain⟨w2,hw2⟩:=Lv (w1.alloc (.cells (arL 16 fun _=>0).toArray 22))
 have hb2:=Bm hw2 hb1
 have hR2:Ar w2 (w.heap.size+1) 16 (fun _=>0):=by rw [hw2,←hs1];exact Ar.new w1 16 _ _
 rw [hkA]at hw1
 rw [hkA]
 clear hb1
 have hzz:z<0∨(¬z<0∧10≤z):=by omega
 rcases hzz with h|⟨h,h2⟩
 all_goals
  go_enter Tryz.func50,Tryz.ntmps50
  go_upto_region 1 with fail
  rw [←hw1,←hw2]
  clear hw1 hw2
  go_wp2_with (refine wpList_store_ar rfl _ _ _ rfl _ _ _ (fun _=>0) rfl rfl hR2 (size16 _) ?_;intro w8 hA8 hb8 _ _)
  refine bodyPost_ret_ar2 rfl rfl rfl hA8 Tryz.arr16 (size16 _) rfl ⟨rfl,?_⟩
  exact hb2.trans (hb8.mono (by omega))
set_option maxHeartbeats 1600000 in
theorem knext (r:Nat) (f:Nat→Nat) (hf: ∀j,j<16→f j<256) (w:World) (hr:r<10) (h:Boxes w):
  Calls Tryz.prog 50 #[.int .i64 r,.agg (arL 16 f).toArray] w fun e w'=>e= .returned (.tuple #[.agg (arL 16 (nx (pwr 2 r) f)).toArray,.bool true])∧Below w.heap.size w w':=by
 have hz0:=zero16
 obtain⟨kA,hkA⟩:=Le ((arL 16 f).toArray)
 obtain⟨w1,hw1⟩:=Lv (w.alloc (.cells (arL 16 f).toArray 22))
 have hs1:=Zs1 hw1
 have hb1:=Bl hw1
 have hK1:Ar w1 w.heap.size 16 f:=by rw [hw1];exact Ar.new w 16 _ _
 obtain⟨w2,hw2⟩:=Lv (w1.alloc (.cells (arL 16 fun _=>0).toArray 22))
 have hs2:=Zs2 hw2 hs1
 have hb2:=Bm hw2 hb1
 have hR2:Ar w2 (w.heap.size+1) 16 (fun _=>0):=by rw [hw2,←hs1];exact Ar.new w1 16 _ _
 have hK2:=ara hw2 hK1
 rw [hkA]at hw1
 rw [hkA]
 clear hb1 hK1
 have i1: ¬((r:Int)<0):=by omega
 have i2: ¬((10:Int)≤(r:Int)):=by omega
 go_enter Tryz.func50,Tryz.ntmps50
 go_upto_region 1 with fail
 rw [←hw1,←hw2]
 clear hw1 hw2
 go_upto_region 3 with fail
 go_wp2_with (refine wpList_load_ar rfl _ _ rfl _ _ _ rfl hK2 Tryz.arr16 (size16 _) ?_)
 rw [←hkA]
 refine(ksplit f hf _).mono ?_
 rintro e w3 ⟨rfl,k3⟩
 have hR3:=hR2.to (by omega) k3
 have hb3:=hb2.trans (k3.mono hb2.size)
 have h3:=h.keep hb3
 have hs3:=k3.size
 obtain⟨gt,hgt⟩:=Le (w3.heap.size)
 have hge:w.heap.size+2≤gt:=by omega
 obtain⟨w4,hw4⟩:=Lv (w3.alloc (.cells #[.int .u32 (wd f 0:Nat),.int .u32 (wd f 1:Nat),.int .u32 (wd f 2:Nat),.int .u32 (wd f 3:Nat)] 63))
 have hW4:Aw w4 gt 4 (wd f):=by rw [hw4,←hgt];exact Aw.new w3 4 (wd f) _
 have hR4:=ara hw4 hR3
 have hb4:=Bm hw4 hb3
 have h4:Boxes w4:=h.keep hb4
 have hg4:gt<w4.heap.size:=hW4.lt (by omega)
 clear hR2 hb2 hK2 hR3 hb3 h3 k3 hs3 hs1 hs2 hz0
 go_upto_region 4 with fail
 rw [←hw4]
 clear hw4 hgt
 obtain⟨G,hG⟩: ∃G:Nat→Nat,G=nx (pwr 2 r) f:=⟨_,rfl⟩
 have hp:=pwr_lt 2 r
 have hGl: ∀j,j<16→G j<256:=by rw [hG];exact nx_lt _ f hp hf
 have l0:=Lib.hid (wd_lt f 0 hf (by omega))
 have l1:=wd_lt f 1 hf (by omega)
 have l2:=wd_lt f 2 hf (by omega)
 have l3:=wd_lt f 3 hf (by omega)
 have g0:=wd_lt G 0 hGl (by omega)
 have g1:=wd_lt G 1 hGl (by omega)
 have g2:=wd_lt G 2 hGl (by omega)
 have x0:=Lib.hid (show wd f 0^^^trn (wd f 3) (pwr 2 r)=wd G 0 by rw [hG];exact nx_w0 _ f hp hf)
 have x1:bits BinOp.xor IntKind.u32 ((wd f 1:Nat):Int) ((wd G 0:Nat):Int)=((wd G 1:Nat):Int):=by rw [xor_w _ _ l1 g0,hG];exact congrArg _ (nx_wS _ f 0 (by omega) hp hf)
 have x2:bits BinOp.xor IntKind.u32 ((wd f 2:Nat):Int) ((wd G 1:Nat):Int)=((wd G 2:Nat):Int):=by rw [xor_w _ _ l2 g1,hG];exact congrArg _ (nx_wS _ f 1 (by omega) hp hf)
 have x3:bits BinOp.xor IntKind.u32 ((wd f 3:Nat):Int) ((wd G 2:Nat):Int)=((wd G 3:Nat):Int):=by rw [xor_w _ _ l3 g2,hG];exact congrArg _ (nx_wS _ f 2 (by omega) hp hf)
 have hlt:=Lib.hid (trn_lt (wd f 3) (pwr 2 r) hp)
 have hkt:=Lib.hid (fun(V:World) (hV:Boxes V)=>kturn (wd f 3) (r+1) V l3 (by omega) (by omega) hV)
 have hjn:=Lib.hid (fun j (hj:j<16)=>jn_wd G hGl j hj)
 have hgl:=Lib.hid (fun i (hi:i<4)=>wd_lt G i hGl hi)
 have HG:=Lib.hid hG
 have HR:=Lib.hid hR4
 have HW:=Lib.hid hW4
 obtain⟨c0,d0⟩:=hW4 0 (by omega)
 obtain⟨c3,d3⟩:=hW4 3 (by omega)
 clear hW4 hR4 hf hkA hG hGl l1 l2 l3 g0 g1 g2
 refine knReg r (r+1) (wd f 0) (wd f 3) (trn (wd f 3) (pwr 2 r)) (wd G 0) gt hr rfl (l0.out) hlt.out x0.out hkt.out h4 c0 c3 d0 ?_
 intro w9 k9
 have hW9:=HW.out.to (by omega) k9
 have hR9:=HR.out.to (by omega) k9
 have hb9:=hb4.trans (k9.mono hb4.size)
 clear HW HR hb4 k9 c0 d0 c3 d3 hlt hkt x0 l0 h4 hg4 h
 obtain⟨c0,d0⟩:=hW9 0 (by omega)
 obtain⟨c1,d1⟩:=hW9 1 (by omega)
 obtain⟨c2,d2⟩:=hW9 2 (by omega)
 obtain⟨c3,d3⟩:=hW9 3 (by omega)
 have HW:=Lib.hid (hW9.four (wd G))
 have HR:=Lib.hid hR9
 clear hW9 hR9
 go_upto_region 8 with fail
 have hR10:Ar ((((w9.setCell ⟨gt,0,none⟩ (.int .u32 (wd G 0:Nat))).setCell ⟨gt,1,none⟩ (.int .u32 (wd G 1:Nat))).setCell ⟨gt,2,none⟩ (.int .u32 (wd G 2:Nat))).setCell ⟨gt,3,none⟩ (.int .u32 (wd G 3:Nat))) (w.heap.size+1) 16 (fun _=>0):=
  (((HR.out.far (p:=⟨gt,0,none⟩) (by simp;omega) _).far (p:=⟨gt,1,none⟩) (by simp;omega) _).far (p:=⟨gt,2,none⟩) (by simp;omega) _).far (p:=⟨gt,3,none⟩) (by simp;omega) _
 have hb10:Below w.heap.size w ((((w9.setCell ⟨gt,0,none⟩ (.int .u32 (wd G 0:Nat))).setCell ⟨gt,1,none⟩ (.int .u32 (wd G 1:Nat))).setCell ⟨gt,2,none⟩ (.int .u32 (wd G 2:Nat))).setCell ⟨gt,3,none⟩ (.int .u32 (wd G 3:Nat))):=
  (((hb9.setCell (p:=⟨gt,0,none⟩) (by simp;omega) _).setCell (p:=⟨gt,1,none⟩) (by simp;omega) _).setCell (p:=⟨gt,2,none⟩) (by simp;omega) _).setCell (p:=⟨gt,3,none⟩) (by simp;omega) _
 obtain⟨w5,hw5⟩:=Lv (((((w9.setCell ⟨gt,0,none⟩ (.int .u32 (wd G 0:Nat))).setCell ⟨gt,1,none⟩ (.int .u32 (wd G 1:Nat))).setCell ⟨gt,2,none⟩ (.int .u32 (wd G 2:Nat))).setCell ⟨gt,3,none⟩ (.int .u32 (wd G 3:Nat))))
 have hW5:=HW.out
 rw [←hw5]at hW5 hR10 hb10
 rw [←hw5]
 clear hw5 c0 d0 c1 d1 c2 d2 c3 d3 x1 x2 x3 HW HR hb9
 obtain⟨c0,d0⟩:=hW5 0 (by omega)
 obtain⟨c1,d1⟩:=hW5 1 (by omega)
 obtain⟨c2,d2⟩:=hW5 2 (by omega)
 obtain⟨c3,d3⟩:=hW5 3 (by omega)
 go_wp2_with fail
 refine(kjoin (wd G) hgl.out _).mono ?_
 rintro e w6 ⟨rfl,k6⟩
 have hR6:=hR10.to (by omega) k6
 have hb6:=hb10.trans (k6.mono hb10.size)
 have hj:=arL_ext (n:=16) (fun j hj=>(hjn.out j hj).trans (congrFun HG.out j))
 rw [hj]
 clear hW5 c0 d0 c1 d1 c2 d2 c3 d3 hR10 hb10 k6 hj
 go_wp2_with (refine wpList_store_ar rfl _ _ _ rfl _ _ _ (nx (pwr 2 r) f) rfl rfl hR6 (size16 _) ?_;intro w8 hA8 hb8 _ _)
 refine bodyPost_ret_ar2 rfl rfl rfl hA8 Tryz.arr16 (size16 _) rfl ⟨rfl,?_⟩
 exact hb6.trans (hb8.mono (by omega))
end
section
open Go.RowKit
set_option linter.unusedVariables false
set_option maxRecDepth 100000
theorem Tryz.zero176e:(Tryz.prog.info? 45).map (fun i=>(i.zero,i.size))=some (some (.agg (Array.replicate 176 (.int .u8 0))),176):=by kernel_rfl
theorem Tryz.arr11:Tryz.prog.underlying 45=some (.array 11 22):=by kernel_rfl
theorem size176e (f:Nat→Nat):(Tryz.prog.info? 45).map (·.size)=some (arL 176 f).length:=by rw [arL_len];exact(zero_of_info Tryz.zero176e).2
theorem zero176e (w:World):(zeroValue 45).run Tryz.prog w= .ok (.agg (arL 176 fun _=>0).toArray) w:=by
 rw [arL_zero];exact(zero_of_info Tryz.zero176e).1 w
theorem built_first (f:Nat→Nat):Tryz.prog.built 45 [(0,.agg (arL 16 f).toArray)]=some (arL 176 fun i=>if i<16 then f i else 0).toArray:=by kernel_rfl
theorem run_first (f:Nat→Nat) (w:World):(Instr.build 45 #[(0,.agg (arL 16 f).toArray)]).run Tryz.prog w= .ok (.agg (arL 176 fun i=>if i<16 then f i else 0).toArray) w:=
 run_build w _ _ _ (built_first f)
set_option maxHeartbeats 1600000 in
theorem kexpand (f:Nat→Nat) (hf: ∀j,j<16→f j<256) (w:World) (h:Boxes w):
  Calls Tryz.prog 23 #[.agg (arL 16 f).toArray] w fun e w'=>e= .returned (.agg (arL 176 (ek f)).toArray)∧Below w.heap.size w w':=by
 have hz0:=zero176e
 obtain⟨kA,hkA⟩:=Le ((arL 16 f).toArray)
 obtain⟨w1,hw1⟩:=Lv (w.alloc (.cells (arL 16 f).toArray 22))
 have hs1:=Zs1 hw1
 have hb1:=Bl hw1
 have hK1:Ar w1 w.heap.size 16 f:=by rw [hw1];exact Ar.new w 16 _ _
 obtain⟨w2,hw2⟩:=Lv (w1.alloc (.cells (arL 176 fun _=>0).toArray 45))
 have hs2:=Zs2 hw2 hs1
 have hb2:=Bm hw2 hb1
 have hR2:Ar w2 (w.heap.size+1) 176 (fun _=>0):=by rw [hw2,←hs1];exact Ar.new w1 176 _ _
 have hK2:=ara hw2 hK1
 have hbd:=run_first f
 rw [hkA]at hw1 hbd
 rw [hkA]
 clear hb1 hK1
 go_enter Tryz.func23,Tryz.ntmps23
 go_upto_region 1 with fail
 rw [←hw1,←hw2]
 clear hw1 hw2
 have hT3:Ar (w2.alloc (.cells (arL 176 fun _=>0).toArray 45)) (w.heap.size+2) 176 (fun _=>0):=by rw [←hs2];exact Ar.new w2 176 _ _
 have hR3:Ar (w2.alloc (.cells (arL 176 fun _=>0).toArray 45)) (w.heap.size+1) 176 (fun _=>0):=hR2.alloc (by omega) _
 have hb3:Below w.heap.size w (w2.alloc (.cells (arL 176 fun _=>0).toArray 45)):=hb2.alloc (by omega) _
 have hs3:(w2.alloc (.cells (arL 176 fun _=>0).toArray 45)).heap.size=w.heap.size+3:=by simp [hs2]
 go_upto_region 2 with (first
  |(refine wpList_load_ar rfl _ _ rfl _ _ _ rfl hK2 Tryz.arr16 (size16 _) ?_;rw [hkA])
  |(refine wpList_build_by rfl _ _ rfl [(0,.agg kA)] rfl _ (hbd _) ?_)
  |(refine wpList_store_ar rfl _ _ _ rfl _ _ _ (fun i=>if i<16 then f i else 0) rfl rfl hT3 (size176e _) ?_;intro w4 hT4 hb4 hs4 hk4))
 have hR4:=hk4 _ _ _ (by omega) hR3
 have hB4:=hb3.trans (hb4.mono (by omega))
 clear hT3 hR3 hb3 hs3 hb4 hk4 hs4 hK2 hR2 hb2 hs1 hs2 hbd
 dsimp only [Act.put]
 have HF:=Lib.hid hf
 have HB:=Lib.hid h
 have hT4':=hT4.ext (f':=fun m=>if m<16*(0+1)then ek f m else 0) (fun j hj=>by
  by_cases hc:j<16
  ·rw [if_pos hc,if_pos (by omega),ek_key f j hc]
  ·rw [if_neg hc,if_neg (by omega)])
 clear hf h hT4
 go_upto_region 3 with fail
 go_loopw [7] (fun i wr=> ∃n:Nat,n≤10∧i= .int .i64 n∧Ar wr (w.heap.size+2) 176 (fun m=>if m<16*(n+1)then ek f m else 0)∧Ar wr (w.heap.size+1) 176 (fun _=>0)∧Below w.heap.size w wr) (fun i _=>10-(intOf i).toNat)
 case atStart=>exact⟨0,by omega,rfl,hT4',hR4,hB4⟩
 case round=>
  clear hT4' hR4 hB4
  obtain⟨n,hn,rfl,hT,hR,hB⟩:=hrel
  by_cases hlt:n<10
  ·have hi:(n:Int)<11:=by omega
   have hi2:(n:Int)+1<11:=by omega
   have hrk:=Lib.hid (arL_ext (n:=16) (f:=fun j=>(fun m=>if m<16*(n+1)then ek f m else 0) (n*16+j)) (g:=rk f n) (fun j hj=>by
    dsimp only
    rw [if_pos (by omega),Nat.mul_comm n 16,ek_rk f n j hj]))
   go_wp2_with (refine wpList_load_arO rfl _ _ rfl _ 176 (n*16) 16 _ rfl hT (by omega) Tryz.arr16 (size16 _) ?_;rw [hrk.out])
   refine(knext n (rk f n) (rk_lt f HF.out n) _ hlt (HB.out.keep hB)).mono ?_
   rintro e w5 ⟨rfl,k5⟩
   have hT5:=hT.to (by omega) k5
   have hR5:=hR.to (by omega) k5
   have hB5:=hB.trans (k5.mono hB.size)
   clear hT hR hB k5 hrk
   rw [show nx (pwr 2 n) (rk f n)=rk f (n+1)from rfl]
   go_wp2_with (refine wpList_store_arO rfl _ _ _ rfl _ 176 ((n+1)*16) 16 _ (rk f (n+1)) rfl rfl hT5 (by omega) (size16 _) ?_;intro w6 hT6 hb6 hs6 hk6)
   have hR6:=hk6 _ _ _ (by omega) hR5
   have hB6:=hB5.trans (hb6.mono (by omega))
   have hT7:=hT6.ext (f':=fun m=>if m<16*(n+1+1)then ek f m else 0) (fun j hj=>by
    unfold putO
    by_cases hc:(n+1)*16≤j∧j<(n+1)*16+16
    ·rw [if_pos hc,if_pos (by omega)]
     have:=ek_rk f (n+1) (j-(n+1)*16) (by omega)
     rw [←this];congr 1;omega
    ·rw [if_neg hc]
     dsimp only
     by_cases h2:j<16*(n+1)
     ·rw [if_pos h2,if_pos (by omega)]
     ·rw [if_neg h2,if_neg (by omega)])
   clear hT5 hR5 hB5 hT6 hb6 hs6 hk6
   go_roundw
   case rel=>exact⟨n+1,by omega,by go_num,hT7,hR6,hB6⟩
   case measure=>simp [intOf];omega
  ·obtain rfl:n=10:=by omega
   have hT2:=hT.ext (f':=ek f) (fun j hj=>by rw [if_pos (by omega)])
   clear hT
   go_wp2_with (first
    |(refine wpList_load_ar rfl _ _ rfl _ _ _ rfl hT2 Tryz.arr11 (size176e _) ?_)
    |(refine wpList_store_ar rfl _ _ _ rfl _ _ _ (ek f) rfl rfl hR (size176e _) ?_;intro w8 hA8 hb8 _ _))
   refine bodyPost_ret_ar rfl rfl hA8 Tryz.arr11 (size176e _) rfl ⟨rfl,?_⟩
   exact hB.trans (hb8.mono (by omega))
end
section
open Go.RowKit
set_option linter.unusedVariables false
set_option maxRecDepth 100000
noncomputable def kwR11:Code:=((Tryz.f62.body.bind (regionNo 11)).getD .skip)
set_option maxHeartbeats 1600000 in
theorem kwReg11 (n q p x0 gB:Nat) {Q0:Exit→Act→World→Prop} {t0 t1 t2 t3 t4 t7 t8 t9 t10 t11 t12 t13 t14 t15 t16 t17 t18 t19 t20 t21 t22 t23 t24 t25 t26 t27 t28 t29 t30 t31 t32 t33 t34 t35 t36 t37 t38 t39 t40 t41 t42 t43 t44 t45 t46 t47 t48 t49 t50 t51 t52 t53 t54 t55 t56 t57 t58 t59 t60 t61 t62 t63 t64 t65 t66 t67 t68 t69 t70 t71 t72 t73 t74 t75 t76 t77 t78 t79 t80 t81 t82 t83 t84 t85 t86 t87:Value} {W:World} (hn:n<44) (hq:q=n/4) (hq1:1≤q) (hp:p=q-1) (hx:x0<256)
  (hc:W.cell? ⟨gB,0,none⟩=some (.int .u8 (x0:Nat))) (hf:W.frozen? ⟨gB,0,none⟩=false)
  (hQ: ∀w9,Below W.heap.size W w9→Q0 .normal ⟨(t0::t1::t2::t3::t4:: .int .i64 (n:Int):: .pointer (some ⟨gB,0,none⟩)::t7::t8::t9::t10::t11::t12::t13::t14::t15::t16::t17::t18::t19::t20::t21::t22::t23::t24::t25::t26::t27::t28::t29::t30::t31::t32::t33::t34::t35::t36::t37::t38::t39::t40::t41::t42::t43::t44::t45::t46::t47::t48::t49::t50::t51::t52::t53::t54::t55::t56::t57::t58::t59::t60:: .pointer (some ⟨gB,0,none⟩):: .int .u8 (x0:Int):: .int .i64 (n:Int):: .int .i64 (q:Int):: .int .i64 (p:Int):: .int .u8 ((pwr 2 p:Nat):Int):: .int .u8 ((x0^^^pwr 2 p:Nat):Int):: .pointer (some ⟨gB,0,none⟩)::t69::t70::t71::t72::t73::t74::t75::t76::t77::t78::t79::t80::t81::t82::t83::t84::t85::t86::t87:: []).toArray,[]⟩ (w9.setCell ⟨gB,0,none⟩ (.int .u8 ((x0^^^pwr 2 p:Nat):Int)))):
  Code.wp Tryz.prog kwR11 Q0 ⟨(t0::t1::t2::t3::t4:: .int .i64 (n:Int):: .pointer (some ⟨gB,0,none⟩)::t7::t8::t9::t10::t11::t12::t13::t14::t15::t16::t17::t18::t19::t20::t21::t22::t23::t24::t25::t26::t27::t28::t29::t30::t31::t32::t33::t34::t35::t36::t37::t38::t39::t40::t41::t42::t43::t44::t45::t46::t47::t48::t49::t50::t51::t52::t53::t54::t55::t56::t57::t58::t59::t60::t61::t62::t63::t64::t65::t66::t67::t68::t69::t70::t71::t72::t73::t74::t75::t76::t77::t78::t79::t80::t81::t82::t83::t84::t85::t86::t87:: []).toArray,[]⟩ W:=by
 have hg:gB<W.heap.size:=by
  rcases Nat.lt_or_ge gB W.heap.size with h1|h1
  ·exact h1
  ·simp [World.cell?,Array.getElem?_eq_none h1]at hc
 have q5:(n:Int)/4=(q:Int):=by omega
 have q1:((n:Int)).tdiv 4=(q:Int):=by rw [Int.tdiv_eq_ediv_of_nonneg (by omega)];omega
 have q6:IntKind.i64.wrap ((q:Int)-1)=(p:Int):=by rw [wraps_i64' _ (by omega) (by omega)];omega
 have q7:IntKind.i64.wrap (q:Int)=(q:Int):=wraps_i64' _ (by omega) (by omega)
 have q2:wrap64 ((q:Int)-1)=(p:Int):=by rw [IntWalk.wrap64_in _ (by omega)];omega
 have q3:p≤1000:=by omega
 have hpl:=pwr_lt 2 p
 have hxx:bits BinOp.xor IntKind.u8 ((x0:Nat):Int) ((pwr 2 p:Nat):Int)=((x0^^^pwr 2 p:Nat):Int):=xor_n8 _ _ hx hpl
 have hkeep: ∀V:World,Below W.drew.heap.size W.drew V→V.cell? ⟨gB,0,none⟩=some (.int .u8 (x0:Nat))∧V.frozen? ⟨gB,0,none⟩=false∧Below W.heap.size W V:=fun V h=>
  ⟨(h.cell (p:=⟨gB,0,none⟩) hg).trans hc,(h.frozen (p:=⟨gB,0,none⟩) hg).trans hf,⟨h.os,h.tape,h.output,h.size,h.block⟩⟩
 have hQ2:=Lib.hid hQ
 clear hQ hq hp hn
 refine Code.wp_mono NoPanic.imp ?_
 conv=>arg 2;whnf
 go_region_with (go_at_call 98;refine(refpow 2 p _ (by decide) q3).mono ?_;rintro e w9 ⟨rfl,hb9⟩;obtain⟨k1,k2,k3⟩:=hkeep _ hb9)
 all_goals exact NoPanic.normal (hQ2.out _ k3)
noncomputable def kwR10:Code:=((Tryz.f62.body.bind (regionNo 10)).getD .skip)
set_option maxHeartbeats 1600000 in
theorem kwReg10 (e0 e1 e2 e3 s0 s1 s2 s3 gt gB:Nat) {Q0:Exit→Act→World→Prop} {t0 t1 t2 t4 t5 t7 t8 t9 t10 t11 t12 t13 t14 t15 t16 t17 t18 t19 t20 t21 t22 t23 t24 t25 t26 t27 t28 t29 t30 t31 t32 t33 t34 t35 t36 t37 t38 t39 t40 t41 t42 t43 t44 t45 t46 t47 t48 t49 t50 t51 t52 t53 t54 t55 t56 t57 t58 t59 t60 t61 t62 t63 t64 t65 t66 t67 t68 t69 t70 t71 t72 t73 t74 t75 t76 t77 t78 t79 t80 t81 t82 t83 t84 t85 t86 t87:Value} {W:World} (t0c:W.cell? ⟨gB,0,none⟩=some (.int .u8 (e0:Int))) (t0f:W.frozen? ⟨gB,0,none⟩=false) (t1c:W.cell? ⟨gB,1,none⟩=some (.int .u8 (e1:Int))) (t1f:W.frozen? ⟨gB,1,none⟩=false) (t2c:W.cell? ⟨gB,2,none⟩=some (.int .u8 (e2:Int))) (t2f:W.frozen? ⟨gB,2,none⟩=false) (t3c:W.cell? ⟨gB,3,none⟩=some (.int .u8 (e3:Int))) (t3f:W.frozen? ⟨gB,3,none⟩=false) (b0:W.cell? ⟨gt,e0,none⟩=some (.int .u8 (s0:Int))) (l0:e0<256) (b1:W.cell? ⟨gt,e1,none⟩=some (.int .u8 (s1:Int))) (l1:e1<256) (b2:W.cell? ⟨gt,e2,none⟩=some (.int .u8 (s2:Int))) (l2:e2<256) (b3:W.cell? ⟨gt,e3,none⟩=some (.int .u8 (s3:Int))) (l3:e3<256)
  (hQ:Q0 .normal ⟨(t0::t1::t2:: .pointer (some ⟨gt,0,none⟩)::t4::t5:: .pointer (some ⟨gB,0,none⟩)::t7::t8::t9::t10::t11::t12::t13::t14::t15::t16::t17::t18::t19::t20::t21::t22::t23::t24::t25::t26::t27::t28::t29::t30::t31::t32::t33::t34::t35::t36::t37::t38::t39::t40::t41::t42::t43:: .pointer (some ⟨gB,1,none⟩):: .int .u8 (e1:Int):: .pointer (some ⟨gt,e1,none⟩):: .int .u8 (s1:Int):: .pointer (some ⟨gB,2,none⟩):: .int .u8 (e2:Int):: .pointer (some ⟨gt,e2,none⟩):: .int .u8 (s2:Int):: .pointer (some ⟨gB,3,none⟩):: .int .u8 (e3:Int):: .pointer (some ⟨gt,e3,none⟩):: .int .u8 (s3:Int):: .pointer (some ⟨gB,0,none⟩):: .int .u8 (e0:Int):: .pointer (some ⟨gt,e0,none⟩):: .int .u8 (s0:Int):: .agg #[.int .u8 (s1:Int),.int .u8 (s2:Int),.int .u8 (s3:Int),.int .u8 (s0:Int)]::t61::t62::t63::t64::t65::t66::t67::t68::t69::t70::t71::t72::t73::t74::t75::t76::t77::t78::t79::t80::t81::t82::t83::t84::t85::t86::t87:: []).toArray,[]⟩ (((((W.setCell ⟨gB,0,none⟩ (.int .u8 (s1:Int))).setCell ⟨gB,1,none⟩ (.int .u8 (s2:Int))).setCell ⟨gB,2,none⟩ (.int .u8 (s3:Int))).setCell ⟨gB,3,none⟩ (.int .u8 (s0:Int))).drew)):
  Code.wp Tryz.prog kwR10 Q0 ⟨(t0::t1::t2:: .pointer (some ⟨gt,0,none⟩)::t4::t5:: .pointer (some ⟨gB,0,none⟩)::t7::t8::t9::t10::t11::t12::t13::t14::t15::t16::t17::t18::t19::t20::t21::t22::t23::t24::t25::t26::t27::t28::t29::t30::t31::t32::t33::t34::t35::t36::t37::t38::t39::t40::t41::t42::t43::t44::t45::t46::t47::t48::t49::t50::t51::t52::t53::t54::t55::t56::t57::t58::t59::t60::t61::t62::t63::t64::t65::t66::t67::t68::t69::t70::t71::t72::t73::t74::t75::t76::t77::t78::t79::t80::t81::t82::t83::t84::t85::t86::t87:: []).toArray,[]⟩ W:=by
 have i0:(e0:Int)<256:=by omega
 have i1:(e1:Int)<256:=by omega
 have i2:(e2:Int)<256:=by omega
 have i3:(e3:Int)<256:=by omega
 have hQ2:=Lib.hid hQ
 clear hQ
 refine Code.wp_mono NoPanic.imp ?_
 conv=>arg 2;whnf
 go_big_region
 exact NoPanic.normal hQ2.out
end
section
open Go.RowKit
set_option linter.unusedVariables false
set_option maxRecDepth 100000
def loopIn:Code→Option Code
 | .loop c=>some (.loop c)
 | .seq a b=>match loopIn a with
  |some c=>some c
  |none=>loopIn b
 | .block _ c=>loopIn c
 | .scope c=>loopIn c
 | .cond _ a b=>match loopIn a with
  |some c=>some c
  |none=>loopIn b
 |_=>none
def bodyOf:Code→Code
 | .loop c=>c
 |c=>c
noncomputable def kwLoopC:Code:=((Tryz.f62.body.bind fun c=>(loopIn c).bind fun l=>loopIn (bodyOf l)).getD .skip)
def OnlyIn (g:Nat) (W w':World):Prop:=(∀g' N F,g'≠g→Ar W g' N F→Ar w' g' N F)∧(∀B w0,B≤g→Below B w0 W→Below B w0 w')
theorem OnlyIn.refl (g:Nat) (W:World):OnlyIn g W W:=⟨fun _ _ _ _ h=>h,fun _ _ _ h=>h⟩
theorem OnlyIn.set {g:Nat} {W w':World} (h:OnlyIn g W w') (o:Nat) (v:Value):OnlyIn g W (w'.setCell ⟨g,o,none⟩ v).drew:=
 ⟨fun g' N F hg hA=>((h.1 g' N F hg hA).far (p:=⟨g,o,none⟩) (fun e=>hg e.symm) v).drew,fun B w0 hB hb=>((h.2 B w0 hB hb).setCell (p:=⟨g,o,none⟩) hB v).drew⟩
theorem ek_one (f:Nat→Nat) (n k m:Nat):(if m=n*4+k then ek f (4*n+k)else(if m<4*n+k then ek f m else 0))=if m<4*n+(k+1)then ek f m else 0:=by
 by_cases h:m=n*4+k
 ·rw [if_pos h,if_pos (by omega),h,Nat.mul_comm n 4]
 ·rw [if_neg h]
  by_cases h2:m<4*n+k
  ·rw [if_pos h2,if_pos (by omega)]
  ·rw [if_neg h2,if_neg (by omega)]
theorem Ar.low {w:World} {g N c j:Nat} {f:Nat→Nat} (h:Ar w g N (fun m=>if m<c then f m else 0)) (hj:j<c) (hN:j<N):w.cell? ⟨g,j,none⟩=some (.int .u8 (f j:Nat))∧w.frozen? ⟨g,j,none⟩=false:=by
 have:=h j hN
 dsimp only at this
 rwa [if_pos hj]at this
set_option maxHeartbeats 1600000 in
theorem kwLoop (n:Nat) (f T:Nat→Nat) (gB gW:Nat) {Q0:Exit→Act→World→Prop} {t0 t1 t2 t3 t8 t9 t10 t11 t12 t13 t14 t15 t16 t17 t18 t19 t20 t21 t22 t23 t24 t25 t26 t27 t28 t29 t30 t31 t32 t33 t34 t35 t36 t37 t38 t39 t40 t41 t42 t43 t44 t45 t46 t47 t48 t49 t50 t51 t52 t53 t54 t55 t56 t57 t58 t59 t60 t61 t62 t63 t64 t65 t66 t67 t68 t87 c69 c70 c71 c72 c73 c74 c75 c76 c77 c78 c79 c80 c81 c82 c83 c84 c85 c86:Value} {W:World} (h4:4≤n) (hlt:n<44) (hg:gB≠gW)
  (hf: ∀j,ek f j<256) (hT: ∀k,k<4→T k<256) (hxor: ∀k,k<4→ek f ((n-4)*4+k)^^^T k=ek f (4*n+k)) (hA:Ar W gB 4 T) (hW:Ar W gW 176 (fun m=>if m<4*n then ek f m else 0))
  (hQ: ∀(w':World) (u7 u69 u70 u71 u72 u73 u74 u75 u76 u77 u78 u79 u80 u81 u82 u83 u84 u85 u86:Value),Ar w' gW 176 (fun m=>if m<4*(n+1)then ek f m else 0)→OnlyIn gW W w'→Q0 (.exit 2) ⟨(t0::t1::t2::t3:: .pointer (some ⟨gW,0,none⟩):: .int .i64 (n:Int):: .pointer (some ⟨gB,0,none⟩)::u7::t8::t9::t10::t11::t12::t13::t14::t15::t16::t17::t18::t19::t20::t21::t22::t23::t24::t25::t26::t27::t28::t29::t30::t31::t32::t33::t34::t35::t36::t37::t38::t39::t40::t41::t42::t43::t44::t45::t46::t47::t48::t49::t50::t51::t52::t53::t54::t55::t56::t57::t58::t59::t60::t61::t62::t63::t64::t65::t66::t67::t68::u69::u70::u71::u72::u73::u74::u75::u76::u77::u78::u79::u80::u81::u82::u83::u84::u85::u86::t87:: []).toArray,[]⟩ w'):
  Code.wp Tryz.prog kwLoopC Q0 ⟨(t0::t1::t2::t3:: .pointer (some ⟨gW,0,none⟩):: .int .i64 (n:Int):: .pointer (some ⟨gB,0,none⟩):: .int .i64 0::t8::t9::t10::t11::t12::t13::t14::t15::t16::t17::t18::t19::t20::t21::t22::t23::t24::t25::t26::t27::t28::t29::t30::t31::t32::t33::t34::t35::t36::t37::t38::t39::t40::t41::t42::t43::t44::t45::t46::t47::t48::t49::t50::t51::t52::t53::t54::t55::t56::t57::t58::t59::t60::t61::t62::t63::t64::t65::t66::t67::t68::c69::c70::c71::c72::c73::c74::c75::c76::c77::c78::c79::c80::c81::c82::c83::c84::c85::c86::t87:: []).toArray,[]⟩ W:=by
 have hQ2:=Lib.hid hQ
 have hT2:=Lib.hid hT
 have hx2:=Lib.hid hxor
 have hf2:=Lib.hid hf
 have hA2:=Lib.hid hA
 have hW2:Hid (Ar W gW 176 (fun m=>if m<4*n+0 then ek f m else 0)):=hW
 clear hQ hT hxor hf hA hW
 conv=>arg 2;whnf
 go_loopw [7] (fun j ws=> ∃k:Nat,k≤4∧j= .int .i64 k∧Ar ws gW 176 (fun m=>if m<4*n+k then ek f m else 0)∧OnlyIn gW W ws) (fun j _=>4-(intOf j).toNat)
 case atStart=>exact⟨0,Nat.zero_le _,rfl,hW2.out,OnlyIn.refl _ _⟩
 case round=>
  obtain⟨k,hk,rfl,hW,hO⟩:=hrel
  by_cases hlk:k<4
  ·obtain⟨m,hm⟩:=Lv (n-4)
   have hk1:m*4+k<4*n+k:=by omega
   obtain⟨c0,_⟩:=hW.low (j:=m*4+k) hk1 (by omega)
   obtain⟨c1,_⟩:=(hO.1 gB 4 T hg hA2.out) k hlk
   obtain⟨c2,f2⟩:=hW (n*4+k) (by omega)
   have i1:(n:Int)<44:=by omega
   have i2:(m:Int)<44:=by omega
   have i4:(k:Int)<4:=by omega
   have e3:(n:Int)-4=(m:Int):=by omega
   have e4:wrap64 ((n:Int)-4)=(m:Int):=by rw [IntWalk.wrap64_in _ (by omega)];omega
   have e5:IntKind.i64.wrap ((n:Int)-4)=(m:Int):=by rw [wraps_i64' _ (by omega) (by omega)];omega
   have e6:IntKind.i64.wrap (m:Int)=(m:Int):=wraps_i64' _ (by omega) (by omega)
   have hx:bits BinOp.xor IntKind.u8 ((ek f (m*4+k):Nat):Int) ((T k:Nat):Int)=((ek f (4*n+k):Nat):Int):=by
    rw [xor_n8 _ _ (hf2.out _) (hT2.out k hlk),hm,hx2.out k hlk]
   have hW3:=(hW.set (j:=n*4+k) (v:=ek f (4*n+k)) (by omega) rfl).ext (fun m _=>ek_one f n k m)
   have hO3:=hO.set (n*4+k) (.int .u8 (ek f (4*n+k):Nat))
   clear hW hO hm hk1
   have HW:=Lib.hid hW3
   have HO:=Lib.hid hO3
   clear hW3 hO3
   go_wp2_with fail
   refine wp_region_noPanic ?_
   go_big_region
   refine NoPanic.normal ?_
   go_wp2_with fail
   go_roundw
   case rel=>exact⟨k+1,by omega,by go_num,HW.out.drew,HO.out⟩
   case measure=>simp [intOf];omega
  ·obtain rfl:k=4:=by omega
   go_wp2_with fail
   exact hQ2.out _ _ _ _ _ _ _ _ _ _ _ _ _ _ _ _ _ _ _ _ hW hO
end
section
open Go.RowKit
set_option linter.unusedVariables false
set_option maxRecDepth 100000
theorem Ar.set4 {w:World} {g n o v0 v1 v2 v3:Nat} {f:Nat→Nat} (h:Ar w g n f) (ho:o+3<n):
  Ar ((((w.setCell ⟨g,o,none⟩ (.int .u8 (v0:Int))).setCell ⟨g,o+1,none⟩ (.int .u8 (v1:Int))).setCell ⟨g,o+2,none⟩ (.int .u8 (v2:Int))).setCell ⟨g,o+3,none⟩ (.int .u8 (v3:Int))) g n
   (fun i=>if i=o+3 then v3 else if i=o+2 then v2 else if i=o+1 then v1 else if i=o then v0 else f i):=
 (((h.set (v:=v0) (by omega) rfl).set (v:=v1) (by omega) rfl).set (v:=v2) (by omega) rfl).set (v:=v3) (by omega) rfl
theorem Ar.far4 {w:World} {g g' n o o1 o2 o3:Nat} {v0 v1 v2 v3:Value} {f:Nat→Nat} (h:Ar w g n f) (hg:g'≠g):
  Ar ((((w.setCell ⟨g',o,none⟩ v0).setCell ⟨g',o1,none⟩ v1).setCell ⟨g',o2,none⟩ v2).setCell ⟨g',o3,none⟩ v3) g n f:=
 (((h.far (p:=⟨g',o,none⟩) hg _).far (p:=⟨g',o1,none⟩) hg _).far (p:=⟨g',o2,none⟩) hg _).far (p:=⟨g',o3,none⟩) hg _
theorem below_set4 {B:Nat} {a w:World} {g' o o1 o2 o3:Nat} {v0 v1 v2 v3:Value} (h:Below B a w) (hg:B≤g'):
  Below B a ((((w.setCell ⟨g',o,none⟩ v0).setCell ⟨g',o1,none⟩ v1).setCell ⟨g',o2,none⟩ v2).setCell ⟨g',o3,none⟩ v3):=
 (((h.setCell (p:=⟨g',o,none⟩) hg _).setCell (p:=⟨g',o1,none⟩) hg _).setCell (p:=⟨g',o2,none⟩) hg _).setCell (p:=⟨g',o3,none⟩) hg _
theorem ek_four (f:Nat→Nat) (n m:Nat) (h4:n<4):
  (if m=n*4+3 then f (4*n+3)else if m=n*4+2 then f (4*n+2)else if m=n*4+1 then f (4*n+1)else if m=n*4 then f (4*n)else(if m<4*n then ek f m else 0))=if m<4*(n+1)then ek f m else 0:=by
 have k0:m=n*4+3→ek f m=f (4*n+3):=fun h=>by rw [h,ek_key _ _ (by omega)];congr 1;omega
 have k1:m=n*4+2→ek f m=f (4*n+2):=fun h=>by rw [h,ek_key _ _ (by omega)];congr 1;omega
 have k2:m=n*4+1→ek f m=f (4*n+1):=fun h=>by rw [h,ek_key _ _ (by omega)];congr 1;omega
 have k3:m=n*4→ek f m=f (4*n):=fun h=>by rw [h,ek_key _ _ (by omega)];congr 1;omega
 by_cases h0:m=n*4+3
 ·rw [if_pos h0,if_pos (by omega),k0 h0]
 rw [if_neg h0]
 by_cases h1:m=n*4+2
 ·rw [if_pos h1,if_pos (by omega),k1 h1]
 rw [if_neg h1]
 by_cases h2:m=n*4+1
 ·rw [if_pos h2,if_pos (by omega),k2 h2]
 rw [if_neg h2]
 by_cases h3:m=n*4
 ·rw [if_pos h3,if_pos (by omega),k3 h3]
 rw [if_neg h3]
 by_cases h5:m<4*n
 ·rw [if_pos h5,if_pos (by omega)]
 ·rw [if_neg h5,if_neg (by omega)]
theorem Tryz.zero176:(Tryz.prog.info? 113).map (fun i=>(i.zero,i.size))=some (some (.agg (Array.replicate 176 (.int .u8 0))),176):=by kernel_rfl
theorem Tryz.arr44:Tryz.prog.underlying 113=some (.array 44 112):=by kernel_rfl
theorem size176 (f:Nat→Nat):(Tryz.prog.info? 113).map (·.size)=some (arL 176 f).length:=by rw [arL_len];exact(zero_of_info Tryz.zero176).2
theorem zero176 (w:World):(zeroValue 113).run Tryz.prog w= .ok (.agg (arL 176 fun _=>0).toArray) w:=by
 rw [arL_zero];exact(zero_of_info Tryz.zero176).1 w
set_option maxHeartbeats 1600000 in
theorem refwords (f:Nat→Nat) (hf: ∀j,j<16→f j<256) (w:World):
  Calls Tryz.prog 62 #[.agg (arL 16 f).toArray] w fun e w'=>e= .returned (.agg (arL 176 (ek f)).toArray)∧Below w.heap.size w w':=by
 have hz:=zero176
 have hz2:=zero256
 obtain⟨kA,hkA⟩:=Le ((arL 16 f).toArray)
 obtain⟨w1,hw1⟩:=Lv (w.alloc (.cells (arL 16 f).toArray 22))
 have hs1:=Zs1 hw1
 have hb1:=Bl hw1
 have hK1:Ar w1 w.heap.size 16 f:=by rw [hw1];exact Ar.new w 16 _ _
 obtain⟨w2,hw2⟩:=Lv (w1.alloc (.cells (arL 176 fun _=>0).toArray 113))
 have hs2:=Zs2 hw2 hs1
 have hb2:=Bm hw2 hb1
 have hR2:Ar w2 (w.heap.size+1) 176 (fun _=>0):=by rw [hw2,←hs1];exact Ar.new w1 176 _ _
 have hK2:=ara hw2 hK1
 rw [hkA]at hw1
 clear hb1 hK1 hs1
 rw [hkA]
 go_enter Tryz.func62,Tryz.ntmps62
 go_upto_region 1 with fail
 rw [←hw1,←hw2]
 clear hw1 hw2
 go_wp2_with fail
 refine(reftable _).mono ?_
 rintro e w3 ⟨rfl,k3⟩
 have hK3:=hK2.to (by omega) k3
 have hR3:=hR2.to (by omega) k3
 have hb3:=hb2.trans (k3.mono hb2.size)
 have hs3:=k3.size
 obtain⟨gt,hgt⟩:=Le (w3.heap.size)
 have hT4:Ar (w3.alloc (.cells (arL 256 fun _=>0).toArray 46)) gt 256 (fun _=>0):=by rw [←hgt];exact Ar.new w3 256 _ _
 have hK4:Ar (w3.alloc (.cells (arL 256 fun _=>0).toArray 46)) w.heap.size 16 f:=hK3.alloc (by omega) _
 have hR4:Ar (w3.alloc (.cells (arL 256 fun _=>0).toArray 46)) (w.heap.size+1) 176 (fun _=>0):=hR3.alloc (by omega) _
 have hb4:Below w.heap.size w (w3.alloc (.cells (arL 256 fun _=>0).toArray 46)):=hb3.alloc (by omega) _
 have hsz4:(w3.alloc (.cells (arL 256 fun _=>0).toArray 46)).heap.size=gt+1:=by simp [hgt]
 clear hK2 hR2 hb2 hK3 hR3 k3
 go_upto_region 2 with (refine wpList_store_ar rfl _ _ _ rfl _ _ _ sb rfl rfl hT4 (size_arL _) ?_;intro w5 hT5 hb5 hs5 hk5)
 have hK5:=hk5 _ _ _ (by omega) hK4
 have hR5:=hk5 _ _ _ (by omega) hR4
 have hB5:=hb4.trans (hb5.mono (by omega))
 rw [hsz4]at hs5
 clear hT4 hK4 hR4 hb4 hb5 hk5 hsz4
 dsimp only [Act.put]
 obtain⟨w6,hw6⟩:=Lv (w5.alloc (.cells (arL 176 fun _=>0).toArray 113))
 have hs6:w6.heap.size=gt+2:=by rw [hw6];simp [hs5]
 have hW6:Ar w6 (gt+1) 176 (fun _=>0):=by rw [hw6,←hs5];exact Ar.new w5 176 _ _
 have hK6:=ara hw6 hK5
 have hR6:=ara hw6 hR5
 have hT6:=ara hw6 hT5
 have hB6:Below w.heap.size w w6:=by rw [hw6];exact hB5.alloc (by have:=hB5.size;omega) _
 clear hK5 hR5 hB5 hT5
 go_upto_region 3 with fail
 rw [←hw6]
 clear hw6 hs5
 have hge:w.heap.size+2≤gt:=by omega
 obtain⟨gW,hgW⟩:=Le (gt+1)
 have hgW2:gt<gW:=by omega
 rw [hgW]at hW6
 rw [hgW]
 clear hs2 hs3 hs6 hb3 hgt hkA
 go_wp2_with fail
 go_loopw [5] (fun i wr=> ∃n:Nat,n≤44∧i= .int .i64 n∧Ar wr w.heap.size 16 f∧Ar wr (w.heap.size+1) 176 (fun _=>0)∧Ar wr gt 256 sb∧Ar wr gW 176 (fun m=>if m<4*n then ek f m else 0)∧Below w.heap.size w wr) (fun i _=>44-(intOf i).toNat)
 case atStart=>exact⟨0,Nat.zero_le _,rfl,hK6,hR6,hT6,hW6.ext (fun j _=>rfl),hB6⟩
 case round=>
  clear hK6 hR6 hT6 hW6 hB6
  obtain⟨n,hn,rfl,hK,hR,hT,hW,hB⟩:=hrel
  by_cases hlt:n<44
  ·by_cases h4:n<4
   ·obtain⟨a,ha⟩:=Lv (4*n)
    obtain⟨a1,ha1⟩:=Lv (4*n+1)
    obtain⟨a2,ha2⟩:=Lv (4*n+2)
    obtain⟨a3,ha3⟩:=Lv (4*n+3)
    have e0:wrap64 (4*(n:Int))=(a:Int):=by rw [IntWalk.wrap64_in _ (by omega)];omega
    have e1:wrap64 ((a:Int)+1)=(a1:Int):=by rw [IntWalk.wrap64_in _ (by omega)];omega
    have e2:wrap64 ((a:Int)+2)=(a2:Int):=by rw [IntWalk.wrap64_in _ (by omega)];omega
    have e3:wrap64 ((a:Int)+3)=(a3:Int):=by rw [IntWalk.wrap64_in _ (by omega)];omega
    have d0:IntKind.i64.wrap (4*(n:Int))=(a:Int):=by rw [wraps_i64' _ (by omega) (by omega)];omega
    have d1:IntKind.i64.wrap ((a:Int)+1)=(a1:Int):=by rw [wraps_i64' _ (by omega) (by omega)];omega
    have d2:IntKind.i64.wrap ((a:Int)+2)=(a2:Int):=by rw [wraps_i64' _ (by omega) (by omega)];omega
    have d3:IntKind.i64.wrap ((a:Int)+3)=(a3:Int):=by rw [wraps_i64' _ (by omega) (by omega)];omega
    have c0:=(hK a (by omega)).1
    have c1:=(hK a1 (by omega)).1
    have c2:=(hK a2 (by omega)).1
    have c3:=(hK a3 (by omega)).1
    have i0:(a:Int)<16:=by omega
    have i1:(a1:Int)<16:=by omega
    have i2:(a2:Int)<16:=by omega
    have i3:(a3:Int)<16:=by omega
    have i4:(n:Int)<44:=by omega
    have hN:=Lib.hid (show a=4*n∧a1=4*n+1∧a2=4*n+2∧a3=4*n+3 from⟨ha,ha1,ha2,ha3⟩)
    obtain⟨g0,f0⟩:=hW (n*4) (by omega)
    obtain⟨g1,f1⟩:=hW (n*4+1) (by omega)
    obtain⟨g2,f2⟩:=hW (n*4+2) (by omega)
    obtain⟨g3,f3⟩:=hW (n*4+3) (by omega)
    clear ha ha1 ha2 ha3
    go_wp2_with fail
    refine wp_region_noPanic ?_
    go_big_region
    refine NoPanic.normal ?_
    obtain⟨ha,ha1,ha2,ha3⟩:=hN.out
    subst ha ha1 ha2 ha3
    have hW2:=(hW.set4 (o:=n*4) (v0:=f (4*n)) (v1:=f (4*n+1)) (v2:=f (4*n+2)) (v3:=f (4*n+3)) (by omega)).ext (fun m _=>ek_four f n m h4)
    have hK2:=hK.far4 (g':=gW) (o:=n*4) (o1:=n*4+1) (o2:=n*4+2) (o3:=n*4+3) (v0:= .int .u8 (f (4*n):Nat)) (v1:= .int .u8 (f (4*n+1):Nat)) (v2:= .int .u8 (f (4*n+2):Nat)) (v3:= .int .u8 (f (4*n+3):Nat)) (by omega)
    have hR2:=hR.far4 (g':=gW) (o:=n*4) (o1:=n*4+1) (o2:=n*4+2) (o3:=n*4+3) (v0:= .int .u8 (f (4*n):Nat)) (v1:= .int .u8 (f (4*n+1):Nat)) (v2:= .int .u8 (f (4*n+2):Nat)) (v3:= .int .u8 (f (4*n+3):Nat)) (by omega)
    have hT2:=hT.far4 (g':=gW) (o:=n*4) (o1:=n*4+1) (o2:=n*4+2) (o3:=n*4+3) (v0:= .int .u8 (f (4*n):Nat)) (v1:= .int .u8 (f (4*n+1):Nat)) (v2:= .int .u8 (f (4*n+2):Nat)) (v3:= .int .u8 (f (4*n+3):Nat)) (by omega)
    have hB2:=below_set4 (B:=w.heap.size) hB (g':=gW) (o:=n*4) (o1:=n*4+1) (o2:=n*4+2) (o3:=n*4+3) (v0:= .int .u8 (f (4*n):Nat)) (v1:= .int .u8 (f (4*n+1):Nat)) (v2:= .int .u8 (f (4*n+2):Nat)) (v3:= .int .u8 (f (4*n+3):Nat)) (by omega)
    clear hK hR hT hW hB c0 c1 c2 c3 g0 g1 g2 g3 f0 f1 f2 f3 e0 e1 e2 e3 d0 d1 d2 d3
    obtain⟨w7,hw7⟩:=Lv (((((wr.setCell ⟨gW,n*4,none⟩ (.int .u8 (f (4*n):Nat))).setCell ⟨gW,n*4+1,none⟩ (.int .u8 (f (4*n+1):Nat))).setCell ⟨gW,n*4+2,none⟩ (.int .u8 (f (4*n+2):Nat))).setCell ⟨gW,n*4+3,none⟩ (.int .u8 (f (4*n+3):Nat))))
    rw [←hw7]at hW2 hK2 hR2 hT2 hB2
    rw [←hw7]
    clear hw7
    go_wp2_with fail
    go_roundw
    case rel=>exact⟨n+1,by omega,by go_num,hK2.drew,hR2.drew,hT2.drew,hW2.drew,hB2.drew⟩
    case measure=>simp [intOf];omega
   ·obtain⟨g0,f0⟩:=hW.low (j:=(n-1)*4) (by omega) (by omega)
    obtain⟨g1,f1⟩:=hW.low (j:=(n-1)*4+1) (by omega) (by omega)
    obtain⟨g2,f2⟩:=hW.low (j:=(n-1)*4+2) (by omega) (by omega)
    obtain⟨g3,f3⟩:=hW.low (j:=(n-1)*4+3) (by omega) (by omega)
    have i0:(n:Int)-1<44:=by omega
    have h4i: ¬((n:Int)<4):=by omega
    have hgWl:=hW.lt (by omega)
    obtain⟨gB,hgB⟩:=Le (wr.heap.size)
    obtain⟨w7,hw7⟩:=Lv (wr.alloc (.cells #[.int .u8 (ek f ((n-1)*4):Nat),.int .u8 (ek f ((n-1)*4+1):Nat),.int .u8 (ek f ((n-1)*4+2):Nat),.int .u8 (ek f ((n-1)*4+3):Nat)] 112))
    have hK7:=ara hw7 hK
    have hR7:=ara hw7 hR
    have hT7:=ara hw7 hT
    have hW7:=ara hw7 hW
    have hB7:Below w.heap.size w w7:=by rw [hw7];exact hB.alloc (by have:=hB.size;omega) _
    have hTB7:Ar w7 gB 4 (fun k=>ek f ((n-1)*4+k)):=by rw [hw7,←hgB];exact Ar.new wr 4 (fun k=>ek f ((n-1)*4+k)) _
    rw [hgB]at hgWl
    clear hK hR hT hW hB
    go_upto_region 9 with fail
    rw [←hw7]
    clear hw7 g0 g1 g2 g3 f0 f1 f2 f3
    by_cases hm:n%4=0
    ·have ht:((n:Int).tmod 4==0)=true:=by rw [Int.tmod_eq_emod_of_nonneg (by omega)];simp;omega
     have htl: ∀k,ek f k<256:=ek_lt f hf
     have hsl:=sb_lt
     have l0:((ek f ((n-1)*4):Nat):Int)<256:=by have:=htl ((n-1)*4);omega
     have l1:((ek f ((n-1)*4+1):Nat):Int)<256:=by have:=htl ((n-1)*4+1);omega
     have l2:((ek f ((n-1)*4+2):Nat):Int)<256:=by have:=htl ((n-1)*4+2);omega
     have l3:((ek f ((n-1)*4+3):Nat):Int)<256:=by have:=htl ((n-1)*4+3);omega
     obtain⟨t0,v0⟩:=hTB7 0 (by omega)
     obtain⟨t1,v1⟩:=hTB7 1 (by omega)
     obtain⟨t2,v2⟩:=hTB7 2 (by omega)
     obtain⟨t3,v3⟩:=hTB7 3 (by omega)
     have b0:=(hT7 _ (htl ((n-1)*4))).1
     have b1:=(hT7 _ (htl ((n-1)*4+1))).1
     have b2:=(hT7 _ (htl ((n-1)*4+2))).1
     have b3:=(hT7 _ (htl ((n-1)*4+3))).1
     have hLL:=Lib.hid htl
     have hSS:=Lib.hid hsl
     clear htl hsl
     go_upto_region 10 with fail
     refine kwReg10 (ek f ((n-1)*4)) (ek f ((n-1)*4+1)) (ek f ((n-1)*4+2)) (ek f ((n-1)*4+3)) (sb (ek f ((n-1)*4))) (sb (ek f ((n-1)*4+1))) (sb (ek f ((n-1)*4+2))) (sb (ek f ((n-1)*4+3))) gt gB t0 v0 t1 v1 t2 v2 t3 v3 b0 (hLL.out _) b1 (hLL.out _) b2 (hLL.out _) b3 (hLL.out _) ?_
     have hT1a:=(hTB7.set4 (o:=0) (v0:=sb (ek f ((n-1)*4+1))) (v1:=sb (ek f ((n-1)*4+2))) (v2:=sb (ek f ((n-1)*4+3))) (v3:=sb (ek f ((n-1)*4))) (by omega)).ext (f':=fun k=>sb (ek f ((n-1)*4+(k+1)%4))) (fun k hk=>by
      rcases(show k=0∨k=1∨k=2∨k=3 by omega)with rfl|rfl|rfl|rfl<;>rfl)
     have hK8a:=hK7.far4 (g':=gB) (o:=0) (o1:=1) (o2:=2) (o3:=3) (v0:= .int .u8 (sb (ek f ((n-1)*4+1)):Nat)) (v1:= .int .u8 (sb (ek f ((n-1)*4+2)):Nat)) (v2:= .int .u8 (sb (ek f ((n-1)*4+3)):Nat)) (v3:= .int .u8 (sb (ek f ((n-1)*4)):Nat)) (by omega)
     have hR8a:=hR7.far4 (g':=gB) (o:=0) (o1:=1) (o2:=2) (o3:=3) (v0:= .int .u8 (sb (ek f ((n-1)*4+1)):Nat)) (v1:= .int .u8 (sb (ek f ((n-1)*4+2)):Nat)) (v2:= .int .u8 (sb (ek f ((n-1)*4+3)):Nat)) (v3:= .int .u8 (sb (ek f ((n-1)*4)):Nat)) (by omega)
     have hT8a:=hT7.far4 (g':=gB) (o:=0) (o1:=1) (o2:=2) (o3:=3) (v0:= .int .u8 (sb (ek f ((n-1)*4+1)):Nat)) (v1:= .int .u8 (sb (ek f ((n-1)*4+2)):Nat)) (v2:= .int .u8 (sb (ek f ((n-1)*4+3)):Nat)) (v3:= .int .u8 (sb (ek f ((n-1)*4)):Nat)) (by omega)
     have hW8a:=hW7.far4 (g':=gB) (o:=0) (o1:=1) (o2:=2) (o3:=3) (v0:= .int .u8 (sb (ek f ((n-1)*4+1)):Nat)) (v1:= .int .u8 (sb (ek f ((n-1)*4+2)):Nat)) (v2:= .int .u8 (sb (ek f ((n-1)*4+3)):Nat)) (v3:= .int .u8 (sb (ek f ((n-1)*4)):Nat)) (by omega)
     have hB8a:=below_set4 (B:=w.heap.size) hB7 (g':=gB) (o:=0) (o1:=1) (o2:=2) (o3:=3) (v0:= .int .u8 (sb (ek f ((n-1)*4+1)):Nat)) (v1:= .int .u8 (sb (ek f ((n-1)*4+2)):Nat)) (v2:= .int .u8 (sb (ek f ((n-1)*4+3)):Nat)) (v3:= .int .u8 (sb (ek f ((n-1)*4)):Nat)) (by omega)
     obtain⟨w8,hw8⟩:=Lv (((((w7.setCell ⟨gB,0,none⟩ (.int .u8 (sb (ek f ((n-1)*4+1)):Nat))).setCell ⟨gB,1,none⟩ (.int .u8 (sb (ek f ((n-1)*4+2)):Nat))).setCell ⟨gB,2,none⟩ (.int .u8 (sb (ek f ((n-1)*4+3)):Nat))).setCell ⟨gB,3,none⟩ (.int .u8 (sb (ek f ((n-1)*4)):Nat))).drew)
     have hT1:Ar w8 gB 4 (fun k=>sb (ek f ((n-1)*4+(k+1)%4))):=by rw [hw8];exact hT1a.drew
     have hK8:Ar w8 w.heap.size 16 f:=by rw [hw8];exact hK8a.drew
     have hR8:Ar w8 (w.heap.size+1) 176 (fun _=>0):=by rw [hw8];exact hR8a.drew
     have hT8:Ar w8 gt 256 sb:=by rw [hw8];exact hT8a.drew
     have hW8:Ar w8 gW 176 (fun m=>if m<4*n+0 then ek f m else 0):=by rw [hw8];exact hW8a.drew
     have hB8:Below w.heap.size w w8:=by rw [hw8];exact hB8a.drew
     rw [←hw8]
     clear hT1a hK8a hR8a hT8a hW8a hB8a
     clear hw8 t0 t1 t2 t3 v0 v1 v2 v3 b0 b1 b2 b3 hK7 hR7 hT7 hW7 hB7 hTB7 l0 l1 l2 l3
     obtain⟨q,hq⟩:=Lv (n/4)
     obtain⟨p,hp⟩:=Lv (q-1)
     have q1:((n:Int)).tdiv 4=(q:Int):=by rw [Int.tdiv_eq_ediv_of_nonneg (by omega)];omega
     have q2:wrap64 ((q:Int)-1)=(p:Int):=by rw [IntWalk.wrap64_in _ (by omega)];omega
     have q5:(n:Int)/4=(q:Int):=by omega
     have q6:IntKind.i64.wrap ((q:Int)-1)=(p:Int):=by rw [wraps_i64' _ (by omega) (by omega)];omega
     have q7:IntKind.i64.wrap (q:Int)=(q:Int):=wraps_i64' _ (by omega) (by omega)
     have q3:p≤1000:=by omega
     have hPQ:=Lib.hid (show p=n/4-1 by omega)
     have q4:1≤q:=by omega
     have hqn:=hq
     have hpq:=hp
     clear hq hp
     obtain⟨x0,hx0⟩:=Le (sb (ek f ((n-1)*4+1)))
     have hx0l:x0<256:=by rw [←hx0];exact hSS.out _
     have hpl:=pwr_lt 2 p
     have hT1b:=hT1.ext (f':=fun k=>if k=0 then x0 else sb (ek f ((n-1)*4+(k+1)%4))) (fun k hk=>by
      by_cases h:k=0
      ·rw [if_pos h,←hx0,h]
      ·rw [if_neg h])
     have t0:w8.cell? ⟨gB,0,none⟩=some (.int .u8 (x0:Nat)):=(hT1b 0 (by omega)).1
     have v0:=(hT1b 0 (by omega)).2
     clear hT1
     clear ht hgB hgW
     have hxx:bits BinOp.xor IntKind.u8 ((x0:Nat):Int) ((pwr 2 p:Nat):Int)=((x0^^^pwr 2 p:Nat):Int):=xor_n8 _ _ hx0l hpl
     have hX0:=Lib.hid hx0
     clear hx0
     go_upto_region 11 with fail
     refine kwReg11 n q p x0 gB hlt hqn q4 hpq hx0l t0 v0 ?_
     intro w9 hb9
     have hK9:=hK8.to (by decide) hb9
     have hR9:=hR8.to (by decide) hb9
     have hT9:=hT8.to (by decide) hb9
     have hW9:=hW8.to (by decide) hb9
     have hTB9:=hT1b.to (by decide) hb9
     have hB9:=hB8.trans (hb9.mono hB8.size)
     obtain⟨T,hTd⟩: ∃T:Nat→Nat,T=fun k=>sb (ek f (4*(n-1)+(k+1)%4))^^^(if k=0 then pwr 2 (n/4-1)else 0):=⟨_,rfl⟩
     have hTl:=Lib.hid (show∀k,k<4→T k<256 from fun k _=>by rw [hTd];exact xor_lt _ _ (hSS.out _) (if0_lt k _ (pwr_lt 2 _)))
     have hxor:=Lib.hid (show∀k,k<4→ek f ((n-4)*4+k)^^^T k=ek f (4*n+k)from fun k hk=>by
      rw [hTd,ek_first f n k (by omega) hm hk,Nat.mul_comm (n-4) 4])
     have hTB:=(hTB9.set (j:=0) (v:=x0^^^pwr 2 p) (by decide) rfl).ext (f':=T) (fun k hk=>by
      rw [hTd]
      by_cases h:k=0
      ·subst h
       simp only [if_pos]
       rw [←hX0.out,hPQ.out,Nat.mul_comm (n-1) 4]
      ·simp only [if_neg h,Nat.xor_zero]
       rw [Nat.mul_comm (n-1) 4])
     have hKx:=hK9.far (p:=⟨gB,0,none⟩) (by simp;omega) (.int .u8 ((x0^^^pwr 2 p:Nat):Int))
     have hRx:=hR9.far (p:=⟨gB,0,none⟩) (by simp;omega) (.int .u8 ((x0^^^pwr 2 p:Nat):Int))
     have hTx:=hT9.far (p:=⟨gB,0,none⟩) (by simp;omega) (.int .u8 ((x0^^^pwr 2 p:Nat):Int))
     have hWx:=hW9.far (p:=⟨gB,0,none⟩) (by simp;omega) (.int .u8 ((x0^^^pwr 2 p:Nat):Int))
     have hBx:=hB9.setCell (p:=⟨gB,0,none⟩) (by simp;omega) (.int .u8 ((x0^^^pwr 2 p:Nat):Int))
     obtain⟨wx,hwx⟩:=Lv (w9.setCell ⟨gB,0,none⟩ (.int .u8 ((x0^^^pwr 2 p:Nat):Int)))
     rw [←hwx]at hTB hKx hRx hTx hWx hBx
     rw [←hwx]
     clear hwx hTd hK9 hR9 hT9 hW9 hTB9 hB9 hb9 hK8 hR8 hT8 hW8 hT1b hB8 t0 v0 hxx hpl q5 q6 q7 q1 q2 q3 q4 hqn hpq
     go_wp2_with fail
     refine kwLoop n f T gB gW (by omega) hlt (by omega) (ek_lt f hf) hTl.out hxor.out hTB hWx ?_
     intro w' u7 u69 u70 u71 u72 u73 u74 u75 u76 u77 u78 u79 u80 u81 u82 u83 u84 u85 u86 hW hO
     have hK:=hO.1 _ _ _ (by omega) hKx
     have hR:=hO.1 _ _ _ (by omega) hRx
     have hT:=hO.1 _ _ _ (by omega) hTx
     have hB:=hO.2 _ _ (by omega) hBx
     clear hKx hRx hTx hTB hWx hBx hO
     go_wp2_with fail
     go_roundw
     case rel=>exact⟨n+1,by omega,by go_num,hK,hR,hT,hW,hB⟩
     case measure=>simp [intOf];omega
    ·have ht:((n:Int).tmod 4==0)=false:=by rw [Int.tmod_eq_emod_of_nonneg (by omega)];simp;omega
     obtain⟨T,hTd⟩: ∃T:Nat→Nat,T=fun k=>ek f ((n-1)*4+k):=⟨_,rfl⟩
     rw [←hTd]at hTB7
     have hTl:=Lib.hid (show∀k,k<4→T k<256 from fun k _=>by rw [hTd];exact ek_lt f hf _)
     have hxor:=Lib.hid (show∀k,k<4→ek f ((n-4)*4+k)^^^T k=ek f (4*n+k)from fun k hk=>by
      rw [hTd,ek_more f n k (by omega) hm hk,Nat.mul_comm (n-4) 4,Nat.mul_comm (n-1) 4])
     clear hTd
     obtain⟨wx,hwx⟩:=Lv (w7)
     rw [←hwx]at hK7 hR7 hT7 hTB7 hW7 hB7
     rw [←hwx]
     clear hwx
     have hKx:=hK7
     have hRx:=hR7
     have hTx:=hT7
     have hTB:=hTB7
     have hWx:=hW7
     have hBx:=hB7
     clear hK7 hR7 hT7 hTB7 hW7 hB7
     go_wp2_with fail
     refine kwLoop n f T gB gW (by omega) hlt (by omega) (ek_lt f hf) hTl.out hxor.out hTB hWx ?_
     intro w' u7 u69 u70 u71 u72 u73 u74 u75 u76 u77 u78 u79 u80 u81 u82 u83 u84 u85 u86 hW hO
     have hK:=hO.1 _ _ _ (by omega) hKx
     have hR:=hO.1 _ _ _ (by omega) hRx
     have hT:=hO.1 _ _ _ (by omega) hTx
     have hB:=hO.2 _ _ (by omega) hBx
     clear hKx hRx hTx hTB hWx hBx hO
     go_wp2_with fail
     go_roundw
     case rel=>exact⟨n+1,by omega,by go_num,hK,hR,hT,hW,hB⟩
     case measure=>simp [intOf];omega
  ·obtain rfl:n=44:=by omega
   have hW2:=hW.ext (f':=ek f) (fun j hj=>by rw [if_pos (by omega)])
   clear hW
   go_wp2_with (first
    |(refine wpList_load_ar rfl _ _ rfl _ _ _ rfl hW2 Tryz.arr44 (size176 _) ?_)
    |(refine wpList_store_ar rfl _ _ _ rfl _ _ _ (ek f) rfl rfl hR (size176 _) ?_;intro w8 hA8 hb8 _ _))
   refine bodyPost_ret_ar rfl rfl hA8 Tryz.arr44 (size176 _) rfl ⟨rfl,?_⟩
   exact hB.trans (hb8.mono (by omega))
end
section
open Go.RowKit
set_option linter.unusedVariables false
set_option maxRecDepth 100000
set_option maxHeartbeats 1600000 in
theorem refexpand (f:Nat→Nat) (hf: ∀j,j<16→f j<256) (w:World):
  Calls Tryz.prog 38 #[.agg (arL 16 f).toArray] w fun e w'=>e= .returned (.agg (arL 176 (ek f)).toArray)∧Below w.heap.size w w':=by
 have hz0:=zero176e
 have hz1:=zero176
 obtain⟨kA,hkA⟩:=Le ((arL 16 f).toArray)
 obtain⟨w1,hw1⟩:=Lv (w.alloc (.cells (arL 16 f).toArray 22))
 have hs1:=Zs1 hw1
 have hb1:=Bl hw1
 have hK1:Ar w1 w.heap.size 16 f:=by rw [hw1];exact Ar.new w 16 _ _
 obtain⟨w2,hw2⟩:=Lv (w1.alloc (.cells (arL 176 fun _=>0).toArray 45))
 have hs2:=Zs2 hw2 hs1
 have hb2:=Bm hw2 hb1
 have hR2:Ar w2 (w.heap.size+1) 176 (fun _=>0):=by rw [hw2,←hs1];exact Ar.new w1 176 _ _
 have hK2:=ara hw2 hK1
 rw [hkA]at hw1
 rw [hkA]
 clear hb1 hK1
 go_enter Tryz.func38,Tryz.ntmps38
 go_upto_region 1 with fail
 rw [←hw1,←hw2]
 clear hw1 hw2
 go_wp2_with (refine wpList_load_ar rfl _ _ rfl _ _ _ rfl hK2 Tryz.arr16 (size16 _) ?_)
 rw [←hkA]
 refine(refwords f hf _).mono ?_
 rintro e w3 ⟨rfl,k3⟩
 have hR3:=hR2.to (by omega) k3
 have hb3:=hb2.trans (k3.mono hb2.size)
 have hs3:=k3.size
 obtain⟨gW,hgW⟩:=Le (w3.heap.size)
 have hge:w.heap.size+2≤gW:=by omega
 have hT4:Ar (w3.alloc (.cells (arL 176 fun _=>0).toArray 113)) gW 176 (fun _=>0):=by rw [←hgW];exact Ar.new w3 176 _ _
 have hR4:Ar (w3.alloc (.cells (arL 176 fun _=>0).toArray 113)) (w.heap.size+1) 176 (fun _=>0):=hR3.alloc (by omega) _
 have hb4:Below w.heap.size w (w3.alloc (.cells (arL 176 fun _=>0).toArray 113)):=hb3.alloc (by omega) _
 have hs4:(w3.alloc (.cells (arL 176 fun _=>0).toArray 113)).heap.size=gW+1:=by simp [hgW]
 clear hR2 hb2 hK2 hR3 hb3 k3 hs3 hs1 hs2
 go_upto_region 2 with (refine wpList_store_ar rfl _ _ _ rfl _ _ _ (ek f) rfl rfl hT4 (size176 _) ?_;intro w5 hT5 hb5 hs5 hk5)
 have hR5:=hk5 _ _ _ (by omega) hR4
 have hB5:=hb4.trans (hb5.mono (by omega))
 rw [hs4]at hs5
 clear hT4 hR4 hb4 hb5 hk5 hs4 hgW
 dsimp only [Act.put]
 obtain⟨w6,hw6⟩:=Lv (w5.alloc (.cells (arL 176 fun _=>0).toArray 45))
 have hO6:Ar w6 (gW+1) 176 (fun _=>0):=by rw [hw6,←hs5];exact Ar.new w5 176 _ _
 have hT6:=ara hw6 hT5
 have hR6:=ara hw6 hR5
 have hB6:Below w.heap.size w w6:=by rw [hw6];exact hB5.alloc (by have:=hB5.size;omega) _
 clear hT5 hR5 hB5
 go_upto_region 3 with fail
 rw [←hw6]
 clear hw6 hs5
 obtain⟨gO,hgO⟩:=Le (gW+1)
 have hgO2:gW<gO:=by omega
 rw [hgO]at hO6
 rw [hgO]
 clear hgO hkA hf
 go_wp2_with fail
 go_loopw [5] (fun i wr=> ∃n:Nat,n≤176∧i= .int .i64 n∧Ar wr gW 176 (ek f)∧Ar wr (w.heap.size+1) 176 (fun _=>0)∧Ar wr gO 176 (fun m=>if m<n then ek f m else 0)∧Below w.heap.size w wr) (fun i _=>176-(intOf i).toNat)
 case atStart=>exact⟨0,Nat.zero_le _,rfl,hT6,hR6,hO6.ext (fun j _=>rfl),hB6⟩
 case round=>
  clear hT6 hR6 hO6 hB6
  obtain⟨n,hn,rfl,hT,hR,hO,hB⟩:=hrel
  by_cases hlt:n<176
  ·obtain⟨a,ha⟩:=Lv (n/16)
   obtain⟨b,hb⟩:=Lv (n%16)
   obtain⟨c,hc⟩:=Lv (n/4)
   obtain⟨d,hd⟩:=Lv (n%4)
   have a1:((n:Int)).tdiv 16=(a:Int):=by rw [Int.tdiv_eq_ediv_of_nonneg (by omega)];omega
   have a2:(n:Int)/16=(a:Int):=by omega
   have a3:IntKind.i64.wrap (a:Int)=(a:Int):=wraps_i64' _ (by omega) (by omega)
   have b1:((n:Int)).tmod 16=(b:Int):=by rw [Int.tmod_eq_emod_of_nonneg (by omega)];omega
   have b2:(n:Int)%16=(b:Int):=by omega
   have b3:IntKind.i64.wrap (b:Int)=(b:Int):=wraps_i64' _ (by omega) (by omega)
   have c1:((n:Int)).tdiv 4=(c:Int):=by rw [Int.tdiv_eq_ediv_of_nonneg (by omega)];omega
   have c2:(n:Int)/4=(c:Int):=by omega
   have c3:IntKind.i64.wrap (c:Int)=(c:Int):=wraps_i64' _ (by omega) (by omega)
   have d1:((n:Int)).tmod 4=(d:Int):=by rw [Int.tmod_eq_emod_of_nonneg (by omega)];omega
   have d2:(n:Int)%4=(d:Int):=by omega
   have d3:IntKind.i64.wrap (d:Int)=(d:Int):=wraps_i64' _ (by omega) (by omega)
   have i1:(a:Int)<11:=by omega
   have i2:(b:Int)<16:=by omega
   have i3:(c:Int)<44:=by omega
   have i4:(d:Int)<4:=by omega
   obtain⟨k0,_⟩:=hT (c*4+d) (by omega)
   rw [show c*4+d=n by omega]at k0
   have k1:wr.cell? ⟨gW,c*4+d,none⟩=some (.int .u8 (ek f n:Nat)):=by rw [show c*4+d=n by omega];exact k0
   obtain⟨k2,f2⟩:=hO (a*16+b) (by omega)
   have e:=Lib.hid (show a*16+b=n by omega)
   have hT3:=hT.far (p:=⟨gO,a*16+b,none⟩) (by simp;omega) (.int .u8 (ek f n:Nat))
   have hR3:=hR.far (p:=⟨gO,a*16+b,none⟩) (by simp;omega) (.int .u8 (ek f n:Nat))
   have hO3:=(hO.set (j:=a*16+b) (v:=ek f n) (by omega) rfl).ext (f':=fun m=>if m<n+1 then ek f m else 0) (fun m _=>by rw [e.out];exact low_step (ek f) n m)
   have hB3:=hB.setCell (p:=⟨gO,a*16+b,none⟩) (by simp;omega) (.int .u8 (ek f n:Nat))
   clear hT hR hO hB ha hb hc hd k0
   go_wp2_with fail
   refine wp_region_noPanic ?_
   go_big_region
   refine NoPanic.normal ?_
   go_wp2_with fail
   go_roundw
   case rel=>exact⟨n+1,by omega,by go_num,hT3.drew,hR3.drew,hO3.drew,hB3.drew⟩
   case measure=>simp [intOf];omega
  ·obtain rfl:n=176:=by omega
   have hO2:=hO.ext (f':=ek f) (fun j hj=>by rw [if_pos hj])
   clear hO
   go_wp2_with (first
    |(refine wpList_load_ar rfl _ _ rfl _ _ _ rfl hO2 Tryz.arr11 (size176e _) ?_)
    |(refine wpList_store_ar rfl _ _ _ rfl _ _ _ (ek f) rfl rfl hR (size176e _) ?_;intro w8 hA8 hb8 _ _))
   refine bodyPost_ret_ar rfl rfl hA8 Tryz.arr11 (size176e _) rfl ⟨rfl,?_⟩
   exact hB.trans (hb8.mono (by omega))
end
end Go.Proofs.YtiacbphnclgikaaGreatDoor
