/-
 Contracts of package keys and of the reference package of layer 5, by walks through their texts, one after the other; what was there stays as it was.
-/
import Derived.Test.YtiacbphnclgikaaDoorSqz
import Derived.Test.YtiacbphnclgikaaDoorRows
import Derived.Deep.RegionWith
import Derived.Test.YtiacbphnclgikaaDoorFre
import Derived.Test.YtiacbphnclgikaaDoorGfi
import Derived.Test.YtiacbphnclgikaaDoorGsb
import Derived.Deep.RegionHeld3
import Derived.BigRegion
namespace Go.Proofs.YtiacbphnclgikaaDoor
section
def regionNo (k:Nat):Code→Option Code
 | .region i ops b=>if i=k then some (.region i ops b)else none
 | .loop c=>regionNo k c
 | .seq a b=>match regionNo k a with
  |some c=>some c
  |none=>regionNo k b
 | .block _ c=>regionNo k c
 | .scope c=>regionNo k c
 | .cond _ a b=>match regionNo k a with
  |some c=>some c
  |none=>regionNo k b
 |_=>none
end
section
open Go.RowKit
set_option linter.unusedVariables false
set_option maxRecDepth 10000
set_option maxHeartbeats 400000 in
theorem kconst (n:Nat) (w:World) (h1:1≤n) (h2:n≤10):
  Calls Tryd.prog 79 #[.int .i64 n] w fun e w'=>e= .returned (.int .u8 (pwr 2 (n-1):Nat))∧Below w.heap.size w w':=by
 obtain⟨m,hm⟩: ∃m:Nat,n=m+1:=⟨n-1,by omega⟩
 subst hm
 have e1:wrap64 (((m+1:Nat):Int)-1)=(m:Int):=by rw [IntWalk.wrap64_in _ (by omega)];omega
 have e2:((m+1:Nat):Int)-1=(m:Int):=by omega
 have i1: ¬(((m+1:Nat):Int)<1):=by omega
 have i2: ¬((10:Int)<((m+1:Nat):Int)):=by omega
 go_enter Tryd.func79,Tryd.ntmps79
 go_wp2_with fail
 refine(fpow 2 m _ (by omega) (by omega)).mono ?_
 rintro e w1 ⟨rfl,hb⟩
 go_wp2_with fail
 go_ret
 exact⟨rfl,hb⟩
set_option maxHeartbeats 400000 in
theorem kconst_no (z:Int) (w:World) (h:z<1∨10<z):
  Calls Tryd.prog 79 #[.int .i64 z] w fun e w'=>e= .returned (.int .u8 0)∧w'=w:=by
 rcases h with h|h
 ·go_enter Tryd.func79,Tryd.ntmps79
  go_wp2_with fail
  go_ret
  exact⟨rfl,rfl⟩
 ·have h2: ¬z<1:=by omega
  go_enter Tryd.func79,Tryd.ntmps79
  go_wp2_with fail
  go_ret
  exact⟨rfl,rfl⟩
set_option maxHeartbeats 400000 in
theorem kturn (x n:Nat) (w:World) (hx:x<4294967296) (h1:1≤n) (h2:n≤10) (h:Boxes w):
  Calls Tryd.prog 57 #[.int .u32 x,.int .i64 n] w fun e w'=>e= .returned (.int .u32 (trn x (pwr 2 (n-1)):Nat))∧Below w.heap.size w w':=by
 have hl:=rot8_lt x hx
 have hp:=pwr_lt 2 (n-1)
 have hsl:=sbw_lt (rot8 x)
 have hxx:Hid (bits BinOp.xor IntKind.u32 ((sbw (rot8 x):Nat):Int) (((pwr 2 (n-1):Nat):Int)*16777216)=((trn x (pwr 2 (n-1)):Nat):Int)):=by
  unfold Hid trn
  have:=bits_xor_nat .u32 32 (by decide) wraps_u32' (sbw (rot8 x)) (pwr 2 (n-1)*16777216) hsl (by omega)
  rw [←this];simp
 go_enter Tryd.func57,Tryd.ntmps57
 go_wp2_with fail
 refine(rotl32 x _ hx).mono ?_
 rintro e w1 ⟨rfl,rfl⟩
 go_wp2_with fail
 refine(sboxWord _ _ hl h).mono ?_
 rintro e w2 ⟨rfl,rfl⟩
 go_wp2_with fail
 refine(kconst n _ h1 h2).mono ?_
 rintro e w3 ⟨rfl,hb⟩
 go_wp2_with fail
 go_ret
 exact⟨fret_of hxx.out,hb⟩
end
section
open Go.RowKit
set_option linter.unusedVariables false
set_option maxRecDepth 10000
def pre (f:Nat→Nat) (o:Nat):Nat→Nat
 |0=>0
 |n+1=>pre f o n*256+f (o+n)
theorem pre_lt (f:Nat→Nat) (o:Nat) (hf: ∀j,j<16→f j<256): ∀n,o+n≤16→pre f o n<256^n
 |0,_=>by simp [pre]
 |n+1,h=>by
  have h1:=pre_lt f o hf n (by omega)
  have h2:=hf (o+n) (by omega)
  rw [pre,Nat.pow_succ];omega
theorem pre_four (f:Nat→Nat) (i:Nat):pre f (4*i) 4=wd f i:=by simp [pre,wd,quad]
theorem pre_step (f:Nat→Nat) (o n:Nat) (hf: ∀j,j<16→f j<256) (ho:o+4≤16) (hn:n<4):
  bits .or .u32 (((pre f o n:Nat):Int)*256) ((f (o+n):Nat):Int)=((pre f o (n+1):Nat):Int):=by
 have h1:=pre_lt f o hf n (by omega)
 have h2:=hf (o+n) (by omega)
 have h3:256^n≤256^3:=Nat.pow_le_pow_right (by decide) (by omega)
 have e:((pre f o n:Nat):Int)*256=((2^8*pre f o n:Nat):Int):=by omega
 rw [e,or_u32 _ _ (by omega) (by omega),←Nat.two_pow_add_eq_or_of_lt h2,pre]
 omega
theorem Tryd.arr16:Tryd.prog.underlying 35=some (.array 16 5):=by kernel_rfl
theorem slice16 (g o:Nat) (ho:o+4≤16) (w:World):(Instr.sliceAt 35 (.pointer (some ⟨g,0,none⟩)) (some (.int .i64 (o:Int))) (some (.int .i64 ((o:Int)+4))) none).run Tryd.prog w= .ok (.slice (some ⟨g,o,none⟩) 4 (16-o)) w:=by
 have hal:Tryd.prog.arrayLen 35=16:=by simp [Program.arrayLen]
 have hel:Tryd.prog.elem 35=5:=by simp [Program.elem]
 have hs:(sizeOf 5).run Tryd.prog w= .ok 1 w:=by kernel_rfl
 rw [run_sliceAt_array_lh w 35 ⟨g,0,none⟩ (by rw [hal,hel];exact Tryd.arr16) .i64 .i64 (o:Int) ((o:Int)+4) (by omega) (by omega) (by rw [hal];omega),hal,hel,hs]
 simp only [Result.andThen_ok,slicedAt]
 have e1:((o:Int)).toNat=o:=by omega
 have e2:((o:Int)+4).toNat=o+4:=by omega
 rw [e1,e2,if_neg (by omega)]
 simp [Addr.add]
 omega
set_option maxHeartbeats 800000 in
theorem kword (g o:Nat) (f:Nat→Nat) (w:World) (ho:o+4≤16) (hA:Ar w g 16 f) (hf: ∀j,j<16→f j<256):
  Calls Tryd.prog 78 #[.int .i64 o,.pointer (some ⟨g,0,none⟩)] w fun e w'=>e= .returned (.int .u32 (pre f o 4:Nat))∧w'=w:=by
 have hstep:=Lib.hid (fun n hn=>pre_step f o n hf ho hn)
 have hlt:=Lib.hid (fun n h=>pre_lt f o hf n h)
 have hcell:=Lib.hid hA
 have hb:=Lib.hid hf
 have hsl:=slice16 g o ho
 clear hA hf
 go_enter Tryd.func78,Tryd.ntmps78
 go_wp2_with fail
 go_loop [4,12] (fun x i=> ∃n:Nat,n≤4∧i= .int .i64 n∧x= .int .u32 (pre f o n:Nat)) (fun _ i=>4-(intOf i).toNat)
 case atStart=>exact⟨0,Nat.zero_le _,rfl,rfl⟩
 case round=>
  obtain⟨n,hn,rfl,rfl⟩:=hrel
  by_cases hl:n<4
  ·have hs:=Lib.hid (hstep.out n hl)
   have h1:=(hcell.out (o+n) (by omega)).1
   have h2:=hb.out (o+n) (by omega)
   have h3:pre f o n<16777216:=by have:=hlt.out n (by omega);have h3:256^n≤256^3:=Nat.pow_le_pow_right (by decide) (by omega);omega
   go_wp2_with fail
   go_round
   case rel=>exact⟨n+1,by omega,by go_num,fval_of hs.out⟩
   case measure=>simp [intOf];omega
  ·obtain rfl:n=4:=by omega
   go_wp2_with fail
   go_ret
   exact⟨rfl,rfl⟩
theorem Tryd.arr4w:Tryd.prog.underlying 62=some (.array 4 61):=by kernel_rfl
theorem size4w (f:Nat→Nat):(Tryd.prog.info? 62).map (·.size)=some (awL 4 f).length:=by rw [awL_len];kernel_rfl
theorem Tryd.zero16:(Tryd.prog.info? 35).map (fun i=>(i.zero,i.size))=some (some (.agg (Array.replicate 16 (.int .u8 0))),16):=by kernel_rfl
theorem size16 (f:Nat→Nat):(Tryd.prog.info? 35).map (·.size)=some (arL 16 f).length:=by rw [arL_len];exact(zero_of_info Tryd.zero16).2
theorem zero16 (w:World):(zeroValue 35).run Tryd.prog w= .ok (.agg (arL 16 fun _=>0).toArray) w:=by
 rw [arL_zero];exact(zero_of_info Tryd.zero16).1 w
theorem Aw.four {w:World} {g:Nat} {f:Nat→Nat} (h:Aw w g 4 f) (W:Nat→Nat):
  Aw ((((w.setCell ⟨g,0,none⟩ (.int .u32 (W 0:Nat))).setCell ⟨g,1,none⟩ (.int .u32 (W 1:Nat))).setCell ⟨g,2,none⟩ (.int .u32 (W 2:Nat))).setCell ⟨g,3,none⟩ (.int .u32 (W 3:Nat))) g 4 W:=
 ((((h.set (j := 0) (v := W 0) (by omega) rfl).set (j := 1) (v := W 1) (by omega) rfl).set (j := 2) (v := W 2) (by omega) rfl).set (j := 3) (v := W 3) (by omega) rfl).ext (fun j hj => by
  rcases(show j=0∨j=1∨j=2∨j=3 by omega)with rfl|rfl|rfl|rfl<;>simp)
set_option maxHeartbeats 800000 in
theorem ksplit (f:Nat→Nat) (hf: ∀j,j<16→f j<256) (w:World):
  Calls Tryd.prog 56 #[.agg (arL 16 f).toArray] w fun e w'=>e= .returned (.agg #[.int .u32 (wd f 0:Nat),.int .u32 (wd f 1:Nat),.int .u32 (wd f 2:Nat),.int .u32 (wd f 3:Nat)])∧Below w.heap.size w w':=by
 obtain⟨kA,hkA⟩:=Le ((arL 16 f).toArray)
 obtain⟨w1,hw1⟩:=Lv (w.alloc (.cells (arL 16 f).toArray 35))
 have hs1:=Zs1 hw1
 have hb1:=Bl hw1
 have hK1:Ar w1 w.heap.size 16 f:=by rw [hw1];exact Ar.new w 16 _ _
 have hK2:Ar (w1.alloc (.cells #[.int .u32 0,.int .u32 0,.int .u32 0,.int .u32 0] 62)) w.heap.size 16 f:=hK1.alloc (by omega) _
 have hb2:Below w.heap.size w (w1.alloc (.cells #[.int .u32 0,.int .u32 0,.int .u32 0,.int .u32 0] 62)):=hb1.alloc (by omega) _
 rw [hkA]at hw1
 rw [hkA]
 clear hb1 hK1
 go_enter Tryd.func56,Tryd.ntmps56
 go_upto_region 1 with fail
 rw [←hw1]
 clear hw1
 have hR:Aw (w1.alloc (.cells #[.int .u32 0,.int .u32 0,.int .u32 0,.int .u32 0] 62)) (w.heap.size+1) 4 (fun _=>0):=by rw [←hs1];exact Aw.new w1 4 (fun _=>0) _
 obtain⟨w2,hw2⟩:=Lv (w1.alloc (.cells #[.int .u32 0,.int .u32 0,.int .u32 0,.int .u32 0] 62))
 rw [←hw2]at hK2 hb2 hR
 rw [←hw2]
 clear hw2 hs1
 obtain⟨c0,d0⟩:=hR 0 (by omega)
 obtain⟨c1,d1⟩:=hR 1 (by omega)
 obtain⟨c2,d2⟩:=hR 2 (by omega)
 obtain⟨c3,d3⟩:=hR 3 (by omega)
 have hA:=Lib.hid hK2
 have hf2:=Lib.hid hf
 have p0:=Lib.hid (pre_four f 0)
 have p1:=Lib.hid (pre_four f 1)
 have p2:=Lib.hid (pre_four f 2)
 have p3:=Lib.hid (pre_four f 3)
 have HR:=Lib.hid (hR.four (wd f))
 clear hR hK2 hf hkA
 go_wp2_with fail
 refine(kword w.heap.size 0 f _ (by omega) hA.out hf2.out).mono ?_
 rintro e w3 ⟨rfl,rfl⟩
 rw [show pre f 0 4=wd f 0 from p0.out]
 go_wp2_with fail
 refine(kword w.heap.size 4 f _ (by omega) hA.out hf2.out).mono ?_
 rintro e w3 ⟨rfl,rfl⟩
 rw [show pre f 4 4=wd f 1 from p1.out]
 go_wp2_with fail
 refine(kword w.heap.size 8 f _ (by omega) hA.out hf2.out).mono ?_
 rintro e w3 ⟨rfl,rfl⟩
 rw [show pre f 8 4=wd f 2 from p2.out]
 go_wp2_with fail
 refine(kword w.heap.size 12 f _ (by omega) hA.out hf2.out).mono ?_
 rintro e w3 ⟨rfl,rfl⟩
 rw [show pre f 12 4=wd f 3 from p3.out]
 go_wp2_with fail
 refine bodyPost_ret_aw rfl rfl HR.out Tryd.arr4w (size4w _) rfl ⟨rfl,?_⟩
 exact(((hb2.setCell (p:=⟨w.heap.size+1,0,none⟩) (by simp) _).setCell (p:=⟨w.heap.size+1,1,none⟩) (by simp) _).setCell (p:=⟨w.heap.size+1,2,none⟩) (by simp) _).setCell (p:=⟨w.heap.size+1,3,none⟩) (by simp) _
theorem join_byte (x k s:Nat) (hk:k<4) (hs:s=24-k*8):((x:Int)/2^s)%256=((wb x k:Nat):Int):=by
 subst hs
 rcases(show k=0∨k=1∨k=2∨k=3 by omega)with rfl|rfl|rfl|rfl<;>simp [wb]
set_option maxHeartbeats 800000 in
theorem kjoin (W:Nat→Nat) (hW: ∀i,i<4→W i<4294967296) (w:World):
  Calls Tryd.prog 58 #[.agg #[.int .u32 (W 0:Nat),.int .u32 (W 1:Nat),.int .u32 (W 2:Nat),.int .u32 (W 3:Nat)]] w fun e w'=>e= .returned (.agg (arL 16 (jn W)).toArray)∧Below w.heap.size w w':=by
 have hz:=zero16
 obtain⟨w1,hw1⟩:=Lv (w.alloc (.cells #[.int .u32 (W 0:Nat),.int .u32 (W 1:Nat),.int .u32 (W 2:Nat),.int .u32 (W 3:Nat)] 62))
 have hs1:=Zs1 hw1
 have hb1:=Bl hw1
 have hK1:Aw w1 w.heap.size 4 W:=by rw [hw1];exact Aw.new w 4 W _
 obtain⟨w2,hw2⟩:=Lv (w1.alloc (.cells (arL 16 fun _=>0).toArray 35))
 have hs2:=Zs2 hw2 hs1
 have hb2:=Bm hw2 hb1
 have hR2:Ar w2 (w.heap.size+1) 16 (fun _=>0):=by rw [hw2,←hs1];exact Ar.new w1 16 _ _
 have hK2:=awa hw2 hK1
 obtain⟨w3,hw3⟩:=Lv (w2.alloc (.cells (arL 16 fun _=>0).toArray 35))
 have hb3:=Bm hw3 hb2
 have hT3:Ar w3 (w.heap.size+2) 16 (fun _=>0):=by rw [hw3,←hs2];exact Ar.new w2 16 _ _
 have hR3:=ara hw3 hR2
 have hK3:=awa hw3 hK2
 clear hb1 hK1 hb2 hR2 hK2
 go_enter Tryd.func58,Tryd.ntmps58
 go_upto_region 2 with fail
 rw [←hw1,←hw2,←hw3]
 clear hw1 hw2 hw3 hs1 hs2
 go_wp2_with fail
 go_loopw [5] (fun i wr=> ∃n:Nat,n≤16∧i= .int .i64 n∧Aw wr w.heap.size 4 W∧Ar wr (w.heap.size+1) 16 (fun _=>0)∧Ar wr (w.heap.size+2) 16 (fun m=>if m<n then jn W m else 0)∧Below w.heap.size w wr) (fun i _=>16-(intOf i).toNat)
 case atStart=>exact⟨0,Nat.zero_le _,rfl,hK3,hR3,hT3.ext (fun _ _=>rfl),hb3⟩
 case round=>
  clear hK3 hR3 hT3 hb3
  obtain⟨n,hn,rfl,hK,hR,hT,hB⟩:=hrel
  by_cases hlt:n<16
  ·obtain⟨q,hq⟩:=Lv (n/4)
   obtain⟨k,hk⟩:=Lv (n%4)
   obtain⟨s,hs⟩:=Lv (24-k*8)
   have hq1:((n:Int)).tdiv 4=(q:Int):=by rw [Int.tdiv_eq_ediv_of_nonneg (by omega)];omega
   have hq2:(n:Int)/4=(q:Int):=by omega
   have hk1:((n:Int)).tmod 4=(k:Int):=by rw [Int.tmod_eq_emod_of_nonneg (by omega)];omega
   have hk2:(n:Int)%4=(k:Int):=by omega
   have e1:wrap64 ((k:Int)*8)=(k:Int)*8:=IntWalk.wrap64_in _ (by omega)
   have e2:wrap64 (24-(k:Int)*8)=(s:Int):=by rw [IntWalk.wrap64_in _ (by omega)];omega
   have e3:24-(k:Int)*8=(s:Int):=by omega
   have hby:=Lib.hid (join_byte (W q) k s (by omega) hs)
   have hj:=Lib.hid (show jn W n=wb (W q) k by rw [jn,hq,hk])
   have hq4:q<4:=by omega
   have hs32:s<32:=by omega
   obtain⟨c0,_⟩:=hK q hq4
   obtain⟨c1,d1⟩:=hT n hlt
   have hwq:=hW q hq4
   clear hq hk hs
   go_wp2_with fail
   rw [hby.out,←hj.out]
   go_roundw
   case rel=>
    exact⟨n+1,by omega,by go_num,hK.far (p:=⟨w.heap.size+2,n,none⟩) (by simp) _,hR.far (p:=⟨w.heap.size+2,n,none⟩) (by simp) _,
     (hT.set (j:=n) (v:=jn W n) (by omega) rfl).ext (fun m _=>low_step (jn W) n m),hB.setCell (p:=⟨w.heap.size+2,n,none⟩) (by simp) _⟩
   case measure=>simp [intOf];omega
  ·obtain rfl:n=16:=by omega
   have hT2:=hT.ext (f':=jn W) (fun j hj=>by rw [if_pos hj])
   clear hT
   go_wp2_with (first
    |(refine wpList_load_ar rfl _ _ rfl _ _ _ rfl hT2 Tryd.arr16 (size16 _) ?_)
    |(refine wpList_store_ar rfl _ _ _ rfl _ _ _ (jn W) rfl rfl hR (size16 _) ?_;intro w8 hA8 hb8 _ _))
   refine bodyPost_ret_ar rfl rfl hA8 Tryd.arr16 (size16 _) rfl ⟨rfl,?_⟩
   exact hB.trans (hb8.mono (by omega))
end
section
open Go.RowKit
set_option linter.unusedVariables false
set_option maxRecDepth 100000
theorem xor_w (a b:Nat) (ha:a<4294967296) (hb:b<4294967296):bits .xor .u32 (a:Int) (b:Int)=((a^^^b:Nat):Int):=bits_xor_nat .u32 32 (by decide) wraps_u32' a b ha hb
noncomputable def knRegC:Code:=((Tryd.f44.body.bind (regionNo 4)).getD .skip)
set_option maxHeartbeats 1600000 in
theorem knReg (r m x0 x3 y z gB:Nat) {Q0:Exit→Act→World→Prop} {t1 t2 t3 t4 t5 t7 t8 t9 t10 t11 t12 t13 t14 t15 t16 t17 t18 t19 t20 t21 t22 t23 t24 t25 t26 t27 t28 t29 t30 t31 t32 t33 t34 t35 t36 t37 t38 t39 t40 t41 t42 t43 t44:Value} {W:World} (hr:r<10) (hm:m=r+1) (hx0:x0<4294967296) (hy:y<4294967296) (hz:x0^^^y=z)
  (hT: ∀V:World,Boxes V→Calls Tryd.prog 57 #[.int .u32 (x3:Nat),.int .i64 m] V fun e w'=>e= .returned (.int .u32 (y:Nat))∧Below V.heap.size V w') (hB:Boxes W)
  (c0:W.cell? ⟨gB,0,none⟩=some (.int .u32 (x0:Nat))) (c3:W.cell? ⟨gB,3,none⟩=some (.int .u32 (x3:Nat))) (d0:W.frozen? ⟨gB,0,none⟩=false)
  (hQ: ∀w9,Below W.heap.size W w9→Q0 .normal ⟨(.int .i64 (r:Int)::t1::t2::t3::t4::t5:: .pointer (some ⟨gB,0,none⟩)::t7::t8::t9::t10::t11::t12::t13::t14::t15:: .pointer (some ⟨gB,0,none⟩):: .int .u32 ((x0:Nat):Int):: .pointer (some ⟨gB,3,none⟩):: .int .u32 ((x3:Nat):Int):: .int .i64 (r:Int):: .int .i64 (m:Int):: .int .u32 ((y:Nat):Int):: .int .u32 ((z:Nat):Int):: .pointer (some ⟨gB,0,none⟩)::t25::t26::t27::t28::t29::t30::t31::t32::t33::t34::t35::t36::t37::t38::t39::t40::t41::t42::t43::t44:: []).toArray,[]⟩ (w9.setCell ⟨gB,0,none⟩ (.int .u32 (z:Nat)))):
  Code.wp Tryd.prog knRegC Q0 ⟨(.int .i64 (r:Int)::t1::t2::t3::t4::t5:: .pointer (some ⟨gB,0,none⟩)::t7::t8::t9::t10::t11::t12::t13::t14::t15::t16::t17::t18::t19::t20::t21::t22::t23::t24::t25::t26::t27::t28::t29::t30::t31::t32::t33::t34::t35::t36::t37::t38::t39::t40::t41::t42::t43::t44:: []).toArray,[]⟩ W:=by
 have hg:gB<W.heap.size:=by
  rcases Nat.lt_or_ge gB W.heap.size with h1|h1
  ·exact h1
  ·simp [World.cell?,Array.getElem?_eq_none h1]at c0
 have m1:IntKind.i64.wrap ((r:Int)+1)=(m:Int):=by rw [wraps_i64' _ (by omega) (by omega)];omega
 have m2:wrap64 ((r:Int)+1)=(m:Int):=by rw [IntWalk.wrap64_in _ (by omega)];omega
 have m3:(r:Int)+1=(m:Int):=by omega
 have m4:IntKind.i64.wrap (m:Int)=(m:Int):=wraps_i64' _ (by omega) (by omega)
 clear hm
 have hxx:bits BinOp.xor IntKind.u32 ((x0:Nat):Int) ((y:Nat):Int)=((z:Nat):Int):=by rw [xor_w _ _ hx0 hy,hz]
 have hkeep: ∀V:World,Below W.drew.heap.size W.drew V→V.cell? ⟨gB,0,none⟩=some (.int .u32 (x0:Nat))∧V.frozen? ⟨gB,0,none⟩=false∧Below W.heap.size W V:=fun V h=>
  ⟨(h.cell (p:=⟨gB,0,none⟩) hg).trans c0,(h.frozen (p:=⟨gB,0,none⟩) hg).trans d0,⟨h.os,h.tape,h.output,h.size,h.block⟩⟩
 have hQ2:=Lib.hid hQ
 have hT2:=Lib.hid hT
 clear hQ hT hz hx0 hy
 refine Code.wp_mono NoPanic.imp ?_
 conv=>arg 2;whnf
 go_region_with (go_at_call 57;refine(hT2.out W.drew hB).mono ?_;rintro e w9 ⟨rfl,hb9⟩;obtain⟨k1,k2,k3⟩:=hkeep _ hb9)
 all_goals exact NoPanic.normal (hQ2.out _ k3)
end
section
open Go.RowKit
set_option linter.unusedVariables false
set_option maxRecDepth 10000
set_option maxHeartbeats 800000 in
theorem knext_no (z:Int) (f:Nat→Nat) (w:World) (hz:z<0∨10≤z):
  Calls Tryd.prog 44 #[.int .i64 z,.agg (arL 16 f).toArray] w fun e w'=>e= .returned (.tuple #[.agg (arL 16 fun _=>0).toArray,.bool false])∧Below w.heap.size w w':=by
 have hz0:=zero16
 obtain⟨kA,hkA⟩:=Le ((arL 16 f).toArray)
 obtain⟨w1,hw1⟩:=Lv (w.alloc (.cells (arL 16 f).toArray 35))
 have hs1:=Zs1 hw1
 have hb1:=Bl hw1
 obtain⟨w2,hw2⟩:=Lv (w1.alloc (.cells (arL 16 fun _=>0).toArray 35))
 have hb2:=Bm hw2 hb1
 have hR2:Ar w2 (w.heap.size+1) 16 (fun _=>0):=by rw [hw2,←hs1];exact Ar.new w1 16 _ _
 rw [hkA]at hw1
 rw [hkA]
 clear hb1
 have hzz:z<0∨(¬z<0∧10≤z):=by omega
 rcases hzz with h|⟨h,h2⟩
 all_goals
  go_enter Tryd.func44,Tryd.ntmps44
  go_upto_region 1 with fail
  rw [←hw1,←hw2]
  clear hw1 hw2
  go_wp2_with (refine wpList_store_ar rfl _ _ _ rfl _ _ _ (fun _=>0) rfl rfl hR2 (size16 _) ?_;intro w8 hA8 hb8 _ _)
  refine bodyPost_ret_ar2 rfl rfl rfl hA8 Tryd.arr16 (size16 _) rfl ⟨rfl,?_⟩
  exact hb2.trans (hb8.mono (by omega))
set_option maxHeartbeats 1600000 in
theorem knext (r:Nat) (f:Nat→Nat) (hf: ∀j,j<16→f j<256) (w:World) (hr:r<10) (h:Boxes w):
  Calls Tryd.prog 44 #[.int .i64 r,.agg (arL 16 f).toArray] w fun e w'=>e= .returned (.tuple #[.agg (arL 16 (nx (pwr 2 r) f)).toArray,.bool true])∧Below w.heap.size w w':=by
 have hz0:=zero16
 obtain⟨kA,hkA⟩:=Le ((arL 16 f).toArray)
 obtain⟨w1,hw1⟩:=Lv (w.alloc (.cells (arL 16 f).toArray 35))
 have hs1:=Zs1 hw1
 have hb1:=Bl hw1
 have hK1:Ar w1 w.heap.size 16 f:=by rw [hw1];exact Ar.new w 16 _ _
 obtain⟨w2,hw2⟩:=Lv (w1.alloc (.cells (arL 16 fun _=>0).toArray 35))
 have hs2:=Zs2 hw2 hs1
 have hb2:=Bm hw2 hb1
 have hR2:Ar w2 (w.heap.size+1) 16 (fun _=>0):=by rw [hw2,←hs1];exact Ar.new w1 16 _ _
 have hK2:=ara hw2 hK1
 rw [hkA]at hw1
 rw [hkA]
 clear hb1 hK1
 have i1: ¬((r:Int)<0):=by omega
 have i2: ¬((10:Int)≤(r:Int)):=by omega
 go_enter Tryd.func44,Tryd.ntmps44
 go_upto_region 1 with fail
 rw [←hw1,←hw2]
 clear hw1 hw2
 go_upto_region 3 with fail
 go_wp2_with (refine wpList_load_ar rfl _ _ rfl _ _ _ rfl hK2 Tryd.arr16 (size16 _) ?_)
 rw [←hkA]
 refine(ksplit f hf _).mono ?_
 rintro e w3 ⟨rfl,k3⟩
 have hR3:=hR2.to (by omega) k3
 have hb3:=hb2.trans (k3.mono hb2.size)
 have h3:=h.keep hb3
 have hs3:=k3.size
 obtain⟨gt,hgt⟩:=Le (w3.heap.size)
 have hge:w.heap.size+2≤gt:=by omega
 obtain⟨w4,hw4⟩:=Lv (w3.alloc (.cells #[.int .u32 (wd f 0:Nat),.int .u32 (wd f 1:Nat),.int .u32 (wd f 2:Nat),.int .u32 (wd f 3:Nat)] 62))
 have hW4:Aw w4 gt 4 (wd f):=by rw [hw4,←hgt];exact Aw.new w3 4 (wd f) _
 have hR4:=ara hw4 hR3
 have hb4:=Bm hw4 hb3
 have h4:Boxes w4:=h.keep hb4
 have hg4:gt<w4.heap.size:=hW4.lt (by omega)
 clear hR2 hb2 hK2 hR3 hb3 h3 k3 hs3 hs1 hs2 hz0
 go_upto_region 4 with fail
 rw [←hw4]
 clear hw4 hgt
 obtain⟨G,hG⟩: ∃G:Nat→Nat,G=nx (pwr 2 r) f:=⟨_,rfl⟩
 have hp:=pwr_lt 2 r
 have hGl: ∀j,j<16→G j<256:=by rw [hG];exact nx_lt _ f hp hf
 have l0:=Lib.hid (wd_lt f 0 hf (by omega))
 have l1:=wd_lt f 1 hf (by omega)
 have l2:=wd_lt f 2 hf (by omega)
 have l3:=wd_lt f 3 hf (by omega)
 have g0:=wd_lt G 0 hGl (by omega)
 have g1:=wd_lt G 1 hGl (by omega)
 have g2:=wd_lt G 2 hGl (by omega)
 have x0:=Lib.hid (show wd f 0^^^trn (wd f 3) (pwr 2 r)=wd G 0 by rw [hG];exact nx_w0 _ f hp hf)
 have x1:bits BinOp.xor IntKind.u32 ((wd f 1:Nat):Int) ((wd G 0:Nat):Int)=((wd G 1:Nat):Int):=by rw [xor_w _ _ l1 g0,hG];exact congrArg _ (nx_wS _ f 0 (by omega) hp hf)
 have x2:bits BinOp.xor IntKind.u32 ((wd f 2:Nat):Int) ((wd G 1:Nat):Int)=((wd G 2:Nat):Int):=by rw [xor_w _ _ l2 g1,hG];exact congrArg _ (nx_wS _ f 1 (by omega) hp hf)
 have x3:bits BinOp.xor IntKind.u32 ((wd f 3:Nat):Int) ((wd G 2:Nat):Int)=((wd G 3:Nat):Int):=by rw [xor_w _ _ l3 g2,hG];exact congrArg _ (nx_wS _ f 2 (by omega) hp hf)
 have hlt:=Lib.hid (trn_lt (wd f 3) (pwr 2 r) hp)
 have hkt:=Lib.hid (fun(V:World) (hV:Boxes V)=>kturn (wd f 3) (r+1) V l3 (by omega) (by omega) hV)
 have hjn:=Lib.hid (fun j (hj:j<16)=>jn_wd G hGl j hj)
 have hgl:=Lib.hid (fun i (hi:i<4)=>wd_lt G i hGl hi)
 have HG:=Lib.hid hG
 have HR:=Lib.hid hR4
 have HW:=Lib.hid hW4
 obtain⟨c0,d0⟩:=hW4 0 (by omega)
 obtain⟨c3,d3⟩:=hW4 3 (by omega)
 clear hW4 hR4 hf hkA hG hGl l1 l2 l3 g0 g1 g2
 refine knReg r (r+1) (wd f 0) (wd f 3) (trn (wd f 3) (pwr 2 r)) (wd G 0) gt hr rfl (l0.out) hlt.out x0.out hkt.out h4 c0 c3 d0 ?_
 intro w9 k9
 have hW9:=HW.out.to (by omega) k9
 have hR9:=HR.out.to (by omega) k9
 have hb9:=hb4.trans (k9.mono hb4.size)
 clear HW HR hb4 k9 c0 d0 c3 d3 hlt hkt x0 l0 h4 hg4 h
 obtain⟨c0,d0⟩:=hW9 0 (by omega)
 obtain⟨c1,d1⟩:=hW9 1 (by omega)
 obtain⟨c2,d2⟩:=hW9 2 (by omega)
 obtain⟨c3,d3⟩:=hW9 3 (by omega)
 have HW:=Lib.hid (hW9.four (wd G))
 have HR:=Lib.hid hR9
 clear hW9 hR9
 go_upto_region 8 with fail
 have hR10:Ar ((((w9.setCell ⟨gt,0,none⟩ (.int .u32 (wd G 0:Nat))).setCell ⟨gt,1,none⟩ (.int .u32 (wd G 1:Nat))).setCell ⟨gt,2,none⟩ (.int .u32 (wd G 2:Nat))).setCell ⟨gt,3,none⟩ (.int .u32 (wd G 3:Nat))) (w.heap.size+1) 16 (fun _=>0):=
  (((HR.out.far (p:=⟨gt,0,none⟩) (by simp;omega) _).far (p:=⟨gt,1,none⟩) (by simp;omega) _).far (p:=⟨gt,2,none⟩) (by simp;omega) _).far (p:=⟨gt,3,none⟩) (by simp;omega) _
 have hb10:Below w.heap.size w ((((w9.setCell ⟨gt,0,none⟩ (.int .u32 (wd G 0:Nat))).setCell ⟨gt,1,none⟩ (.int .u32 (wd G 1:Nat))).setCell ⟨gt,2,none⟩ (.int .u32 (wd G 2:Nat))).setCell ⟨gt,3,none⟩ (.int .u32 (wd G 3:Nat))):=
  (((hb9.setCell (p:=⟨gt,0,none⟩) (by simp;omega) _).setCell (p:=⟨gt,1,none⟩) (by simp;omega) _).setCell (p:=⟨gt,2,none⟩) (by simp;omega) _).setCell (p:=⟨gt,3,none⟩) (by simp;omega) _
 obtain⟨w5,hw5⟩:=Lv (((((w9.setCell ⟨gt,0,none⟩ (.int .u32 (wd G 0:Nat))).setCell ⟨gt,1,none⟩ (.int .u32 (wd G 1:Nat))).setCell ⟨gt,2,none⟩ (.int .u32 (wd G 2:Nat))).setCell ⟨gt,3,none⟩ (.int .u32 (wd G 3:Nat))))
 have hW5:=HW.out
 rw [←hw5]at hW5 hR10 hb10
 rw [←hw5]
 clear hw5 c0 d0 c1 d1 c2 d2 c3 d3 x1 x2 x3 HW HR hb9
 obtain⟨c0,d0⟩:=hW5 0 (by omega)
 obtain⟨c1,d1⟩:=hW5 1 (by omega)
 obtain⟨c2,d2⟩:=hW5 2 (by omega)
 obtain⟨c3,d3⟩:=hW5 3 (by omega)
 go_wp2_with fail
 refine(kjoin (wd G) hgl.out _).mono ?_
 rintro e w6 ⟨rfl,k6⟩
 have hR6:=hR10.to (by omega) k6
 have hb6:=hb10.trans (k6.mono hb10.size)
 have hj:=arL_ext (n:=16) (fun j hj=>(hjn.out j hj).trans (congrFun HG.out j))
 rw [hj]
 clear hW5 c0 d0 c1 d1 c2 d2 c3 d3 hR10 hb10 k6 hj
 go_wp2_with (refine wpList_store_ar rfl _ _ _ rfl _ _ _ (nx (pwr 2 r) f) rfl rfl hR6 (size16 _) ?_;intro w8 hA8 hb8 _ _)
 refine bodyPost_ret_ar2 rfl rfl rfl hA8 Tryd.arr16 (size16 _) rfl ⟨rfl,?_⟩
 exact hb6.trans (hb8.mono (by omega))
end
section
open Go.RowKit
set_option linter.unusedVariables false
set_option maxRecDepth 100000
theorem Tryd.zero176e:(Tryd.prog.info? 67).map (fun i=>(i.zero,i.size))=some (some (.agg (Array.replicate 176 (.int .u8 0))),176):=by kernel_rfl
theorem Tryd.arr11:Tryd.prog.underlying 67=some (.array 11 35):=by kernel_rfl
theorem size176e (f:Nat→Nat):(Tryd.prog.info? 67).map (·.size)=some (arL 176 f).length:=by rw [arL_len];exact(zero_of_info Tryd.zero176e).2
theorem zero176e (w:World):(zeroValue 67).run Tryd.prog w= .ok (.agg (arL 176 fun _=>0).toArray) w:=by
 rw [arL_zero];exact(zero_of_info Tryd.zero176e).1 w
theorem built_first (f:Nat→Nat):Tryd.prog.built 67 [(0,.agg (arL 16 f).toArray)]=some (arL 176 fun i=>if i<16 then f i else 0).toArray:=by kernel_rfl
theorem run_first (f:Nat→Nat) (w:World):(Instr.build 67 #[(0,.agg (arL 16 f).toArray)]).run Tryd.prog w= .ok (.agg (arL 176 fun i=>if i<16 then f i else 0).toArray) w:=
 run_build w _ _ _ (built_first f)
set_option maxHeartbeats 1600000 in
theorem kexpand (f:Nat→Nat) (hf: ∀j,j<16→f j<256) (w:World) (h:Boxes w):
  Calls Tryd.prog 27 #[.agg (arL 16 f).toArray] w fun e w'=>e= .returned (.agg (arL 176 (ek f)).toArray)∧Below w.heap.size w w':=by
 have hz0:=zero176e
 obtain⟨kA,hkA⟩:=Le ((arL 16 f).toArray)
 obtain⟨w1,hw1⟩:=Lv (w.alloc (.cells (arL 16 f).toArray 35))
 have hs1:=Zs1 hw1
 have hb1:=Bl hw1
 have hK1:Ar w1 w.heap.size 16 f:=by rw [hw1];exact Ar.new w 16 _ _
 obtain⟨w2,hw2⟩:=Lv (w1.alloc (.cells (arL 176 fun _=>0).toArray 67))
 have hs2:=Zs2 hw2 hs1
 have hb2:=Bm hw2 hb1
 have hR2:Ar w2 (w.heap.size+1) 176 (fun _=>0):=by rw [hw2,←hs1];exact Ar.new w1 176 _ _
 have hK2:=ara hw2 hK1
 have hbd:=run_first f
 rw [hkA]at hw1 hbd
 rw [hkA]
 clear hb1 hK1
 go_enter Tryd.func27,Tryd.ntmps27
 go_upto_region 1 with fail
 rw [←hw1,←hw2]
 clear hw1 hw2
 have hT3:Ar (w2.alloc (.cells (arL 176 fun _=>0).toArray 67)) (w.heap.size+2) 176 (fun _=>0):=by rw [←hs2];exact Ar.new w2 176 _ _
 have hR3:Ar (w2.alloc (.cells (arL 176 fun _=>0).toArray 67)) (w.heap.size+1) 176 (fun _=>0):=hR2.alloc (by omega) _
 have hb3:Below w.heap.size w (w2.alloc (.cells (arL 176 fun _=>0).toArray 67)):=hb2.alloc (by omega) _
 have hs3:(w2.alloc (.cells (arL 176 fun _=>0).toArray 67)).heap.size=w.heap.size+3:=by simp [hs2]
 go_upto_region 2 with (first
  |(refine wpList_load_ar rfl _ _ rfl _ _ _ rfl hK2 Tryd.arr16 (size16 _) ?_;rw [hkA])
  |(refine wpList_build_by rfl _ _ rfl [(0,.agg kA)] rfl _ (hbd _) ?_)
  |(refine wpList_store_ar rfl _ _ _ rfl _ _ _ (fun i=>if i<16 then f i else 0) rfl rfl hT3 (size176e _) ?_;intro w4 hT4 hb4 hs4 hk4))
 have hR4:=hk4 _ _ _ (by omega) hR3
 have hB4:=hb3.trans (hb4.mono (by omega))
 clear hT3 hR3 hb3 hs3 hb4 hk4 hs4 hK2 hR2 hb2 hs1 hs2 hbd
 dsimp only [Act.put]
 have HF:=Lib.hid hf
 have HB:=Lib.hid h
 have hT4':=hT4.ext (f':=fun m=>if m<16*(0+1)then ek f m else 0) (fun j hj=>by
  by_cases hc:j<16
  ·rw [if_pos hc,if_pos (by omega),ek_key f j hc]
  ·rw [if_neg hc,if_neg (by omega)])
 clear hf h hT4
 go_upto_region 3 with fail
 go_loopw [7] (fun i wr=> ∃n:Nat,n≤10∧i= .int .i64 n∧Ar wr (w.heap.size+2) 176 (fun m=>if m<16*(n+1)then ek f m else 0)∧Ar wr (w.heap.size+1) 176 (fun _=>0)∧Below w.heap.size w wr) (fun i _=>10-(intOf i).toNat)
 case atStart=>exact⟨0,by omega,rfl,hT4',hR4,hB4⟩
 case round=>
  clear hT4' hR4 hB4
  obtain⟨n,hn,rfl,hT,hR,hB⟩:=hrel
  by_cases hlt:n<10
  ·have hi:(n:Int)<11:=by omega
   have hi2:(n:Int)+1<11:=by omega
   have hrk:=Lib.hid (arL_ext (n:=16) (f:=fun j=>(fun m=>if m<16*(n+1)then ek f m else 0) (n*16+j)) (g:=rk f n) (fun j hj=>by
    dsimp only
    rw [if_pos (by omega),Nat.mul_comm n 16,ek_rk f n j hj]))
   go_wp2_with (refine wpList_load_arO rfl _ _ rfl _ 176 (n*16) 16 _ rfl hT (by omega) Tryd.arr16 (size16 _) ?_;rw [hrk.out])
   refine(knext n (rk f n) (rk_lt f HF.out n) _ hlt (HB.out.keep hB)).mono ?_
   rintro e w5 ⟨rfl,k5⟩
   have hT5:=hT.to (by omega) k5
   have hR5:=hR.to (by omega) k5
   have hB5:=hB.trans (k5.mono hB.size)
   clear hT hR hB k5 hrk
   rw [show nx (pwr 2 n) (rk f n)=rk f (n+1)from rfl]
   go_wp2_with (refine wpList_store_arO rfl _ _ _ rfl _ 176 ((n+1)*16) 16 _ (rk f (n+1)) rfl rfl hT5 (by omega) (size16 _) ?_;intro w6 hT6 hb6 hs6 hk6)
   have hR6:=hk6 _ _ _ (by omega) hR5
   have hB6:=hB5.trans (hb6.mono (by omega))
   have hT7:=hT6.ext (f':=fun m=>if m<16*(n+1+1)then ek f m else 0) (fun j hj=>by
    unfold putO
    by_cases hc:(n+1)*16≤j∧j<(n+1)*16+16
    ·rw [if_pos hc,if_pos (by omega)]
     have:=ek_rk f (n+1) (j-(n+1)*16) (by omega)
     rw [←this];congr 1;omega
    ·rw [if_neg hc]
     dsimp only
     by_cases h2:j<16*(n+1)
     ·rw [if_pos h2,if_pos (by omega)]
     ·rw [if_neg h2,if_neg (by omega)])
   clear hT5 hR5 hB5 hT6 hb6 hs6 hk6
   go_roundw
   case rel=>exact⟨n+1,by omega,by go_num,hT7,hR6,hB6⟩
   case measure=>simp [intOf];omega
  ·obtain rfl:n=10:=by omega
   have hT2:=hT.ext (f':=ek f) (fun j hj=>by rw [if_pos (by omega)])
   clear hT
   go_wp2_with (first
    |(refine wpList_load_ar rfl _ _ rfl _ _ _ rfl hT2 Tryd.arr11 (size176e _) ?_)
    |(refine wpList_store_ar rfl _ _ _ rfl _ _ _ (ek f) rfl rfl hR (size176e _) ?_;intro w8 hA8 hb8 _ _))
   refine bodyPost_ret_ar rfl rfl hA8 Tryd.arr11 (size176e _) rfl ⟨rfl,?_⟩
   exact hB.trans (hb8.mono (by omega))
end
section
open Go.RowKit
set_option linter.unusedVariables false
set_option maxRecDepth 100000
end
section
open Go.RowKit
set_option linter.unusedVariables false
set_option maxRecDepth 100000
def loopIn:Code→Option Code
 | .loop c=>some (.loop c)
 | .seq a b=>match loopIn a with
  |some c=>some c
  |none=>loopIn b
 | .block _ c=>loopIn c
 | .scope c=>loopIn c
 | .cond _ a b=>match loopIn a with
  |some c=>some c
  |none=>loopIn b
 |_=>none
def bodyOf:Code→Code
 | .loop c=>c
 |c=>c
def OnlyIn (g:Nat) (W w':World):Prop:=(∀g' N F,g'≠g→Ar W g' N F→Ar w' g' N F)∧(∀B w0,B≤g→Below B w0 W→Below B w0 w')
theorem OnlyIn.refl (g:Nat) (W:World):OnlyIn g W W:=⟨fun _ _ _ _ h=>h,fun _ _ _ h=>h⟩
theorem OnlyIn.set {g:Nat} {W w':World} (h:OnlyIn g W w') (o:Nat) (v:Value):OnlyIn g W (w'.setCell ⟨g,o,none⟩ v).drew:=
 ⟨fun g' N F hg hA=>((h.1 g' N F hg hA).far (p:=⟨g,o,none⟩) (fun e=>hg e.symm) v).drew,fun B w0 hB hb=>((h.2 B w0 hB hb).setCell (p:=⟨g,o,none⟩) hB v).drew⟩
theorem ek_one (f:Nat→Nat) (n k m:Nat):(if m=n*4+k then ek f (4*n+k)else(if m<4*n+k then ek f m else 0))=if m<4*n+(k+1)then ek f m else 0:=by
 by_cases h:m=n*4+k
 ·rw [if_pos h,if_pos (by omega),h,Nat.mul_comm n 4]
 ·rw [if_neg h]
  by_cases h2:m<4*n+k
  ·rw [if_pos h2,if_pos (by omega)]
  ·rw [if_neg h2,if_neg (by omega)]
theorem Ar.low {w:World} {g N c j:Nat} {f:Nat→Nat} (h:Ar w g N (fun m=>if m<c then f m else 0)) (hj:j<c) (hN:j<N):w.cell? ⟨g,j,none⟩=some (.int .u8 (f j:Nat))∧w.frozen? ⟨g,j,none⟩=false:=by
 have:=h j hN
 dsimp only at this
 rwa [if_pos hj]at this
end
section
open Go.RowKit
set_option linter.unusedVariables false
set_option maxRecDepth 100000
theorem Ar.set4 {w:World} {g n o v0 v1 v2 v3:Nat} {f:Nat→Nat} (h:Ar w g n f) (ho:o+3<n):
  Ar ((((w.setCell ⟨g,o,none⟩ (.int .u8 (v0:Int))).setCell ⟨g,o+1,none⟩ (.int .u8 (v1:Int))).setCell ⟨g,o+2,none⟩ (.int .u8 (v2:Int))).setCell ⟨g,o+3,none⟩ (.int .u8 (v3:Int))) g n
   (fun i=>if i=o+3 then v3 else if i=o+2 then v2 else if i=o+1 then v1 else if i=o then v0 else f i):=
 (((h.set (v:=v0) (by omega) rfl).set (v:=v1) (by omega) rfl).set (v:=v2) (by omega) rfl).set (v:=v3) (by omega) rfl
theorem Ar.far4 {w:World} {g g' n o o1 o2 o3:Nat} {v0 v1 v2 v3:Value} {f:Nat→Nat} (h:Ar w g n f) (hg:g'≠g):
  Ar ((((w.setCell ⟨g',o,none⟩ v0).setCell ⟨g',o1,none⟩ v1).setCell ⟨g',o2,none⟩ v2).setCell ⟨g',o3,none⟩ v3) g n f:=
 (((h.far (p:=⟨g',o,none⟩) hg _).far (p:=⟨g',o1,none⟩) hg _).far (p:=⟨g',o2,none⟩) hg _).far (p:=⟨g',o3,none⟩) hg _
theorem below_set4 {B:Nat} {a w:World} {g' o o1 o2 o3:Nat} {v0 v1 v2 v3:Value} (h:Below B a w) (hg:B≤g'):
  Below B a ((((w.setCell ⟨g',o,none⟩ v0).setCell ⟨g',o1,none⟩ v1).setCell ⟨g',o2,none⟩ v2).setCell ⟨g',o3,none⟩ v3):=
 (((h.setCell (p:=⟨g',o,none⟩) hg _).setCell (p:=⟨g',o1,none⟩) hg _).setCell (p:=⟨g',o2,none⟩) hg _).setCell (p:=⟨g',o3,none⟩) hg _
theorem ek_four (f:Nat→Nat) (n m:Nat) (h4:n<4):
  (if m=n*4+3 then f (4*n+3)else if m=n*4+2 then f (4*n+2)else if m=n*4+1 then f (4*n+1)else if m=n*4 then f (4*n)else(if m<4*n then ek f m else 0))=if m<4*(n+1)then ek f m else 0:=by
 have k0:m=n*4+3→ek f m=f (4*n+3):=fun h=>by rw [h,ek_key _ _ (by omega)];congr 1;omega
 have k1:m=n*4+2→ek f m=f (4*n+2):=fun h=>by rw [h,ek_key _ _ (by omega)];congr 1;omega
 have k2:m=n*4+1→ek f m=f (4*n+1):=fun h=>by rw [h,ek_key _ _ (by omega)];congr 1;omega
 have k3:m=n*4→ek f m=f (4*n):=fun h=>by rw [h,ek_key _ _ (by omega)];congr 1;omega
 by_cases h0:m=n*4+3
 ·rw [if_pos h0,if_pos (by omega),k0 h0]
 rw [if_neg h0]
 by_cases h1:m=n*4+2
 ·rw [if_pos h1,if_pos (by omega),k1 h1]
 rw [if_neg h1]
 by_cases h2:m=n*4+1
 ·rw [if_pos h2,if_pos (by omega),k2 h2]
 rw [if_neg h2]
 by_cases h3:m=n*4
 ·rw [if_pos h3,if_pos (by omega),k3 h3]
 rw [if_neg h3]
 by_cases h5:m<4*n
 ·rw [if_pos h5,if_pos (by omega)]
 ·rw [if_neg h5,if_neg (by omega)]
end
section
open Go.RowKit
set_option linter.unusedVariables false
set_option maxRecDepth 100000
end
end Go.Proofs.YtiacbphnclgikaaDoor
