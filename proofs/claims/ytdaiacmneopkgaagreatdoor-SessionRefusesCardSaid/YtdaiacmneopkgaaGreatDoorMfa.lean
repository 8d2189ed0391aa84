/-
 Contracts of packages keys and cipher and of the reference packages of layers 5 and 6, by walks through their texts; what was there stays as it was.
-/
import Derived.Deep.RegionWith
import Derived.Test.YtdaiacmneopkgaaGreatDoorMaa
import Derived.BigRegion
import Derived.Shelf.Abstract
namespace Go.Proofs.YtdaiacmneopkgaaGreatDoor
set_option linter.unusedVariables false
set_option maxRecDepth 100000
set_option maxHeartbeats 4000000
section
section
def yB (k:Nat):Code->Option Code
 | .region i ops b=>if i=k then some (.region i ops b)else none
 | .loop c=>yB k c
 | .seq a b=>match yB k a with
  |some c=>some c
  |none=>yB k b
 | .block _ c=>yB k c
 | .scope c=>yB k c
 | .cond _ a b=>match yB k a with
  |some c=>some c
  |none=>yB k b
 |_=>none
end
section
open Go.RowKit
theorem anb (n:Nat) (w:World) (h1:1<=n) (h2:n<=10):
  Calls Tryz.prog 177 #[.int .i64 n] w λe w'=>e= .returned (.int .u8 (dI 2 (n-1):Nat))/\Below w.heap.size w w':=by
 obtain⟨m,hm⟩: ∃m:Nat,n=m+1:=⟨n-1,by omega⟩;subst hm;have e1:wrap64 (((m+1:Nat):Int)-1)=(m:Int):=by rw [IntWalk.wrap64_in _ (by omega)];omega
 have e2:((m+1:Nat):Int)-1=(m:Int):=by omega
 have i1: ¬(((m+1:Nat):Int)<1):=by omega
 have i2: ¬((10:Int)<((m+1:Nat):Int)):=by omega
 go_enter Tryz.func177,Tryz.ntmps177;go_wp2_with fail;refine(ajr 2 m _ (by omega) (by omega)).mono ?_;rintro e w1 ⟨rfl,hb⟩;go_wp2_with fail;go_ret;exact⟨rfl,hb⟩
theorem anc (x n:Nat) (w:World) (hx:x<4294967296) (h1:1<=n) (h2:n<=10) (h:eX w):
  Calls Tryz.prog 141 #[.int .u32 x,.int .i64 n] w λe w'=>e= .returned (.int .u32 (Ed x (dI 2 (n-1)):Nat))/\Below w.heap.size w w':=by
 have hl:=adO x hx;have hp:=xx 2 (n-1);have hsl:=adQ (wX x);have sZ:Hid (bits BinOp.xor IntKind.u32 ((Ae (wX x):Nat):Int) (((dI 2 (n-1):Nat):Int)*16777216)=((Ed x (dI 2 (n-1)):Nat):Int)):=by
  unfold Hid Ed;have:=QN .u32 32 (by decide) QO (Ae (wX x)) (dI 2 (n-1)*16777216) hsl (by omega);rw [<-this];simp
 go_enter Tryz.func141,Tryz.ntmps141;go_wp2_with fail;refine(aa2 x _ hx).mono ?_;rintro e w1 ⟨rfl,rfl⟩;go_wp2_with fail;refine(aa4 _ _ hl h).mono ?_;rintro e w2 ⟨rfl,rfl⟩;go_wp2_with fail;refine(anb n _ h1 h2).mono ?_;rintro e w3 ⟨rfl,hb⟩;go_wp2_with fail;go_ret;exact⟨yl sZ.out,hb⟩
end
section
open Go.RowKit
def pre (f:Nat->Nat) (o:Nat):Nat->Nat
 |0=>0
 |n+1=>pre f o n*256+f (o+n)
theorem Un (f:Nat->Nat) (o:Nat) (hf: ∀j,j<16->f j<256): ∀n,o+n<=16->pre f o n<256^n
 |0,_=>by simp [pre]
 |n+1,h=>by
  have h1:=Un f o hf n (by omega);have h2:=hf (o+n) (by omega);rw [pre,Nat.pow_succ];omega
theorem Q3 (f:Nat->Nat) (i:Nat):pre f (4*i) 4=wd f i:=by simp [pre,wd,jd]
theorem ad9 (f:Nat->Nat) (o n:Nat) (hf: ∀j,j<16->f j<256) (ho:o+4<=16) (hn:n<4):
  bits .or .u32 (((pre f o n:Nat):Int)*256) ((f (o+n):Nat):Int)=((pre f o (n+1):Nat):Int):=by
 have h1:=Un f o hf n (by omega);have h2:=hf (o+n) (by omega);have h3:256^n<=256^3:=Nat.pow_le_pow_right (by decide) (by omega);have e:((pre f o n:Nat):Int)*256=((2^8*pre f o n:Nat):Int):=by omega
 rw [e,Ac _ _ (by omega) (by omega),<-Nat.two_pow_add_eq_or_of_lt h2,pre];omega
theorem Tryz.Ij:Tryz.prog.underlying 22=some (.array 16 5):=by kernel_rfl
theorem ane (g o:Nat) (ho:o+4<=16) (w:World):(Instr.sliceAt 22 (.pointer (some ⟨g,0,none⟩)) (some (.int .i64 (o:Int))) (some (.int .i64 ((o:Int)+4))) none).run Tryz.prog w= .ok (.slice (some ⟨g,o,none⟩) 4 (16-o)) w:=by
 have hal:Tryz.prog.arrayLen 22=16:=by simp [Program.arrayLen]
 have hel:Tryz.prog.elem 22=5:=by simp [Program.elem]
 have hs:(sizeOf 5).run Tryz.prog w= .ok 1 w:=by kernel_rfl
 rw [run_sliceAt_array_lh w 22 ⟨g,0,none⟩ (by rw [hal,hel];exact Tryz.Ij) .i64 .i64 (o:Int) ((o:Int)+4) (by omega) (by omega) (by rw [hal];omega),hal,hel,hs];simp only [Result.andThen_ok,slicedAt];have e1:((o:Int)).toNat=o:=by omega
 have e2:((o:Int)+4).toNat=o+4:=by omega
 rw [e1,e2,if_neg (by omega)];simp [Addr.add];omega
theorem Ut (g o:Nat) (f:Nat->Nat) (w:World) (ho:o+4<=16) (hA:Ar w g 16 f) (hf: ∀j,j<16->f j<256):
  Calls Tryz.prog 176 #[.int .i64 o,.pointer (some ⟨g,0,none⟩)] w λe w'=>e= .returned (.int .u32 (pre f o 4:Nat))/\w'=w:=by
 obtain⟨hstep,hlt,hcell,hb⟩:=fU (λn hn=>ad9 f o n hf ho hn) (λn h=>Un f o hf n h) hA hf;have hsl:=ane g o ho;clear hA hf;go_enter Tryz.func176,Tryz.ntmps176;go_wp2_with fail
 go_loop [4,12] (λx i=> ∃n:Nat,n<=4/\i= .int .i64 n/\x= .int .u32 (pre f o n:Nat)) (λ_ i=>4-(intOf i).toNat)
 case atStart=>exact⟨0,Nat.zero_le _,rfl,rfl⟩
 case round=>
  obtain⟨n,hn,rfl,rfl⟩:=hrel;by_cases hl:n<4
  ·have hs:=Hi (hstep.out n hl);have h1:=(hcell.out (o+n) (by omega)).1;have h2:=hb.out (o+n) (by omega);have h3:pre f o n<16777216:=(by have:=hlt.out n (by omega);have h3:256^n<=256^3:=Nat.pow_le_pow_right (by decide) (by omega);omega);go_wp2_with fail;go_round;case rel=>exact⟨n+1,by omega,by go_num,BG hs.out⟩
   case measure=>simp [intOf];omega
  ·obtain rfl:n=4:=by omega
   go_wp2_with fail;go_ret;exact⟨rfl,rfl⟩
theorem Tryz.anf:Tryz.prog.underlying 136=some (.array 4 70):=by kernel_rfl
theorem ang (f:Nat->Nat):(Tryz.prog.info? 136).map (·.size)=some (dA 4 f).length:=by rw [Ic];kernel_rfl
theorem Tryz.Q8:(Tryz.prog.info? 22).map (λi=>(i.zero,i.size))=some (some (.agg (Array.replicate 16 (.int .u8 0))),16):=by kernel_rfl
theorem Eg (f:Nat->Nat):(Tryz.prog.info? 22).map (·.size)=some (ae 16 f).length:=by rw [bz];exact(zero_of_info Tryz.Q8).2
theorem Q8 (w:World):(zeroValue 22).run Tryz.prog w= .ok (.agg (ae 16 λ_=>0).toArray) w:=by
 rw [xI];exact(zero_of_info Tryz.Q8).1 w
theorem Aw.four {w:World} {g:Nat} {f:Nat->Nat} (h:Aw w g 4 f) (W:Nat->Nat):
  Aw ((((w.setCell ⟨g,0,none⟩ (.int .u32 (W 0:Nat))).setCell ⟨g,1,none⟩ (.int .u32 (W 1:Nat))).setCell ⟨g,2,none⟩ (.int .u32 (W 2:Nat))).setCell ⟨g,3,none⟩ (.int .u32 (W 3:Nat))) g 4 W:=
 ((((h.set (j := 0) (v := W 0) (by omega) rfl).set (j := 1) (v := W 1) (by omega) rfl).set (j := 2) (v := W 2) (by omega) rfl).set (j := 3) (v := W 3) (by omega) rfl).ext (λj hj => by
  rcases(show j=0\/j=1\/j=2\/j=3 by omega)with rfl|rfl|rfl|rfl<;>simp)
theorem anh (f:Nat->Nat) (hf: ∀j,j<16->f j<256) (w:World):
  Calls Tryz.prog 140 #[.agg (ae 16 f).toArray] w λe w'=>e= .returned (.agg #[.int .u32 (wd f 0:Nat),.int .u32 (wd f 1:Nat),.int .u32 (wd f 2:Nat),.int .u32 (wd f 3:Nat)])/\Below w.heap.size w w':=by
 obtain⟨kA,aR⟩:=Le ((ae 16 f).toArray);obtain⟨w1,af,ak,au,aN⟩:=nA w 16 f 22;have aI:Ar (w1.alloc (.cells #[.int .u32 0,.int .u32 0,.int .u32 0,.int .u32 0] 136)) w.heap.size 16 f:=aN.alloc (by omega) _;have ai:Below w.heap.size w (w1.alloc (.cells #[.int .u32 0,.int .u32 0,.int .u32 0,.int .u32 0] 136)):=au.alloc (by omega) _;rw [aR]at af;rw [aR];clear au aN;go_enter Tryz.func140,Tryz.ntmps140;go_upto_region 1 with fail;rw [<-af];clear af;have hR:Aw (w1.alloc (.cells #[.int .u32 0,.int .u32 0,.int .u32 0,.int .u32 0] 136)) (w.heap.size+1) 4 (λ_=>0):=by rw [<-ak];exact Aw.new w1 4 (λ_=>0) _
 obtain⟨w2,ag⟩:=Lv (w1.alloc (.cells #[.int .u32 0,.int .u32 0,.int .u32 0,.int .u32 0] 136));rw [<-ag]at aI ai hR;rw [<-ag];clear ag ak;obtain⟨c0,d0⟩:=hR 0 (by omega);obtain⟨c1,d1⟩:=hR 1 (by omega);obtain⟨c2,d2⟩:=hR 2 (by omega);obtain⟨c3,d3⟩:=hR 3 (by omega);obtain⟨hA,XX,p0,p1,p2,p3,HR⟩:=zD aI hf (Q3 f 0) (Q3 f 1) (Q3 f 2) (Q3 f 3) (hR.four (wd f));clear hR aI hf aR;go_wp2_with fail;refine(Ut w.heap.size 0 f _ (by omega) hA.out XX.out).mono ?_;rintro e w3 ⟨rfl,rfl⟩;rw [show pre f 0 4=wd f 0 from p0.out];go_wp2_with fail;refine(Ut w.heap.size 4 f _ (by omega) hA.out XX.out).mono ?_;rintro e w3 ⟨rfl,rfl⟩;rw [show pre f 4 4=wd f 1 from p1.out];go_wp2_with fail;refine(Ut w.heap.size 8 f _ (by omega) hA.out XX.out).mono ?_;rintro e w3 ⟨rfl,rfl⟩;rw [show pre f 8 4=wd f 2 from p2.out];go_wp2_with fail;refine(Ut w.heap.size 12 f _ (by omega) hA.out XX.out).mono ?_;rintro e w3 ⟨rfl,rfl⟩;rw [show pre f 12 4=wd f 3 from p3.out];go_wp2_with fail;refine FL rfl rfl HR.out Tryz.anf (ang _) rfl ⟨rfl,?_⟩;exact(((ai.setCell (p:=⟨w.heap.size+1,0,none⟩) (by simp) _).setCell (p:=⟨w.heap.size+1,1,none⟩) (by simp) _).setCell (p:=⟨w.heap.size+1,2,none⟩) (by simp) _).setCell (p:=⟨w.heap.size+1,3,none⟩) (by simp) _
theorem aea (x k s:Nat) (hk:k<4) (hs:s=24-k*8):((x:Int)/2^s)%256=((wb x k:Nat):Int):=by
 subst hs;rcases(show k=0\/k=1\/k=2\/k=3 by omega)with rfl|rfl|rfl|rfl<;>simp [wb]
theorem ani (W:Nat->Nat) (hW: ∀i,i<4->W i<4294967296) (w:World):
  Calls Tryz.prog 142 #[.agg #[.int .u32 (W 0:Nat),.int .u32 (W 1:Nat),.int .u32 (W 2:Nat),.int .u32 (W 3:Nat)]] w λe w'=>e= .returned (.agg (ae 16 (jn W)).toArray)/\Below w.heap.size w w':=by
 have hz:=Q8;obtain⟨w1,af⟩:=Lv (w.alloc (.cells #[.int .u32 (W 0:Nat),.int .u32 (W 1:Nat),.int .u32 (W 2:Nat),.int .u32 (W 3:Nat)] 136));have ak:=lh af;have au:=Bl af;have aN:Aw w1 w.heap.size 4 W:=by rw [af];exact Aw.new w 4 W _
 obtain⟨w2,ag,aD,ai,aA⟩:=fw ak au 16 (λ_=>0) 22;have aI:=awa ag aN;obtain⟨w3,az,-,aU,eQ⟩:=o7 aD ai 16 (λ_=>0) 22;have aL:=bn az aA;have dw:=awa az aI;clear au aN ai aA aI;go_enter Tryz.func142,Tryz.ntmps142;go_upto_region 2 with fail;rw [<-af,<-ag,<-az];clear af ag az ak aD;go_wp2_with fail;go_loopw [5] (λi wr=> ∃n:Nat,n<=16/\i= .int .i64 n/\Aw wr w.heap.size 4 W/\Ar wr (w.heap.size+1) 16 (λ_=>0)/\Ar wr (w.heap.size+2) 16 (λm=>if m<n then jn W m else 0)/\Below w.heap.size w wr) (λi _=>16-(intOf i).toNat);case atStart=>exact⟨0,Nat.zero_le _,rfl,dw,aL,eQ.ext (λ_ _=>rfl),aU⟩
 case round=>
  clear dw aL eQ aU;obtain⟨n,hn,rfl,hK,hR,hT,hB⟩:=hrel;by_cases hlt:n<16
  ·obtain⟨q,hq⟩:=Lv (n/4);obtain⟨k,hk⟩:=Lv (n%4);obtain⟨s,hs⟩:=Lv (24-k*8);have cB:((n:Int)).tdiv 4=(q:Int):=(by rw [Int.tdiv_eq_ediv_of_nonneg (by omega)];omega);have iX:(n:Int)/4=(q:Int):=(by omega);have yZ:((n:Int)).tmod 4=(k:Int):=(by rw [Int.tmod_eq_emod_of_nonneg (by omega)];omega);have nJ:(n:Int)%4=(k:Int):=(by omega);have e1:wrap64 ((k:Int)*8)=(k:Int)*8:=IntWalk.wrap64_in _ (by omega);have e2:wrap64 (24-(k:Int)*8)=(s:Int):=(by rw [IntWalk.wrap64_in _ (by omega)];omega);have e3:24-(k:Int)*8=(s:Int):=(by omega);obtain⟨hby,hj⟩:=aB (aea (W q) k s (by omega) hs) (show jn W n=wb (W q) k by rw [jn,hq,hk]);have jL:q<4:=(by omega);have amz:s<32:=(by omega);obtain⟨c0,_⟩:=hK q jL;obtain⟨c1,d1⟩:=hT n hlt;have hwq:=hW q jL;clear hq hk hs;go_wp2_with fail;rw [hby.out,<-hj.out];go_roundw;case rel=>
    exact⟨n+1,by omega,by go_num,hK.far (p:=⟨w.heap.size+2,n,none⟩) (by simp) _,hR.far (p:=⟨w.heap.size+2,n,none⟩) (by simp) _,
     (hT.set (j:=n) (v:=jn W n) (by omega) rfl).ext (λm _=>Io (jn W) n m),hB.setCell (p:=⟨w.heap.size+2,n,none⟩) (by simp) _⟩
   case measure=>simp [intOf];omega
  ·obtain rfl:n=16:=by omega
   have bG:=hT.ext (f':=jn W) (λj hj=>by rw [if_pos hj]);clear hT;go_wp2_with (first
    |(refine bB rfl _ _ rfl _ _ _ rfl bG Tryz.Ij (Eg _) ?_)
    |(refine bC rfl _ _ _ rfl _ _ _ (jn W) rfl rfl hR (Eg _) ?_;intro w8 bg aY _ _))
   refine dU rfl rfl bg Tryz.Ij (Eg _) rfl ⟨rfl,?_⟩;exact hB.trans (aY.mono (by omega))
end
section
open Go.RowKit
theorem Uu (a b:Nat) (ha:a<4294967296) (hb:b<4294967296):bits .xor .u32 (a:Int) (b:Int)=((a^^^b:Nat):Int):=QN .u32 32 (by decide) QO a b ha hb
noncomputable def anj:Code:=((Tryz.f112.body.bind (yB 4)).getD .skip)
theorem ank (r m x0 x3 y z gB:Nat) {Q0:Exit->Act->World->Prop} {t1 t2 t3 t4 t5 t7 t8 t9 t10 t11 t12 t13 t14 t15 t16 t17 t18 t19 t20 t21 t22 t23 t24 t25 t26 t27 t28 t29 t30 t31 t32 t33 t34 t35 t36 t37 t38 t39 t40 t41 t42 t43 t44:Value} {W:World} (hr:r<10) (hm:m=r+1) (dQ:x0<4294967296) (hy:y<4294967296) (hz:x0^^^y=z)
  (hT: ∀V:World,eX V->Calls Tryz.prog 141 #[.int .u32 (x3:Nat),.int .i64 m] V λe w'=>e= .returned (.int .u32 (y:Nat))/\Below V.heap.size V w') (hB:eX W)
  (c0:W.cell? ⟨gB,0,none⟩=some (.int .u32 (x0:Nat))) (c3:W.cell? ⟨gB,3,none⟩=some (.int .u32 (x3:Nat))) (d0:W.frozen? ⟨gB,0,none⟩=false)
  (hQ: ∀w9,Below W.heap.size W w9->Q0 .normal ⟨(.int .i64 (r:Int)::t1::t2::t3::t4::t5:: .pointer (some ⟨gB,0,none⟩)::t7::t8::t9::t10::t11::t12::t13::t14::t15:: .pointer (some ⟨gB,0,none⟩):: .int .u32 ((x0:Nat):Int):: .pointer (some ⟨gB,3,none⟩):: .int .u32 ((x3:Nat):Int):: .int .i64 (r:Int):: .int .i64 (m:Int):: .int .u32 ((y:Nat):Int):: .int .u32 ((z:Nat):Int):: .pointer (some ⟨gB,0,none⟩)::t25::t26::t27::t28::t29::t30::t31::t32::t33::t34::t35::t36::t37::t38::t39::t40::t41::t42::t43::t44:: []).toArray,[]⟩ (w9.setCell ⟨gB,0,none⟩ (.int .u32 (z:Nat)))):
  Code.wp Tryz.prog anj Q0 ⟨(.int .i64 (r:Int)::t1::t2::t3::t4::t5:: .pointer (some ⟨gB,0,none⟩)::t7::t8::t9::t10::t11::t12::t13::t14::t15::t16::t17::t18::t19::t20::t21::t22::t23::t24::t25::t26::t27::t28::t29::t30::t31::t32::t33::t34::t35::t36::t37::t38::t39::t40::t41::t42::t43::t44:: []).toArray,[]⟩ W:=by
 have hg:gB<W.heap.size:=by
  rcases Nat.lt_or_ge gB W.heap.size with h1|h1
  ·exact h1
  ·simp [World.cell?,Array.getElem?_eq_none h1]at c0
 have m1:IntKind.i64.wrap ((r:Int)+1)=(m:Int):=by rw [fO _ (by omega) (by omega)];omega
 have m2:wrap64 ((r:Int)+1)=(m:Int):=by rw [IntWalk.wrap64_in _ (by omega)];omega
 have m3:(r:Int)+1=(m:Int):=by omega
 have m4:IntKind.i64.wrap (m:Int)=(m:Int):=fO _ (by omega) (by omega);clear hm;have sZ:bits BinOp.xor IntKind.u32 ((x0:Nat):Int) ((y:Nat):Int)=((z:Nat):Int):=by rw [Uu _ _ dQ hy,hz]
 have hkeep: ∀V:World,Below W.drew.heap.size W.drew V->V.cell? ⟨gB,0,none⟩=some (.int .u32 (x0:Nat))/\V.frozen? ⟨gB,0,none⟩=false/\Below W.heap.size W V:=λV h=>
  ⟨(h.cell (p:=⟨gB,0,none⟩) hg).trans c0,(h.frozen (p:=⟨gB,0,none⟩) hg).trans d0,⟨h.os,h.tape,h.output,h.size,h.block⟩⟩
 obtain⟨xy,bG⟩:=aB hQ hT;clear hQ hT hz dQ hy;refine Code.wp_mono NoPanic.imp ?_
 conv=>arg 2;whnf
 go_region_with (go_at_call 141;refine(bG.out W.drew hB).mono ?_;rintro e w9 ⟨rfl,rH⟩;obtain⟨k1,k2,k3⟩:=hkeep _ rH)
 all_goals exact NoPanic.normal (xy.out _ k3)
end
section
open Go.RowKit
theorem anl (r:Nat) (f:Nat->Nat) (hf: ∀j,j<16->f j<256) (w:World) (hr:r<10) (h:eX w):
  Calls Tryz.prog 112 #[.int .i64 r,.agg (ae 16 f).toArray] w λe w'=>e= .returned (.tuple #[.agg (ae 16 (nx (dI 2 r) f)).toArray,.bool true])/\Below w.heap.size w w':=by
 have bJ:=Q8;obtain⟨kA,aR⟩:=Le ((ae 16 f).toArray);obtain⟨w1,af,ak,au,aN⟩:=nA w 16 f 22;obtain⟨w2,ag,aD,ai,aA⟩:=fw ak au 16 (λ_=>0) 22;have aI:=bn ag aN;rw [aR]at af;rw [aR];clear au aN;have i1: ¬((r:Int)<0):=by omega
 have i2: ¬((10:Int)<=(r:Int)):=by omega
 go_enter Tryz.func112,Tryz.ntmps112;go_upto_region 1 with fail;rw [<-af,<-ag];clear af ag;go_upto_region 3 with fail;go_wp2_with (refine bB rfl _ _ rfl _ _ _ rfl aI Tryz.Ij (Eg _) ?_);rw [<-aR];refine(anh f hf _).mono ?_;rintro e w3 ⟨rfl,k3⟩;have aL:=aA.to (by omega) k3;have aU:=ai.trans (k3.mono ai.size);have h3:=h.keep aU;have fe:=k3.size;obtain⟨gt,hgt⟩:=Le (w3.heap.size);have hge:w.heap.size+2<=gt:=by omega
 obtain⟨w4,cZ⟩:=Lv (w3.alloc (.cells #[.int .u32 (wd f 0:Nat),.int .u32 (wd f 1:Nat),.int .u32 (wd f 2:Nat),.int .u32 (wd f 3:Nat)] 136));have AR:Aw w4 gt 4 (wd f):=by rw [cZ,<-hgt];exact Aw.new w3 4 (wd f) _
 have dO:=bn cZ aL;have il:=Bm cZ aU;have h4:eX w4:=h.keep il;have YF:gt<w4.heap.size:=AR.lt (by omega);clear aA ai aI aL aU h3 k3 fe ak aD bJ;go_upto_region 4 with fail;rw [<-cZ];clear cZ hgt;obtain⟨G,hG⟩: ∃G:Nat->Nat,G=nx (dI 2 r) f:=⟨_,rfl⟩;have hp:=xx 2 r;have XY: ∀j,j<16->G j<256:=by rw [hG];exact Xo _ f hp hf
 have l0:=Hi (p8 f 0 hf (by omega));have l1:=p8 f 1 hf (by omega);have l2:=p8 f 2 hf (by omega);have l3:=p8 f 3 hf (by omega);have g0:=p8 G 0 XY (by omega);have g1:=p8 G 1 XY (by omega);have g2:=p8 G 2 XY (by omega);have x0:=Hi (show wd f 0^^^Ed (wd f 3) (dI 2 r)=wd G 0 by rw [hG];exact al8 _ f hp hf);have x1:bits BinOp.xor IntKind.u32 ((wd f 1:Nat):Int) ((wd G 0:Nat):Int)=((wd G 1:Nat):Int):=by rw [Uu _ _ l1 g0,hG];exact congrArg _ (Xr _ f 0 (by omega) hp hf)
 have x2:bits BinOp.xor IntKind.u32 ((wd f 2:Nat):Int) ((wd G 1:Nat):Int)=((wd G 2:Nat):Int):=by rw [Uu _ _ l2 g1,hG];exact congrArg _ (Xr _ f 1 (by omega) hp hf)
 have x3:bits BinOp.xor IntKind.u32 ((wd f 3:Nat):Int) ((wd G 2:Nat):Int)=((wd G 3:Nat):Int):=by rw [Uu _ _ l3 g2,hG];exact congrArg _ (Xr _ f 2 (by omega) hp hf)
 obtain⟨hlt,hkt,hjn,hgl,HG,HR,HW⟩:=zD (al7 (wd f 3) (dI 2 r) hp) (fun(V:World) (hV:eX V)=>anc (wd f 3) (r+1) V l3 (by omega) (by omega) hV) (λj (hj:j<16)=>ad2 G XY j hj) (λi (hi:i<4)=>p8 G i XY hi) hG dO AR;obtain⟨c0,d0⟩:=AR 0 (by omega);obtain⟨c3,d3⟩:=AR 3 (by omega);clear AR dO hf aR hG XY l1 l2 l3 g0 g1 g2;refine ank r (r+1) (wd f 0) (wd f 3) (Ed (wd f 3) (dI 2 r)) (wd G 0) gt hr rfl (l0.out) hlt.out x0.out hkt.out h4 c0 c3 d0 ?_;intro w9 k9;have XW:=HW.out.to (by omega) k9;have bI:=HR.out.to (by omega) k9;have rH:=il.trans (k9.mono il.size);clear HW HR il k9 c0 d0 c3 d3 hlt hkt x0 l0 h4 YF h;obtain⟨c0,d0⟩:=XW 0 (by omega);obtain⟨c1,d1⟩:=XW 1 (by omega);obtain⟨c2,d2⟩:=XW 2 (by omega);obtain⟨c3,d3⟩:=XW 3 (by omega);obtain⟨HW,HR⟩:=aB (XW.four (wd G)) bI;clear XW bI;go_upto_region 8 with fail;have Yc:Ar ((((w9.setCell ⟨gt,0,none⟩ (.int .u32 (wd G 0:Nat))).setCell ⟨gt,1,none⟩ (.int .u32 (wd G 1:Nat))).setCell ⟨gt,2,none⟩ (.int .u32 (wd G 2:Nat))).setCell ⟨gt,3,none⟩ (.int .u32 (wd G 3:Nat))) (w.heap.size+1) 16 (λ_=>0):=
  (((HR.out.far (p:=⟨gt,0,none⟩) (by simp;omega) _).far (p:=⟨gt,1,none⟩) (by simp;omega) _).far (p:=⟨gt,2,none⟩) (by simp;omega) _).far (p:=⟨gt,3,none⟩) (by simp;omega) _
 have X6:Below w.heap.size w ((((w9.setCell ⟨gt,0,none⟩ (.int .u32 (wd G 0:Nat))).setCell ⟨gt,1,none⟩ (.int .u32 (wd G 1:Nat))).setCell ⟨gt,2,none⟩ (.int .u32 (wd G 2:Nat))).setCell ⟨gt,3,none⟩ (.int .u32 (wd G 3:Nat))):=
  (((rH.setCell (p:=⟨gt,0,none⟩) (by simp;omega) _).setCell (p:=⟨gt,1,none⟩) (by simp;omega) _).setCell (p:=⟨gt,2,none⟩) (by simp;omega) _).setCell (p:=⟨gt,3,none⟩) (by simp;omega) _
 obtain⟨w5,eO⟩:=Lv (((((w9.setCell ⟨gt,0,none⟩ (.int .u32 (wd G 0:Nat))).setCell ⟨gt,1,none⟩ (.int .u32 (wd G 1:Nat))).setCell ⟨gt,2,none⟩ (.int .u32 (wd G 2:Nat))).setCell ⟨gt,3,none⟩ (.int .u32 (wd G 3:Nat))));have XZ:=HW.out;rw [<-eO]at XZ Yc X6;rw [<-eO];clear eO c0 d0 c1 d1 c2 d2 c3 d3 x1 x2 x3 HW HR rH;obtain⟨c0,d0⟩:=XZ 0 (by omega);obtain⟨c1,d1⟩:=XZ 1 (by omega);obtain⟨c2,d2⟩:=XZ 2 (by omega);obtain⟨c3,d3⟩:=XZ 3 (by omega);go_wp2_with fail;refine(ani (wd G) hgl.out _).mono ?_;rintro e w6 ⟨rfl,k6⟩;have dV:=Yc.to (by omega) k6;have jJ:=X6.trans (k6.mono X6.size);have hj:=mh (n:=16) (λj hj=>(hjn.out j hj).trans (congrFun HG.out j));rw [hj];clear XZ c0 d0 c1 d1 c2 d2 c3 d3 Yc X6 k6 hj;go_wp2_with (refine bC rfl _ _ _ rfl _ _ _ (nx (dI 2 r) f) rfl rfl dV (Eg _) ?_;intro w8 bg aY _ _);refine KU rfl rfl rfl bg Tryz.Ij (Eg _) rfl ⟨rfl,?_⟩;exact jJ.trans (aY.mono (by omega))
end
section
open Go.RowKit
theorem Tryz.Q9:(Tryz.prog.info? 32).map (λi=>(i.zero,i.size))=some (some (.agg (Array.replicate 176 (.int .u8 0))),176):=by kernel_rfl
theorem Tryz.Q5:Tryz.prog.underlying 32=some (.array 11 22):=by kernel_rfl
theorem Kn (f:Nat->Nat):(Tryz.prog.info? 32).map (·.size)=some (ae 176 f).length:=by rw [bz];exact(zero_of_info Tryz.Q9).2
theorem Q9 (w:World):(zeroValue 32).run Tryz.prog w= .ok (.agg (ae 176 λ_=>0).toArray) w:=by
 rw [xI];exact(zero_of_info Tryz.Q9).1 w
theorem anm (f:Nat->Nat):Tryz.prog.built 32 [(0,.agg (ae 16 f).toArray)]=some (ae 176 λi=>if i<16 then f i else 0).toArray:=by kernel_rfl
theorem ann (f:Nat->Nat) (w:World):(Instr.build 32 #[(0,.agg (ae 16 f).toArray)]).run Tryz.prog w= .ok (.agg (ae 176 λi=>if i<16 then f i else 0).toArray) w:=
 run_build w _ _ _ (anm f)
theorem amN (f:Nat->Nat) (hf: ∀j,j<16->f j<256) (w:World) (h:eX w):
  Calls Tryz.prog 74 #[.agg (ae 16 f).toArray] w λe w'=>e= .returned (.agg (ae 176 (ek f)).toArray)/\Below w.heap.size w w':=by
 have bJ:=Q9;obtain⟨kA,aR⟩:=Le ((ae 16 f).toArray);obtain⟨w1,af,ak,au,aN⟩:=nA w 16 f 22;obtain⟨w2,ag,aD,ai,aA⟩:=fw ak au 176 (λ_=>0) 32;have aI:=bn ag aN;have hbd:=ann f;rw [aR]at af hbd;rw [aR];clear au aN;go_enter Tryz.func74,Tryz.ntmps74;go_upto_region 1 with fail;rw [<-af,<-ag];clear af ag;have eQ:Ar (w2.alloc (.cells (ae 176 λ_=>0).toArray 32)) (w.heap.size+2) 176 (λ_=>0):=by rw [<-aD];exact Ar.new w2 176 _ _
 have aL:Ar (w2.alloc (.cells (ae 176 λ_=>0).toArray 32)) (w.heap.size+1) 176 (λ_=>0):=aA.alloc (by omega) _;have aU:Below w.heap.size w (w2.alloc (.cells (ae 176 λ_=>0).toArray 32)):=ai.alloc (by omega) _;have fe:(w2.alloc (.cells (ae 176 λ_=>0).toArray 32)).heap.size=w.heap.size+3:=by simp [aD]
 go_upto_region 2 with (first
  |(refine bB rfl _ _ rfl _ _ _ rfl aI Tryz.Ij (Eg _) ?_;rw [aR])
  |(refine oH rfl _ _ rfl [(0,.agg kA)] rfl _ (hbd _) ?_)
  |(refine bC rfl _ _ _ rfl _ _ _ (λi=>if i<16 then f i else 0) rfl rfl eQ (Kn _) ?_;intro w4 jv il rW Yt))
 have dO:=Yt _ _ _ (by omega) aL;have fD:=aU.trans (il.mono (by omega));clear eQ aL aU fe il Yt rW aI aA ai ak aD hbd;dsimp only [Act.put];obtain⟨HF,HB⟩:=aB hf h;have Yu:=jv.ext (f':=λm=>if m<16*(0+1)then ek f m else 0) (λj hj=>by
  by_cases hc:j<16
  ·rw [if_pos hc,if_pos (by omega),QX f j hc]
  ·rw [if_neg hc,if_neg (by omega)])
 clear hf h jv;go_upto_region 3 with fail;go_loopw [7] (λi wr=> ∃n:Nat,n<=10/\i= .int .i64 n/\Ar wr (w.heap.size+2) 176 (λm=>if m<16*(n+1)then ek f m else 0)/\Ar wr (w.heap.size+1) 176 (λ_=>0)/\Below w.heap.size w wr) (λi _=>10-(intOf i).toNat);case atStart=>exact⟨0,by omega,rfl,Yu,dO,fD⟩
 case round=>
  clear Yu dO fD;obtain⟨n,hn,rfl,hT,hR,hB⟩:=hrel;by_cases hlt:n<10
  ·have hi:(n:Int)<11:=(by omega);have IW:(n:Int)+1<11:=(by omega);have qL:=Hi (mh (n:=16) (f:=λj=>(λm=>if m<16*(n+1)then ek f m else 0) (n*16+j)) (g:=rk f n) (λj hj=>by
    dsimp only;rw [if_pos (by omega),Nat.mul_comm n 16,Co f n j hj]))
   go_wp2_with (refine TP rfl _ _ rfl _ 176 (n*16) 16 _ rfl hT (by omega) Tryz.Ij (Eg _) ?_;rw [qL.out]);refine(anl n (rk f n) (wB f HF.out n) _ hlt (HB.out.keep hB)).mono ?_;rintro e w5 ⟨rfl,k5⟩;have kR:=hT.to (by omega) k5;have eY:=hR.to (by omega) k5;have dY:=hB.trans (k5.mono hB.size);clear hT hR hB k5 qL;rw [show nx (dI 2 n) (rk f n)=rk f (n+1)from rfl];go_wp2_with (refine al5 rfl _ _ _ rfl _ 176 ((n+1)*16) 16 _ (rk f (n+1)) rfl rfl kR (by omega) (Eg _) ?_;intro w6 nk jJ QE GA);have dV:=GA _ _ _ (by omega) eY;have fK:=dY.trans (jJ.mono (by omega));have nu:=nk.ext (f':=λm=>if m<16*(n+1+1)then ek f m else 0) (λj hj=>by
    unfold LW;by_cases hc:(n+1)*16<=j/\j<(n+1)*16+16
    ·rw [if_pos hc,if_pos (by omega)];have:=Co f (n+1) (j-(n+1)*16) (by omega);rw [<-this];congr 1;omega
    ·rw [if_neg hc];dsimp only;by_cases h2:j<16*(n+1)
     ·rw [if_pos h2,if_pos (by omega)]
     ·rw [if_neg h2,if_neg (by omega)])
   clear kR eY dY nk jJ QE GA;go_roundw;case rel=>exact⟨n+1,by omega,by go_num,nu,dV,fK⟩
   case measure=>simp [intOf];omega
  ·obtain rfl:n=10:=by omega
   have bG:=hT.ext (f':=ek f) (λj hj=>by rw [if_pos (by omega)]);clear hT;go_wp2_with (first
    |(refine bB rfl _ _ rfl _ _ _ rfl bG Tryz.Q5 (Kn _) ?_)
    |(refine bC rfl _ _ _ rfl _ _ _ (ek f) rfl rfl hR (Kn _) ?_;intro w8 bg aY _ _))
   refine dU rfl rfl bg Tryz.Q5 (Kn _) rfl ⟨rfl,?_⟩;exact hB.trans (aY.mono (by omega))
end
section
open Go.RowKit
noncomputable def ano:Code:=((Tryz.f113.body.bind (yB 11)).getD .skip)
theorem anp (n q p x0 gB:Nat) {Q0:Exit->Act->World->Prop} {t0 t1 t2 t3 t4 t7 t8 t9 t10 t11 t12 t13 t14 t15 t16 t17 t18 t19 t20 t21 t22 t23 t24 t25 t26 t27 t28 t29 t30 t31 t32 t33 t34 t35 t36 t37 t38 t39 t40 t41 t42 t43 t44 t45 t46 t47 t48 t49 t50 t51 t52 t53 t54 t55 t56 t57 t58 t59 t60 t61 t62 t63 t64 t65 t66 t67 t68 t69 t70 t71 t72 t73 t74 t75 t76 t77 t78 t79 t80 t81 t82 t83 t84 t85 t86 t87:Value} {W:World} (hn:n<44) (hq:q=n/4) (cB:1<=q) (hp:p=q-1) (hx:x0<256)
  (hc:W.cell? ⟨gB,0,none⟩=some (.int .u8 (x0:Nat))) (hf:W.frozen? ⟨gB,0,none⟩=false)
  (hQ: ∀w9,Below W.heap.size W w9->Q0 .normal ⟨(t0::t1::t2::t3::t4:: .int .i64 (n:Int):: .pointer (some ⟨gB,0,none⟩)::t7::t8::t9::t10::t11::t12::t13::t14::t15::t16::t17::t18::t19::t20::t21::t22::t23::t24::t25::t26::t27::t28::t29::t30::t31::t32::t33::t34::t35::t36::t37::t38::t39::t40::t41::t42::t43::t44::t45::t46::t47::t48::t49::t50::t51::t52::t53::t54::t55::t56::t57::t58::t59::t60:: .pointer (some ⟨gB,0,none⟩):: .int .u8 (x0:Int):: .int .i64 (n:Int):: .int .i64 (q:Int):: .int .i64 (p:Int):: .int .u8 ((dI 2 p:Nat):Int):: .int .u8 ((x0^^^dI 2 p:Nat):Int):: .pointer (some ⟨gB,0,none⟩)::t69::t70::t71::t72::t73::t74::t75::t76::t77::t78::t79::t80::t81::t82::t83::t84::t85::t86::t87:: []).toArray,[]⟩ (w9.setCell ⟨gB,0,none⟩ (.int .u8 ((x0^^^dI 2 p:Nat):Int)))):
  Code.wp Tryz.prog ano Q0 ⟨(t0::t1::t2::t3::t4:: .int .i64 (n:Int):: .pointer (some ⟨gB,0,none⟩)::t7::t8::t9::t10::t11::t12::t13::t14::t15::t16::t17::t18::t19::t20::t21::t22::t23::t24::t25::t26::t27::t28::t29::t30::t31::t32::t33::t34::t35::t36::t37::t38::t39::t40::t41::t42::t43::t44::t45::t46::t47::t48::t49::t50::t51::t52::t53::t54::t55::t56::t57::t58::t59::t60::t61::t62::t63::t64::t65::t66::t67::t68::t69::t70::t71::t72::t73::t74::t75::t76::t77::t78::t79::t80::t81::t82::t83::t84::t85::t86::t87:: []).toArray,[]⟩ W:=by
 have hg:gB<W.heap.size:=by
  rcases Nat.lt_or_ge gB W.heap.size with h1|h1
  ·exact h1
  ·simp [World.cell?,Array.getElem?_eq_none h1]at hc
 have q5:(n:Int)/4=(q:Int):=by omega
 have q1:((n:Int)).tdiv 4=(q:Int):=by rw [Int.tdiv_eq_ediv_of_nonneg (by omega)];omega
 have q6:IntKind.i64.wrap ((q:Int)-1)=(p:Int):=by rw [fO _ (by omega) (by omega)];omega
 have q7:IntKind.i64.wrap (q:Int)=(q:Int):=fO _ (by omega) (by omega);have q2:wrap64 ((q:Int)-1)=(p:Int):=by rw [IntWalk.wrap64_in _ (by omega)];omega
 have q3:p<=1000:=by omega
 have hpl:=xx 2 p;have sZ:bits BinOp.xor IntKind.u8 ((x0:Nat):Int) ((dI 2 p:Nat):Int)=((x0^^^dI 2 p:Nat):Int):=mo _ _ hx hpl;have hkeep: ∀V:World,Below W.drew.heap.size W.drew V->V.cell? ⟨gB,0,none⟩=some (.int .u8 (x0:Nat))/\V.frozen? ⟨gB,0,none⟩=false/\Below W.heap.size W V:=λV h=>
  ⟨(h.cell (p:=⟨gB,0,none⟩) hg).trans hc,(h.frozen (p:=⟨gB,0,none⟩) hg).trans hf,⟨h.os,h.tape,h.output,h.size,h.block⟩⟩
 have xy:=Hi hQ;clear hQ hq hp hn;refine Code.wp_mono NoPanic.imp ?_
 conv=>arg 2;whnf
 go_region_with (go_at_call 143;refine(ajv 2 p _ (by decide) q3).mono ?_;rintro e w9 ⟨rfl,rH⟩;obtain⟨k1,k2,k3⟩:=hkeep _ rH)
 all_goals exact NoPanic.normal (xy.out _ k3)
noncomputable def anq:Code:=((Tryz.f113.body.bind (yB 10)).getD .skip)
theorem anr (e0 e1 e2 e3 s0 s1 s2 s3 gt gB:Nat) {Q0:Exit->Act->World->Prop} {t0 t1 t2 t4 t5 t7 t8 t9 t10 t11 t12 t13 t14 t15 t16 t17 t18 t19 t20 t21 t22 t23 t24 t25 t26 t27 t28 t29 t30 t31 t32 t33 t34 t35 t36 t37 t38 t39 t40 t41 t42 t43 t44 t45 t46 t47 t48 t49 t50 t51 t52 t53 t54 t55 t56 t57 t58 t59 t60 t61 t62 t63 t64 t65 t66 t67 t68 t69 t70 t71 t72 t73 t74 t75 t76 t77 t78 t79 t80 t81 t82 t83 t84 t85 t86 t87:Value} {W:World} (YV:W.cell? ⟨gB,0,none⟩=some (.int .u8 (e0:Int))) (YW:W.frozen? ⟨gB,0,none⟩=false) (YX:W.cell? ⟨gB,1,none⟩=some (.int .u8 (e1:Int))) (YY:W.frozen? ⟨gB,1,none⟩=false) (YZ:W.cell? ⟨gB,2,none⟩=some (.int .u8 (e2:Int))) (Y1:W.frozen? ⟨gB,2,none⟩=false) (Y2:W.cell? ⟨gB,3,none⟩=some (.int .u8 (e3:Int))) (Y3:W.frozen? ⟨gB,3,none⟩=false) (b0:W.cell? ⟨gt,e0,none⟩=some (.int .u8 (s0:Int))) (l0:e0<256) (b1:W.cell? ⟨gt,e1,none⟩=some (.int .u8 (s1:Int))) (l1:e1<256) (b2:W.cell? ⟨gt,e2,none⟩=some (.int .u8 (s2:Int))) (l2:e2<256) (b3:W.cell? ⟨gt,e3,none⟩=some (.int .u8 (s3:Int))) (l3:e3<256)
  (hQ:Q0 .normal ⟨(t0::t1::t2:: .pointer (some ⟨gt,0,none⟩)::t4::t5:: .pointer (some ⟨gB,0,none⟩)::t7::t8::t9::t10::t11::t12::t13::t14::t15::t16::t17::t18::t19::t20::t21::t22::t23::t24::t25::t26::t27::t28::t29::t30::t31::t32::t33::t34::t35::t36::t37::t38::t39::t40::t41::t42::t43:: .pointer (some ⟨gB,1,none⟩):: .int .u8 (e1:Int):: .pointer (some ⟨gt,e1,none⟩):: .int .u8 (s1:Int):: .pointer (some ⟨gB,2,none⟩):: .int .u8 (e2:Int):: .pointer (some ⟨gt,e2,none⟩):: .int .u8 (s2:Int):: .pointer (some ⟨gB,3,none⟩):: .int .u8 (e3:Int):: .pointer (some ⟨gt,e3,none⟩):: .int .u8 (s3:Int):: .pointer (some ⟨gB,0,none⟩):: .int .u8 (e0:Int):: .pointer (some ⟨gt,e0,none⟩):: .int .u8 (s0:Int):: .agg #[.int .u8 (s1:Int),.int .u8 (s2:Int),.int .u8 (s3:Int),.int .u8 (s0:Int)]::t61::t62::t63::t64::t65::t66::t67::t68::t69::t70::t71::t72::t73::t74::t75::t76::t77::t78::t79::t80::t81::t82::t83::t84::t85::t86::t87:: []).toArray,[]⟩ (((((W.setCell ⟨gB,0,none⟩ (.int .u8 (s1:Int))).setCell ⟨gB,1,none⟩ (.int .u8 (s2:Int))).setCell ⟨gB,2,none⟩ (.int .u8 (s3:Int))).setCell ⟨gB,3,none⟩ (.int .u8 (s0:Int))).drew)):
  Code.wp Tryz.prog anq Q0 ⟨(t0::t1::t2:: .pointer (some ⟨gt,0,none⟩)::t4::t5:: .pointer (some ⟨gB,0,none⟩)::t7::t8::t9::t10::t11::t12::t13::t14::t15::t16::t17::t18::t19::t20::t21::t22::t23::t24::t25::t26::t27::t28::t29::t30::t31::t32::t33::t34::t35::t36::t37::t38::t39::t40::t41::t42::t43::t44::t45::t46::t47::t48::t49::t50::t51::t52::t53::t54::t55::t56::t57::t58::t59::t60::t61::t62::t63::t64::t65::t66::t67::t68::t69::t70::t71::t72::t73::t74::t75::t76::t77::t78::t79::t80::t81::t82::t83::t84::t85::t86::t87:: []).toArray,[]⟩ W:=by
 have i0:(e0:Int)<256:=by omega
 have i1:(e1:Int)<256:=by omega
 have i2:(e2:Int)<256:=by omega
 have i3:(e3:Int)<256:=by omega
 have xy:=Hi hQ;clear hQ;refine Code.wp_mono NoPanic.imp ?_
 conv=>arg 2;whnf
 go_big_region
 exact NoPanic.normal xy.out
end
section
open Go.RowKit
def Ik:Code->Option Code
 | .loop c=>some (.loop c)
 | .seq a b=>match Ik a with
  |some c=>some c
  |none=>Ik b
 | .block _ c=>Ik c
 | .scope c=>Ik c
 | .cond _ a b=>match Ik a with
  |some c=>some c
  |none=>Ik b
 |_=>none
def ant:Code->Code
 | .loop c=>c
 |c=>c
noncomputable def anu:Code:=((Tryz.f113.body.bind λc=>(Ik c).bind λl=>Ik (ant l)).getD .skip)
def Il (g:Nat) (W w':World):Prop:=(∀g' N F,g'≠g->Ar W g' N F->Ar w' g' N F)/\(∀B w0,B<=g->Below B w0 W->Below B w0 w')
theorem Il.refl (g:Nat) (W:World):Il g W W:=⟨λ_ _ _ _ h=>h,λ_ _ _ h=>h⟩
theorem Il.set {g:Nat} {W w':World} (h:Il g W w') (o:Nat) (v:Value):Il g W (w'.setCell ⟨g,o,none⟩ v).drew:=
 ⟨λg' N F hg hA=>((h.1 g' N F hg hA).far (p:=⟨g,o,none⟩) (λe=>hg e.symm) v).drew,λB w0 hB hb=>((h.2 B w0 hB hb).setCell (p:=⟨g,o,none⟩) hB v).drew⟩
theorem anv (f:Nat->Nat) (n k m:Nat):(if m=n*4+k then ek f (4*n+k)else(if m<4*n+k then ek f m else 0))=if m<4*n+(k+1)then ek f m else 0:=by
 by_cases h:m=n*4+k
 ·rw [if_pos h,if_pos (by omega),h,Nat.mul_comm n 4]
 ·rw [if_neg h];by_cases h2:m<4*n+k
  ·rw [if_pos h2,if_pos (by omega)]
  ·rw [if_neg h2,if_neg (by omega)]
theorem Ar.low {w:World} {g N c j:Nat} {f:Nat->Nat} (h:Ar w g N (λm=>if m<c then f m else 0)) (hj:j<c) (hN:j<N):w.cell? ⟨g,j,none⟩=some (.int .u8 (f j:Nat))/\w.frozen? ⟨g,j,none⟩=false:=by
 have:=h j hN;dsimp only at this
 rwa [if_pos hj]at this
theorem aei (n:Nat) (f T:Nat->Nat) (gB gW:Nat) {Q0:Exit->Act->World->Prop} {t0 t1 t2 t3 t8 t9 t10 t11 t12 t13 t14 t15 t16 t17 t18 t19 t20 t21 t22 t23 t24 t25 t26 t27 t28 t29 t30 t31 t32 t33 t34 t35 t36 t37 t38 t39 t40 t41 t42 t43 t44 t45 t46 t47 t48 t49 t50 t51 t52 t53 t54 t55 t56 t57 t58 t59 t60 t61 t62 t63 t64 t65 t66 t67 t68 t87 YG c70 YH c72 YI YJ c75 c76 YK YL YM c80 YN YO YP YQ c85 YR:Value} {W:World} (h4:4<=n) (hlt:n<44) (hg:gB≠gW)
  (hf: ∀j,ek f j<256) (hT: ∀k,k<4->T k<256) (X0: ∀k,k<4->ek f ((n-4)*4+k)^^^T k=ek f (4*n+k)) (hA:Ar W gB 4 T) (hW:Ar W gW 176 (λm=>if m<4*n then ek f m else 0))
  (hQ: ∀(w':World) (u7 u69 u70 Yd u72 u73 Ye u75 Yf Yg Yh Yi Yj Yk Yl Ym Yn Yo Yp:Value),Ar w' gW 176 (λm=>if m<4*(n+1)then ek f m else 0)->Il gW W w'->Q0 (.exit 2) ⟨(t0::t1::t2::t3:: .pointer (some ⟨gW,0,none⟩):: .int .i64 (n:Int):: .pointer (some ⟨gB,0,none⟩)::u7::t8::t9::t10::t11::t12::t13::t14::t15::t16::t17::t18::t19::t20::t21::t22::t23::t24::t25::t26::t27::t28::t29::t30::t31::t32::t33::t34::t35::t36::t37::t38::t39::t40::t41::t42::t43::t44::t45::t46::t47::t48::t49::t50::t51::t52::t53::t54::t55::t56::t57::t58::t59::t60::t61::t62::t63::t64::t65::t66::t67::t68::u69::u70::Yd::u72::u73::Ye::u75::Yf::Yg::Yh::Yi::Yj::Yk::Yl::Ym::Yn::Yo::Yp::t87:: []).toArray,[]⟩ w'):
  Code.wp Tryz.prog anu Q0 ⟨(t0::t1::t2::t3:: .pointer (some ⟨gW,0,none⟩):: .int .i64 (n:Int):: .pointer (some ⟨gB,0,none⟩):: .int .i64 0::t8::t9::t10::t11::t12::t13::t14::t15::t16::t17::t18::t19::t20::t21::t22::t23::t24::t25::t26::t27::t28::t29::t30::t31::t32::t33::t34::t35::t36::t37::t38::t39::t40::t41::t42::t43::t44::t45::t46::t47::t48::t49::t50::t51::t52::t53::t54::t55::t56::t57::t58::t59::t60::t61::t62::t63::t64::t65::t66::t67::t68::YG::c70::YH::c72::YI::YJ::c75::c76::YK::YL::YM::c80::YN::YO::YP::YQ::c85::YR::t87:: []).toArray,[]⟩ W:=by
 obtain⟨xy,bG,yj,XX,mX⟩:=jX hQ hT X0 hf hA;have fC:Hid (Ar W gW 176 (λm=>if m<4*n+0 then ek f m else 0)):=hW;clear hQ hT X0 hf hA hW
 conv=>arg 2;whnf
 go_loopw [7] (λj ws=> ∃k:Nat,k<=4/\j= .int .i64 k/\Ar ws gW 176 (λm=>if m<4*n+k then ek f m else 0)/\Il gW W ws) (λj _=>4-(intOf j).toNat);case atStart=>exact⟨0,Nat.zero_le _,rfl,fC.out,Il.refl _ _⟩
 case round=>
  obtain⟨k,hk,rfl,hW,hO⟩:=hrel;by_cases hlk:k<4
  ·obtain⟨m,hm⟩:=Lv (n-4);have yZ:m*4+k<4*n+k:=(by omega);obtain⟨c0,_⟩:=hW.low (j:=m*4+k) yZ (by omega);obtain⟨c1,_⟩:=(hO.1 gB 4 T hg mX.out) k hlk;obtain⟨c2,f2⟩:=hW (n*4+k) (by omega);have i1:(n:Int)<44:=(by omega);have i2:(m:Int)<44:=(by omega);have i4:(k:Int)<4:=(by omega);have e3:(n:Int)-4=(m:Int):=(by omega);have e4:wrap64 ((n:Int)-4)=(m:Int):=(by rw [IntWalk.wrap64_in _ (by omega)];omega);have e5:IntKind.i64.wrap ((n:Int)-4)=(m:Int):=(by rw [fO _ (by omega) (by omega)];omega);have e6:IntKind.i64.wrap (m:Int)=(m:Int):=fO _ (by omega) (by omega);have hx:bits BinOp.xor IntKind.u8 ((ek f (m*4+k):Nat):Int) ((T k:Nat):Int)=((ek f (4*n+k):Nat):Int):=by
    rw [mo _ _ (XX.out _) (bG.out k hlk),hm,yj.out k hlk]
   have EN:=(hW.set (j:=n*4+k) (v:=ek f (4*n+k)) (by omega) rfl).ext (λm _=>anv f n k m);have uJ:=hO.set (n*4+k) (.int .u8 (ek f (4*n+k):Nat));clear hW hO hm yZ;obtain⟨HW,HO⟩:=aB EN uJ;clear EN uJ;go_wp2_with fail;refine wp_region_noPanic ?_
   go_big_region
   refine NoPanic.normal ?_;go_wp2_with fail;go_roundw;case rel=>exact⟨k+1,by omega,by go_num,HW.out.drew,HO.out⟩
   case measure=>simp [intOf];omega
  ·obtain rfl:k=4:=by omega
   go_wp2_with fail;exact xy.out _ _ _ _ _ _ _ _ _ _ _ _ _ _ _ _ _ _ _ _ hW hO
end
section
open Go.RowKit
theorem Ar.aej {w:World} {g n o v0 v1 v2 v3:Nat} {f:Nat->Nat} (h:Ar w g n f) (ho:o+3<n):
  Ar ((((w.setCell ⟨g,o,none⟩ (.int .u8 (v0:Int))).setCell ⟨g,o+1,none⟩ (.int .u8 (v1:Int))).setCell ⟨g,o+2,none⟩ (.int .u8 (v2:Int))).setCell ⟨g,o+3,none⟩ (.int .u8 (v3:Int))) g n
   (λi=>if i=o+3 then v3 else if i=o+2 then v2 else if i=o+1 then v1 else if i=o then v0 else f i):=
 (((h.set (v:=v0) (by omega) rfl).set (v:=v1) (by omega) rfl).set (v:=v2) (by omega) rfl).set (v:=v3) (by omega) rfl
theorem Ar.Ko {w:World} {g g' n o o1 o2 o3:Nat} {v0 v1 v2 v3:Value} {f:Nat->Nat} (h:Ar w g n f) (hg:g'≠g):
  Ar ((((w.setCell ⟨g',o,none⟩ v0).setCell ⟨g',o1,none⟩ v1).setCell ⟨g',o2,none⟩ v2).setCell ⟨g',o3,none⟩ v3) g n f:=
 (((h.far (p:=⟨g',o,none⟩) hg _).far (p:=⟨g',o1,none⟩) hg _).far (p:=⟨g',o2,none⟩) hg _).far (p:=⟨g',o3,none⟩) hg _
theorem aek {B:Nat} {a w:World} {g' o o1 o2 o3:Nat} {v0 v1 v2 v3:Value} (h:Below B a w) (hg:B<=g'):
  Below B a ((((w.setCell ⟨g',o,none⟩ v0).setCell ⟨g',o1,none⟩ v1).setCell ⟨g',o2,none⟩ v2).setCell ⟨g',o3,none⟩ v3):=
 (((h.setCell (p:=⟨g',o,none⟩) hg _).setCell (p:=⟨g',o1,none⟩) hg _).setCell (p:=⟨g',o2,none⟩) hg _).setCell (p:=⟨g',o3,none⟩) hg _
theorem anw (f:Nat->Nat) (n m:Nat) (h4:n<4):
  (if m=n*4+3 then f (4*n+3)else if m=n*4+2 then f (4*n+2)else if m=n*4+1 then f (4*n+1)else if m=n*4 then f (4*n)else(if m<4*n then ek f m else 0))=if m<4*(n+1)then ek f m else 0:=by
 have k0:m=n*4+3->ek f m=f (4*n+3):=λh=>by rw [h,QX _ _ (by omega)];congr 1;omega
 have k1:m=n*4+2->ek f m=f (4*n+2):=λh=>by rw [h,QX _ _ (by omega)];congr 1;omega
 have k2:m=n*4+1->ek f m=f (4*n+1):=λh=>by rw [h,QX _ _ (by omega)];congr 1;omega
 have k3:m=n*4->ek f m=f (4*n):=λh=>by rw [h,QX _ _ (by omega)];congr 1;omega
 by_cases h0:m=n*4+3
 ·rw [if_pos h0,if_pos (by omega),k0 h0]
 rw [if_neg h0];by_cases h1:m=n*4+2
 ·rw [if_pos h1,if_pos (by omega),k1 h1]
 rw [if_neg h1];by_cases h2:m=n*4+1
 ·rw [if_pos h2,if_pos (by omega),k2 h2]
 rw [if_neg h2];by_cases h3:m=n*4
 ·rw [if_pos h3,if_pos (by omega),k3 h3]
 rw [if_neg h3];by_cases h5:m<4*n
 ·rw [if_pos h5,if_pos (by omega)]
 ·rw [if_neg h5,if_neg (by omega)]
theorem Tryz.Ra:(Tryz.prog.info? 200).map (λi=>(i.zero,i.size))=some (some (.agg (Array.replicate 176 (.int .u8 0))),176):=by kernel_rfl
theorem Tryz.ael:Tryz.prog.underlying 200=some (.array 44 199):=by kernel_rfl
theorem Uv (f:Nat->Nat):(Tryz.prog.info? 200).map (·.size)=some (ae 176 f).length:=by rw [bz];exact(zero_of_info Tryz.Ra).2
theorem Ra (w:World):(zeroValue 200).run Tryz.prog w= .ok (.agg (ae 176 λ_=>0).toArray) w:=by
 rw [xI];exact(zero_of_info Tryz.Ra).1 w
theorem anx (f:Nat->Nat) (hf: ∀j,j<16->f j<256) (w:World):
  Calls Tryz.prog 113 #[.agg (ae 16 f).toArray] w λe w'=>e= .returned (.agg (ae 176 (ek f)).toArray)/\Below w.heap.size w w':=by
 have hz:=Ra;have dx:=EI;obtain⟨kA,aR⟩:=Le ((ae 16 f).toArray);obtain⟨w1,af,ak,au,aN⟩:=nA w 16 f 22;obtain⟨w2,ag,aD,ai,aA⟩:=fw ak au 176 (λ_=>0) 200;have aI:=bn ag aN;rw [aR]at af;clear au aN ak;rw [aR];go_enter Tryz.func113,Tryz.ntmps113;go_upto_region 1 with fail;rw [<-af,<-ag];clear af ag;go_wp2_with fail;refine(aa9 _).mono ?_;rintro e w3 ⟨rfl,k3⟩;have dw:=aI.to (by omega) k3;have aL:=aA.to (by omega) k3;have aU:=ai.trans (k3.mono ai.size);have fe:=k3.size;obtain⟨gt,hgt⟩:=Le (w3.heap.size);have jv:Ar (w3.alloc (.cells (ae 256 λ_=>0).toArray 33)) gt 256 (λ_=>0):=by rw [<-hgt];exact Ar.new w3 256 _ _
 have je:Ar (w3.alloc (.cells (ae 256 λ_=>0).toArray 33)) w.heap.size 16 f:=dw.alloc (by omega) _;have dO:Ar (w3.alloc (.cells (ae 256 λ_=>0).toArray 33)) (w.heap.size+1) 176 (λ_=>0):=aL.alloc (by omega) _;have il:Below w.heap.size w (w3.alloc (.cells (ae 256 λ_=>0).toArray 33)):=aU.alloc (by omega) _;have Yv:(w3.alloc (.cells (ae 256 λ_=>0).toArray 33)).heap.size=gt+1:=by simp [hgt]
 clear aI aA ai dw aL k3;go_upto_region 2 with (refine bC rfl _ _ _ rfl _ _ _ sb rfl rfl jv (ug _) ?_;intro w5 kR kv vR vS);have fo:=vS _ _ _ (by omega) je;have eY:=vS _ _ _ (by omega) dO;have dY:=il.trans (kv.mono (by omega));rw [Yv]at vR;clear jv je dO il kv vS Yv;dsimp only [Act.put];obtain⟨w6,sH⟩:=Lv (w5.alloc (.cells (ae 176 λ_=>0).toArray 200));have QE:w6.heap.size=gt+2:=by rw [sH];simp [vR]
 have Yq:=tF sH vR;have fV:=bn sH fo;have dV:=bn sH eY;have nk:=bn sH kR;have fK:Below w.heap.size w w6:=by rw [sH];exact dY.alloc (by have:=dY.size;omega) _
 clear fo eY dY kR;go_upto_region 3 with fail;rw [<-sH];clear sH vR;have hge:w.heap.size+2<=gt:=by omega
 obtain⟨gW,hgW⟩:=Le (gt+1);have Y4:gt<gW:=by omega
 rw [hgW]at Yq;rw [hgW];clear aD fe QE aU hgt aR;go_wp2_with fail;go_loopw [5] (λi wr=> ∃n:Nat,n<=44/\i= .int .i64 n/\Ar wr w.heap.size 16 f/\Ar wr (w.heap.size+1) 176 (λ_=>0)/\Ar wr gt 256 sb/\Ar wr gW 176 (λm=>if m<4*n then ek f m else 0)/\Below w.heap.size w wr) (λi _=>44-(intOf i).toNat);case atStart=>exact⟨0,Nat.zero_le _,rfl,fV,dV,nk,Yq.ext (λj _=>rfl),fK⟩
 case round=>
  clear fV dV nk Yq fK;obtain⟨n,hn,rfl,hK,hR,hT,hW,hB⟩:=hrel;by_cases hlt:n<44
  ·by_cases h4:n<4
   ·obtain⟨a,ha⟩:=Lv (4*n);obtain⟨a1,X7⟩:=Lv (4*n+1);obtain⟨a2,FI⟩:=Lv (4*n+2);obtain⟨a3,X8⟩:=Lv (4*n+3);have e0:wrap64 (4*(n:Int))=(a:Int):=(by rw [IntWalk.wrap64_in _ (by omega)];omega);have e1:wrap64 ((a:Int)+1)=(a1:Int):=(by rw [IntWalk.wrap64_in _ (by omega)];omega);have e2:wrap64 ((a:Int)+2)=(a2:Int):=(by rw [IntWalk.wrap64_in _ (by omega)];omega);have e3:wrap64 ((a:Int)+3)=(a3:Int):=(by rw [IntWalk.wrap64_in _ (by omega)];omega);have d0:IntKind.i64.wrap (4*(n:Int))=(a:Int):=(by rw [fO _ (by omega) (by omega)];omega);have d1:IntKind.i64.wrap ((a:Int)+1)=(a1:Int):=(by rw [fO _ (by omega) (by omega)];omega);have d2:IntKind.i64.wrap ((a:Int)+2)=(a2:Int):=(by rw [fO _ (by omega) (by omega)];omega);have d3:IntKind.i64.wrap ((a:Int)+3)=(a3:Int):=(by rw [fO _ (by omega) (by omega)];omega);have c0:=(hK a (by omega)).1;have c1:=(hK a1 (by omega)).1;have c2:=(hK a2 (by omega)).1;have c3:=(hK a3 (by omega)).1;have i0:(a:Int)<16:=(by omega);have i1:(a1:Int)<16:=(by omega);have i2:(a2:Int)<16:=(by omega);have i3:(a3:Int)<16:=(by omega);have i4:(n:Int)<44:=(by omega);have hN:=Hi (show a=4*n/\a1=4*n+1/\a2=4*n+2/\a3=4*n+3 from⟨ha,X7,FI,X8⟩);obtain⟨g0,f0⟩:=hW (n*4) (by omega);obtain⟨g1,f1⟩:=hW (n*4+1) (by omega);obtain⟨g2,f2⟩:=hW (n*4+2) (by omega);obtain⟨g3,f3⟩:=hW (n*4+3) (by omega);clear ha X7 FI X8;go_wp2_with fail;refine wp_region_noPanic ?_
    go_big_region
    refine NoPanic.normal ?_;obtain⟨ha,X7,FI,X8⟩:=hN.out;subst ha X7 FI X8;have fC:=(hW.aej (o:=n*4) (v0:=f (4*n)) (v1:=f (4*n+1)) (v2:=f (4*n+2)) (v3:=f (4*n+3)) (by omega)).ext (λm _=>anw f n m h4);have aI:=hK.Ko (g':=gW) (o:=n*4) (o1:=n*4+1) (o2:=n*4+2) (o3:=n*4+3) (v0:= .int .u8 (f (4*n):Nat)) (v1:= .int .u8 (f (4*n+1):Nat)) (v2:= .int .u8 (f (4*n+2):Nat)) (v3:= .int .u8 (f (4*n+3):Nat)) (by omega);have aA:=hR.Ko (g':=gW) (o:=n*4) (o1:=n*4+1) (o2:=n*4+2) (o3:=n*4+3) (v0:= .int .u8 (f (4*n):Nat)) (v1:= .int .u8 (f (4*n+1):Nat)) (v2:= .int .u8 (f (4*n+2):Nat)) (v3:= .int .u8 (f (4*n+3):Nat)) (by omega);have bG:=hT.Ko (g':=gW) (o:=n*4) (o1:=n*4+1) (o2:=n*4+2) (o3:=n*4+3) (v0:= .int .u8 (f (4*n):Nat)) (v1:= .int .u8 (f (4*n+1):Nat)) (v2:= .int .u8 (f (4*n+2):Nat)) (v3:= .int .u8 (f (4*n+3):Nat)) (by omega);have aF:=aek (B:=w.heap.size) hB (g':=gW) (o:=n*4) (o1:=n*4+1) (o2:=n*4+2) (o3:=n*4+3) (v0:= .int .u8 (f (4*n):Nat)) (v1:= .int .u8 (f (4*n+1):Nat)) (v2:= .int .u8 (f (4*n+2):Nat)) (v3:= .int .u8 (f (4*n+3):Nat)) (by omega);clear hK hR hT hW hB c0 c1 c2 c3 g0 g1 g2 g3 f0 f1 f2 f3 e0 e1 e2 e3 d0 d1 d2 d3;obtain⟨w7,mG⟩:=Lv (((((wr.setCell ⟨gW,n*4,none⟩ (.int .u8 (f (4*n):Nat))).setCell ⟨gW,n*4+1,none⟩ (.int .u8 (f (4*n+1):Nat))).setCell ⟨gW,n*4+2,none⟩ (.int .u8 (f (4*n+2):Nat))).setCell ⟨gW,n*4+3,none⟩ (.int .u8 (f (4*n+3):Nat))));rw [<-mG]at fC aI aA bG aF;rw [<-mG];clear mG;go_wp2_with fail;go_roundw
    case rel=>exact⟨n+1,by omega,by go_num,aI.drew,aA.drew,bG.drew,fC.drew,aF.drew⟩
    case measure=>simp [intOf];omega
   ·obtain⟨g0,f0⟩:=hW.low (j:=(n-1)*4) (by omega) (by omega);obtain⟨g1,f1⟩:=hW.low (j:=(n-1)*4+1) (by omega) (by omega);obtain⟨g2,f2⟩:=hW.low (j:=(n-1)*4+2) (by omega) (by omega);obtain⟨g3,f3⟩:=hW.low (j:=(n-1)*4+3) (by omega) (by omega);have i0:(n:Int)-1<44:=(by omega);have Y5: ¬((n:Int)<4):=(by omega);have YS:=hW.lt (by omega);obtain⟨gB,hgB⟩:=Le (wr.heap.size);obtain⟨w7,mG⟩:=Lv (wr.alloc (.cells #[.int .u8 (ek f ((n-1)*4):Nat),.int .u8 (ek f ((n-1)*4+1):Nat),.int .u8 (ek f ((n-1)*4+2):Nat),.int .u8 (ek f ((n-1)*4+3):Nat)] 199));have jE:=bn mG hK;have p9:=bn mG hR;have nu:=bn mG hT;have FQ:=bn mG hW;have oJ:Below w.heap.size w w7:=(by rw [mG];exact hB.alloc (by have:=hB.size;omega) _);have XV:Ar w7 gB 4 (λk=>ek f ((n-1)*4+k)):=(by rw [mG,<-hgB];exact Ar.new wr 4 (λk=>ek f ((n-1)*4+k)) _);rw [hgB]at YS;clear hK hR hT hW hB;go_upto_region 9 with fail;rw [<-mG];clear mG g0 g1 g2 g3 f0 f1 f2 f3;by_cases hm:n%4=0
    ·have ht:((n:Int).tmod 4==0)=true:=(by rw [Int.tmod_eq_emod_of_nonneg (by omega)];simp;omega);have htl: ∀k,ek f k<256:=Ui f hf;have hsl:=vH;have l0:((ek f ((n-1)*4):Nat):Int)<256:=(by have:=htl ((n-1)*4);omega);have l1:((ek f ((n-1)*4+1):Nat):Int)<256:=(by have:=htl ((n-1)*4+1);omega);have l2:((ek f ((n-1)*4+2):Nat):Int)<256:=(by have:=htl ((n-1)*4+2);omega);have l3:((ek f ((n-1)*4+3):Nat):Int)<256:=(by have:=htl ((n-1)*4+3);omega);obtain⟨t0,v0⟩:=XV 0 (by omega);obtain⟨t1,v1⟩:=XV 1 (by omega);obtain⟨t2,v2⟩:=XV 2 (by omega);obtain⟨t3,v3⟩:=XV 3 (by omega);have b0:=(nu _ (htl ((n-1)*4))).1;have b1:=(nu _ (htl ((n-1)*4+1))).1;have b2:=(nu _ (htl ((n-1)*4+2))).1;have b3:=(nu _ (htl ((n-1)*4+3))).1;obtain⟨Ya,hSS⟩:=aB htl hsl;clear htl hsl;go_upto_region 10 with fail;refine anr (ek f ((n-1)*4)) (ek f ((n-1)*4+1)) (ek f ((n-1)*4+2)) (ek f ((n-1)*4+3)) (sb (ek f ((n-1)*4))) (sb (ek f ((n-1)*4+1))) (sb (ek f ((n-1)*4+2))) (sb (ek f ((n-1)*4+3))) gt gB t0 v0 t1 v1 t2 v2 t3 v3 b0 (Ya.out _) b1 (Ya.out _) b2 (Ya.out _) b3 (Ya.out _) ?_;have Yw:=(XV.aej (o:=0) (v0:=sb (ek f ((n-1)*4+1))) (v1:=sb (ek f ((n-1)*4+2))) (v2:=sb (ek f ((n-1)*4+3))) (v3:=sb (ek f ((n-1)*4))) (by omega)).ext (f':=λk=>sb (ek f ((n-1)*4+(k+1)%4))) (λk hk=>by
      rcases(show k=0\/k=1\/k=2\/k=3 by omega)with rfl|rfl|rfl|rfl<;>rfl)
     have Yx:=jE.Ko (g':=gB) (o:=0) (o1:=1) (o2:=2) (o3:=3) (v0:= .int .u8 (sb (ek f ((n-1)*4+1)):Nat)) (v1:= .int .u8 (sb (ek f ((n-1)*4+2)):Nat)) (v2:= .int .u8 (sb (ek f ((n-1)*4+3)):Nat)) (v3:= .int .u8 (sb (ek f ((n-1)*4)):Nat)) (by omega);have Yy:=p9.Ko (g':=gB) (o:=0) (o1:=1) (o2:=2) (o3:=3) (v0:= .int .u8 (sb (ek f ((n-1)*4+1)):Nat)) (v1:= .int .u8 (sb (ek f ((n-1)*4+2)):Nat)) (v2:= .int .u8 (sb (ek f ((n-1)*4+3)):Nat)) (v3:= .int .u8 (sb (ek f ((n-1)*4)):Nat)) (by omega);have Yz:=nu.Ko (g':=gB) (o:=0) (o1:=1) (o2:=2) (o3:=3) (v0:= .int .u8 (sb (ek f ((n-1)*4+1)):Nat)) (v1:= .int .u8 (sb (ek f ((n-1)*4+2)):Nat)) (v2:= .int .u8 (sb (ek f ((n-1)*4+3)):Nat)) (v3:= .int .u8 (sb (ek f ((n-1)*4)):Nat)) (by omega);have YA:=FQ.Ko (g':=gB) (o:=0) (o1:=1) (o2:=2) (o3:=3) (v0:= .int .u8 (sb (ek f ((n-1)*4+1)):Nat)) (v1:= .int .u8 (sb (ek f ((n-1)*4+2)):Nat)) (v2:= .int .u8 (sb (ek f ((n-1)*4+3)):Nat)) (v3:= .int .u8 (sb (ek f ((n-1)*4)):Nat)) (by omega);have YB:=aek (B:=w.heap.size) oJ (g':=gB) (o:=0) (o1:=1) (o2:=2) (o3:=3) (v0:= .int .u8 (sb (ek f ((n-1)*4+1)):Nat)) (v1:= .int .u8 (sb (ek f ((n-1)*4+2)):Nat)) (v2:= .int .u8 (sb (ek f ((n-1)*4+3)):Nat)) (v3:= .int .u8 (sb (ek f ((n-1)*4)):Nat)) (by omega)
     obtain⟨w8,xC⟩:=Lv (((((w7.setCell ⟨gB,0,none⟩ (.int .u8 (sb (ek f ((n-1)*4+1)):Nat))).setCell ⟨gB,1,none⟩ (.int .u8 (sb (ek f ((n-1)*4+2)):Nat))).setCell ⟨gB,2,none⟩ (.int .u8 (sb (ek f ((n-1)*4+3)):Nat))).setCell ⟨gB,3,none⟩ (.int .u8 (sb (ek f ((n-1)*4)):Nat))).drew);have zH:Ar w8 gB 4 (λk=>sb (ek f ((n-1)*4+(k+1)%4))):=(by rw [xC];exact Yw.drew);have ja:Ar w8 w.heap.size 16 f:=(by rw [xC];exact Yx.drew);have nH:Ar w8 (w.heap.size+1) 176 (λ_=>0):=(by rw [xC];exact Yy.drew);have pO:Ar w8 gt 256 sb:=(by rw [xC];exact Yz.drew);have YC:Ar w8 gW 176 (λm=>if m<4*n+0 then ek f m else 0):=(by rw [xC];exact YA.drew);have qZ:Below w.heap.size w w8:=(by rw [xC];exact YB.drew);rw [<-xC];clear Yw Yx Yy Yz YA YB;clear xC t0 t1 t2 t3 v0 v1 v2 v3 b0 b1 b2 b3 jE p9 nu FQ oJ XV l0 l1 l2 l3;obtain⟨q,hq⟩:=Lv (n/4);obtain⟨p,hp⟩:=Lv (q-1);have q1:((n:Int)).tdiv 4=(q:Int):=(by rw [Int.tdiv_eq_ediv_of_nonneg (by omega)];omega);have q2:wrap64 ((q:Int)-1)=(p:Int):=(by rw [IntWalk.wrap64_in _ (by omega)];omega);have q5:(n:Int)/4=(q:Int):=(by omega);have q6:IntKind.i64.wrap ((q:Int)-1)=(p:Int):=(by rw [fO _ (by omega) (by omega)];omega);have q7:IntKind.i64.wrap (q:Int)=(q:Int):=fO _ (by omega) (by omega);have q3:p<=1000:=(by omega);have YT:=Hi (show p=n/4-1 by omega);have q4:1<=q:=(by omega);have PM:=hq;have hpq:=hp;clear hq hp;obtain⟨x0,dQ⟩:=Le (sb (ek f ((n-1)*4+1)));have YD:x0<256:=by rw [<-dQ];exact hSS.out _
     have hpl:=xx 2 p;have Yb:=zH.ext (f':=λk=>if k=0 then x0 else sb (ek f ((n-1)*4+(k+1)%4))) (λk hk=>by
      by_cases h:k=0
      ·rw [if_pos h,<-dQ,h]
      ·rw [if_neg h])
     have t0:w8.cell? ⟨gB,0,none⟩=some (.int .u8 (x0:Nat)):=(Yb 0 (by omega)).1;have v0:=(Yb 0 (by omega)).2;clear zH;clear ht hgB hgW;have sZ:bits BinOp.xor IntKind.u8 ((x0:Nat):Int) ((dI 2 p:Nat):Int)=((x0^^^dI 2 p:Nat):Int):=mo _ _ YD hpl;have YU:=Hi dQ;clear dQ;go_upto_region 11 with fail;refine anp n q p x0 gB hlt PM q4 hpq YD t0 v0 ?_;intro w9 rH;have dn:=ja.to (by decide) rH;have bI:=nH.to (by decide) rH;have ig:=pO.to (by decide) rH;have XW:=YC.to (by decide) rH;have YE:=Yb.to (by decide) rH;have bD:=qZ.trans (rH.mono qZ.size);obtain⟨T,uY⟩: ∃T:Nat->Nat,T=λk=>sb (ek f (4*(n-1)+(k+1)%4))^^^(if k=0 then dI 2 (n/4-1)else 0):=⟨_,rfl⟩;have Yr:=Hi (show∀k,k<4->T k<256 from λk _=>by rw [uY];exact ku _ _ (hSS.out _) (adR k _ (xx 2 _)));have X0:=Hi (show∀k,k<4->ek f ((n-4)*4+k)^^^T k=ek f (4*n+k)from λk hk=>by
      rw [uY,alS f n k (by omega) hm hk,Nat.mul_comm (n-4) 4])
     have X3:=(YE.set (j:=0) (v:=x0^^^dI 2 p) (by decide) rfl).ext (f':=T) (λk hk=>by
      rw [uY];by_cases h:k=0
      ·subst h;simp only [if_pos];rw [<-YU.out,YT.out,Nat.mul_comm (n-1) 4]
      ·simp only [if_neg h,Nat.xor_zero];rw [Nat.mul_comm (n-1) 4])
     have hKx:=dn.far (p:=⟨gB,0,none⟩) (by simp;omega) (.int .u8 ((x0^^^dI 2 p:Nat):Int));have X4:=bI.far (p:=⟨gB,0,none⟩) (by simp;omega) (.int .u8 ((x0^^^dI 2 p:Nat):Int));have hTx:=ig.far (p:=⟨gB,0,none⟩) (by simp;omega) (.int .u8 ((x0^^^dI 2 p:Nat):Int));have X5:=XW.far (p:=⟨gB,0,none⟩) (by simp;omega) (.int .u8 ((x0^^^dI 2 p:Nat):Int));have hBx:=bD.setCell (p:=⟨gB,0,none⟩) (by simp;omega) (.int .u8 ((x0^^^dI 2 p:Nat):Int));obtain⟨wx,hwx⟩:=Lv (w9.setCell ⟨gB,0,none⟩ (.int .u8 ((x0^^^dI 2 p:Nat):Int)));rw [<-hwx]at X3 hKx X4 hTx X5 hBx;rw [<-hwx];clear hwx uY dn bI ig XW YE bD rH ja nH pO YC Yb qZ t0 v0 sZ hpl q5 q6 q7 q1 q2 q3 q4 PM hpq;go_wp2_with fail;refine aei n f T gB gW (by omega) hlt (by omega) (Ui f hf) Yr.out X0.out X3 X5 ?_;intro w' u7 u69 u70 Yd u72 u73 Ye u75 Yf Yg Yh Yi Yj Yk Yl Ym Yn Yo Yp hW hO;have hK:=hO.1 _ _ _ (by omega) hKx;have hR:=hO.1 _ _ _ (by omega) X4;have hT:=hO.1 _ _ _ (by omega) hTx;have hB:=hO.2 _ _ (by omega) hBx;clear hKx X4 hTx X3 X5 hBx hO;go_wp2_with fail;go_roundw;case rel=>exact⟨n+1,by omega,by go_num,hK,hR,hT,hW,hB⟩
     case measure=>simp [intOf];omega
    ·have ht:((n:Int).tmod 4==0)=false:=(by rw [Int.tmod_eq_emod_of_nonneg (by omega)];simp;omega);obtain⟨T,uY⟩: ∃T:Nat->Nat,T=λk=>ek f ((n-1)*4+k):=⟨_,rfl⟩;rw [<-uY]at XV;have Yr:=Hi (show∀k,k<4->T k<256 from λk _=>by rw [uY];exact Ui f hf _);have X0:=Hi (show∀k,k<4->ek f ((n-4)*4+k)^^^T k=ek f (4*n+k)from λk hk=>by
      rw [uY,alR f n k (by omega) hm hk,Nat.mul_comm (n-4) 4,Nat.mul_comm (n-1) 4])
     clear uY;obtain⟨wx,hwx⟩:=Lv (w7);rw [<-hwx]at jE p9 nu XV FQ oJ;rw [<-hwx];clear hwx;have hKx:=jE;have X4:=p9;have hTx:=nu;have X3:=XV;have X5:=FQ;have hBx:=oJ;clear jE p9 nu XV FQ oJ;go_wp2_with fail;refine aei n f T gB gW (by omega) hlt (by omega) (Ui f hf) Yr.out X0.out X3 X5 ?_;intro w' u7 u69 u70 Yd u72 u73 Ye u75 Yf Yg Yh Yi Yj Yk Yl Ym Yn Yo Yp hW hO;have hK:=hO.1 _ _ _ (by omega) hKx;have hR:=hO.1 _ _ _ (by omega) X4;have hT:=hO.1 _ _ _ (by omega) hTx;have hB:=hO.2 _ _ (by omega) hBx;clear hKx X4 hTx X3 X5 hBx hO;go_wp2_with fail;go_roundw;case rel=>exact⟨n+1,by omega,by go_num,hK,hR,hT,hW,hB⟩
     case measure=>simp [intOf];omega
  ·obtain rfl:n=44:=by omega
   have fC:=hW.ext (f':=ek f) (λj hj=>by rw [if_pos (by omega)]);clear hW;go_wp2_with (first
    |(refine bB rfl _ _ rfl _ _ _ rfl fC Tryz.ael (Uv _) ?_)
    |(refine bC rfl _ _ _ rfl _ _ _ (ek f) rfl rfl hR (Uv _) ?_;intro w8 bg aY _ _))
   refine dU rfl rfl bg Tryz.ael (Uv _) rfl ⟨rfl,?_⟩;exact hB.trans (aY.mono (by omega))
end
section
open Go.RowKit
theorem ak4 (f:Nat->Nat) (hf: ∀j,j<16->f j<256) (w:World):
  Calls Tryz.prog 76 #[.agg (ae 16 f).toArray] w λe w'=>e= .returned (.agg (ae 176 (ek f)).toArray)/\Below w.heap.size w w':=by
 have bJ:=Q9;have bE:=Ra;obtain⟨kA,aR⟩:=Le ((ae 16 f).toArray);obtain⟨w1,af,ak,au,aN⟩:=nA w 16 f 22;obtain⟨w2,ag,aD,ai,aA⟩:=fw ak au 176 (λ_=>0) 32;have aI:=bn ag aN;rw [aR]at af;rw [aR];clear au aN;go_enter Tryz.func76,Tryz.ntmps76;go_upto_region 1 with fail;rw [<-af,<-ag];clear af ag;go_wp2_with (refine bB rfl _ _ rfl _ _ _ rfl aI Tryz.Ij (Eg _) ?_);rw [<-aR];refine(anx f hf _).mono ?_;rintro e w3 ⟨rfl,k3⟩;have aL:=aA.to (by omega) k3;have aU:=ai.trans (k3.mono ai.size);have fe:=k3.size;obtain⟨gW,hgW⟩:=Le (w3.heap.size);have hge:w.heap.size+2<=gW:=by omega
 have jv:Ar (w3.alloc (.cells (ae 176 λ_=>0).toArray 200)) gW 176 (λ_=>0):=by rw [<-hgW];exact Ar.new w3 176 _ _
 have dO:Ar (w3.alloc (.cells (ae 176 λ_=>0).toArray 200)) (w.heap.size+1) 176 (λ_=>0):=aL.alloc (by omega) _;have il:Below w.heap.size w (w3.alloc (.cells (ae 176 λ_=>0).toArray 200)):=aU.alloc (by omega) _;have rW:(w3.alloc (.cells (ae 176 λ_=>0).toArray 200)).heap.size=gW+1:=by simp [hgW]
 clear aA ai aI aL aU k3 fe ak aD;go_upto_region 2 with (refine bC rfl _ _ _ rfl _ _ _ (ek f) rfl rfl jv (Uv _) ?_;intro w5 kR kv vR vS);have eY:=vS _ _ _ (by omega) dO;have dY:=il.trans (kv.mono (by omega));rw [rW]at vR;clear jv dO il kv vS rW hgW;dsimp only [Act.put];obtain⟨w6,sH⟩:=Lv (w5.alloc (.cells (ae 176 λ_=>0).toArray 32));have yT:=tF sH vR;have nk:=bn sH kR;have dV:=bn sH eY;have fK:Below w.heap.size w w6:=by rw [sH];exact dY.alloc (by have:=dY.size;omega) _
 clear kR eY dY;go_upto_region 3 with fail;rw [<-sH];clear sH vR;obtain⟨gO,jg⟩:=Le (gW+1);have aal:gW<gO:=by omega
 rw [jg]at yT;rw [jg];clear jg aR hf;go_wp2_with fail;go_loopw [5] (λi wr=> ∃n:Nat,n<=176/\i= .int .i64 n/\Ar wr gW 176 (ek f)/\Ar wr (w.heap.size+1) 176 (λ_=>0)/\Ar wr gO 176 (λm=>if m<n then ek f m else 0)/\Below w.heap.size w wr) (λi _=>176-(intOf i).toNat);case atStart=>exact⟨0,Nat.zero_le _,rfl,nk,dV,yT.ext (λj _=>rfl),fK⟩
 case round=>
  clear nk dV yT fK;obtain⟨n,hn,rfl,hT,hR,hO,hB⟩:=hrel;by_cases hlt:n<176
  ·obtain⟨a,ha⟩:=Lv (n/16);obtain⟨b,hb⟩:=Lv (n%16);obtain⟨c,hc⟩:=Lv (n/4);obtain⟨d,hd⟩:=Lv (n%4);have a1:((n:Int)).tdiv 16=(a:Int):=(by rw [Int.tdiv_eq_ediv_of_nonneg (by omega)];omega);have a2:(n:Int)/16=(a:Int):=(by omega);have a3:IntKind.i64.wrap (a:Int)=(a:Int):=fO _ (by omega) (by omega);have b1:((n:Int)).tmod 16=(b:Int):=(by rw [Int.tmod_eq_emod_of_nonneg (by omega)];omega);have b2:(n:Int)%16=(b:Int):=(by omega);have b3:IntKind.i64.wrap (b:Int)=(b:Int):=fO _ (by omega) (by omega);have c1:((n:Int)).tdiv 4=(c:Int):=(by rw [Int.tdiv_eq_ediv_of_nonneg (by omega)];omega);have c2:(n:Int)/4=(c:Int):=(by omega);have c3:IntKind.i64.wrap (c:Int)=(c:Int):=fO _ (by omega) (by omega);have d1:((n:Int)).tmod 4=(d:Int):=(by rw [Int.tmod_eq_emod_of_nonneg (by omega)];omega);have d2:(n:Int)%4=(d:Int):=(by omega);have d3:IntKind.i64.wrap (d:Int)=(d:Int):=fO _ (by omega) (by omega);have i1:(a:Int)<11:=(by omega);have i2:(b:Int)<16:=(by omega);have i3:(c:Int)<44:=(by omega);have i4:(d:Int)<4:=(by omega);obtain⟨k0,_⟩:=hT (c*4+d) (by omega);rw [show c*4+d=n by omega]at k0;have k1:wr.cell? ⟨gW,c*4+d,none⟩=some (.int .u8 (ek f n:Nat)):=(by rw [show c*4+d=n by omega];exact k0);obtain⟨k2,f2⟩:=hO (a*16+b) (by omega);have e:=Hi (show a*16+b=n by omega);have eQ:=hT.far (p:=⟨gO,a*16+b,none⟩) (by simp;omega) (.int .u8 (ek f n:Nat));have aL:=hR.far (p:=⟨gO,a*16+b,none⟩) (by simp;omega) (.int .u8 (ek f n:Nat))
   have uJ:=(hO.set (j:=a*16+b) (v:=ek f n) (by omega) rfl).ext (f':=λm=>if m<n+1 then ek f m else 0) (λm _=>by rw [e.out];exact Io (ek f) n m);have aS:=hB.setCell (p:=⟨gO,a*16+b,none⟩) (by simp;omega) (.int .u8 (ek f n:Nat));clear hT hR hO hB ha hb hc hd k0;go_wp2_with fail;refine wp_region_noPanic ?_
   go_big_region
   refine NoPanic.normal ?_;go_wp2_with fail;go_roundw;case rel=>exact⟨n+1,by omega,by go_num,eQ.drew,aL.drew,uJ.drew,aS.drew⟩
   case measure=>simp [intOf];omega
  ·obtain rfl:n=176:=by omega
   have Bh:=hO.ext (f':=ek f) (λj hj=>by rw [if_pos hj]);clear hO;go_wp2_with (first
    |(refine bB rfl _ _ rfl _ _ _ rfl Bh Tryz.Q5 (Kn _) ?_)
    |(refine bC rfl _ _ _ rfl _ _ _ (ek f) rfl rfl hR (Kn _) ?_;intro w8 bg aY _ _))
   refine dU rfl rfl bg Tryz.Q5 (Kn _) rfl ⟨rfl,?_⟩;exact hB.trans (aY.mono (by omega))
end
end
section
open Go.RowKit
theorem Nt (w:World):(Instr.build 22 #[]).run Tryz.prog w= .ok (.agg (ae 16 λ_=>0).toArray) w:=run_build w _ _ _ (by kernel_rfl)
end
section
section
open Go.RowKit
theorem Tryz.aM:Tryz.prog.underlying 22=some (.array 16 5):=by kernel_rfl
theorem Tryz.jf:(Tryz.prog.info? 22).map (λi=>(i.zero,i.size))=some (some (.agg (Array.replicate 16 (.int .u8 0))),16):=by kernel_rfl
theorem ay (f:Nat->Nat):(Tryz.prog.info? 22).map (·.size)=some (ae 16 f).length:=by rw [bz];exact(zero_of_info Tryz.jf).2
theorem jf (w:World):(zeroValue 22).run Tryz.prog w= .ok (.agg (ae 16 λ_=>0).toArray) w:=by
 rw [xI];exact(zero_of_info Tryz.jf).1 w
theorem Tryz.nO:Tryz.prog.underlying 264=some (.array 4 199):=by kernel_rfl
theorem Tryz.zZ:(Tryz.prog.info? 264).map (λi=>(i.zero,i.size))=some (some (.agg (Array.replicate 16 (.int .u8 0))),16):=by kernel_rfl
theorem fA (f:Nat->Nat):(Tryz.prog.info? 264).map (·.size)=some (ae 16 f).length:=by rw [bz];exact(zero_of_info Tryz.zZ).2
theorem zZ (w:World):(zeroValue 264).run Tryz.prog w= .ok (.agg (ae 16 λ_=>0).toArray) w:=by
 rw [xI];exact(zero_of_info Tryz.zZ).1 w
theorem akJ (f:Nat->Nat) (n m a b:Nat) (ha:a=n%4) (hb:b=n/4) (hn:n<16) (hm:m<16):
  (if m=a*4+b then f n else(if 4*(m%4)+m/4<n then tr f m else 0))=if 4*(m%4)+m/4<n+1 then tr f m else 0:=by
 by_cases h:m=a*4+b
 ·have e:4*(m%4)+m/4=n:=by omega
  rw [if_pos h,if_pos (by omega),tr,e]
 ·rw [if_neg h];have e:4*(m%4)+m/4≠n:=by omega
  by_cases h2:4*(m%4)+m/4<n
  ·rw [if_pos h2,if_pos (by omega)]
  ·rw [if_neg h2,if_neg (by omega)]
theorem QB (f:Nat->Nat) (w:World):
  Calls Tryz.prog 196 #[.agg (ae 16 f).toArray] w λe w'=>e= .returned (.agg (ae 16 (tr f)).toArray)/\Below w.heap.size w w':=by
 have hz:=zZ;obtain⟨kA,aR⟩:=Le ((ae 16 f).toArray);obtain⟨w1,af,ak,au,aN⟩:=nA w 16 f 22;obtain⟨w2,ag,aD,ai,aA⟩:=fw ak au 16 (λ_=>0) 264;have aI:=bn ag aN;obtain⟨w3,az,-,aU,eQ⟩:=o7 aD ai 16 (λ_=>0) 264;have aL:=bn az aA;have dw:=bn az aI;rw [aR]at af;rw [aR];clear au aN ai aA aI aR;go_enter Tryz.func196,Tryz.ntmps196;go_upto_region 2 with fail;rw [<-af,<-ag,<-az];clear af ag az ak aD;obtain⟨gT,eH⟩:=Le (w.heap.size+2);have hge:w.heap.size+2<=gT:=by omega
 have yh:w.heap.size+1+1=gT:=eH;rw [eH]at eQ;rw [yh];clear eH yh;go_wp2_with fail;go_loopw [4] (λi wr=> ∃n:Nat,n<=16/\i= .int .i64 n/\Ar wr w.heap.size 16 f/\Ar wr (w.heap.size+1) 16 (λ_=>0)/\Ar wr gT 16 (λm=>if 4*(m%4)+m/4<n then tr f m else 0)/\Below w.heap.size w wr) (λi _=>16-(intOf i).toNat);case atStart=>exact⟨0,Nat.zero_le _,rfl,dw,aL,eQ.ext (λ_ _=>by simp),aU⟩
 case round=>
  clear dw aL eQ aU;obtain⟨n,hn,rfl,hK,hR,hT,hB⟩:=hrel;by_cases hlt:n<16
  ·obtain⟨a,ha⟩:=Lv (n%4);obtain⟨b,hb⟩:=Lv (n/4);have a1:((n:Int)).tmod 4=(a:Int):=(by rw [Int.tmod_eq_emod_of_nonneg (by omega)];omega);have a2:(n:Int)%4=(a:Int):=(by omega);have a3:IntKind.i64.wrap (a:Int)=(a:Int):=fO _ (by omega) (by omega);have b1:((n:Int)).tdiv 4=(b:Int):=(by rw [Int.tdiv_eq_ediv_of_nonneg (by omega)];omega);have b2:(n:Int)/4=(b:Int):=(by omega);have b3:IntKind.i64.wrap (b:Int)=(b:Int):=fO _ (by omega) (by omega);have i1:(a:Int)<4:=(by omega);have i2:(b:Int)<4:=(by omega);have i3:(n:Int)<16:=(by omega);obtain⟨c0,_⟩:=hK n hlt;obtain⟨c1,f1⟩:=hT (a*4+b) (by omega);have bG:=(hT.set (j:=a*4+b) (v:=f n) (by omega) rfl).ext (λm hm=>akJ f n m a b ha hb hlt hm);have aI:=hK.far (p:=⟨gT,a*4+b,none⟩) (by simp;omega) (.int .u8 (f n:Nat));have aA:=hR.far (p:=⟨gT,a*4+b,none⟩) (by simp;omega) (.int .u8 (f n:Nat));have aF:=hB.setCell (p:=⟨gT,a*4+b,none⟩) (by simp;omega) (.int .u8 (f n:Nat));clear hT hK hR hB ha hb;go_wp2_with fail;refine wp_region_noPanic ?_
   go_big_region
   refine NoPanic.normal ?_;go_wp2_with fail;go_roundw;case rel=>exact⟨n+1,by omega,by go_num,aI.drew,aA.drew,bG.drew,aF.drew⟩
   case measure=>simp [intOf];omega
  ·obtain rfl:n=16:=by omega
   have bG:=hT.ext (f':=tr f) (λj hj=>by rw [if_pos (by omega)]);clear hT;go_wp2_with (first
    |(refine bB rfl _ _ rfl _ _ _ rfl bG Tryz.nO (fA _) ?_)
    |(refine bC rfl _ _ _ rfl _ _ _ (tr f) rfl rfl hR (fA _) ?_;intro w8 bg aY _ _))
   refine dU rfl rfl bg Tryz.nO (fA _) rfl ⟨rfl,?_⟩;exact hB.trans (aY.mono (by omega))
end
section
open Go.RowKit
theorem akK (f:Nat->Nat) (w:World):
  Calls Tryz.prog 200 #[.agg (ae 16 f).toArray] w λe w'=>e= .returned (.agg (ae 16 (tr f)).toArray)/\Below w.heap.size w w':=by
 have hz:=jf;obtain⟨kA,aR⟩:=Le ((ae 16 f).toArray);obtain⟨w1,af,ak,au,aN⟩:=nA w 16 f 264;obtain⟨w2,ag,aD,ai,aA⟩:=fw ak au 16 (λ_=>0) 22;have aI:=bn ag aN;obtain⟨w3,az,-,aU,eQ⟩:=o7 aD ai 16 (λ_=>0) 22;have aL:=bn az aA;have dw:=bn az aI;rw [aR]at af;rw [aR];clear au aN ai aA aI aR;go_enter Tryz.func200,Tryz.ntmps200;go_upto_region 2 with fail;rw [<-af,<-ag,<-az];clear af ag az ak aD;obtain⟨gT,eH⟩:=Le (w.heap.size+2);have hge:w.heap.size+2<=gT:=by omega
 have yh:w.heap.size+1+1=gT:=eH;rw [eH]at eQ;rw [yh];clear eH yh;go_wp2_with fail;go_loopw [4] (λi wr=> ∃n:Nat,n<=16/\i= .int .i64 n/\Ar wr w.heap.size 16 f/\Ar wr (w.heap.size+1) 16 (λ_=>0)/\Ar wr gT 16 (λm=>if m<n then tr f m else 0)/\Below w.heap.size w wr) (λi _=>16-(intOf i).toNat);case atStart=>exact⟨0,Nat.zero_le _,rfl,dw,aL,eQ.ext (λ_ _=>rfl),aU⟩
 case round=>
  clear dw aL eQ aU;obtain⟨n,hn,rfl,hK,hR,hT,hB⟩:=hrel;by_cases hlt:n<16
  ·obtain⟨a,ha⟩:=Lv (n%4);obtain⟨b,hb⟩:=Lv (n/4);have a1:((n:Int)).tmod 4=(a:Int):=(by rw [Int.tmod_eq_emod_of_nonneg (by omega)];omega);have a2:(n:Int)%4=(a:Int):=(by omega);have a3:IntKind.i64.wrap (a:Int)=(a:Int):=fO _ (by omega) (by omega);have b1:((n:Int)).tdiv 4=(b:Int):=(by rw [Int.tdiv_eq_ediv_of_nonneg (by omega)];omega);have b2:(n:Int)/4=(b:Int):=(by omega);have b3:IntKind.i64.wrap (b:Int)=(b:Int):=fO _ (by omega) (by omega);have i1:(a:Int)<4:=(by omega);have i2:(b:Int)<4:=(by omega);have i3:(n:Int)<16:=(by omega);obtain⟨c0,_⟩:=hK (a*4+b) (by omega);have htr:f (a*4+b)=tr f n:=(by rw [tr,ha,hb,Nat.mul_comm]);rw [htr]at c0;obtain⟨c1,f1⟩:=hT n hlt;generalize hX:tr f n=X at*;have bG:=(hT.set (j:=n) (v:=X) (by omega) rfl).ext (f':=λm=>if m<n+1 then tr f m else 0) (λm hm=>by rw [<-hX];exact Io (tr f) n m);have aI:=hK.far (p:=⟨gT,n,none⟩) (by simp;omega) (.int .u8 (X:Nat));have aA:=hR.far (p:=⟨gT,n,none⟩) (by simp;omega) (.int .u8 (X:Nat));have aF:=hB.setCell (p:=⟨gT,n,none⟩) (by simp;omega) (.int .u8 (X:Nat));clear hT hK hR hB ha hb htr hX;go_wp2_with fail;go_roundw;case rel=>exact⟨n+1,by omega,by go_num,aI,aA,bG,aF⟩
   case measure=>simp [intOf];omega
  ·obtain rfl:n=16:=by omega
   have bG:=hT.ext (f':=tr f) (λj hj=>by rw [if_pos (by omega)]);clear hT;go_wp2_with (first
    |(refine bB rfl _ _ rfl _ _ _ rfl bG Tryz.aM (ay _) ?_)
    |(refine bC rfl _ _ _ rfl _ _ _ (tr f) rfl rfl hR (ay _) ?_;intro w8 bg aY _ _))
   refine dU rfl rfl bg Tryz.aM (ay _) rfl ⟨rfl,?_⟩;exact hB.trans (aY.mono (by omega))
end
section
open Go.RowKit
theorem mid_step (F f:Nat->Nat) (o m:Nat):(if m=o then F o else(if m<o then F m else f m))=if m<o+1 then F m else f m:=by
 by_cases h:m=o
 ·rw [if_pos h,if_pos (by omega),h]
 ·rw [if_neg h];by_cases h2:m<o
  ·rw [if_pos h2,if_pos (by omega)]
  ·rw [if_neg h2,if_neg (by omega)]
theorem akL (f:Nat->Nat) (w:World) (hf:aj f):
  Calls Tryz.prog 198 #[.agg (ae 16 f).toArray,.agg zX] w λe w'=>e= .returned (.agg (ae 16 (aZ f)).toArray)/\Below w.heap.size w w':=by
 have hz:=zZ;obtain⟨kA,aR⟩:=Le ((ae 16 f).toArray);obtain⟨w1,af,ak,au,BC⟩:=nA w 16 f 264;obtain⟨w2,ag⟩:=Lv (w1.alloc (.cells zX 33));have aD:=uN ag ak;have ai:=Bm ag au;have ic:Ar w2 (w.heap.size+1) 256 sb:=by rw [ag,<-ak];exact Ar.new w1 256 sb _
 have kU:=bn ag BC;obtain⟨w3,az,-,aU,aL⟩:=o7 aD ai 16 (λ_=>0) 264;have qG:=bn az ic;have jK:=bn az kU;rw [aR]at af;rw [aR];clear au BC ai ic kU aR;go_enter Tryz.func198,Tryz.ntmps198;go_upto_region 1 with fail;rw [<-af,<-ag,<-az];clear af ag az ak aD;obtain⟨gR,hgR⟩:=Le (w.heap.size+2);have hge:w.heap.size+2<=gR:=by omega
 have rA:w.heap.size+1+1=gR:=hgR;rw [hgR]at aL;rw [rA];clear hgR rA;obtain⟨bA,y7⟩:=Le (zX);rw [y7];clear y7;go_wp2_with fail;go_loopw [5] (λi wr=> ∃r:Nat,r<=4/\i= .int .i64 r/\Ar wr w.heap.size 16 (λm=>if m<4*r then aZ f m else f m)/\Ar wr (w.heap.size+1) 256 sb/\Ar wr gR 16 (λ_=>0)/\Below w.heap.size w wr) (λi _=>4-(intOf i).toNat);case atStart=>exact⟨0,Nat.zero_le _,rfl,jK.ext (λ_ _=>rfl),qG,aL,aU⟩
 case round=>
  clear jK qG aL aU;obtain⟨r,hr,rfl,hG,hX,hR,hB⟩:=hrel;by_cases hlt:r<4
  ·have i1:(r:Int)<4:=(by omega);have BD:Ar wr w.heap.size 16 (λm=>if m<4*r+0 then aZ f m else f m):=hG;clear hG;go_wp2_with fail;obtain⟨wo,rfl⟩:=Lv (wr);go_loopw [6] (λi wr=> ∃c:Nat,c<=4/\i= .int .i64 c/\Ar wr w.heap.size 16 (λm=>if m<4*r+c then aZ f m else f m)/\Ar wr (w.heap.size+1) 256 sb/\Ar wr gR 16 (λ_=>0)/\Below w.heap.size w wr) (λi _=>4-(intOf i).toNat);case atStart=>exact⟨0,Nat.zero_le _,rfl,BD,hX,hR,hB⟩
   case round=>
    clear BD hX hR hB;obtain⟨c,hc,rfl,hG,hX,hR,hB⟩:=hrel;by_cases hlc:c<4
    ·obtain⟨o,ho⟩:=Lv (r*4+c);have i2:(c:Int)<4:=(by omega);have hfo:=hf o (by omega);obtain⟨c0,f0⟩:=hG o (by omega);dsimp only at c0;rw [if_neg (by omega),ho]at c0;rw [ho]at f0;obtain⟨c1,_⟩:=hX (f (r*4+c)) (by rw [<-ho];exact hfo);have i3:((f (r*4+c):Nat):Int)<256:=(by rw [<-ho];omega);have e1:4*r+c=o:=(by omega);have kU:=(hG.set (j:=r*4+c) (v:=sb (f (r*4+c))) (by omega) rfl).ext (f':=λm=>if m<4*r+(c+1)then aZ f m else f m) (λm _=>by
      rw [show 4*r+(c+1)=o+1 by omega,e1,<-ho];exact mid_step (aZ f) f o m)
     have ic:=hX.far (p:=⟨w.heap.size,r*4+c,none⟩) (by simp) (.int .u8 (sb (f (r*4+c)):Nat));have aA:=hR.far (p:=⟨w.heap.size,r*4+c,none⟩) (by simp;omega) (.int .u8 (sb (f (r*4+c)):Nat));have aF:=hB.setCell (p:=⟨w.heap.size,r*4+c,none⟩) (by simp) (.int .u8 (sb (f (r*4+c)):Nat));clear hG hX hR hB ho hfo e1;generalize f (r*4+c)=x at*;go_wp2_with fail;refine wp_region_noPanic ?_
     go_big_region
     refine NoPanic.normal ?_;go_wp2_with fail;go_roundw;case rel=>exact⟨c+1,by omega,by go_num,kU.drew,ic.drew,aA.drew,aF.drew⟩
     case measure=>simp [intOf];omega
    ·obtain rfl:c=4:=by omega
     go_wp2_with fail;go_roundw;case rel=>exact⟨r+1,by omega,by go_num,hG,hX,hR,hB⟩
     case measure=>simp [intOf];omega
  ·obtain rfl:r=4:=by omega
   have kU:=hG.ext (f':=aZ f) (λj hj=>by rw [if_pos (by omega)]);clear hG;go_wp2_with (first
    |(refine bB rfl _ _ rfl _ _ _ rfl kU Tryz.nO (fA _) ?_)
    |(refine bC rfl _ _ _ rfl _ _ _ (aZ f) rfl rfl hR (fA _) ?_;intro w8 bg aY _ _))
   refine dU rfl rfl bg Tryz.nO (fA _) rfl ⟨rfl,?_⟩;exact hB.trans (aY.mono (by omega))
end
section
open Go.RowKit
theorem akM (f k:Nat->Nat) (w:World) (hf:aj f) (hk:aj k):
  Calls Tryz.prog 195 #[.agg (ae 16 f).toArray,.agg (ae 16 k).toArray] w λe w'=>e= .returned (.agg (ae 16 (ah f (tr k))).toArray)/\Below w.heap.size w w':=by
 have hz:=zZ;obtain⟨kA,aR⟩:=Le ((ae 16 f).toArray);obtain⟨kB,hkB⟩:=Le ((ae 16 k).toArray);obtain⟨w1,af,ak,au,BC⟩:=nA w 16 f 264;obtain⟨w2,ag,aD,ai,ic⟩:=fw ak au 16 k 22;have kU:=bn ag BC;obtain⟨w3,az,-,aU,aL⟩:=o7 aD ai 16 (λ_=>0) 264;have qG:=bn az ic;have jK:=bn az kU;rw [aR]at af;rw [hkB]at ag;rw [aR,hkB];clear au BC ai ic kU aR hkB;go_enter Tryz.func195,Tryz.ntmps195;go_upto_region 1 with fail;rw [<-af,<-ag,<-az];clear af ag az ak aD;obtain⟨gR,hgR⟩:=Le (w.heap.size+2);have hge:w.heap.size+2<=gR:=by omega
 have rA:w.heap.size+1+1=gR:=hgR;rw [hgR]at aL;rw [rA];clear hgR rA;go_wp2_with (refine bB rfl _ _ rfl _ _ _ rfl qG Tryz.aM (ay _) ?_);refine(QB k _).mono ?_;rintro e w4 ⟨rfl,k4⟩;have YN:=jK.to (by omega) k4;have dO:=aL.to (by omega) k4;have il:=aU.trans (k4.mono aU.size);clear jK aL qG aU k4;obtain⟨gT,eH⟩:=Le (w4.heap.size);have Gt:gR<gT:=by rw [<-eH];exact dO.lt (by omega)
 have kR:Ar (w4.alloc (.cells (ae 16 λ_=>0).toArray 264)) gT 16 (λ_=>0):=by rw [<-eH];exact Ar.new w4 16 _ _
 have YO:Ar (w4.alloc (.cells (ae 16 λ_=>0).toArray 264)) w.heap.size 16 f:=YN.alloc (by omega) _;have eY:Ar (w4.alloc (.cells (ae 16 λ_=>0).toArray 264)) gR 16 (λ_=>0):=dO.alloc (by omega) _;have kv:Below w.heap.size w (w4.alloc (.cells (ae 16 λ_=>0).toArray 264)):=il.alloc il.size _;clear YN dO il;go_upto_region 2 with (refine bC rfl _ _ _ rfl _ _ _ (tr k) rfl rfl kR (fA _) ?_;intro w6 Hm jJ QE GA);have QF:=GA _ _ _ (by omega) YO;have dV:=GA _ _ _ (by omega) eY;have FR:=kv.trans (jJ.mono (by omega));clear kR YO eY kv jJ QE GA eH;try dsimp only [Act.put]
 have hkt:aj (tr k):=λj hj=>hk _ (by omega);obtain⟨K,hK⟩: ∃K:Nat->Nat,K=tr k:=⟨_,rfl⟩;rw [<-hK]at Hm hkt;rw [<-hK];have HK:=Hi hK;clear hk hK;go_wp2_with fail;go_loopw [6] (λi wr=> ∃r:Nat,r<=4/\i= .int .i64 r/\Ar wr w.heap.size 16 (λm=>if m<4*r then ah f K m else f m)/\Ar wr gT 16 K/\Ar wr gR 16 (λ_=>0)/\Below w.heap.size w wr) (λi _=>4-(intOf i).toNat);case atStart=>exact⟨0,Nat.zero_le _,rfl,QF.ext (λ_ _=>rfl),Hm,dV,FR⟩
 case round=>
  clear QF Hm dV FR;obtain⟨r,hr,rfl,hG,hX,hR,hB⟩:=hrel;by_cases hlt:r<4
  ·have i1:(r:Int)<4:=(by omega);have BD:Ar wr w.heap.size 16 (λm=>if m<4*r+0 then ah f K m else f m):=hG;clear hG;go_wp2_with fail;obtain⟨wo,rfl⟩:=Lv (wr);go_loopw [7] (λi wr=> ∃c:Nat,c<=4/\i= .int .i64 c/\Ar wr w.heap.size 16 (λm=>if m<4*r+c then ah f K m else f m)/\Ar wr gT 16 K/\Ar wr gR 16 (λ_=>0)/\Below w.heap.size w wr) (λi _=>4-(intOf i).toNat);case atStart=>exact⟨0,Nat.zero_le _,rfl,BD,hX,hR,hB⟩
   case round=>
    clear BD hX hR hB;obtain⟨c,hc,rfl,hG,hX,hR,hB⟩:=hrel;by_cases hlc:c<4
    ·obtain⟨o,ho⟩:=Lv (r*4+c);have i2:(c:Int)<4:=(by omega);have hfo:=hf o (by omega);have hko:=hkt o (by omega);obtain⟨c0,f0⟩:=hG o (by omega);dsimp only at c0;rw [if_neg (by omega),ho]at c0;rw [ho]at f0;obtain⟨c1,_⟩:=hX o (by omega);rw [ho]at c1;have e1:4*r+c=o:=(by omega);have sZ:bits BinOp.xor IntKind.u8 ((f (r*4+c):Nat):Int) ((K (r*4+c):Nat):Int)=((ah f K (r*4+c):Nat):Int):=(by rw [<-ho];exact mo _ _ hfo hko);have kU:=(hG.set (j:=r*4+c) (v:=ah f K (r*4+c)) (by omega) rfl).ext (f':=λm=>if m<4*r+(c+1)then ah f K m else f m) (λm _=>by
      rw [show 4*r+(c+1)=o+1 by omega,e1,<-ho];exact mid_step (ah f K) f o m)
     have ic:=hX.far (p:=⟨w.heap.size,r*4+c,none⟩) (by simp;omega) (.int .u8 (ah f K (r*4+c):Nat));have aA:=hR.far (p:=⟨w.heap.size,r*4+c,none⟩) (by simp;omega) (.int .u8 (ah f K (r*4+c):Nat));have aF:=hB.setCell (p:=⟨w.heap.size,r*4+c,none⟩) (by simp) (.int .u8 (ah f K (r*4+c):Nat));clear hG hX hR hB ho hfo hko e1;generalize ah f K (r*4+c)=z at*;generalize f (r*4+c)=x at*;generalize K (r*4+c)=y at*;go_wp2_with fail;refine wp_region_noPanic ?_
     go_big_region
     refine NoPanic.normal ?_;go_wp2_with fail;go_roundw;case rel=>exact⟨c+1,by omega,by go_num,kU.drew,ic.drew,aA.drew,aF.drew⟩
     case measure=>simp [intOf];omega
    ·obtain rfl:c=4:=by omega
     go_wp2_with fail;go_roundw;case rel=>exact⟨r+1,by omega,by go_num,hG,hX,hR,hB⟩
     case measure=>simp [intOf];omega
  ·obtain rfl:r=4:=by omega
   have kU:=hG.ext (f':=ah f K) (λj hj=>by rw [if_pos (by omega)]);clear hG;go_wp2_with (first
    |(refine bB rfl _ _ rfl _ _ _ rfl kU Tryz.nO (fA _) ?_)
    |(refine bC rfl _ _ _ rfl _ _ _ (ah f K) rfl rfl hR (fA _) ?_;intro w8 bg aY _ _))
   refine dU rfl rfl bg Tryz.nO (fA _) rfl ⟨by rw [HK.out],?_⟩;exact hB.trans (aY.mono (by omega))
end
section
open Go.RowKit
def xD (f:Nat->Nat) (r n m:Nat):Nat:=if m/4<r then f (m/4*4+(m%4+m/4)%4)else if m/4=r then f (r*4+(m%4+n)%4)else f m
theorem akN (f:Nat->Nat) (r m:Nat):xD f r r m=xD f (r+1) 0 m:=by
 unfold xD;by_cases h1:m/4<r
 ·rw [if_pos h1,if_pos (by omega)]
 ·rw [if_neg h1];by_cases h2:m/4=r
  ·rw [if_pos h2,if_pos (by omega),h2]
  ·rw [if_neg h2,if_neg (by omega)];by_cases h3:m/4=r+1
   ·rw [if_pos h3];congr 1;omega
   ·rw [if_neg h3]
theorem akO (f:Nat->Nat) (m:Nat) (hm:m<16):f m=xD f 1 0 m:=by
 unfold xD;by_cases h1:m/4<1
 ·rw [if_pos h1];congr 1;omega
 ·rw [if_neg h1];by_cases h2:m/4=1
  ·rw [if_pos h2];congr 1;omega
  ·rw [if_neg h2]
theorem akP (f:Nat->Nat) (m:Nat) (hm:m<16):xD f 4 0 m=tr (bf (tr f)) m:=by
 have H: ∀m,m<16->m/4*4+(m%4+m/4)%4=4*((4*(m%4)+m/4+4*((4*(m%4)+m/4)%4))%16%4)+(4*(m%4)+m/4+4*((4*(m%4)+m/4)%4))%16/4:=by decide
 unfold xD tr bf;rw [if_pos (by omega),H m hm]
theorem ac9 (f:Nat->Nat) (r n k:Nat) (hk:k<4):xD f r n (r*4+k)=f (r*4+(k+n)%4):=by
 unfold xD;rw [if_neg (by omega),if_pos (by omega)];congr 1;omega
theorem akQ (f:Nat->Nat) (r n m:Nat):
  (if m=r*4+3 then f (r*4+n%4)else if m=r*4+2 then f (r*4+(3+n)%4)else if m=r*4+1 then f (r*4+(2+n)%4)else if m=r*4 then f (r*4+(1+n)%4)else xD f r n m)=xD f r (n+1) m:=by
 have h: ∀k,k<4->m=r*4+k->xD f r (n+1) m=f (r*4+(k+(n+1))%4):=λk hk e=>by rw [e];exact ac9 f r (n+1) k hk
 by_cases h3:m=r*4+3
 ·rw [if_pos h3,h 3 (by omega) h3];congr 1;omega
 rw [if_neg h3];by_cases h2:m=r*4+2
 ·rw [if_pos h2,h 2 (by omega) h2];congr 1;omega
 rw [if_neg h2];by_cases h1:m=r*4+1
 ·rw [if_pos h1,h 1 (by omega) h1];congr 1;omega
 rw [if_neg h1];by_cases h0:m=r*4
 ·rw [if_pos h0,h 0 (by omega) h0];congr 1;omega
 rw [if_neg h0];unfold xD;by_cases h4:m/4<r
 ·rw [if_pos h4,if_pos h4]
 ·rw [if_neg h4,if_neg h4,if_neg (by omega),if_neg (by omega)]
theorem Ar.akR {w:World} {g n o v0 v1 v2 v3:Nat} {f:Nat->Nat} (h:Ar w g n f) (ho:o+3<n):
  Ar ((((w.setCell ⟨g,o,none⟩ (.int .u8 (v0:Int))).setCell ⟨g,o+1,none⟩ (.int .u8 (v1:Int))).setCell ⟨g,o+2,none⟩ (.int .u8 (v2:Int))).setCell ⟨g,o+3,none⟩ (.int .u8 (v3:Int))) g n
   (λi=>if i=o+3 then v3 else if i=o+2 then v2 else if i=o+1 then v1 else if i=o then v0 else f i):=
 (((h.set (v:=v0) (by omega) rfl).set (v:=v1) (by omega) rfl).set (v:=v2) (by omega) rfl).set (v:=v3) (by omega) rfl
theorem Ar.akS {w:World} {g g' n o o1 o2 o3:Nat} {v0 v1 v2 v3:Value} {f:Nat->Nat} (h:Ar w g n f) (hg:g'≠g):
  Ar ((((w.setCell ⟨g',o,none⟩ v0).setCell ⟨g',o1,none⟩ v1).setCell ⟨g',o2,none⟩ v2).setCell ⟨g',o3,none⟩ v3) g n f:=
 (((h.far (p:=⟨g',o,none⟩) hg _).far (p:=⟨g',o1,none⟩) hg _).far (p:=⟨g',o2,none⟩) hg _).far (p:=⟨g',o3,none⟩) hg _
theorem akT {B:Nat} {a w:World} {g' o o1 o2 o3:Nat} {v0 v1 v2 v3:Value} (h:Below B a w) (hg:B<=g'):
  Below B a ((((w.setCell ⟨g',o,none⟩ v0).setCell ⟨g',o1,none⟩ v1).setCell ⟨g',o2,none⟩ v2).setCell ⟨g',o3,none⟩ v3):=
 (((h.setCell (p:=⟨g',o,none⟩) hg _).setCell (p:=⟨g',o1,none⟩) hg _).setCell (p:=⟨g',o2,none⟩) hg _).setCell (p:=⟨g',o3,none⟩) hg _
theorem akU (f:Nat->Nat) (w:World) (hf:aj f):
  Calls Tryz.prog 197 #[.agg (ae 16 f).toArray] w λe w'=>e= .returned (.agg (ae 16 (tr (bf (tr f)))).toArray)/\Below w.heap.size w w':=by
 have hz:=zZ;obtain⟨kA,aR⟩:=Le ((ae 16 f).toArray);obtain⟨w1,af,ak,au,BC⟩:=nA w 16 f 264;obtain⟨w3,az,-,aU,aL⟩:=fw ak au 16 (λ_=>0) 264;have jK:=bn az BC;rw [aR]at af;rw [aR];clear au BC aR;go_enter Tryz.func197,Tryz.ntmps197;go_upto_region 1 with fail;rw [<-af,<-az];clear af az ak;go_wp2_with fail;go_loopw [3] (λi wr=> ∃r:Nat,1<=r/\r<=4/\i= .int .i64 r/\Ar wr w.heap.size 16 (xD f r 0)/\Ar wr (w.heap.size+1) 16 (λ_=>0)/\Below w.heap.size w wr) (λi _=>4-(intOf i).toNat);case atStart=>exact⟨1,by omega,by omega,rfl,jK.ext (akO f),aL,aU⟩
 case round=>
  clear jK aL aU;obtain⟨r,pM,hr,rfl,hG,hR,hB⟩:=hrel;by_cases hlt:r<4
  ·have i1:(r:Int)<4:=(by omega);go_wp2_with fail;obtain⟨wo,rfl⟩:=Lv (wr);go_loopw [4] (λi wr=> ∃n:Nat,n<=r/\i= .int .i64 n/\Ar wr w.heap.size 16 (xD f r n)/\Ar wr (w.heap.size+1) 16 (λ_=>0)/\Below w.heap.size w wr) (λi _=>r-(intOf i).toNat);case atStart=>exact⟨0,Nat.zero_le _,rfl,hG,hR,hB⟩
   case round=>
    clear hG hR hB;obtain⟨n,hn,rfl,hG,hR,hB⟩:=hrel;by_cases hlc:n<r
    ·have row: ∀k,k<4-> ∀j,j=r*4+k->wr.cell? ⟨w.heap.size,j,none⟩=some (.int .u8 (f (r*4+(k+n)%4):Nat))/\wr.frozen? ⟨w.heap.size,j,none⟩=false:=λk hk j hj=>by
      rw [hj,<-ac9 f r n k hk];exact hG (r*4+k) (by omega)
     obtain⟨c0,f0⟩:=row 0 (by omega) (r*4) (by omega);obtain⟨c1,f1⟩:=row 1 (by omega) (r*4+1) (by omega);obtain⟨c2,f2⟩:=row 2 (by omega) (r*4+2) (by omega);obtain⟨c3,f3⟩:=row 3 (by omega) (r*4+3) (by omega);rw [Nat.zero_add]at c0;have kU:=(hG.akR (o:=r*4) (v0:=f (r*4+(1+n)%4)) (v1:=f (r*4+(2+n)%4)) (v2:=f (r*4+(3+n)%4)) (v3:=f (r*4+n%4)) (by omega)).ext (λm _=>akQ f r n m);have aA:=hR.akS (g':=w.heap.size) (o:=r*4) (o1:=r*4+1) (o2:=r*4+2) (o3:=r*4+3) (v0:= .int .u8 (f (r*4+(1+n)%4):Nat)) (v1:= .int .u8 (f (r*4+(2+n)%4):Nat)) (v2:= .int .u8 (f (r*4+(3+n)%4):Nat)) (v3:= .int .u8 (f (r*4+n%4):Nat)) (by omega);have aF:=akT (B:=w.heap.size) hB (g':=w.heap.size) (o:=r*4) (o1:=r*4+1) (o2:=r*4+2) (o3:=r*4+3) (v0:= .int .u8 (f (r*4+(1+n)%4):Nat)) (v1:= .int .u8 (f (r*4+(2+n)%4):Nat)) (v2:= .int .u8 (f (r*4+(3+n)%4):Nat)) (v3:= .int .u8 (f (r*4+n%4):Nat)) (by omega);clear hG hR hB row;generalize f (r*4+(1+n)%4)=x1 at*;generalize f (r*4+(2+n)%4)=x2 at*;generalize f (r*4+(3+n)%4)=x3 at*;generalize f (r*4+n%4)=x0 at*;go_wp2_with fail;refine wp_region_noPanic ?_
     go_big_region
     refine NoPanic.normal ?_;go_wp2_with fail;go_roundw;case rel=>exact⟨n+1,by omega,by go_num,kU.drew,aA.drew,aF.drew⟩
     case measure=>simp [intOf];omega
    ·obtain rfl:n=r:=by omega
     have kU:=hG.ext (λm _=>akN f n m);clear hG;go_wp2_with fail;go_roundw;case rel=>exact⟨n+1,by omega,by omega,by go_num,kU,hR,hB⟩
     case measure=>simp [intOf];omega
  ·obtain rfl:r=4:=by omega
   have kU:=hG.ext (λj hj=>akP f j hj);clear hG;go_wp2_with (first
    |(refine bB rfl _ _ rfl _ _ _ rfl kU Tryz.nO (fA _) ?_)
    |(refine bC rfl _ _ _ rfl _ _ _ (tr (bf (tr f))) rfl rfl hR (fA _) ?_;intro w8 bg aY _ _))
   refine dU rfl rfl bg Tryz.nO (fA _) rfl ⟨rfl,?_⟩;exact hB.trans (aY.mono (by omega))
end
section
open Go.RowKit
def Cr (f:Nat->Nat) (m:Nat):Nat:=
 ((mul 2 (f m)^^^mul 3 (f ((m/4+1)%4*4+m%4)))^^^f ((m/4+2)%4*4+m%4))^^^f ((m/4+3)%4*4+m%4)
theorem akV (f:Nat->Nat) (hf:aj f) (m:Nat) (hm:m<16):Cr f m=tr (dm (tr f)) m:=by
 have H1: ∀m,m<16->4*((4*(m%4)+m/4)%4)+(4*(m%4)+m/4)/4=m:=by decide
 have H2: ∀k,k<4-> ∀m,m<16->4*(((4*(m%4)+m/4)/4*4+(4*(m%4)+m/4+k)%4)%4)+((4*(m%4)+m/4)/4*4+(4*(m%4)+m/4+k)%4)/4=(m/4+k)%4*4+m%4:=by decide
 unfold Cr dm za tr;dsimp only;rw [H1 m hm,H2 1 (by omega) m hm,H2 2 (by omega) m hm,H2 3 (by omega) m hm,Qn _ (hf _ (by omega)),Qn _ (hf _ (by omega))]
def D9 (f:Nat->Nat) (c r m:Nat):Nat:=if m%4<c\/m%4=c/\m/4<r then Cr f m else 0
theorem akW (f:Nat->Nat) (c m:Nat) (hm:m<16):D9 f c 4 m=D9 f (c+1) 0 m:=by
 unfold D9;by_cases h:m%4<c\/m%4=c/\m/4<4
 ·rw [if_pos h,if_pos (by omega)]
 ·rw [if_neg h,if_neg (by omega)]
theorem akX (f:Nat->Nat) (c r m:Nat) (hc:c<4) (hr:r<4) (hm:m<16):(if m=r*4+c then Cr f (r*4+c)else D9 f c r m)=D9 f c (r+1) m:=by
 unfold D9;by_cases h:m=r*4+c
 ·rw [if_pos h,if_pos (by omega),h]
 ·rw [if_neg h];by_cases h2:m%4<c\/m%4=c/\m/4<r
  ·rw [if_pos h2,if_pos (by omega)]
  ·rw [if_neg h2,if_neg (by omega)]
theorem R7 {a b:Addr} {x y:Value} {W1 W W':World} (k:W.cell? a=some x/\W.cell? b=some y/\Base W1 W) (ha:a.block<W.heap.size) (hb:b.block<W.heap.size) (hl:Below W.heap.size W W'):
  W'.cell? a=some x/\W'.cell? b=some y/\Base W1 W':=⟨(hl.cell ha).trans k.1,(hl.cell hb).trans k.2.1,Base.step k.2.2 hl⟩
theorem vI {W:World} {g o:Nat} {x:Value} (h:W.cell? ⟨g,o,none⟩=some x):g<W.heap.size:=by
 rcases Nat.lt_or_ge g W.heap.size with h1|h1
 ·exact h1
 ·simp [World.cell?,Array.getElem?_eq_none h1]at h
theorem Gv (r kn:Nat) (k:Int) (q:Nat) (hk:k=(kn:Int)) (hr:r<4) (hkn:kn<4) (hq:q=(r+kn)%4):
  (IntKind.i64.wrap ((r:Int)+k)=(r:Int)+k/\wrap64 ((r:Int)+k)=(r:Int)+k)/\(((r:Int)+k).tmod 4=(q:Int)/\((r:Int)+k)%4=(q:Int))/\IntKind.i64.wrap (q:Int)=(q:Int)/\(q:Int)<4:=by
 subst hk;refine⟨⟨fO _ (by omega) (by omega),IntWalk.wrap64_in _ (by omega)⟩,⟨?_,by omega⟩,fO _ (by omega) (by omega),by omega⟩;rw [Int.tmod_eq_emod_of_nonneg (by omega)];omega
theorem akY (x:Nat) (w:World) (hx:x<256):Calls Tryz.prog 114 #[.int .u8 2,.int .u8 x] w λe w'=>e= .returned (.int .u8 (mul 2 x:Nat))/\Below w.heap.size w w':=Gu 2 x w (by omega) hx
theorem akZ (x:Nat) (w:World) (hx:x<256):Calls Tryz.prog 114 #[.int .u8 3,.int .u8 x] w λe w'=>e= .returned (.int .u8 (mul 3 x:Nat))/\Below w.heap.size w w':=Gu 3 x w (by omega) hx
theorem ak0 (f:Nat->Nat) (w:World) (hf:aj f):
  Calls Tryz.prog 199 #[.agg (ae 16 f).toArray] w λe w'=>e= .returned (.agg (ae 16 (tr (dm (tr f)))).toArray)/\Below w.heap.size w w':=by
 have hz:=zZ;obtain⟨kA,aR⟩:=Le ((ae 16 f).toArray);obtain⟨w1,af,ak,au,aN⟩:=nA w 16 f 264;obtain⟨w2,ag,aD,ai,aA⟩:=fw ak au 16 (λ_=>0) 264;have aI:=bn ag aN;obtain⟨w3,az,-,aU,eQ⟩:=o7 aD ai 16 (λ_=>0) 264;have aL:=bn az aA;have dw:=bn az aI;rw [aR]at af;rw [aR];clear au aN ai aA aI aR;go_enter Tryz.func199,Tryz.ntmps199;go_upto_region 2 with fail;rw [<-af,<-ag,<-az];clear af ag az ak aD;obtain⟨gT,eH⟩:=Le (w.heap.size+2);have hge:w.heap.size+2<=gT:=by omega
 have yh:w.heap.size+1+1=gT:=eH;rw [eH]at eQ;rw [yh];clear eH yh;have HF:=Hi hf;clear hf;go_wp2_with fail;go_loopw [4] (λi wr=> ∃c:Nat,c<=4/\i= .int .i64 c/\Ar wr w.heap.size 16 f/\Ar wr (w.heap.size+1) 16 (λ_=>0)/\Ar wr gT 16 (D9 f c 0)/\Below w.heap.size w wr) (λi _=>4-(intOf i).toNat);case atStart=>exact⟨0,Nat.zero_le _,rfl,dw,aL,eQ.ext (λ_ _=>by unfold D9;rw [if_neg (by omega)]),aU⟩
 case round=>
  clear dw aL eQ aU;obtain⟨c,hc,rfl,hK,hR,hT,hB⟩:=hrel;by_cases hlt:c<4
  ·have i1:(c:Int)<4:=(by omega);go_wp2_with fail;obtain⟨wo,rfl⟩:=Lv (wr);go_loopw [5] (λi wr=> ∃r:Nat,r<=4/\i= .int .i64 r/\Ar wr w.heap.size 16 f/\Ar wr (w.heap.size+1) 16 (λ_=>0)/\Ar wr gT 16 (D9 f c r)/\Below w.heap.size w wr) (λi _=>4-(intOf i).toNat);case atStart=>exact⟨0,Nat.zero_le _,rfl,hK,hR,hT,hB⟩
   case round=>
    clear hK hR hT hB;obtain⟨r,hr,rfl,hK,hR,hT,hB⟩:=hrel;by_cases hlr:r<4
    ·have i2:(r:Int)<4:=(by omega);obtain⟨r1,pM⟩:=Lv ((r+1)%4);obtain⟨c0,_⟩:=hK (r*4+c) (by omega);obtain⟨c1,_⟩:=hK (r1*4+c) (by omega);have l0:=HF.out (r*4+c) (by omega);have l1:=HF.out (r1*4+c) (by omega);have hgl:=vI c0;obtain⟨x0,dQ⟩:=Lv (f (r*4+c));obtain⟨x1,Ji⟩:=Lv (f (r1*4+c));rw [<-dQ]at c0 l0;rw [<-Ji]at c1 l1;have sZ:bits BinOp.xor IntKind.u8 ((mul 2 x0:Nat):Int) ((mul 3 x1:Nat):Int)=((mul 2 x0^^^mul 3 x1:Nat):Int):=mo _ _ (mul_lt _ _ (by omega)) (mul_lt _ _ (by omega));obtain⟨OY,Vp,Jj,L0,L1⟩:=jX dQ Ji pM l0 l1;obtain⟨⟨a1,a2⟩,⟨a3,a4⟩,a5,j1⟩:=Gv r 1 1 r1 rfl hlr (by decide) pM;clear dQ Ji pM l0 l1;go_wp2_with fail
     go_region_held3 (λW=>W.cell? ⟨w.heap.size,r*4+c,none⟩=some (.int .u8 (x0:Nat))/\W.cell? ⟨w.heap.size,r1*4+c,none⟩=some (.int .u8 (x1:Nat))/\Base wr W)
      (first|assumption|(exact⟨c0,c1,(Base.refl _).drew⟩))
      (first
      |(go_at_call 114;(with_reducible refine(akY _ _ ?_).mono ?_);(· exact L0.out);rintro e w6 ⟨rfl,jJ⟩;have hN:=R7 (by assumption) (vI (And.left (by assumption))) (vI (And.left (by assumption))) jJ)
      |(go_at_call 114;(with_reducible refine(akZ _ _ ?_).mono ?_);(· exact L1.out);rintro e w6 ⟨rfl,jJ⟩;have hN:=R7 (by assumption) (vI (And.left (by assumption))) (vI (And.left (by assumption))) jJ))
     have hH:Base wr w6:=(And.right (And.right (by assumption)));clear a1 a2 a3 a4 a5 j1 sZ;have fV:=hK.to (by decide) hH;have dV:=hR.to (by decide) hH;have nk:=hT.to (by decide) hH;have fK:=hB.trans (Below.mono hH hB.size);obtain⟨wz,hwz⟩:=Lv (w6);rw [<-hwz]at fV dV nk fK;rw [<-hwz];clear hwz hK hR hT hB c0 c1 hgl;obtain⟨p,hp⟩:=Lv (mul 2 x0^^^mul 3 x1);have hpl:p<256:=(by rw [hp];exact ku _ _ (mul_lt _ _ (by decide)) (mul_lt _ _ (by decide)));rw [<-hp];obtain⟨r2,kV⟩:=Lv ((r+2)%4);obtain⟨r3,rC⟩:=Lv ((r+3)%4);have o2:r2*4+c<16:=(by omega);have o3:r3*4+c<16:=(by omega);have o4:r*4+c<16:=(by omega);have e4:(r*4+c)/4=r:=(by omega);have e5:(r*4+c)%4=c:=(by omega);have g1:gT≠w.heap.size:=(by omega);have g2:gT≠w.heap.size+1:=(by omega);have g3:w.heap.size<=gT:=(by omega);obtain⟨q2,_⟩:=fV (r2*4+c) o2;obtain⟨q3,_⟩:=fV (r3*4+c) o3;obtain⟨q4,f4⟩:=nk (r*4+c) o4;have l2:=HF.out (r2*4+c) o2;have l3:=HF.out (r3*4+c) o3;have jR:(p^^^f (r2*4+c))^^^f (r3*4+c)=Cr f (r*4+c):=by
      unfold Cr;rw [e4,e5,hp,OY.out,Vp.out,Jj.out,kV,rC]
     have y2:bits BinOp.xor IntKind.u8 ((p:Nat):Int) ((f (r2*4+c):Nat):Int)=((p^^^f (r2*4+c):Nat):Int):=mo _ _ hpl l2;have y3:bits BinOp.xor IntKind.u8 ((p^^^f (r2*4+c):Nat):Int) ((f (r3*4+c):Nat):Int)=(((p^^^f (r2*4+c))^^^f (r3*4+c):Nat):Int):=mo _ _ (ku _ _ hpl l2) l3;rw [jR]at y3;have ig:=(nk.set (j:=r*4+c) (v:=Cr f (r*4+c)) o4 rfl).ext (λm hm=>akX f c r m hlt hlr hm);have dn:=fV.far (p:=⟨gT,r*4+c,none⟩) g1 (.int .u8 (Cr f (r*4+c):Nat));have bI:=dV.far (p:=⟨gT,r*4+c,none⟩) g2 (.int .u8 (Cr f (r*4+c):Nat));have bD:=fK.setCell (p:=⟨gT,r*4+c,none⟩) g3 (.int .u8 (Cr f (r*4+c):Nat));obtain⟨L9,Dx,FB,Y2⟩:=fU ig dn bI bD;obtain⟨⟨b1,b2⟩,⟨b3,b4⟩,b5,j2⟩:=Gv r 2 2 r2 rfl hlr (by decide) kV;obtain⟨⟨d1,d2⟩,⟨d3,d4⟩,d5,j3⟩:=Gv r 3 3 r3 rfl hlr (by decide) rC;clear jR hp kV rC fV dV nk fK hpl l2 l3 ig dn bI bD e4 e5 o2 o3 o4 g1 g2 g3;generalize Cr f (r*4+c)=z9 at*;generalize f (r2*4+c)=x2 at*;generalize f (r3*4+c)=x3 at*;generalize p^^^x2=z8 at*;go_wp2_with fail;refine wp_region_noPanic ?_
     go_big_region
     refine NoPanic.normal ?_;obtain⟨⟨a1,a2⟩,_⟩:=Gv r 1 1 _ rfl hlr (by decide) rfl;go_wp2_with fail;go_roundw;case rel=>clear a1 a2 b1 b2 b3 b4 b5 d1 d2 d3 d4 d5;exact⟨r+1,by omega,by go_num,Dx.out.drew,FB.out.drew,L9.out.drew,Y2.out.drew⟩
     case measure=>clear a1 a2 b1 b2 b3 b4 b5 d1 d2 d3 d4 d5;simp [intOf];omega
    ·obtain rfl:r=4:=by omega
     have bG:=hT.ext (λm hm=>akW f c m hm);clear hT;go_wp2_with fail;go_roundw;case rel=>exact⟨c+1,by omega,by go_num,hK,hR,bG,hB⟩
     case measure=>simp [intOf];omega
  ·obtain rfl:c=4:=by omega
   have bG:=hT.ext (f':=tr (dm (tr f))) (λj hj=>by unfold D9;rw [if_pos (by omega)];exact akV f HF.out j hj);clear hT;go_wp2_with (first
    |(refine bB rfl _ _ rfl _ _ _ rfl bG Tryz.nO (fA _) ?_)
    |(refine bC rfl _ _ _ rfl _ _ _ (tr (dm (tr f))) rfl rfl hR (fA _) ?_;intro w8 bg aY _ _))
   refine dU rfl rfl bg Tryz.nO (fA _) rfl ⟨rfl,?_⟩;exact hB.trans (aY.mono (by omega))
end
section
open Go.RowKit
def aX (e s:Nat->Nat) (j:Nat):Nat:=if j<176 then e j else s (j-176)
theorem Tryz.qa: ∃d,Tryz.prog.underlying 35=some d/\d.isRow=true:=by
 have h:(Tryz.prog.underlying 35).map (·.isRow)=some true:=by kernel_rfl
 cases hu:Tryz.prog.underlying 35 with
 |none=>rw [hu]at h;cases h
 |some d=>rw [hu]at h;exact⟨d,rfl,Option.some.inj h⟩
theorem Tryz.TS:(Tryz.prog.info? 35).map (λi=>(i.zero,i.size))=some (some (.agg (Array.replicate 432 (.int .u8 0))),432):=by kernel_rfl
theorem nE (f:Nat->Nat):(Tryz.prog.info? 35).map (·.size)=some (ae 432 f).length:=by rw [bz];exact(zero_of_info Tryz.TS).2
theorem TS (w:World):(zeroValue 35).run Tryz.prog w= .ok (.agg (ae 432 λ_=>0).toArray) w:=by
 rw [xI];exact(zero_of_info Tryz.TS).1 w
theorem ak1 (e s:Nat->Nat):Tryz.prog.built 35 [(0,.agg (ae 176 e).toArray),(1,.agg (ae 256 s).toArray)]=some (ae 432 (aX e s)).toArray:=by kernel_rfl
theorem ak2 (e:Nat->Nat) (w:World):(Instr.build 35 #[(0,.agg (ae 176 e).toArray),(1,.agg zX)]).run Tryz.prog w= .ok (.agg (ae 432 (aX e sb)).toArray) w:=
 run_build w _ _ _ (ak1 e sb)
theorem ak3 {P:Program} {fn:Func} {R:Ending->World->Prop} {a:Act} {w:World} {p:Tmp} {ty:TypeId} {g n:Nat} {f:Nat->Nat} {d:TypeDesc} (hr:fn.results= #[.cell p ty]) (hp:a.tmps.getD p undef= .pointer (some ⟨g,0,none⟩))
  (hA:Ar w g n f) (hu:P.underlying ty=some d) (hrow:d.isRow=true) (hi:(P.info? ty).map (·.size)=some (ae n f).length) (hd:a.defers= []) (hR:R (.returned (.agg (ae n f).toArray)) w):bodyPost P fn R .ret a w:=by
 refine bodyPost_ret (v:= .agg (ae n f).toArray) ?_ hd hR;have hp':a.tmps[p]?.getD undef= .pointer (some ⟨g,0,none⟩):=by simpa using hp
 simp only [results,hr];simp [hp',asAddr,run_loadVar_mid (P:=P) w g 0 ty (ae n f) _ hA.range hu hrow hi]
theorem aiK (f:Nat->Nat) (w:World) (hf:aj f):
  Calls Tryz.prog 30 #[.agg (ae 16 f).toArray] w λe w'=>e= .returned (.agg (ae 432 (aX (ek f) sb)).toArray)/\Below w.heap.size w w':=by
 have hz:=TS;obtain⟨kA,aR⟩:=Le ((ae 16 f).toArray);obtain⟨w1,af,ak,au,aN⟩:=nA w 16 f 22;obtain⟨w2,ag,-,ai,aA⟩:=fw ak au 432 (λ_=>0) 35;have aI:=bn ag aN;have HF:=Hi hf;rw [aR]at af;rw [aR];clear au aN hf aR;go_enter Tryz.func30,Tryz.ntmps30;go_upto_region 1 with fail;rw [<-af,<-ag];clear af ag ak;go_wp2_with (refine bB rfl _ _ rfl _ _ _ rfl aI Tryz.aM (ay _) ?_);refine(ak4 f HF.out _).mono ?_;rintro e w3 ⟨rfl,hq⟩;have aL:=aA.t hq;have aS:=Tq ai hq;clear aA ai aI hq;go_wp2_with fail;refine(aa9 _).mono ?_;rintro e w4 ⟨rfl,hq⟩;have dO:=aL.t hq;have fD:=Tq aS hq;clear aL aS hq;obtain⟨G,hG⟩: ∃G:Nat->Nat,G=aX (ek f) sb:=⟨_,rfl⟩;obtain⟨bA,y7⟩:=Le (zX);have hbd:=Hi (ak2 (ek f));rw [<-hG,y7]at hbd;rw [y7];have HG:=Hi hG;clear hG y7;obtain⟨d,hfs,hrow⟩:=Tryz.qa;obtain⟨HS,HW⟩:=aB hfs hrow;clear hfs hrow;go_wp2_with (first
  |(refine oH rfl _ _ rfl [(0,.agg (ae 176 (ek f)).toArray),(1,.agg bA)] rfl _ (hbd.out _) ?_)
  |(refine bC rfl _ _ _ rfl _ _ _ G rfl rfl dO (nE _) ?_;intro w8 bg aY _ _))
 refine ak3 rfl rfl bg HS.out HW.out (nE _) rfl ⟨by rw [HG.out],?_⟩;exact fD.trans (aY.mono (by omega))
end
section
open Go.RowKit
theorem Ld {X:Nat->Nat} (h:aj X):aj (tr X):=λj hj=>h _ (by omega)
theorem ak5 (X:Nat->Nat) (w:World) (h:aj X):
  Calls Tryz.prog 198 #[.agg (ae 16 (tr X)).toArray,.agg zX] w λe w'=>e= .returned (.agg (ae 16 (tr (aZ X))).toArray)/\Below w.heap.size w w':=akL (tr X) w (Ld h)
theorem MU (X:Nat->Nat) (w:World) (h:aj X):
  Calls Tryz.prog 197 #[.agg (ae 16 (tr X)).toArray] w λe w'=>e= .returned (.agg (ae 16 (tr (bf X))).toArray)/\Below w.heap.size w w':=by
 have e:=mh (n:=16) (λj hj=>(TM (nL (TN X))) j hj);have h1:=akU (tr X) w (Ld h)
 rwa [e]at h1
theorem ak6 (X:Nat->Nat) (w:World) (h:aj X):
  Calls Tryz.prog 199 #[.agg (ae 16 (tr X)).toArray] w λe w'=>e= .returned (.agg (ae 16 (tr (dm X))).toArray)/\Below w.heap.size w w':=by
 have e:ae 16 (tr (dm (tr (tr X))))=ae 16 (tr (dm X)):=mh (n:=16) (λj hj=>(TM (nK 2 3 1 1 (TN X))) j hj);have h1:=ak0 (tr X) w (Ld h)
 rwa [e]at h1
theorem Hu (X k:Nat->Nat) (w:World) (h:aj X) (hk:aj k):
  Calls Tryz.prog 195 #[.agg (ae 16 (tr X)).toArray,.agg (ae 16 k).toArray] w λe w'=>e= .returned (.agg (ae 16 (tr (ah X k))).toArray)/\Below w.heap.size w w':=akM (tr X) k w (Ld h) hk
theorem acY (X:Nat->Nat) (w:World):
  Calls Tryz.prog 200 #[.agg (ae 16 (tr X)).toArray] w λe w'=>e= .returned (.agg (ae 16 X).toArray)/\Below w.heap.size w w':=by
 have e:=mh (n:=16) (λj hj=>TN X j hj);have h1:=akK (tr X) w
 rwa [e]at h1
end
section
open Go.RowKit
noncomputable def ak7:Code:=((Tryz.f161.body.bind (yB 1)).getD .skip)
theorem ak8 (f b pk:Nat->Nat) (gE gC gR B:Nat) (jZ:ae 16 (λj=>pk (0+j))=ae 16 (rk f 0)) (hb:aj b) (h0l:aj (rk f 0)) {Q0:Exit->Act->World->Prop} {t0 t1 t4 t5 t6 t7 t8 t9 t10 t11 t12 t13 t14 t15 t16 t17 t18 t19 t20 t21 t22 t23 t24 t25 t26 t27 t28 t29 t30 t31 t32 t33:Value} {W0 W:World} (hlB:B<=gE) (ve:gE<gC) (jD:gC<gR)
  (hCW:Ar W gC 16 b) (xE:Ar W gR 16 (λ_=>0)) (Yh:Ar W gE 432 pk) (hBW:Below B W0 W)
  (hQ: ∀gT w9,gR<gT->Ar w9 gT 16 (tr (ah b (rk f 0)))->Ar w9 gR 16 (λ_=>0)->Ar w9 gE 432 pk->Below B W0 w9->Q0 .normal ⟨(t0::t1:: .pointer (some ⟨gE,0,none⟩):: .pointer (some ⟨gC,0,none⟩)::t4:: .pointer (some ⟨gT,0,none⟩)::t6:: .agg (ae 16 (b)).toArray:: .agg (ae 16 (tr b)).toArray:: .pointer (some ⟨gE,0,none⟩):: .pointer (some ⟨gE,0,none⟩):: .agg (ae 16 (rk f 0)).toArray:: .agg (ae 16 (tr (ah b (rk f 0)))).toArray::t13::t14::t15::t16::t17::t18::t19::t20::t21::t22::t23::t24::t25::t26::t27::t28::t29::t30::t31::t32::t33:: []).toArray,[]⟩ w9):
  Code.wp Tryz.prog ak7 Q0 ⟨(t0::t1:: .pointer (some ⟨gE,0,none⟩):: .pointer (some ⟨gC,0,none⟩)::t4::t5::t6::t7::t8::t9::t10::t11::t12::t13::t14::t15::t16::t17::t18::t19::t20::t21::t22::t23::t24::t25::t26::t27::t28::t29::t30::t31::t32::t33:: []).toArray,[]⟩ W:=by
 have hz:=zZ;have HQ:=Hi hQ;clear hQ;refine Code.wp_mono NoPanic.imp ?_
 conv=>arg 2;whnf
 refine wp_region_held_drew (S:=λW=>W.rangeAt gE 0 (ae 16 (rk f 0))) (by kernel_rfl) (by have q:=Yh.xB 0 16 (by omega);rw [World.rangeAt_drew];rwa [jZ]at q) (λaa=> ?_);have X6:=hCW.drew;have rU:=xE.drew;have XV:=Yh.drew;have hBd:=hBW.drew;clear hCW xE Yh hBW;generalize W.drew=Wd at*;refine ty 2 rfl ?_;refine ty 3 rfl ?_;refine tk 4 (.agg (ae 16 (rk f 0)).toArray) rfl (yieldsIf_load_mid (by rfl) _ _ rfl gE 0 rfl (ae 16 (rk f 0)) _ (λW hSw=>hSw) Tryz.aM rfl (ay _)) ?_;simp only [nr];refine uO 0 6 rfl rfl (λK hK=> ?_) (λK hK=> ?_)
 ·rw [if_pos (by rfl)];refine wp_load_mid _ _ rfl gC 0 rfl (ae 16 b) _ X6.range Tryz.aM rfl (ay _) ?_;refine hK.out _ _ aa (λaa=> ?_);clear hK K;try simp only [nr]
  refine uO 1 6 rfl rfl (λK hK=> ?_) (λK hK=> ?_)
  ·go_simp;refine(QB b _).mono ?_;rintro e v2 ⟨rfl,hq⟩;go_wp2_with fail;refine hK.out _ _ (FC aa hq) (λaa=> ?_);clear hK K;have YP:=X6.t hq;have En:=rU.t hq;have X7:=XV.t hq;have F5:=hBd.trans (hq.mono (by have:=XV.lt (by omega);omega));clear hq;try simp only [nr]
   refine uO 5 6 rfl rfl (λK hK=> ?_) (λK hK=> ?_)
   ·go_simp;refine(Hu b (rk f 0) _ hb h0l).mono ?_;rintro e v3 ⟨rfl,hq⟩;go_wp2_with fail;refine hK.out _ _ (FC aa hq) (λaa=> ?_);clear hK K;have Y3:=YP.t hq;have QG:=En.t hq;have YQ:=X7.t hq;have EX:=F5.trans (hq.mono (by have:=X7.lt (by omega);omega));clear hq;try simp only [nr]
    refine rd 6 rfl (λK hK=> ?_);obtain⟨Yi,X8⟩:=Le (v3.heap.size);have Zj:gR<Yi:=(by rw [<-X8];exact QG.lt (by omega));have Yj:=Y3.alloc (by omega) (.cells (ae 16 λ_=>0).toArray 264);have Yk:=QG.alloc (by omega) (.cells (ae 16 λ_=>0).toArray 264);have Yl:=YQ.alloc (by omega) (.cells (ae 16 λ_=>0).toArray 264);have Ya:=Ar.new v3 16 (λ_=>0) 264;have Ym:=EX.alloc (by have:=YQ.lt (by omega);omega) (.cells (ae 16 λ_=>0).toArray 264);rw [X8]at Ya;obtain⟨v4,Yn⟩:=Lv (v3.alloc (.cells (ae 16 λ_=>0).toArray 264));rw [<-Yn]at Yj Yk Yl Ya Ym;have Zk:=Yj;have TF:=Yk;have Yo:=Yl;have YR:=Ya;have Y4:=Ym;clear Yj Yk Yl Ya Ym;go_simp;try rw [X8]
    rw [<-Yn];refine hK.out _ _ (by have q:=Yo.xB 0 16 (by omega);rwa [jZ]at q) (λaa=> ?_);clear hK K Yn X8;try simp only [nr]
    refine rd 7 rfl (λK hK=> ?_);rw [if_pos (by rfl)];refine wp_store_mid _ _ _ rfl _ 0 _ rfl rfl (by rw [List.size_toArray,bz];exact YR.there) (by rw [List.size_toArray];exact fA _) (all_oneCell_toArray (dz 16 _)) ?_;refine hK.out _ _ (by have q:=Yo.apart (b:=Yi) (by omega) (ae 16 (tr (ah b (rk f 0)))) 0;have q2:=q.xB 0 16 (by omega);rwa [jZ]at q2) (λaa=> ?_);clear hK K;try simp only [Act.put]
    refine wpAnyH_done (by kernel_rfl) ?_ _;exact NoPanic.normal (HQ.out Yi _ (by omega) (YR.whole _) (TF.apart (by omega) _ _) (Yo.apart (by omega) _ _) (Y4.trans (Below.setCells (Below.refl _ _) (by omega) _ _)))
   ·obtain⟨Yp,Yb⟩:=Le (v2.heap.size);have Zl:gR<Yp:=(by rw [<-Yb];exact En.lt (by omega));have Yq:=YP.alloc (by omega) (.cells (ae 16 λ_=>0).toArray 264);have Yr:=En.alloc (by omega) (.cells (ae 16 λ_=>0).toArray 264);have Yt:=X7.alloc (by omega) (.cells (ae 16 λ_=>0).toArray 264);have Yc:=Ar.new v2 16 (λ_=>0) 264;have Yu:=F5.alloc (by have:=X7.lt (by omega);omega) (.cells (ae 16 λ_=>0).toArray 264);rw [Yb]at Yc;obtain⟨v5,Qg⟩:=Lv (v2.alloc (.cells (ae 16 λ_=>0).toArray 264));rw [<-Qg]at Yq Yr Yt Yc Yu;have Y5:=Yq;have Tm:=Yr;have Yv:=Yt;have Y6:=Yc;have Tn:=Yu;clear Yq Yr Yt Yc Yu;go_simp;try rw [Yb]
    rw [<-Qg];refine hK.out _ _ (by have q:=Yv.xB 0 16 (by omega);rwa [jZ]at q) (λaa=> ?_);clear hK K Qg Yb;try simp only [nr]
    refine rd 5 rfl (λK hK=> ?_);go_simp;refine(Hu b (rk f 0) _ hb h0l).mono ?_;rintro e v6 ⟨rfl,hq⟩;go_wp2_with fail;refine hK.out _ _ (FC aa hq) (λaa=> ?_);clear hK K;have Zm:=Y5.t hq;have BZ:=Tm.t hq;have YS:=Yv.t hq;have YT:=Y6.t hq;have zu:=Tn.trans (hq.mono (by have:=Yv.lt (by omega);omega));clear hq;try simp only [nr]
    refine rd 7 rfl (λK hK=> ?_);rw [if_pos (by rfl)];refine wp_store_mid _ _ _ rfl _ 0 _ rfl rfl (by rw [List.size_toArray,bz];exact YT.there) (by rw [List.size_toArray];exact fA _) (all_oneCell_toArray (dz 16 _)) ?_;refine hK.out _ _ (by have q:=YS.apart (b:=Yp) (by omega) (ae 16 (tr (ah b (rk f 0)))) 0;have q2:=q.xB 0 16 (by omega);rwa [jZ]at q2) (λaa=> ?_);clear hK K;try simp only [Act.put]
    refine wpAnyH_done (by kernel_rfl) ?_ _;exact NoPanic.normal (HQ.out Yp _ (by omega) (YT.whole _) (BZ.apart (by omega) _ _) (YS.apart (by omega) _ _) (zu.trans (Below.setCells (Below.refl _ _) (by omega) _ _)))
  ·obtain⟨Yw,Yd⟩:=Le (Wd.heap.size);have Zn:gR<Yw:=(by rw [<-Yd];exact rU.lt (by omega));have Yx:=X6.alloc (by omega) (.cells (ae 16 λ_=>0).toArray 264);have Yy:=rU.alloc (by omega) (.cells (ae 16 λ_=>0).toArray 264);have Yz:=XV.alloc (by omega) (.cells (ae 16 λ_=>0).toArray 264);have Ye:=Ar.new Wd 16 (λ_=>0) 264;have YA:=hBd.alloc (by have:=XV.lt (by omega);omega) (.cells (ae 16 λ_=>0).toArray 264);rw [Yd]at Ye;obtain⟨v7,YB⟩:=Lv (Wd.alloc (.cells (ae 16 λ_=>0).toArray 264));rw [<-YB]at Yx Yy Yz Ye YA;have Y7:=Yx;have TT:=Yy;have YC:=Yz;have TU:=Ye;have FD:=YA;clear Yx Yy Yz Ye YA;go_simp;try rw [Yd]
   rw [<-YB];refine hK.out _ _ (by have q:=YC.xB 0 16 (by omega);rwa [jZ]at q) (λaa=> ?_);clear hK K YB Yd;try simp only [nr]
   refine rd 1 rfl (λK hK=> ?_);go_simp;refine(QB b _).mono ?_;rintro e v8 ⟨rfl,hq⟩;go_wp2_with fail;refine hK.out _ _ (FC aa hq) (λaa=> ?_);clear hK K;have Y8:=Y7.t hq;have TV:=TT.t hq;have Pg:=YC.t hq;have QH:=TU.t hq;have MX:=FD.trans (hq.mono (by have:=YC.lt (by omega);omega));clear hq;try simp only [nr]
   refine rd 5 rfl (λK hK=> ?_);go_simp;refine(Hu b (rk f 0) _ hb h0l).mono ?_;rintro e v9 ⟨rfl,hq⟩;go_wp2_with fail;refine hK.out _ _ (FC aa hq) (λaa=> ?_);clear hK K;have Zo:=Y8.t hq;have Y9:=TV.t hq;have YU:=Pg.t hq;have YV:=QH.t hq;have Za:=MX.trans (hq.mono (by have:=Pg.lt (by omega);omega));clear hq;try simp only [nr]
   refine rd 7 rfl (λK hK=> ?_);rw [if_pos (by rfl)];refine wp_store_mid _ _ _ rfl _ 0 _ rfl rfl (by rw [List.size_toArray,bz];exact YV.there) (by rw [List.size_toArray];exact fA _) (all_oneCell_toArray (dz 16 _)) ?_;refine hK.out _ _ (by have q:=YU.apart (b:=Yw) (by omega) (ae 16 (tr (ah b (rk f 0)))) 0;have q2:=q.xB 0 16 (by omega);rwa [jZ]at q2) (λaa=> ?_);clear hK K;try simp only [Act.put]
   refine wpAnyH_done (by kernel_rfl) ?_ _;exact NoPanic.normal (HQ.out Yw _ (by omega) (YV.whole _) (Y9.apart (by omega) _ _) (YU.apart (by omega) _ _) (Za.trans (Below.setCells (Below.refl _ _) (by omega) _ _)))
 ·obtain⟨YD,Yf⟩:=Le (Wd.heap.size);have Zp:gR<YD:=by rw [<-Yf];exact rU.lt (by omega)
  have YE:=X6.alloc (by omega) (.cells (ae 16 λ_=>0).toArray 264);have YF:=rU.alloc (by omega) (.cells (ae 16 λ_=>0).toArray 264);have YG:=XV.alloc (by omega) (.cells (ae 16 λ_=>0).toArray 264);have Yg:=Ar.new Wd 16 (λ_=>0) 264;have YH:=hBd.alloc (by have:=XV.lt (by omega);omega) (.cells (ae 16 λ_=>0).toArray 264);rw [Yf]at Yg;obtain⟨v10,YI⟩:=Lv (Wd.alloc (.cells (ae 16 λ_=>0).toArray 264));rw [<-YI]at YE YF YG Yg YH;have YW:=YE;have TW:=YF;have YJ:=YG;have Zb:=Yg;have MZ:=YH;clear YE YF YG Yg YH;go_simp;try rw [Yf]
  rw [<-YI];refine hK.out _ _ (by have q:=YJ.xB 0 16 (by omega);rwa [jZ]at q) (λaa=> ?_);clear hK K YI Yf;try simp only [nr]
  refine rd 0 rfl (λK hK=> ?_);rw [if_pos (by rfl)];refine wp_load_mid _ _ rfl gC 0 rfl (ae 16 b) _ YW.range Tryz.aM rfl (ay _) ?_;refine hK.out _ _ aa (λaa=> ?_);clear hK K;try simp only [nr]
  refine rd 1 rfl (λK hK=> ?_);go_simp;refine(QB b _).mono ?_;rintro e v12 ⟨rfl,hq⟩;go_wp2_with fail;refine hK.out _ _ (FC aa hq) (λaa=> ?_);clear hK K;have Zc:=YW.t hq;have Zd:=TW.t hq;have YX:=YJ.t hq;have Ze:=Zb.t hq;have Zf:=MZ.trans (hq.mono (by have:=YJ.lt (by omega);omega));clear hq;try simp only [nr]
  refine rd 5 rfl (λK hK=> ?_);go_simp;refine(Hu b (rk f 0) _ hb h0l).mono ?_;rintro e v13 ⟨rfl,hq⟩;go_wp2_with fail;refine hK.out _ _ (FC aa hq) (λaa=> ?_);clear hK K;have Zq:=Zc.t hq;have Zg:=Zd.t hq;have YY:=YX.t hq;have YZ:=Ze.t hq;have Zh:=Zf.trans (hq.mono (by have:=YX.lt (by omega);omega));clear hq;try simp only [nr]
  refine rd 7 rfl (λK hK=> ?_);rw [if_pos (by rfl)];refine wp_store_mid _ _ _ rfl _ 0 _ rfl rfl (by rw [List.size_toArray,bz];exact YZ.there) (by rw [List.size_toArray];exact fA _) (all_oneCell_toArray (dz 16 _)) ?_;refine hK.out _ _ (by have q:=YY.apart (b:=YD) (by omega) (ae 16 (tr (ah b (rk f 0)))) 0;have q2:=q.xB 0 16 (by omega);rwa [jZ]at q2) (λaa=> ?_);clear hK K;try simp only [Act.put]
  refine wpAnyH_done (by kernel_rfl) ?_ _;exact NoPanic.normal (HQ.out YD _ (by omega) (YZ.whole _) (Zg.apart (by omega) _ _) (YY.apart (by omega) _ _) (Zh.trans (Below.setCells (Below.refl _ _) (by omega) _ _)))
end
section
open Go.RowKit
theorem Ip (f b:Nat->Nat) (w:World) (hf:aj f) (hb:aj b):
  Calls Tryz.prog 161 #[.agg (ae 432 (aX (ek f) sb)).toArray,.agg (ae 16 b).toArray] w λe w'=>e= .returned (.agg (ae 16 (aJ f b)).toArray)/\Below w.heap.size w w':=by
 have hz:=jf;obtain⟨kA,aR⟩:=Le ((ae 432 (aX (ek f) sb)).toArray);obtain⟨kB,hkB⟩:=Le ((ae 16 b).toArray);obtain⟨w1,af,ak,au,aN⟩:=nA w 432 (aX (ek f) sb) 35;obtain⟨w2,ag,aD,ai,eD⟩:=fw ak au 16 b 22;have aI:=bn ag aN;obtain⟨w3,az,-,aS,aL⟩:=o7 aD ai 16 (λ_=>0) 22;have lV:=bn az eD;have XW:=bn az aI;obtain⟨Jf,O8⟩:=aB aR hkB;rw [aR]at af;rw [hkB]at ag;rw [aR,hkB];clear au aN aR hkB ai aI eD;obtain⟨HF,jc⟩:=aB hf hb;have hrow:=Hi (show∀r,r<=10->ae 16 (λj=>aX (ek f) sb (r*16+j))=ae 16 (rk f r)from λr hr=>mh (λj hj=>by
  rw [aX,if_pos (by omega),Nat.mul_comm r 16,Co f r j hj]))
 have htab:=Hi (show(ae 256 (λj=>aX (ek f) sb (176+j))).toArray=zX by
  rw [mh (n:=256) (g:=sb) (λj hj=>by rw [aX,if_neg (by omega),Nat.add_sub_cancel_left])];rfl)
 obtain⟨qL,hel⟩:=aB (λr=>wB f hf r) (fM hf hb);have hstep:=Hi (show∀r,1<=r->r<10->ah (dm (bf (aZ (bF f b (r-1))))) (rk f r)=bF f b r from λr h1 h2=>by
  obtain⟨s,rfl⟩: ∃s,r=s+1:=⟨r-1,by omega⟩;rw [bF,if_pos h2,Nat.add_sub_cancel])
 have hlast:=Hi (show ah (bf (aZ (bF f b 9))) (rk f 10)=bF f b 10 from rfl);obtain⟨pk,hpk⟩: ∃pk:Nat->Nat,pk=aX (ek f) sb:=⟨_,rfl⟩;rw [<-hpk]at hrow htab XW;clear hf hb hpk Jf;go_enter Tryz.func161,Tryz.ntmps161;go_upto_region 1 with fail;rw [<-af,<-ag,<-az];clear af ag az ak aD;obtain⟨gE,FE⟩:=Le (w.heap.size);obtain⟨gC,jW⟩:=Le (w.heap.size+1);obtain⟨gR,hgR⟩:=Le (w.heap.size+2);have rA:w.heap.size+1+1=gR:=hgR;rw [jW]at lV;rw [hgR]at aL;rw [FE]at XW;try rw [rA]
 try rw [hgR]
 try rw [jW]
 try simp only [FE]
 have hlB:w.heap.size<=gE:=by omega
 have ve:gE<gC:=by omega
 have jD:gC<gR:=by omega
 clear jW hgR rA;refine ak8 f b pk gE gC gR w.heap.size (hrow.out 0 (by omega)) jc.out (qL.out 0) hlB ve jD lV aL XW aS ?_;intro gT w4 Gt jv dO XY fD;rw [show ah b (rk f 0)=bF f b 0 from rfl]at jv;rw [show ah b (rk f 0)=bF f b 0 from rfl];clear lV aL XW aS;go_wp2_with fail;go_loopw [6] (λi wr=> ∃r:Nat,1<=r/\r<=11/\i= .int .i64 r/\Ar wr gT 16 (tr (bF f b (r-1)))/\Ar wr gR 16 (λ_=>0)/\Ar wr gE 432 pk/\Below w.heap.size w wr) (λi _=>11-(intOf i).toNat);case atStart=>exact⟨1,by omega,by omega,rfl,jv,dO,XY,fD⟩
 case round=>
  clear jv dO XY fD;obtain⟨r,pM,hr,rfl,qz,qV,CO,jy⟩:=hrel;by_cases hlt:r<11
  ·have i1:(r:Int)<=10:=(by omega);have i2:(r:Int)<11:=(by omega);go_upto_region 5 with fail;go_upto_region 6 with (first
    |(refine bB rfl _ _ rfl _ _ _ rfl qz Tryz.nO (fA _) ?_)
    |(refine TP rfl _ _ rfl _ 432 176 256 _ rfl CO (by omega) Tryz.zY (ug _) ?_;rw [htab.out])
    |fail)
   refine(ak5 (bF f b (r-1)) _ (hel.out _)).mono ?_;rintro e O7 ⟨rfl,hq⟩;have zH:=qz.t hq;have iD:=qV.t hq;have Y1:=CO.t hq;have eP:=Tq jy hq;clear qz qV CO jy hq;go_wp2_with fail;refine(MU (aZ (bF f b (r-1))) _ (M0 _)).mono ?_;rintro e Zr ⟨rfl,hq⟩;have bG:=zH.t hq;have aA:=iD.t hq;have Ej:=Y1.t hq;have aF:=Tq eP hq;clear zH iD Y1 eP hq;have HS:=Hi (show aj (bf (aZ (bF f b (r-1))))from Cn (M0 _));by_cases wm:r<10
   ·have i3:(r:Int)<10:=(by omega);have hst:=Hi (hstep.out r pM wm);generalize bf (aZ (bF f b (r-1)))=Y0 at*;go_upto_region 7 with (first
     |(refine bC rfl _ _ _ rfl _ _ _ (tr Y0) rfl rfl bG (fA _) ?_;intro Zt eQ aU fe ES)
     |fail)
    have aL:=ES _ _ _ (by omega) aA;have XW:=ES _ _ _ (by omega) Ej;have aS:=aF.trans (aU.mono (by omega));clear bG aA Ej aF aU fe ES;go_wp2_with (refine bB rfl _ _ rfl _ _ _ rfl eQ Tryz.nO (fA _) ?_);refine(ak6 Y0 _ HS.out).mono ?_;rintro e Zu ⟨rfl,hq⟩;have jv:=eQ.t hq;have dO:=aL.t hq;have XY:=XW.t hq;have fD:=Tq aS hq;clear eQ aL XW aS hq;have HM:=Hi (Xa Y0);generalize dm Y0=Y at*;go_wp2_with (refine bC rfl _ _ _ rfl _ _ _ (tr Y) rfl rfl jv (fA _) ?_;intro YK kR kv vR vS);have eY:=vS _ _ _ (by omega) dO;have mq:=vS _ _ _ (by omega) XY;have dY:=fD.trans (kv.mono (by omega));clear jv dO XY fD kv vR vS HS;have rE:=mq.xB (r*16) 16 (by omega);rw [hrow.out r (by omega)]at rE;have uY:=kR.drew;have rU:=eY.drew;have XV:=mq.drew;have hBd:=dY.drew;clear kR eY mq dY;refine wp_region_held_drew (S:=λW=>W.rangeAt gE (r*16) (ae 16 (rk f r))) (by kernel_rfl) (by rwa [World.rangeAt_drew]) (λaa=> ?_);clear rE;generalize YK.drew=wd at*;refine ty 1 rfl ?_;refine ty 2 rfl ?_;refine ty 3 rfl ?_;refine tk 4 (.agg (ae 16 (rk f r)).toArray) rfl (yieldsIf_load_mid (by rfl) _ _ rfl gE (r*16) rfl (ae 16 (rk f r)) _ (λW hSw=>hSw) Tryz.aM rfl (ay _)) ?_;simp only [nr];refine rd 0 rfl (λK hK=> ?_);rw [if_pos (by rfl)];refine wp_load_mid _ _ rfl gT 0 rfl (ae 16 (tr Y)) _ uY.range Tryz.nO rfl (fA _) ?_;refine hK.out _ _ aa (λaa=> ?_);clear hK K;try simp only [nr]
    refine rd 5 rfl (λK hK=> ?_);go_simp;refine(Hu Y (rk f r) _ HM.out (qL.out r)).mono ?_;rintro e w16 ⟨rfl,hq⟩;go_wp2_with fail;refine hK.out _ _ (FC aa hq) (λaa=> ?_);clear hK K;have XX:=uY.t hq;have XZ:=rU.t hq;have X0:=XV.t hq;have X3:=Tq hBd hq;clear hq uY rU XV hBd;try simp only [nr]
    refine rd 6 rfl (λK hK=> ?_);rw [if_pos (by rfl)];refine wp_store_mid _ _ _ rfl gT 0 _ rfl rfl (by rw [List.size_toArray,bz];exact XX.there) (by rw [List.size_toArray];exact fA _) (all_oneCell_toArray (dz 16 (tr (ah Y (rk f r))))) ?_;have X4:=XX.whole (tr (ah Y (rk f r)));have YL:=X3.trans (Below.setCells (Below.refl w.heap.size _) (b:=gT) (by omega) (ae 16 (tr (ah Y (rk f r)))) 0);have YM:=XZ.apart (b:=gT) (by omega) (ae 16 (tr (ah Y (rk f r)))) 0;have X5:=X0.apart (b:=gT) (by omega) (ae 16 (tr (ah Y (rk f r)))) 0;dsimp only [List.toList_toArray];generalize World.setCells w16 gT 0 (ae 16 (tr (ah Y (rk f r))))=Zi at*;refine hK.out _ _ (by have q:=X5.xB (r*16) 16 (by omega);rwa [hrow.out r (by omega)]at q) (λaa=> ?_);clear hK K XX XZ X0 X3 aa;try simp only [Act.put]
    refine wpAnyH_done (by kernel_rfl) ?_ _;rw [hst.out]at X4;clear i2;go_wp2_with fail;go_roundw;case rel=>exact⟨r+1,by omega,by omega,by go_num,by rw [Nat.add_sub_cancel];exact X4,YM,X5,YL⟩
    case measure=>simp [intOf];try omega
   ·obtain rfl:r=10:=by omega
    have hst:=Hi hlast.out;rw [show 10-1=9 from rfl]at*;generalize bf (aZ (bF f b 9))=Y at*;go_wp2_with (first
     |(refine bC rfl _ _ _ rfl _ _ _ (tr Y) rfl rfl bG (fA _) ?_;intro YK kR kv vR vS)
     |fail)
    have eY:=vS _ _ _ (by omega) aA;have mq:=vS _ _ _ (by omega) Ej;have dY:=aF.trans (kv.mono (by omega));clear bG aA Ej aF kv vR vS;have HM:=HS;clear HS;have rE:=mq.xB (160) 16 (by omega);rw [hrow.out 10 (by omega)]at rE;have uY:=kR.drew;have rU:=eY.drew;have XV:=mq.drew;have hBd:=dY.drew;clear kR eY mq dY;refine wp_region_held_drew (S:=λW=>W.rangeAt gE (160) (ae 16 (rk f 10))) (by kernel_rfl) (by rwa [World.rangeAt_drew]) (λaa=> ?_);clear rE;generalize YK.drew=wd at*;refine ty 1 rfl ?_;refine ty 2 rfl ?_;refine ty 3 rfl ?_;refine tk 4 (.agg (ae 16 (rk f 10)).toArray) rfl (yieldsIf_load_mid (by rfl) _ _ rfl gE (160) rfl (ae 16 (rk f 10)) _ (λW hSw=>hSw) Tryz.aM rfl (ay _)) ?_;simp only [nr];refine rd 0 rfl (λK hK=> ?_);rw [if_pos (by rfl)];refine wp_load_mid _ _ rfl gT 0 rfl (ae 16 (tr Y)) _ uY.range Tryz.nO rfl (fA _) ?_;refine hK.out _ _ aa (λaa=> ?_);clear hK K;try simp only [nr]
    refine rd 5 rfl (λK hK=> ?_);go_simp;refine(Hu Y (rk f 10) _ HM.out (qL.out 10)).mono ?_;rintro e w16 ⟨rfl,hq⟩;go_wp2_with fail;refine hK.out _ _ (FC aa hq) (λaa=> ?_);clear hK K;have XX:=uY.t hq;have XZ:=rU.t hq;have X0:=XV.t hq;have X3:=Tq hBd hq;clear hq uY rU XV hBd;try simp only [nr]
    refine rd 6 rfl (λK hK=> ?_);rw [if_pos (by rfl)];refine wp_store_mid _ _ _ rfl gT 0 _ rfl rfl (by rw [List.size_toArray,bz];exact XX.there) (by rw [List.size_toArray];exact fA _) (all_oneCell_toArray (dz 16 (tr (ah Y (rk f 10))))) ?_;have X4:=XX.whole (tr (ah Y (rk f 10)));have YL:=X3.trans (Below.setCells (Below.refl w.heap.size _) (b:=gT) (by omega) (ae 16 (tr (ah Y (rk f 10)))) 0);have YM:=XZ.apart (b:=gT) (by omega) (ae 16 (tr (ah Y (rk f 10)))) 0;have X5:=X0.apart (b:=gT) (by omega) (ae 16 (tr (ah Y (rk f 10)))) 0;dsimp only [List.toList_toArray];generalize World.setCells w16 gT 0 (ae 16 (tr (ah Y (rk f 10))))=Zi at*;refine hK.out _ _ (by have q:=X5.xB (160) 16 (by omega);rwa [hrow.out 10 (by omega)]at q) (λaa=> ?_);clear hK K XX XZ X0 X3 aa;try simp only [Act.put]
    refine wpAnyH_done (by kernel_rfl) ?_ _;rw [hst.out]at X4;clear i2;go_wp2_with fail;go_roundw;case rel=>exact⟨10+1,by omega,by omega,by go_num,by rw [Nat.add_sub_cancel];exact X4,YM,X5,YL⟩
    case measure=>simp [intOf];try omega
  ·obtain rfl:r=11:=by omega
   go_wp2_with (refine bB rfl _ _ rfl _ _ _ rfl qz Tryz.nO (fA _) ?_);refine(acY (bF f b 10) _).mono ?_;rintro e O7 ⟨rfl,hq⟩;have iD:=qV.t hq;have eP:=Tq jy hq;clear qz qV CO jy hq;go_wp2_with (refine bC rfl _ _ _ rfl _ _ _ (bF f b 10) rfl rfl iD (ay _) ?_;intro Zv aA ai aD nJ);refine dU rfl rfl aA Tryz.aM (ay _) rfl ⟨rfl,eP.trans (ai.mono (by omega))⟩
end
end
section
section
open Go.RowKit
end
section
open Go.RowKit
end
section
open Go.RowKit
end
section
open Go.RowKit
end
section
open Go.RowKit
end
section
open Go.RowKit
end
section
open Go.RowKit
end
end
end Go.Proofs.YtdaiacmneopkgaaGreatDoor
