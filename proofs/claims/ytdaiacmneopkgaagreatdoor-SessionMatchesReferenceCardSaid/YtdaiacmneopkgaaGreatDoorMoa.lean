/-
 Contracts of the steps of the reference package of layer 6 undone, by walks through their texts; what was there stays as it was.
-/
import Derived.Test.YtdaiacmneopkgaaGreatDoorMfa
namespace Go.Proofs.YtdaiacmneopkgaaGreatDoor
set_option linter.unusedSimpArgs false
set_option linter.unusedVariables false
set_option maxRecDepth 100000
set_option maxHeartbeats 4000000
section
open Go.RowKit
theorem agG (n:Nat) (hn:n<256) (j:Nat) (hj:j<256):(if j=sb n then n else(if bk j<n then bk j else 0))=if bk j<n+1 then bk j else 0:=by
 by_cases h:j=sb n
 ·subst h;rw [if_pos rfl,Vn n hn,if_pos (by omega)]
 ·rw [if_neg h];have h2:bk j≠n:=λe=>h (by rw [<-e,Vo j hj]);by_cases h3:bk j<n
  ·rw [if_pos h3,if_pos (by omega)]
  ·rw [if_neg h3,if_neg (by omega)]
theorem agH (w:World):
  Calls Tryz.prog 207 #[.agg zX] w λe w'=>e= .returned (.agg (ae 256 bk).toArray)/\Below w.heap.size w w':=by
 have hz:=EI;obtain⟨w1,af⟩:=Lv (w.alloc (.cells zX 33));have ak:=lh af;have au:=Bl af;have KS:Ar w1 w.heap.size 256 sb:=by rw [af];exact Ar.new w 256 sb _
 obtain⟨w2,ag,aD,ai,aA⟩:=fw ak au 256 (λ_=>0) 33;have ic:=bn ag KS;obtain⟨w3,az,-,aU,eQ⟩:=o7 aD ai 256 (λ_=>0) 33;have aL:=bn az aA;have qG:=bn az ic;clear au KS ai aA ic;obtain⟨bA,y7⟩:=Le (zX);rw [y7]at af;rw [y7];clear y7;go_enter Tryz.func207,Tryz.ntmps207;go_upto_region 2 with fail;rw [<-af,<-ag,<-az];clear af ag az ak aD;obtain⟨gT,eH⟩:=Le (w.heap.size+2);have hge:w.heap.size+2<=gT:=by omega
 have yh:w.heap.size+1+1=gT:=eH;rw [eH]at eQ;try rw [yh]
 try rw [eH]
 clear eH yh;go_wp2_with fail;go_loopw [4] (λi wr=> ∃n:Nat,n<=256/\i= .int .i64 n/\Ar wr w.heap.size 256 sb/\Ar wr (w.heap.size+1) 256 (λ_=>0)/\Ar wr gT 256 (λj=>if bk j<n then bk j else 0)/\Below w.heap.size w wr) (λi _=>256-(intOf i).toNat);case atStart=>exact⟨0,Nat.zero_le _,rfl,qG,aL,eQ.ext (λ_ _=>rfl),aU⟩
 case round=>
  clear qG aL eQ aU;obtain⟨n,hn,rfl,hX,hR,hT,hB⟩:=hrel;by_cases hlt:n<256
  ·have i1:(n:Int)<256:=(by omega);have i3:IntKind.u8.wrap (n:Int)=(n:Int):=(by rw [IntKind.wrap_u8];omega);have hsl:=vH n;have i2:((sb n:Nat):Int)<256:=(by omega);obtain⟨c0,_⟩:=hX n hlt;obtain⟨c1,f1⟩:=hT (sb n) hsl;have bG:=(hT.set (v:=n) (j:=sb n) hsl rfl).ext (f':=λj=>if bk j<n+1 then bk j else 0) (λj hj=>agG n hlt j hj);have ic:=hX.far (p:=⟨gT,sb n,none⟩) (by simp;omega) (.int .u8 (n:Nat));have aA:=hR.far (p:=⟨gT,sb n,none⟩) (by simp;omega) (.int .u8 (n:Nat));have aF:=hB.setCell (p:=⟨gT,sb n,none⟩) (by simp;omega) (.int .u8 (n:Nat));clear hX hR hT hB hsl;dsimp only at c1;generalize (if bk (sb n)<n then bk (sb n)else 0)=v1 at*;generalize sb n=x at*;go_wp2_with fail;go_roundw;case rel=>exact⟨n+1,by omega,by go_num,ic,aA,bG,aF⟩
   case measure=>simp [intOf];omega
  ·obtain rfl:n=256:=by omega
   have bG:=hT.ext (f':=bk) (λj hj=>by rw [if_pos (Jg j hj)]);clear hT;go_wp2_with (first
    |(refine bB rfl _ _ rfl _ _ _ rfl bG Tryz.zY (ug _) ?_)
    |(refine bC rfl _ _ _ rfl _ _ _ bk rfl rfl hR (ug _) ?_;intro w8 bg aY _ _))
   refine dU rfl rfl bg Tryz.zY (ug _) rfl ⟨rfl,?_⟩;exact hB.trans (aY.mono (by omega))
theorem agI (f:Nat->Nat) (w:World) (hf:aj f):
  Calls Tryz.prog 198 #[.agg (ae 16 f).toArray,.agg (ae 256 bk).toArray] w λe w'=>e= .returned (.agg (ae 16 (dX f)).toArray)/\Below w.heap.size w w':=by
 have hz:=zZ;obtain⟨kA,aR⟩:=Le ((ae 16 f).toArray);obtain⟨w1,af,ak,au,BC⟩:=nA w 16 f 264;obtain⟨w2,ag,aD,ai,ic⟩:=fw ak au 256 bk 33;have kU:=bn ag BC;obtain⟨w3,az,-,aU,aL⟩:=o7 aD ai 16 (λ_=>0) 264;have qG:=bn az ic;have jK:=bn az kU;rw [aR]at af;rw [aR];clear au BC ai ic kU aR;go_enter Tryz.func198,Tryz.ntmps198;go_upto_region 1 with fail;rw [<-af,<-ag,<-az];clear af ag az ak aD;obtain⟨gR,hgR⟩:=Le (w.heap.size+2);have hge:w.heap.size+2<=gR:=by omega
 have rA:w.heap.size+1+1=gR:=hgR;rw [hgR]at aL;rw [rA];clear hgR rA;obtain⟨bA,y7⟩:=Le ((ae 256 bk).toArray);rw [y7];clear y7;go_wp2_with fail;go_loopw [5] (λi wr=> ∃r:Nat,r<=4/\i= .int .i64 r/\Ar wr w.heap.size 16 (λm=>if m<4*r then dX f m else f m)/\Ar wr (w.heap.size+1) 256 bk/\Ar wr gR 16 (λ_=>0)/\Below w.heap.size w wr) (λi _=>4-(intOf i).toNat);case atStart=>exact⟨0,Nat.zero_le _,rfl,jK.ext (λ_ _=>rfl),qG,aL,aU⟩
 case round=>
  clear jK qG aL aU;obtain⟨r,hr,rfl,hG,hX,hR,hB⟩:=hrel;by_cases hlt:r<4
  ·have i1:(r:Int)<4:=(by omega);have BD:Ar wr w.heap.size 16 (λm=>if m<4*r+0 then dX f m else f m):=hG;clear hG;go_wp2_with fail;obtain⟨wo,rfl⟩:=Lv (wr);go_loopw [6] (λi wr=> ∃c:Nat,c<=4/\i= .int .i64 c/\Ar wr w.heap.size 16 (λm=>if m<4*r+c then dX f m else f m)/\Ar wr (w.heap.size+1) 256 bk/\Ar wr gR 16 (λ_=>0)/\Below w.heap.size w wr) (λi _=>4-(intOf i).toNat);case atStart=>exact⟨0,Nat.zero_le _,rfl,BD,hX,hR,hB⟩
   case round=>
    clear BD hX hR hB;obtain⟨c,hc,rfl,hG,hX,hR,hB⟩:=hrel;by_cases hlc:c<4
    ·obtain⟨o,ho⟩:=Lv (r*4+c);have i2:(c:Int)<4:=(by omega);have hfo:=hf o (by omega);obtain⟨c0,f0⟩:=hG o (by omega);dsimp only at c0;rw [if_neg (by omega),ho]at c0;rw [ho]at f0;obtain⟨c1,_⟩:=hX (f (r*4+c)) (by rw [<-ho];exact hfo);have i3:((f (r*4+c):Nat):Int)<256:=(by rw [<-ho];omega);have e1:4*r+c=o:=(by omega);have kU:=(hG.set (j:=r*4+c) (v:=bk (f (r*4+c))) (by omega) rfl).ext (f':=λm=>if m<4*r+(c+1)then dX f m else f m) (λm _=>by
      rw [show 4*r+(c+1)=o+1 by omega,e1,<-ho];exact mid_step (dX f) f o m)
     have ic:=hX.far (p:=⟨w.heap.size,r*4+c,none⟩) (by simp) (.int .u8 (bk (f (r*4+c)):Nat));have aA:=hR.far (p:=⟨w.heap.size,r*4+c,none⟩) (by simp;omega) (.int .u8 (bk (f (r*4+c)):Nat));have aF:=hB.setCell (p:=⟨w.heap.size,r*4+c,none⟩) (by simp) (.int .u8 (bk (f (r*4+c)):Nat));clear hG hX hR hB ho hfo e1;generalize f (r*4+c)=x at*;go_wp2_with fail;refine wp_region_noPanic ?_
     go_big_region
     refine NoPanic.normal ?_;go_wp2_with fail;go_roundw;case rel=>exact⟨c+1,by omega,by go_num,kU.drew,ic.drew,aA.drew,aF.drew⟩
     case measure=>simp [intOf];omega
    ·obtain rfl:c=4:=by omega
     go_wp2_with fail;go_roundw;case rel=>exact⟨r+1,by omega,by go_num,hG,hX,hR,hB⟩
     case measure=>simp [intOf];omega
  ·obtain rfl:r=4:=by omega
   have kU:=hG.ext (f':=dX f) (λj hj=>by rw [if_pos (by omega)]);clear hG;go_wp2_with (first
    |(refine bB rfl _ _ rfl _ _ _ rfl kU Tryz.nO (fA _) ?_)
    |(refine bC rfl _ _ _ rfl _ _ _ (dX f) rfl rfl hR (fA _) ?_;intro w8 bg aY _ _))
   refine dU rfl rfl bg Tryz.nO (fA _) rfl ⟨rfl,?_⟩;exact hB.trans (aY.mono (by omega))
theorem aaZ (X:Nat->Nat) (w:World) (h:aj X):
  Calls Tryz.prog 198 #[.agg (ae 16 (tr X)).toArray,.agg (ae 256 bk).toArray] w λe w'=>e= .returned (.agg (ae 16 (tr (dX X))).toArray)/\Below w.heap.size w w':=agI (tr X) w (Ld h)
theorem agJ (X:Nat->Nat):cO (bf (bf (bf X))) (eU X):=λj hj=>by
 have H: ∀j,j<16->(((j+4*(j%4))%16+4*((j+4*(j%4))%16%4))%16+4*(((j+4*(j%4))%16+4*((j+4*(j%4))%16%4))%16%4))%16=(j+16-4*(j%4))%16:=by decide
 show X _=X _
 rw [H j hj]
def Jh (f:Nat->Nat) (m:Nat):Nat:=
 ((mul 14 (f m)^^^mul 11 (f ((m/4+1)%4*4+m%4)))^^^mul 13 (f ((m/4+2)%4*4+m%4)))^^^mul 9 (f ((m/4+3)%4*4+m%4))
theorem agK (f:Nat->Nat) (m:Nat) (hm:m<16):Jh f m=tr (iw (tr f)) m:=by
 have H1: ∀m,m<16->4*((4*(m%4)+m/4)%4)+(4*(m%4)+m/4)/4=m:=by decide
 have H2: ∀k,k<4-> ∀m,m<16->4*(((4*(m%4)+m/4)/4*4+(4*(m%4)+m/4+k)%4)%4)+((4*(m%4)+m/4)/4*4+(4*(m%4)+m/4+k)%4)/4=(m/4+k)%4*4+m%4:=by decide
 unfold Jh iw za tr;dsimp only;rw [H1 m hm,H2 1 (by omega) m hm,H2 2 (by omega) m hm,H2 3 (by omega) m hm]
def BF (f:Nat->Nat) (c r m:Nat):Nat:=if m%4<c\/m%4=c/\m/4<r then Jh f m else 0
theorem agL (f:Nat->Nat) (c m:Nat) (hm:m<16):BF f c 4 m=BF f (c+1) 0 m:=by
 unfold BF;by_cases h:m%4<c\/m%4=c/\m/4<4
 ·rw [if_pos h,if_pos (by omega)]
 ·rw [if_neg h,if_neg (by omega)]
theorem agM (f:Nat->Nat) (c r m:Nat) (hc:c<4) (hr:r<4) (hm:m<16):(if m=r*4+c then Jh f (r*4+c)else BF f c r m)=BF f c (r+1) m:=by
 unfold BF;by_cases h:m=r*4+c
 ·rw [if_pos h,if_pos (by omega),h]
 ·rw [if_neg h];by_cases h2:m%4<c\/m%4=c/\m/4<r
  ·rw [if_pos h2,if_pos (by omega)]
  ·rw [if_neg h2,if_neg (by omega)]
theorem agN (x:Nat) (w:World) (hx:x<256):Calls Tryz.prog 114 #[.int .u8 14,.int .u8 x] w λe w'=>e= .returned (.int .u8 (mul 14 x:Nat))/\Below w.heap.size w w':=Gu 14 x w (by omega) hx
theorem agO (x:Nat) (w:World) (hx:x<256):Calls Tryz.prog 114 #[.int .u8 11,.int .u8 x] w λe w'=>e= .returned (.int .u8 (mul 11 x:Nat))/\Below w.heap.size w w':=Gu 11 x w (by omega) hx
theorem agP (x:Nat) (w:World) (hx:x<256):Calls Tryz.prog 114 #[.int .u8 13,.int .u8 x] w λe w'=>e= .returned (.int .u8 (mul 13 x:Nat))/\Below w.heap.size w w':=Gu 13 x w (by omega) hx
theorem agQ (x:Nat) (w:World) (hx:x<256):Calls Tryz.prog 114 #[.int .u8 9,.int .u8 x] w λe w'=>e= .returned (.int .u8 (mul 9 x:Nat))/\Below w.heap.size w w':=Gu 9 x w (by omega) hx
theorem agR (f:Nat->Nat) (w:World) (hf:aj f):
  Calls Tryz.prog 208 #[.agg (ae 16 f).toArray] w λe w'=>e= .returned (.agg (ae 16 (tr (iw (tr f)))).toArray)/\Below w.heap.size w w':=by
 have hz:=zZ;obtain⟨kA,aR⟩:=Le ((ae 16 f).toArray);obtain⟨w1,af,ak,au,aN⟩:=nA w 16 f 264;obtain⟨w2,ag,aD,ai,aA⟩:=fw ak au 16 (λ_=>0) 264;have aI:=bn ag aN;obtain⟨w3,az,-,aU,eQ⟩:=o7 aD ai 16 (λ_=>0) 264;have aL:=bn az aA;have dw:=bn az aI;rw [aR]at af;rw [aR];clear au aN ai aA aI aR;go_enter Tryz.func208,Tryz.ntmps208;go_upto_region 2 with fail;rw [<-af,<-ag,<-az];clear af ag az ak aD;obtain⟨gT,eH⟩:=Le (w.heap.size+2);have hge:w.heap.size+2<=gT:=by omega
 have yh:w.heap.size+1+1=gT:=eH;rw [eH]at eQ;rw [yh];clear eH yh;have HF:=Hi hf;clear hf;go_wp2_with fail;go_loopw [4] (λi wr=> ∃c:Nat,c<=4/\i= .int .i64 c/\Ar wr w.heap.size 16 f/\Ar wr (w.heap.size+1) 16 (λ_=>0)/\Ar wr gT 16 (BF f c 0)/\Below w.heap.size w wr) (λi _=>4-(intOf i).toNat);case atStart=>exact⟨0,Nat.zero_le _,rfl,dw,aL,eQ.ext (λ_ _=>by unfold BF;rw [if_neg (by omega)]),aU⟩
 case round=>
  clear dw aL eQ aU;obtain⟨c,hc,rfl,hK,hR,hT,hB⟩:=hrel;by_cases hlt:c<4
  ·have i1:(c:Int)<4:=(by omega);go_wp2_with fail;obtain⟨wo,rfl⟩:=Lv (wr);go_loopw [5] (λi wr=> ∃r:Nat,r<=4/\i= .int .i64 r/\Ar wr w.heap.size 16 f/\Ar wr (w.heap.size+1) 16 (λ_=>0)/\Ar wr gT 16 (BF f c r)/\Below w.heap.size w wr) (λi _=>4-(intOf i).toNat);case atStart=>exact⟨0,Nat.zero_le _,rfl,hK,hR,hT,hB⟩
   case round=>
    clear hK hR hT hB;obtain⟨r,hr,rfl,hK,hR,hT,hB⟩:=hrel;by_cases hlr:r<4
    ·have i2:(r:Int)<4:=(by omega);obtain⟨r1,pM⟩:=Lv ((r+1)%4);obtain⟨c0,_⟩:=hK (r*4+c) (by omega);obtain⟨c1,_⟩:=hK (r1*4+c) (by omega);have l0:=HF.out (r*4+c) (by omega);have l1:=HF.out (r1*4+c) (by omega);have hgl:=vI c0;obtain⟨x0,dQ⟩:=Lv (f (r*4+c));obtain⟨x1,Ji⟩:=Lv (f (r1*4+c));rw [<-dQ]at c0 l0;rw [<-Ji]at c1 l1;have sZ:bits BinOp.xor IntKind.u8 ((mul 14 x0:Nat):Int) ((mul 11 x1:Nat):Int)=((mul 14 x0^^^mul 11 x1:Nat):Int):=mo _ _ (mul_lt _ _ (by omega)) (mul_lt _ _ (by omega));obtain⟨OY,Vp,Jj,L0,L1⟩:=jX dQ Ji pM l0 l1;obtain⟨⟨a1,a2⟩,⟨a3,a4⟩,a5,j1⟩:=Gv r 1 1 r1 rfl hlr (by decide) pM;clear dQ Ji pM l0 l1;go_wp2_with fail
     go_region_held3 (λW=>W.cell? ⟨w.heap.size,r*4+c,none⟩=some (.int .u8 (x0:Nat))/\W.cell? ⟨w.heap.size,r1*4+c,none⟩=some (.int .u8 (x1:Nat))/\Base wr W)
      (first|assumption|(exact⟨c0,c1,(Base.refl _).drew⟩))
      (first
      |(go_at_call 114;(with_reducible refine(agN _ _ ?_).mono ?_);(· exact L0.out);rintro e w6 ⟨rfl,jJ⟩;have hN:=R7 (by assumption) (vI (And.left (by assumption))) (vI (And.left (by assumption))) jJ)
      |(go_at_call 114;(with_reducible refine(agO _ _ ?_).mono ?_);(· exact L1.out);rintro e w6 ⟨rfl,jJ⟩;have hN:=R7 (by assumption) (vI (And.left (by assumption))) (vI (And.left (by assumption))) jJ))
     have hH:Base wr w6:=(And.right (And.right (by assumption)));clear a1 a2 a3 a4 a5 j1 sZ;have fV:=hK.to (by decide) hH;have dV:=hR.to (by decide) hH;have nk:=hT.to (by decide) hH;have fK:=hB.trans (Below.mono hH hB.size);obtain⟨wz,hwz⟩:=Lv (w6);rw [<-hwz]at fV dV nk fK;rw [<-hwz];clear hwz hK hR hT hB c0 c1 hgl;obtain⟨p,hp⟩:=Lv (mul 14 x0^^^mul 11 x1);have hpl:p<256:=(by rw [hp];exact ku _ _ (mul_lt _ _ (by decide)) (mul_lt _ _ (by decide)));rw [<-hp];obtain⟨r2,kV⟩:=Lv ((r+2)%4);obtain⟨r3,rC⟩:=Lv ((r+3)%4);have o2:r2*4+c<16:=(by omega);have o3:r3*4+c<16:=(by omega);have o4:r*4+c<16:=(by omega);have e4:(r*4+c)/4=r:=(by omega);have e5:(r*4+c)%4=c:=(by omega);have g1:gT≠w.heap.size:=(by omega);have g2:gT≠w.heap.size+1:=(by omega);have g3:w.heap.size<=gT:=(by omega);obtain⟨L2,L3⟩:=aB (HF.out (r2*4+c) o2) (HF.out (r3*4+c) o3);have jR:(p^^^mul 13 (f (r2*4+c)))^^^mul 9 (f (r3*4+c))=Jh f (r*4+c):=by
      unfold Jh;rw [e4,e5,hp,OY.out,Vp.out,Jj.out,kV,rC]
     have y2:bits BinOp.xor IntKind.u8 ((p:Nat):Int) ((mul 13 (f (r2*4+c)):Nat):Int)=((p^^^mul 13 (f (r2*4+c)):Nat):Int):=mo _ _ hpl (mul_lt _ _ (by decide));have y3:bits BinOp.xor IntKind.u8 ((p^^^mul 13 (f (r2*4+c)):Nat):Int) ((mul 9 (f (r3*4+c)):Nat):Int)=(((p^^^mul 13 (f (r2*4+c)))^^^mul 9 (f (r3*4+c)):Nat):Int):=mo _ _ (ku _ _ hpl (mul_lt _ _ (by decide))) (mul_lt _ _ (by decide));rw [jR]at y3;obtain⟨z9,hz⟩:=Le (Jh f (r*4+c));rw [hz]at y3 jR;obtain⟨x2,yj⟩:=Le (f (r2*4+c));obtain⟨x3,Kz⟩:=Le (f (r3*4+c));rw [yj]at y2 y3 L2 jR;rw [Kz]at y3 L3 jR;obtain⟨XZ,wW,Vq⟩:=dD hz yj Kz;obtain⟨z8,Ew⟩:=Le (p^^^mul 13 x2);rw [Ew]at y2 y3;obtain⟨m2,Lf⟩:=Le (mul 13 x2);obtain⟨m3,XW⟩:=Le (mul 9 x3);rw [Lf]at y2;rw [XW]at y3;obtain⟨Lg,X0,O2,O3,O4⟩:=jX Lf XW o2 o3 o4;obtain⟨⟨b1,b2⟩,⟨b3,b4⟩,b5,j2⟩:=Gv r 2 2 r2 rfl hlr (by decide) kV;obtain⟨⟨d1,d2⟩,⟨d3,d4⟩,d5,j3⟩:=Gv r 3 3 r3 rfl hlr (by decide) rC;clear jR hp kV rC hpl e4 e5 o2 o3 o4 hz yj Kz Ew Lf XW;go_upto_region 9 with fail;refine wp_region_noPanic ?_;have XX:=nk.drew;refine wp_region_held_drew (S:=λW=>Ar W w.heap.size 16 (f)/\Ar W (w.heap.size+1) 16 (λ_=>0)/\Below w.heap.size w W) (by kernel_rfl) ⟨fV.drew,dV.drew,fK.drew⟩ (λaa=> ?_);clear fV dV fK nk;generalize World.drew wz=qd at*;refine ty 0 rfl ?_;refine ty 1 rfl ?_;refine ty 2 rfl ?_;refine ty 3 rfl ?_;refine ty 4 rfl ?_;refine ty 5 rfl ?_;refine ty 6 rfl ?_;refine ty 7 rfl ?_;refine ty 8 rfl ?_
     refine ty 9 rfl ?_ (λW hSw=>by have cK:=(hSw.1 (r2*4+c) O2.out).1;rw [wW.out]at cK;go_simp;try with_reducible rfl);refine ty 12 rfl ?_;refine ty 13 rfl ?_;refine ty 14 rfl ?_;refine ty 15 rfl ?_;refine ty 16 rfl ?_;refine ty 17 rfl ?_;refine ty 18 rfl ?_ (λW hSw=>by have cK:=(hSw.1 (r3*4+c) O3.out).1;rw [Vq.out]at cK;go_simp;try with_reducible rfl);refine ty 21 rfl ?_;refine rq 10 rfl (agP x2 _ L2.out) aa ?_;clear aa;intro X5 hq aa;rw [Lg.out];have XY:=XX.t hq;clear hq XX;try simp only [nr]
     refine ty 11 rfl ?_;refine rq 19 rfl (agQ x3 _ L3.out) aa ?_;clear aa;intro X3 hq aa;rw [X0.out];have XV:=XY.t hq;clear hq XY;try simp only [nr]
     refine ty 20 rfl ?_;refine ty 22 rfl ?_;refine rd 23 rfl (λK hK=> ?_);have cF:=(XV (r*4+c) O4.out).1;have fF:=(XV (r*4+c) O4.out).2;go_simp;clear cF fF;have X4:=(XV.set (j:=r*4+c) (v:=z9) O4.out rfl).ext (f':=BF f c (r+1)) (λm hm=>by rw [<-XZ.out];exact agM f c r m hlt hlr hm);refine hK.out _ _ ⟨(aa.1).far (p:=⟨gT,r*4+c,none⟩) g1 (.int .u8 ((z9:Nat):Int)),(aa.2.1).far (p:=⟨gT,r*4+c,none⟩) g2 (.int .u8 ((z9:Nat):Int)),(aa.2.2).setCell (p:=⟨gT,r*4+c,none⟩) g3 (.int .u8 ((z9:Nat):Int))⟩ ?_;clear hK K aa XV;intro aa;generalize World.setCell X3 ⟨gT,r*4+c,none⟩ (.int .u8 ((z9:Nat):Int))=q24 at*;try simp only [Act.put]
     refine wpAnyH_done (by kernel_rfl) ?_ _;refine NoPanic.normal ?_;obtain⟨dn,bI,bD⟩:=aa;have ig:=X4;clear b1 b2 b3 b4 b5 d1 d2 d3 d4 d5 y2 y3;obtain⟨⟨a1,a2⟩,_⟩:=Gv r 1 1 _ rfl hlr (by decide) rfl;go_wp2_with fail;go_roundw;case rel=>clear a1 a2;exact⟨r+1,by omega,by go_num,dn,bI,ig,bD⟩
     case measure=>clear a1 a2;simp [intOf];omega
    ·obtain rfl:r=4:=by omega
     have bG:=hT.ext (λm hm=>agL f c m hm);clear hT;go_wp2_with fail;go_roundw;case rel=>exact⟨c+1,by omega,by go_num,hK,hR,bG,hB⟩
     case measure=>simp [intOf];omega
  ·obtain rfl:c=4:=by omega
   have bG:=hT.ext (f':=tr (iw (tr f))) (λj hj=>by unfold BF;rw [if_pos (by omega)];exact agK f j hj);clear hT;go_wp2_with (first
    |(refine bB rfl _ _ rfl _ _ _ rfl bG Tryz.nO (fA _) ?_)
    |(refine bC rfl _ _ _ rfl _ _ _ (tr (iw (tr f))) rfl rfl hR (fA _) ?_;intro w8 bg aY _ _))
   refine dU rfl rfl bg Tryz.nO (fA _) rfl ⟨rfl,?_⟩;exact hB.trans (aY.mono (by omega))
end
section
open Go.RowKit
theorem Qz (W:World) (g:Nat) (vs:List Value) (o:Nat):Below g W (W.setCells g o vs):=Below.setCells (Below.refl _ _) (Nat.le_refl _) _ _
theorem QA {P:Program} {ops:Array Oper} {rest:List Oper} {op:Oper} {a:Act} {w:World} {Q:Exit->Act->World->Prop} (hgd:op.guard=none) (ty:TypeId) (x y:Operand) (ho:op.op= .store ty x y)
  (g n:Nat) (f f':Nat->Nat) (hx:a.eval x= .pointer (some ⟨g,0,none⟩)) (hy:a.eval y= .agg (ae n f').toArray)
  (hA:Ar w g n f) (hi:(P.info? ty).map (·.size)=some (ae n f').length)
  (h: ∀w',w'=w.setCells g 0 (ae n f')->Ar w' g n f'->wpList P ops Q rest (a.put op.dst undef) w'):
  wpList P ops Q (op::rest) a w:=by
 refine wpList_store_mid hgd ty x y ho g 0 _ hx hy ?_ ?_ (all_oneCell_toArray (dz n f')) ?_
 ·rw [List.size_toArray,bz];exact hA.there
 ·rw [List.size_toArray];exact hi
 ·exact h _ rfl (hA.whole f')
def xA (f b:Nat->Nat):Nat->Nat->Nat
 |0=>b
 |k+1=>dX (eU (if 10-k<10 then iw (ah (xA f b k) (rk f (10-k)))else ah (xA f b k) (rk f (10-k))))
theorem acW (f b:Nat->Nat): ∀k,k<=10->sV f (10-k) (xA f b k)=pQ f b
 |0,_=>rfl
 |k+1,h=>by
  have ih:=acW f b k (by omega)
  show sV f (10-(k+1)) (dX (eU (if 10-k<10 then iw (ah (xA f b k) (rk f (10-k)))else ah (xA f b k) (rk f (10-k)))))=pQ f b
  rw [show 10-k=(10-(k+1))+1 by omega]at ih⊢;exact ih
theorem WX {f b:Nat->Nat} (hf:aj f) (hb:aj b): ∀k,aj (xA f b k)
 |0=>hb
 |k+1=>by
  refine MS (AB ?_);split
  ·exact Hq _
  ·exact dL (WX hf hb k) (wB f hf _)
theorem akh (X:Nat->Nat) (w:World) (h:aj X):
  Calls Tryz.prog 208 #[.agg (ae 16 (tr X)).toArray] w λe w'=>e= .returned (.agg (ae 16 (tr (iw X))).toArray)/\Below w.heap.size w w':=by
 have e:ae 16 (tr (iw (tr (tr X))))=ae 16 (tr (iw X)):=mh (n:=16) (λj hj=>(TM (nK 14 11 13 9 (TN X))) j hj);have h1:=agR (tr X) w (Ld h)
 rwa [e]at h1
theorem acX (X:Nat->Nat) (w:World) (h:aj X):
  Calls Tryz.prog 197 #[.agg (ae 16 (tr (bf (bf X)))).toArray] w λe w'=>e= .returned (.agg (ae 16 (tr (eU X))).toArray)/\Below w.heap.size w w':=by
 have e:ae 16 (tr (bf (bf (bf X))))=ae 16 (tr (eU X)):=mh (n:=16) (λj hj=>(TM (agJ X)) j hj);have h1:=MU (bf (bf X)) w (Cn (Cn h))
 rwa [e]at h1
theorem aki {r q:Nat} (hr:r<=10) (h1:1<=r) (hq:r-1=q):wrap64 ((r:Int)-1)=(q:Int)/\IntKind.i64.wrap ((r:Int)-1)=(q:Int)/\(r:Int)-1=(q:Int)/\IntKind.i64.wrap (q:Int)=(q:Int):=by
 refine⟨?_,?_,by omega,fO _ (by omega) (by omega)⟩
 ·rw [IntWalk.wrap64_in _ (by omega)];omega
 ·rw [show(r:Int)-1=(q:Int)by omega,fO _ (by omega) (by omega)]
theorem akj (f b:Nat->Nat) {r k:Nat} (hk:10-r=k) (hr:r<=10) (h1:1<=r):xA f b (10-(r-1))=dX (eU (if r<10 then iw (ah (xA f b k) (rk f r))else ah (xA f b k) (rk f r))):=by
 subst hk;rw [show 10-(r-1)=(10-r)+1 by omega]
 show dX (eU (if 10-(10-r)<10 then iw (ah (xA f b (10-r)) (rk f (10-(10-r))))else ah (xA f b (10-r)) (rk f (10-(10-r)))))=_
 rw [show 10-(10-r)=r by omega]
theorem akk (f b pk:Nat->Nat) (w:World) (hf:aj f) (hb:aj b) (hrow: ∀r,r<=10->ae 16 (λj=>pk (r*16+j))=ae 16 (rk f r)) (htab:(ae 256 (λj=>pk (176+j))).toArray=zX):
  Calls Tryz.prog 168 #[.agg (ae 432 pk).toArray,.agg (ae 16 b).toArray] w λe w'=>e= .returned (.agg (ae 16 (pQ f b)).toArray)/\Below w.heap.size w w':=by
 obtain⟨dK,hfs,hrow⟩:=Tryz.qa;obtain⟨HS,HW⟩:=aB hfs hrow;clear hfs hrow;obtain⟨kE,dZ⟩:=Le ((ae 432 (pk)).toArray);obtain⟨kC,Hr⟩:=Le ((ae 16 (b)).toArray);obtain⟨w1,af,ak,aW,iC⟩:=nA w 432 (pk) 35;obtain⟨w2,ag,aD,bU,Yn⟩:=fw ak aW 16 (b) 22;have fZ:=iC.alloc (by omega) (.cells (ae 16 (b)).toArray 22);rw [<-ag]at fZ;clear iC aW;obtain⟨w3,az,fe,fJ,fB⟩:=o7 aD bU 16 (λ_=>0) 22;have qb:=fZ.alloc (by omega) (.cells (ae 16 (λ_=>0)).toArray 22);rw [<-az]at qb;have X3:=Yn.alloc (by omega) (.cells (ae 16 (λ_=>0)).toArray 22);rw [<-az]at X3;clear fZ Yn bU;have UA:=Hi dZ;rw [dZ]at af;have kz:=Hi Hr;rw [Hr]at ag;rw [dZ,Hr];clear dZ Hr;have hz:=jf;have Zn:=zZ;have Zo:=EI;obtain⟨dh,jc,Yo,Y1,wu⟩:=jX hf hb hrow htab (λr=>wB f hf r);clear hf hb hrow htab;go_enter Tryz.func168,Tryz.ntmps168;go_upto_region 1 with fail;rw [<-af,<-ag,<-az];clear af ag az;try simp only [Nat.add_assoc,Nat.reduceAdd]
 obtain⟨gC,jW⟩:=Le (w.heap.size+1);rw [jW]at X3;obtain⟨gR,hgR⟩:=Le (w.heap.size+2);rw [hgR]at fB;try rw [hgR]
 try rw [jW]
 have ve:w.heap.size<gC:=by omega
 have jD:gC<gR:=by omega
 clear ak aD fe jW hgR;go_wp2_with (refine TP rfl _ _ rfl _ 432 176 256 _ rfl qb (by omega) Tryz.zY (ug _) ?_;rw [Y1.out]);refine(agH _).mono ?_;rintro e x1 ⟨rfl,hq⟩;have jY:=qb.t hq;have Ya:=X3.t hq;have jG:=fB.t hq;have aT:=Tq fJ hq;clear hq qb X3 fB fJ;obtain⟨gV,XZ⟩:=Le (x1.heap.size);have Y2:w.heap.size<gV:=by rw [<-XZ];exact jY.lt (by omega)
 have Y3:gC<gV:=by rw [<-XZ];exact Ya.lt (by omega)
 have Y4:gR<gV:=by rw [<-XZ];exact jG.lt (by omega)
 have Y5:w.heap.size<=gV:=by rw [<-XZ];exact aT.size
 have hq:=Ba x1 (.cells (ae 256 λ_=>0).toArray 33);have xN:=jY.t hq;have Yp:=Ya.t hq;have xO:=jG.t hq;have Yb:=Ar.new x1 256 (λ_=>0) 33;have qU:=aT.alloc aT.size (.cells (ae 256 λ_=>0).toArray 33);rw [XZ]at Yb;clear hq jY Ya jG aT;go_upto_region 2 with (first|(refine bC rfl _ _ _ rfl _ _ _ (bk) rfl rfl Yb (ug _) ?_;intro x2 GH jh yQ yR)|fail);have og:=(xN).keep Y2 jh;have Yc:=(Yp).keep Y3 jh;have pq:=(xO).keep Y4 jh;have di:=qU.trans (jh.mono Y5);clear xN Yp xO Yb qU jh yQ yR XZ;try dsimp only [Act.put]
 go_wp2_with (refine bB rfl _ _ rfl _ _ _ rfl Yc Tryz.aM (ay _) ?_);refine(QB b _).mono ?_;rintro e x3 ⟨rfl,hq⟩;have qg:=og.t hq;have Yd:=Yc.t hq;have mQ:=pq.t hq;have Ye:=GH.t hq;have dJ:=Tq di hq;clear hq og Yc pq GH di;obtain⟨gG,XX⟩:=Le (x3.heap.size);have Y6:w.heap.size<gG:=by rw [<-XX];exact qg.lt (by omega)
 have Y7:gC<gG:=by rw [<-XX];exact Yd.lt (by omega)
 have Y8:gR<gG:=by rw [<-XX];exact mQ.lt (by omega)
 have Y9:gV<gG:=by rw [<-XX];exact Ye.lt (by omega)
 have Za:w.heap.size<=gG:=by rw [<-XX];exact dJ.size
 have hq:=Ba x3 (.cells (ae 16 λ_=>0).toArray 264);have EO:=qg.t hq;have Yq:=Yd.t hq;have FZ:=mQ.t hq;have Yr:=Ye.t hq;have Yf:=Ar.new x3 16 (λ_=>0) 264;have Bb:=dJ.alloc dJ.size (.cells (ae 16 λ_=>0).toArray 264);rw [XX]at Yf;clear hq qg Yd mQ Ye dJ;go_upto_region 3 with (first|(refine bC rfl _ _ _ rfl _ _ _ (tr b) rfl rfl Yf (fA _) ?_;intro x4 Yt pg Iy Iz)|fail);have tH:=(EO).keep Y6 pg;have Zb:=(Yq).keep Y7 pg;have xK:=(FZ).keep Y8 pg;have Yu:=(Yr).keep Y9 pg;have iZ:=Bb.trans (pg.mono Za);clear EO Yq FZ Yr Yf Bb pg Iy Iz XX;try dsimp only [Act.put]
 go_wp2_with fail;clear Zb;go_loopw [7] (λi wr=> ∃(r:Nat),r<=10/\i= .int .i64 r/\Ar wr w.heap.size 432 (pk)/\Ar wr gR 16 (λ_=>0)/\Ar wr gV 256 (bk)/\Ar wr gG 16 (tr (xA f b (10-r)))/\Below w.heap.size w wr) (λi _=>(intOf i).toNat);case atStart=>exact⟨10,Nat.le_refl _,rfl,tH,xK,Yu,Yt,iZ⟩
 case round=>
  clear tH xK Yu Yt iZ;obtain⟨r,hr,rfl,CO,qV,PR,BD,jy⟩:=hrel;have qC:=CO;have oK:=qV;have JC:=PR;have XV:=BD;have ib:=jy;clear CO qV PR BD jy;by_cases hlt:1<=r
  ·have i1:(1:Int)<=(r:Int):=(by omega);have i2:(r:Int)<11:=(by omega);obtain⟨k,hk⟩:=Le (10-r);obtain⟨q,dF⟩:=Le (r-1);obtain⟨HK,HQ,Lx,HST,hxb,HRR⟩:=qB hk dF (aki hr hlt dF) (akj f b hk hr hlt) (WX dh.out jc.out k) hr;rw [dF]at HST;rw [hk]at XV;obtain⟨X,hX⟩: ∃X,xA f b k=X:=⟨_,rfl⟩;rw [hX]at XV hxb HST;obtain⟨hrb,HRW⟩:=aB (wu.out r) (Yo.out r hr);obtain⟨rr,hrr⟩: ∃u,rk f r=u:=⟨_,rfl⟩;rw [hrr]at hrb HST HRW;have hyb:=Hi (dL hxb.out hrb.out);obtain⟨Y,hY⟩: ∃Y,ah X rr=Y:=⟨_,rfl⟩;have HY:=Hi hY;rw [hY]at hyb HST;clear hk dF hX hrr hY;go_upto_region 6 with fail;refine wp_region_noPanic ?_;have Yg:=XV.drew;refine wp_region_held_drew (S:=λW=>Ar W w.heap.size 432 (pk)/\Ar W gR 16 (λ_=>0)/\Ar W gV 256 (bk)/\Below w.heap.size w W) (by kernel_rfl) ⟨qC.drew,oK.drew,JC.drew,ib.drew⟩ (λaa=> ?_);clear qC oK JC ib XV;generalize World.drew wr=ad at*;refine ty 1 rfl ?_;refine ty 2 rfl ?_;refine ty 3 rfl ?_;refine tk 4 (.agg (ae 16 (rr)).toArray) rfl (yieldsIf_load_mid (by rfl) _ _ rfl w.heap.size ((r*16)) rfl (ae 16 (rr)) _ (λW hSw=>(by have q9:=(hSw.1).xB (r*16) 16 (by have:=HRR.out;omega);rwa [HRW.out]at q9)) Tryz.aM rfl (ay _)) ?_;simp only [nr];refine rd 0 rfl (λK hK=> ?_);rw [if_pos (by rfl)];refine wp_load_mid _ _ rfl gG 0 rfl (ae 16 (tr X)) _ Yg.range Tryz.nO rfl (fA _) ?_;refine hK.out _ _ aa ?_;clear hK K aa;intro aa;try simp only [nr]
   refine rq 5 rfl (Hu X rr _ hxb.out hrb.out) aa ?_;clear aa;intro a4 hq aa;rw [HY.out];have Yh:=Yg.t hq;clear hq Yg;try simp only [nr]
   refine rd 6 rfl (λK hK=> ?_);rw [if_pos (by rfl)];refine wp_store_mid _ _ _ rfl gG 0 (ae 16 (tr Y)).toArray rfl rfl Yh.there (fA _) (all_oneCell_toArray (dz 16 (tr Y))) ?_;have Yv:=Yh.whole (tr Y);dsimp only [List.toList_toArray];refine so hK (w:=a4) (b:=gG) (o:=0) (vs:=(ae 16 (tr Y))) aa ?_;clear hK K aa Yh;intro aa;generalize World.setCells a4 gG 0 (ae 16 (tr Y))=a5 at*;try simp only [Act.put]
   refine wpAnyH_done (by kernel_rfl) ?_ _;have X4:=aa.1;have X5:=aa.2.1;have X6:=aa.2.2.1;have X7:=aa.2.2.2;have X0:=Yv;clear aa Yv;refine NoPanic.normal ?_;try dsimp only [Act.put]
   by_cases wm:r<10
   ·have i3:(r:Int)<10:=(by omega);have XY:=HST.out;rw [if_pos wm]at XY;have XY:=Hi XY;go_wp2_with (refine bB rfl _ _ rfl _ _ _ rfl X0 Tryz.nO (fA _) ?_);refine(akh Y _ hyb.out).mono ?_;rintro e x5 ⟨rfl,hq⟩;have Bt:=X4.t hq;have Dc:=X5.t hq;have Yw:=X6.t hq;have Yx:=X0.t hq;have iO:=Tq X7 hq;clear hq X4 X5 X6 X0 X7;have hzb:=Hi (Hq Y);obtain⟨Z,hZ⟩: ∃Z,iw Y=Z:=⟨_,rfl⟩;have XW:=XY.out;rw [hZ]at XW hzb;rw [hZ];have XW:=Hi XW;clear hZ;go_upto_region 9 with (first|(refine QA rfl _ _ _ rfl _ _ _ (tr (Z)) rfl rfl Yx (fA _) ?_;intro z6 aO Yi;have jm:=Hi aO;clear aO)|fail);have aO:=jm.out;have Yy:Ar z6 w.heap.size 432 (pk):=(by rw [aO];exact Bt.apart (b:=gG) (by omega) _ 0);have Yz:Ar z6 gR 16 (λ_=>0):=(by rw [aO];exact Dc.apart (b:=gG) (by omega) _ 0);have YA:Ar z6 gV 256 (bk):=(by rw [aO];exact Yw.apart (b:=gG) (by omega) _ 0);have YB:Below w.heap.size w z6:=(by rw [aO];exact iO.trans ((Qz _ gG _ 0).mono (by omega)));clear aO jm iO Bt Dc Yw Yx;go_wp2_with (refine bB rfl _ _ rfl _ _ _ rfl Yi Tryz.nO (fA _) ?_);refine(MU Z _ hzb.out).mono ?_;rintro e x7 ⟨rfl,hq⟩;have I6:=Yy.t hq;have I7:=Yz.t hq;have YC:=YA.t hq;have YD:=Yi.t hq;have lU:=Tq YB hq;clear hq Yy Yz YA Yi YB;go_wp2_with fail;refine(MU (bf Z) _ (Cn hzb.out)).mono ?_;rintro e x8 ⟨rfl,hq⟩;have OH:=I6.t hq
    have OI:=I7.t hq;have PS:=YC.t hq;have YE:=YD.t hq;have pK:=Tq lU hq;clear hq I6 I7 YC YD lU;go_wp2_with fail;refine(acX Z _ hzb.out).mono ?_;rintro e x9 ⟨rfl,hq⟩;have R4:=OH.t hq;have R5:=OI.t hq;have PT:=PS.t hq;have YF:=YE.t hq;have sw:=Tq pK hq;clear hq OH OI PS YE pK;have hub:=Hi (AB hzb.out);obtain⟨U,hU⟩: ∃U,eU Z=U:=⟨_,rfl⟩;rw [hU]at XW hub;rw [hU];clear hU;go_upto_region 10 with (first|(refine QA rfl _ _ _ rfl _ _ _ (tr (U)) rfl rfl YF (fA _) ?_;intro G9 aO Yj;have jm:=Hi aO;clear aO)|fail);have aO:=jm.out;have YG:Ar G9 w.heap.size 432 (pk):=(by rw [aO];exact R4.apart (b:=gG) (by omega) _ 0);have YH:Ar G9 gR 16 (λ_=>0):=(by rw [aO];exact R5.apart (b:=gG) (by omega) _ 0);have Yk:Ar G9 gV 256 (bk):=(by rw [aO];exact PT.apart (b:=gG) (by omega) _ 0);have YI:Below w.heap.size w G9:=(by rw [aO];exact sw.trans ((Qz _ gG _ 0).mono (by omega)));clear aO jm sw R4 R5 PT YF;go_wp2_with (first|(refine bB rfl _ _ rfl _ _ _ rfl Yj Tryz.nO (fA _) ?_)|(refine bB rfl _ _ rfl _ _ _ rfl Yk Tryz.zY (ug _) ?_));refine(aaZ U _ hub.out).mono ?_;rintro e OP ⟨rfl,hq⟩;have K8:=YG.t hq;have OO:=YH.t hq;have SK:=Yk.t hq;have YJ:=Yj.t hq;have wU:=Tq YI hq;clear hq YG YH Yk Yj YI
    go_wp2_with (refine QA rfl _ _ _ rfl _ _ _ (tr (dX U)) rfl rfl YJ (fA _) ?_;intro z12 aO Zc;have jm:=Hi aO;clear aO);have aO:=jm.out;have Zd:Ar z12 w.heap.size 432 (pk):=(by rw [aO];exact K8.apart (b:=gG) (by omega) _ 0);have Ze:Ar z12 gR 16 (λ_=>0):=(by rw [aO];exact OO.apart (b:=gG) (by omega) _ 0);have Zf:Ar z12 gV 256 (bk):=(by rw [aO];exact SK.apart (b:=gG) (by omega) _ 0);have Zg:Below w.heap.size w z12:=(by rw [aO];exact wU.trans ((Qz _ gG _ 0).mono (by omega)));clear aO jm wU K8 OO SK YJ;obtain⟨e1,e2,e3,e4⟩:=Lx.out;go_wp2_with fail;go_roundw;case rel=>exact⟨q,by omega,by go_num,Zd,Ze,Zf,by rw [XW.out];exact Zc,Zg⟩
    case measure=>simp [intOf];omega
   ·have i3: ¬(r:Int)<10:=(by omega);have XY:=HST.out;rw [if_neg wm]at XY;have XW:=Hi XY;have hzb:=hyb;go_wp2_with (refine bB rfl _ _ rfl _ _ _ rfl X0 Tryz.nO (fA _) ?_);refine(MU Y _ hzb.out).mono ?_;rintro e Je ⟨rfl,hq⟩;have Vj:=X4.t hq;have OW:=X5.t hq;have GR:=X6.t hq;have YK:=X0.t hq;have uf:=Tq X7 hq;clear hq X4 X5 X6 X0 X7;go_wp2_with fail;refine(MU (bf Y) _ (Cn hzb.out)).mono ?_;rintro e BQ ⟨rfl,hq⟩;have YL:=Vj.t hq;have YM:=OW.t hq;have GU:=GR.t hq;have YN:=YK.t hq;have vY:=Tq uf hq;clear hq Vj OW GR YK uf;go_wp2_with fail;refine(acX Y _ hzb.out).mono ?_;rintro e DN ⟨rfl,hq⟩;have YO:=YL.t hq;have YP:=YM.t hq;have zo:=GU.t hq;have YQ:=YN.t hq;have mM:=Tq vY hq;clear hq YL YM GU YN vY;have hub:=Hi (AB hzb.out);obtain⟨U,hU⟩: ∃U,eU Y=U:=⟨_,rfl⟩;rw [hU]at XW hub;rw [hU];clear hU;go_upto_region 10 with (first|(refine QA rfl _ _ _ rfl _ _ _ (tr (U)) rfl rfl YQ (fA _) ?_;intro D6 aO Yl;have jm:=Hi aO;clear aO)|fail);have aO:=jm.out;have YR:Ar D6 w.heap.size 432 (pk):=(by rw [aO];exact YO.apart (b:=gG) (by omega) _ 0);have YS:Ar D6 gR 16 (λ_=>0):=(by rw [aO];exact YP.apart (b:=gG) (by omega) _ 0);have Ym:Ar D6 gV 256 (bk):=by rw [aO];exact zo.apart (b:=gG) (by omega) _ 0
    have QC:Below w.heap.size w D6:=(by rw [aO];exact mM.trans ((Qz _ gG _ 0).mono (by omega)));clear aO jm mM YO YP zo YQ;go_wp2_with (first|(refine bB rfl _ _ rfl _ _ _ rfl Yl Tryz.nO (fA _) ?_)|(refine bB rfl _ _ rfl _ _ _ rfl Ym Tryz.zY (ug _) ?_));refine(aaZ U _ hub.out).mono ?_;rintro e uW ⟨rfl,hq⟩;have YT:=YR.t hq;have YU:=YS.t hq;have BS:=Ym.t hq;have YV:=Yl.t hq;have vZ:=Tq QC hq;clear hq YR YS Ym Yl QC;go_wp2_with (refine QA rfl _ _ _ rfl _ _ _ (tr (dX U)) rfl rfl YV (fA _) ?_;intro X8 aO Zh;have jm:=Hi aO;clear aO);have aO:=jm.out;have Zi:Ar X8 w.heap.size 432 (pk):=(by rw [aO];exact YT.apart (b:=gG) (by omega) _ 0);have Zj:Ar X8 gR 16 (λ_=>0):=(by rw [aO];exact YU.apart (b:=gG) (by omega) _ 0);have Zk:Ar X8 gV 256 (bk):=(by rw [aO];exact BS.apart (b:=gG) (by omega) _ 0);have Zl:Below w.heap.size w X8:=(by rw [aO];exact vZ.trans ((Qz _ gG _ 0).mono (by omega)));clear aO jm vZ YT YU BS YV;obtain⟨e1,e2,e3,e4⟩:=Lx.out;go_wp2_with fail;go_roundw;case rel=>exact⟨q,by omega,by go_num,Zi,Zj,Zk,by rw [XW.out];exact Zh,Zl⟩
    case measure=>simp [intOf];omega
  ·have e:r=0:=(by omega);subst e;have i1: ¬(1:Int)<=((0:Nat):Int):=(by omega);obtain⟨YW,hrb,D7,E8⟩:=fU (WX dh.out jc.out 10) (wu.out 0) (Yo.out 0 (by omega)) (show ah (xA f b 10) (rk f 0)=pQ f b from acW f b 10 (Nat.le_refl _));rw [show 10-0=10 from rfl]at XV;obtain⟨X,hX⟩: ∃X,xA f b 10=X:=⟨_,rfl⟩;rw [hX]at XV YW E8;obtain⟨rr,hrr⟩: ∃u,rk f 0=u:=⟨_,rfl⟩;rw [hrr]at hrb D7 E8;clear hX hrr;go_upto_region 11 with fail;go_wp2_with (first|(refine bB rfl _ _ rfl _ _ _ rfl XV Tryz.nO (fA _) ?_)|(refine TP rfl _ _ rfl _ 432 0 16 _ rfl qC (by omega) Tryz.aM (ay _) ?_;rw [show ae 16 (λj=>pk (0+j))=ae 16 rr from(by have q9:=D7.out;rwa [Nat.zero_mul]at q9)]));refine(Hu X rr _ YW.out hrb.out).mono ?_;rintro e SQ ⟨rfl,hq⟩;have YX:=qC.t hq;have YY:=oK.t hq;have P7:=JC.t hq;have YZ:=XV.t hq;have BV:=Tq ib hq;clear hq qC oK JC XV ib;go_wp2_with fail;refine(acY (ah X rr) _).mono ?_;rintro e x20 ⟨rfl,hq⟩;have Zp:=YX.t hq;have Zm:=YY.t hq;have Mi:=P7.t hq;have Zq:=YZ.t hq;have Am:=Tq BV hq;clear hq YX YY P7 YZ BV;rw [E8.out];go_wp2_with (refine bC rfl _ _ _ rfl _ _ _ (pQ f b) rfl rfl Zm (ay _) ?_;intro y8 Nw mR CG zJ);refine dU rfl rfl Nw Tryz.aM (ay _) rfl ⟨rfl,Am.trans (mR.mono (by omega))⟩
theorem ahx (f b:Nat->Nat) (w:World) (hf:aj f) (hb:aj b):Calls Tryz.prog 168 #[.agg (ae 432 (aX (ek f) sb)).toArray,.agg (ae 16 b).toArray] w λe w'=>e= .returned (.agg (ae 16 (pQ f b)).toArray)/\Below w.heap.size w w':=
 akk f b _ w hf hb (λr hr=>mh (λj hj=>by rw [aX,if_pos (by omega),Nat.mul_comm r 16,Co f r j hj])) (by rw [mh (n:=256) (g:=sb) (λj hj=>by rw [aX,if_neg (by omega),Nat.add_sub_cancel_left])];rfl)
end
end Go.Proofs.YtdaiacmneopkgaaGreatDoor
