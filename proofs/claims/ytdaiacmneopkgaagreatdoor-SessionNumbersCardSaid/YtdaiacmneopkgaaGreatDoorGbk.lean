/-
 Contracts of package block and of the reference package of layer 8, by walks through their texts, one after the other; what was there stays as it was.
-/
import Derived.Test.YtdaiacmneopkgaaGreatDoorFre
import Derived.BigRegion
import Derived.Deep.Cut
import Derived.ArgAppend
import Derived.Laws.CopyOwn
import Derived.Laws.MakeOwn
import Derived.Deep.RegionLaw
import Derived.Lib.MinMax
namespace Go.Proofs.YtdaiacmneopkgaaGreatDoor
set_option linter.unusedVariables false
set_option maxRecDepth 100000
set_option maxHeartbeats 4000000
section
open Go.RowKit
def fQ (f:Nat->Nat) (k:Nat):Nat:=f (k/8)/2^(7-k%8)%2
def wD (l:Nat->Nat) (j:Nat):Nat:=
 ((((((l (8*j)*2+l (8*j+1))*2+l (8*j+2))*2+l (8*j+3))*2+l (8*j+4))*2+l (8*j+5))*2+l (8*j+6))*2+l (8*j+7)
def iY (f:Nat->Nat) (n j:Nat):Nat:=f (j+n/8)*2^(n%8)%256+f (j+n/8+1)/2^(8-n%8)
theorem Re (f:Nat->Nat) (k:Nat):fQ f k<2:=Nat.mod_lt _ (by decide)
theorem ag8 (f:Nat->Nat) (j i:Nat) (hi:i<8):fQ f (8*j+i)=f j/2^(7-i)%2:=by
 unfold fQ;rw [show(8*j+i)/8=j by omega,show(8*j+i)%8=i by omega]
theorem ag9 (f:Nat->Nat) (j q r i:Nat) (hr:r<8) (hi:i<8):fQ f (8*j+i+(8*q+r))=if i+r<8 then f (j+q)/2^(7-(i+r))%2 else f (j+q+1)/2^(15-(i+r))%2:=by
 unfold fQ;by_cases h:i+r<8
 ·rw [if_pos h,show(8*j+i+(8*q+r))/8=j+q by omega,show(8*j+i+(8*q+r))%8=i+r by omega]
 ·rw [if_neg h,show(8*j+i+(8*q+r))/8=j+q+1 by omega,show(8*j+i+(8*q+r))%8=i+r-8 by omega];congr 3;omega
theorem cu: ∀x,x<256->x/128%2*128+x/64%2*64+x/32%2*32+x/16%2*16+x/8%2*8+x/4%2*4+x/2%2*2+x%2*1=x*1%256:=by decide+kernel
theorem Oc: ∀x,x<256->x/64%2*128+x/32%2*64+x/16%2*32+x/8%2*16+x/4%2*8+x/2%2*4+x%2*2=x*2%256:=by decide+kernel
theorem lo1: ∀y,y<256->y/128%2*1=y/128:=by decide+kernel
theorem IW: ∀x,x<256->x/32%2*128+x/16%2*64+x/8%2*32+x/4%2*16+x/2%2*8+x%2*4=x*4%256:=by decide+kernel
theorem lo2: ∀y,y<256->y/128%2*2+y/64%2*1=y/64:=by decide+kernel
theorem hi3: ∀x,x<256->x/16%2*128+x/8%2*64+x/4%2*32+x/2%2*16+x%2*8=x*8%256:=by decide+kernel
theorem lo3: ∀y,y<256->y/128%2*4+y/64%2*2+y/32%2*1=y/32:=by decide+kernel
theorem hi4: ∀x,x<256->x/8%2*128+x/4%2*64+x/2%2*32+x%2*16=x*16%256:=by decide+kernel
theorem lo4: ∀y,y<256->y/128%2*8+y/64%2*4+y/32%2*2+y/16%2*1=y/16:=by decide+kernel
theorem hi5: ∀x,x<256->x/4%2*128+x/2%2*64+x%2*32=x*32%256:=by decide+kernel
theorem lo5: ∀y,y<256->y/128%2*16+y/64%2*8+y/32%2*4+y/16%2*2+y/8%2*1=y/8:=by decide+kernel
theorem hi6: ∀x,x<256->x/2%2*128+x%2*64=x*64%256:=by decide+kernel
theorem lo6: ∀y,y<256->y/128%2*32+y/64%2*16+y/32%2*8+y/16%2*4+y/8%2*2+y/4%2*1=y/4:=by decide+kernel
theorem hi7: ∀x,x<256->x%2*128=x*128%256:=by decide+kernel
theorem lo7: ∀y,y<256->y/128%2*64+y/64%2*32+y/32%2*16+y/16%2*8+y/8%2*4+y/4%2*2+y/2%2*1=y/2:=by decide+kernel
theorem two_bytes (r:Nat) (hr:r<8) (x y:Nat) (hx:x<256) (hy:y<256):
  ((((((
   (if 0+r<8 then x/2^(7-(0+r))%2 else y/2^(15-(0+r))%2)*2+(if 1+r<8 then x/2^(7-(1+r))%2 else y/2^(15-(1+r))%2))*2+
   (if 2+r<8 then x/2^(7-(2+r))%2 else y/2^(15-(2+r))%2))*2+(if 3+r<8 then x/2^(7-(3+r))%2 else y/2^(15-(3+r))%2))*2+
   (if 4+r<8 then x/2^(7-(4+r))%2 else y/2^(15-(4+r))%2))*2+(if 5+r<8 then x/2^(7-(5+r))%2 else y/2^(15-(5+r))%2))*2+
   (if 6+r<8 then x/2^(7-(6+r))%2 else y/2^(15-(6+r))%2))*2+(if 7+r<8 then x/2^(7-(7+r))%2 else y/2^(15-(7+r))%2)
  =x*2^r%256+y/2^(8-r):=by
 rcases(show r=0\/r=1\/r=2\/r=3\/r=4\/r=5\/r=6\/r=7 by omega)with rfl|rfl|rfl|rfl|rfl|rfl|rfl|rfl
 ·have h1:=cu x hx;have h2:y/256=0:=by omega
  simp only [Nat.zero_add,Nat.reduceAdd,Nat.reduceLT,if_true,Nat.reduceSub,Nat.reducePow,Nat.div_one];generalize x%2=a0 at*;generalize x/2%2=a1 at*;generalize x/4%2=a2 at*;generalize x/8%2=a3 at*;generalize x/16%2=a4 at*;generalize x/32%2=a5 at*;generalize x/64%2=a6 at*;generalize x/128%2=a7 at*;generalize x*1%256=p at*;generalize y/256=q at*;clear hx hy;omega
 ·have h1:=Oc x hx;have h2:=lo1 y hy;simp only [Nat.zero_add,Nat.reduceAdd,Nat.reduceLT,if_true,Nat.reduceSub,Nat.reducePow,Nat.div_one,if_false];generalize x%2=a0 at*;generalize x/2%2=a1 at*;generalize x/4%2=a2 at*;generalize x/8%2=a3 at*;generalize x/16%2=a4 at*;generalize x/32%2=a5 at*;generalize x/64%2=a6 at*;generalize y/128%2=b0 at*;generalize x*2%256=p at*;generalize y/128=q at*;clear hx hy;omega
 ·have h1:=IW x hx;have h2:=lo2 y hy;simp only [Nat.zero_add,Nat.reduceAdd,Nat.reduceLT,if_true,Nat.reduceSub,Nat.reducePow,Nat.div_one,if_false];generalize x%2=a0 at*;generalize x/2%2=a1 at*;generalize x/4%2=a2 at*;generalize x/8%2=a3 at*;generalize x/16%2=a4 at*;generalize x/32%2=a5 at*;generalize y/128%2=b0 at*;generalize y/64%2=b1 at*;generalize x*4%256=p at*;generalize y/64=q at*;clear hx hy;omega
 ·have h1:=hi3 x hx;have h2:=lo3 y hy;simp only [Nat.zero_add,Nat.reduceAdd,Nat.reduceLT,if_true,Nat.reduceSub,Nat.reducePow,Nat.div_one,if_false];generalize x%2=a0 at*;generalize x/2%2=a1 at*;generalize x/4%2=a2 at*;generalize x/8%2=a3 at*;generalize x/16%2=a4 at*;generalize y/128%2=b0 at*;generalize y/64%2=b1 at*;generalize y/32%2=b2 at*;generalize x*8%256=p at*;generalize y/32=q at*;clear hx hy;omega
 ·have h1:=hi4 x hx;have h2:=lo4 y hy;simp only [Nat.zero_add,Nat.reduceAdd,Nat.reduceLT,if_true,Nat.reduceSub,Nat.reducePow,Nat.div_one,if_false];generalize x%2=a0 at*;generalize x/2%2=a1 at*;generalize x/4%2=a2 at*;generalize x/8%2=a3 at*;generalize y/128%2=b0 at*;generalize y/64%2=b1 at*;generalize y/32%2=b2 at*;generalize y/16%2=b3 at*;generalize x*16%256=p at*;generalize y/16=q at*;clear hx hy;omega
 ·have h1:=hi5 x hx;have h2:=lo5 y hy;simp only [Nat.zero_add,Nat.reduceAdd,Nat.reduceLT,if_true,Nat.reduceSub,Nat.reducePow,Nat.div_one,if_false];generalize x%2=a0 at*;generalize x/2%2=a1 at*;generalize x/4%2=a2 at*;generalize y/128%2=b0 at*;generalize y/64%2=b1 at*;generalize y/32%2=b2 at*;generalize y/16%2=b3 at*;generalize y/8%2=b4 at*;generalize x*32%256=p at*;generalize y/8=q at*;clear hx hy;omega
 ·have h1:=hi6 x hx;have h2:=lo6 y hy;simp only [Nat.zero_add,Nat.reduceAdd,Nat.reduceLT,if_true,Nat.reduceSub,Nat.reducePow,Nat.div_one,if_false];generalize x%2=a0 at*;generalize x/2%2=a1 at*;generalize y/128%2=b0 at*;generalize y/64%2=b1 at*;generalize y/32%2=b2 at*;generalize y/16%2=b3 at*;generalize y/8%2=b4 at*;generalize y/4%2=b5 at*;generalize x*64%256=p at*;generalize y/4=q at*;clear hx hy;omega
 ·have h1:=hi7 x hx;have h2:=lo7 y hy;simp only [Nat.zero_add,Nat.reduceAdd,Nat.reduceLT,if_true,Nat.reduceSub,Nat.reducePow,Nat.div_one,if_false];generalize x%2=a0 at*;generalize y/128%2=b0 at*;generalize y/64%2=b1 at*;generalize y/32%2=b2 at*;generalize y/16%2=b3 at*;generalize y/8%2=b4 at*;generalize y/4%2=b5 at*;generalize y/2%2=b6 at*;generalize x*128%256=p at*;generalize y/2=q at*;clear hx hy;omega
theorem Rc (f:Nat->Nat) (hf: ∀j,f j<256) (n j:Nat):wD (λk=>fQ f (k+n)) j=iY f n j:=by
 have e:=λi (hi:i<8)=>ag9 f j (n/8) (n%8) i (by omega) hi;rw [show 8*(n/8)+n%8=n by omega]at e;unfold wD iY;dsimp only;have e0:=e 0 (by omega);rw [Nat.add_zero]at e0;rw [e0,e 1 (by omega),e 2 (by omega),e 3 (by omega),e 4 (by omega),e 5 (by omega),e 6 (by omega),e 7 (by omega)];exact two_bytes (n%8) (by omega) _ _ (hf _) (hf _)
theorem aha {l m:Nat->Nat} (j:Nat) (h: ∀i,i<8->l (8*j+i)=m (8*j+i)):wD l j=wD m j:=by
 unfold wD;have h0:=h 0 (by omega);rw [Nat.add_zero]at h0;rw [h0,h 1 (by omega),h 2 (by omega),h 3 (by omega),h 4 (by omega),h 5 (by omega),h 6 (by omega),h 7 (by omega)]
def cut (n:Nat) (f:Nat->Nat) (j:Nat):Nat:=if j<n then f j else 0
theorem Cy {n:Nat} {f:Nat->Nat} (h: ∀j,j<n->f j<256) (j:Nat):cut n f j<256:=by
 unfold cut;split
 ·exact h j (by assumption)
 ·omega
def gI (f:Nat->Nat) (j:Nat):Nat:=iY (cut 16 f) 1 j^^^(if j=15 then f 0/128*135 else 0)
theorem KP (f:Nat->Nat) (j:Nat):iY f 1 j=f j*2%256+f (j+1)/128:=by simp [iY]
theorem agn {f:Nat->Nat} (h:aj f):aj (gI f):=λj hj=>by
 unfold gI;rw [KP];have h1:=Cy h j;have h2:=Cy h (j+1);have h0:=h 0 (by omega);refine ku _ _ (by omega) ?_;split<;>omega
end
section
open Go.RowKit
def wY (n:Nat) (l:Nat->Nat):List Value:=(List.range n).map λj=> .int .i64 (l j:Nat)
theorem aba (n:Nat) (l:Nat->Nat):(wY n l).length=n:=by simp [wY]
theorem abb (n:Nat) (l:Nat->Nat) (j:Nat) (h:j<n):(wY n l)[j]?=some (.int .i64 (l j:Nat)):=by
 simp [wY,List.getElem?_map,List.getElem?_range h]
theorem abd (n:Nat) (l:Nat->Nat):wY (n+1) l=wY n l++ [.int .i64 (l n:Nat)]:=by simp [wY,List.range_succ]
theorem abe:(Tryz.prog.info? 3).map (λi=>(i.zero,i.size,i.bytes))=some (some (.int .i64 0),1,8):=by kernel_rfl
def Gw (w:World) (B:Nat) (v:Value) (n:Nat) (l:Nat->Nat):Prop:=w.ownsRow B 3 1 v n (wY n l)
theorem Gw.cell {w:World} {B:Nat} {A:Option Addr} {n c:Nat} {l:Nat->Nat} (h:Gw w B (.slice A n c) n l) (j:Nat) (hj:j<n): ∃g,A=some ⟨g,0,none⟩/\B<=g/\g<w.heap.size/\w.cell? ⟨g,j,none⟩=some (.int .i64 (l j:Nat)):=by
 obtain⟨g,cap,hv,hg,hlt⟩:=World.ownsRow.form h (by omega);injection hv with e1 e2 e3;subst e1;refine⟨g,rfl,hg,hlt,?_⟩;have hc:=World.ownsRow.cells h (g:=g) rfl j _ (abb n l j hj);have:(⟨g,0,none⟩:Addr).add j=⟨g,0+j,none⟩:=by unfold Addr.add;split<;>simp_all
 rw [this,Nat.zero_add]at hc;exact hc
theorem yg {w:World} {base:Nat} {e:TypeId} {size:Nat} {v:Value} {n:Nat} {xs:List Value} (h:w.ownsRow base e size v n xs) {g:Nat} (hg:v.ownBlock=some g):base<=g:=by
 rcases h.2 with ⟨rfl,_⟩|⟨g0,cap,cur,rfl,hb,_⟩
 ·simp [Value.ownBlock]at hg
 ·simp [Value.ownBlock]at hg;omega
theorem ahb (x t p q:Nat) (hx:x<256) (hp:p=x/2^t) (hq:q=p%2):
  (wrap64 ((x:Int)/2^t)=(p:Int)/\IntKind.i64.wrap ((x:Int)/2^t)=(p:Int))/\(p:Int).tmod 2=(q:Int)/\(p:Int)%2=(q:Int):=by
 have h1:p<=x:=by rw [hp];exact Nat.div_le_self _ _
 have e:(x:Int)/2^t=(p:Int):=by rw [hp,Int.natCast_ediv,Int.natCast_pow];rfl
 refine⟨⟨?_,?_⟩,?_,by omega⟩
 ·rw [e];exact IntWalk.wrap64_in _ (by omega)
 ·rw [e];exact fO _ (by omega) (by omega)
 ·rw [Int.tmod_eq_emod_of_nonneg (by omega)];omega
theorem abf (f:Nat->Nat) (n g:Nat) (w:World) (hn:n<=100) (hf: ∀j,j<n->f j<256) (hA:Ar w g n f) (hg:g<w.heap.size):
  Calls Tryz.prog 201 #[.slice (some ⟨g,0,none⟩) n n] w λe w'=> ∃A c,e= .returned (.slice A (8*n) c)/\Gw w' w.heap.size (.slice A (8*n) c) (8*n) (fQ f)/\Below w.heap.size w w':=by
 obtain⟨i0,cu,bJ,bE,dx⟩:=info_parts abe;have hzs:(Value.int .i64 0).cells.size=1:=rfl;go_enter Tryz.func201,Tryz.ntmps201;go_wp2_with fail;go_loopw [3,4] (λv i wr=> ∃(k:Nat) (A:Option Addr) (c:Nat),k<=n/\i= .int .i64 k/\v= .slice A (8*k) c/\Gw wr w.heap.size (.slice A (8*k) c) (8*k) (fQ f)/\Below w.heap.size w wr) (λ_ i _=>n-(intOf i).toNat);case atStart=>exact⟨0,none,0,Nat.zero_le _,rfl,rfl,World.ownsRow_nil _ _ _ _,Below.refl _ _⟩
 case round=>
  obtain⟨k,A,c,hk,rfl,rfl,hO,hB⟩:=hrel;by_cases hlt:k<n
  ·have i1:(k:Int)<(n:Int):=(by omega);go_wp2_with fail;obtain⟨wo,rfl⟩:=Lv (wr);go_loopw [3,5] (λv i wr=> ∃(s:Nat) (A:Option Addr) (c:Nat),s<=8/\i= .int .i64 ((s:Int)-1)/\v= .slice A (8*k+(8-s)) c/\Gw wr w.heap.size (.slice A (8*k+(8-s)) c) (8*k+(8-s)) (fQ f)/\Below w.heap.size w wr) (λ_ i _=>(intOf i+1).toNat);case atStart=>exact⟨8,A,c,by omega,rfl,rfl,hO,hB⟩
   case round=>
    clear hO hB;obtain⟨s,A,c,hs,rfl,rfl,hO,hB⟩:=hrel;by_cases vB:0<s
    ·obtain⟨t,rfl⟩: ∃t,s=t+1:=⟨s-1,by omega⟩;have es:((t+1:Nat):Int)-1=(t:Int):=(by omega);rw [es];have i2:(0:Int)<=(t:Int):=(by omega);have i3:(t:Int)<8:=(by omega);have hgw:g<wr.heap.size:=(by have:=hB.size;omega);have c0:wr.cell? ⟨g,k,none⟩=some (.int .u8 (f k:Nat)):=(hB.cell (p:=⟨g,k,none⟩) hg).trans (hA k hlt).1;obtain⟨p,hp⟩:=Lv (f k/2^t);obtain⟨q,hq⟩:=Lv (p%2);obtain⟨⟨e1,e2⟩,e3,e4⟩:=ahb (f k) t p q (hf k hlt) hp hq;obtain⟨M,hM⟩:=Le (8*k+(8-(t+1)));rw [hM]at hO⊢;obtain⟨hbit,HM,Lg,HB,hsz⟩:=jX (show fQ f M=q by rw [<-hM,show 8*k+(8-(t+1))=8*k+(7-t)by omega,ag8 f k (7-t) (by omega),show 7-(7-t)=t by omega,<-hp,hq]) hM (show M<1000 by omega) hB hB.size;clear hM hp hq hB;go_wp2_with (at_builtin;refine wpList_append_own _ rfl _ _ 270 rfl w.heap.size 3 i0 (.int .i64 0) 1 8 Tryz.underlying270 cu bJ bE dx rfl (by decide) _ _ _ rfl (hO.alloc _) ⟨wr.heap.size,0,none⟩ 1 1 [.int .i64 (q:Nat)] rfl rfl ?c1 ?c2 ?c3 ?c4 ?c5 ?_);case c1=>
      intro j u hj
      match j,hj with
      |0,hj=>simp at hj;subst hj;simp [Addr.add]
     case c2=>intro u hu;simp at hu;subst hu;rfl
     case c3=>have:=Lg.out;unfold maxLen;omega
     case c4=>have:=Lg.out;omega
     case c5=>have:=hsz.out;simp;omega
     intro v2 w2 Gx hgrow _;obtain⟨A2,c2,rfl⟩:=su Gx;have Bh:Gw w2 w.heap.size (.slice A2 (M+1) c2) (M+1) (fQ f):=by
      unfold Gw;rw [abd,hbit.out];exact Gx
     have aF:Below w.heap.size w w2:=(HB.out.alloc hsz.out _).grown hgrow (by have:=hsz.out;simp;omega) (λg0 XY=>yg hO XY);have eM:M+1=8*k+(8-t):=(by have:=HM.out;omega);rw [eM]at Bh⊢;clear hO Gx hgrow e1 e2 e3 e4 hgw c0;go_wp2_with fail;go_roundw;case rel=>exact⟨t,A2,c2,by omega,by first|rfl|(go_num),rfl,Bh,aF⟩
     case measure=>simp [intOf]
    ·obtain rfl:s=0:=by omega
     go_wp2_with fail;go_roundw;case rel=>exact⟨k+1,A,c,by omega,by go_num,rfl,hO,hB⟩
     case measure=>simp [intOf];omega
  ·obtain rfl:k=n:=by omega
   go_wp2_with fail;go_ret;exact⟨A,c,rfl,hO,hB⟩
end
section
open Go.RowKit
theorem Tryz.iT:Tryz.prog.underlying 22=some (.array 16 5):=by kernel_rfl
theorem Tryz.vw:(Tryz.prog.info? 22).map (λi=>(i.zero,i.size))=some (some (.agg (Array.replicate 16 (.int .u8 0))),16):=by kernel_rfl
theorem dW (f:Nat->Nat):(Tryz.prog.info? 22).map (·.size)=some (ae 16 f).length:=by rw [bz];exact(zero_of_info Tryz.vw).2
theorem vw (w:World):(zeroValue 22).run Tryz.prog w= .ok (.agg (ae 16 λ_=>0).toArray) w:=by
 rw [xI];exact(zero_of_info Tryz.vw).1 w
def Dj (l:Nat->Nat) (j:Nat):Nat->Nat
 |0=>0
 |m+1=>Dj l j m*2+l (8*j+m)
theorem ahc (l:Nat->Nat) (j:Nat):Dj l j 8=wD l j:=by simp [Dj,wD]
theorem abg (l:Nat->Nat) (hl: ∀k,k<128->l k<2) (j:Nat) (hj:j<16): ∀m,m<=8->Dj l j m<2^m
 |0,_=>by simp [Dj]
 |m+1,h=>by
  have h1:=abg l hl j hj m (by omega);have h2:=hl (8*j+m) (by omega);rw [Dj,Nat.pow_succ];omega
def sI (l:Nat->Nat) (i j:Nat):Nat:=Dj l j (min 8 (i-8*j))
theorem ahd (l:Nat->Nat) (j:Nat):sI l 0 j=0:=by simp [sI,Dj]
theorem ahe (l:Nat->Nat) (j:Nat) (hj:j<16):sI l 128 j=wD l j:=by rw [sI,show min 8 (128-8*j)=8 by omega,ahc]
theorem abh (l:Nat->Nat) (i q:Nat) (hq:q=i/8):sI l i q=Dj l q (i%8):=by rw [sI,show min 8 (i-8*q)=i%8 by omega]
theorem ahf (l:Nat->Nat) (i q j:Nat) (hq:q=i/8):(if j=q then sI l i q*2+l i else sI l i j)=sI l (i+1) j:=by
 by_cases h:j=q
 ·subst h;rw [if_pos rfl,abh l i j hq,sI,show min 8 (i+1-8*j)=i%8+1 by omega,Dj,show 8*j+i%8=i by omega]
 ·rw [if_neg h,sI,sI,show min 8 (i+1-8*j)=min 8 (i-8*j)by omega]
theorem Vw (l:Nat->Nat) (g o n c:Nat) (w:World) (hn:128<=n) (hl: ∀k,k<128->l k<2) (hA: ∀k,k<128->w.cell? ⟨g,o+k,none⟩=some (.int .i64 (l k:Nat))) (hg:g<w.heap.size):
  Calls Tryz.prog 202 #[.slice (some ⟨g,o,none⟩) n c] w λe w'=>e= .returned (.agg (ae 16 (wD l)).toArray)/\Below w.heap.size w w':=by
 have hz:=vw;obtain⟨w2,ag,aD,ai,aA⟩:=nA w 16 (λ_=>0) 22;obtain⟨w3,az,-,aU,eQ⟩:=fw aD ai 16 (λ_=>0) 22;have aL:=bn az aA;clear ai aA;obtain⟨HA,HL⟩:=aB hA hl;clear hA hl;go_enter Tryz.func202,Tryz.ntmps202;go_upto_region 2 with fail;rw [<-ag,<-az];clear ag az aD;obtain⟨gT,eH⟩:=Le (w.heap.size+1);have hge:w.heap.size<gT:=by omega
 rw [eH]at eQ;rw [eH];clear eH;go_wp2_with fail;go_loopw [4] (λi wr=> ∃k:Nat,k<=128/\i= .int .i64 k/\Ar wr w.heap.size 16 (λ_=>0)/\Ar wr gT 16 (sI l k)/\Below w.heap.size w wr) (λi _=>128-(intOf i).toNat);case atStart=>exact⟨0,Nat.zero_le _,rfl,aL,eQ.ext (λj _=>(ahd l j).symm),aU⟩
 case round=>
  clear aL eQ aU;obtain⟨k,hk,rfl,hR,hT,hB⟩:=hrel;by_cases hlt:k<128
  ·have i1:(k:Int)<128:=(by omega);obtain⟨q,hq⟩:=Lv (k/8);have q2:(k:Int)/8=(q:Int):=(by omega);have q3:(q:Int)<16:=(by omega);have i4:(k:Int)<(n:Int):=(by omega);have c0:wr.cell? ⟨g,o+k,none⟩=some (.int .i64 (l k:Nat)):=(hB.cell (p:=⟨g,o+k,none⟩) hg).trans (HA.out k hlt);obtain⟨c1,f1⟩:=hT q (by omega);have y2:=HL.out k hlt;have x2:sI l k q<128:=by
    rw [abh l k q hq];have h1:=abg l HL.out q (by omega) (k%8) (by omega);have h2:2^(k%8)<=2^7:=Nat.pow_le_pow_right (by omega) (by omega);omega
   obtain⟨bG,aA,aF⟩:=dD ((hT.set (j:=q) (v:=sI l k q*2+l k) (by omega) rfl).ext (f':=sI l (k+1)) (λj _=>ahf l k q j hq)) (hR.far (p:=⟨gT,q,none⟩) (by simp;omega) (.int .u8 (sI l k q*2+l k:Nat))) (hB.setCell (p:=⟨gT,q,none⟩) (by simp;omega) (.int .u8 (sI l k q*2+l k:Nat)));generalize sI l k q=x at*;generalize l k=y at*;have e1:((x*2+y:Nat):Int)=(x:Int)*2+(y:Int):=(by omega);rw [e1]at bG aA aF;clear hT hR hB hq hn e1;go_wp2_with fail;refine wp_region_noPanic ?_
   go_big_region
   refine NoPanic.normal ?_;clear q2 q3;go_wp2_with fail;go_roundw;case rel=>exact⟨k+1,by omega,by go_num,aA.out.drew,bG.out.drew,aF.out.drew⟩
   case measure=>simp [intOf];omega
  ·obtain rfl:k=128:=by omega
   have bG:=hT.ext (f':=wD l) (λj hj=>ahe l j hj);clear hT;go_wp2_with (first
    |(refine bB rfl _ _ rfl _ _ _ rfl bG Tryz.iT (dW _) ?_)
    |(refine bC rfl _ _ _ rfl _ _ _ (wD l) rfl rfl hR (dW _) ?_;intro w8 bg aY _ _))
   refine dU rfl rfl bg Tryz.iT (dW _) rfl ⟨rfl,?_⟩;exact hB.trans (aY.mono (by omega))
end
section
open Go.RowKit
theorem Tryz.Rh:Tryz.prog.underlying 253=some (.array 24 5):=by kernel_rfl
theorem aeG (f:Nat->Nat) (n:Nat) (w:World) (hf: ∀j,j<24->f j<256) (hn:n<=64):
  Calls Tryz.prog 189 #[.agg (ae 24 f).toArray,.int .i64 (n:Int)] w λe w'=>e= .returned (.agg (ae 16 (iY (cut 24 f) n)).toArray)/\Below w.heap.size w w':=by
 have hz:=vw;obtain⟨kA,aR⟩:=Le ((ae 24 f).toArray);obtain⟨w1,af,ak,au,aN⟩:=nA w 24 f 253;obtain⟨w2,ag,-,ai,aA⟩:=fw ak au 16 (λ_=>0) 22;have aI:=bn ag aN;rw [aR]at af;rw [aR];clear au aN aR;have HF:=Hi hf;clear hf;have i1:(0:Int)<=(n:Int):=by omega
 have i2:(n:Int)<=64:=by omega
 go_enter Tryz.func189,Tryz.ntmps189;go_upto_region 1 with fail;rw [<-af,<-ag];clear af ag ak;go_wp2_with fail;refine(abf f 24 w.heap.size w2 (by omega) HF.out aI (aI.lt (by omega))).mono ?_;rintro e w3 ⟨A,c,rfl,hO,hq⟩;have aL:=aA.t hq;have aS:=Tq ai hq;clear aA ai hq;obtain⟨g,rfl,hgb,hgl,_⟩:=hO.cell 0 (by omega);have hcap:=(Af hO).1;have HC:=Hi (λk (hk:k<192)=>(hO.cell k hk));have i3:(192:Int)<=(c:Int):=by omega
 clear hO aI;go_wp2_with fail;have hcell: ∀k,k<128->w3.cell? ⟨g,n+k,none⟩=some (.int .i64 (fQ f (k+n):Nat)):=λk hk=>by
  obtain⟨g2,e,_,_,hc⟩:=HC.out (n+k) (by omega);injection e with e;injection e with e;subst e;rw [hc,Nat.add_comm n k]
 refine(Vw (λk=>fQ f (k+n)) g n 128 (c-n) w3 (by omega) (λk _=>Re _ _) hcell hgl).mono ?_;rintro e w4 ⟨rfl,hq⟩;rw [mh (n:=16) (f:=wD λk=>fQ f (k+n)) (g:=iY (cut 24 f) n) (λj hj=>by
  rw [<-Rc (cut 24 f) (Cy HF.out) n j];refine aha j (λi hi=> ?_);unfold fQ cut;rw [if_pos (by omega)])]
 have dO:=aL.t hq;have fD:=Tq aS hq;clear aL aS hq hcell HC;go_wp2_with (refine bC rfl _ _ _ rfl _ _ _ (iY (cut 24 f) n) rfl rfl dO (dW _) ?_;intro w8 bg aY _ _);refine dU rfl rfl bg Tryz.iT (dW _) rfl ⟨rfl,?_⟩;exact fD.trans (aY.mono (by omega))
end
section
open Go.RowKit
theorem O6 {W:World} {g o:Nat} {x:Value} (h:W.cell? ⟨g,o,none⟩=some x):g<W.heap.size:=by
 rcases Nat.lt_or_ge g W.heap.size with h1|h1
 ·exact h1
 ·simp [World.cell?,Array.getElem?_eq_none h1]at h
theorem abj (f:Nat->Nat) (hf: ∀j,j<16->f j<256) (j:Nat):iY (cut 16 f) 1 j<256:=by
 rw [KP];have:=Cy hf j;have:=Cy hf (j+1);omega
theorem ahg {w:World} {base:Nat} {e:TypeId} {g n c:Nat} {xs:List Value} (h:w.ownsRow base e 1 (.slice (some ⟨g,0,none⟩) n c) n xs) (hn:0<n) (j:Nat) (hj:j<c):
  (w.cell? ⟨g,j,none⟩).isSome=true/\w.frozen? ⟨g,j,none⟩=false:=by
 refine⟨?_,World.ownsRow.frozenAt h j⟩;rcases h.2 with ⟨h1,_⟩|⟨g0,cap,cur,hv,_,hcell,_,_,hsz,_⟩
 ·cases h1
 ·injection hv with e1 e2 e3;injection e1 with e1;injection e1 with e1;subst e1 e3;simp [World.cell?,hcell];omega
theorem Vm (f:Nat->Nat) (w:World) (hf: ∀j,j<16->f j<256):
  Calls Tryz.prog 163 #[.agg (ae 16 f).toArray] w λe w'=>e= .returned (.agg (ae 16 (gI f)).toArray)/\Below w.heap.size w w':=by
 obtain⟨i0,cu,bJ,bE,dx⟩:=info_parts abe;have hz:=vw;obtain⟨kA,aR⟩:=Le ((ae 16 f).toArray);obtain⟨w1,af,ak,au,aN⟩:=nA w 16 f 22;obtain⟨w2,ag,aD,ai,aA⟩:=fw ak au 16 (λ_=>0) 22;have aI:=bn ag aN;rw [aR]at af;rw [aR];clear au aN aR;have HF:=Hi hf;clear hf;go_enter Tryz.func163,Tryz.ntmps163;go_upto_region 1 with fail;rw [<-af,<-ag];clear af ag ak;go_wp2_with fail;refine(abf f 16 w.heap.size w2 (by omega) HF.out aI (aI.lt (by omega))).mono ?_;rintro e w3 ⟨A,c,rfl,hO,hq⟩;have aL:=aA.t hq;have aS:=Tq ai hq;clear aA ai hq;obtain⟨g,rfl,hgb,hgl,d3⟩:=hO.cell 0 (by omega);have hcap:=(Af hO).1;have HC:=Hi (λk (hk:k<128)=>(show w3.cell? ⟨g,k,none⟩=some (.int .i64 (fQ f k:Nat))by
  obtain⟨g2,e,_,_,hc⟩:=hO.cell k hk;injection e with e;injection e with e;subst e;exact hc))
 have HS:=Hi (λj (hj:j<c)=>ahg hO (by omega) j hj);have i3:(128:Int)<=(c:Int):=by omega
 have Yc:w.heap.size+1<g:=by omega
 clear hO aI hgb aD;have holds: ∀j u,(wY 127 (λk=>fQ f (k+1)))[j]?=some u->w3.cell? ⟨g,1+j,none⟩=some u:=λj u hu=>by
  have hj:j<127:=by
   rcases Nat.lt_or_ge j 127 with h1|h1
   ·exact h1
   ·rw [List.getElem?_eq_none (by rw [aba];exact h1)]at hu;cases hu
  rw [abb 127 _ j hj]at hu;injection hu with hu;subst hu;rw [Nat.add_comm 1 j];exact HC.out (j+1) (by omega)
 have HO:=Hi holds;have X3:fQ (cut 16 f) (127+1)=0:=by unfold fQ cut;rw [if_neg (by omega)]
 clear holds;go_wp2_with (at_builtin;refine wpList_append_arg _ rfl _ _ 270 rfl 3 i0 (.int .i64 0) 1 8 Tryz.underlying270 cu bJ bE dx rfl (by decide) g 1 127 (c-1) (wY 127 (λk=>fQ f (k+1))) rfl ?lo ?olds ⟨w3.heap.size,0,none⟩ 1 1 [.int .i64 0] rfl rfl ?c1 ?c2 ?spare ?maxLen ?bytes ?room ?grow);case olds=>intro j u hu;rw [World.cell?_alloc_lt w3 _ ⟨g,1+j,none⟩ hgl];exact HO.out j u hu
 case c1=>
  intro j u hj
  match j,hj with
  |0,hj=>simp at hj;subst hj;simp [Addr.add]
 case c2=>intro u hu;simp at hu;subst hu;rfl
 case spare=>
  intro hr j hj;simp at hj;subst hj;have:=HS.out 128 (by omega);exact⟨by rw [World.cell?_alloc_lt w3 _ ⟨g,128,none⟩ hgl];exact this.1,(((Below.refl w3.heap.size w3).alloc (Nat.le_refl _) _).frozen (p:=⟨g,128,none⟩) hgl).trans this.2⟩
 case maxLen=>decide
 case bytes=>decide
 case lo=>rw [aba]
 case room=>
  intro hroom;have Yd:129<=c:=by omega
  obtain⟨w5,eO⟩:=Lv ((w3.alloc (.cells #[.int .i64 0] 3)).setCells g (1+127*1) [.int .i64 0]);have XW:w5=(w3.alloc (.cells #[.int .i64 0] 3)).setCell ⟨g,128,none⟩ (.int .i64 0):=eO;have eY:Ar w5 (w.heap.size+1) 16 (λ_=>0):=by rw [XW];exact(aL.alloc (by omega) _).far (by simp;omega) _
  have dY:Below w.heap.size w w5:=by rw [XW];exact(aS.alloc aS.size _).setCell (by simp;omega) _
  have old: ∀k,k<128->w5.cell? ⟨g,k,none⟩=some (.int .i64 (fQ f k:Nat)):=λk hk=>by
   rw [XW,World.cell?_setCell_other _ _ _ _ (λe=>by injection e with _ e;omega),World.cell?_alloc_lt w3 _ ⟨g,k,none⟩ hgl];exact HC.out k hk
  have d0:=old 0 (by omega);obtain⟨gA,oA,cA,e1,e2,e3⟩: ∃gA oA cA:Nat,gA=g/\oA=1/\cA=c-1:=⟨_,_,_,rfl,rfl,rfl⟩;have hcells: ∀k,k<128->w5.cell? ⟨gA,oA+k,none⟩=some (.int .i64 (fQ (cut 16 f) (k+1):Nat)):=λk hk=>by
   rw [e1,e2,Nat.add_comm 1 k];by_cases X7:k=127
   ·subst X7;rw [XW,World.cell?_setCell_same _ _ _ (u:=(w3.cell? ⟨g,128,none⟩).get (HS.out 128 (by omega)).1) (by rw [World.cell?_alloc_lt w3 _ ⟨g,128,none⟩ hgl];simp),X3];rfl
   ·rw [old (k+1) (by omega)];unfold fQ cut;rw [if_pos (by omega)]
  have hgA:gA<w5.heap.size:=O6 (hcells 0 (by omega));have zV:g<w5.heap.size:=O6 d0;rw [<-eO,show(Value.slice (some ⟨g,1,none⟩) (127+1) (c-1))= .slice (some ⟨gA,oA,none⟩) 128 cA by rw [e1,e2,e3]];clear eO XW aL aS old e1 e2 e3 HS HC HO hgl d3;try dsimp only [Act.put]
  go_wp2_with fail;refine(Vw (λk=>fQ (cut 16 f) (k+1)) gA oA 128 cA _ (by omega) (λk _=>Re _ _) hcells hgA).mono ?_;rintro e w6 ⟨rfl,hq⟩;rw [mh (n:=16) (f:=wD λk=>fQ (cut 16 f) (k+1)) (g:=iY (cut 16 f) 1) (λj _=>Rc (cut 16 f) (Cy HF.out) 1 j)];have dV:=eY.t hq;have fK:=Tq dY hq;have d6:w6.cell? ⟨g,0,none⟩=some (.int .i64 (fQ f 0:Nat)):=(hq.cell (p:=⟨g,0,none⟩) zV).trans d0;clear eY dY hq hcells hgA d0;obtain⟨gT,eH⟩:=Le (w6.heap.size);have Gt:w.heap.size+1<gT:=by rw [<-eH];exact dV.lt (by omega)
  have XX:g<gT:=by rw [<-eH];exact O6 d6
  obtain⟨w7,mG⟩:=Lv (w6.alloc (.cells (ae 16 λ_=>0).toArray 22));have p9:=bn mG dV;have nu:=tF mG eH;have oJ:=Bm mG fK;have d7:w7.cell? ⟨g,0,none⟩=some (.int .i64 (fQ f 0:Nat)):=by rw [mG,World.cell?_alloc_lt w6 _ ⟨g,0,none⟩ (by rw [eH];exact XX)];exact d6
  clear dV fK d6;go_upto_region 3 with (refine bC rfl _ _ _ rfl _ _ _ (iY (cut 16 f) 1) rfl rfl (by rw [<-mG];exact nu) (dW _) ?_;intro w8 pO dE qM oI);rw [<-mG]at dE qM oI;have nH:=oI _ _ _ (by omega) p9;have qZ:=oJ.trans (dE.mono (by omega));have d8:w8.cell? ⟨g,0,none⟩=some (.int .i64 (fQ f 0:Nat)):=(dE.cell (p:=⟨g,0,none⟩) XX).trans d7;clear nu p9 oJ d7 dE qM oI mG eH;try dsimp only [Act.put]
  have iN:fQ f 0=f 0/128:=by have:=HF.out 0 (by omega);unfold fQ;simp;omega
  rw [iN]at d8;have uh:=HF.out 0 (by omega);by_cases hc:f 0/128=1
  ·rw [hc]at d8;obtain⟨c15,f15⟩:=pO 15 (by omega);have y1:bits BinOp.xor IntKind.u8 ((iY (cut 16 f) 1 15:Nat):Int) 135=((iY (cut 16 f) 1 15^^^135:Nat):Int):=mo _ 135 (abj f HF.out 15) (by omega);have ig:=(pO.set (j:=15) (v:=iY (cut 16 f) 1 15^^^135) (by omega) rfl).ext (f':=gI f) (λj hj=>by
    unfold gI;by_cases XV:j=15
    ·rw [if_pos XV,if_pos XV,hc,XV]
    ·rw [if_neg XV,if_neg XV,Nat.xor_zero])
   have bI:=nH.far (p:=⟨gT,15,none⟩) (by simp;omega) (.int .u8 (iY (cut 16 f) 1 15^^^135:Nat));have bD:=qZ.setCell (p:=⟨gT,15,none⟩) (by simp;omega) (.int .u8 (iY (cut 16 f) 1 15^^^135:Nat));clear pO nH qZ hc iN uh;go_wp2_with (first
    |(refine bB rfl _ _ rfl _ _ _ rfl ig Tryz.iT (dW _) ?_)
    |(refine bC rfl _ _ _ rfl _ _ _ (gI f) rfl rfl bI (dW _) ?_;intro O7 hA hb _ _))
   refine dU rfl rfl hA Tryz.iT (dW _) rfl ⟨rfl,?_⟩;exact bD.trans (hb.mono (by omega))
  ·have h0:f 0/128=0:=(by omega);rw [h0]at d8;have ig:=pO.ext (f':=gI f) (λj hj=>by
    unfold gI;rw [h0];split<;>simp)
   clear pO hc iN uh;go_wp2_with (first
    |(refine bB rfl _ _ rfl _ _ _ rfl ig Tryz.iT (dW _) ?_)
    |(refine bC rfl _ _ _ rfl _ _ _ (gI f) rfl rfl nH (dW _) ?_;intro O7 hA hb _ _))
   refine dU rfl rfl hA Tryz.iT (dW _) rfl ⟨rfl,?_⟩;exact qZ.trans (hb.mono (by omega))
 case grow=>
  intro _ v5 w5 hown hgrow;obtain⟨A5,cA,rfl⟩:=su hown;have dO:Ar (w3.alloc (.cells #[.int .i64 0] 3)) (w.heap.size+1) 16 (λ_=>0):=aL.alloc (by omega) _;have kv:Below (w3.alloc (.cells #[.int .i64 0] 3)).heap.size (w3.alloc (.cells #[.int .i64 0] 3)) w5:=(Below.refl _ _).grown hgrow (by simp) (λg0 XY=>by cases XY);have eY:Ar w5 (w.heap.size+1) 16 (λ_=>0):=dO.to (by omega) kv;have fD:Below w.heap.size w (w3.alloc (.cells #[.int .i64 0] 3)):=aS.alloc aS.size _;have dY:Below w.heap.size w w5:=fD.trans (kv.mono fD.size);have d0:w5.cell? ⟨g,0,none⟩=some (.int .i64 (fQ f 0:Nat)):=by
   rw [kv.cell (p:=⟨g,0,none⟩) (by simp;omega),World.cell?_alloc_lt w3 _ ⟨g,0,none⟩ hgl];exact d3
  have hx:wY 127 (λk=>fQ f (k+1))++ [Value.int .i64 0]=wY 128 (λk=>fQ (cut 16 f) (k+1)):=by
   have ha:wY 127 (λk=>fQ f (k+1))=wY 127 (λk=>fQ (cut 16 f) (k+1)):=by
    unfold wY;apply List.map_congr_left;intro j hj;have hj:=List.mem_range.1 hj
    show Value.int .i64 ((fQ f (j+1):Nat):Int)= .int .i64 ((fQ (cut 16 f) (j+1):Nat):Int)
    congr 2;unfold fQ cut;rw [if_pos (by omega)]
   rw [ha,abd 127,X3];rfl
  rw [hx]at hown;have pE:Gw w5 (w3.heap.size+1) (.slice A5 128 cA) 128 (λk=>fQ (cut 16 f) (k+1)):=hown;obtain⟨gA,rfl,_,hgA,_⟩:=pE.cell 0 (by omega);obtain⟨oA,XZ⟩:=Lv (0);have hcells: ∀k,k<128->w5.cell? ⟨gA,oA+k,none⟩=some (.int .i64 (fQ (cut 16 f) (k+1):Nat)):=λk hk=>by
   obtain⟨g2,e,_,_,hc⟩:=pE.cell k hk;injection e with e;injection e with e;subst e;rw [XZ,Nat.zero_add];exact hc
  have zV:g<w5.heap.size:=O6 d0;rw [show(Value.slice (some ⟨gA,0,none⟩) (127+1) cA)= .slice (some ⟨gA,oA,none⟩) 128 cA by rw [XZ]];clear hown hgrow dO kv fD aL aS pE hx XZ HS HC HO hgl d3;try dsimp only [Act.put]
  go_wp2_with fail;refine(Vw (λk=>fQ (cut 16 f) (k+1)) gA oA 128 cA _ (by omega) (λk _=>Re _ _) hcells hgA).mono ?_;rintro e w6 ⟨rfl,hq⟩;rw [mh (n:=16) (f:=wD λk=>fQ (cut 16 f) (k+1)) (g:=iY (cut 16 f) 1) (λj _=>Rc (cut 16 f) (Cy HF.out) 1 j)];have dV:=eY.t hq;have fK:=Tq dY hq;have d6:w6.cell? ⟨g,0,none⟩=some (.int .i64 (fQ f 0:Nat)):=(hq.cell (p:=⟨g,0,none⟩) zV).trans d0;clear eY dY hq hcells hgA d0;obtain⟨gT,eH⟩:=Le (w6.heap.size);have Gt:w.heap.size+1<gT:=by rw [<-eH];exact dV.lt (by omega)
  have XX:g<gT:=by rw [<-eH];exact O6 d6
  obtain⟨w7,mG⟩:=Lv (w6.alloc (.cells (ae 16 λ_=>0).toArray 22));have p9:=bn mG dV;have nu:=tF mG eH;have oJ:=Bm mG fK;have d7:w7.cell? ⟨g,0,none⟩=some (.int .i64 (fQ f 0:Nat)):=by rw [mG,World.cell?_alloc_lt w6 _ ⟨g,0,none⟩ (by rw [eH];exact XX)];exact d6
  clear dV fK d6;go_upto_region 3 with (refine bC rfl _ _ _ rfl _ _ _ (iY (cut 16 f) 1) rfl rfl (by rw [<-mG];exact nu) (dW _) ?_;intro w8 pO dE qM oI);rw [<-mG]at dE qM oI;have nH:=oI _ _ _ (by omega) p9;have qZ:=oJ.trans (dE.mono (by omega));have d8:w8.cell? ⟨g,0,none⟩=some (.int .i64 (fQ f 0:Nat)):=(dE.cell (p:=⟨g,0,none⟩) XX).trans d7;clear nu p9 oJ d7 dE qM oI mG eH;try dsimp only [Act.put]
  have iN:fQ f 0=f 0/128:=by have:=HF.out 0 (by omega);unfold fQ;simp;omega
  rw [iN]at d8;have uh:=HF.out 0 (by omega);by_cases hc:f 0/128=1
  ·rw [hc]at d8;obtain⟨c15,f15⟩:=pO 15 (by omega);have y1:bits BinOp.xor IntKind.u8 ((iY (cut 16 f) 1 15:Nat):Int) 135=((iY (cut 16 f) 1 15^^^135:Nat):Int):=mo _ 135 (abj f HF.out 15) (by omega);have ig:=(pO.set (j:=15) (v:=iY (cut 16 f) 1 15^^^135) (by omega) rfl).ext (f':=gI f) (λj hj=>by
    unfold gI;by_cases XV:j=15
    ·rw [if_pos XV,if_pos XV,hc,XV]
    ·rw [if_neg XV,if_neg XV,Nat.xor_zero])
   have bI:=nH.far (p:=⟨gT,15,none⟩) (by simp;omega) (.int .u8 (iY (cut 16 f) 1 15^^^135:Nat));have bD:=qZ.setCell (p:=⟨gT,15,none⟩) (by simp;omega) (.int .u8 (iY (cut 16 f) 1 15^^^135:Nat));clear pO nH qZ hc iN uh;go_wp2_with (first
    |(refine bB rfl _ _ rfl _ _ _ rfl ig Tryz.iT (dW _) ?_)
    |(refine bC rfl _ _ _ rfl _ _ _ (gI f) rfl rfl bI (dW _) ?_;intro O7 hA hb _ _))
   refine dU rfl rfl hA Tryz.iT (dW _) rfl ⟨rfl,?_⟩;exact bD.trans (hb.mono (by omega))
  ·have h0:f 0/128=0:=(by omega);rw [h0]at d8;have ig:=pO.ext (f':=gI f) (λj hj=>by
    unfold gI;rw [h0];split<;>simp)
   clear pO hc iN uh;go_wp2_with (first
    |(refine bB rfl _ _ rfl _ _ _ rfl ig Tryz.iT (dW _) ?_)
    |(refine bC rfl _ _ _ rfl _ _ _ (gI f) rfl rfl nH (dW _) ?_;intro O7 hA hb _ _))
   refine dU rfl rfl hA Tryz.iT (dW _) rfl ⟨rfl,?_⟩;exact qZ.trans (hb.mono (by omega))
end
section
open Go.RowKit
theorem abk (f k:Nat->Nat) (n m:Nat):(if m=n then f n^^^k n else(if m<n then ah f k m else f m))=if m<n+1 then ah f k m else f m:=by
 by_cases h:m=n
 ·rw [if_pos h,if_pos (by omega),h];rfl
 ·rw [if_neg h];by_cases h2:m<n
  ·rw [if_pos h2,if_pos (by omega)]
  ·rw [if_neg h2,if_neg (by omega)]
theorem yY (f k:Nat->Nat) (w:World) (hf:aj f) (hk:aj k):
  Calls Tryz.prog 159 #[.agg (ae 16 f).toArray,.agg (ae 16 k).toArray] w λe w'=>e= .returned (.agg (ae 16 (ah f k)).toArray)/\Below w.heap.size w w':=by
 have hz:=vw;obtain⟨kA,aR⟩:=Le ((ae 16 f).toArray);obtain⟨kB,hkB⟩:=Le ((ae 16 k).toArray);obtain⟨w1,af,ak,au,aN⟩:=nA w 16 f 22;obtain⟨w2,ag,aD,ai,eD⟩:=fw ak au 16 k 22;have aI:=bn ag aN;obtain⟨w3,az,-,aS,aL⟩:=o7 aD ai 16 (λ_=>0) 22;have lV:=bn az eD;have dw:=bn az aI;obtain⟨Jf,O8⟩:=aB aR hkB;rw [aR]at af;rw [hkB]at ag;rw [aR,hkB];clear au aN aR hkB ai aI eD;obtain⟨HF,HK⟩:=aB hf hk;clear hf hk;go_enter Tryz.func159,Tryz.ntmps159;go_upto_region 1 with fail;rw [<-af,<-ag,<-az];clear af ag az ak aD;obtain⟨gC,jW⟩:=Le (w.heap.size+1);obtain⟨gR,hgR⟩:=Le (w.heap.size+2);have rA:w.heap.size+1+1=gR:=hgR;have ve:w.heap.size<gC:=by omega
 have jD:gC<gR:=by omega
 rw [jW]at lV;rw [hgR]at aL;try rw [rA]
 try rw [hgR]
 try rw [jW]
 clear jW hgR rA;go_wp2_with fail;go_loopw [5] (λi wr=> ∃n:Nat,n<=16/\i= .int .i64 n/\Ar wr w.heap.size 16 (λm=>if m<n then ah f k m else f m)/\Ar wr gC 16 k/\Ar wr gR 16 (λ_=>0)/\Below w.heap.size w wr) (λi _=>16-(intOf i).toNat);case atStart=>exact⟨0,Nat.zero_le _,rfl,dw.ext (λ_ _=>rfl),lV,aL,aS⟩
 case round=>
  clear dw lV aL aS;obtain⟨n,hn,rfl,hK,hC,hR,hB⟩:=hrel;by_cases hlt:n<16
  ·have i1:(n:Int)<16:=(by omega);obtain⟨c0,f0⟩:=hK n hlt;dsimp only at c0;rw [show(if n<n then ah f k n else f n)=f n from if_neg (by omega)]at c0;obtain⟨c1,_⟩:=hC n hlt;have sZ:bits BinOp.xor IntKind.u8 ((f n:Nat):Int) ((k n:Nat):Int)=((f n^^^k n:Nat):Int):=mo _ _ (HF.out n hlt) (HK.out n hlt);obtain⟨aI,eD,aA,aF⟩:=fU ((hK.set (j:=n) (v:=f n^^^k n) (by omega) rfl).ext (λm _=>abk f k n m)) (hC.far (p:=⟨w.heap.size,n,none⟩) (by simp;omega) (.int .u8 (f n^^^k n:Nat))) (hR.far (p:=⟨w.heap.size,n,none⟩) (by simp;omega) (.int .u8 (f n^^^k n:Nat))) (hB.setCell (p:=⟨w.heap.size,n,none⟩) (by simp) (.int .u8 (f n^^^k n:Nat)));clear hK hC hR hB;generalize f n^^^k n=z at*;generalize f n=x at*;generalize k n=y at*;go_wp2_with fail;refine wp_region_noPanic ?_
   go_big_region
   refine NoPanic.normal ?_;go_wp2_with fail;go_roundw;case rel=>exact⟨n+1,by omega,by go_num,aI.out.drew,eD.out.drew,aA.out.drew,aF.out.drew⟩
   case measure=>simp [intOf];omega
  ·obtain rfl:n=16:=by omega
   have aI:=hK.ext (f':=ah f k) (λj hj=>by rw [if_pos (by omega)]);clear hK;go_wp2_with (first
    |(refine bB rfl _ _ rfl _ _ _ rfl aI Tryz.iT (dW _) ?_)
    |(refine bC rfl _ _ _ rfl _ _ _ (ah f k) rfl rfl hR (dW _) ?_;intro w8 bg aY _ _))
   refine dU rfl rfl bg Tryz.iT (dW _) rfl ⟨rfl,?_⟩;exact hB.trans (aY.mono (by omega))
theorem aab (g o c:Nat) (w:World):(Instr.arrayAt 22 (.slice (some ⟨g,o,none⟩) 16 c)).run Tryz.prog w= .ok (.pointer (some ⟨g,o,none⟩)) w:=by
 simp [Instr.arrayAt,run_underlying Tryz.iT]
end
section
open Go.RowKit
def kH (l:List UInt8) (n:Nat):List UInt8:=l++128::List.replicate (n-(l.length+1)) 0
theorem ahh (l:List UInt8) (n:Nat) (h:l.length+1<=n):(kH l n).length=n:=by simp [kH];omega
theorem ahi (l:List UInt8) (n:Nat) (h:l.length+1<=n):kH l (n+1)=kH l n++ [0]:=by
 unfold kH;rw [show n+1-(l.length+1)=n-(l.length+1)+1 by omega,List.replicate_succ'];simp
theorem ahj (l:List UInt8):kH l (l.length+1)=l++ [128]:=by simp [kH]
def abl:Value->Nat
 | .slice _ m _=>m
 |_=>0
def lF (l:List UInt8) (j:Nat):Nat:=(l.getD j 0).toNat
theorem xW:(Tryz.prog.info? 5).map (λi=>(i.zero,i.size,i.bytes))=some (some (.int .u8 0),1,1):=by kernel_rfl
def jQ (w:World) (B:Nat) (v:Value) (n:Nat) (l:List UInt8):Prop:=w.ownsRow B 5 1 v n (l.map b8)
theorem abm (l:List UInt8) (x:UInt8):(l++ [x]).map b8=l.map b8++ [b8 x]:=by simp
theorem agj (A:Option Addr) (n c:Nat) (l:List UInt8) (w:World) (h:Sl w w.heap.size A n l) (hn:n<16):
  Calls Tryz.prog 162 #[.slice A n c] w λe w'=>e= .returned (.agg (ae 16 (lF (kH l 16))).toArray)/\Below w.heap.size w w':=by
 obtain⟨i0,cu,bJ,bE,dx⟩:=info_parts xW;have hzs:(Value.int .u8 0).cells.size=1:=rfl;have hz:=vw;have hlen:=h.len;obtain⟨w2,ag,aD,ai,aA⟩:=nA w 16 (λ_=>0) 22;have eu:Sl w2 w.heap.size A n l:=by rw [ag];exact h.alloc (Nat.le_refl _) _
 go_enter Tryz.func162,Tryz.ntmps162;go_upto_region 1 with fail;rw [<-ag];clear ag h;obtain⟨B,hB⟩:=Le (w.heap.size+1);rw [hB]at aD;have AZ:=(eu.more (B':=B) (by omega)).alloc (by omega) (.cells #[] 5);have uJ:=World.ownsRow_lit (base:=B) (e:=5) (size:=1) w2 #[] 0 (by omega) (by simp [maxLen]) rfl;rw [aD]at uJ;go_wp2_with (first
  |(at_builtin;refine Vx _ rfl (.tmp 4) (.tmp 5) _ rfl B 5 i0 _ Tryz.underlying45 cu bJ bE dx hzs _ 0 _ rfl uJ B A n c l rfl AZ (by omega) (by simp;omega) ?_;intro v1 w4 EM ym abn)
  |(at_builtin;refine wpList_append_own _ rfl (.tmp 6) (.tmp 7) 45 rfl B 5 i0 (.int .u8 0) 1 1 Tryz.underlying45 cu bJ bE dx rfl (by decide) _ _ _ rfl (EM.alloc _) ⟨w4.heap.size,0,none⟩ 1 1 [.int .u8 128] rfl rfl ?c1 ?c2 ?c3 ?c4 ?c5 ?_))
 all_goals
  have k4:Below B w2 w4:=((Below.refl B w2).alloc (by omega) _).grown ym (by simp;omega) (λg hg=>by
   have e:some B=some g:=hg;injection e with e;omega)
  have z4:=k4.size
 case c2=>rfl
 case c3=>unfold maxLen;omega
 case c4=>omega
 case c5=>omega
 intro v2 w5 Gx hgrow2 _;have k5:Below B w4 w5:=((Below.refl B w4).alloc (by omega) _).grown hgrow2 (by simp;omega) (λg hg=>yg EM hg);have pE:jQ w5 B v2 (n+1) (kH l (n+1)):=by
  have e:(List.map b8 l++ [Value.int .u8 128])=(kH l (n+1)).map b8:=by rw [<-hlen,ahj,abm];rfl
  unfold jQ;rw [<-e]
  simpa using Gx
 have eY:Ar w5 w.heap.size 16 (λ_=>0):=(aA.keep (by omega) k4).keep (by omega) k5;have dY:Below w.heap.size w w5:=(ai.trans (k4.mono (by omega))).trans (k5.mono (by omega));obtain⟨A5,c5,rfl⟩:=su pE;have X8:=dY.size;have X4:=Hi hlen;clear EM ym abn Gx hgrow2 k4 k5 AZ uJ eu aA ai z4 hlen;go_wp2_with fail;go_loopw [3] (λv wr=> ∃(m:Nat) (A2:Option Addr) (c2:Nat),n+1<=m/\m<=16/\v= .slice A2 m c2/\jQ wr B (.slice A2 m c2) m (kH l m)/\Ar wr w.heap.size 16 (λ_=>0)/\Below w.heap.size w wr) (λv _=>16-abl v);case atStart=>exact⟨n+1,A5,c5,by omega,by omega,rfl,pE,eY,dY⟩
 case round=>
  clear pE eY dY X8;obtain⟨m,A2,c2,yn,Lf,rfl,hO,hR,hB⟩:=hrel;have hsz:=hB.size;have hRl:=hR.lt (by omega);by_cases hlt:m<16
  ·have i1:(m:Int)<16:=(by omega);go_wp2_with (at_builtin;refine wpList_append_own _ rfl _ _ 45 rfl B 5 i0 (.int .u8 0) 1 1 Tryz.underlying45 cu bJ bE dx rfl (by decide) _ _ _ rfl (hO.alloc _) ⟨wr.heap.size,0,none⟩ 1 1 [.int .u8 0] rfl rfl ?d1 ?d2 ?d3 ?d4 ?d5 ?_);case d1=>
    intro j u hj
    match j,hj with
    |0,hj=>simp at hj;subst hj;simp [Addr.add]
   case d2=>intro u hu;simp at hu;subst hu;rfl
   case d3=>unfold maxLen;omega
   case d4=>omega
   case d5=>simp;omega
   intro v6 w6 Gy O9 _;have k6:Below B wr w6:=((Below.refl B wr).alloc (by omega) _).grown O9 (by simp;omega) (λg hg=>yg hO hg);have yT:jQ w6 B v6 (m+1) (kH l (m+1)):=by
    unfold jQ;rw [ahi l m (by have:=X4.out;omega),abm];exact Gy
   have dV:Ar w6 w.heap.size 16 (λ_=>0):=hR.keep (by omega) k6;have fK:Below w.heap.size w w6:=hB.trans (k6.mono (by omega));obtain⟨A6,c6,rfl⟩:=su yT;clear hO hR hB Gy O9 k6;go_wp2_with fail;go_roundw;case rel=>exact⟨m+1,A6,c6,by omega,by omega,rfl,yT,dV,fK⟩
   case measure=>simp [abl];omega
  ·obtain rfl:m=16:=by omega
   have hsl:=Sl.jk hO;obtain⟨g,o,mX,_,_⟩:=hsl.2 (by omega);subst mX;have hr:wr.rangeAt g o (ae 16 (lF (kH l 16))):=λj v hv=>by
    obtain⟨hj,rfl⟩:=xM hv;have hpl:=ahh l 16 (by have:=X4.out;omega);have h1:=hsl.2 (by omega);obtain⟨b,off,e,_,hc⟩:=h1;injection e with e;injection e with e1 e2;subst e1 e2;rw [hc j (kH l 16)[j] (List.getElem?_eq_getElem (by omega))];simp [b8,n8,lF,List.getD,List.getElem?_eq_getElem (show j<(kH l 16).length by omega)]
   have hat:=aab;go_wp2_with (first
    |(refine wpList_load_mid rfl _ _ rfl g o rfl (ae 16 (lF (kH l 16))) _ hr Tryz.iT rfl (dW _) ?_)
    |(refine bC rfl _ _ _ rfl _ _ _ (lF (kH l 16)) rfl rfl hR (dW _) ?_;intro w8 bg aY _ _))
   refine dU rfl rfl bg Tryz.iT (dW _) rfl ⟨rfl,?_⟩;exact hB.trans (aY.mono (by omega))
end
section
open Go.RowKit
theorem ahk: ∀a,a<128-> ∀b,b<2->a*2|||b=a*2+b:=by decide+kernel
theorem ahl (f:Nat->Nat) (n:Nat) (hn:n<15) (hf:aj f):f n*2%256|||f (n+1)/128=gI f n:=by
 have h0:=hf n (by omega);have h1:=hf (n+1) (by omega);have:=ahk (f n%128) (by omega) (f (n+1)/128) (by omega);rw [show f n%128*2=f n*2%256 by omega]at this;unfold gI;rw [KP,if_neg (by omega),Nat.xor_zero,show cut 16 f n=f n from if_pos (by omega),show cut 16 f (n+1)=f (n+1)from if_pos (by omega),this]
theorem ahm (f:Nat->Nat):f 15*2%256^^^f 0/128*135=gI f 15:=by
 unfold gI;rw [KP,if_pos rfl,show cut 16 f 15=f 15 from if_pos (by omega),show cut 16 f (15+1)=0 from if_neg (by omega)];simp
theorem ahn (F G:Nat->Nat) (n m:Nat):(if m=n then F n else(if m<n then F m else G m))=if m<n+1 then F m else G m:=by
 by_cases h:m=n
 ·rw [if_pos h,if_pos (by omega),h]
 ·rw [if_neg h];by_cases h2:m<n
  ·rw [if_pos h2,if_pos (by omega)]
  ·rw [if_neg h2,if_neg (by omega)]
theorem aaX (f:Nat->Nat) (w:World) (hf:aj f):
  Calls Tryz.prog 73 #[.agg (ae 16 f).toArray] w λe w'=>e= .returned (.agg (ae 16 (gI f)).toArray)/\Below w.heap.size w w':=by
 have hz:=vw;obtain⟨kA,aR⟩:=Le ((ae 16 f).toArray);obtain⟨w1,af,ak,au,aN⟩:=nA w 16 f 22;obtain⟨w2,ag,-,aF,aA⟩:=fw ak au 16 (λ_=>0) 22;have aI:=bn ag aN;rw [aR]at af;rw [aR];clear au aN aR;have HF:=Hi hf;have Ya:=hf 0 (by omega);clear hf;go_enter Tryz.func73,Tryz.ntmps73;go_upto_region 1 with fail;rw [<-af,<-ag];clear af ag ak;obtain⟨gR,hgR⟩:=Le (w.heap.size+1);have jD:w.heap.size<gR:=by omega
 rw [hgR]at aA;try rw [hgR]
 clear hgR;obtain⟨c00,_⟩:=aI 0 (by omega);obtain⟨o,ho⟩:=Lv (f 0/128);have wT:o<2:=by omega
 have e0:((f 0:Nat):Int)/128=(o:Int):=by omega
 have HO:=Hi ho;clear ho;go_upto_region 3 with fail;clear c00 e0 Ya;go_wp2_with fail;go_loopw [8] (λi wr=> ∃n:Nat,n<=15/\i= .int .i64 n/\Ar wr w.heap.size 16 (λm=>if m<n then gI f m else f m)/\Ar wr gR 16 (λ_=>0)/\Below w.heap.size w wr) (λi _=>15-(intOf i).toNat);case atStart=>exact⟨0,Nat.zero_le _,rfl,aI.ext (λ_ _=>rfl),aA,aF⟩
 case round=>
  clear aI aA aF;obtain⟨n,hn,rfl,hK,hR,hB⟩:=hrel;by_cases hlt:n<15
  ·have i1:(n:Int)<15:=(by omega);have i2:(n:Int)+1<16:=(by omega);obtain⟨c0,f0⟩:=hK n (by omega);obtain⟨c1,_⟩:=hK (n+1) (by omega);dsimp only at c0 c1;rw [show(if n<n then gI f n else f n)=f n from if_neg (by omega)]at c0;rw [show(if n+1<n then gI f (n+1)else f (n+1))=f (n+1)from if_neg (by omega)]at c1;have x0:=HF.out n (by omega);have x1:=HF.out (n+1) (by omega);obtain⟨p,hp⟩:=Lv (f n*2%256);obtain⟨q,hq⟩:=Lv (f (n+1)/128);have hor:bits BinOp.or IntKind.u8 (p:Int) (q:Int)=((gI f n:Nat):Int):=(by rw [Vy p q (by omega) (by omega),hp,hq,ahl f n hlt HF.out]);have a1:IntKind.u8.wrap (((f n:Nat):Int)*2)=(p:Int):=(by rw [IntKind.wrap_u8];omega);have a2:((f n:Nat):Int)*2%256=(p:Int):=(by omega);have a3:((f (n+1):Nat):Int)/128=(q:Int):=(by omega);obtain⟨aI,aA,aF⟩:=dD ((hK.set (j:=n) (v:=gI f n) (by omega) rfl).ext (λm _=>ahn (gI f) f n m)) (hR.far (p:=⟨w.heap.size,n,none⟩) (by simp;omega) (.int .u8 (gI f n:Nat))) (hB.setCell (p:=⟨w.heap.size,n,none⟩) (by simp) (.int .u8 (gI f n:Nat)));clear hK hR hB hp hq;generalize gI f n=z at*;generalize f (n+1)=y at*;generalize f n=x at*;go_wp2_with fail;refine wp_region_noPanic ?_
   go_big_region
   refine NoPanic.normal ?_;clear a1 a2 a3 hor c0 c1 f0;go_wp2_with fail;go_roundw;case rel=>exact⟨n+1,by omega,by go_num,aI.out.drew,aA.out.drew,aF.out.drew⟩
   case measure=>simp [intOf];omega
  ·obtain rfl:n=15:=by omega
   obtain⟨c0,f0⟩:=hK 15 (by omega);dsimp only at c0;rw [show(if 15<15 then gI f 15 else f 15)=f 15 from if_neg (by omega)]at c0;have x0:=HF.out 15 (by omega);obtain⟨p,hp⟩:=Lv (f 15*2%256);obtain⟨r,hr⟩:=Lv (o*135);have hxo:bits BinOp.xor IntKind.u8 (p:Int) (r:Int)=((gI f 15:Nat):Int):=(by rw [mo p r (by omega) (by omega),hp,hr,HO.out,ahm f]);have a1:IntKind.u8.wrap (((f 15:Nat):Int)*2)=(p:Int):=(by rw [IntKind.wrap_u8];omega);have a2:((f 15:Nat):Int)*2%256=(p:Int):=(by omega);have a3:(o:Int)*135=(r:Int):=(by omega);have a4:IntKind.u8.wrap ((o:Int)*135)=(r:Int):=(by rw [IntKind.wrap_u8];omega);have aI:=((hK.set (j:=15) (v:=gI f 15) (by omega) rfl).ext (f':=gI f) (λm hm=>by
    by_cases h:m=15
    ·rw [if_pos h,h]
    ·rw [if_neg h,if_pos (by omega)]))
   have aA:=hR.far (p:=⟨w.heap.size,15,none⟩) (by simp;omega) (.int .u8 (gI f 15:Nat));have aF:=hB.setCell (p:=⟨w.heap.size,15,none⟩) (by simp) (.int .u8 (gI f 15:Nat));clear hK hR hB hp hr;obtain⟨z,X5⟩:=Le (gI f 15);rw [X5]at aI aA aF hxo;clear X5;generalize f 15=x at*;go_upto_region 8 with fail;clear a1 a2 a3 a4 hxo;go_wp2_with (first
    |(refine bB rfl _ _ rfl _ _ _ rfl aI Tryz.iT (dW _) ?_)
    |(refine bC rfl _ _ _ rfl _ _ _ (gI f) rfl rfl aA (dW _) ?_;intro w8 bg aY _ _))
   refine dU rfl rfl bg Tryz.iT (dW _) rfl ⟨rfl,?_⟩;exact aF.trans (aY.mono (by omega))
end
section
open Go.RowKit
theorem vk (f k:Nat->Nat) (w:World) (hf:aj f) (hk:aj k):
  Calls Tryz.prog 147 #[.agg (ae 16 f).toArray,.agg (ae 16 k).toArray] w λe w'=>e= .returned (.agg (ae 16 (ah f k)).toArray)/\Below w.heap.size w w':=by
 have hz:=vw;obtain⟨kA,aR⟩:=Le ((ae 16 f).toArray);obtain⟨kB,hkB⟩:=Le ((ae 16 k).toArray);obtain⟨w1,af,ak,au,aN⟩:=nA w 16 f 22;obtain⟨w2,ag,aD,ai,eD⟩:=fw ak au 16 k 22;have aI:=bn ag aN;obtain⟨w3,az,-,aS,aL⟩:=o7 aD ai 16 (λ_=>0) 22;have lV:=bn az eD;have dw:=bn az aI;obtain⟨Jf,O8⟩:=aB aR hkB;rw [aR]at af;rw [hkB]at ag;rw [aR,hkB];clear au aN aR hkB ai aI eD;obtain⟨HF,HK⟩:=aB hf hk;clear hf hk;go_enter Tryz.func147,Tryz.ntmps147;go_upto_region 1 with fail;rw [<-af,<-ag,<-az];clear af ag az ak aD;obtain⟨gC,jW⟩:=Le (w.heap.size+1);obtain⟨gR,hgR⟩:=Le (w.heap.size+2);have rA:w.heap.size+1+1=gR:=hgR;have ve:w.heap.size<gC:=by omega
 have jD:gC<gR:=by omega
 rw [jW]at lV;rw [hgR]at aL;try rw [rA]
 try rw [hgR]
 try rw [jW]
 clear jW hgR rA;go_wp2_with fail;go_loopw [6] (λi wr=> ∃n:Nat,n<=16/\i= .int .i64 n/\Ar wr w.heap.size 16 (λm=>if m<n then ah f k m else f m)/\Ar wr gC 16 k/\Ar wr gR 16 (λ_=>0)/\Below w.heap.size w wr) (λi _=>16-(intOf i).toNat);case atStart=>exact⟨0,Nat.zero_le _,rfl,dw.ext (λ_ _=>rfl),lV,aL,aS⟩
 case round=>
  clear dw lV aL aS;obtain⟨n,hn,rfl,hK,hC,hR,hB⟩:=hrel;by_cases hlt:n<16
  ·have i1:(n:Int)<16:=(by omega);obtain⟨c0,f0⟩:=hK n hlt;dsimp only at c0;rw [show(if n<n then ah f k n else f n)=f n from if_neg (by omega)]at c0;obtain⟨c1,_⟩:=hC n hlt;have sZ:bits BinOp.xor IntKind.u8 ((f n:Nat):Int) ((k n:Nat):Int)=((f n^^^k n:Nat):Int):=mo _ _ (HF.out n hlt) (HK.out n hlt);obtain⟨aI,eD,aA,aF⟩:=fU ((hK.set (j:=n) (v:=f n^^^k n) (by omega) rfl).ext (λm _=>abk f k n m)) (hC.far (p:=⟨w.heap.size,n,none⟩) (by simp;omega) (.int .u8 (f n^^^k n:Nat))) (hR.far (p:=⟨w.heap.size,n,none⟩) (by simp;omega) (.int .u8 (f n^^^k n:Nat))) (hB.setCell (p:=⟨w.heap.size,n,none⟩) (by simp) (.int .u8 (f n^^^k n:Nat)));clear hK hC hR hB;generalize f n^^^k n=z at*;generalize f n=x at*;generalize k n=y at*;go_wp2_with fail;refine wp_region_noPanic ?_
   go_big_region
   refine NoPanic.normal ?_;go_wp2_with fail;go_roundw;case rel=>exact⟨n+1,by omega,by go_num,aI.out.drew,eD.out.drew,aA.out.drew,aF.out.drew⟩
   case measure=>simp [intOf];omega
  ·obtain rfl:n=16:=by omega
   have aI:=hK.ext (f':=ah f k) (λj hj=>by rw [if_pos (by omega)]);clear hK;go_wp2_with (first
    |(refine bB rfl _ _ rfl _ _ _ rfl aI Tryz.iT (dW _) ?_)
    |(refine bC rfl _ _ _ rfl _ _ _ (ah f k) rfl rfl hR (dW _) ?_;intro w8 bg aY _ _))
   refine dU rfl rfl bg Tryz.iT (dW _) rfl ⟨rfl,?_⟩;exact hB.trans (aY.mono (by omega))
end
section
open Go.RowKit
end
section
open Go.RowKit
theorem FO (n m:Nat) (F G:Nat->Nat) (o:Nat) (h:o+m<=n):splice (ae n F) o (ae m G)=ae n (λi=>if o<=i/\i<o+m then G (i-o)else F i):=by
 apply List.ext_getElem?;intro j;unfold splice;have l1:((ae n F).take o).length=o:=by rw [List.length_take,bz];omega
 rcases Nat.lt_or_ge j n with h1|h1
 ·rw [oG n _ j h1];rcases Nat.lt_or_ge j o with h2|h2
  ·rw [List.getElem?_append_left (by omega),List.getElem?_take,if_pos h2,oG n F j h1,if_neg (by omega)]
  ·rw [List.getElem?_append_right (by omega),l1];rcases Nat.lt_or_ge (j-o) m with h3|h3
   ·rw [List.getElem?_append_left (by rw [bz];exact h3),oG m G _ h3,if_pos (by omega)]
   ·rw [List.getElem?_append_right (by rw [bz];exact h3),bz,List.getElem?_drop,show o+m+(j-o-m)=j by omega,oG n F j h1,if_neg (by omega)]
 ·rw [List.getElem?_eq_none (l:=ae n _) (by rw [bz];exact h1),List.getElem?_eq_none (by rw [List.length_append,l1,List.length_append,bz,List.length_drop,bz];omega)]
def Wb (w:World) (g n:Nat) (F:Nat->Nat) (t:TypeId):Prop:=w.heap[g]?=some (.cells (ae n F).toArray t (0,0))
theorem Wb.new (w:World) (n:Nat) (F:Nat->Nat) (t:TypeId):Wb (w.alloc (.cells (ae n F).toArray t)) w.heap.size n F t:=by
 show(w.heap.push _)[w.heap.size]?=_;rw [Array.getElem?_push_size]
section
variable {w w':World} {g n:Nat} {F:Nat->Nat} {t:TypeId}
theorem Wb.lt (h:Wb w g n F t):g<w.heap.size:=by
 rcases Nat.lt_or_ge g w.heap.size with h1|h1
 ·exact h1
 ·unfold Wb at h;rw [Array.getElem?_eq_none h1]at h;cases h
theorem Wb.to (h:Wb w g n F t) (hb:Below w.heap.size w w'):Wb w' g n F t:=(hb.block g h.lt).trans h
theorem Wb.keep {B:Nat} (h:Wb w g n F t) (hg:g<B) (hb:Below B w w'):Wb w' g n F t:=(hb.block g hg).trans h
theorem Wb.alloc (h:Wb w g n F t) (o:Obj):Wb (w.alloc o) g n F t:=h.to ((Below.refl _ _).alloc (Nat.le_refl _) o)
theorem Wb.ar (h:Wb w g n F t):Ar w g n F:=λj hj=>by
 unfold Wb at h;refine⟨?_,?_⟩
 ·simp only [World.cell?,h];simp;exact oG n F j hj
 ·simp only [World.frozen?,h];simp
theorem Wb.ext {F':Nat->Nat} (h:Wb w g n F t) (he: ∀j,j<n->F j=F' j):Wb w g n F' t:=by
 unfold Wb;rw [<-mh he];exact h
theorem Ar.src (h:Ar w g n F): ∀j v,(ae n F)[j]?=some v->w.cell? ((⟨g,0,none⟩:Addr).add j)=some v:=λj v hv=>by
 rw [Addr.add_mid];exact h.range j v hv
end
theorem qx (l:List UInt8) (j:Nat):lF l j<256:=UInt8.toNat_lt _
theorem KA (l:List UInt8) (n:Nat) (h:l.length=n):l.map b8=ae n (lF l):=by
 apply List.ext_getElem?;intro j;rcases Nat.lt_or_ge j n with h1|h1
 ·rw [oG n _ j h1,List.getElem?_map,List.getElem?_eq_getElem (by omega)];simp [b8,n8,lF,List.getD,List.getElem?_eq_getElem (show j<l.length by omega)]
 ·rw [List.getElem?_eq_none (by simp;omega),List.getElem?_eq_none (by rw [bz];exact h1)]
theorem Sl.aho {w:World} {g n:Nat} {l:List UInt8} (h:Ar w g n (lF l)) (hl:l.length=n) (hg:g<w.heap.size):Sl w w.heap.size (some ⟨g,0,none⟩) n l:=
 ⟨hl,λhn=>⟨g,0,rfl,hg,λj u hj=>by
  have hjl:j<l.length:=(List.getElem?_eq_some_iff.1 hj).1;rw [Nat.zero_add,(h j (by omega)).1];have e:l[j]=u:=by rw [List.getElem?_eq_getElem hjl]at hj;exact Option.some.inj hj
  simp [b8,lF,List.getD,List.getElem?_eq_getElem hjl,e]⟩⟩
theorem Sl.src {w:World} {B n:Nat} {A:Option Addr} {l:List UInt8} (h:Sl w B A n l) (hn:0<n): ∃ad,A=some ad/\ ∀j v,(l.map b8)[j]?=some v->w.cell? (ad.add j)=some v:=by
 obtain⟨b,off,e,hb,hc⟩:=h.2 hn;refine⟨⟨b,off,none⟩,e,λj v hv=> ?_⟩;rw [List.getElem?_map]at hv;obtain⟨u,hu,rfl⟩:=Option.map_eq_some_iff.1 hv;rw [Addr.add_mid];exact hc j u hu
theorem Tryz.Cz:Tryz.prog.underlying 45=some (.slice 5):=by kernel_rfl
theorem Tryz.FP:(Tryz.prog.info? 5).map (·.size)=some 1:=by kernel_rfl
theorem abo (g n:Nat) (hn:n<=16) (w:World):(Instr.sliceAt 22 (.pointer (some ⟨g,0,none⟩)) none (some (.int .i64 (n:Int))) none).run Tryz.prog w= .ok (.slice (some ⟨g,0,none⟩) n 16) w:=by
 have hal:Tryz.prog.arrayLen 22=16:=by simp [Program.arrayLen]
 have hel:Tryz.prog.elem 22=5:=by simp [Program.elem]
 have hs:(sizeOf 5).run Tryz.prog w= .ok 1 w:=by kernel_rfl
 rw [run_sliceAt_array_h w 22 ⟨g,0,none⟩ (by rw [hal,hel];exact Tryz.iT) .i64 (n:Int) (by omega) (by rw [hal];omega),hal,hel,hs];simp [Result.andThen_ok,slicedAt,Addr.add]
theorem Vz (n:Nat) (hn:n<=1000000) (V:World):(Instr.makeSlice 45 (.int .i64 (n:Int)) (.int .i64 (n:Int))).run Tryz.prog V= .ok (.slice (some ⟨V.heap.size,0,none⟩) n n) (V.alloc (.cells (ae n λ_=>0).toArray 5)):=by
 have hi:=xW;cases hq:Tryz.prog.info? 5 with
 |none=>rw [hq]at hi;cases hi
 |some i=>
  rw [hq]at hi;simp only [Option.map_some,Option.some.injEq,Prod.mk.injEq]at hi;obtain⟨h1,h2,h3⟩:=hi;have h:=run_make (P:=Tryz.prog) V 45 5 i _ Tryz.underlying45 hq h1 .i64 .i64 n n (by omega) (by omega) (by rw [h3];omega) (by omega);have hm:madeCells (Value.int .u8 0).cells n=(ae n λ_=>0).toArray:=by
   rw [xI];unfold madeCells;apply Array.ext_getElem?;intro j;rcases Nat.lt_or_ge j n with hj|hj
   ·simp [hj,Value.cells,Nat.mod_one]
   ·simp [hj]
  rw [h,h2,Int.toNat_natCast,Nat.mul_one,hm]
theorem ahp (A:Option Addr) (n c:Nat) (l:List UInt8) (w:World) (h:Sl w w.heap.size A n l) (hn:n<=1000000):
  Calls Tryz.prog 183 #[.slice A n c] w λe w'=>e= .returned (.slice (some ⟨w.heap.size,0,none⟩) n n)/\Ar w' w.heap.size n (lF l)/\w.heap.size<w'.heap.size/\Below w.heap.size w w':=by
 have hmk:=Vz n hn;have hlen:=h.len;obtain⟨w1,af⟩:=Lv (w.alloc (.cells (ae n λ_=>0).toArray 5));have nX:Wb w1 w.heap.size n (λ_=>0) 5:=by rw [af];exact Wb.new w n _ _
 have au:=Bl af;have kJ:Sl w1 w.heap.size A n l:=h.below au;have O1:=nX.lt;obtain⟨g,hg⟩:=Le (w.heap.size);have hsrc:=Hi (λh0=>kJ.src h0);have hcs:=KA l n hlen;obtain⟨mi,nD,CZ⟩:=dD (show(l.map b8).length=Nat.min n n by simp [hlen]) (show 0+(l.map b8).length<=(ae n λ_=>0).length by rw [bz];simp [hlen]) (show∀h:0<(l.map b8).length,0<n by intro h;simpa [hlen]using h);obtain⟨cs,Gc⟩: ∃cs:List Value,l.map b8=cs:=⟨_,rfl⟩;have h1c:=Hi (KT l);rw [Gc]at hsrc mi nD CZ hcs h1c;have Gd:=Hi (show splice (ae n λ_=>0) 0 cs=ae n (lF l)by
  rw [hcs,FO n n _ _ 0 (by omega)];exact mh (λj hj=>by rw [if_pos (by omega),Nat.sub_zero]))
 obtain⟨Z,hZ⟩: ∃Z:List Value,ae n (λ_=>0)=Z:=⟨_,rfl⟩;have HW:=Hi (show w1.heap[g]?=some (.cells Z.toArray 5 (0,0))by rw [<-hg,<-hZ];exact nX);rw [hZ]at nD Gd af;have Ye: ∀V:World,(Instr.makeSlice 45 (.int .i64 (n:Int)) (.int .i64 (n:Int))).run Tryz.prog V= .ok (.slice (some ⟨V.heap.size,0,none⟩) n n) (V.alloc (.cells Z.toArray 5)):=by rw [<-hZ];exact hmk
 have hcn:(cs.length:Int)=(n:Int):=by have:=mi.out;simp at this;omega
 clear hmk nX kJ h hcs Gc hZ;go_enter Tryz.func183,Tryz.ntmps183;go_upto_region 2 with fail;try rw [hg]
 rw [<-af];clear af;go_wp2_with (refine wpList_copy_splice rfl (.tmp 7) (.tmp 8) 45 45 rfl 5 Tryz.Cz Tryz.FP _ _ _ _ _ _ rfl rfl g 0 Z 5 HW.out cs mi.out (λh=>⟨rfl,hsrc.out (CZ.out h)⟩) nD.out h1c.out g w1 (Below.refl _ _) (Nat.le_refl _) ?_;intro w2 fC ai);go_ret;have h2:Wb w2 g n (lF l) 5:=by
  have:=fC.out;rw [Gd.out]at this;exact this
 subst hg;refine⟨rfl,h2.ar,?_,au.trans (ai.mono (by omega))⟩;have:=ai.size;omega
end
section
open Go.RowKit
theorem abp (l:List UInt8) (n j:Nat) (hl:l.length=n) (hn:n<16) (hj:j<16):lF (kH l 16) j=if j=n then 128 else if j<n then lF l j else 0:=by
 unfold lF kH;simp only [List.getD];by_cases h:j<n
 ·rw [if_neg (by omega),if_pos h,List.getElem?_append_left (by omega)]
 ·rw [List.getElem?_append_right (by omega),hl];by_cases h2:j=n
  ·subst h2;rw [if_pos rfl,Nat.sub_self];rfl
  ·rw [if_neg h2,if_neg h];obtain⟨k,hk⟩: ∃k,j-n=k+1:=⟨j-n-1,by omega⟩;rw [hk,List.getElem?_cons_succ,List.getElem?_replicate,if_pos (by omega)];rfl
def aP (n:Nat) (f:Nat->Nat):List UInt8:=(List.range n).map λj=>UInt8.ofNat (f j)
theorem xU (n:Nat) (f:Nat->Nat):(aP n f).length=n:=by simp [aP]
theorem VA (n:Nat) (f:Nat->Nat) (j:Nat) (hj:j<n):(aP n f)[j]?=some (UInt8.ofNat (f j)):=by simp [aP,List.getElem?_map,List.getElem?_range hj]
theorem VB (n:Nat) (f:Nat->Nat) (hf: ∀j,j<n->f j<256) (j:Nat) (hj:j<n):lF (aP n f) j=f j:=by
 unfold lF;rw [List.getD,VA n f j hj];exact UInt8.toNat_ofNat_of_lt' (by simpa using hf j hj)
theorem Sl.Rv {w:World} {B g o n:Nat} {f:Nat->Nat} (hf: ∀j,j<n->f j<256) (hc: ∀j,j<n->w.cell? ⟨g,o+j,none⟩=some (.int .u8 (f j:Nat))) (hg:g<B):Sl w B (some ⟨g,o,none⟩) n (aP n f):=
 ⟨xU n f,λ_=>⟨g,o,rfl,hg,λj u hu=>by
  have hj:j<n:=by have:=(List.getElem?_eq_some_iff.1 hu).1;rwa [xU]at this
  rw [VA n f j hj]at hu;obtain rfl:=Option.some.inj hu;rw [hc j hj,Bz _ (hf j hj)]⟩⟩
theorem UD (A:Option Addr) (n c:Nat) (l:List UInt8) (w:World) (h:Sl w w.heap.size A n l) (hn:n<16):
  Calls Tryz.prog 152 #[.slice A n c] w λe w'=>e= .returned (.tuple #[.agg (ae 16 (lF (kH l 16))).toArray,.bool true])/\Below w.heap.size w w':=by
 have hz:=vw;have hlen:=h.len;obtain⟨w1,af,ak,au,iD⟩:=nA w 16 (λ_=>0) 22;obtain⟨w2,ag⟩:=Lv (w1.alloc (.cells (ae 16 λ_=>0).toArray 22));have ai:=Bm ag au;have fC:Wb w2 (w.heap.size+1) 16 (λ_=>0) 22:=by rw [ag,<-ak];exact Wb.new w1 16 _ _
 have aA:=bn ag iD;have eu:Sl w2 w.heap.size A n l:=h.below ai;clear au iD h;obtain⟨g,hg⟩:=Le (w.heap.size+1);have hsrc:=Hi (λh0=>eu.src h0);have hcs:=KA l n hlen;obtain⟨mi,nD,CZ⟩:=dD (show(l.map b8).length=Nat.min n 16 by rw [List.length_map,hlen];exact(Nat.min_eq_left (by omega)).symm) (show 0+(l.map b8).length<=(ae 16 λ_=>0).length by rw [bz];simp [hlen];omega) (show∀h:0<(l.map b8).length,0<n by intro h;simpa [hlen]using h);obtain⟨cs,Gc⟩: ∃cs:List Value,l.map b8=cs:=⟨_,rfl⟩;have h1c:=Hi (KT l);rw [Gc]at hsrc mi nD CZ hcs h1c;have Gd:=Hi (show splice (ae 16 λ_=>0) 0 cs=ae 16 (λj=>if j<n then lF l j else 0)by
  rw [hcs,FO 16 n _ _ 0 (by omega)];exact mh (λj hj=>by simp))
 have hcn:(cs.length:Int)=(n:Int):=by rw [mi.out.trans (Nat.min_eq_left (by omega))]
 rw [hg]at fC;have HW:=Hi (show w2.heap[g]?=some (.cells (ae 16 λ_=>0).toArray 22 (0,0))from fC);have VC:w.heap.size<g:=by omega
 have i1: ¬(n:Int)>=16:=by omega
 have i2:(n:Int)<16:=by omega
 clear hcs Gc eu fC;go_enter Tryz.func152,Tryz.ntmps152;go_upto_region 2 with fail;rw [<-af,<-ag];try rw [hg]
 clear af ag hg ak;go_upto_region 5 with (refine wpList_copy_splice rfl (.tmp 9) (.tmp 10) 45 45 rfl 5 Tryz.Cz Tryz.FP _ _ _ _ _ _ rfl rfl g 0 (ae 16 λ_=>0) 22 HW.out cs mi.out (λh=>⟨rfl,hsrc.out (CZ.out h)⟩) nD.out h1c.out g w2 (Below.refl _ _) (Nat.le_refl _) ?_;intro w3 EN aU);have eQ:Ar w3 g 16 (λj=>if j<n then lF l j else 0):=by
  have h:=EN.out;rw [Gd.out]at h;exact Wb.ar (show Wb w3 g 16 _ _ from h)
 have aL:=aA.keep VC aU;have aS:=ai.trans (aU.mono (by omega));clear aA ai aU EN HW Gd hsrc mi nD CZ h1c;obtain⟨c0,f0⟩:=eQ n hn;have jv:=(eQ.set (j:=n) (v:=128) hn rfl).ext (f':=lF (kH l 16)) (λj hj=>(abp l n j hlen hn hj).symm);have dO:=aL.far (p:=⟨g,n,none⟩) (by simp;omega) (.int .u8 128);have fD:=aS.setCell (p:=⟨g,n,none⟩) (by simp;omega) (.int .u8 128);clear eQ aL aS;try dsimp only [Act.put]
 go_upto_region 6 with fail;generalize World.setCell w3 ⟨g,n,none⟩ (.int .u8 128)=w4 at*;clear c0 f0;go_wp2_with (first
  |(refine bB rfl _ _ rfl _ _ _ rfl jv Tryz.iT (dW _) ?_)
  |(refine bC rfl _ _ _ rfl _ _ _ (lF (kH l 16)) rfl rfl dO (dW _) ?_;intro w8 bg aY _ _))
 refine KU rfl rfl rfl bg Tryz.iT (dW _) rfl ⟨rfl,?_⟩;exact fD.trans (aY.mono (by omega))
end
section
open Go.RowKit
theorem Tryz.VD:(Tryz.prog.info? 277).map (λi=>(i.zero,i.size))=some (some (.agg (Array.replicate 25 (.int .u8 0))),25):=by kernel_rfl
theorem VD (w:World):(zeroValue 277).run Tryz.prog w= .ok (.agg (ae 25 λ_=>0).toArray) w:=by
 rw [xI];exact(zero_of_info Tryz.VD).1 w
def FU (n:Int):Nat:=(min (max n 0) 64).toNat
theorem ahq (n:Int):FU n<=64:=by unfold FU;omega
theorem ahr (n:Int):min (max n 0) 64=(FU n:Int):=by unfold FU;omega
theorem ahs (s x y:Nat) (hs:s<8) (hx:x<256) (hy:y<256):x*2^s%256|||y/2^(8-s)=x*2^s%256+y/2^(8-s):=by
 have h: ∀s,s<8-> ∀x,x<256-> ∃k,x*2^s%256=2^s*k:=λs hs x hx=>by
  refine⟨x%2^(8-s),?_⟩;have e:256=2^s*2^(8-s):=by rw [<-Nat.pow_add,show s+(8-s)=8 by omega]
  rw [e,Nat.mul_comm x,Nat.mul_mod_mul_left]
 obtain⟨k,hk⟩:=h s hs x hx;have hl:y/2^(8-s)<2^s:=by
  rw [Nat.div_lt_iff_lt_mul (by exact Nat.two_pow_pos _),<-Nat.pow_add,show s+(8-s)=8 by omega];exact hy
 rw [hk,Nat.two_pow_add_eq_or_of_lt hl]
theorem aht (s x:Nat) (hs:s<8) (hx:x<256):IntKind.u8.wrap ((x:Int)*2^s)=((x*2^s%256:Nat):Int):=by
 rw [IntKind.wrap_u8];simp
theorem ahu (s y:Nat):(y:Int)/2^s=((y/2^s:Nat):Int):=by simp
theorem ahv (f:Nat->Nat) (m q s k:Nat) (hq:q=m/8) (hs:s=m%8) (hf: ∀j,f j<256):f (k+q)*2^s%256|||f (k+q+1)/2^(8-s)=iY f m k:=by
 unfold iY;rw [ahs s _ _ (by omega) (hf _) (hf _),hq,hs]
theorem aeC (f:Nat->Nat) (n:Int) (w:World) (hf: ∀j,j<24->f j<256):
  Calls Tryz.prog 178 #[.agg (ae 24 f).toArray,.int .i64 n] w λe w'=>e= .returned (.agg (ae 16 (iY (cut 24 f) (FU n))).toArray)/\Below w.heap.size w w':=by
 have hz:=vw;have Yf:=VD;obtain⟨kA,aR⟩:=Le ((ae 24 f).toArray);obtain⟨w1,af,ak,au,aN⟩:=nA w 24 f 253;obtain⟨w2,ag,aD,ai,aA⟩:=fw ak au 16 (λ_=>0) 22;have aI:=bn ag aN;obtain⟨w3,az⟩:=Lv (w2.alloc (.cells (ae 25 λ_=>0).toArray 277));have aS:=Bm az ai;have EN:Wb w3 (w.heap.size+2) 25 (λ_=>0) 277:=by rw [az,<-aD];exact Wb.new w2 25 _ _
 have aL:=bn az aA;have dw:=bn az aI;rw [aR]at af;rw [aR];clear au aN aR ai aA aI;have HC:=Hi (Cy hf);have hmm:=ahr n;have Lj:=ahq n;obtain⟨m,hm⟩:=Le (FU n);rw [hm]at hmm Lj⊢;obtain⟨p,hp⟩: ∃p:Int,max n 0=p:=⟨_,rfl⟩;rw [hp]at hmm;have jo:=Hi (show splice (ae 25 λ_=>0) 0 (ae 24 f)=ae 25 (cut 24 f)by
  rw [FO 25 24 _ _ 0 (by omega)];exact mh (λj hj=>by unfold cut;simp))
 clear hm hf;go_enter Tryz.func178,Tryz.ntmps178;go_upto_region 1 with fail;rw [<-af,<-ag];clear af ag ak;go_upto_region 2 with fail;go_upto_region 3 with fail;rw [<-az];clear az hmm hp;obtain⟨gR,hgR⟩:=Le (w.heap.size+1);obtain⟨gL,jN⟩:=Le (w.heap.size+2);have X6:w.heap.size+1+1=gL:=jN;have jD:w.heap.size<gR:=by omega
 have yM:gR<gL:=by omega
 rw [hgR]at aL;rw [jN]at EN;try rw [aD]
 try rw [X6]
 try rw [jN]
 try rw [hgR]
 clear hgR jN X6 aD;obtain⟨hsrc,HW,mi,nD⟩:=fU dw.drew.src (show w3.drew.heap[gL]?=some (.cells (ae 25 λ_=>0).toArray 277 (0,0))from EN) (show(ae 24 f).length=Nat.min 24 25 by rw [bz];rfl) (show 0+(ae 24 f).length<=(ae 25 λ_=>0).length by rw [bz,bz];omega)
 go_region_law (refine step_copy_splice rfl (.tmp 12) (.tmp 13) 45 45 rfl 5 Tryz.Cz Tryz.FP _ _ _ _ _ _ rfl rfl gL 0 (ae 25 λ_=>0) 277 HW.out (ae 24 f) mi.out (λ_=>⟨rfl,⟨w.heap.size,0,none⟩,rfl,hsrc.out⟩) nD.out (dz 24 _) gL w3.drew (Below.refl _ _) (Nat.le_refl _) ?_;intro w4 AR il)
 have X0:Ar w4 gL 25 (cut 24 f):=by
  have h:=AR.out;rw [jo.out]at h;exact Wb.ar (show Wb w4 gL 25 _ _ from h)
 have dO:=aL.drew.keep yM il;have fD:=aS.drew.trans (il.mono (by omega));have rW:=il.size;have Yb:gL<w4.heap.size:=X0.lt (by omega);clear aL aS il AR HW hsrc mi nD dw EN jo rW;try dsimp only [Act.put]
 obtain⟨gT,eH⟩:=Le (w4.heap.size);obtain⟨w5,eO⟩:=Lv (w4.alloc (.cells (ae 16 λ_=>0).toArray 22));have kR:=tF eO eH;have BB:=bn eO X0;have eY:=bn eO dO;have dY:=Bm eO fD;rw [eH]at Yb;clear X0 dO fD;go_upto_region 5 with fail;try rw [eH]
 rw [<-eO];clear eO eH;go_wp2_with fail;obtain⟨q,hq⟩:=Lv (m/8);obtain⟨s,hs⟩:=Lv (m%8);have Sa:=Hi (show q=m/8/\s=m%8 from⟨hq,hs⟩);have q1:((m:Int)).tdiv 8=(q:Int):=by rw [Int.tdiv_eq_ediv_of_nonneg (by omega)];omega
 have q2:(m:Int)/8=(q:Int):=by omega
 have s1:((m:Int)).tmod 8=(s:Int):=by rw [Int.tmod_eq_emod_of_nonneg (by omega)];omega
 have s2:(m:Int)%8=(s:Int):=by omega
 have hq8:q<=8:=by omega
 have UR:s<8:=by omega
 clear hq hs;go_loopw [15] (λi wr=> ∃k:Nat,k<=16/\i= .int .i64 k/\Ar wr gT 16 (λj=>if j<k then iY (cut 24 f) m j else 0)/\Ar wr gL 25 (cut 24 f)/\Ar wr gR 16 (λ_=>0)/\Below w.heap.size w wr) (λi _=>16-(intOf i).toNat);case atStart=>exact⟨0,Nat.zero_le _,rfl,kR.ext (λ_ _=>rfl),BB,eY,dY⟩
 case round=>
  clear kR BB eY dY;obtain⟨k,hk,rfl,hT,hL,hR,hB⟩:=hrel;by_cases hlt:k<16
  ·have i1:(k:Int)<16:=(by omega);obtain⟨a,ha⟩:=Le (k+q);have a1:(k:Int)+(q:Int)=(a:Int):=(by omega);have a2:(a:Int)<25:=(by omega);have a3:(a:Int)+1<25:=(by omega);obtain⟨c0,_⟩:=hL a (by omega);obtain⟨c1,_⟩:=hL (a+1) (by omega);obtain⟨c2,f2⟩:=hT k hlt;have x0:=HC.out a;have x1:=HC.out (a+1);obtain⟨t,ht⟩:=Le (8-s);have t1:(8:Int)-(s:Int)=(t:Int):=(by omega);have t2:t<=8:=(by omega);have hsh:=ahv (cut 24 f) m q s k Sa.out.1 Sa.out.2 HC.out;rw [ha,ht]at hsh;have e1:=aht s (cut 24 f a) UR x0;have e2:=ahu t (cut 24 f (a+1));have l1:cut 24 f a*2^s%256<256:=Nat.mod_lt _ (by decide);have l2:cut 24 f (a+1)/2^t<256:=Nat.lt_of_le_of_lt (Nat.div_le_self _ _) x1;have hor:=Vy _ _ l1 l2;rw [hsh]at hor;have e3:((cut 24 f a:Nat):Int)*2^s%256=((cut 24 f a*2^s%256:Nat):Int):=(by simp);obtain⟨bG,lu,aA,aF⟩:=fU ((hT.set (j:=k) (v:=iY (cut 24 f) m k) hlt rfl).ext (λj _=>Io (iY (cut 24 f) m) k j)) (hL.far (p:=⟨gT,k,none⟩) (by simp;omega) (.int .u8 (iY (cut 24 f) m k:Nat))) (hR.far (p:=⟨gT,k,none⟩) (by simp;omega) (.int .u8 (iY (cut 24 f) m k:Nat))) (hB.setCell (p:=⟨gT,k,none⟩) (by simp;omega) (.int .u8 (iY (cut 24 f) m k:Nat)));clear hT hL hR hB hsh ha ht;generalize iY (cut 24 f) m k=z at*;generalize cut 24 f a*2^s%256=u at*;generalize cut 24 f (a+1)/2^t=v at*;generalize cut 24 f (a+1)=y at*;generalize cut 24 f a=x at*;go_wp2_with fail;refine wp_region_noPanic ?_
   go_big_region
   refine NoPanic.normal ?_;clear a1 a2 a3 c0 c1 c2 f2 t1 e1 e2 e3 hor;go_wp2_with fail;go_roundw;case rel=>exact⟨k+1,by omega,by go_num,bG.out.drew,lu.out.drew,aA.out.drew,aF.out.drew⟩
   case measure=>simp [intOf];omega
  ·obtain rfl:k=16:=by omega
   have bG:=hT.ext (f':=iY (cut 24 f) m) (λj hj=>by rw [if_pos hj]);clear hT;go_wp2_with (first
    |(refine bB rfl _ _ rfl _ _ _ rfl bG Tryz.iT (dW _) ?_)
    |(refine bC rfl _ _ _ rfl _ _ _ (iY (cut 24 f) m) rfl rfl hR (dW _) ?_;intro w8 bg aY _ _))
   refine dU rfl rfl bg Tryz.iT (dW _) rfl ⟨rfl,?_⟩;exact hB.trans (aY.mono (by omega))
end
end Go.Proofs.YtdaiacmneopkgaaGreatDoor
