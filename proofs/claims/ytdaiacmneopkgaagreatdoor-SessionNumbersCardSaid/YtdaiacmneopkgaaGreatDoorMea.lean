/-
 Contracts of package nonce, of package packet without a key, and of their reference packages, by walks through their texts; what was there stays as it was.
-/
import Derived.Test.YtdaiacmneopkgaaGreatDoorGbk
import Derived.Test.YtdaiacmneopkgaaGreatDoorMda
import Derived.StillTailTactics
namespace Go.Proofs.YtdaiacmneopkgaaGreatDoor
set_option linter.unusedSimpArgs false
set_option linter.unusedVariables false
set_option maxRecDepth 100000
set_option maxHeartbeats 2000000
section
section
open Go.RowKit
def uT (d x:Nat):Nat:=d*9223372036854775808+x
theorem VW {d x:Nat} (hd:d<2) (hx:x<9223372036854775808):uT d x<18446744073709551616:=by unfold uT;omega
theorem aii {d x:Nat} (hx:x<9223372036854775808):uT d x/9223372036854775808=d:=by unfold uT;omega
theorem aij {d x:Nat} (hx:x<9223372036854775808):uT d x%9223372036854775808=x:=by unfold uT;omega
theorem aik (y:Nat):uT (y/9223372036854775808) (y%9223372036854775808)=y:=by unfold uT;omega
def qD (d x:Nat):List UInt8:=fH (uT d x) 8
def hdF (d x:Nat):Nat->Nat:=lF (qD d x)
theorem Ev (d x:Nat):(qD d x).length=8:=ail _ _
theorem NM (d x:Nat): ∀j,j<8->hdF d x j<256:=λj _=>qx _ _
theorem abU {d x:Nat} (hd:d<2) (hx:x<9223372036854775808):num (qD d x)=uT d x:=by
 unfold qD;rw [aim _ _ (by omega)];have:=VW hd hx;exact Nat.mod_eq_of_lt (by simpa using this)
theorem ain {l:List UInt8} (h:l.length=8):fH (num l) 8=l:=by
 have:=aio l;rw [h]at this
 simpa using this
def qW (l:List UInt8):Nat:=num l/9223372036854775808
def rZ (l:List UInt8):Nat:=num l%9223372036854775808
theorem aah (l:List UInt8):qW l<2:=by have:=LD l;unfold qW;omega
theorem aai (l:List UInt8):rZ l<9223372036854775808:=Nat.mod_lt _ (by omega)
theorem ae5 {l:List UInt8} (h:l.length=8):qD (qW l) (rZ l)=l:=by unfold qD qW rZ;rw [aik];exact ain h
theorem UK {d x:Nat} (hd:d<2) (hx:x<9223372036854775808):qW (qD d x)=d:=by unfold qW;rw [abU hd hx,aii hx]
theorem UL {d x:Nat} (hd:d<2) (hx:x<9223372036854775808):rZ (qD d x)=x:=by unfold rZ;rw [abU hd hx,aij hx]
theorem aip {x y:List UInt8} (hl:x.length=y.length) (h: ∀j,j<y.length->lF x j=lF y j):x=y:=by
 apply List.ext_getElem hl;intro i h1 h2;have:=h i h2;unfold lF at this;rw [List.getD_eq_getElem?_getD,List.getD_eq_getElem?_getD,List.getElem?_eq_getElem h1,List.getElem?_eq_getElem h2]at this;exact UInt8.toNat_inj.1 this
def qE (h:Nat->Nat) (j:Nat):Nat:=if j<4 then 0 else h (j-4)
theorem aiq {h:Nat->Nat} (hh: ∀j,j<8->h j<256): ∀j,j<12->qE h j<256:=λj hj=>by
 unfold qE;split
 ·omega
 ·exact hh _ (by omega)
end
section
open Go.RowKit
theorem Tryz.wI:Tryz.prog.underlying 162=some (.array 8 5):=by kernel_rfl
theorem Tryz.abV:(Tryz.prog.info? 162).map (λi=>(i.zero,i.size))=some (some (.agg (Array.replicate 8 (.int .u8 0))),8):=by kernel_rfl
theorem qX (f:Nat->Nat):(Tryz.prog.info? 162).map (·.size)=some (ae 8 f).length:=by rw [bz];exact(zero_of_info Tryz.abV).2
theorem KC (w:World):(zeroValue 162).run Tryz.prog w= .ok (.agg (ae 8 λ_=>0).toArray) w:=by
 rw [xI];exact(zero_of_info Tryz.abV).1 w
theorem Tryz.LQ:Tryz.prog.underlying 168=some (.array 12 5):=by kernel_rfl
theorem Tryz.abW:(Tryz.prog.info? 168).map (λi=>(i.zero,i.size))=some (some (.agg (Array.replicate 12 (.int .u8 0))),12):=by kernel_rfl
theorem LU (f:Nat->Nat):(Tryz.prog.info? 168).map (·.size)=some (ae 12 f).length:=by rw [bz];exact(zero_of_info Tryz.abW).2
theorem abX (w:World):(zeroValue 168).run Tryz.prog w= .ok (.agg (ae 12 λ_=>0).toArray) w:=by
 rw [xI];exact(zero_of_info Tryz.abW).1 w
theorem abY (g o c:Nat) (w:World):(Instr.arrayAt 162 (.slice (some ⟨g,o,none⟩) 8 c)).run Tryz.prog w= .ok (.pointer (some ⟨g,o,none⟩)) w:=by
 simp [Instr.arrayAt,run_underlying Tryz.wI]
theorem VX {w:World} {B g c:Nat} {l:List UInt8} (h:Own w B (some ⟨g,0,none⟩) 8 c l):w.rangeAt g 0 (ae 8 (lF l)):=λj v hv=>by
 rw [Nat.zero_add];have hl:l.length=8:=by have:=h.1;simpa using this
 rw [<-KA l 8 hl]at hv;have:=World.ownsRow.cells h (g:=g) rfl j _ hv
 rwa [Addr.add_mid,Nat.zero_add]at this
theorem air {x y:Nat} (h:uT 1 x=y) (hx:x<9223372036854775808):IntKind.u64.wrap ((x:Int)+9223372036854775808)=(y:Int)/\(x:Int)+9223372036854775808=(y:Int)/\IntKind.u64.wrap (y:Int)=(y:Int):=by
 unfold uT at h;refine⟨?_,by omega,?_⟩
 ·rw [Eo _ (by omega) (by omega)];omega
 ·rw [Eo _ (by omega) (by omega)]
theorem abZ (d x:Nat) (w:World) (hd:d<2) (hx:x<9223372036854775808):
  Calls Tryz.prog 90 #[.int .i64 (d:Nat),.int .u64 (x:Nat)] w λe w'=>e= .returned (.agg (ae 8 (hdF d x)).toArray)/\Below w.heap.size w w':=by
 have hz:=KC;have hat:=abY;obtain⟨w2,ag,-,ai,aA⟩:=nA w 8 (λ_=>0) 162;obtain⟨y,hy⟩: ∃y,uT d x=y:=⟨_,rfl⟩;have HY:=Hi (show y<18446744073709551616 by rw [<-hy];exact VW hd hx);obtain⟨H,hH⟩: ∃H,hdF d x=H:=⟨_,rfl⟩;have HL:=Hi (show lF (fH y 8)=H by rw [<-hH,<-hy];rfl);rw [hH];clear hH;go_enter Tryz.func90,Tryz.ntmps90;go_upto_region 1 with fail;rw [<-ag];clear ag;have hc:d=0\/d=1:=by omega
 rcases hc with rfl|rfl
 ·have hxy:x=y:=by rw [<-hy];unfold uT;omega
  have Jy:=Hi hxy;clear hy hd hx hxy;go_upto_region 4 with fail;rw [show(x:Int)=(y:Int)by rw [Jy.out]];go_wp2_with fail;refine(abB y 8 _ HY.out (by omega)).mono ?_;rintro e w3 ⟨A,c,rfl,hown,hq⟩;rw [show min (8:Int).toNat 8=8 from rfl]at hown;try rw [show min (8:Int).toNat 8=8 from rfl]
  obtain⟨g,cap,hv,_,_⟩:=World.ownsRow.form hown (by omega);injection hv with e1 e2 e3;subst e1;subst e3;have hr:w3.rangeAt g 0 (ae 8 (H)):=by rw [<-HL.out];exact VX hown
  have aL:=aA.t hq;have aS:=Tq ai hq;clear hown hq aA ai;go_wp2_with (first
   |(refine wpList_load_mid rfl _ _ rfl g 0 rfl (ae 8 (H)) _ hr Tryz.wI rfl (qX _) ?_)
   |(refine bC rfl _ _ _ rfl _ _ _ (H) rfl rfl aL (qX _) ?_;intro w8 bg aY _ _))
  refine dU rfl rfl bg Tryz.wI (qX _) rfl ⟨rfl,?_⟩;exact aS.trans (aY.mono (by omega))
 ·obtain⟨f1,f2,f3⟩:=air hy hx;clear hy hd hx;go_upto_region 4 with fail;clear f2;go_wp2_with fail;refine(abB y 8 _ HY.out (by omega)).mono ?_;rintro e w3 ⟨A,c,rfl,hown,hq⟩;rw [show min (8:Int).toNat 8=8 from rfl]at hown;try rw [show min (8:Int).toNat 8=8 from rfl]
  obtain⟨g,cap,hv,_,_⟩:=World.ownsRow.form hown (by omega);injection hv with e1 e2 e3;subst e1;subst e3;have hr:w3.rangeAt g 0 (ae 8 (H)):=by rw [<-HL.out];exact VX hown
  have aL:=aA.t hq;have aS:=Tq ai hq;clear hown hq aA ai;go_wp2_with (first
   |(refine wpList_load_mid rfl _ _ rfl g 0 rfl (ae 8 (H)) _ hr Tryz.wI rfl (qX _) ?_)
   |(refine bC rfl _ _ _ rfl _ _ _ (H) rfl rfl aL (qX _) ?_;intro w8 bg aY _ _))
  refine dU rfl rfl bg Tryz.wI (qX _) rfl ⟨rfl,?_⟩;exact aS.trans (aY.mono (by omega))
def Dw (h:Nat->Nat) (k j:Nat):Nat:=if 4<=j/\j<4+k then h (j-4)else 0
theorem ais (h:Nat->Nat):Dw h 0=λ_=>0:=by funext j;unfold Dw;rw [if_neg (by omega)]
theorem ait (h:Nat->Nat) (k j:Nat):(if j=4+k then h k else Dw h k j)=Dw h (k+1) j:=by
 unfold Dw;by_cases e:j=4+k
 ·rw [if_pos e,if_pos (by omega),show j-4=k by omega]
 ·rw [if_neg e];by_cases e2:4<=j/\j<4+k
  ·rw [if_pos e2,if_pos (by omega)]
  ·rw [if_neg e2,if_neg (by omega)]
theorem aiu (h:Nat->Nat): ∀j,j<12->Dw h 8 j=qE h j:=λj hj=>by
 unfold Dw qE;by_cases e:j<4
 ·rw [if_pos e,if_neg (by omega)]
 ·rw [if_neg e,if_pos (by omega)]
theorem ab0 (d x:Nat) (w:World) (hd:d<2) (hx:x<9223372036854775808):
  Calls Tryz.prog 92 #[.int .i64 (d:Nat),.int .u64 (x:Nat)] w λe w'=>e= .returned (.agg (ae 12 (qE (hdF d x))).toArray)/\Below w.heap.size w w':=by
 have hz:=abX;have Ew:=KC;obtain⟨w1,af,ak,au,iD⟩:=nA w 12 (λ_=>0) 168;obtain⟨w2,ag,aD,ai,EY⟩:=fw ak au 12 (λ_=>0) 168;have aA:=bn ag iD;have HH:=Hi (λV=>abZ d x V hd hx);obtain⟨H,hH⟩: ∃H,hdF d x=H:=⟨_,rfl⟩;have HB:=Hi (show∀j,j<8->H j<256 by rw [<-hH];exact NM d x);rw [hH]at HH;rw [hH];clear au iD hd hx hH;go_enter Tryz.func92,Tryz.ntmps92;go_upto_region 2 with fail;rw [<-af,<-ag];clear af ag ak;obtain⟨gN,hgN⟩:=Le (w.heap.size+1);rw [hgN]at EY;try rw [hgN]
 have VY:w.heap.size<gN:=by omega
 have X4:w2.heap.size=gN+1:=by omega
 clear aD hgN;go_wp2_with fail;refine(HH.out _).mono ?_;rintro e w3 ⟨rfl,hq⟩;have aL:=aA.t hq;have XV:=EY.t hq;have aU:=Tq ai hq;have X5:gN<w3.heap.size:=XV.lt (by omega);clear hq aA EY ai X4;have il:Below w.heap.size w (w3.alloc (.cells (ae 8 λ_=>0).toArray 162)):=aU.alloc aU.size _;have dO:Ar (w3.alloc (.cells (ae 8 λ_=>0).toArray 162)) w.heap.size 12 (λ_=>0):=aL.alloc (by omega) _;have XZ:Ar (w3.alloc (.cells (ae 8 λ_=>0).toArray 162)) gN 12 (λ_=>0):=XV.alloc (by omega) _;have XW:Ar (w3.alloc (.cells (ae 8 λ_=>0).toArray 162)) w3.heap.size 8 (λ_=>0):=Ar.new w3 8 _ _;obtain⟨gH,X0⟩:=Le (w3.heap.size);rw [X0]at XW X5;clear aL XV;go_upto_region 3 with (first|(refine bC rfl _ _ _ rfl _ _ _ H rfl rfl XW (qX _) ?_;intro w5 X3 kv vR vS)|fail);have eY:=dO.keep (by omega) kv;have LV:=XZ.keep (by omega) kv;have dY:=il.trans (kv.mono (by omega));clear dO XZ XW il aU kv vR vS X0;try dsimp only [Act.put]
 go_wp2_with fail;go_loopw [7] (λi wr=> ∃n:Nat,n<=8/\i= .int .i64 n/\Ar wr w.heap.size 12 (λ_=>0)/\Ar wr gN 12 (Dw H n)/\Ar wr gH 8 H/\Below w.heap.size w wr) (λi _=>8-(intOf i).toNat);case atStart=>exact⟨0,Nat.zero_le _,rfl,eY,by rw [ais];exact LV,X3,dY⟩
 case round=>
  clear eY LV X3 dY;obtain⟨n,hn,rfl,hR,hN,hH,hB⟩:=hrel;by_cases hlt:n<8
  ·have i1:(n:Int)<8:=(by omega);obtain⟨c0,_⟩:=hH n hlt;obtain⟨q,PM⟩: ∃q,4+n=q:=⟨_,rfl⟩;have x1:IntKind.i64.wrap (4+(n:Int))=(q:Int):=(by rw [fO _ (by omega) (by omega)];omega);have x2:wrap64 (4+(n:Int))=(q:Int):=(by rw [IntWalk.wrap64_in _ (by omega)];omega);have x3:4+(n:Int)=(q:Int):=(by omega);have x4:(q:Int)<12:=(by omega);obtain⟨c1,f1⟩:=hN q (by omega);obtain⟨EY,aA,lT,aF,HL⟩:=jX ((hN.set (j:=q) (v:=H n) (by omega) rfl).ext (f':=Dw H (n+1)) (λm _=>by rw [<-PM];exact ait H n m)) (hR.far (p:=⟨gN,q,none⟩) (by simp;omega) (.int .u8 (H n:Nat))) (hH.far (p:=⟨gN,q,none⟩) (by simp;omega) (.int .u8 (H n:Nat))) (hB.setCell (p:=⟨gN,q,none⟩) (by simp;omega) (.int .u8 (H n:Nat))) hlt;clear hR hN hH hB PM hlt hn;obtain⟨y,hy⟩: ∃y,H n=y:=⟨_,rfl⟩;rw [hy]at c0 EY aA lT aF;clear hy;obtain⟨z,hzz⟩: ∃y,Dw H n q=y:=⟨_,rfl⟩;rw [hzz]at c1;clear hzz;go_wp2_with fail;go_roundw;case rel=>exact⟨n+1,by have:=HL.out;omega,by go_num,aA.out,EY.out,lT.out,aF.out⟩
   case measure=>simp [intOf];have:=HL.out;omega
  ·obtain rfl:n=8:=by omega
   have EY:=hN.ext (aiu H);have i1: ¬(8:Int)<8:=(by omega);clear hN hlt hn hH;go_wp2_with (first
    |(refine bB rfl _ _ rfl _ _ _ rfl EY Tryz.LQ (LU _) ?_)
    |(refine bC rfl _ _ _ rfl _ _ _ (qE H) rfl rfl hR (LU _) ?_;intro w8 bg aY _ _))
   refine dU rfl rfl bg Tryz.LQ (LU _) rfl ⟨rfl,?_⟩;exact hB.trans (aY.mono (by omega))
theorem abw (A:Option Addr) (n c:Nat) (l:List UInt8) (w:World) (h:Sl w w.heap.size A n l) (hn:8<=n) (hnc:n<=c) (hc:c<=maxLen):
  Calls Tryz.prog 21 #[.slice A n c] w λe w'=>e= .returned (.tuple #[.int .i64 (qW (l.take 8):Nat),.int .u64 (rZ (l.take 8):Nat)])/\w'=w:=by
 obtain⟨b,off,rfl,hb,hcells⟩:=h.2 (by omega);have hS:Sl w w.heap.size (some ⟨b,off,none⟩) 8 (l.take 8):=by
  refine⟨by rw [List.length_take,h.len];omega,λ_=>⟨b,off,rfl,hb,λj u hu=>hcells j u ?_⟩⟩;rcases Nat.lt_or_ge j 8 with h1|h1
  ·rwa [List.getElem?_take_of_lt h1]at hu
  ·rw [List.getElem?_eq_none (by rw [List.length_take];omega)]at hu;cases hu
 clear h hcells;obtain⟨r,hr⟩: ∃r,l.take 8=r:=⟨_,rfl⟩;rw [hr]at hS;rw [hr];clear hr;obtain⟨y,hy⟩: ∃y,num r=y:=⟨_,rfl⟩;have HY:=Hi hy;have hlt:=LD r;have i1:(8:Int)<=(c:Int):=by omega
 by_cases h8:9223372036854775808<=y
 ·have i2:(9223372036854775808:Int)<=(y:Int):=by omega
  obtain⟨z,hz⟩: ∃z,y-9223372036854775808=z:=⟨_,rfl⟩;have x1:IntKind.u64.wrap (z:Int)=(z:Int):=Eo _ (by omega) (by omega);have x2:(y:Int)-9223372036854775808=(z:Int):=by omega
  have HP:=Hi (show qW r=1/\rZ r=z by unfold qW rZ;rw [hy];omega);rw [HP.out.1,HP.out.2];clear hy hz h8 hlt hb hn hnc hc;go_enter Tryz.func21,Tryz.ntmps21;go_upto_region 1 with fail;go_wp2_with fail;refine(aby _ 8 _ r _ hS (by omega)).mono ?_;rintro e w1 ⟨rfl,rfl⟩;rw [HY.out];clear hS i1;go_wp2;go_ret2;exact⟨rfl,rfl⟩
 ·have i2:decide ((9223372036854775808:Int)<=(y:Int))=false:=decide_eq_false (by omega);have i3: ¬(9223372036854775808:Int)<=(y:Int):=by omega
  have x1:IntKind.u64.wrap (y:Int)=(y:Int):=Eo _ (by omega) (by omega);have HP:=Hi (show qW r=0/\rZ r=y by unfold qW rZ;rw [hy];omega);rw [HP.out.1,HP.out.2];clear hy h8 hlt hb hn hnc hc;go_enter Tryz.func21,Tryz.ntmps21;go_upto_region 1 with fail;go_wp2_with fail;refine(aby _ 8 _ r _ hS (by omega)).mono ?_;rintro e w1 ⟨rfl,rfl⟩;rw [HY.out];clear hS i1;go_wp2;go_ret2;exact⟨rfl,rfl⟩
end
section
open Go.RowKit
def SG (d:Int) (x:Nat):Bool:=decide ((d=0\/d=1)/\x<9223372036854775808)
def EZ (d:Int) (x:Nat):Nat->Nat:=if SG d x then hdF d.toNat x else λ_=>0
def IC (l:List UInt8):Nat:=if 8<=l.length then qW (l.take 8)else 0
def IE (l:List UInt8):Nat:=if 8<=l.length then rZ (l.take 8)else 0
def four (n:Nat->Nat):Bool:=decide (n 0=0/\n 1=0/\n 2=0/\n 3=0)
theorem ab1 {d:Int} {x:Nat} (h1:d=0\/d=1) (h2:x<9223372036854775808):SG d x=true:=decide_eq_true ⟨h1,h2⟩
theorem ab2 {d:Int} {x:Nat} (h: ¬((d=0\/d=1)/\x<9223372036854775808)):SG d x=false:=decide_eq_false h
theorem ab3 (w:World):(Instr.build 162 #[]).run Tryz.prog w= .ok (.agg (ae 8 λ_=>0).toArray) w:=run_build w _ _ _ (by kernel_rfl)
end
section
open Go.RowKit
theorem aiv (a:Nat) (ha:a<18446744073709551616):bits .and .u64 (a:Int) 9223372036854775807=((a%9223372036854775808:Nat):Int):=by
 have h:=(bits_nat .u64 64 (by decide) Eo a 9223372036854775807 ha (by decide)).1;have e:=Nat.and_two_pow_sub_one_eq_mod a 63;simp only [Nat.reducePow,Nat.reduceSub]at e;rw [e]at h;exact h
theorem PN {P:Program} {fn:Func} {T:Array Value} {w:World} {p q r:Tmp} {v u x:Value} (hr:fn.results= #[.tmp p,.tmp q,.tmp r]) (hp:T.getD p undef=v) (hq:T.getD q undef=u) (iX:T.getD r undef=x):
  (results fn T).run P w= .ok (.tuple #[v,u,x]) w:=by
 have hp':T[p]?.getD undef=v:=by simpa using hp
 have hq':T[q]?.getD undef=u:=by simpa using hq
 have hr':T[r]?.getD undef=x:=by simpa using iX
 simp only [results,hr];simp [hp',hq',hr']
theorem aiw {d x y:Nat} (hd:d<2) (hx:x<9223372036854775808) (h:uT d x=y):bits .or .u64 (IntKind.u64.wrap ((d:Int)*9223372036854775808)) (x:Int)=(y:Int):=by
 have e1:IntKind.u64.wrap ((d:Int)*9223372036854775808)=((d*9223372036854775808:Nat):Int):=by rw [IntKind.wrap_u64];omega
 rw [e1,abA _ _ (by omega) (by omega),<-h];have e3:d*9223372036854775808=2^63*d:=by omega
 rw [e3,<-Nat.two_pow_add_eq_or_of_lt (by simpa using hx)];unfold uT;congr 1;omega
theorem VZ (d:Int) (w:World) (hd: -9223372036854775808<=d/\d<=9223372036854775807):
  Calls Tryz.prog 117 #[.int .i64 d] w λe w'=>e= .returned (.bool (decide (d=0\/d=1)))/\w'=w:=by
 by_cases h0:d=0
 ·subst h0;rw [decide_eq_true (by omega)];go_enter Tryz.func117,Tryz.ntmps117;go_wp2;go_ret;exact⟨rfl,rfl⟩
 by_cases h1:d=1
 ·subst h1;clear h0;rw [decide_eq_true (by omega)];go_enter Tryz.func117,Tryz.ntmps117;go_wp2;go_ret;exact⟨rfl,rfl⟩
 rw [decide_eq_false (by omega)];have b0:(d==0)=false:=by simp [h0]
 have b1:(d==1)=false:=by simp [h1]
 go_enter Tryz.func117,Tryz.ntmps117;go_wp2;go_ret;exact⟨by simp [b0,b1],rfl⟩
theorem ae8 (A:Option Addr) (n c:Nat) (l:List UInt8) (w:World) (h:Sl w w.heap.size A n l) (hnc:n<=c) (hc:c<=maxLen):
  Calls Tryz.prog 95 #[.slice A n c] w λe w'=>e= .returned (.tuple #[.int .i64 (IC l:Nat),.int .u64 (IE l:Nat),.bool (decide (8<=l.length))])/\Below w.heap.size w w':=by
 have hlen:=h.len;by_cases h8:8<=n
 ·obtain⟨b,off,rfl,hb,hcells⟩:=h.2 (by omega);have hS:Sl w w.heap.size (some ⟨b,off,none⟩) 8 (l.take 8):=by
   refine⟨by rw [List.length_take,h.len];omega,λ_=>⟨b,off,rfl,hb,λj u hu=>hcells j u ?_⟩⟩;rcases Nat.lt_or_ge j 8 with h1|h1
   ·rwa [List.getElem?_take_of_lt h1]at hu
   ·rw [List.getElem?_eq_none (by rw [List.length_take];omega)]at hu;cases hu
  clear h hcells;obtain⟨r,hr⟩: ∃r,l.take 8=r:=⟨_,rfl⟩;obtain⟨y,hy⟩: ∃y,num r=y:=⟨_,rfl⟩;have hlt:y<18446744073709551616:=by rw [<-hy];exact LD r
  obtain⟨q,hq⟩: ∃q,y/9223372036854775808=q:=⟨_,rfl⟩;obtain⟨z,hz⟩: ∃z,y%9223372036854775808=z:=⟨_,rfl⟩;have a1:bits .and .u64 (y:Int) 9223372036854775807=(z:Int):=by rw [aiv y hlt,hz]
  have a2:(y:Int)/9223372036854775808=(q:Int):=by omega
  have a3:(q:Int)<2:=by omega
  rw [show IC l=q by unfold IC qW;rw [if_pos (by omega),hr,hy,hq],show IE l=z by unfold IE rZ;rw [if_pos (by omega),hr,hy,hz],decide_eq_true (by omega:8<=l.length)];rw [hr]at hS;have HY:=Hi hy;have i1:(8:Int)<=(c:Int):=by omega
  have i2: ¬(n:Int)<8:=by omega
  clear hr hy hlt hq hz hb hlen hnc h8;go_enter Tryz.func95,Tryz.ntmps95;go_upto_region 3 with fail;go_wp2_with fail;refine(number _ 8 _ r _ hS (by omega) (by omega)).mono ?_;rintro e w1 ⟨rfl,rfl⟩;rw [HY.out];clear hS i1;go_wp2;refine bodyPost_ret (PN rfl rfl rfl rfl) rfl ⟨rfl,Below.refl _ _⟩
 ·rw [show IC l=0 by unfold IC;rw [if_neg (by omega)],show IE l=0 by unfold IE;rw [if_neg (by omega)],decide_eq_false (by omega: ¬8<=l.length)];have i2:(n:Int)<8:=by omega
  clear h hlen;go_enter Tryz.func95,Tryz.ntmps95;go_wp2;refine bodyPost_ret (PN rfl rfl rfl rfl) rfl ⟨rfl,Below.refl _ _⟩
end
section
open Go.RowKit
theorem aix:(Tryz.prog.info? 5).map (λi=>(i.zero,i.size,i.bytes))=some (some (.int .u8 0),1,1):=by kernel_rfl
theorem aiy {P:Program} (w:World) {o:Oper} {a:Act} {K:Act->World->Prop} {Q:Exit->Act->World->Prop} (s x:Operand) (t:TypeId)
  (ho:o.op= .call { callee:= .builtin .append,args:= #[s,x],argTypes:= #[t,t] })
  (e:TypeId) (i:TypeInfo) (ht:P.underlying t=some (.slice e)) (hi:P.info? e=some i) (hsize:i.size=1)
  (b off n cap:Nat) (hs:a.eval s= .slice (some ⟨b,off,none⟩) n cap) (ad:Addr) (m c:Nat) (news:List Value) (hx:a.eval x= .slice (some ad) m c) (hl:news.length=m)
  (hnews: ∀j u,news[j]?=some u->w.cell? (ad.add j)=some u) (h1: ∀u∈news,u.oneCell'=true) (hroom:n+m<=cap)
  (hc: ∀j,j<news.length-> ∃k,w.cell? ⟨b,off+n+j,none⟩=some k/\w.frozen? ⟨b,off+n+j,none⟩=false)
  (h:K (a.put o.dst (.slice (some ⟨b,off,none⟩) (n+m) cap)) (w.setCells b (off+n) news)):o.wp P a w K Q:=by
 have hr:=run_append_room_cells (P:=P) w t o.type e i ht hi b off n cap ad m c news (by rw [hsize,Nat.mul_one];exact hl) hnews h1 hroom (λj hj=>by obtain⟨k,hk,_⟩:=hc j hj;rw [hsize,Nat.mul_one,hk];rfl) (λj hj=>by obtain⟨k,_,hk⟩:=hc j hj;rw [hsize,Nat.mul_one,hk]);rw [hsize,Nat.mul_one]at hr;unfold Oper.wp execOp;simp only [ho,resolve,invoke,builtin,Sem.run_bind,Sem.run_pure,Result.andThen_ok,List.map_toArray,List.map_cons,List.map_nil,hs,hx,hr];exact h
theorem aiz (g o c:Nat) (w:World):(Instr.arrayAt 168 (.slice (some ⟨g,o,none⟩) 12 c)).run Tryz.prog w= .ok (.pointer (some ⟨g,o,none⟩)) w:=by
 simp [Instr.arrayAt,run_underlying Tryz.LQ]
theorem aiA (g:Nat) (w:World):(Instr.sliceAt 168 (.pointer (some ⟨g,0,none⟩)) none (some (.int .i64 4)) (some (.int .i64 12))).run Tryz.prog w= .ok (.slice (some ⟨g,0,none⟩) 4 12) w:=by
 have hal:Tryz.prog.arrayLen 168=12:=by simp [Program.arrayLen]
 have hel:Tryz.prog.elem 168=5:=by simp [Program.elem]
 have hs:(sizeOf 5).run Tryz.prog w= .ok 1 w:=by kernel_rfl
 rw [run_sliceAt_array_hm w 168 ⟨g,0,none⟩ (by rw [hal,hel];exact Tryz.LQ) .i64 .i64 4 12 (by omega) (by omega) (by rw [hal];omega),hel,hs];simp [Result.andThen_ok,slicedAt,Addr.add]
theorem aiB (g:Nat) (w:World):(Instr.sliceAt 162 (.pointer (some ⟨g,0,none⟩)) none none none).run Tryz.prog w= .ok (.slice (some ⟨g,0,none⟩) 8 8) w:=by
 have hal:Tryz.prog.arrayLen 162=8:=by simp [Program.arrayLen]
 have hel:Tryz.prog.elem 162=5:=by simp [Program.elem]
 have hs:(sizeOf 5).run Tryz.prog w= .ok 1 w:=by kernel_rfl
 rw [run_sliceAt_array_all w 162 ⟨g,0,none⟩ (by rw [hal,hel];exact Tryz.wI),hal,hel,hs];simp [Result.andThen_ok,slicedAt,Addr.add]
theorem noW {h:Nat->Nat} : ∀j,j<12->LW (λ_=>0) h 4 8 j=qE h j:=λj hj=>by
 unfold LW qE;by_cases e:j<4
 ·rw [if_pos e,if_neg (by omega)]
 ·rw [if_neg e,if_pos (by omega)]
theorem aiC (d:Int) (x:Nat) (w:World) (hd: -9223372036854775808<=d/\d<=9223372036854775807) (hx:x<18446744073709551616):
  Calls Tryz.prog 81 #[.int .i64 d,.int .u64 (x:Int)] w λe w'=>e= .returned (.tuple #[.agg (ae 8 (EZ d x)).toArray,.bool (SG d x)])/\Below w.heap.size w w':=by
 have hz:=KC;have hat:=abY;by_cases hk:d=0\/d=1
 ·by_cases yj:x<9223372036854775808
  ·obtain⟨m,rfl⟩: ∃m:Nat,d=(m:Int):=⟨d.toNat,by omega⟩;have hm:m<2:=(by omega);have HK:=Hi (ab1 hk yj);rw [HK.out];obtain⟨y,hy⟩: ∃y,uT m x=y:=⟨_,rfl⟩;have HY:=Hi (show y<18446744073709551616 by rw [<-hy];exact VW hm yj);obtain⟨H,hH⟩: ∃H,EZ (m:Int) x=H:=⟨_,rfl⟩;have HL:=Hi (show lF (fH y 8)=H by rw [<-hH,<-hy];unfold EZ;rw [HK.out,if_pos rfl,Int.toNat_natCast];rfl);rw [hH];have a1:=aiw hm yj hy;have a2:IntKind.u64.wrap (m:Int)=(m:Int):=Eo _ (by omega) (by omega);have i1: ¬((x:Int)>9223372036854775807):=(by omega);have HD:=Hi (decide_eq_true hk);clear hH hy hx yj hm hk HK;obtain⟨w1,af,-,au,iD⟩:=nA w 8 (λ_=>0) 162;have Dx:=Hi (VZ m w1 hd);clear hd;go_enter Tryz.func81,Tryz.ntmps81;go_upto_region 1 with fail;rw [<-af];clear af;go_wp2_with fail;refine Dx.out.mono ?_;clear Dx;rintro e w2 ⟨rfl,rfl⟩;have aA:=iD;have ai:=au;clear iD au;rw [HD.out];go_upto_region 4 with fail;go_wp2_with fail;refine(bytes y 8 _ HY.out (by omega)).mono ?_;rintro e w3 ⟨A,c,rfl,hown,hq⟩;rw [show min (8:Int).toNat 8=8 from rfl]at hown;try rw [show min (8:Int).toNat 8=8 from rfl]
   obtain⟨g,cap,hv,_,_⟩:=World.ownsRow.form hown (by omega);injection hv with e1 e2 e3;subst e1;subst e3;have hr:w3.rangeAt g 0 (ae 8 (H)):=(by rw [<-HL.out];exact VX hown);have aL:=aA.t hq;have aS:=Tq ai hq;clear hown hq aA ai;go_wp2_with (first
    |(refine wpList_load_mid rfl _ _ rfl g 0 rfl (ae 8 (H)) _ hr Tryz.wI rfl (qX _) ?_)
    |(refine bC rfl _ _ _ rfl _ _ _ (H) rfl rfl aL (qX _) ?_;intro w8 bg aY _ _))
   refine KU rfl rfl rfl bg Tryz.wI (qX _) rfl ⟨rfl,?_⟩;exact aS.trans (aY.mono (Nat.le_refl _))
  ·obtain⟨HK,HD⟩:=aB (ab2 (d:=d) (x:=x) (by omega)) (decide_eq_true hk);have HH:=Hi (show EZ d x=λ_=>0 by unfold EZ;rw [HK.out,if_neg (by simp)]);have i1:(x:Int)>9223372036854775807:=(by omega);clear hx yj hk;obtain⟨w1,af,-,au,iD⟩:=nA w 8 (λ_=>0) 162;have Dx:=Hi (VZ d w1 hd);clear hd;go_enter Tryz.func81,Tryz.ntmps81;go_upto_region 1 with fail;rw [<-af];clear af;go_wp2_with fail;refine Dx.out.mono ?_;clear Dx;rintro e w2 ⟨rfl,rfl⟩;have aA:=iD;have ai:=au;clear iD au;rw [HD.out];go_wp2_with (first|(refine oH rfl _ _ rfl [] rfl _ (ab3 _) ?_)|(refine bC rfl _ _ _ rfl _ _ _ (λ_=>0) rfl rfl aA (qX _) ?_;intro w8 bg aY _ _));refine KU rfl rfl rfl bg Tryz.wI (qX _) rfl ⟨by rw [HK.out,HH.out];rfl,?_⟩;exact ai.trans (aY.mono (Nat.le_refl _))
 ·obtain⟨HK,HD⟩:=aB (ab2 (d:=d) (x:=x) (by omega)) (decide_eq_false hk);have HH:=Hi (show EZ d x=λ_=>0 by unfold EZ;rw [HK.out,if_neg (by simp)]);clear hx hk;obtain⟨w1,af,-,au,iD⟩:=nA w 8 (λ_=>0) 162;have Dx:=Hi (VZ d w1 hd);clear hd;go_enter Tryz.func81,Tryz.ntmps81;go_upto_region 1 with fail;rw [<-af];clear af;go_wp2_with fail;refine Dx.out.mono ?_;clear Dx;rintro e w2 ⟨rfl,rfl⟩;have aA:=iD;have ai:=au;clear iD au;rw [HD.out];go_wp2_with (first|(refine oH rfl _ _ rfl [] rfl _ (ab3 _) ?_)|(refine bC rfl _ _ _ rfl _ _ _ (λ_=>0) rfl rfl aA (qX _) ?_;intro w8 bg aY _ _));refine KU rfl rfl rfl bg Tryz.wI (qX _) rfl ⟨by rw [HK.out,HH.out];rfl,?_⟩;exact ai.trans (aY.mono (Nat.le_refl _))
theorem aak (h:Nat->Nat) (w:World) (hh: ∀j,j<8->h j<256):
  Calls Tryz.prog 85 #[.agg (ae 8 h).toArray] w λe w'=>e= .returned (.agg (ae 12 (qE h)).toArray)/\Below w.heap.size w w':=by
 have hz:=abX;have HB:=Hi hh;obtain⟨kK,bO⟩:=Le ((ae 8 (h)).toArray);obtain⟨w1,af,ak,aW,jU⟩:=nA w 8 (h) 162;obtain⟨w2,ag,aD,bU,iJ⟩:=fw ak aW 12 (λ_=>0) 168;have iB:=jU.alloc (by omega) (.cells (ae 12 (λ_=>0)).toArray 168);rw [<-ag]at iB;clear jU aW;obtain⟨w3,az,fe,fJ,pW⟩:=o7 aD bU 12 (λ_=>0) 168;have jV:=iB.alloc (by omega) (.cells (ae 12 (λ_=>0)).toArray 168);rw [<-az]at jV;have fB:=iJ.alloc (by omega) (.cells (ae 12 (λ_=>0)).toArray 168);rw [<-az]at fB;clear iB iJ bU;have HKK:=Hi bO;rw [bO]at af;rw [bO];clear bO;obtain⟨i0,cu,bJ,bE,dx⟩:=info_parts aix;obtain⟨oL,oM⟩:=aB cu bE;clear cu bJ bE dx hh;have hat:=aiz;go_enter Tryz.func85,Tryz.ntmps85;go_upto_region 2 with fail;rw [<-af,<-ag,<-az];clear af ag az;try simp only [Nat.add_assoc,Nat.reduceAdd]
 obtain⟨gR,hgR⟩:=Le (w.heap.size+1);rw [hgR]at fB;obtain⟨gN,hgN⟩:=Le (w.heap.size+2);rw [hgN]at pW;try rw [hgN]
 try rw [hgR]
 have jD:w.heap.size<gR:=by omega
 have VY:gR<gN:=by omega
 clear ak aD fe hgR hgN;refine wp_region_noPanic ?_;have LF:=fB.drew;have XX:=pW.drew;refine wp_region_held_drew (S:=λW=>Ar W w.heap.size 8 (h)/\Below w.heap.size w W) (by kernel_rfl) ⟨jV.drew,fJ.drew⟩ (λaa=> ?_);clear jV fJ fB pW;generalize World.drew w3=qd at*;refine ty 0 rfl ?_ (λW hSw=>by have hsl:=aiA gN W;go_simp;try with_reducible rfl);refine ty 1 rfl ?_ (λW hSw=>by have hsl:=aiB w.heap.size W;go_simp;try with_reducible rfl);refine rd 2 rfl (λK hK=> ?_);rw [if_pos (by rfl)];refine aiy qd _ _ 45 rfl 5 i0 Tryz.underlying45 oL.out oM.out gN 0 4 12 rfl ⟨w.heap.size,0,none⟩ 8 8 (ae 8 h) rfl (bz _ _) (aa.1).src (dz 8 h) (by omega) (λj hj=>⟨_,XX (0+4+j) (by rw [bz]at hj;omega)⟩) ?_;have XY:=(XX.ab4 h 4 8 (by omega)).ext noW;have LG:=LF.apart (b:=gN) (by omega) (ae 8 h) 4;try dsimp only [Nat.zero_add,Nat.reduceAdd]
 refine so hK (w:=qd) (b:=gN) (o:=4) (vs:=(ae 8 h)) aa ?_;clear hK K aa XX LF;intro aa;generalize World.setCells qd gN 4 (ae 8 h)=q3 at*;try simp only [nr]
 refine rd 3 rfl (λK hK=> ?_);go_simp;refine hK.out _ _ aa ?_;clear hK K aa;intro aa;try simp only [nr]
 refine rd 4 rfl (λK hK=> ?_);rw [if_pos (by rfl)];refine wp_load_mid _ _ rfl gN 0 rfl (ae 12 (qE h)) _ XY.range Tryz.LQ rfl (LU _) ?_;refine hK.out _ _ aa ?_;clear hK K aa;intro aa;try simp only [nr]
 refine rd 5 rfl (λK hK=> ?_);rw [if_pos (by rfl)];refine wp_store_mid _ _ _ rfl gR 0 (ae 12 (qE h)).toArray rfl rfl LG.there (LU _) (all_oneCell_toArray (dz 12 (qE h))) ?_;have VO:=LG.whole (qE h);have X6:=XY.apart (b:=gR) (by omega) (ae 12 (qE h)) 0;dsimp only [List.toList_toArray];refine so hK (w:=q3) (b:=gR) (o:=0) (vs:=(ae 12 (qE h))) aa ?_;clear hK K aa LG XY;intro aa;generalize World.setCells q3 gR 0 (ae 12 (qE h))=q4 at*;try simp only [Act.put]
 refine wpAnyH_done (by kernel_rfl) ?_ _;refine NoPanic.normal ?_;have bD:=aa.2;clear aa;go_wp2_with fail;refine dU rfl rfl VO Tryz.LQ (LU _) rfl ⟨rfl,bD⟩
end
section
open Go.RowKit
end
end
section
open Go.RowKit
def rT (d:Int) (x n:Nat):Nat:=if d=0\/d=1 then if x<9223372036854775808 then if n<=1200 then 0 else 2 else 5 else 8
def bq (a b c d e:Value):Nat->Value
 |0=>a|1=>b|2=>c|3=>d|_=>e
theorem Ag {w U:World} {a b c d e:Value} {t:TypeId} (h:w=U.alloc (.cells #[a,b,c,d,e] t)):Cx w U.heap.size 5 (bq a b c d e):=by
 rw [h];exact Cx.new U 5 (bq a b c d e) t
theorem Ka {w U:World} {a b c d e:Value} {t:TypeId} (h:w=U.alloc (.cells #[a,b,c,d,e] t)):w.cell? ⟨U.heap.size,0,none⟩=some a:=(Ag h 0 (by omega)).1
theorem Kb {w U:World} {a b c d e:Value} {t:TypeId} (h:w=U.alloc (.cells #[a,b,c,d,e] t)):w.cell? ⟨U.heap.size,1,none⟩=some b:=(Ag h 1 (by omega)).1
theorem Kc {w U:World} {a b c d e:Value} {t:TypeId} (h:w=U.alloc (.cells #[a,b,c,d,e] t)):w.cell? ⟨U.heap.size,4,none⟩=some e:=(Ag h 4 (by omega)).1
def eT:Nat->Value:=bq (.int .i64 0) (.int .u64 0) (.int .u16 0) (.int .u16 0) (.slice none 0 0)
theorem Tryz.KD: ∃d,Tryz.prog.underlying 105=some d/\d.isRow=true:=by
 have h:(Tryz.prog.underlying 105).map (·.isRow)=some true:=by kernel_rfl
 cases hu:Tryz.prog.underlying 105 with
 |none=>rw [hu]at h;cases h
 |some d=>rw [hu]at h;exact⟨d,rfl,Option.some.inj h⟩
theorem uI (c:Nat->Value):(Tryz.prog.info? 105).map (·.size)=some (av 5 c).length:=by rw [dB];kernel_rfl
theorem Wo {a b d e v:Value} :(Tryz.prog.info? 105).map (·.size)=some [a,b,d,e,v].length:=by show _=some 5;kernel_rfl
theorem Rn (w:World):(zeroValue 105).run Tryz.prog w= .ok (.agg (av 5 eT).toArray) w:=by kernel_rfl
theorem N8 (w:World):(Instr.build 105 #[]).run Tryz.prog w= .ok (.agg (av 5 eT).toArray) w:=run_build w _ _ _ (by kernel_rfl)
theorem zO (c:Nat->Value) (a b d e v:Value): ∀j,j<5->wV c 0 (av 5 (bq a b d e v)) j=bq a b d e v j:=λj hj=>by
 have h:j=0\/j=1\/j=2\/j=3\/j=4:=by omega
 rcases h with rfl|rfl|rfl|rfl|rfl<;>rfl
theorem zN (a b d e v:Value) (h1:a.oneCell'=true) (h2:b.oneCell'=true) (h3:d.oneCell'=true) (h4:e.oneCell'=true) (h5:v.oneCell'=true): ∀u∈av 5 (bq a b d e v),u.oneCell'=true:=kW 5 _ λj hj=>by
 have h:j=0\/j=1\/j=2\/j=3\/j=4:=by omega
 rcases h with rfl|rfl|rfl|rfl|rfl<;>assumption
theorem IQ {P:Program} {fn:Func} {T:Array Value} {w:World} {p q:Tmp} {ty:TypeId} {d:TypeDesc} {v:Value} {g n:Nat} {c:Nat->Value} (hr:fn.results= #[.cell p ty,.tmp q]) (hp:T.getD p undef= .pointer (some ⟨g,0,none⟩)) (hq:T.getD q undef=v)
  (hA:Cx w g n c) (hu:P.underlying ty=some d) (hd:d.isRow=true) (hi:(P.info? ty).map (·.size)=some (av n c).length):
  (results fn T).run P w= .ok (.tuple #[.agg (av n c).toArray,v]) w:=by
 have hp':T[p]?.getD undef= .pointer (some ⟨g,0,none⟩):=by simpa using hp
 have hq':T[q]?.getD undef=v:=by simpa using hq
 have hc:w.rangeAt g 0 (av n c):=hA.range 0 _ (by rw [dB];omega) (λj v hv=>by rw [Nat.zero_add];exact(Bi hv).2.symm);simp only [results,hr];simp [hp',hq',asAddr,run_loadVar_mid (P:=P) w g 0 ty (av n c) _ hc hu hd hi]
theorem Tg {w:World} {B b o n k:Nat} {l:List UInt8} (h:Sl w B (some ⟨b,o,none⟩) n l) (hk:k<n):w.cell? ⟨b,o+k,none⟩=some (.int .u8 (lF l k:Nat)):=by
 obtain⟨b',o',e,_,hc⟩:=h.at_ hk;injection e with e;injection e with e1 e2;subst e1;subst e2;exact hc
theorem Wp (k g:Nat) (hk:k≠g) (vs:List Value): ∀(o:Nat) (W:World),(W.setCells g o vs).heap[k]?=W.heap[k]?:=by
 induction vs with
 |nil=>intro o W;rfl
 |cons v r ih=>intro o W;rw [World.setCells,ih,Below.heap_setCell W ⟨g,o,none⟩ v k (λe=>hk e)]
def dC (w w':World) (A:Option Addr) (n:Nat) (l:List UInt8):Prop:= ∀W:World,(∀k,w.heap.size<=k->k<w'.heap.size->W.heap[k]?=w'.heap[k]?)->w'.heap.size<=W.heap.size->Sl W W.heap.size A n l
theorem dC.sl {w w':World} {A:Option Addr} {n:Nat} {l:List UInt8} (h:dC w w' A n l):Sl w' w'.heap.size A n l:=h w' (λ_ _ _=>rfl) (Nat.le_refl _)
theorem dC.up {w0 w w':World} {A:Option Addr} {n:Nat} {l:List UInt8} (h:dC w w' A n l) (hs:w0.heap.size<=w.heap.size):dC w0 w' A n l:=λW hW aD=>h W (λk h1 h2=>hW k (Nat.le_trans hs h1) h2) aD
theorem dC.nil (w w':World) (A:Option Addr):dC w w' A 0 []:=λ_ _ _=>⟨rfl,λh=>absurd h (by omega)⟩
theorem N7 {w W:World} {B B' b o n:Nat} {l:List UInt8} (h:Sl w B (some ⟨b,o,none⟩) n l) (he:W.heap[b]?=w.heap[b]?) (hb:b<B'):Sl W B' (some ⟨b,o,none⟩) n l:=
 ⟨h.1,λhn=>by
  obtain⟨b',o',e,hb',hc⟩:=h.2 hn;injection e with e;injection e with e1 e2;subst e1;exact⟨b,o',by rw [e2],hb,λj u hj=>(World.cell?_of_block (w:=w) he).trans (hc j u hj)⟩⟩
theorem dC.jk {w w':World} {base c n:Nat} {e:TypeId} {A:Option Addr} {l:List UInt8} (h:w'.ownsRow base e 1 (.slice A n c) n (l.map b8)) (hb:w.heap.size<=base):dC w w' A n l:=λW hW hs=>by
 have h1:=Sl.jk h;rcases Nat.eq_zero_or_pos n with h0|h0
 ·exact⟨h1.1,λhn=>absurd hn (by omega)⟩
 ·obtain⟨g,cap,hv,hg,hlt⟩:=World.ownsRow.form h h0;injection hv with e1 e2 e3;subst e1;exact N7 h1 (hW g (by omega) hlt) (by omega)
theorem UW {w:World} {B b o n g:Nat} {l:List UInt8} (h:Sl w B (some ⟨b,o,none⟩) n l) (hg:b≠g) (vs:List Value) (k:Nat):Sl (w.setCells g k vs) B (some ⟨b,o,none⟩) n l:=
 ⟨h.1,λhn=>by
  obtain⟨b',o',e,hb,hc⟩:=h.2 hn;refine⟨b',o',e,hb,λj u hj=> ?_⟩;injection e with e;injection e with e1 e2;subst e1;rw [World.cell?_setCells_out g vs k w ⟨b,o'+j,none⟩ (λh9 _=>absurd h9 hg)];exact hc j u hj⟩
theorem acp {a b T:Nat} (ha:a<256) (hb:b<256) (h:a*256+b=T):IntKind.u16.wrap (a:Int)=(a:Int)/\IntKind.u16.wrap (b:Int)=(b:Int)/\IntKind.u16.wrap ((a:Int)*256)=(a:Int)*256/\IntKind.u16.wrap ((a:Int)*256+(b:Int))=(T:Int)/\(a:Int)*256+(b:Int)=(T:Int)/\IntKind.u16.wrap (T:Int)=(T:Int):=by
 simp only [IntKind.wrap_u16];omega
end
section
open Go.RowKit
def CP (C:Nat):Value:=if C=0 then .nilIface else .iface 61 (.int .i64 (C:Int))
theorem NJ {C:Nat} (h:C=0):CP C= .nilIface:=if_pos h
theorem N9 {C:Nat} (h:C≠0):CP C= .iface 61 (.int .i64 (C:Int)):=if_neg h
def yS (n:Nat):Nat:=if n<28 then 1 else if 1228<n then 2 else 0
theorem UX (t:Nat) (v:Value) (w:World):(binOp .neq 29 (.iface t v) .nilIface).run Tryz.prog w= .ok (.bool true) w:=by
 have h: ∀d:Nat,(Op.equalIn (d+1) 29 (.iface t v) .nilIface).run Tryz.prog w= .ok false w:=λd=>by simp [Op.equalIn,run_underlying Tryz.underlying29]
 simp only [binOp];simp [Op.equal,Op.maxDepth,h 9999]
theorem acy {w:World} {g:Nat} {a b d e v:Value} (h:Cx w g 5 (bq a b d e v)):w.rangeAt g 0 [a,b,d,e,v]:=h.range 0 _ (by simp) (λj u hu=>by
 rw [Nat.zero_add]
 match j,hu with
 |0,hu=>exact Option.some.inj hu
 |1,hu=>exact Option.some.inj hu
 |2,hu=>exact Option.some.inj hu
 |3,hu=>exact Option.some.inj hu
 |4,hu=>exact Option.some.inj hu
 |j+5,hu=>simp at hu)
theorem ajH {d:Int} {x n:Nat} (h:rT d x n=0):(d=0\/d=1)/\x<9223372036854775808/\n<=1200:=by
 unfold rT at h;split at h
 ·split at h
  ·split at h
   ·exact⟨by assumption,by assumption,by assumption⟩
   ·cases h
  ·cases h
 ·cases h
theorem ajG (d:Int) (x t e:Nat) (A:Option Addr) (n c:Nat) (w:World) (hd: -9223372036854775808<=d/\d<=9223372036854775807) (hx:x<18446744073709551616) (hn:n<=9223372036854775807):
  Calls Tryz.prog 80 #[.agg #[.int .i64 (d:Int),.int .u64 (x:Int),.int .u16 (t:Int),.int .u16 (e:Int),.slice A n c]] w λe9 w'=>e9= .returned (CP (rT d x n))/\Below w.heap.size w w':=by
 by_cases h0:d=0
 ·subst h0;by_cases Fz:x<9223372036854775808
  ·have i2: ¬(x:Int)>9223372036854775807:=(by omega);by_cases rY:n<=1200
   ·have i3: ¬(n:Int)>1200:=(by omega);obtain⟨w1,af⟩:=Lv (w.alloc (.cells #[.int .i64 0,.int .u64 (x:Int),.int .u16 (t:Int),.int .u16 (e:Int),.slice A n c] 105));have c0:=Ka af;have c1:=Kb af;have c4:=Kc af;have au:=Bl af;rw [show CP (rT 0 x n)= .nilIface from NJ (by unfold rT;rw [if_pos (by omega),if_pos Fz,if_pos rY])];clear hd hx hn;go_enter Tryz.func80,Tryz.ntmps80;go_upto_region 1 with fail;rw [<-af];clear af;go_wp2_with fail;go_ret;exact⟨rfl,au⟩
   ·have i3:(n:Int)>1200:=(by omega);obtain⟨w1,af⟩:=Lv (w.alloc (.cells #[.int .i64 0,.int .u64 (x:Int),.int .u16 (t:Int),.int .u16 (e:Int),.slice A n c] 105));have c0:=Ka af;have c1:=Kb af;have c4:=Kc af;have au:=Bl af;rw [show rT 0 x n=2 by unfold rT;rw [if_pos (by omega),if_pos Fz,if_neg rY]];clear hd hx hn;go_enter Tryz.func80,Tryz.ntmps80;go_upto_region 1 with fail;rw [<-af];clear af;go_wp2_with fail;go_ret;exact⟨rfl,au⟩
  ·have i2:(x:Int)>9223372036854775807:=(by omega);obtain⟨w1,af⟩:=Lv (w.alloc (.cells #[.int .i64 0,.int .u64 (x:Int),.int .u16 (t:Int),.int .u16 (e:Int),.slice A n c] 105));have c0:=Ka af;have c1:=Kb af;have c4:=Kc af;have au:=Bl af;rw [show rT 0 x n=5 by unfold rT;rw [if_pos (by omega),if_neg Fz]];clear hd hx hn;go_enter Tryz.func80,Tryz.ntmps80;go_upto_region 1 with fail;rw [<-af];clear af;go_wp2_with fail;go_ret;exact⟨rfl,au⟩
 by_cases h1:d=1
 ·subst h1;clear h0;by_cases Fz:x<9223372036854775808
  ·have i2: ¬(x:Int)>9223372036854775807:=(by omega);by_cases rY:n<=1200
   ·have i3: ¬(n:Int)>1200:=(by omega);obtain⟨w1,af⟩:=Lv (w.alloc (.cells #[.int .i64 1,.int .u64 (x:Int),.int .u16 (t:Int),.int .u16 (e:Int),.slice A n c] 105));have c0:=Ka af;have c1:=Kb af;have c4:=Kc af;have au:=Bl af;rw [show CP (rT 1 x n)= .nilIface from NJ (by unfold rT;rw [if_pos (by omega),if_pos Fz,if_pos rY])];clear hd hx hn;go_enter Tryz.func80,Tryz.ntmps80;go_upto_region 1 with fail;rw [<-af];clear af;go_wp2_with fail;go_ret;exact⟨rfl,au⟩
   ·have i3:(n:Int)>1200:=(by omega);obtain⟨w1,af⟩:=Lv (w.alloc (.cells #[.int .i64 1,.int .u64 (x:Int),.int .u16 (t:Int),.int .u16 (e:Int),.slice A n c] 105));have c0:=Ka af;have c1:=Kb af;have c4:=Kc af;have au:=Bl af;rw [show rT 1 x n=2 by unfold rT;rw [if_pos (by omega),if_pos Fz,if_neg rY]];clear hd hx hn;go_enter Tryz.func80,Tryz.ntmps80;go_upto_region 1 with fail;rw [<-af];clear af;go_wp2_with fail;go_ret;exact⟨rfl,au⟩
  ·have i2:(x:Int)>9223372036854775807:=(by omega);obtain⟨w1,af⟩:=Lv (w.alloc (.cells #[.int .i64 1,.int .u64 (x:Int),.int .u16 (t:Int),.int .u16 (e:Int),.slice A n c] 105));have c0:=Ka af;have c1:=Kb af;have c4:=Kc af;have au:=Bl af;rw [show rT 1 x n=5 by unfold rT;rw [if_pos (by omega),if_neg Fz]];clear hd hx hn;go_enter Tryz.func80,Tryz.ntmps80;go_upto_region 1 with fail;rw [<-af];clear af;go_wp2_with fail;go_ret;exact⟨rfl,au⟩
 obtain⟨w1,af⟩:=Lv (w.alloc (.cells #[.int .i64 d,.int .u64 (x:Int),.int .u16 (t:Int),.int .u16 (e:Int),.slice A n c] 105));have c0:=Ka af;have c1:=Kb af;have c4:=Kc af;have au:=Bl af;have i0:(d !=0)=true:=by simp [h0]
 have i1:(d !=1)=true:=by simp [h1]
 rw [show rT d x n=8 by unfold rT;rw [if_neg (by omega)]];clear hd hx hn;go_enter Tryz.func80,Tryz.ntmps80;go_upto_region 1 with fail;rw [<-af];clear af;go_wp2_with fail;go_ret;exact⟨rfl,au⟩
theorem ae4 (A:Option Addr) (n c:Nat) (w:World) (hn:n<=9223372036854775807):
  Calls Tryz.prog 93 #[.slice A n c] w λe9 w'=>e9= .returned (CP (yS n))/\w'=w:=by
 by_cases h1:n<28
 ·have i1:(n:Int)<28:=by omega
  rw [show yS n=1 from if_pos h1];go_enter Tryz.func93,Tryz.ntmps93;go_wp2_with fail;go_ret;exact⟨rfl,rfl⟩
 have i1: ¬(n:Int)<28:=by omega
 by_cases h2:1228<n
 ·have i2:(n:Int)>1228:=by omega
  rw [show yS n=2 by unfold yS;rw [if_neg h1,if_pos h2]];go_enter Tryz.func93,Tryz.ntmps93;go_wp2_with fail;go_ret;exact⟨rfl,rfl⟩
 have i2: ¬(n:Int)>1228:=by omega
 rw [show yS n=0 by unfold yS;rw [if_neg h1,if_neg h2]];go_enter Tryz.func93,Tryz.ntmps93;go_wp2_with fail;go_ret;exact⟨rfl,rfl⟩
theorem akI (x:Nat) (w:World) (hx:x<18446744073709551616):
  Calls Tryz.prog 118 #[.int .u64 x,.int .i64 2] w λe w'=> ∃A c,e= .returned (.slice A 2 c)/\Own w' w.heap.size A 2 c (fH x 2)/\Below w.heap.size w w':=bytes x 2 w hx (by omega)
theorem ptb (t:Nat) (w:World) (ht:t<65536):
  Calls Tryz.prog 83 #[.int .u16 (t:Int)] w λe9 w'=> ∃A c,e9= .returned (.slice A 2 c)/\Own w' w.heap.size A 2 c (fH t 2)/\Below w.heap.size w w':=by
 have i1:IntKind.u64.wrap (t:Int)=(t:Int):=by rw [IntKind.wrap_u64];omega
 have HT:=Hi ht;go_enter Tryz.func83,Tryz.ntmps83;go_wp2_with fail;try rw [i1]
 refine(akI t _ (by have:=HT.out;omega)).mono ?_;rintro e9 w1 ⟨A,c,rfl,hO,hB⟩;go_wp2_with fail;go_ret;exact⟨A,c,rfl,hO,hB⟩
end
end Go.Proofs.YtdaiacmneopkgaaGreatDoor
