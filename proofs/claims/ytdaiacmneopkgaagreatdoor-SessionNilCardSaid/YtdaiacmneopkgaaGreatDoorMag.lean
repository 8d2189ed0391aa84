/-
 Contracts of packages table and offset and of their reference packages, by walks through their texts; what was there stays as it was.
-/
import Derived.Test.YtdaiacmneopkgaaGreatDoorMfb
import Derived.Test.YtdaiacmneopkgaaGreatDoorGbk
import Derived.Test.YtdaiacmneopkgaaGreatDoorMda
import Derived.Lib.BitFns
import Derived.Lib.Walk
import Derived.Lib.Strings
import Derived.Lib.Slices
import Derived.Lib.Small
namespace Go.Proofs.YtdaiacmneopkgaaGreatDoor
set_option linter.unusedVariables false
set_option maxRecDepth 100000
set_option maxHeartbeats 4000000
section
section
open Go.RowKit
theorem Vl (x:Nat): ∀f i,(i<=zW x f i/\zW x f i<=i+f)/\(∀j,i<=j->j<zW x f i->x/2^j%2=0)/\(zW x f i<i+f->x/2^zW x f i%2=1)
 |0,i=>by unfold zW;exact⟨⟨Nat.le_refl _,Nat.le_refl _⟩,λj a b=>absurd b (by omega),λh=>absurd h (by omega)⟩
 |f+1,i=>by
  unfold zW;by_cases h:x/2^i%2=1
  ·rw [if_pos h];exact⟨⟨Nat.le_refl _,by omega⟩,λj a b=>absurd b (by omega),λ_=>h⟩
  ·rw [if_neg h];obtain⟨⟨a,b⟩,c,d⟩:=Vl x f (i+1);refine⟨⟨by omega,by omega⟩,λj h1 h2=> ?_,λh1=>d (by omega)⟩;by_cases e:j=i
   ·subst e;omega
   ·exact c j (by omega) h2
theorem agl (x:Nat):jF x<=64:=by have:=(Vl x 64 0).1.2;unfold jF;omega
theorem agm (x j:Nat) (h:j<jF x):x/2^j%2=0:=(Vl x 64 0).2.1 j (Nat.zero_le _) h
theorem aaU (x:Nat): ∀k,(∀j,j<k->x/2^j%2=0)->x%2^k=0
 |0,_=>by rw [Nat.pow_zero,Nat.mod_one]
 |k+1,h=>by rw [Nat.mod_pow_succ,aaU x k (λj hj=>h j (by omega)),h k (by omega)];simp
theorem XN (x:Nat) (h0:x≠0) (h:x<18446744073709551616):jF x<64:=by
 rcases Nat.lt_or_ge (jF x) 64 with h1|h1
 ·exact h1
 ·have:=aaU x 64 (λj hj=>agm x j (by omega));rw [Nat.mod_eq_of_lt (by simpa using h)]at this;exact absurd this h0
def dk (s:Nat->Nat):Nat->Nat->Nat
 |0=>s
 |k+1=>gI (dk s k)
theorem xG {s:Nat->Nat} (h:aj s): ∀k,aj (dk s k)
 |0=>h
 |k+1=>agn (xG h k)
def nN (c:Value) (s d T:Nat->Nat) (j:Nat):Value:=if j<1 then c else if j<17 then n8 (s (j-1))else if j<33 then n8 (d (j-17))else n8 (T (j-33))
theorem agp (p:Option Addr) (s:Nat->Nat):Tryz.prog.built 135 [(0,.pointer p),(1,.agg (ae 16 s).toArray)]=some (av 1057 (nN (.pointer p) s (λ_=>0) (λ_=>0))).toArray:=by kernel_rfl
theorem agq (p:Option Addr) (s:Nat->Nat) (w:World):(Instr.build 135 #[(0,.pointer p),(1,.agg (ae 16 s).toArray)]).run Tryz.prog w= .ok (.agg (av 1057 (nN (.pointer p) s (λ_=>0) (λ_=>0))).toArray) w:=
 run_build w _ _ _ (agp p s)
def BA (s:Nat->Nat) (n m:Nat):Nat:=if m/16<n then dk s (m/16+2) (m%16)else 0
theorem agr (s:Nat->Nat) (m:Nat):BA s 0 m=0:=by simp [BA]
theorem ags (s:Nat->Nat) (n m:Nat):(if m/16=n then dk s (n+2) (m%16)else BA s n m)=BA s (n+1) m:=by
 unfold BA;by_cases h:m/16=n
 ·rw [if_pos h,if_pos (by omega),h]
 ·rw [if_neg h];by_cases h2:m/16<n
  ·rw [if_pos h2,if_pos (by omega)]
  ·rw [if_neg h2,if_neg (by omega)]
def Ti (w:World) (g:Nat) (p:Option Addr) (s:Nat->Nat):Prop:=Cx w g 1057 (nN (.pointer p) s (dk s 1) (BA s 64))
theorem agt (c:Value) (s d T:Nat->Nat) (j:Nat) (v:Value) (h:(ae 16 s)[j]?=some v):nN c s d T (1+j)=v:=by
 obtain⟨h1,rfl⟩:=xM h;unfold nN;rw [if_neg (by omega),if_pos (by omega),Nat.add_sub_cancel_left]
theorem agu (c:Value) (s d T:Nat->Nat) (j:Nat) (v:Value) (h:(ae 16 d)[j]?=some v):nN c s d T (17+j)=v:=by
 obtain⟨h1,rfl⟩:=xM h;unfold nN;rw [if_neg (by omega),if_neg (by omega),if_pos (by omega),Nat.add_sub_cancel_left]
theorem agv (c:Value) (s d T:Nat->Nat) (r:Nat) (W:Nat->Nat) (hW: ∀k,k<16->T (r*16+k)=W k) (j:Nat) (v:Value) (h:(ae 16 W)[j]?=some v):nN c s d T (33+r*16+j)=v:=by
 obtain⟨h1,rfl⟩:=xM h;unfold nN;rw [if_neg (by omega),if_neg (by omega),if_neg (by omega),show 33+r*16+j-33=r*16+j by omega,hW j h1]
theorem aaV {w:World} {g:Nat} {c:Value} {s d T:Nat->Nat} (h:Cx w g 1057 (nN c s d T)):w.rangeAt g 1 (ae 16 s):=Cx.range h _ _ (by rw [bz];omega) (agt _ _ _ _)
theorem aaW {w:World} {g:Nat} {c:Value} {s d T:Nat->Nat} (h:Cx w g 1057 (nN c s d T)):w.rangeAt g 17 (ae 16 d):=Cx.range h _ _ (by rw [bz];omega) (agu _ _ _ _)
theorem agw {w:World} {g:Nat} {c:Value} {s d T:Nat->Nat} (h:Cx w g 1057 (nN c s d T)):w.cell? ⟨g,0,none⟩=some c:=(h 0 (by decide)).1
theorem Ti.block {w:World} {g:Nat} {p:Option Addr} {s:Nat->Nat} (h:Ti w g p s) (r:Nat) (hr:r<64):w.rangeAt g (33+r*16) (ae 16 (dk s (r+2))):=
 Cx.range h _ _ (by rw [bz];omega) (agv _ _ _ _ r _ (λk hk=>by unfold BA;rw [show(r*16+k)/16=r by omega,show(r*16+k)%16=k by omega,if_pos hr]))
theorem Ti.to {w w':World} {g:Nat} {p:Option Addr} {s:Nat->Nat} (h:Ti w g p s) (hb:Below w.heap.size w w'):Ti w' g p s:=Cx.to h (by decide) hb
theorem Ti.keep {w w':World} {B g:Nat} {p:Option Addr} {s:Nat->Nat} (h:Ti w g p s) (hg:g<B) (hb:Below B w w'):Ti w' g p s:=Cx.keep h hg hb
theorem Ti.drew {w:World} {g:Nat} {p:Option Addr} {s:Nat->Nat} (h:Ti w g p s):Ti w.drew g p s:=h
theorem Ti.lt {w:World} {g:Nat} {p:Option Addr} {s:Nat->Nat} (h:Ti w g p s):g<w.heap.size:=Cx.lt h (by decide)
theorem agx (c:Value) (s d d' T:Nat->Nat) (j:Nat) (hj:j<1057):wV (nN c s d T) 17 (ae 16 d') j=nN c s d' T j:=by
 unfold wV;rw [bz];by_cases hc:17<=j/\j<17+16
 ·rw [if_pos hc,oG 16 d' _ (by omega)];unfold nN;rw [if_neg (by omega),if_neg (by omega),if_pos (by omega)];rfl
 ·rw [if_neg hc];unfold nN;split
  ·rfl
  ·split
   ·rfl
   ·rw [if_neg (by omega),if_neg (by omega)]
theorem agy (c:Value) (s d T T':Nat->Nat) (r:Nat) (hr:r<64) (W:Nat->Nat) (hT: ∀m,m<1024->(if m/16=r then W (m%16)else T m)=T' m) (j:Nat) (hj:j<1057):wV (nN c s d T) (33+r*16) (ae 16 W) j=nN c s d T' j:=by
 unfold wV;rw [bz];by_cases hc:33+r*16<=j/\j<33+r*16+16
 ·rw [if_pos hc,oG 16 W _ (by omega)];unfold nN;rw [if_neg (by omega),if_neg (by omega),if_neg (by omega),<-hT _ (by omega),if_pos (by omega),show j-(33+r*16)=(j-33)%16 by omega];rfl
 ·rw [if_neg hc];unfold nN;split
  ·rfl
  ·split
   ·rfl
   ·split
    ·rfl
    ·rw [<-hT _ (by omega),if_neg (by omega)]
end
section
open Go.RowKit
theorem agz (p:Option Addr) (f:Nat->Nat) (w:World) (hf:aj f) (hv:Ei w (.pointer p) f) (h:eX w):
  Calls Tryz.prog 25 #[.pointer p] w λe w'=> ∃g,e= .returned (.pointer (some ⟨g,0,none⟩))/\w.heap.size<=g/\Ti w' g p (aJ f zF)/\Below w.heap.size w w':=by
 have hz:=jf;obtain⟨z0,hcall⟩:=aB Nt (Kt (.pointer p) f zF w hf jw hv h);obtain⟨s,hs⟩: ∃s,aJ f zF=s:=⟨_,rfl⟩;have hsl:=Hi (xG (show aj s by rw [<-hs];exact fM hf jw 10));rw [hs]at hcall;rw [hs];obtain⟨cA,hcA⟩:=Le ((av 1057 (nN (.pointer p) s (λ_=>0) (λ_=>0))).toArray);obtain⟨hbd,XY⟩:=aB (agq p s) hcA;rw [hcA]at hbd;clear hcA hs hf hv h;go_enter Tryz.func25,Tryz.ntmps25;go_wp2_with (refine oH rfl _ _ rfl [] rfl _ (z0.out _) ?_);refine hcall.out.mono ?_;rintro e w1 ⟨rfl,cB⟩;clear hcall;obtain⟨w2,ag⟩:=Lv (w1.alloc (.cells cA 135));obtain⟨gT,eH⟩:=Le (w1.heap.size);have C9:w.heap.size<=gT:=by rw [<-eH];exact cB.size
 have bG:Cx w2 gT 1057 (nN (.pointer p) s (λ_=>0) (λ_=>0)):=by rw [ag,<-eH,<-XY.out];exact Cx.new w1 1057 _ _
 have aF:=Bm ag cB;clear cB XY;go_upto_region 2 with (refine oH rfl _ _ rfl [(0,.pointer p),(1,.agg (ae 16 s).toArray)] rfl _ (hbd.out _) ?_);try rw [eH]
 rw [<-ag];clear ag hbd eH;go_wp2_with (refine wpList_load_mid rfl _ _ rfl gT 1 rfl (ae 16 s) _ (aaV bG) Tryz.aM rfl (ay _) ?_);refine(aaX s _ (hsl.out 0)).mono ?_;rintro e w3 ⟨rfl,hq⟩;rw [show gI s=dk s 1 from rfl];have eQ:=bG.to (by decide) hq;have aS:=Tq aF hq;clear bG aF hq;go_upto_region 3 with (first|(refine qY rfl _ _ _ rfl gT 1057 17 _ (ae 16 (dk s 1)) rfl rfl eQ (by rw [bz];omega) (ay _) (dz 16 (dk s 1)) ?_;intro w4 jv XZ X7 X8)|fail);have kR:=jv.ext (λj hj=>agx _ s (λ_=>0) (dk s 1) (λ_=>0) j hj);have fD:=aS.trans (XZ.mono C9);clear eQ jv aS XZ X7 X8;try dsimp only [Act.put]
 obtain⟨gL,jN⟩:=Le (w4.heap.size);have yM:gT<gL:=by rw [<-jN];exact kR.lt (by decide)
 obtain⟨w5,eO⟩:=Lv (w4.alloc (.cells (ae 16 λ_=>0).toArray 22));have BB:=tF eO jN;have nk:Cx w5 gT 1057 (nN (.pointer p) s (dk s 1) (λ_=>0)):=by rw [eO];exact kR.alloc (by decide) _
 have dY:=Bm eO fD;clear fD;go_upto_region 4 with (first
  |(refine wpList_load_mid rfl _ _ rfl gT 17 rfl (ae 16 (dk s 1)) _ (aaW kR) Tryz.aM rfl (ay _) ?_)
  |(refine bC rfl _ _ _ rfl _ _ _ (dk s 1) rfl rfl (by rw [<-eO];exact BB) (ay _) ?_;intro w6 Di XW X0 X3)
  |fail)
 rw [<-eO]at XW X0 X3;have nu:=(nk.keep yM XW).ext (d:=nN (.pointer p) s (dk s 1) (BA s 0)) (λj _=>by unfold nN;simp only [agr]);have fK:=dY.trans (XW.mono (by omega));clear kR nk BB dY XW X0 X3 eO jN;try dsimp only [Act.put]
 go_wp2_with fail;go_loopw [24] (λi wr=> ∃k:Nat,k<=64/\i= .int .i64 k/\Cx wr gT 1057 (nN (.pointer p) s (dk s 1) (BA s k))/\Ar wr gL 16 (dk s (k+1))/\Below w.heap.size w wr) (λi _=>64-(intOf i).toNat);case atStart=>exact⟨0,Nat.zero_le _,rfl,nu,Di,fK⟩
 case round=>
  clear nu Di fK;obtain⟨k,hk,rfl,hT,hL,hB⟩:=hrel;by_cases hlt:k<64
  ·have i1:(k:Int)<64:=(by omega);go_wp2_with (refine bB rfl _ _ rfl _ _ _ rfl hL Tryz.aM (ay _) ?_);refine(aaX (dk s (k+1)) _ (hsl.out (k+1))).mono ?_;rintro e wa ⟨rfl,hq⟩;rw [show gI (dk s (k+1))=dk s (k+2)from rfl];have Gs:=hT.to (by decide) hq;have OX:=hL.t hq;have hBa:=Tq hB hq;clear hT hL hB hq;go_upto_region 8 with (first|(refine bC rfl _ _ _ rfl _ _ _ (dk s (k+2)) rfl rfl OX (ay _) ?_;intro wb X4 dE qM oI)|fail);have X5:=Gs.keep yM dE;have hBb:=hBa.trans (dE.mono (by omega));clear Gs OX hBa dE qM oI;try dsimp only [Act.put]
   have XX:=X5.drew;refine wp_region_held_drew (S:=λW=>Ar W gL 16 (dk s (k+2))/\Below w.heap.size w W) (by kernel_rfl) ⟨X4.drew,hBb.drew⟩ (λaa=> ?_);clear X4 hBb X5;generalize World.drew wb=ad at*;refine ty 0 rfl ?_;refine ty 1 rfl ?_;refine tm 2 (λW hSw=>hSw.1.range) Tryz.aM rfl (ay _) ?_;refine ty 3 rfl ?_;refine ty 4 rfl ?_;refine ty 5 rfl ?_;refine rd 6 rfl (λK hK=> ?_);rw [if_pos (by rfl)];refine wp_store_mid _ _ _ rfl gT (33+k*16) (ae 16 (dk s (k+2))).toArray rfl rfl (XX.there (33+k*16) 16 (by omega)) (ay _) (all_oneCell_toArray (dz 16 (dk s (k+2)))) ?_;have X6:=XX.put (33+k*16) (ae 16 (dk s (k+2))) (by rw [bz];omega);dsimp only [List.toList_toArray];refine hK.out _ _ ⟨(aa.1).apart (b:=gT) (by omega) (ae 16 (dk s (k+2))) (33+k*16),(aa.2).trans (Below.setCells (Below.refl w.heap.size _) (b:=gT) (by omega) (ae 16 (dk s (k+2))) (33+k*16))⟩ ?_;clear hK K aa XX;intro aa;generalize World.setCells ad gT (33+k*16) (ae 16 (dk s (k+2)))=a6 at*;try simp only [Act.put]
   refine wpAnyH_done (by kernel_rfl) ?_ _;have ig:=X6.ext (λj hj=>agy (.pointer p) s (dk s 1) (BA s k) (BA s (k+1)) k hlt _ (λm _=>ags s k m) j hj);have nY:=aa.1;have bD:=aa.2;clear aa X6;go_wp2_with fail;go_roundw;case rel=>exact⟨k+1,by omega,by go_num,ig,nY,bD⟩
   case measure=>simp [intOf];omega
  ·obtain rfl:k=64:=by omega
   go_wp2_with fail;go_ret;exact⟨gT,rfl,C9,hT,hB⟩
end
section
open Go.RowKit
def CB (w:World) (v:Value) (p:Option Addr) (s:Nat->Nat):Prop:= ∀V,Below w.heap.size w V->Calls Tryz.prog 185 #[v] V λe V'=> ∃g,e= .returned (.pointer (some ⟨g,0,none⟩))/\Ti V' g p s/\Below V.heap.size V V'
theorem CB.to {w w':World} {v:Value} {p:Option Addr} {s:Nat->Nat} (h:CB w v p s) (hb:Below w.heap.size w w'):CB w' v p s:=λV hV=>h V (hb.trans (hV.mono hb.size))
theorem aew (g:Nat) (p:Option Addr) (s:Nat->Nat) (w:World) (h:Ti w g p s):CB w (.pointer (some ⟨g,0,none⟩)) p s:=by
 intro V hV;have hT:=h.to hV;clear h hV;go_enter Tryz.func185,Tryz.ntmps185;go_wp2_with fail;go_ret;exact⟨g,rfl,hT,Below.refl _ _⟩
theorem aaY (v:Value) (p:Option Addr) (s:Nat->Nat) (w:World) (hv:CB w v p s):
  Calls Tryz.prog 153 #[v] w λe w'=>e= .returned (.agg (ae 16 (s)).toArray)/\Below w.heap.size w w':=by
 have hz:=jf;obtain⟨w1,af,-,au,iD⟩:=nA w 16 (λ_=>0) 22;have hcall:=Hi (hv w1 au);clear hv;go_enter Tryz.func153,Tryz.ntmps153;go_upto_region 1 with fail;rw [<-af];clear af;go_wp2_with fail;refine hcall.out.mono ?_;rintro e w2 ⟨g,rfl,hT,hq⟩;have aA:=iD.t hq;have aF:=Tq au hq;clear iD au hq hcall;go_wp2_with (first
  |(refine wpList_load_mid rfl _ _ rfl g (1) rfl (ae 16 (s)) _ (aaV hT) Tryz.aM rfl (ay _) ?_)
  |(refine bC rfl _ _ _ rfl _ _ _ (s) rfl rfl aA (ay _) ?_;intro w8 bg aY _ _))
 refine dU rfl rfl bg Tryz.aM (ay _) rfl ⟨rfl,?_⟩;exact aF.trans aY
theorem agA (v:Value) (p:Option Addr) (s:Nat->Nat) (w:World) (hv:CB w v p s):
  Calls Tryz.prog 154 #[v] w λe w'=>e= .returned (.agg (ae 16 (dk s 1)).toArray)/\Below w.heap.size w w':=by
 have hz:=jf;obtain⟨w1,af,-,au,iD⟩:=nA w 16 (λ_=>0) 22;have hcall:=Hi (hv w1 au);clear hv;go_enter Tryz.func154,Tryz.ntmps154;go_upto_region 1 with fail;rw [<-af];clear af;go_wp2_with fail;refine hcall.out.mono ?_;rintro e w2 ⟨g,rfl,hT,hq⟩;have aA:=iD.t hq;have aF:=Tq au hq;clear iD au hq hcall;go_wp2_with (first
  |(refine wpList_load_mid rfl _ _ rfl g (17) rfl (ae 16 (dk s 1)) _ (aaW hT) Tryz.aM rfl (ay _) ?_)
  |(refine bC rfl _ _ _ rfl _ _ _ (dk s 1) rfl rfl aA (ay _) ?_;intro w8 bg aY _ _))
 refine dU rfl rfl bg Tryz.aM (ay _) rfl ⟨rfl,?_⟩;exact aF.trans aY
theorem XH (g:Nat) (p:Option Addr) (s:Nat->Nat) (w:World) (h:Ti w g p s):
  Calls Tryz.prog 151 #[.pointer (some ⟨g,0,none⟩)] w λe w'=>e= .returned (.pointer p)/\Below w.heap.size w w':=by
 have c0:=agw h;clear h;go_enter Tryz.func151,Tryz.ntmps151;go_wp2_with fail;go_ret;exact⟨rfl,Below.refl _ _⟩
def tu (s:Nat->Nat) (i:Int):Nat->Nat:=if 0<=i/\i<64 then dk s (i.toNat+2)else λ_=>0
theorem agB (v:Value) (s:Nat->Nat) (i:Int) (w:World) (hi:i<0\/64<=i):
  Calls Tryz.prog 212 #[v,.int .i64 i] w λe w'=>e= .returned (.agg (ae 16 (λ_=>0)).toArray)/\Below w.heap.size w w':=by
 have hz:=jf;have z0:=Hi Nt;obtain⟨w1,af,-,au,iD⟩:=nA w 16 (λ_=>0) 22;go_enter Tryz.func212,Tryz.ntmps212;go_upto_region 1 with fail;rw [<-af];clear af;rcases hi with h0|h1
 ·go_wp2_with (first
   |(refine oH rfl _ _ rfl [] rfl _ (z0.out _) ?_)
   |(refine bC rfl _ _ _ rfl _ _ _ (λ_=>0) rfl rfl iD (ay _) ?_;intro w8 bg aY _ _))
  refine dU rfl rfl bg Tryz.aM (ay _) rfl ⟨rfl,?_⟩;exact au.trans aY
 ·have h0: ¬i<0:=by omega
  go_wp2_with (first
   |(refine oH rfl _ _ rfl [] rfl _ (z0.out _) ?_)
   |(refine bC rfl _ _ _ rfl _ _ _ (λ_=>0) rfl rfl iD (ay _) ?_;intro w8 bg aY _ _))
  refine dU rfl rfl bg Tryz.aM (ay _) rfl ⟨rfl,?_⟩;exact au.trans aY
theorem agC (v:Value) (p:Option Addr) (s:Nat->Nat) (k:Nat) (w:World) (hk:k<64) (hv:CB w v p s):
  Calls Tryz.prog 212 #[v,.int .i64 k] w λe w'=>e= .returned (.agg (ae 16 (dk s (k+2))).toArray)/\Below w.heap.size w w':=by
 have hz:=jf;obtain⟨w1,af,-,au,iD⟩:=nA w 16 (λ_=>0) 22;have hcall:=Hi (hv w1 au);clear hv;have i0: ¬(k:Int)<0:=by omega
 have i1:(k:Int)<64:=by omega
 go_enter Tryz.func212,Tryz.ntmps212;go_upto_region 1 with fail;rw [<-af];clear af;go_wp2_with fail;refine hcall.out.mono ?_;rintro e w2 ⟨g,rfl,hT,hq⟩;have aA:=iD.t hq;have aF:=Tq au hq;have hrg:=hT.block k hk;clear iD au hq hcall hT;go_wp2_with (first
  |(refine wpList_load_mid rfl _ _ rfl g (33+k*16) rfl (ae 16 (dk s (k+2))) _ hrg Tryz.aM rfl (ay _) ?_)
  |(refine bC rfl _ _ _ rfl _ _ _ (dk s (k+2)) rfl rfl aA (ay _) ?_;intro w8 bg aY _ _))
 refine dU rfl rfl bg Tryz.aM (ay _) rfl ⟨rfl,?_⟩;exact aF.trans aY
theorem tat (v:Value) (p:Option Addr) (s:Nat->Nat) (i:Int) (w:World) (hv:CB w v p s):
  Calls Tryz.prog 212 #[v,.int .i64 i] w λe w'=>e= .returned (.agg (ae 16 (tu s i)).toArray)/\Below w.heap.size w w':=by
 unfold tu;by_cases h:0<=i/\i<64
 ·rw [if_pos h];obtain⟨k,rfl⟩:=Int.eq_ofNat_of_zero_le h.1;exact agC v p s k w (by omega) hv
 ·rw [if_neg h];exact agB v s i w (by omega)
theorem aeE (v:Value) (p:Option Addr) (s:Nat->Nat) (n:Nat) (w:World) (hn:n<18446744073709551616) (hv:CB w v p s):
  Calls Tryz.prog 184 #[v,.int .u64 n] w λe w'=>e= .returned (.agg (ae 16 (tu s (jF n:Nat))).toArray)/\Below w.heap.size w w':=by
 have XV:=Hi (λV=>zeros n V hn);obtain⟨i,hi⟩:=Le (jF n);rw [hi]at XV;rw [hi];have hz:=jf;obtain⟨w1,af,-,au,iD⟩:=nA w 16 (λ_=>0) 22;have hcall:=Hi (tat v p s (i:Nat) w1 (hv.to au));clear hv;go_enter Tryz.func184,Tryz.ntmps184;go_upto_region 1 with fail;rw [<-af];clear af;go_wp2_with fail;refine(XV.out _).mono ?_;rintro e w2 ⟨rfl,rfl⟩;clear XV;go_wp2_with fail;refine hcall.out.mono ?_;rintro e w3 ⟨rfl,hq⟩;have aA:=iD.t hq;have aF:=Tq au hq;clear iD au hq hcall;go_wp2_with (refine bC rfl _ _ _ rfl _ _ _ (tu s (i:Nat)) rfl rfl aA (ay _) ?_;intro w8 bg aY _ _);refine dU rfl rfl bg Tryz.aM (ay _) rfl ⟨rfl,?_⟩;exact aF.trans aY
end
section
open Go.RowKit
theorem Rl (f:Nat->Nat) (w:World) (hf:aj f) (h0:aj zF):
  Calls Tryz.prog 156 #[.agg (ae 432 (aX (ek f) sb)).toArray] w λe w'=>e= .returned (.agg (ae 16 (aJ f zF)).toArray)/\Below w.heap.size w w':=by
 have hz:=jf;have z0:=Hi Nt;obtain⟨dK,hfs,hrow⟩:=Tryz.qa;obtain⟨HS,HW⟩:=aB hfs hrow;clear hfs hrow;obtain⟨kA,aR⟩:=Le ((ae 432 (aX (ek f) sb)).toArray);obtain⟨w1,af,ak,au,aN⟩:=nA w 432 (aX (ek f) sb) 35;obtain⟨w2,ag,-,aF,aA⟩:=fw ak au 16 (λ_=>0) 22;have aI:=bn ag aN;have Jf:=Hi aR;rw [aR]at af;rw [aR];have hcall:=Hi (Ip f zF w2 hf h0);clear au aN aR hf h0;go_enter Tryz.func156,Tryz.ntmps156;go_upto_region 1 with fail;rw [<-af,<-ag];clear af ag ak;obtain⟨gR,hgR⟩:=Le (w.heap.size+1);have jD:w.heap.size<gR:=by omega
 rw [hgR]at aA;try rw [hgR]
 clear hgR;go_wp2_with (first
  |(refine wpList_load_mid rfl _ _ rfl w.heap.size 0 rfl (ae 432 (aX (ek f) sb)) _ aI.range HS.out HW.out (nE _) ?_)
  |(refine oH rfl _ _ rfl [] rfl _ (z0.out _) ?_))
 refine hcall.out.mono ?_;rintro e w3 ⟨rfl,hq⟩;have aL:=aA.t hq;have aS:=Tq aF hq;clear aA aI aF hq hcall;go_wp2_with (refine bC rfl _ _ _ rfl _ _ _ (aJ f zF) rfl rfl aL (ay _) ?_;intro w8 bg aY _ _);refine dU rfl rfl bg Tryz.aM (ay _) rfl ⟨rfl,?_⟩;exact aS.trans (aY.mono (by omega))
theorem agD (s:Nat->Nat) (k:Nat) (i:Int) (w:World) (hs:aj s) (yZ:1<=k) (hk:k<=66) (hi:i=(k:Int)-2):
  Calls Tryz.prog 193 #[.agg (ae 16 s).toArray,.int .i64 i] w λe w'=>e= .returned (.agg (ae 16 (dk s k)).toArray)/\Below w.heap.size w w':=by
 have hz:=jf;obtain⟨kA,aR⟩:=Le ((ae 16 s).toArray);obtain⟨w1,af,ak,au,aN⟩:=nA w 16 s 22;obtain⟨w2,ag,-,aF,aA⟩:=fw ak au 16 (λ_=>0) 22;have aI:=bn ag aN;have Jf:=Hi aR;rw [aR]at af;rw [aR];have hsl:=Hi (xG hs);clear au aN aR hs;go_enter Tryz.func193,Tryz.ntmps193;go_upto_region 1 with fail;rw [<-af,<-ag];clear af ag ak;obtain⟨gR,hgR⟩:=Le (w.heap.size+1);have jD:w.heap.size<gR:=by omega
 rw [hgR]at aA;try rw [hgR]
 clear hgR;go_wp2_with (refine bB rfl _ _ rfl _ _ _ rfl aI Tryz.aM (ay _) ?_);refine(Vm s _ (hsl.out 0)).mono ?_;rintro e w3 ⟨rfl,hq⟩;rw [show gI s=dk s 1 from rfl];have aL:=aA.t hq;have aS:=Tq aF hq;clear aA aI aF hq;obtain⟨gT,eH⟩:=Le (w3.heap.size);have Gt:gR<gT:=by rw [<-eH];exact aL.lt (by omega)
 obtain⟨w4,cZ⟩:=Lv (w3.alloc (.cells (ae 16 λ_=>0).toArray 22));have jv:=tF cZ eH;have dO:=bn cZ aL;have fD:=Bm cZ aS;clear aL aS;go_upto_region 2 with (refine bC rfl _ _ _ rfl _ _ _ (dk s 1) rfl rfl (by rw [<-cZ];exact jv) (ay _) ?_;intro w5 kR dE qM oI);rw [<-cZ]at dE qM oI;have eY:=oI _ _ _ (by omega) dO;have dY:=fD.trans (dE.mono (by omega));clear jv dO fD dE qM oI cZ eH;try dsimp only [Act.put]
 go_wp2_with fail;go_loopw [6] (λn wr=> ∃r:Nat,r+1<=k/\n= .int .i64 r/\Ar wr gT 16 (dk s (r+1))/\Ar wr gR 16 (λ_=>0)/\Below w.heap.size w wr) (λn _=>k-(intOf n).toNat);case atStart=>exact⟨0,by omega,rfl,kR,eY,dY⟩
 case round=>
  clear kR eY dY;obtain⟨r,hr,rfl,hT,hR,hB⟩:=hrel;by_cases hlt:r+1<k
  ·have i1:(r:Int)<=i:=(by omega);go_wp2_with (refine bB rfl _ _ rfl _ _ _ rfl hT Tryz.aM (ay _) ?_);refine(Vm (dk s (r+1)) _ (hsl.out (r+1))).mono ?_;rintro e wa ⟨rfl,hq⟩;rw [show gI (dk s (r+1))=dk s (r+2)from rfl];have Gs:=hT.t hq;have xR:=hR.t hq;have hBa:=Tq hB hq;clear hT hR hB hq;go_upto_region 4 with (first|(refine bC rfl _ _ _ rfl _ _ _ (dk s (r+2)) rfl rfl Gs (ay _) ?_;intro wb Ya dE qM oI)|fail);have hRb:=oI _ _ _ (by omega) xR;have hBb:=hBa.trans (dE.mono (by omega));clear Gs xR hBa dE qM oI;try dsimp only [Act.put]
   go_wp2_with fail;go_roundw;case rel=>exact⟨r+1,by omega,by go_num,Ya,hRb,hBb⟩
   case measure=>simp [intOf];omega
  ·obtain rfl:k=r+1:=by omega
   have i1: ¬(r:Int)<=i:=(by omega);go_wp2_with (first
    |(refine bB rfl _ _ rfl _ _ _ rfl hT Tryz.aM (ay _) ?_)
    |(refine bC rfl _ _ _ rfl _ _ _ (dk s (r+1)) rfl rfl hR (ay _) ?_;intro w8 bg aY _ _))
   refine dU rfl rfl bg Tryz.aM (ay _) rfl ⟨rfl,?_⟩;exact hB.trans (aY.mono (by omega))
theorem aaK (s:Nat->Nat) (n:Nat) (w:World) (hs:aj s) (hn:n<18446744073709551616):
  Calls Tryz.prog 160 #[.agg (ae 16 s).toArray,.int .u64 n] w λe w'=>e= .returned (.agg (ae 16 (dk s (jF n+2))).toArray)/\Below w.heap.size w w':=by
 have hz:=jf;obtain⟨z,hzz⟩: ∃z,jF n=z:=⟨_,rfl⟩;have XV: ∀V,Calls Tryz.prog 194 #[.int .u64 n] V λe V'=>e= .returned (.int .i64 (z:Nat))/\V'=V:=λV=>by rw [<-hzz];exact agE n V hn
 have Yb:z<=64:=by rw [<-hzz];exact agl n
 rw [hzz];obtain⟨kA,aR⟩:=Le ((ae 16 s).toArray);obtain⟨w1,af,ak,au,aN⟩:=nA w 16 s 22;obtain⟨w2,ag,-,aF,aA⟩:=fw ak au 16 (λ_=>0) 22;have aI:=bn ag aN;have Jf:=Hi aR;rw [aR]at af;rw [aR];have hsl:=Hi hs;clear au aN aR hs hzz;go_enter Tryz.func160,Tryz.ntmps160;go_upto_region 1 with fail;rw [<-af,<-ag];clear af ag ak;obtain⟨gR,hgR⟩:=Le (w.heap.size+1);have jD:w.heap.size<gR:=by omega
 rw [hgR]at aA;try rw [hgR]
 clear hgR;have iJ:=aA;clear aA;refine wp_region_noPanic ?_;have qN:=iJ.drew;refine wp_region_held_drew (S:=λW=>Ar W w.heap.size 16 (s)/\Below w.heap.size w W) (by kernel_rfl) ⟨aI.drew,aF.drew⟩ (λaa=> ?_);clear aI aF iJ;generalize World.drew w2=ad at*;refine tm 0 (λW hSw=>hSw.1.range) Tryz.aM rfl (ay _) ?_;refine ty 1 rfl ?_;refine rd 2 rfl (λK hK=> ?_);go_simp;refine(XV _).mono ?_;rintro e a2 ⟨rfl,rfl⟩;go_wp2_with fail;have AY:=qN;refine hK.out _ _ aa ?_;clear hK K aa qN;intro aa;try simp only [nr]
 refine rq 3 rfl (agD s (z+2) z _ hsl.out (by omega) (by omega) (by omega)) aa ?_;clear aa;intro a3 hq aa;have vg:=AY.t hq;clear hq AY;try simp only [nr]
 refine rd 4 rfl (λK hK=> ?_);rw [if_pos (by rfl)];refine wp_store_mid _ _ _ rfl gR 0 (ae 16 (dk s (z+2))).toArray rfl rfl vg.there (ay _) (all_oneCell_toArray (dz 16 (dk s (z+2)))) ?_;have rV:=vg.whole (dk s (z+2));dsimp only [List.toList_toArray];refine so hK (w:=a3) (b:=gR) (o:=0) (vs:=(ae 16 (dk s (z+2)))) aa ?_;clear hK K aa vg;intro aa;generalize World.setCells a3 gR 0 (ae 16 (dk s (z+2)))=a4 at*;try simp only [Act.put]
 refine wpAnyH_done (by kernel_rfl) ?_ _;have bI:=rV;have bD:=aa.2;clear aa rV;refine NoPanic.normal ?_;go_wp2_with fail;refine dU rfl rfl bI Tryz.aM (ay _) rfl ⟨rfl,bD⟩
end
section
open Go.RowKit
theorem agF (s:Nat->Nat) (w:World) (hs:aj s):
  Calls Tryz.prog 163 #[.agg (ae 16 s).toArray] w λe w'=>e= .returned (.agg (ae 16 (dk s 1)).toArray)/\Below w.heap.size w w':=Vm s w hs
end
end
section
section
open Go.RowKit
def Uw (f:Nat->Nat):Nat->Nat
 |0=>0
 |i+1=>Uw f i^^^f (jF (i+1))
def bS (o s:Nat->Nat) (i j:Nat):Nat:=o j^^^Uw (λk=>dk s (k+2) j) i
theorem Im (o s:Nat->Nat):bS o s 0=o:=funext λj=>by simp [bS,Uw]
theorem Kq (o s:Nat->Nat) (i:Nat):ah (bS o s i) (dk s (jF (i+1)+2))=bS o s (i+1):=funext λj=>by
 show(o j^^^_)^^^_=o j^^^(_^^^_);rw [Nat.xor_assoc]
theorem mP {o s:Nat->Nat} (ho:aj o) (hs:aj s): ∀i,aj (bS o s i)
 |0=>by rw [Im];exact ho
 |i+1=>by rw [<-Kq];exact dL (mP ho hs i) (xG hs _)
def oZ (n:Nat->Nat):Prop:= ∀j,j<12->n j<256
def Cw (n:Nat->Nat) (j:Nat):Nat:=if j=11 then n 11/64*64 else n j
def eZ (n:Nat->Nat) (j:Nat):Nat:=if 4<=j/\j<16 then Cw n (j-4)else if j=3 then 1 else 0
theorem aen {n:Nat->Nat} (h:oZ n):oZ (Cw n):=λj hj=>by
 unfold Cw;split
 ·have:=h 11 (by omega);omega
 ·exact h j hj
theorem xH {n:Nat->Nat} (h:oZ n):aj (eZ n):=λj hj=>by
 unfold eZ;split
 ·exact aen h _ (by omega)
 ·split<;>omega
def iA (b:Nat->Nat) (j:Nat):Nat:=if j<16 then b j else b (j-16)^^^b (j-15)
theorem Rb {b:Nat->Nat} (h:aj b) (j:Nat) (hj:j<24):iA b j<256:=by
 unfold iA;split
 ·exact h j (by omega)
 ·exact Nat.xor_lt_two_pow (n:=8) (h _ (by omega)) (h _ (by omega))
def mg (t:Nat->Nat) (b:Nat):Nat->Nat:=iY (cut 24 (iA t)) (b%64)
theorem aeo {f:Nat->Nat} (hf: ∀j,f j<256) (m j:Nat):iY f m j<256:=by
 rw [<-Rc f hf m j];unfold wD;dsimp only;have b0:=Re f;have h0:=b0 (8*j+m);have h1:=b0 (8*j+1+m);have h2:=b0 (8*j+2+m);have h3:=b0 (8*j+3+m);have h4:=b0 (8*j+4+m);have h5:=b0 (8*j+5+m);have h6:=b0 (8*j+6+m);have h7:=b0 (8*j+7+m);omega
theorem Eh {t:Nat->Nat} (h:aj t) (b:Nat):aj (mg t b):=λj _=>aeo (Cy (Rb h)) _ _
end
section
open Go.RowKit
end
section
open Go.RowKit
theorem Tryz.yI:Tryz.prog.underlying 168=some (.array 12 5):=by kernel_rfl
theorem Tryz.Ux:(Tryz.prog.info? 168).map (λi=>(i.zero,i.size))=some (some (.agg (Array.replicate 12 (.int .u8 0))),12):=by kernel_rfl
theorem yJ (f:Nat->Nat):(Tryz.prog.info? 168).map (·.size)=some (ae 12 f).length:=by rw [bz];exact(zero_of_info Tryz.Ux).2
theorem Ux (w:World):(zeroValue 168).run Tryz.prog w= .ok (.agg (ae 12 λ_=>0).toArray) w:=by
 rw [xI];exact(zero_of_info Tryz.Ux).1 w
theorem Tryz.Nl:(Tryz.prog.info? 253).map (λi=>(i.zero,i.size))=some (some (.agg (Array.replicate 24 (.int .u8 0))),24):=by kernel_rfl
theorem Kr (f:Nat->Nat):(Tryz.prog.info? 253).map (·.size)=some (ae 24 f).length:=by rw [bz];exact(zero_of_info Tryz.Nl).2
theorem Nl (w:World):(zeroValue 253).run Tryz.prog w= .ok (.agg (ae 24 λ_=>0).toArray) w:=by
 rw [xI];exact(zero_of_info Tryz.Nl).1 w
theorem XE (g:Nat) (t:TypeId): ∀(vs:List Value) (o:Nat) (w:World) (A:Array Value),w.heap[g]?=some (.cells A t (0,0))-> ∃A':Array Value,(w.setCells g o vs).heap[g]?=some (.cells A' t (0,0))/\A'.size=A.size
 | [],_,_,A,h=>⟨A,h,rfl⟩
 |v::r,o,w,A,h=>by
  have h1:(w.setCell ⟨g,o,none⟩ v).heap[g]?=some (.cells (A.setIfInBounds o v) t (0,0)):=by
   simp [World.setCell,Array.getElem?_modify,h]
  obtain⟨A',h2,h3⟩:=XE g t r (o+1) _ _ h1;exact⟨A',h2,by rw [h3];simp⟩
theorem Wb.whole {w:World} {g n:Nat} {F:Nat->Nat} {t:TypeId} (h:Wb w g n F t) (F':Nat->Nat):Wb (w.setCells g 0 (ae n F')) g n F' t:=by
 obtain⟨A',h2,h3⟩:=XE g t (ae n F') 0 w _ h;have ha:=h.ar.whole F';unfold Wb;rw [h2];refine congrArg some (congrArg (λc=>Obj.cells c t (0,0)) ?_);apply Array.ext_getElem?;intro j;rcases Nat.lt_or_ge j n with hj|hj
 ·have:=(ha j hj).1;simp only [World.cell?,h2]at this;have e:(ae n F').toArray[j]?=(ae n F')[j]?:=by simp
  rw [e,oG n F' j hj]
  simpa [n8]using this
 ·rw [Array.getElem?_eq_none (by rw [h3];simp [bz];exact hj),Array.getElem?_eq_none (by simp [bz];exact hj)]
theorem XF {P:Program} {ops:Array Oper} {rest:List Oper} {op:Oper} {a:Act} {w:World} {Q:Exit->Act->World->Prop} (hgd:op.guard=none) (ty:TypeId) (x y:Operand) (ho:op.op= .store ty x y)
  (g n:Nat) (f f':Nat->Nat) (t:TypeId) (hx:a.eval x= .pointer (some ⟨g,0,none⟩)) (hy:a.eval y= .agg (ae n f').toArray)
  (hW:Wb w g n f t) (hi:(P.info? ty).map (·.size)=some (ae n f').length)
  (h: ∀w',Wb w' g n f' t->Below g w w'->w'.heap.size=w.heap.size->(∀g' n' wE,g'≠g->Ar w g' n' wE->Ar w' g' n' wE)->wpList P ops Q rest (a.put op.dst undef) w'):
  wpList P ops Q (op::rest) a w:=by
 refine wpList_store_mid hgd ty x y ho g 0 _ hx hy ?_ ?_ (all_oneCell_toArray (dz n f')) ?_
 ·rw [List.size_toArray,bz];exact hW.ar.there
 ·rw [List.size_toArray];exact hi
 ·exact h _ (hW.whole f') (Below.setCells (Below.refl _ _) (Nat.le_refl _) _ _) (World.setCells_size _ _ _ _) (λg' n' wE hg' h'=>h'.apart hg' _ _)
theorem XG (b:Nat->Nat) (k:Nat):iA b (16+k)=b k^^^b (k+1):=by
 unfold iA;rw [if_neg (by omega),show 16+k-16=k by omega,show 16+k-15=k+1 by omega]
theorem aep: ∀x:Nat,x<256->bits .and .u8 (x:Int) 63=((x%64:Nat):Int):=by decide+kernel
theorem aeq: ∀x:Nat,x<256->bits .andNot .u8 (x:Int) 63=((x/64*64:Nat):Int):=by decide+kernel
theorem Uy (x:Nat) (h:x<256):((x:Int).tmod 64=((x%64:Nat):Int)/\(x:Int)%64=((x%64:Nat):Int))/\(x:Int)-((x%64:Nat):Int)=((x/64*64:Nat):Int):=by
 refine⟨⟨?_,by omega⟩,by omega⟩;rw [Int.tmod_eq_emod_of_nonneg (by omega)];omega
theorem aer (n:Nat->Nat) (w:World) (hn:oZ n):
  Calls Tryz.prog 181 #[.agg (ae 12 n).toArray] w λe w'=>e= .returned (.int .i64 (n 11%64:Nat))/\Below w.heap.size w w':=by
 obtain⟨kK,bO⟩:=Le ((ae 12 (n)).toArray);obtain⟨w1,af,ak,aW,jU⟩:=nA w 12 (n) 168;have HKK:=Hi bO;rw [bO]at af;rw [bO];clear bO;have c11:=(jU 11 (by omega)).1;have hx:=hn 11 (by omega);have h1:=aep _ hx;have h2:n 11%64<64:=Nat.mod_lt _ (by decide);generalize n 11%64=q at*;generalize n 11=x at*;clear hn jU;go_enter Tryz.func181,Tryz.ntmps181;go_upto_region 1 with fail;rw [<-af];clear af;try simp only [Nat.add_assoc,Nat.reduceAdd]
 clear ak;go_wp2_with fail;go_ret;exact⟨rfl,aW⟩
theorem aes (n:Nat->Nat) (w:World) (hn:oZ n):
  Calls Tryz.prog 192 #[.agg (ae 12 n).toArray] w λe w'=>e= .returned (.int .i64 (n 11%64:Nat))/\Below w.heap.size w w':=by
 obtain⟨kK,bO⟩:=Le ((ae 12 (n)).toArray);obtain⟨w1,af,ak,aW,jU⟩:=nA w 12 (n) 168;have HKK:=Hi bO;rw [bO]at af;rw [bO];clear bO;have c11:=(jU 11 (by omega)).1;have hx:=hn 11 (by omega);have h1:=(Uy _ hx).1.1;have h3:=(Uy _ hx).1.2;have h2:n 11%64<64:=Nat.mod_lt _ (by decide);generalize n 11%64=q at*;generalize n 11=x at*;clear hn jU;go_enter Tryz.func192,Tryz.ntmps192;go_upto_region 1 with fail;rw [<-af];clear af;try simp only [Nat.add_assoc,Nat.reduceAdd]
 clear ak;go_wp2_with fail;go_ret;exact⟨rfl,aW⟩
theorem aet (b:Nat->Nat) (w:World) (hb:aj b):
  Calls Tryz.prog 179 #[.agg (ae 16 b).toArray] w λe w'=>e= .returned (.agg (ae 24 (iA b)).toArray)/\Below w.heap.size w w':=by
 obtain⟨kK,bO⟩:=Le ((ae 16 (b)).toArray);obtain⟨w1,af,ak,aW,jU⟩:=nA w 16 (b) 22;obtain⟨w2,ag,aD,bU,iJ⟩:=fw ak aW 24 (λ_=>0) 253;have iB:=jU.alloc (by omega) (.cells (ae 24 (λ_=>0)).toArray 253);rw [<-ag]at iB;clear jU aW;obtain⟨w3,az,fe,fJ,XV⟩:=o7 aD bU 24 (λ_=>0) 253;have jV:=iB.alloc (by omega) (.cells (ae 24 (λ_=>0)).toArray 253);rw [<-az]at jV;have fB:=iJ.alloc (by omega) (.cells (ae 24 (λ_=>0)).toArray 253);rw [<-az]at fB;clear iB iJ bU;have HKK:=Hi bO;rw [bO]at af;rw [bO];clear bO;have XX:Wb w3 (w.heap.size+2) 24 (λ_=>0) 253:=by rw [az,<-aD];exact Wb.new w2 24 _ _
 have hz:=Nl;have HB:=Hi hb;clear hb;have jo:=Hi (show splice (ae 24 λ_=>0) 0 (ae 16 b)=ae 24 (λj=>if j<16 then b j else 0)by
  rw [FO 24 16 _ _ 0 (by omega)];exact mh (λj hj=>by simp))
 go_enter Tryz.func179,Tryz.ntmps179;go_upto_region 2 with fail;rw [<-af,<-ag,<-az];clear af ag az;try simp only [Nat.add_assoc,Nat.reduceAdd]
 obtain⟨gR,hgR⟩:=Le (w.heap.size+1);rw [hgR]at fB;obtain⟨gW,hgW⟩:=Le (w.heap.size+2);rw [hgW]at XV;rw [hgW]at XX;try rw [hgW]
 try rw [hgR]
 have jD:w.heap.size<gR:=by omega
 have Rf:gR<gW:=by omega
 clear ak aD fe hgR hgW;obtain⟨hsrc,HW,mi,nD⟩:=fU jV.drew.src (show w3.drew.heap[gW]?=some (.cells (ae 24 λ_=>0).toArray 253 (0,0))from XX) (show(ae 16 b).length=Nat.min 16 24 by rw [bz];rfl) (show 0+(ae 16 b).length<=(ae 24 λ_=>0).length by rw [bz,bz];omega);have hlen:(((ae 16 b).length:Nat):Int)=16:=by rw [bz];rfl
 go_region_law (refine step_copy_splice rfl (.tmp 6) (.tmp 7) 45 45 rfl 5 Tryz.Cz Tryz.FP _ _ _ _ _ _ rfl rfl gW 0 (ae 24 λ_=>0) 253 HW.out (ae 16 b) mi.out (λ_=>⟨rfl,⟨w.heap.size,0,none⟩,rfl,hsrc.out⟩) nD.out (dz 16 _) gW w3.drew (Below.refl _ _) (Nat.le_refl _) ?_;intro w4 AR il)
 have jv:Ar w4 gW 24 (λj=>if j<16+0 then iA b j else 0):=by
  have h:=AR.out;rw [jo.out]at h;exact(Wb.ar (show Wb w4 gW 24 _ _ from h)).ext (λj hj=>by unfold iA;by_cases h:j<16<;>simp [h])
 have je:=jV.drew.keep (by omega) il;have dO:=fB.drew.keep Rf il;have fD:=fJ.drew.trans (il.mono (by omega));clear jV fB fJ XV XX il AR HW hsrc mi nD jo hlen;try dsimp only [Act.put]
 go_wp2_with fail;go_loopw [11] (λi wr=> ∃k:Nat,k<=8/\i= .int .i64 k/\Ar wr gW 24 (λj=>if j<16+k then iA b j else 0)/\Ar wr w.heap.size 16 b/\Ar wr gR 24 (λ_=>0)/\Below w.heap.size w wr) (λi _=>8-(intOf i).toNat);case atStart=>exact⟨0,Nat.zero_le _,rfl,jv,je,dO,fD⟩
 case round=>
  clear jv je dO fD;obtain⟨k,hk,rfl,hT,hK,hR,hB⟩:=hrel;by_cases hlt:k<8
  ·have i1:(k:Int)<8:=(by omega);obtain⟨a,ha⟩:=Le (16+k);have a1:(16:Int)+(k:Int)=(a:Int):=(by omega);have a2:(a:Int)<24:=(by omega);have a3:(k:Int)+1<16:=(by omega);obtain⟨c0,_⟩:=hK k (by omega);obtain⟨c1,_⟩:=hK (k+1) (by omega);obtain⟨c2,f2⟩:=hT a (by omega);have sZ:bits BinOp.xor IntKind.u8 ((b k:Nat):Int) ((b (k+1):Nat):Int)=((iA b a:Nat):Int):=(by rw [<-ha,XG];exact mo _ _ (HB.out k (by omega)) (HB.out (k+1) (by omega)));obtain⟨bG,aI,aA,aF⟩:=fU ((hT.set (j:=a) (v:=iA b a) (by omega) rfl).ext (f':=λj=>if j<a+1 then iA b j else 0) (λj _=>by rw [ha];exact Io (iA b) a j)) (hK.far (p:=⟨gW,a,none⟩) (by simp;omega) (.int .u8 (iA b a:Nat))) (hR.far (p:=⟨gW,a,none⟩) (by simp;omega) (.int .u8 (iA b a:Nat))) (hB.setCell (p:=⟨gW,a,none⟩) (by simp;omega) (.int .u8 (iA b a:Nat)));clear hT hK hR hB;generalize iA b a=z at*;generalize b (k+1)=y at*;generalize b k=x at*;go_wp2_with fail;refine wp_region_noPanic ?_
   go_big_region
   refine NoPanic.normal ?_;clear a1 a2 a3 c0 c1 c2 f2 sZ;go_wp2_with fail;go_roundw;case rel=>exact⟨k+1,by omega,by go_num,by rw [show 16+(k+1)=a+1 by omega];exact bG.out.drew,aI.out.drew,aA.out.drew,aF.out.drew⟩
   case measure=>simp [intOf];omega
  ·obtain rfl:k=8:=by omega
   have bG:=hT.ext (f':=iA b) (λj hj=>by rw [if_pos (by omega)]);clear hT;go_wp2_with (first
    |(refine bB rfl _ _ rfl _ _ _ rfl bG Tryz.Rh (Kr _) ?_)
    |(refine bC rfl _ _ _ rfl _ _ _ (iA b) rfl rfl hR (Kr _) ?_;intro w8 bg aY _ _))
   refine dU rfl rfl bg Tryz.Rh (Kr _) rfl ⟨rfl,?_⟩;exact hB.trans (aY.mono (by omega))
theorem aeu (b:Nat->Nat) (w:World) (hb:aj b):
  Calls Tryz.prog 190 #[.agg (ae 16 b).toArray] w λe w'=>e= .returned (.agg (ae 24 (iA b)).toArray)/\Below w.heap.size w w':=by
 obtain⟨kK,bO⟩:=Le ((ae 16 (b)).toArray);obtain⟨w1,af,ak,aW,jU⟩:=nA w 16 (b) 22;obtain⟨w2,ag,aD,bU,iJ⟩:=fw ak aW 24 (λ_=>0) 253;have iB:=jU.alloc (by omega) (.cells (ae 24 (λ_=>0)).toArray 253);rw [<-ag]at iB;clear jU aW;obtain⟨w3,az,fe,fJ,XV⟩:=o7 aD bU 24 (λ_=>0) 253;have jV:=iB.alloc (by omega) (.cells (ae 24 (λ_=>0)).toArray 253);rw [<-az]at jV;have fB:=iJ.alloc (by omega) (.cells (ae 24 (λ_=>0)).toArray 253);rw [<-az]at fB;clear iB iJ bU;have HKK:=Hi bO;rw [bO]at af;rw [bO];clear bO;have hz:=Nl;have HB:=Hi hb;clear hb;go_enter Tryz.func190,Tryz.ntmps190;go_upto_region 2 with fail;rw [<-af,<-ag,<-az];clear af ag az;try simp only [Nat.add_assoc,Nat.reduceAdd]
 obtain⟨gR,hgR⟩:=Le (w.heap.size+1);rw [hgR]at fB;obtain⟨gW,hgW⟩:=Le (w.heap.size+2);rw [hgW]at XV;try rw [hgW]
 try rw [hgR]
 have jD:w.heap.size<gR:=by omega
 have Rf:gR<gW:=by omega
 clear ak aD fe hgR hgW;have jv:=XV.ext (f':=λj=>if j<0 then iA b j else 0) (λj _=>by simp);go_wp2_with fail;go_loopw [4] (λi wr=> ∃k:Nat,k<=24/\i= .int .i64 k/\Ar wr gW 24 (λj=>if j<k then iA b j else 0)/\Ar wr w.heap.size 16 b/\Ar wr gR 24 (λ_=>0)/\Below w.heap.size w wr) (λi _=>24-(intOf i).toNat);case atStart=>exact⟨0,Nat.zero_le _,rfl,jv,jV,fB,fJ⟩
 case round=>
  clear jv XV jV fB fJ;obtain⟨k,hk,rfl,hT,hK,hR,hB⟩:=hrel;by_cases hlt:k<24
  ·have i1:(k:Int)<24:=(by omega);obtain⟨c2,f2⟩:=hT k (by omega);obtain⟨bG,aI,aA,aF⟩:=fU ((hT.set (j:=k) (v:=iA b k) (by omega) rfl).ext (f':=λj=>if j<k+1 then iA b j else 0) (λj _=>Io (iA b) k j)) (hK.far (p:=⟨gW,k,none⟩) (by simp;omega) (.int .u8 (iA b k:Nat))) (hR.far (p:=⟨gW,k,none⟩) (by simp;omega) (.int .u8 (iA b k:Nat))) (hB.setCell (p:=⟨gW,k,none⟩) (by simp;omega) (.int .u8 (iA b k:Nat)));by_cases uZ:k<16
   ·have i2:(k:Int)<16:=(by omega);obtain⟨c0,_⟩:=hK k uZ;rw [show b k=iA b k by unfold iA;rw [if_pos uZ]]at c0;clear hT hK hR hB;generalize iA b k=z at*;go_wp2_with fail;go_roundw;case rel=>exact⟨k+1,by omega,by go_num,bG.out,aI.out,aA.out,aF.out⟩
    case measure=>simp [intOf];omega
   ·have i2: ¬(k:Int)<16:=(by omega);obtain⟨p,hp⟩: ∃p:Nat,16+p=k:=⟨k-16,by omega⟩;obtain⟨q,hq⟩:=Le (p+1);have a1:(k:Int)-16=(p:Int):=(by omega);have a2:(k:Int)-15=(q:Int):=(by omega);have a3:(p:Int)<16:=(by omega);have a4:(q:Int)<16:=(by omega);obtain⟨c0,_⟩:=hK p (by omega);obtain⟨c1,_⟩:=hK q (by omega);have sZ:bits BinOp.xor IntKind.u8 ((b p:Nat):Int) ((b q:Nat):Int)=((iA b k:Nat):Int):=(by rw [<-hp,XG,hq];exact mo _ _ (HB.out p (by omega)) (HB.out q (by omega)));clear hT hK hR hB hp hq;generalize iA b k=z at*;generalize b q=y at*;generalize b p=x at*;go_wp2_with fail;refine wp_region_noPanic ?_
    go_big_region
    refine NoPanic.normal ?_;clear a1 a2 a3 a4 c0 c1 c2 f2 sZ;go_wp2_with fail;go_roundw;case rel=>exact⟨k+1,by omega,by go_num,bG.out.drew,aI.out.drew,aA.out.drew,aF.out.drew⟩
    case measure=>simp [intOf];omega
  ·obtain rfl:k=24:=by omega
   have bG:=hT.ext (f':=iA b) (λj hj=>by rw [if_pos (by omega)]);clear hT;go_wp2_with (first
   |(refine bB rfl _ _ rfl _ _ _ rfl bG Tryz.Rh (Kr _) ?_)
   |(refine bC rfl _ _ _ rfl _ _ _ (iA b) rfl rfl hR (Kr _) ?_;intro w8 bg aY _ _))
   refine dU rfl rfl bg Tryz.Rh (Kr _) rfl ⟨rfl,?_⟩;exact hB.trans (aY.mono (by omega))
end
section
open Go.RowKit
def tq (w:World) (v:Value) (f:Nat->Nat):Prop:=
 ∃p,CB w v p (aJ f zF)/\Ei w (.pointer p) f/\ ∀V,Below w.heap.size w V->Calls Tryz.prog 151 #[v] V λe V'=>e= .returned (.pointer p)/\Below V.heap.size V V'
theorem tq.to {w w':World} {v:Value} {f:Nat->Nat} (h:tq w v f) (hb:Below w.heap.size w w'):tq w' v f:=by
 obtain⟨p,h1,h2,h3⟩:=h;exact⟨p,h1.to hb,h2.to hb,λV hV=>h3 V (hb.trans (hV.mono hb.size))⟩
theorem aev (g:Nat) (p:Option Addr) (f:Nat->Nat) (w:World) (h:Ti w g p (aJ f zF)) (hc:Ei w (.pointer p) f):tq w (.pointer (some ⟨g,0,none⟩)) f:=
 ⟨p,aew g p _ w h,hc,λV hV=>XH g p _ V (h.to hV)⟩
theorem aex (w:World):(Instr.build 22 #[(3,.int .u8 1)]).run Tryz.prog w= .ok (.agg (ae 16 λi=>if i=3 then 1 else 0).toArray) w:=run_build w _ _ _ (by kernel_rfl)
theorem aey (g:Nat) (w:World):(Instr.sliceAt 22 (.pointer (some ⟨g,0,none⟩)) (some (.int .i64 4)) none none).run Tryz.prog w= .ok (.slice (some ⟨g,4,none⟩) 12 12) w:=by
 have hal:Tryz.prog.arrayLen 22=16:=by simp [Program.arrayLen]
 have hel:Tryz.prog.elem 22=5:=by simp [Program.elem]
 have hs:(sizeOf 5).run Tryz.prog w= .ok 1 w:=by kernel_rfl
 rw [run_sliceAt_array_l w 22 ⟨g,0,none⟩ (by rw [hal,hel];exact Tryz.iT) .i64 4 (by omega) (by rw [hal];omega),hal,hel,hs];simp [Result.andThen_ok,slicedAt,Addr.add]
theorem aez (v:Value) (f n:Nat->Nat) (w:World) (hf:aj f) (hn:oZ n) (ht:tq w v f) (hx:eX w):
  Calls Tryz.prog 180 #[v,.agg (ae 12 n).toArray] w λe w'=>e= .returned (.agg (ae 16 (aJ f (eZ n))).toArray)/\Below w.heap.size w w':=by
 obtain⟨kK,bO⟩:=Le ((ae 12 (n)).toArray);obtain⟨w1,af,ak,aW,jU⟩:=nA w 12 (n) 168;obtain⟨w2,ag,aD,bU,iJ⟩:=fw ak aW 16 (λ_=>0) 22;have iB:=jU.alloc (by omega) (.cells (ae 16 (λ_=>0)).toArray 22);rw [<-ag]at iB;clear jU aW;have HKK:=Hi bO;rw [bO]at af;rw [bO];clear bO;have hz:=jf;obtain⟨HF,HN,HX⟩:=dD hf hn hx;obtain⟨p,hV,hC,uE⟩:=ht;obtain⟨HC,AU,r3⟩:=dD hC uE aex;have hbx:=hn 11 (by omega);clear hf hn hx hV hC uE;have jo:=Hi (show splice (ae 16 λi=>if i=3 then 1 else 0) 4 (ae 12 (Cw n))=ae 16 (eZ n)by
  rw [FO 16 12 _ _ 4 (by omega)];exact mh (λj hj=>rfl))
 go_enter Tryz.func180,Tryz.ntmps180;go_upto_region 1 with fail;rw [<-af,<-ag];clear af ag;try simp only [Nat.add_assoc,Nat.reduceAdd]
 obtain⟨gR,hgR⟩:=Le (w.heap.size+1);rw [hgR]at iJ;try rw [hgR]
 have jD:w.heap.size<gR:=by omega
 clear ak aD hgR;have c11:=(iB 11 (by omega)).1;have f11:=(iB 11 (by omega)).2;have h1:=aeq _ hbx;have je:=(iB.set (j:=11) (v:=n 11/64*64) (by omega) rfl).ext (f':=Cw n) (λj _=>rfl);have dO:=iJ.far (p:=⟨w.heap.size,11,none⟩) (by simp;omega) (.int .u8 (n 11/64*64:Nat));have fD:=bU.setCell (p:=⟨w.heap.size,11,none⟩) (by simp) (.int .u8 (n 11/64*64:Nat));clear iB iJ bU;generalize n 11/64*64=z at*;generalize n 11=x at*;go_upto_region 2 with fail;generalize World.setCell w2 ⟨w.heap.size,11,none⟩ (.int .u8 (z:Nat))=w4 at*;clear c11 f11 h1 hbx;obtain⟨gC,jW⟩:=Le (w4.heap.size);have ve:gR<gC:=by rw [<-jW];exact dO.lt (by omega)
 obtain⟨w5,eO⟩:=Lv (w4.alloc (.cells (ae 16 λ_=>0).toArray 22));have AV:Wb w5 gC 16 (λ_=>0) 22:=by rw [eO,<-jW];exact Wb.new w4 16 _ _
 have fo:=bn eO je;have eY:=bn eO dO;have dY:=Bm eO fD;clear je dO fD;go_upto_region 3 with (first|(refine oH rfl _ _ rfl [(3,.int .u8 1)] rfl _ (r3.out _) ?_)|(refine XF rfl _ _ _ rfl _ _ _ (λi=>if i=3 then 1 else 0) 22 rfl rfl (by rw [<-eO];exact AV) (ay _) ?_;intro w6 zA dE qM oI)|fail);rw [<-eO]at dE qM oI;try rw [jW]
 have fV:=fo.keep (by omega) dE;have dV:=eY.keep ve dE;have fK:=dY.trans (dE.mono (by omega));clear fo eY dY AV dE qM oI eO jW;try dsimp only [Act.put]
 obtain⟨hsrc,HW,mi,nD⟩:=fU fV.drew.src (show w6.drew.heap[gC]?=some (.cells (ae 16 λi=>if i=3 then 1 else 0).toArray 22 (0,0))from zA) (show(ae 12 (Cw n)).length=Nat.min 12 12 by rw [bz];rfl) (show 4+(ae 12 (Cw n)).length<=(ae 16 λi=>if i=3 then 1 else 0).length by rw [bz,bz];omega);have hsl:=aey;have hlen:(((ae 12 (Cw n)).length:Nat):Int)=12:=by rw [bz];rfl
 go_region_law (refine step_copy_splice rfl (.tmp 11) (.tmp 12) 45 45 rfl 5 Tryz.Cz Tryz.FP _ _ _ _ _ _ rfl rfl gC 4 (ae 16 λi=>if i=3 then 1 else 0) 22 HW.out (ae 12 (Cw n)) mi.out (λ_=>⟨rfl,⟨w.heap.size,0,none⟩,rfl,hsrc.out⟩) nD.out (dz 12 _) gC w6.drew (Below.refl _ _) (Nat.le_refl _) ?_;intro w7 FQ FR)
 have FT:Ar w7 gC 16 (eZ n):=by
  have h:=FQ.out;rw [jo.out]at h;exact Wb.ar (show Wb w7 gC 16 _ _ from h)
 have p9:=dV.drew.keep ve FR;have oJ:=fK.drew.trans (FR.mono (by omega));clear fV dV fK zA FR FQ HW hsrc mi nD jo hsl hlen;try dsimp only [Act.put]
 go_upto_region 4 with fail;have yK:=p9;clear p9;refine wp_region_noPanic ?_;have qN:=yK.drew;refine wp_region_held_drew (S:=λW=>Ar W gC 16 (eZ n)/\Below w.heap.size w W) (by kernel_rfl) ⟨FT.drew,oJ.drew⟩ (λaa=> ?_);clear FT oJ yK;generalize World.drew w7=ad at*;refine ty 0 rfl ?_;refine tm 2 (λW hSw=>hSw.1.range) Tryz.aM rfl (ay _) ?_;refine rq 1 rfl (AU.out _ (aa.2)) aa ?_;clear aa;intro a2 hq aa;have AY:=qN.t hq;clear hq qN;try simp only [nr]
 refine rq 3 rfl (Kt (.pointer p) f (eZ n) _ HF.out (xH HN.out) (HC.out.to (aa.2)) (HX.out.keep (aa.2))) aa ?_;clear aa;intro a3 hq aa;have vg:=AY.t hq;clear hq AY;try simp only [nr]
 refine rd 4 rfl (λK hK=> ?_);rw [if_pos (by rfl)];refine wp_store_mid _ _ _ rfl gR 0 (ae 16 (aJ f (eZ n))).toArray rfl rfl vg.there (ay _) (all_oneCell_toArray (dz 16 (aJ f (eZ n)))) ?_;have rV:=vg.whole (aJ f (eZ n));dsimp only [List.toList_toArray];refine so hK (w:=a3) (b:=gR) (o:=0) (vs:=(ae 16 (aJ f (eZ n)))) aa ?_;clear hK K aa vg;intro aa;generalize World.setCells a3 gR 0 (ae 16 (aJ f (eZ n)))=a4 at*;try simp only [Act.put]
 refine wpAnyH_done (by kernel_rfl) ?_ _;have bI:=rV;have bD:=aa.2;clear aa rV;refine NoPanic.normal ?_;go_wp2_with fail;refine dU rfl rfl bI Tryz.aM (ay _) rfl ⟨rfl,bD⟩
theorem aeA (m:Nat) (h:m<=64):FU (m:Int)=m:=by unfold FU;omega
theorem aeB (t:Nat->Nat) (b:Nat) (w:World) (ht:aj t):
  Calls Tryz.prog 178 #[.agg (ae 24 (iA t)).toArray,.int .i64 (b%64:Nat)] w λe w'=>e= .returned (.agg (ae 16 (mg t b)).toArray)/\Below w.heap.size w w':=by
 have h:=aeC (iA t) (b%64:Nat) w (Rb ht);rw [aeA _ (by omega)]at h;exact h
theorem aeD {s:Nat->Nat} (h:aj s) (i:Int):aj (tu s i):=λj hj=>by
 unfold tu;split
 ·exact xG h _ j hj
 ·exact Nat.zero_lt_of_lt (show 0<256 by decide)
theorem XI (v:Value) (f n:Nat->Nat) (w:World) (hf:aj f) (hn:oZ n) (ht:tq w v f) (hx:eX w):
  Calls Tryz.prog 148 #[v,.agg (ae 12 n).toArray] w λe w'=>e= .returned (.agg (ae 16 (mg (aJ f (eZ n)) (n 11))).toArray)/\Below w.heap.size w w':=by
 obtain⟨kK,bO⟩:=Le ((ae 12 (n)).toArray);obtain⟨w1,af,ak,aW,jU⟩:=nA w 12 (n) 168;obtain⟨w2,ag,aD,bU,iJ⟩:=fw ak aW 16 (λ_=>0) 22;have iB:=jU.alloc (by omega) (.cells (ae 16 (λ_=>0)).toArray 22);rw [<-ag]at iB;clear jU aW;have HKK:=Hi bO;rw [bO]at af;rw [bO];clear bO;have hz:=jf;obtain⟨HF,HN,HX,HT,qO⟩:=jX hf hn hx ht (show aj (aJ f (eZ n))from fM hf (xH hn) 10);clear hf hn hx ht;go_enter Tryz.func148,Tryz.ntmps148;go_upto_region 1 with fail;rw [<-af,<-ag];clear af ag;try simp only [Nat.add_assoc,Nat.reduceAdd]
 obtain⟨gR,hgR⟩:=Le (w.heap.size+1);rw [hgR]at iJ;try rw [hgR]
 have jD:w.heap.size<gR:=by omega
 clear ak aD hgR;refine wp_region_noPanic ?_;have qN:=iJ.drew;refine wp_region_held_drew (S:=λW=>Ar W w.heap.size 12 (n)/\Below w.heap.size w W) (by kernel_rfl) ⟨iB.drew,bU.drew⟩ (λaa=> ?_);clear iB bU iJ;generalize World.drew w2=ad at*;refine ty 0 rfl ?_;refine tm 1 (λW hSw=>hSw.1.range) Tryz.yI rfl (yJ _) ?_;refine tm 4 (λW hSw=>hSw.1.range) Tryz.yI rfl (yJ _) ?_;refine rq 2 rfl (aez v f n _ HF.out HN.out (HT.out.to (aa.2)) (HX.out.keep (aa.2))) aa ?_;clear aa;intro a2 hq aa;have AY:=qN.t hq;clear hq qN;try simp only [nr]
 refine rq 3 rfl (aet (aJ f (eZ n)) _ qO.out) aa ?_;clear aa;intro a3 hq aa;have vg:=AY.t hq;clear hq AY;try simp only [nr]
 refine rq 5 rfl (aer n _ HN.out) aa ?_;clear aa;intro a4 hq aa;have rV:=vg.t hq;clear hq vg;try simp only [nr]
 refine rq 6 rfl (aeB (aJ f (eZ n)) (n 11) _ qO.out) aa ?_;clear aa;intro a5 hq aa;have zB:=rV.t hq;clear hq rV;try simp only [nr]
 refine rd 7 rfl (λK hK=> ?_);rw [if_pos (by rfl)];refine wp_store_mid _ _ _ rfl gR 0 (ae 16 (mg (aJ f (eZ n)) (n 11))).toArray rfl rfl zB.there (ay _) (all_oneCell_toArray (dz 16 (mg (aJ f (eZ n)) (n 11)))) ?_;have Nn:=zB.whole (mg (aJ f (eZ n)) (n 11));dsimp only [List.toList_toArray];refine so hK (w:=a5) (b:=gR) (o:=0) (vs:=(ae 16 (mg (aJ f (eZ n)) (n 11)))) aa ?_;clear hK K aa zB;intro aa;generalize World.setCells a5 gR 0 (ae 16 (mg (aJ f (eZ n)) (n 11)))=a6 at*;try simp only [Act.put]
 refine wpAnyH_done (by kernel_rfl) ?_ _;have bI:=Nn;have bD:=aa.2;clear aa Nn;refine NoPanic.normal ?_;go_wp2_with fail;refine dU rfl rfl bI Tryz.aM (ay _) rfl ⟨rfl,bD⟩
theorem XJ (v:Value) (f l:Nat->Nat) (i:Nat) (w:World) (hf:aj f) (hl:aj l) (hi:i<18446744073709551616) (ht:tq w v f):
  Calls Tryz.prog 150 #[v,.agg (ae 16 l).toArray,.int .u64 i] w λe w'=>e= .returned (.agg (ae 16 (ah l (tu (aJ f zF) (jF i:Nat)))).toArray)/\Below w.heap.size w w':=by
 obtain⟨kK,bO⟩:=Le ((ae 16 (l)).toArray);obtain⟨w1,af,ak,aW,jU⟩:=nA w 16 (l) 22;obtain⟨w2,ag,aD,bU,iJ⟩:=fw ak aW 16 (λ_=>0) 22;have iB:=jU.alloc (by omega) (.cells (ae 16 (λ_=>0)).toArray 22);rw [<-ag]at iB;clear jU aW;have HKK:=Hi bO;rw [bO]at af;rw [bO];clear bO;have hz:=jf;have HL:=Hi hl;obtain⟨p,hV,_,_⟩:=ht;obtain⟨HV,aQ⟩:=aB hV (show aj (aJ f zF)from fM hf jw 10);clear hf hl hV;go_enter Tryz.func150,Tryz.ntmps150;go_upto_region 1 with fail;rw [<-af,<-ag];clear af ag;try simp only [Nat.add_assoc,Nat.reduceAdd]
 obtain⟨gR,hgR⟩:=Le (w.heap.size+1);rw [hgR]at iJ;try rw [hgR]
 have jD:w.heap.size<gR:=by omega
 clear ak aD hgR;refine wp_region_noPanic ?_;have qN:=iJ.drew;refine wp_region_held_drew (S:=λW=>Ar W w.heap.size 16 (l)/\Below w.heap.size w W) (by kernel_rfl) ⟨iB.drew,bU.drew⟩ (λaa=> ?_);clear iB bU iJ;generalize World.drew w2=ad at*;refine tm 0 (λW hSw=>hSw.1.range) Tryz.aM rfl (ay _) ?_;refine ty 1 rfl ?_;refine ty 2 rfl ?_;refine rq 3 rfl (aeE v p (aJ f zF) i _ hi (HV.out.to (aa.2))) aa ?_;clear aa;intro a3 hq aa;have vg:=qN.t hq;clear hq qN;try simp only [nr]
 refine rq 4 rfl (vk l (tu (aJ f zF) (jF i:Nat)) _ HL.out (aeD aQ.out _)) aa ?_;clear aa;intro a4 hq aa;have rV:=vg.t hq;clear hq vg;try simp only [nr]
 refine rd 5 rfl (λK hK=> ?_);rw [if_pos (by rfl)];refine wp_store_mid _ _ _ rfl gR 0 (ae 16 (ah l (tu (aJ f zF) (jF i:Nat)))).toArray rfl rfl rV.there (ay _) (all_oneCell_toArray (dz 16 (ah l (tu (aJ f zF) (jF i:Nat))))) ?_;have zB:=rV.whole (ah l (tu (aJ f zF) (jF i:Nat)));dsimp only [List.toList_toArray];refine so hK (w:=a4) (b:=gR) (o:=0) (vs:=(ae 16 (ah l (tu (aJ f zF) (jF i:Nat))))) aa ?_;clear hK K aa rV;intro aa;generalize World.setCells a4 gR 0 (ae 16 (ah l (tu (aJ f zF) (jF i:Nat))))=a5 at*;try simp only [Act.put]
 refine wpAnyH_done (by kernel_rfl) ?_ _;have bI:=zB;have bD:=aa.2;clear aa zB;refine NoPanic.normal ?_;go_wp2_with fail;refine dU rfl rfl bI Tryz.aM (ay _) rfl ⟨rfl,bD⟩
end
section
open Go.RowKit
theorem aeF (t:Nat->Nat) (b:Nat) (w:World) (ht:aj t):
  Calls Tryz.prog 189 #[.agg (ae 24 (iA t)).toArray,.int .i64 (b%64:Nat)] w λe w'=>e= .returned (.agg (ae 16 (mg t b)).toArray)/\Below w.heap.size w w':=aeG (iA t) (b%64) w (Rb ht) (by omega)
theorem aeH (n:Nat->Nat) (k j:Nat):(if j=4+k then n k else if 4<=j/\j<4+k then n (j-4)else if j=3 then 1 else 0)=if 4<=j/\j<4+(k+1)then n (j-4)else if j=3 then 1 else 0:=by
 by_cases h:j=4+k
 ·rw [if_pos h,if_pos (by omega),show j-4=k by omega]
 ·rw [if_neg h];by_cases g:4<=j/\j<4+k
  ·rw [if_pos g,if_pos (by omega)]
  ·rw [if_neg g,if_neg (c:=4<=j/\j<4+(k+1)) (by omega)]
theorem aeI (n:Nat->Nat) (j:Nat) (hj:j<16):(if j=15 then n 11/64*64 else if 4<=j/\j<4+12 then n (j-4)else if j=3 then 1 else 0)=eZ n j:=by
 unfold eZ Cw;by_cases h:j=15
 ·subst h;rfl
 ·rw [if_neg h];by_cases g:4<=j/\j<16
  ·rw [if_pos g,if_pos g,if_neg (by omega)]
  ·rw [if_neg g,if_neg g]
theorem aeJ (f n:Nat->Nat) (w:World) (hf:aj f) (hn:oZ n):
  Calls Tryz.prog 191 #[.agg (ae 432 (aX (ek f) sb)).toArray,.agg (ae 12 n).toArray] w λe w'=>e= .returned (.agg (ae 16 (aJ f (eZ n))).toArray)/\Below w.heap.size w w':=by
 obtain⟨dK,hfs,hrow⟩:=Tryz.qa;obtain⟨HS,HW⟩:=aB hfs hrow;clear hfs hrow;obtain⟨kE,dZ⟩:=Le ((ae 432 (aX (ek f) sb)).toArray);obtain⟨kK,bO⟩:=Le ((ae 12 (n)).toArray);obtain⟨w1,af,ak,aW,iC⟩:=nA w 432 (aX (ek f) sb) 35;obtain⟨w2,ag,aD,bU,iB⟩:=fw ak aW 12 (n) 168;have fZ:=iC.alloc (by omega) (.cells (ae 12 (n)).toArray 168);rw [<-ag]at fZ;clear iC aW;obtain⟨w3,az,fe,fJ,fB⟩:=o7 aD bU 16 (λ_=>0) 22;have qb:=fZ.alloc (by omega) (.cells (ae 16 (λ_=>0)).toArray 22);rw [<-az]at qb;have jV:=iB.alloc (by omega) (.cells (ae 16 (λ_=>0)).toArray 22);rw [<-az]at jV;clear fZ iB bU;obtain⟨w4,cZ,rW,gZ,-⟩:=Uz fe fJ 16 (λ_=>0) 22;have zC:=qb.alloc (by omega) (.cells (ae 16 (λ_=>0)).toArray 22);rw [<-cZ]at zC;have vv:=jV.alloc (by omega) (.cells (ae 16 (λ_=>0)).toArray 22);rw [<-cZ]at vv;have lD:=fB.alloc (by omega) (.cells (ae 16 (λ_=>0)).toArray 22);rw [<-cZ]at lD;have XW:Ar w4 (w.heap.size+3) 16 (λ_=>0):=by rw [cZ,<-fe];exact Ar.new w3 16 _ _
 clear qb jV fB fJ;have UA:=Hi dZ;rw [dZ]at af;have HKK:=Hi bO;rw [bO]at ag;rw [dZ,bO];clear dZ bO;have hz:=jf;obtain⟨HF,HN⟩:=aB hf hn;clear hf hn;go_enter Tryz.func191,Tryz.ntmps191;go_upto_region 2 with fail;rw [<-af,<-ag,<-az,<-cZ];clear af ag az cZ;try simp only [Nat.add_assoc,Nat.reduceAdd]
 obtain⟨gK,wF⟩:=Le (w.heap.size+1);rw [wF]at vv;obtain⟨gR,hgR⟩:=Le (w.heap.size+2);rw [hgR]at lD;obtain⟨gC,jW⟩:=Le (w.heap.size+3);rw [jW]at XW;try rw [jW]
 try rw [hgR]
 try rw [wF]
 have CE:w.heap.size<gK:=by omega
 have jD:gK<gR:=by omega
 have ve:gR<gC:=by omega
 clear ak aD fe rW wF hgR jW;have c3:=(XW 3 (by omega)).1;have f3:=(XW 3 (by omega)).2;have AV:=(XW.set (j:=3) (v:=1) (by omega) rfl).ext (f':=λj=>if 4<=j/\j<4+0 then n (j-4)else if j=3 then 1 else 0) (λj _=>by rw [if_neg (c:=4<=j/\j<4+0) (by omega)]);have mq:=zC.far (p:=⟨gC,3,none⟩) (by simp;omega) (.int .u8 1);have fo:=vv.far (p:=⟨gC,3,none⟩) (by simp;omega) (.int .u8 1);have eY:=lD.far (p:=⟨gC,3,none⟩) (by simp;omega) (.int .u8 1);have dY:=gZ.setCell (p:=⟨gC,3,none⟩) (by simp;omega) (.int .u8 1);clear zC vv lD XW gZ;go_upto_region 3 with fail;generalize World.setCell w4 ⟨gC,3,none⟩ (.int .u8 1)=w5 at*;clear c3 f3;go_wp2_with fail;go_loopw [6] (λi wr=> ∃k:Nat,k<=12/\i= .int .i64 k/\Ar wr gC 16 (λj=>if 4<=j/\j<4+k then n (j-4)else if j=3 then 1 else 0)/\Ar wr w.heap.size 432 (aX (ek f) sb)/\Ar wr gK 12 n/\Ar wr gR 16 (λ_=>0)/\Below w.heap.size w wr) (λi _=>12-(intOf i).toNat);case atStart=>exact⟨0,Nat.zero_le _,rfl,AV,mq,fo,eY,dY⟩
 case round=>
  clear AV mq fo eY dY;obtain⟨k,hk,rfl,hC,hE,hK,hR,hB⟩:=hrel;by_cases hlt:k<12
  ·have i1:(k:Int)<12:=(by omega);obtain⟨a,ha⟩:=Le (4+k);have a1:(4:Int)+(k:Int)=(a:Int):=(by omega);have a2:(a:Int)<16:=(by omega);obtain⟨c0,_⟩:=hK k hlt;obtain⟨c2,f2⟩:=hC a (by omega);obtain⟨eD,Ej,aI,aA,aF⟩:=jX ((hC.set (j:=a) (v:=n k) (by omega) rfl).ext (f':=λj=>if 4<=j/\j<4+(k+1)then n (j-4)else if j=3 then 1 else 0) (λj _=>by rw [<-ha];exact aeH n k j)) (hE.far (p:=⟨gC,a,none⟩) (by simp;omega) (.int .u8 (n k:Nat))) (hK.far (p:=⟨gC,a,none⟩) (by simp;omega) (.int .u8 (n k:Nat))) (hR.far (p:=⟨gC,a,none⟩) (by simp;omega) (.int .u8 (n k:Nat))) (hB.setCell (p:=⟨gC,a,none⟩) (by simp;omega) (.int .u8 (n k:Nat)));clear hC hE hK hR hB ha;go_wp2_with fail;go_roundw;case rel=>exact⟨k+1,by omega,by go_num,eD.out,Ej.out,aI.out,aA.out,aF.out⟩
   case measure=>simp [intOf];omega
  ·obtain rfl:k=12:=by omega
   have hbx:=HN.out 11 (by omega);have c0:wr.cell? ⟨gC,15,none⟩=some (.int .u8 (n 11:Nat)):=(hC 15 (by omega)).1;have f0:=(hC 15 (by omega)).2;obtain⟨⟨h1,h2⟩,h3⟩:=Uy _ hbx;have h4:n 11%64<64:=Nat.mod_lt _ (by decide);have h5:n 11/64*64<256:=(by omega);have eD:=(hC.set (j:=15) (v:=n 11/64*64) (by omega) rfl).ext (f':=eZ n) (λj hj=>aeI n j hj);have Ej:=hE.far (p:=⟨gC,15,none⟩) (by simp;omega) (.int .u8 (n 11/64*64:Nat));have aA:=hR.far (p:=⟨gC,15,none⟩) (by simp;omega) (.int .u8 (n 11/64*64:Nat));have aF:=hB.setCell (p:=⟨gC,15,none⟩) (by simp;omega) (.int .u8 (n 11/64*64:Nat));clear hC hE hK hR hB;generalize n 11/64*64=z at*;generalize n 11%64=y at*;generalize n 11=x at*;go_upto_region 8 with fail;generalize World.setCell wr ⟨gC,15,none⟩ (.int .u8 (z:Nat))=w6 at*;clear c0 f0 h1 h2 h3 h4 h5 hbx;go_wp2_with (first
   |(refine wpList_load_mid rfl _ _ rfl w.heap.size 0 rfl (ae 432 (aX (ek f) sb)) _ Ej.range HS.out HW.out (nE _) ?_)
   |(refine bB rfl _ _ rfl _ _ _ rfl eD Tryz.aM (ay _) ?_))
   refine(Ip f (eZ n) w6 HF.out (xH HN.out)).mono ?_;rintro e w7 ⟨rfl,hq⟩;have p9:=aA.t hq;have oJ:=Tq aF hq;clear eD Ej aA aF hq;go_wp2_with (refine bC rfl _ _ _ rfl _ _ _ (aJ f (eZ n)) rfl rfl p9 (ay _) ?_;intro w8 bg aY _ _);refine dU rfl rfl bg Tryz.aM (ay _) rfl ⟨rfl,?_⟩;exact oJ.trans (aY.mono (by omega))
theorem XK (f n:Nat->Nat) (w:World) (hf:aj f) (hn:oZ n):
  Calls Tryz.prog 157 #[.agg (ae 432 (aX (ek f) sb)).toArray,.agg (ae 12 n).toArray] w λe w'=>e= .returned (.agg (ae 16 (mg (aJ f (eZ n)) (n 11))).toArray)/\Below w.heap.size w w':=by
 obtain⟨dK,hfs,hrow⟩:=Tryz.qa;obtain⟨HS,HW⟩:=aB hfs hrow;clear hfs hrow;obtain⟨kE,dZ⟩:=Le ((ae 432 (aX (ek f) sb)).toArray);obtain⟨kK,bO⟩:=Le ((ae 12 (n)).toArray);obtain⟨w1,af,ak,aW,iC⟩:=nA w 432 (aX (ek f) sb) 35;obtain⟨w2,ag,aD,bU,iB⟩:=fw ak aW 12 (n) 168;have fZ:=iC.alloc (by omega) (.cells (ae 12 (n)).toArray 168);rw [<-ag]at fZ;clear iC aW;obtain⟨w3,az,fe,fJ,fB⟩:=o7 aD bU 16 (λ_=>0) 22;have qb:=fZ.alloc (by omega) (.cells (ae 16 (λ_=>0)).toArray 22);rw [<-az]at qb;have jV:=iB.alloc (by omega) (.cells (ae 16 (λ_=>0)).toArray 22);rw [<-az]at jV;clear fZ iB bU;have UA:=Hi dZ;rw [dZ]at af;have HKK:=Hi bO;rw [bO]at ag;rw [dZ,bO];clear dZ bO;have hz:=jf;obtain⟨HF,HN,qO⟩:=dD hf hn (show aj (aJ f (eZ n))from fM hf (xH hn) 10);clear hf hn;go_enter Tryz.func157,Tryz.ntmps157;go_upto_region 1 with fail;rw [<-af,<-ag,<-az];clear af ag az;try simp only [Nat.add_assoc,Nat.reduceAdd]
 obtain⟨gK,wF⟩:=Le (w.heap.size+1);rw [wF]at jV;obtain⟨gR,hgR⟩:=Le (w.heap.size+2);rw [hgR]at fB;try rw [hgR]
 try rw [wF]
 have CE:w.heap.size<gK:=by omega
 have jD:gK<gR:=by omega
 clear ak aD fe wF hgR;refine wp_region_noPanic ?_;have qN:=fB.drew;refine wp_region_held_drew (S:=λW=>Ar W w.heap.size 432 (aX (ek f) sb)/\Ar W gK 12 (n)/\Below w.heap.size w W) (by kernel_rfl) ⟨qb.drew,jV.drew,fJ.drew⟩ (λaa=> ?_);clear qb jV fJ fB;generalize World.drew w3=ad at*;refine tm 0 (λW hSw=>hSw.1.range) HS.out HW.out (nE _) ?_;refine tm 1 (λW hSw=>hSw.2.1.range) Tryz.yI rfl (yJ _) ?_;refine tm 4 (λW hSw=>hSw.2.1.range) Tryz.yI rfl (yJ _) ?_;refine rq 2 rfl (aeJ f n _ HF.out HN.out) aa ?_;clear aa;intro a1 hq aa;have XY:=qN.t hq;clear hq qN;try simp only [nr]
 refine rq 3 rfl (aeu (aJ f (eZ n)) _ qO.out) aa ?_;clear aa;intro a2 hq aa;have AY:=XY.t hq;clear hq XY;try simp only [nr]
 refine rq 5 rfl (aes n _ HN.out) aa ?_;clear aa;intro a3 hq aa;have vg:=AY.t hq;clear hq AY;try simp only [nr]
 refine rq 6 rfl (aeF (aJ f (eZ n)) (n 11) _ qO.out) aa ?_;clear aa;intro a4 hq aa;have rV:=vg.t hq;clear hq vg;try simp only [nr]
 refine rd 7 rfl (λK hK=> ?_);rw [if_pos (by rfl)];refine wp_store_mid _ _ _ rfl gR 0 (ae 16 (mg (aJ f (eZ n)) (n 11))).toArray rfl rfl rV.there (ay _) (all_oneCell_toArray (dz 16 (mg (aJ f (eZ n)) (n 11)))) ?_;have zB:=rV.whole (mg (aJ f (eZ n)) (n 11));dsimp only [List.toList_toArray];refine so hK (w:=a4) (b:=gR) (o:=0) (vs:=(ae 16 (mg (aJ f (eZ n)) (n 11)))) aa ?_;clear hK K aa rV;intro aa;generalize World.setCells a4 gR 0 (ae 16 (mg (aJ f (eZ n)) (n 11)))=a5 at*;try simp only [Act.put]
 refine wpAnyH_done (by kernel_rfl) ?_ _;have bI:=zB;have bD:=aa.2.2;clear aa zB;refine NoPanic.normal ?_;go_wp2_with fail;refine dU rfl rfl bI Tryz.aM (ay _) rfl ⟨rfl,bD⟩
end
end
section
open Go.RowKit
theorem LM {P:Program} {ops:Array Oper} {S:World->Prop} {op:Oper} {a:Act} (hw:Region.wanted op (yielded ops a.tmps)=true) (ty:TypeId) (parts:Array (Nat×Operand)) (ho:op.op= .build ty parts)
  (ps:List (Nat×Value)) (hps:parts.toList.map (λp=>(p.1,a.eval p.2))=ps) (cells:Array Value) (hb: ∀w,(Instr.build ty ps.toArray).run P w= .ok (.agg cells) w):YieldsIf P ops S op (.agg cells) a:=
 .inl ⟨hw,λw hw'=>by
  have e:(parts.map fun(i,x)=>(i,a.eval x))=ps.toArray:=by rw [<-hps];apply Array.toList_inj.1;simp
  unfold execOp;simp only [ho,e,Sem.run_bind,hb,Result.andThen_ok];rfl⟩
theorem aae (gT gC:Nat) (f s:Nat->Nat) (w:World) (hs:aJ f zF=s) (hT:Ti w gT (some ⟨gC,0,none⟩) s) (hC:Ci w gC f):tq w (.pointer (some ⟨gT,0,none⟩)) f:=by
 subst hs;exact aev gT _ f w hT (abQ gC f w hC)
theorem ah7 (s:Nat->Nat) (i:Nat) (h0:i≠0) (hi:i<18446744073709551616):tu s (jF i:Nat)=dk s (jF i+2):=by
 have h1:=XN i h0 hi;unfold tu;rw [if_pos (by omega),Int.toNat_natCast]
theorem ah8 (v:Value) (f l s d:Nat->Nat) (i:Nat) (w:World) (hs:aJ f zF=s) (hd:dk s (jF i+2)=d) (h0:i≠0) (hi:i<18446744073709551616) (hf:aj f) (hl:aj l) (ht:tq w v f):Calls Tryz.prog 150 #[v,.agg (ae 16 l).toArray,.int .u64 i] w λe w'=>e= .returned (.agg (ae 16 (ah l d)).toArray)/\Below w.heap.size w w':=by
 have h:=XJ v f l i w hf hl hi ht;rw [ah7 _ i h0 hi,hs,hd]at h;exact h
def e16 (j:Nat):Nat:=if j=0 then 1 else 0
end
end Go.Proofs.YtdaiacmneopkgaaGreatDoor
