/-
 Contracts of Open and Right of package open, by walks through their texts: the plaintext of bytes that are opened, or nothing and the code of the error; over a made Table of a key; what was there stays as it was.
-/
import Derived.Test.YtdaiacmneopkgaaGreatDoorOpg
import Derived.Test.YtdaiacmneopkgaaGreatDoorSez
namespace Go.Proofs.YtdaiacmneopkgaaGreatDoor
set_option linter.unusedSimpArgs false
set_option linter.unusedVariables false
set_option maxRecDepth 100000
set_option maxHeartbeats 4000000
open Go.RowKit
open Go.Shelf
def WQ (C:Nat):Value:=if C=0 then .nilIface else .iface 61 (.int .i64 (C:Int))
theorem ae7 {C:Nat} (h:C=0):WQ C= .nilIface:=if_pos h
theorem ae9 {C:Nat} (h:C≠0):WQ C= .iface 61 (.int .i64 (C:Int)):=if_neg h
theorem akc {n M:Nat} (h:n-16=M) (h2:16<=n) (hn:n<=1000000):wrap64 ((n:Int)-16)=(M:Int)/\IntKind.i64.wrap ((n:Int)-16)=(M:Int)/\(n:Int)-16=(M:Int)/\IntKind.i64.wrap (M:Int)=(M:Int)/\M<=n/\M+16=n:=by
 refine⟨?_,?_,by omega,fO _ (by omega) (by omega),by omega,by omega⟩
 ·rw [IntWalk.wrap64_in _ (by omega)];omega
 ·rw [show(n:Int)-16=(M:Int)by omega,fO _ (by omega) (by omega)]
theorem akd {n:Nat} {z:Int} (h:(n:Int)-16=z) (h2:n<16):wrap64 ((n:Int)-16)=z/\IntKind.i64.wrap ((n:Int)-16)=z/\(n:Int)-16=z/\IntKind.i64.wrap z=z/\z<0:=by
 refine⟨?_,?_,h,?_,by omega⟩
 ·rw [IntWalk.wrap64_in _ (by omega)];omega
 ·rw [IntKind.wrap_i64];omega
 ·rw [IntKind.wrap_i64];omega
theorem acQ (A A':Option Addr) (n m c c':Nat) (l l':List UInt8) (w:World) (h:Sl w w.heap.size A n l) (h':Sl w w.heap.size A' m l') (hn:n<=1000000) (hm:m<=1000000):
  Calls Tryz.prog 128 #[.slice A n c,.slice A' m c'] w λe w'=>e= .returned (.bool (decide (l=l')))/\Below w.heap.size w w':=by
 refine(equal A A' n m c c' l l' w h h' (by omega) (by omega)).mono ?_;rintro e w' ⟨rfl,hd⟩;exact⟨rfl,hd.below _⟩
theorem ake {P:Program} {c:Code} {Q:Exit->Act->World->Prop} {a:Act} {w:World} {T:Nat->Nat->Option Addr->Nat->Act} (F:Nat->Nat->Option Addr->Nat->World->Prop) (h1:Code.wp P c (λe a w=>e= .normal/\ ∃g h A k,a=T g h A k/\F g h A k w) a w) (h2: ∀g h A k w,F g h A k w->Q .normal (T g h A k) w):Code.wp P c Q a w:=
 Code.wp_mono (λe a w h=>by obtain⟨rfl,g,h,A,k,rfl,h3⟩:=h;exact h2 g h A k w h3) h1
theorem ae6 (p:Option Addr) (f s q a:Nat->Nat) (D:Option Addr) (m cd:Nat) (d:List UInt8) (A:Option Addr) (n c:Nat) (l PL:List UInt8) (C:Nat) (w:World) (hf:aj f) (hs:aJ f zF=s) (dF:oZ q) (ha:mg (aJ f (eZ q)) (q 11)=a) (hD:Sl w w.heap.size D m d) (hmc:m<=cd) (hm:m<=0) (hS:Sl w w.heap.size A n l) (hnc:n<=c) (hn:n<=1000000) (hC:opC f s a d l=C) (jq:Fu f s a d l=PL) (ht:Bf w p f) (hx:eX w):
  Calls Tryz.prog 94 #[.pointer p,.agg (ae 12 q).toArray,.slice D m cd,.slice A n c] w λe w'=> ∃(A2:Option Addr) (c2:Nat),e= .returned (.tuple #[.slice A2 PL.length c2,WQ C])/\Sl w' w'.heap.size A2 PL.length PL/\PL.length<=c2/\Below w.heap.size w w'/\(∀a2,A2=some a2->w.heap.size<=a2.block):=by
 obtain⟨kQ,iV⟩:=Le ((ae 12 (q)).toArray);obtain⟨w1,af,ak,aW,Fv⟩:=nA w 12 (q) 168;rw [iV]at af;rw [iV];clear iV;have hz:=jf;have hlen:=hS.len;obtain⟨HLEN,dh,Bp,gD,jC,XZ,HX,nW⟩:=uH hlen hf dF hS hD ht hx hs;obtain⟨MO,fP,HN,l8,HM,HC,wJ,aQ⟩:=uH ha hnc hn hmc hm hC jq (show aj s by rw [<-hs];exact fM hf jw 10);have ql:=Hi (show aj a by rw [<-ha];exact Eh (fM hf (xH dF) 10) _);have akf:(n:Int)<9223372036854775808:=by omega
 clear hf dF hS hD ht hx hs ha hnc hn hmc hm hlen hC jq;go_enter Tryz.func94,Tryz.ntmps94;go_upto_region 1 with fail;rw [<-af];clear af;try simp only [Nat.add_assoc,Nat.reduceAdd]
 clear ak;by_cases uZ:n<16
 ·obtain⟨z,bJ⟩: ∃z:Int,(n:Int)-16=z:=⟨_,rfl⟩;obtain⟨m1,m2,m3,m4,m5⟩:=akd bJ uZ;obtain⟨tN,oD⟩:=aB (HC.out.symm.trans (Qx HLEN.out uZ)) (wJ.out.symm.trans (TI (by rw [Qx HLEN.out uZ];decide)));clear uZ bJ;go_wp2_with fail;go_ret2;exact⟨none,0,by rw [tN.out,oD.out];rfl,by rw [oD.out];exact CR _ _,by rw [oD.out];exact Nat.le_refl _,aW,λ_ h9=>by cases h9⟩
 ·obtain⟨M,hM⟩:=Le (n-16);obtain⟨Fw,Fx⟩:=aB hM (show 16<=n by omega);have oV:=Hi (akc hM Fx.out HN.out);have qR:=Hi (NI A n c M oV.out.2.2.2.2.1 fP.out);obtain⟨A9,hsl,lG⟩:=zL A n c M oV.out.2.2.2.2.1 fP.out;have e16:n-M=16:=by have:=oV.out.2.2.2.2.2;omega
  rw [e16]at hsl lG;obtain⟨X7,X8⟩:=aB hsl lG;clear hM uZ hsl lG e16;obtain⟨m1,m2,m3,m4,m5,m6⟩:=oV.out;have i2: ¬(M:Int)<0:=by omega
  go_wp2_with fail;refine(XZ.out.2 _ aW).mono ?_;rintro e x1 ⟨rfl,hq⟩;have mY:=Fv.t hq;have aT:=Tq aW hq;clear hq Fv aW;clear m1 m2 m3 m4 m5 m6 i2;obtain⟨yF,jb⟩: ∃u,kr f s a (l.take M)=u:=⟨_,rfl⟩;obtain⟨Ho,J9⟩:=aB jb (show yF.length=M by rw [<-jb,KQ,List.length_take,HLEN.out];have:=oV.out.2.2.2.2.1;omega);obtain⟨k,hk⟩: ∃u,mD yF=u:=⟨_,rfl⟩;obtain⟨sP,hkb⟩:=aB hk (show aj k by rw [<-hk];exact WR yF);obtain⟨o,ho⟩: ∃u,nM s a M=u:=⟨_,rfl⟩;obtain⟨TJ,mE⟩:=aB ho (show aj o by rw [<-ho];exact WS aQ.out ql.out M);clear jb hk ho;go_upto_region 5 with fail;apply ake (F:=λgx gy A5 c5 W=>(∃gp,Sy W gp A5 M yF)/\M<=c5/\Ar W gx 16 k/\Ar W gy 16 o/\Below w.heap.size w W/\(∀a2,A5=some a2->w.heap.size<=a2.block));case h1=>
   refine wp_region_noPanic ?_;refine wp_region_held_drew (S:=λW=>Ar W w.heap.size 12 (q)/\Below w.heap.size w W) (by kernel_rfl) ⟨mY.drew,aT.drew⟩ (λaa=> ?_);generalize World.drew x1=V at*;refine ty 0 rfl ?_;refine tm 1 (λW hSw=>hSw.1.range) Tryz.yI rfl (yJ _) ?_;refine ty 2 rfl ?_;refine ty 3 rfl ?_ (λW hSw=>by obtain⟨m1,m2,m3,m4,m5,m6⟩:=oV.out;go_simp;try with_reducible rfl);refine ty 4 rfl ?_ (λW hSw=>by have hsl:=qR.out W;go_simp;try with_reducible rfl);repeat' (first
    | (
      have hK:=fo;clear fo;go_simp;obtain⟨b0,iN⟩:=Le (V.heap.size);have Yh:w.heap.size<b0:=(by rw [<-iN];exact(aa.1).lt (by omega));try have Yk:gx<b0:=by rw [<-iN];exact oW.lt (by omega)
      try have Yl:gy<b0:=by rw [<-iN];exact dN.lt (by omega)
      refine(akg p f s q a A M c (l.take M) _ dh.out nW.out Bp.out MO.out (Rm ((gD.out.below (aa.2)).more (aa.2).size) oV.out.2.2.2.2.1) (Nat.le_trans oV.out.2.2.2.2.1 fP.out) (Nat.le_trans oV.out.2.2.2.2.1 HN.out) (XZ.out.to (aa.2)) (HX.out.keep (aa.2))).mono ?_;rintro e V ⟨A5,c5,rfl,ji,hq⟩;rw [Ho.out]at ji⊢;rw [sP.out,TJ.out];have uL:=hq.size;obtain⟨gq,Ya⟩:=Le (V.heap.size-1);rw [iN]at ji uL;have iG:Ob V b0 gq (.slice A5 M c5) (M) (yF):=(by rw [<-Ya];exact Ob.new ji uL (by omega));clear ji Ya uL;go_wp2_with fail;try replace oW:=oW.t hq
      try replace dN:=dN.t hq
      refine ko hK hq aa ?_;clear hK hq iN;intro lT;clear aa;have aa:=lT;clear lT;try simp only [nr]
      refine ty 6 rfl ?_;refine ty 7 rfl ?_;refine ty 8 rfl ?_;refine tx 9 rfl ?_;try simp only [nr])
    | (
      have hK:=wR;clear wR;obtain⟨gx,XV⟩:=Le (V.heap.size);have Gm:w.heap.size<gx:=(by rw [<-XV];exact(aa.1).lt (by omega));try have Ym:gq<gx:=by rw [<-XV];exact iG.lt
      try have Yn:gy<gx:=by rw [<-XV];exact dN.lt (by omega)
      go_simp;refine FW _ (λV hV=> ?_);have hq:=FX hV;have oW:Ar V gx 16 (λ_=>0):=(by rw [hV,<-XV];exact Ar.new _ 16 (λ_=>0) _);try rw [XV]
      try replace iG:=iG.to hq
      try replace dN:=dN.t hq
      refine ko hK hq aa ?_;clear hK hq hV XV;intro lT;clear aa;have aa:=lT;clear lT;try simp only [nr])
    | (
      have hK:=AA;clear AA;obtain⟨gy,lq⟩:=Le (V.heap.size);have Yo:w.heap.size<gy:=(by rw [<-lq];exact(aa.1).lt (by omega));try have Yp:gq<gy:=by rw [<-lq];exact iG.lt
      try have K4:gx<gy:=by rw [<-lq];exact oW.lt (by omega)
      go_simp;refine FW _ (λV hV=> ?_);have hq:=FX hV;have dN:Ar V gy 16 (λ_=>0):=(by rw [hV,<-lq];exact Ar.new _ 16 (λ_=>0) _);try rw [lq]
      try replace iG:=iG.to hq
      try replace oW:=oW.t hq
      refine ko hK hq aa ?_;clear hK hq hV lq;intro lT;clear aa;have aa:=lT;clear lT;try simp only [nr])
    | (
      have hK:=La;clear La;rw [if_pos (by rfl)];refine wp_store_mid _ _ _ rfl gx 0 (ae 16 (k)).toArray rfl rfl oW.there (ay _) (all_oneCell_toArray (dz 16 (k))) ?_;try replace oW:=oW.whole (k)
      try replace iG:Ob (World.setCells V gx 0 (ae 16 (k))) b0 gq (.slice A5 M c5) (M) (yF):=by first|exact iG.old (by omega) (ae 16 (k)) 0|exact iG.apart (by omega) (ae 16 (k)) 0
      try replace dN:=dN.apart (b:=gx) (by omega) (ae 16 (k)) 0
      dsimp only [List.toList_toArray];refine so hK (w:=V) (b:=gx) (o:=0) (vs:=(ae 16 (k))) aa ?_;clear hK K aa;intro aa;generalize World.setCells V gx 0 (ae 16 (k))=V at*;try simp only [Act.put])
    | (
      have hK:=OT;clear OT;rw [if_pos (by rfl)];refine wp_store_mid _ _ _ rfl gy 0 (ae 16 (o)).toArray rfl rfl dN.there (ay _) (all_oneCell_toArray (dz 16 (o))) ?_;try replace dN:=dN.whole (o)
      try replace iG:Ob (World.setCells V gy 0 (ae 16 (o))) b0 gq (.slice A5 M c5) (M) (yF):=by first|exact iG.old (by omega) (ae 16 (o)) 0|exact iG.apart (by omega) (ae 16 (o)) 0
      try replace oW:=oW.apart (b:=gy) (by omega) (ae 16 (o)) 0
      dsimp only [List.toList_toArray];refine so hK (w:=V) (b:=gy) (o:=0) (vs:=(ae 16 (o))) aa ?_;clear hK K aa;intro aa;generalize World.setCells V gy 0 (ae 16 (o))=V at*;try simp only [Act.put])
    | (
      refine wpAnyH_take (i:=12) (v:= ?_) rfl (by kernel_rfl) (by kernel_rfl) (by decide+kernel) (λ_ _ _ h=>h) (Or.inl ⟨by rfl,?_⟩) (by assumption) ?_
      rotate_left 1
      ·intro W hSw;go_simp;try with_reducible rfl
      try simp only [nr])
    | (
      refine wpAnyH_ready (rs:= [5,10,11]) (by decide+kernel) (by simp) ?_;refine AllReadyH.cons rfl (λK fo=> ?_) (AllReadyH.cons rfl (λK wR=> ?_) (AllReadyH.cons rfl (λK AA=> ?_) AllReadyH.nil)))
    | (
      refine wpAnyH_ready (rs:= [10,11]) (by decide+kernel) (by simp) ?_;refine AllReadyH.cons rfl (λK wR=> ?_) (AllReadyH.cons rfl (λK AA=> ?_) AllReadyH.nil))
    | (
      refine wpAnyH_ready (rs:= [5,11]) (by decide+kernel) (by simp) ?_;refine AllReadyH.cons rfl (λK fo=> ?_) (AllReadyH.cons rfl (λK AA=> ?_) AllReadyH.nil))
    | (
      refine wpAnyH_ready (rs:= [5,10]) (by decide+kernel) (by simp) ?_;refine AllReadyH.cons rfl (λK fo=> ?_) (AllReadyH.cons rfl (λK wR=> ?_) AllReadyH.nil))
    | (
      refine wpAnyH_ready (rs:= [5]) (by decide+kernel) (by simp) ?_;refine AllReadyH.cons rfl (λK fo=> ?_) AllReadyH.nil)
    | (
      refine wpAnyH_ready (rs:= [11]) (by decide+kernel) (by simp) ?_;refine AllReadyH.cons rfl (λK AA=> ?_) AllReadyH.nil)
    | (
      refine wpAnyH_ready (rs:= [14]) (by decide+kernel) (by simp) ?_;refine AllReadyH.cons rfl (λK OT=> ?_) AllReadyH.nil)
    | (
      refine wpAnyH_ready (rs:= [10]) (by decide+kernel) (by simp) ?_;refine AllReadyH.cons rfl (λK wR=> ?_) AllReadyH.nil)
    | (
      refine wpAnyH_ready (rs:= [13]) (by decide+kernel) (by simp) ?_;refine AllReadyH.cons rfl (λK La=> ?_) AllReadyH.nil))
   all_goals refine wpAnyH_done (by kernel_rfl) ?_ _
   all_goals
    refine NoPanic.normal ?_;exact⟨rfl,gx,gy,A5,c5,rfl,⟨_,Sy.new (Sl.jk iG.2.2.2) (Nat.zero_lt_of_lt iG.1)⟩,acR iG.2.2.2,oW,dN,aa.2,λa2 h9=>by subst h9;exact Nat.le_trans (Nat.le_of_lt Yh) (yg iG.2.2.2 rfl)⟩
  rintro gx gy A5 c5 z5 ⟨⟨gp,Yb⟩,hcc,X0,X3,XW,hfr⟩;clear mY aT;obtain⟨wM,jo⟩:=aB hcc hfr;clear hcc hfr;go_wp2_with (first|(refine bB rfl _ _ rfl _ _ _ rfl X0 Tryz.aM (ay _) ?_)|(refine bB rfl _ _ rfl _ _ _ rfl X3 Tryz.aM (ay _) ?_));refine(acS p f s k o D m cd d _ dh.out nW.out hkb.out mE.out ((jC.out.below XW).more XW.size) l8.out HM.out (XZ.out.1.to XW) (HX.out.keep XW)).mono ?_;rintro e x2 ⟨rfl,hq⟩;have Qy:=Yb.to hq;have MP:=X0.t hq;have X4:=X3.t hq;have di:=Tq XW hq;clear hq Yb X0 X3 XW;obtain⟨tg,yG⟩: ∃u,uB f s k o d=u:=⟨_,rfl⟩;obtain⟨MQ,TK⟩:=aB (show uC f s a d l M=tg by unfold uC;rw [Ho.out,sP.out,TJ.out];exact yG) (show aj tg by rw [<-yG];exact acT dh.out aQ.out hkb.out mE.out d);rw [yG];clear yG;obtain⟨gt,hgt⟩:=Le (x2.heap.size);have Yi:gp<gt:=by rw [<-hgt];exact Qy.lt
  have WT:gx<gt:=by rw [<-hgt];exact MP.lt (by omega)
  have WU:gy<gt:=by rw [<-hgt];exact X4.lt (by omega)
  have WV:w.heap.size<=gt:=by rw [<-hgt];exact di.size
  have hq:=Ba x2 (.cells (ae 16 λ_=>0).toArray 22);have Yc:=Qy.to hq;have Yd:=MP.t hq;have Ye:=X4.t hq;have X5:=Ar.new x2 16 (λ_=>0) 22;have Cm:=di.alloc di.size (.cells (ae 16 λ_=>0).toArray 22);rw [hgt]at X5;clear hq Qy MP X4 di;go_upto_region 7 with (first|(refine bC rfl _ _ _ rfl _ _ _ (tg) rfl rfl X5 (ay _) ?_;intro x3 XX oU J5 J6)|fail);have XY:=(Yc).keep Yi oU;have MR:=(Yd).keep WT oU;have Yf:=(Ye).keep WU oU;have dJ:=Cm.trans (oU.mono WV);clear Yc Yd Ye X5 Cm oU J5 J6 hgt;try dsimp only [Act.put]
  by_cases hE:aP 16 tg=l.drop M
  ·have hd:decide (aP 16 tg=l.drop M)=true:=(by simp [hE]);have HT:=Hi (show aP 16 (uC f s a d l M)=l.drop M by rw [MQ.out];exact hE);have tN:=Hi (WW HLEN.out Fw.out Fx.out HT.out);obtain⟨oD,nT,X6⟩:=dD (wJ.out.symm.trans ((TL HLEN.out Fw.out tN.out).trans Ho.out)) (HC.out.symm.trans tN.out) hd;clear hd hE;refine wp_region_noPanic ?_;refine wp_region_held_drew (S:=λW=>Sy W gp A5 (M) (yF)/\Ar W gt 16 (tg)/\Below w.heap.size w W) (by kernel_rfl) ⟨XY.drew,XX.drew,dJ.drew⟩ (λaa=> ?_);clear XY XX MR Yf dJ;generalize World.drew x3=bd at*;refine ty 0 rfl ?_ (λW hSw=>by have I8:=I9;go_simp;try with_reducible rfl);refine ty 1 rfl ?_;refine ty 2 rfl ?_;refine ty 3 rfl ?_ (λW hSw=>by have hsl:=X7.out W;go_simp;try with_reducible rfl);refine rq 4 rfl (acQ (some ⟨gt,0,none⟩) A9 16 16 16 (c-M) (aP 16 tg) (l.drop M) _ (acU (aa.2.1) TK.out) (X8.out _ _ _ ((gD.out.below (aa.2.2)).more (aa.2.2).size)) (by omega) (by omega)) aa ?_;clear aa;intro b5 hq aa;rw [X6.out];clear hq;try simp only [nr]
   refine ty 5 rfl ?_;refine wpAnyH_done (by kernel_rfl) ?_ _;have Yg:=aa.1;have Yj:=aa.2.1;have Kw:=aa.2.2;clear aa;refine NoPanic.normal ?_;try dsimp only [Act.put]
   go_wp2_with fail;go_ret2;exact⟨A5,c5,by rw [nT.out,oD.out,J9.out];rfl,by rw [oD.out,J9.out];exact Yg.sl,by rw [oD.out,J9.out];exact wM.out,Kw,jo.out⟩
  ·have hd:decide (aP 16 tg=l.drop M)=false:=(by simp [hE]);have HT:=Hi (show aP 16 (uC f s a d l M)≠l.drop M by rw [MQ.out];exact hE);have tN:=Hi (acV HLEN.out Fw.out Fx.out HT.out);obtain⟨oD,nT,X6⟩:=dD (wJ.out.symm.trans (TI (by rw [tN.out];decide))) (HC.out.symm.trans tN.out) hd;clear hd hE;refine wp_region_noPanic ?_;refine wp_region_held_drew (S:=λW=>Sy W gp A5 (M) (yF)/\Ar W gt 16 (tg)/\Below w.heap.size w W) (by kernel_rfl) ⟨XY.drew,XX.drew,dJ.drew⟩ (λaa=> ?_);clear XY XX MR Yf dJ;generalize World.drew x3=cd at*;refine ty 0 rfl ?_ (λW hSw=>by have I8:=I9;go_simp;try with_reducible rfl);refine ty 1 rfl ?_;refine ty 2 rfl ?_;refine ty 3 rfl ?_ (λW hSw=>by have hsl:=X7.out W;go_simp;try with_reducible rfl);refine rq 4 rfl (acQ (some ⟨gt,0,none⟩) A9 16 16 16 (c-M) (aP 16 tg) (l.drop M) _ (acU (aa.2.1) TK.out) (X8.out _ _ _ ((gD.out.below (aa.2.2)).more (aa.2.2).size)) (by omega) (by omega)) aa ?_;clear aa;intro c5 hq aa;rw [X6.out];clear hq;try simp only [nr]
   refine ty 5 rfl ?_;refine wpAnyH_done (by kernel_rfl) ?_ _;have Yg:=aa.1;have Yj:=aa.2.1;have Kw:=aa.2.2;clear aa;refine NoPanic.normal ?_;try dsimp only [Act.put]
   go_wp2_with fail;go_ret2;exact⟨none,0,by rw [nT.out,oD.out];rfl,by rw [oD.out];exact CR _ _,by rw [oD.out];exact Nat.le_refl _,Kw,λ_ h9=>by cases h9⟩
end Go.Proofs.YtdaiacmneopkgaaGreatDoor
