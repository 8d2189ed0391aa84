/-
 Contracts of the reference package of layer 12; the checksum of an opened plaintext, by walks through their texts; what was there stays as it was.
-/
import Derived.Test.YtdaiacmneopkgaaGreatDoorMha
namespace Go.Proofs.YtdaiacmneopkgaaGreatDoor
set_option linter.unusedSimpArgs false
set_option linter.unusedVariables false
set_option maxRecDepth 100000
set_option maxHeartbeats 8000000
section
open Go.RowKit
theorem aaH {i o q:Nat} (h:i=o+q) (hi:i<1000000):wrap64 ((i:Int)-(o:Int))=(q:Int)/\IntKind.i64.wrap ((i:Int)-(o:Int))=(q:Int)/\(i:Int)-(o:Int)=(q:Int)/\IntKind.i64.wrap (q:Int)=(q:Int):=by
 subst h;refine⟨?_,?_,by omega,fO _ (by omega) (by omega)⟩
 ·rw [IntWalk.wrap64_in _ (by omega)];omega
 ·rw [fO _ (by omega) (by omega)];omega
theorem aaI {w:World} {B n b o:Nat} {l:List UInt8} (h:Sl w B (some ⟨b,o,none⟩) n l) (i:Nat) (hi:i<n):w.cell? ⟨b,o+i,none⟩=some (.int .u8 (lF l i:Nat)):=by
 obtain⟨b2,o2,e,_,hc⟩:=h.2 (by omega);injection e with e;injection e with e1 e2;subst e1 e2;have hl:=h.len;rw [hc i l[i] (List.getElem?_eq_getElem (by omega))];simp [b8,lF,List.getD,List.getElem?_eq_getElem (show i<l.length by omega)]
theorem agf (f q s a:Nat->Nat) (A:Option Addr) (n c:Nat) (l:List UInt8) (w:World) (hf:aj f) (dF:oZ q) (hs:aJ f zF=s) (ha:mg (aJ f (eZ q)) (q 11)=a) (hS:Sl w w.heap.size A n l) (hnc:n<=c) (hn:n<=1000000):
  Calls Tryz.prog 124 #[.agg (ae 432 (aX (ek f) sb)).toArray,.agg (ae 12 q).toArray,.slice A n c] w λe w'=> ∃(A2:Option Addr) (c2:Nat),e= .returned (.agg (ik (.slice A2 n c2) (mD l) (nM s a n)).toArray)/\jQ w' w.heap.size (.slice A2 n c2) n (tQ f s a l)/\Below w.heap.size w w':=by
 have hz:=jf;have hzR:=Ol;obtain⟨dK,hfs,hrow⟩:=Tryz.qa;obtain⟨HS,HW⟩:=aB hfs hrow;clear hfs hrow;obtain⟨dR,hfs,hrow⟩:=Tryz.aaJ;obtain⟨Gf,KV⟩:=aB hfs hrow;clear hfs hrow;have hlen:=hS.len;obtain⟨HLEN,dh,Bp,gD,aQ,tC,hst⟩:=zD hlen hf dF hS (show aj s by rw [<-hs];exact fM hf jw 10) (show aj a by rw [<-ha];exact Eh (fM hf (xH dF) 10) _) (λV=>Rl f V hf jw);rw [hs]at hst;have hra:=Hi (λV=>XK f q V hf dF);rw [ha]at hra;obtain⟨N,hN⟩:=Le (n/16);obtain⟨o,ho⟩:=Le (16*N);obtain⟨r,hr⟩:=Le (n%16);obtain⟨zK,Ep,jo,HRR,eF,HO⟩:=qB (Kv hn hN ho) (UI hn hN ho) (aad hr) hr hN ho;obtain⟨A9,hsl,lG⟩:=zL A n c o (by omega) hnc;obtain⟨qR,kI,CJ,HN,fP,yL⟩:=qB hsl lG (show N<=62500 by omega) hn hnc (λk (j:Nat) (_:j<16)=>qA l k j);obtain⟨i0,cu,bJ,bE,dx⟩:=info_parts xW;obtain⟨oL,qh,oM,tT⟩:=fU cu bJ bE dx;clear cu bJ bE dx hf dF hS hn hs ha hN ho hr hsl lG hlen hnc;obtain⟨kE,dZ⟩:=Le ((ae 432 (aX (ek f) sb)).toArray);obtain⟨kQ,iV⟩:=Le ((ae 12 q).toArray);obtain⟨w1,af,ak,aW,iC⟩:=nA w 432 (aX (ek f) sb) 35;obtain⟨w2,ag,aD,bU,qH⟩:=fw ak aW 12 q 168;have fZ:=bn ag iC;obtain⟨w3,az⟩:=Lv (w2.alloc (.cells (ik (.slice none 0 0) (λ_=>0) (λ_=>0)).toArray 213));have fe:=IY az aD;have fJ:=Bm az bU;have qb:=bn az fZ;have C8:=bn az qH
 obtain⟨rz,hrz⟩: ∃c:Nat->Value,(λj=>(ik (.slice none 0 0) (λ_=>0) (λ_=>0)).getD j undef)=c:=⟨_,rfl⟩;have fB:Cx w3 (w.heap.size+2) 33 rz:=by rw [az,<-aD,RL,hrz];exact Cx.new w2 33 _ _
 clear iC aW fZ qH bU hrz;rw [dZ]at af;rw [iV]at ag;rw [dZ,iV];clear dZ iV;go_enter Tryz.func124,Tryz.ntmps124;go_upto_region 1 with fail;rw [<-af,<-ag,<-az];clear af ag az;try simp only [Nat.add_assoc,Nat.reduceAdd]
 obtain⟨gQ,qi⟩:=Le (w.heap.size+1);obtain⟨gR,hgR⟩:=Le (w.heap.size+2);rw [qi]at C8;rw [hgR]at fB;try rw [hgR]
 try rw [qi]
 have U5:w.heap.size<gQ:=by omega
 have jD:gQ<gR:=by omega
 clear ak aD fe qi hgR;go_wp2_with (refine wpList_load_mid rfl _ _ rfl w.heap.size 0 rfl (ae 432 (aX (ek f) sb)) _ qb.range HS.out HW.out (nE _) ?_);refine(hst.out _).mono ?_;rintro e x1 ⟨rfl,hq⟩;have jY:=qb.t hq;have mY:=C8.t hq;have jG:=fB.t hq;have aT:=Tq fJ hq;clear hq qb C8 fB fJ;obtain⟨gs,hgs⟩:=Le (x1.heap.size);have ND:w.heap.size<gs:=by rw [<-hgs];exact jY.lt (by omega)
 have U6:gQ<gs:=by rw [<-hgs];exact mY.lt (by omega)
 have UJ:gR<gs:=by rw [<-hgs];exact jG.lt (by omega)
 have NF:w.heap.size<=gs:=by rw [<-hgs];exact aT.size
 have hq:=Ba x1 (.cells (ae 16 λ_=>0).toArray 22);have xN:=jY.t hq;have Om:=mY.t hq;have xO:=jG.t hq;have Be:=Ar.new x1 16 (λ_=>0) 22;have qU:=aT.alloc aT.size (.cells (ae 16 λ_=>0).toArray 22);rw [hgs]at Be;clear hq jY mY jG aT;go_upto_region 2 with (first|(refine bC rfl _ _ _ rfl _ _ _ (s) rfl rfl Be (ay _) ?_;intro x2 Er jh yQ yR)|fail);have og:=(xN).keep ND jh;have tV:=(Om).keep U6 jh;have pq:=(xO).keep UJ jh;have di:=qU.trans (jh.mono NF);clear xN Om xO Be qU jh yQ yR hgs;try dsimp only [Act.put]
 go_wp2_with (first|(refine wpList_load_mid rfl _ _ rfl w.heap.size 0 rfl (ae 432 (aX (ek f) sb)) _ og.range HS.out HW.out (nE _) ?_)|(refine bB rfl _ _ rfl _ _ _ rfl tV Tryz.yI (yJ _) ?_));refine(hra.out _).mono ?_;rintro e x3 ⟨rfl,hq⟩;have qg:=og.t hq;have xX:=tV.t hq;have mQ:=pq.t hq;have CL:=Er.t hq;have dJ:=Tq di hq;clear hq og tV pq Er di;obtain⟨v1,iq⟩:=Lv (x3.alloc (.cells (ik (.slice none 0 0) (λ_=>0) (λ_=>0)).toArray 213));have hq:=Bl iq;have hsv:=lh iq;have Oo:=qg.t hq;have Oq:=xX.t hq;have Nz:=mQ.t hq;have Ny:=CL.t hq;have F4:=Tq dJ hq;have Ot:Cx v1 x3.heap.size 33 (λj=>(ik (.slice none 0 0) (λ_=>0) (λ_=>0)).getD j undef):=by rw [iq,RL];exact Cx.new x3 33 _ _
 have hlr:gs<x3.heap.size:=CL.lt (by omega);have C9:w.heap.size<=x3.heap.size:=dJ.size;have hbr:=Hi (agh a);clear hq qg xX mQ CL dJ;go_upto_region 3 with (first|(refine oH rfl _ _ rfl [(2,.agg (ae 16 a).toArray)] rfl _ (hbr.out _) ?_)|(refine qY rfl _ _ _ rfl _ 33 0 _ (ik (.slice none 0 0) (λ_=>0) a) rfl rfl (by rw [<-iq];exact Ot) (by rw [ED];decide) (EE _ _ _) (RN rfl _ _) ?_;intro y1 Ou mW CW IM)|fail);rw [<-iq]at mW CW;obtain⟨Gg,Gh,Bq⟩:=RO Ou;obtain⟨gr,hgr⟩:=Le (x3.heap.size);try rw [hgr]
 rw [hgr]at hlr C9 mW Gg Gh Bq;have KW:=Oo.keep (by omega) mW;have RP:=Oq.keep (by omega) mW;have Gi:=Nz.keep (by omega) mW;have X4:=Ny.keep (by omega) mW;have wP:=F4.trans (mW.mono C9);have X4:y1.heap.size=gr+1:=by rw [CW,hsv,hgr]
 obtain⟨b0,iN⟩:=Le (gr+1);have hlb:gr<b0:=by omega
 have Ov:Ob y1 b0 gr (.slice none 0 0) 0 (aP 0 (iW f s a l N)):=⟨by omega,by omega,λk hk=>by simp [Value.ownBlock]at hk,World.ownsRow_nil _ _ _ _⟩;clear Ou mW CW IM hsv hgr iq Ot hbr iN X4 Oo Oq Nz Ny F4;try dsimp only [Act.put]
 clear RP;obtain⟨j1,j2,j3⟩:=zK.out;clear j3;have Eu:=CJ.out;go_wp2_with fail;clear j1 j2;have Ow:=Bq.ext (d:=bS a s 0) (λj _=>by rw [Im]);clear Bq;have Bq:=Ow;clear Ow;go_loopw [10] (λi wr=> ∃(k:Nat) (A2:Option Addr) (c2 gw:Nat),k<=N/\i= .int .i64 k/\gr<=gw/\Ar wr w.heap.size 432 (aX (ek f) sb)/\Cx wr gR 33 (rz)/\Ar wr gs 16 (s)/\Ce wr gr (.slice A2 (16*k) c2)/\Po wr gr 1 16 (iF (pt l) k)/\Po wr gr 17 16 (bS a s k)/\Ob wr b0 gw (.slice A2 (16*k) c2) (16*k) (aP (16*k) (iW f s a l N))/\Below w.heap.size w wr) (λi _=>N-(intOf i).toNat);case atStart=>exact⟨0,none,0,gr,Nat.zero_le _,rfl,Nat.le_refl _,KW,Gi,X4,Gg,Gh,Bq,Ov,wP⟩
 case round=>
  clear KW Gi X4 Gg Gh Bq Ov wP;obtain⟨k,A2,c2,gw,hk,rfl,hgw,qC,oK,vC,XY,XW,ru,mZ,ib⟩:=hrel;by_cases hlt:k<N
  ·have i1:(k:Int)<(N:Int):=(by omega);have wQ:=Hi (show 16*k+16<=n by have:=eF.out;omega);obtain⟨b,ob,pJ,hbl⟩:=KX gD.out (Nat.lt_of_lt_of_le (Nat.succ_pos _) wQ.out);subst pJ;obtain⟨q1,cB⟩:=Le (k+1);obtain⟨zT,hcb,mE,HST,IZ,tX⟩:=qB (UH cB (by omega)) (Gj yL.out k) (mP tC.out aQ.out k) (Kq a s k) (λV=>aaK s (k+1) V aQ.out (by omega)) (show(aP (16*k) (iW f s a l N)).map b8++ae 16 (xY f (pt l k) (bS a s (k+1)))=(aP (16*(k+1)) (iW f s a l N)).map b8 by rw [aaL l N k hlt,List.map_append,I1 16 _ (aaM dh.out (yL.out k) (mP tC.out aQ.out _))]);obtain⟨ck,hck⟩: ∃u,iF (pt l) k=u:=⟨_,rfl⟩;obtain⟨ok,hok⟩: ∃u,bS a s k=u:=⟨_,rfl⟩;rw [hck]at hcb;rw [hok]at mE HST;rw [cB]at HST IZ;have xZ:=Hi (xG aQ.out (jF q1+2));obtain⟨d,hd⟩: ∃d,dk s (jF q1+2)=d:=⟨_,rfl⟩;rw [hd]at HST IZ xZ;have yc:=Hi (dL mE.out xZ.out);obtain⟨o1,ry⟩: ∃o1,bS a s q1=o1:=⟨_,rfl⟩;rw [HST.out,ry]at yc;rw [ry]at HST;obtain⟨hpb,I4⟩:=aB (yL.out k) (show(aP (16*k) (iW f s a l N)).map b8++ae 16 (xY f (pt l k) o1)=(aP (16*(k+1)) (iW f s a l N)).map b8 by rw [<-ry,<-cB];exact tX.out);clear tX;obtain⟨P,hP⟩: ∃P,pt l k=P:=⟨_,rfl⟩;have Gl:=Hi (λV hb=>aac ((gD.out.below (w':=V) hb)) k wQ.out);rw [hP]at hpb Gl I4;have hxb:=Hi (dL hpb.out yc.out);have Br:=Hi (show aj (aJ f (ah P o1))from fM dh.out hxb.out 10);obtain⟨cp,hcp⟩: ∃u,xY f P o1=u:=⟨_,rfl⟩
   have ou:=Hi (show ah (aJ f (ah P o1)) o1=cp from hcp);rw [hcp]at I4;have yX:=Hi (show ah (iF (pt l) k) (pt l k)=iF (pt l) (k+1)from rfl);rw [hck,hP]at yX;obtain⟨yf,Ox,Zz⟩:=dD cB ry hP;rw [hck]at XW;rw [hok]at ru;clear hck hok hd hP cB ry Eu hcp;have hpt:=Hi (aaa b ob n c k P wr wQ.out fP.out HN.out (Gl.out _ ib) (Nat.lt_of_lt_of_le hbl ib.size));go_wp2_with fail;refine(hpt.out).mono ?_;rintro e x4 ⟨rfl,hq⟩;have tH:=qC.t hq;have xK:=oK.t hq;have Et:=vC.t hq;have X6:=XY.to hq;have X7:=XW.t hq;have Da:=ru.t hq;have Db:=mZ.to hq;have iZ:=Tq ib hq;clear hq qC oK vC XY XW ru mZ ib;clear hpt;obtain⟨gx,hgx⟩:=Le (x4.heap.size);have Gm:w.heap.size<gx:=(by rw [<-hgx];exact tH.lt (by omega));have U7:gR<gx:=(by rw [<-hgx];exact xK.lt (by omega));have Zj:gs<gx:=(by rw [<-hgx];exact Et.lt (by omega));have X0:gr<gx:=(by rw [<-hgx];exact X6.lt);have X0:gr<gx:=(by rw [<-hgx];exact X7.lt (by omega));have X0:gr<gx:=(by rw [<-hgx];exact Da.lt (by omega));have Zk:gw<gx:=(by rw [<-hgx];exact Db.lt);have I5:w.heap.size<=gx:=(by rw [<-hgx];exact iZ.size);have hq:=Ba x4 (.cells (ae 16 λ_=>0).toArray 22);have Yl:=tH.t hq;have Ym:=xK.t hq;have Yn:=Et.t hq;have Yo:=X6.to hq;have Yp:=X7.t hq;have Yq:=Da.t hq;have Oy:=Db.to hq;have X8:=Ar.new x4 16 (λ_=>0) 22;have Oz:=iZ.alloc iZ.size (.cells (ae 16 λ_=>0).toArray 22)
   rw [hgx]at X8;clear hq tH xK Et X6 X7 Da Db iZ;go_upto_region 8 with (first|(refine bC rfl _ _ _ rfl _ _ _ (P) rfl rfl X8 (ay _) ?_;intro x5 KY vF U8 U9)|fail);have Bt:=(Yl).keep Gm vF;have Dc:=(Ym).keep U7 vF;have OA:=(Yn).keep Zj vF;have Yr:=(Yo).keep X0 vF;have Yt:=(Yp).keep X0 vF;have OB:=(Yq).keep X0 vF;have Gn:=(Oy).keep Zk vF;have iO:=Oz.trans (vF.mono I5);clear Yl Ym Yn Yo Yp Yq Oy X8 Oz vF U8 U9 hgx;try dsimp only [Act.put]
   apply Ky (F:=λW=>Ar W w.heap.size 432 (aX (ek f) sb)/\Cx W gR 33 (rz)/\Ar W gs 16 (s)/\Ce W gr (.slice A2 (16*k) c2)/\Po W gr 1 16 (ck)/\Ob W b0 gw (.slice A2 (16*k) c2) (16*k) (aP (16*k) (iW f s a l N))/\Ar W gx 16 (P)/\Po W gr 17 16 (o1)/\Below w.heap.size w W);case h1=>
    refine wp_region_noPanic ?_;have sj:=OB.drew;refine wp_region_held_drew (S:=λW=>Ar W w.heap.size 432 (aX (ek f) sb)/\Cx W gR 33 (rz)/\Ar W gs 16 (s)/\Ce W gr (.slice A2 (16*k) c2)/\Po W gr 1 16 (ck)/\Ob W b0 gw (.slice A2 (16*k) c2) (16*k) (aP (16*k) (iW f s a l N))/\Ar W gx 16 (P)/\Below w.heap.size w W) (by kernel_rfl) ⟨Bt.drew,Dc.drew,OA.drew,Yr.drew,Yt.drew,Gn.drew,KY.drew,iO.drew⟩ (λaa=> ?_);generalize World.drew x5=V at*;refine ty 0 rfl ?_;refine tm 2 (λW hSw=>hSw.2.2.1.range) Tryz.aM rfl (ay _) ?_;refine ty 3 rfl ?_;refine ty 4 rfl ?_ (λW hSw=>by obtain⟨j1,j2,j3,j4,j5,j6⟩:=zT.out;go_simp;try with_reducible rfl);refine ty 5 rfl ?_ (λW hSw=>by obtain⟨j1,j2,j3,j4,j5,j6⟩:=zT.out;go_simp;try with_reducible rfl);repeat' (first
     | (
       have hK:=aN;clear aN;rw [if_pos (by rfl)];refine wp_load_mid _ _ rfl gr 17 rfl (ae 16 (ok)) _ sj.range Tryz.aM rfl (ay _) ?_;refine hK.out _ _ aa ?_;clear hK K aa;intro aa;try simp only [nr])
     | (
       refine kc fV (IZ.out _) aa ?_;clear fV K aa;intro V hq aa;try replace sj:=sj.t hq
       clear hq;try simp only [nr])
     | (
       refine kc jE (yY ok d _ mE.out xZ.out) aa ?_;clear jE K aa;intro V hq aa;rw [HST.out];try replace sj:=sj.t hq
       clear hq;try simp only [nr]
       refine tx 8 rfl ?_;try simp only [nr])
     | (
       have hK:=dn;clear dn;rw [if_pos (by rfl)];refine wp_store_mid _ _ _ rfl gr 17 (ae 16 (o1)).toArray rfl rfl (sj.there (o1)) (ay _) (all_oneCell_toArray (dz 16 (o1))) ?_;try replace sj:=sj.put (o1)
       dsimp only [List.toList_toArray];refine so hK (w:=V) (b:=gr) (o:=17) (vs:=(ae 16 (o1))) aa ?_;clear hK K aa;intro aa;generalize World.setCells V gr 17 (ae 16 (o1))=V at*;try simp only [Act.put])
     | (
       refine wpAnyH_ready (rs:= [1,6]) (by decide+kernel) (by simp) ?_;refine AllReadyH.cons rfl (λK aN=> ?_) (AllReadyH.cons rfl (λK fV=> ?_) AllReadyH.nil))
     | (
       refine wpAnyH_ready (rs:= [6]) (by decide+kernel) (by simp) ?_;refine AllReadyH.cons rfl (λK fV=> ?_) AllReadyH.nil)
     | (
       refine wpAnyH_ready (rs:= [1]) (by decide+kernel) (by simp) ?_;refine AllReadyH.cons rfl (λK aN=> ?_) AllReadyH.nil)
     | (
       refine wpAnyH_ready (rs:= [7]) (by decide+kernel) (by simp) ?_;refine AllReadyH.cons rfl (λK jE=> ?_) AllReadyH.nil)
     | (
       refine wpAnyH_ready (rs:= [9]) (by decide+kernel) (by simp) ?_;refine AllReadyH.cons rfl (λK dn=> ?_) AllReadyH.nil))
    all_goals refine wpAnyH_done (by kernel_rfl) ?_ _
    all_goals
     refine NoPanic.normal ?_;exact⟨rfl,rfl,aa.1,aa.2.1,aa.2.2.1,aa.2.2.2.1,aa.2.2.2.2.1,aa.2.2.2.2.2.1,aa.2.2.2.2.2.2.1,sj,aa.2.2.2.2.2.2.2⟩
   rintro x6 ⟨RS,KZ,RU,Yu,Yv,De,K3,RV,ng⟩;clear Bt Dc OA Yr Yt Gn KY OB iO;go_upto_region 9 with fail;apply NC (F:=λgy W=>Ar W w.heap.size 432 (aX (ek f) sb)/\Cx W gR 33 (rz)/\Ar W gs 16 (s)/\Ce W gr (.slice A2 (16*k) c2)/\Po W gr 1 16 (ck)/\Ob W b0 gw (.slice A2 (16*k) c2) (16*k) (aP (16*k) (iW f s a l N))/\Ar W gx 16 (P)/\Po W gr 17 16 (o1)/\Ar W gy 16 (cp)/\gx<gy/\Below w.heap.size w W);case h1=>
    refine wp_region_noPanic ?_;refine wp_region_held_drew (S:=λW=>Ar W w.heap.size 432 (aX (ek f) sb)/\Cx W gR 33 (rz)/\Ar W gs 16 (s)/\Ce W gr (.slice A2 (16*k) c2)/\Po W gr 1 16 (ck)/\Ob W b0 gw (.slice A2 (16*k) c2) (16*k) (aP (16*k) (iW f s a l N))/\Ar W gx 16 (P)/\Po W gr 17 16 (o1)/\Below w.heap.size w W) (by kernel_rfl) ⟨RS.drew,KZ.drew,RU.drew,Yu.drew,Yv.drew,De.drew,K3.drew,RV.drew,ng.drew⟩ (λaa=> ?_);generalize World.drew x6=V at*;refine tm 0 (λW hSw=>hSw.1.range) HS.out HW.out (nE _) ?_;refine tm 1 (λW hSw=>hSw.2.2.2.2.2.2.1.range) Tryz.aM rfl (ay _) ?_;refine ty 2 rfl ?_;refine tk 3 (.agg (ae 16 (o1)).toArray) rfl (yieldsIf_load_mid (by rfl) _ _ rfl gr (17) rfl (ae 16 (o1)) _ (λW hSw=>(hSw.2.2.2.2.2.2.2.1).range) Tryz.aM rfl (ay _)) ?_;simp only [nr];refine ty 6 rfl ?_;refine tk 7 (.agg (ae 16 (o1)).toArray) rfl (yieldsIf_load_mid (by rfl) _ _ rfl gr (17) rfl (ae 16 (o1)) _ (λW hSw=>(hSw.2.2.2.2.2.2.2.1).range) Tryz.aM rfl (ay _)) ?_;simp only [nr];repeat' (first
     | (
       refine kc je (yY P o1 _ hpb.out yc.out) aa ?_;clear je K aa;intro V hq aa;try replace dN:=dN.t hq
       clear hq;try simp only [nr])
     | (
       refine kc fo (Ip f (ah P o1) _ dh.out hxb.out) aa ?_;clear fo K aa;intro V hq aa;try replace dN:=dN.t hq
       clear hq;try simp only [nr])
     | (
       refine kc ja (yY (aJ f (ah P o1)) o1 _ Br.out yc.out) aa ?_;clear ja K aa;intro V hq aa;rw [ou.out];try replace dN:=dN.t hq
       clear hq;try simp only [nr])
     | (
       have hK:=dn;clear dn;obtain⟨gy,lq⟩:=Le (V.heap.size);have K4:gx<gy:=(by rw [<-lq];exact(aa.2.2.2.2.2.2.1).lt (by omega));go_simp;refine FW _ (λV hV=> ?_);have hq:=FX hV;have dN:Ar V gy 16 (λ_=>0):=(by rw [hV,<-lq];exact Ar.new _ 16 (λ_=>0) _);try rw [lq]
       refine ko hK hq aa ?_;clear hK hq hV lq;intro lT;clear aa;have aa:=lT;clear lT;try simp only [nr])
     | (
       have hK:=wR;clear wR;rw [if_pos (by rfl)];refine wp_store_mid _ _ _ rfl gy 0 (ae 16 (cp)).toArray rfl rfl dN.there (ay _) (all_oneCell_toArray (dz 16 (cp))) ?_;try replace dN:=dN.whole (cp)
       dsimp only [List.toList_toArray];refine so hK (w:=V) (b:=gy) (o:=0) (vs:=(ae 16 (cp))) aa ?_;clear hK K aa;intro aa;generalize World.setCells V gy 0 (ae 16 (cp))=V at*;try simp only [Act.put])
     | (
       refine wpAnyH_ready (rs:= [4,9]) (by decide+kernel) (by simp) ?_;refine AllReadyH.cons rfl (λK je=> ?_) (AllReadyH.cons rfl (λK dn=> ?_) AllReadyH.nil))
     | (
       refine wpAnyH_ready (rs:= [8,9]) (by decide+kernel) (by simp) ?_;refine AllReadyH.cons rfl (λK ja=> ?_) (AllReadyH.cons rfl (λK dn=> ?_) AllReadyH.nil))
     | (
       refine wpAnyH_ready (rs:= [5,9]) (by decide+kernel) (by simp) ?_;refine AllReadyH.cons rfl (λK fo=> ?_) (AllReadyH.cons rfl (λK dn=> ?_) AllReadyH.nil))
     | (
       refine wpAnyH_ready (rs:= [5]) (by decide+kernel) (by simp) ?_;refine AllReadyH.cons rfl (λK fo=> ?_) AllReadyH.nil)
     | (
       refine wpAnyH_ready (rs:= [8]) (by decide+kernel) (by simp) ?_;refine AllReadyH.cons rfl (λK ja=> ?_) AllReadyH.nil)
     | (
       refine wpAnyH_ready (rs:= [4]) (by decide+kernel) (by simp) ?_;refine AllReadyH.cons rfl (λK je=> ?_) AllReadyH.nil)
     | (
       refine wpAnyH_ready (rs:= [10]) (by decide+kernel) (by simp) ?_;refine AllReadyH.cons rfl (λK wR=> ?_) AllReadyH.nil)
     | (
       refine wpAnyH_ready (rs:= [9]) (by decide+kernel) (by simp) ?_;refine AllReadyH.cons rfl (λK dn=> ?_) AllReadyH.nil))
    all_goals refine wpAnyH_done (by kernel_rfl) ?_ _
    all_goals
     refine NoPanic.normal ?_;exact⟨rfl,gy,rfl,aa.1,aa.2.1,aa.2.2.1,aa.2.2.2.1,aa.2.2.2.2.1,aa.2.2.2.2.2.1,aa.2.2.2.2.2.2.1,aa.2.2.2.2.2.2.2.1,dN,by omega,aa.2.2.2.2.2.2.2.2⟩
   rintro gy x7 ⟨I6,I7,RX,Yw,Yx,OC,Va,RY,Vb,Vd,lU⟩;clear RS KZ RU Yu Yv De K3 RV ng;go_upto_region 10 with fail;refine wp_region_noPanic ?_;have Ya:=Yw.drew;have wS:=OC.drew;refine wp_region_held_drew (S:=λW=>Ar W w.heap.size 432 (aX (ek f) sb)/\Cx W gR 33 (rz)/\Ar W gs 16 (s)/\Po W gr 1 16 (ck)/\Po W gr 17 16 (o1)/\Ar W gx 16 (P)/\Ar W gy 16 (cp)/\Below w.heap.size w W) (by kernel_rfl) ⟨I6.drew,I7.drew,RX.drew,Yx.drew,RY.drew,Va.drew,Vb.drew,lU.drew⟩ (λaa=> ?_);clear I6 I7 RX Yx RY Va Vb lU Yw OC;generalize World.drew x7=OD at*;refine ty 0 rfl ?_;refine ty 2 rfl ?_ (λW hSw=>by have I8:=I9;go_simp;try with_reducible rfl);refine rd 1 rfl (λK hK=> ?_);have cF:=(Ya).1;go_simp;refine hK.out _ _ aa ?_;clear hK K aa cF;intro aa;try simp only [nr]
   refine rd 3 rfl (λK hK=> ?_);have hbl:=(wS).2.1;have hsz:=(wS).1;have hbs:b0<=OD.heap.size:=(by omega);rw [if_pos (by rfl)];refine wp_append_own _ _ _ 45 rfl b0 5 i0 (.int .u8 0) 1 1 Tryz.underlying45 oL.out qh.out oM.out tT.out (by decide) (by decide) _ _ _ rfl (wS).2.2.2 ⟨gy,0,none⟩ 16 16 (ae 16 cp) rfl (by simp [bz]) (λj u hu=>by rw [Addr.add_mid];exact(aa.2.2.2.2.2.2.1).range j u hu) (by first|exact dz 16 _|(intro u hu;simp at hu;subst hu;rfl)) (by have e1:=HN.out;have e2:=wQ.out;unfold maxLen;omega) (by have e1:=HN.out;have e2:=wQ.out;omega) hbs ?_;intro v8 X3 ni mF _;have k8:Below b0 OD X3:=(Below.refl _ _).grown mF hbs (λg hg=>yg (wS).2.2.2 hg);obtain⟨A3,c3,rfl⟩:=su ni;have ji:jQ X3 b0 (.slice A3 (16*(k+1)) c3) (16*(k+1)) (aP (16*(k+1)) (iW f s a l N)):=(by unfold jQ;rw [<-I4.out];exact ni);have uL:=k8.size;obtain⟨g3,Dg⟩: ∃g,X3.heap.size-1=g:=⟨_,rfl⟩;have Yb:Ob X3 b0 g3 (.slice A3 (16*(k+1)) c3) (16*(k+1)) (aP (16*(k+1)) (iW f s a l N)):=(by rw [<-Dg];exact Ob.new ji (by omega) (by omega));have ZA:b0<=g3+1:=Yb.2.1;have X5:=(Ya).keep (by omega) k8
   refine hK.out _ _ ⟨(aa.1).keep (by omega) k8,(aa.2.1).keep (by omega) k8,(aa.2.2.1).keep (by omega) k8,(aa.2.2.2.1).keep (by omega) k8,(aa.2.2.2.2.1).keep (by omega) k8,OE (aa.2.2.2.2.2.1) (by omega) mF (Ob.ne wS (by omega)),OE (aa.2.2.2.2.2.2.1) (by omega) mF (Ob.ne wS (by omega)),(aa.2.2.2.2.2.2.2).trans (k8.mono (by omega))⟩ ?_;clear hK K aa ni mF k8 ji uL Dg hbl hsz hbs Ya wS;intro aa;try simp only [nr]
   refine ty 4 rfl ?_;refine rd 5 rfl (λK hK=> ?_);have cF:=(X5).1;have fF:=(X5).2;go_simp;clear cF fF;have Yy:=(X5).put (.slice A3 (16*k+16) c3);have Yz:=(Yb).aaN ⟨gr,0,none⟩ (by simp<;>omega) (.slice A3 (16*k+16) c3);refine hK.out _ _ ⟨(aa.1).far (p:=⟨gr,0,none⟩) (by simp<;>omega) (.slice A3 (16*k+16) c3),(aa.2.1).far (p:=⟨gr,0,none⟩) (by simp<;>omega) (.slice A3 (16*k+16) c3),(aa.2.2.1).far (p:=⟨gr,0,none⟩) (by simp<;>omega) (.slice A3 (16*k+16) c3),(aa.2.2.2.1).far (p:=⟨gr,0,none⟩) (by simp<;>omega) (.slice A3 (16*k+16) c3),(aa.2.2.2.2.1).far (p:=⟨gr,0,none⟩) (by simp<;>omega) (.slice A3 (16*k+16) c3),(aa.2.2.2.2.2.1).far (p:=⟨gr,0,none⟩) (by simp<;>omega) (.slice A3 (16*k+16) c3),(aa.2.2.2.2.2.2.1).far (p:=⟨gr,0,none⟩) (by simp<;>omega) (.slice A3 (16*k+16) c3),(aa.2.2.2.2.2.2.2).setCell (p:=⟨gr,0,none⟩) (by simp<;>omega) (.slice A3 (16*k+16) c3)⟩ ?_;clear hK K aa X5 Yb;intro aa;generalize World.setCell X3 ⟨gr,0,none⟩ (.slice A3 (16*k+16) c3)=ZB at*;try simp only [Act.put]
   refine wpAnyH_done (by kernel_rfl) ?_ _;have Gp:=aa.1;have YA:=aa.2.1;have RZ:=aa.2.2.1;have Yc:=aa.2.2.2.1;have OG:=aa.2.2.2.2.1;have Yd:=aa.2.2.2.2.2.1;have YB:=aa.2.2.2.2.2.2.1;have zU:=aa.2.2.2.2.2.2.2;have YC:=Yy;have R3:=Yz;clear aa Yy Yz;refine NoPanic.normal ?_;try dsimp only [Act.put]
   go_wp2_with (first|(refine wpList_load_mid rfl _ _ rfl gr 1 rfl (ae 16 (ck)) _ Yc.range Tryz.aM rfl (ay _) ?_)|(refine bB rfl _ _ rfl _ _ _ rfl Yd Tryz.aM (ay _) ?_));refine(yY ck P _ hcb.out hpb.out).mono ?_;rintro e x8 ⟨rfl,hq⟩;have OH:=Gp.t hq;have OI:=YA.t hq;have YD:=RZ.t hq;have YE:=YC.to hq;have Ye:=Yc.t hq;have EF:=R3.to hq;have YF:=Yd.t hq;have YG:=OG.t hq;have K5:=YB.t hq;have pK:=Tq zU hq;clear hq Gp YA RZ YC Yc R3 Yd OG YB zU;go_upto_region 6 with (first|(refine wpList_store_mid rfl _ _ _ rfl gr 1 _ rfl rfl (Ye.there (ah ck P)) (ay _) (all_oneCell_toArray (dz 16 (ah ck P))) ?_)|fail);try dsimp only [List.toList_toArray]
   have Zl:=Ye.put (ah ck P);have R4:=(OH).apart (b:=gr) (by omega) (ae 16 (ah ck P)) 1;have R5:=(OI).apart (b:=gr) (by omega) (ae 16 (ah ck P)) 1;have Zm:=(YD).apart (b:=gr) (by omega) (ae 16 (ah ck P)) 1;have Zn:=(YE).off (b:=gr) (ae 16 (ah ck P)) 1 (.inr (by omega));have Zo:=(EF).old (by omega) (ae 16 (ah ck P)) 1;have ZC:=(YF).apart (b:=gr) (by omega) (ae 16 (ah ck P)) 1;have Zp:=(YG).off (b:=gr) (ae 16 (ah ck P)) 1 (.inr (.inr (by rw [bz];omega)));have ZE:=(K5).apart (b:=gr) (by omega) (ae 16 (ah ck P)) 1;have sw:=pK.trans (Below.setCells (Below.refl w.heap.size _) (b:=gr) (by omega) (ae 16 (ah ck P)) 1);generalize World.setCells x8 gr 1 (ae 16 (ah ck P))=x9 at*;clear OH OI YD YE Ye EF YF YG K5 pK;try dsimp only [Act.put]
   have Eu:=CJ.out;go_wp2_with fail;go_roundw;case rel=>exact⟨k+1,A3,c3,g3,by omega,by go_num,by omega,R4,R5,Zm,Zn,by rw [<-yX.out];exact Zl,by rw [yf.out,Ox.out];exact Zp,Zo,sw⟩
   case measure=>simp [intOf];omega
  ·obtain rfl:N=k:=by omega
   have i1: ¬(N:Int)<(N:Int):=(by omega);by_cases jZ:r=0
   ·have j1:(n:Int).tmod 16=0:=(by rw [jo.out.1,jZ];rfl);have j2:(n:Int)%16=0:=(by rw [jo.out.2,jZ];rfl);have YH:=Hi (show n=16*N by have:=eF.out;have:=HRR.out;omega);go_wp2_with (first|(refine wpList_load_mid rfl _ _ rfl gr 0 rfl (ik (.slice A2 (16*N) c2) (iF (pt l) N) (bS a s N)) _ (OJ XY XW ru) Gf.out KV.out (EE _ _ _) ?_)|(refine wpList_store_mid rfl _ _ _ rfl gR 0 (ik (.slice A2 (16*N) c2) (iF (pt l) N) (bS a s N)).toArray rfl rfl (by rw [List.size_toArray];exact oK.there 0 _ (by rw [ED];decide)) (by rw [List.size_toArray];exact EE _ _ _) (all_oneCell_toArray (RN rfl _ _)) ?_));try dsimp only [List.toList_toArray]
    have bI:=oK.put 0 (ik (.slice A2 (16*N) c2) (iF (pt l) N) (bS a s N)) (by rw [ED];decide);have cz:=mZ.old (b:=gR) (by omega) (ik (.slice A2 (16*N) c2) (iF (pt l) N) (bS a s N)) 0;have bD:=ib.trans (Below.setCells (Below.refl w.heap.size _) (b:=gR) (by omega) (ik (.slice A2 (16*N) c2) (iF (pt l) N) (bS a s N)) 0);obtain⟨Gq,jI,Yf⟩:=RO bI;refine aaO rfl rfl (OJ Gq jI Yf) Gf.out KV.out (EE _ _ _) rfl ⟨A2,c2,?_,?_,bD⟩
    ·rw [U2 HLEN.out eF.out HRR.out jZ,Ve eF.out HRR.out jZ,YH.out]
    ·rw [<-R6 HLEN.out eF.out,YH.out];exact K6 cz.2.2.2 (by omega)
   ·obtain⟨j1,j2⟩:=jo.out;have j3:(0:Int)<(r:Int):=(by omega);obtain⟨hab,wM,hcb,IA,yO⟩:=jX (mP tC.out aQ.out N) (λi hi=>agi (f:=f) (s:=s) (a:=a) l N i hi) (Gj yL.out N) (λj hj=>aaP dh.out aQ.out tC.out l N j hj) (λV (hb:Below w.heap.size w V)=>agj A9 (n-o) (c-o) (l.drop o) V (kI.out V V.heap.size l ((gD.out.below hb).more hb.size)) (by have:=eF.out;have:=HO.out;omega));obtain⟨XV,hck⟩: ∃u,iF (pt l) N=u:=⟨_,rfl⟩;obtain⟨an,sD⟩: ∃u,bS a s N=u:=⟨_,rfl⟩;rw [hck]at hcb;rw [sD]at hab wM;have vG:=Hi (dL hab.out aQ.out);obtain⟨o2,wT⟩: ∃u,ah an s=u:=⟨_,rfl⟩;rw [wT]at vG wM;obtain⟨K7,Dh,OL⟩:=dD wT (show aj (aJ f o2)from fM dh.out vG.out 10) (λV=>Ip f o2 V dh.out vG.out);obtain⟨pd,Em⟩: ∃u,aJ f o2=u:=⟨_,rfl⟩;rw [Em]at Dh OL wM;obtain⟨P,hP⟩: ∃u,lF (kH (l.drop o) 16)=u:=⟨_,rfl⟩;have hpb:=Hi (show aj P by rw [<-hP];exact λ_ _=>qx _ _);rw [hP]at yO;obtain⟨Iw,yX,qI⟩:=dD hP hck sD;rw [hck]at XW;rw [sD]at ru;clear hck sD Em hP wT;go_wp2_with (first|(refine wpList_load_mid rfl _ _ rfl gr 17 rfl (ae 16 (an)) _ ru.range Tryz.aM rfl (ay _) ?_)|(refine bB rfl _ _ rfl _ _ _ rfl vC Tryz.aM (ay _) ?_));refine(yY an s _ hab.out aQ.out).mono ?_;rintro e Gr ⟨rfl,hq⟩;rw [K7.out];have YI:=qC.t hq;have YJ:=oK.t hq;have YK:=vC.t hq;have YL:=XY.to hq;have YM:=XW.t hq;have Yg:=ru.t hq;have OM:=mZ.to hq
    have sF:=Tq ib hq;clear hq qC oK vC XY XW ru mZ ib;go_upto_region 14 with (first|(refine wpList_store_mid rfl _ _ _ rfl gr 17 _ rfl rfl (Yg.there (o2)) (ay _) (all_oneCell_toArray (dz 16 (o2))) ?_)|fail);try dsimp only [List.toList_toArray]
    have Yh:=Yg.put (o2);have K8:=(YI).apart (b:=gr) (by omega) (ae 16 (o2)) 17;have OO:=(YJ).apart (b:=gr) (by omega) (ae 16 (o2)) 17;have YN:=(YK).apart (b:=gr) (by omega) (ae 16 (o2)) 17;have YO:=(YL).off (b:=gr) (ae 16 (o2)) 17 (.inr (by omega));have YP:=(YM).off (b:=gr) (ae 16 (o2)) 17 (.inr (.inl (by omega)));have YQ:=(OM).old (by omega) (ae 16 (o2)) 17;have wU:=sF.trans (Below.setCells (Below.refl w.heap.size _) (b:=gr) (by omega) (ae 16 (o2)) 17);generalize World.setCells Gr gr 17 (ae 16 (o2))=OP at*;clear YI YJ YK YL YM Yg OM sF;try dsimp only [Act.put]
    clear j1 j2 j3 i1;go_wp2_with (first|(refine wpList_load_mid rfl _ _ rfl w.heap.size 0 rfl (ae 432 (aX (ek f) sb)) _ K8.range HS.out HW.out (nE _) ?_)|(refine wpList_load_mid rfl _ _ rfl gr 17 rfl (ae 16 (o2)) _ Yh.range Tryz.aM rfl (ay _) ?_));refine(OL.out _).mono ?_;rintro e tY ⟨rfl,hq⟩;have YR:=K8.t hq;have YS:=OO.t hq;have YT:=YN.t hq;have Yi:=YO.to hq;have YU:=YP.t hq;have YV:=Yh.t hq;have Ja:=YQ.to hq;have tZ:=Tq wU hq;clear hq K8 OO YN YO YP Yh YQ wU;obtain⟨p1,xV⟩:=Lv (tY.alloc (.cells (ae 16 λ_=>0).toArray 22));have hq:=Bl xV;have hlp:gw<tY.heap.size:=Ja.lt;have YW:w.heap.size<=tY.heap.size:=tZ.size;have Zq:gr<tY.heap.size:=Yi.lt;have YX:=YR.t hq;have YY:=YS.t hq;have YZ:=YT.t hq;have Y1:=Yi.to hq;have Y2:=YU.t hq;have Y3:=YV.t hq;have Y4:=Ja.to hq;have Y5:=Tq tZ hq;have Y6:Wb p1 tY.heap.size 16 (λ_=>0) 22:=(by rw [xV];exact Wb.new tY 16 _ _);clear hq YR YS YT Yi YU YV Ja tZ;go_upto_region 15 with (first|(refine XF rfl _ _ _ rfl _ _ _ pd 22 rfl rfl (by rw [<-xV];exact Y6) (ay _) ?_;intro p2 Yj dE qM oI)|fail);rw [<-xV]at dE;obtain⟨gp,uM⟩:=Le (tY.heap.size);try rw [uM]
    rw [uM]at hlp YW Zq Yj dE;have Y7:=YX.keep (by omega) dE;have Y8:=YY.keep (by omega) dE;have Y9:=YZ.keep (by omega) dE;have Za:=Y1.keep (by omega) dE;have Zb:=Y2.keep (by omega) dE;have Zc:=Y3.keep (by omega) dE;have Zd:=Y4.keep (by omega) dE;have Ze:=Y5.trans (dE.mono YW);clear dE qM oI uM xV Y6 YX YY YZ Y1 Y2 Y3 Y4 Y5;try dsimp only [Act.put]
    obtain⟨k1,k2,k3,k4⟩:=Ep.out;go_wp2_with fail;clear k1 k2 k3 k4;have Zf:Ce p2 gr (.slice A2 o c2):=(by rw [<-HO.out];exact Za);have Zg:Ob p2 b0 gw (.slice A2 o c2) o (aP o (iW f s a l N)):=(by rw [<-HO.out];exact Zd);have hon:o<=n:=(by have:=eF.out;have:=HO.out;omega);go_loopw [14] (λt wr=> ∃(i:Nat) (A2:Option Addr) (c2 gw:Nat),o<=i/\i<=n/\t= .int .i64 i/\gr<=gw/\Ar wr w.heap.size 432 (aX (ek f) sb)/\Cx wr gR 33 (rz)/\Ar wr gs 16 (s)/\Ce wr gr (.slice A2 i c2)/\Po wr gr 1 16 (XV)/\Po wr gr 17 16 (o2)/\Ob wr b0 gw (.slice A2 i c2) (i) (aP i (iW f s a l N))/\Wb wr gp 16 (pd) 22/\Below w.heap.size w wr) (λt _=>n-(intOf t).toNat);case atStart=>exact⟨o,A2,c2,gw,Nat.le_refl _,hon,rfl,hgw,Y7,Y8,Y9,Zf,Zb,Zc,Zg,Yj,Ze⟩
    case round=>
     clear Y7 Y8 Y9 Za Zb Zc Zd Yj Ze Zf Zg hgw;obtain⟨i,A4,c4,Vf,hoi,hin,rfl,hgw,qC,oK,vC,XY,XW,ru,mZ,Jb,ib⟩:=hrel;by_cases Vg:i<n
     ·have i2:(i:Int)<(n:Int):=(by omega);obtain⟨b,ob,pJ,hbl⟩:=KX gD.out (by omega);subst pJ;obtain⟨q1,cB⟩:=Le (i-o);have Jc:q1<16:=(by have:=eF.out;have:=HO.out;omega);obtain⟨EG,Bu⟩:=aB (aaH (i:=i) (o:=o) (q:=q1) (by omega) (by have:=HN.out;omega)) (wM.out i (by rw [HO.out];exact hoi));rw [HO.out,cB]at Bu;have Bw:=Hi (mo _ _ (qx l i) (Dh.out q1 Jc));have hzb:lF l i^^^pd q1<256:=Nat.xor_lt_two_pow (n:=8) (qx l i) (Dh.out q1 Jc);have EH:=Hi (λV (hb:Below w.heap.size w V)=>aaI (gD.out.below hb) i Vg);obtain⟨x,hx⟩: ∃u,lF l i=u:=⟨_,rfl⟩;rw [hx]at Bw Bu EH hzb;obtain⟨z,bJ⟩: ∃u,x^^^pd q1=u:=⟨_,rfl⟩;rw [bJ]at Bw Bu hzb;obtain⟨OQ,Jd⟩:=aB (show(aP i (iW f s a l N)).map b8++ [n8 z]=(aP (i+1) (iW f s a l N)).map b8 by rw [Bu.out,List.map_append,List.map_singleton,Bz _ hzb];rfl) (show(q1:Int)<16 by omega);clear hx bJ cB hzb Bu;go_upto_region 18 with fail;refine wp_region_noPanic ?_;have XX:=XY.drew;have iG:=mZ.drew;refine wp_region_held_drew (S:=λW=>Ar W w.heap.size 432 (aX (ek f) sb)/\Cx W gR 33 (rz)/\Ar W gs 16 (s)/\Po W gr 1 16 (XV)/\Po W gr 17 16 (o2)/\Wb W gp 16 (pd) 22/\Below w.heap.size w W) (by kernel_rfl) ⟨qC.drew,oK.drew,vC.drew,XW.drew,ru.drew,Jb.drew,ib.drew⟩ (λaa=> ?_);clear qC oK vC XW ru Jb ib XY mZ;generalize World.drew wr=V at*;refine ty 0 rfl ?_;refine ty 2 rfl ?_;refine ty 3 rfl ?_
      refine ty 4 rfl ?_ (λW hSw=>by have hpi:=EH.out W hSw.2.2.2.2.2.2;go_simp;try with_reducible rfl);refine ty 5 rfl ?_ (λW hSw=>by have hpi:=EH.out W hSw.2.2.2.2.2.2;go_simp;try with_reducible rfl);refine ty 6 rfl ?_;refine ty 7 rfl ?_;refine ty 8 rfl ?_ (λW hSw=>by obtain⟨k1,k2,k3,k4⟩:=Ep.out;obtain⟨m1,m2,m3,m4⟩:=EG.out;go_simp;try with_reducible rfl);refine ty 9 rfl ?_ (λW hSw=>by obtain⟨k1,k2,k3,k4⟩:=Ep.out;obtain⟨m1,m2,m3,m4⟩:=EG.out;go_simp;try with_reducible rfl);refine ty 10 rfl ?_ (λW hSw=>by have Jc:=Jd.out;obtain⟨m1,m2,m3,m4⟩:=EG.out;go_simp;try with_reducible rfl);refine ty 11 rfl ?_ (λW hSw=>by have hpc:=((hSw.2.2.2.2.2.1).ar q1 (by have:=Jd.out;omega)).1;go_simp;try with_reducible rfl);refine ty 12 rfl ?_ (λW hSw=>by have sZ:=Bw.out;go_simp;try with_reducible rfl);repeat' (first
       | (
         have hK:=aN;clear aN;have cF:=(XX).1;go_simp;refine hK.out _ _ aa ?_;clear hK K aa cF;intro aa;try simp only [nr])
       | (
         have hK:=La;clear La;obtain⟨gz,hgz⟩:=Le (V.heap.size);go_simp;refine FW _ (λV hV=> ?_);have hq:=FX hV;have CS:V.cell? ⟨gz,0,none⟩=some (n8 z):=(by rw [hV,<-hgz,World.cell?_alloc_at _ _ _ _ rfl];rfl);try rw [hgz]
         try replace XX:=XX.to hq
         try replace iG:=iG.to hq
         refine ko hK hq aa ?_;clear hK hq hV hgz;intro lT;clear aa;have aa:=lT;clear lT;try simp only [nr])
       | (
         have hK:=OT;clear OT;have hbl:=(iG).2.1;have hsz:=(iG).1;have hbs:b0<=V.heap.size:=(by omega);rw [if_pos (by rfl)];refine wp_append_own _ _ _ 45 rfl b0 5 i0 (.int .u8 0) 1 1 Tryz.underlying45 oL.out qh.out oM.out tT.out (by decide) (by decide) _ _ _ rfl (iG).2.2.2 ⟨gz,0,none⟩ 1 1 ([n8 z]) rfl (by simp [bz]) (λj u hu=>by cases j with|zero=>(simp at hu;subst hu;exact CS)|succ j=>simp at hu) (by first|exact dz 16 _|(intro u hu;simp at hu;subst hu;rfl)) (by have e1:=HN.out;have e2:=hin;unfold maxLen;omega) (by have e1:=HN.out;have e2:=hin;omega) hbs ?_;intro v8 V ni mF _;have k8:Below b0 _ V:=(Below.refl _ _).grown mF hbs (λg hg=>yg (iG).2.2.2 hg);obtain⟨A5,c5,rfl⟩:=su ni;have ji:jQ V b0 (.slice A5 (i+1) c5) (i+1) (aP (i+1) (iW f s a l N)):=(by unfold jQ;rw [<-OQ.out];exact ni);have uL:=k8.size;obtain⟨g5,zV⟩: ∃g,V.heap.size-1=g:=⟨_,rfl⟩;have Yk:Ob V b0 g5 (.slice A5 (i+1) c5) (i+1) (aP (i+1) (iW f s a l N)):=(by rw [<-zV];exact Ob.new ji (by omega) (by omega));have aaQ:b0<=g5+1:=Yk.2.1;try replace XX:=(XX).keep (by omega) k8
         refine hK.out _ _ ⟨(aa.1).keep (by omega) k8,(aa.2.1).keep (by omega) k8,(aa.2.2.1).keep (by omega) k8,(aa.2.2.2.1).keep (by omega) k8,(aa.2.2.2.2.1).keep (by omega) k8,aaR (aa.2.2.2.2.2.1) (by omega) mF (aaS (aa.2.2.2.2.2.1) iG.2.2.2),(aa.2.2.2.2.2.2).trans (k8.mono (by omega))⟩ (λZh=> ?_);clear hK K aa ni mF k8 ji uL zV hbl hsz hbs;clear iG;have iG:=Yk;clear Yk;have aa:=Zh;clear Zh;try simp only [nr]
         refine tx 15 rfl ?_;try simp only [nr])
       | (
         have hK:=Zi;clear Zi;have cF:=(XX).1;have fF:=(XX).2;go_simp;clear cF fF;try replace XX:=(XX).put (.slice A5 (i+1) c5)
         try replace iG:=(iG).aaN ⟨gr,0,none⟩ (by simp<;>omega) (.slice A5 (i+1) c5)
         refine hK.out _ _ ⟨(aa.1).far (p:=⟨gr,0,none⟩) (by simp<;>omega) (.slice A5 (i+1) c5),(aa.2.1).far (p:=⟨gr,0,none⟩) (by simp<;>omega) (.slice A5 (i+1) c5),(aa.2.2.1).far (p:=⟨gr,0,none⟩) (by simp<;>omega) (.slice A5 (i+1) c5),(aa.2.2.2.1).far (p:=⟨gr,0,none⟩) (by simp<;>omega) (.slice A5 (i+1) c5),(aa.2.2.2.2.1).far (p:=⟨gr,0,none⟩) (by simp<;>omega) (.slice A5 (i+1) c5),agk (aa.2.2.2.2.2.1) (p:=⟨gr,0,none⟩) (by simp<;>omega) (.slice A5 (i+1) c5),(aa.2.2.2.2.2.2).setCell (p:=⟨gr,0,none⟩) (by simp<;>omega) (.slice A5 (i+1) c5)⟩ ?_;clear hK K aa;intro aa;generalize World.setCell V ⟨gr,0,none⟩ (.slice A5 (i+1) c5)=V at*;try simp only [Act.put])
       | (
         refine wpAnyH_ready (rs:= [1,13]) (by decide+kernel) (by simp) ?_;refine AllReadyH.cons rfl (λK aN=> ?_) (AllReadyH.cons rfl (λK La=> ?_) AllReadyH.nil))
       | (
         refine wpAnyH_ready (rs:= [14]) (by decide+kernel) (by simp) ?_;refine AllReadyH.cons rfl (λK OT=> ?_) AllReadyH.nil)
       | (
         refine wpAnyH_ready (rs:= [1]) (by decide+kernel) (by simp) ?_;refine AllReadyH.cons rfl (λK aN=> ?_) AllReadyH.nil)
       | (
         refine wpAnyH_ready (rs:= [16]) (by decide+kernel) (by simp) ?_;refine AllReadyH.cons rfl (λK Zi=> ?_) AllReadyH.nil)
       | (
         refine wpAnyH_ready (rs:= [13]) (by decide+kernel) (by simp) ?_;refine AllReadyH.cons rfl (λK La=> ?_) AllReadyH.nil))
      all_goals refine wpAnyH_done (by kernel_rfl) ?_ _
      all_goals
       have Zr:=aa.1;have OU:=aa.2.1;have OV:=aa.2.2.1;have Zt:=aa.2.2.2.1;have Zu:=aa.2.2.2.2.1;have Vh:=aa.2.2.2.2.2.1;have Lb:=aa.2.2.2.2.2.2;have Zv:=XX;have Vi:=iG;clear aa XX iG;refine NoPanic.normal ?_;try dsimp only [Act.put]
       have e1:=HN.out;clear EG Jd Bw OQ EH;go_wp2_with fail;go_roundw;case rel=>exact⟨i+1,A5,c5,g5,by omega,by omega,by go_num,by omega,Zr,OU,OV,Zv,Zt,Zu,Vi,Vh,Lb⟩
       case measure=>simp [intOf];omega
     ·obtain rfl:n=i:=by omega
      have i2: ¬(n:Int)<(n:Int):=(by omega);go_upto_region 19 with fail;clear i2;apply Ky (F:=λW=>Ar W w.heap.size 432 (aX (ek f) sb)/\Cx W gR 33 (rz)/\Ar W gs 16 (s)/\Ce W gr (.slice A4 n c4)/\Po W gr 17 16 (o2)/\Ob W b0 Vf (.slice A4 n c4) (n) (aP n (iW f s a l N))/\Wb W gp 16 (pd) 22/\Po W gr 1 16 (ah XV P)/\Below w.heap.size w W);case h1=>
       refine wp_region_noPanic ?_;have XZ:=XW.drew;refine wp_region_held_drew (S:=λW=>Ar W w.heap.size 432 (aX (ek f) sb)/\Cx W gR 33 (rz)/\Ar W gs 16 (s)/\Ce W gr (.slice A4 n c4)/\Po W gr 17 16 (o2)/\Ob W b0 Vf (.slice A4 n c4) (n) (aP n (iW f s a l N))/\Wb W gp 16 (pd) 22/\Below w.heap.size w W) (by kernel_rfl) ⟨qC.drew,oK.drew,vC.drew,XY.drew,ru.drew,mZ.drew,Jb.drew,ib.drew⟩ (λaa=> ?_);generalize World.drew wr=V at*;refine ty 0 rfl ?_;refine ty 2 rfl ?_;refine ty 3 rfl ?_;refine ty 4 rfl ?_ (λW hSw=>by obtain⟨k1,k2,k3,k4⟩:=Ep.out;go_simp;try with_reducible rfl);refine ty 5 rfl ?_ (λW hSw=>by have NA:=qR.out;go_simp;try with_reducible rfl);repeat' (first
        | (
          have hK:=aN;clear aN;rw [if_pos (by rfl)];refine wp_load_mid _ _ rfl gr 1 rfl (ae 16 (XV)) _ XZ.range Tryz.aM rfl (ay _) ?_;refine hK.out _ _ aa ?_;clear hK K aa;intro aa;try simp only [nr])
        | (
          refine kc fV (yO.out _ (aa.2.2.2.2.2.2.2)) aa ?_;clear fV K aa;intro V hq aa;try replace XZ:=XZ.t hq
          clear hq;try simp only [nr])
        | (
          refine kc jE (yY XV P _ hcb.out hpb.out) aa ?_;clear jE K aa;intro V hq aa;try replace XZ:=XZ.t hq
          clear hq;try simp only [nr]
          refine tx 8 rfl ?_;try simp only [nr])
        | (
          have hK:=dn;clear dn;rw [if_pos (by rfl)];refine wp_store_mid _ _ _ rfl gr 1 (ae 16 (ah XV P)).toArray rfl rfl (XZ.there (ah XV P)) (ay _) (all_oneCell_toArray (dz 16 (ah XV P))) ?_;try replace XZ:=XZ.put (ah XV P)
          dsimp only [List.toList_toArray];refine hK.out _ _ ⟨(aa.1).apart (b:=gr) (by omega) (ae 16 (ah XV P)) 1,(aa.2.1).apart (b:=gr) (by omega) (ae 16 (ah XV P)) 1,(aa.2.2.1).apart (b:=gr) (by omega) (ae 16 (ah XV P)) 1,(aa.2.2.2.1).off (b:=gr) (ae 16 (ah XV P)) 1 (.inr (by omega)),(aa.2.2.2.2.1).off (b:=gr) (ae 16 (ah XV P)) 1 (.inr (.inr (by rw [bz];omega))),(aa.2.2.2.2.2.1).old (by omega) (ae 16 (ah XV P)) 1,aaT (aa.2.2.2.2.2.2.1) (b:=gr) (by omega) (ae 16 (ah XV P)) 1,(aa.2.2.2.2.2.2.2).trans (Below.setCells (Below.refl w.heap.size _) (b:=gr) (by omega) (ae 16 (ah XV P)) 1)⟩ ?_;clear hK K aa;intro aa;generalize World.setCells V gr 1 (ae 16 (ah XV P))=V at*;try simp only [Act.put])
        | (
          refine wpAnyH_ready (rs:= [1,6]) (by decide+kernel) (by simp) ?_;refine AllReadyH.cons rfl (λK aN=> ?_) (AllReadyH.cons rfl (λK fV=> ?_) AllReadyH.nil))
        | (
          refine wpAnyH_ready (rs:= [6]) (by decide+kernel) (by simp) ?_;refine AllReadyH.cons rfl (λK fV=> ?_) AllReadyH.nil)
        | (
          refine wpAnyH_ready (rs:= [1]) (by decide+kernel) (by simp) ?_;refine AllReadyH.cons rfl (λK aN=> ?_) AllReadyH.nil)
        | (
          refine wpAnyH_ready (rs:= [7]) (by decide+kernel) (by simp) ?_;refine AllReadyH.cons rfl (λK jE=> ?_) AllReadyH.nil)
        | (
          refine wpAnyH_ready (rs:= [9]) (by decide+kernel) (by simp) ?_;refine AllReadyH.cons rfl (λK dn=> ?_) AllReadyH.nil))
       all_goals refine wpAnyH_done (by kernel_rfl) ?_ _
       all_goals
        refine NoPanic.normal ?_;exact⟨rfl,rfl,aa.1,aa.2.1,aa.2.2.1,aa.2.2.2.1,aa.2.2.2.2.1,aa.2.2.2.2.2.1,aa.2.2.2.2.2.2.1,XZ,aa.2.2.2.2.2.2.2⟩
      rintro Je ⟨Vj,OW,ZF,Zw,Zx,Lc,ZG,Zy,uf⟩;clear qC oK vC XY ru mZ Jb XW ib;go_wp2_with (first|(refine wpList_load_mid rfl _ _ rfl gr 0 rfl (ik (.slice A4 n c4) (ah XV P) (o2)) _ (OJ Zw Zy Zx) Gf.out KV.out (EE _ _ _) ?_)|(refine wpList_store_mid rfl _ _ _ rfl gR 0 (ik (.slice A4 n c4) (ah XV P) (o2)).toArray rfl rfl (by rw [List.size_toArray];exact OW.there 0 _ (by rw [ED];decide)) (by rw [List.size_toArray];exact EE _ _ _) (all_oneCell_toArray (RN rfl _ _)) ?_));try dsimp only [List.toList_toArray]
      have bI:=OW.put 0 (ik (.slice A4 n c4) (ah XV P) (o2)) (by rw [ED];decide);have cz:=Lc.old (b:=gR) (by omega) (ik (.slice A4 n c4) (ah XV P) (o2)) 0;have bD:=uf.trans (Below.setCells (Below.refl w.heap.size _) (b:=gR) (by omega) (ik (.slice A4 n c4) (ah XV P) (o2)) 0);obtain⟨Gq,jI,Yf⟩:=RO bI;refine aaO rfl rfl (OJ Gq jI Yf) Gf.out KV.out (EE _ _ _) rfl ⟨A4,c4,?_,?_,bD⟩
      ·rw [U3 HLEN.out eF.out HRR.out jZ HO.out Iw.out,Vk eF.out HRR.out jZ,yX.out,qI.out,K7.out]
      ·rw [<-R6 HLEN.out eF.out];exact K6 cz.2.2.2 (by omega)
end
section
open Go.RowKit
theorem aem {f s:Nat->Nat} (hf:aj f) (hs:aj s) (l:List UInt8):aj (wH f s l):=dL (Np hf hs (λ_ _ _=>qA _ _ _) _) (Ri hf hs (mP jw hs _) _)
theorem anD (f s c o:Nat->Nat) (v:Value) (A:Option Addr) (n cc:Nat) (d:List UInt8) (w:World) (hf:aj f) (hs:aJ f zF=s) (hc:aj c) (ho:aj o) (hS:Sl w w.heap.size A n d) (hnc:n<=cc) (hn:n<=0):
  Calls Tryz.prog 125 #[.agg (ae 432 (aX (ek f) sb)).toArray,.agg (ik v c o).toArray,.slice A n cc] w λe w'=>e= .returned (.agg (ae 16 (uB f s c o d)).toArray)/\Below w.heap.size w w':=by
 obtain⟨kE,dZ⟩:=Le ((ae 432 (aX (ek f) sb)).toArray);obtain⟨kS,bV⟩:=Le ((ik v c o).toArray);obtain⟨w1,af,ak,aW,iC⟩:=nA w 432 (aX (ek f) sb) 35;obtain⟨w2,ag⟩:=Lv (w1.alloc (.cells (ik v c o).toArray 213));have aD:=uN ag ak;have bU:=Bm ag aW;have fZ:=bn ag iC;have Yg:Cx w2 (w.heap.size+1) 33 (λj=>(ik v c o).getD j undef):=by rw [ag,<-ak];rw [RL];exact Cx.new w1 33 _ _
 clear iC aW;obtain⟨w3,az,fe,fJ,fB⟩:=o7 aD bU 16 (λ_=>0) 22;have qb:=bn az fZ;have X3:Cx w3 (w.heap.size+1) 33 (λj=>(ik v c o).getD j undef):=by rw [az];exact Yg.alloc (by omega) _
 clear fZ Yg bU;rw [dZ]at af;rw [bV]at ag;rw [dZ,bV];clear dZ bV;have hz:=jf;obtain⟨dK,hfs,hrow⟩:=Tryz.qa;obtain⟨HS,HW⟩:=aB hfs hrow;clear hfs hrow;obtain⟨dh,IA,El,gD,aQ,hst⟩:=qB hf hc ho hS (show aj s by rw [<-hs];exact fM hf jw 10) (λV=>Rl f V hf jw);rw [hs]at hst;obtain⟨nW,fP,HN⟩:=dD hs hnc hn;clear hf hc ho hS hs hnc hn;go_enter Tryz.func125,Tryz.ntmps125;go_upto_region 1 with fail;rw [<-af,<-ag,<-az];clear af ag az;try simp only [Nat.add_assoc,Nat.reduceAdd]
 obtain⟨gS,vz⟩:=Le (w.heap.size+1);rw [vz]at X3;obtain⟨gR,hgR⟩:=Le (w.heap.size+2);rw [hgR]at fB;try rw [hgR]
 try rw [vz]
 have YJ:w.heap.size<gS:=by omega
 have jD:gS<gR:=by omega
 clear ak aD fe vz hgR;obtain⟨Yh,X4,X5⟩:=acE X3;clear X3;go_wp2_with (first|(refine wpList_load_mid rfl _ _ rfl gS 1 rfl (ae 16 (c)) _ X4.range Tryz.aM rfl (ay _) ?_)|(refine wpList_load_mid rfl _ _ rfl gS 17 rfl (ae 16 (o)) _ X5.range Tryz.aM rfl (ay _) ?_));refine(yY c o _ IA.out El.out).mono ?_;rintro e x1 ⟨rfl,hq⟩;have jY:=qb.t hq;have jG:=fB.t hq;have X6:=Yh.to hq;have X7:=X4.t hq;have X8:=X5.t hq;have aT:=Tq fJ hq;clear hq qb fB Yh X4 X5 fJ;obtain⟨gx,hgx⟩:=Le (x1.heap.size);have Gm:w.heap.size<gx:=by rw [<-hgx];exact jY.lt (by omega)
 have U7:gR<gx:=by rw [<-hgx];exact jG.lt (by omega)
 have XV:gS<gx:=by rw [<-hgx];exact X6.lt
 have XV:gS<gx:=by rw [<-hgx];exact X7.lt (by omega)
 have XV:gS<gx:=by rw [<-hgx];exact X8.lt (by omega)
 have I5:w.heap.size<=gx:=by rw [<-hgx];exact aT.size
 have hq:=Ba x1 (.cells (ae 16 λ_=>0).toArray 22);have xN:=jY.t hq;have xO:=jG.t hq;have Yi:=X6.to hq;have Yj:=X7.t hq;have Yk:=X8.t hq;have Ya:=Ar.new x1 16 (λ_=>0) 22;have qU:=aT.alloc aT.size (.cells (ae 16 λ_=>0).toArray 22);rw [hgx]at Ya;clear hq jY jG X6 X7 X8 aT;go_upto_region 2 with (first|(refine bC rfl _ _ _ rfl _ _ _ (ah c o) rfl rfl Ya (ay _) ?_;intro x2 MP jh yQ yR)|fail);have og:=(xN).keep Gm jh;have pq:=(xO).keep U7 jh;have XX:=(Yi).keep XV jh;have XY:=(Yj).keep XV jh;have XZ:=(Yk).keep XV jh;have di:=qU.trans (jh.mono I5);clear xN xO Yi Yj Yk Ya qU jh yQ yR hgx;try dsimp only [Act.put]
 apply Ky (F:=λW=>Ar W w.heap.size 432 (aX (ek f) sb)/\Ar W gR 16 (λ_=>0)/\Ar W gx 16 (ah (ah c o) (dk s 1))/\Below w.heap.size w W);case h1=>
  refine wp_region_noPanic ?_;have oW:=MP.drew;refine wp_region_held_drew (S:=λW=>Ar W w.heap.size 432 (aX (ek f) sb)/\Ar W gR 16 (λ_=>0)/\Below w.heap.size w W) (by kernel_rfl) ⟨og.drew,pq.drew,di.drew⟩ (λaa=> ?_);generalize World.drew x2=V at*;refine tm 1 (λW hSw=>hSw.1.range) HS.out HW.out (nE _) ?_;repeat' (first
   | (
     have hK:=ky;clear ky;rw [if_pos (by rfl)];refine wp_load_mid _ _ rfl gx 0 rfl (ae 16 (ah c o)) _ oW.range Tryz.aM rfl (ay _) ?_;refine hK.out _ _ aa ?_;clear hK K aa;intro aa;try simp only [nr])
   | (
     refine kc aI (hst.out _) aa ?_;clear aI K aa;intro V hq aa;try replace oW:=oW.t hq
     clear hq;try simp only [nr])
   | (
     refine kc dw (agF s _ aQ.out) aa ?_;clear dw K aa;intro V hq aa;try replace oW:=oW.t hq
     clear hq;try simp only [nr])
   | (
     refine kc je (yY (ah c o) (dk s 1) _ (dL IA.out El.out) (xG aQ.out 1)) aa ?_;clear je K aa;intro V hq aa;try replace oW:=oW.t hq
     clear hq;try simp only [nr])
   | (
     have hK:=fo;clear fo;rw [if_pos (by rfl)];refine wp_store_mid _ _ _ rfl gx 0 (ae 16 (ah (ah c o) (dk s 1))).toArray rfl rfl oW.there (ay _) (all_oneCell_toArray (dz 16 (ah (ah c o) (dk s 1)))) ?_;try replace oW:=oW.whole (ah (ah c o) (dk s 1))
     dsimp only [List.toList_toArray];refine so hK (w:=V) (b:=gx) (o:=0) (vs:=(ae 16 (ah (ah c o) (dk s 1)))) aa ?_;clear hK K aa;intro aa;generalize World.setCells V gx 0 (ae 16 (ah (ah c o) (dk s 1)))=V at*;try simp only [Act.put])
   | (
     refine wpAnyH_ready (rs:= [0,3]) (by decide+kernel) (by simp) ?_;refine AllReadyH.cons rfl (λK ky=> ?_) (AllReadyH.cons rfl (λK dw=> ?_) AllReadyH.nil))
   | (
     refine wpAnyH_ready (rs:= [0,2]) (by decide+kernel) (by simp) ?_;refine AllReadyH.cons rfl (λK ky=> ?_) (AllReadyH.cons rfl (λK aI=> ?_) AllReadyH.nil))
   | (
     refine wpAnyH_ready (rs:= [2]) (by decide+kernel) (by simp) ?_;refine AllReadyH.cons rfl (λK aI=> ?_) AllReadyH.nil)
   | (
     refine wpAnyH_ready (rs:= [5]) (by decide+kernel) (by simp) ?_;refine AllReadyH.cons rfl (λK fo=> ?_) AllReadyH.nil)
   | (
     refine wpAnyH_ready (rs:= [4]) (by decide+kernel) (by simp) ?_;refine AllReadyH.cons rfl (λK je=> ?_) AllReadyH.nil)
   | (
     refine wpAnyH_ready (rs:= [0]) (by decide+kernel) (by simp) ?_;refine AllReadyH.cons rfl (λK ky=> ?_) AllReadyH.nil)
   | (
     refine wpAnyH_ready (rs:= [3]) (by decide+kernel) (by simp) ?_;refine AllReadyH.cons rfl (λK dw=> ?_) AllReadyH.nil))
  all_goals refine wpAnyH_done (by kernel_rfl) ?_ _
  all_goals
   refine NoPanic.normal ?_;exact⟨rfl,rfl,aa.1,aa.2.1,oW,aa.2.2⟩
 rintro x3 ⟨qg,mQ,MR,dJ⟩;clear og pq MP di;have hyb:=Hi (dL (dL IA.out El.out) (xG aQ.out 1));obtain⟨y,hy⟩: ∃u,ah (ah c o) (dk s 1)=u:=⟨_,rfl⟩;rw [hy]at hyb MR;have HY:=Hi hy;clear hy;go_upto_region 3 with fail;refine wp_region_noPanic ?_;have Yl:=mQ.drew;refine wp_region_held_drew (S:=λW=>Ar W w.heap.size 432 (aX (ek f) sb)/\Ar W gx 16 (y)/\Below w.heap.size w W) (by kernel_rfl) ⟨qg.drew,MR.drew,dJ.drew⟩ (λaa=> ?_);clear qg MR dJ mQ;generalize World.drew x3=YK at*;refine tm 0 (λW hSw=>hSw.1.range) HS.out HW.out (nE _) ?_;refine tm 1 (λW hSw=>hSw.2.1.range) Tryz.aM rfl (ay _) ?_;refine tm 3 (λW hSw=>hSw.1.range) HS.out HW.out (nE _) ?_;refine ty 4 rfl ?_;refine rq 2 rfl (Ip f y _ dh.out hyb.out) aa ?_;clear aa;intro YL hq aa;have Ym:=Yl.t hq;clear hq Yl;try simp only [nr]
 refine rq 5 rfl (aeV f s A n cc d _ dh.out nW.out ((gD.out.below (aa.2.2)).more (aa.2.2).size) fP.out HN.out) aa ?_;clear aa;intro YM hq aa;have Yn:=Ym.t hq;clear hq Ym;try simp only [nr]
 refine rq 6 rfl (yY (aJ f y) (wH f s d) _ (fM dh.out hyb.out 10) (aem dh.out aQ.out d)) aa ?_;clear aa;intro Yo hq aa;have Yb:=Yn.t hq;clear hq Yn;try simp only [nr]
 refine rd 7 rfl (λK hK=> ?_);rw [if_pos (by rfl)];refine wp_store_mid _ _ _ rfl gR 0 (ae 16 (ah (aJ f y) (wH f s d))).toArray rfl rfl Yb.there (ay _) (all_oneCell_toArray (dz 16 (ah (aJ f y) (wH f s d)))) ?_;have Yp:=Yb.whole (ah (aJ f y) (wH f s d));dsimp only [List.toList_toArray];refine so hK (w:=Yo) (b:=gR) (o:=0) (vs:=(ae 16 (ah (aJ f y) (wH f s d)))) aa ?_;clear hK K aa Yb;intro aa;generalize World.setCells Yo gR 0 (ae 16 (ah (aJ f y) (wH f s d)))=YN at*;try simp only [Act.put]
 refine wpAnyH_done (by kernel_rfl) ?_ _;have bI:=Yp;have bD:=aa.2.2;clear aa Yp;refine NoPanic.normal ?_;go_wp2_with fail;refine dU rfl rfl bI Tryz.aM (ay _) rfl ⟨by rw [<-HY.out];rfl,bD⟩
theorem WR (l:List UInt8):aj (mD l):=by
 unfold mD;split
 ·exact Gj (λ_ _ _=>qA _ _ _) _
 ·exact dL (Gj (λ_ _ _=>qA _ _ _) _) (λ_ _=>qx _ _)
theorem WS {s a:Nat->Nat} (hs:aj s) (ha:aj a) (n:Nat):aj (nM s a n):=by
 unfold nM;split
 ·exact mP ha hs _
 ·exact dL (mP ha hs _) hs
theorem acT {f s c o:Nat->Nat} (hf:aj f) (hs:aj s) (hc:aj c) (ho:aj o) (d:List UInt8):aj (uB f s c o d):=dL (fM hf (dL (dL hc ho) (xG hs 1)) 10) (aem hf hs d)
theorem ac8 (f q s a:Nat->Nat) (D:Option Addr) (m cd:Nat) (d:List UInt8) (A:Option Addr) (n c:Nat) (l:List UInt8) (w:World) (hf:aj f) (dF:oZ q) (hs:aJ f zF=s) (ha:mg (aJ f (eZ q)) (q 11)=a) (hD:Sl w w.heap.size D m d) (hmc:m<=cd) (hm:m<=0) (hS:Sl w w.heap.size A n l) (hnc:n<=c) (hn:n<=1000000):
  Calls Tryz.prog 91 #[.agg (ae 432 (aX (ek f) sb)).toArray,.agg (ae 12 q).toArray,.slice D m cd,.slice A n c] w λe w'=> ∃(A2:Option Addr) (c2:Nat),e= .returned (.slice A2 (n+16) c2)/\jQ w' w.heap.size (.slice A2 (n+16) c2) (n+16) (nC f s a l (uB f s (mD l) (nM s a n) d))/\Below w.heap.size w w':=by
 obtain⟨kE,dZ⟩:=Le ((ae 432 (aX (ek f) sb)).toArray);obtain⟨kQ,iV⟩:=Le ((ae 12 (q)).toArray);obtain⟨w1,af,ak,aW,iC⟩:=nA w 432 (aX (ek f) sb) 35;obtain⟨w2,ag,aD,bU,qH⟩:=fw ak aW 12 (q) 168;have fZ:=bn ag iC;clear iC aW;rw [dZ]at af;rw [iV]at ag;rw [dZ,iV];clear dZ iV;have hz:=jf;have hzR:=Ol;obtain⟨dK,hfs,hrow⟩:=Tryz.qa;obtain⟨HS,HW⟩:=aB hfs hrow;clear hfs hrow;obtain⟨dR,hfs,hrow⟩:=Tryz.aaJ;obtain⟨Gf,KV⟩:=aB hfs hrow;clear hfs hrow;have hlen:=hS.len;obtain⟨HLEN,dh,Bp,gD,jC,aQ,tC,nW⟩:=uH hlen hf dF hS hD (show aj s by rw [<-hs];exact fM hf jw 10) (show aj a by rw [<-ha];exact Eh (fM hf (xH dF) 10) _) hs;obtain⟨MO,fP,HN,l8,HM⟩:=jX ha hnc hn hmc hm;obtain⟨i0,cu,bJ,bE,dx⟩:=info_parts xW;obtain⟨oL,qh,oM,tT⟩:=fU cu bJ bE dx;clear cu bJ bE dx hf dF hS hD hs ha hnc hn hmc hm hlen;go_enter Tryz.func91,Tryz.ntmps91;go_upto_region 1 with fail;rw [<-af,<-ag];clear af ag;try simp only [Nat.add_assoc,Nat.reduceAdd]
 obtain⟨gQ,qi⟩:=Le (w.heap.size+1);rw [qi]at qH;try rw [qi]
 have U5:w.heap.size<gQ:=by omega
 clear ak aD qi;go_wp2_with (first|(refine wpList_load_mid rfl _ _ rfl w.heap.size 0 rfl (ae 432 (aX (ek f) sb)) _ fZ.range HS.out HW.out (nE _) ?_)|(refine bB rfl _ _ rfl _ _ _ rfl qH Tryz.yI (yJ _) ?_));refine(agf f q s a A n c l _ dh.out Bp.out nW.out MO.out ((gD.out.below bU).more bU.size) fP.out HN.out).mono ?_;rintro e x1 ⟨A2,c2,rfl,tJ,hq⟩;obtain⟨b0,iN⟩:=Le (w2.heap.size);have Yc:=hq.size;have YO:w.heap.size<b0:=by rw [<-iN];exact fZ.lt (by omega)
 rw [iN]at tJ Yc;obtain⟨gw,hgw⟩: ∃g,x1.heap.size-1=g:=⟨_,rfl⟩;have Yd:Ob x1 b0 gw (.slice A2 n c2) n (tQ f s a l):=by rw [<-hgw];exact Ob.new tJ Yc (by omega)
 clear tJ iN Yc hgw;have jY:=fZ.t hq;have mY:=qH.t hq;have aT:=Tq bU hq;clear hq fZ qH bU;obtain⟨v1,iq⟩:=Lv (x1.alloc (.cells (ik (.slice none 0 0) (λ_=>0) (λ_=>0)).toArray 213));have hq:=Bl iq;have Oo:=jY.t hq;have Oq:=mY.t hq;have Yq:=Yd.to hq;have F4:=Tq aT hq;have Ot:Cx v1 x1.heap.size 33 (λj=>(ik (.slice none 0 0) (λ_=>0) (λ_=>0)).getD j undef):=by rw [iq,RL];exact Cx.new x1 33 _ _
 have hlr:gw<x1.heap.size:=Yd.lt;have YB:gQ<x1.heap.size:=mY.lt (by omega);have C9:w.heap.size<=x1.heap.size:=aT.size;clear hq jY mY Yd aT;go_upto_region 2 with (first|(refine qY rfl _ _ _ rfl _ 33 0 _ (ik (.slice A2 n c2) (mD l) (nM s a n)) rfl rfl (by rw [<-iq];exact Ot) (by rw [ED];decide) (EE _ _ _) (RN rfl _ _) ?_;intro y1 Ou mW CW IM)|fail);rw [<-iq]at mW CW;obtain⟨Gg,Gh,Bq⟩:=RO Ou;obtain⟨gr,hgr⟩:=Le (x1.heap.size);try rw [hgr]
 rw [hgr]at hlr YB C9 mW Gg Gh Bq;have KW:=Oo.keep (by omega) mW;have RP:=Oq.keep (by omega) mW;have Ov:=Yq.keep (by omega) mW;have wP:=F4.trans (mW.mono C9);clear Ou mW CW IM hgr iq Ot Oo Oq Yq F4;try dsimp only [Act.put]
 obtain⟨Yr,Yt⟩:=aB (WR l) (WS aQ.out tC.out n);go_wp2_with (first|(refine wpList_load_mid rfl _ _ rfl w.heap.size 0 rfl (ae 432 (aX (ek f) sb)) _ KW.range HS.out HW.out (nE _) ?_)|(refine wpList_load_mid rfl _ _ rfl gr 0 rfl (ik (.slice A2 n c2) (mD l) (nM s a n)) _ (OJ Gg Gh Bq) Gf.out KV.out (EE _ _ _) ?_));refine(anD f s (mD l) (nM s a n) (.slice A2 n c2) D m cd d _ dh.out nW.out Yr.out Yt.out ((jC.out.below wP).more wP.size) l8.out HM.out).mono ?_;rintro e x2 ⟨rfl,hq⟩;have og:=KW.t hq;have tV:=RP.t hq;have Nk:=Ov.to hq;have XX:=Gg.to hq;have XY:=Gh.t hq;have XZ:=Bq.t hq;have di:=Tq wP hq;clear hq KW RP Ov Gg Gh Bq wP;have htb:=Hi (acT dh.out aQ.out Yr.out Yt.out d);obtain⟨tg,yG⟩: ∃u,uB f s (mD l) (nM s a n) d=u:=⟨_,rfl⟩;rw [yG]at htb;rw [yG];have MQ:=Hi yG;clear yG;have YC:=Hi (show(tQ f s a l).map b8++ae 16 tg=(nC f s a l tg).map b8 by unfold nC;rw [List.map_append,I1 16 _ htb.out]);obtain⟨gg,hgg⟩:=Le (x2.heap.size);have YD:w.heap.size<gg:=by rw [<-hgg];exact og.lt (by omega)
 have YE:gQ<gg:=by rw [<-hgg];exact tV.lt (by omega)
 have YF:gw<gg:=by rw [<-hgg];exact Nk.lt
 have XW:gr<gg:=by rw [<-hgg];exact XX.lt
 have XW:gr<gg:=by rw [<-hgg];exact XY.lt (by omega)
 have XW:gr<gg:=by rw [<-hgg];exact XZ.lt (by omega)
 have YG:w.heap.size<=gg:=by rw [<-hgg];exact di.size
 have hq:=Ba x2 (.cells (ae 16 λ_=>0).toArray 22);have Q6:=og.t hq;have Q7:=tV.t hq;have Yu:=Nk.to hq;have Yv:=XX.to hq;have Yw:=XY.t hq;have Yx:=XZ.t hq;have Ye:=Ar.new x2 16 (λ_=>0) 22;have Cm:=di.alloc di.size (.cells (ae 16 λ_=>0).toArray 22);rw [hgg]at Ye;clear hq og tV Nk XX XY XZ di;go_upto_region 3 with (first|(refine bC rfl _ _ _ rfl _ _ _ (tg) rfl rfl Ye (ay _) ?_;intro x3 Yy oU J5 J6)|fail);have qg:=(Q6).keep YD oU;have xX:=(Q7).keep YE oU;have Yz:=(Yu).keep YF oU;have YA:=(Yv).keep XW oU;have YH:=(Yw).keep XW oU;have YI:=(Yx).keep XW oU;have dJ:=Cm.trans (oU.mono YG);clear Q6 Q7 Yu Yv Yw Yx Ye Cm oU J5 J6 hgg;try dsimp only [Act.put]
 refine wp_region_noPanic ?_;have wS:=Yz.drew;refine wp_region_held_drew (S:=λW=>Ar W w.heap.size 432 (aX (ek f) sb)/\Ce W gr (.slice A2 n c2)/\Ar W gg 16 (tg)/\Below w.heap.size w W) (by kernel_rfl) ⟨qg.drew,YA.drew,Yy.drew,dJ.drew⟩ (λaa=> ?_);clear qg YA Yy xX YH YI dJ Yz;generalize World.drew x3=OD at*;refine ty 0 rfl ?_;refine ty 1 rfl ?_ (λW hSw=>by have cF:=hSw.2.1.1;go_simp;try with_reducible rfl);refine ty 2 rfl ?_ (λW hSw=>by have I8:=I9;go_simp;try with_reducible rfl);refine rd 3 rfl (λK hK=> ?_);have hbl:=(wS).2.1;have hsz:=(wS).1;have hbs:b0<=OD.heap.size:=by omega
 rw [if_pos (by rfl)];refine wp_append_own _ _ _ 45 rfl b0 5 i0 (.int .u8 0) 1 1 Tryz.underlying45 oL.out qh.out oM.out tT.out (by decide) (by decide) _ _ _ rfl (wS).2.2.2 ⟨gg,0,none⟩ 16 16 (ae 16 tg) rfl (by simp [bz]) (λj u hu=>by rw [Addr.add_mid];exact(aa.2.2.1).range j u hu) (by first|exact dz 16 _|(intro u hu;simp at hu;subst hu;rfl)) (by have e1:=HN.out;unfold maxLen;omega) (by have e1:=HN.out;omega) hbs ?_;intro v8 X0 ni mF _;have k8:Below b0 OD X0:=(Below.refl _ _).grown mF hbs (λg hg=>yg (wS).2.2.2 hg);obtain⟨A5,c5,rfl⟩:=su ni;have ji:jQ X0 b0 (.slice A5 (n+16) c5) (n+16) (nC f s a l tg):=by unfold jQ;rw [<-YC.out];exact ni
 have uL:=k8.size;obtain⟨g5,zV⟩: ∃g,X0.heap.size-1=g:=⟨_,rfl⟩;have Yf:Ob X0 b0 g5 (.slice A5 (n+16) c5) (n+16) (nC f s a l tg):=by rw [<-zV];exact Ob.new ji (by omega) (by omega)
 have aaQ:b0<=g5+1:=Yf.2.1;refine hK.out _ _ ⟨(aa.1).keep (by omega) k8,ajc (aa.2.1) mF (Ob.ne wS (by omega)),OE (aa.2.2.1) (by omega) mF (Ob.ne wS (by omega)),(aa.2.2.2).trans (k8.mono (by omega))⟩ ?_;clear hK K aa ni mF k8 ji uL zV hbl hsz hbs wS;intro aa;try simp only [nr]
 refine ty 4 rfl ?_;refine wpAnyH_done (by kernel_rfl) ?_ _;have cz:=Yf;have bD:=aa.2.2.2;clear aa Yf;refine NoPanic.normal ?_;go_wp2_with fail;go_ret;exact⟨A5,c5,rfl,by rw [MQ.out];exact K6 cz.2.2.2 (by omega),bD⟩
end
section
open Go.RowKit
def IX (w:World) (p:Option Addr) (f:Nat->Nat):Prop:=tq w (.pointer p) f/\Iu w p f/\ ∃a,p=some a
theorem IX.to {w w':World} {p:Option Addr} {f:Nat->Nat} (h:IX w p f) (hb:Below w.heap.size w w'):IX w' p f:=⟨h.1.to hb,h.2.1.to hb,h.2.2⟩
theorem age (gT gC:Nat) (f s:Nat->Nat) (w:World) (hs:aJ f zF=s) (hT:Ti w gT (some ⟨gC,0,none⟩) s) (hC:Ci w gC f):IX w (some ⟨gT,0,none⟩) f:=⟨aae gT gC f s w hs hT hC,aeW gT gC f s w hs hT hC,_,rfl⟩
theorem CR (w:World) (B:Nat):Sl w B none 0 []:=⟨rfl,λh=>absurd h (by omega)⟩
theorem acU {w:World} {g:Nat} {t:Nat->Nat} (h:Ar w g 16 t) (ht:aj t):Sl w w.heap.size (some ⟨g,0,none⟩) 16 (aP 16 t):=
 Sl.Rv (o:=0) (λj hj=>ht j hj) (λj hj=>by rw [Nat.zero_add];exact(h j hj).1) (h.lt (by omega))
def Sy (W:World) (g:Nat) (A:Option Addr) (n:Nat) (l:List UInt8):Prop:=g<W.heap.size/\Sl W (g+1) A n l
section
variable {W W':World} {g b n:Nat} {A:Option Addr} {l:List UInt8}
theorem Sy.lt (h:Sy W g A n l):g<W.heap.size:=h.1
theorem Sy.to (h:Sy W g A n l) (hb:Below W.heap.size W W'):Sy W' g A n l:=⟨Nat.lt_of_lt_of_le h.1 hb.size,h.2.below (hb.mono h.1)⟩
theorem Sy.keep (h:Sy W g A n l) (hl:g<b) (hb:Below b W W'):Sy W' g A n l:=⟨Nat.lt_of_lt_of_le h.1 hb.size,h.2.below (hb.mono hl)⟩
theorem Sy.drew (h:Sy W g A n l):Sy W.drew g A n l:=h
theorem Sy.sl (h:Sy W g A n l):Sl W W.heap.size A n l:=h.2.more h.1
theorem Sy.new (h:Sl W W.heap.size A n l) (hp:0<W.heap.size):Sy W (W.heap.size-1) A n l:=⟨by omega,h.more (by omega)⟩
end
theorem NI (A:Option Addr) (n c o:Nat) (ho:o<=n) (hnc:n<=c) (W:World):(Instr.sliceAt 45 (.slice A n c) none (some (.int .i64 (o:Int))) none).run Tryz.prog W= .ok (.slice A o c) W:=by
 have hel:Tryz.prog.elem 45=5:=by simp [Program.elem]
 have hs:(sizeOf 5).run Tryz.prog W= .ok 1 W:=by kernel_rfl
 have hu:Tryz.prog.underlying 45=some (.slice (Tryz.prog.elem 45)):=by rw [hel];exact Tryz.Cz
 rw [run_sliceAt_slice (P:=Tryz.prog) W 45 _ _ _ _ hu];have h1:=run_slice_any (P:=Tryz.prog) W 45 A n c hu none (some (.int .i64 (o:Int))) none;rw [h1,hel];have h2:o<=c:=by omega
 cases A with
 |none=>simp [Instr.sliceBounds,run_sliceBound,sliced,h2,hs]
 |some a=>
  simp [Instr.sliceBounds,run_sliceBound,sliced,h2,hs];intro _;cases a;simp [Addr.add]
theorem Rm {w:World} {B n o:Nat} {A:Option Addr} {l:List UInt8} (h:Sl w B A n l) (ho:o<=n):Sl w B A o (l.take o):=by
 have hl:=h.len;refine⟨by rw [List.length_take];omega,λh0=> ?_⟩;obtain⟨b,off,e,hb,hc⟩:=h.2 (by omega);refine⟨b,off,e,hb,λj u hj=>hc j u ?_⟩;rw [List.getElem?_take]at hj;split at hj
 ·exact hj
 ·cases hj
theorem acR {w:World} {b n c:Nat} {A:Option Addr} {l:List UInt8} (h:w.ownsRow b 5 1 (.slice A n c) n (l.map b8)):n<=c:=by
 rcases h.2 with ⟨h1,rfl⟩|⟨g,cap,cur,h1,_,_,h2,_⟩
 ·exact Nat.zero_le _
 ·injection h1 with _ _ h3;rw [h3];exact h2
end
section
open Go.RowKit
open Go.Shelf
def Bo (f s a:Nat->Nat) (l:List UInt8) (k:Nat):Nat->Nat:=tO f (pt l k) (bS a s (k+1))
section
variable {f s a:Nat->Nat} {l:List UInt8} {n N o r:Nat}
theorem aaA (hf:aj f) (hs:aj s) (ha:aj a) (l:List UInt8) (k:Nat):aj (Bo f s a l k):=Oj hf (λ_ _=>qA _ _ _) (mP ha hs _)
theorem aaB {P Q:Nat->Nat->Nat} : ∀n,(∀k,k<n->cO (P k) (Q k))->cO (iF P n) (iF Q n)
 |0,_=>λ_ _=>rfl
 |n+1,h=>iU (aaB n λk hk=>h k (by omega)) (h n (by omega))
theorem aaC (hf:aj f) (hs:aj s) (ha:aj a) (hN:l.length/16=N):cO (iF (pt (kr f s a l)) N) (iF (Bo f s a l) N):=aaB N λk hk=>aaD hf hs ha l k (by omega)
theorem af9 (hf:aj f) (hs:aj s) (ha:aj a) (hl:l.length=n) (hN:n/16=N) (hr:n%16=r) (h:r=0):ae 16 (mD (kr f s a l))=ae 16 (iF (Bo f s a l) N):=by
 rw [U2 ((KQ l).trans hl) hN hr h];exact mh (λj hj=>aaC hf hs ha (by rw [hl];exact hN) j hj)
theorem aga {P:Nat->Nat} (hf:aj f) (hs:aj s) (ha:aj a) (hl:l.length=n) (hN:n/16=N) (hr:n%16=r) (h:r≠0) (ho:16*N=o) (hP:lF (kH ((kr f s a l).drop o) 16)=P):ae 16 (mD (kr f s a l))=ae 16 (ah (iF (Bo f s a l) N) P):=by
 rw [U3 ((KQ l).trans hl) hN hr h ho hP];exact mh (λj hj=>iU (aaC hf hs ha (by rw [hl];exact hN)) (λ_ _=>rfl) j hj)
theorem aaE (hl:l.length=n) (hN:n/16=N) (ho:16*N=o) (hr:n-o=r):aP o (eG f s a l N)++aP r (ah (lF (l.drop o)) (aJ f (ah (bS a s N) s)))=kr f s a l:=by
 have h1:r<16/\o+r=n:=by omega
 rw [<-U4 (f:=f) (s:=s) (a:=a) hl hN,<-h1.2,KR];congr 1;refine RJ (λj hj=> ?_);unfold eG;rw [if_neg (by omega),show o+j-16*N=j by omega]
 show lF (l.drop o) j^^^_=_
 rw [NW]
theorem agb (hl:l.length=n) (hN:n/16=N) (ho:16*N=o) (hr:n-o=r):(kr f s a l).drop o=aP r (ah (lF (l.drop o)) (aJ f (ah (bS a s N) s))):=by
 rw [<-aaE (f:=f) (s:=s) (a:=a) hl hN ho hr];exact List.drop_left' (xU _ _)
theorem agc (l:List UInt8) (k:Nat):lF (l.drop (16*k))=pt l k:=funext λj=>NW l (16*k) j
end
section
variable {w W W':World} {g r b0 m x:Nat} {v:Value} {l:List UInt8}
theorem kM.then (h:kM w W g r) (hb:Below w.heap.size W W'):kM w W' g r:=
 ⟨hb.os.trans h.os,hb.tape.trans h.tape,hb.output.trans h.output,Nat.le_trans h.size hb.size,λk hk h1 h2=>(hb.block k hk).trans (h.block k hk h1 h2),
  λk o hk ho=>(hb.block k (Array.getElem?_eq_some_iff.1 hk).1).trans (h.same k o hk ho)⟩
theorem Ob.add (h:Ob W b0 g v m l) (ha:kM W W' x x) (hx:x<b0):Ob W' b0 g v m l:=by
 refine⟨Nat.lt_of_lt_of_le h.1 ha.size,h.2.1,h.2.2.1,h.2.2.2.1,?_⟩;rcases h.2.2.2.2 with h1|⟨g1,cap,cur,rfl,h2,h3,h4⟩
 ·exact .inl h1
 ·exact .inr ⟨g1,cap,cur,rfl,h2,(ha.block g1 (Array.getElem?_eq_some_iff.1 h3).1 (by omega) (by omega)).trans h3,h4⟩
end
theorem aaF {P:Program} {fn:Func} {T:Array Value} {w:World} {p q r:Tmp} {ty e:TypeId} {v:Value} {g g' n m:Nat} {f f':Nat->Nat} (hr:fn.results= #[.tmp p,.cell q ty,.cell r ty]) (xV:T.getD p undef=v) (hp:T.getD q undef= .pointer (some ⟨g,0,none⟩)) (hq:T.getD r undef= .pointer (some ⟨g',0,none⟩))
  (hA:Ar w g n f) (hA':Ar w g' n f') (hu:P.underlying ty=some (.array m e)) (hi:(P.info? ty).map (·.size)=some (ae n f).length) (hi':(P.info? ty).map (·.size)=some (ae n f').length):
  (results fn T).run P w= .ok (.tuple #[v,.agg (ae n f).toArray,.agg (ae n f').toArray]) w:=by
 have hp1':T[p]?.getD undef=v:=by simpa using xV
 have hp':T[q]?.getD undef= .pointer (some ⟨g,0,none⟩):=by simpa using hp
 have hq':T[r]?.getD undef= .pointer (some ⟨g',0,none⟩):=by simpa using hq
 simp only [results,hr];simp [hp1',hp',hq',asAddr,run_loadVar_mid (P:=P) w g 0 ty (ae n f) _ hA.range hu rfl hi,run_loadVar_mid (P:=P) w g' 0 ty (ae n f') _ hA'.range hu rfl hi']
def Bf (w:World) (p:Option Addr) (f:Nat->Nat):Prop:=IX w p f/\ ∀V,Below w.heap.size w V->Calls Tryz.prog 126 #[.pointer p] V λe V'=>e= .returned (.pointer p)/\Below V.heap.size V V'
theorem Bf.to {w w':World} {p:Option Addr} {f:Nat->Nat} (h:Bf w p f) (hb:Below w.heap.size w w'):Bf w' p f:=⟨h.1.to hb,λV hV=>h.2 V (hb.trans (hV.mono hb.size))⟩
theorem agd (gT gC:Nat) (f s:Nat->Nat) (w:World) (hs:aJ f zF=s) (hT:Ti w gT (some ⟨gC,0,none⟩) s) (hC:Ci w gC f):Bf w (some ⟨gT,0,none⟩) f:=by
 refine⟨age gT gC f s w hs hT hC,λV hV=> ?_⟩;have bG:=hT.to hV;clear hT hC hV hs;go_enter Tryz.func126,Tryz.ntmps126;go_wp2_with fail;refine(XH gT _ s V bG).mono ?_;rintro e V1 ⟨rfl,hq⟩;go_wp2_with fail;go_ret;exact⟨rfl,hq⟩
theorem aaG (gX k m2 c2:Nat) (A A9:Option Addr) (m c:Nat) (l:List UInt8) (w:World) (hX:Bv w gX 45 (.slice A m c)) (hS:Sl w w.heap.size A m l) (hk:Nat.min m 16=k) (hsl: ∀W,(Instr.sliceAt 45 (.slice A m c) (some (.int .i64 (k:Int))) none none).run Tryz.prog W= .ok (.slice A9 m2 c2) W):
  Calls Tryz.prog 166 #[.pointer (some ⟨gX,0,none⟩)] w λe w'=>e= .returned (.tuple #[.agg (ae 16 (lF l)).toArray,.int .i64 (k:Int)])/\Bv w' gX 45 (.slice A9 m2 c2)/\kM w w' gX gX:=by
 have hz:=jf;have hlen:=hS.len;have XW:k<=m:=by rw [<-hk];exact Nat.min_le_left ..
 have XY:k<=16:=by rw [<-hk];exact Nat.min_le_right ..
 have hkl:k=m\/k=16:=by
  rcases Nat.le_total m 16 with h|h
  ·exact .inl (hk.symm.trans (Nat.min_eq_left h))
  ·exact .inr (hk.symm.trans (Nat.min_eq_right h))
 have hlt:(l.take k).length=k:=by rw [List.length_take];omega
 have eu:=Rm hS XW;obtain⟨w1,af⟩:=Lv (w.alloc (.cells (ae 16 λ_=>0).toArray 22));have au:=Bl af;have nX:Wb w1 w.heap.size 16 (λ_=>0) 22:=by rw [af];exact Wb.new w 16 _ _
 have KS:=(hX.to au).drew;have kJ:=(eu.below au).drew;have XV:=hX.lt;have aQ:=Hi hsl;obtain⟨g,hg⟩:=Le (w.heap.size);rw [hg]at XV nX;have hsrc:=Hi (λh0=>kJ.src h0);have hcs:=KA (l.take k) k hlt;obtain⟨mi,nD,CZ,h1c⟩:=fU (show((l.take k).map b8).length=Nat.min m 16 by rw [List.length_map,hlt,hk]) (show 0+((l.take k).map b8).length<=(ae 16 λ_=>0).length by rw [bz];simp [hlt];omega) (show∀h:0<((l.take k).map b8).length,0<k by intro h;rwa [List.length_map,hlt]at h) (KT (l.take k));obtain⟨cs,Gc⟩: ∃cs:List Value,(l.take k).map b8=cs:=⟨_,rfl⟩;rw [Gc]at hsrc mi nD CZ hcs h1c;have Gd:=Hi (show splice (ae 16 λ_=>0) 0 cs=ae 16 (lF l)by
  rw [hcs,FO 16 k _ _ 0 (by omega)];refine mh (λj hj=> ?_);by_cases h:j<k
  ·rw [if_pos (by omega),Nat.sub_zero];unfold lF;rw [List.getD,List.getD,List.getElem?_take,if_pos h]
  ·rw [if_neg (by omega)];unfold lF;rw [List.getD,List.getElem?_eq_none (by omega)];rfl)
 have hcn:(cs.length:Int)=(k:Int):=by rw [mi.out.trans hk]
 have HW:=Hi (show w1.drew.heap[g]?=some (.cells (ae 16 λ_=>0).toArray 22 (0,0))from nX);have c1:=KS.cell;obtain⟨Rj,XX⟩:=aB au hg;clear hcs Gc kJ eu hS hX nX au hsl hlt hkl hlen XW hk;go_enter Tryz.func166,Tryz.ntmps166;go_upto_region 1 with fail;rw [<-af];try rw [hg]
 clear af hg
 go_region_law (refine step_copy_splice rfl (.tmp 3) (.tmp 4) 45 45 rfl 5 Tryz.Cz Tryz.FP _ _ _ _ _ _ rfl rfl g 0 (ae 16 λ_=>0) 22 HW.out cs mi.out (λh=>⟨rfl,hsrc.out (CZ.out h)⟩) nD.out h1c.out g w1.drew (Below.refl _ _) (Nat.le_refl _) ?_;intro w2 fC ai)
 have bG:Ar w2 g 16 (lF l):=by
  have h:=fC.out;rw [Gd.out]at h;exact Wb.ar (show Wb w2 g 16 _ _ from h)
 have ic:=KS.keep XV ai;have mX:kM w w2 gX gX:=kM.of (Rj.out.drew.trans (ai.mono (by rw [XX.out];exact Nat.le_refl _)));clear KS c1 fC ai HW Gd hsrc mi nD CZ h1c;have cF:=ic.cell;have fF:=ic.frozen;have hsl:=aQ.out;try dsimp only [Act.put]
 go_upto_region 3 with fail;have qG:=ic.set (.slice A9 m2 c2);have eQ:=bG.far (p:=⟨gX,0,none⟩) (by simp;omega) (.slice A9 m2 c2);have oq:=mX.set (.slice A9 m2 c2);generalize World.setCell w2 ⟨gX,0,none⟩ (.slice A9 m2 c2)=w3 at*;clear cF fF hsl ic bG mX;go_wp2_with (first
  |(refine bB rfl _ _ rfl _ _ _ rfl eQ Tryz.aM (ay _) ?_)
  |(refine bC rfl _ _ _ rfl _ _ _ (lF l) rfl rfl eQ (ay _) ?_;intro w8 bg aY _ _))
 refine KU rfl rfl rfl bg Tryz.aM (ay _) rfl ⟨rfl,qG.keep XV aY,oq.then (aY.mono (by rw [XX.out];exact Nat.le_refl _))⟩
end
end Go.Proofs.YtdaiacmneopkgaaGreatDoor
