/-
 Contracts of the reference package of layer 13, by walks through their texts; what was there stays as it was.
-/
import Derived.Test.YtdaiacmneopkgaaGreatDoorMoa
import Derived.Test.YtdaiacmneopkgaaGreatDoorMaj
namespace Go.Proofs.YtdaiacmneopkgaaGreatDoor
set_option linter.unusedSimpArgs false
set_option linter.unusedVariables false
set_option maxRecDepth 100000
set_option maxHeartbeats 4000000
section
open Go.RowKit
theorem ahw (f q s a:Nat->Nat) (A:Option Addr) (n c:Nat) (l:List UInt8) (w:World) (hf:aj f) (dF:oZ q) (hs:aJ f zF=s) (ha:mg (aJ f (eZ q)) (q 11)=a) (hS:Sl w w.heap.size A n l) (hnc:n<=c) (hn:n<=1000000):
  Calls Tryz.prog 133 #[.agg (ae 432 (aX (ek f) sb)).toArray,.agg (ae 12 q).toArray,.slice A n c] w λe w'=> ∃(A2:Option Addr) (c2:Nat),e= .returned (.slice A2 n c2)/\jQ w' w.heap.size (.slice A2 n c2) n (kr f s a l)/\Below w.heap.size w w':=by
 obtain⟨kE,dZ⟩:=Le ((ae 432 (aX (ek f) sb)).toArray);obtain⟨kQ,iV⟩:=Le ((ae 12 (q)).toArray);obtain⟨w1,af,ak,aW,iC⟩:=nA w 432 (aX (ek f) sb) 35;obtain⟨w2,ag,aD,bU,qH⟩:=fw ak aW 12 (q) 168;have fZ:=bn ag iC;clear iC aW;rw [dZ]at af;rw [iV]at ag;rw [dZ,iV];clear dZ iV;have hz:=jf;obtain⟨dK,hfs,hrow⟩:=Tryz.qa;obtain⟨HS,HW⟩:=aB hfs hrow;clear hfs hrow;have hlen:=hS.len;obtain⟨HLEN,dh,gD,aQ,tC,hst⟩:=qB hlen hf hS (show aj s by rw [<-hs];exact fM hf jw 10) (show aj a by rw [<-ha];exact Eh (fM hf (xH dF) 10) _) (λV=>Rl f V hf jw);rw [hs]at hst;have hra:=Hi (λV=>XK f q V hf dF);rw [ha]at hra;obtain⟨N,hN⟩:=Le (n/16);obtain⟨o,ho⟩:=Le (16*N);obtain⟨zK,Ep,eF,HO,CJ,HN,fP,yL⟩:=uH (Kv hn hN ho) (UI hn hN ho) hN ho (show N<=62500 by omega) hn hnc (λk (j:Nat) (_:j<16)=>qA l k j);obtain⟨i0,cu,bJ,bE,dx⟩:=info_parts xW;obtain⟨oL,qh,oM,tT⟩:=fU cu bJ bE dx;clear cu bJ bE dx hf dF hS hn hs ha hN ho hlen hnc;go_enter Tryz.func133,Tryz.ntmps133;go_upto_region 1 with fail;rw [<-af,<-ag];clear af ag;try simp only [Nat.add_assoc,Nat.reduceAdd]
 obtain⟨gQ,qi⟩:=Le (w.heap.size+1);rw [qi]at qH;try rw [qi]
 have U5:w.heap.size<gQ:=by omega
 clear ak aD qi;go_wp2_with (refine wpList_load_mid rfl _ _ rfl w.heap.size 0 rfl (ae 432 (aX (ek f) sb)) _ fZ.range HS.out HW.out (nE _) ?_);refine(hst.out _).mono ?_;rintro e x1 ⟨rfl,hq⟩;have jY:=fZ.t hq;have mY:=qH.t hq;have aT:=Tq bU hq;clear hq fZ qH bU;obtain⟨gs,hgs⟩:=Le (x1.heap.size);have ND:w.heap.size<gs:=by rw [<-hgs];exact jY.lt (by omega)
 have U6:gQ<gs:=by rw [<-hgs];exact mY.lt (by omega)
 have NF:w.heap.size<=gs:=by rw [<-hgs];exact aT.size
 have hq:=Ba x1 (.cells (ae 16 λ_=>0).toArray 22);have xN:=jY.t hq;have Om:=mY.t hq;have Be:=Ar.new x1 16 (λ_=>0) 22;have qU:=aT.alloc aT.size (.cells (ae 16 λ_=>0).toArray 22);rw [hgs]at Be;clear hq jY mY aT;go_upto_region 2 with (first|(refine bC rfl _ _ _ rfl _ _ _ (s) rfl rfl Be (ay _) ?_;intro x2 Er jh yQ yR)|fail);have og:=(xN).keep ND jh;have tV:=(Om).keep U6 jh;have di:=qU.trans (jh.mono NF);clear xN Om Be qU jh yQ yR hgs;try dsimp only [Act.put]
 go_wp2_with (first|(refine wpList_load_mid rfl _ _ rfl w.heap.size 0 rfl (ae 432 (aX (ek f) sb)) _ og.range HS.out HW.out (nE _) ?_)|(refine bB rfl _ _ rfl _ _ _ rfl tV Tryz.yI (yJ _) ?_));refine(hra.out _).mono ?_;rintro e x3 ⟨rfl,hq⟩;have qg:=og.t hq;have xX:=tV.t hq;have CL:=Er.t hq;have dJ:=Tq di hq;clear hq og tV Er di;obtain⟨go,hgo⟩:=Le (x3.heap.size);have Yb:w.heap.size<go:=by rw [<-hgo];exact qg.lt (by omega)
 have Yc:gQ<go:=by rw [<-hgo];exact xX.lt (by omega)
 have Yd:gs<go:=by rw [<-hgo];exact CL.lt (by omega)
 have Ye:w.heap.size<=go:=by rw [<-hgo];exact dJ.size
 have hq:=Ba x3 (.cells (ae 16 λ_=>0).toArray 22);have EO:=qg.t hq;have X6:=xX.t hq;have X7:=CL.t hq;have X4:=Ar.new x3 16 (λ_=>0) 22;have Bb:=dJ.alloc dJ.size (.cells (ae 16 λ_=>0).toArray 22);rw [hgo]at X4;clear hq qg xX CL dJ;go_upto_region 3 with (first|(refine bC rfl _ _ _ rfl _ _ _ (a) rfl rfl X4 (ay _) ?_;intro x4 Da pg Iy Iz)|fail);have tH:=(EO).keep Yb pg;have Yf:=(X6).keep Yc pg;have Et:=(X7).keep Yd pg;have iZ:=Bb.trans (pg.mono Ye);clear EO X6 X7 X4 Bb pg Iy Iz hgo;try dsimp only [Act.put]
 clear Yf;obtain⟨b0,iN⟩:=Le (go+1);have hlb:go<b0:=by omega
 have X8:=Da.lt (by omega);have Db:Ob x4 b0 go (.slice none 0 0) 0 (aP 0 (eG f s a l N)):=⟨X8,by omega,λk hk=>by simp [Value.ownBlock]at hk,World.ownsRow_nil _ _ _ _⟩;clear iN X8;obtain⟨j1,j2,j3⟩:=zK.out;clear j3;have Eu:=CJ.out;go_wp2_with fail;clear j1 j2;have Ow:=Da.ext (f':=bS a s 0) (λj _=>by rw [Im]);clear Da;have Da:=Ow;clear Ow;go_loopw [9,11] (λv i wr=> ∃(k:Nat) (A2:Option Addr) (c2 gw:Nat),k<=N/\i= .int .i64 k/\v= .slice A2 (16*k) c2/\go<=gw/\Ar wr w.heap.size 432 (aX (ek f) sb)/\Ar wr gs 16 (s)/\Ar wr go 16 (bS a s k)/\Ob wr b0 gw (.slice A2 (16*k) c2) (16*k) (aP (16*k) (eG f s a l N))/\Below w.heap.size w wr) (λ_ i _=>N-(intOf i).toNat);case atStart=>exact⟨0,none,0,go,Nat.zero_le _,rfl,rfl,Nat.le_refl _,tH,Et,Da,Db,iZ⟩
 case round=>
  clear tH Et Da Db iZ;obtain⟨k,A2,c2,gw,hk,rfl,rfl,hgw,qC,vC,ru,mZ,ib⟩:=hrel;by_cases hlt:k<N
  ·have i1:(k:Int)<(N:Int):=(by omega);have wQ:=Hi (show 16*k+16<=n by have:=eF.out;omega);obtain⟨b,ob,pJ,hbl⟩:=KX gD.out (Nat.lt_of_lt_of_le (Nat.succ_pos _) wQ.out);subst pJ;obtain⟨q1,cB⟩:=Le (k+1);obtain⟨zT,mE,HST,IZ,tX⟩:=jX (UH cB (by omega)) (mP tC.out aQ.out k) (Kq a s k) (λV=>aaK s (k+1) V aQ.out (by omega)) (show(aP (16*k) (eG f s a l N)).map b8++ae 16 (tO f (pt l k) (bS a s (k+1)))=(aP (16*(k+1)) (eG f s a l N)).map b8 by rw [abq f s a l N k hlt,List.map_append,I1 16 _ (Oj dh.out (yL.out k) (mP tC.out aQ.out _))]);obtain⟨ok,hok⟩: ∃u,bS a s k=u:=⟨_,rfl⟩;rw [hok]at mE HST;rw [cB]at HST IZ;have xZ:=Hi (xG aQ.out (jF q1+2));obtain⟨d,hd⟩: ∃d,dk s (jF q1+2)=d:=⟨_,rfl⟩;rw [hd]at HST IZ xZ;have yc:=Hi (dL mE.out xZ.out);obtain⟨o1,ry⟩: ∃o1,bS a s q1=o1:=⟨_,rfl⟩;rw [HST.out,ry]at yc;rw [ry]at HST;obtain⟨hpb,I4⟩:=aB (yL.out k) (show(aP (16*k) (eG f s a l N)).map b8++ae 16 (tO f (pt l k) o1)=(aP (16*(k+1)) (eG f s a l N)).map b8 by rw [<-ry,<-cB];exact tX.out);clear tX;obtain⟨P,hP⟩: ∃P,pt l k=P:=⟨_,rfl⟩;have Gl:=Hi (λV hb=>aac ((gD.out.below (w':=V) hb)) k wQ.out);rw [hP]at hpb Gl I4;have hxb:=Hi (dL hpb.out yc.out);have Br:=Hi (show aj (pQ f (ah P o1))from Pb dh.out 10 hxb.out);obtain⟨cp,hcp⟩: ∃u,tO f P o1=u:=⟨_,rfl⟩;have ou:=Hi (show ah (pQ f (ah P o1)) o1=cp from hcp);rw [hcp]at I4;obtain⟨yf,Ox⟩:=aB cB ry;rw [hok]at ru
   clear hok hd hP cB ry Eu hcp;go_upto_region 8 with fail;apply Ky (F:=λW=>Ar W w.heap.size 432 (aX (ek f) sb)/\Ar W gs 16 (s)/\Ob W b0 gw (.slice A2 (16*k) c2) (16*k) (aP (16*k) (eG f s a l N))/\Ar W go 16 (o1)/\Below w.heap.size w W);case h1=>
    refine wp_region_noPanic ?_;have sj:=ru.drew;refine wp_region_held_drew (S:=λW=>Ar W w.heap.size 432 (aX (ek f) sb)/\Ar W gs 16 (s)/\Ob W b0 gw (.slice A2 (16*k) c2) (16*k) (aP (16*k) (eG f s a l N))/\Below w.heap.size w W) (by kernel_rfl) ⟨qC.drew,vC.drew,mZ.drew,ib.drew⟩ (λaa=> ?_);generalize World.drew wr=V at*;refine tm 1 (λW hSw=>hSw.2.1.range) Tryz.aM rfl (ay _) ?_;refine ty 2 rfl ?_;refine ty 3 rfl ?_ (λW hSw=>by obtain⟨j1,j2,j3,j4,j5,j6⟩:=zT.out;go_simp;try with_reducible rfl);refine ty 4 rfl ?_ (λW hSw=>by obtain⟨j1,j2,j3,j4,j5,j6⟩:=zT.out;go_simp;try with_reducible rfl);repeat' (first
     | (
       have hK:=ky;clear ky;rw [if_pos (by rfl)];refine wp_load_mid _ _ rfl go 0 rfl (ae 16 (ok)) _ sj.range Tryz.aM rfl (ay _) ?_;refine hK.out _ _ aa ?_;clear hK K aa;intro aa;try simp only [nr])
     | (
       refine kc fo (IZ.out _) aa ?_;clear fo K aa;intro V hq aa;try replace sj:=sj.t hq
       clear hq;try simp only [nr])
     | (
       refine kc fV (yY ok d _ mE.out xZ.out) aa ?_;clear fV K aa;intro V hq aa;rw [HST.out];try replace sj:=sj.t hq
       clear hq;try simp only [nr])
     | (
       have hK:=jE;clear jE;rw [if_pos (by rfl)];refine wp_store_mid _ _ _ rfl go 0 (ae 16 (o1)).toArray rfl rfl sj.there (ay _) (all_oneCell_toArray (dz 16 (o1))) ?_;try replace sj:=sj.whole (o1)
       dsimp only [List.toList_toArray];refine so hK (w:=V) (b:=go) (o:=0) (vs:=(ae 16 (o1))) aa ?_;clear hK K aa;intro aa;generalize World.setCells V go 0 (ae 16 (o1))=V at*;try simp only [Act.put])
     | (
       refine wpAnyH_ready (rs:= [0,5]) (by decide+kernel) (by simp) ?_;refine AllReadyH.cons rfl (λK ky=> ?_) (AllReadyH.cons rfl (λK fo=> ?_) AllReadyH.nil))
     | (
       refine wpAnyH_ready (rs:= [6]) (by decide+kernel) (by simp) ?_;refine AllReadyH.cons rfl (λK fV=> ?_) AllReadyH.nil)
     | (
       refine wpAnyH_ready (rs:= [5]) (by decide+kernel) (by simp) ?_;refine AllReadyH.cons rfl (λK fo=> ?_) AllReadyH.nil)
     | (
       refine wpAnyH_ready (rs:= [7]) (by decide+kernel) (by simp) ?_;refine AllReadyH.cons rfl (λK jE=> ?_) AllReadyH.nil)
     | (
       refine wpAnyH_ready (rs:= [0]) (by decide+kernel) (by simp) ?_;refine AllReadyH.cons rfl (λK ky=> ?_) AllReadyH.nil))
    all_goals refine wpAnyH_done (by kernel_rfl) ?_ _
    all_goals
     refine NoPanic.normal ?_;exact⟨rfl,rfl,aa.1,aa.2.1,aa.2.2.1,sj,aa.2.2.2⟩
   rintro x5 ⟨Bt,OA,Gn,OB,iO⟩;clear qC vC mZ ru ib;go_upto_region 9 with fail;apply NC (F:=λgy W=>Ar W w.heap.size 432 (aX (ek f) sb)/\Ar W gs 16 (s)/\Ob W b0 gw (.slice A2 (16*k) c2) (16*k) (aP (16*k) (eG f s a l N))/\Ar W go 16 (o1)/\Ar W gy 16 (cp)/\gw<gy/\Below w.heap.size w W);case h1=>
    refine wp_region_noPanic ?_;refine wp_region_held_drew (S:=λW=>Ar W w.heap.size 432 (aX (ek f) sb)/\Ar W gs 16 (s)/\Ob W b0 gw (.slice A2 (16*k) c2) (16*k) (aP (16*k) (eG f s a l N))/\Ar W go 16 (o1)/\Below w.heap.size w W) (by kernel_rfl) ⟨Bt.drew,OA.drew,Gn.drew,OB.drew,iO.drew⟩ (λaa=> ?_);generalize World.drew x5=V at*;refine tm 0 (λW hSw=>hSw.1.range) HS.out HW.out (nE _) ?_;refine ty 1 rfl ?_;refine ty 2 rfl ?_;refine tm 4 (λW hSw=>hSw.2.2.2.1.range) Tryz.aM rfl (ay _) ?_;refine tm 7 (λW hSw=>hSw.2.2.2.1.range) Tryz.aM rfl (ay _) ?_;repeat' (first
     | (
       refine kc dw (aaa b ob n c k P _ wQ.out fP.out HN.out (Gl.out _ (aa.2.2.2.2)) (Nat.lt_of_lt_of_le hbl (aa.2.2.2.2).size)) aa ?_;clear dw K aa;intro V hq aa;try replace dN:=dN.t hq
       clear hq;try simp only [nr])
     | (
       refine kc fo (yY P o1 _ hpb.out yc.out) aa ?_;clear fo K aa;intro V hq aa;try replace dN:=dN.t hq
       clear hq;try simp only [nr])
     | (
       refine kc fV (ahx f (ah P o1) _ dh.out hxb.out) aa ?_;clear fV K aa;intro V hq aa;try replace dN:=dN.t hq
       clear hq;try simp only [nr])
     | (
       refine kc ja (yY (pQ f (ah P o1)) o1 _ Br.out yc.out) aa ?_;clear ja K aa;intro V hq aa;rw [ou.out];try replace dN:=dN.t hq
       clear hq;try simp only [nr])
     | (
       have hK:=dn;clear dn;obtain⟨gy,lq⟩:=Le (V.heap.size);have abr:gw<gy:=(by rw [<-lq];exact(aa.2.2.1).lt);go_simp;refine FW _ (λV hV=> ?_);have hq:=FX hV;have dN:Ar V gy 16 (λ_=>0):=(by rw [hV,<-lq];exact Ar.new _ 16 (λ_=>0) _);try rw [lq]
       refine ko hK hq aa ?_;clear hK hq hV lq;intro lT;clear aa;have aa:=lT;clear lT;try simp only [nr])
     | (
       have hK:=wR;clear wR;rw [if_pos (by rfl)];refine wp_store_mid _ _ _ rfl gy 0 (ae 16 (cp)).toArray rfl rfl dN.there (ay _) (all_oneCell_toArray (dz 16 (cp))) ?_;try replace dN:=dN.whole (cp)
       dsimp only [List.toList_toArray];refine so hK (w:=V) (b:=gy) (o:=0) (vs:=(ae 16 (cp))) aa ?_;clear hK K aa;intro aa;generalize World.setCells V gy 0 (ae 16 (cp))=V at*;try simp only [Act.put])
     | (
       refine wpAnyH_ready (rs:= [6,9]) (by decide+kernel) (by simp) ?_;refine AllReadyH.cons rfl (λK fV=> ?_) (AllReadyH.cons rfl (λK dn=> ?_) AllReadyH.nil))
     | (
       refine wpAnyH_ready (rs:= [8,9]) (by decide+kernel) (by simp) ?_;refine AllReadyH.cons rfl (λK ja=> ?_) (AllReadyH.cons rfl (λK dn=> ?_) AllReadyH.nil))
     | (
       refine wpAnyH_ready (rs:= [3,9]) (by decide+kernel) (by simp) ?_;refine AllReadyH.cons rfl (λK dw=> ?_) (AllReadyH.cons rfl (λK dn=> ?_) AllReadyH.nil))
     | (
       refine wpAnyH_ready (rs:= [5,9]) (by decide+kernel) (by simp) ?_;refine AllReadyH.cons rfl (λK fo=> ?_) (AllReadyH.cons rfl (λK dn=> ?_) AllReadyH.nil))
     | (
       refine wpAnyH_ready (rs:= [6]) (by decide+kernel) (by simp) ?_;refine AllReadyH.cons rfl (λK fV=> ?_) AllReadyH.nil)
     | (
       refine wpAnyH_ready (rs:= [5]) (by decide+kernel) (by simp) ?_;refine AllReadyH.cons rfl (λK fo=> ?_) AllReadyH.nil)
     | (
       refine wpAnyH_ready (rs:= [8]) (by decide+kernel) (by simp) ?_;refine AllReadyH.cons rfl (λK ja=> ?_) AllReadyH.nil)
     | (
       refine wpAnyH_ready (rs:= [10]) (by decide+kernel) (by simp) ?_;refine AllReadyH.cons rfl (λK wR=> ?_) AllReadyH.nil)
     | (
       refine wpAnyH_ready (rs:= [3]) (by decide+kernel) (by simp) ?_;refine AllReadyH.cons rfl (λK dw=> ?_) AllReadyH.nil)
     | (
       refine wpAnyH_ready (rs:= [9]) (by decide+kernel) (by simp) ?_;refine AllReadyH.cons rfl (λK dn=> ?_) AllReadyH.nil))
    all_goals refine wpAnyH_done (by kernel_rfl) ?_ _
    all_goals
     refine NoPanic.normal ?_;exact⟨rfl,gy,rfl,aa.1,aa.2.1,aa.2.2.1,aa.2.2.2.1,dN,by omega,aa.2.2.2.2⟩
   rintro gy x6 ⟨RS,RU,De,RV,Pd,Vd,ng⟩;clear Bt OA Gn OB iO;have I8:=I9 gy;have hbs:b0<=x6.heap.size:=(by have:=De.1;have:=De.2.1;omega);go_wp2_with (at_builtin;refine wpList_append_own _ rfl _ _ 45 rfl b0 5 i0 (.int .u8 0) 1 1 Tryz.underlying45 oL.out qh.out oM.out tT.out (by decide) (by decide) _ _ _ rfl De.2.2.2 ⟨gy,0,none⟩ 16 16 (ae 16 cp) rfl (by simp [bz]) Pd.src (dz 16 cp) (by have e1:=HN.out;have e2:=wQ.out;unfold maxLen;omega) (by have e1:=HN.out;have e2:=wQ.out;omega) hbs ?_;intro v8 z1 ni mF _;obtain⟨A3,c3,rfl⟩:=su ni);have k8:Below b0 x6 z1:=(Below.refl _ _).grown mF hbs (λg hg=>yg De.2.2.2 hg);have ji:jQ z1 b0 (.slice A3 (16*k+16) c3) (16*k+16) (aP (16*(k+1)) (eG f s a l N)):=(by unfold jQ;rw [<-I4.out];exact ni);have uL:=k8.size;have R3:Ob z1 b0 (z1.heap.size-1) (.slice A3 (16*(k+1)) c3) (16*(k+1)) (aP (16*(k+1)) (eG f s a l N)):=Ob.new ji (by omega) (by omega);have Gp:=RS.keep (by omega) k8;have RZ:=RU.keep (by omega) k8;have OG:=RV.keep (by omega) k8;have zU:=ng.trans (k8.mono (by omega));have Dg:go<=z1.heap.size-1:=(by have:=OG.lt (by omega);omega);clear ni mF k8 ji uL hbs I8;have Eu:=CJ.out;go_wp2_with fail;go_roundw;case rel=>exact⟨k+1,A3,c3,z1.heap.size-1,by have h9:=yf.out;omega,by first|go_num|(rw [zT.out.2.1,yf.out]),rfl,Dg,Gp,RZ,by rw [yf.out,Ox.out];exact OG,R3,zU⟩
   case measure=>(try rw [zT.out.2.1]);simp [intOf];have h9:=yf.out;omega
  ·obtain rfl:N=k:=by omega
   have i1: ¬(N:Int)<(N:Int):=(by omega);obtain⟨hab,wM⟩:=aB (mP tC.out aQ.out N) (λi hi=>ahy f s a l N i hi);obtain⟨an,sD⟩: ∃u,bS a s N=u:=⟨_,rfl⟩;rw [sD]at hab wM;have vG:=Hi (dL hab.out aQ.out);obtain⟨o2,wT⟩: ∃u,ah an s=u:=⟨_,rfl⟩;rw [wT]at vG wM;obtain⟨K7,Dh,OL⟩:=dD wT (show aj (aJ f o2)from fM dh.out vG.out 10) (λV=>Ip f o2 V dh.out vG.out);obtain⟨pd,Em⟩: ∃u,aJ f o2=u:=⟨_,rfl⟩;rw [Em]at Dh OL wM;rw [sD]at ru;have Yg:w.heap.size<=b0:=(by omega);have Yh:gw<wr.heap.size:=mZ.1;clear sD Em wT Yh;go_upto_region 11 with fail;clear hk hlt i1;apply NC (F:=λgp W=>Ar W w.heap.size 432 (aX (ek f) sb)/\Ar W gs 16 (s)/\Ar W go 16 (an)/\Ob W b0 gw (.slice A2 (16*N) c2) (16*N) (aP (16*N) (eG f s a l N))/\Wb W gp 16 (pd) 22/\gw<gp/\Below w.heap.size w W);case h1=>
    refine wp_region_noPanic ?_;refine wp_region_held_drew (S:=λW=>Ar W w.heap.size 432 (aX (ek f) sb)/\Ar W gs 16 (s)/\Ar W go 16 (an)/\Ob W b0 gw (.slice A2 (16*N) c2) (16*N) (aP (16*N) (eG f s a l N))/\Below w.heap.size w W) (by kernel_rfl) ⟨qC.drew,vC.drew,ru.drew,mZ.drew,ib.drew⟩ (λaa=> ?_);generalize World.drew wr=V at*;refine tm 0 (λW hSw=>hSw.1.range) HS.out HW.out (nE _) ?_;refine tm 1 (λW hSw=>hSw.2.2.1.range) Tryz.aM rfl (ay _) ?_;refine tm 2 (λW hSw=>hSw.2.1.range) Tryz.aM rfl (ay _) ?_;repeat' (first
     | (
       refine kc dw (yY an s _ hab.out aQ.out) aa ?_;clear dw K aa;intro V hq aa;rw [K7.out];try replace XV:=abt (XV) (by omega) hq
       clear hq;try simp only [nr])
     | (
       refine kc je (OL.out _) aa ?_;clear je K aa;intro V hq aa;try replace XV:=abt (XV) (by omega) hq
       clear hq;try simp only [nr])
     | (
       have hK:=fo;clear fo;obtain⟨gp,XX⟩:=Le (V.heap.size);have Yi:gw<gp:=(by rw [<-XX];exact(aa.2.2.2.1).lt);go_simp;refine FW _ (λV hV=> ?_);have hq:=FX hV;have XV:Wb V gp 16 (λ_=>0) 22:=(by rw [hV,<-XX];exact Wb.new _ 16 _ _);try rw [XX]
       refine ko hK hq aa ?_;clear hK hq hV XX;intro lT;clear aa;have aa:=lT;clear lT;try simp only [nr])
     | (
       have hK:=fV;clear fV;rw [if_pos (by rfl)];refine wp_store_mid _ _ _ rfl gp 0 (ae 16 (pd)).toArray rfl rfl XV.ar.there (ay _) (all_oneCell_toArray (dz 16 (pd))) ?_;try replace XV:=XV.whole (pd)
       dsimp only [List.toList_toArray];refine so hK (w:=V) (b:=gp) (o:=0) (vs:=(ae 16 (pd))) aa ?_;clear hK K aa;intro aa;generalize World.setCells V gp 0 (ae 16 (pd))=V at*;try simp only [Act.put])
     | (
       refine wpAnyH_ready (rs:= [4,5]) (by decide+kernel) (by simp) ?_;refine AllReadyH.cons rfl (λK je=> ?_) (AllReadyH.cons rfl (λK fo=> ?_) AllReadyH.nil))
     | (
       refine wpAnyH_ready (rs:= [3,5]) (by decide+kernel) (by simp) ?_;refine AllReadyH.cons rfl (λK dw=> ?_) (AllReadyH.cons rfl (λK fo=> ?_) AllReadyH.nil))
     | (
       refine wpAnyH_ready (rs:= [6]) (by decide+kernel) (by simp) ?_;refine AllReadyH.cons rfl (λK fV=> ?_) AllReadyH.nil)
     | (
       refine wpAnyH_ready (rs:= [5]) (by decide+kernel) (by simp) ?_;refine AllReadyH.cons rfl (λK fo=> ?_) AllReadyH.nil)
     | (
       refine wpAnyH_ready (rs:= [4]) (by decide+kernel) (by simp) ?_;refine AllReadyH.cons rfl (λK je=> ?_) AllReadyH.nil)
     | (
       refine wpAnyH_ready (rs:= [3]) (by decide+kernel) (by simp) ?_;refine AllReadyH.cons rfl (λK dw=> ?_) AllReadyH.nil))
    all_goals refine wpAnyH_done (by kernel_rfl) ?_ _
    all_goals
     refine NoPanic.normal ?_;exact⟨rfl,gp,rfl,aa.1,aa.2.1,aa.2.2.1,aa.2.2.2.1,XV,by omega,aa.2.2.2.2⟩
   rintro gp x7 ⟨I6,RX,RY,OC,Ll,Yj,lU⟩;clear qC vC ru mZ ib;obtain⟨k1,k2,k3,k4⟩:=Ep.out;go_wp2_with fail;clear k1 k2 k3 k4;have az:Ob x7 b0 gw (.slice A2 o c2) o (aP o (eG f s a l N)):=(by rw [<-HO.out];exact OC);have hon:o<=n:=(by have:=eF.out;have:=HO.out;omega);try rw [HO.out]
   go_loopw [9,14] (λv t wr=> ∃(i:Nat) (A2:Option Addr) (c2 gw:Nat),o<=i/\i<=n/\t= .int .i64 i/\v= .slice A2 i c2/\Wb wr gp 16 (pd) 22/\Ob wr b0 gw (.slice A2 i c2) (i) (aP i (eG f s a l N))/\Below w.heap.size w wr) (λ_ t _=>n-(intOf t).toNat);case atStart=>exact⟨o,A2,c2,gw,Nat.le_refl _,hon,rfl,rfl,Ll,az,lU⟩
   case round=>
    clear I6 RX RY OC Ll lU az hgw;obtain⟨i,A4,c4,Vf,hoi,hin,rfl,rfl,Jb,mZ,ib⟩:=hrel;by_cases Vg:i<n
    ·have i2:(i:Int)<(n:Int):=(by omega);obtain⟨b,ob,pJ,hbl⟩:=KX gD.out (by omega);subst pJ;obtain⟨q1,cB⟩:=Le (i-o);have Jc:q1<16:=(by have:=eF.out;have:=HO.out;omega);obtain⟨EG,Bu⟩:=aB (aaH (i:=i) (o:=o) (q:=q1) (by omega) (by have:=HN.out;omega)) (wM.out i (by rw [HO.out];exact hoi));rw [HO.out,cB]at Bu;have Bw:=Hi (mo _ _ (qx l i) (Dh.out q1 Jc));have hzb:lF l i^^^pd q1<256:=Nat.xor_lt_two_pow (n:=8) (qx l i) (Dh.out q1 Jc);have EH:=Hi (λV (hb:Below w.heap.size w V)=>aaI (gD.out.below hb) i Vg);obtain⟨x,hx⟩: ∃u,lF l i=u:=⟨_,rfl⟩;rw [hx]at Bw Bu EH hzb;obtain⟨z,bJ⟩: ∃u,x^^^pd q1=u:=⟨_,rfl⟩;rw [bJ]at Bw Bu hzb;obtain⟨OQ,Jd⟩:=aB (show(aP i (eG f s a l N)).map b8++ [n8 z]=(aP (i+1) (eG f s a l N)).map b8 by rw [Bu.out,List.map_append,List.map_singleton,Bz _ hzb];rfl) (show(q1:Int)<16 by omega);clear hx bJ cB hzb Bu;go_upto_region 15 with fail;refine wp_region_noPanic ?_;have Ya:=mZ.drew;refine wp_region_held_drew (S:=λW=>Wb W gp 16 (pd) 22/\Below w.heap.size w W) (by kernel_rfl) ⟨Jb.drew,ib.drew⟩ (λaa=> ?_);clear Jb ib mZ;generalize World.drew wr=XY at*;refine ty 0 rfl ?_;refine ty 1 rfl ?_;refine ty 2 rfl ?_;refine ty 3 rfl ?_ (λW hSw=>by have hpi:=EH.out W hSw.2;go_simp;try with_reducible rfl);refine ty 4 rfl ?_ (λW hSw=>by have hpi:=EH.out W hSw.2;go_simp;try with_reducible rfl);refine ty 5 rfl ?_;refine ty 6 rfl ?_
     refine ty 7 rfl ?_ (λW hSw=>by obtain⟨k1,k2,k3,k4⟩:=Ep.out;obtain⟨m1,m2,m3,m4⟩:=EG.out;go_simp;try with_reducible rfl);refine ty 8 rfl ?_ (λW hSw=>by obtain⟨k1,k2,k3,k4⟩:=Ep.out;obtain⟨m1,m2,m3,m4⟩:=EG.out;go_simp;try with_reducible rfl);refine ty 9 rfl ?_ (λW hSw=>by have Jc:=Jd.out;obtain⟨m1,m2,m3,m4⟩:=EG.out;go_simp;try with_reducible rfl);refine ty 10 rfl ?_ (λW hSw=>by have hpc:=((hSw.1).ar q1 (by have:=Jd.out;omega)).1;go_simp;try with_reducible rfl);refine ty 11 rfl ?_ (λW hSw=>by have sZ:=Bw.out;go_simp;try with_reducible rfl);refine rd 12 rfl (λK hK=> ?_);obtain⟨XZ,X0⟩:=Lv (XY.alloc (.cells #[n8 z] 5));have hq:=Bl X0;have CS:XZ.cell? ⟨XY.heap.size,0,none⟩=some (n8 z):=(by rw [X0,World.cell?_alloc_at _ _ _ _ rfl];rfl);go_simp;rw [show XY.alloc (.cells #[.int .u8 (z:Nat)] 5)=XZ from X0.symm];clear X0;obtain⟨gz,hgz⟩:=Le (XY.heap.size);rw [hgz]at CS;try rw [hgz]
     have XW:=Ya.to hq;refine ko hK hq aa ?_;clear hK K aa hq hgz Ya;intro aa;try simp only [nr]
     refine rd 13 rfl (λK hK=> ?_);have hbl:=(XW).2.1;have hsz:=(XW).1;have hbs:b0<=XZ.heap.size:=(by omega);rw [if_pos (by rfl)];refine wp_append_own _ _ _ 45 rfl b0 5 i0 (.int .u8 0) 1 1 Tryz.underlying45 oL.out qh.out oM.out tT.out (by decide) (by decide) _ _ _ rfl (XW).2.2.2 ⟨gz,0,none⟩ 1 1 ([n8 z]) rfl (by simp [bz]) (λj u hu=>by cases j with|zero=>(simp at hu;subst hu;exact CS)|succ j=>simp at hu) (by first|exact dz 16 _|(intro u hu;simp at hu;subst hu;rfl)) (by have e1:=HN.out;have e2:=hin;unfold maxLen;omega) (by have e1:=HN.out;have e2:=hin;omega) hbs ?_;intro v8 X3 ni mF _;have k8:Below b0 XZ X3:=(Below.refl _ _).grown mF hbs (λg hg=>yg (XW).2.2.2 hg);obtain⟨A5,c5,rfl⟩:=su ni;have ji:jQ X3 b0 (.slice A5 (i+1) c5) (i+1) (aP (i+1) (eG f s a l N)):=(by unfold jQ;rw [<-OQ.out];exact ni);have uL:=k8.size;obtain⟨g5,zV⟩: ∃g,X3.heap.size-1=g:=⟨_,rfl⟩;have X5:Ob X3 b0 g5 (.slice A5 (i+1) c5) (i+1) (aP (i+1) (eG f s a l N)):=(by rw [<-zV];exact Ob.new ji (by omega) (by omega));have aaQ:b0<=g5+1:=X5.2.1;refine hK.out _ _ ⟨aaR (aa.1) (by omega) mF (aaS (aa.1) XW.2.2.2),(aa.2).trans (k8.mono (by omega))⟩ ?_;clear hK K aa ni mF k8 ji uL zV hbl hsz hbs XW;intro aa;try simp only [nr]
     refine ty 14 rfl ?_;refine wpAnyH_done (by kernel_rfl) ?_ _;have Vh:=aa.1;have Lb:=aa.2;have Vi:=X5;clear aa X5;refine NoPanic.normal ?_;try dsimp only [Act.put]
     have e1:=HN.out;clear EG Jd Bw OQ EH;go_wp2_with fail;go_roundw;case rel=>exact⟨i+1,A5,c5,g5,by omega,by omega,by go_num,rfl,Vh,Vi,Lb⟩
     case measure=>simp [intOf];omega
    ·obtain rfl:n=i:=by omega
     have i2: ¬(n:Int)<(n:Int):=(by omega);go_wp2_with fail;go_ret;exact⟨A4,c4,rfl,by rw [<-U4 HLEN.out eF.out];exact K6 mZ.2.2.2 Yg,ib⟩
end
section
open Go.RowKit
theorem akB {w:World} {B B' n c:Nat} {A:Option Addr} {l:List UInt8} (h:jQ w B (.slice A n c) n l) (hB:B'<=B): ∀a2:Addr,A=some a2->B'<=a2.block:=λa2 ha=>by
 rcases h.2 with ⟨h0,_⟩|⟨g,cap,cur,hv,hbg,_⟩
 ·injection h0 with e1;rw [e1]at ha;cases ha
 ·injection hv with e1;rw [e1]at ha;injection ha with e2;rw [<-e2];exact Nat.le_trans hB hbg
theorem akC {n M:Nat} (h:n-16=M) (h2:16<=n) (hn:n<=1000000):wrap64 ((n:Int)-16)=(M:Int)/\IntKind.i64.wrap ((n:Int)-16)=(M:Int)/\(n:Int)-16=(M:Int)/\IntKind.i64.wrap (M:Int)=(M:Int)/\M<=n/\M+16=n:=by
 refine⟨?_,?_,by omega,fO _ (by omega) (by omega),by omega,by omega⟩
 ·rw [IntWalk.wrap64_in _ (by omega)];omega
 ·rw [show(n:Int)-16=(M:Int)by omega,fO _ (by omega) (by omega)]
theorem ai2 (f q s a:Nat->Nat) (D:Option Addr) (m cd:Nat) (d:List UInt8) (A:Option Addr) (n c:Nat) (l PL:List UInt8) (C:Nat) (w:World) (hf:aj f) (dF:oZ q) (hs:aJ f zF=s) (ha:mg (aJ f (eZ q)) (q 11)=a) (hD:Sl w w.heap.size D m d) (hmc:m<=cd) (hm:m<=0) (hS:Sl w w.heap.size A n l) (hnc:n<=c) (hn:n<=1000000) (hC:opC f s a d l=C) (jq:Fu f s a d l=PL):
  Calls Tryz.prog 102 #[.agg (ae 432 (aX (ek f) sb)).toArray,.agg (ae 12 q).toArray,.slice D m cd,.slice A n c] w λe w'=> ∃(A2:Option Addr) (c2:Nat),e= .returned (.tuple #[.slice A2 PL.length c2,.int .i64 (C:Int)])/\Sl w' w'.heap.size A2 PL.length PL/\PL.length<=c2/\Below w.heap.size w w'/\ ∀a2:Addr,A2=some a2->w.heap.size<=a2.block:=by
 obtain⟨kE,dZ⟩:=Le ((ae 432 (aX (ek f) sb)).toArray);obtain⟨kQ,iV⟩:=Le ((ae 12 (q)).toArray);obtain⟨w1,af,ak,aW,iC⟩:=nA w 432 (aX (ek f) sb) 35;obtain⟨w2,ag,aD,bU,qH⟩:=fw ak aW 12 (q) 168;have fZ:=bn ag iC;clear iC aW;rw [dZ]at af;rw [iV]at ag;rw [dZ,iV];clear dZ iV;obtain⟨dK,hfs,hrow⟩:=Tryz.qa;obtain⟨HS,HW⟩:=aB hfs hrow;clear hfs hrow;have hlen:=hS.len;obtain⟨HLEN,dh,Bp,gD,jC,aQ,ql,nW⟩:=uH hlen hf dF hS hD (show aj s by rw [<-hs];exact fM hf jw 10) (show aj a by rw [<-ha];exact Eh (fM hf (xH dF) 10) _) hs;obtain⟨MO,fP,HN,l8,HM,HC,wJ⟩:=zD ha hnc hn hmc hm hC jq;have akf:(n:Int)<9223372036854775808:=by omega
 clear hf dF hS hD hs ha hnc hmc hm hlen hC jq hn;go_enter Tryz.func102,Tryz.ntmps102;go_upto_region 1 with fail;rw [<-af,<-ag];clear af ag;try simp only [Nat.add_assoc,Nat.reduceAdd]
 obtain⟨gQ,qi⟩:=Le (w.heap.size+1);rw [qi]at qH;try rw [qi]
 have U5:w.heap.size<gQ:=by omega
 clear ak aD qi;by_cases uZ:n<16
 ·have i1:(n:Int)<16:=by omega
  obtain⟨tN,oD⟩:=aB (HC.out.symm.trans (Qx HLEN.out uZ)) (wJ.out.symm.trans (TI (by rw [Qx HLEN.out uZ];decide)));clear uZ;go_wp2_with fail;go_ret2;exact⟨none,0,by rw [tN.out,oD.out];rfl,by rw [oD.out];exact CR _ _,by rw [oD.out];exact Nat.le_refl _,bU,λ_ h=>by cases h⟩
 ·have i1: ¬(n:Int)<16:=by omega
  obtain⟨M,hM⟩:=Le (n-16);obtain⟨Fw,Fx⟩:=aB hM (show 16<=n by omega);have oV:=Hi (akC hM Fx.out HN.out);have qR:=Hi (NI A n c M oV.out.2.2.2.2.1 fP.out);clear hM uZ;go_upto_region 3 with fail;refine wp_region_noPanic ?_;refine wp_region_held_drew (S:=λW=>Ar W w.heap.size 432 (aX (ek f) sb)/\Ar W gQ 12 (q)/\Below w.heap.size w W) (by kernel_rfl) ⟨fZ.drew,qH.drew,bU.drew⟩ (λaa=> ?_);clear fZ qH bU;generalize World.drew w2=ad at*;refine tm 0 (λW hSw=>hSw.1.range) HS.out HW.out (nE _) ?_;refine tm 1 (λW hSw=>hSw.2.1.range) Tryz.yI rfl (yJ _) ?_;refine ty 2 rfl ?_;refine ty 3 rfl ?_;refine ty 4 rfl ?_;refine ty 5 rfl ?_ (λW hSw=>by obtain⟨m1,m2,m3,m4,m5,m6⟩:=oV.out;go_simp;try with_reducible rfl);refine ty 6 rfl ?_ (λW hSw=>by have hsl:=qR.out W;go_simp;try with_reducible rfl);refine rd 7 rfl (λK hK=> ?_);go_simp;refine(ahw f q s a A M c (l.take M) _ dh.out Bp.out nW.out MO.out (Rm ((gD.out.below (aa.2.2)).more (aa.2.2).size) oV.out.2.2.2.2.1) (Nat.le_trans oV.out.2.2.2.2.1 fP.out) (Nat.le_trans oV.out.2.2.2.2.1 HN.out)).mono ?_;rintro e a6 ⟨A2,c2,rfl,ji,hq⟩;have jo:=Hi (akB ji (aa.2.2).size);have zq:=Sl.jk ji;have Gl:=Hi (acR ji);obtain⟨gp,uM⟩: ∃g,a6.heap.size-1=g:=⟨_,rfl⟩;have XX:Sy a6 gp A2 M (kr f s a (l.take M)):=by rw [<-uM];exact Sy.new zq (Nat.lt_of_lt_of_le (Nat.zero_lt_of_lt (aa.1.lt (by omega))) hq.size)
  clear zq ji uM;go_wp2_with fail;refine ko hK hq aa ?_;clear hK K aa hq;intro aa;try simp only [nr]
  refine ty 8 rfl ?_;refine wpAnyH_done (by kernel_rfl) ?_ _;have Gp:=aa.1;have MW:=aa.2.1;have zU:=aa.2.2;have XW:=XX;clear aa XX;refine NoPanic.normal ?_;try dsimp only [Act.put]
  clear i1;obtain⟨yF,jb⟩: ∃u,kr f s a (l.take M)=u:=⟨_,rfl⟩;rw [jb]at XW;have Ho:=Hi jb;clear jb;go_wp2_with (first|(refine wpList_load_mid rfl _ _ rfl w.heap.size 0 rfl (ae 432 (aX (ek f) sb)) _ Gp.range HS.out HW.out (nE _) ?_)|(refine bB rfl _ _ rfl _ _ _ rfl MW Tryz.yI (yJ _) ?_));refine(ac8 f q s a D m cd d A2 M c2 yF _ dh.out Bp.out nW.out MO.out ((jC.out.below zU).more zU.size) l8.out HM.out XW.sl Gl.out (Nat.le_trans oV.out.2.2.2.2.1 HN.out)).mono ?_;rintro e x1 ⟨A3,c3,rfl,yU,hq⟩;have Fy:=Sl.jk yU;clear yU;have jY:=Gp.t hq;have mY:=MW.t hq;have XY:=XW.to hq;have aT:=Tq zU hq;clear hq Gp MW XW zU;obtain⟨U,hU⟩: ∃U,nC f s a yF (uB f s (mD yF) (nM s a M) d)=U:=⟨_,rfl⟩;rw [hU]at Fy;have HU:=Hi hU;clear hU;go_wp2_with fail;refine(same A3 A (M+16) n c3 c U l _ Fy ((gD.out.below aT).more aT.size) (by have:=HN.out;have:=oV.out.2.2.2.2.2;omega) (by have:=HN.out;omega)).mono ?_;rintro e x2 ⟨rfl,hdr⟩;have hq:=hdr.below x1.heap.size;clear hdr;have og:=jY.t hq;have tV:=mY.t hq;have Qy:=XY.to hq;have di:=Tq aT hq;clear hq jY mY XY aT;clear Fy;by_cases XV:U=l
  ·have hd:decide (U=l)=true:=(by simp [XV]);rw [hd];have HT:=Hi (show aP 16 (uC f s a d l M)=l.drop M from Classical.byContradiction λht=>akt dh.out aQ.out ql.out HLEN.out Fw.out Fx.out ht (by show nC f s a (kr f s a (l.take M)) (uB f s (mD (kr f s a (l.take M))) (nM s a M) d)=l;rw [Ho.out,HU.out];exact XV));have tN:=Hi (WW HLEN.out Fw.out Fx.out HT.out);obtain⟨oD,nT,J9⟩:=dD (wJ.out.symm.trans ((TL HLEN.out Fw.out tN.out).trans Ho.out)) (HC.out.symm.trans tN.out) (show yF.length=M by rw [<-Ho.out,KQ,List.length_take,HLEN.out];have:=oV.out.2.2.2.2.1;omega);clear hd XV;go_wp2_with fail;go_ret2;exact⟨A2,c2,by rw [nT.out,oD.out,J9.out];rfl,by rw [oD.out,J9.out];exact Qy.sl,by rw [oD.out,J9.out];exact Gl.out,di,jo.out⟩
  ·have hd:decide (U=l)=false:=(by simp [XV]);rw [hd];have HT:=Hi (show aP 16 (uC f s a d l M)≠l.drop M from λht=>XV (by have h9:=aks (d:=d) dh.out aQ.out ql.out HLEN.out Fw.out Fx.out ht;rw [<-HU.out,<-Ho.out];exact h9));have tN:=Hi (acV HLEN.out Fw.out Fx.out HT.out);obtain⟨nT,oD⟩:=aB (HC.out.symm.trans tN.out) (wJ.out.symm.trans (TI (by rw [tN.out];decide)));clear hd XV;go_wp2_with fail;go_ret2;exact⟨none,0,by rw [nT.out,oD.out];rfl,by rw [oD.out];exact CR _ _,by rw [oD.out];exact Nat.le_refl _,di,λ_ h=>by cases h⟩
end
end Go.Proofs.YtdaiacmneopkgaaGreatDoor
