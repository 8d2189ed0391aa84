/-
 Contract of Decrypt of package open, by a walk through its text: the plaintext, in a slice of its own, its checksum and the offset; over a made Table of a key; what was there stays as it was.
-/
import Derived.Test.YtdaiacmneopkgaaGreatDoorMaj
import Derived.Test.YtdaiacmneopkgaaGreatDoorSeq
namespace Go.Proofs.YtdaiacmneopkgaaGreatDoor
set_option linter.unusedSimpArgs false
set_option linter.unusedVariables false
set_option maxRecDepth 100000
set_option maxHeartbeats 4000000
open Go.RowKit
open Go.Shelf
theorem am5 {k q:Nat} (h:k+1=q) (hk:k<1000000):(k:Int)+1=(q:Int)/\wrap64 ((k:Int)+1)=(q:Int)/\IntKind.i64.wrap ((k:Int)+1)=(q:Int)/\wrap64 (q:Int)=(q:Int)/\IntKind.u64.wrap (q:Int)=(q:Int)/\IntKind.i64.wrap (q:Int)=(q:Int):=UH h hk
theorem akg (p:Option Addr) (f s q a:Nat->Nat) (A:Option Addr) (n c:Nat) (l:List UInt8) (w:World) (hf:aj f) (hs:aJ f zF=s) (dF:oZ q) (ha:mg (aJ f (eZ q)) (q 11)=a) (hS:Sl w w.heap.size A n l) (hnc:n<=c) (hn:n<=1000000) (ht:Bf w p f) (hx:eX w):
  Calls Tryz.prog 127 #[.pointer p,.agg (ae 12 q).toArray,.slice A n c] w λe w'=> ∃(A2:Option Addr) (c2:Nat),e= .returned (.tuple #[.slice A2 n c2,.agg (ae 16 (mD (kr f s a l))).toArray,.agg (ae 16 (nM s a n)).toArray])/\jQ w' w.heap.size (.slice A2 n c2) n (kr f s a l)/\Below w.heap.size w w':=by
 obtain⟨kQ,iV⟩:=Le ((ae 12 (q)).toArray);obtain⟨w1,af,ak,aW,Fv⟩:=nA w 12 (q) 168;obtain⟨w2,ag⟩:=Lv (w1.alloc (.cells #[.slice A n c] 45));have aD:=uN ag ak;have bU:=Bm ag aW;have qH:=bn ag Fv;have Jq:Bv w2 (w.heap.size+1) 45 (.slice A n c):=by rw [ag,<-ak];exact Bv.new w1 _ _
 clear Fv aW;obtain⟨w3,az,fe,fJ,jV⟩:=o7 aD bU 16 (λ_=>0) 22;have C8:=bn az qH;have YB:Bv w3 (w.heap.size+1) 45 (.slice A n c):=by rw [az];exact Jq.alloc _
 clear qH Jq bU;obtain⟨w4,cZ,rW,gZ,X8⟩:=Uz fe fJ 16 (λ_=>0) 22;have M4:=bn cZ C8;have Ya:Bv w4 (w.heap.size+1) 45 (.slice A n c):=by rw [cZ];exact YB.alloc _
 have vv:=bn cZ jV;clear C8 YB jV fJ;rw [iV]at af;rw [iV];clear iV;have hz:=jf;have hlen:=hS.len;obtain⟨HLEN,dh,Bp,gD,HT,Zy,HX,nW⟩:=uH hlen hf dF hS ht.1.1 ht.2 hx hs;obtain⟨fP,HN,aQ,ql,hst⟩:=jX hnc hn (show aj s by rw [<-hs];exact fM hf jw 10) (show aj a by rw [<-ha];exact Eh (fM hf (xH dF) 10) _) (λV h1 h2=>XI (.pointer p) f q V hf dF h1 h2);rw [ha]at hst;obtain⟨N,hN⟩:=Le (n/16);obtain⟨o,ho⟩:=Le (16*N);obtain⟨r,hr⟩:=Le (n-o);obtain⟨zK,wC,eF,HO,D7⟩:=jX (Kv hn hN ho) (ade hn hN ho hr) hN ho hr;obtain⟨i0,cu,bJ,bE,dx⟩:=info_parts xW;obtain⟨oL,qh,oM,tT,oV⟩:=jX cu bJ bE dx (show∀(fn:Fn) (first cap:Array Value) (w:World),(Instr.makeFunc fn first cap).run Tryz.prog w= .ok (.func fn first cap) w from λ_ _ _ _=>rfl);obtain⟨p2,hV,Cs,uE⟩:=HT.out;rw [nW.out]at hV;obtain⟨HV,ou,AU⟩:=dD hV Cs uE;clear hf dF hS ht hx hs ha hnc hn hN ho hr cu bJ bE dx hlen hV Cs uE;go_enter Tryz.func127,Tryz.ntmps127;go_upto_region 1 with fail;rw [<-af,<-ag,<-az,<-cZ];clear af ag az cZ;try simp only [Nat.add_assoc,Nat.reduceAdd]
 obtain⟨gX,Yb⟩:=Le (w.heap.size+1);rw [Yb]at Ya;obtain⟨gK,wF⟩:=Le (w.heap.size+2);rw [wF]at vv;obtain⟨gL,jN⟩:=Le (w.heap.size+3);rw [jN]at X8;try rw [jN]
 try rw [wF]
 try rw [Yb]
 have Z8:w.heap.size<gX:=by omega
 have CE:gX<gK:=by omega
 have yM:gK<gL:=by omega
 clear ak aD fe rW Yb wF jN;go_wp2_with fail;refine(Zy.out _ gZ).mono ?_;rintro e x1 ⟨rfl,hq⟩;have mY:=M4.t hq;have Js:=Ya.to hq;have mH:=vv.t hq;have Yc:=X8.t hq;have aT:=Tq gZ hq;clear hq M4 Ya vv X8 gZ;obtain⟨v7,hmk,hown,QI⟩:=run_make_own (P:=Tryz.prog) x1 x1.heap.size 45 5 i0 _ 1 Tryz.underlying45 oL.out qh.out oM.out .i64 .i64 n (by rw [tT.out];have:=HN.out;omega) (by unfold maxLen;have:=HN.out;omega) (Nat.le_refl _);have hq:Below x1.heap.size x1 v7:=(Below.refl _ _).grown QI (Nat.le_refl _) (λk e=>by cases e);have c0:=Js.cell;obtain⟨b0,iN⟩:=Le (x1.heap.size);have lW:gL<b0:=by rw [<-iN];exact Yc.lt (by omega)
 rw [iN]at hmk hown;have M5:=mY.t hq;have YC:=Js.to hq;have QJ:=mH.t hq;have QK:=Yc.t hq;have FD:=Tq aT hq;have YD:Ob v7 b0 b0 (.slice (some ⟨b0,0,none⟩) 0 n) 0 (aP 0 (eG f s a l N)):=⟨acD hown rfl,by omega,λk hk=>by simp [Value.ownBlock]at hk;omega,hown⟩;clear hq QI hown iN aT mY Js mH Yc;have h6:=HN.out;go_upto_region 3 with fail;clear c0 hmk h6;have Ch:=oV.out;go_upto_region 4 with fail;clear Ch;go_wp2_with (refine bB rfl _ _ rfl _ _ _ rfl M5 Tryz.yI (yJ _) ?_);refine(hst.out _ (HT.out.to FD) (HX.out.keep FD)).mono ?_;rintro e x2 ⟨rfl,hq⟩;have tV:=M5.t hq;have Sq:=YC.to hq;have GG:=QJ.t hq;have YE:=QK.t hq;have Nk:=YD.to hq;have di:=Tq FD hq;clear hq M5 YC QJ QK YD FD;clear tV;go_upto_region 5 with (first|(refine FY rfl _ _ _ rfl _ _ _ (a) rfl rfl YE (ay _) ?_;intro z3 aO YF;have jm:=Hi aO;clear aO)|fail);have aO:=jm.out;have Yd:Bv z3 gX 45 (.slice A n c):=by rw [aO];exact Sq.apart (b:=gL) (by omega) _ 0
 have YG:Ar z3 gK 16 (λ_=>0):=by rw [aO];exact GG.apart (b:=gL) (by omega) _ 0
 have YH:Ob z3 b0 b0 (.slice (some ⟨b0,0,none⟩) 0 n) (0) (aP 0 (eG f s a l N)):=by rw [aO];exact Nk.old (by omega) _ 0
 have YI:Below w.heap.size w z3:=by rw [aO];exact di.trans ((below_setCells _ gL _ 0).mono (by omega))
 clear aO jm di Sq GG YE Nk;try dsimp only [Act.put]
 obtain⟨j1,j2,j3,j4,j5,j6,j7⟩:=zK.out;have c0:=Yd.cell;have h6:=HN.out;go_wp2_with fail;clear j1 j2 j3 j4 j5 j6 j7 c0 h6;have dn:=YG.ext (f':=iF (Bo f s a l) 0) (λ_ _=>rfl);have nY:=YF.ext (f':=bS a s 0) (λj _=>by rw [Im]);clear YG YF;have pY:Bv z3 gX 45 (.slice A (n-16*0) (c-16*0)):=by rw [Nat.mul_zero,Nat.sub_zero,Nat.sub_zero];exact Yd
 clear Yd;go_loopw [6,31] (λv i wr=> ∃(k:Nat) (A2:Option Addr) (c2 gw:Nat) (AX:Option Addr),k<=N/\i= .int .i64 k/\v= .slice A2 (16*k) c2/\(∀(W:World) (B:Nat),Sl W B A n l->Sl W B AX (n-16*k) (l.drop (16*k)))/\Bv wr gX 45 (.slice AX (n-16*k) (c-16*k))/\Ar wr gK 16 (iF (Bo f s a l) k)/\Ar wr gL 16 (bS a s k)/\Ob wr b0 gw (.slice A2 (16*k) c2) (16*k) (aP (16*k) (eG f s a l N))/\Below w.heap.size w wr) (λ_ i _=>N-(intOf i).toNat);case atStart=>exact⟨0,some ⟨b0,0,none⟩,n,b0,A,Nat.zero_le _,rfl,rfl,λW B h=>by rw [Nat.mul_zero,Nat.sub_zero,List.drop_zero];exact h,pY,dn,nY,YH,YI⟩
 case round=>
  clear pY dn nY YH YI;obtain⟨k,A2,c2,gw,AX,hk,rfl,rfl,hax,XW,FM,XX,mZ,ib⟩:=hrel;have Ye:=Hi hax;clear hax;have Z9:b0<=gw+1:=mZ.2.1;by_cases hlt:k<N
  ·have i1:(k:Int)<(N:Int):=(by omega);obtain⟨q1,cB⟩:=Le (k+1);obtain⟨zT,yf,Zz,ZA,Ku,wQ⟩:=qB (am5 cB (by have:=wC.out;omega)) cB (show q1≠0 by omega) (show q1<18446744073709551616 by have:=wC.out;omega) hlt (show 16*k+16<=n by have:=eF.out;omega);obtain⟨m,hm⟩:=Le (n-16*k);obtain⟨cm,hcm⟩:=Le (c-16*k);obtain⟨HM,HCM,AJ⟩:=dD hm hcm (show 16<=m/\m<=cm by have:=wQ.out;have:=fP.out;omega);rw [hm,hcm]at XW;obtain⟨A9,hsl,lG⟩:=zL AX m cm 16 AJ.out.1 AJ.out.2;have qR:=Hi hsl;have ZB:=Hi (show∀(W:World) (B:Nat),Sl W B A n l->Sl W B A9 (n-16*q1) (l.drop (16*q1))from λW B h=>by
  have h2:=lG W B _ (hm▸Ye.out W B h);rw [List.drop_drop]at h2;rw [show n-16*q1=m-16 by omega,show 16*q1=16*k+16 by omega];exact h2)
   have XZ:=Hi (show Sl wr wr.heap.size AX m (l.drop (16*k))from hm▸Ye.out wr wr.heap.size ((gD.out.below ib).more ib.size));clear hsl lG hm hcm;have uz:w.heap.size<=gX:=(by omega);obtain⟨mE,HST,tX,hkb,yX,hcb⟩:=qB (mP ql.out aQ.out k) (Kq a s k) (show(aP (16*k) (eG f s a l N)).map b8++ae 16 (tO f (pt l k) (bS a s (k+1)))=(aP (16*(k+1)) (eG f s a l N)).map b8 by rw [abq f s a l N k hlt,List.map_append,I1 16 _ (Oj dh.out (λj _=>qA l k j) (mP ql.out aQ.out _))]) (Gj (aaA dh.out aQ.out ql.out l) k) (show ah (iF (Bo f s a l) k) (tO f (pt l k) (bS a s (k+1)))=iF (Bo f s a l) (k+1)from rfl) (Oj dh.out (λj _=>qA l k j) (mP ql.out aQ.out (k+1)));obtain⟨u0,Fy⟩: ∃u,iF (Bo f s a l) k=u:=⟨_,rfl⟩;rw [Fy]at hkb yX FM;obtain⟨ok,hok⟩: ∃u,bS a s k=u:=⟨_,rfl⟩;rw [hok]at mE HST XX;rw [cB]at HST tX yX hcb;have xZ:=Hi (xG aQ.out (jF q1+2));obtain⟨d,hd⟩: ∃d,dk s (jF q1+2)=d:=⟨_,rfl⟩;rw [hd]at HST xZ;obtain⟨HD,yc⟩:=aB hd (dL mE.out xZ.out);obtain⟨o1,ry⟩: ∃o1,bS a s q1=o1:=⟨_,rfl⟩;rw [HST.out,ry]at yc;rw [ry]at HST tX yX hcb;obtain⟨Ox,hpb,Iw⟩:=dD ry (show aj (pt l k)from λj _=>qA l k j) (agc l k);obtain⟨P,hP⟩: ∃P,pt l k=P:=⟨_,rfl⟩;rw [hP]at hpb tX yX Iw hcb;have hxb:=Hi (dL hpb.out yc.out);have Br:=Hi (show aj (pQ f (ah P o1))from Pb dh.out 10 hxb.out);obtain⟨cp,hcp⟩: ∃u,tO f P o1=u:=⟨_,rfl⟩
   have ZC:=Hi (show ah (pQ f (ah P o1)) o1=cp from hcp);rw [hcp]at tX yX hcb;clear hok hd hP cB ry Fy hcp hlt;have Ch:=oV.out;go_wp2_with fail;clear Ch;refine(aaG gX 16 (m-16) (cm-16) AX A9 m cm (l.drop (16*k)) wr XW XZ.out (Nat.min_eq_right AJ.out.1) qR.out).mono ?_;rintro e x4 ⟨rfl,Yf,lC⟩;rw [Iw.out];have qy:=Dp FM (by omega) lC (by omega) (by omega);have Yg:=Dp XX (by omega) lC (by omega) (by omega);have Db:=mZ.add lC (by omega);have iZ:=ib.trans (lC.below ib.size (by omega) (by omega));clear lC ib XW FM XX mZ;clear qR XZ Iw;obtain⟨gb,hgb⟩:=Le (x4.heap.size);have ZE:gX<gb:=(by rw [<-hgb];exact Yf.lt);have Yh:gK<gb:=(by rw [<-hgb];exact qy.lt (by omega));have Yi:gL<gb:=(by rw [<-hgb];exact Yg.lt (by omega));have Yj:gw<gb:=(by rw [<-hgb];exact Db.lt);have Nu:w.heap.size<=gb:=(by rw [<-hgb];exact iZ.size);have hq:=Ba x4 (.cells (ae 16 λ_=>0).toArray 22);have YJ:=Yf.to hq;have YK:=qy.t hq;have YL:=Yg.t hq;have Oy:=Db.to hq;have Yk:=Ar.new x4 16 (λ_=>0) 22;have Oz:=iZ.alloc iZ.size (.cells (ae 16 λ_=>0).toArray 22);rw [hgb]at Yk;clear hq Yf qy Yg Db iZ;go_upto_region 9 with (first|(refine bC rfl _ _ _ rfl _ _ _ (P) rfl rfl Yk (ay _) ?_;intro x5 YM vF U8 U9)|fail);have YN:=(YJ).keep ZE vF;have uo:=(YK).keep Yh vF;have QL:=(YL).keep Yi vF
   have Gn:=(Oy).keep Yj vF;have iO:=Oz.trans (vF.mono Nu);clear YJ YK YL Oy Yk Oz vF U8 U9 hgb;try dsimp only [Act.put]
   obtain⟨j1,j2,j3,j4,j5,j6⟩:=zT.out;go_wp2_with (refine bB rfl _ _ rfl _ _ _ rfl QL Tryz.aM (ay _) ?_);refine(ah8 (.pointer p) f ok s d q1 _ nW.out HD.out Zz.out ZA.out dh.out mE.out (HT.out.to iO)).mono ?_;rintro e x6 ⟨rfl,hq⟩;rw [HST.out];have YO:=YN.to hq;have BO:=uo.t hq;have YP:=QL.t hq;have De:=Gn.to hq;have JQ:=YM.t hq;have ng:=Tq iO hq;clear hq YN uo QL Gn YM iO;clear j1 j2 j3 j4 j5 j6;go_upto_region 10 with (first|(refine FY rfl _ _ _ rfl _ _ _ (o1) rfl rfl YP (ay _) ?_;intro z7 aO YQ;have jm:=Hi aO;clear aO)|fail);have aO:=jm.out;have YR:Bv z7 gX 45 (.slice A9 (m-16) (cm-16)):=(by rw [aO];exact YO.apart (b:=gL) (by omega) _ 0);have YS:Ar z7 gK 16 (u0):=(by rw [aO];exact BO.apart (b:=gL) (by omega) _ 0);have YT:Ob z7 b0 gw (.slice A2 (16*k) c2) (16*k) (aP (16*k) (eG f s a l N)):=(by rw [aO];exact De.old (by omega) _ 0);have YU:Ar z7 gb 16 (P):=(by rw [aO];exact JQ.apart (b:=gL) (by omega) _ 0);have YV:Below w.heap.size w z7:=(by rw [aO];exact ng.trans ((below_setCells _ gL _ 0).mono (by omega)));clear aO jm ng YO BO YP De JQ;try dsimp only [Act.put]
   apply NC (F:=λgy W=>Bv W gX 45 (.slice A9 (m-16) (cm-16))/\Ar W gK 16 (u0)/\Ar W gL 16 (o1)/\Ob W b0 gw (.slice A2 (16*k) c2) (16*k) (aP (16*k) (eG f s a l N))/\Ar W gb 16 (P)/\Ar W gy 16 (cp)/\gb<gy/\Below w.heap.size w W);case h1=>
    refine wp_region_noPanic ?_;refine wp_region_held_drew (S:=λW=>Bv W gX 45 (.slice A9 (m-16) (cm-16))/\Ar W gK 16 (u0)/\Ar W gL 16 (o1)/\Ob W b0 gw (.slice A2 (16*k) c2) (16*k) (aP (16*k) (eG f s a l N))/\Ar W gb 16 (P)/\Below w.heap.size w W) (by kernel_rfl) ⟨YR.drew,YS.drew,YQ.drew,YT.drew,YU.drew,YV.drew⟩ (λaa=> ?_);generalize World.drew z7=V at*;refine ty 0 rfl ?_;refine tm 2 (λW hSw=>hSw.2.2.2.2.1.range) Tryz.aM rfl (ay _) ?_;refine tm 3 (λW hSw=>hSw.2.2.1.range) Tryz.aM rfl (ay _) ?_;refine tm 6 (λW hSw=>hSw.2.2.1.range) Tryz.aM rfl (ay _) ?_;repeat' (first
     | (
       refine kc aN (AU.out _ (aa.2.2.2.2.2)) aa ?_;clear aN K aa;intro V hq aa;try replace dN:=dN.t hq
       clear hq;try simp only [nr])
     | (
       refine kc je (vk P o1 _ hpb.out yc.out) aa ?_;clear je K aa;intro V hq aa;try replace dN:=dN.t hq
       clear hq;try simp only [nr])
     | (
       refine kc fo (amV (.pointer p2) f (ah P o1) _ dh.out hxb.out (ou.out.to (aa.2.2.2.2.2)) (HX.out.keep (aa.2.2.2.2.2))) aa ?_;clear fo K aa;intro V hq aa;try replace dN:=dN.t hq
       clear hq;try simp only [nr])
     | (
       refine kc jE (vk (pQ f (ah P o1)) o1 _ Br.out yc.out) aa ?_;clear jE K aa;intro V hq aa;rw [ZC.out];try replace dN:=dN.t hq
       clear hq;try simp only [nr])
     | (
       have hK:=ja;clear ja;obtain⟨gy,lq⟩:=Le (V.heap.size);have ZF:gb<gy:=(by rw [<-lq];exact(aa.2.2.2.2.1).lt (by omega));have abr:gw<gy:=(by rw [<-lq];exact(aa.2.2.2.1).lt);have ZG:gL<gy:=(by rw [<-lq];exact(aa.2.2.1).lt (by omega));go_simp;refine FW _ (λV hV=> ?_);have hq:=FX hV;have dN:Ar V gy 16 (λ_=>0):=(by rw [hV,<-lq];exact Ar.new _ 16 (λ_=>0) _);try rw [lq]
       refine ko hK hq aa ?_;clear hK hq hV lq;intro lT;clear aa;have aa:=lT;clear lT;try simp only [nr])
     | (
       have hK:=dn;clear dn;rw [if_pos (by rfl)];refine wp_store_mid _ _ _ rfl gy 0 (ae 16 (cp)).toArray rfl rfl dN.there (ay _) (all_oneCell_toArray (dz 16 (cp))) ?_;try replace dN:=dN.whole (cp)
       dsimp only [List.toList_toArray];refine so hK (w:=V) (b:=gy) (o:=0) (vs:=(ae 16 (cp))) aa ?_;clear hK K aa;intro aa;generalize World.setCells V gy 0 (ae 16 (cp))=V at*;try simp only [Act.put])
     | (
       refine wpAnyH_ready (rs:= [5,8]) (by decide+kernel) (by simp) ?_;refine AllReadyH.cons rfl (λK fo=> ?_) (AllReadyH.cons rfl (λK ja=> ?_) AllReadyH.nil))
     | (
       refine wpAnyH_ready (rs:= [1,8]) (by decide+kernel) (by simp) ?_;refine AllReadyH.cons rfl (λK aN=> ?_) (AllReadyH.cons rfl (λK ja=> ?_) AllReadyH.nil))
     | (
       refine wpAnyH_ready (rs:= [4,8]) (by decide+kernel) (by simp) ?_;refine AllReadyH.cons rfl (λK je=> ?_) (AllReadyH.cons rfl (λK ja=> ?_) AllReadyH.nil))
     | (
       refine wpAnyH_ready (rs:= [7,8]) (by decide+kernel) (by simp) ?_;refine AllReadyH.cons rfl (λK jE=> ?_) (AllReadyH.cons rfl (λK ja=> ?_) AllReadyH.nil))
     | (
       refine wpAnyH_ready (rs:= [5]) (by decide+kernel) (by simp) ?_;refine AllReadyH.cons rfl (λK fo=> ?_) AllReadyH.nil)
     | (
       refine wpAnyH_ready (rs:= [8]) (by decide+kernel) (by simp) ?_;refine AllReadyH.cons rfl (λK ja=> ?_) AllReadyH.nil)
     | (
       refine wpAnyH_ready (rs:= [4]) (by decide+kernel) (by simp) ?_;refine AllReadyH.cons rfl (λK je=> ?_) AllReadyH.nil)
     | (
       refine wpAnyH_ready (rs:= [1]) (by decide+kernel) (by simp) ?_;refine AllReadyH.cons rfl (λK aN=> ?_) AllReadyH.nil)
     | (
       refine wpAnyH_ready (rs:= [7]) (by decide+kernel) (by simp) ?_;refine AllReadyH.cons rfl (λK jE=> ?_) AllReadyH.nil)
     | (
       refine wpAnyH_ready (rs:= [9]) (by decide+kernel) (by simp) ?_;refine AllReadyH.cons rfl (λK dn=> ?_) AllReadyH.nil))
    all_goals refine wpAnyH_done (by kernel_rfl) ?_ _
    all_goals
     refine NoPanic.normal ?_;exact⟨rfl,gy,rfl,aa.1,aa.2.1,aa.2.2.1,aa.2.2.2.1,aa.2.2.2.2.1,dN,by omega,aa.2.2.2.2.2⟩
   rintro gy x8 ⟨YW,YX,YY,EF,Dz,K5,Vd,pK⟩;clear YR YS YQ YT YU YV;clear Dz;have I8:=I9 gy;have hbs:b0<=x8.heap.size:=(by have h1:=EF.1;have h2:=EF.2.1;omega);go_upto_region 12 with (first|(at_builtin;refine wpList_append_own _ rfl _ _ 45 rfl b0 5 i0 (.int .u8 0) 1 1 Tryz.underlying45 oL.out qh.out oM.out tT.out (by decide) (by decide) _ _ _ rfl EF.2.2.2 ⟨gy,0,none⟩ 16 16 (ae 16 (cp)) rfl (by simp [bz]) K5.src (dz 16 _) (by have e1:=HN.out;have e2:=wQ.out;unfold maxLen;omega) (by have e1:=HN.out;have e2:=wQ.out;omega) hbs ?_;intro v8 z9 ni mF _;obtain⟨A3,c3,rfl⟩:=su ni)|fail);have k8:Below b0 x8 z9:=(Below.refl _ _).grown mF hbs (λg hg=>yg EF.2.2.2 hg);have ji:jQ z9 b0 (.slice A3 (16*k+16) c3) (16*k+16) (aP (16*q1) (eG f s a l N)):=(by unfold jQ;rw [<-tX.out];exact ni);have uL:=k8.size;obtain⟨g3,Dg⟩:=Le (z9.heap.size-1);have YZ:=YW.keep (by omega) k8;have Yl:=YX.keep (by omega) k8;have Ym:=YY.keep (by omega) k8;have Yn:=OE K5 (by omega) mF (Ob.ne EF (by omega));have Y1:Ob z9 b0 g3 (.slice A3 (16*k+16) c3) (16*k+16) (aP (16*q1) (eG f s a l N)):=(by rw [<-Dg];exact Ob.new ji (by omega) (by have:=Ym.lt (by omega);omega));have Y2:=pK.trans (k8.mono (by omega));clear ni mF k8 ji uL hbs Dg pK YW YX YY EF K5;try dsimp only [Act.put]
   clear I8 tX;go_wp2_with (first|(refine bB rfl _ _ rfl _ _ _ rfl Yl Tryz.aM (ay _) ?_)|(refine bB rfl _ _ rfl _ _ _ rfl Yn Tryz.aM (ay _) ?_));refine(vk u0 cp _ hkb.out hcb.out).mono ?_;rintro e Gr ⟨rfl,hq⟩;rw [yX.out];have G7:=YZ.to hq;have Y3:=Yl.t hq;have Y4:=Ym.t hq;have OM:=Y1.to hq;have ZH:=Yn.t hq;have sF:=Tq Y2 hq;clear hq YZ Yl Ym Y1 Yn Y2;clear ZH;go_upto_region 13 with (first|(refine FY rfl _ _ _ rfl _ _ _ (iF (Bo f s a l) q1) rfl rfl Y3 (ay _) ?_;intro Ha aO ZI;have jm:=Hi aO;clear aO)|fail);have aO:=jm.out;have ZJ:Bv Ha gX 45 (.slice A9 (m-16) (cm-16)):=(by rw [aO];exact G7.apart (b:=gK) (by omega) _ 0);have ZK:Ar Ha gL 16 (o1):=(by rw [aO];exact Y4.apart (b:=gK) (by omega) _ 0);have ZL:Ob Ha b0 g3 (.slice A3 (16*k+16) c3) (16*k+16) (aP (16*q1) (eG f s a l N)):=(by rw [aO];exact OM.old (by omega) _ 0);have ZM:Below w.heap.size w Ha:=(by rw [aO];exact sF.trans ((below_setCells _ gK _ 0).mono (by omega)));clear aO jm sF G7 Y3 Y4 OM;try dsimp only [Act.put]
   go_wp2_with fail;go_roundw;case rel=>exact⟨q1,A3,c3,g3,A9,by have h9:=yf.out;have:=Ku.out;omega,by first|go_num|(rw [zT.out.2.1])|(rw [zT.out.1]),by rw [<-yf.out];rfl,ZB.out,by rw [show n-16*q1=m-16 by have:=yf.out;have:=HM.out;omega,show c-16*q1=cm-16 by have:=yf.out;have:=HCM.out;omega];exact ZJ,ZI,by rw [Ox.out];exact ZK,by have h9:=ZL;rw [show 16*k+16=16*q1 by have:=yf.out;omega]at h9;exact h9,ZM⟩
   case measure=>(try rw [zT.out.2.1]);simp [intOf];have h9:=yf.out;have:=Ku.out;omega
  ·have e:N=k:=(by omega);subst e;have i1: ¬(N:Int)<(N:Int):=(by omega);clear hk hlt;have uz:w.heap.size<=gX:=(by omega);obtain⟨cm,hcm⟩:=Le (c-16*N);rw [hcm]at XW;rw [HO.out,D7.out]at XW;rw [HO.out]at mZ;try rw [HO.out]
   have XV:=Hi (show r<=cm/\r<16/\r<=16 by have:=wC.out;have:=fP.out;have:=HO.out;have:=D7.out;omega);obtain⟨A9,hsl,lG⟩:=zL AX r cm r (Nat.le_refl _) XV.out.1;have qR:=Hi hsl;have XZ:=Hi (show Sl wr wr.heap.size AX r (l.drop o)from by
  have h9:=Ye.out wr wr.heap.size ((gD.out.below ib).more ib.size);rw [HO.out,D7.out]at h9;exact h9)
   clear hsl lG hcm;obtain⟨Y5,Tt,Y6,Yo,qO,HDR,Ur,hkb⟩:=uH (λh=>af9 (r:=r) dh.out aQ.out ql.out HLEN.out eF.out wC.out.1 h) (λh Q hQ=>aga (r:=r) (P:=Q) dh.out aQ.out ql.out HLEN.out eF.out wC.out.1 h HO.out hQ) (λh=>Ve (s:=s) (a:=a) (r:=r) eF.out wC.out.1 h) (λh=>Vk (s:=s) (a:=a) (r:=r) eF.out wC.out.1 h) (aaE (f:=f) (s:=s) (a:=a) HLEN.out eF.out HO.out D7.out) (agb (f:=f) (s:=s) (a:=a) HLEN.out eF.out HO.out D7.out) (U4 (f:=f) (s:=s) (a:=a) HLEN.out eF.out) (Gj (aaA dh.out aQ.out ql.out l) N);obtain⟨hab,htb⟩:=aB (mP ql.out aQ.out N) (show aj (lF (l.drop o))from λ_ _=>qx _ _);obtain⟨u0,Fy⟩: ∃u,iF (Bo f s a l) N=u:=⟨_,rfl⟩;rw [Fy]at hkb Y5 Tt FM;obtain⟨an,sD⟩: ∃u,bS a s N=u:=⟨_,rfl⟩;rw [sD]at hab Y6 Yo qO HDR XX;obtain⟨T,hT⟩: ∃u,lF (l.drop o)=u:=⟨_,rfl⟩;rw [hT]at htb qO HDR;have Y7:=Hi hT;clear Fy sD hT;have Ch:=oV.out;go_wp2_with fail;clear Ch;refine(aaG gX r (r-r) (cm-r) AX A9 r cm (l.drop o) wr XW XZ.out (Nat.min_eq_left XV.out.2.2) qR.out).mono ?_;rintro e tY ⟨rfl,ZN,lC⟩;rw [Y7.out];have Yp:=Dp FM (by omega) lC (by omega) (by omega);have Yq:=Dp XX (by omega) lC (by omega) (by omega);have Ja:=mZ.add lC (by omega);have tZ:=ib.trans (lC.below ib.size (by omega) (by omega));clear lC ib XW FM XX mZ;clear i1;clear qR XZ Y7;clear ZN;obtain⟨gb,hgb⟩:=Le (tY.heap.size)
   have Yh:gK<gb:=(by rw [<-hgb];exact Yp.lt (by omega));have Yi:gL<gb:=(by rw [<-hgb];exact Yq.lt (by omega));have Yj:gw<gb:=(by rw [<-hgb];exact Ja.lt);have Nu:w.heap.size<=gb:=(by rw [<-hgb];exact tZ.size);have hq:=Ba tY (.cells (ae 16 λ_=>0).toArray 22);have Y8:=Yp.t hq;have Y9:=Yq.t hq;have Za:=Ja.to hq;have Yr:=Ar.new tY 16 (λ_=>0) 22;have Zb:=tZ.alloc tZ.size (.cells (ae 16 λ_=>0).toArray 22);rw [hgb]at Yr;clear hq Yp Yq Ja tZ;go_upto_region 15 with (first|(refine bC rfl _ _ _ rfl _ _ _ (T) rfl rfl Yr (ay _) ?_;intro Je Me X0 ZO ZP)|fail);have X4:=(Y8).keep Yh X0;have X5:=(Y9).keep Yi X0;have Lc:=(Za).keep Yj X0;have uf:=Zb.trans (X0.mono Nu);clear Y8 Y9 Za Yr Zb X0 ZO ZP hgb;try dsimp only [Act.put]
   by_cases jZ:r=0
   ·have jr: ¬(0:Int)<(r:Int):=(by omega);have FB:=Hi jZ;clear jZ;go_upto_region 21 with fail;clear jr;refine wp_region_noPanic ?_;refine wp_region_held_drew (S:=λW=>Ar W gK 16 (u0)/\Ar W gL 16 (an)/\Ob W b0 gw (.slice A2 o c2) (o) (aP o (eG f s a l N))/\Below w.heap.size w W) (by kernel_rfl) ⟨X4.drew,X5.drew,Lc.drew,uf.drew⟩ (λaa=> ?_);clear X4 X5 Lc Me uf;generalize World.drew Je=ZQ at*;refine ty 0 rfl ?_;refine tm 1 (λW hSw=>hSw.1.range) Tryz.aM rfl (ay _) ?_;refine tm 2 (λW hSw=>hSw.2.1.range) Tryz.aM rfl (ay _) ?_;refine ty 3 rfl ?_;refine rd 4 rfl (λK hK=> ?_);rw [if_pos (by rfl)];refine wp_store_mid _ _ _ rfl gK 0 (ae 16 (u0)).toArray rfl rfl (aa.1).there (ay _) (all_oneCell_toArray (dz 16 (u0))) ?_;dsimp only [List.toList_toArray];refine hK.out _ _ ⟨(aa.1).whole (u0),(aa.2.1).apart (b:=gK) (by omega) (ae 16 (u0)) 0,(aa.2.2.1).old (by omega) (ae 16 (u0)) 0,(aa.2.2.2).trans (Below.setCells (Below.refl w.heap.size _) (b:=gK) (by omega) (ae 16 (u0)) 0)⟩ ?_;clear hK K aa;intro aa;generalize World.setCells ZQ gK 0 (ae 16 (u0))=fa3 at*;try simp only [Act.put]
    refine rd 5 rfl (λK hK=> ?_);rw [if_pos (by rfl)];refine wp_store_mid _ _ _ rfl gL 0 (ae 16 (an)).toArray rfl rfl (aa.2.1).there (ay _) (all_oneCell_toArray (dz 16 (an))) ?_;dsimp only [List.toList_toArray];refine hK.out _ _ ⟨(aa.1).apart (b:=gL) (by omega) (ae 16 (an)) 0,(aa.2.1).whole (an),(aa.2.2.1).old (by omega) (ae 16 (an)) 0,(aa.2.2.2).trans (Below.setCells (Below.refl w.heap.size _) (b:=gL) (by omega) (ae 16 (an)) 0)⟩ ?_;clear hK K aa;intro aa;generalize World.setCells fa3 gL 0 (ae 16 (an))=fa4 at*;try simp only [Act.put]
    refine wpAnyH_done (by kernel_rfl) ?_ _;refine NoPanic.normal ?_;try dsimp only [Act.put]
    obtain⟨dn,nY,cz,bD⟩:=aa;go_wp2_with fail;refine bodyPost_ret (v:= .tuple #[.slice A2 o c2,.agg (ae 16 (u0)).toArray,.agg (ae 16 (an)).toArray]) (aaF rfl rfl rfl rfl dn nY Tryz.aM (ay _) (ay _)) rfl ⟨A2,c2,by rw [Y5.out FB.out,Y6.out FB.out,show o=n by have:=wC.out;have:=FB.out;omega],(by
  have h9:=cz.2.2.2;have e9:o=n:=by have:=wC.out;have:=FB.out;omega
  rw [<-Ur.out];rw [e9]at h9;exact K6 h9 (by omega)),bD⟩
   ·have jr:(0:Int)<(r:Int):=(by omega);have FB:=Hi jZ;clear jZ;have vG:=Hi (dL hab.out aQ.out);obtain⟨o2,wT⟩: ∃u,ah an s=u:=⟨_,rfl⟩;rw [wT]at vG Yo qO HDR;obtain⟨K7,Dh⟩:=aB wT (show aj (aJ f o2)from fM dh.out vG.out 10);have hrb:=Hi (dL htb.out Dh.out);obtain⟨rs,hrs⟩: ∃u,ah T (aJ f o2)=u:=⟨_,rfl⟩;rw [hrs]at qO HDR hrb;have sO:=Hi hrs;clear wT hrs;go_upto_region 16 with fail;clear jr;apply Ky (F:=λW=>Ar W gK 16 (u0)/\Ob W b0 gw (.slice A2 o c2) (o) (aP o (eG f s a l N))/\Ar W gb 16 (T)/\Ar W gL 16 (o2)/\Below w.heap.size w W);case h1=>
     refine wp_region_noPanic ?_;have sW:=X5.drew;refine wp_region_held_drew (S:=λW=>Ar W gK 16 (u0)/\Ob W b0 gw (.slice A2 o c2) (o) (aP o (eG f s a l N))/\Ar W gb 16 (T)/\Below w.heap.size w W) (by kernel_rfl) ⟨X4.drew,Lc.drew,Me.drew,uf.drew⟩ (λaa=> ?_);generalize World.drew Je=V at*;refine ty 1 rfl ?_;repeat' (first
      | (
        have hK:=ky;clear ky;rw [if_pos (by rfl)];refine wp_load_mid _ _ rfl gL 0 rfl (ae 16 (an)) _ sW.range Tryz.aM rfl (ay _) ?_;refine hK.out _ _ aa ?_;clear hK K aa;intro aa;try simp only [nr])
      | (
        refine kc aI (aaY (.pointer p) p2 s _ (HV.out.to (aa.2.2.2))) aa ?_;clear aI K aa;intro V hq aa;try replace sW:=sW.t hq
        clear hq;try simp only [nr])
      | (
        refine kc dw (vk an s _ hab.out aQ.out) aa ?_;clear dw K aa;intro V hq aa;rw [K7.out];try replace sW:=sW.t hq
        clear hq;try simp only [nr])
      | (
        have hK:=je;clear je;rw [if_pos (by rfl)];refine wp_store_mid _ _ _ rfl gL 0 (ae 16 (o2)).toArray rfl rfl sW.there (ay _) (all_oneCell_toArray (dz 16 (o2))) ?_;try replace sW:=sW.whole (o2)
        dsimp only [List.toList_toArray];refine so hK (w:=V) (b:=gL) (o:=0) (vs:=(ae 16 (o2))) aa ?_;clear hK K aa;intro aa;generalize World.setCells V gL 0 (ae 16 (o2))=V at*;try simp only [Act.put])
      | (
        refine wpAnyH_ready (rs:= [0,2]) (by decide+kernel) (by simp) ?_;refine AllReadyH.cons rfl (λK ky=> ?_) (AllReadyH.cons rfl (λK aI=> ?_) AllReadyH.nil))
      | (
        refine wpAnyH_ready (rs:= [2]) (by decide+kernel) (by simp) ?_;refine AllReadyH.cons rfl (λK aI=> ?_) AllReadyH.nil)
      | (
        refine wpAnyH_ready (rs:= [4]) (by decide+kernel) (by simp) ?_;refine AllReadyH.cons rfl (λK je=> ?_) AllReadyH.nil)
      | (
        refine wpAnyH_ready (rs:= [0]) (by decide+kernel) (by simp) ?_;refine AllReadyH.cons rfl (λK ky=> ?_) AllReadyH.nil)
      | (
        refine wpAnyH_ready (rs:= [3]) (by decide+kernel) (by simp) ?_;refine AllReadyH.cons rfl (λK dw=> ?_) AllReadyH.nil))
     all_goals refine wpAnyH_done (by kernel_rfl) ?_ _
     all_goals
      refine NoPanic.normal ?_;exact⟨rfl,rfl,aa.1,aa.2.1,aa.2.2.1,sW,aa.2.2.2⟩
    rintro BQ ⟨Zc,Zd,PZ,Ze,vY⟩;clear X4 Lc Me X5 uf;go_upto_region 17 with fail;apply NC (F:=λgy W=>Ar W gK 16 (u0)/\Ob W b0 gw (.slice A2 o c2) (o) (aP o (eG f s a l N))/\Ar W gb 16 (T)/\Ar W gL 16 (o2)/\Ar W gy 16 (rs)/\gb<gy/\Below w.heap.size w W);case h1=>
     refine wp_region_noPanic ?_;refine wp_region_held_drew (S:=λW=>Ar W gK 16 (u0)/\Ob W b0 gw (.slice A2 o c2) (o) (aP o (eG f s a l N))/\Ar W gb 16 (T)/\Ar W gL 16 (o2)/\Below w.heap.size w W) (by kernel_rfl) ⟨Zc.drew,Zd.drew,PZ.drew,Ze.drew,vY.drew⟩ (λaa=> ?_);generalize World.drew BQ=V at*;refine tm 0 (λW hSw=>hSw.2.2.1.range) Tryz.aM rfl (ay _) ?_;refine ty 1 rfl ?_;refine tm 3 (λW hSw=>hSw.2.2.2.1.range) Tryz.aM rfl (ay _) ?_;repeat' (first
      | (
        refine kc aI (AU.out _ (aa.2.2.2.2)) aa ?_;clear aI K aa;intro V hq aa;try replace dN:=dN.t hq
        clear hq;try simp only [nr])
      | (
        refine kc je (Kt (.pointer p2) f o2 _ dh.out vG.out (ou.out.to (aa.2.2.2.2)) (HX.out.keep (aa.2.2.2.2))) aa ?_;clear je K aa;intro V hq aa;try replace dN:=dN.t hq
        clear hq;try simp only [nr])
      | (
        refine kc fo (vk T (aJ f o2) _ htb.out Dh.out) aa ?_;clear fo K aa;intro V hq aa;rw [sO.out];try replace dN:=dN.t hq
        clear hq;try simp only [nr])
      | (
        have hK:=fV;clear fV;obtain⟨gy,lq⟩:=Le (V.heap.size);have ZF:gb<gy:=(by rw [<-lq];exact(aa.2.2.1).lt (by omega));have abr:gw<gy:=(by rw [<-lq];exact(aa.2.1).lt);have ZG:gL<gy:=(by rw [<-lq];exact(aa.2.2.2.1).lt (by omega));go_simp;refine FW _ (λV hV=> ?_);have hq:=FX hV;have dN:Ar V gy 16 (λ_=>0):=(by rw [hV,<-lq];exact Ar.new _ 16 (λ_=>0) _);try rw [lq]
        refine ko hK hq aa ?_;clear hK hq hV lq;intro lT;clear aa;have aa:=lT;clear lT;try simp only [nr])
      | (
        have hK:=jE;clear jE;rw [if_pos (by rfl)];refine wp_store_mid _ _ _ rfl gy 0 (ae 16 (rs)).toArray rfl rfl dN.there (ay _) (all_oneCell_toArray (dz 16 (rs))) ?_;try replace dN:=dN.whole (rs)
        dsimp only [List.toList_toArray];refine so hK (w:=V) (b:=gy) (o:=0) (vs:=(ae 16 (rs))) aa ?_;clear hK K aa;intro aa;generalize World.setCells V gy 0 (ae 16 (rs))=V at*;try simp only [Act.put])
      | (
        refine wpAnyH_ready (rs:= [4,6]) (by decide+kernel) (by simp) ?_;refine AllReadyH.cons rfl (λK je=> ?_) (AllReadyH.cons rfl (λK fV=> ?_) AllReadyH.nil))
      | (
        refine wpAnyH_ready (rs:= [2,6]) (by decide+kernel) (by simp) ?_;refine AllReadyH.cons rfl (λK aI=> ?_) (AllReadyH.cons rfl (λK fV=> ?_) AllReadyH.nil))
      | (
        refine wpAnyH_ready (rs:= [5,6]) (by decide+kernel) (by simp) ?_;refine AllReadyH.cons rfl (λK fo=> ?_) (AllReadyH.cons rfl (λK fV=> ?_) AllReadyH.nil))
      | (
        refine wpAnyH_ready (rs:= [6]) (by decide+kernel) (by simp) ?_;refine AllReadyH.cons rfl (λK fV=> ?_) AllReadyH.nil)
      | (
        refine wpAnyH_ready (rs:= [2]) (by decide+kernel) (by simp) ?_;refine AllReadyH.cons rfl (λK aI=> ?_) AllReadyH.nil)
      | (
        refine wpAnyH_ready (rs:= [5]) (by decide+kernel) (by simp) ?_;refine AllReadyH.cons rfl (λK fo=> ?_) AllReadyH.nil)
      | (
        refine wpAnyH_ready (rs:= [4]) (by decide+kernel) (by simp) ?_;refine AllReadyH.cons rfl (λK je=> ?_) AllReadyH.nil)
      | (
        refine wpAnyH_ready (rs:= [7]) (by decide+kernel) (by simp) ?_;refine AllReadyH.cons rfl (λK jE=> ?_) AllReadyH.nil))
     all_goals refine wpAnyH_done (by kernel_rfl) ?_ _
     all_goals
      refine NoPanic.normal ?_;exact⟨rfl,gy,rfl,aa.1,aa.2.1,aa.2.2.1,aa.2.2.2.1,dN,by omega,aa.2.2.2.2⟩
    rintro gy DN ⟨Zf,XY,SL,Zg,Yt,Vd,mM⟩;clear Zc Zd PZ Ze vY;clear SL;have Zh:=Hi (show(aP o (eG f s a l N)).map b8++ae r rs=(kr f s a l).map b8 by rw [<-qO.out,List.map_append,I1 r _ (λj hj=>hrb.out j (by have:=XV.out;omega))]);have ZR:=abo gy r XV.out.2.2;have hbs:b0<=DN.heap.size:=(by have h1:=XY.1;have h2:=XY.2.1;omega);go_upto_region 19 with (first|(at_builtin;refine wpList_append_own _ rfl _ _ 45 rfl b0 5 i0 (.int .u8 0) 1 1 Tryz.underlying45 oL.out qh.out oM.out tT.out (by decide) (by decide) _ _ _ rfl XY.2.2.2 ⟨gy,0,none⟩ r 16 (ae r (rs)) rfl (by simp [bz]) (λj u hj=>by obtain⟨RH,rfl⟩:=xM hj;have BJ:=XV.out;rw [Addr.add_mid,Nat.zero_add];exact(Yt j (by omega)).1) (dz r _) (by have e1:=HN.out;have e2:=wC.out;unfold maxLen;omega) (by have e1:=HN.out;have e2:=wC.out;omega) hbs ?_;intro v8 D6 ni mF _;obtain⟨A3,c3,rfl⟩:=su ni)|fail);have k8:Below b0 DN D6:=(Below.refl _ _).grown mF hbs (λg hg=>yg XY.2.2.2 hg);have ji:jQ D6 b0 (.slice A3 (o+r) c3) (o+r) (kr f s a l):=(by unfold jQ;rw [<-Zh.out];exact ni);have uL:=k8.size;obtain⟨g3,Dg⟩:=Le (D6.heap.size-1);have Zi:=Zf.keep (by omega) k8;have Yu:=Zg.keep (by omega) k8;have X6:=OE Yt (by omega) mF (Ob.ne XY (by omega))
    have Zj:Ob D6 b0 g3 (.slice A3 (o+r) c3) (o+r) (kr f s a l):=(by rw [<-Dg];exact Ob.new ji (by omega) (by have:=Yu.lt (by omega);omega));have QC:=mM.trans (k8.mono (by omega));clear ni mF k8 ji uL hbs Dg mM Zf XY Zg Yt;try dsimp only [Act.put]
    clear Zh;have yO:=Hi (UD (some ⟨gy,0,none⟩) r 16 (aP r rs) D6 (Sl.Rv (o:=0) (λj hj=>hrb.out j (by have:=XV.out;omega)) (λj hj=>by rw [Nat.zero_add];exact(X6 j (by have:=XV.out;omega)).1) (X6.lt (by omega))) XV.out.2.1);obtain⟨PP,X7⟩: ∃u,lF (kH (aP r rs) 16)=u:=⟨_,rfl⟩;have ZT:=Hi (show aj PP by rw [<-X7];exact λ_ _=>qx _ _);rw [X7]at yO;have ZU:=Hi (Tt.out FB.out PP (by rw [HDR.out];exact X7));clear X7;go_wp2_with fail;refine(yO.out).mono ?_;rintro e uW ⟨rfl,hq⟩;have Yv:=Zi.t hq;have Yw:=Zj.to hq;have Yx:=Yu.t hq;have ZV:=X6.t hq;have vZ:=Tq QC hq;clear hq Zi Zj Yu X6 QC;clear yO ZR;clear ZV;obtain⟨gP,bQ⟩:=Le (uW.heap.size);have ZW:gK<gP:=(by rw [<-bQ];exact Yv.lt (by omega));have ZX:g3<gP:=(by rw [<-bQ];exact Yw.lt);have ZY:gL<gP:=(by rw [<-bQ];exact Yx.lt (by omega));have ZZ:w.heap.size<=gP:=(by rw [<-bQ];exact vZ.size);have hq:=Ba uW (.cells (ae 16 λ_=>0).toArray 22);have Zk:=Yv.t hq;have Zl:=Yw.to hq;have Zm:=Yx.t hq;have Yy:=Ar.new uW 16 (λ_=>0) 22;have Zn:=vZ.alloc vZ.size (.cells (ae 16 λ_=>0).toArray 22);rw [bQ]at Yy;clear hq Yv Yw Yx vZ;go_upto_region 20 with (first|(refine bC rfl _ _ _ rfl _ _ _ (PP) rfl rfl Yy (ay _) ?_;intro SN Yz X3 Z0 Z4)|fail);have YA:=(Zk).keep ZW X3;have Zo:=(Zl).keep ZX X3
    have Zp:=(Zm).keep ZY X3;have BU:=Zn.trans (X3.mono ZZ);clear Zk Zl Zm Yy Zn X3 Z0 Z4 bQ;try dsimp only [Act.put]
    go_wp2_with (first|(refine bB rfl _ _ rfl _ _ _ rfl YA Tryz.aM (ay _) ?_)|(refine bB rfl _ _ rfl _ _ _ rfl Yz Tryz.aM (ay _) ?_));refine(vk u0 PP _ hkb.out ZT.out).mono ?_;rintro e SQ ⟨rfl,hq⟩;have Zq:=YA.t hq;have Zr:=Zo.to hq;have Zt:=Zp.t hq;have Z5:=Yz.t hq;have BV:=Tq BU hq;clear hq YA Zo Zp Yz BU;clear Z5;go_upto_region 21 with (first|(refine FY rfl _ _ _ rfl _ _ _ (ah u0 PP) rfl rfl Zq (ay _) ?_;intro z20 aO Zu;have jm:=Hi aO;clear aO)|fail);have aO:=jm.out;have Zv:Ob z20 b0 g3 (.slice A3 (o+r) c3) (o+r) (kr f s a l):=(by rw [aO];exact Zr.old (by omega) _ 0);have Zw:Ar z20 gL 16 (o2):=(by rw [aO];exact Zt.apart (b:=gK) (by omega) _ 0);have Zx:Below w.heap.size w z20:=(by rw [aO];exact BV.trans ((below_setCells _ gK _ 0).mono (by omega)));clear aO jm BV Zq Zr Zt;try dsimp only [Act.put]
    refine wp_region_noPanic ?_;refine wp_region_held_drew (S:=λW=>Ar W gK 16 (ah u0 PP)/\Ar W gL 16 (o2)/\Ob W b0 g3 (.slice A3 (o+r) c3) (o+r) (kr f s a l)/\Below w.heap.size w W) (by kernel_rfl) ⟨Zu.drew,Zw.drew,Zv.drew,Zx.drew⟩ (λaa=> ?_);clear Zu Zv Zw Zx;generalize World.drew z20=Z6 at*;refine ty 0 rfl ?_;refine tm 1 (λW hSw=>hSw.1.range) Tryz.aM rfl (ay _) ?_;refine tm 2 (λW hSw=>hSw.2.1.range) Tryz.aM rfl (ay _) ?_;refine ty 3 rfl ?_;refine rd 4 rfl (λK hK=> ?_);rw [if_pos (by rfl)];refine wp_store_mid _ _ _ rfl gK 0 (ae 16 (ah u0 PP)).toArray rfl rfl (aa.1).there (ay _) (all_oneCell_toArray (dz 16 (ah u0 PP))) ?_;dsimp only [List.toList_toArray];refine hK.out _ _ ⟨(aa.1).whole (ah u0 PP),(aa.2.1).apart (b:=gK) (by omega) (ae 16 (ah u0 PP)) 0,(aa.2.2.1).old (by omega) (ae 16 (ah u0 PP)) 0,(aa.2.2.2).trans (Below.setCells (Below.refl w.heap.size _) (b:=gK) (by omega) (ae 16 (ah u0 PP)) 0)⟩ ?_;clear hK K aa;intro aa;generalize World.setCells Z6 gK 0 (ae 16 (ah u0 PP))=Z7 at*;try simp only [Act.put]
    refine rd 5 rfl (λK hK=> ?_);rw [if_pos (by rfl)];refine wp_store_mid _ _ _ rfl gL 0 (ae 16 (o2)).toArray rfl rfl (aa.2.1).there (ay _) (all_oneCell_toArray (dz 16 (o2))) ?_;dsimp only [List.toList_toArray];refine hK.out _ _ ⟨(aa.1).apart (b:=gL) (by omega) (ae 16 (o2)) 0,(aa.2.1).whole (o2),(aa.2.2.1).old (by omega) (ae 16 (o2)) 0,(aa.2.2.2).trans (Below.setCells (Below.refl w.heap.size _) (b:=gL) (by omega) (ae 16 (o2)) 0)⟩ ?_;clear hK K aa;intro aa;generalize World.setCells Z7 gL 0 (ae 16 (o2))=fb4 at*;try simp only [Act.put]
    refine wpAnyH_done (by kernel_rfl) ?_ _;refine NoPanic.normal ?_;try dsimp only [Act.put]
    obtain⟨dn,nY,cz,bD⟩:=aa;go_wp2_with fail;refine bodyPost_ret (v:= .tuple #[.slice A3 (o+r) c3,.agg (ae 16 (ah u0 PP)).toArray,.agg (ae 16 (o2)).toArray]) (aaF rfl rfl rfl rfl dn nY Tryz.aM (ay _) (ay _)) rfl ⟨A3,c3,by rw [ZU.out,Yo.out FB.out,show o+r=n from wC.out.2.2.1],(by
  have h9:=cz.2.2.2;rw [show o+r=n from wC.out.2.2.1]at h9;exact K6 h9 (by omega)),bD⟩
end Go.Proofs.YtdaiacmneopkgaaGreatDoor
