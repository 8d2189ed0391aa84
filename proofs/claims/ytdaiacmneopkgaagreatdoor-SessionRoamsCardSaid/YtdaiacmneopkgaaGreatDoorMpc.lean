/-
 Contracts of Decode and Peek of package packet, by walks through their texts; what was there stays as it was.
-/
import Derived.Test.YtdaiacmneopkgaaGreatDoorPcc
import Derived.Lib.SlBytesConst
namespace Go.Proofs.YtdaiacmneopkgaaGreatDoor
set_option linter.unusedSimpArgs false
set_option linter.unusedVariables false
set_option maxRecDepth 100000
set_option maxHeartbeats 8000000
section
open Go.RowKit
open Go.Shelf
theorem aeX {n:Nat} (h:yS n=0):28<=n/\n<=1228:=by
 unfold yS at h;split at h
 ·cases h
 ·split at h
  ·cases h
  ·omega
theorem aeY {f:Nat->Nat} {l:List UInt8} {n:Nat} (hl:l.length=n) (h:yS n≠0):iL f l=yS n:=by
 unfold yS at h⊢;unfold iL;rw [hl];by_cases h1:n<28
 ·rw [if_pos h1,if_pos h1]
 ·rw [if_neg h1,if_neg h1];by_cases h2:1228<n
  ·rw [if_pos h2,if_pos h2]
  ·rw [if_neg h1,if_neg h2]at h;exact absurd rfl h
theorem aeZ (l:List UInt8) (h:2<=l.length):num (l.take 2)=xP l:=by
 match l,h with
 |a::b::r,_=>
  have ha:=a.toNat_lt;have hb:=b.toNat_lt
  show num ([]++ [a]++ [b])=_
  unfold num xP lF;rw [IB,IB];simp only [List.getD_cons_zero,List.getD_cons_succ];show((0*256+a.toNat)*256+b.toNat)%18446744073709551616=_;omega
theorem ae0 {b o n c:Nat} (h:8<=n) (w:World):(Instr.arrayAt 162 (.slice (some ⟨b,o,none⟩) n c)).run Tryz.prog w= .ok (.pointer (some ⟨b,o,none⟩)) w:=by
 simp [Instr.arrayAt,run_underlying Tryz.wI];omega
theorem ae1 {w:World} {B b o n:Nat} {l:List UInt8} (h:Sl w B (some ⟨b,o,none⟩) n l) (h8:8<=n):w.rangeAt b o (ae 8 (lF (l.take 8))):=λj v hv=>by
 rw [<-KA (l.take 8) 8 (by rw [List.length_take,h.len];omega),List.getElem?_map]at hv;obtain⟨u,hu,rfl⟩:=Option.map_eq_some_iff.1 hv;obtain⟨b',o',e,_,hc⟩:=h.2 (by omega);injection e with e;injection e with e1 e2;subst e1;subst e2;rcases Nat.lt_or_ge j 8 with h1|h1
 ·rw [List.getElem?_take_of_lt h1]at hu;exact hc j u hu
 ·rw [List.getElem?_eq_none (by rw [List.length_take];omega)]at hu;cases hu
theorem b4P (A:Option Addr) (m c:Nat) (w:World):(Instr.build 105 #[(4,.slice A m c)]).run Tryz.prog w= .ok (.agg (av 5 (bq (.int .i64 0) (.int .u64 0) (.int .u16 0) (.int .u16 0) (.slice A m c))).toArray) w:=run_build w _ _ _ (by kernel_rfl)
theorem ae2 {D X:Nat} (hD:D<2) (hX:X<9223372036854775808):IC (qD D X)=D/\IE (qD D X)=X:=by
 have hl:=Ev D X;unfold IC IE;rw [if_pos (by omega),if_pos (by omega),List.take_of_length_le (by omega)];exact⟨UK hD hX,UL hD hX⟩
theorem aaf (A:Option Addr) (n c:Nat) (l:List UInt8) (w:World) (h:Sl w w.heap.size A n l) (h2:2<=n) (hnc:n<=c):
  Calls Tryz.prog 96 #[.slice A n c] w λe9 w'=>e9= .returned (.int .u16 (xP l:Nat))/\w'=w:=by
 have hlen:=h.len;obtain⟨pz,aQ,X6⟩:=dD (Rm h h2) (NI A n c 2 h2 hnc) (aeZ l (by omega));obtain⟨T,hT⟩: ∃T,xP l=T:=⟨_,rfl⟩;have bG:T<65536:=by rw [<-hT];exact aag l
 rw [hT]at X6⊢;have m1:IntKind.u16.wrap (T:Int)=(T:Int):=by rw [IntKind.wrap_u16];omega
 have hsl:=aQ.out;clear h hT hlen;go_enter Tryz.func96,Tryz.ntmps96;go_wp2_with fail;clear hsl;refine(number A 2 c (l.take 2) _ pz.out (by omega) (by omega)).mono ?_;rintro e9 w1 ⟨rfl,rfl⟩;rw [X6.out];go_wp2_with fail;go_ret;exact⟨rfl,rfl⟩
theorem ae3 (p:Option Addr) (f:Nat->Nat) (A:Option Addr) (n c:Nat) (l:List UInt8) (w:World) (hf:aj f) (hS:Sl w w.heap.size A n l) (hnc:n<=c) (hn:n<=9223372036854775807) (hT:Bf w p f) (hX:eX w):
  Calls Tryz.prog 50 #[.pointer p,.slice A n c] w λe9 w'=> ∃(A2:Option Addr) (c2:Nat),e9= .returned (.tuple #[.agg #[.int .i64 (mU f l:Nat),.int .u64 (jO f l:Nat),.int .u16 (oh f l:Nat),.int .u16 (lH f l:Nat),.slice A2 (jH f l).length c2],CP (iL f l)])/\dC w w' A2 (jH f l).length (jH f l)/\(jH f l).length<=c2/\Below w.heap.size w w':=by
 obtain⟨w1,af⟩:=Lv (w.alloc (.cells (av 5 eT).toArray 105));have ak:=lh af;have aW:=Bl af;have Bc:Cx w1 (w.heap.size) 5 eT:=by rw [af];exact Cx.new w 5 eT _
 have hz:=Rn;have Ew:=KC;obtain⟨dP,hfs,hrow⟩:=Tryz.KD;obtain⟨pz,xQ⟩:=aB hfs hrow;clear hfs hrow;have hlen:=hS.len;obtain⟨HLEN,dh,gD,fP,Yk,HT,UM⟩:=zD hlen hf hS hnc hn hT hX;clear hf hS hnc hn hT hX hlen;go_enter Tryz.func50,Tryz.ntmps50;go_upto_region 1 with fail;rw [<-af];clear af;try simp only [Nat.add_assoc,Nat.reduceAdd]
 clear ak;go_wp2_with fail;refine(ae4 A n c _ Yk.out).mono ?_;rintro e9 x1 ⟨rfl,cz⟩;have hq:Below w1.heap.size w1 x1:=by rw [cz];exact Below.refl _ _
 clear cz;have jG:=Bc.t hq;have aT:=Tq aW hq;clear hq Bc aW;by_cases hU:yS n=0
 ·rw [NJ hU];obtain⟨F6,rY⟩:=aeX hU;clear hU;have HC:=Hi (Rp (f:=f) HLEN.out F6 rY);obtain⟨bb,oo,rfl,hbb,hcc⟩:=gD.out.2 (by omega);clear hbb hcc;obtain⟨D,hD⟩: ∃D,qW (l.take 8)=D:=⟨_,rfl⟩;obtain⟨X,hX⟩: ∃X,rZ (l.take 8)=X:=⟨_,rfl⟩;have tK:D<2:=by rw [<-hD];exact aah _
  have ic:X<9223372036854775808:=by rw [<-hX];exact aai _
  have X7:(l.take 8).length=8:=by rw [List.length_take,HLEN.out];omega
  have hdl:qD D X=l.take 8:=by rw [<-hD,<-hX];exact ae5 X7
  obtain⟨H,hH⟩: ∃H,hdF D X=H:=⟨_,rfl⟩;have X8:lF (l.take 8)=H:=by rw [<-hH,<-hdl];rfl
  obtain⟨NK,NL,Ya⟩:=dD (show∀j,j<8->H j<256 by rw [<-hH];exact NM D X) (show aP 8 H=qD D X by rw [<-hH];exact aaj D X) (λV (hB:Below w.heap.size w V)=>ae1 (gD.out.below hB) (show 8<=n by omega));rw [X8]at Ya;obtain⟨HAT,Yb,KE⟩:=dD (λV=>ae0 (b:=bb) (o:=oo) (n:=n) (c:=c) (by omega) V) (ae2 tK ic) (Ev D X);obtain⟨q,dF⟩: ∃q,CQ l=q:=⟨_,rfl⟩;have Bg:oZ q:=by rw [<-dF];exact NN _ _
  have UN:=Hi (show qE H=q by rw [<-dF,<-hH,<-hD,<-hX];rfl);obtain⟨A9,hsl,lG⟩:=zL (some ⟨bb,oo,none⟩) n c 8 (by omega) fP.out;obtain⟨n8,IG⟩: ∃m,n-8=m:=⟨_,rfl⟩;obtain⟨c8,jI⟩: ∃m,c-8=m:=⟨_,rfl⟩;have Yc:n8<=c8:=by have:=fP.out;omega
  rw [IG,jI]at hsl;have qR:=Hi (show∀W:World,(Instr.sliceAt 45 (.slice (some ⟨bb,oo,none⟩) n c) (some (.int .i64 8)) none none).run Tryz.prog W= .ok (.slice A9 n8 c8) W from hsl);rw [IG]at lG;obtain⟨C,mV⟩: ∃C,NP f q (l.drop 8)=C:=⟨_,rfl⟩;obtain⟨PL,jq⟩: ∃P,Rq f q (l.drop 8)=P:=⟨_,rfl⟩;rw [dF,mV]at HC;obtain⟨wJ,NQ,UO,HL,HN⟩:=jX (show wK f l=PL by unfold wK;rw [dF];exact jq) (show qW (l.take 8)=D/\rZ (l.take 8)=X from⟨hD,hX⟩) (λV (hB:Below w.heap.size w V)=>ae6 p f (aJ f zF) q (wL f q) none 0 0 [] A9 n8 c8 (l.drop 8) PL C V dh.out rfl Bg rfl (CR _ _) (Nat.le_refl _) (by omega) (lG V _ _ ((gD.out.below hB).more hB.size)) Yc (by omega) mV jq (HT.out.to hB) (UM.out.keep hB)) (fun(h:iL f l=0)=>UQ HLEN.out h) (show 28<=n/\n<=1228 from⟨F6,rY⟩);clear F6 rY hD hX tK ic X7 hdl hH X8 dF Bg hsl lG IG jI Yc mV jq;have hrg:=Ya.out _ aT;have hat:=HAT.out;obtain⟨gh,hgh⟩:=Le (x1.heap.size);have NR:w.heap.size<gh:=by rw [<-hgh];exact jG.lt (by omega)
  have NS:w.heap.size<=gh:=by rw [<-hgh];exact aT.size
  have hq:=Ba x1 (.cells (ae 8 λ_=>0).toArray 162);have xO:=jG.t hq;have XY:=Ar.new x1 8 (λ_=>0) 162;have qU:=aT.alloc aT.size (.cells (ae 8 λ_=>0).toArray 162);rw [hgh]at XY;clear hq jG aT;go_upto_region 5 with (first|(refine wpList_load_mid rfl _ _ rfl bb oo rfl (ae 8 (H)) _ hrg Tryz.wI rfl (qX _) ?_)|(refine bC rfl _ _ _ rfl _ _ _ (H) rfl rfl XY (qX _) ?_;intro x2 Yd jh yQ yR)|fail);have pq:=(xO).keep NR jh;have di:=qU.trans (jh.mono NS);clear xO XY qU jh yQ yR hgh;try dsimp only [Act.put]
  clear hrg hat;refine wp_region_noPanic ?_;refine wp_region_held_drew (S:=λW=>Cx W (w.heap.size) 5 eT/\Ar W gh 8 (H)/\Below w.heap.size w W) (by kernel_rfl) ⟨pq.drew,Yd.drew,di.drew⟩ (λaa=> ?_);clear pq Yd di;generalize World.drew x2=qd at*;refine ty 0 rfl ?_;refine tm 1 (λW hSw=>hSw.2.1.range) Tryz.wI rfl (qX _) ?_;refine ty 3 rfl ?_;refine ty 4 rfl ?_ (λW hSw=>by have hsl:=qR.out;go_simp;try with_reducible rfl);refine rq 2 rfl (aak H _ NK.out) aa ?_;clear aa;intro q4 hq aa;rw [UN.out];clear hq;try simp only [nr]
  refine rd 5 rfl (λK hK=> ?_);go_simp;refine(UO.out _ (aa.2.2)).mono ?_;rintro e9 q5 ⟨A2,c2,rfl,CS,tL,hq,hfr⟩;have jo:=Hi (λa2 h=>Nat.lt_of_lt_of_le ((aa.1).lt (by omega)) (hfr a2 h));have Ye:=CS;clear CS hfr;go_wp2_with fail;refine ko hK hq aa ?_;clear hK K aa hq;intro aa;try simp only [nr]
  refine ty 6 rfl ?_;refine ty 7 rfl ?_;refine ty 8 rfl ?_;refine ty 9 rfl ?_;refine ty 10 rfl ?_;refine wpAnyH_done (by kernel_rfl) ?_ _;refine NoPanic.normal ?_;have bI:=aa.1;have KG:=aa.2.1;have bD:=aa.2.2;clear aa;have F7:=Ye;clear Ye;have XV:=Hi tL;clear tL;by_cases hC:C=0
  ·rw [ae7 hC];have HV:=Hi (NT (f:=f) (l:=l) (by rw [HC.out];exact hC));have II:=HL.out (by rw [HC.out];exact hC);rw [wJ.out]at II HV;rw [NQ.out.1,NQ.out.2]at HV;obtain⟨m,hm⟩: ∃m,PL.length=m:=⟨_,rfl⟩;rw [hm]at F7 XV II;try rw [hm]
   have Ex:4<=m:=(by have:=HN.out;omega);have Yr:m<=1204:=(by have:=HN.out;omega);obtain⟨HPm,tN⟩:=aB hm hC;subst hC;clear hm II;obtain⟨A3,Ey,IJ⟩:=zL A2 m c2 4 Ex XV.out;obtain⟨A4,IK,XZ⟩:=zL A2 m c2 2 (by omega) XV.out;obtain⟨bp,op,rfl,hbp,_⟩:=F7.2 (by omega);have hbg:=jo.out _ rfl;simp only at hbg;obtain⟨m4,IL⟩: ∃u,m-4=u:=⟨_,rfl⟩;obtain⟨c4,zM⟩: ∃u,c2-4=u:=⟨_,rfl⟩;obtain⟨m2,Rs⟩: ∃u,m-2=u:=⟨_,rfl⟩;obtain⟨c6,CU⟩: ∃u,c2-2=u:=⟨_,rfl⟩;have Yf:2<=m2/\m2<=c6:=(by have:=XV.out;omega);have wM:=Hi (show m4<=c4 by have:=XV.out;omega);rw [IL,zM]at Ey;rw [Rs,CU]at IK;obtain⟨Yl,NU⟩:=aB (show∀W:World,(Instr.sliceAt 45 (.slice (some ⟨bp,op,none⟩) m c2) (some (.int .i64 4)) none none).run Tryz.prog W= .ok (.slice A3 m4 c4) W from Ey) (show∀W:World,(Instr.sliceAt 45 (.slice (some ⟨bp,op,none⟩) m c2) (some (.int .i64 2)) none none).run Tryz.prog W= .ok (.slice A4 m2 c6) W from IK);rw [IL]at IJ;rw [Rs]at XZ;obtain⟨NV,Ym,Yg⟩:=dD IJ XZ Yf;clear Ey IJ IK XZ IL zM Rs CU Yf;obtain⟨T,hT⟩: ∃u,xP PL=u:=⟨_,rfl⟩;obtain⟨E,hE⟩: ∃u,F8 PL=u:=⟨_,rfl⟩;rw [hT,hE]at HV;obtain⟨F9,Yn⟩:=aB hT (show xP (PL.drop 2)=E by rw [<-hE];unfold xP F8;rw [NW,NW]);clear hT hE;obtain⟨gO,jg⟩:=Le (q5.heap.size);have NY:w.heap.size<gO:=(by rw [<-jg];exact bI.lt (by omega));have hlh:gh<gO:=(by rw [<-jg];exact KG.lt (by omega));have hq:=Ba q5 (.cells (av 5 eT).toArray 105);have xR:=bI.t hq;have Yh:=KG.t hq;have hBa:=Tq bD hq
   have CV:=Cx.new q5 5 eT 105;rw [jg]at CV hq;have NZ:Sl (q5.alloc (.cells (av 5 eT).toArray 105)) gO (some ⟨bp,op,none⟩) m PL:=(by rw [<-jg]at hq⊢;exact F7.below hq);clear hq bI bD F7 KG;have Ey:=Yl.out;go_upto_region 9 with (first|(refine oH rfl 105 _ rfl [(4,.slice A3 m4 c4)] rfl _ (b4P _ _ _ _) ?_)|(refine qY rfl _ _ _ rfl gO 5 0 eT (av 5 (bq (.int .i64 0) (.int .u64 0) (.int .u16 0) (.int .u16 0) (.slice A3 m4 c4))) rfl rfl CV (by rw [dB];omega) (uI _) (zN _ _ _ _ _ rfl rfl rfl rfl rfl) ?_;intro v1 Ga mW CW IM)|fail);have Bh:=Ga.ext (zO eT _ _ _ _ _);have iD:=xR.keep NY mW;have X0:=Yh.keep hlh mW;have eP:=hBa.trans (mW.mono (Nat.le_of_lt NY));have Ru:=NZ.below mW;clear Ga xR hBa CV NZ Yh mW CW IM Ey jg;try dsimp only [Act.put]
   have UR:=UT gh v1;go_wp2_with fail;clear UR;refine(ae8 (some ⟨gh,0,none⟩) 8 8 (aP 8 H) _ (Sl.Rv (o:=0) (λj hj=>NK.out j hj) (λj hj=>by rw [Nat.zero_add];exact(X0 j hj).1) (X0.lt (by omega))) (Nat.le_refl _) (by unfold maxLen;omega)).mono ?_;rintro e9 v2 ⟨rfl,hq⟩;rw [NL.out,Yb.out.1,Yb.out.2];have aal:=Bh.lt (by omega);have uJ:=Bh.t hq;have aL:=iD.t hq;have Yi:=Ru.below (hq.mono (Nat.le_of_lt aal));have aS:=Tq eP hq;clear hq Bh iD Ru eP X0;have XW:=(uJ 0 (by omega)).1;have XX:=(uJ 0 (by omega)).2;have Yo:=(uJ 1 (by omega)).1;have Yp:=(uJ 1 (by omega)).2;go_upto_region 10 with fail;clear XW XX Yo Yp;have Yj:=(uJ.set (j:=0) (.int .i64 (D:Int)) (by omega)).set (j:=1) (.int .u64 (X:Int)) (by omega);have dO:=(aL.far (p:=⟨gO,0,none⟩) (by simp;omega) (.int .i64 (D:Int))).far (p:=⟨gO,1,none⟩) (by simp;omega) (.int .u64 (X:Int));have X3:=(Yi.setCell (p:=⟨gO,0,none⟩) (by simp) (.int .i64 (D:Int))).setCell (p:=⟨gO,1,none⟩) (by simp) (.int .u64 (X:Int));have fD:=(aS.setCell (p:=⟨gO,0,none⟩) (by simp;omega) (.int .i64 (D:Int))).setCell (p:=⟨gO,1,none⟩) (by simp;omega) (.int .u64 (X:Int));generalize World.setCell (World.setCell v2 ⟨gO,0,none⟩ (.int .i64 (D:Int))) ⟨gO,1,none⟩ (.int .u64 (X:Int))=v4 at*;have pE:Cx v4 gO 5 (bq (.int .i64 (D:Int)) (.int .u64 (X:Int)) (.int .u16 0) (.int .u16 0) (.slice A3 m4 c4)):=Yj.ext (λj hj=>by have h:j=0\/j=1\/j=2\/j=3\/j=4:=(by omega);rcases h with rfl|rfl|rfl|rfl|rfl<;>rfl)
   clear uJ aL Yi aS Yj;go_wp2_with fail;refine(aaf (some ⟨bp,op,none⟩) m c2 PL _ (X3.more (Nat.le_of_lt (pE.lt (by omega)))) (by omega) XV.out).mono ?_;rintro e9 v5 ⟨rfl,rfl⟩;rw [F9.out];have XW:=(pE 2 (by omega)).1;have XX:=(pE 2 (by omega)).2;go_upto_region 11 with fail;clear XW XX;have yT:=pE.set (j:=2) (.int .u16 (T:Int)) (by omega);have dV:=dO.far (p:=⟨gO,2,none⟩) (by simp;omega) (.int .u16 (T:Int));have X4:=X3.setCell (p:=⟨gO,2,none⟩) (by simp) (.int .u16 (T:Int));have fK:=fD.setCell (p:=⟨gO,2,none⟩) (by simp;omega) (.int .u16 (T:Int));generalize World.setCell v5 ⟨gO,2,none⟩ (.int .u16 (T:Int))=v6 at*;have zP:Cx v6 gO 5 (bq (.int .i64 (D:Int)) (.int .u64 (X:Int)) (.int .u16 (T:Int)) (.int .u16 0) (.slice A3 m4 c4)):=yT.ext (λj hj=>by have h:j=0\/j=1\/j=2\/j=3\/j=4:=(by omega);rcases h with rfl|rfl|rfl|rfl|rfl<;>rfl);clear pE dO X3 fD yT;have IK:=NU.out;go_wp2_with fail;clear IK;refine(aaf A4 m2 c6 (PL.drop 2) _ ((Ym.out _ _ _ X4).more (Nat.le_of_lt (zP.lt (by omega)))) Yg.out.1 Yg.out.2).mono ?_;rintro e9 v7 ⟨rfl,rfl⟩;rw [Yn.out];have XW:=(zP 3 (by omega)).1;have XX:=(zP 3 (by omega)).2;go_upto_region 12 with fail;clear XW XX;have ji:=zP.set (j:=3) (.int .u16 (E:Int)) (by omega);have nH:=dV.far (p:=⟨gO,3,none⟩) (by simp;omega) (.int .u16 (E:Int));have X5:=X4.setCell (p:=⟨gO,3,none⟩) (by simp) (.int .u16 (E:Int));have qZ:=fK.setCell (p:=⟨gO,3,none⟩) (by simp;omega) (.int .u16 (E:Int))
   generalize World.setCell v7 ⟨gO,3,none⟩ (.int .u16 (E:Int))=v8 at*;have yU:Cx v8 gO 5 (bq (.int .i64 (D:Int)) (.int .u64 (X:Int)) (.int .u16 (T:Int)) (.int .u16 (E:Int)) (.slice A3 m4 c4)):=ji.ext (λj hj=>by have h:j=0\/j=1\/j=2\/j=3\/j=4:=(by omega);rcases h with rfl|rfl|rfl|rfl|rfl<;>rfl);clear zP dV X4 fK ji;have UU:v8.rangeAt gO 0 (av 5 (bq (.int .i64 (D:Int)) (.int .u64 (X:Int)) (.int .u16 (T:Int)) (.int .u16 (E:Int)) (.slice A3 m4 c4))):=yU.range 0 _ (by rw [dB];omega) (λj v hv=>by rw [Nat.zero_add];exact(Bi hv).2.symm);have ji:gO<=v8.heap.size:=Nat.le_of_lt (yU.lt (by omega));clear yU;go_wp2_with (first|(refine wpList_load_mid rfl _ _ rfl gO 0 rfl (av 5 (bq (.int .i64 (D:Int)) (.int .u64 (X:Int)) (.int .u16 (T:Int)) (.int .u16 (E:Int)) (.slice A3 m4 c4))) _ UU pz.out xQ.out (uI _) ?_)|(refine wpList_store_mid rfl _ _ _ rfl (w.heap.size) 0 (av 5 (bq (.int .i64 (D:Int)) (.int .u64 (X:Int)) (.int .u16 (T:Int)) (.int .u16 (E:Int)) (.slice A3 m4 c4))).toArray rfl rfl (by rw [show((av 5 (bq (.int .i64 (D:Int)) (.int .u64 (X:Int)) (.int .u16 (T:Int)) (.int .u16 (E:Int)) (.slice A3 m4 c4))).toArray).size=5 by rw [List.size_toArray,dB]];exact nH.there 0 5 (by omega)) (by rw [List.size_toArray];exact uI _) (all_oneCell_toArray (zN _ _ _ _ _ rfl rfl rfl rfl rfl)) ?_))
   have dV:=(nH.put 0 (av 5 (bq (.int .i64 (D:Int)) (.int .u64 (X:Int)) (.int .u16 (T:Int)) (.int .u16 (E:Int)) (.slice A3 m4 c4))) (by rw [dB];omega)).ext (zO eT _ _ _ _ _);have yV:=NV.out _ _ _ (UW X5 (by omega:bp≠w.heap.size) (av 5 (bq (.int .i64 (D:Int)) (.int .u64 (X:Int)) (.int .u16 (T:Int)) (.int .u16 (E:Int)) (.slice A3 m4 c4))) 0);have IP:=yV.len;try dsimp only [List.toList_toArray]
   refine bodyPost_ret (IQ rfl rfl rfl dV pz.out xQ.out (uI _)) rfl ⟨A3,c4,by rw [HV.out.1,HV.out.2.1,HV.out.2.2.1,HV.out.2.2.2.1,HV.out.2.2.2.2,HC.out,IP];rfl,?_,by rw [HV.out.2.2.2.2,IP];exact wM.out,qZ.trans (Below.setCells (Below.refl w.heap.size _) (b:=w.heap.size) (Nat.le_refl _) _ 0)⟩;rw [HV.out.2.2.2.2,IP];have hbO:bp<gO:=by
    obtain⟨b1,o1,e1,au,_⟩:=X5.2 (by omega);injection e1 with e1;injection e1 with e1 e2;omega
   exact λW hW hs=>NV.out _ _ _ (N7 (UW X5 (by omega:bp≠w.heap.size) (av 5 (bq (.int .i64 (D:Int)) (.int .u64 (X:Int)) (.int .u16 (T:Int)) (.int .u16 (E:Int)) (.slice A3 m4 c4))) 0) (hW bp (by omega) (by rw [World.setCells_size];omega)) (by rw [World.setCells_size]at hs;omega))
  ·rw [ae9 hC];obtain⟨HV,tN⟩:=aB (KH (f:=f) (l:=l) (by rw [HC.out];exact hC)) hC;have he:=UX 61 (.int .i64 (C:Nat)) q5;clear hC;go_wp2_with (first|(refine oH rfl 105 _ rfl _ rfl _ (N8 _) ?_)|(refine qY rfl _ _ _ rfl (w.heap.size) 5 0 eT (av 5 (eT)) rfl rfl bI (by rw [dB];omega) (uI _) (zN _ _ _ _ _ rfl rfl rfl rfl rfl) ?_;intro w8 Ez EA Rw Rx));have bI:=Ez.ext (zO eT _ _ _ _ _);refine bodyPost_ret (IQ rfl rfl rfl bI pz.out xQ.out (uI _)) rfl ⟨none,0,by rw [HV.out.1,HV.out.2.1,HV.out.2.2.1,HV.out.2.2.2.1,HV.out.2.2.2.2,HC.out,N9 tN.out];rfl,by rw [HV.out.2.2.2.2];exact dC.nil _ _ _,by rw [HV.out.2.2.2.2];exact Nat.le_refl _,bD.trans (EA.mono (by omega))⟩
 ·rw [N9 hU];have HC:=Hi (aeY (f:=f) HLEN.out hU);obtain⟨HV,Yq⟩:=aB (KH (f:=f) (l:=l) (by rw [HC.out];exact hU)) hU;have he:=UX 61 (.int .i64 (yS n:Nat)) x1;clear hU;go_wp2_with (first|(refine oH rfl 105 _ rfl _ rfl _ (N8 _) ?_)|(refine qY rfl _ _ _ rfl (w.heap.size) 5 0 eT (av 5 (eT)) rfl rfl jG (by rw [dB];omega) (uI _) (zN _ _ _ _ _ rfl rfl rfl rfl rfl) ?_;intro w8 Ez EA Rw Rx));have bI:=Ez.ext (zO eT _ _ _ _ _);refine bodyPost_ret (IQ rfl rfl rfl bI pz.out xQ.out (uI _)) rfl ⟨none,0,by rw [HV.out.1,HV.out.2.1,HV.out.2.2.1,HV.out.2.2.2.1,HV.out.2.2.2.2,HC.out,N9 Yq.out];rfl,by rw [HV.out.2.2.2.2];exact dC.nil _ _ _,by rw [HV.out.2.2.2.2];exact Nat.le_refl _,aT.trans (EA.mono (by omega))⟩
end
section
open Go.RowKit
theorem anE {f:Nat->Nat} {l:List UInt8} {n:Nat} (hl:l.length=n):(jH f l).length<=n:=by
 by_cases h:iL f l=0
 ·have h1:=UQ hl h;rw [(NT h).2.2.2.2,List.length_drop];omega
 ·rw [(KH h).2.2.2.2];exact Nat.zero_le _
theorem KI {f:Nat->Nat} {d x t e:Nat} {p:List UInt8} (hf:aj f) (hd:d<2) (hx:x<9223372036854775808) (ht:t<65536) (he:e<65536) (hp:p.length<=1200):
  iL f (jP f d x t e p)=0/\mU f (jP f d x t e p)=d/\jO f (jP f d x t e p)=x/\oh f (jP f d x t e p)=t/\lH f (jP f d x t e p)=e/\jH f (jP f d x t e p)=p:=by
 obtain⟨h1,h2⟩:=afa (f:=f) (t:=t) (e:=e) (p:=p) hf hd hx hp;obtain⟨k1,k2,k3,k4,k5⟩:=NT h1;obtain⟨m1,m2⟩:=afb ht he p;refine⟨h1,?_,?_,?_,?_,?_⟩
 ·rw [k1,UY,UK hd hx]
 ·rw [k2,UY,UL hd hx]
 ·rw [k3,h2,m1]
 ·rw [k4,h2,m2]
 ·rw [k5,h2];rfl
end
end Go.Proofs.YtdaiacmneopkgaaGreatDoor
