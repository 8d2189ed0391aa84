/-
 Contract of Receive of the reference package of layer 22 where it has an error; what it appends, by walks through their texts; what was there stays as it was.
-/
import Derived.Test.YtdaiacmneopkgaaGreatDoorSnc
import Derived.Test.YtdaiacmneopkgaaGreatDoorPkd
import Derived.Deep.Upon
import Derived.Lib.AppendZeros
namespace Go.Proofs.YtdaiacmneopkgaaGreatDoor
set_option linter.unusedSimpArgs false
set_option linter.unusedVariables false
set_option maxRecDepth 100000
set_option maxHeartbeats 8000000
section
open Go.RowKit
theorem Tk:(Tryz.prog.info? 35).map (·.size)=some 432:=by kernel_rfl
def uj (C D d:Nat) (fr:Bool):Nat:=if C=0 then(if D=d then 8 else if fr then 0 else 9)else C
theorem anM (r:bZ) (A:Option Addr) (n c:Nat) (s:ByteArray) (aV:Nat) (w:World) (hcl:r.cl=true):
  Calls Tryz.prog 18 #[.agg (aH r),.slice A n c,.string s,.int .u64 (aV:Int)] w λe w'=>e= .returned (.tuple #[.agg (aH r),.slice none 0 0,.int .i64 7])/\Below w.heap.size w w':=by
 have hz:=EB;obtain⟨kS,bV⟩:=Le (aH r);obtain⟨kZ,lI⟩:=Le (aH dG);obtain⟨w1,af⟩:=Lv (w.alloc (.cells (aH r) 43));have ak:=lh af;have au:=Bl af;have kJ:Se w1 w.heap.size r:=by rw [af];exact Se.new w r _
 obtain⟨w2,ag⟩:=Lv (w1.alloc (.cells (aH dG) 43));have aF:=Bm ag au;have aA:Se w2 (w.heap.size+1) dG:=by rw [ag,<-ak];exact Se.new w1 dG _
 have eu:Se w2 w.heap.size r:=by rw [ag];exact kJ.to ((Below.refl _ _).alloc (Nat.le_refl _) _)
 have IV:=Hi bV;rw [bV]at af;rw [lI]at ag hz;rw [bV];clear au kJ bV lI;obtain⟨dK,hu,hrow⟩:=Bj;obtain⟨HU,HRW⟩:=aB hu hrow;clear hu hrow;obtain⟨g,hg⟩: ∃g,w.heap.size=g:=⟨_,rfl⟩;obtain⟨gR,hgR⟩: ∃k,g+1=k:=⟨_,rfl⟩;have Wq:g<gR:=by omega
 have uz:w.heap.size<=g:=by omega
 have uX:w.heap.size<=gR:=by omega
 rw [hg]at eu aA;rw [hgR]at aA;have c12:=eu.c 12;simp only [df]at c12;rw [hcl]at c12;go_enter Tryz.func18,Tryz.ntmps18;go_upto_region 1 with fail;rw [<-af,<-ag];try rw [hg]
 try rw [hgR]
 clear af ag ak hz hgR hg;have jK:=eu;have aL:=aA;have aS:=aF;go_wp2_with (first
  |(refine wN rfl _ _ rfl g r rfl jK HU.out HRW.out (bW _) ?_)
  |(refine si rfl _ _ _ rfl gR dG r rfl rfl aL (bW _) ?_;intro w6 dV jJ))
 refine bodyPost_ret (v:= .tuple #[.agg (aH r),.slice none 0 0,.int .i64 7]) (Ab rfl rfl rfl rfl dV HU.out HRW.out (bW _)) rfl ⟨?_,aS.trans (jJ.on aS.size uX)⟩;rw [<-IV.out]
theorem ai9 (r:bZ) (f:Nat->Nat) (A:Option Addr) (n c:Nat) (l:List UInt8) (Fa:Nat->Nat) (s:ByteArray) (aV:Nat) (w:World) (hf:aj f) (xm:r.kf=aX (ek f) sb) (hcl:r.cl=false) (hU:Us w w.heap.size r.ac r.an Fa) (sD:r.an<=1000) (hrf:r.rf<9223372036854775807) (hS:Sl w w.heap.size A n l) (hnc:n<=c) (hc:c<=maxLen) (he:uj (iL f l) (mU f l) r.dr (wh Fa r.an (jO f l))≠0):
  Calls Tryz.prog 18 #[.agg (aH r),.slice A n c,.string s,.int .u64 (aV:Int)] w λe w'=>e= .returned (.tuple #[.agg (aH { r with rf:=r.rf+1 }),.slice none 0 0,.int .i64 ((uj (iL f l) (mU f l) r.dr (wh Fa r.an (jO f l)):Nat):Int)])/\Below w.heap.size w w':=by
 have hz:=EB;obtain⟨kS,bV⟩:=Le (aH r);obtain⟨kZ,lI⟩:=Le (aH dG);obtain⟨w1,af⟩:=Lv (w.alloc (.cells (aH r) 43));have ak:=lh af;have au:=Bl af;have kJ:Se w1 w.heap.size r:=by rw [af];exact Se.new w r _
 obtain⟨w2,ag⟩:=Lv (w1.alloc (.cells (aH dG) 43));have aF:=Bm ag au;have aA:Se w2 (w.heap.size+1) dG:=by rw [ag,<-ak];exact Se.new w1 dG _
 have eu:Se w2 w.heap.size r:=by rw [ag];exact kJ.to ((Below.refl _ _).alloc (Nat.le_refl _) _)
 have IV:=Hi bV;rw [bV]at af;rw [lI]at ag hz;rw [bV];clear au kJ bV lI;obtain⟨dK,hu,hrow⟩:=Bj;obtain⟨HU,HRW⟩:=aB hu hrow;clear hu hrow;obtain⟨g,hg⟩: ∃g,w.heap.size=g:=⟨_,rfl⟩;obtain⟨gR,hgR⟩: ∃k,g+1=k:=⟨_,rfl⟩;have Wq:g<gR:=by omega
 have uz:w.heap.size<=g:=by omega
 have uX:w.heap.size<=gR:=by omega
 rw [hg]at eu aA;rw [hgR]at aA;obtain⟨JS,Tj,HN,HK,fu⟩:=jX (λV (hB:Below w.heap.size w V)=>acm f A n c l V hf ((hS.below hB).more hB.size) hnc hc) hU sD xm hrf;obtain⟨dd,hdd⟩: ∃s,r.dr=s:=⟨_,rfl⟩;have jC:=Hi hdd;rw [hdd]at he;clear hf hS hnc hc xm hU sD;obtain⟨C,hC⟩: ∃k,iL f l=k:=⟨_,rfl⟩;obtain⟨D,hD⟩: ∃k,mU f l=k:=⟨_,rfl⟩;obtain⟨X,hX⟩: ∃k,jO f l=k:=⟨_,rfl⟩;obtain⟨T,hT⟩: ∃k,oh f l=k:=⟨_,rfl⟩;obtain⟨E,hE⟩: ∃k,lH f l=k:=⟨_,rfl⟩;obtain⟨m,hm⟩: ∃k,(jH f l).length=k:=⟨_,rfl⟩;obtain⟨fr,hfr⟩: ∃z,wh Fa r.an (jO f l)=z:=⟨_,rfl⟩;rw [hC,hD,hfr]at he⊢;rw [hC,hD,hX,hT,hE,hm]at JS;rw [hX]at hfr;have jo:=Hi hfr;obtain⟨G,hG⟩: ∃k,uj C D r.dr fr=k:=⟨_,rfl⟩;rw [hG];rw [hdd]at hG;have HG:=Hi hG;rw [hG]at he;have HE:=Hi he;clear hC hX hT hE hm hfr hdd he;have XW:=hrf;obtain⟨q,dH⟩: ∃q:bZ, { r with rf:=r.rf+1 } =q:=⟨_,rfl⟩;obtain⟨XV,pM⟩: ∃k,r.rf+1=k:=⟨_,rfl⟩;have a1:wrap64 ((r.rf:Int)+1)=(XV:Int):=by rw [IntWalk.wrap64_in _ (by omega)];omega
 rw [dH];obtain⟨HQ,Jj⟩:=aB dH pM;clear hrf XW pM dH;have c12:=eu.c 12;simp only [df]at c12;rw [hcl]at c12;have pF:=Hi hcl;clear hcl;have hcs:(¬C=0/\G=C/\((C:Int)==0)=false/\((C:Int) !=0)=true)\/(C=0/\D=dd/\G=8)\/(C=0/\fr=false/\G=9/\((D:Int)==(dd:Int))=false):=by
  unfold uj at hG;by_cases h0:C=0
  ·rw [if_pos h0]at hG;by_cases h1:D=dd
   ·rw [if_pos h1]at hG;exact .inr (.inl ⟨h0,h1,hG.symm⟩)
   ·rw [if_neg h1]at hG;cases fr with
    |true=>rw [if_pos rfl]at hG;exact absurd hG.symm HE.out
    |false=>exact .inr (.inr ⟨h0,rfl,hG.symm,by simp;omega⟩)
  ·rw [if_neg h0]at hG;exact .inl ⟨h0,hG.symm,by simp;omega,by simp;omega⟩
 clear hG hD;rcases hcs with ⟨h0,rfl,j1,j2⟩|⟨rfl,rfl,rfl⟩|⟨rfl,rfl,rfl,j1⟩
 ·go_enter Tryz.func18,Tryz.ntmps18;go_upto_region 1 with fail;rw [<-af,<-ag];try rw [hg]
  try rw [hgR]
  clear af ag ak hz hgR hg;obtain⟨MC,hfs,l7⟩:=Tryz.qa;obtain⟨qo,wu⟩:=aB hfs l7;clear hfs l7;go_wp2_with (refine R8 rfl _ _ rfl g r rfl eu qo.out wu.out (Tk) ?_);rw [HK.out];refine(JS.out _ aF).mono ?_;rintro e w3 ⟨A2,c2,rfl,_,_,hq⟩;have jK:=eu.to hq;have aL:=aA.to hq;have aS:=Tq aF hq;clear eu aA aF hq c12;obtain⟨w4,cZ⟩:=Lv (w3.alloc (.cells #[.int .i64 (D:Int),.int .u64 (X:Int),.int .u16 (T:Int),.int .u16 (E:Int),.slice A2 m c2] 105));obtain⟨gP,bQ⟩:=Le (w3.heap.size);have yH:Cx w4 gP 5 (bq (.int .i64 (D:Int)) (.int .u64 (X:Int)) (.int .u16 (T:Int)) (.int .u16 (E:Int)) (.slice A2 m c2)):=by rw [<-bQ];exact Ag cZ
  have hq:=Bl cZ;have Qh:g<gP:=by rw [<-bQ];exact jK.lt
  have Ws:gR<gP:=by rw [<-bQ];exact aL.lt
  have lX:=jK.to hq;have lD:=aL.to hq;have gZ:=Tq aS hq;go_upto_region 4 with fail;try rw [bQ]
  rw [<-cZ];clear cZ hq jK aL aS bQ;have c0:=lX.c 0;have c4:=lX.c 4;have c5:=lX.c 5;have z5:=lX.z 5;simp only [df]at c0 c4 c5;rw [jC.out]at c0;have p0:=(yH 0 (by omega)).1;have p1:=(yH 1 (by omega)).1;simp only [bq]at p0 p1;obtain⟨w5,jM⟩:=Lv ((w4.setCell ⟨g,437,none⟩ (.int .i64 (XV:Int))));have lg:But (On g) w4 w5:=by rw [jM];exact((But.refl _ _).put 437 _)
  have rP:=lD.but lg (On.ne (by omega));have G8:Se w5 g q:=by
   rw [jM,<-HQ.out,<-Jj.out];exact Se.set lX 5 _ rfl (by omega) (λi hi=>by match i,hi with|0,_=>rfl|1,_=>rfl|2,_=>rfl|3,_=>rfl|4,_=>rfl|5,_=>rfl|6,_=>rfl|7,_=>rfl|8,_=>rfl|9,_=>rfl|10,_=>rfl|11,_=>rfl|12,_=>rfl)
  have lY:=gZ.trans (lg.on gZ.size uz);go_upto_region 10 with fail;try rw [a1]
  rw [<-jM];clear jM lg lX lD gZ yH c0 c4 c5 z5 p0 p1;go_wp2_with (first
   |(refine wN rfl _ _ rfl g q rfl G8 HU.out HRW.out (bW _) ?_)
   |(refine si rfl _ _ _ rfl gR dG q rfl rfl rP (bW _) ?_;intro w6 dV jJ))
  refine bodyPost_ret (v:= .tuple #[.agg (aH q),.slice none 0 0,.int .i64 (G:Int)]) (Ab rfl rfl rfl rfl dV HU.out HRW.out (bW _)) rfl ⟨?_,lY.trans (jJ.on lY.size uX)⟩;rfl
 ·go_enter Tryz.func18,Tryz.ntmps18;go_upto_region 1 with fail;rw [<-af,<-ag];try rw [hg]
  try rw [hgR]
  clear af ag ak hz hgR hg;obtain⟨MC,hfs,l7⟩:=Tryz.qa;obtain⟨qo,wu⟩:=aB hfs l7;clear hfs l7;go_wp2_with (refine R8 rfl _ _ rfl g r rfl eu qo.out wu.out (Tk) ?_);rw [HK.out];refine(JS.out _ aF).mono ?_;rintro e w3 ⟨A2,c2,rfl,_,_,hq⟩;have jK:=eu.to hq;have aL:=aA.to hq;have aS:=Tq aF hq;clear eu aA aF hq c12;obtain⟨w4,cZ⟩:=Lv (w3.alloc (.cells #[.int .i64 (D:Int),.int .u64 (X:Int),.int .u16 (T:Int),.int .u16 (E:Int),.slice A2 m c2] 105));obtain⟨gP,bQ⟩:=Le (w3.heap.size);have yH:Cx w4 gP 5 (bq (.int .i64 (D:Int)) (.int .u64 (X:Int)) (.int .u16 (T:Int)) (.int .u16 (E:Int)) (.slice A2 m c2)):=by rw [<-bQ];exact Ag cZ
  have hq:=Bl cZ;have Qh:g<gP:=by rw [<-bQ];exact jK.lt
  have Ws:gR<gP:=by rw [<-bQ];exact aL.lt
  have lX:=jK.to hq;have lD:=aL.to hq;have gZ:=Tq aS hq;go_upto_region 4 with fail;try rw [bQ]
  rw [<-cZ];clear cZ hq jK aL aS bQ;have c0:=lX.c 0;have c4:=lX.c 4;have c5:=lX.c 5;have z5:=lX.z 5;simp only [df]at c0 c4 c5;rw [jC.out]at c0;have p0:=(yH 0 (by omega)).1;have p1:=(yH 1 (by omega)).1;simp only [bq]at p0 p1;obtain⟨w5,jM⟩:=Lv ((w4.setCell ⟨g,437,none⟩ (.int .i64 (XV:Int))));have lg:But (On g) w4 w5:=by rw [jM];exact((But.refl _ _).put 437 _)
  have rP:=lD.but lg (On.ne (by omega));have G8:Se w5 g q:=by
   rw [jM,<-HQ.out,<-Jj.out];exact Se.set lX 5 _ rfl (by omega) (λi hi=>by match i,hi with|0,_=>rfl|1,_=>rfl|2,_=>rfl|3,_=>rfl|4,_=>rfl|5,_=>rfl|6,_=>rfl|7,_=>rfl|8,_=>rfl|9,_=>rfl|10,_=>rfl|11,_=>rfl|12,_=>rfl)
  have lY:=gZ.trans (lg.on gZ.size uz);go_upto_region 10 with fail;try rw [a1]
  rw [<-jM];clear jM lg lX lD gZ yH c0 c4 c5 z5 p0 p1;go_wp2_with (first
   |(refine wN rfl _ _ rfl g q rfl G8 HU.out HRW.out (bW _) ?_)
   |(refine si rfl _ _ _ rfl gR dG q rfl rfl rP (bW _) ?_;intro w6 dV jJ))
  refine bodyPost_ret (v:= .tuple #[.agg (aH q),.slice none 0 0,.int .i64 8]) (Ab rfl rfl rfl rfl dV HU.out HRW.out (bW _)) rfl ⟨?_,lY.trans (jJ.on lY.size uX)⟩;rfl
 ·go_enter Tryz.func18,Tryz.ntmps18;go_upto_region 1 with fail;rw [<-af,<-ag];try rw [hg]
  try rw [hgR]
  clear af ag ak hz hgR hg;obtain⟨MC,hfs,l7⟩:=Tryz.qa;obtain⟨qo,wu⟩:=aB hfs l7;clear hfs l7;go_wp2_with (refine R8 rfl _ _ rfl g r rfl eu qo.out wu.out (Tk) ?_);rw [HK.out];refine(JS.out _ aF).mono ?_;rintro e w3 ⟨A2,c2,rfl,_,_,hq⟩;have jK:=eu.to hq;have aL:=aA.to hq;have aS:=Tq aF hq;clear eu aA aF hq c12;obtain⟨w4,cZ⟩:=Lv (w3.alloc (.cells #[.int .i64 (D:Int),.int .u64 (X:Int),.int .u16 (T:Int),.int .u16 (E:Int),.slice A2 m c2] 105));obtain⟨gP,bQ⟩:=Le (w3.heap.size);have yH:Cx w4 gP 5 (bq (.int .i64 (D:Int)) (.int .u64 (X:Int)) (.int .u16 (T:Int)) (.int .u16 (E:Int)) (.slice A2 m c2)):=by rw [<-bQ];exact Ag cZ
  have hq:=Bl cZ;have Qh:g<gP:=by rw [<-bQ];exact jK.lt
  have Ws:gR<gP:=by rw [<-bQ];exact aL.lt
  have lX:=jK.to hq;have lD:=aL.to hq;have gZ:=Tq aS hq;go_upto_region 4 with fail;try rw [bQ]
  rw [<-cZ];clear cZ hq jK aL aS bQ;have c0:=lX.c 0;have c4:=lX.c 4;have c5:=lX.c 5;have z5:=lX.z 5;simp only [df]at c0 c4 c5;rw [jC.out]at c0;have p0:=(yH 0 (by omega)).1;have p1:=(yH 1 (by omega)).1;simp only [bq]at p0 p1;go_wp2_with fail;refine(acr r.ac r.an r.ax w.heap.size Fa X w4 (Tj.out.keep gZ) HN.out).mono ?_;rintro e w9 ⟨rfl,bH⟩;rw [bH,jo.out];clear bH w9;obtain⟨w5,jM⟩:=Lv ((w4.setCell ⟨g,437,none⟩ (.int .i64 (XV:Int))));have lg:But (On g) w4 w5:=by rw [jM];exact((But.refl _ _).put 437 _)
  have rP:=lD.but lg (On.ne (by omega));have G8:Se w5 g q:=by
   rw [jM,<-HQ.out,<-Jj.out];exact Se.set lX 5 _ rfl (by omega) (λi hi=>by match i,hi with|0,_=>rfl|1,_=>rfl|2,_=>rfl|3,_=>rfl|4,_=>rfl|5,_=>rfl|6,_=>rfl|7,_=>rfl|8,_=>rfl|9,_=>rfl|10,_=>rfl|11,_=>rfl|12,_=>rfl)
  have lY:=gZ.trans (lg.on gZ.size uz);go_upto_region 10 with fail;try rw [a1]
  rw [<-jM];clear jM lg lX lD gZ yH c0 c4 c5 z5 p0 p1;go_wp2_with (first
   |(refine wN rfl _ _ rfl g q rfl G8 HU.out HRW.out (bW _) ?_)
   |(refine si rfl _ _ _ rfl gR dG q rfl rfl rP (bW _) ?_;intro w6 dV jJ))
  refine bodyPost_ret (v:= .tuple #[.agg (aH q),.slice none 0 0,.int .i64 9]) (Ab rfl rfl rfl rfl dV HU.out HRW.out (bW _)) rfl ⟨?_,lY.trans (jJ.on lY.size uX)⟩;rfl
end
section
open Go.RowKit
theorem Ai {P:Program} {o:Oper} {a:Act} {w w':World} {K:Act->World->Prop} {Q:Exit->Act->World->Prop} (t:TypeId) (len:Nat) (parts:Array (Nat×Operand)) (ho:o.op= .buildSlice t len parts)
  (ps:List (Nat×Value)) (hps:parts.toList.map (λp=>(p.1,a.eval p.2))=ps) (v:Value) (hb:(Instr.buildSlice t len ps.toArray).run P w= .ok v w') (h:K (a.put o.dst v) w'):o.wp P a w K Q:=by
 have e:(parts.map fun(i,x)=>(i,a.eval x))=ps.toArray:=by rw [<-hps];apply Array.toList_inj.1;simp
 unfold Oper.wp execOp;simp only [ho,e,Sem.run_bind,hb,Result.andThen_ok];exact h
theorem SE:(Tryz.prog.info? 23).map (λi=>(i.zero,i.size,i.bytes))=some (some (.int .u64 0),1,8):=by kernel_rfl
theorem PK (V:World):(Instr.buildSlice 38 0 #[]).run Tryz.prog V= .ok (.slice (some ⟨V.heap.size,0,none⟩) 0 0) (V.alloc (.cells #[] 23)):=by
 obtain⟨i0,cu,bJ,bE,dx⟩:=info_parts SE;simp [Instr.buildSlice,run_underlying Tryz.underlying38,sizeOf,typeInfo,cu,newRow,Instr.fill];exact congrArg (λx=>V.alloc (.cells x 23)) (Array.eq_empty_of_size_eq_zero (by simp))
theorem Jz (X:Int) (V:World):(Instr.buildSlice 38 1 #[(0,.int .u64 X)]).run Tryz.prog V= .ok (.slice (some ⟨V.heap.size,0,none⟩) 1 1) (V.alloc (.cells #[.int .u64 X] 23)):=by
 obtain⟨i0,cu,bJ,bE,dx⟩:=info_parts SE;exact run_buildSlice (P:=Tryz.prog) V 38 23 1 _ #[.int .u64 X] i0 _ Tryz.underlying38 cu bJ (by rw [bE];decide) (by rw [bE];decide) (by rw [bE];kernel_rfl)
theorem Us.ran {w:World} {B n:Nat} {A:Option Addr} {F:Nat->Nat} (h:Us w B A n F) (hn:0<n): ∃g o,A=some ⟨g,o,none⟩/\ ∀j u,(mK n F)[j]?=some u->w.cell? ((⟨g,o,none⟩:Addr).add j)=some u:=by
 obtain⟨g,o,rfl,hg,_⟩:=h 0 hn;refine⟨g,o,rfl,λj u hu=> ?_⟩;have hj:j<n:=by
  have:=(List.getElem?_eq_some_iff.1 hu).1;rw [abS]at this;exact this
 obtain⟨g2,o2,e2,_,hc⟩:=h j hj;injection e2 with e2;injection e2 with e3 e4;subst e3 e4;rw [abT n F j hj]at hu;rw [Addr.add_mid,hc,<-hu]
theorem Us.wide {w:World} {B B2 n:Nat} {A:Option Addr} {F:Nat->Nat} (h:Us w B A n F) (hb:B<=B2):Us w B2 A n F:=λj hj=>by
 obtain⟨g,o,e,hg,hc⟩:=h j hj;exact⟨g,o,e,by omega,hc⟩
theorem aid (n:Nat) (F:Nat->Nat): ∀u∈mK n F,u.oneCell'=true:=λu hu=>by
 obtain⟨j,_,rfl⟩:=List.mem_map.1 hu;rfl
theorem GJ {w:World} {b0 n c:Nat} {A:Option Addr} {F:Nat->Nat} {v:Value} (h:w.ownsRow b0 23 1 v 0 []) (hU:Us w w.heap.size A n F) (hn:n<=1000) (hb:b0<=w.heap.size):
  ∃v3 w3,(Builtin.append_ #[38,38] 38 #[v,.slice A n c]).run Tryz.prog w= .ok v3 w3/\w3.ownsRow b0 23 1 v3 n (mK n F)/\Below b0 w w3/\(∀(g:Nat) (x:Value),v.ownBlock≠some g->w.cell? ⟨g,0,none⟩=some x->w3.cell? ⟨g,0,none⟩=some x):=by
 obtain⟨i0,cu,bJ,bE,dx⟩:=info_parts SE;by_cases h0:n=0
 ·subst h0;obtain⟨A5,c5,rfl⟩:=su h;have hcap:=(Af h).1;refine⟨_,_,run_append_nothing _ 38 38 38 23 i0 Tryz.underlying38 cu _ 0 c5 hcap _ (by
   cases A with
   |none=>exact Src.ofNil _ Tryz.underlying38 c
   |some a=>exact Src.ofSlice _ Tryz.underlying38 a 0 c [] (by simp) (by simp) (by simp)),h,Below.refl _ _,λ_ _ _ hx=>hx⟩
 ·obtain⟨g,o,rfl,hsrc⟩:=hU.ran (by omega);obtain⟨v3,w3,h1,h2,h3,_⟩:=run_append_own (P:=Tryz.prog) w b0 38 38 23 i0 (.int .u64 0) 1 8 Tryz.underlying38 cu bJ bE dx rfl (by decide) _ 0 [] h ⟨g,o,none⟩ n c (mK n F) (by rw [abS,Nat.mul_one]) hsrc (aid n F) (by unfold maxLen;omega) (by omega) hb;rw [List.nil_append,Nat.zero_add]at h2;exact⟨v3,w3,h1,h2,(Below.refl _ _).grown h3 hb (λg hg=>SF h hg),λg x hne hx=>h3.cell (a:=⟨g,0,none⟩) hx (λe=>hne e.symm)⟩
theorem GK {w:World} {b0 n gu:Nat} {F:Nat->Nat} {v:Value} {X:Nat} (h:w.ownsRow b0 23 1 v n (mK n F)) (hc:w.cell? ⟨gu,0,none⟩=some (.int .u64 (X:Int))) (hn:n<=1000) (hb:b0<=w.heap.size):
  ∃A3 c3 w3,(Builtin.append_ #[38,38] 38 #[v,.slice (some ⟨gu,0,none⟩) 1 1]).run Tryz.prog w= .ok (.slice A3 (n+1) c3) w3/\w3.ownsRow b0 23 1 (.slice A3 (n+1) c3) (n+1) (mK (n+1) (jA F n X))/\Below b0 w w3:=by
 obtain⟨i0,cu,bJ,bE,dx⟩:=info_parts SE;obtain⟨v3,w3,h1,h2,h3,_⟩:=run_append_own (P:=Tryz.prog) w b0 38 38 23 i0 (.int .u64 0) 1 8 Tryz.underlying38 cu bJ bE dx rfl (by decide) _ n _ h ⟨gu,0,none⟩ 1 1 [.int .u64 (X:Int)] rfl (λj u hj=>by
  match j,hj with
  |0,hj=>simp at hj;subst hj;rw [Addr.add_mid];exact hc
  |j+1,hj=>simp at hj) (λu hu=>by simp at hu;subst hu;rfl) (by unfold maxLen;omega) (by omega) hb
 rw [<-aie]at h2;obtain⟨A3,c3,rfl⟩:=su h2;exact⟨A3,c3,w3,h1,h2,(Below.refl _ _).grown h3 hb (λg hg=>SF h hg)⟩
noncomputable def aif:Code:=((Tryz.f18.body.bind (yB 11)).getD .skip)
theorem aih (A:Option Addr) (n c X:Nat) (F:Nat->Nat) (g gP b0:Nat) {Q0:Exit->Act->World->Prop} {t0 t1 t2 t3 t5 t6 t7 t8 t9 t10 t12 t13 t14 t15 t16 t17 t18 t19 t20 t21 t22 t23 t24 t25 t26 t27 t28 t29 t30 t31 t32 t33 t34 t35 t36 t37 t38 t39 t40 t41 t42 t43 t44 t45 t46 t47 t48 t49 t50 t51 t52 t53 t54 t55 t56 t57 t58 t59 t60 t61 t62 t63 t64 t65 t66 t67 t68 t69 t70 t71 t72 t73 t74 t75 t76 t77 t78 t79 t80 t81 t82 t83 t84 t85 t86 t87 t88 t89 t90 t91 t92 t93 t94 t95 t96 t97 t98 t99 t100 t101 t102 t103 t104:Value} {w W:World} {V:World} (vQ:V.cell? ⟨g,436,none⟩=some (.slice A n c)) (jR:V.frozen? ⟨g,436,none⟩=false) (jb:V.cell? ⟨gP,1,none⟩=some (.int .u64 (X:Int))) (hU:Us V b0 A n F) (hn:n<=1000) (hg:g<b0) (bQ:gP<b0) (iN:V.heap.size=b0) (Y3:V=W)
  (hQ: ∀(A3:Option Addr) (c3:Nat) (w8:World) (w9:World) (u51 u52 u53 u54 u55 u56 u57 u58 u59:Value),w8.ownsRow b0 23 1 (.slice A3 (n+1) c3) (n+1) (mK (n+1) (jA F n X))->Below b0 V w8->w9=w8.setCell ⟨g,436,none⟩ (.slice A3 (n+1) c3)->Q0 .normal ⟨(t0::t1::t2::t3:: .pointer (some ⟨g,0,none⟩)::t5::t6::t7::t8::t9::t10:: .pointer (some ⟨gP,0,none⟩)::t12::t13::t14::t15::t16::t17::t18::t19::t20::t21::t22::t23::t24::t25::t26::t27::t28::t29::t30::t31::t32::t33::t34::t35::t36::t37::t38::t39::t40::t41::t42::t43::t44::t45::t46::t47::t48::t49::t50::u51::u52::u53::u54::u55::u56::u57::u58::u59::t60::t61::t62::t63::t64::t65::t66::t67::t68::t69::t70::t71::t72::t73::t74::t75::t76::t77::t78::t79::t80::t81::t82::t83::t84::t85::t86::t87::t88::t89::t90::t91::t92::t93::t94::t95::t96::t97::t98::t99::t100::t101::t102::t103::t104:: []).toArray,[]⟩ w9):
  Code.wp Tryz.prog aif Q0 ⟨(t0::t1::t2::t3:: .pointer (some ⟨g,0,none⟩)::t5::t6::t7::t8::t9::t10:: .pointer (some ⟨gP,0,none⟩)::t12::t13::t14::t15::t16::t17::t18::t19::t20::t21::t22::t23::t24::t25::t26::t27::t28::t29::t30::t31::t32::t33::t34::t35::t36::t37::t38::t39::t40::t41::t42::t43::t44::t45::t46::t47::t48::t49::t50::t51::t52::t53::t54::t55::t56::t57::t58::t59::t60::t61::t62::t63::t64::t65::t66::t67::t68::t69::t70::t71::t72::t73::t74::t75::t76::t77::t78::t79::t80::t81::t82::t83::t84::t85::t86::t87::t88::t89::t90::t91::t92::t93::t94::t95::t96::t97::t98::t99::t100::t101::t102::t103::t104:: []).toArray,[]⟩ W:=by
 have HQ:=Hi hQ;clear hQ;refine Code.wp_mono NoPanic.imp ?_
 conv=>arg 2;whnf
 subst Y3;have Yv:Below b0 V V:=Below.refl _ _;have XW:=Yv.drew;refine wp_region_held_drew (S:=λW=>World.cell? W ⟨gP,1,none⟩=some (.int .u64 (X:Int))) (by kernel_rfl) (show(World.drew V).cell? ⟨gP,1,none⟩=some (.int .u64 (X:Int))from(Yv.drew.cell (p:=⟨gP,1,none⟩) bQ).trans jb) (λaa=> ?_);clear Yv;generalize World.drew V=kd at*;refine ty 1 rfl ?_;refine ty 4 rfl ?_;refine ty 5 rfl ?_ (λW hSw=>by have cP:=hSw;go_simp;try with_reducible rfl);refine wpAnyH_ready (rs:= [0,2,6]) (by kernel_rfl) (by simp) ?_;refine AllReadyH.cons rfl (λK hK=> ?_) (AllReadyH.cons rfl (λK hK=> ?_) (AllReadyH.cons rfl (λK hK=> ?_) AllReadyH.nil))
 ·rw [if_pos (by rfl)];refine Ai _ _ _ rfl [] rfl _ (PK _) ?_;have hsz:=XW.size;have X3:=World.ownsRow_made (base:=b0) (e:=23) (size:=1) kd #[] 0 (by omega) (Nat.zero_le _) rfl;have hq:Below b0 kd (kd.alloc (.cells #[] 23)):=(Below.refl _ _).alloc (by omega) _;have Y4:kd.heap.size<(kd.alloc (.cells #[] 23)).heap.size:=by simp
  generalize Y5:kd.heap.size=ge at X3 Y4⊢;generalize kd.alloc (.cells #[] 23)=k4 at*;have XX:=XW.trans hq;refine hK.out _ _ ((XX.cell (p:=⟨gP,1,none⟩) bQ).trans jb) ?_;clear hK K aa hq XW hsz Y5;intro aa;try simp only [nr]
  refine uO 2 6 rfl rfl (λK hK=> ?_) (λK hK=> ?_)
  ·have cG:=(XX.cell (p:=⟨g,436,none⟩) hg).trans vQ;go_simp;refine hK.out _ _ aa ?_;clear hK K aa cG;intro aa;try simp only [nr]
   refine uO 3 6 rfl rfl (λK hK=> ?_) (λK hK=> ?_)
   ·rw [if_pos (by rfl)];have hsz:=XX.size;obtain⟨v3,k5,hr,YE,hq,hoth⟩:=GJ (c:=c) X3 (Us.wide (Us.keep hU XX) (by omega)) hn (by omega);refine Lib.wp_append_run k4 _ _ _ _ rfl _ _ rfl rfl _ _ hr ?_;have Yd:=XX.trans hq;refine hK.out _ _ ((Yd.cell (p:=⟨gP,1,none⟩) bQ).trans jb) ?_;clear hK K aa hq XX hsz hr hoth X3;intro aa;try simp only [nr]
    refine rd 6 rfl (λK hK=> ?_);rw [if_pos (by rfl)];refine Ai _ _ _ rfl [(0,.int .u64 (X:Int))] rfl _ (Jz _ _) ?_;have hsz:=Yd.size;have hq:Below b0 k5 (k5.alloc (.cells #[.int .u64 (X:Int)] 23)):=(Below.refl _ _).alloc (by omega) _;have Yw:(k5.alloc (.cells #[.int .u64 (X:Int)] 23)).cell? ⟨k5.heap.size,0,none⟩=some (.int .u64 (X:Int)):=World.cell?_alloc_at _ _ _ _ rfl;have YF:=YE.alloc (.cells #[.int .u64 (X:Int)] 23);generalize Y6:k5.heap.size=gu at Yw⊢;generalize k5.alloc (.cells #[.int .u64 (X:Int)] 23)=k6 at*;have Ye:=Yd.trans hq;refine hK.out _ _ ((Ye.cell (p:=⟨gP,1,none⟩) bQ).trans jb) ?_;clear hK K aa hq Yd hsz Y6 YE;intro aa;try simp only [nr]
    refine rd 7 rfl (λK hK=> ?_);rw [if_pos (by rfl)];have hsz:=Ye.size;obtain⟨A3,c3,k7,hr,Y7,hq⟩:=GK YF Yw hn (by omega);refine Lib.wp_append_run k6 _ _ _ _ rfl _ _ rfl rfl _ _ hr ?_;have Yf:=Ye.trans hq;refine hK.out _ _ ((Yf.cell (p:=⟨gP,1,none⟩) bQ).trans jb) ?_;clear hK K aa hq Ye hsz hr YF Yw;intro aa;try simp only [nr]
    refine ty 8 rfl ?_;refine rd 9 rfl (λK hK=> ?_);have cG:=(Yf.cell (p:=⟨g,436,none⟩) hg).trans vQ;have zG:=(Yf.frozen (p:=⟨g,436,none⟩) hg).trans jR;go_simp;refine hK.out _ _ (by rw [World.cell?_setCell_other _ _ _ _ (λe=>by injection e with e1 e2 e3;omega)];exact aa) ?_;clear hK K aa;intro aa;try simp only [Act.put]
    refine wpAnyH_done (by kernel_rfl) ?_ _;exact HQ.out A3 c3 k7 _ _ _ _ _ _ _ _ _ _ Y7 Yf rfl
   ·rw [if_pos (by rfl)];refine Ai _ _ _ rfl [(0,.int .u64 (X:Int))] rfl _ (Jz _ _) ?_;have hsz:=XX.size;have hq:Below b0 k4 (k4.alloc (.cells #[.int .u64 (X:Int)] 23)):=(Below.refl _ _).alloc (by omega) _;have Yx:(k4.alloc (.cells #[.int .u64 (X:Int)] 23)).cell? ⟨k4.heap.size,0,none⟩=some (.int .u64 (X:Int)):=World.cell?_alloc_at _ _ _ _ rfl;have YG:=X3.alloc (.cells #[.int .u64 (X:Int)] 23);have hge:ge≠k4.heap.size:=(by omega);generalize Y8:k4.heap.size=gu at Yx hge⊢;generalize k4.alloc (.cells #[.int .u64 (X:Int)] 23)=k9 at*;have X6:=XX.trans hq;refine hK.out _ _ ((X6.cell (p:=⟨gP,1,none⟩) bQ).trans jb) ?_;clear hK K aa hq XX hsz Y8 X3;intro aa;try simp only [nr]
    refine rd 3 rfl (λK hK=> ?_);rw [if_pos (by rfl)];have hsz:=X6.size;obtain⟨v3,k10,hr,YH,hq,hoth⟩:=GJ (c:=c) YG (Us.wide (Us.keep hU X6) (by omega)) hn (by omega);have YI:k10.cell? ⟨gu,0,none⟩=some (.int .u64 (X:Int)):=hoth gu _ (λe=>hge (by simpa [Value.ownBlock]using e)) Yx;refine Lib.wp_append_run k9 _ _ _ _ rfl _ _ rfl rfl _ _ hr ?_;have Yg:=X6.trans hq;refine hK.out _ _ ((Yg.cell (p:=⟨gP,1,none⟩) bQ).trans jb) ?_;clear hK K aa hq X6 hsz hr hoth YG Yx;intro aa;try simp only [nr]
    refine rd 7 rfl (λK hK=> ?_);rw [if_pos (by rfl)];have hsz:=Yg.size;obtain⟨A3,c3,k11,hr,Y9,hq⟩:=GK YH YI hn (by omega);refine Lib.wp_append_run k10 _ _ _ _ rfl _ _ rfl rfl _ _ hr ?_;have Yh:=Yg.trans hq;refine hK.out _ _ ((Yh.cell (p:=⟨gP,1,none⟩) bQ).trans jb) ?_;clear hK K aa hq Yg hsz hr YH YI;intro aa;try simp only [nr]
    refine ty 8 rfl ?_;refine rd 9 rfl (λK hK=> ?_);have cG:=(Yh.cell (p:=⟨g,436,none⟩) hg).trans vQ;have zG:=(Yh.frozen (p:=⟨g,436,none⟩) hg).trans jR;go_simp;refine hK.out _ _ (by rw [World.cell?_setCell_other _ _ _ _ (λe=>by injection e with e1 e2 e3;omega)];exact aa) ?_;clear hK K aa;intro aa;try simp only [Act.put]
    refine wpAnyH_done (by kernel_rfl) ?_ _;exact HQ.out A3 c3 k11 _ _ _ _ _ _ _ _ _ _ Y9 Yh rfl
  ·rw [if_pos (by rfl)];refine Ai _ _ _ rfl [(0,.int .u64 (X:Int))] rfl _ (Jz _ _) ?_;have hsz:=XX.size;have hq:Below b0 k4 (k4.alloc (.cells #[.int .u64 (X:Int)] 23)):=(Below.refl _ _).alloc (by omega) _;have Yy:(k4.alloc (.cells #[.int .u64 (X:Int)] 23)).cell? ⟨k4.heap.size,0,none⟩=some (.int .u64 (X:Int)):=World.cell?_alloc_at _ _ _ _ rfl;have YJ:=X3.alloc (.cells #[.int .u64 (X:Int)] 23);have hge:ge≠k4.heap.size:=(by omega);generalize Za:k4.heap.size=gu at Yy hge⊢;generalize k4.alloc (.cells #[.int .u64 (X:Int)] 23)=k13 at*;have X4:=XX.trans hq;refine hK.out _ _ ((X4.cell (p:=⟨gP,1,none⟩) bQ).trans jb) ?_;clear hK K aa hq XX hsz Za X3;intro aa;try simp only [nr]
   refine rd 2 rfl (λK hK=> ?_);have cG:=(X4.cell (p:=⟨g,436,none⟩) hg).trans vQ;go_simp;refine hK.out _ _ aa ?_;clear hK K aa cG;intro aa;try simp only [nr]
   refine rd 3 rfl (λK hK=> ?_);rw [if_pos (by rfl)];have hsz:=X4.size;obtain⟨v3,k14,hr,YK,hq,hoth⟩:=GJ (c:=c) YJ (Us.wide (Us.keep hU X4) (by omega)) hn (by omega);have YL:k14.cell? ⟨gu,0,none⟩=some (.int .u64 (X:Int)):=hoth gu _ (λe=>hge (by simpa [Value.ownBlock]using e)) Yy;refine Lib.wp_append_run k13 _ _ _ _ rfl _ _ rfl rfl _ _ hr ?_;have GL:=X4.trans hq;refine hK.out _ _ ((GL.cell (p:=⟨gP,1,none⟩) bQ).trans jb) ?_;clear hK K aa hq X4 hsz hr hoth YJ Yy;intro aa;try simp only [nr]
   refine rd 7 rfl (λK hK=> ?_);rw [if_pos (by rfl)];have hsz:=GL.size;obtain⟨A3,c3,k15,hr,Zb,hq⟩:=GK YK YL hn (by omega);refine Lib.wp_append_run k14 _ _ _ _ rfl _ _ rfl rfl _ _ hr ?_;have Yi:=GL.trans hq;refine hK.out _ _ ((Yi.cell (p:=⟨gP,1,none⟩) bQ).trans jb) ?_;clear hK K aa hq GL hsz hr YK YL;intro aa;try simp only [nr]
   refine ty 8 rfl ?_;refine rd 9 rfl (λK hK=> ?_);have cG:=(Yi.cell (p:=⟨g,436,none⟩) hg).trans vQ;have zG:=(Yi.frozen (p:=⟨g,436,none⟩) hg).trans jR;go_simp;refine hK.out _ _ (by rw [World.cell?_setCell_other _ _ _ _ (λe=>by injection e with e1 e2 e3;omega)];exact aa) ?_;clear hK K aa;intro aa;try simp only [Act.put]
   refine wpAnyH_done (by kernel_rfl) ?_ _;exact HQ.out A3 c3 k15 _ _ _ _ _ _ _ _ _ _ Zb Yi rfl
 ·have cG:=(XW.cell (p:=⟨g,436,none⟩) hg).trans vQ;go_simp;refine hK.out _ _ aa ?_;clear hK K aa cG;intro aa;try simp only [nr]
  refine uO 0 6 rfl rfl (λK hK=> ?_) (λK hK=> ?_)
  ·rw [if_pos (by rfl)];refine Ai _ _ _ rfl [] rfl _ (PK _) ?_;have hsz:=XW.size;have X7:=World.ownsRow_made (base:=b0) (e:=23) (size:=1) kd #[] 0 (by omega) (Nat.zero_le _) rfl;have hq:Below b0 kd (kd.alloc (.cells #[] 23)):=(Below.refl _ _).alloc (by omega) _;have Zc:kd.heap.size<(kd.alloc (.cells #[] 23)).heap.size:=(by simp);generalize Zd:kd.heap.size=ge at X7 Zc⊢;generalize kd.alloc (.cells #[] 23)=k17 at*;have XZ:=XW.trans hq;refine hK.out _ _ ((XZ.cell (p:=⟨gP,1,none⟩) bQ).trans jb) ?_;clear hK K aa hq XW hsz Zd;intro aa;try simp only [nr]
   refine uO 3 6 rfl rfl (λK hK=> ?_) (λK hK=> ?_)
   ·rw [if_pos (by rfl)];have hsz:=XZ.size;obtain⟨v3,k18,hr,YM,hq,hoth⟩:=GJ (c:=c) X7 (Us.wide (Us.keep hU XZ) (by omega)) hn (by omega);refine Lib.wp_append_run k17 _ _ _ _ rfl _ _ rfl rfl _ _ hr ?_;have Yj:=XZ.trans hq;refine hK.out _ _ ((Yj.cell (p:=⟨gP,1,none⟩) bQ).trans jb) ?_;clear hK K aa hq XZ hsz hr hoth X7;intro aa;try simp only [nr]
    refine rd 6 rfl (λK hK=> ?_);rw [if_pos (by rfl)];refine Ai _ _ _ rfl [(0,.int .u64 (X:Int))] rfl _ (Jz _ _) ?_;have hsz:=Yj.size;have hq:Below b0 k18 (k18.alloc (.cells #[.int .u64 (X:Int)] 23)):=(Below.refl _ _).alloc (by omega) _;have Yz:(k18.alloc (.cells #[.int .u64 (X:Int)] 23)).cell? ⟨k18.heap.size,0,none⟩=some (.int .u64 (X:Int)):=World.cell?_alloc_at _ _ _ _ rfl;have YN:=YM.alloc (.cells #[.int .u64 (X:Int)] 23);generalize Ze:k18.heap.size=gu at Yz⊢;generalize k18.alloc (.cells #[.int .u64 (X:Int)] 23)=k19 at*;have Yk:=Yj.trans hq;refine hK.out _ _ ((Yk.cell (p:=⟨gP,1,none⟩) bQ).trans jb) ?_;clear hK K aa hq Yj hsz Ze YM;intro aa;try simp only [nr]
    refine rd 7 rfl (λK hK=> ?_);rw [if_pos (by rfl)];have hsz:=Yk.size;obtain⟨A3,c3,k20,hr,Zf,hq⟩:=GK YN Yz hn (by omega);refine Lib.wp_append_run k19 _ _ _ _ rfl _ _ rfl rfl _ _ hr ?_;have Yl:=Yk.trans hq;refine hK.out _ _ ((Yl.cell (p:=⟨gP,1,none⟩) bQ).trans jb) ?_;clear hK K aa hq Yk hsz hr YN Yz;intro aa;try simp only [nr]
    refine ty 8 rfl ?_;refine rd 9 rfl (λK hK=> ?_);have cG:=(Yl.cell (p:=⟨g,436,none⟩) hg).trans vQ;have zG:=(Yl.frozen (p:=⟨g,436,none⟩) hg).trans jR;go_simp;refine hK.out _ _ (by rw [World.cell?_setCell_other _ _ _ _ (λe=>by injection e with e1 e2 e3;omega)];exact aa) ?_;clear hK K aa;intro aa;try simp only [Act.put]
    refine wpAnyH_done (by kernel_rfl) ?_ _;exact HQ.out A3 c3 k20 _ _ _ _ _ _ _ _ _ _ Zf Yl rfl
   ·rw [if_pos (by rfl)];refine Ai _ _ _ rfl [(0,.int .u64 (X:Int))] rfl _ (Jz _ _) ?_;have hsz:=XZ.size;have hq:Below b0 k17 (k17.alloc (.cells #[.int .u64 (X:Int)] 23)):=(Below.refl _ _).alloc (by omega) _;have YA:(k17.alloc (.cells #[.int .u64 (X:Int)] 23)).cell? ⟨k17.heap.size,0,none⟩=some (.int .u64 (X:Int)):=World.cell?_alloc_at _ _ _ _ rfl;have YO:=X7.alloc (.cells #[.int .u64 (X:Int)] 23);have hge:ge≠k17.heap.size:=(by omega);generalize Zg:k17.heap.size=gu at YA hge⊢;generalize k17.alloc (.cells #[.int .u64 (X:Int)] 23)=k22 at*;have X8:=XZ.trans hq;refine hK.out _ _ ((X8.cell (p:=⟨gP,1,none⟩) bQ).trans jb) ?_;clear hK K aa hq XZ hsz Zg X7;intro aa;try simp only [nr]
    refine rd 3 rfl (λK hK=> ?_);rw [if_pos (by rfl)];have hsz:=X8.size;obtain⟨v3,k23,hr,YP,hq,hoth⟩:=GJ (c:=c) YO (Us.wide (Us.keep hU X8) (by omega)) hn (by omega);have YQ:k23.cell? ⟨gu,0,none⟩=some (.int .u64 (X:Int)):=hoth gu _ (λe=>hge (by simpa [Value.ownBlock]using e)) YA;refine Lib.wp_append_run k22 _ _ _ _ rfl _ _ rfl rfl _ _ hr ?_;have GM:=X8.trans hq;refine hK.out _ _ ((GM.cell (p:=⟨gP,1,none⟩) bQ).trans jb) ?_;clear hK K aa hq X8 hsz hr hoth YO YA;intro aa;try simp only [nr]
    refine rd 7 rfl (λK hK=> ?_);rw [if_pos (by rfl)];have hsz:=GM.size;obtain⟨A3,c3,k24,hr,Zh,hq⟩:=GK YP YQ hn (by omega);refine Lib.wp_append_run k23 _ _ _ _ rfl _ _ rfl rfl _ _ hr ?_;have Ym:=GM.trans hq;refine hK.out _ _ ((Ym.cell (p:=⟨gP,1,none⟩) bQ).trans jb) ?_;clear hK K aa hq GM hsz hr YP YQ;intro aa;try simp only [nr]
    refine ty 8 rfl ?_;refine rd 9 rfl (λK hK=> ?_);have cG:=(Ym.cell (p:=⟨g,436,none⟩) hg).trans vQ;have zG:=(Ym.frozen (p:=⟨g,436,none⟩) hg).trans jR;go_simp;refine hK.out _ _ (by rw [World.cell?_setCell_other _ _ _ _ (λe=>by injection e with e1 e2 e3;omega)];exact aa) ?_;clear hK K aa;intro aa;try simp only [Act.put]
    refine wpAnyH_done (by kernel_rfl) ?_ _;exact HQ.out A3 c3 k24 _ _ _ _ _ _ _ _ _ _ Zh Ym rfl
  ·rw [if_pos (by rfl)];refine Ai _ _ _ rfl [(0,.int .u64 (X:Int))] rfl _ (Jz _ _) ?_;have hsz:=XW.size;have hq:Below b0 kd (kd.alloc (.cells #[.int .u64 (X:Int)] 23)):=(Below.refl _ _).alloc (by omega) _;have Ya:(kd.alloc (.cells #[.int .u64 (X:Int)] 23)).cell? ⟨kd.heap.size,0,none⟩=some (.int .u64 (X:Int)):=World.cell?_alloc_at _ _ _ _ rfl;generalize Zi:kd.heap.size=gu at Ya⊢;generalize kd.alloc (.cells #[.int .u64 (X:Int)] 23)=k26 at*;have Yn:=XW.trans hq;refine hK.out _ _ ((Yn.cell (p:=⟨gP,1,none⟩) bQ).trans jb) ?_;clear hK K aa hq XW hsz Zi;intro aa;try simp only [nr]
   refine rd 0 rfl (λK hK=> ?_);rw [if_pos (by rfl)];refine Ai _ _ _ rfl [] rfl _ (PK _) ?_;have hsz:=Yn.size;have YB:=World.ownsRow_made (base:=b0) (e:=23) (size:=1) k26 #[] 0 (by omega) (Nat.zero_le _) rfl;have hq:Below b0 k26 (k26.alloc (.cells #[] 23)):=(Below.refl _ _).alloc (by omega) _;have YR:(k26.alloc (.cells #[] 23)).cell? ⟨gu,0,none⟩=some (.int .u64 (X:Int)):=(((Below.refl k26.heap.size k26).alloc (Nat.le_refl _) _).cell (p:=⟨gu,0,none⟩) (vI Ya)).trans Ya;have hge:k26.heap.size≠gu:=(by have:=vI Ya;omega);have Zj:k26.heap.size<(k26.alloc (.cells #[] 23)).heap.size:=(by simp);generalize Zk:k26.heap.size=ge at YB Zj hge⊢;generalize k26.alloc (.cells #[] 23)=k27 at*;have Yb:=Yn.trans hq;refine hK.out _ _ ((Yb.cell (p:=⟨gP,1,none⟩) bQ).trans jb) ?_;clear hK K aa hq Yn hsz Zk Ya;intro aa;try simp only [nr]
   refine rd 3 rfl (λK hK=> ?_);rw [if_pos (by rfl)];have hsz:=Yb.size;obtain⟨v3,k28,hr,YS,hq,hoth⟩:=GJ (c:=c) YB (Us.wide (Us.keep hU Yb) (by omega)) hn (by omega);have YT:k28.cell? ⟨gu,0,none⟩=some (.int .u64 (X:Int)):=hoth gu _ (λe=>hge (by simpa [Value.ownBlock]using e)) YR;refine Lib.wp_append_run k27 _ _ _ _ rfl _ _ rfl rfl _ _ hr ?_;have Yo:=Yb.trans hq;refine hK.out _ _ ((Yo.cell (p:=⟨gP,1,none⟩) bQ).trans jb) ?_;clear hK K aa hq Yb hsz hr hoth YB YR;intro aa;try simp only [nr]
   refine rd 7 rfl (λK hK=> ?_);rw [if_pos (by rfl)];have hsz:=Yo.size;obtain⟨A3,c3,Zl,hr,Zm,hq⟩:=GK YS YT hn (by omega);refine Lib.wp_append_run k28 _ _ _ _ rfl _ _ rfl rfl _ _ hr ?_;have Yp:=Yo.trans hq;refine hK.out _ _ ((Yp.cell (p:=⟨gP,1,none⟩) bQ).trans jb) ?_;clear hK K aa hq Yo hsz hr YS YT;intro aa;try simp only [nr]
   refine ty 8 rfl ?_;refine rd 9 rfl (λK hK=> ?_);have cG:=(Yp.cell (p:=⟨g,436,none⟩) hg).trans vQ;have zG:=(Yp.frozen (p:=⟨g,436,none⟩) hg).trans jR;go_simp;refine hK.out _ _ (by rw [World.cell?_setCell_other _ _ _ _ (λe=>by injection e with e1 e2 e3;omega)];exact aa) ?_;clear hK K aa;intro aa;try simp only [Act.put]
   refine wpAnyH_done (by kernel_rfl) ?_ _;exact HQ.out A3 c3 Zl _ _ _ _ _ _ _ _ _ _ Zm Yp rfl
 ·rw [if_pos (by rfl)];refine Ai _ _ _ rfl [(0,.int .u64 (X:Int))] rfl _ (Jz _ _) ?_;have hsz:=XW.size;have hq:Below b0 kd (kd.alloc (.cells #[.int .u64 (X:Int)] 23)):=(Below.refl _ _).alloc (by omega) _;have XY:(kd.alloc (.cells #[.int .u64 (X:Int)] 23)).cell? ⟨kd.heap.size,0,none⟩=some (.int .u64 (X:Int)):=World.cell?_alloc_at _ _ _ _ rfl;generalize Zn:kd.heap.size=gu at XY⊢;generalize kd.alloc (.cells #[.int .u64 (X:Int)] 23)=XV at*;have X0:=XW.trans hq;refine hK.out _ _ ((X0.cell (p:=⟨gP,1,none⟩) bQ).trans jb) ?_;clear hK K aa hq XW hsz Zn;intro aa;try simp only [nr]
  refine uO 0 2 rfl rfl (λK hK=> ?_) (λK hK=> ?_)
  ·rw [if_pos (by rfl)];refine Ai _ _ _ rfl [] rfl _ (PK _) ?_;have hsz:=X0.size;have YC:=World.ownsRow_made (base:=b0) (e:=23) (size:=1) XV #[] 0 (by omega) (Nat.zero_le _) rfl;have hq:Below b0 XV (XV.alloc (.cells #[] 23)):=(Below.refl _ _).alloc (by omega) _;have YU:(XV.alloc (.cells #[] 23)).cell? ⟨gu,0,none⟩=some (.int .u64 (X:Int)):=(((Below.refl XV.heap.size XV).alloc (Nat.le_refl _) _).cell (p:=⟨gu,0,none⟩) (vI XY)).trans XY;have hge:XV.heap.size≠gu:=(by have:=vI XY;omega);have Zo:XV.heap.size<(XV.alloc (.cells #[] 23)).heap.size:=(by simp);generalize Zp:XV.heap.size=ge at YC Zo hge⊢;generalize XV.alloc (.cells #[] 23)=Zq at*;have X5:=X0.trans hq;refine hK.out _ _ ((X5.cell (p:=⟨gP,1,none⟩) bQ).trans jb) ?_;clear hK K aa hq X0 hsz Zp XY;intro aa;try simp only [nr]
   refine rd 2 rfl (λK hK=> ?_);have cG:=(X5.cell (p:=⟨g,436,none⟩) hg).trans vQ;go_simp;refine hK.out _ _ aa ?_;clear hK K aa cG;intro aa;try simp only [nr]
   refine rd 3 rfl (λK hK=> ?_);rw [if_pos (by rfl)];have hsz:=X5.size;obtain⟨v3,YV,hr,YW,hq,hoth⟩:=GJ (c:=c) YC (Us.wide (Us.keep hU X5) (by omega)) hn (by omega);have YX:YV.cell? ⟨gu,0,none⟩=some (.int .u64 (X:Int)):=hoth gu _ (λe=>hge (by simpa [Value.ownBlock]using e)) YU;refine Lib.wp_append_run Zq _ _ _ _ rfl _ _ rfl rfl _ _ hr ?_;have Yq:=X5.trans hq;refine hK.out _ _ ((Yq.cell (p:=⟨gP,1,none⟩) bQ).trans jb) ?_;clear hK K aa hq X5 hsz hr hoth YC YU;intro aa;try simp only [nr]
   refine rd 7 rfl (λK hK=> ?_);rw [if_pos (by rfl)];have hsz:=Yq.size;obtain⟨A3,c3,Zr,hr,Zt,hq⟩:=GK YW YX hn (by omega);refine Lib.wp_append_run YV _ _ _ _ rfl _ _ rfl rfl _ _ hr ?_;have Yr:=Yq.trans hq;refine hK.out _ _ ((Yr.cell (p:=⟨gP,1,none⟩) bQ).trans jb) ?_;clear hK K aa hq Yq hsz hr YW YX;intro aa;try simp only [nr]
   refine ty 8 rfl ?_;refine rd 9 rfl (λK hK=> ?_);have cG:=(Yr.cell (p:=⟨g,436,none⟩) hg).trans vQ;have zG:=(Yr.frozen (p:=⟨g,436,none⟩) hg).trans jR;go_simp;refine hK.out _ _ (by rw [World.cell?_setCell_other _ _ _ _ (λe=>by injection e with e1 e2 e3;omega)];exact aa) ?_;clear hK K aa;intro aa;try simp only [Act.put]
   refine wpAnyH_done (by kernel_rfl) ?_ _;exact HQ.out A3 c3 Zr _ _ _ _ _ _ _ _ _ _ Zt Yr rfl
  ·have cG:=(X0.cell (p:=⟨g,436,none⟩) hg).trans vQ;go_simp;refine hK.out _ _ aa ?_;clear hK K aa cG;intro aa;try simp only [nr]
   refine rd 0 rfl (λK hK=> ?_);rw [if_pos (by rfl)];refine Ai _ _ _ rfl [] rfl _ (PK _) ?_;have hsz:=X0.size;have YD:=World.ownsRow_made (base:=b0) (e:=23) (size:=1) XV #[] 0 (by omega) (Nat.zero_le _) rfl;have hq:Below b0 XV (XV.alloc (.cells #[] 23)):=(Below.refl _ _).alloc (by omega) _;have YY:(XV.alloc (.cells #[] 23)).cell? ⟨gu,0,none⟩=some (.int .u64 (X:Int)):=(((Below.refl XV.heap.size XV).alloc (Nat.le_refl _) _).cell (p:=⟨gu,0,none⟩) (vI XY)).trans XY;have hge:XV.heap.size≠gu:=(by have:=vI XY;omega);have Zu:XV.heap.size<(XV.alloc (.cells #[] 23)).heap.size:=(by simp);generalize Zv:XV.heap.size=ge at YD Zu hge⊢;generalize XV.alloc (.cells #[] 23)=Zw at*;have Yc:=X0.trans hq;refine hK.out _ _ ((Yc.cell (p:=⟨gP,1,none⟩) bQ).trans jb) ?_;clear hK K aa hq X0 hsz Zv XY;intro aa;try simp only [nr]
   refine rd 3 rfl (λK hK=> ?_);rw [if_pos (by rfl)];have hsz:=Yc.size;obtain⟨v3,YZ,hr,Y1,hq,hoth⟩:=GJ (c:=c) YD (Us.wide (Us.keep hU Yc) (by omega)) hn (by omega);have Y2:YZ.cell? ⟨gu,0,none⟩=some (.int .u64 (X:Int)):=hoth gu _ (λe=>hge (by simpa [Value.ownBlock]using e)) YY;refine Lib.wp_append_run Zw _ _ _ _ rfl _ _ rfl rfl _ _ hr ?_;have Yt:=Yc.trans hq;refine hK.out _ _ ((Yt.cell (p:=⟨gP,1,none⟩) bQ).trans jb) ?_;clear hK K aa hq Yc hsz hr hoth YD YY;intro aa;try simp only [nr]
   refine rd 7 rfl (λK hK=> ?_);rw [if_pos (by rfl)];have hsz:=Yt.size;obtain⟨A3,c3,Zx,hr,Zy,hq⟩:=GK Y1 Y2 hn (by omega);refine Lib.wp_append_run YZ _ _ _ _ rfl _ _ rfl rfl _ _ hr ?_;have Yu:=Yt.trans hq;refine hK.out _ _ ((Yu.cell (p:=⟨gP,1,none⟩) bQ).trans jb) ?_;clear hK K aa hq Yt hsz hr Y1 Y2;intro aa;try simp only [nr]
   refine ty 8 rfl ?_;refine rd 9 rfl (λK hK=> ?_);have cG:=(Yu.cell (p:=⟨g,436,none⟩) hg).trans vQ;have zG:=(Yu.frozen (p:=⟨g,436,none⟩) hg).trans jR;go_simp;refine hK.out _ _ (by rw [World.cell?_setCell_other _ _ _ _ (λe=>by injection e with e1 e2 e3;omega)];exact aa) ?_;clear hK K aa;intro aa;try simp only [Act.put]
   refine wpAnyH_done (by kernel_rfl) ?_ _;exact HQ.out A3 c3 Zx _ _ _ _ _ _ _ _ _ _ Zy Yu rfl
end
section
open Go.RowKit
def hsL (n:Nat) (F:Nat->Nat):List Value:=(List.range n).map λj=> .int .u16 (F j:Int)
theorem acM (n:Nat) (F:Nat->Nat):(hsL n F).length=n:=by simp [hsL]
theorem acN (n:Nat) (F:Nat->Nat) (j:Nat) (h:j<n):(hsL n F)[j]?=some (.int .u16 (F j:Int)):=by
 simp [hsL,List.getElem?_map,List.getElem?_range h]
theorem ajN (n:Nat) (F:Nat->Nat):hsL (n+1) F=hsL n F++ [.int .u16 (F n:Int)]:=by simp [hsL,List.range_succ]
theorem ajO {n:Nat} {F G:Nat->Nat} (h: ∀j,j<n->F j=G j):hsL n F=hsL n G:=by
 unfold hsL;apply List.map_congr_left;intro j hj;rw [h j (List.mem_range.1 hj)]
theorem ajP (n:Nat) (F:Nat->Nat) (x:Nat):hsL (n+1) (jA F n x)=hsL n F++ [.int .u16 (x:Int)]:=by
 rw [ajN,Fj,ajO (λj hj=>Mv F n x j hj)]
theorem Hs.jk {w:World} {b n c:Nat} {A:Option Addr} {F:Nat->Nat} {e:TypeId} (h:w.ownsRow b e 1 (.slice A n c) n (hsL n F)):Hs w w.heap.size A n F:=λj hj=>by
 obtain⟨g,cap,hv,hg,hlt⟩:=World.ownsRow.form h (by omega);injection hv with e1 e2 e3;subst e1;refine⟨g,0,rfl,hlt,?_⟩;have hc:=World.ownsRow.cells h (g:=g) rfl j _ (acN n F j hj);have:(⟨g,0,none⟩:Addr).add j=⟨g,0+j,none⟩:=by unfold Addr.add;split<;>simp_all
 rw [this]at hc;exact hc
theorem TG:(Tryz.prog.info? 64).map (λi=>(i.zero,i.size,i.bytes))=some (some (.int .u16 0),1,2):=by kernel_rfl
theorem ai5 (V:World):(Instr.buildSlice 41 0 #[]).run Tryz.prog V= .ok (.slice (some ⟨V.heap.size,0,none⟩) 0 0) (V.alloc (.cells #[] 64)):=by
 obtain⟨i0,cu,bJ,bE,dx⟩:=info_parts TG;simp [Instr.buildSlice,run_underlying Tryz.underlying41,sizeOf,typeInfo,cu,newRow,Instr.fill];exact congrArg (λx=>V.alloc (.cells x 64)) (Array.eq_empty_of_size_eq_zero (by simp))
theorem ai6 (X:Int) (V:World):(Instr.buildSlice 41 1 #[(0,.int .u16 X)]).run Tryz.prog V= .ok (.slice (some ⟨V.heap.size,0,none⟩) 1 1) (V.alloc (.cells #[.int .u16 X] 64)):=by
 obtain⟨i0,cu,bJ,bE,dx⟩:=info_parts TG;exact run_buildSlice (P:=Tryz.prog) V 41 64 1 _ #[.int .u16 X] i0 _ Tryz.underlying41 cu bJ (by rw [bE];decide) (by rw [bE];decide) (by rw [bE];kernel_rfl)
theorem Hs.ran {w:World} {B n:Nat} {A:Option Addr} {F:Nat->Nat} (h:Hs w B A n F) (hn:0<n): ∃g o,A=some ⟨g,o,none⟩/\ ∀j u,(hsL n F)[j]?=some u->w.cell? ((⟨g,o,none⟩:Addr).add j)=some u:=by
 obtain⟨g,o,rfl,hg,_⟩:=h 0 hn;refine⟨g,o,rfl,λj u hu=> ?_⟩;have hj:j<n:=by
  have:=(List.getElem?_eq_some_iff.1 hu).1;rw [acM]at this;exact this
 obtain⟨g2,o2,e2,_,hc⟩:=h j hj;injection e2 with e2;injection e2 with e3 e4;subst e3 e4;rw [acN n F j hj]at hu;rw [Addr.add_mid,hc,<-hu]
theorem Hs.wide {w:World} {B B2 n:Nat} {A:Option Addr} {F:Nat->Nat} (h:Hs w B A n F) (hb:B<=B2):Hs w B2 A n F:=λj hj=>by
 obtain⟨g,o,e,hg,hc⟩:=h j hj;exact⟨g,o,e,by omega,hc⟩
theorem ajQ (n:Nat) (F:Nat->Nat): ∀u∈hsL n F,u.oneCell'=true:=λu hu=>by
 obtain⟨j,_,rfl⟩:=List.mem_map.1 hu;rfl
theorem ajR {w:World} {b0 n c:Nat} {A:Option Addr} {F:Nat->Nat} {v:Value} (h:w.ownsRow b0 64 1 v 0 []) (hU:Hs w w.heap.size A n F) (hn:n<=1000) (hb:b0<=w.heap.size):
  ∃v3 w3,(Builtin.append_ #[41,41] 41 #[v,.slice A n c]).run Tryz.prog w= .ok v3 w3/\w3.ownsRow b0 64 1 v3 n (hsL n F)/\Below b0 w w3/\(∀(g:Nat) (x:Value),v.ownBlock≠some g->w.cell? ⟨g,0,none⟩=some x->w3.cell? ⟨g,0,none⟩=some x):=by
 obtain⟨i0,cu,bJ,bE,dx⟩:=info_parts TG;by_cases h0:n=0
 ·subst h0;obtain⟨A5,c5,rfl⟩:=su h;have hcap:=(Af h).1;refine⟨_,_,run_append_nothing _ 41 41 41 64 i0 Tryz.underlying41 cu _ 0 c5 hcap _ (by
   cases A with
   |none=>exact Src.ofNil _ Tryz.underlying41 c
   |some a=>exact Src.ofSlice _ Tryz.underlying41 a 0 c [] (by simp) (by simp) (by simp)),h,Below.refl _ _,λ_ _ _ hx=>hx⟩
 ·obtain⟨g,o,rfl,hsrc⟩:=hU.ran (by omega);obtain⟨v3,w3,h1,h2,h3,_⟩:=run_append_own (P:=Tryz.prog) w b0 41 41 64 i0 (.int .u16 0) 1 2 Tryz.underlying41 cu bJ bE dx rfl (by decide) _ 0 [] h ⟨g,o,none⟩ n c (hsL n F) (by rw [acM,Nat.mul_one]) hsrc (ajQ n F) (by unfold maxLen;omega) (by omega) hb;rw [List.nil_append,Nat.zero_add]at h2;exact⟨v3,w3,h1,h2,(Below.refl _ _).grown h3 hb (λg hg=>SF h hg),λg x hne hx=>h3.cell (a:=⟨g,0,none⟩) hx (λe=>hne e.symm)⟩
theorem ajS {w:World} {b0 n gu:Nat} {F:Nat->Nat} {v:Value} {X:Nat} (h:w.ownsRow b0 64 1 v n (hsL n F)) (hc:w.cell? ⟨gu,0,none⟩=some (.int .u16 (X:Int))) (hn:n<=1000) (hb:b0<=w.heap.size):
  ∃A3 c3 w3,(Builtin.append_ #[41,41] 41 #[v,.slice (some ⟨gu,0,none⟩) 1 1]).run Tryz.prog w= .ok (.slice A3 (n+1) c3) w3/\w3.ownsRow b0 64 1 (.slice A3 (n+1) c3) (n+1) (hsL (n+1) (jA F n X))/\Below b0 w w3:=by
 obtain⟨i0,cu,bJ,bE,dx⟩:=info_parts TG;obtain⟨v3,w3,h1,h2,h3,_⟩:=run_append_own (P:=Tryz.prog) w b0 41 41 64 i0 (.int .u16 0) 1 2 Tryz.underlying41 cu bJ bE dx rfl (by decide) _ n _ h ⟨gu,0,none⟩ 1 1 [.int .u16 (X:Int)] rfl (λj u hj=>by
  match j,hj with
  |0,hj=>simp at hj;subst hj;rw [Addr.add_mid];exact hc
  |j+1,hj=>simp at hj) (λu hu=>by simp at hu;subst hu;rfl) (by unfold maxLen;omega) (by omega) hb
 rw [<-ajP]at h2;obtain⟨A3,c3,rfl⟩:=su h2;exact⟨A3,c3,w3,h1,h2,(Below.refl _ _).grown h3 hb (λg hg=>SF h hg)⟩
theorem acs {P:Program} {w:World} {ops:Array Oper} {rest:List Oper} {o:Oper} {a:Act} {Q:Exit->Act->World->Prop} (hw:Region.wanted o (yielded ops a.tmps)=true) (s x:Operand) (t tn:TypeId)
  (ho:o.op= .call { callee:= .builtin .append,args:= #[s,x],argTypes:= #[t,tn] }) (vs vx:Value) (hs:a.eval s=vs) (hx:a.eval x=vx)
  (v':Value) (w':World) (hr:(Builtin.append_ #[t,tn] o.type #[vs,vx]).run P w= .ok v' w') (h:wpList P ops Q rest (a.put o.dst v') w'):wpList P ops Q (o::rest) a w:=
 BigFrame.wpList_want hw λ_ hK=>Lib.wp_append_run w s x t tn ho vs vx hs hx v' w' hr (hK _ _ h)
theorem ai4 (X:Nat) (A:Option Addr) (n c:Nat) (F:Nat->Nat) (w:World) (h:Hs w w.heap.size A n F) (hn:n<=1000):
  ∃v3 w3 A5 c5 w5,(Builtin.append_ #[41,41] 41 #[.slice (some ⟨w.heap.size,0,none⟩) 0 0,.slice A n c]).run Tryz.prog (w.alloc (.cells #[] 64))= .ok v3 w3/\
   (Builtin.append_ #[41,41] 41 #[v3,.slice (some ⟨w3.heap.size,0,none⟩) 1 1]).run Tryz.prog (w3.alloc (.cells #[.int .u16 (X:Int)] 64))= .ok (.slice A5 (n+1) c5) w5/\
   w5.ownsRow w.heap.size 64 1 (.slice A5 (n+1) c5) (n+1) (hsL (n+1) (jA F n X))/\Below w.heap.size w w5:=by
 have O2:(w.alloc (.cells #[] 64)).ownsRow w.heap.size 64 1 (.slice (some ⟨w.heap.size,0,none⟩) 0 0) 0 []:=World.ownsRow_made w #[] 0 (Nat.le_refl _) (Nat.zero_le _) rfl;have B2:Below w.heap.size w (w.alloc (.cells #[] 64)):=(Below.refl _ _).alloc (Nat.le_refl _) _;have aD:w.heap.size<=(w.alloc (.cells #[] 64)).heap.size:=B2.size;obtain⟨v3,w3,rC,O3,B3,_⟩:=ajR (c:=c) O2 (Hs.wide (h.keep B2) aD) hn aD;have B4:=B2.trans B3;have B5:Below w.heap.size w (w3.alloc (.cells #[.int .u16 (X:Int)] 64)):=B4.alloc B4.size _;obtain⟨A5,c5,w5,Tp,O5,B6⟩:=ajS (X:=X) (gu:=w3.heap.size) (O3.alloc (.cells #[.int .u16 (X:Int)] 64)) (World.cell?_alloc_at _ _ _ _ rfl) hn B5.size;exact⟨v3,w3,A5,c5,w5,rC,Tp,O5,B5.trans B6⟩
end
end Go.Proofs.YtdaiacmneopkgaaGreatDoor
