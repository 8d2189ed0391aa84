/-
 Datagrams as functions; contract of Encode of the reference package of layer 17, by walks through their texts; what was there stays as it was.
-/
import Derived.Test.YtdaiacmneopkgaaGreatDoorMaj
import Derived.Test.YtdaiacmneopkgaaGreatDoorMea
namespace Go.Proofs.YtdaiacmneopkgaaGreatDoor
set_option linter.unusedSimpArgs false
set_option linter.unusedVariables false
set_option maxRecDepth 100000
set_option maxHeartbeats 4000000
section
open Go.RowKit
theorem aj5 {f s a:Nat->Nat} {d l:List UInt8} {n:Nat} (hl:l.length=n) (h:opC f s a d l=0):(Fu f s a d l).length+16=n:=by
 have uZ:16<=n:=by
  rcases Nat.lt_or_ge n 16 with h2|h2
  ·rw [Qx hl h2]at h;cases h
  ·exact h2
 rw [TL hl rfl h,KQ,List.length_take];omega
end
section
open Go.RowKit
def Hg (d x:Nat):Nat->Nat:=qE (hdF d x)
def wL (f q:Nat->Nat):Nat->Nat:=mg (aJ f (eZ q)) (q 11)
theorem NN (d x:Nat):oZ (Hg d x):=aiq (NM d x)
theorem aj1 {f q:Nat->Nat} (hf:aj f) (hq:oZ q):aj (wL f q):=Eh (fM hf (xH hq) 10) _
def hbL (t e:Nat):List UInt8:= [UInt8.ofNat (t/256),UInt8.ofNat (t%256),UInt8.ofNat (e/256),UInt8.ofNat (e%256)]
def Ck (t e:Nat) (p:List UInt8):List UInt8:=hbL t e++p
theorem WJ (t e:Nat) (p:List UInt8):(Ck t e p).length=p.length+4:=by unfold Ck hbL;rw [List.length_append];simp;omega
def xP (p:List UInt8):Nat:=lF p 0*256+lF p 1
def F8 (p:List UInt8):Nat:=lF p 2*256+lF p 3
theorem aag (p:List UInt8):xP p<65536:=by have:=qx p 0;have:=qx p 1;unfold xP;omega
theorem afb {t e:Nat} (ht:t<65536) (he:e<65536) (p:List UInt8):xP (Ck t e p)=t/\F8 (Ck t e p)=e:=by
 unfold xP F8 Ck hbL lF;simp only [List.cons_append,List.nil_append,List.getD_cons_zero,List.getD_cons_succ,UInt8.toNat_ofNat'];omega
def Hl (f q:Nat->Nat) (p:List UInt8):List UInt8:=nC f (aJ f zF) (wL f q) p (uB f (aJ f zF) (mD p) (nM (aJ f zF) (wL f q) p.length) [])
theorem acO (f q:Nat->Nat) (p:List UInt8):(Hl f q p).length=p.length+16:=by unfold Hl nC;rw [List.length_append,xU];unfold tQ;rw [xU]
def jP (f:Nat->Nat) (d x t e:Nat) (p:List UInt8):List UInt8:=qD d x++Hl f (Hg d x) (Ck t e p)
theorem Tc (f:Nat->Nat) (d x t e:Nat) (p:List UInt8):(jP f d x t e p).length=p.length+28:=by unfold jP;rw [List.length_append,Ev,acO,WJ];omega
theorem UY (f:Nat->Nat) (d x t e:Nat) (p:List UInt8):(jP f d x t e p).take 8=qD d x:=by unfold jP;exact List.take_left' (Ev d x)
theorem aj2 (f:Nat->Nat) (d x t e:Nat) (p:List UInt8):(jP f d x t e p).drop 8=Hl f (Hg d x) (Ck t e p):=by unfold jP;exact List.drop_left' (Ev d x)
def NP (f q:Nat->Nat) (l:List UInt8):Nat:=opC f (aJ f zF) (wL f q) [] l
def Rq (f q:Nat->Nat) (l:List UInt8):List UInt8:=Fu f (aJ f zF) (wL f q) [] l
def CQ (l:List UInt8):Nat->Nat:=Hg (qW (l.take 8)) (rZ (l.take 8))
def iL (f:Nat->Nat) (l:List UInt8):Nat:=if l.length<28 then 1 else if 1228<l.length then 2 else NP f (CQ l) (l.drop 8)
def wK (f:Nat->Nat) (l:List UInt8):List UInt8:=Rq f (CQ l) (l.drop 8)
section
variable {f:Nat->Nat} {d x t e n:Nat} {p l:List UInt8}
theorem acn (hl:l.length=n) (h:n<28):iL f l=1:=by unfold iL;rw [if_pos (by omega)]
theorem aco (hl:l.length=n) (h:1228<n):iL f l=2:=by unfold iL;rw [if_neg (by omega),if_pos (by omega)]
theorem Rp (hl:l.length=n) (h1:28<=n) (h2:n<=1228):iL f l=NP f (CQ l) (l.drop 8):=by unfold iL;rw [if_neg (by omega),if_neg (by omega)]
theorem afa (hf:aj f) (hd:d<2) (hx:x<9223372036854775808) (hp:p.length<=1200):iL f (jP f d x t e p)=0/\wK f (jP f d x t e p)=Ck t e p:=by
 have hq:CQ (jP f d x t e p)=Hg d x:=by unfold CQ;rw [UY,UK hd hx,UL hd hx]
 have hs:aj (aJ f zF):=fM hf jw 10;have h:=aj3 (f:=f) (s:=aJ f zF) (a:=wL f (Hg d x)) hf hs (aj1 hf (NN d x)) (Ck t e p) [];rw [Rp (Tc f d x t e p) (by omega) (by omega)];unfold wK;rw [hq,aj2];exact h
theorem aj4 (hl:l.length=n) (h:iL f l=0):28<=n/\n<=1228/\NP f (CQ l) (l.drop 8)=0:=by
 rcases Nat.lt_or_ge n 28 with h1|h1
 ·rw [acn hl h1]at h;cases h
 ·rcases Nat.lt_or_ge 1228 n with h2|h2
  ·rw [aco hl h2]at h;cases h
  ·rw [Rp hl h1 h2]at h;exact⟨h1,h2,h⟩
theorem UQ (hl:l.length=n) (h:iL f l=0):(wK f l).length+24=n:=by
 obtain⟨h1,h2,h3⟩:=aj4 hl h;have h4:(l.drop 8).length=n-8:=by rw [List.length_drop,hl]
 have:=aj5 (f:=f) (s:=aJ f zF) (a:=wL f (CQ l)) (d:= []) h4 h3;unfold wK Rq;omega
def mU (f:Nat->Nat) (l:List UInt8):Nat:=if iL f l=0 then qW (l.take 8)else 0
def jO (f:Nat->Nat) (l:List UInt8):Nat:=if iL f l=0 then rZ (l.take 8)else 0
def oh (f:Nat->Nat) (l:List UInt8):Nat:=if iL f l=0 then xP (wK f l)else 0
def lH (f:Nat->Nat) (l:List UInt8):Nat:=if iL f l=0 then F8 (wK f l)else 0
def jH (f:Nat->Nat) (l:List UInt8):List UInt8:=if iL f l=0 then(wK f l).drop 4 else []
theorem KH (h:iL f l≠0):mU f l=0/\jO f l=0/\oh f l=0/\lH f l=0/\jH f l= []:=by
 unfold mU jO oh lH jH;rw [if_neg h,if_neg h,if_neg h,if_neg h,if_neg h];exact⟨rfl,rfl,rfl,rfl,rfl⟩
theorem NT (h:iL f l=0):mU f l=qW (l.take 8)/\jO f l=rZ (l.take 8)/\oh f l=xP (wK f l)/\lH f l=F8 (wK f l)/\jH f l=(wK f l).drop 4:=by
 unfold mU jO oh lH jH;rw [if_pos h,if_pos h,if_pos h,if_pos h,if_pos h];exact⟨rfl,rfl,rfl,rfl,rfl⟩
end
end
section
open Go.RowKit
open Go.Shelf
theorem am6 {P:Program} (w:World) {o:Oper} {a:Act} {K:Act->World->Prop} {Q:Exit->Act->World->Prop} (s x:Operand) (t:TypeId)
  (ho:o.op= .call { callee:= .builtin .append,args:= #[s,x],argTypes:= #[t,t] })
  (e:TypeId) (i:TypeInfo) (z:Value) (h1:P.underlying t=some (.slice e)) (h2:P.info? e=some i) (h3:i.zero=some z) (h4:i.size=1) (h5:i.bytes=1) (h6:z.cells.size=1)
  (b:Addr) (n cap:Nat) (olds:List Value) (hs:a.eval s= .slice (some b) n cap) (hlo:olds.length=n) (holds: ∀j u,olds[j]?=some u->w.cell? (b.add j)=some u)
  (ad:Addr) (m c:Nat) (news:List Value) (hx:a.eval x= .slice (some ad) m c) (hl:news.length=m) (hnews: ∀j u,news[j]?=some u->w.cell? (ad.add j)=some u) (h1c: ∀u∈news,u.oneCell'=true)
  (hg:cap<n+m) (b1:n+m<=maxLen) (b2:n+m<=140737488355328)
  (h: ∀v' w',w'.ownsRow w.heap.size e 1 v' (n+m) (olds++news)->w.grownBy w' none->K (a.put o.dst v') w'):o.wp P a w K Q:=by
 obtain⟨v',w',hrun,r1,r2⟩:=run_append_arg_grows (P:=P) w t o.type e i z 1 1 h1 h2 h3 h4 h5 h6 (by omega) b n cap olds (by omega) holds ad m c news (by omega) hnews hg b1 (by omega);unfold Oper.wp execOp;simp only [ho,resolve,invoke,builtin,Sem.run_bind,Sem.run_pure,Result.andThen_ok,List.map_toArray,List.map_cons,List.map_nil,hs,hx,hrun];exact h v' w' r1 r2
theorem UT (g:Nat) (w:World):(Instr.sliceAt 162 (.pointer (some ⟨g,0,none⟩)) none none none).run Tryz.prog w= .ok (.slice (some ⟨g,0,none⟩) 8 8) w:=by
 have hal:Tryz.prog.arrayLen 162=8:=by simp [Program.arrayLen]
 have hel:Tryz.prog.elem 162=5:=by simp [Program.elem]
 have hs:(sizeOf 5).run Tryz.prog w= .ok 1 w:=by kernel_rfl
 rw [run_sliceAt_array_all w 162 ⟨g,0,none⟩ (by rw [hal,hel];exact Tryz.wI),hal,hel,hs];simp [Result.andThen_ok,slicedAt,Addr.add]
theorem am7 (t e:Nat) (ht:t<65536) (he:e<65536):(hbL t e).map b8= [.int .u8 ((t/256:Nat):Int),.int .u8 ((t%256:Nat):Int),.int .u8 ((e/256:Nat):Int),.int .u8 ((e%256:Nat):Int)]:=by
 unfold hbL;simp only [List.map_cons,List.map_nil];rw [Bz _ (by omega),Bz _ (by omega),Bz _ (by omega),Bz _ (by omega)]
theorem adb (f:Nat->Nat) (d x t e:Nat) (A:Option Addr) (n c:Nat) (p:List UInt8) (w:World) (hf:aj f) (hd:d<2) (hx:x<9223372036854775808) (ht:t<65536) (he:e<65536) (hS:Sl w w.heap.size A n p) (hnc:n<=c) (hn:n<=900000):
  Calls Tryz.prog 48 #[.agg (ae 432 (aX (ek f) sb)).toArray,.agg #[.int .i64 (d:Int),.int .u64 (x:Int),.int .u16 (t:Int),.int .u16 (e:Int),.slice A n c]] w λe9 w'=> ∃(A2:Option Addr) (c2:Nat),e9= .returned (.slice A2 (n+28) c2)/\dC w w' A2 (n+28) (jP f d x t e p)/\n+28<=c2/\c2<=maxLen/\Below w.heap.size w w':=by
 obtain⟨kE,dZ⟩:=Le ((ae 432 (aX (ek f) sb)).toArray);obtain⟨kP,XX⟩: ∃k:Array Value,#[.int .i64 (d:Int),.int .u64 (x:Int),.int .u16 (t:Int),.int .u16 (e:Int),.slice A n c]=k:=⟨_,rfl⟩;obtain⟨w1,af,ak,aW,iC⟩:=nA w 432 (aX (ek f) sb) 35;obtain⟨w2,ag⟩:=Lv (w1.alloc (.cells #[.int .i64 (d:Int),.int .u64 (x:Int),.int .u16 (t:Int),.int .u16 (e:Int),.slice A n c] 105));have aD:=uN ag ak;have bU:=Bm ag aW;have fZ:=bn ag iC;have XW:Cx w2 (w.heap.size+1) 5 (bq (.int .i64 (d:Int)) (.int .u64 (x:Int)) (.int .u16 (t:Int)) (.int .u16 (e:Int)) (.slice A n c)):=by rw [ag,<-ak];exact Cx.new w1 5 (bq (.int .i64 (d:Int)) (.int .u64 (x:Int)) (.int .u16 (t:Int)) (.int .u16 (e:Int)) (.slice A n c)) _
 clear iC aW;rw [dZ]at af;rw [XX]at ag;rw [dZ,XX];clear dZ XX;have Ew:=KC;obtain⟨dK,hfs,hrow⟩:=Tryz.qa;obtain⟨HS,HW⟩:=aB hfs hrow;clear hfs hrow;obtain⟨i0,cu,bJ,bE,dx⟩:=info_parts xW;obtain⟨oL,qh,oM,tT⟩:=fU cu bJ bE dx;clear cu bJ bE dx;obtain⟨gD,fP,HN,HM,KE,Qf⟩:=qB hS hnc hn (am7 t e ht he) (λV=>abZ d x V hd hx) (λV=>ab0 d x V hd hx);obtain⟨q,dF⟩: ∃q,Hg d x=q:=⟨_,rfl⟩;have Bg:oZ q:=by rw [<-dF];exact NN d x
 rw [show qE (hdF d x)=q from dF]at Qf;obtain⟨PL,jq⟩: ∃PL,Ck t e p=PL:=⟨_,rfl⟩;obtain⟨m4,Ex⟩: ∃m,4+n=m:=⟨_,rfl⟩;have J2:PL.length=m4:=by rw [<-jq,WJ,hS.len];omega
 obtain⟨SD,hSD⟩: ∃SD,Hl f q PL=SD:=⟨_,rfl⟩;obtain⟨m20,ML⟩: ∃m,m4+16=m:=⟨_,rfl⟩;have uA:SD.length=m20:=by rw [<-hSD,acO,J2];exact ML
 have sM:=Hi (λV A6 c6 (h6:Sl V V.heap.size A6 m4 PL) (Qq:m4<=c6)=>ac8 f q (aJ f zF) (wL f q) none 0 0 [] A6 m4 c6 PL V hf Bg rfl rfl Sl.Wn (Nat.le_refl _) (by omega) h6 Qq (by omega));rw [show nC f (aJ f zF) (wL f q) PL (uB f (aJ f zF) (mD PL) (nM (aJ f zF) (wL f q) m4) [])=SD by rw [<-hSD];unfold Hl;rw [J2]]at sM;rw [ML]at sM;obtain⟨HD,wJ,Ye,X6,XY,MM,GD⟩:=zD (show qD d x++SD=jP f d x t e p by rw [<-hSD,<-jq,<-dF];rfl) (show hbL t e++p=PL from jq) J2 uA (show 8+m20=n+28 by omega) Ex (show m4<=900004/\m20<=900020/\0<m20/\0<m4 by omega);obtain⟨H,hH⟩: ∃H,hdF d x=H:=⟨_,rfl⟩;rw [hH]at KE;have NL:=Hi (show(qD d x).map b8=ae 8 H by rw [<-hH];exact KA _ 8 (Ev d x));obtain⟨t1,XZ⟩: ∃u,t/256=u:=⟨_,rfl⟩;obtain⟨t2,Li⟩: ∃u,t%256=u:=⟨_,rfl⟩;obtain⟨e1,Kg⟩: ∃u,e/256=u:=⟨_,rfl⟩;obtain⟨e2,CF⟩: ∃u,e%256=u:=⟨_,rfl⟩;rw [XZ,Li,Kg,CF]at HM;have b1:(t:Int)/256=(t1:Int):=by omega
 have b2:(t:Int)%256=(t2:Int):=by omega
 have b3:(e:Int)/256=(e1:Int):=by omega
 have b4:(e:Int)%256=(e2:Int):=by omega
 have b5:(t1:Int)<256:=by omega
 have b6:(t2:Int)<256:=by omega
 have b7:(e1:Int)<256:=by omega
 have X7:(e2:Int)<256:=by omega
 clear hf hd hx ht he hS hnc hn dF Bg jq Ex J2 hSD ML uA hH XZ Li Kg CF;go_enter Tryz.func48,Tryz.ntmps48;go_upto_region 1 with fail;rw [<-af,<-ag];clear af ag;try simp only [Nat.add_assoc,Nat.reduceAdd]
 obtain⟨gP,bQ⟩:=Le (w.heap.size+1);rw [bQ]at XW;try rw [bQ]
 have Yf:w.heap.size<gP:=by omega
 clear ak aD bQ;have c2:=(XW 2 (by omega)).1;have c3:=(XW 3 (by omega)).1;simp only [bq]at c2 c3;go_upto_region 2 with fail;clear c2 c3 b1 b2 b3 b4 b5 b6 b7 X7;have hO:=World.ownsRow_lit (base:=w2.heap.size) (e:=5) (size:=1) w2 #[.int .u8 (t1:Int),.int .u8 (t2:Int),.int .u8 (e1:Int),.int .u8 (e2:Int)] 4 (Nat.le_refl _) (by simp [maxLen]) rfl;have hq:=Ba w2 (.cells #[.int .u8 (t1:Int),.int .u8 (t2:Int),.int .u8 (e1:Int),.int .u8 (e2:Int)] 5);have hEa:=fZ.t hq;have X0:=XW.t hq;have hBa:=Tq bU hq;have c4:=(X0 4 (by omega)).1;simp only [bq]at c4;have hsl:=(gD.out.below hBa).more hBa.size;have BK:=HN.out;go_upto_region 3 with (first|(at_builtin;refine Vx _ rfl _ _ 45 rfl w2.heap.size 5 i0 (.int .u8 0) Tryz.underlying45 oL.out qh.out oM.out tT.out rfl _ 4 _ rfl hO _ A n c p rfl hsl (by omega) (by simp) ?_;intro v6 x1 Gy O9 _)|fail);have iX:Below w2.heap.size w2 x1:=hq.grown O9 (by simp) (λg hg=>yg hO hg);clear c4 BK;have jY:=(fZ).to (by omega) iX;have Fp:=(XW).to (by omega) iX;have aT:=bU.trans (iX.mono bU.size);obtain⟨A6,c6,rfl⟩:=su Gy;rw [MM.out,show(#[Value.int .u8 (t1:Int),.int .u8 (t2:Int),.int .u8 (e1:Int),.int .u8 (e2:Int)]:Array Value).toList=(hbL t e).map b8 from HM.out.symm,<-List.map_append,wJ.out]at Gy;have Qq:=(Af Gy).1;have X3:=Sl.jk Gy;try rw [MM.out]
 obtain⟨gQ,qi⟩: ∃g,x1.heap.size-1=g:=⟨_,rfl⟩;have mY:Sy x1 gQ A6 (m4) (PL):=by rw [<-qi];exact Sy.new X3 (Nat.zero_lt_of_lt (jY.lt (by omega)))
 clear X3 qi;clear hq iX hO Gy O9 hBa hsl hEa X0 fZ XW bU;have c0:=(Fp 0 (by omega)).1;have c1:=(Fp 1 (by omega)).1;simp only [bq]at c0 c1;go_wp2_with fail;refine(KE.out _).mono ?_;rintro e x2 ⟨rfl,hq⟩;have og:=jY.t hq;have J3:=Fp.t hq;have tV:=mY.to hq;have di:=Tq aT hq;clear hq jY Fp mY aT;clear c0 c1;obtain⟨gh,hgh⟩:=Le (x2.heap.size);have NR:w.heap.size<gh:=by rw [<-hgh];exact og.lt (by omega)
 have X8:gP<gh:=by rw [<-hgh];exact J3.lt (by omega)
 have Ya:gQ<gh:=by rw [<-hgh];exact tV.lt
 have NS:w.heap.size<=gh:=by rw [<-hgh];exact di.size
 have hq:=Ba x2 (.cells (ae 8 λ_=>0).toArray 162);have Q6:=og.t hq;have Qr:=J3.t hq;have Q7:=tV.to hq;have J4:=Ar.new x2 8 (λ_=>0) 162;have Cm:=di.alloc di.size (.cells (ae 8 λ_=>0).toArray 162);rw [hgh]at J4;clear hq og J3 tV di;go_upto_region 4 with (first|(refine bC rfl _ _ _ rfl _ _ _ (H) rfl rfl J4 (qX _) ?_;intro x3 Qs oU J5 J6)|fail);have qg:=(Q6).keep NR oU;have Qt:=(Qr).keep X8 oU;have xX:=(Q7).keep Ya oU;have dJ:=Cm.trans (oU.mono NS);clear Q6 Qr Q7 J4 Cm oU J5 J6 hgh;try dsimp only [Act.put]
 refine wp_region_noPanic ?_;refine wp_region_held_drew (S:=λW=>Ar W w.heap.size 432 (aX (ek f) sb)/\Ar W gh 8 (H)/\Cx W gP 5 (bq (.int .i64 (d:Int)) (.int .u64 (x:Int)) (.int .u16 (t:Int)) (.int .u16 (e:Int)) (.slice A n c))/\Sy W gQ A6 (m4) (PL)/\Below w.heap.size w W) (by kernel_rfl) ⟨qg.drew,Qs.drew,Qt.drew,xX.drew,dJ.drew⟩ (λaa=> ?_);clear qg Qs Qt xX dJ;generalize World.drew x3=qd at*;refine ty 0 rfl ?_ (λW hSw=>by have hsl:=UT gh W;go_simp;try with_reducible rfl);refine tm 1 (λW hSw=>hSw.1.range) HS.out HW.out (nE _) ?_;refine ty 2 rfl ?_;refine ty 3 rfl ?_ (λW hSw=>by have c9:=((hSw.2.2.1) 0 (by omega)).1;simp only [bq]at c9;go_simp;try with_reducible rfl);refine ty 4 rfl ?_;refine ty 5 rfl ?_ (λW hSw=>by have c9:=((hSw.2.2.1) 1 (by omega)).1;simp only [bq]at c9;go_simp;try with_reducible rfl);refine ty 7 rfl ?_;refine rq 6 rfl (Qf.out _) aa ?_;clear aa;intro q7 hq aa;clear hq;try simp only [nr]
 refine rd 8 rfl (λK hK=> ?_);go_simp;refine(sM.out _ A6 c6 (aa.2.2.2.1).sl Qq).mono ?_;rintro e q8 ⟨A7,c7,rfl,zP,hq⟩;have X4:=Sl.jk zP;clear zP;obtain⟨l9,l10,Yg,Yh⟩:=GD.out;go_wp2_with fail;refine ko hK hq aa ?_;clear hK K aa hq;intro aa;try simp only [nr]
 refine rd 9 rfl (λK hK=> ?_);rw [if_pos (by rfl)];obtain⟨Yb,ET,zk⟩:=(X4).src (by omega);subst ET;refine am6 q8 _ _ 45 rfl 5 i0 (.int .u8 0) Tryz.underlying45 oL.out qh.out oM.out tT.out rfl ⟨gh,0,none⟩ 8 8 ((qD d x).map b8) rfl (by rw [List.length_map,Ev]) (λj u hj=>by rw [NL.out]at hj;exact(aa.2.1).src j u hj) Yb m20 _ ((SD).map b8) rfl (by rw [List.length_map];exact X6.out) zk (KT _) (by omega) (by simp only [maxLen];omega) (by omega) ?_;intro v9 q9 XV X5;have hq:Below q8.heap.size q8 q9:=(Below.refl _ _).grown X5 (Nat.le_refl _) (λk e=>by cases e);obtain⟨A9,c9,rfl⟩:=su XV;rw [XY.out]at XV;try rw [XY.out]
 have PU:=(Af XV).1;have Yc:=(Af XV).2;rw [<-List.map_append]at XV;have Yd:dC w q9 A9 (n+28) (qD d x++SD):=dC.jk XV (aa.2.2.2.2).size;refine ko hK hq aa ?_;clear hK K aa hq zk XV X5 X4;intro aa;try simp only [nr]
 refine ty 10 rfl ?_;refine wpAnyH_done (by kernel_rfl) ?_ _;have bD:=aa.2.2.2.2;clear aa;refine NoPanic.normal ?_;go_wp2_with fail;go_ret;exact⟨A9,c9,rfl,HD.out▸Yd,PU,Yc,bD⟩
end
end Go.Proofs.YtdaiacmneopkgaaGreatDoor
