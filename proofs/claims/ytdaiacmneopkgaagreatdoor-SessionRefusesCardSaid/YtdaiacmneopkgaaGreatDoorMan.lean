/-
 Sessions of package session in memory; contracts of its checks and of New, by walks through their texts; what was there stays as it was.
-/
import Derived.Test.YtdaiacmneopkgaaGreatDoorMaj
import Derived.Test.YtdaiacmneopkgaaGreatDoorMdc
import Derived.Test.YtdaiacmneopkgaaGreatDoorSnc
namespace Go.Proofs.YtdaiacmneopkgaaGreatDoor
set_option linter.unusedSimpArgs false
set_option linter.unusedVariables false
set_option maxRecDepth 100000
set_option maxHeartbeats 4000000
section
open Go.RowKit
structure bL where
 p:Nat
 m:Nat
 t:Nat
 c:Nat
 n:Nat
 f:Nat
 k:Nat
 q:Nat
 kf:Nat->Nat
 dr:Nat
 ad:ByteArray
 mv:Nat
 mn:Nat
 mc:ByteArray->Nat
 x:Nat
 gv:Nat
 ac:Nat
 rf:Nat
 la:Nat
 an:Bool
 es:Nat
 et:Nat
 ea:Bool
 sl:Nat
 sn:Nat
 se:Nat
 cl:Bool
def fT (s:bL):Nat->Value
 |0=> .pointer (some ⟨s.p,0,none⟩)|1=> .pointer (some ⟨s.t,0,none⟩)|2=> .int .i64 (s.dr:Int)|3=> .pointer (some ⟨s.n,0,none⟩)|4=> .pointer (some ⟨s.f,0,none⟩)|5=> .pointer (some ⟨s.k,0,none⟩)
 |6=> .int .u16 (s.sl:Int)|7=> .int .i64 (s.sn:Int)|8=> .int .u32 (s.se:Int)|_=> .bool s.cl
structure Pos (lo g hi:Nat) (s:bL):Prop where
 a:lo<=s.p/\lo<=s.m/\s.p<s.c/\s.m<s.c/\s.c<s.t/\s.t<s.n/\s.n<s.f/\s.f<s.k/\s.k<g/\g<hi
 b:s.dr=1->s.m≠s.p
 c:s.ea=true->hi<=s.q
structure Sn (w:World) (lo g hi:Nat) (s:bL):Prop where
 cx:Cx w g 10 (fT s)
 pe:Pe w s.p s.m s.ad s.mv s.mn s.mc (decide (s.dr=1))
 ct:Ct w s.n s.x s.gv false
 fi:Fi w s.f s.ac s.rf s.la s.an
 ek:Ek w s.k s.q s.es s.et s.ea
 ti:Ti w s.t (some ⟨s.c,0,none⟩) (aJ s.kf zF)
 ci:Ci w s.c s.kf
 kb:aj s.kf
 dl:s.dr<2
 st:s.se<=524287/\s.sl<65536
 ps:Pos lo g hi s
 up:hi<=w.heap.size
def Iv (lo hi:Nat):Nat->Prop:=λk=>lo<=k/\k<hi
section
variable {S:Nat->Prop} {w w' W:World} {lo g hi:Nat} {s q:bL}
theorem Iv.no {k:Nat} (h: ¬(lo<=k/\k<hi)): ¬Iv lo hi k:=h
theorem But.aG (h:But S w W):bT S w W:=⟨h.os,h.tape,h.output,h.size,h.block⟩
theorem bT.more {T:Nat->Prop} (h:bT S w W) (hT: ∀k,S k->T k):bT T w W:=⟨h.os,h.tape,h.output,h.size,λk hk hs=>h.block k hk (λe=>hs (hT k e))⟩
theorem bT.iv {lo hi B:Nat} (h:bT (Iv lo hi) w W) (hB:B<=w.heap.size) (hl:B<=lo):Below B w W:=h.below hB (λk e=>Nat.le_trans hl e.1)
theorem bT.out {w0:World} {lo hi:Nat} (h:bT S w W) (hB:Below w0.heap.size w0 w) (hS: ∀k,k<w0.heap.size->S k->Iv lo hi k):bT (Iv lo hi) w0 W:=
 ⟨h.os.trans hB.os,h.tape.trans hB.tape,h.output.trans hB.output,Nat.le_trans hB.size h.size,λk hk hs=>(h.block k (Nat.lt_of_lt_of_le hk hB.size) (λe=>hs (hS k hk e))).trans (hB.block k hk)⟩
theorem Cx.same {c d:Nat->Value} {n:Nat} (h:Cx w g n c) (e:d=c):Cx w g n d:=e▸h
theorem Ti.aG {p:Option Addr} {f:Nat->Nat} (h:Ti w g p f) (hb:bT S w W) (hs: ¬S g):Ti W g p f:=Cx.aG h hb hs
theorem Ti.but {p:Option Addr} {f:Nat->Nat} (h:Ti w g p f) (hb:But S w W) (hs: ¬S g):Ti W g p f:=Cx.but h hb hs
theorem Ci.aG {f:Nat->Nat} (h:Ci w g f) (hb:bT S w W) (hs: ¬S g):Ci W g f:=Cx.aG h hb hs
theorem Ci.but {f:Nat->Nat} (h:Ci w g f) (hb:But S w W) (hs: ¬S g):Ci W g f:=Cx.but h hb hs
theorem Sn.aG (h:Sn w lo g hi s) (hb:bT S w W) (hs: ∀k,lo<=k->k<hi-> ¬S k) (hq:s.ea=true-> ¬S s.q):Sn W lo g hi s:=by
 obtain⟨a0,a1,a2,a3,a4,a5,a6,a7,a8,a9⟩:=h.ps.a;exact⟨h.cx.aG hb (hs _ (by omega) (by omega)),h.pe.but hb (hs _ (by omega) (by omega)) (λ_=>hs _ (by omega) (by omega)),⟨h.ct.cx.aG hb (hs _ (by omega) (by omega)),h.ct.top,h.ct.few⟩,
  ⟨h.fi.cx.aG hb (hs _ (by omega) (by omega)),h.fi.top,h.fi.zero⟩,⟨h.ek.cx.aG hb (hs _ (by omega) (by omega)),λe=>(h.ek.tk e).aG hb (hq e),h.ek.top⟩,
  Cx.aG h.ti hb (hs _ (by omega) (by omega)),Cx.aG h.ci hb (hs _ (by omega) (by omega)),h.kb,h.dl,h.st,h.ps,Nat.le_trans h.up hb.size⟩
theorem Sn.but (h:Sn w lo g hi s) (hb:But S w W) (hs: ∀k,lo<=k->k<hi-> ¬S k) (hq:s.ea=true-> ¬S s.q):Sn W lo g hi s:=h.aG hb.aG hs hq
theorem Sn.to (h:Sn w lo g hi s) (hb:Below w.heap.size w W):Sn W lo g hi s:=by
 obtain⟨a0,a1,a2,a3,a4,a5,a6,a7,a8,a9⟩:=h.ps.a;exact⟨h.cx.to (by omega) hb,h.pe.to hb,h.ct.to hb,h.fi.to hb,h.ek.to hb,h.ti.to hb,h.ci.to hb,h.kb,h.dl,h.st,h.ps,Nat.le_trans h.up hb.size⟩
theorem Sn.drew (h:Sn w lo g hi s):Sn w.drew lo g hi s:=h.to (Below.refl _ _).drew
theorem Sn.on {k:Nat} (h:Sn w lo g hi s) (hb:But (On k) w W) (hk: ¬(lo<=k/\k<hi)) (hq:s.ea=true->s.q≠k):Sn W lo g hi s:=
 h.but hb (λi h1 h2 e=>hk (e▸⟨h1,h2⟩)) (λe=>On.ne (hq e))
theorem Sn.yw (h:Sn w lo g hi s):s.ea=true->s.q<w.heap.size:=λe=>by
 have h2:=h.ek;rw [e]at h2;exact h2.yw
theorem Sn.tab (h:Sn w lo g hi s):Bf w (some ⟨s.t,0,none⟩) s.kf:=agd s.t s.c s.kf _ w rfl h.ti h.ci
theorem Sn.c (h:Sn w lo g hi s) (j:Nat) (hj:j<10:=by omega):w.cell? ⟨g,j,none⟩=some (fT s j):=(h.cx j hj).1
theorem Sn.z (h:Sn w lo g hi s) (j:Nat) (hj:j<10:=by omega):w.frozen? ⟨g,j,none⟩=false:=(h.cx j hj).2
theorem eX.aG (h:eX w) (hb:bT S w W) (hs: ¬S 0):eX W:=λj v hv=>(World.cell?_of_block (w:=w) (a:=⟨0,0+j,none⟩) (hb.block _ h.lt hs)).trans (h j v hv)
theorem Sn.atn {x gv:Nat} (h:Sn w lo g hi s) (hn:Ct W s.n x gv false) (hb:But (On s.n) w W):Sn W lo g hi { s with x:=x,gv:=gv } :=by
 obtain⟨a0,a1,a2,a3,a4,a5,a6,a7,a8,a9⟩:=h.ps.a;have hu:=h.up;have XV:=hb.size;have hc:=h.ps.c;have hti:=h.ti.but hb (On.ne (k:=s.t) (by omega));have hci:=h.ci.but hb (On.ne (k:=s.c) (by omega));exact⟨h.cx.but hb (On.ne (by omega)),h.pe.but hb.aG (On.ne (by omega)) (λ_=>On.ne (by omega)),hn,h.fi.but hb (On.ne (by omega)),h.ek.but hb (On.ne (by omega)) (λe=>On.ne (by have:=hc e;omega)),
  hti,hci,h.kb,h.dl,h.st,⟨h.ps.a,h.ps.b,h.ps.c⟩,by omega⟩
theorem Sn.atf {ac rf la:Nat} {an:Bool} (h:Sn w lo g hi s) (hn:Fi W s.f ac rf la an) (hb:But (On s.f) w W):Sn W lo g hi { s with ac:=ac,rf:=rf,la:=la,an:=an } :=by
 obtain⟨a0,a1,a2,a3,a4,a5,a6,a7,a8,a9⟩:=h.ps.a;have hu:=h.up;have XV:=hb.size;have hc:=h.ps.c;have hti:=h.ti.but hb (On.ne (k:=s.t) (by omega));have hci:=h.ci.but hb (On.ne (k:=s.c) (by omega));exact⟨h.cx.but hb (On.ne (by omega)),h.pe.but hb.aG (On.ne (by omega)) (λ_=>On.ne (by omega)),h.ct.but hb (On.ne (by omega)),hn,h.ek.but hb (On.ne (by omega)) (λe=>On.ne (by have:=hc e;omega)),
  hti,hci,h.kb,h.dl,h.st,⟨h.ps.a,h.ps.b,h.ps.c⟩,by omega⟩
theorem Sn.atk {q es et:Nat} {ea:Bool} (h:Sn w lo g hi s) (hn:Ek W s.k q es et ea) (hb:But (On s.k) w W) (hq:ea=true->hi<=q):Sn W lo g hi { s with q:=q,es:=es,et:=et,ea:=ea } :=by
 obtain⟨a0,a1,a2,a3,a4,a5,a6,a7,a8,a9⟩:=h.ps.a;have hu:=h.up;have XV:=hb.size;have hti:=h.ti.but hb (On.ne (k:=s.t) (by omega));have hci:=h.ci.but hb (On.ne (k:=s.c) (by omega));exact⟨h.cx.but hb (On.ne (by omega)),h.pe.but hb.aG (On.ne (by omega)) (λ_=>On.ne (by omega)),h.ct.but hb (On.ne (by omega)),h.fi.but hb (On.ne (by omega)),hn,
  hti,hci,h.kb,h.dl,h.st,⟨h.ps.a,h.ps.b,hq⟩,by omega⟩
theorem Sn.atp {ad:ByteArray} {mv mn:Nat} {mc:ByteArray->Nat} (h:Sn w lo g hi s) (hn:Pe W s.p s.m ad mv mn mc (decide (s.dr=1))) (hb:bT (Tw s.p s.m) w W):Sn W lo g hi { s with ad:=ad,mv:=mv,mn:=mn,mc:=mc } :=by
 obtain⟨a0,a1,a2,a3,a4,a5,a6,a7,a8,a9⟩:=h.ps.a;have hu:=h.up;have XV:=hb.size;have hc:=h.ps.c;have hti:=h.ti.aG hb (Tw.ne (k:=s.t) (by omega) (by omega));have hci:=h.ci.aG hb (Tw.ne (k:=s.c) (by omega) (by omega));exact⟨h.cx.aG hb (Tw.ne (by omega) (by omega)),hn,⟨h.ct.cx.aG hb (Tw.ne (by omega) (by omega)),h.ct.top,h.ct.few⟩,⟨h.fi.cx.aG hb (Tw.ne (by omega) (by omega)),h.fi.top,h.fi.zero⟩,
  ⟨h.ek.cx.aG hb (Tw.ne (by omega) (by omega)),λe=>(h.ek.tk e).aG hb (Tw.ne (by have:=hc e;omega) (by have:=hc e;omega)),h.ek.top⟩,
  hti,hci,h.kb,h.dl,h.st,⟨h.ps.a,h.ps.b,h.ps.c⟩,by omega⟩
theorem Sn.atg {sl sn se:Nat} {cl:Bool} (h:Sn w lo g hi s) (hn:Cx W g 10 (fT { s with sl:=sl,sn:=sn,se:=se,cl:=cl })) (hb:But (On g) w W) (hs:se<=524287/\sl<65536):Sn W lo g hi { s with sl:=sl,sn:=sn,se:=se,cl:=cl } :=by
 obtain⟨a0,a1,a2,a3,a4,a5,a6,a7,a8,a9⟩:=h.ps.a;have hu:=h.up;have XV:=hb.size;have hc:=h.ps.c;have hti:=h.ti.but hb (On.ne (k:=s.t) (by omega));have hci:=h.ci.but hb (On.ne (k:=s.c) (by omega));exact⟨hn,h.pe.but hb.aG (On.ne (by omega)) (λ_=>On.ne (by omega)),h.ct.but hb (On.ne (by omega)),h.fi.but hb (On.ne (by omega)),h.ek.but hb (On.ne (by omega)) (λe=>On.ne (by have:=hc e;omega)),
  hti,hci,h.kb,h.dl,hs,⟨h.ps.a,h.ps.b,h.ps.c⟩,by omega⟩
end
theorem rQ {P:Nat->Prop} (h0:P 0) (h1:P 1) (h2:P 2) (h3:P 3) (h4:P 4) (h5:P 5) (h6:P 6) (h7:P 7) (h8:P 8) (h9:P 9): ∀j,j<10->P j:=λj hj=>by
 match j,hj with
 |0,_=>exact h0
 |1,_=>exact h1
 |2,_=>exact h2
 |3,_=>exact h3
 |4,_=>exact h4
 |5,_=>exact h5
 |6,_=>exact h6
 |7,_=>exact h7
 |8,_=>exact h8
 |9,_=>exact h9
theorem ahC (g x:Nat) (s:bL) (w:World) (h:Cx w g 10 (fT s)) (hE:s.se<=524287) (hn:s.sn<4611686018427387904) (hx:x<65536):
  Calls Tryz.prog 100 #[.pointer (some ⟨g,6,none⟩),.int .u16 (x:Int)] w λe w'=>e= .returned (.tuple #[])/\Cx w' g 10 (fT { s with sl:=x,sn:=s.sn+1,se:=vK s.sn s.se x })/\But (On g) w w':=by
 have c6:w.cell? ⟨g,6,none⟩=some (.int .u16 (s.sl:Int)):=(h 6 (by omega)).1;have c7:w.cell? ⟨g,7,none⟩=some (.int .i64 (s.sn:Int)):=(h 7 (by omega)).1;have c8:w.cell? ⟨g,8,none⟩=some (.int .u32 (s.se:Int)):=(h 8 (by omega)).1;have z6:w.frozen? ⟨g,6,none⟩=false:=(h 6 (by omega)).2;have z7:w.frozen? ⟨g,7,none⟩=false:=(h 7 (by omega)).2;have z8:w.frozen? ⟨g,8,none⟩=false:=(h 8 (by omega)).2;obtain⟨HC,a1⟩:=aB h (show wrap64 ((s.sn:Int)+1)=((s.sn+1:Nat):Int)by rw [IntWalk.wrap64_in _ (by omega)];omega);by_cases h0:s.sn=0
 ·have HZ:=Hi h0;rw [h0]at c7;obtain⟨a2,HX⟩:=aB (show IntKind.u32.wrap (8*(x:Int))=((8*x:Nat):Int)by rw [IntKind.wrap_u32];omega) hx;obtain⟨E,iP⟩: ∃E,s.se=E:=⟨_,rfl⟩;rw [iP]at c8;have fq:=Hi iP;clear h hn hx h0 hE iP;go_enter Tryz.func100,Tryz.ntmps100;go_wp2_with fail;try rw [a2.out]
  go_end0;refine⟨rfl,(((HC.out.set _ (by omega)).set _ (by omega)).set _ (by omega)).ext ?_,(((But.refl _ _).put 8 _).put 6 _).put 7 _⟩;refine rQ rfl rfl rfl rfl rfl rfl rfl ?_ ?_ rfl
  ·show Value.int .i64 _= .int .i64 ((s.sn+1:Nat):Int)
   rw [HZ.out];rfl
  ·show Value.int .u32 _= .int .u32 ((vK s.sn s.se x:Nat):Int)
   rw [HZ.out,show vK 0 s.se x=8*x from rfl];have:=HX.out;first
    |rfl
    |(congr 1;omega)
 ·have i1:((s.sn:Int)==0)=false:=by simp [h0]
  obtain⟨A,D,G,Q,b1,b2,b3,b4,b5,b6⟩:=akb s.se x hE hx;have HQ:=Hi (show vK s.sn s.se x=Q from(if_neg h0).trans b6);clear h hn hx h0 hE b6;go_enter Tryz.func100,Tryz.ntmps100;go_wp2_with fail;go_region;all_goals (go_wp2_with fail;go_end0;refine⟨rfl,((((HC.out.set _ (by omega)).drew).set _ (by omega)).set _ (by omega)).ext ?_,((((But.refl _ _).put 8 _).drew).put 6 _).put 7 _⟩;refine rQ rfl rfl rfl rfl rfl rfl rfl ?_ ?_ rfl)
  all_goals first|(show Value.int .i64 (wrap64 ((s.sn:Int)+1))= .int .i64 ((s.sn+1:Nat):Int);rw [a1.out])|(show Value.int .u32 (((G:Int)+(x:Int))%4294967296)= .int .u32 ((vK s.sn s.se x:Nat):Int);rw [HQ.out];rw [IntKind.wrap_u32]at b4;rw [b4])
theorem Ud (g:Nat) (s:bL) (w:World) (h:Cx w g 10 (fT s)):
  Calls Tryz.prog 68 #[.pointer (some ⟨g,6,none⟩)] w λe w'=>e= .returned (.tuple #[.int .u16 (s.sl:Int),.bool (decide (0<s.sn))])/\Below w.heap.size w w':=by
 have c6:w.cell? ⟨g,6,none⟩=some (.int .u16 (s.sl:Int)):=(h 6 (by omega)).1;have c7:w.cell? ⟨g,7,none⟩=some (.int .i64 (s.sn:Int)):=(h 7 (by omega)).1;have c8:w.cell? ⟨g,8,none⟩=some (.int .u32 (s.se:Int)):=(h 8 (by omega)).1;clear h;go_enter Tryz.func68,Tryz.ntmps68;go_wp2_with fail;go_region;all_goals (go_wp2_with fail;go_ret2;exact⟨rfl,(Below.refl _ _).drew⟩)
theorem Uc (g:Nat) (s:bL) (w:World) (h:Cx w g 10 (fT s)):
  Calls Tryz.prog 65 #[.pointer (some ⟨g,6,none⟩)] w λe w'=>e= .returned (.int .i64 (s.sn:Int))/\w'=w:=by
 have c6:w.cell? ⟨g,6,none⟩=some (.int .u16 (s.sl:Int)):=(h 6 (by omega)).1;have c7:w.cell? ⟨g,7,none⟩=some (.int .i64 (s.sn:Int)):=(h 7 (by omega)).1;have c8:w.cell? ⟨g,8,none⟩=some (.int .u32 (s.se:Int)):=(h 8 (by omega)).1;clear h;go_enter Tryz.func65,Tryz.ntmps65;go_wp2_with fail;go_ret;exact⟨rfl,rfl⟩
theorem alg (g:Nat) (s:bL) (w:World) (h:Cx w g 10 (fT s)):
  Calls Tryz.prog 69 #[.pointer (some ⟨g,6,none⟩)] w λe w'=>e= .returned (.int .u32 (s.se:Int))/\w'=w:=by
 have c6:w.cell? ⟨g,6,none⟩=some (.int .u16 (s.sl:Int)):=(h 6 (by omega)).1;have c7:w.cell? ⟨g,7,none⟩=some (.int .i64 (s.sn:Int)):=(h 7 (by omega)).1;have c8:w.cell? ⟨g,8,none⟩=some (.int .u32 (s.se:Int)):=(h 8 (by omega)).1;clear h;go_enter Tryz.func69,Tryz.ntmps69;go_wp2_with fail;go_ret;exact⟨rfl,rfl⟩
end
section
open Go.RowKit
def kF (z:Bool) (c:Nat):Nat:=if z then c else 0
theorem WM (b N:Nat) (fn:Nat->Nat) (bd cp:Nat->Array Value) (K:Nat->World->Prop) (Z:Value->World->Prop) (w:World) (h0:K 0 w) (hN:N<1000) (hs: ∀j,j<N-> ∀W,K j W->W.cell? ⟨b,j,none⟩=some (.func (.func (fn j)) (bd j) (cp j))) (hf: ∀j,j<N-> ∀V,(callFunc (fn j) (bd j++cp j)).run Tryz.prog V= .ok (.enter (fn j) (bd j++cp j)) V) (hc: ∀j,j<N-> ∀V,K j V->Calls Tryz.prog (fn j) (bd j++cp j) V λe V'=>(e= .returned .nilIface/\K (j+1) V')\/ ∃t v,e= .returned (.iface t v)/\Z (.iface t v) V'):
  Calls Tryz.prog 33 #[.slice (some ⟨b,0,none⟩) N N] w λe w'=>(e= .returned .nilIface/\K N w')\/ ∃t v,e= .returned (.iface t v)/\Z (.iface t v) w':=by
 obtain⟨HS,HF,HC,H0⟩:=fU hs hf hc h0;clear hs hf hc h0;go_enter Tryz.func33,Tryz.ntmps33;go_wp2_with fail;go_loopw [8] (λi wr=> ∃r:Nat,r<=N/\i= .int .i64 (r:Int)/\Hid (K r wr)) (λi _=>N-(intOf i).toNat);case atStart=>exact⟨0,Nat.zero_le _,rfl,H0⟩
 case round=>
  obtain⟨r,hr,rfl,HK⟩:=hrel;by_cases hlt:r<N
  ·have i1:(r:Int)<(N:Int):=(by omega);have hcell:=HS.out r hlt wr HK.out;have hcall:=HF.out r hlt;have XV:=Hi (HC.out r hlt);obtain⟨f,zx⟩: ∃f,fn r=f:=⟨_,rfl⟩;obtain⟨B,bD⟩: ∃B,bd r=B:=⟨_,rfl⟩;obtain⟨D,nZ⟩: ∃D,cp r=D:=⟨_,rfl⟩;rw [zx,bD,nZ]at hcell hcall XV;clear zx bD nZ;go_wp2_with fail;refine(XV.out _ HK.out).mono ?_;rintro e w6 (⟨rfl,hk⟩|⟨t,v,rfl,hz⟩)
   ·have xk:=Hi hk;clear hk;go_wp2_with fail;go_roundw;case rel=>exact⟨r+1,by omega,by go_num,xk⟩
    case measure=>simp [intOf];omega
   ·have he:=DZ t v w6;have HZ:=Hi hz;clear hz;go_wp2_with fail;go_ret;exact .inr ⟨t,v,rfl,HZ.out⟩
  ·have i1: ¬(r:Int)<(N:Int):=(by omega);obtain rfl:r=N:=by omega
   go_wp2_with fail;go_ret;exact .inl ⟨rfl,HK.out⟩
theorem H6 (z:Bool) (c:Nat) (hc:0<c) (w:World):
  Calls Tryz.prog 36 #[.bool z,.int .i64 (c:Int)] w λe w'=>e= .returned (ll (kF z c))/\w'=w:=by
 cases z with
 |false=>
  rw [show kF false c=0 from rfl,zQ rfl];clear hc;go_enter Tryz.func36,Tryz.ntmps36;go_wp2_with fail;go_ret;exact⟨rfl,rfl⟩
 |true=>
  rw [show kF true c=c from rfl,pU (by omega)];clear hc;go_enter Tryz.func36,Tryz.ntmps36;go_wp2_with fail;go_ret;exact⟨rfl,rfl⟩
theorem Tu (g lo hi:Nat) (s:bL) (w:World) (h:Sn w lo g hi s):
  Calls Tryz.prog 34 #[.pointer (some ⟨g,0,none⟩)] w λe w'=>e= .returned (ll (kF s.cl 7))/\w'=w:=by
 have c9:=h.c 9;simp only [fT]at c9;obtain⟨z,hz⟩: ∃z,s.cl=z:=⟨_,rfl⟩;rw [hz]at c9⊢;clear h hz;go_enter Tryz.func34,Tryz.ntmps34;go_wp2_with fail;refine(H6 z 7 (by omega) _).mono ?_;rintro e w1 ⟨rfl,rfl⟩;go_wp2_with fail;go_ret;exact⟨rfl,rfl⟩
theorem adn (w:World):
  Calls Tryz.prog 34 #[.pointer none] w λe w'=>e= .returned (ll 7)/\w'=w:=by
 go_enter Tryz.func34,Tryz.ntmps34;go_wp2_with fail;refine(H6 true 7 (by omega) _).mono ?_;rintro e w1 ⟨rfl,rfl⟩;rw [show kF true 7=7 from rfl];go_wp2_with fail;go_ret;exact⟨rfl,rfl⟩
theorem ale (g lo hi:Nat) (s:bL) (w:World) (h:Sn w lo g hi s):
  Calls Tryz.prog 38 #[.pointer (some ⟨g,0,none⟩)] w λe w'=>e= .returned (.bool (kg s.ad))/\Below w.heap.size w w':=by
 have c0:=h.c 0;simp only [fT]at c0;have HP:=Hi h.pe;obtain⟨z,hz⟩: ∃z,kg s.ad=z:=⟨_,rfl⟩;have HZ:=Hi hz;rw [hz];clear h hz;go_enter Tryz.func38,Tryz.ntmps38;go_wp2_with fail;refine(MB _ _ _ _ _ _ _ _ HP.out).mono ?_;rintro e w1 ⟨rfl,hq⟩;rw [HZ.out];go_wp2_with fail;go_ret;exact⟨by simp,hq⟩
end
section
open Go.RowKit
def yt (p m t c n f k:Nat) (kf:Nat->Nat) (d x:Nat) (a:ByteArray):bL:=⟨p,m,t,c,n,f,k,0,kf,d,lN a,0,0,λ_=>0,min x 9223372036854775807,0,0,0,0,false,0,0,false,0,0,0,false⟩
theorem Pe.fixed {w:World} {g m k n:Nat} {A:ByteArray} {c:ByteArray->Nat} (h:Pe w g m A k n c false) (m':Nat):Pe w g m' A k n c false:=⟨h.cx,λe=>(by cases e),h.few,h.len⟩
theorem aku (d:Nat) (s:ByteArray) (w:World) (hd:d<2):
  Calls Tryz.prog 24 #[.int .i64 (d:Int),.string s] w λe w'=> ∃p m,e= .returned (.tuple #[.pointer (some ⟨p,0,none⟩),.nilIface])/\w.heap.size<=p/\w.heap.size<=m/\m<w'.heap.size/\(d=1->m≠p)/\Pe w' p m (lN s) 0 0 (λ_=>0) (decide (d=1))/\Below w.heap.size w w':=by
 have MK:d=0\/d=1:=by omega
 rcases MK with rfl|rfl
 ·go_enter Tryz.func24,Tryz.ntmps24;go_wp2_with fail;refine(ai1 s _).mono ?_;rintro e w1 ⟨g,rfl,hg,hP,hq⟩;go_wp2_with fail;go_ret2;exact⟨g,g,rfl,hg,hg,hP.lt,λe=>by omega,hP.fixed g,hq⟩
 ·go_enter Tryz.func24,Tryz.ntmps24;go_wp2_with fail;refine(ai0 s _).mono ?_;rintro e w1 ⟨g,m,rfl,hg,hm,hP,hq⟩;go_wp2_with fail;go_ret2;exact⟨g,m,rfl,hg,hm,hP.VV,λ_=>hP.ne,hP,hq⟩
theorem akv (d:Int) (s:ByteArray) (w:World) (h0:d≠0) (h1:d≠1):
  Calls Tryz.prog 24 #[.int .i64 d,.string s] w λe w'=>e= .returned (.tuple #[.pointer none,ll 8])/\w'=w:=by
 have i0:(d==0)=false:=by simp;omega
 have i1:(d==1)=false:=by simp;omega
 clear h0 h1;go_enter Tryz.func24,Tryz.ntmps24;go_wp2_with fail;go_ret2;exact⟨rfl,rfl⟩
theorem ach (f:Nat->Nat) (d:Int) (a:ByteArray) (x:Nat) (w:World) (h0:d≠0) (h1:d≠1):
  Calls Tryz.prog 10 #[.agg (ae 16 f).toArray,.int .i64 d,.string a,.int .u64 (x:Int)] w λe w'=>e= .returned (.tuple #[.pointer none,ll 8])/\Below w.heap.size w w':=by
 obtain⟨kA,aR⟩:=Le ((ae 16 f).toArray);obtain⟨w1,af,-,au,aN⟩:=nA w 16 f 22;rw [aR]at af;rw [aR];clear aR;obtain⟨H0,H1⟩:=aB h0 h1;have hN:=DZ 61 (.int .i64 ((8:Nat):Int)) w1;clear h0 h1 aN;go_enter Tryz.func10,Tryz.ntmps10;go_upto_region 1 with fail;rw [<-af];clear af;go_wp2_with fail;refine(akv d a _ H0.out H1.out).mono ?_;rintro e w2 ⟨rfl,ag⟩;rw [ag];clear ag w2;rw [pU (by decide)];go_wp2_with fail;go_ret2;exact⟨rfl,au⟩
theorem Jn (f:Nat->Nat) (d:Nat) (a:ByteArray) (x:Nat) (w:World) (hf:aj f) (hd:d<2) (hx:x<18446744073709551616) (hX:eX w):
  Calls Tryz.prog 10 #[.agg (ae 16 f).toArray,.int .i64 (d:Int),.string a,.int .u64 (x:Int)] w λe w'=> ∃g p m t c n fb k,e= .returned (.tuple #[.pointer (some ⟨g,0,none⟩),.nilIface])/\Sn w' w.heap.size g w'.heap.size (yt p m t c n fb k f d x a)/\Below w.heap.size w w':=by
 obtain⟨kA,aR⟩:=Le ((ae 16 f).toArray);obtain⟨w1,af,-,au,aN⟩:=nA w 16 f 22;rw [aR]at af;rw [aR];clear aR;obtain⟨HF,HD,HX,HB⟩:=fU hf hd hx hX;clear hf hd hx hX;go_enter Tryz.func10,Tryz.ntmps10;go_upto_region 1 with fail;rw [<-af];clear af;go_wp2_with fail;refine(aku d a _ HD.out).mono ?_;rintro e w2 ⟨p,m,rfl,hlp,hlm,X0,hne,nU,hq⟩;have bE:=au.size;have X3:=Hi (show w.heap.size<=p/\w.heap.size<=m by omega);have X4:=nU.lt;have Jr:=Hi hne;have aI:=aN.to (by have:=aN.lt (by omega);omega) hq;have aF:=Tq au hq;clear hlp hlm bE hne au aN hq;go_wp2_with (refine bB rfl _ _ rfl _ _ _ rfl aI Tryz.aM (ay _) ?_);refine(akw f _ HF.out (HB.out.keep aF)).mono ?_;rintro e w3 ⟨gC,rfl,ve,lV,hq⟩;have zw:=nU.to hq;have aS:=Tq aF hq;have HC:=Hi (show p<gC/\m<gC by omega);have X5:=lV.lt;clear aI X4 X0 ve nU aF hq;go_wp2_with fail;refine(agz (some ⟨gC,0,none⟩) f _ HF.out (abQ gC f _ lV) (HB.out.keep aS)).mono ?_;rintro e w4 ⟨gT,rfl,Gt,jv,hq⟩;have yH:=zw.to hq;have xu:=lV.to hq;have fD:=Tq aS hq;have HT:=Hi (show gC<gT by omega);have X6:=jv.lt;clear X5 Gt zw lV aS hq;go_wp2_with fail;refine(aiW x _ HX.out).mono ?_;rintro e w5 ⟨gN,rfl,VY,LV,hq⟩;have Au:=yH.to hq;have AV:=xu.to hq;have kR:=jv.to hq;have dY:=Tq fD hq;have HN:=Hi (show gT<gN by omega);have X7:=LV.lt;clear X6 VY yH xu jv fD hq;go_wp2_with fail;refine(afc _).mono ?_;rintro e w6 ⟨gF,rfl,X8,XV,hq⟩;have QD:=Au.to hq
 have zA:=AV.to hq;have nk:=kR.to hq;have Eu:=LV.to hq;have fK:=Tq dY hq;have jS:=Hi (show gN<gF by omega);have Ya:=XV.lt;clear X7 X8 Au AV kR LV dY hq;go_wp2_with fail;refine(aj8 _).mono ?_;rintro e w7 ⟨gK,rfl,CE,jE,hq⟩;have XW:=QD.to hq;have FT:=zA.to hq;have nu:=nk.to hq;have XX:=Eu.to hq;have XY:=XV.to hq;have oJ:=Tq fK hq;have HK:=Hi (show gF<gK by omega);have XZ:=jE.lt;clear Ya CE QD zA nk Eu XV fK hq;obtain⟨s,hs⟩: ∃s,yt p m gT gC gN gF gK f d x a=s:=⟨_,rfl⟩;obtain⟨w8,xC⟩:=Lv (w7.alloc (.cells (av 10 (fT s)).toArray 91));have hq:=Bl xC;have yV:Cx w8 w7.heap.size 10 (fT s):=by rw [xC];exact Cx.new w7 10 (fT s) _
 have Ew:=lh xC;have HS:Hid (Sn w8 w.heap.size w7.heap.size w8.heap.size s):=Hi (by
  rw [<-hs];rw [<-hs]at yV;have q1:=X3.out;have q2:=HC.out;have q3:=HT.out;have q4:=HN.out;have q5:=jS.out;have q6:=HK.out;exact⟨yV,XW.to hq,XX.to hq,XY.to hq,jE.to hq,nu.to hq,FT.to hq,HF.out,HD.out,⟨(by show(0:Nat)<=524287;omega),(by show(0:Nat)<65536;omega)⟩,⟨⟨q1.1,q1.2,q2.1,q2.2,q3,q4,q5,q6,XZ,(by omega)⟩,Jr.out,λe=>(by cases e)⟩,Nat.le_refl _⟩)
 have qZ:=Tq oJ hq;rw [<-hs]at xC;have cz:w8=w7.alloc (.cells #[.pointer (some ⟨p,0,none⟩),.pointer (some ⟨gT,0,none⟩),.int .i64 (d:Int),.pointer (some ⟨gN,0,none⟩),.pointer (some ⟨gF,0,none⟩),.pointer (some ⟨gK,0,none⟩),.int .u16 0,.int .i64 0,.int .u32 0,.bool false] 91):=xC;have gD:=Hi hs;clear xC XW FT nu XX XY oJ jE yV Ew hq hs XZ;go_wp2_with fail;rw [<-cz];clear cz;go_ret2;exact⟨_,p,m,gT,gC,gN,gF,gK,rfl,gD.out▸HS.out,qZ⟩
end
section
open Go.RowKit
def M8 (s:bL):bL:= { s with x:=Ao s.x false s.x,gv:=Ao s.x false s.gv }
theorem But.two {w W W2:World} {a b:Nat} (h:But (On a) w W) (k:But (On b) W W2):But (Tw a b) w W2:=(h.more (λ_ e=> .inl e)).trans (k.more (λ_ e=> .inr e))
theorem amW {s:bL} (h:fG s.x false≠0):M8 s=s:=by unfold M8;rw [show Ao s.x false s.x=s.x from if_neg h,show Ao s.x false s.gv=s.gv from if_neg h]
theorem amX (b n c:Nat) (A:Option Addr) (w:World) (h:Cx w b 1 (λ_=> .slice A n c)):
  Calls Tryz.prog 35 #[.pointer (some ⟨b,0,none⟩)] w λe w'=>e= .returned (ll (kF (decide (1200<n)) 2))/\w'=w:=by
 have h0:=(h 0 (by omega)).1;clear h;by_cases h9:1200<n
 ·have i1:(n:Int)>1200:=by omega
  rw [decide_eq_true h9];clear h9;go_enter Tryz.func35,Tryz.ntmps35;go_wp2_with fail;refine(H6 true 2 (by omega) _).mono ?_;rintro e w1 ⟨rfl,rfl⟩;go_wp2_with fail;go_ret;exact⟨rfl,rfl⟩
 ·have i1: ¬(n:Int)>1200:=by omega
  rw [decide_eq_false h9];clear h9;go_enter Tryz.func35,Tryz.ntmps35;go_wp2_with fail;refine(H6 false 2 (by omega) _).mono ?_;rintro e w1 ⟨rfl,rfl⟩;go_wp2_with fail;go_ret;exact⟨rfl,rfl⟩
theorem amY (b g lo hi:Nat) (s:bL) (w:World) (h:Cx w b 1 (λ_=> .pointer (some ⟨g,0,none⟩))) (hS:Sn w lo g hi s):
  Calls Tryz.prog 37 #[.pointer (some ⟨b,0,none⟩)] w λe w'=>e= .returned (ll (kF (kg s.ad) 12))/\Below w.heap.size w w':=by
 have h0:=(h 0 (by omega)).1;have HS:=Hi hS;obtain⟨z,hz⟩: ∃z,kg s.ad=z:=⟨_,rfl⟩;have HZ:=Hi hz;rw [hz];clear h hS hz;go_enter Tryz.func37,Tryz.ntmps37;go_wp2_with fail;refine(ale g lo hi s _ HS.out).mono ?_;rintro e w1 ⟨rfl,hq⟩;rw [HZ.out];go_wp2_with fail;refine(H6 z 12 (by omega) _).mono ?_;rintro e w2 ⟨rfl,ag⟩;rw [ag];clear ag w2;go_wp2_with fail;go_ret;exact⟨rfl,hq⟩
theorem amZ (b b2 g lo hi:Nat) (s:bL) (w:World) (h:Cx w b 1 (λ_=> .pointer (some ⟨g,0,none⟩))) (h2:Cx w b2 1 (λ_=> .int .u64 0)) (hS:Sn w lo g hi s) (hb: ¬(lo<=b2/\b2<hi)) (hq:s.ea=true->s.q≠b2):
  Calls Tryz.prog 39 #[.pointer (some ⟨b,0,none⟩),.pointer (some ⟨b2,0,none⟩)] w λe w'=>e= .returned (ll (fG s.x false))/\Sn w' lo g hi (M8 s)/\Cx w' b2 1 (λ_=> .int .u64 ((vD s.x false:Nat):Int))/\But (Tw s.n b2) w w':=by
 have h0:=(h 0 (by omega)).1;have c3:=hS.c 3;simp only [fT]at c3;obtain⟨HS,H2,HB,HQ,HP⟩:=jX hS h2 hb hq hS.ps.a;obtain⟨n,hn⟩: ∃k,s.n=k:=⟨_,rfl⟩;rw [hn]at c3;have HN:=Hi hn;obtain⟨V,hV⟩: ∃V,vD s.x false=V:=⟨_,rfl⟩;have HV:=Hi hV;rw [hn,hV];obtain⟨K,hK⟩: ∃V,fG s.x false=V:=⟨_,rfl⟩;have HK:=Hi hK;rw [hK];clear h h2 hS hb hq hn hV hK;go_enter Tryz.func39,Tryz.ntmps39;go_wp2_with fail;refine(aiX n _ _ _ _ (HN.out▸HS.out.ct)).mono ?_;rintro e w1 ⟨rfl,hC,hq⟩;rw [HK.out,HV.out];have kJ:=Hi (HS.out.atn (HN.out.symm▸hC) (HN.out.symm▸hq));have XV:=H2.out.but hq (On.ne (by have:=HP.out;have:=HB.out;have:=HN.out;omega));have e2:=(XV 0 (by omega)).1;have f2:=(XV 0 (by omega)).2;clear hC c3 h0;go_wp2_with fail;go_ret;refine⟨rfl,kJ.out.on ((But.refl _ _).put 0 _) HB.out HQ.out,(XV.set _ (by omega)).ext (λj hj=>if_pos (by omega)),hq.two ((But.refl _ _).put 0 _)⟩
def H7:Nat->Nat
 |0=>34|1=>35|2=>37|_=>39
def Ue (g:Nat):Nat->Array Value
 |0=> #[.pointer (some ⟨g,0,none⟩)]|_=> #[]
def H8 (b0 b1 b2:Nat):Nat->Array Value
 |0=> #[]|1=> #[.pointer (some ⟨b1,0,none⟩)]|2=> #[.pointer (some ⟨b0,0,none⟩)]|_=> #[.pointer (some ⟨b0,0,none⟩),.pointer (some ⟨b2,0,none⟩)]
structure Ec (W:World) (lo g hi b0 b1 b2 b3 n c:Nat) (A:Option Addr) (s:bL):Prop where
 s:Sn W lo g hi s
 p:Cx W b0 1 (λ_=> .pointer (some ⟨g,0,none⟩))
 l:Cx W b1 1 (λ_=> .slice A n c)
 v:Cx W b2 1 (λ_=> .int .u64 0)
 k:Cx W b3 4 (λj=> .func (.func (H7 j)) (Ue g j) (H8 b0 b1 b2 j))
theorem Ec.to {w W:World} {lo g hi b0 b1 b2 b3 n c:Nat} {A:Option Addr} {s:bL} (h:Ec w lo g hi b0 b1 b2 b3 n c A s) (hb:Below w.heap.size w W):Ec W lo g hi b0 b1 b2 b3 n c A s:=
 ⟨h.s.to hb,h.p.t hb,h.l.t hb,h.v.t hb,h.k.t hb⟩
def XD (s:bL) (n:Nat) (j:Nat):Prop:=(0<j->s.cl=false)/\(1<j-> ¬1200<n)/\(2<j->kg s.ad=false)/\(3<j->fG s.x false=0)
def aef (w W:World) (lo g hi b0 b1 b2 n c:Nat) (A:Option Addr) (s:bL):Prop:=
 Sn W lo g hi (M8 s)/\Cx W b0 1 (λ_=> .pointer (some ⟨g,0,none⟩))/\Cx W b1 1 (λ_=> .slice A n c)/\Cx W b2 1 (λ_=> .int .u64 (s.x:Int))/\But (Tw s.n b2) w W
theorem am0 {cl em:Bool} {n C:Nat} (hz:kF cl 7≠0):mr cl n em C=kF cl 7:=by
 cases cl with
 |false=>exact absurd rfl hz
 |true=>rfl
theorem am1 {cl em:Bool} {n C:Nat} (h0:cl=false) (hz:kF (decide (1200<n)) 2≠0):mr cl n em C=kF (decide (1200<n)) 2:=by
 subst h0;by_cases h:1200<n
 ·unfold mr;rw [if_neg (by decide),if_pos h,decide_eq_true h];rfl
 ·rw [decide_eq_false h]at hz;exact absurd rfl hz
theorem am2 {cl em:Bool} {n C:Nat} (h0:cl=false) (h1: ¬1200<n) (hz:kF em 12≠0):mr cl n em C=kF em 12:=by
 subst h0;unfold mr;rw [if_neg (by decide),if_neg h1];cases em with
 |false=>exact absurd rfl hz
 |true=>rfl
theorem am3 {cl em:Bool} {n C:Nat} (h0:cl=false) (h1: ¬1200<n) (h2:em=false):mr cl n em C=C:=by
 subst h0 h2;unfold mr;rw [if_neg (by decide),if_neg h1,if_neg (by decide)]
theorem am4 {s:bL} {n:Nat} (h:XD s n 4):mr s.cl n (kg s.ad) (fG s.x false)=0:=by
 obtain⟨h0,h1,h2,h3⟩:=h;unfold mr;rw [h0 (by omega),if_neg (by decide),if_neg (h1 (by omega)),h2 (by omega),if_neg (by decide),h3 (by omega)]
theorem J8 (c:Nat):(c=0/\ll c= .nilIface)\/(c≠0/\ll c= .iface 61 (.int .i64 (c:Int))):=by
 by_cases h:c=0
 ·exact .inl ⟨h,zQ h⟩
 ·exact .inr ⟨h,pU h⟩
theorem ado (w:World) (lo g hi b0 b1 b2 b3 n c:Nat) (A:Option Addr) (s:bL) (Z:Nat) (h:Ec w lo g hi b0 b1 b2 b3 n c A s) (hZ:mr s.cl n (kg s.ad) (fG s.x false)=Z) (hb:hi<=b0/\hi<=b1/\hi<=b2/\hi<=b3) (hd:b0≠b2/\b1≠b2/\b3≠b2) (hq:s.ea=true->s.q≠b2):
  Calls Tryz.prog 33 #[.slice (some ⟨b3,0,none⟩) 4 4] w λe w'=>(Z=0/\e= .returned .nilIface/\XD s n 4/\aef w w' lo g hi b0 b1 b2 n c A s)\/(Z≠0/\e= .returned (ll Z)/\Ec w' lo g hi b0 b1 b2 b3 n c A s/\But (Tw s.n b2) w w'):=by
 have hF:=WM b3 4 H7 (Ue g) (H8 b0 b1 b2) (λj W=>XD s n j/\((j<4/\Ec W lo g hi b0 b1 b2 b3 n c A s/\Below w.heap.size w W)\/(j=4/\aef w W lo g hi b0 b1 b2 n c A s))) (λv W=>v=ll Z/\Z≠0/\Ec W lo g hi b0 b1 b2 b3 n c A s/\But (Tw s.n b2) w W) w ⟨⟨λe=>absurd e (by omega),λe=>absurd e (by omega),λe=>absurd e (by omega),λe=>absurd e (by omega)⟩,.inl ⟨by omega,h,Below.refl _ _⟩⟩ (by omega)
  (λj hj W hW => by
   obtain⟨_,⟨_,hA,_⟩|⟨e,_⟩⟩:=hW
   ·exact(hA.k j hj).1
   ·omega)
  (λj hj V => by
   match j,hj with
   |0,_=>exact enters_of Tryz.func34 (by kernel_rfl) rfl _ V
   |1,_=>exact enters_of Tryz.func35 (by kernel_rfl) rfl _ V
   |2,_=>exact enters_of Tryz.func37 (by kernel_rfl) rfl _ V
   |3,_=>exact enters_of Tryz.func39 (by kernel_rfl) rfl _ V)
  (λj hj V hV => by
   obtain⟨hG,hV⟩:=hV;have xh:Ec V lo g hi b0 b1 b2 b3 n c A s/\Below w.heap.size w V:=by
    rcases hV with ⟨_,hA,hB⟩|⟨e,_⟩
    ·exact⟨hA,hB⟩
    ·omega
   obtain⟨hA,hB⟩:=xh
   match j,hj with
   |0,_=>
    refine(Tu g lo hi s V hA.s).mono ?_;rintro e W ⟨rfl,hw⟩;have iX:Below V.heap.size V W:=hw▸Below.refl _ _;have mX:=hA.to iX;have aF:=hB.trans (iX.mono hB.size);rcases J8 (kF (s.cl) 7)with ⟨hz,he⟩|⟨hz,he⟩
    ·refine .inl ⟨by rw [he],⟨λe=> ?_,λe=> ?_,λe=> ?_,λe=>absurd e (by omega)⟩,.inl ⟨by omega,mX,aF⟩⟩
     ·cases hc:s.cl with|false=>rfl|true=>rw [hc]at hz;exact absurd hz (by decide)
     ·omega
     ·omega
    ·have hc:Z=kF (s.cl) 7:=hZ.symm.trans (am0 hz);exact .inr ⟨_,_,by rw [he],by rw [hc];exact he.symm,by rw [hc];exact hz,mX,But.of aF⟩
   |1,_=>
    refine(amX b1 n c A V hA.l).mono ?_;rintro e W ⟨rfl,hw⟩;have iX:Below V.heap.size V W:=hw▸Below.refl _ _;have mX:=hA.to iX;have aF:=hB.trans (iX.mono hB.size);rcases J8 (kF (decide (1200<n)) 2)with ⟨hz,he⟩|⟨hz,he⟩
    ·refine .inl ⟨by rw [he],⟨λe=> ?_,λe=> ?_,λe=> ?_,λe=>absurd e (by omega)⟩,.inl ⟨by omega,mX,aF⟩⟩
     ·exact hG.1 (by omega)
     ·intro h9;rw [decide_eq_true h9]at hz;exact absurd hz (by decide)
     ·omega
    ·have hc:Z=kF (decide (1200<n)) 2:=hZ.symm.trans (am1 (hG.1 (by omega)) hz);exact .inr ⟨_,_,by rw [he],by rw [hc];exact he.symm,by rw [hc];exact hz,mX,But.of aF⟩
   |2,_=>
    refine(amY b0 g lo hi s V hA.p hA.s).mono ?_;rintro e W ⟨rfl,hw⟩;have iX:=hw;have mX:=hA.to iX;have aF:=hB.trans (iX.mono hB.size);rcases J8 (kF (kg s.ad) 12)with ⟨hz,he⟩|⟨hz,he⟩
    ·refine .inl ⟨by rw [he],⟨λe=> ?_,λe=> ?_,λe=> ?_,λe=>absurd e (by omega)⟩,.inl ⟨by omega,mX,aF⟩⟩
     ·exact hG.1 (by omega)
     ·exact hG.2.1 (by omega)
     ·cases hc:kg s.ad with|false=>rfl|true=>rw [hc]at hz;exact absurd hz (by decide)
    ·have hc:Z=kF (kg s.ad) 12:=hZ.symm.trans (am2 (hG.1 (by omega)) (hG.2.1 (by omega)) hz);exact .inr ⟨_,_,by rw [he],by rw [hc];exact he.symm,by rw [hc];exact hz,mX,But.of aF⟩
   |3,_=>
    obtain⟨iN,au,ai,aU⟩:=hb;obtain⟨MN,jT,hd3⟩:=hd;have hps:=hA.s.ps.a;refine(amZ b0 b2 g lo hi s V hA.p hA.v hA.s (by omega) hq).mono ?_;rintro e W ⟨rfl,hS,hv,hw⟩;rcases J8 (fG s.x false)with ⟨hz,he⟩|⟨hz,he⟩
    ·refine .inl ⟨by rw [he],⟨λ_=>hG.1 (by omega),λ_=>hG.2.1 (by omega),λ_=>hG.2.2.1 (by omega),λ_=>hz⟩,.inr ⟨rfl,hS,Cx.aG hA.p hw.aG (Tw.ne (by omega) (by omega)),Cx.aG hA.l hw.aG (Tw.ne (by omega) (by omega)),hv.same (by funext j;rw [show vD s.x false=s.x from if_pos hz]),(But.of hB).trans hw⟩⟩
    ·have hc:Z=fG s.x false:=hZ.symm.trans (am3 (hG.1 (by omega)) (hG.2.1 (by omega)) (hG.2.2.1 (by omega)));exact .inr ⟨_,_,by rw [he],by rw [hc];exact he.symm,by rw [hc];exact hz,⟨amW hz▸hS,Cx.aG hA.p hw.aG (Tw.ne (by omega) (by omega)),Cx.aG hA.l hw.aG (Tw.ne (by omega) (by omega)),hv.same (by funext j;rw [show vD s.x false=0 from if_neg hz];rfl),Cx.aG hA.k hw.aG (Tw.ne (by omega) (by omega))⟩,(But.of hB).trans hw⟩)
 refine hF.mono ?_;rintro e w1 (⟨rfl,hG,h1⟩|⟨t,v,rfl,hv,hz,h1,h2⟩)
 ·rcases h1 with ⟨e,_⟩|⟨_,h1⟩
  ·omega
  ·exact .inl ⟨hZ.symm.trans (am4 hG),rfl,hG,h1⟩
 ·exact .inr ⟨hz,by rw [hv],h1,h2⟩
end
end Go.Proofs.YtdaiacmneopkgaaGreatDoor
