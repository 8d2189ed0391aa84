/-
 Sessions that tell the same as sessions of the reference package, and the check that they do, by walks through their texts; what was there stays as it was.
-/
import Derived.Test.YtdaiacmneopkgaaGreatDoorSsk
import Derived.Test.YtdaiacmneopkgaaGreatDoorSnh
import Derived.Test.YtdaiacmneopkgaaGreatDoorSnd
namespace Go.Proofs.YtdaiacmneopkgaaGreatDoor
set_option linter.unusedSimpArgs false
set_option linter.unusedVariables false
set_option maxRecDepth 100000
set_option maxHeartbeats 8000000
section
open Go.RowKit
structure Rel (s:bL) (r:bZ) (Fa Fs:Nat->Nat):Prop where
 kf:r.kf=aX (ek s.kf) sb
 dr:r.dr=s.dr
 x:r.fi+r.gv=s.x
 an:s.an=decide (0<r.an)
 la:0<r.an->s.la=Fa (r.an-1)
 l0:r.an=0->s.la=0
 ri: ∀j,j<r.an->Fa j<=s.la
 ac:s.ac=r.an
 rf:s.rf=r.rf
 sn:s.sn=r.sn
 sl:0<r.sn->s.sl=Fs (r.sn-1)
 s0:r.sn=0->s.sl=0
 se:s.se=vO Fs r.sn
 fl: ∀j,j<r.sn->Fs j<65536
 ad:r.ad=s.ad
 mv:r.mv=s.mv
 cl:r.cl=s.cl
 ea:r.ea=s.ea
 es:s.ea=true->r.es=s.es/\r.et=s.et
 el:r.es<65536
theorem aca {F G:Nat->Nat} : ∀n,(∀j,j<n->F j=G j)->vO F n=vO G n
 |0,_=>rfl
 |n+1,h=>by
  unfold vO;rw [aca n (λj hj=>h j (by omega)),h n (by omega)]
theorem aiG (F:Nat->Nat) (n y:Nat):vO (jA F n y) (n+1)=vK n (vO F n) y:=by
 rw [vO,Fj,aca n (λj hj=>Mv F n y j hj)]
section
variable {s:bL} {r:bZ} {Fa Fs:Nat->Nat}
theorem Rel.new (p m t c n f k:Nat) (kf:Nat->Nat) (d x:Nat) (a:ByteArray) (Fa Fs:Nat->Nat):Rel (yt p m t c n f k kf d x a) (E5 (aX (ek kf) sb) d (min x 9223372036854775807) (lN a)) Fa Fs:=
 ⟨rfl,rfl,rfl,rfl,λh=>absurd h (Nat.lt_irrefl 0),λ_=>rfl,λj hj=>absurd hj (Nat.not_lt_zero j),rfl,rfl,rfl,λh=>absurd h (Nat.lt_irrefl 0),λ_=>rfl,rfl,λj hj=>absurd hj (Nat.not_lt_zero j),rfl,rfl,rfl,rfl,λh=>(by cases h),(by show 0<65536;omega)⟩
theorem Rel.fresh (h:Rel s r Fa Fs) (X:Nat):nI s.la s.an X=wh Fa r.an X:=by
 apply Bool.eq_iff_iff.2;rw [IU,S9];constructor
 ·rintro⟨h1,h2⟩;refine⟨h1,λj hj=> ?_⟩;have h3:=h.ri j hj;rcases h2 with h2|h2
  ·rw [h.an,decide_eq_false_iff_not]at h2;omega
  ·omega
 ·rintro⟨h1,h2⟩;refine⟨h1,?_⟩;by_cases h0:0<r.an
  ·right;rw [h.la h0];exact h2 _ (by omega)
  ·left;rw [h.an];exact decide_eq_false h0
theorem Rel.code (h:Rel s r Fa Fs) (l:List UInt8):uj (iL s.kf l) (mU s.kf l) r.dr (wh Fa r.an (jO s.kf l))=mJ s l:=by unfold mJ;rw [h.dr,h.fresh]
theorem Rel.anH (h:Rel s r Fa Fs) (n:Nat):mr r.cl n (kg r.ad) (fG s.x false)=mr s.cl n (kg s.ad) (fG s.x false):=by rw [h.cl,h.ad]
theorem Rel.aiH (h:Rel s r Fa Fs) (t:Nat):mI r.es r.et r.ea t=mI s.es s.et s.ea t:=by
 rw [h.ea];cases he:s.ea with
 |false=>rfl
 |true=>obtain⟨e1,e2⟩:=h.es he;rw [e1,e2]
theorem Rel.send (h:Rel s r Fa Fs):Rel (uP s) (Dy r) Fa Fs:=
 ⟨h.kf,h.dr,(by show r.fi+(r.gv+1)=s.x+1;have:=h.x;omega),h.an,h.la,h.l0,h.ri,h.ac,h.rf,h.sn,h.sl,h.s0,h.se,h.fl,h.ad,h.mv,h.cl,rfl,λe=>(by cases e),(by show 0<65536;omega)⟩
theorem Rel.refuse (h:Rel s r Fa Fs):Rel { s with rf:=s.rf+1 } { r with rf:=r.rf+1 } Fa Fs:=
 ⟨h.kf,h.dr,h.x,h.an,h.la,h.l0,h.ri,h.ac,(by show s.rf+1=r.rf+1;rw [h.rf]),h.sn,h.sl,h.s0,h.se,h.fl,h.ad,h.mv,h.cl,h.ea,h.es,h.el⟩
theorem Rel.close (h:Rel s r Fa Fs):Rel { s with cl:=true } { r with cl:=true } Fa Fs:=
 ⟨h.kf,h.dr,h.x,h.an,h.la,h.l0,h.ri,h.ac,h.rf,h.sn,h.sl,h.s0,h.se,h.fl,h.ad,h.mv,rfl,h.ea,h.es,h.el⟩
theorem Rel.moved (h:Rel s r Fa Fs) (a:ByteArray):mO r a=oz (decide (s.dr=1)) s.ad a:=by unfold mO oz;rw [h.dr,h.ad]
theorem Rel.accept (h:Rel s r Fa Fs) (A3:Option Addr) (c3:Nat) (A4:Option Addr) (c4 q X T aV E:Nat) (a:ByteArray) (n':Nat) (c':ByteArray->Nat) (hF:nI s.la s.an X=true) (hT:T<65536):Rel (sJ s q X T aV E a n' c') (nQ r A3 c3 A4 c4 T E aV a) (jA Fa r.an X) (jl r Fs E aV):=by
 have XV: ∀j,j<r.an->Fa j<X:=λj hj=>(S9.1 ((h.fresh X).symm.trans hF)).2 j hj;refine⟨h.kf,h.dr,h.x,(decide_eq_true (by show 0<r.an+1;omega)).symm,λ_=>(Fj Fa r.an X).symm,λe=>absurd e (by show¬r.an+1=0;omega),λj hj=> ?_,(by show s.ac+1=r.an+1;rw [h.ac]),h.rf,?_,?_,?_,?_,?_,?_,?_,h.cl,rfl,λ_=>⟨rfl,rfl⟩,hT⟩
 ·show jA Fa r.an X j<=X
  by_cases Bn:j<r.an
  ·rw [Mv Fa r.an X j Bn];exact Nat.le_of_lt (XV j Bn)
  ·have:j=r.an:=(by have:j<r.an+1:=hj;omega);subst this;rw [Fj];exact Nat.le_refl _
 ·show(if E=65535 then s.sn else s.sn+1)=fI r E;unfold fI;rw [h.sn]
 ·show 0<fI r E->(if E=65535 then s.sl else rD (aV%65536) E)=jl r Fs E aV (fI r E-1)
  unfold fI jl;by_cases hE:E=65535
  ·rw [if_pos hE,if_pos hE,if_pos hE];exact h.sl
  ·rw [if_neg hE,if_neg hE,if_neg hE];intro _;rw [Nat.add_sub_cancel,Fj]
 ·show fI r E=0->(if E=65535 then s.sl else rD (aV%65536) E)=0
  unfold fI;by_cases hE:E=65535
  ·rw [if_pos hE,if_pos hE];exact h.s0
  ·rw [if_neg hE,if_neg hE];intro e;omega
 ·show(if E=65535 then s.se else vK s.sn s.se (rD (aV%65536) E))=vO (jl r Fs E aV) (fI r E);unfold fI jl;by_cases hE:E=65535
  ·rw [if_pos hE,if_pos hE,if_pos hE];exact h.se
  ·rw [if_neg hE,if_neg hE,if_neg hE,aiG,h.sn,h.se]
 ·show∀j,j<fI r E->jl r Fs E aV j<65536;unfold fI jl;by_cases hE:E=65535
  ·rw [if_pos hE,if_pos hE];exact h.fl
  ·rw [if_neg hE,if_neg hE];intro j hj;by_cases Bn:j<r.sn
   ·rw [Mv Fs r.sn _ j Bn];exact h.fl j Bn
   ·have:j=r.sn:=(by omega);subst this;rw [Fj];exact VF _ _
 ·show(if mO r a then a else r.ad)=if oz (decide (s.dr=1)) s.ad a then a else s.ad;rw [h.moved,h.ad]
 ·show(if mO r a then r.mv+1 else r.mv)=if oz (decide (s.dr=1)) s.ad a then s.mv+1 else s.mv;rw [h.moved,h.mv]
end
theorem Se.aG {w W:World} {g:Nat} {r:bZ} {S:Nat->Prop} (h:Se w g r) (hb:bT S w W) (hs: ¬S g):Se W g r:=Cx.aG h hb hs
theorem Us.mv {w W:World} {A:Option Addr} {n:Nat} {F:Nat->Nat} (h:Us w w.heap.size A n F) (hb:Below w.heap.size w W):Us W W.heap.size A n F:=(h.keep hb).wide hb.size
theorem Hs.mv {w W:World} {A:Option Addr} {n:Nat} {F:Nat->Nat} (h:Hs w w.heap.size A n F) (hb:Below w.heap.size w W):Hs W W.heap.size A n F:=(h.keep hb).wide hb.size
theorem Us.aG {w W:World} {A:Option Addr} {n:Nat} {F:Nat->Nat} {S:Nat->Prop} (h:Us w w.heap.size A n F) (hb:bT S w W) (hs: ∀a,A=some a-> ¬S a.block):Us W W.heap.size A n F:=λj hj=>by
 obtain⟨g,o,e,hg,hc⟩:=h j hj;exact⟨g,o,e,Nat.lt_of_lt_of_le hg hb.size,(World.cell?_of_block (w:=w) (a:=⟨g,o+j,none⟩) (hb.block g hg (hs _ e))).trans hc⟩
theorem Hs.aG {w W:World} {A:Option Addr} {n:Nat} {F:Nat->Nat} {S:Nat->Prop} (h:Hs w w.heap.size A n F) (hb:bT S w W) (hs: ∀a,A=some a-> ¬S a.block):Hs W W.heap.size A n F:=λj hj=>by
 obtain⟨g,o,e,hg,hc⟩:=h j hj;exact⟨g,o,e,Nat.lt_of_lt_of_le hg hb.size,(World.cell?_of_block (w:=w) (a:=⟨g,o+j,none⟩) (hb.block g hg (hs _ e))).trans hc⟩
end
section
open Go.RowKit
theorem Dv (n:Nat) (h:n<9223372036854775808):IntKind.i64.wrap (n:Int)=(n:Int):=wrap_small _ (by omega) (by omega)
theorem ah6 (g lo hi:Nat) (s:bL) (r:bZ) (Fa Fs:Nat->Nat) (w:World) (hS:Sn w lo g hi s) (hR:Rel s r Fa Fs) (hU:Us w w.heap.size r.ac r.an Fa) (hV:Hs w w.heap.size r.sc r.sn Fs) (hx:s.x<=9223372036854775807) (ha:r.an<=1000) (hk:r.sn<=1000) (h0:r.an=0):
  Calls Tryz.prog 20 #[.pointer (some ⟨g,0,none⟩),.agg (aH r)] w λe w'=>e= .returned (.int .i64 1)/\Below w.heap.size w w':=by
 obtain⟨HR,Sa,HST,VQ,VR,VS⟩:=qB hR hS.yw (hR.se▸hS.st.1) hx ha hk;obtain⟨bM,rJ⟩: ∃g,w.heap.size=g:=⟨_,rfl⟩;obtain⟨w1,af⟩:=Le (w.alloc (.cells (aH r) 43));have Ps:Se w1 bM r:=by rw [<-af,<-rJ];exact Se.new w r _
 have hq:Below w.heap.size w w1:=by rw [<-af];exact(Below.refl _ _).alloc (Nat.le_refl _) _
 have Dq:=hS.to hq;have Pt:=hU.mv hq;have Pv:=hV.mv hq;have aW:=hq;have Pw:=Ps;have C9:w.heap.size<=bM:=Nat.le_of_eq rJ;obtain⟨kS,bV⟩:=Le (aH r);rw [bV]at af;rw [bV];clear bV Ps hq hS hR hU hV hx ha hk;obtain⟨x,h9⟩: ∃k,s.x=k:=⟨_,rfl⟩;have HX:=Hi h9;clear h9;obtain⟨la,h9⟩: ∃k,s.la=k:=⟨_,rfl⟩;have xc:=Hi h9;clear h9;obtain⟨an,h9⟩: ∃k,s.an=k:=⟨_,rfl⟩;have qI:=Hi h9;clear h9;obtain⟨ac,h9⟩: ∃k,s.ac=k:=⟨_,rfl⟩;have ui:=Hi h9;clear h9;obtain⟨rf,h9⟩: ∃k,s.rf=k:=⟨_,rfl⟩;have vN:=Hi h9;clear h9;obtain⟨ad,h9⟩: ∃k,s.ad=k:=⟨_,rfl⟩;have HAD:=Hi h9;clear h9;obtain⟨mv,h9⟩: ∃k,s.mv=k:=⟨_,rfl⟩;have uk:=Hi h9;clear h9;obtain⟨k,h9⟩: ∃k,s.sn=k:=⟨_,rfl⟩;have oO:=Hi h9;clear h9;obtain⟨sl,h9⟩: ∃k,s.sl=k:=⟨_,rfl⟩;have aQ:=Hi h9;clear h9;obtain⟨cl,h9⟩: ∃k,s.cl=k:=⟨_,rfl⟩;have pF:=Hi h9;clear h9;obtain⟨se,h9⟩: ∃k,s.se=k:=⟨_,rfl⟩;have sM:=Hi h9;clear h9;obtain⟨A,h9⟩: ∃k,r.ac=k:=⟨_,rfl⟩;have LH:=Hi h9;clear h9;obtain⟨ax,h9⟩: ∃k,r.ax=k:=⟨_,rfl⟩;have Sr:=Hi h9;clear h9;obtain⟨S,h9⟩: ∃k,r.sc=k:=⟨_,rfl⟩;have sO:=Hi h9;clear h9;obtain⟨sx,h9⟩: ∃k,r.sx=k:=⟨_,rfl⟩;have EU:=Hi h9;clear h9;have VT:=Hi (show lv s=aC x la an ac rf ad mv k sl cl by unfold lv;rw [HX.out,xc.out,qI.out,ui.out,vN.out,HAD.out,uk.out,oO.out,aQ.out,pF.out]);obtain⟨n,BK⟩: ∃q,r.an=q:=⟨_,rfl⟩;have qQ:=h0;rw [BK]at qQ;have Ju:=Hi qQ;clear h0 qQ;obtain⟨yx,fP,kz⟩:=dD BK (show ac=n by rw [<-ui.out,HR.out.ac,BK]) (show r.sn=k by rw [<-oO.out,HR.out.sn])
 obtain⟨Px,Jv,Py⟩:=dD (show∀j,j<k->Fs j<65536 by have:=HR.out.fl;rw [kz.out]at this;exact this) (show k<=1000 by rw [<-kz.out];exact VS.out) (show vO Fs k=se by rw [<-sM.out,HR.out.se,kz.out]);clear BK;go_enter Tryz.func20,Tryz.ntmps20;go_upto_region 1 with fail;try rw [af]
 try rw [rJ]
 clear af;go_wp2_with fail;refine(uQ g lo hi s _ Dq).mono ?_;rintro e x1 ⟨rfl,hq⟩;have Jw:=Dq.to hq;have F3:=Pw.to hq;have Pz:=(Pt).mv hq;have PD:=(Pv).mv hq;have aT:=Tq aW hq;clear hq aW Dq Pw Pt Pv;rw [VT.out];obtain⟨bY,rM⟩:=Le (x1.heap.size);have kD:Cx (x1.alloc (.cells #[.int .u64 0,.int .u64 0,.bool false,.int .i64 0,.int .i64 0,.string ⟨#[]⟩,.int .i64 0,.int .i64 0,.int .u16 0,.bool false] 66)) bY 10 (aC 0 0 false 0 0 ⟨#[]⟩ 0 0 0 false):=by rw [<-rM];exact BL rfl
 have cB:Below x1.heap.size x1 (x1.alloc (.cells #[.int .u64 0,.int .u64 0,.bool false,.int .i64 0,.int .i64 0,.string ⟨#[]⟩,.int .i64 0,.int .i64 0,.int .u16 0,.bool false] 66)):=(Below.refl _ _).alloc (Nat.le_refl _) _;have LJ:w.heap.size<=bY:=by rw [<-rM];exact aT.size
 have ah5:hi<=bY:=by rw [<-rM];exact Jw.up
 have hz:=Ah;go_upto_region 2 with (refine qY rfl _ _ _ rfl bY 10 0 (aC 0 0 false 0 0 ⟨#[]⟩ 0 0 0 false) (av 10 (aC x la an ac rf ad mv k sl cl)) rfl rfl kD (by rw [dB];omega) (oC _) (kW 10 _ (λj _=>yz _ _ _ _ _ _ _ _ _ _ j)) ?_;intro x2 ic vP Dt Du);have Jt:=ic.ext (yA 10 _ (aC x la an ac rf ad mv k sl cl));have hq:=cB.trans (vP.mono (by rw [<-rM];exact Nat.le_refl _));clear ic vP Dt Du kD cB hz;clear rM;have PE:=Jw.to hq;have Bd:=F3.to hq;have LK:=(Pz).mv hq;have GH:=(PD).mv hq;have di:=Tq aT hq;clear hq aT Jw F3 Pz PD;try dsimp only [Act.put]
 have c4:=Bd.c 4;simp only [df]at c4;rw [LH.out,yx.out,Sr.out]at c4;go_upto_region 3 with fail;clear c4;obtain⟨dM,hu,hd⟩:=Bj;obtain⟨VU,PG⟩:=aB hu hd;clear hu hd;have ql:=Hi (show an=false by rw [<-qI.out,HR.out.an,yx.out];exact decide_eq_false (by have:=Ju.out;omega));have hab:=ql.out;subst hab;have hnn:=VR.out;rw [yx.out]at hnn;refine wp_region_held_drew (S:=λW=>Se W bM r/\Cx W bY 10 (aC x la false ac rf ad mv k sl cl)/\Sn W lo g hi s/\Us W W.heap.size r.ac r.an Fa/\Hs W W.heap.size r.sc r.sn Fs/\Below w.heap.size w W) (by kernel_rfl) ⟨Bd.drew,Jt,PE.drew,LK,GH,di.drew⟩ (λaa=> ?_);clear Bd Jt PE LK GH di;generalize World.drew x2=vd at*;refine ty 0 rfl ?_;refine ty 1 rfl ?_ (λW hSw=>by have p:=(hSw.2.1 0 (by omega)).1;simp only [aC]at p;go_simp;try with_reducible rfl);refine tk 2 (.agg (aH r)) rfl (yieldsIf_load_mid (by rfl) _ _ rfl bM 0 rfl (av 445 (bu r)) _ (λW hSw=>(hSw.1).all) VU.out PG.out (bW _)) ?_;simp only [nr];refine rd 3 rfl (λK hK=> ?_);go_simp;refine(aa1 r x _ (by rw [HR.out.x,HX.out]) (by have:=VQ.out;rw [HX.out]at this;omega)).mono ?_;rintro e v3 ⟨rfl,hq⟩;go_wp2_with fail;refine hK.out _ _ ⟨aa.1.to hq,(aa.2.1).t hq,aa.2.2.1.to hq,(aa.2.2.2.1).mv hq,(aa.2.2.2.2.1).mv hq,Tq aa.2.2.2.2.2 hq⟩ ?_;clear hK K aa hq;intro aa;try simp only [nr]
 refine ty 4 rfl ?_;refine ty 5 rfl ?_;refine ty 6 rfl ?_;refine ty 7 rfl ?_ (λW hSw=>by have p:=(hSw.2.1 2 (by omega)).1;simp only [aC]at p;go_simp;try with_reducible rfl);refine ty 8 rfl ?_;refine tw 9 ?Yr rfl ?X6 ?Yt;case X6=>
  intro W hSw;have i1: ¬(n:Int)>0:=by have:=Ju.out;omega
  have i2: ¬0<n:=by have:=Ju.out;omega
  have i3:decide ((n:Int)>0)=false:=decide_eq_false i1;go_simp;try with_reducible rfl
 simp only [nr];refine ty 10 rfl ?_;refine ty 11 rfl ?_;refine ty 12 rfl ?_;refine ty 13 rfl ?_;refine ty 14 rfl ?_ (λW hSw=>by have p:=(hSw.2.1 2 (by omega)).1;simp only [aC]at p;go_simp;try with_reducible rfl);refine ty 15 rfl ?_;refine tk 16 undef rfl (Or.inr ⟨by rfl,rfl⟩) ?_;simp only [nr];refine tk 17 undef rfl (Or.inr ⟨by rfl,rfl⟩) ?_;simp only [nr];refine tk 18 undef rfl (Or.inr ⟨by rfl,rfl⟩) ?_;simp only [nr];refine tk 19 undef rfl (Or.inr ⟨by rfl,rfl⟩) ?_;simp only [nr];refine tk 20 undef rfl (Or.inr ⟨by rfl,rfl⟩) ?_;simp only [nr];refine tk 21 undef rfl (Or.inr ⟨by rfl,rfl⟩) ?_;simp only [nr];refine tk 22 undef rfl (Or.inr ⟨by rfl,rfl⟩) ?_;simp only [nr];refine tk 23 undef rfl (Or.inr ⟨by rfl,rfl⟩) ?_;simp only [nr];refine tk 24 undef rfl (Or.inr ⟨by rfl,rfl⟩) ?_;simp only [nr];refine ty 25 rfl ?_;refine ty 26 rfl ?_;refine ty 27 rfl ?_;refine ty 28 rfl ?_;refine ty 29 rfl ?_ (λW hSw=>by have p:=(hSw.2.1 2 (by omega)).1;simp only [aC]at p;go_simp;try with_reducible rfl);refine ty 30 rfl ?_;refine ty 31 rfl ?_;refine ty 32 rfl ?_;refine tw 33 ?Yu rfl ?X7 ?Yv;case X7=>
  intro W hSw;have p:=(hSw.2.1 1 (by omega)).1;simp only [aC]at p;have i1:(la:Int)=0:=by have:=HR.out.l0 (yx.out.trans Ju.out);rw [xc.out]at this;omega
  go_simp;try with_reducible rfl
 simp only [nr];refine tw 34 ?Yw rfl ?X8 ?Yx;case X8=>
  intro W hSw;have i1:(la:Int)=0:=by have:=HR.out.l0 (yx.out.trans Ju.out);rw [xc.out]at this;omega
  go_simp;try with_reducible rfl
 simp only [nr];refine ty 35 rfl ?_;refine ty 36 rfl ?_;refine ty 37 rfl ?_;refine ty 38 rfl ?_;refine ty 39 rfl ?_ (λW hSw=>by have p:=(hSw.2.1 3 (by omega)).1;simp only [aC]at p;rw [fP.out]at p;go_simp;try with_reducible rfl);refine ty 40 rfl ?_;refine ty 41 rfl ?_;refine ty 42 rfl ?_;refine ty 43 rfl ?_;refine ty 44 rfl ?_;refine ty 45 rfl ?_ (λW hSw=>by have p:=(hSw.2.1 4 (by omega)).1;simp only [aC]at p;go_simp;try with_reducible rfl);refine ty 46 rfl ?_;refine ty 47 rfl ?_ (λW hSw=>by have p:=(hSw.1).c 5;simp only [df]at p;rw [<-HR.out.rf,vN.out]at p;go_simp;try with_reducible rfl);refine ty 48 rfl ?_;refine ty 49 rfl ?_;refine wpAnyH_done (by kernel_rfl) ?_ _;have XV:=aa.1;have XX:=aa.2.1;have XY:=aa.2.2.1;have XZ:=aa.2.2.2.1;have XW:=aa.2.2.2.2.1;have EX:=aa.2.2.2.2.2;clear aa;try dsimp only [Act.put]
 have c9:=XV.c 9;simp only [df]at c9;rw [sO.out,kz.out,EU.out]at c9;go_upto_region 6 with fail;clear c9;by_cases EW:k=0
 ·have sP:=Hi EW;clear EW;refine wp_region_held_drew (S:=λW=>Se W bM r/\Cx W bY 10 (aC x la false ac rf ad mv k sl cl)/\Sn W lo g hi s/\Us W W.heap.size r.ac r.an Fa/\Hs W W.heap.size r.sc r.sn Fs/\Below w.heap.size w W) (by kernel_rfl) ⟨XV.drew,XX,XY.drew,XZ,XW,EX.drew⟩ (λaa=> ?_);clear XV XX XY XZ XW EX;generalize World.drew v3=Yy at*;refine ty 0 rfl ?_;refine ty 1 rfl ?_ (λW hSw=>by have p:=(hSw.2.1 7 (by omega)).1;simp only [aC]at p;go_simp;try with_reducible rfl);refine ty 2 rfl ?_;refine ty 3 rfl ?_;refine ty 4 rfl ?_;refine ty 5 rfl ?_;refine tw 6 ?Yz rfl ?Ya ?YA;case Ya=>
   intro W hSw;have i1: ¬(k:Int)>0:=(by have:=sP.out;omega);have i2: ¬0<k:=(by have:=sP.out;omega);have i3:decide ((k:Int)>0)=false:=decide_eq_false i1;go_simp;try with_reducible rfl
  simp only [nr];refine ty 7 rfl ?_;refine tk 8 undef rfl (Or.inr ⟨by rfl,rfl⟩) ?_;simp only [nr];refine tk 9 undef rfl (Or.inr ⟨by rfl,rfl⟩) ?_;simp only [nr];refine tk 10 undef rfl (Or.inr ⟨by rfl,rfl⟩) ?_;simp only [nr];refine tk 11 undef rfl (Or.inr ⟨by rfl,rfl⟩) ?_;simp only [nr];refine tk 12 undef rfl (Or.inr ⟨by rfl,rfl⟩) ?_;simp only [nr];refine tk 13 undef rfl (Or.inr ⟨by rfl,rfl⟩) ?_;simp only [nr];refine tk 14 undef rfl (Or.inr ⟨by rfl,rfl⟩) ?_;simp only [nr];refine tk 15 undef rfl (Or.inr ⟨by rfl,rfl⟩) ?_;simp only [nr];refine tk 16 undef rfl (Or.inr ⟨by rfl,rfl⟩) ?_;simp only [nr];refine ty 17 rfl ?_;refine ty 18 rfl ?_;refine ty 19 rfl ?_;refine ty 20 rfl ?_;refine tw 21 ?YB rfl ?Yb ?YC;case Yb=>
   intro W hSw;have i1:(k:Int)=0:=(by have:=sP.out;omega);go_simp;try with_reducible rfl
  simp only [nr];refine ty 22 rfl ?_;refine ty 23 rfl ?_;refine tw 24 ?YD rfl ?Yc ?YE;case Yc=>
   intro W hSw;have p:=(hSw.2.1 8 (by omega)).1;simp only [aC]at p;have i1:(sl:Int)=0:=(by have:=HR.out.s0 (kz.out.trans sP.out);rw [aQ.out]at this;omega);go_simp;try with_reducible rfl
  simp only [nr];refine tw 25 ?YF rfl ?Yd ?YG;case Yd=>
   intro W hSw;have i1:(sl:Int)=0:=(by have:=HR.out.s0 (kz.out.trans sP.out);rw [aQ.out]at this;omega);go_simp;try with_reducible rfl
  simp only [nr];refine ty 26 rfl ?_;refine ty 27 rfl ?_;refine ty 28 rfl ?_;refine ty 29 rfl ?_;refine ty 32 rfl ?_;refine ty 33 rfl ?_ (λW hSw=>by have p:=(hSw.1).c 9;simp only [df]at p;rw [sO.out,kz.out,EU.out]at p;go_simp;try with_reducible rfl);refine rd 30 rfl (λK hK=> ?_);go_simp;refine(Su g lo hi s _ (aa.2.2.1)).mono ?_;rintro e YH ⟨rfl,rfl⟩;rw [sM.out];go_wp2_with fail;refine hK.out _ _ aa ?_;clear hK K aa;intro aa;try simp only [nr]
  refine ty 31 rfl ?_ (λW hSw=>by have hse:=HST.out;rw [<-HR.out.se,sM.out]at hse;have i8:wrap64 (se:Int)=(se:Int):=IntWalk.wrap64_in _ (by omega);have i9:IntKind.i64.wrap (se:Int)=(se:Int):=Dv se (by omega);go_simp;try with_reducible rfl);refine rd 34 rfl (λK hK=> ?_);go_simp;have xe:=aa.2.2.2.2.1;rw [sO.out,kz.out]at xe;refine(Sv S k sx _ Fs _ xe Px.out Jv.out).mono ?_;rintro e YI ⟨rfl,rfl⟩;clear xe;rw [Py.out];go_wp2_with fail;refine hK.out _ _ aa ?_;clear hK K aa;intro aa;try simp only [nr]
  refine ty 35 rfl ?_;refine ty 36 rfl ?_;refine wpAnyH_done (by kernel_rfl) ?_ _;have X0:=aa.1;have X3:=aa.2.1;have Ye:=aa.2.2.1;have Yf:=aa.2.2.2.1;have Yg:=aa.2.2.2.2.1;have Yh:=aa.2.2.2.2.2;clear aa;try dsimp only [Act.put]
  have y5:=(X3 5 (by omega)).1;have y6:=(X3 6 (by omega)).1;have y9:=(X3 9 (by omega)).1;simp only [aC]at y5 y6 y9;have m10:=X0.c 10;simp only [df]at m10;rw [HR.out.ad,HAD.out]at m10;have m11:=X0.c 11;simp only [df]at m11;rw [HR.out.mv,uk.out]at m11;have m12:=X0.c 12;simp only [df]at m12;rw [HR.out.cl,pF.out]at m12;clear X0 X3 Ye Yf Yg;go_wp2_with fail;go_ret;exact⟨rfl,Yh⟩
 ·obtain⟨m6,BJ⟩: ∃m,k=m+1:=⟨k-1,by omega⟩;have iy:=Hi BJ;clear BJ EW;obtain⟨g8,o8,yV⟩: ∃g o,S=some ⟨g,o,none⟩:=by
   obtain⟨g9,o9,e9,_,_⟩:=XW m6 (by rw [kz.out];have:=iy.out;omega);exact⟨g9,o9,by rw [<-sO.out,e9]⟩
  subst yV;refine wp_region_held_drew (S:=λW=>Se W bM r/\Cx W bY 10 (aC x la false ac rf ad mv k sl cl)/\Sn W lo g hi s/\Us W W.heap.size r.ac r.an Fa/\Hs W W.heap.size r.sc r.sn Fs/\Below w.heap.size w W) (by kernel_rfl) ⟨XV.drew,XX,XY.drew,XZ,XW,EX.drew⟩ (λaa=> ?_);clear XV XX XY XZ XW EX;generalize World.drew v3=YJ at*;refine ty 0 rfl ?_;refine ty 1 rfl ?_ (λW hSw=>by have p:=(hSw.2.1 7 (by omega)).1;simp only [aC]at p;go_simp;try with_reducible rfl);refine ty 2 rfl ?_;refine ty 3 rfl ?_;refine ty 4 rfl ?_;refine ty 5 rfl ?_;refine tw 6 ?YK rfl ?Yi ?YL;case Yi=>
   intro W hSw;have i1:(k:Int)>0:=(by have:=iy.out;omega);have i2:0<k:=(by have:=iy.out;omega);have i3:decide ((k:Int)>0)=true:=decide_eq_true i1;go_simp;try with_reducible rfl
  simp only [nr];refine ty 7 rfl ?_;refine ty 8 rfl ?_;refine ty 9 rfl ?_ (λW hSw=>by have p:=(hSw.2.1 8 (by omega)).1;simp only [aC]at p;go_simp;try with_reducible rfl);refine ty 10 rfl ?_;refine ty 11 rfl ?_ (λW hSw=>by have p:=(hSw.1).c 9;simp only [df]at p;rw [sO.out,kz.out,EU.out]at p;go_simp;try with_reducible rfl);refine ty 12 rfl ?_;refine tw 13 ?YM rfl ?Yj ?YN;case Yj=>
   intro W hSw;have yZ:=Jv.out;have i1:(k:Int)-1=(m6:Int):=(by have:=iy.out;omega);have i2:wrap64 ((k:Int)-1)=(m6:Int):=(by have:=iy.out;rw [IntWalk.wrap64_in _ (by omega)];omega);have i3:IntKind.i64.wrap ((k:Int)-1)=(m6:Int):=(by have:=iy.out;rw [i1];exact Dv m6 (by omega));have i4:IntKind.i64.wrap (m6:Int)=(m6:Int):=(by have:=iy.out;exact Dv m6 (by omega));go_simp;try with_reducible rfl
  simp only [nr];refine tw 14 ?YO rfl ?Yk ?YP;case Yk=>
   intro W hSw;have i1:(m6:Int)<(k:Int):=(by have:=iy.out;omega);go_simp;try with_reducible rfl
  simp only [nr];refine tw 15 ?YQ rfl ?Yl ?YR;case Yl=>
   intro W hSw;obtain⟨g9,o9,e9,_,p⟩:=(hSw.2.2.2.2.1) m6 (by rw [kz.out];have:=iy.out;omega);rw [sO.out]at e9;injection e9 with e9;injection e9 with e9 e8;subst e9 e8;rw [show Fs m6=sl by rw [<-aQ.out,HR.out.sl (by rw [kz.out];have:=iy.out;omega),kz.out,iy.out];rfl]at p;go_simp;try with_reducible rfl
  simp only [nr];refine ty 16 rfl ?_;refine ty 17 rfl ?_;refine ty 18 rfl ?_;refine ty 19 rfl ?_;refine ty 20 rfl ?_;refine tw 21 ?YS rfl ?Ym ?YT;case Ym=>
   intro W hSw;have i1:((k:Int)==0)=false:=(by have:=iy.out;simp;omega);have i2: ¬(k:Int)=0:=(by have:=iy.out;omega);go_simp;try with_reducible rfl
  simp only [nr];refine ty 22 rfl ?_;refine tk 23 undef rfl (Or.inr ⟨by rfl,rfl⟩) ?_;simp only [nr];refine tk 24 undef rfl (Or.inr ⟨by rfl,rfl⟩) ?_;simp only [nr];refine tk 25 undef rfl (Or.inr ⟨by rfl,rfl⟩) ?_;simp only [nr];refine ty 26 rfl ?_;refine ty 27 rfl ?_;refine ty 28 rfl ?_;refine ty 29 rfl ?_;refine ty 32 rfl ?_;refine ty 33 rfl ?_ (λW hSw=>by have p:=(hSw.1).c 9;simp only [df]at p;rw [sO.out,kz.out,EU.out]at p;go_simp;try with_reducible rfl);refine rd 30 rfl (λK hK=> ?_);go_simp;refine(Su g lo hi s _ (aa.2.2.1)).mono ?_;rintro e YU ⟨rfl,rfl⟩;rw [sM.out];go_wp2_with fail;refine hK.out _ _ aa ?_;clear hK K aa;intro aa;try simp only [nr]
  refine ty 31 rfl ?_ (λW hSw=>by have hse:=HST.out;rw [<-HR.out.se,sM.out]at hse;have i8:wrap64 (se:Int)=(se:Int):=IntWalk.wrap64_in _ (by omega);have i9:IntKind.i64.wrap (se:Int)=(se:Int):=Dv se (by omega);go_simp;try with_reducible rfl);refine rd 34 rfl (λK hK=> ?_);go_simp;have xe:=aa.2.2.2.2.1;rw [sO.out,kz.out]at xe;refine(Sv (some ⟨g8,o8,none⟩) k sx _ Fs _ xe Px.out Jv.out).mono ?_;rintro e YV ⟨rfl,rfl⟩;clear xe;rw [Py.out];go_wp2_with fail;refine hK.out _ _ aa ?_;clear hK K aa;intro aa;try simp only [nr]
  refine ty 35 rfl ?_;refine ty 36 rfl ?_;refine wpAnyH_done (by kernel_rfl) ?_ _;have X4:=aa.1;have X5:=aa.2.1;have Yn:=aa.2.2.1;have Yo:=aa.2.2.2.1;have Yp:=aa.2.2.2.2.1;have Yq:=aa.2.2.2.2.2;clear aa;try dsimp only [Act.put]
  have y5:=(X5 5 (by omega)).1;have y6:=(X5 6 (by omega)).1;have y9:=(X5 9 (by omega)).1;simp only [aC]at y5 y6 y9;have m10:=X4.c 10;simp only [df]at m10;rw [HR.out.ad,HAD.out]at m10;have m11:=X4.c 11;simp only [df]at m11;rw [HR.out.mv,uk.out]at m11;have m12:=X4.c 12;simp only [df]at m12;rw [HR.out.cl,pF.out]at m12;clear X4 X5 Yn Yo Yp;go_wp2_with fail;go_ret;exact⟨rfl,Yq⟩
end
section
open Go.RowKit
theorem VP {P:Program} {ops:Array Oper} {rest:List Oper} {op:Oper} {a:Act} {w:World} {Q:Exit->Act->World->Prop} (hw:Region.wanted op (yielded ops a.tmps)=true) (ty:TypeId) (x:Operand) (ho:op.op= .load ty x)
  (b o:Nat) (hx:a.eval x= .pointer (some ⟨b,o,none⟩)) (cs:List Value) (d:TypeDesc) (hc:w.rangeAt b o cs) (hu:P.underlying ty=some d) (hd:d.isRow=true) (hi:(P.info? ty).map (·.size)=some cs.length)
  (h:wpList P ops Q rest (a.put op.dst (.agg cs.toArray)) w):wpList P ops Q (op::rest) a w:=
 BigFrame.wpList_want hw λ_ hK=>wp_load_mid ty x ho b o hx cs d hc hu hd hi (hK _ _ h)
theorem abO {ops:Array Oper} {rest:List Oper} {op:Oper} {a:Act} {w:World} {Q:Exit->Act->World->Prop} (hw:Region.wanted op (yielded ops a.tmps)=true) (ty:TypeId) (x:Operand) (ho:op.op= .load ty x)
  (g:Nat) (r:bZ) {d:TypeDesc} (hx:a.eval x= .pointer (some ⟨g,0,none⟩)) (hA:Se w g r) (hu:Tryz.prog.underlying ty=some d) (hd:d.isRow=true) (hi:(Tryz.prog.info? ty).map (·.size)=some (av 445 (bu r)).length)
  (h:wpList Tryz.prog ops Q rest (a.put op.dst (.agg (aH r))) w):wpList Tryz.prog ops Q (op::rest) a w:=
 VP hw ty x ho g 0 hx (av 445 (bu r)) _ hA.all hu hd hi h
theorem ah2 {s:bL} {l:List UInt8} (h:mJ s l=0):iL s.kf l=0/\mU s.kf l≠s.dr/\nI s.la s.an (jO s.kf l)=true:=by
 unfold mJ uj at h;split at h
 ·next h1=>
  split at h
  ·exact absurd h (by decide)
  ·next h2=>
   split at h
   ·next h3=>exact⟨h1,h2,h3⟩
   ·exact absurd h (by decide)
 ·next h1=>exact absurd h h1
theorem ah3 (w:World):Calls Tryz.prog 15 #[.nilIface,.int .i64 (0:Int)] w λe w'=>e= .returned (.bool true)/\w'=w:=by
 have h:=zh 0 0 w;rw [zQ rfl]at h
 simpa using h
theorem ah4 (g lo hi:Nat) (s:bL) (r:bZ) (Fa Fs:Nat->Nat) (w:World) (hS:Sn w lo g hi s) (hR:Rel s r Fa Fs) (hU:Us w w.heap.size r.ac r.an Fa) (hV:Hs w w.heap.size r.sc r.sn Fs) (hx:s.x<=9223372036854775807) (ha:r.an<=1000) (hk:r.sn<=1000) (h0: ¬r.an=0):
  Calls Tryz.prog 20 #[.pointer (some ⟨g,0,none⟩),.agg (aH r)] w λe w'=>e= .returned (.int .i64 1)/\Below w.heap.size w w':=by
 obtain⟨HR,Sa,HST,VQ,VR,VS⟩:=qB hR hS.yw (hR.se▸hS.st.1) hx ha hk;obtain⟨bM,rJ⟩: ∃g,w.heap.size=g:=⟨_,rfl⟩;obtain⟨w1,af⟩:=Le (w.alloc (.cells (aH r) 43));have Ps:Se w1 bM r:=by rw [<-af,<-rJ];exact Se.new w r _
 have hq:Below w.heap.size w w1:=by rw [<-af];exact(Below.refl _ _).alloc (Nat.le_refl _) _
 have Dq:=hS.to hq;have Pt:=hU.mv hq;have Pv:=hV.mv hq;have aW:=hq;have Pw:=Ps;have C9:w.heap.size<=bM:=Nat.le_of_eq rJ;obtain⟨kS,bV⟩:=Le (aH r);rw [bV]at af;rw [bV];clear bV Ps hq hS hR hU hV hx ha hk;obtain⟨x,h9⟩: ∃k,s.x=k:=⟨_,rfl⟩;have HX:=Hi h9;clear h9;obtain⟨la,h9⟩: ∃k,s.la=k:=⟨_,rfl⟩;have xc:=Hi h9;clear h9;obtain⟨an,h9⟩: ∃k,s.an=k:=⟨_,rfl⟩;have qI:=Hi h9;clear h9;obtain⟨ac,h9⟩: ∃k,s.ac=k:=⟨_,rfl⟩;have ui:=Hi h9;clear h9;obtain⟨rf,h9⟩: ∃k,s.rf=k:=⟨_,rfl⟩;have vN:=Hi h9;clear h9;obtain⟨ad,h9⟩: ∃k,s.ad=k:=⟨_,rfl⟩;have HAD:=Hi h9;clear h9;obtain⟨mv,h9⟩: ∃k,s.mv=k:=⟨_,rfl⟩;have uk:=Hi h9;clear h9;obtain⟨k,h9⟩: ∃k,s.sn=k:=⟨_,rfl⟩;have oO:=Hi h9;clear h9;obtain⟨sl,h9⟩: ∃k,s.sl=k:=⟨_,rfl⟩;have aQ:=Hi h9;clear h9;obtain⟨cl,h9⟩: ∃k,s.cl=k:=⟨_,rfl⟩;have pF:=Hi h9;clear h9;obtain⟨se,h9⟩: ∃k,s.se=k:=⟨_,rfl⟩;have sM:=Hi h9;clear h9;obtain⟨A,h9⟩: ∃k,r.ac=k:=⟨_,rfl⟩;have LH:=Hi h9;clear h9;obtain⟨ax,h9⟩: ∃k,r.ax=k:=⟨_,rfl⟩;have Sr:=Hi h9;clear h9;obtain⟨S,h9⟩: ∃k,r.sc=k:=⟨_,rfl⟩;have sO:=Hi h9;clear h9;obtain⟨sx,h9⟩: ∃k,r.sx=k:=⟨_,rfl⟩;have EU:=Hi h9;clear h9;have VT:=Hi (show lv s=aC x la an ac rf ad mv k sl cl by unfold lv;rw [HX.out,xc.out,qI.out,ui.out,vN.out,HAD.out,uk.out,oO.out,aQ.out,pF.out]);obtain⟨n,BK⟩: ∃q,r.an=q:=⟨_,rfl⟩;have qQ:=h0;rw [BK]at qQ;have Ju:=Hi qQ;clear h0 qQ;obtain⟨yx,fP,kz⟩:=dD BK (show ac=n by rw [<-ui.out,HR.out.ac,BK]) (show r.sn=k by rw [<-oO.out,HR.out.sn])
 obtain⟨Px,Jv,Py⟩:=dD (show∀j,j<k->Fs j<65536 by have:=HR.out.fl;rw [kz.out]at this;exact this) (show k<=1000 by rw [<-kz.out];exact VS.out) (show vO Fs k=se by rw [<-sM.out,HR.out.se,kz.out]);clear BK;go_enter Tryz.func20,Tryz.ntmps20;go_upto_region 1 with fail;try rw [af]
 try rw [rJ]
 clear af;go_wp2_with fail;refine(uQ g lo hi s _ Dq).mono ?_;rintro e x1 ⟨rfl,hq⟩;have Jw:=Dq.to hq;have F3:=Pw.to hq;have Pz:=(Pt).mv hq;have PD:=(Pv).mv hq;have aT:=Tq aW hq;clear hq aW Dq Pw Pt Pv;rw [VT.out];obtain⟨bY,rM⟩:=Le (x1.heap.size);have kD:Cx (x1.alloc (.cells #[.int .u64 0,.int .u64 0,.bool false,.int .i64 0,.int .i64 0,.string ⟨#[]⟩,.int .i64 0,.int .i64 0,.int .u16 0,.bool false] 66)) bY 10 (aC 0 0 false 0 0 ⟨#[]⟩ 0 0 0 false):=by rw [<-rM];exact BL rfl
 have cB:Below x1.heap.size x1 (x1.alloc (.cells #[.int .u64 0,.int .u64 0,.bool false,.int .i64 0,.int .i64 0,.string ⟨#[]⟩,.int .i64 0,.int .i64 0,.int .u16 0,.bool false] 66)):=(Below.refl _ _).alloc (Nat.le_refl _) _;have LJ:w.heap.size<=bY:=by rw [<-rM];exact aT.size
 have ah5:hi<=bY:=by rw [<-rM];exact Jw.up
 have hz:=Ah;go_upto_region 2 with (refine qY rfl _ _ _ rfl bY 10 0 (aC 0 0 false 0 0 ⟨#[]⟩ 0 0 0 false) (av 10 (aC x la an ac rf ad mv k sl cl)) rfl rfl kD (by rw [dB];omega) (oC _) (kW 10 _ (λj _=>yz _ _ _ _ _ _ _ _ _ _ j)) ?_;intro x2 ic vP Dt Du);have Jt:=ic.ext (yA 10 _ (aC x la an ac rf ad mv k sl cl));have hq:=cB.trans (vP.mono (by rw [<-rM];exact Nat.le_refl _));clear ic vP Dt Du kD cB hz;clear rM;have PE:=Jw.to hq;have Bd:=F3.to hq;have LK:=(Pz).mv hq;have GH:=(PD).mv hq;have di:=Tq aT hq;clear hq aT Jw F3 Pz PD;try dsimp only [Act.put]
 have c4:=Bd.c 4;simp only [df]at c4;rw [LH.out,yx.out,Sr.out]at c4;go_upto_region 3 with fail;clear c4;obtain⟨dM,hu,hd⟩:=Bj;obtain⟨VU,PG⟩:=aB hu hd;clear hu hd;obtain⟨m,BJ⟩: ∃m,n=m+1:=⟨n-1,by have:=Ju.out;omega⟩;have XV:=Hi BJ;clear BJ;have ql:=Hi (show an=true by rw [<-qI.out,HR.out.an,yx.out];exact decide_eq_true (by have:=XV.out;omega));have hab:=ql.out;subst hab;have hnn:=VR.out;rw [yx.out]at hnn;obtain⟨g8,o8,yV⟩: ∃g o,A=some ⟨g,o,none⟩:=by
  obtain⟨g9,o9,e9,_,_⟩:=LK m (by rw [yx.out];have:=XV.out;omega);exact⟨g9,o9,by rw [<-LH.out,e9]⟩
 subst yV;refine wp_region_held_drew (S:=λW=>Se W bM r/\Cx W bY 10 (aC x la true ac rf ad mv k sl cl)/\Sn W lo g hi s/\Us W W.heap.size r.ac r.an Fa/\Hs W W.heap.size r.sc r.sn Fs/\Below w.heap.size w W) (by kernel_rfl) ⟨Bd.drew,Jt,PE.drew,LK,GH,di.drew⟩ (λaa=> ?_);clear Bd Jt PE LK GH di;generalize World.drew x2=ud at*;refine ty 0 rfl ?_;refine ty 1 rfl ?_ (λW hSw=>by have p:=(hSw.2.1 0 (by omega)).1;simp only [aC]at p;go_simp;try with_reducible rfl);refine tk 2 (.agg (aH r)) rfl (yieldsIf_load_mid (by rfl) _ _ rfl bM 0 rfl (av 445 (bu r)) _ (λW hSw=>(hSw.1).all) VU.out PG.out (bW _)) ?_;simp only [nr];refine rd 3 rfl (λK hK=> ?_);go_simp;refine(aa1 r x _ (by rw [HR.out.x,HX.out]) (by have:=VQ.out;rw [HX.out]at this;omega)).mono ?_;rintro e u3 ⟨rfl,hq⟩;go_wp2_with fail;refine hK.out _ _ ⟨aa.1.to hq,(aa.2.1).t hq,aa.2.2.1.to hq,(aa.2.2.2.1).mv hq,(aa.2.2.2.2.1).mv hq,Tq aa.2.2.2.2.2 hq⟩ ?_;clear hK K aa hq;intro aa;try simp only [nr]
 refine ty 4 rfl ?_;refine ty 5 rfl ?_;refine ty 6 rfl ?_;refine ty 7 rfl ?_ (λW hSw=>by have p:=(hSw.2.1 2 (by omega)).1;simp only [aC]at p;go_simp;try with_reducible rfl);refine ty 8 rfl ?_;refine tw 9 ?Yv rfl ?X8 ?Yw;case X8=>
  intro W hSw;have i1:(n:Int)>0:=by have:=XV.out;omega
  have i2:0<n:=by have:=XV.out;omega
  have i3:decide ((n:Int)>0)=true:=decide_eq_true i1;go_simp;try with_reducible rfl
 simp only [nr];refine ty 10 rfl ?_;refine ty 11 rfl ?_;refine ty 12 rfl ?_;refine ty 13 rfl ?_;refine ty 14 rfl ?_ (λW hSw=>by have p:=(hSw.2.1 2 (by omega)).1;simp only [aC]at p;go_simp;try with_reducible rfl);refine ty 15 rfl ?_;refine ty 16 rfl ?_;refine ty 17 rfl ?_ (λW hSw=>by have p:=(hSw.2.1 1 (by omega)).1;simp only [aC]at p;go_simp;try with_reducible rfl);refine ty 18 rfl ?_;refine ty 19 rfl ?_ (λW hSw=>by have p:=(hSw.1).c 4;simp only [df]at p;rw [LH.out,yx.out,Sr.out]at p;go_simp;try with_reducible rfl);refine ty 20 rfl ?_;refine tw 21 ?Yx rfl ?Ya ?Yy;case Ya=>
  intro W hSw;have i1:(n:Int)-1=(m:Int):=by have:=XV.out;omega
  have i2:wrap64 ((n:Int)-1)=(m:Int):=by have:=XV.out;rw [IntWalk.wrap64_in _ (by omega)];omega
  have i3:IntKind.i64.wrap ((n:Int)-1)=(m:Int):=by have:=XV.out;rw [i1];exact Dv m (by omega)
  have i4:IntKind.i64.wrap (m:Int)=(m:Int):=by have:=XV.out;exact Dv m (by omega)
  go_simp;try with_reducible rfl
 simp only [nr];refine tw 22 ?Yz rfl ?Yb ?YA;case Yb=>
  intro W hSw;have i1:(m:Int)<(n:Int):=by have:=XV.out;omega
  go_simp;try with_reducible rfl
 simp only [nr];refine tw 23 ?YB rfl ?Yc ?YC;case Yc=>
  intro W hSw;obtain⟨g9,o9,e9,_,p⟩:=(hSw.2.2.2.1) m (by rw [yx.out];have:=XV.out;omega);rw [LH.out]at e9;injection e9 with e9;injection e9 with e9 e8;subst e9 e8;rw [show Fa m=la by rw [<-xc.out,HR.out.la (by rw [yx.out];have:=XV.out;omega),yx.out,XV.out];rfl]at p;go_simp;try with_reducible rfl
 simp only [nr];refine ty 24 rfl ?_;refine ty 25 rfl ?_;refine ty 26 rfl ?_;refine ty 27 rfl ?_;refine ty 28 rfl ?_;refine ty 29 rfl ?_ (λW hSw=>by have p:=(hSw.2.1 2 (by omega)).1;simp only [aC]at p;go_simp;try with_reducible rfl);refine ty 30 rfl ?_;refine ty 31 rfl ?_;refine tk 32 undef rfl (Or.inr ⟨by rfl,rfl⟩) ?_;simp only [nr];refine tk 33 undef rfl (Or.inr ⟨by rfl,rfl⟩) ?_;simp only [nr];refine tk 34 undef rfl (Or.inr ⟨by rfl,rfl⟩) ?_;simp only [nr];refine ty 35 rfl ?_;refine ty 36 rfl ?_;refine ty 37 rfl ?_;refine ty 38 rfl ?_;refine ty 39 rfl ?_ (λW hSw=>by have p:=(hSw.2.1 3 (by omega)).1;simp only [aC]at p;rw [fP.out]at p;go_simp;try with_reducible rfl);refine ty 40 rfl ?_;refine ty 41 rfl ?_;refine ty 42 rfl ?_;refine ty 43 rfl ?_;refine ty 44 rfl ?_;refine ty 45 rfl ?_ (λW hSw=>by have p:=(hSw.2.1 4 (by omega)).1;simp only [aC]at p;go_simp;try with_reducible rfl);refine ty 46 rfl ?_;refine ty 47 rfl ?_ (λW hSw=>by have p:=(hSw.1).c 5;simp only [df]at p;rw [<-HR.out.rf,vN.out]at p;go_simp;try with_reducible rfl);refine ty 48 rfl ?_;refine ty 49 rfl ?_;refine wpAnyH_done (by kernel_rfl) ?_ _;have XW:=aa.1;have XY:=aa.2.1;have XZ:=aa.2.2.1;have X0:=aa.2.2.2.1;have XX:=aa.2.2.2.2.1;have X3:=aa.2.2.2.2.2;clear aa;try dsimp only [Act.put]
 have c9:=XW.c 9;simp only [df]at c9;rw [sO.out,kz.out,EU.out]at c9;go_upto_region 6 with fail;clear c9;clear XV;by_cases EW:k=0
 ·have sP:=Hi EW;clear EW;refine wp_region_held_drew (S:=λW=>Se W bM r/\Cx W bY 10 (aC x la true ac rf ad mv k sl cl)/\Sn W lo g hi s/\Us W W.heap.size r.ac r.an Fa/\Hs W W.heap.size r.sc r.sn Fs/\Below w.heap.size w W) (by kernel_rfl) ⟨XW.drew,XY,XZ.drew,X0,XX,X3.drew⟩ (λaa=> ?_);clear XW XY XZ X0 XX X3;generalize World.drew u3=YD at*;refine ty 0 rfl ?_;refine ty 1 rfl ?_ (λW hSw=>by have p:=(hSw.2.1 7 (by omega)).1;simp only [aC]at p;go_simp;try with_reducible rfl);refine ty 2 rfl ?_;refine ty 3 rfl ?_;refine ty 4 rfl ?_;refine ty 5 rfl ?_;refine tw 6 ?YE rfl ?Yd ?YF;case Yd=>
   intro W hSw;have i1: ¬(k:Int)>0:=(by have:=sP.out;omega);have i2: ¬0<k:=(by have:=sP.out;omega);have i3:decide ((k:Int)>0)=false:=decide_eq_false i1;go_simp;try with_reducible rfl
  simp only [nr];refine ty 7 rfl ?_;refine tk 8 undef rfl (Or.inr ⟨by rfl,rfl⟩) ?_;simp only [nr];refine tk 9 undef rfl (Or.inr ⟨by rfl,rfl⟩) ?_;simp only [nr];refine tk 10 undef rfl (Or.inr ⟨by rfl,rfl⟩) ?_;simp only [nr];refine tk 11 undef rfl (Or.inr ⟨by rfl,rfl⟩) ?_;simp only [nr];refine tk 12 undef rfl (Or.inr ⟨by rfl,rfl⟩) ?_;simp only [nr];refine tk 13 undef rfl (Or.inr ⟨by rfl,rfl⟩) ?_;simp only [nr];refine tk 14 undef rfl (Or.inr ⟨by rfl,rfl⟩) ?_;simp only [nr];refine tk 15 undef rfl (Or.inr ⟨by rfl,rfl⟩) ?_;simp only [nr];refine tk 16 undef rfl (Or.inr ⟨by rfl,rfl⟩) ?_;simp only [nr];refine ty 17 rfl ?_;refine ty 18 rfl ?_;refine ty 19 rfl ?_;refine ty 20 rfl ?_;refine tw 21 ?YG rfl ?Ye ?YH;case Ye=>
   intro W hSw;have i1:(k:Int)=0:=(by have:=sP.out;omega);go_simp;try with_reducible rfl
  simp only [nr];refine ty 22 rfl ?_;refine ty 23 rfl ?_;refine tw 24 ?YI rfl ?Yf ?YJ;case Yf=>
   intro W hSw;have p:=(hSw.2.1 8 (by omega)).1;simp only [aC]at p;have i1:(sl:Int)=0:=(by have:=HR.out.s0 (kz.out.trans sP.out);rw [aQ.out]at this;omega);go_simp;try with_reducible rfl
  simp only [nr];refine tw 25 ?YK rfl ?Yg ?YL;case Yg=>
   intro W hSw;have i1:(sl:Int)=0:=(by have:=HR.out.s0 (kz.out.trans sP.out);rw [aQ.out]at this;omega);go_simp;try with_reducible rfl
  simp only [nr];refine ty 26 rfl ?_;refine ty 27 rfl ?_;refine ty 28 rfl ?_;refine ty 29 rfl ?_;refine ty 32 rfl ?_;refine ty 33 rfl ?_ (λW hSw=>by have p:=(hSw.1).c 9;simp only [df]at p;rw [sO.out,kz.out,EU.out]at p;go_simp;try with_reducible rfl);refine rd 30 rfl (λK hK=> ?_);go_simp;refine(Su g lo hi s _ (aa.2.2.1)).mono ?_;rintro e YM ⟨rfl,rfl⟩;rw [sM.out];go_wp2_with fail;refine hK.out _ _ aa ?_;clear hK K aa;intro aa;try simp only [nr]
  refine ty 31 rfl ?_ (λW hSw=>by have hse:=HST.out;rw [<-HR.out.se,sM.out]at hse;have i8:wrap64 (se:Int)=(se:Int):=IntWalk.wrap64_in _ (by omega);have i9:IntKind.i64.wrap (se:Int)=(se:Int):=Dv se (by omega);go_simp;try with_reducible rfl);refine rd 34 rfl (λK hK=> ?_);go_simp;have xe:=aa.2.2.2.2.1;rw [sO.out,kz.out]at xe;refine(Sv S k sx _ Fs _ xe Px.out Jv.out).mono ?_;rintro e YN ⟨rfl,rfl⟩;clear xe;rw [Py.out];go_wp2_with fail;refine hK.out _ _ aa ?_;clear hK K aa;intro aa;try simp only [nr]
  refine ty 35 rfl ?_;refine ty 36 rfl ?_;refine wpAnyH_done (by kernel_rfl) ?_ _;have X4:=aa.1;have X5:=aa.2.1;have Yh:=aa.2.2.1;have Yi:=aa.2.2.2.1;have Yj:=aa.2.2.2.2.1;have Yk:=aa.2.2.2.2.2;clear aa;try dsimp only [Act.put]
  have y5:=(X5 5 (by omega)).1;have y6:=(X5 6 (by omega)).1;have y9:=(X5 9 (by omega)).1;simp only [aC]at y5 y6 y9;have m10:=X4.c 10;simp only [df]at m10;rw [HR.out.ad,HAD.out]at m10;have m11:=X4.c 11;simp only [df]at m11;rw [HR.out.mv,uk.out]at m11;have m12:=X4.c 12;simp only [df]at m12;rw [HR.out.cl,pF.out]at m12;clear X4 X5 Yh Yi Yj;go_wp2_with fail;go_ret;exact⟨rfl,Yk⟩
 ·obtain⟨m6,BJ⟩: ∃m,k=m+1:=⟨k-1,by omega⟩;have iy:=Hi BJ;clear BJ EW;obtain⟨g8,o8,yV⟩: ∃g o,S=some ⟨g,o,none⟩:=by
   obtain⟨g9,o9,e9,_,_⟩:=XX m6 (by rw [kz.out];have:=iy.out;omega);exact⟨g9,o9,by rw [<-sO.out,e9]⟩
  subst yV;refine wp_region_held_drew (S:=λW=>Se W bM r/\Cx W bY 10 (aC x la true ac rf ad mv k sl cl)/\Sn W lo g hi s/\Us W W.heap.size r.ac r.an Fa/\Hs W W.heap.size r.sc r.sn Fs/\Below w.heap.size w W) (by kernel_rfl) ⟨XW.drew,XY,XZ.drew,X0,XX,X3.drew⟩ (λaa=> ?_);clear XW XY XZ X0 XX X3;generalize World.drew u3=YO at*;refine ty 0 rfl ?_;refine ty 1 rfl ?_ (λW hSw=>by have p:=(hSw.2.1 7 (by omega)).1;simp only [aC]at p;go_simp;try with_reducible rfl);refine ty 2 rfl ?_;refine ty 3 rfl ?_;refine ty 4 rfl ?_;refine ty 5 rfl ?_;refine tw 6 ?YP rfl ?Yl ?YQ;case Yl=>
   intro W hSw;have i1:(k:Int)>0:=(by have:=iy.out;omega);have i2:0<k:=(by have:=iy.out;omega);have i3:decide ((k:Int)>0)=true:=decide_eq_true i1;go_simp;try with_reducible rfl
  simp only [nr];refine ty 7 rfl ?_;refine ty 8 rfl ?_;refine ty 9 rfl ?_ (λW hSw=>by have p:=(hSw.2.1 8 (by omega)).1;simp only [aC]at p;go_simp;try with_reducible rfl);refine ty 10 rfl ?_;refine ty 11 rfl ?_ (λW hSw=>by have p:=(hSw.1).c 9;simp only [df]at p;rw [sO.out,kz.out,EU.out]at p;go_simp;try with_reducible rfl);refine ty 12 rfl ?_;refine tw 13 ?YR rfl ?Ym ?YS;case Ym=>
   intro W hSw;have yZ:=Jv.out;have i1:(k:Int)-1=(m6:Int):=(by have:=iy.out;omega);have i2:wrap64 ((k:Int)-1)=(m6:Int):=(by have:=iy.out;rw [IntWalk.wrap64_in _ (by omega)];omega);have i3:IntKind.i64.wrap ((k:Int)-1)=(m6:Int):=(by have:=iy.out;rw [i1];exact Dv m6 (by omega));have i4:IntKind.i64.wrap (m6:Int)=(m6:Int):=(by have:=iy.out;exact Dv m6 (by omega));go_simp;try with_reducible rfl
  simp only [nr];refine tw 14 ?YT rfl ?Yn ?YU;case Yn=>
   intro W hSw;have i1:(m6:Int)<(k:Int):=(by have:=iy.out;omega);go_simp;try with_reducible rfl
  simp only [nr];refine tw 15 ?YV rfl ?Yo ?YW;case Yo=>
   intro W hSw;obtain⟨g9,o9,e9,_,p⟩:=(hSw.2.2.2.2.1) m6 (by rw [kz.out];have:=iy.out;omega);rw [sO.out]at e9;injection e9 with e9;injection e9 with e9 e8;subst e9 e8;rw [show Fs m6=sl by rw [<-aQ.out,HR.out.sl (by rw [kz.out];have:=iy.out;omega),kz.out,iy.out];rfl]at p;go_simp;try with_reducible rfl
  simp only [nr];refine ty 16 rfl ?_;refine ty 17 rfl ?_;refine ty 18 rfl ?_;refine ty 19 rfl ?_;refine ty 20 rfl ?_;refine tw 21 ?YX rfl ?Yp ?YY;case Yp=>
   intro W hSw;have i1:((k:Int)==0)=false:=(by have:=iy.out;simp;omega);have i2: ¬(k:Int)=0:=(by have:=iy.out;omega);go_simp;try with_reducible rfl
  simp only [nr];refine ty 22 rfl ?_;refine tk 23 undef rfl (Or.inr ⟨by rfl,rfl⟩) ?_;simp only [nr];refine tk 24 undef rfl (Or.inr ⟨by rfl,rfl⟩) ?_;simp only [nr];refine tk 25 undef rfl (Or.inr ⟨by rfl,rfl⟩) ?_;simp only [nr];refine ty 26 rfl ?_;refine ty 27 rfl ?_;refine ty 28 rfl ?_;refine ty 29 rfl ?_;refine ty 32 rfl ?_;refine ty 33 rfl ?_ (λW hSw=>by have p:=(hSw.1).c 9;simp only [df]at p;rw [sO.out,kz.out,EU.out]at p;go_simp;try with_reducible rfl);refine rd 30 rfl (λK hK=> ?_);go_simp;refine(Su g lo hi s _ (aa.2.2.1)).mono ?_;rintro e YZ ⟨rfl,rfl⟩;rw [sM.out];go_wp2_with fail;refine hK.out _ _ aa ?_;clear hK K aa;intro aa;try simp only [nr]
  refine ty 31 rfl ?_ (λW hSw=>by have hse:=HST.out;rw [<-HR.out.se,sM.out]at hse;have i8:wrap64 (se:Int)=(se:Int):=IntWalk.wrap64_in _ (by omega);have i9:IntKind.i64.wrap (se:Int)=(se:Int):=Dv se (by omega);go_simp;try with_reducible rfl);refine rd 34 rfl (λK hK=> ?_);go_simp;have xe:=aa.2.2.2.2.1;rw [sO.out,kz.out]at xe;refine(Sv (some ⟨g8,o8,none⟩) k sx _ Fs _ xe Px.out Jv.out).mono ?_;rintro e Y1 ⟨rfl,rfl⟩;clear xe;rw [Py.out];go_wp2_with fail;refine hK.out _ _ aa ?_;clear hK K aa;intro aa;try simp only [nr]
  refine ty 35 rfl ?_;refine ty 36 rfl ?_;refine wpAnyH_done (by kernel_rfl) ?_ _;have X6:=aa.1;have X7:=aa.2.1;have Yq:=aa.2.2.1;have Yr:=aa.2.2.2.1;have Yt:=aa.2.2.2.2.1;have Yu:=aa.2.2.2.2.2;clear aa;try dsimp only [Act.put]
  have y5:=(X7 5 (by omega)).1;have y6:=(X7 6 (by omega)).1;have y9:=(X7 9 (by omega)).1;simp only [aC]at y5 y6 y9;have m10:=X6.c 10;simp only [df]at m10;rw [HR.out.ad,HAD.out]at m10;have m11:=X6.c 11;simp only [df]at m11;rw [HR.out.mv,uk.out]at m11;have m12:=X6.c 12;simp only [df]at m12;rw [HR.out.cl,pF.out]at m12;clear X6 X7 Yq Yr Yt;go_wp2_with fail;go_ret;exact⟨rfl,Yu⟩
theorem abP (g lo hi:Nat) (s:bL) (r:bZ) (Fa Fs:Nat->Nat) (w:World) (hS:Sn w lo g hi s) (hR:Rel s r Fa Fs) (hU:Us w w.heap.size r.ac r.an Fa) (hV:Hs w w.heap.size r.sc r.sn Fs) (hx:s.x<=9223372036854775807) (ha:r.an<=1000) (hk:r.sn<=1000):
  Calls Tryz.prog 20 #[.pointer (some ⟨g,0,none⟩),.agg (aH r)] w λe w'=>e= .returned (.int .i64 1)/\Below w.heap.size w w':=by
 by_cases h0:r.an=0
 ·exact ah6 g lo hi s r Fa Fs w hS hR hU hV hx ha hk h0
 ·exact ah4 g lo hi s r Fa Fs w hS hR hU hV hx ha hk h0
end
end Go.Proofs.YtdaiacmneopkgaaGreatDoor
