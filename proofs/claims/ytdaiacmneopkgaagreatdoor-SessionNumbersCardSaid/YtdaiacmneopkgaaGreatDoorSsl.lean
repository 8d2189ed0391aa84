/-
 The walk of the law SessionNumbers of layer 22: for every key and any two numbers it returns true, and writes nothing that was there.
-/
import Derived.Test.YtdaiacmneopkgaaGreatDoorSsk
namespace Go.Proofs.YtdaiacmneopkgaaGreatDoor
set_option linter.unusedSimpArgs false
set_option linter.unusedVariables false
set_option maxRecDepth 100000
set_option maxHeartbeats 8000000
open Go.RowKit
def Sd (f:Nat->Nat) (Fr k r:Nat) (s:bL):Prop:=s.kf=f/\s.dr=0/\s.cl=false/\s.ad=⟨#[115,58,49]⟩/\s.x=Fr+min r k/\s.ea=false
theorem ahD (f:Nat->Nat) (a b:Nat) (w:World) (hf:aj f) (ha:a<256) (hb:b<256) (hX:eX w):
  Calls Tryz.prog 4 #[.agg (ae 16 f).toArray,.int .u8 (a:Int),.int .u8 (b:Int)] w λe w'=>e= .returned (.bool true)/\Below w.heap.size w w':=by
 obtain⟨k,hk⟩: ∃k,a%6=k:=⟨_,rfl⟩;have GA:k<6:=by omega
 obtain⟨q,hq⟩: ∃q,b%4=q:=⟨_,rfl⟩;have jL:q<4:=by omega
 obtain⟨Fr,XX⟩: ∃x,9223372036854775807-k=x:=⟨_,rfl⟩;obtain⟨m,hm⟩: ∃m,k+q=m:=⟨_,rfl⟩;obtain⟨mm,hmm⟩: ∃x,min m k=x:=⟨_,rfl⟩;obtain⟨Xe,XY⟩: ∃x,Fr+mm=x:=⟨_,rfl⟩;have i1:(a:Int)%6=(k:Int):=by omega
 have i2:(9223372036854775807:Int)-(k:Int)=(Fr:Int):=by omega
 have i3:(b:Int)%4=(q:Int):=by omega
 have i4:(k:Int)+(q:Int)=(m:Int):=by omega
 have i5:min (k:Int) (m:Int)=(mm:Int):=by omega
 have i6:(Fr:Int)+(mm:Int)=(Xe:Int):=by omega
 obtain⟨XW,HM,GD,Jm,HK,X3⟩:=qB XX hm hmm XY GA jL;clear hk hq XX hm hmm XY;obtain⟨HX,HF⟩:=aB hX hf;clear hX hf;obtain⟨kK,bO⟩:=Le ((ae 16 f).toArray);obtain⟨x0,dQ⟩:=Lv (w.alloc (.cells (ae 16 f).toArray 22));obtain⟨bK,pR⟩: ∃k,w.heap.size=k:=⟨_,rfl⟩;have ny:=Bl dQ;have nP:=tF dQ pR;have CE:w.heap.size<=bK:=by omega
 rw [bO]at dQ;rw [bO];clear bO;go_enter Tryz.func4,Tryz.ntmps4;go_upto_region 1 with fail;rw [<-dQ];try rw [pR]
 clear dQ pR;go_wp2_with fail;refine(zg _ (HX.out.keep ny)).mono ?_;rintro e x1 ⟨rfl,hq⟩;have mH:=(nP).to (by have:=(nP).lt (by omega);omega) hq;have aT:=Tq ny hq;clear hq ny nP;have Vv:m<9:=by have:=HM.out;have:=HK.out;have:=X3.out;omega
 go_wp2_with (refine bB rfl _ _ rfl _ _ _ rfl mH Tryz.aM (ay _) ?_);refine(Jn f 0 ⟨#[115,58,49]⟩ Fr _ HF.out (by decide) (by have:=XW.out;omega) (HX.out.keep aT)).mono ?_;rintro e x2 ⟨gc,pc,mc,tc,cc,nc,fc,kc,rfl,EP,hq⟩;have GG:=(mH).to (by have:=(mH).lt (by omega);omega) hq;have di:=Tq aT hq;obtain⟨lc,nz⟩: ∃k,x1.heap.size=k:=⟨_,rfl⟩;obtain⟨hc,rG⟩: ∃k,x2.heap.size=k:=⟨_,rfl⟩;obtain⟨c,aK⟩: ∃s:bL,yt pc mc tc cc nc fc kc f 0 Fr ⟨#[115,58,49]⟩=s:=⟨_,rfl⟩;rw [nz,rG,aK]at EP;have abv:w.heap.size<=lc:=by rw [<-nz];exact aT.size
 have hlc:lc<hc:=by have:=EP.ps.a;omega
 have ahE:hc<=x2.heap.size:=EP.up;obtain⟨wZ,Ls⟩:=aB aK (show c.ea=true->hc<=c.q from EP.ps.c);clear aK nz rG;clear hq aT mH;have HQ:=Hi (show Sd f Fr k 0 c by rw [<-wZ.out];refine⟨rfl,rfl,rfl,sA,?_,rfl⟩;show min Fr 9223372036854775807=Fr+min 0 k;have:=XW.out;omega);clear GG;go_wp2_with fail;go_loopw [11] (λj wr=> ∃(r:Nat) (st:bL),r<=m/\j= .int .i64 (r:Int)/\Hid (Sd f Fr k r st)/\Sn wr lc gc hc st/\Below w.heap.size w wr) (λj _=>m-(intOf j).toNat);case atStart=>exact⟨0,c,Nat.zero_le _,rfl,HQ,EP,di⟩
 case round=>
  clear EP di HQ;obtain⟨r,st,hr,rfl,HQ,XV,jy⟩:=hrel;have HT:=Hi (show st.ea=true->hc<=st.q from λe=>by rw [HQ.out.2.2.2.2.2]at e;cases e);by_cases hlt:r<m
  ·have j1:(r:Int)<(m:Int):=(by omega);by_cases qL:r<k
   ·have j2: ¬(r:Int)>=(k:Int):=(by omega);have j3: ¬(k:Int)<=(r:Int):=(by omega);have HR:=Hi qL;obtain⟨x,hx⟩: ∃x,Fr+r=x:=⟨_,rfl⟩;have j4:(Fr:Int)+(r:Int)=(x:Int):=(by omega);obtain⟨Dm,CX,OY⟩:=dD (show st.x=x by have:=HQ.out.2.2.2.2.1;rw [show min r k=r by omega]at this;omega) (show x<9223372036854775807 by have:=XW.out;omega) hx;clear hx qL;go_wp2_with fail;refine(Lt gc lc hc 0 0 r none [] st _ XV (by rw [HQ.out.2.2.1,HQ.out.2.2.2.1,Dm.out];unfold mr fG;rw [if_neg (by decide),if_neg (by decide),if_neg (by decide),if_neg (by decide),if_neg (by have:=CX.out;omega)]) (Ph _ _ _) (Nat.le_refl _) (by omega) (HX.out.keep jy) (by have:=HX.out.lt;omega)).mono ?_;rintro e x3 ⟨A1,c1,rfl,Sg,XZ,hcap,vM,hq⟩;have dJ:=jy.trans (hq.iv jy.size (by omega));have rH:=XZ.sl;clear XZ;rw [HQ.out.1,HQ.out.2.1,Dm.out,Nat.zero_add]at rH;rw [Nat.zero_add]at hcap;obtain⟨DG,hDG⟩: ∃q,jP f 0 x (r%65536) (mI st.es st.et st.ea r) []=q:=⟨_,rfl⟩;have gJ:=Hi (KI (f:=f) (d:=0) (x:=x) (t:=r%65536) (e:=mI st.es st.et st.ea r) (p:= []) HF.out (by omega) (by have:=CX.out;omega) (by omega) (Lu _ _ _ _) (by decide));rw [hDG]at rH gJ;obtain⟨X0,aQ,ou⟩:=dD (NT gJ.out.1) rH (And.intro hcap vM);clear hDG rH hcap vM;clear hq jy XV;rw [HQ.out.2.2.2.1];rw [Nat.zero_add];go_wp2_with fail;refine(abw A1 28 c1 DG _ aQ.out (by omega) ou.out.1 ou.out.2).mono ?_;rintro e w9 ⟨rfl,bH⟩;rw [bH];clear bH w9
    rw [<-X0.out.1,<-X0.out.2.1,gJ.out.2.1,gJ.out.2.2.1];have Lx:=Hi (show Sd f Fr k (r+1) (uP st)from⟨HQ.out.1,HQ.out.2.1,HQ.out.2.2.1,HQ.out.2.2.2.1,(by show st.x+1=_;have:=Dm.out;have:=OY.out;have:=HR.out;omega),rfl⟩);go_wp2_with fail;go_round;case rel=>exact⟨r+1,uP st,by omega,by go_num,Lx,Sg,dJ⟩
    case measure=>simp [intOf];omega
   ·have j2:(r:Int)>=(k:Int):=(by omega);obtain⟨HR,Dm⟩:=aB qL (show st.x=9223372036854775807 by have:=HQ.out.2.2.2.2.1;rw [show min r k=k by omega]at this;have:=XW.out;omega);have k6:=λV=>ahF 6 (w:=V);clear qL;go_wp2_with fail;refine(LA gc lc hc 0 0 r none st 6 _ XV (by rw [HQ.out.2.2.1,HQ.out.2.2.2.1,Dm.out];rfl) (by decide)).mono ?_;rintro e x4 ⟨rfl,BI,hq⟩;have iZ:=jy.trans (hq.iv jy.size (by omega));clear hq jy XV;rw [pU (show 6≠0 by decide)];have Lx:=Hi (show Sd f Fr k (r+1) st from⟨HQ.out.1,HQ.out.2.1,HQ.out.2.2.1,HQ.out.2.2.2.1,(by have:=HQ.out.2.2.2.2.1;have:=HR.out;omega),HQ.out.2.2.2.2.2⟩);go_wp2_with fail;go_round;case rel=>exact⟨r+1,st,by omega,by go_num,Lx,BI,iZ⟩
    case measure=>simp [intOf];omega
  ·have j1: ¬(r:Int)<(m:Int):=(by omega);obtain rfl:r=m:=by omega
   have Dm:=Hi (show st.x=Xe by have:=HQ.out.2.2.2.2.1;have:=GD.out;have:=Jm.out;omega);go_wp2_with fail;refine(uQ gc lc hc st _ XV).mono ?_;rintro e x5 ⟨rfl,hq⟩;have LB:=XV.to hq;have iO:=Tq jy hq;clear hq jy XV;rw [show lv st=aC st.x st.la st.an st.ac st.rf st.ad st.mv st.sn st.sl st.cl from rfl];obtain⟨kS,bV⟩:=Le ((av 10 (aC st.x st.la st.an st.ac st.rf st.ad st.mv st.sn st.sl st.cl)).toArray);have uh:=λV=>abx st.x st.la st.an st.ac st.rf st.ad st.mv st.sn st.sl st.cl V;rw [bV]at uh⊢;clear bV;rw [Dm.out]at uh;go_wp2_with fail;go_ret;exact⟨rfl,iO⟩
end Go.Proofs.YtdaiacmneopkgaaGreatDoor
