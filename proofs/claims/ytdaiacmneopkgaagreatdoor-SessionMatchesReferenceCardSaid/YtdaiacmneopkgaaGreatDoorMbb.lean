/-
 Lists of calls in memory and the check that they are few; sessions of the reference package of layer 22, and Next, by walks through their texts; what was there stays as it was.
-/
import Derived.BigFrame
import Derived.Test.YtdaiacmneopkgaaGreatDoorMba
import Derived.Deep.Slices
import Derived.Deep.Strs
import Derived.Deep.Fields
import Derived.Deep.Cut
namespace Go.Proofs.YtdaiacmneopkgaaGreatDoor
set_option linter.unusedSimpArgs false
set_option linter.unusedVariables false
set_option maxRecDepth 100000
set_option maxHeartbeats 4000000
section
open Go.RowKit
section
variable {P:Program}
theorem adk {ops:Array Oper} {rest:List Oper} {op:Oper} {a:Act} {w:World} {Q:Exit->Act->World->Prop} (hw:Region.wanted op (yielded ops a.tmps)=true) (ty:TypeId) (parts:Array (Nat×Operand)) (ho:op.op= .build ty parts)
  (ps:List (Nat×Value)) (hps:parts.toList.map (λp=>(p.1,a.eval p.2))=ps) (cells:Array Value) (hb:(Instr.build ty ps.toArray).run P w= .ok (.agg cells) w)
  (h:wpList P ops Q rest (a.put op.dst (.agg cells)) w):wpList P ops Q (op::rest) a w:=
 BigFrame.wpList_want hw λ_ hK=>by
  have e:(parts.map fun(i,x)=>(i,a.eval x))=ps.toArray:=by rw [<-hps];apply Array.toList_inj.1;simp
  unfold Oper.wp execOp;simp only [ho,e,Sem.run_bind,hb,Result.andThen_ok];exact hK _ _ h
end
end
section
open Go.RowKit Go.ChangeShapes Go.WideShapes
def Hs (w:World) (B:Nat) (A:Option Addr) (n:Nat) (F:Nat->Nat):Prop:=
 ∀j,j<n-> ∃g o,A=some ⟨g,o,none⟩/\g<B/\w.cell? ⟨g,o+j,none⟩=some (.int .u16 (F j:Int))
section
variable {w w':World} {B n b c:Nat} {A:Option Addr} {F:Nat->Nat}
theorem Hs.keep (h:Hs w B A n F) (hb:Below B w w'):Hs w' B A n F:=λj hj=>by
 obtain⟨g,o,e,hg,hc⟩:=h j hj;exact⟨g,o,e,hg,(hb.cell (p:=⟨g,o+j,none⟩) hg).trans hc⟩
theorem Hs.Mw {cap:Nat} {zs:List Int} (h:(A=none/\n=0/\cap=0/\zs= [])\/
  ∃x,A=some x/\n<=cap/\cap<=maxLen/\zs.length=cap/\(∀i,i<zs.length->w.cell? (x.add i)=some (.int .u16 (zs.getD i 0)))/\ ∀m∈zs,(Lit.int .u16 m).wf=true):
  ∃F:Nat->Nat,Hs w w.heap.size A n F/\(∀j,j<n->F j<65536)/\n<=cap/\cap<=maxLen:=by
 rcases h with ⟨rfl,rfl,rfl,rfl⟩|⟨x,rfl,hl,hm,hz,hcell,hwz⟩
 ·exact⟨λ_=>0,λj hj=>by omega,λj hj=>by omega,Nat.le_refl _,by simp [maxLen]⟩
 ·have hr: ∀i,i<zs.length->0<=zs.getD i 0/\zs.getD i 0<=65535:=by
   intro i hi;have hmem:zs.getD i 0∈zs:=by
    rw [List.getD_eq_getElem?_getD,List.getElem?_eq_getElem hi];simp
   have:=hwz _ hmem
   simpa [Lit.wf,IntKind.min,IntKind.max,IntKind.signed,IntKind.bits]using this
  obtain⟨F,hF⟩: ∃F:Nat->Nat,∀j,F j=(zs.getD j 0).toNat:=⟨_,λ_=>rfl⟩;refine⟨F,λj hj=> ?_,λj hj=>by have:=hr j (by omega);have:=hF j;omega,hl,hm⟩;obtain⟨b,off,spot⟩:=x;have hspot:spot=none:=by simpa [Addr.add]using World.cell?_spot (hcell 0 (by omega))
  have ze:=hcell j (by omega);subst hspot;have hadd: ∀i,(⟨b,off,none⟩:Addr).add i=⟨b,off+i,none⟩:=λi=>by unfold Addr.add;split<;>simp_all
  rw [hadd]at ze;refine⟨b,off,rfl,?_,?_⟩
  ·rcases Nat.lt_or_ge b w.heap.size with hlt|hge
   ·exact hlt
   ·simp [World.cell?,Array.getElem?_eq_none hge]at ze
  ·rw [ze];have h1:=hr j (by omega);have h2:=hF j;congr 2;omega
end
end
section
open Go.RowKit
structure Hf where
 kd:Int
 A:Option Addr
 n:Nat
 c:Nat
 l:List UInt8
 a:ByteArray
 tk:Nat
 sq:Nat
 ow:Bool
def TA (C:Hf):Nat->Value
 |0=> .int .i64 C.kd|1=> .slice C.A C.n C.c|2=> .string C.a|3=> .int .u64 (C.tk:Int)|4=> .int .u64 (C.sq:Int)|_=> .bool C.ow
structure Qo (w:World) (B:Nat) (C:Hf):Prop where
 s:Sl w B C.A C.n C.l
 nc:C.n<=C.c
 cm:C.c<=maxLen
 hs:C.a.size<=maxLen
 tk:C.tk<18446744073709551616
 sq:C.sq<18446744073709551616
def TB (w:World) (B:Nat) (A:Option Addr) (n:Nat) (G:Nat->Hf):Prop:=
 ∀i,i<n-> ∃g o,A=some ⟨g,o,none⟩/\g<B/\(∀j,j<6->w.cell? ⟨g,o+i*6+j,none⟩=some (TA (G i) j))/\Qo w B (G i)
theorem Qo.keep {w W:World} {B:Nat} {C:Hf} (h:Qo w B C) (hb:Below B w W):Qo W B C:=⟨h.s.below hb,h.nc,h.cm,h.hs,h.tk,h.sq⟩
theorem TB.keep {w W:World} {B n:Nat} {A:Option Addr} {G:Nat->Hf} (h:TB w B A n G) (hb:Below B w W):TB W B A n G:=λi hi=>by
 obtain⟨g,o,e,hg,hc,hk⟩:=h i hi;exact⟨g,o,e,hg,λj hj=>(hb.cell (p:=⟨g,o+i*6+j,none⟩) hg).trans (hc j hj),hk.keep hb⟩
def ajw (n:Nat) (G:Nat->Hf) (e:Ending):Prop:= ∃b,e= .returned (.bool b)/\(b=true->n<=20/\ ∀j,j<n->(G j).n<=1500)
theorem anI (A:Option Addr) (n c:Nat) (G:Nat->Hf) (w:World) (h:TB w w.heap.size A n G) (hn:n<=9223372036854775807):
  Calls Tryz.prog 9 #[.slice A n c] w λe w'=>ajw n G e/\Below w.heap.size w w':=by
 go_enter Tryz.func9,Tryz.ntmps9;go_wp2_with fail;go_loopw [3,4] (λv i wr=> ∃k x:Nat,k<=n/\k<=100/\v= .int .i64 (x:Int)/\x<=k*1000/\i= .int .i64 (k:Int)/\Hid (∀j,j<k->(G j).n<=1500)/\Below w.heap.size w wr) (λ_ i _=>n-(intOf i).toNat);case atStart=>exact⟨0,0,Nat.zero_le _,Nat.zero_le _,rfl,by omega,rfl,Hi (λj hj=>absurd hj (Nat.not_lt_zero j)),Below.refl _ _⟩
 case round=>
  obtain⟨k,x,hk,nJ,rfl,hx,rfl,HG,hB⟩:=hrel;by_cases hlt:k<n/\k<100
  ·obtain⟨hlt,Aj⟩:=hlt;have i1:(k:Int)<(n:Int):=(by omega);have i2:(k:Int)<100:=(by omega);obtain⟨g,o,rfl,hg,hc,hok⟩:=h k hlt;have c1:=(hB.cell (p:=⟨g,o+k*6+1,none⟩) hg).trans (hc 1 (by omega));have c2:=(hB.cell (p:=⟨g,o+k*6+2,none⟩) hg).trans (hc 2 (by omega));simp only [TA]at c1 c2;obtain⟨m,hm⟩: ∃m,(G k).n=m:=⟨_,rfl⟩;obtain⟨A1,pJ⟩: ∃m,(G k).A=m:=⟨_,rfl⟩;obtain⟨mc,hmc⟩: ∃m,(G k).c=m:=⟨_,rfl⟩;obtain⟨s,hs⟩: ∃m,(G k).a=m:=⟨_,rfl⟩;rw [pJ,hm,hmc]at c1;rw [hs]at c2;have HM:=Hi hm;clear hc hok pJ hmc hs hm;have HK:=Hi (And.intro hlt Aj);have i9:((m:Int)>150/\(m:Int)<1201)\/((m:Int)>150/\ ¬(m:Int)<1201/\(m:Int)>1500)\/(m<=1500/\((¬(m:Int)>150/\ ¬(m:Int)>1500)\/((m:Int)>150/\ ¬(m:Int)<1201/\ ¬(m:Int)>1500))):=(by omega);have hxl:x<=100000:=(by omega);rcases i9 with ⟨j1,j2⟩|⟨j1,j2,j3⟩|⟨Lj,j⟩
   ·clear hx hk nJ hlt Aj;go_wp2_with fail
    go_quiet (fail)
    all_goals go_wp2_with fail
    all_goals go_ret
    all_goals exact⟨⟨false,rfl,λe=>by cases e⟩,(hB.trans ((show Dr wr _ from⟨_,rfl⟩).below _))⟩
   ·clear hx hk nJ hlt Aj;go_wp2_with fail
    go_quiet (fail)
    all_goals go_wp2_with fail
    all_goals go_ret
    all_goals exact⟨⟨false,rfl,λe=>by cases e⟩,(hB.trans ((show Dr wr _ from⟨_,rfl⟩).below _))⟩
   ·have XV:=Hi (show∀j,j<k+1->(G j).n<=1500 from λj hj=>by
      rcases Nat.lt_or_ge j k with h9|h9
      ·exact HG.out j h9
      ·obtain rfl:j=k:=by omega
       rw [HM.out];exact Lj)
    obtain⟨y2,Ca⟩: ∃q,m/16=q:=⟨_,rfl⟩;have i4:(m:Int)/16=(y2:Int):=(by omega);obtain⟨z1,bE⟩: ∃z,x+y2=z:=⟨_,rfl⟩;have i5:(x:Int)+(y2:Int)=(z1:Int):=(by omega);obtain⟨q2,iX⟩: ∃y,min s.size 10000/100=y:=⟨_,rfl⟩;obtain⟨z,hz⟩: ∃z,z1+q2=z:=⟨_,rfl⟩;have i8:(z1:Int)+(q2:Int)=(z:Int):=(by omega);have HZ:=Hi (show z<=(k+1)*1000 by omega);have i6:((s.size:Int)<=10000/\(s.size:Int)/100=(q2:Int))\/(¬(s.size:Int)<=10000/\(z1:Int)+100=(z:Int)):=by
     rcases Nat.lt_or_ge 10000 s.size with h9|h9
     ·exact .inr ⟨by omega,by omega⟩
     ·exact .inl ⟨by omega,by omega⟩
    clear hx hk nJ hlt Aj Ca bE iX hz;clear Lj;rcases j with ⟨j1,j3⟩|⟨j1,j2,j3⟩
    ·rcases i6 with ⟨i6,i7⟩|⟨i6,i7⟩
     ·go_wp2_with fail
      go_quiet (fail)
      go_wp2_with fail;go_roundw;case rel=>exact⟨k+1,z,by have:=HK.out;omega,by have:=HK.out;omega,by go_num,HZ.out,by go_num,XV,(hB.trans ((show Dr wr _ from⟨_,rfl⟩).below _))⟩
      case measure=>have:=HK.out;simp [intOf];omega
     ·go_wp2_with fail
      go_quiet (fail)
      go_wp2_with fail;go_roundw;case rel=>exact⟨k+1,z,by have:=HK.out;omega,by have:=HK.out;omega,by go_num,HZ.out,by go_num,XV,(hB.trans ((show Dr wr _ from⟨_,rfl⟩).below _))⟩
      case measure=>have:=HK.out;simp [intOf];omega
    ·rcases i6 with ⟨i6,i7⟩|⟨i6,i7⟩
     ·go_wp2_with fail
      go_quiet (fail)
      go_wp2_with fail;go_roundw;case rel=>exact⟨k+1,z,by have:=HK.out;omega,by have:=HK.out;omega,by go_num,HZ.out,by go_num,XV,(hB.trans ((show Dr wr _ from⟨_,rfl⟩).below _))⟩
      case measure=>have:=HK.out;simp [intOf];omega
     ·go_wp2_with fail
      go_quiet (fail)
      go_wp2_with fail;go_roundw;case rel=>exact⟨k+1,z,by have:=HK.out;omega,by have:=HK.out;omega,by go_num,HZ.out,by go_num,XV,(hB.trans ((show Dr wr _ from⟨_,rfl⟩).below _))⟩
      case measure=>have:=HK.out;simp [intOf];omega
  ·by_cases XW:n<=20
   ·have hkn:k=n:=(by omega);obtain⟨Ku,XX⟩:=aB hkn XW;have i1: ¬(k:Int)<(n:Int):=(by omega);have i2:(n:Int)<=20:=(by omega);by_cases h3:x<=300
    ·have i3:(x:Int)<=300:=(by omega);clear hkn XW hlt hk nJ h3 hx;go_wp2_with fail;go_ret;exact⟨⟨true,rfl,λ_=>⟨XX.out,λj hj=>HG.out j (by have:=Ku.out;omega)⟩⟩,hB⟩
    ·have i3: ¬(x:Int)<=300:=(by omega);clear hkn XW hlt hk nJ h3 hx;go_wp2_with fail;go_ret;exact⟨⟨false,rfl,λe=>by cases e⟩,hB⟩
   ·have i9: ¬(n:Int)<=20:=(by omega);have i8:decide ((n:Int)<=20)=false:=decide_eq_false i9;have i1: ¬(k:Int)<(n:Int)\/((k:Int)<(n:Int)/\ ¬(k:Int)<100/\decide ((k:Int)<100)=false):=by
     rcases Nat.lt_or_ge k n with h1|h1
     ·exact .inr ⟨by omega,by omega,decide_eq_false (by omega)⟩
     ·exact .inl (by omega)
    clear hlt hk nJ hx XW;rcases i1 with i1|⟨i1,i2,i3⟩;all_goals
     go_wp2_with fail;go_ret;exact⟨⟨false,rfl,λe=>by cases e⟩,hB⟩
end
section
open Go.RowKit
structure bZ where
 kf:Nat->Nat
 dr:Nat
 fi:Nat
 gv:Nat
 ac:Option Addr
 an:Nat
 ax:Nat
 rf:Nat
 ea:Bool
 es:Nat
 et:Nat
 sc:Option Addr
 sn:Nat
 sx:Nat
 ad:ByteArray
 mv:Nat
 cl:Bool
def df (r:bZ):Nat->Value
 |0=> .int .i64 (r.dr:Int)|1=> .int .u64 (r.fi:Int)|2=> .int .u64 (r.gv:Int)|3=> .bool false|4=> .slice r.ac r.an r.ax|5=> .int .i64 (r.rf:Int)
 |6=> .bool r.ea|7=> .int .i64 (r.es:Int)|8=> .int .u64 (r.et:Int)|9=> .slice r.sc r.sn r.sx|10=> .string r.ad|11=> .int .i64 (r.mv:Int)|_=> .bool r.cl
def bu (r:bZ) (i:Nat):Value:=if i<432 then .int .u8 ((r.kf i:Nat):Int)else df r (i-432)
def aH (r:bZ):Array Value:=(av 445 (bu r)).toArray
theorem Vr (r:bZ) {i:Nat} (h:i<432):bu r i= .int .u8 ((r.kf i:Nat):Int):=if_pos h
theorem Vs (r:bZ) (j:Nat):bu r (432+j)=df r j:=by
 unfold bu;rw [if_neg (by omega),show 432+j-432=j by omega]
theorem agT {r q:bZ} (hk:r.kf=q.kf) {c:Nat->Value} (h: ∀i,i<432->c i=bu r i) (h2: ∀j,j<13->c (432+j)=df q j): ∀i,i<445->c i=bu q i:=λi hi=>by
 rcases Nat.lt_or_ge i 432 with h3|h3
 ·rw [h i h3,Vr r h3,Vr q h3,hk]
 ·have:=h2 (i-432) (by omega);rw [show 432+(i-432)=i by omega]at this;rw [this,<-Vs q,show 432+(i-432)=i by omega]
def Se (w:World) (g:Nat) (r:bZ):Prop:=Cx w g 445 (bu r)
theorem bW (r:bZ):(Tryz.prog.info? 43).map (·.size)=some (av 445 (bu r)).length:=by rw [dB];kernel_rfl
theorem agU (r:bZ) (j:Nat):(df r j).oneCell'=true:=by
 unfold df;split<;>rfl
theorem vJ (r:bZ) (i:Nat):(bu r i).oneCell'=true:=by
 unfold bu;split
 ·rfl
 ·exact agU r _
section
variable {w w':World} {g:Nat} {r q:bZ} {S:Nat->Prop}
theorem Se.new (w:World) (r:bZ) (T:TypeId):Se (w.alloc (.cells (aH r) T)) w.heap.size r:=Cx.new w 445 (bu r) T
theorem Se.lt (h:Se w g r):g<w.heap.size:=Cx.lt h (by omega)
theorem Se.to (h:Se w g r) (hb:Below w.heap.size w w'):Se w' g r:=Cx.to h (by omega) hb
theorem Se.but (h:Se w g r) (hb:But S w w') (hs: ¬S g):Se w' g r:=Cx.but h hb hs
theorem Se.drew (h:Se w g r):Se w.drew g r:=h
theorem Se.c (h:Se w g r) (j:Nat) (hj:j<13:=by omega):w.cell? ⟨g,432+j,none⟩=some (df r j):=by rw [<-Vs r];exact(h (432+j) (by omega)).1
theorem Se.z (h:Se w g r) (j:Nat) (hj:j<13:=by omega):w.frozen? ⟨g,432+j,none⟩=false:=(h (432+j) (by omega)).2
theorem Se.set (h:Se w g r) (j:Nat) (v:Value) (hk:r.kf=q.kf) (hj:j<13) (hq: ∀i,i<13->(if i=j then v else df r i)=df q i):Se (w.setCell ⟨g,432+j,none⟩ v) g q:=
 (Cx.set h v (by omega)).ext (agT hk (λi hi => by rw [if_neg (by omega)]) (λi hi => by
  rw [<-hq i hi];by_cases e:i=j
  ·subst e;rw [if_pos rfl,if_pos rfl]
  ·rw [if_neg (by omega),if_neg e,Vs]))
theorem Se.key (h:Se w g r):w.rangeAt g 0 (ae 432 r.kf):=Cx.range h 0 _ (by rw [bz];omega) (λj v hv=>by
 obtain⟨hj,rfl⟩:=xM hv;rw [Nat.zero_add];exact Vr r hj)
theorem Se.all (h:Se w g r):w.rangeAt g 0 (av 445 (bu r)):=Cx.range h 0 _ (by rw [dB];omega) (λj v hv=>by rw [Nat.zero_add];exact(Bi hv).2.symm)
theorem Se.put (q:bZ) (h:Se w g r):Se (w.setCells g 0 (av 445 (bu q))) g q:=(Cx.put h 0 (av 445 (bu q)) (by rw [dB];omega)).ext (λj hj=>by
 unfold wV;rw [dB,if_pos ⟨Nat.zero_le _,by omega⟩,Nat.sub_zero,OZ 445 _ j hj];rfl)
end
theorem Ab {fn:Func} {T:Array Value} {w:World} {p a b:Tmp} {ty:TypeId} {d:TypeDesc} {u v:Value} {g:Nat} {r:bZ} (hr:fn.results= #[.cell p ty,.tmp a,.tmp b]) (hp:T.getD p undef= .pointer (some ⟨g,0,none⟩)) (ha:T.getD a undef=u) (hb:T.getD b undef=v)
  (hA:Se w g r) (hu:Tryz.prog.underlying ty=some d) (hd:d.isRow=true) (hi:(Tryz.prog.info? ty).map (·.size)=some (av 445 (bu r)).length):
  (results fn T).run Tryz.prog w= .ok (.tuple #[.agg (aH r),u,v]) w:=by
 have hp':T[p]?.getD undef= .pointer (some ⟨g,0,none⟩):=by simpa using hp
 have ha':T[a]?.getD undef=u:=by simpa using ha
 have hb':T[b]?.getD undef=v:=by simpa using hb
 simp only [results,hr];simp [hp',ha',hb',asAddr,run_loadVar_mid (P:=Tryz.prog) w g 0 ty (av 445 (bu r)) _ hA.all hu hd hi];rfl
theorem UZ {fn:Func} {T:Array Value} {w:World} {p a b c:Tmp} {ty:TypeId} {d:TypeDesc} {u v x:Value} {g:Nat} {r:bZ} (hr:fn.results= #[.cell p ty,.tmp a,.tmp b,.tmp c]) (hp:T.getD p undef= .pointer (some ⟨g,0,none⟩)) (ha:T.getD a undef=u) (hb:T.getD b undef=v) (hc:T.getD c undef=x)
  (hA:Se w g r) (hu:Tryz.prog.underlying ty=some d) (hd:d.isRow=true) (hi:(Tryz.prog.info? ty).map (·.size)=some (av 445 (bu r)).length):
  (results fn T).run Tryz.prog w= .ok (.tuple #[.agg (aH r),u,v,x]) w:=by
 have hp':T[p]?.getD undef= .pointer (some ⟨g,0,none⟩):=by simpa using hp
 have ha':T[a]?.getD undef=u:=by simpa using ha
 have hb':T[b]?.getD undef=v:=by simpa using hb
 have hc':T[c]?.getD undef=x:=by simpa using hc
 simp only [results,hr];simp [hp',ha',hb',hc',asAddr,run_loadVar_mid (P:=Tryz.prog) w g 0 ty (av 445 (bu r)) _ hA.all hu hd hi];rfl
theorem But.cells {S:Nat->Prop} {w W:World} {g:Nat} (hg:S g) (vs:List Value): ∀o,But S w W->But S w (W.setCells g o vs):=by
 induction vs generalizing W with
 |nil=>intro o h;exact h
 |cons v l ih=>intro o h;rw [World.setCells];exact ih (o+1) (h.set (p:=⟨g,o,none⟩) hg v)
theorem si {ops:Array Oper} {rest:List Oper} {op:Oper} {a:Act} {w:World} {Q:Exit->Act->World->Prop} (hgd:op.guard=none) (ty:TypeId) (x y:Operand) (ho:op.op= .store ty x y)
  (g:Nat) (r q:bZ) (hx:a.eval x= .pointer (some ⟨g,0,none⟩)) (hy:a.eval y= .agg (aH q)) (hA:Se w g r) (hi:(Tryz.prog.info? ty).map (·.size)=some (av 445 (bu q)).length)
  (h: ∀w',Se w' g q->But (On g) w w'->wpList Tryz.prog ops Q rest (a.put op.dst undef) w'):wpList Tryz.prog ops Q (op::rest) a w:=by
 refine wpList_store_mid hgd ty x y ho g 0 (aH q) hx hy ?_ ?_ (all_oneCell_toArray (kW 445 _ (λj _=>vJ q j))) ?_
 ·rw [aH,List.size_toArray,dB];exact Cx.there hA 0 445 (by omega)
 ·rw [hi];simp [aH]
 ·have e:(aH q).toList=av 445 (bu q):=by simp [aH]
  rw [e];exact h _ (hA.put q) (But.cells (S:=On g) rfl _ 0 (But.refl _ _))
theorem wN {ops:Array Oper} {rest:List Oper} {op:Oper} {a:Act} {w:World} {Q:Exit->Act->World->Prop} (hgd:op.guard=none) (ty:TypeId) (x:Operand) (ho:op.op= .load ty x)
  (g:Nat) (r:bZ) {d:TypeDesc} (hx:a.eval x= .pointer (some ⟨g,0,none⟩)) (hA:Se w g r) (hu:Tryz.prog.underlying ty=some d) (hd:d.isRow=true) (hi:(Tryz.prog.info? ty).map (·.size)=some (av 445 (bu r)).length)
  (h:wpList Tryz.prog ops Q rest (a.put op.dst (.agg (aH r))) w):wpList Tryz.prog ops Q (op::rest) a w:=
 wpList_load_mid hgd ty x ho g 0 hx (av 445 (bu r)) _ hA.all hu hd hi h
theorem R8 {ops:Array Oper} {rest:List Oper} {op:Oper} {a:Act} {w:World} {Q:Exit->Act->World->Prop} (hgd:op.guard=none) (ty:TypeId) (x:Operand) (ho:op.op= .load ty x)
  (g:Nat) (r:bZ) {d:TypeDesc} (hx:a.eval x= .pointer (some ⟨g,0,none⟩)) (hA:Se w g r) (hu:Tryz.prog.underlying ty=some d) (hd:d.isRow=true) (hi:(Tryz.prog.info? ty).map (·.size)=some 432)
  (h:wpList Tryz.prog ops Q rest (a.put op.dst (.agg (ae 432 r.kf).toArray)) w):wpList Tryz.prog ops Q (op::rest) a w:=
 wpList_load_mid hgd ty x ho g 0 hx (ae 432 r.kf) _ hA.key hu hd (by rw [hi,bz]) h
theorem aa1 (r:bZ) (x:Nat) (w:World) (hx:r.fi+r.gv=x) (hl:x<18446744073709551616):
  Calls Tryz.prog 60 #[.agg (aH r)] w λe w'=>e= .returned (.int .u64 (x:Int))/\Below w.heap.size w w':=by
 obtain⟨kS,bV⟩:=Le (aH r);obtain⟨w1,iq⟩:=Le (w.alloc (.cells (aH r) 43));have kJ:Se w1 w.heap.size r:=by rw [<-iq];exact Se.new w r _
 have eP:Below w.heap.size w w1:=by rw [<-iq];exact(Below.refl _ _).alloc (Nat.le_refl _) _
 rw [bV]at iq;rw [bV];clear bV;have c1:=kJ.c 1;have c2:=kJ.c 2;simp only [df]at c1 c2;have a1:IntKind.u64.wrap ((r.fi:Int)+(r.gv:Int))=(x:Int):=by rw [IntKind.wrap_u64];omega
 clear hx hl kJ;go_enter Tryz.func60,Tryz.ntmps60;go_wp2_with fail;skip;go_ret;exact⟨rfl,eP⟩
end
end Go.Proofs.YtdaiacmneopkgaaGreatDoor
