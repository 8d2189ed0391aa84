/-
 Contracts of package hash and of its reference; sealing and opening as functions, by walks through their texts; what was there stays as it was.
-/
import Derived.Test.YtdaiacmneopkgaaGreatDoorMag
import Derived.Test.YtdaiacmneopkgaaGreatDoorGbl
import Derived.RangeFuncOwn
import Derived.RangeFuncWrites
import Derived.LoopN
import Derived.Lib.AppendZerosOnto
import Derived.Deep.DeepAppendRoom
namespace Go.Proofs.YtdaiacmneopkgaaGreatDoor
set_option linter.unusedSimpArgs false
set_option linter.unusedVariables false
set_option maxRecDepth 100000
set_option maxHeartbeats 4000000
section
section
open Go.RowKit
def qc (s:Nat->Nat) (x:Nat):Nat->Nat:=tu s (jF ((x+1)%18446744073709551616):Nat)
def FV (f s:Nat->Nat) (P:Nat->Nat->Nat) (pre:List Nat):(Nat->Nat)×(Nat->Nat):=
 pre.foldl (λp x=>(ah p.1 (aJ f (ah (P x) (ah p.2 (qc s x)))),ah p.2 (qc s x))) (zF,zF)
def nG (f s:Nat->Nat) (P:Nat->Nat->Nat):Nat->Nat->Nat
 |0=>zF
 |k+1=>ah (nG f s P k) (aJ f (ah (P k) (bS zF s (k+1))))
def wG (f s o:Nat->Nat) (l:List UInt8):Nat->Nat:=if l.length=0\/16<=l.length then zF else aJ f (ah (lF (kH l 16)) (ah o s))
def wH (f s:Nat->Nat) (l:List UInt8):Nat->Nat:=
 ah (nG f s (pt l) (l.length/16)) (wG f s (bS zF s (l.length/16)) (l.drop (16*(l.length/16))))
section
variable {f s:Nat->Nat} {P:Nat->Nat->Nat}
theorem XL (hs:aj s) (x:Nat):aj (qc s x):=λj hj=>by
 unfold qc tu;split
 ·exact xG hs _ j hj
 ·exact Nat.zero_lt_of_lt (show 0<256 by decide)
theorem XM (s:Nat->Nat) (x:Nat) (hx:x<9223372036854775807):qc s x=dk s (jF (x+1)+2):=by
 unfold qc;rw [Nat.mod_eq_of_lt (by omega)];have h1:=XN (x+1) (by omega) (by omega);unfold tu;rw [if_pos (by omega),Int.toNat_natCast]
theorem aeK (f s:Nat->Nat) (P:Nat->Nat->Nat) (pre:List Nat) (x:Nat):
  FV f s P (pre++ [x])=(ah (FV f s P pre).1 (aJ f (ah (P x) (ah (FV f s P pre).2 (qc s x)))),ah (FV f s P pre).2 (qc s x)):=by
 unfold FV;rw [List.foldl_append];rfl
theorem XO (f s:Nat->Nat) (P:Nat->Nat->Nat): ∀n,n<9223372036854775807->FV f s P (List.range n)=(nG f s P n,bS zF s n)
 |0,_=>by rw [Im];rfl
 |n+1,h=>by
  rw [List.range_succ,aeK,XO f s P n (by omega),XM s n (by omega),Kq];rfl
theorem Np (hf:aj f) (hs:aj s) (hP: ∀k,aj (P k)): ∀n,aj (nG f s P n)
 |0=>jw
 |n+1=>dL (Np hf hs hP n) (fM hf (dL (hP n) (mP jw hs _)) 10)
theorem aeL (l:List UInt8):aj (lF l):=λ_ _=>qx _ _
theorem Ri (hf:aj f) (hs:aj s) {o:Nat->Nat} (ho:aj o) (l:List UInt8):aj (wG f s o l):=by
 unfold wG;split
 ·exact jw
 ·exact fM hf (dL (aeL _) (dL ho hs)) 10
theorem aeM (f:Nat->Nat):ah f zF=f:=funext λj=>Nat.xor_zero _
end
theorem FW {P:World->Prop} (w:World) (h: ∀V,V=w->P V):P w:=h w rfl
theorem FX {w V:World} {o:Obj} (h:V=w.alloc o):Below w.heap.size w V:=by rw [h];exact(Below.refl _ _).alloc (Nat.le_refl _) o
theorem Nq (g:Nat): ∀(vs:List Value) (o:Nat) (W:World),KeepsOthers W (W.setCells g o vs)
 | [],_,W=>KeepsOthers.refl W
 |v::r,o,W=>(KeepsOthers.setCell W ⟨g,o,none⟩ v).trans (Nq g r (o+1) _)
theorem below_setCells (W:World) (g:Nat) (vs:List Value) (o:Nat):Below g W (W.setCells g o vs):=Below.setCells (Below.refl _ _) (Nat.le_refl _) _ _
theorem FY {P:Program} {ops:Array Oper} {rest:List Oper} {op:Oper} {a:Act} {w:World} {Q:Exit->Act->World->Prop} (hgd:op.guard=none) (ty:TypeId) (x y:Operand) (ho:op.op= .store ty x y)
  (g n:Nat) (f f':Nat->Nat) (hx:a.eval x= .pointer (some ⟨g,0,none⟩)) (hy:a.eval y= .agg (ae n f').toArray)
  (hA:Ar w g n f) (hi:(P.info? ty).map (·.size)=some (ae n f').length)
  (h: ∀w',w'=w.setCells g 0 (ae n f')->Ar w' g n f'->wpList P ops Q rest (a.put op.dst undef) w'):
  wpList P ops Q (op::rest) a w:=by
 refine wpList_store_mid hgd ty x y ho g 0 _ hx hy ?_ ?_ (all_oneCell_toArray (dz n f')) ?_
 ·rw [List.size_toArray,bz];exact hA.there
 ·rw [List.size_toArray];exact hi
 ·exact h _ rfl (hA.whole f')
theorem aeN {P:Program} {fn:Func} {T:Array Value} {w:World} {p q:Tmp} {ty e:TypeId} {g g' n m:Nat} {f f':Nat->Nat} (hr:fn.results= #[.cell p ty,.cell q ty]) (hp:T.getD p undef= .pointer (some ⟨g,0,none⟩)) (hq:T.getD q undef= .pointer (some ⟨g',0,none⟩))
  (hA:Ar w g n f) (hA':Ar w g' n f') (hu:P.underlying ty=some (.array m e)) (hi:(P.info? ty).map (·.size)=some (ae n f).length) (hi':(P.info? ty).map (·.size)=some (ae n f').length):
  (results fn T).run P w= .ok (.tuple #[.agg (ae n f).toArray,.agg (ae n f').toArray]) w:=by
 have hp':T[p]?.getD undef= .pointer (some ⟨g,0,none⟩):=by simpa using hp
 have hq':T[q]?.getD undef= .pointer (some ⟨g',0,none⟩):=by simpa using hq
 simp only [results,hr];simp [hp',hq',asAddr,run_loadVar_mid (P:=P) w g 0 ty (ae n f) _ hA.range hu rfl hi,run_loadVar_mid (P:=P) w g' 0 ty (ae n f') _ hA'.range hu rfl hi']
section
variable {P:Program} {n l:Nat} {Q:Exit->Act->World->Prop}
theorem UB {ops:Array Oper} (hno: ¬LetsOut Q): ∀(L:List Oper) (_: ∀o∈L,∀c,o.op≠ .defer c) (a:Act) (w:World),wpList P ops Q L a w->wpListIn (Fence.wide.inRound l) n P ops Q L a w
 | [],_,_,_,h=>h
 |o::L,hd,a,w,h=>by
  unfold wpList at h;unfold wpListIn;by_cases hw:Region.wanted o (yielded ops a.tmps)=true
  ·rw [if_pos hw]at h⊢;exact Oper.wpIn_mono (λa' w' h'=>UB hno L (λo ho=>hd o (List.mem_cons_of_mem _ ho)) a' w' h') (XP (hd o List.mem_cons_self) (h.resolve_right (λh2=>hno h2.2)))
  ·rw [if_neg hw]at h⊢;exact⟨λ_ _=>trivial,UB hno L (λo ho=>hd o (List.mem_cons_of_mem _ ho)) _ _ h⟩
theorem XQ {id:Nat} {L:List Oper} {a:Act} {w:World} (hd:Nr L.toArray=true) (h:wpList P L.toArray (Iq Q) L a w):(Code.region id L.toArray false).wpIn (Fence.wide.inRound l) n P Q a w:=
 wpIn_mono (wpIn_region_lit (UB (λh0=>by obtain⟨_,_,h1⟩:=h0;exact h1) L (λo ho c hc=>by
  have h1:=(Array.all_eq_true_iff_forall_mem.1 hd) o (by simpa using ho);rw [hc]at h1;exact absurd h1 (by simp)) a w h)) Iq.imp
theorem UC {a:Act} {w:World} (h:Q .normal a w):Iq Q .normal a w:=h
end
theorem aeO (y:Nat):IntKind.u64.wrap (y:Int)=((y%18446744073709551616:Nat):Int):=by rw [IntKind.wrap_u64];omega
end
section
open Go.RowKit
open Go.Shelf
attribute [local go_sem] Oper.semAt_some
def fE (P:Nat->Nat->Nat) (k:Nat):Array Value:= #[.int .i64 ((k+1:Nat):Int),.agg (ae 16 (P k)).toArray]
end
section
open Go.RowKit
open Go.Shelf
attribute [local go_sem] Oper.semAt_some
theorem aeP (q:Option Addr) (f s:Nat->Nat) (P:Nat->Nat->Nat) (N gf:Nat) (lb:Array Value) (Kp:World->World->Prop) (Sp:List Nat->Prop) (w:World) (hf:aj f) (hs:aJ f zF=s) (hP: ∀k,aj (P k)) (hN:N<=0) (ht:tq w (.pointer q) f) (hx:eX w)
  (eg: ∀args V,(callFunc gf args).run Tryz.prog V= .ok (.enter gf args) V)
  (hseq:SeqStopsK Fence.wide 4 Tryz.prog gf lb (fE P) Kp (λys=>ys=List.range N) Sp N w)
  (hKt: ∀ {A B C:World},Kp A B->Kp B C->Kp A C) (hKb: ∀(W:World) (l:Nat) (o o':Obj),w.heap.size<=l->W.heap[l]?=some o->o.isCells=false->o.isWalk=false->Kp W (W.putObj l o')) (hKn: ∀A B,Below w.heap.size A B->Kp A B):
  Calls Tryz.prog 187 #[.pointer q,.func (.func gf) #[] lb] w λe w'=>e= .returned (.tuple #[.agg (ae 16 (nG f s P N)).toArray,.agg (ae 16 (bS zF s N)).toArray])/\Below w.heap.size w w':=by
 have hz:=vw;obtain⟨dh,nW,aQ,yL,HT,HX,Ku⟩:=zD hf hs (show aj s by rw [<-hs];exact fM hf jw 10) hP ht hx hKn;obtain⟨w1,af⟩:=Lv (w.alloc (.cells #[.pointer q] 78));have ak:=lh af;have zH:Boxed w1 w.heap.size 78 (.pointer q):=by rw [af];exact Boxed.new w _ _
 have eP:=Bl af;obtain⟨w2,ag,aD,aF,eu⟩:=fw ak eP 16 (λ_=>0) 22;have bG:Boxed w2 w.heap.size 78 (.pointer q):=by rw [ag];exact zH.alloc _
 obtain⟨w3,az,fe,aS,uF⟩:=o7 aD aF 16 (λ_=>0) 22;have eQ:Boxed w3 w.heap.size 78 (.pointer q):=by rw [az];exact bG.alloc _
 have AZ:=bn az eu;clear zH eP bG eu aF hf hP hx hKn;refine(callsIn_wide (n:=5)).1 ?_;refine callsIn_of_wp_marks Tryz.func187 rfl trivial ?_ rfl;simp only [Tryz.ntmps187,List.size_toArray,List.length_cons,List.length_nil,Nat.reduceAdd,Nat.reduceSub,Array.replicate_succ,Array.replicate_zero,List.push_toArray,List.append_toArray,List.nil_append,List.cons_append];refine wpIn_wide.2 ?_;go_upto_region 1 with fail;rw [<-af,<-ag,<-az];clear af ag az;try simp only [Nat.add_assoc,Nat.reduceAdd]
 obtain⟨gS,vz⟩:=Le (w.heap.size+1);obtain⟨gL,jN⟩:=Le (w.heap.size+2);rw [vz]at AZ;rw [jN]at uF;try rw [jN]
 try rw [vz]
 have lS:w.heap.size<gS:=by omega
 have lL:gS<gL:=by omega
 have l3:gL<w3.heap.size:=by omega
 have Ns:w.heap.size<=w3.heap.size:=by omega
 clear ak aD fe vz jN;go_wp2_with fail;refine(wpIn_wide (n:=5)).1 ?_;refine wpIn_rangeFunc_ownH (F:=Fence.wide) (n:=5) rfl (by omega) (gf:=gf) (lb:=lb) rfl trivial eg hseq hKt (λW l o o' h h1 h2 h3=>hKb W l o o' (Nat.le_trans Ns h) h1 h2 h3) aS (λ_=>rfl)
  (λpre W=>Ar W gS 16 (FV f s P pre).1/\Ar W gL 16 (FV f s P pre).2/\Boxed W w.heap.size 78 (.pointer q)/\Below w.heap.size w W)
  (λ_ _ _=>False)
  (λpre X Y row h hgr hr=>⟨zI (β:=Unit) gS 16 _ () X Y row h.1 hgr (λr e=>(hr r e).2),zI (β:=Unit) gL 16 _ () X Y row h.2.1 hgr (λr e=>(hr r e).2),boxed_own (β:=Unit) w.heap.size 78 (λ_=> .pointer q) () X Y row h.2.2.1 hgr (λr e=>(hr r e).2),ownFrom_below (β:=Unit) (Nat.le_refl _) Ns () X Y row h.2.2.2 hgr hr⟩)
  (λ_ _ _ _ _ hs _ _=>hs)
  ⟨AZ,uF,eQ,aS⟩
  (λx a' W=> ∃Bx,gL<Bx/\Ar W Bx 16 (P x)/\a'= { tmps:= #[.pointer q,.func (.func gf) #[] lb,.pointer (some ⟨w.heap.size,0,none⟩),undef,.pointer (some ⟨gS,0,none⟩),.pointer (some ⟨gL,0,none⟩),.int .i64 ((x+1:Nat):Int),.pointer (some ⟨Bx,0,none⟩),.func (.func gf) #[] lb,.int .i64 ((x+1:Nat):Int),.agg (ae 16 (P x)).toArray,undef,undef,undef,undef,undef,undef,undef,undef,undef,undef,undef,undef,undef,undef,undef],defers:= [] })
  (λx a' _ X Y row h hg hr => by
   obtain⟨Bx,e1,e2,e3⟩:=h;exact⟨Bx,e1,zI (β:=Unit) Bx 16 _ () X Y row e2 hg (λr e=>(hr r e).2),e3⟩) ?assign ?body ?done ?stop
 case assign=>
  rintro l pre x W K ⟨hS,hL,hT,hB⟩ hK;dsimp only [fE];have yM:=hL.lt (by omega);obtain⟨W1,nX,-,au,zH⟩:=nA W 16 (λ_=>0) 22
  gi_wp2_with (refine XR rfl _ _ _ rfl W.heap.size 16 _ (P x) rfl rfl (by rw [<-nX];exact zH) (dW _) ?_;intro W2 bG ai aD CF)
  rw [<-nX]at ai;have aU:=au.trans ai;refine hK _ _ (Ir _ aU) (Ku.out _ _ (aU.mono hB.size)) ⟨hS.to (by omega) aU,hL.to (by omega) aU,aeQ hT aU,hB.trans (aU.mono hB.size)⟩ ⟨W.heap.size,yM,bG,rfl⟩
 case body=>
  rintro l pre x a' W hl ⟨r,hr⟩ h1 h2 hlt;exact absurd hlt (by omega)
 case done=>
  rintro D ys W hD rfl ⟨hS,hL,hT,hB⟩ hK;rw [XO f s P N (by omega)]at hS hL;dsimp only at hS hL;go_upto_region 6 with fail;refine wp_region_noPanic ?_;refine wp_region_held_drew (S:=λW=>Ar W gS 16 (nG f s P N)/\Ar W gL 16 (bS zF s N)/\(World.heap W)[D]?=some (.deferred (some []))/\Below w.heap.size w W) (by kernel_rfl) ⟨hS.drew,hL.drew,hK,hB.drew⟩ (λaa=> ?_);clear hS hL hK hB hT;generalize World.drew W=ed at*;refine tm 0 (λW hSw=>hSw.1.range) Tryz.iT rfl (dW _) ?_;refine tm 1 (λW hSw=>hSw.2.1.range) Tryz.iT rfl (dW _) ?_;refine rd 2 rfl (λK hK=> ?_);rw [if_pos (by rfl)];refine wp_store_mid _ _ _ rfl gS 0 (ae 16 (nG f s P N)).toArray rfl rfl (aa.1).there (dW _) (all_oneCell_toArray (dz 16 (nG f s P N))) ?_;dsimp only [List.toList_toArray];refine hK.out _ _ ⟨(aa.1).whole (nG f s P N),(aa.2.1).apart (b:=gS) (by omega) (ae 16 (nG f s P N)) 0,(Nq _ _ _ _).same D _ (aa.2.2.1) rfl,(aa.2.2.2).trans (Below.setCells (Below.refl w.heap.size _) (b:=gS) (by omega) (ae 16 (nG f s P N)) 0)⟩ ?_;clear hK K aa;intro aa;generalize World.setCells ed gS 0 (ae 16 (nG f s P N))=e1 at*;try simp only [Act.put]
  refine rd 3 rfl (λK hK=> ?_);rw [if_pos (by rfl)];refine wp_store_mid _ _ _ rfl gL 0 (ae 16 (bS zF s N)).toArray rfl rfl (aa.2.1).there (dW _) (all_oneCell_toArray (dz 16 (bS zF s N))) ?_;dsimp only [List.toList_toArray];refine hK.out _ _ ⟨(aa.1).apart (b:=gL) (by omega) (ae 16 (bS zF s N)) 0,(aa.2.1).whole (bS zF s N),(Nq _ _ _ _).same D _ (aa.2.2.1) rfl,(aa.2.2.2).trans (Below.setCells (Below.refl w.heap.size _) (b:=gL) (by omega) (ae 16 (bS zF s N)) 0)⟩ ?_;clear hK K aa;intro aa;generalize World.setCells e1 gL 0 (ae 16 (bS zF s N))=e2 at*;try simp only [Act.put]
  refine wpAnyH_done (by kernel_rfl) ?_ _;refine NoPanic.normal ?_;obtain⟨Yl,nY,nZ,bD⟩:=aa;go_wp2_with fail;refine⟨by simp,.inl ⟨_,_,rfl,run_takeDeferred nZ,?_⟩⟩;have iK:=grownBy_putObj' e2 D (.deferred none);have yN: ∀r,some D=some r-> ∃o:Obj,e2.heap[r]?=some o/\o.isCells=false:=λr e=>by cases e;exact⟨_,nZ,rfl⟩
  have uG:=zI (β:=Unit) gS 16 _ () _ _ _ Yl iK yN;have qf:=zI (β:=Unit) gL 16 _ () _ _ _ nY iK yN;exact⟨_,aeN rfl rfl rfl uG qf Tryz.iT (dW _) (dW _),rfl,bD.trans (belowK_b (w:=w) (Nat.le_refl _) e2 D _ _ (Nat.le_trans Ns hD) nZ rfl rfl)⟩
 case stop=>
  rintro D c pre W _ _ h _;exact h.elim
end
section
open Go.RowKit
open Go.Shelf
def qP (W:World) (g:Nat) (v:Value) (f:Nat->Nat):Prop:=g<W.heap.size/\ ∃W0:World,W0.heap.size<=g+1/\tq W0 v f/\Below W0.heap.size W0 W
section
variable {W W':World} {g b:Nat} {v:Value} {f:Nat->Nat}
theorem qP.lt (h:qP W g v f):g<W.heap.size:=h.1
theorem qP.to (h:qP W g v f) (hb:Below W.heap.size W W'):qP W' g v f:=by
 obtain⟨h1,W0,h2,h3,h4⟩:=h;exact⟨Nat.lt_of_lt_of_le h1 hb.size,W0,h2,h3,h4.trans (hb.mono h4.size)⟩
theorem qP.keep (h:qP W g v f) (hl:g<b) (hb:Below b W W'):qP W' g v f:=by
 obtain⟨h1,W0,h2,h3,h4⟩:=h;exact⟨Nat.lt_of_lt_of_le h1 hb.size,W0,h2,h3,h4.trans (hb.mono (by omega))⟩
theorem qP.drew (h:qP W g v f):qP W.drew g v f:=h.to (Below.refl _ _).drew
theorem qP.apart (h:qP W g v f) (hl:g<b) (vs:List Value) (o:Nat):qP (W.setCells b o vs) g v f:=h.keep hl (below_setCells _ _ _ _)
theorem qP.tab (h:qP W g v f):tq W v f:=by
 obtain⟨_,W0,_,h3,h4⟩:=h;exact h3.to h4
theorem qP.new (h:tq W v f) (hp:0<W.heap.size):qP W (W.heap.size-1) v f:=⟨by omega,W,by omega,h,Below.refl _ _⟩
end
def Iu (w:World) (q:Option Addr) (f:Nat->Nat):Prop:=
 ∀V,Below w.heap.size w V->Calls Tryz.prog 186 #[.pointer q] V λe V'=> ∃q',e= .returned (.pointer q')/\tq V' (.pointer q') f/\Below V.heap.size V V'
theorem Iu.to {w w':World} {q:Option Addr} {f:Nat->Nat} (h:Iu w q f) (hb:Below w.heap.size w w'):Iu w' q f:=λV hV=>h V (hb.trans (hV.mono hb.size))
theorem aeR (a:Addr) (f:Nat->Nat) (w:World) (h:tq w (.pointer (some a)) f):Iu w (some a) f:=λV hV=>by
 have h2:=Hi (h.to hV);clear h hV;go_enter Tryz.func186,Tryz.ntmps186;go_wp2_with fail;go_ret;exact⟨_,rfl,h2.out,Below.refl _ _⟩
theorem aeS {f s:Nat->Nat} {l:List UInt8} {n N o:Nat} (hl:l.length=n) (hN:n/16=N) (ho:16*N=o):ah (nG f s (pt l) N) (wG f s (bS zF s N) (l.drop o))=wH f s l:=by
 subst hl;subst hN;subst ho;rfl
theorem Kv {n N o:Nat} (hn:n<=1000000) (hN:n/16=N) (ho:16*N=o):((n:Int)).tdiv 16=(N:Int)/\(n:Int)/16=(N:Int)/\wrap64 ((N:Int)*16)=(o:Int)/\IntKind.i64.wrap ((N:Int)*16)=(o:Int)/\(N:Int)*16=(o:Int)/\IntKind.i64.wrap (o:Int)=(o:Int)/\IntKind.i64.wrap (N:Int)=(N:Int):=by
 refine⟨by rw [Int.tdiv_eq_ediv_of_nonneg (by omega)];omega,by omega,?_,?_,by omega,fO _ (by omega) (by omega),fO _ (by omega) (by omega)⟩
 ·rw [IntWalk.wrap64_in _ (by omega)];omega
 ·rw [fO _ (by omega) (by omega)];omega
theorem XT {f s o:Nat->Nat} {l:List UInt8} {n:Nat} (hl:l.length=n) (h:n=0\/16<=n):wG f s o l=zF:=by
 unfold wG;rw [if_pos (by omega)]
theorem hrest (v:Value) (f o:Nat->Nat) (A:Option Addr) (n c:Nat) (l:List UInt8) (w:World) (hf:aj f) (ho:aj o) (hS:Sl w w.heap.size A n l) (ht:tq w v f) (hx:eX w) (qQ:n<=0):
  Calls Tryz.prog 188 #[v,.agg (ae 16 o).toArray,.slice A n c] w λe w'=>e= .returned (.agg (ae 16 (wG f (aJ f zF) o l)).toArray)/\Below w.heap.size w w':=by
 obtain⟨kK,bO⟩:=Le ((ae 16 (o)).toArray);obtain⟨w1,af,ak,aW,jU⟩:=nA w 16 (o) 22;obtain⟨w2,ag,aD,bU,iJ⟩:=fw ak aW 16 (λ_=>0) 22;have iB:=jU.alloc (by omega) (.cells (ae 16 (λ_=>0)).toArray 22);rw [<-ag]at iB;clear jU aW;have HKK:=Hi bO;rw [bO]at af;rw [bO];clear bO;have hz:=jf;have z0:=Hi Nt;have hlen:=hS.len;obtain⟨dh,El,aQ,gD,HX⟩:=jX hf ho (show aj (aJ f zF)from fM hf jw 10) hS hx;obtain⟨p,hV,hC,uE⟩:=ht;obtain⟨HV,HC,AU⟩:=dD hV hC uE;obtain⟨s,vB⟩:=Le (aJ f zF);rw [vB]at aQ HV;rw [vB];clear hf ho hS hx hV hC uE vB;go_enter Tryz.func188,Tryz.ntmps188;go_upto_region 1 with fail;rw [<-af,<-ag];clear af ag;try simp only [Nat.add_assoc,Nat.reduceAdd]
 obtain⟨gR,hgR⟩:=Le (w.heap.size+1);rw [hgR]at iJ;try rw [hgR]
 have jD:w.heap.size<gR:=by omega
 clear ak aD hgR;by_cases uZ:16<=n
 ·exact absurd uZ (by omega)
 ·have Ym:n<16:=by omega
  obtain⟨P,XX⟩:=Le (lF (kH l 16));have yL:=Hi (show aj P by rw [<-XX];exact λ_ _=>qx _ _);have Em:=UD A n c l w2 ((gD.out.below bU).more bU.size) Ym;rw [XX]at Em;obtain⟨Iw,yO⟩:=aB XX Em;clear Em XX;go_wp2_with fail;refine(yO.out).mono ?_;rintro e x3 ⟨rfl,hq⟩;have xJ:=iB.t hq;have mQ:=iJ.t hq;have dJ:=Tq bU hq;clear hq iB iJ bU;clear yO;obtain⟨gb,hgb⟩:=Le (x3.heap.size);have Yn:w.heap.size<gb:=by rw [<-hgb];exact xJ.lt (by omega)
  have Yo:gR<gb:=by rw [<-hgb];exact mQ.lt (by omega)
  have Nu:w.heap.size<=gb:=by rw [<-hgb];exact dJ.size
  have hq:=Ba x3 (.cells (ae 16 λ_=>0).toArray 22);have Nv:=xJ.t hq;have FZ:=mQ.t hq;have XZ:=Ar.new x3 16 (λ_=>0) 22;have Bb:=dJ.alloc dJ.size (.cells (ae 16 λ_=>0).toArray 22);rw [hgb]at XZ;clear hq xJ mQ dJ;go_upto_region 2 with (first|(refine bC rfl _ _ _ rfl _ _ _ (P) rfl rfl XZ (ay _) ?_;intro x4 Yv pg Iy Iz)|fail);have qy:=(Nv).keep Yn pg;have xK:=(FZ).keep Yo pg;have iZ:=Bb.trans (pg.mono Nu);clear Nv FZ XZ Bb pg Iy Iz hgb;try dsimp only [Act.put]
  by_cases qQ:n=0
  ·have hni:(n:Int)=0:=(by omega);go_wp2_with (first|(refine oH rfl _ _ rfl [] rfl _ (z0.out _) ?_)|(refine bC rfl _ _ _ rfl _ _ _ (λ_=>0) rfl rfl xK (ay _) ?_;intro y8 Nw mR CG zJ));refine dU rfl rfl Nw Tryz.aM (ay _) rfl ⟨by rw [XT hlen (.inl qQ)];rfl,iZ.trans (mR.mono (by omega))⟩
  ·omega
theorem hsum (q:Option Addr) (f s:Nat->Nat) (A:Option Addr) (n c:Nat) (l:List UInt8) (w:World) (hf:aj f) (hs:aJ f zF=s) (hS:Sl w w.heap.size A n l) (hnc:n<=c) (hn:n<=0) (hm:Iu w q f) (hx:eX w):
  Calls Tryz.prog 155 #[.pointer q,.slice A n c] w λe w'=>e= .returned (.agg (ae 16 (wH f s l)).toArray)/\Below w.heap.size w w':=by
 have XW:=Hi hn;replace hn:n<=1000000:=by omega
 obtain⟨w1,af,ak,aW,Bc⟩:=nA w 16 (λ_=>0) 22;have hz:=jf;have hlen:=hS.len;obtain⟨HLEN,dh,HS,HM,HX,HN,nW,aQ⟩:=uH hlen hf hS hm hx hn hs (show aj s by rw [<-hs];exact fM hf jw 10);obtain⟨N,hN⟩:=Le (n/16);obtain⟨o,ho⟩:=Le (16*N);obtain⟨zK,eF,HO⟩:=dD (Kv hn hN ho) hN ho;obtain⟨A9,hsl,lG⟩:=zL A n c o (by omega) hnc;obtain⟨qR,kI,CJ⟩:=dD hsl lG (show N<=1000000 by omega);clear hf hS hm hx hn hs hN ho hsl lG hlen hnc;go_enter Tryz.func155,Tryz.ntmps155;go_upto_region 1 with fail;rw [<-af];clear af;try simp only [Nat.add_assoc,Nat.reduceAdd]
 clear ak;go_wp2_with fail;refine(HM.out _ aW).mono ?_;rintro e x1 ⟨q1,rfl,qz,hq⟩;obtain⟨gM,X6⟩: ∃g,x1.heap.size-1=g:=⟨_,rfl⟩;have F3:qP x1 gM (.pointer q1) f:=by rw [<-X6];exact qP.new qz (Nat.lt_of_lt_of_le (Nat.zero_lt_of_lt (Bc.lt (by omega))) hq.size)
 clear qz X6;have jG:=Bc.t hq;have aT:=Tq aW hq;clear hq Bc aW;have Rj:=Hi (XU A n c l x1 ((HS.out.below aT).more aT.size) HN.out);go_wp2_with fail;refine(Rj.out).mono ?_;rintro e x2 ⟨gA,Bs,rfl,la,lb,lc,hcB,Rk,hq⟩;obtain⟨IA,tC,CK⟩:=dD hcB Rk lc;clear hcB Rk la lb lc Rj;have pq:=jG.t hq;have Bd:=F3.to hq;have di:=Tq aT hq;clear hq jG F3 aT;go_wp2_with fail;refine(aeP q1 f s (pt l) N 211 #[.pointer (some ⟨Bs,0,none⟩)] (rX x2.heap.size Bs) (λpre=> ∃k,k<=n/16/\pre=List.range k) x2 dh.out nW.out (λk j _=>qA _ _ _) (by have:=XW.out;have:=eF.out;omega) Bd.tab (HX.out.keep di) (enters_of Tryz.func211 (by kernel_rfl) rfl) (eF.out▸aeT 4 (by omega) Bs x2.heap.size _ n n l HN.out (Nat.le_refl _) x2 (Nat.le_refl _) CK.out IA.out tC.out) (λh k=>h.trans k) (rX.putObj (Nat.le_refl _) CK.out) (λ_ _ h=>⟨h,h.block Bs CK.out⟩)).mono ?_;rintro e x3 ⟨rfl,hq⟩;have mQ:=pq.t hq;have X0:=Bd.to hq;have dJ:=Tq di hq;clear hq pq Bd di;clear IA tC CK;obtain⟨v1,iq,Ny,hq,X7⟩:=nA x3 16 (λ_=>0) 22;have Nz:=mQ.t hq;have X8:=X0.to hq;have F4:=Tq dJ hq;have Ya:gM<x3.heap.size:=X0.lt;have Yb:w.heap.size<x3.heap.size:=mQ.lt (by omega);clear hq mQ X0 dJ;obtain⟨v2,eB⟩:=Lv (v1.alloc (.cells (ae 16 λ_=>0).toArray 22));have hq:=Bl eB;have En:=Nz.t hq;have Yc:=X8.to hq;have Yd:=X7.t hq;have F5:=Tq F4 hq;have Ye:=tF eB Ny
 clear hq Ny Nz X8 X7 F4;go_upto_region 3 with (first|(refine bC rfl _ _ _ rfl _ _ _ (nG f s (pt l) N) rfl rfl (by rw [<-iq,<-eB];exact Yd) (ay _) ?_;intro y8 X3 mR CG zJ)|(refine bC rfl _ _ _ rfl _ _ _ (bS zF s N) rfl rfl (zJ _ _ _ (by omega) (by rw [<-iq,<-eB];exact Ye)) (ay _) ?_;intro y9 X4 yP UE UF)|fail);rw [<-iq,<-eB]at mR;obtain⟨gU,XV⟩:=Le (x3.heap.size);obtain⟨gO,jg⟩:=Le (x3.heap.size+1);have Yp:gU<gO:=by omega
 try rw [jg]
 try rw [XV]
 rw [XV]at X3 mR Ya Yb;rw [jg]at X4 yP;have Yf:=X3.keep Yp yP;have Yg:=(En.keep Yb mR).keep (by omega) yP;have Yh:=(Yc.keep Ya mR).keep (by omega) yP;have Kw:=(F5.trans (mR.mono (by omega))).trans (yP.mono (by omega));clear X3 mR yP En Yc F5 Yd Ye CG UE zJ UF iq eB XV jg;try dsimp only [Act.put]
 refine wp_region_noPanic ?_;have Yq:=Yh.drew;have qN:=Yg.drew;refine wp_region_held_drew (S:=λW=>Ar W gU 16 (nG f s (pt l) N)/\Ar W gO 16 (bS zF s N)/\Below w.heap.size w W) (by kernel_rfl) ⟨Yf.drew,X4.drew,Kw.drew⟩ (λaa=> ?_);clear Yf X4 Yh Kw Yg;generalize World.drew y9=ad at*;refine tm 0 (λW hSw=>hSw.1.range) Tryz.aM rfl (ay _) ?_;refine ty 1 rfl ?_;refine tm 2 (λW hSw=>hSw.2.1.range) Tryz.aM rfl (ay _) ?_;refine ty 3 rfl ?_;refine ty 4 rfl ?_;refine ty 5 rfl ?_;refine ty 6 rfl ?_ (λW hSw=>by obtain⟨j1,j2,j3,j4,j5,j6,j7⟩:=zK.out;go_simp;try with_reducible rfl);refine ty 7 rfl ?_ (λW hSw=>by obtain⟨j1,j2,j3,j4,j5,j6,j7⟩:=zK.out;go_simp;try with_reducible rfl);refine ty 8 rfl ?_ (λW hSw=>by have NA:=qR.out;go_simp;try with_reducible rfl);refine rq 9 rfl (hrest (.pointer q1) f (bS zF s N) A9 (n-o) (c-o) (l.drop o) _ dh.out (mP jw aQ.out N) (kI.out _ _ _ ((HS.out.below (aa.2.2)).more (aa.2.2).size)) Yq.tab (HX.out.keep (aa.2.2)) (by have:=XW.out;omega)) aa ?_;clear aa;intro a8 hq aa;rw [nW.out];have NB:=qN.t hq;clear hq qN;try simp only [nr]
 refine rq 10 rfl (vk (nG f s (pt l) N) (wG f s (bS zF s N) (l.drop o)) _ (Np dh.out aQ.out (λk j _=>qA _ _ _) N) (Ri dh.out aQ.out (mP jw aQ.out N) _)) aa ?_;clear aa;intro a9 hq aa;have X5:=NB.t hq;clear hq NB;try simp only [nr]
 refine rd 11 rfl (λK hK=> ?_);rw [if_pos (by rfl)];refine wp_store_mid _ _ _ rfl w.heap.size 0 (ae 16 (ah (nG f s (pt l) N) (wG f s (bS zF s N) (l.drop o)))).toArray rfl rfl X5.there (ay _) (all_oneCell_toArray (dz 16 (ah (nG f s (pt l) N) (wG f s (bS zF s N) (l.drop o))))) ?_;have Yi:=X5.whole (ah (nG f s (pt l) N) (wG f s (bS zF s N) (l.drop o)));dsimp only [List.toList_toArray];refine hK.out _ _ ⟨(aa.1).apart (b:=w.heap.size) (by omega) (ae 16 (ah (nG f s (pt l) N) (wG f s (bS zF s N) (l.drop o)))) 0,(aa.2.1).apart (b:=w.heap.size) (by omega) (ae 16 (ah (nG f s (pt l) N) (wG f s (bS zF s N) (l.drop o)))) 0,(aa.2.2).trans (Below.setCells (Below.refl w.heap.size _) (b:=w.heap.size) (by omega) (ae 16 (ah (nG f s (pt l) N) (wG f s (bS zF s N) (l.drop o)))) 0)⟩ ?_;clear hK K aa X5;intro aa;generalize World.setCells a9 w.heap.size 0 (ae 16 (ah (nG f s (pt l) N) (wG f s (bS zF s N) (l.drop o))))=a10 at*;try simp only [Act.put]
 refine wpAnyH_done (by kernel_rfl) ?_ _;have bI:=Yi;have bD:=aa.2.2;clear aa Yi;refine NoPanic.normal ?_;go_wp2_with fail;refine dU rfl rfl bI Tryz.aM (ay _) rfl ⟨by rw [aeS HLEN.out eF.out HO.out],bD⟩
end
section
open Go.RowKit
theorem aaa (g o n c i:Nat) (f:Nat->Nat) (w:World) (hi:16*i+16<=n) (hnc:n<=c) (Yw:n<=1000000) (hcell: ∀j,j<16->w.cell? ⟨g,o+16*i+j,none⟩=some (.int .u8 (f j:Nat))) (hg:g<w.heap.size):
  Calls Tryz.prog 158 #[.slice (some ⟨g,o,none⟩) n c,.int .i64 (i:Int)] w λe w'=>e= .returned (.agg (ae 16 f).toArray)/\Below w.heap.size w w':=by
 have hz:=vw;obtain⟨w2,ag,-,ai,aA⟩:=nA w 16 (λ_=>0) 22;obtain⟨s,hs⟩:=Le (16*i);have hr:w2.rangeAt g (o+s) (ae 16 f):=λj v hv=>by
  obtain⟨hj,rfl⟩:=xM hv;rw [ag,World.cell?_alloc_lt w _ ⟨g,o+s+j,none⟩ hg,<-hs];exact hcell j hj
 have e1:wrap64 (16*(i:Int))=(s:Int):=by rw [IntWalk.wrap64_in _ (by omega)];omega
 have e2:IntKind.i64.wrap (16*(i:Int))=(s:Int):=by rw [fO _ (by omega) (by omega)];omega
 have e3:16*(i:Int)=(s:Int):=by omega
 have e4:(s:Int)+16<=(c:Int):=by omega
 clear hs hcell;go_enter Tryz.func158,Tryz.ntmps158;go_upto_region 1 with fail;rw [<-ag];clear ag;have hat:=aab;have e5:s+16-s=16:=by omega
 go_wp2_with (first
  |(refine wpList_load_mid rfl _ _ rfl g (o+s) rfl (ae 16 f) _ hr Tryz.iT rfl (dW _) ?_)
  |(refine bC rfl _ _ _ rfl _ _ _ f rfl rfl aA (dW _) ?_;intro w8 bg aY _ _))
 refine dU rfl rfl bg Tryz.iT (dW _) rfl ⟨rfl,?_⟩;exact ai.trans (aY.mono (by omega))
theorem aac {w:World} {B n b o:Nat} {xs:List UInt8} (h:Sl w B (some ⟨b,o,none⟩) n xs) (k:Nat) (hk:16*k+16<=n) (j:Nat) (hj:j<16):w.cell? ⟨b,o+16*k+j,none⟩=some (.int .u8 (pt xs k j:Nat)):=by
 have:=UG h k hk j _ (oG 16 _ j hj)
 rwa [Addr.add_mid]at this
theorem Ky {P:Program} {c:Code} {Q:Exit->Act->World->Prop} {a:Act} {w:World} {T:Act} (F:World->Prop) (h1:Code.wp P c (λe a w=>e= .normal/\a=T/\F w) a w) (h2: ∀w,F w->Q .normal T w):Code.wp P c Q a w:=
 Code.wp_mono (λe a w h=>by obtain⟨rfl,rfl,h⟩:=h;exact h2 w h) h1
theorem NC {P:Program} {c:Code} {Q:Exit->Act->World->Prop} {a:Act} {w:World} {T:Nat->Act} (F:Nat->World->Prop) (h1:Code.wp P c (λe a w=>e= .normal/\ ∃g,a=T g/\F g w) a w) (h2: ∀g w,F g w->Q .normal (T g) w):Code.wp P c Q a w:=
 Code.wp_mono (λe a w h=>by obtain⟨rfl,g,rfl,h⟩:=h;exact h2 g w h) h1
theorem UH {k q:Nat} (h:k+1=q) (hk:k<1000000):(k:Int)+1=(q:Int)/\wrap64 ((k:Int)+1)=(q:Int)/\IntKind.i64.wrap ((k:Int)+1)=(q:Int)/\wrap64 (q:Int)=(q:Int)/\IntKind.u64.wrap (q:Int)=(q:Int)/\IntKind.i64.wrap (q:Int)=(q:Int):=by
 subst h;refine⟨by omega,?_,?_,IntWalk.wrap64_in _ (by omega),Eo _ (by omega) (by omega),fO _ (by omega) (by omega)⟩
 ·rw [IntWalk.wrap64_in _ (by omega)];omega
 ·rw [fO _ (by omega) (by omega)];omega
theorem UI {n N o:Nat} (hn:n<=1000000) (hN:n/16=N) (ho:16*N=o):wrap64 (16*(N:Int))=(o:Int)/\IntKind.i64.wrap (16*(N:Int))=(o:Int)/\16*(N:Int)=(o:Int)/\IntKind.i64.wrap (o:Int)=(o:Int):=by
 refine⟨?_,?_,by omega,fO _ (by omega) (by omega)⟩
 ·rw [IntWalk.wrap64_in _ (by omega)];omega
 ·rw [fO _ (by omega) (by omega)];omega
theorem aeU {f s:Nat->Nat} {l:List UInt8} {n N r:Nat} (hl:l.length=n) (hN:n/16=N) (hr:n%16=r) (h:r=0):nG f s (pt l) N=wH f s l:=by
 subst hl;subst hN;unfold wH;rw [XT rfl (.inl (by rw [List.length_drop];omega)),aeM]
theorem aad {n r:Nat} (hr:n%16=r):((n:Int)).tmod 16=(r:Int)/\(n:Int)%16=(r:Int):=by
 refine⟨?_,by omega⟩;rw [Int.tmod_eq_emod_of_nonneg (by omega)];omega
theorem aeV (f s:Nat->Nat) (A:Option Addr) (n c:Nat) (l:List UInt8) (w:World) (hf:aj f) (hs:aJ f zF=s) (hS:Sl w w.heap.size A n l) (hnc:n<=c) (hn:n<=0):
  Calls Tryz.prog 164 #[.agg (ae 432 (aX (ek f) sb)).toArray,.slice A n c] w λe w'=>e= .returned (.agg (ae 16 (wH f s l)).toArray)/\Below w.heap.size w w':=by
 have XW:=Hi hn;replace hn:n<=1000000:=by omega
 obtain⟨dK,hfs,hrow⟩:=Tryz.qa;obtain⟨HS,HW⟩:=aB hfs hrow;clear hfs hrow;obtain⟨kE,dZ⟩:=Le ((ae 432 (aX (ek f) sb)).toArray);obtain⟨w1,af,ak,aW,iC⟩:=nA w 432 (aX (ek f) sb) 35;obtain⟨w2,ag,aD,bU,iJ⟩:=fw ak aW 16 (λ_=>0) 22;have fZ:=iC.alloc (by omega) (.cells (ae 16 (λ_=>0)).toArray 22);rw [<-ag]at fZ;clear iC aW;have UA:=Hi dZ;rw [dZ]at af;rw [dZ];clear dZ;have hz:=jf;have hlen:=hS.len;obtain⟨HLEN,dh,gD,aQ,hst⟩:=jX hlen hf hS (show aj s by rw [<-hs];exact fM hf jw 10) (λV=>Rl f V hf jw);rw [hs]at hst;obtain⟨N,hN⟩:=Le (n/16);obtain⟨o,ho⟩:=Le (16*N);obtain⟨r,hr⟩:=Le (n%16);obtain⟨zK,Ep,jo,HRR,eF,HO⟩:=qB (Kv hn hN ho) (UI hn hN ho) (aad hr) hr hN ho;obtain⟨A9,hsl,lG⟩:=zL A n c o (by omega) hnc;obtain⟨qR,kI,CJ,HN,fP,yL⟩:=qB hsl lG (show N<=1000000 by omega) hn hnc (λk (j:Nat) (_:j<16)=>qA l k j);clear hf hS hn hs hN ho hr hsl lG hlen hnc;go_enter Tryz.func164,Tryz.ntmps164;go_upto_region 1 with fail;rw [<-af,<-ag];clear af ag;try simp only [Nat.add_assoc,Nat.reduceAdd]
 obtain⟨gR,hgR⟩:=Le (w.heap.size+1);rw [hgR]at iJ;try rw [hgR]
 have jD:w.heap.size<gR:=by omega
 clear ak aD hgR;go_wp2_with (refine wpList_load_mid rfl _ _ rfl w.heap.size 0 rfl (ae 432 (aX (ek f) sb)) _ fZ.range HS.out HW.out (nE _) ?_);refine(hst.out _).mono ?_;rintro e x1 ⟨rfl,hq⟩;have jY:=fZ.t hq;have jG:=iJ.t hq;have aT:=Tq bU hq;clear hq fZ iJ bU;obtain⟨gs,hgs⟩:=Le (x1.heap.size);have ND:w.heap.size<gs:=by rw [<-hgs];exact jY.lt (by omega)
 have UJ:gR<gs:=by rw [<-hgs];exact jG.lt (by omega)
 have NF:w.heap.size<=gs:=by rw [<-hgs];exact aT.size
 have hq:=Ba x1 (.cells (ae 16 λ_=>0).toArray 22);have xN:=jY.t hq;have xO:=jG.t hq;have Be:=Ar.new x1 16 (λ_=>0) 22;have qU:=aT.alloc aT.size (.cells (ae 16 λ_=>0).toArray 22);rw [hgs]at Be;clear hq jY jG aT;go_upto_region 2 with (first|(refine bC rfl _ _ _ rfl _ _ _ (s) rfl rfl Be (ay _) ?_;intro x2 Er jh yQ yR)|fail);have og:=(xN).keep ND jh;have pq:=(xO).keep UJ jh;have di:=qU.trans (jh.mono NF);clear xN xO Be qU jh yQ yR hgs;try dsimp only [Act.put]
 obtain⟨x3,Kz,-,hq,XY⟩:=nA x2 16 (λ_=>0) 22;have qg:=og.t hq;have mQ:=pq.t hq;have CL:=Er.t hq;have dJ:=Tq di hq;have Yr:gs<x2.heap.size:=Er.lt (by omega);clear hq og pq Er di;go_upto_region 3 with fail;rw [<-Kz];clear Kz;obtain⟨gU,XV⟩:=Le (x2.heap.size);try rw [XV]
 rw [XV]at XY Yr;clear XV;obtain⟨x4,Yj,-,hq,Es⟩:=nA x3 16 (λ_=>0) 22;have tH:=qg.t hq;have xK:=mQ.t hq;have Et:=CL.t hq;have Yk:=XY.t hq;have iZ:=Tq dJ hq;have Yt:gU<x3.heap.size:=XY.lt (by omega);clear hq qg mQ CL XY dJ;go_upto_region 4 with fail;rw [<-Yj];clear Yj;obtain⟨gO,jg⟩:=Le (x3.heap.size);try rw [jg]
 rw [jg]at Es Yt;clear jg;obtain⟨j1,j2,_⟩:=zK.out;have Eu:=CJ.out;go_wp2_with fail;clear j1 j2;have tJ:=(Es.ext (f':=bS zF s 0) (λj _=>by rw [Im];rfl));clear Es;have Es:=tJ;clear tJ;go_loopw [9] (λi wr=> ∃(k:Nat),k<=N/\i= .int .i64 k/\Ar wr w.heap.size 432 (aX (ek f) sb)/\Ar wr gR 16 (λ_=>0)/\Ar wr gs 16 (s)/\Ar wr gU 16 (nG f s (pt l) k)/\Ar wr gO 16 (bS zF s k)/\Below w.heap.size w wr) (λi _=>N-(intOf i).toNat);case atStart=>exact⟨0,Nat.zero_le _,rfl,tH,xK,Et,Yk,Es,iZ⟩
 case round=>
  clear tH xK Et Yk Es iZ;obtain⟨k,hk,rfl,CO,qV,vB,NG,tJ,jy⟩:=hrel;have qC:=CO;have oK:=qV;have vC:=vB;have NH:=NG;have Yu:=tJ;have ib:=jy;clear CO qV vB NG tJ jy;by_cases hlt:k<N
  ·exact absurd hlt (by have:=XW.out;have:=eF.out;omega)
  ·have e:k=N:=(by omega);rw [e]at NH Yu;have i1: ¬(k:Int)<(N:Int):=(by omega);clear e;have Yx:r<16:=(by have:=HRR.out;omega);by_cases jZ:r=0
   ·have j1:(n:Int).tmod 16=0:=(by rw [jo.out.1,jZ];rfl);have j2:(n:Int)%16=0:=(by rw [jo.out.2,jZ];rfl);go_wp2_with (first|(refine bB rfl _ _ rfl _ _ _ rfl NH Tryz.aM (ay _) ?_)|(refine bC rfl _ _ _ rfl _ _ _ (nG f s (pt l) N) rfl rfl oK (ay _) ?_;intro y8 Nw mR CG zJ));refine dU rfl rfl Nw Tryz.aM (ay _) rfl ⟨by rw [aeU HLEN.out eF.out HRR.out jZ],ib.trans (mR.mono (by omega))⟩
   ·exact absurd (by have:=XW.out;have:=HRR.out;omega) jZ
end
section
open Go.RowKit
open Go.Shelf
def By (W:World) (g:Nat) (l:List UInt8):Prop:=g<W.heap.size/\ ∀j u,l[j]?=some u->W.cell? ⟨g,j,none⟩=some (b8 u)
section
variable {W W':World} {g:Nat} {l:List UInt8}
theorem By.lt (h:By W g l):g<W.heap.size:=h.1
theorem By.to (h:By W g l) (hb:Below W.heap.size W W'):By W' g l:=⟨Nat.lt_of_lt_of_le h.1 hb.size,λj u hj=>(hb.cell (p:=⟨g,j,none⟩) h.1).trans (h.2 j u hj)⟩
theorem By.drew (h:By W g l):By W.drew g l:=h
theorem By.sl {n:Nat} (h:By W g l) (hl:l.length=n):Sl W W.heap.size (some ⟨g,0,none⟩) n l:=⟨hl,λ_=>⟨g,0,rfl,h.1,λj u hj=>by rw [Nat.zero_add];exact h.2 j u hj⟩⟩
end
theorem aeW (gT gC:Nat) (f s:Nat->Nat) (w:World) (hs:aJ f zF=s) (hT:Ti w gT (some ⟨gC,0,none⟩) s) (hC:Ci w gC f):Iu w (some ⟨gT,0,none⟩) f:=aeR _ f w (aae gT gC f s w hs hT hC)
end
end
section
open Go.RowKit
def xY (f p a:Nat->Nat):Nat->Nat:=ah (aJ f (ah p a)) a
def iF (P:Nat->Nat->Nat):Nat->Nat->Nat
 |0=>zF
 |k+1=>ah (iF P k) (P k)
def iW (f s a:Nat->Nat) (l:List UInt8) (N j:Nat):Nat:=
 if j<16*N then xY f (pt l (j/16)) (bS a s (j/16+1)) (j%16)else lF l j^^^aJ f (ah (bS a s N) s) (j-16*N)
def tQ (f s a:Nat->Nat) (l:List UInt8):List UInt8:=aP l.length (iW f s a l (l.length/16))
def mD (l:List UInt8):Nat->Nat:=
 if l.length%16=0 then iF (pt l) (l.length/16)else ah (iF (pt l) (l.length/16)) (lF (kH (l.drop (16*(l.length/16))) 16))
def nM (s a:Nat->Nat) (n:Nat):Nat->Nat:=if n%16=0 then bS a s (n/16)else ah (bS a s (n/16)) s
def nC (f s a:Nat->Nat) (l:List UInt8) (t:Nat->Nat):List UInt8:=tQ f s a l++aP 16 t
def uB (f s c o:Nat->Nat) (d:List UInt8):Nat->Nat:=ah (aJ f (ah (ah c o) (dk s 1))) (wH f s d)
section
variable {f s a p:Nat->Nat} {P:Nat->Nat->Nat}
theorem aaM (hf:aj f) (hp:aj p) (ha:aj a):aj (xY f p a):=dL (fM hf (dL hp ha) 10) ha
theorem Gj (hP: ∀k,aj (P k)): ∀n,aj (iF P n)
 |0=>jw
 |n+1=>dL (Gj hP n) (hP n)
theorem aaP (hf:aj f) (hs:aj s) (ha:aj a) (l:List UInt8) (N j:Nat) (hj:j<16*N+16):iW f s a l N j<256:=by
 unfold iW;split
 ·exact aaM hf (λ_ _=>qA _ _ _) (mP ha hs _) _ (Nat.mod_lt _ (by decide))
 ·exact Nat.xor_lt_two_pow (n:=8) (qx _ _) (fM hf (dL (mP ha hs _) hs) 10 _ (by omega))
theorem KR (k m:Nat) (f:Nat->Nat):aP (k+m) f=aP k f++aP m (λj=>f (k+j)):=by
 unfold aP;rw [List.range_add,List.map_append,List.map_map];rfl
theorem RJ {n:Nat} {f g:Nat->Nat} (h: ∀j,j<n->f j=g j):aP n f=aP n g:=by
 unfold aP;apply List.map_congr_left;intro j hj;rw [h j (List.mem_range.1 hj)]
theorem I1 (n:Nat) (f:Nat->Nat) (hf: ∀j,j<n->f j<256):(aP n f).map b8=ae n f:=by
 apply List.ext_getElem?;intro j;rcases Nat.lt_or_ge j n with h|h
 ·rw [List.getElem?_map,VA n f j h,oG n f j h];simp [Bz _ (hf j h),n8]
 ·rw [List.getElem?_eq_none (by simp [xU];exact h),List.getElem?_eq_none (by rw [bz];exact h)]
theorem aaL (l:List UInt8) (N k:Nat) (hk:k<N):aP (16*(k+1)) (iW f s a l N)=aP (16*k) (iW f s a l N)++aP 16 (xY f (pt l k) (bS a s (k+1))):=by
 rw [show 16*(k+1)=16*k+16 by omega,KR];congr 1;refine RJ (λj hj=> ?_);unfold iW;rw [if_pos (by omega),show(16*k+j)/16=k by omega,show(16*k+j)%16=j by omega]
theorem agi (l:List UInt8) (N i:Nat) (hi:16*N<=i):aP (i+1) (iW f s a l N)=aP i (iW f s a l N)++ [UInt8.ofNat (lF l i^^^aJ f (ah (bS a s N) s) (i-16*N))]:=by
 rw [KR];congr 1
 show [UInt8.ofNat (iW f s a l N (i+0))]=_
 unfold iW;rw [Nat.add_zero,if_neg (by omega)]
end
theorem U2 {l:List UInt8} {n N r:Nat} (hl:l.length=n) (hN:n/16=N) (hr:n%16=r) (h:r=0):mD l=iF (pt l) N:=by
 subst hl;subst hN;unfold mD;rw [if_pos (by omega)]
theorem U3 {l:List UInt8} {n N r o:Nat} {P:Nat->Nat} (hl:l.length=n) (hN:n/16=N) (hr:n%16=r) (h:r≠0) (ho:16*N=o) (hP:lF (kH (l.drop o) 16)=P):mD l=ah (iF (pt l) N) P:=by
 subst hl;subst hN;subst ho;subst hP;unfold mD;rw [if_neg (by omega)]
theorem Ve {s a:Nat->Nat} {n N r:Nat} (hN:n/16=N) (hr:n%16=r) (h:r=0):nM s a n=bS a s N:=by
 subst hN;unfold nM;rw [if_pos (by omega)]
theorem Vk {s a:Nat->Nat} {n N r:Nat} (hN:n/16=N) (hr:n%16=r) (h:r≠0):nM s a n=ah (bS a s N) s:=by
 subst hN;unfold nM;rw [if_neg (by omega)]
theorem R6 {f s a:Nat->Nat} {l:List UInt8} {n N:Nat} (hl:l.length=n) (hN:n/16=N):aP n (iW f s a l N)=tQ f s a l:=by
 subst hl;subst hN;rfl
def Po (w:World) (g o n:Nat) (f:Nat->Nat):Prop:= ∀j,j<n->w.cell? ⟨g,o+j,none⟩=some (n8 (f j))/\w.frozen? ⟨g,o+j,none⟩=false
def Ce (w:World) (g:Nat) (v:Value):Prop:=w.cell? ⟨g,0,none⟩=some v/\w.frozen? ⟨g,0,none⟩=false
theorem acz {w:World} {g o:Nat} {v:Value} (h:w.cell? ⟨g,o,none⟩=some v):g<w.heap.size:=by
 rcases Nat.lt_or_ge g w.heap.size with h2|h2
 ·exact h2
 ·simp [World.cell?,Array.getElem?_eq_none h2]at h
section
variable {w w':World} {g o n b:Nat} {f:Nat->Nat} {v:Value}
theorem Po.lt (h:Po w g o n f) (hn:0<n):g<w.heap.size:=acz (h 0 hn).1
theorem Po.keep (h:Po w g o n f) (hg:g<b) (hb:Below b w w'):Po w' g o n f:=λj hj=>
 ⟨(hb.cell (p:=⟨g,o+j,none⟩) hg).trans (h j hj).1,(hb.frozen (p:=⟨g,o+j,none⟩) hg).trans (h j hj).2⟩
theorem Po.to (h:Po w g o n f) (hn:0<n) (hb:Below w.heap.size w w'):Po w' g o n f:=h.keep (h.lt hn) hb
theorem Po.t (h:Po w g o n f) (hb:Below w.heap.size w w') (hn:0<n:=by omega):Po w' g o n f:=h.to hn hb
theorem Po.drew (h:Po w g o n f):Po w.drew g o n f:=h
theorem Po.ext {d:Nat->Nat} (h:Po w g o n f) (he: ∀j,j<n->f j=d j):Po w g o n d:=λj hj=>by rw [<-he j hj];exact h j hj
theorem Po.range (h:Po w g o n f):w.rangeAt g o (ae n f):=λj u hu=>by
 obtain⟨hj,rfl⟩:=xM hu;exact(h j hj).1
theorem Po.there (h:Po w g o n f) (d:Nat->Nat):w.there g o (ae n d).toArray.size:=λj hj=>by
 rw [List.size_toArray,bz]at hj;rw [(h j hj).1];exact⟨rfl,(h j hj).2⟩
theorem Po.off (h:Po w g o n f) (vs:List Value) (o2:Nat) (hd:g≠b\/o+n<=o2\/o2+vs.length<=o):Po (w.setCells b o2 vs) g o n f:=λj hj=>by
 refine⟨?_,by rw [World.frozen?_setCells];exact(h j hj).2⟩;rw [World.cell?_setCells_out b vs o2 w ⟨g,o+j,none⟩ (λe _=>by
  simp only at e⊢;rcases hd with h1|h1|h1
  ·exact absurd e h1
  ·omega
  ·omega)]
 exact(h j hj).1
theorem Po.put (h:Po w g o n f) (d:Nat->Nat):Po (w.setCells g o (ae n d)) g o n d:=λj hj=>by
 refine⟨?_,by rw [World.frozen?_setCells];exact(h j hj).2⟩;exact World.rangeAt_setCells_same w g o (ae n d) (by have:=h.there d;rwa [List.size_toArray]at this) j _ (oG n d j hj)
theorem Ce.lt (h:Ce w g v):g<w.heap.size:=acz h.1
theorem Ce.keep (h:Ce w g v) (hg:g<b) (hb:Below b w w'):Ce w' g v:=⟨(hb.cell (p:=⟨g,0,none⟩) hg).trans h.1,(hb.frozen (p:=⟨g,0,none⟩) hg).trans h.2⟩
theorem Ce.to (h:Ce w g v) (hb:Below w.heap.size w w'):Ce w' g v:=h.keep h.lt hb
theorem Ce.drew (h:Ce w g v):Ce w.drew g v:=h
theorem Ce.off (h:Ce w g v) (vs:List Value) (o2:Nat) (hd:g≠b\/0<o2):Ce (w.setCells b o2 vs) g v:=by
 refine⟨?_,by rw [World.frozen?_setCells];exact h.2⟩;rw [World.cell?_setCells_out b vs o2 w ⟨g,0,none⟩ (λe _=>by
  simp only at e⊢;rcases hd with h1|h1
  ·exact absurd e h1
  ·omega)]
 exact h.1
theorem Ce.put (h:Ce w g v) (u:Value):Ce (w.setCell ⟨g,0,none⟩ u) g u:=⟨World.cell?_setCell_same w _ _ h.1,by rw [World.frozen?_setCell];exact h.2⟩
theorem Po.far (h:Po w g o n f) {p:Addr} (hd:p.block≠g\/p.off<o\/o+n<=p.off) (u:Value):Po (w.setCell p u) g o n f:=λj hj=>by
 refine⟨?_,by rw [World.frozen?_setCell];exact(h j hj).2⟩;rw [World.cell?_setCell_other _ _ _ _ (λe=>by
  subst e;simp only at hd;omega)]
 exact(h j hj).1
end
theorem aja (W:World) (p:Addr) (v:Value):W.grownBy (W.setCell p v) (some p.block):=
 ⟨rfl,rfl,rfl,(KeepsWalks.setCell W _ v).size,λk _ hk=>Below.heap_setCell _ _ _ k (λe=>hk (by rw [e]))⟩
theorem own_ne {W:World} {b g size n:Nat} {e:TypeId} {v:Value} {xs:List Value} (h:W.ownsRow b e size v n xs) (hg:g<b):v.ownBlock≠some g:=λe1=>by
 have:=yg h e1;omega
theorem acA {W:World} {b size n:Nat} {e:TypeId} {v:Value} {xs:List Value} (h:W.ownsRow b e size v n xs) (p:Addr) (hp:p.block<b) (u:Value):(W.setCell p u).ownsRow b e size v n xs:=
 h.kept (aja W p u) (.inr (own_ne h hp))
theorem acB {b size n g:Nat} {e:TypeId} {v:Value} {xs:List Value} (hg:g<b): ∀(vs:List Value) (o:Nat) (W:World),W.ownsRow b e size v n xs->(W.setCells g o vs).ownsRow b e size v n xs
 | [],_,_,h=>h
 |u::r,o,W,h=>acB hg r (o+1) _ (acA h ⟨g,o,none⟩ hg u)
theorem ajb {W W':World} {b size n:Nat} {e:TypeId} {v:Value} {xs:List Value} (h:W.ownsRow b e size v n xs) (hb:Below W.heap.size W W'):W'.ownsRow b e size v n xs:=World.ownsRow.kept h (acC hb) (Classical.em _)
theorem K6 {W:World} {b b' size n:Nat} {e:TypeId} {v:Value} {xs:List Value} (h:W.ownsRow b e size v n xs) (hb:b'<=b):W.ownsRow b' e size v n xs:=by
 refine⟨h.1,?_⟩;rcases h.2 with h1|⟨g,cap,cur,e1,h2,h3⟩
 ·exact .inl h1
 ·exact .inr ⟨g,cap,cur,e1,Nat.le_trans hb h2,h3⟩
theorem own_below {W W':World} {b B size n:Nat} {e:TypeId} {v:Value} {xs:List Value} (h:W.ownsRow b e size v n xs) (hk: ∀k,v.ownBlock=some k->k<B) (hb:Below B W W'):W'.ownsRow b e size v n xs:=by
 refine⟨h.1,?_⟩;rcases h.2 with h1|⟨g,cap,cur,rfl,h2,h3,h4⟩
 ·exact .inl h1
 ·exact .inr ⟨g,cap,cur,rfl,h2,(hb.block g (hk g rfl)).trans h3,h4⟩
theorem acD {W:World} {b size n:Nat} {e:TypeId} {v:Value} {xs:List Value} (h:W.ownsRow b e size v n xs) {k:Nat} (hk:v.ownBlock=some k):k<W.heap.size:=by
 rcases h.2 with ⟨rfl,_⟩|⟨g,cap,cur,rfl,_,h3,_⟩
 ·simp [Value.ownBlock]at hk
 ·simp [Value.ownBlock]at hk;subst hk;exact(Array.getElem?_eq_some_iff.1 h3).1
def Ob (W:World) (b0 g:Nat) (v:Value) (m:Nat) (l:List UInt8):Prop:=g<W.heap.size/\b0<=g+1/\(∀k,v.ownBlock=some k->k<=g)/\jQ W b0 v m l
section
variable {W W':World} {b0 g b m:Nat} {v:Value} {l:List UInt8}
theorem Ob.lt (h:Ob W b0 g v m l):g<W.heap.size:=h.1
theorem Ob.to (h:Ob W b0 g v m l) (hb:Below W.heap.size W W'):Ob W' b0 g v m l:=⟨Nat.lt_of_lt_of_le h.1 hb.size,h.2.1,h.2.2.1,ajb h.2.2.2 hb⟩
theorem Ob.keep (h:Ob W b0 g v m l) (hl:g<b) (hb:Below b W W'):Ob W' b0 g v m l:=⟨Nat.lt_of_lt_of_le h.1 hb.size,h.2.1,h.2.2.1,own_below h.2.2.2 (λk hk=>Nat.lt_of_le_of_lt (h.2.2.1 k hk) hl) hb⟩
theorem Ob.drew (h:Ob W b0 g v m l):Ob W.drew b0 g v m l:=h.to (Below.refl _ _).drew
theorem Ob.apart (h:Ob W b0 g v m l) (hl:g<b) (vs:List Value) (o:Nat):Ob (W.setCells b o vs) b0 g v m l:=h.keep hl (below_setCells _ _ _ _)
theorem Ob.old (h:Ob W b0 g v m l) (hl:b<b0) (vs:List Value) (o:Nat):Ob (W.setCells b o vs) b0 g v m l:=⟨by rw [World.setCells_size];exact h.1,h.2.1,h.2.2.1,acB hl vs o W h.2.2.2⟩
theorem Ob.aaN (h:Ob W b0 g v m l) (p:Addr) (hl:p.block<b0) (u:Value):Ob (W.setCell p u) b0 g v m l:=⟨by simpa [World.setCell]using h.1,h.2.1,h.2.2.1,acA h.2.2.2 p hl u⟩
theorem Ob.new (h:jQ W b0 v m l) (hb:b0<=W.heap.size) (hp:0<W.heap.size):Ob W b0 (W.heap.size-1) v m l:=⟨by omega,by omega,λk hk=>by have:=acD h hk;omega,h⟩
theorem Ob.ne (h:Ob W b0 g v m l) {k:Nat} (hk:g<k):v.ownBlock≠some k:=λe=>by have:=h.2.2.1 k e;omega
theorem Po.apart {n o:Nat} {f:Nat->Nat} (h:Po W g o n f) (hd:g≠b) (vs:List Value) (k:Nat):Po (W.setCells b k vs) g o n f:=h.off vs k (.inl hd)
theorem Ce.apart (h:Ce W g v) (hd:g≠b) (vs:List Value) (k:Nat):Ce (W.setCells b k vs) g v:=h.off vs k (.inl hd)
theorem Wy {g o n:Nat} {f:Nat->Nat} :Cc (λw=>Po w g o n f):=λ_ _ hq h j hj=>h.keep (h.lt (by omega)) hq j hj
theorem pPo {b k:Nat} {vs:List Value} {g o n:Nat} {f:Nat->Nat} (hd:g≠b\/o+n<=k\/k+vs.length<=o):Av b k vs (λw=>Po w g o n f):=λ_ h=>h.off vs k hd
theorem pCe {b k:Nat} {vs:List Value} {g:Nat} {v:Value} (hd:g≠b\/0<k):Av b k vs (λw=>Ce w g v):=λ_ h=>h.off vs k hd
theorem pOb {b k:Nat} {vs:List Value} {b0 g m:Nat} {v:Value} {l:List UInt8} (hd:b<b0\/g<b):Av b k vs (λw=>Ob w b0 g v m l):=λ_ h=>hd.elim (λe=>h.old e vs k) (λe=>h.apart e vs k)
theorem aaS {n size k:Nat} {f:Nat->Nat} {xs:List Value} (h:Wb W g n f 22) (ho:W.ownsRow b 5 size v k xs):v.ownBlock≠some g:=λe=>by
 rcases ho.2 with ⟨rfl,_⟩|⟨g1,cap,cur,rfl,_,h3,_⟩
 ·simp [Value.ownBlock]at e
 ·simp [Value.ownBlock]at e;subst e;have h4:=(show W.heap[g1]?=some (.cells (ae n f).toArray 22 (0,0))from h).symm.trans h3;injection h4 with h4;injection h4 with _ h5;exact absurd h5 (by decide)
theorem aaR {n:Nat} {f:Nat->Nat} {t:TypeId} {row:Option Nat} (h:Wb W g n f t) (hn:0<n) (hg:W.grownBy W' row) (hne:row≠some g):Wb W' g n f t:=(hg.block g (h.ar.lt hn) (λe=>hne e.symm)).trans h
theorem ajc {row:Option Nat} (h:Ce W g v) (hg:W.grownBy W' row) (hne:row≠some g):Ce W' g v:=by
 have hb:=hg.block g h.lt (λe=>hne e.symm);refine⟨?_,?_⟩
 ·have:=h.1;simp only [World.cell?]at this⊢;rw [hb];exact this
 ·have:=h.2;simp only [World.frozen?]at this⊢;rw [hb];exact this
theorem abt {n:Nat} {f:Nat->Nat} {t:TypeId} (h:Wb W g n f t) (hn:0<n) (hb:Below W.heap.size W W'):Wb W' g n f t:=(hb.block g (h.ar.lt hn)).trans h
theorem aaT {n:Nat} {f:Nat->Nat} {t:TypeId} (h:Wb W g n f t) (hb:g≠b) (vs:List Value): ∀o,Wb (W.setCells b o vs) g n f t:=by
 intro o
 induction vs generalizing o W with
 |nil=>exact h
 |cons v r ih=>rw [World.setCells];exact ih ((Below.heap_setCell W ⟨b,o,none⟩ v g hb).trans h) (o+1)
theorem pWb {b k:Nat} {vs:List Value} {g n:Nat} {f:Nat->Nat} {t:TypeId} (hd:g≠b):Av b k vs (λw=>Wb w g n f t):=λ_ h=>aaT h hd vs k
theorem Wb.drew {n:Nat} {f:Nat->Nat} {t:TypeId} (h:Wb W g n f t):Wb W.drew g n f t:=h
theorem agk {n:Nat} {f:Nat->Nat} {t:TypeId} (h:Wb W g n f t) {p:Addr} (hp:p.block≠g) (u:Value):Wb (W.setCell p u) g n f t:=(Below.heap_setCell W p u g (λe=>hp e.symm)).trans h
theorem OE {n:Nat} {f:Nat->Nat} {row:Option Nat} (h:Ar W g n f) (hn:0<n) (hg:W.grownBy W' row) (hne:row≠some g):Ar W' g n f:=λj hj=>by
 have hb:=hg.block g (h.lt hn) (λe=>hne e.symm);refine⟨?_,?_⟩
 ·have:=(h j hj).1;simp only [World.cell?]at this⊢;rw [hb];exact this
 ·have:=(h j hj).2;simp only [World.frozen?]at this⊢;rw [hb];exact this
end
def ik (v:Value) (c o:Nat->Nat):List Value:=v::(ae 16 c++ae 16 o)
theorem ED (v:Value) (c o:Nat->Nat):(ik v c o).length=33:=by simp [ik,bz]
theorem OJ {w:World} {g:Nat} {v:Value} {c o:Nat->Nat} (h0:Ce w g v) (h1:Po w g 1 16 c) (h2:Po w g 17 16 o):w.rangeAt g 0 (ik v c o):=λj u hu=>by
 rw [Nat.zero_add];unfold ik at hu
 match j,hu with
 |0,hu=>obtain rfl:=Option.some.inj hu;exact h0.1
 |j+1,hu=>
  rw [List.getElem?_cons_succ]at hu;rcases Nat.lt_or_ge j 16 with h|h
  ·rw [List.getElem?_append_left (by rw [bz];exact h)]at hu;rw [Nat.add_comm];exact h1.range j u hu
  ·rw [List.getElem?_append_right (by rw [bz];exact h),bz]at hu;have:=h2.range (j-16) u hu
   rwa [show 17+(j-16)=j+1 by omega]at this
theorem acE {w:World} {g:Nat} {v:Value} {c o:Nat->Nat} (h:Cx w g 33 λj=>(ik v c o).getD j undef):Ce w g v/\Po w g 1 16 c/\Po w g 17 16 o:=by
 refine⟨⟨by simpa [ik]using (h 0 (by omega)).1,(h 0 (by omega)).2⟩,λj hj=>⟨?_,(h (1+j) (by omega)).2⟩,λj hj=>⟨?_,(h (17+j) (by omega)).2⟩⟩
 ·rw [(h (1+j) (by omega)).1]
  show some ((ik v c o)[1+j]?.getD undef)=_
  unfold ik;rw [Nat.add_comm,List.getElem?_cons_succ,List.getElem?_append_left (by rw [bz];exact hj),oG 16 c j hj];rfl
 ·rw [(h (17+j) (by omega)).1]
  show some ((ik v c o)[17+j]?.getD undef)=_
  unfold ik;rw [show 17+j=(16+j)+1 by omega,List.getElem?_cons_succ,List.getElem?_append_right (by rw [bz];omega),bz,show 16+j-16=j by omega,oG 16 o j hj];rfl
theorem RO {W:World} {g:Nat} {v:Value} {c:Nat->Value} {k o:Nat->Nat} (h:Cx W g 33 (wV c 0 (ik v k o))):Ce W g v/\Po W g 1 16 k/\Po W g 17 16 o:=
 acE (h.ext λj hj=>by unfold wV;rw [if_pos ⟨Nat.zero_le _,by rw [ED];omega⟩,Nat.sub_zero];rfl)
theorem RL (v:Value) (c o:Nat->Nat):ik v c o=av 33 λj=>(ik v c o).getD j undef:=ajd 33 _ _ (ED v c o) (λj u hu=>by rw [List.getD,hu];rfl)
theorem RN {v:Value} (hv:v.oneCell'=true) (c o:Nat->Nat): ∀u∈ik v c o,u.oneCell'=true:=by
 intro u hu;rcases List.mem_cons.1 hu with rfl|hu
 ·exact hv
 ·rcases List.mem_append.1 hu with h|h
  ·exact dz 16 c u h
  ·exact dz 16 o u h
theorem I9 (g:Nat) (w:World):(Instr.sliceAt 22 (.pointer (some ⟨g,0,none⟩)) none none none).run Tryz.prog w= .ok (.slice (some ⟨g,0,none⟩) 16 16) w:=by
 have hal:Tryz.prog.arrayLen 22=16:=by simp [Program.arrayLen]
 have hel:Tryz.prog.elem 22=5:=by simp [Program.elem]
 have hs:(sizeOf 5).run Tryz.prog w= .ok 1 w:=by kernel_rfl
 rw [run_sliceAt_array_all w 22 ⟨g,0,none⟩ (by rw [hal,hel];exact Tryz.iT),hal,hel,hs];simp [Result.andThen_ok,slicedAt,Addr.add]
theorem Tryz.aaJ: ∃d,Tryz.prog.underlying 213=some d/\d.isRow=true:=by
 have h:(Tryz.prog.underlying 213).map (·.isRow)=some true:=by kernel_rfl
 cases hu:Tryz.prog.underlying 213 with
 |none=>rw [hu]at h;cases h
 |some d=>rw [hu]at h;exact⟨d,rfl,Option.some.inj h⟩
theorem Tryz.Ol:(Tryz.prog.info? 213).map (λi=>(i.zero,i.size))=some (some (.agg (ik (.slice none 0 0) (λ_=>0) (λ_=>0)).toArray),33):=by kernel_rfl
theorem EE (v:Value) (c o:Nat->Nat):(Tryz.prog.info? 213).map (·.size)=some (ik v c o).length:=by rw [ED];exact(zero_of_info Tryz.Ol).2
theorem Ol (w:World):(zeroValue 213).run Tryz.prog w= .ok (.agg (ik (.slice none 0 0) (λ_=>0) (λ_=>0)).toArray) w:=(zero_of_info Tryz.Ol).1 w
theorem aje (o:Nat->Nat):Tryz.prog.built 213 [(2,.agg (ae 16 o).toArray)]=some (ik (.slice none 0 0) (λ_=>0) o).toArray:=by kernel_rfl
theorem agh (o:Nat->Nat) (w:World):(Instr.build 213 #[(2,.agg (ae 16 o).toArray)]).run Tryz.prog w= .ok (.agg (ik (.slice none 0 0) (λ_=>0) o).toArray) w:=run_build w _ _ _ (aje o)
theorem aaO {P:Program} {fn:Func} {R:Ending->World->Prop} {a:Act} {w:World} {p:Tmp} {ty:TypeId} {g:Nat} {cs:List Value} {d:TypeDesc} (hr:fn.results= #[.cell p ty]) (hp:a.tmps.getD p undef= .pointer (some ⟨g,0,none⟩))
  (hA:w.rangeAt g 0 cs) (hu:P.underlying ty=some d) (hrow:d.isRow=true) (hi:(P.info? ty).map (·.size)=some cs.length) (hd:a.defers= []) (hR:R (.returned (.agg cs.toArray)) w):bodyPost P fn R .ret a w:=by
 refine bodyPost_ret (v:= .agg cs.toArray) ?_ hd hR;have hp':a.tmps[p]?.getD undef= .pointer (some ⟨g,0,none⟩):=by simpa using hp
 simp only [results,hr];simp [hp',asAddr,run_loadVar_mid (P:=P) w g 0 ty cs _ hA hu hrow hi]
end
section
open Go.RowKit
def tO (f p a:Nat->Nat):Nat->Nat:=ah (pQ f (ah p a)) a
def eG (f s a:Nat->Nat) (l:List UInt8) (N j:Nat):Nat:=
 if j<16*N then tO f (pt l (j/16)) (bS a s (j/16+1)) (j%16)else lF l j^^^aJ f (ah (bS a s N) s) (j-16*N)
def kr (f s a:Nat->Nat) (l:List UInt8):List UInt8:=aP l.length (eG f s a l (l.length/16))
section
variable {f s a p:Nat->Nat}
theorem Oj (hf:aj f) (hp:aj p) (ha:aj a):aj (tO f p a):=dL (Pb hf 10 (dL hp ha)) ha
theorem akl (hf:aj f) (hp:aj p) (ha:aj a):cO (xY f (tO f p a) a) p:=λj hj=>by
 have h1:cO (ah (tO f p a) a) (pQ f (ah p a)):=D8 _ _;have h2:cO (aJ f (ah (tO f p a) a)) (ah p a):=λi hi=>(Oi f h1 10 i hi).trans (TQ hf 10 (dL hp ha) i hi)
 show ah (aJ f (ah (tO f p a) a)) a j=p j
 rw [iU h2 (λ_ _=>rfl) j hj];exact D8 _ _ j hj
theorem akm (hf:aj f) (hp:aj p) (ha:aj a):cO (tO f (xY f p a) a) p:=λj hj=>by
 have h1:cO (ah (xY f p a) a) (aJ f (ah p a)):=D8 _ _;have h2:cO (pQ f (ah (xY f p a) a)) (ah p a):=λi hi=>(TR f 10 h1 i hi).trans (acZ hf (dL hp ha) 10 i hi)
 show ah (pQ f (ah (xY f p a) a)) a j=p j
 rw [iU h2 (λ_ _=>rfl) j hj];exact D8 _ _ j hj
theorem akn {q:Nat->Nat} (h:cO p q):cO (tO f p a) (tO f q a):=iU (TR f 10 (iU h (λ_ _=>rfl))) (λ_ _=>rfl)
theorem ako {q:Nat->Nat} (h:cO p q):cO (xY f p a) (xY f q a):=iU (Oi f (iU h (λ_ _=>rfl)) 10) (λ_ _=>rfl)
theorem akp (hf:aj f) (hs:aj s) (ha:aj a) (l:List UInt8) (N j:Nat) (hj:j<16*N+16):eG f s a l N j<256:=by
 unfold eG;split
 ·exact Oj hf (λ_ _=>qA _ _ _) (mP ha hs _) _ (Nat.mod_lt _ (by decide))
 ·exact Nat.xor_lt_two_pow (n:=8) (qx _ _) (fM hf (dL (mP ha hs _) hs) 10 _ (by omega))
theorem KQ (l:List UInt8):(kr f s a l).length=l.length:=xU _ _
theorem ac0 {x y:List UInt8} (hl:x.length=y.length) (h: ∀j,j<y.length->lF x j=lF y j):x=y:=by
 apply List.ext_getElem hl;intro j h1 h2;have h3:=h j h2;simp only [lF,List.getD,List.getElem?_eq_getElem h1,List.getElem?_eq_getElem h2,Option.getD_some]at h3;exact UInt8.toNat_inj.1 h3
theorem WY (hf:aj f) (hs:aj s) (ha:aj a) (l:List UInt8) (j:Nat) (hj:j<l.length):lF (kr f s a l) j=eG f s a l (l.length/16) j:=
 VB _ _ (λi hi=>akp hf hs ha l _ i (by omega)) j hj
theorem WZ (hf:aj f) (hs:aj s) (ha:aj a) (l:List UInt8) (j:Nat) (hj:j<l.length):lF (tQ f s a l) j=iW f s a l (l.length/16) j:=
 VB _ _ (λi hi=>aaP hf hs ha l _ i (by omega)) j hj
theorem aaD (hf:aj f) (hs:aj s) (ha:aj a) (l:List UInt8) (k:Nat) (hk:k<l.length/16):cO (pt (kr f s a l) k) (tO f (pt l k) (bS a s (k+1))):=λj hj=>by
 unfold pt;rw [WY hf hs ha l _ (by omega)];unfold eG;rw [if_pos (by omega),show(16*k+j)/16=k by omega,show(16*k+j)%16=j by omega];rfl
theorem akq (hf:aj f) (hs:aj s) (ha:aj a) (l:List UInt8) (k:Nat) (hk:k<l.length/16):cO (pt (tQ f s a l) k) (xY f (pt l k) (bS a s (k+1))):=λj hj=>by
 unfold pt;rw [WZ hf hs ha l _ (by omega)];unfold iW;rw [if_pos (by omega),show(16*k+j)/16=k by omega,show(16*k+j)%16=j by omega];rfl
theorem ac1 (l:List UInt8) (j:Nat):pt l (j/16) (j%16)=lF l j:=by
 unfold pt;congr 1;omega
theorem akr (hf:aj f) (hs:aj s) (ha:aj a) (l:List UInt8):tQ f s a (kr f s a l)=l:=by
 have hl:(kr f s a l).length=l.length:=KQ l;refine ac0 ((xU _ _).trans hl) (λj hj=> ?_);rw [WZ hf hs ha _ j (by rw [hl];exact hj),hl];unfold iW;by_cases h:j<16*(l.length/16)
 ·rw [if_pos h,ako (aaD hf hs ha l (j/16) (by omega)) (j%16) (Nat.mod_lt _ (by decide)),akl hf (λ_ _=>qA _ _ _) (mP ha hs _) (j%16) (Nat.mod_lt _ (by decide))];exact ac1 l j
 ·rw [if_neg h,WY hf hs ha l j hj];unfold eG;rw [if_neg h];exact W9 _ _
theorem ac2 (hf:aj f) (hs:aj s) (ha:aj a) (l:List UInt8):kr f s a (tQ f s a l)=l:=by
 have hl:(tQ f s a l).length=l.length:=xU _ _;refine ac0 ((xU _ _).trans hl) (λj hj=> ?_);rw [WY hf hs ha _ j (by rw [hl];exact hj),hl];unfold eG;by_cases h:j<16*(l.length/16)
 ·rw [if_pos h,akn (akq hf hs ha l (j/16) (by omega)) (j%16) (Nat.mod_lt _ (by decide)),akm hf (λ_ _=>qA _ _ _) (mP ha hs _) (j%16) (Nat.mod_lt _ (by decide))];exact ac1 l j
 ·rw [if_neg h,WZ hf hs ha l j hj];unfold iW;rw [if_neg h];exact W9 _ _
end
theorem abq (f s a:Nat->Nat) (l:List UInt8) (N k:Nat) (hk:k<N):aP (16*(k+1)) (eG f s a l N)=aP (16*k) (eG f s a l N)++aP 16 (tO f (pt l k) (bS a s (k+1))):=by
 rw [show 16*(k+1)=16*k+16 by omega,KR];congr 1;refine RJ (λj hj=> ?_);unfold eG;rw [if_pos (by omega),show(16*k+j)/16=k by omega,show(16*k+j)%16=j by omega]
theorem ahy (f s a:Nat->Nat) (l:List UInt8) (N i:Nat) (hi:16*N<=i):aP (i+1) (eG f s a l N)=aP i (eG f s a l N)++ [UInt8.ofNat (lF l i^^^aJ f (ah (bS a s N) s) (i-16*N))]:=by
 rw [KR];congr 1
 show [UInt8.ofNat (eG f s a l N (i+0))]=_
 unfold eG;rw [Nat.add_zero,if_neg (by omega)]
theorem U4 {f s a:Nat->Nat} {l:List UInt8} {n N:Nat} (hl:l.length=n) (hN:n/16=N):aP n (eG f s a l N)=kr f s a l:=by
 subst hl;subst hN;rfl
def uC (f s a:Nat->Nat) (d l:List UInt8) (n:Nat):Nat->Nat:=uB f s (mD (kr f s a (l.take n))) (nM s a n) d
def opC (f s a:Nat->Nat) (d l:List UInt8):Nat:=if l.length<16 then 1 else if aP 16 (uC f s a d l (l.length-16))=l.drop (l.length-16)then 0 else 3
def Fu (f s a:Nat->Nat) (d l:List UInt8):List UInt8:=if opC f s a d l=0 then kr f s a (l.take (l.length-16))else []
section
variable {f s a:Nat->Nat} {d l:List UInt8} {m n:Nat}
theorem Qx (hl:l.length=m) (h:m<16):opC f s a d l=1:=by unfold opC;rw [if_pos (by omega)]
theorem WW (hl:l.length=m) (hn:m-16=n) (h:16<=m) (ht:aP 16 (uC f s a d l n)=l.drop n):opC f s a d l=0:=by
 subst hl;subst hn;unfold opC;rw [if_neg (by omega),if_pos ht]
theorem acV (hl:l.length=m) (hn:m-16=n) (h:16<=m) (ht:aP 16 (uC f s a d l n)≠l.drop n):opC f s a d l=3:=by
 subst hl;subst hn;unfold opC;rw [if_neg (by omega),if_neg ht]
theorem TL (hl:l.length=m) (hn:m-16=n) (h:opC f s a d l=0):Fu f s a d l=kr f s a (l.take n):=by subst hl;subst hn;unfold Fu;rw [if_pos h]
theorem TI (h:opC f s a d l≠0):Fu f s a d l= []:=by unfold Fu;rw [if_neg h]
theorem ac3 (hf:aj f) (hs:aj s) (ha:aj a) (hl:l.length=m) (hn:m-16=n) (h:16<=m):nC f s a (kr f s a (l.take n)) (uC f s a d l n)=l.take n++aP 16 (uC f s a d l n):=by
 unfold nC;rw [akr hf hs ha]
theorem aks (hf:aj f) (hs:aj s) (ha:aj a) (hl:l.length=m) (hn:m-16=n) (h:16<=m) (ht:aP 16 (uC f s a d l n)=l.drop n):nC f s a (kr f s a (l.take n)) (uC f s a d l n)=l:=by
 rw [ac3 hf hs ha hl hn h,ht,List.take_append_drop]
theorem akt (hf:aj f) (hs:aj s) (ha:aj a) (hl:l.length=m) (hn:m-16=n) (h:16<=m) (ht:aP 16 (uC f s a d l n)≠l.drop n):nC f s a (kr f s a (l.take n)) (uC f s a d l n)≠l:=λe=>by
 rw [ac3 hf hs ha hl hn h]at e;have h2:(l.take n++aP 16 (uC f s a d l n)).drop n=l.drop n:=by rw [e]
 have h3:(l.take n).length=n:=by rw [List.length_take];omega
 apply ht;rw [<-h2];exact(List.drop_left' h3).symm
theorem aj3 (hf:aj f) (hs:aj s) (ha:aj a) (p d:List UInt8):opC f s a d (nC f s a p (uB f s (mD p) (nM s a p.length) d))=0/\Fu f s a d (nC f s a p (uB f s (mD p) (nM s a p.length) d))=p:=by
 obtain⟨t,ht⟩: ∃t,uB f s (mD p) (nM s a p.length) d=t:=⟨_,rfl⟩;have hc:(tQ f s a p).length=p.length:=xU _ _;have hl:(nC f s a p t).length=p.length+16:=by unfold nC;rw [List.length_append,xU,hc]
 have h1:(nC f s a p t).take p.length=tQ f s a p:=by unfold nC;exact List.take_left' hc
 have h2:(nC f s a p t).drop p.length=aP 16 t:=by unfold nC;exact List.drop_left' hc
 have h3:uC f s a d (nC f s a p t) p.length=t:=by unfold uC;rw [h1,ac2 hf hs ha];exact ht
 rw [ht];have h4:opC f s a d (nC f s a p t)=0:=WW hl (Nat.add_sub_cancel ..) (by omega) (by rw [h2,h3]);refine⟨h4,?_⟩;rw [TL hl (Nat.add_sub_cancel ..) h4,h1,ac2 hf hs ha]
end
end
section
open Go.RowKit
open Go.Shelf
theorem abF (f k:Nat->Nat):ah f k=ah k f:=funext λj=>Nat.xor_comm _ _
def uS (f s a:Nat->Nat) (P:Nat->Nat->Nat) (pre:List Nat):List UInt8×(Nat->Nat)×(Nat->Nat):=
 pre.foldl (λp x=>(p.1++aP 16 (ah (ah p.2.2 (qc s x)) (aJ f (ah (P x) (ah p.2.2 (qc s x))))),ah p.2.1 (P x),ah p.2.2 (qc s x))) ([],zF,a)
section
variable {f s a:Nat->Nat} {P:Nat->Nat->Nat}
theorem abG (f s a:Nat->Nat) (P:Nat->Nat->Nat) (pre:List Nat) (x:Nat):
  uS f s a P (pre++ [x])=((uS f s a P pre).1++aP 16 (ah (ah (uS f s a P pre).2.2 (qc s x)) (aJ f (ah (P x) (ah (uS f s a P pre).2.2 (qc s x))))),ah (uS f s a P pre).2.1 (P x),ah (uS f s a P pre).2.2 (qc s x)):=by
 unfold uS;rw [List.foldl_append];rfl
theorem abH (hs:aj s) (hP: ∀k,aj (P k)): ∀(l:List Nat) (p:List UInt8×(Nat->Nat)×(Nat->Nat)),aj p.2.1->aj p.2.2->
  (λq:List UInt8×(Nat->Nat)×(Nat->Nat)=>q.1.length=p.1.length+16*l.length/\aj q.2.1/\aj q.2.2) (l.foldl (λp x=>(p.1++aP 16 (ah (ah p.2.2 (qc s x)) (aJ f (ah (P x) (ah p.2.2 (qc s x))))),ah p.2.1 (P x),ah p.2.2 (qc s x))) p)
 | [],p,h,h2=>⟨by simp,h,h2⟩
 |x::l,p,h,h2=>by
  have h3:=abH hs hP l (p.1++aP 16 (ah (ah p.2.2 (qc s x)) (aJ f (ah (P x) (ah p.2.2 (qc s x))))),ah p.2.1 (P x),ah p.2.2 (qc s x)) (dL h (hP x)) (dL h2 (XL hs x));refine⟨h3.1.trans ?_,h3.2⟩;show(p.1++_).length+16*l.length=p.1.length+16*(l.length+1);rw [List.length_append,xU];omega
theorem ahV (ha:aj a) (hs:aj s) (hP: ∀k,aj (P k)) (pre:List Nat):(uS f s a P pre).1.length=16*pre.length/\aj (uS f s a P pre).2.1/\aj (uS f s a P pre).2.2:=by
 have h:=abH (f:=f) hs hP pre ([],zF,a) jw ha;exact⟨h.1.trans (Nat.zero_add _),h.2⟩
theorem abI (f s a:Nat->Nat) (l:List UInt8) (N:Nat) (hN:N<9223372036854775807): ∀n,n<=N->uS f s a (pt l) (List.range n)=(aP (16*n) (iW f s a l N),iF (pt l) n,bS a s n)
 |0,_=>by rw [Im];rfl
 |n+1,h=>by
  rw [List.range_succ,abG,abI f s a l N hN n (by omega),XM s n (by omega)];dsimp only;rw [Kq,aaL l N n (by omega),abF (bS a s (n+1))];rfl
end
structure kM (w w':World) (g r:Nat):Prop where
 os:w'.os=w.os
 tape:w'.tape=w.tape
 output:w'.output=w.output
 size:w.heap.size<=w'.heap.size
 block: ∀k,k<w.heap.size->k≠g->k≠r->w'.heap[k]?=w.heap[k]?
 same: ∀(k:Nat) (o:Obj),w.heap[k]?=some o->o.isCells=false->w'.heap[k]?=some o
section
variable {w W W':World} {g r:Nat}
theorem kM.of (h:Below w.heap.size w W):kM w W g r:=⟨h.os,h.tape,h.output,h.size,λk hk _ _=>h.block k hk,λk o hk _=>(h.block k (Array.getElem?_eq_some_iff.1 hk).1).trans hk⟩
theorem kM.drew (h:kM w W g r):kM w W.drew g r:=⟨h.os,h.tape,h.output,h.size,h.block,h.same⟩
theorem kM.grown {A:Array Value} {t:TypeId} (h:kM w W g r) (hg:W.grownBy W' (some r)) (hr:W.heap[r]?=some (.cells A t (0,0))):kM w W' g r:=
 ⟨hg.os.trans h.os,hg.tape.trans h.tape,hg.output.trans h.output,Nat.le_trans h.size hg.size,
  λk hk h1 h2=>(hg.block k (Nat.lt_of_lt_of_le hk h.size) (λe=>h2 (Option.some.inj e))).trans (h.block k hk h1 h2),
  λk o hk ho=>by
   have h1:=h.same k o hk ho;refine(hg.block k (Array.getElem?_eq_some_iff.1 h1).1 (λe=> ?_)).trans h1;obtain rfl:=Option.some.inj e;rw [hr]at h1;obtain rfl:=Option.some.inj h1;cases ho⟩
theorem kM.set (h:kM w W g r) (u:Value):kM w (W.setCell ⟨g,0,none⟩ u) g r:=by
 have hb:=(Below.refl 0 W).setCell (p:=⟨g,0,none⟩) (Nat.zero_le _) u;exact⟨hb.os.trans h.os,hb.tape.trans h.tape,hb.output.trans h.output,Nat.le_trans h.size hb.size,
  λk hk h1 h2=>(Below.heap_setCell W ⟨g,0,none⟩ u k h1).trans (h.block k hk h1 h2),λk o hk ho=>(KeepsOthers.setCell W ⟨g,0,none⟩ u).same k o (h.same k o hk ho) ho⟩
theorem kM.below {B:Nat} (h:kM w W g r) (hB:B<=w.heap.size) (hg:B<=g) (hr:B<=r):Below B w W:=⟨h.os,h.tape,h.output,h.size,λk hk=>h.block k (by omega) (by omega) (by omega)⟩
theorem kM.abE (h:kM w W g r) (n:Nat):KeepsFrom n w W:=⟨h.size,λk o _ hk ho=>h.same k o hk ho⟩
theorem ahW {k n:Nat} {f:Nat->Nat} (h:Ar w k n f) (he:W.heap[k]?=w.heap[k]?):Ar W k n f:=λj hj=>by
 refine⟨?_,?_⟩
 ·have:=(h j hj).1;simp only [World.cell?]at this⊢;rw [he];exact this
 ·have:=(h j hj).2;simp only [World.frozen?]at this⊢;rw [he];exact this
theorem Dp {k n:Nat} {f:Nat->Nat} (h:Ar w k n f) (hn:0<n) (ha:kM w W g r) (h1:k≠g) (h2:k≠r):Ar W k n f:=ahW h (ha.block k (h.lt hn) h1 h2)
end
def Bv (W:World) (g:Nat) (t:TypeId) (v:Value):Prop:=Boxed W g t v
section
variable {w W W':World} {g b r:Nat} {t:TypeId} {v:Value}
theorem Bv.lt (h:Bv W g t v):g<W.heap.size:=Boxed.lt h
theorem Bv.cell (h:Bv W g t v):W.cell? ⟨g,0,none⟩=some v:=Boxed.cell h
theorem Bv.frozen (h:Bv W g t v):W.frozen? ⟨g,0,none⟩=false:=Boxed.frozen h
theorem Bv.drew (h:Bv W g t v):Bv W.drew g t v:=h
theorem Bv.new (W:World) (t:TypeId) (v:Value):Bv (W.alloc (.cells #[v] t)) W.heap.size t v:=Boxed.new W t v
theorem Bv.blk (h:Bv W g t v) (he:W'.heap[g]?=W.heap[g]?):Bv W' g t v:=he.trans h
theorem Bv.to (h:Bv W g t v) (hb:Below W.heap.size W W'):Bv W' g t v:=h.blk (hb.block g h.lt)
theorem Bv.keep (h:Bv W g t v) (hl:g<b) (hb:Below b W W'):Bv W' g t v:=h.blk (hb.block g hl)
theorem Bv.alloc (h:Bv W g t v) (o:Obj):Bv (W.alloc o) g t v:=h.to ((Below.refl _ _).alloc (Nat.le_refl _) o)
theorem Bv.set (h:Bv W g t v) (u:Value):Bv (W.setCell ⟨g,0,none⟩ u) g t u:=Boxed.set u h
theorem Bv.far (h:Bv W g t v) {p:Addr} (hp:p.block≠g) (u:Value):Bv (W.setCell p u) g t v:=h.blk (Below.heap_setCell W p u g (λe=>hp e.symm))
theorem Pk (hb:g≠b) (vs:List Value): ∀(o:Nat) (W:World),(W.setCells b o vs).heap[g]?=W.heap[g]?:=by
 induction vs with
 |nil=>intro o W;rfl
 |cons v vs ih=>intro o W;rw [World.setCells];exact(ih (o+1) _).trans (Below.heap_setCell W ⟨b,o,none⟩ v g hb)
theorem Bv.apart (h:Bv W g t v) (hb:g≠b) (vs:List Value) (o:Nat):Bv (W.setCells b o vs) g t v:=h.blk (Pk hb vs o W)
theorem Bv.add {g1:Nat} (h:Bv w g t v) (ha:kM w W g1 r) (h1:g≠g1) (h2:g≠r):Bv W g t v:=h.blk (ha.block g h.lt h1 h2)
end
def Ro (W:World) (g c n:Nat) (l:List UInt8):Prop:=W.ownsRow g 5 1 (.slice (some ⟨g,0,none⟩) n c) n (l.map b8)
section
variable {w W W':World} {g b c n:Nat} {l:List UInt8}
theorem Ro.cells (h:Ro W g c n l): ∃A:Array Value,W.heap[g]?=some (.cells A 5 (0,0)):=by
 rcases h.2 with ⟨e,_⟩|⟨g1,cap,cur,e,_,h3,_⟩
 ·cases e
 ·cases e;exact⟨cur,h3⟩
theorem Ro.lt (h:Ro W g c n l):g<W.heap.size:=by
 obtain⟨A,hA⟩:=h.cells;exact(Array.getElem?_eq_some_iff.1 hA).1
theorem Ro.blk (h:Ro W g c n l) (he:W'.heap[g]?=W.heap[g]?):Ro W' g c n l:=by
 refine⟨h.1,?_⟩;rcases h.2 with ⟨e,_⟩|⟨g1,cap,cur,e,h2,h3,h4⟩
 ·cases e
 ·cases e;exact .inr ⟨_,_,cur,rfl,h2,he.trans h3,h4⟩
theorem Ro.drew (h:Ro W g c n l):Ro W.drew g c n l:=h.blk rfl
theorem Ro.to (h:Ro W g c n l) (hb:Below W.heap.size W W'):Ro W' g c n l:=h.blk (hb.block g h.lt)
theorem Ro.keep (h:Ro W g c n l) (hl:g<b) (hb:Below b W W'):Ro W' g c n l:=h.blk (hb.block g hl)
theorem Ro.far (h:Ro W g c n l) {p:Addr} (hp:p.block≠g) (u:Value):Ro (W.setCell p u) g c n l:=h.blk (Below.heap_setCell W p u g (λe=>hp e.symm))
theorem Ro.apart (h:Ro W g c n l) (hb:g≠b) (vs:List Value) (o:Nat):Ro (W.setCells b o vs) g c n l:=h.blk (Pk hb vs o W)
theorem Ro.sl (h:Ro W g c n l):Sl W W.heap.size (some ⟨g,0,none⟩) n l:=Sl.jk h
end
theorem abJ {X Y:World} {row:Option Nat} {k:Nat} {A:Array Value} {t:TypeId} (h:X.heap[k]?=some (.cells A t (0,0))) (hg:X.grownBy Y row) (hr: ∀r,row=some r-> ∃o:Obj,X.heap[r]?=some o/\o.isCells=false):Y.heap[k]?=X.heap[k]?:=
 hg.block k (Array.getElem?_eq_some_iff.1 h).1 (λe=>by
  obtain⟨o,h1,h2⟩:=hr k e.symm;rw [h]at h1;obtain rfl:=Option.some.inj h1;cases h2)
theorem Bv.own {X Y:World} {row:Option Nat} {g:Nat} {t:TypeId} {v:Value} (h:Bv X g t v) (hg:X.grownBy Y row) (hr: ∀r,row=some r-> ∃o:Obj,X.heap[r]?=some o/\o.isCells=false):Bv Y g t v:=h.blk (abJ h hg hr)
theorem Ro.own {X Y:World} {row:Option Nat} {g c n:Nat} {l:List UInt8} (h:Ro X g c n l) (hg:X.grownBy Y row) (hr: ∀r,row=some r-> ∃o:Obj,X.heap[r]?=some o/\o.isCells=false):Ro Y g c n l:=by
 obtain⟨A,hA⟩:=h.cells;exact h.blk (abJ hA hg hr)
def qj (A:Option Addr) (Bs:Nat) (W W':World):Prop:=W.heap.size<=W'.heap.size/\W'.heap[Bs]?=W.heap[Bs]?/\ ∀b o k,A=some ⟨b,o,k⟩->W'.heap[b]?=W.heap[b]?
theorem qj.refl (A:Option Addr) (Bs:Nat) (W:World):qj A Bs W W:=⟨Nat.le_refl _,rfl,λ_ _ _ _=>rfl⟩
theorem qj.trans {A:Option Addr} {Bs:Nat} {X Y Z:World} (h:qj A Bs X Y) (k:qj A Bs Y Z):qj A Bs X Z:=⟨Nat.le_trans h.1 k.1,k.2.1.trans h.2.1,λb o q e=>(k.2.2 b o q e).trans (h.2.2 b o q e)⟩
theorem qj.new {A:Option Addr} {Bs:Nat} {X Y:World} (h:Below X.heap.size X Y) (hb:Bs<X.heap.size) (hA: ∀b o k,A=some ⟨b,o,k⟩->b<X.heap.size):qj A Bs X Y:=⟨h.size,h.block Bs hb,λb o k e=>h.block b (hA b o k e)⟩
theorem qj.cell {A:Option Addr} {Bs:Nat} {X Y:World} (h:qj A Bs X Y):Y.cell? ⟨Bs,0,none⟩=X.cell? ⟨Bs,0,none⟩:=by simp [World.cell?,h.2.1]
theorem qj.putObj {A:Option Addr} {Bs:Nat} {w:World} (hb:Bs<w.heap.size) (hA: ∀b o k,A=some ⟨b,o,k⟩->b<w.heap.size) (W:World) (l:Nat) (o o':Obj) (hl:w.heap.size<=l) (h:W.heap[l]?=some o) (h1:o.isCells=false) (h2:o.isWalk=false):qj A Bs W (W.putObj l o'):=
 ⟨(belowK_b (w:=w) (Nat.zero_le _) W l o o' hl h h1 h2).size,World.putObj_heap_other (by omega),λb q k e=>World.putObj_heap_other (by have:=hA b q k e;omega)⟩
theorem ahX {A:Option Addr} {Bs B n:Nat} {X Y:World} {l:List UInt8} (h:Sl X B A n l) (k:qj A Bs X Y):Sl Y B A n l:=by
 refine⟨h.1,λhn=> ?_⟩;obtain⟨b,o,e,hb,hc⟩:=h.2 hn;refine⟨b,o,e,hb,λj u hj=> ?_⟩;have h1:=hc j u hj;simp only [World.cell?]at h1⊢;rw [k.2.2 b o none e];exact h1
attribute [local go_sem] Oper.semAt_some
theorem ahY (n:Nat) (hn:1<=n) (l Bs n₀:Nat) (A:Option Addr) (m c:Nat) (xs:List UInt8) (hm:m<=1000000) (hmc:m<=c) (J Jx:List Nat->World->Prop) (W:World) (hJ:AbidesFrom W.heap.size J)
  (hY : ∀ pre x W1, J pre W1 -> pre.length < m / 16 -> YieldAt Fence.wide (n - 1) Tryz.prog l (Jo xs x) W1 λe W' =>
   (e= .returned (.bool true)/\J (pre++ [x]) W'/\qj A Bs W1 W')\/(e= .returned (.bool false)/\Jx (pre++ [x]) W'))
  (qQ:n₀<=W.heap.size) (hBl:Bs<W.heap.size) (Jp:W.cell? ⟨Bs,0,none⟩=some (.slice A m c)) (hS:Sl W n₀ A m xs) (h0:J [] W):
  CallsIn Fence.wide n Tryz.prog 211 #[.func (.yield l) #[] #[],.pointer (some ⟨Bs,0,none⟩)] W λe W'=>(∃v,e= .returned v)/\
   ((∃ys,ys=List.range (m/16)/\J ys W')\/(∃pre,(∃k,k<=m/16/\pre=List.range k)/\Jx pre W')):=by
 have hz:=vw;refine callsIn_of_wp Tryz.func211 rfl trivial ?_ rfl;simp only [Tryz.ntmps211,List.size_toArray,List.length_cons,List.length_nil,Nat.reduceAdd,Nat.reduceSub,Array.replicate_succ,Array.replicate_zero,List.push_toArray,List.append_toArray,List.nil_append,List.cons_append];refine wpIn_wide.2 ?_;obtain⟨N,hN⟩:=Lv (m/16);have N1:((m:Int)).tdiv 16=(N:Int):=by rw [Int.tdiv_eq_ediv_of_nonneg (by omega)];omega
 have N2:(m:Int)/16=(N:Int):=by omega
 rw [<-hN]at hY⊢;obtain⟨HY,HJ,HN⟩:=dD hY hJ hN;clear hY hJ hN;go_wp2_with fail;go_loopw [8] (λi wr=> ∃k:Nat,k<=N/\i= .int .i64 k/\J (List.range k) wr/\qj A Bs W wr/\n₀<=wr.heap.size/\Bs<wr.heap.size) (λi _=>N-(intOf i).toNat);case atStart=>exact⟨0,Nat.zero_le _,rfl,h0,qj.refl _ _ _,qQ,hBl⟩
 case round=>
  obtain⟨k,hk,rfl,hJs,ER,Sm,Pm⟩:=hrel;by_cases hlt:k<N
  ·have i1:(k:Int)<(N:Int):=(by omega);have Pn:=HN.out;obtain⟨b,off,rfl,hbn⟩:=KX hS (by omega);obtain⟨o,ho⟩:=Le (16*k);have o1:wrap64 (16*(k:Int))=(o:Int):=(by rw [IntWalk.wrap64_in _ (by omega)];omega);have o2:IntKind.i64.wrap (16*(k:Int))=(o:Int):=(by rw [fO _ (by omega) (by omega)];omega);have o3:16*(k:Int)=(o:Int):=(by omega);have o4:(o:Int)<=(m:Int):=(by omega);have o6: ¬c=o:=(by omega);have o5:IntKind.i64.wrap (o:Int)=(o:Int):=fO _ (by omega) (by omega);obtain⟨gP,bQ⟩:=Le (wr.heap.size);obtain⟨w1,af⟩:=Lv (wr.alloc (.cells (ae 16 λ_=>0).toArray 22));have nX:Wb w1 gP 16 (λ_=>0) 22:=(by rw [af,<-bQ];exact Wb.new wr 16 _ _);have au:=Bl af;have c1:w1.drew.cell? ⟨Bs,0,none⟩=some (.slice (some ⟨b,off,none⟩) m c):=(au.cell (p:=⟨Bs,0,none⟩) Pm).trans (ER.cell.trans Jp);have hsrc:=Hi (UG ((ahX hS ER).below (au.mono Sm)) k (by omega));rw [ho]at hsrc;obtain⟨HW,mi,nD⟩:=dD (show w1.drew.heap[gP]?=some (.cells (ae 16 λ_=>0).toArray 22 (0,0))from nX) (show(ae 16 (pt xs k)).length=Nat.min (m-o) 16 by rw [bz];exact(Nat.min_eq_right (by omega)).symm) (show 0+(ae 16 (pt xs k)).length<=(ae 16 λ_=>0).length by rw [bz,bz];omega);have Pp:=Hi (show splice (ae 16 λ_=>0) 0 (ae 16 (pt xs k))=ae 16 (pt xs k)by
    rw [FO 16 16 _ _ 0 (by omega)];exact mh (λj hj=>by rw [if_pos (by omega),Nat.sub_zero]))
   obtain⟨wO,HNm,HO⟩:=dD hlt Pn ho;clear Pn ho;go_upto_region 4 with fail;try rw [bQ]
   rw [<-af];clear af
   go_region_law (refine step_copy_splice rfl (.tmp 11) (.tmp 15) 45 45 rfl 5 Tryz.Cz Tryz.FP _ _ _ _ _ _ rfl rfl gP 0 (ae 16 λ_=>0) 22 HW.out (ae 16 (pt xs k)) mi.out (λ_=>⟨rfl,⟨b,off+o,none⟩,rfl,hsrc.out⟩) nD.out (dz 16 _) gP w1.drew (Below.refl _ _) (Nat.le_refl _) ?_;intro w2 fC ai)
   have bG:Ar w2 gP 16 (pt xs k):=by
    have h:=fC.out;rw [Pp.out]at h;exact Wb.ar (show Wb w2 gP 16 _ _ from h)
   have aU:Below wr.heap.size wr w2:=au.trans ((show Below wr.heap.size w1 w1.drew from(Below.refl _ _).drew).trans (ai.mono (B':=wr.heap.size) (by omega)));have VJ:=abK HJ.out hJs aU;have VK:=ER.trans (qj.new aU Pm (λb2 o2 k2 e=>by cases e;omega));have dx:=aU.size;clear fC HW hsrc mi nD Pp ai au c1 hJs ER o1 o2 o3 o4 o5 o6 nX;have VL:=HY.out (List.range k) k w2 VJ (by simpa using wO.out);obtain⟨fn,tmps,assign,body,hy,hR⟩:=VL;dsimp only [Jo]at hy;have y1:((k+1:Nat):Int)=(k:Int)+1:=(by omega);rw [y1]at hy;try dsimp only [Act.put]
   go_upto_region 5 with fail;refine(wpIn_wide (n:=n)).1 ?_
   gi_wp2_with (refine abL rfl _ _ rfl _ _ _ rfl bG Tryz.iT (dW _) ?_)
   clear hy y1 bG;refine hR.mono ?_;rintro e W3 (⟨rfl,VM,ES⟩|⟨rfl,VN⟩)
   ·gi_wp2
    go_wp2_with fail;go_roundw;case rel=>
     have fe:=ES.1;exact⟨k+1,by omega,by go_num,by rw [List.range_succ];exact VM,VK.trans ES,by omega,by omega⟩
    case measure=>simp [intOf];omega
   ·gi_wp2
    go_wp2_with fail;refine bodyPost_ret (results_none rfl _ _ _) rfl ?_;exact⟨⟨_,rfl⟩,.inr ⟨_,⟨k+1,by omega,(List.range_succ).symm⟩,VN⟩⟩
  ·obtain rfl:k=N:=by omega
   go_wp2_with fail;go_end0;exact⟨⟨_,rfl⟩,.inl ⟨_,rfl,hJs⟩⟩
def Df (W:World) (D:Nat):Prop:=W.heap[D]?=some (.deferred (some []))
section
variable {W W':World} {D b g r:Nat}
theorem Df.lt (h:Df W D):D<W.heap.size:=(Array.getElem?_eq_some_iff.1 h).1
theorem Df.to (h:Df W D) (hb:Below W.heap.size W W'):Df W' D:=(hb.block D h.lt).trans h
theorem Df.keep (h:Df W D) (hl:D<b) (hb:Below b W W'):Df W' D:=(hb.block D hl).trans h
theorem Df.drew (h:Df W D):Df W.drew D:=h
theorem Df.apart (h:Df W D) (hb:D≠b) (vs:List Value) (o:Nat):Df (W.setCells b o vs) D:=(Pk hb vs o W).trans h
theorem Df.far (h:Df W D) {p:Addr} (hp:p.block≠D) (u:Value):Df (W.setCell p u) D:=(Below.heap_setCell W p u D (λe=>hp e.symm)).trans h
theorem Df.add (h:Df W D) (ha:kM W W' g r) (h1:D≠g) (h2:D≠r):Df W' D:=(ha.block D h.lt h1 h2).trans h
end
theorem abM (w:World) (g:Nat) (v:Value) (h:Bv w g 45 v):(loadVar 45 ⟨g,0,none⟩).run Tryz.prog w= .ok v w:=by
 have hc:=h.cell;have hagg:(isAgg 45).run Tryz.prog w= .ok false w:=by kernel_rfl
 simp [loadVar,Sem.run_bind,hagg,hc]
structure sK (gC Bs:Nat) (W W':World):Prop where
 lt:Bs<W'.heap.size
 lc:gC<Bs
 kp:qj (some ⟨gC,0,none⟩) Bs W W'
section
variable {gC Bs b g r:Nat} {X Y Z:World}
theorem sK.refl (h:Bs<X.heap.size) (hc:gC<Bs):sK gC Bs X X:=⟨h,hc,qj.refl _ _ _⟩
theorem sK.to (h:sK gC Bs X Y) (hb:Below Y.heap.size Y Z):sK gC Bs X Z:=⟨Nat.lt_of_lt_of_le h.lt hb.size,h.lc,h.kp.trans (qj.new hb h.lt (λb o k e=>by cases e;have:=h.lc;have:=h.lt;omega))⟩
theorem sK.drew (h:sK gC Bs X Y):sK gC Bs X Y.drew:=⟨h.lt,h.lc,h.kp⟩
theorem sK.put (h:sK gC Bs X Y) (h1:b<gC) (vs:List Value) (o:Nat):sK gC Bs X (Y.setCells b o vs):=by
 have hl:=h.lc;refine⟨by rw [World.setCells_size];exact h.lt,h.lc,h.kp.trans ⟨by rw [World.setCells_size];exact Nat.le_refl _,Pk (by omega) vs o Y,λb o' k e=> ?_⟩⟩;cases e;exact Pk (by omega) vs o Y
theorem sK.add (h:sK gC Bs X Y) (ha:kM Y Z g r) (h1:g<gC) (h2:r<gC):sK gC Bs X Z:=by
 have hl:=h.lc;have hs:=h.lt;refine⟨Nat.lt_of_lt_of_le h.lt ha.size,h.lc,h.kp.trans ⟨ha.size,ha.block Bs h.lt (by omega) (by omega),λb o' k e=> ?_⟩⟩;cases e;exact ha.block gC (by omega) (by omega) (by omega)
end
theorem ahZ (n:Nat) (hn:1<=n) (Bs n₀:Nat) (A:Option Addr) (m c:Nat) (xs:List UInt8) (hm:m<=1000000) (hmc:m<=c) (w:World) (qQ:n₀<=w.heap.size) (hBl:Bs<w.heap.size) (Jp:w.cell? ⟨Bs,0,none⟩=some (.slice A m c)) (hS:Sl w n₀ A m xs):
  SeqStopsK Fence.wide n Tryz.prog 211 #[.pointer (some ⟨Bs,0,none⟩)] (Jo xs) (qj A Bs) (λys=>ys=List.range (m/16)) (λpre=> ∃k,k<=m/16/\pre=List.range k) (m/16) w:=λl J Jx W hW hJ _ hY h0=>
 ahY n hn l Bs n₀ A m c xs hm hmc J Jx W hJ hY (Nat.le_trans qQ hW.size) (Nat.lt_of_lt_of_le hBl hW.size) ((hW.cell (p:=⟨Bs,0,none⟩) hBl).trans Jp) (hS.below (hW.mono qQ)) h0
theorem ah0 (a:Addr) (w:World):Calls Tryz.prog 144 #[.pointer (some a)] w λe w'=>e= .returned (.pointer (some a))/\w'=w:=by
 go_enter Tryz.func144,Tryz.ntmps144;go_wp2_with fail;go_ret;exact⟨rfl,rfl⟩
theorem ssize (n:Int) (w:World) (h0: -1000000<=n) (h1:n<=1000000):Calls Tryz.prog 145 #[.int .i64 n] w λe w'=>e= .returned (.int .i64 (if n<0 then 0 else n+16))/\w'=w:=by
 by_cases h:n<0
 ·rw [if_pos h];go_enter Tryz.func145,Tryz.ntmps145;go_wp2_with fail;go_ret;exact⟨rfl,rfl⟩
 ·rw [if_neg h];obtain⟨m,hm⟩: ∃m,n+16=m:=⟨_,rfl⟩;have e1:wrap64 (n+16)=m:=by rw [IntWalk.wrap64_in _ (by omega)];exact hm
  have e2:IntKind.i64.wrap (n+16)=m:=by rw [<-hm,show n+16=((n+16).toNat:Int)by omega];exact fO _ (by omega) (by omega)
  rw [hm];clear hm;go_enter Tryz.func145,Tryz.ntmps145;go_wp2_with fail;go_ret;exact⟨rfl,rfl⟩
theorem ah1 (n M:Nat) (w:World) (h:n<=1000000) (hM:n+16=M):Calls Tryz.prog 145 #[.int .i64 (n:Int)] w λe w'=>e= .returned (.int .i64 (M:Int))/\w'=w:=by
 have h1:=ssize (n:Int) w (by omega) (by omega);rw [if_neg (by omega),show(n:Int)+16=(M:Int)by omega]at h1;exact h1
theorem abN (g r c n m:Nat) (x y:Nat->Nat) (l:List UInt8) (w:World) (hx:aj x) (hy:aj y) (hm:m<=16) (hc:n+m<=c) (hn:n<=1000000) (hgr:g≠r) (hG:Bv w g 45 (.slice (some ⟨r,0,none⟩) n c)) (hR:Ro w r c n l):
  Calls Tryz.prog 146 #[.agg (ae 16 x).toArray,.agg (ae 16 y).toArray,.int .i64 (m:Int),.pointer (some ⟨g,0,none⟩)] w λe w'=>(∃v,e= .returned v)/\Bv w' g 45 (.slice (some ⟨r,0,none⟩) (n+m) c)/\Ro w' r c (n+m) (l++aP m (ah x y))/\kM w w' g r:=by
 obtain⟨kX,hkX⟩:=Le ((ae 16 (x)).toArray);obtain⟨kY,XV⟩:=Le ((ae 16 (y)).toArray);obtain⟨w1,af,ak,aW,X3⟩:=nA w 16 (x) 22;obtain⟨w2,ag,aD,bU,XW⟩:=fw ak aW 16 (y) 22;have Jq:=X3.alloc (by omega) (.cells (ae 16 (y)).toArray 22);rw [<-ag]at Jq;clear X3 aW;have Yh:=Hi hkX;rw [hkX]at af;have Yi:=Hi XV;rw [XV]at ag;rw [hkX,XV];clear hkX XV;have hz:=jf;obtain⟨HXB,X4,HC,HM,Jr,HG,HR⟩:=zD hx hy hc hm hgr hG hR;obtain⟨i0,cu,bJ,bE,dx⟩:=info_parts xW;obtain⟨oL,oM⟩:=aB cu bE;clear hx hy hc hgr hG hR cu bJ bE dx;go_enter Tryz.func146,Tryz.ntmps146;go_upto_region 1 with fail;rw [<-af,<-ag];clear af ag;try simp only [Nat.add_assoc,Nat.reduceAdd]
 obtain⟨gY,hgY⟩:=Le (w.heap.size+1);rw [hgY]at XW;try rw [hgY]
 have Yj:w.heap.size<gY:=by omega
 clear ak aD hgY;go_wp2_with (first|(refine bB rfl _ _ rfl _ _ _ rfl Jq Tryz.aM (ay _) ?_)|(refine bB rfl _ _ rfl _ _ _ rfl XW Tryz.aM (ay _) ?_));refine(vk x y _ HXB.out X4.out).mono ?_;rintro e x1 ⟨rfl,hq⟩;have Js:=Jq.t hq;have XZ:=XW.t hq;have aT:=Tq bU hq;clear hq Jq XW bU;obtain⟨d,hd⟩: ∃d,ah x y=d:=⟨_,rfl⟩;have HD:=Hi hd;rw [hd];have Pq:=Hi (show aj d by rw [<-hd];exact dL HXB.out X4.out);clear hd;obtain⟨gS,vz⟩:=Le (x1.heap.size);have Ye:w.heap.size<gS:=by rw [<-vz];exact Js.lt (by omega)
 have Yf:gY<gS:=by rw [<-vz];exact XZ.lt (by omega)
 have X5:w.heap.size<=gS:=by rw [<-vz];exact aT.size
 have hq:=Ba x1 (.cells (ae 16 λ_=>0).toArray 22);have X6:=Js.t hq;have X7:=XZ.t hq;have X0:=Ar.new x1 16 (λ_=>0) 22;have qU:=aT.alloc aT.size (.cells (ae 16 λ_=>0).toArray 22);rw [vz]at X0;clear hq Js XZ aT;go_upto_region 2 with (first|(refine bC rfl _ _ _ rfl _ _ _ (d) rfl rfl X0 (ay _) ?_;intro x2 X8 jh yQ yR)|fail);have Sq:=(X6).keep Ye jh;have Jt:=(X7).keep Yf jh;have di:=qU.trans (jh.mono X5);clear X6 X7 X0 qU jh yQ yR vz;try dsimp only [Act.put]
 have Ya:=HG.out.to di;have pq:=HR.out.to di;have Yb:kM w x2 g r:=kM.of di;have hlr:r<gS:=Nat.lt_of_lt_of_le HR.out.lt X5;clear di Sq Jt;have aQ:=Hi (abo gS m HM.out);refine wp_region_noPanic ?_;have XX:=Ya.drew;have LF:=pq.drew;have Yc:=X8.drew;refine wp_region_held_drew (S:=λW=>kM w W g r) (by kernel_rfl) Yb.drew (λaa=> ?_);clear Yb Ya pq X8;generalize World.drew x2=qd at*;refine ty 1 rfl ?_;refine ty 2 rfl ?_ (λW hSw=>by have hsl:=aQ.out W;go_simp;try with_reducible rfl);refine rd 0 rfl (λK hK=> ?_);have cF:=XX.cell;go_simp;refine hK.out _ _ aa ?_;clear hK K aa cF;intro aa;try simp only [nr]
 refine rd 3 rfl (λK hK=> ?_);rw [if_pos (by rfl)];refine wp_append_own_spare _ _ _ 45 rfl r 5 i0 1 Tryz.underlying45 oL.out oM.out r n c _ rfl LF ⟨gS,0,none⟩ m 16 (ae m d) rfl (by simp [bz]) (λj u hj=>by obtain⟨RH,rfl⟩:=xM hj;have BJ:=HM.out;rw [Addr.add_mid,Nat.zero_add];exact(Yc j (by omega)).1) (dz m _) HC.out ?_;intro q3 hown hgrow;have LG:Ro q3 r c (n+m) (l++aP m d):=by unfold Ro;rw [List.map_append,I1 m d (λj hj=>Pq.out j (by have:=HM.out;omega))];exact hown
 have XY:=XX.blk (hgrow.block g XX.lt (λe=>Jr.out (Option.some.inj e)));obtain⟨A9,ET⟩:=LF.cells;refine hK.out _ _ (aa.grown hgrow ET) ?_;clear hK K aa hown hgrow ET LF XX Yc;intro aa;try simp only [nr]
 refine rd 4 rfl (λK hK=> ?_);have cF:=XY.cell;have fF:=XY.frozen;go_simp;clear cF fF;have Yg:=XY.set (.slice (some ⟨r,0,none⟩) (n+m) c);have VO:=LG.far (p:=⟨g,0,none⟩) Jr.out (.slice (some ⟨r,0,none⟩) (n+m) c);have Yd:=show kM w (World.setCell q3 ⟨g,0,none⟩ (.slice (some ⟨r,0,none⟩) (n+m) c)) g r from aa.set (.slice (some ⟨r,0,none⟩) (n+m) c);generalize World.setCell q3 ⟨g,0,none⟩ (.slice (some ⟨r,0,none⟩) (n+m) c)=q4 at*;refine hK.out _ _ Yd ?_;clear hK K aa Yd XY LG;intro aa;try simp only [Act.put]
 refine wpAnyH_done (by kernel_rfl) ?_ _;refine NoPanic.normal ?_;go_wp2_with fail;go_end0;exact⟨⟨_,rfl⟩,Yg,HD.out▸VO,aa⟩
end
end Go.Proofs.YtdaiacmneopkgaaGreatDoor
