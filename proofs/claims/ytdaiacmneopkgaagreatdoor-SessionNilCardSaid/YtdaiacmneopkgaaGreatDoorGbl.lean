/-
 Lists of blocks, the iterator of package block, by walks through their texts, one after the other; what was there stays as it was.
-/
import Derived.OwnWalkIn
import Derived.TacticsInMore
import Derived.OrdersIn
import Derived.RangeFuncCalls
import Derived.Deep.Slices
import Derived.Test.YtdaiacmneopkgaaGreatDoorGbk
import Derived.RangeFuncNested
import Derived.RangeFuncBound
import Derived.RangeFuncLeaves
import Derived.RangeFuncBox
import Derived.Shelf.Abstract
import Derived.LoopNIn
import Derived.LoopIn
import Derived.Great.BuildSlice
namespace Go.Proofs.YtdaiacmneopkgaaGreatDoor
set_option linter.unusedVariables false
set_option maxRecDepth 100000
set_option maxHeartbeats 2000000
section
open Go.RowKit
section
variable {F:Fence} {N:Nat} {P:Program}
theorem ajx {ops:Array Oper} {rest:List Oper} {op:Oper} {a:Act} {w:World} {Q:Exit->Act->World->Prop} (hgd:op.guard=none) (ty:TypeId) (x:Operand) (ho:op.op= .load ty x)
  (b o:Nat) (hx:a.eval x= .pointer (some ⟨b,o,none⟩)) (cs:List Value) (d:TypeDesc) (hc:w.rangeAt b o cs)
  (hu:P.underlying ty=some d) (hd:d.isRow=true) (hi:(P.info? ty).map (·.size)=some cs.length)
  (h:wpListIn F N P ops Q rest (a.put op.dst (.agg cs.toArray)) w):wpListIn F N P ops Q (op::rest) a w:=by
 refine wpListIn_plain hgd λK hK=> ?_;unfold Oper.wpIn;refine⟨?_,?_⟩
 ·simp [Oper.about,ho]
 ·rw [Oper.semAt_plain F _ _ (by rw [ho];intro c hc;cases hc)];unfold execOp;simp only [ho,hx,Instr.loadAt,Instr.sureAddr,Sem.run_bind,Sem.run_pure,Result.andThen_ok,run_loadVar_mid w b o ty cs d hc hu hd hi];exact hK _ _ h
theorem abL {ops:Array Oper} {rest:List Oper} {op:Oper} {a:Act} {w:World} {Q:Exit->Act->World->Prop} (hgd:op.guard=none) (ty:TypeId) (x:Operand) (ho:op.op= .load ty x)
  (g n:Nat) (f:Nat->Nat) {m:Nat} {e:TypeId} (hx:a.eval x= .pointer (some ⟨g,0,none⟩)) (hA:Ar w g n f)
  (hu:P.underlying ty=some (.array m e)) (hi:(P.info? ty).map (·.size)=some (ae n f).length)
  (h:wpListIn F N P ops Q rest (a.put op.dst (.agg (ae n f).toArray)) w):wpListIn F N P ops Q (op::rest) a w:=
 ajx hgd ty x ho g 0 hx (ae n f) _ hA.range hu rfl hi h
theorem XR {ops:Array Oper} {rest:List Oper} {op:Oper} {a:Act} {w:World} {Q:Exit->Act->World->Prop} (hgd:op.guard=none) (ty:TypeId) (x y:Operand) (ho:op.op= .store ty x y)
  (g n:Nat) (f f':Nat->Nat) (hx:a.eval x= .pointer (some ⟨g,0,none⟩)) (hy:a.eval y= .agg (ae n f').toArray)
  (hA:Ar w g n f) (hi:(P.info? ty).map (·.size)=some (ae n f').length)
  (h: ∀w',Ar w' g n f'->Below g w w'->w'.heap.size=w.heap.size->(w'=w.setCells g 0 (ae n f'))->wpListIn F N P ops Q rest (a.put op.dst undef) w'):
  wpListIn F N P ops Q (op::rest) a w:=by
 refine wpListIn_plain hgd λK hK=> ?_;unfold Oper.wpIn;refine⟨?_,?_⟩
 ·simp [Oper.about,ho]
 ·rw [Oper.semAt_plain F _ _ (by rw [ho];intro c hc;cases hc)];have hr:=run_storeVar_mid (P:=P) w g 0 ty (ae n f').toArray (by rw [List.size_toArray,bz];exact hA.there) (by rw [List.size_toArray];exact hi) (all_oneCell_toArray (dz n f'));unfold execOp;simp only [ho,hx,hy,Instr.storeAt,Instr.sureAddr,Sem.run_bind,Sem.run_pure,Result.andThen_ok,hr];exact hK _ _ (h _ (hA.whole f') (Below.setCells (Below.refl _ _) (Nat.le_refl _) _ _) (World.setCells_size _ _ _ _) rfl)
end
end
section
open Go.RowKit
def Iq (Q:Exit->Act->World->Prop):Exit->Act->World->Prop
 | .normal,a,w=>Q .normal a w
 |_,_,_=>False
theorem Iq.imp {Q:Exit->Act->World->Prop} (e:Exit) (a:Act) (w:World) (h:Iq Q e a w):Q e a w:=by
 cases e<;>first|exact h|exact(h:False).elim
section
variable {P:Program} {n l:Nat} {ops:Array Oper} {Q:Exit->Act->World->Prop} {md:Region.Mode}
theorem ajy {o:Oper} {a:Act} {next:Act->World->Prop} : ∀r:Result Next,o.upon P a next Q r->o.uponIn (Fence.wide.inRound l) n P a next Q r:=by
 intro r h;cases r with
 |ok x w'=>
  cases x with
  |enter f args=>exact⟨λh0=>by simp [Fence.wide,Fence.inRound]at h0,CallsIn.inRound l (callsIn_wide.2 h)⟩
  |row XV args=>exact⟨λh0=>by simp [Fence.wide,Fence.inRound]at h0,λc cs _=>let ⟨v,w9,h1,h2⟩:=h c cs;⟨v,w9,h1,stepsIn_wide.2 h2⟩⟩
  |value v=>exact h
  |skip=>exact h
  |defer d=>exact h
  |_=>exact(h:False).elim
 |halt x w'=>
  cases x with
  |panic v=>exact h
  |_=>exact(h:False).elim
theorem XP {o:Oper} {a:Act} {w:World} {K:Act->World->Prop} (hd: ∀c,o.op≠ .defer c) (h:o.wp P a w K Q):o.wpIn (Fence.wide.inRound l) n P a w K Q:=by
 unfold Oper.wpIn;refine⟨λ_ _=>trivial,?_⟩;rw [Oper.semAt_plain _ _ _ hd];exact ajy _ h
def Nr (ops:Array Oper):Bool:=ops.all λo=>match o.op with| .defer _=>false|_=>true
theorem ajz (h:Nr ops=true) {i:Nat} {o:Oper} (hi:ops[i]?=some o): ∀c,o.op≠ .defer c:=by
 intro c hc;obtain⟨hlt,he⟩:=Array.getElem?_eq_some_iff.1 hi;have h1:=(Array.all_eq_true_iff_forall_mem.1 h) o (by rw [<-he];exact Array.getElem_mem hlt);rw [hc]at h1;exact absurd h1 (by simp)
theorem ajA {i:Nat} {a:Act} {w:World} {K:Act->World->Prop} (hd:Nr ops=true) (hno: ¬LetsOut Q) (h:wpOp P ops Q i K a w):wpOpIn (Fence.wide.inRound l) n P ops Q i K a w:=by
 unfold wpOp at h;unfold wpOpIn;cases hi:ops[i]? with
 |none=>simp only [hi]at h⊢;exact h
 |some o=>
  simp only [hi]at h⊢;by_cases hw:Region.wanted o (yielded ops a.tmps)=true
  ·rw [if_pos hw]at h⊢;exact XP (ajz hd hi) (h.resolve_right (λh2=>hno h2.2))
  ·rw [if_neg hw]at h⊢;exact⟨λ_ _=>trivial,h⟩
theorem acK (hd:Nr ops=true) (hno: ¬LetsOut Q): ∀(fuel:Nat) (listed:Array Bool) (a:Act) (w:World),wpAny P md ops Q fuel listed a w->wpAnyIn (Fence.wide.inRound l) n P md ops Q fuel listed a w
 |0,_,_,_,h=>h
 |fuel+1,listed,a,w,h=>⟨h.1,λi hi=>wpOpIn_mono (λa' w' h'=>acK hd hno fuel _ a' w' h') (ajA hd hno (h.2 i hi))⟩
theorem ajB {S:World->Prop} {id:Nat} {a:Act} {w:World} (hm:P.follows .mixedOrders=true) (hd:Nr ops=true) (hS:S w.drew)
  (h:S w.drew->wpAnyH P .any ops (Iq Q) S ops.size (Array.replicate ops.size false) a w.drew):(Code.region id ops true).wpIn (Fence.wide.inRound l) n P Q a w:=
 wpIn_mono (wpIn_region_any hm (acK hd (λh0=>by obtain⟨_,_,h1⟩:=h0;exact h1) _ _ _ _ (wpAny_of_held _ _ _ _ (h hS)))) Iq.imp
end
end
section
open Go.ChangeShapes Go.WideShapes Go.RowKit
def Az (w:World) (A:Option Addr) (n:Nat) (F:Nat->Nat->Nat):Prop:=
 0<n-> ∃b o,A=some ⟨b,o,none⟩/\b<w.heap.size/\ ∀i,i<n->w.rangeAt b (o+i*16) (ae 16 (F i))
section
variable {w w':World} {A:Option Addr} {n:Nat} {F:Nat->Nat->Nat}
theorem Az.to (h:Az w A n F) (hb:Below w.heap.size w w'):Az w' A n F:=λhn=>by
 obtain⟨b,o,e,hl,hr⟩:=h hn;exact⟨b,o,e,Nat.lt_of_lt_of_le hl hb.size,λi hi j v hv=>(hb.cell (p:=⟨b,o+i*16+j,none⟩) hl).trans (hr i hi j v hv)⟩
theorem Az.drew (h:Az w A n F):Az w.drew A n F:=h
theorem Az.drewN (h:Az w A n F) (k:Nat):Az (w.drewN k) A n F:=h
theorem Az.alloc (h:Az w A n F) (o:Obj):Az (w.alloc o) A n F:=h.to ((Below.refl _ _).alloc (Nat.le_refl _) o)
end
theorem anJ {P:Program} {W:World} {r:Reach} {base:Nat} {t e:TypeId} {v:Value} (ht:P.underlying t=some (.slice e)) (hv:Value.okWide P W r base t v):v.cells= #[v]:=by
 cases v with
 |agg cs=>simp [Value.okWide,Cell.okWide,Cell.ok,ht]at hv
 |_=>rfl
end
section
open Go.RowKit Go.Shelf
attribute [local go_sem] Oper.semAt_some
def pt (xs:List UInt8) (k j:Nat):Nat:=lF xs (16*k+j)
theorem qA (xs:List UInt8) (k j:Nat):pt xs k j<256:=qx _ _
def Jo (xs:List UInt8) (k:Nat):Array Value:= #[.int .i64 ((k+1:Nat):Int),.agg (ae 16 (pt xs k)).toArray]
def rX (n₀ Bs:Nat) (W W':World):Prop:=Below n₀ W W'/\W'.heap[Bs]?=W.heap[Bs]?
theorem rX.refl (n₀ Bs:Nat) (W:World):rX n₀ Bs W W:=⟨Below.refl _ _,rfl⟩
theorem rX.trans {n₀ Bs:Nat} {A B C:World} (h:rX n₀ Bs A B) (k:rX n₀ Bs B C):rX n₀ Bs A C:=⟨h.1.trans k.1,k.2.trans h.2⟩
theorem rX.new {n₀ Bs:Nat} {A B:World} (h:Below A.heap.size A B) (hn:n₀<=A.heap.size) (hb:Bs<A.heap.size):rX n₀ Bs A B:=⟨h.mono hn,h.block Bs hb⟩
theorem rX.cell {n₀ Bs:Nat} {A B:World} (h:rX n₀ Bs A B):B.cell? ⟨Bs,0,none⟩=A.cell? ⟨Bs,0,none⟩:=by simp [World.cell?,h.2]
theorem rX.putObj {n₀ Bs:Nat} {w:World} (hn:n₀<=w.heap.size) (hb:Bs<w.heap.size) (W:World) (l:Nat) (o o':Obj) (hl:w.heap.size<=l) (h:W.heap[l]?=some o) (h1:o.isCells=false) (h2:o.isWalk=false):rX n₀ Bs W (W.putObj l o'):=
 ⟨belowK_b hn W l o o' hl h h1 h2,World.putObj_heap_other (by omega)⟩
theorem acC {A B:World} (h:Below A.heap.size A B):A.grownBy B none:=⟨h.os,h.tape,h.output,h.size,λk hk _=>h.block k hk⟩
theorem abK {β:Type} {B0:Nat} {J:β->World->Prop} (hJ:AbidesFrom B0 J) {s:β} {A B:World} (h:J s A) (hb:Below A.heap.size A B):J s B:=hJ s A B none h (acC hb) (λr e=>by cases e)
theorem KX {w:World} {B n:Nat} {A:Option Addr} {l:List UInt8} (h:Sl w B A n l) (hn:0<n): ∃b o,A=some ⟨b,o,none⟩/\b<B:=by
 obtain⟨b,o,e,hb,_⟩:=h.2 hn;exact⟨b,o,e,hb⟩
theorem UG {w:World} {B n b o:Nat} {xs:List UInt8} (h:Sl w B (some ⟨b,o,none⟩) n xs) (k:Nat) (hk:16*k+16<=n): ∀j v,(ae 16 (pt xs k))[j]?=some v->w.cell? ((⟨b,o+16*k,none⟩:Addr).add j)=some v:=λj v hv=>by
 obtain⟨hj,rfl⟩:=xM hv;obtain⟨b2,o2,e,hb,hc⟩:=h.2 (by omega);injection e with e;injection e with e1 e2;subst e1 e2;have hl:=h.len;rw [Addr.add_mid,Nat.add_assoc,hc (16*k+j) xs[16*k+j] (List.getElem?_eq_getElem (by omega))];simp [b8,n8,pt,lF,List.getD,List.getElem?_eq_getElem (show 16*k+j<xs.length by omega)]
theorem ajC (n:Nat) (hn:1<=n) (l Bs n₀:Nat) (A:Option Addr) (m c:Nat) (xs:List UInt8) (hm:m<=1000000) (hmc:m<=c) (J Jx:List Nat->World->Prop) (W:World) (hJ:AbidesFrom W.heap.size J)
  (hY : ∀ pre x W1, J pre W1 -> pre.length < m / 16 -> YieldAt Fence.wide (n - 1) Tryz.prog l (Jo xs x) W1 λe W' =>
   (e= .returned (.bool true)/\J (pre++ [x]) W'/\rX n₀ Bs W1 W')\/(e= .returned (.bool false)/\Jx (pre++ [x]) W'))
  (qQ:n₀<=W.heap.size) (hBl:Bs<W.heap.size) (Jp:W.cell? ⟨Bs,0,none⟩=some (.slice A m c)) (hS:Sl W n₀ A m xs) (h0:J [] W):
  CallsIn Fence.wide n Tryz.prog 211 #[.func (.yield l) #[] #[],.pointer (some ⟨Bs,0,none⟩)] W λe W'=>(∃v,e= .returned v)/\
   ((∃ys,ys=List.range (m/16)/\J ys W')\/(∃pre,(∃k,k<=m/16/\pre=List.range k)/\Jx pre W')):=by
 have hz:=vw;refine callsIn_of_wp Tryz.func211 rfl trivial ?_ rfl;simp only [Tryz.ntmps211,List.size_toArray,List.length_cons,List.length_nil,Nat.reduceAdd,Nat.reduceSub,Array.replicate_succ,Array.replicate_zero,List.push_toArray,List.append_toArray,List.nil_append,List.cons_append];refine wpIn_wide.2 ?_;obtain⟨N,hN⟩:=Lv (m/16);have N1:((m:Int)).tdiv 16=(N:Int):=by rw [Int.tdiv_eq_ediv_of_nonneg (by omega)];omega
 have N2:(m:Int)/16=(N:Int):=by omega
 rw [<-hN]at hY⊢;obtain⟨HY,HJ,HN⟩:=dD hY hJ hN;clear hY hJ hN;go_wp2_with fail;go_loopw [8] (λi wr=> ∃k:Nat,k<=N/\i= .int .i64 k/\J (List.range k) wr/\rX n₀ Bs W wr/\n₀<=wr.heap.size/\Bs<wr.heap.size) (λi _=>N-(intOf i).toNat);case atStart=>exact⟨0,Nat.zero_le _,rfl,h0,rX.refl _ _ _,qQ,hBl⟩
 case round=>
  obtain⟨k,hk,rfl,hJs,ER,Sm,Pm⟩:=hrel;by_cases hlt:k<N
  ·have i1:(k:Int)<(N:Int):=(by omega);have Pn:=HN.out;obtain⟨b,off,rfl,hbn⟩:=KX hS (by omega);obtain⟨o,ho⟩:=Le (16*k);have o1:wrap64 (16*(k:Int))=(o:Int):=(by rw [IntWalk.wrap64_in _ (by omega)];omega);have o2:IntKind.i64.wrap (16*(k:Int))=(o:Int):=(by rw [fO _ (by omega) (by omega)];omega);have o3:16*(k:Int)=(o:Int):=(by omega);have o4:(o:Int)<=(m:Int):=(by omega);have o6: ¬c=o:=(by omega);have o5:IntKind.i64.wrap (o:Int)=(o:Int):=fO _ (by omega) (by omega);obtain⟨gP,bQ⟩:=Le (wr.heap.size);obtain⟨w1,af⟩:=Lv (wr.alloc (.cells (ae 16 λ_=>0).toArray 22));have nX:Wb w1 gP 16 (λ_=>0) 22:=(by rw [af,<-bQ];exact Wb.new wr 16 _ _);have au:=Bl af;have c1:w1.drew.cell? ⟨Bs,0,none⟩=some (.slice (some ⟨b,off,none⟩) m c):=(au.cell (p:=⟨Bs,0,none⟩) Pm).trans (ER.cell.trans Jp);have hsrc:=Hi (UG ((hS.below ER.1).below (au.mono Sm)) k (by omega));rw [ho]at hsrc;obtain⟨HW,mi,nD⟩:=dD (show w1.drew.heap[gP]?=some (.cells (ae 16 λ_=>0).toArray 22 (0,0))from nX) (show(ae 16 (pt xs k)).length=Nat.min (m-o) 16 by rw [bz];exact(Nat.min_eq_right (by omega)).symm) (show 0+(ae 16 (pt xs k)).length<=(ae 16 λ_=>0).length by rw [bz,bz];omega);have Pp:=Hi (show splice (ae 16 λ_=>0) 0 (ae 16 (pt xs k))=ae 16 (pt xs k)by
    rw [FO 16 16 _ _ 0 (by omega)];exact mh (λj hj=>by rw [if_pos (by omega),Nat.sub_zero]))
   obtain⟨wO,HNm,HO⟩:=dD hlt Pn ho;clear Pn ho;go_upto_region 4 with fail;try rw [bQ]
   rw [<-af];clear af
   go_region_law (refine step_copy_splice rfl (.tmp 11) (.tmp 15) 45 45 rfl 5 Tryz.Cz Tryz.FP _ _ _ _ _ _ rfl rfl gP 0 (ae 16 λ_=>0) 22 HW.out (ae 16 (pt xs k)) mi.out (λ_=>⟨rfl,⟨b,off+o,none⟩,rfl,hsrc.out⟩) nD.out (dz 16 _) gP w1.drew (Below.refl _ _) (Nat.le_refl _) ?_;intro w2 fC ai)
   have bG:Ar w2 gP 16 (pt xs k):=by
    have h:=fC.out;rw [Pp.out]at h;exact Wb.ar (show Wb w2 gP 16 _ _ from h)
   have aU:Below wr.heap.size wr w2:=au.trans ((show Below wr.heap.size w1 w1.drew from(Below.refl _ _).drew).trans (ai.mono (B':=wr.heap.size) (by omega)));have VJ:=abK HJ.out hJs aU;have VK:=ER.trans (rX.new aU Sm Pm);have dx:=aU.size;clear fC HW hsrc mi nD Pp ai au c1 hJs ER o1 o2 o3 o4 o5 o6 nX;have VL:=HY.out (List.range k) k w2 VJ (by simpa using wO.out);obtain⟨fn,tmps,assign,body,hy,hR⟩:=VL;dsimp only [Jo]at hy;have y1:((k+1:Nat):Int)=(k:Int)+1:=(by omega);rw [y1]at hy;try dsimp only [Act.put]
   go_upto_region 5 with fail;refine(wpIn_wide (n:=n)).1 ?_
   gi_wp2_with (refine abL rfl _ _ rfl _ _ _ rfl bG Tryz.iT (dW _) ?_)
   clear hy y1 bG;refine hR.mono ?_;rintro e W3 (⟨rfl,VM,ES⟩|⟨rfl,VN⟩)
   ·gi_wp2
    go_wp2_with fail;go_roundw;case rel=>
     have fe:=ES.1.size;exact⟨k+1,by omega,by go_num,by rw [List.range_succ];exact VM,VK.trans ES,by omega,by omega⟩
    case measure=>simp [intOf];omega
   ·gi_wp2
    go_wp2_with fail;refine bodyPost_ret (results_none rfl _ _ _) rfl ?_;exact⟨⟨_,rfl⟩,.inr ⟨_,⟨k+1,by omega,(List.range_succ).symm⟩,VN⟩⟩
  ·obtain rfl:k=N:=by omega
   go_wp2_with fail;go_end0;exact⟨⟨_,rfl⟩,.inl ⟨_,rfl,hJs⟩⟩
theorem aeT (n:Nat) (hn:1<=n) (Bs n₀:Nat) (A:Option Addr) (m c:Nat) (xs:List UInt8) (hm:m<=1000000) (hmc:m<=c) (w:World) (qQ:n₀<=w.heap.size) (hBl:Bs<w.heap.size) (Jp:w.cell? ⟨Bs,0,none⟩=some (.slice A m c)) (hS:Sl w n₀ A m xs):
  SeqStopsK Fence.wide n Tryz.prog 211 #[.pointer (some ⟨Bs,0,none⟩)] (Jo xs) (rX n₀ Bs) (λys=>ys=List.range (m/16)) (λpre=> ∃k,k<=m/16/\pre=List.range k) (m/16) w:=λl J Jx W hW hJ _ hY h0=>
 ajC n hn l Bs n₀ A m c xs hm hmc J Jx W hJ hY (Nat.le_trans qQ hW.size) (Nat.lt_of_lt_of_le hBl hW.size) ((hW.cell (p:=⟨Bs,0,none⟩) hBl).trans Jp) (hS.below (hW.mono qQ)) h0
theorem ajD (A:Option Addr) (n c:Nat) (w:World):
  Calls Tryz.prog 182 #[.slice A n c] w λe w'=>e= .returned (.func (.func 211) #[] #[.pointer (some ⟨w.heap.size,0,none⟩)])/\w'=w.alloc (.cells #[.slice A n c] 45):=by
 have Ch: ∀(fn:Fn) (first cap:Array Value) (w:World),(Instr.makeFunc fn first cap).run Tryz.prog w= .ok (.func fn first cap) w:=λ_ _ _ _=>rfl;go_enter Tryz.func182,Tryz.ntmps182;go_wp2_with fail;go_ret;exact⟨rfl,rfl⟩
theorem XU (A:Option Addr) (n c:Nat) (l:List UInt8) (w:World) (h:Sl w w.heap.size A n l) (hn:n<=1000000):
  Calls Tryz.prog 149 #[.slice A n c] w λe w'=> ∃g Bs,e= .returned (.func (.func 211) #[] #[.pointer (some ⟨Bs,0,none⟩)])/\w.heap.size<=g/\g<Bs/\Bs<w'.heap.size/\w'.cell? ⟨Bs,0,none⟩=some (.slice (some ⟨g,0,none⟩) n n)/\Sl w' w'.heap.size (some ⟨g,0,none⟩) n l/\Below w.heap.size w w':=by
 have hlen:=h.len;go_enter Tryz.func149,Tryz.ntmps149;go_wp2_with fail;refine(ahp A n c l w h hn).mono ?_;rintro e w2 ⟨rfl,mX,Aj,ai⟩;go_wp2_with fail;refine(ajD (some ⟨w.heap.size,0,none⟩) n n w2).mono ?_;rintro e w3 ⟨rfl,az⟩;have c3:w3.cell? ⟨w2.heap.size,0,none⟩=some (.slice (some ⟨w.heap.size,0,none⟩) n n):=by rw [az,World.cell?_alloc_at _ _ _ _ rfl];rfl
 have aU:=Bl az;have fe:=lh az;have AZ:Sl w3 w3.heap.size (some ⟨w.heap.size,0,none⟩) n l:=((Sl.aho mX hlen Aj).below aU).more aU.size;have aS:=ai.trans (aU.mono ai.size);clear az mX ai aU;go_wp2_with fail;go_ret;exact⟨w.heap.size,w2.heap.size,rfl,Nat.le_refl _,Aj,by omega,c3,AZ,aS⟩
end
section
open Go.RowKit Go.Shelf
attribute [local go_sem] Oper.semAt_some
theorem zL (A:Option Addr) (n c o:Nat) (ho:o<=n) (hnc:n<=c): ∃A':Option Addr,(∀W,(Instr.sliceAt 45 (.slice A n c) (some (.int .i64 (o:Int))) none none).run Tryz.prog W= .ok (.slice A' (n-o) (c-o)) W)/\
  ∀(W:World) (B:Nat) (l:List UInt8),Sl W B A n l->Sl W B A' (n-o) (l.drop o):=by
 have hel:Tryz.prog.elem 45=5:=by simp [Program.elem]
 have hs: ∀W,(sizeOf 5).run Tryz.prog W= .ok 1 W:=λW=>by kernel_rfl
 have hu:Tryz.prog.underlying 45=some (.slice (Tryz.prog.elem 45)):=by rw [hel];exact Tryz.Cz
 refine⟨if c=o then A else A.map (·.add (o*1)),λW=> ?_,λW B l h=> ?_⟩
 ·rw [run_sliceAt_slice (P:=Tryz.prog) W 45 _ _ _ _ hu];have h1:=run_slice_any (P:=Tryz.prog) W 45 A n c hu (some (.int .i64 (o:Int))) none none;rw [h1,hel];simp [Instr.sliceBounds,run_sliceBound,sliced,ho,hs]
 ·have hl:=h.len;refine⟨by simp [hl],λhn=> ?_⟩;obtain⟨b,off,e,hb,hc⟩:=h.2 (by omega);rw [if_neg (by omega),e];refine⟨b,off+o,by simp [Addr.add],hb,λj u hj=> ?_⟩;rw [List.getElem?_drop]at hj;rw [Nat.add_assoc];exact hc (o+j) u hj
theorem zI {β:Type} (g n:Nat) (f:Nat->Nat):Own (fun(_:β) W=>Ar W g n f):=λs X Y row hs hg hrow j hj=>
 ⟨cell_kept (hs j hj).1 hg hrow,(frozen_kept (hs j hj).1 hg hrow).trans (hs j hj).2⟩
theorem Ir {A B:World} (n:Nat) (h:Below A.heap.size A B):KeepsFrom n A B:=⟨h.size,λk o _ hk _=>(h.block k (Array.getElem?_eq_some_iff.1 hk).1).trans hk⟩
theorem aeQ {W W':World} {B:Nat} {t:TypeId} {v:Value} (h:Boxed W B t v) (hb:Below W.heap.size W W'):Boxed W' B t v:=(hb.block B h.lt).trans h
theorem NW (l:List UInt8) (o j:Nat):lF (l.drop o) j=lF l (o+j):=by simp [lF,List.getD]
end
end Go.Proofs.YtdaiacmneopkgaaGreatDoor
