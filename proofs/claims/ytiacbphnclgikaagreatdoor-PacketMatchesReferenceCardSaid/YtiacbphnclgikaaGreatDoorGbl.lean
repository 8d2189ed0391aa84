/-
 Lists of blocks, the iterator of package block, by walks through their texts, one after the other; what was there stays as it was.
-/
import Derived.Test.YtiacbphnclgikaaGreatDoorSqz
import Derived.Test.YtiacbphnclgikaaGreatDoorFre
import Derived.OwnWalkIn
import Derived.TacticsInMore
import Derived.OrdersIn
import Derived.Deep.RegionHeld3
import Derived.RangeFuncCalls
import Derived.Deep.Slices
import Derived.Test.YtiacbphnclgikaaGreatDoorGbk
import Derived.RangeFuncNested
import Derived.RangeFuncBound
import Derived.RangeFuncLeaves
import Derived.RangeFuncBox
import Derived.Shelf.Abstract
import Derived.LoopNIn
import Derived.LoopIn
import Derived.Maps.AppendAt
import Derived.Great.BuildSlice
namespace Go.Proofs.YtiacbphnclgikaaGreatDoor
section
open Go.RowKit
set_option linter.unusedVariables false
section
variable {F:Fence} {N:Nat} {P:Program}
theorem wpListIn_load_mid {ops:Array Oper} {rest:List Oper} {op:Oper} {a:Act} {w:World} {Q:Exit→Act→World→Prop} (hgd:op.guard=none) (ty:TypeId) (x:Operand) (ho:op.op= .load ty x)
  (b o:Nat) (hx:a.eval x= .pointer (some ⟨b,o,none⟩)) (cs:List Value) (d:TypeDesc) (hc:w.rangeAt b o cs)
  (hu:P.underlying ty=some d) (hd:d.isRow=true) (hi:(P.info? ty).map (·.size)=some cs.length)
  (h:wpListIn F N P ops Q rest (a.put op.dst (.agg cs.toArray)) w):wpListIn F N P ops Q (op::rest) a w:=by
 refine wpListIn_plain hgd fun K hK=> ?_
 unfold Oper.wpIn
 refine⟨?_,?_⟩
 ·simp [Oper.about,ho]
 ·rw [Oper.semAt_plain F _ _ (by rw [ho];intro c hc;cases hc)]
  unfold execOp
  simp only [ho,hx,Instr.loadAt,Instr.sureAddr,Sem.run_bind,Sem.run_pure,Result.andThen_ok,run_loadVar_mid w b o ty cs d hc hu hd hi]
  exact hK _ _ h
theorem wpListIn_load_ar {ops:Array Oper} {rest:List Oper} {op:Oper} {a:Act} {w:World} {Q:Exit→Act→World→Prop} (hgd:op.guard=none) (ty:TypeId) (x:Operand) (ho:op.op= .load ty x)
  (g n:Nat) (f:Nat→Nat) {m:Nat} {e:TypeId} (hx:a.eval x= .pointer (some ⟨g,0,none⟩)) (hA:Ar w g n f)
  (hu:P.underlying ty=some (.array m e)) (hi:(P.info? ty).map (·.size)=some (arL n f).length)
  (h:wpListIn F N P ops Q rest (a.put op.dst (.agg (arL n f).toArray)) w):wpListIn F N P ops Q (op::rest) a w:=
 wpListIn_load_mid hgd ty x ho g 0 hx (arL n f) _ hA.range hu rfl hi h
theorem wpListIn_store_ar {ops:Array Oper} {rest:List Oper} {op:Oper} {a:Act} {w:World} {Q:Exit→Act→World→Prop} (hgd:op.guard=none) (ty:TypeId) (x y:Operand) (ho:op.op= .store ty x y)
  (g n:Nat) (f f':Nat→Nat) (hx:a.eval x= .pointer (some ⟨g,0,none⟩)) (hy:a.eval y= .agg (arL n f').toArray)
  (hA:Ar w g n f) (hi:(P.info? ty).map (·.size)=some (arL n f').length)
  (h: ∀w',Ar w' g n f'→Below g w w'→w'.heap.size=w.heap.size→(w'=w.setCells g 0 (arL n f'))→wpListIn F N P ops Q rest (a.put op.dst undef) w'):
  wpListIn F N P ops Q (op::rest) a w:=by
 refine wpListIn_plain hgd fun K hK=> ?_
 unfold Oper.wpIn
 refine⟨?_,?_⟩
 ·simp [Oper.about,ho]
 ·rw [Oper.semAt_plain F _ _ (by rw [ho];intro c hc;cases hc)]
  have hr:=run_storeVar_mid (P:=P) w g 0 ty (arL n f').toArray (by rw [List.size_toArray,arL_len];exact hA.there) (by rw [List.size_toArray];exact hi) (all_oneCell_toArray (arL_one n f'))
  unfold execOp
  simp only [ho,hx,hy,Instr.storeAt,Instr.sureAddr,Sem.run_bind,Sem.run_pure,Result.andThen_ok,hr]
  exact hK _ _ (h _ (hA.whole f') (Below.setCells (Below.refl _ _) (Nat.le_refl _) _ _) (World.setCells_size _ _ _ _) rfl)
theorem wpListIn_bs_by {ops:Array Oper} {rest:List Oper} {o:Oper} {a:Act} {w w':World} {Q:Exit→Act→World→Prop} (hgd:o.guard=none) (t:TypeId) (len:Nat) (parts:Array (Nat×Operand)) (ho:o.op= .buildSlice t len parts)
  (ps:List (Nat×Value)) (hps:parts.toList.map (fun p=>(p.1,a.eval p.2))=ps) (v:Value) (hb:(Instr.buildSlice t len ps.toArray).run P w= .ok v w') (h:wpListIn F N P ops Q rest (a.put o.dst v) w'):wpListIn F N P ops Q (o::rest) a w:=by
 have e:(parts.map fun(i,x)=>(i,a.eval x))=ps.toArray:=by rw [←hps];apply Array.toList_inj.1;simp
 refine wpListIn_plain hgd fun K hK=> ?_
 unfold Oper.wpIn
 refine⟨?_,?_⟩
 ·simp [Oper.about,ho]
 ·rw [Oper.semAt_plain F _ _ (by rw [ho];intro c hc;cases hc)]
  unfold execOp
  simp only [ho,e,Sem.run_bind,hb,Result.andThen_ok]
  exact hK _ _ h
end
end
section
open Go.RowKit
set_option linter.unusedVariables false
def OnlyN (Q:Exit→Act→World→Prop):Exit→Act→World→Prop
 | .normal,a,w=>Q .normal a w
 |_,_,_=>False
theorem OnlyN.imp {Q:Exit→Act→World→Prop} (e:Exit) (a:Act) (w:World) (h:OnlyN Q e a w):Q e a w:=by
 cases e<;>first|exact h|exact(h:False).elim
section
variable {P:Program} {n l:Nat} {ops:Array Oper} {Q:Exit→Act→World→Prop} {md:Region.Mode}
theorem uponIn_of_upon {o:Oper} {a:Act} {next:Act→World→Prop} : ∀r:Result Next,o.upon P a next Q r→o.uponIn (Fence.wide.inRound l) n P a next Q r:=by
 intro r h
 cases r with
 |ok x w'=>
  cases x with
  |enter f args=>exact⟨fun h0=>by simp [Fence.wide,Fence.inRound]at h0,CallsIn.inRound l (callsIn_wide.2 h)⟩
  |row rw_ args=>exact⟨fun h0=>by simp [Fence.wide,Fence.inRound]at h0,fun c cs _=>let ⟨v,w9,h1,h2⟩:=h c cs;⟨v,w9,h1,stepsIn_wide.2 h2⟩⟩
  |value v=>exact h
  |skip=>exact h
  |defer d=>exact h
  |_=>exact(h:False).elim
 |halt x w'=>
  cases x with
  |panic v=>exact h
  |_=>exact(h:False).elim
theorem wpIn_of_wp {o:Oper} {a:Act} {w:World} {K:Act→World→Prop} (hd: ∀c,o.op≠ .defer c) (h:o.wp P a w K Q):o.wpIn (Fence.wide.inRound l) n P a w K Q:=by
 unfold Oper.wpIn
 refine⟨fun _ _=>trivial,?_⟩
 rw [Oper.semAt_plain _ _ _ hd]
 exact uponIn_of_upon _ h
def calmOps (ops:Array Oper):Bool:=ops.all fun o=>match o.op with| .defer _=>false|_=>true
theorem calmOps_spec (h:calmOps ops=true) {i:Nat} {o:Oper} (hi:ops[i]?=some o): ∀c,o.op≠ .defer c:=by
 intro c hc
 obtain⟨hlt,he⟩:=Array.getElem?_eq_some_iff.1 hi
 have h1:=(Array.all_eq_true_iff_forall_mem.1 h) o (by rw [←he];exact Array.getElem_mem hlt)
 rw [hc]at h1
 exact absurd h1 (by simp)
theorem wpOpIn_of {i:Nat} {a:Act} {w:World} {K:Act→World→Prop} (hd:calmOps ops=true) (hno: ¬LetsOut Q) (h:wpOp P ops Q i K a w):wpOpIn (Fence.wide.inRound l) n P ops Q i K a w:=by
 unfold wpOp at h
 unfold wpOpIn
 cases hi:ops[i]? with
 |none=>simp only [hi]at h⊢;exact h
 |some o=>
  simp only [hi]at h⊢
  by_cases hw:Region.wanted o (yielded ops a.tmps)=true
  ·rw [if_pos hw]at h⊢
   exact wpIn_of_wp (calmOps_spec hd hi) (h.resolve_right (fun h2=>hno h2.2))
  ·rw [if_neg hw]at h⊢
   exact⟨fun _ _=>trivial,h⟩
theorem wpAnyIn_of (hd:calmOps ops=true) (hno: ¬LetsOut Q): ∀(fuel:Nat) (listed:Array Bool) (a:Act) (w:World),wpAny P md ops Q fuel listed a w→wpAnyIn (Fence.wide.inRound l) n P md ops Q fuel listed a w
 |0,_,_,_,h=>h
 |fuel+1,listed,a,w,h=>⟨h.1,fun i hi=>wpOpIn_mono (fun a' w' h'=>wpAnyIn_of hd hno fuel _ a' w' h') (wpOpIn_of hd hno (h.2 i hi))⟩
theorem wpIn_region_calm {S:World→Prop} {id:Nat} {a:Act} {w:World} (hm:P.follows .mixedOrders=true) (hd:calmOps ops=true) (hS:S w.drew)
  (h:S w.drew→wpAnyH P .any ops (OnlyN Q) S ops.size (Array.replicate ops.size false) a w.drew):(Code.region id ops true).wpIn (Fence.wide.inRound l) n P Q a w:=
 wpIn_mono (wpIn_region_any hm (wpAnyIn_of hd (fun h0=>by obtain⟨_,_,h1⟩:=h0;exact h1) _ _ _ _ (wpAny_of_held _ _ _ _ (h hS)))) OnlyN.imp
end
end
section
open Go.ChangeShapes Go.WideShapes Go.RowKit
set_option linter.unusedVariables false
def S16 (w:World) (A:Option Addr) (n:Nat) (F:Nat→Nat→Nat):Prop:=
 0<n→ ∃b o,A=some ⟨b,o,none⟩∧b<w.heap.size∧ ∀i,i<n→w.rangeAt b (o+i*16) (arL 16 (F i))
section
variable {w w':World} {A:Option Addr} {n:Nat} {F:Nat→Nat→Nat}
theorem S16.to (h:S16 w A n F) (hb:Below w.heap.size w w'):S16 w' A n F:=fun hn=>by
 obtain⟨b,o,e,hl,hr⟩:=h hn
 exact⟨b,o,e,Nat.lt_of_lt_of_le hl hb.size,fun i hi j v hv=>(hb.cell (p:=⟨b,o+i*16+j,none⟩) hl).trans (hr i hi j v hv)⟩
theorem S16.drew (h:S16 w A n F):S16 w.drew A n F:=h
theorem S16.drewN (h:S16 w A n F) (k:Nat):S16 (w.drewN k) A n F:=h
theorem S16.alloc (h:S16 w A n F) (o:Obj):S16 (w.alloc o) A n F:=h.to ((Below.refl _ _).alloc (Nat.le_refl _) o)
end
theorem slice_cells {P:Program} {W:World} {r:Reach} {base:Nat} {t e:TypeId} {v:Value} (ht:P.underlying t=some (.slice e)) (hv:Value.okWide P W r base t v):v.cells= #[v]:=by
 cases v with
 |agg cs=>simp [Value.okWide,Cell.okWide,Cell.ok,ht]at hv
 |_=>rfl
theorem open_blocks {H:Type} {enc:TypeId×Value→H} {P:Program} {W:World} {B:Nat} {sp:Nat→Bool} {held:Bool} {t e e':TypeId} {v:Value} {d:DataW H} {p:List MemPlace}
  (ht:P.underlying t=some (.slice e)) (he:P.underlying e=some (.array 16 e')) (he':P.underlying e'=some (.int .u8)) (hce:P.cellsOf e=16) (hce':P.cellsOf e'=1)
  (hv:v.cells= #[v]) (h:DataW.Trod enc P W B sp held t v d p): ∃(A:Option Addr) (n c:Nat) (F:Nat→Nat→Nat),v= .slice A n c∧n≤c∧c≤maxLen∧(∀i j,F i j<256)∧S16 W A n F:=by
 obtain⟨fuel,hf⟩:=h
 rw [hv]at hf
 rcases Go.Deep.open_slice ht hf with ⟨h1,_⟩|⟨a,len,cap,m,k,D,Pl,h1,hb,hl,hm,hmm,_,hx⟩
 ·simp at h1
  exact⟨none,0,0,fun _ _=>0,h1,Nat.le_refl _,Nat.zero_le _,fun _ _=>(by show 0<256;omega),fun h=>absurd h (by omega)⟩
 ·simp at h1
  have hlm:len≤m:=by rw [hmm];split<;>omega
  have row: ∀i,i<len→ ∀j,j<16→ ∃z:Nat,z<256∧W.cell? ((a.add (i*16)).add j)=some (.int .u8 (z:Int)):=fun i hi j hj=>by
   obtain⟨cs,hc,ht2⟩:=hx i (by omega)
   rw [hce]at hc
   obtain⟨_,hcl,hcell⟩:=World.cells?_some hc
   obtain⟨xs,q,rfl,hx2,_,hxl,hg⟩:=DataW.trod_array he ht2
   have hgj:=hg j hj
   rw [hce',Nat.mul_one,List.getElem?_eq_getElem (by omega)]at hgj
   have hdt:(List.drop j cs).take 1= [cs[j]]:=by
    rw [List.drop_eq_getElem_cons (by omega)];rfl
   rw [hdt]at hgj
   obtain⟨z,ez,_,wz⟩:=DataW.trod_int he' hgj
   simp at ez
   have hb2:0≤z∧z≤255:=by simpa [Lit.wf,IntKind.min,IntKind.max,IntKind.signed,IntKind.bits]using wz
   refine⟨z.toNat,by omega,?_⟩
   rw [hcell j hj,List.getElem?_eq_getElem (by omega),ez]
   congr 2;omega
  let F:Nat→Nat→Nat:=fun i j=>if h:i<len∧j<16 then(row i h.1 j h.2).choose else 0
  have hF: ∀i (hi:i<len) j (hj:j<16),F i j<256∧W.cell? ((a.add (i*16)).add j)=some (.int .u8 (F i j:Int)):=fun i hi j hj=>by
   have e:F i j=(row i hi j hj).choose:=dif_pos ⟨hi,hj⟩
   rw [e];exact(row i hi j hj).choose_spec
  refine⟨some a,len,cap,F,h1,hl,hm,fun i j=> ?_,fun hn=> ?_⟩
  ·by_cases h:i<len∧j<16
   ·exact(hF i h.1 j h.2).1
   ·have e:F i j=0:=dif_neg h
    omega
  ·obtain⟨b,o,spot⟩:=a
   have hc0:=(hF 0 hn 0 (by omega)).2
   have hspot:spot=none:=by simpa [Addr.add]using World.cell?_spot hc0
   subst hspot
   have hadd: ∀i j,(((⟨b,o,none⟩:Addr).add (i*16)).add j)=⟨b,o+i*16+j,none⟩:=fun i j=>by rw [Addr.add_mid,Addr.add_mid]
   refine⟨b,o,rfl,?_,fun i hi j u hu=> ?_⟩
   ·rw [hadd]at hc0
    rcases Nat.lt_or_ge b W.heap.size with h1|h1
    ·exact h1
    ·simp [World.cell?,Array.getElem?_eq_none h1]at hc0
   ·obtain⟨hj,rfl⟩:=arL_get_some hu
    rw [←hadd];exact(hF i hi j hj).2
end
section
open Go.RowKit Go.Shelf
set_option linter.unusedVariables false
set_option maxRecDepth 100000
attribute [local go_sem] Oper.semAt_some
def pt (xs:List UInt8) (k j:Nat):Nat:=lF xs (16*k+j)
theorem pt_lt (xs:List UInt8) (k j:Nat):pt xs k j<256:=lF_lt _ _
def ptE (xs:List UInt8) (k:Nat):Array Value:= #[.int .i64 ((k+1:Nat):Int),.agg (arL 16 (pt xs k)).toArray]
def KpP (n₀ Bs:Nat) (W W':World):Prop:=Below n₀ W W'∧W'.heap[Bs]?=W.heap[Bs]?
theorem KpP.refl (n₀ Bs:Nat) (W:World):KpP n₀ Bs W W:=⟨Below.refl _ _,rfl⟩
theorem KpP.trans {n₀ Bs:Nat} {A B C:World} (h:KpP n₀ Bs A B) (k:KpP n₀ Bs B C):KpP n₀ Bs A C:=⟨h.1.trans k.1,k.2.trans h.2⟩
theorem KpP.new {n₀ Bs:Nat} {A B:World} (h:Below A.heap.size A B) (hn:n₀≤A.heap.size) (hb:Bs<A.heap.size):KpP n₀ Bs A B:=⟨h.mono hn,h.block Bs hb⟩
theorem KpP.cell {n₀ Bs:Nat} {A B:World} (h:KpP n₀ Bs A B):B.cell? ⟨Bs,0,none⟩=A.cell? ⟨Bs,0,none⟩:=by simp [World.cell?,h.2]
theorem KpP.putObj {n₀ Bs:Nat} {w:World} (hn:n₀≤w.heap.size) (hb:Bs<w.heap.size) (W:World) (l:Nat) (o o':Obj) (hl:w.heap.size≤l) (h:W.heap[l]?=some o) (h1:o.isCells=false) (h2:o.isWalk=false):KpP n₀ Bs W (W.putObj l o'):=
 ⟨belowK_b hn W l o o' hl h h1 h2,World.putObj_heap_other (by omega)⟩
theorem grown_new {A B:World} (h:Below A.heap.size A B):A.grownBy B none:=⟨h.os,h.tape,h.output,h.size,fun k hk _=>h.block k hk⟩
theorem abides_new {β:Type} {B0:Nat} {J:β→World→Prop} (hJ:AbidesFrom B0 J) {s:β} {A B:World} (h:J s A) (hb:Below A.heap.size A B):J s B:=hJ s A B none h (grown_new hb) (fun r e=>by cases e)
theorem sl_some {w:World} {B n:Nat} {A:Option Addr} {l:List UInt8} (h:Sl w B A n l) (hn:0<n): ∃b o,A=some ⟨b,o,none⟩∧b<B:=by
 obtain⟨b,o,e,hb,_⟩:=h.2 hn
 exact⟨b,o,e,hb⟩
theorem pt_cells {w:World} {B n b o:Nat} {xs:List UInt8} (h:Sl w B (some ⟨b,o,none⟩) n xs) (k:Nat) (hk:16*k+16≤n): ∀j v,(arL 16 (pt xs k))[j]?=some v→w.cell? ((⟨b,o+16*k,none⟩:Addr).add j)=some v:=fun j v hv=>by
 obtain⟨hj,rfl⟩:=arL_get_some hv
 obtain⟨b2,o2,e,hb,hc⟩:=h.2 (by omega)
 injection e with e
 injection e with e1 e2
 subst e1 e2
 have hl:=h.len
 rw [Addr.add_mid,Nat.add_assoc,hc (16*k+j) xs[16*k+j] (List.getElem?_eq_getElem (by omega))]
 simp [b8,n8,pt,lF,List.getD,List.getElem?_eq_getElem (show 16*k+j<xs.length by omega)]
set_option maxHeartbeats 2000000 in
theorem parts1 (n:Nat) (hn:1≤n) (l Bs n₀:Nat) (A:Option Addr) (m c:Nat) (xs:List UInt8) (hm:m≤1000000) (hmc:m≤c) (J Jx:List Nat→World→Prop) (W:World) (hJ:AbidesFrom W.heap.size J)
  (hY : ∀ pre x W1, J pre W1 → pre.length < m / 16 → YieldAt Fence.wide (n - 1) Tryz.prog l (ptE xs x) W1 fun e W' =>
   (e= .returned (.bool true)∧J (pre++ [x]) W'∧KpP n₀ Bs W1 W')∨(e= .returned (.bool false)∧Jx (pre++ [x]) W'))
  (hn0:n₀≤W.heap.size) (hBl:Bs<W.heap.size) (hBs:W.cell? ⟨Bs,0,none⟩=some (.slice A m c)) (hS:Sl W n₀ A m xs) (h0:J [] W):
  CallsIn Fence.wide n Tryz.prog 138 #[.func (.yield l) #[] #[],.pointer (some ⟨Bs,0,none⟩)] W fun e W'=>(∃v,e= .returned v)∧
   ((∃ys,ys=List.range (m/16)∧J ys W')∨(∃pre,(∃k,k≤m/16∧pre=List.range k)∧Jx pre W')):=by
 have hz:=zero16x
 refine callsIn_of_wp Tryz.func138 rfl trivial ?_ rfl
 simp only [Tryz.ntmps138,List.size_toArray,List.length_cons,List.length_nil,Nat.reduceAdd,Nat.reduceSub,Array.replicate_succ,Array.replicate_zero,List.push_toArray,List.append_toArray,List.nil_append,List.cons_append]
 refine wpIn_wide.2 ?_
 obtain⟨N,hN⟩:=Lv (m/16)
 have N1:((m:Int)).tdiv 16=(N:Int):=by rw [Int.tdiv_eq_ediv_of_nonneg (by omega)];omega
 have N2:(m:Int)/16=(N:Int):=by omega
 rw [←hN]at hY⊢
 have HY:=Lib.hid hY
 have HJ:=Lib.hid hJ
 have HN:=Lib.hid hN
 clear hY hJ hN
 go_wp2_with fail
 go_loopw [8] (fun i wr=> ∃k:Nat,k≤N∧i= .int .i64 k∧J (List.range k) wr∧KpP n₀ Bs W wr∧n₀≤wr.heap.size∧Bs<wr.heap.size) (fun i _=>N-(intOf i).toNat)
 case atStart=>exact⟨0,Nat.zero_le _,rfl,h0,KpP.refl _ _ _,hn0,hBl⟩
 case round=>
  obtain⟨k,hk,rfl,hJs,hKp,hw0,hwB⟩:=hrel
  by_cases hlt:k<N
  ·have i1:(k:Int)<(N:Int):=by omega
   have hNm:=HN.out
   obtain⟨b,off,rfl,hbn⟩:=sl_some hS (by omega)
   obtain⟨o,ho⟩:=Le (16*k)
   have o1:wrap64 (16*(k:Int))=(o:Int):=by rw [IntWalk.wrap64_in _ (by omega)];omega
   have o2:IntKind.i64.wrap (16*(k:Int))=(o:Int):=by rw [wraps_i64' _ (by omega) (by omega)];omega
   have o3:16*(k:Int)=(o:Int):=by omega
   have o4:(o:Int)≤(m:Int):=by omega
   have o6: ¬c=o:=by omega
   have o5:IntKind.i64.wrap (o:Int)=(o:Int):=wraps_i64' _ (by omega) (by omega)
   obtain⟨gP,hgP⟩:=Le (wr.heap.size)
   obtain⟨w1,hw1⟩:=Lv (wr.alloc (.cells (arL 16 fun _=>0).toArray 22))
   have hW1:Wb w1 gP 16 (fun _=>0) 22:=by rw [hw1,←hgP];exact Wb.new wr 16 _ _
   have hb1:=Bl hw1
   have c1:w1.drew.cell? ⟨Bs,0,none⟩=some (.slice (some ⟨b,off,none⟩) m c):=(hb1.cell (p:=⟨Bs,0,none⟩) hwB).trans (hKp.cell.trans hBs)
   have hsrc:=Lib.hid (pt_cells ((hS.below hKp.1).below (hb1.mono hw0)) k (by omega))
   rw [ho]at hsrc
   have HW:=Lib.hid (show w1.drew.heap[gP]?=some (.cells (arL 16 fun _=>0).toArray 22 (0,0))from hW1)
   have HMi:=Lib.hid (show(arL 16 (pt xs k)).length=Nat.min (m-o) 16 by rw [arL_len];exact(Nat.min_eq_right (by omega)).symm)
   have HFi:=Lib.hid (show 0+(arL 16 (pt xs k)).length≤(arL 16 fun _=>0).length by rw [arL_len,arL_len];omega)
   have HSP:=Lib.hid (show splice (arL 16 fun _=>0) 0 (arL 16 (pt xs k))=arL 16 (pt xs k)by
    rw [splice_ar 16 16 _ _ 0 (by omega)]
    exact arL_ext (fun j hj=>by rw [if_pos (by omega),Nat.sub_zero]))
   have HLT:=Lib.hid hlt
   have HNm:=Lib.hid hNm
   have HO:=Lib.hid ho
   clear hNm ho
   go_upto_region 4 with fail
   try rw [hgP]
   rw [←hw1]
   clear hw1
   go_region_law (refine step_copy_splice rfl (.tmp 11) (.tmp 15) 25 25 rfl 5 Tryz.sl8 Tryz.sz8 _ _ _ _ _ _ rfl rfl gP 0 (arL 16 fun _=>0) 22 HW.out (arL 16 (pt xs k)) HMi.out (fun _=>⟨rfl,⟨b,off+o,none⟩,rfl,hsrc.out⟩) HFi.out (arL_one 16 _) gP w1.drew (Below.refl _ _) (Nat.le_refl _) ?_;intro w2 hW2 hb2)
   have hT2:Ar w2 gP 16 (pt xs k):=by
    have h:=hW2.out
    rw [HSP.out]at h
    exact Wb.ar (show Wb w2 gP 16 _ _ from h)
   have hb3:Below wr.heap.size wr w2:=hb1.trans ((show Below wr.heap.size w1 w1.drew from(Below.refl _ _).drew).trans (hb2.mono (B':=wr.heap.size) (by omega)))
   have hJ2:=abides_new HJ.out hJs hb3
   have hKp2:=hKp.trans (KpP.new hb3 hw0 hwB)
   have hz2:=hb3.size
   clear hW2 HW hsrc HMi HFi HSP hb2 hb1 c1 hJs hKp o1 o2 o3 o4 o5 o6 hW1
   have hYk:=HY.out (List.range k) k w2 hJ2 (by simpa using HLT.out)
   obtain⟨fn,tmps,assign,body,hy,hR⟩:=hYk
   dsimp only [ptE]at hy
   have y1:((k+1:Nat):Int)=(k:Int)+1:=by omega
   rw [y1]at hy
   try dsimp only [Act.put]
   go_upto_region 5 with fail
   refine(wpIn_wide (n:=n)).1 ?_
   gi_wp2_with (refine wpListIn_load_ar rfl _ _ rfl _ _ _ rfl hT2 Tryz.arr16x (size16x _) ?_)
   clear hy y1 hT2
   refine hR.mono ?_
   rintro e W3 (⟨rfl,hJ3,hk3⟩|⟨rfl,hJx3⟩)
   ·gi_wp2
    go_wp2_with fail
    go_roundw
    case rel=>
     have hs3:=hk3.1.size
     exact⟨k+1,by omega,by go_num,by rw [List.range_succ];exact hJ3,hKp2.trans hk3,by omega,by omega⟩
    case measure=>simp [intOf];omega
   ·gi_wp2
    go_wp2_with fail
    refine bodyPost_ret (results_none rfl _ _ _) rfl ?_
    exact⟨⟨_,rfl⟩,.inr ⟨_,⟨k+1,by omega,(List.range_succ).symm⟩,hJx3⟩⟩
  ·obtain rfl:k=N:=by omega
   go_wp2_with fail
   go_end0
   exact⟨⟨_,rfl⟩,.inl ⟨_,rfl,hJs⟩⟩
theorem parts_stops (n:Nat) (hn:1≤n) (Bs n₀:Nat) (A:Option Addr) (m c:Nat) (xs:List UInt8) (hm:m≤1000000) (hmc:m≤c) (w:World) (hn0:n₀≤w.heap.size) (hBl:Bs<w.heap.size) (hBs:w.cell? ⟨Bs,0,none⟩=some (.slice A m c)) (hS:Sl w n₀ A m xs):
  SeqStopsK Fence.wide n Tryz.prog 138 #[.pointer (some ⟨Bs,0,none⟩)] (ptE xs) (KpP n₀ Bs) (fun ys=>ys=List.range (m/16)) (fun pre=> ∃k,k≤m/16∧pre=List.range k) (m/16) w:=fun l J Jx W hW hJ _ hY h0=>
 parts1 n hn l Bs n₀ A m c xs hm hmc J Jx W hJ hY (Nat.le_trans hn0 hW.size) (Nat.lt_of_lt_of_le hBl hW.size) ((hW.cell (p:=⟨Bs,0,none⟩) hBl).trans hBs) (hS.below (hW.mono hn0)) h0
set_option maxHeartbeats 800000 in
theorem bparts (A:Option Addr) (n c:Nat) (w:World):
  Calls Tryz.prog 110 #[.slice A n c] w fun e w'=>e= .returned (.func (.func 138) #[] #[.pointer (some ⟨w.heap.size,0,none⟩)])∧w'=w.alloc (.cells #[.slice A n c] 25):=by
 have hmf: ∀(fn:Fn) (first cap:Array Value) (w:World),(Instr.makeFunc fn first cap).run Tryz.prog w= .ok (.func fn first cap) w:=fun _ _ _ _=>rfl
 go_enter Tryz.func110,Tryz.ntmps110
 go_wp2_with fail
 go_ret
 exact⟨rfl,rfl⟩
set_option maxHeartbeats 800000 in
theorem ball (A:Option Addr) (n c:Nat) (l:List UInt8) (w:World) (h:Sl w w.heap.size A n l) (hn:n≤1000000):
  Calls Tryz.prog 79 #[.slice A n c] w fun e w'=> ∃g Bs,e= .returned (.func (.func 138) #[] #[.pointer (some ⟨Bs,0,none⟩)])∧w.heap.size≤g∧g<Bs∧Bs<w'.heap.size∧w'.cell? ⟨Bs,0,none⟩=some (.slice (some ⟨g,0,none⟩) n n)∧Sl w' w'.heap.size (some ⟨g,0,none⟩) n l∧Below w.heap.size w w':=by
 have hlen:=h.len
 go_enter Tryz.func79,Tryz.ntmps79
 go_wp2_with fail
 refine(bclone A n c l w h hn).mono ?_
 rintro e w2 ⟨rfl,hA2,hl2,hb2⟩
 go_wp2_with fail
 refine(bparts (some ⟨w.heap.size,0,none⟩) n n w2).mono ?_
 rintro e w3 ⟨rfl,hw3⟩
 have c3:w3.cell? ⟨w2.heap.size,0,none⟩=some (.slice (some ⟨w.heap.size,0,none⟩) n n):=by rw [hw3,World.cell?_alloc_at _ _ _ _ rfl];rfl
 have hb3:=Bl hw3
 have hs3:=Zs1 hw3
 have hS3:Sl w3 w3.heap.size (some ⟨w.heap.size,0,none⟩) n l:=((Sl.of_ar hA2 hlen hl2).below hb3).more hb3.size
 have hB3:=hb2.trans (hb3.mono hb2.size)
 clear hw3 hA2 hb2 hb3
 go_wp2_with fail
 go_ret
 exact⟨w.heap.size,w2.heap.size,rfl,Nat.le_refl _,hl2,by omega,c3,hS3,hB3⟩
end
section
open Go.RowKit Go.Shelf
set_option linter.unusedVariables false
set_option maxRecDepth 100000
attribute [local go_sem] Oper.semAt_some
theorem slice_from (A:Option Addr) (n c o:Nat) (ho:o≤n) (hnc:n≤c): ∃A':Option Addr,(∀W,(Instr.sliceAt 25 (.slice A n c) (some (.int .i64 (o:Int))) none none).run Tryz.prog W= .ok (.slice A' (n-o) (c-o)) W)∧
  ∀(W:World) (B:Nat) (l:List UInt8),Sl W B A n l→Sl W B A' (n-o) (l.drop o):=by
 have hel:Tryz.prog.elem 25=5:=by simp [Program.elem]
 have hs: ∀W,(sizeOf 5).run Tryz.prog W= .ok 1 W:=fun W=>by kernel_rfl
 have hu:Tryz.prog.underlying 25=some (.slice (Tryz.prog.elem 25)):=by rw [hel];exact Tryz.sl8
 refine⟨if c=o then A else A.map (·.add (o*1)),fun W=> ?_,fun W B l h=> ?_⟩
 ·rw [run_sliceAt_slice (P:=Tryz.prog) W 25 _ _ _ _ hu]
  have h1:=run_slice_any (P:=Tryz.prog) W 25 A n c hu (some (.int .i64 (o:Int))) none none
  rw [h1,hel]
  simp [Instr.sliceBounds,run_sliceBound,sliced,ho,hs]
 ·have hl:=h.len
  refine⟨by simp [hl],fun hn=> ?_⟩
  obtain⟨b,off,e,hb,hc⟩:=h.2 (by omega)
  rw [if_neg (by omega),e]
  refine⟨b,off+o,by simp [Addr.add],hb,fun j u hj=> ?_⟩
  rw [List.getElem?_drop]at hj
  rw [Nat.add_assoc];exact hc (o+j) u hj
theorem ar_own {β:Type} (g n:Nat) (f:Nat→Nat):Own (fun(_:β) W=>Ar W g n f):=fun s X Y row hs hg hrow j hj=>
 ⟨cell_kept (hs j hj).1 hg hrow,(frozen_kept (hs j hj).1 hg hrow).trans (hs j hj).2⟩
theorem keepsFrom_new {A B:World} (n:Nat) (h:Below A.heap.size A B):KeepsFrom n A B:=⟨h.size,fun k o _ hk _=>(h.block k (Array.getElem?_eq_some_iff.1 hk).1).trans hk⟩
theorem boxed_below {W W':World} {B:Nat} {t:TypeId} {v:Value} (h:Boxed W B t v) (hb:Below W.heap.size W W'):Boxed W' B t v:=(hb.block B h.lt).trans h
theorem lF_drop (l:List UInt8) (o j:Nat):lF (l.drop o) j=lF l (o+j):=by simp [lF,List.getD]
def blV (xs:List UInt8) (pre:List Nat):List Value:=pre.flatMap fun k=>arL 16 (pt xs k)
theorem blV_snoc (xs:List UInt8) (pre:List Nat) (x:Nat):blV xs (pre++ [x])=blV xs pre++arL 16 (pt xs x):=by simp [blV]
theorem infoB:(Tryz.prog.info? 22).map (fun i=>(i.zero,i.size,i.bytes))=some (some (.agg (Array.replicate 16 (.int .u8 0))),16,16):=by kernel_rfl
end
end Go.Proofs.YtiacbphnclgikaaGreatDoor
