/-
 Maps from addresses to numbers in memory: looked up, counted up. Peers in memory: the address, the number of moves, the map, or no map (a fixed peer). Contracts of package peer, each by a walk through its text.
-/
import Derived.Test.YtdaiacmneopkgaaGreatDoorPea
import Derived.DeepKeys5
import Derived.MapKept
import Derived.WideKeyEntry
import Derived.Carry
import Derived.Maps.OwnOps
namespace Go.Proofs.YtdaiacmneopkgaaGreatDoor
set_option linter.unusedSimpArgs false
set_option linter.unusedVariables false
set_option maxRecDepth 100000
open Go.RowKit Go.MapKept
structure bT (S:Nat->Prop) (w w':World):Prop where
 os:w'.os=w.os
 tape:w'.tape=w.tape
 output:w'.output=w.output
 size:w.heap.size<=w'.heap.size
 block: ∀k,k<w.heap.size-> ¬S k->w'.heap[k]?=w.heap[k]?
def Tw (g m:Nat):Nat->Prop:=λk=>k=g\/k=m
section
variable {S:Nat->Prop} {w W W':World} {g m n:Nat} {c:Nat->Value}
theorem Tw.ne {k:Nat} (h:k≠g) (h2:k≠m): ¬Tw g m k:=λe=>e.elim h h2
theorem bT.of (h:Below w.heap.size w W):bT S w W:=⟨h.os,h.tape,h.output,h.size,λk hk _=>h.block k hk⟩
theorem bT.refl (S:Nat->Prop) (w:World):bT S w w:=bT.of (Below.refl _ _)
theorem bT.drew (h:bT S w W):bT S w W.drew:=⟨h.os,h.tape,h.output,h.size,h.block⟩
theorem bT.trans (h:bT S w W) (k:bT S W W'):bT S w W':=
 ⟨k.os.trans h.os,k.tape.trans h.tape,k.output.trans h.output,Nat.le_trans h.size k.size,λi hi hs=>(k.block i (Nat.lt_of_lt_of_le hi h.size) hs).trans (h.block i hi hs)⟩
theorem bT.then (h:bT S w W) (k:Below W.heap.size W W'):bT S w W':=h.trans (bT.of k)
theorem bT.set (h:bT S w W) {p:Addr} (hp:S p.block) (u:Value):bT S w (W.setCell p u):=by
 have hb:=(Below.refl 0 W).setCell (p:=p) (Nat.zero_le _) u;exact h.trans ⟨hb.os,hb.tape,hb.output,hb.size,λk hk h1=>Below.heap_setCell W p u k (λe=>h1 (e▸hp))⟩
theorem bT.below {B:Nat} (h:bT S w W) (hB:B<=w.heap.size) (hS: ∀k,S k->B<=k):Below B w W:=⟨h.os,h.tape,h.output,h.size,λk hk=>h.block k (by omega) (λe=>by have:=hS k e;omega)⟩
theorem bT.tw {B:Nat} (h:bT (Tw g m) w W) (hB:B<=w.heap.size) (hg:B<=g) (hm:B<=m):Below B w W:=h.below hB (λk e=>by rcases e with rfl|rfl<;>assumption)
theorem Cx.aG {k:Nat} (h:Cx w k n c) (hb:bT S w W) (hs: ¬S k) (hn:0<n:=by omega):Cx W k n c:=aaq h (hb.block k (h.lt hn) hs)
end
theorem afg:laidOutB Tryz.prog=true:=by kernel_rfl
theorem KL:WideMaps.KeyLaw Tryz.prog 157:=
 deep_law_gate afg (by rw [show Tryz.prog.types.size=299 by kernel_rfl];decide) (by rw [show Tryz.prog.types.size=299 by kernel_rfl];decide) (by kernel_rfl) (by rw [Tryz.underlying157])
def lJ (s:ByteArray):Value:= .agg #[.string s]
theorem U0 {a b:ByteArray} (h:lJ a=lJ b):a=b:=by
 unfold lJ at h;simp at h;exact h
theorem RA {s:ByteArray} (hs:s.size<=maxLen): ∃l,keyOf Tryz.prog 157 (lJ s)=some l:=by
 have hk:Tryz.prog.keyType 157=true:=by kernel_rfl
 have hf:(lJ s).formed Tryz.prog 157=true:=by
  unfold lJ Value.formed;rw [Tryz.underlying157,show Tryz.prog.cellsOf 157=1 by kernel_rfl];rfl
 have hl:Tryz.prog.keyLits (Tryz.prog.types.size+1) 157 (lJ s).cells.toList=some [.string s.data.toList]:=by
  have e:(lJ s).cells.toList= [.string s]:=rfl;have ez:Tryz.prog.types.size+1=(299-1)+1+1:=by rw [show Tryz.prog.types.size=299 by kernel_rfl]
  rw [e,ez];unfold Program.keyLits;rw [Tryz.underlying157];dsimp only;rw [show Tryz.prog.cellsOf 157=1 by kernel_rfl];unfold Program.keyLits;simp [Tryz.underlying9,show Tryz.prog.cellsOf 9=1 by kernel_rfl,hs]
 unfold keyOf;rw [Tryz.underlying157];dsimp only;rw [hk,hf,hl];exact⟨_,rfl⟩
theorem RB {s:ByteArray} (hs:s.size<=9223372036854775807):s.size<=maxLen:=by unfold maxLen;omega
def xS (c:ByteArray->Nat) (s:ByteArray):ByteArray->Nat:=λt=>if t=s then c s+1 else c t
structure Mc (es:Array MapEntry) (clock:Nat) (c:ByteArray->Nat):Prop where
 stamped:Stamped es clock
 read: ∀x∈es.toList,∃s,s.size<=9223372036854775807/\x.key=lJ s/\x.val= .int .i64 (c s:Nat)
 has: ∀s,c s≠0-> ∃x∈es.toList,x.key=lJ s
def Mp (w:World) (m:Nat) (c:ByteArray->Nat):Prop:= ∃es clock,w.heap[m]?=some (.map es clock)/\Mc es clock c
def Ms (w:World) (m:Nat) (c:ByteArray->Nat) (s:ByteArray) (st:Nat):Prop:= ∃es clock,w.heap[m]?=some (.map es clock)/\Mc es clock c/\ ∃(j:Nat) (e:MapEntry),es[j]?=some e/\e.born=st/\e.key=lJ s
theorem Ms.mp {w:World} {m st:Nat} {c:ByteArray->Nat} {s:ByteArray} (h:Ms w m c s st):Mp w m c:=by obtain⟨es,k,h1,h2,_⟩:=h;exact⟨es,k,h1,h2⟩
theorem Mc.keys {es:Array MapEntry} {clock:Nat} {c:ByteArray->Nat} (h:Mc es clock c): ∀e∈es.toList,∃l,keyOf Tryz.prog 157 e.key=some l:=λe he=>by
 obtain⟨s,hs,hk,_⟩:=h.read e he;rw [hk];exact RA (RB hs)
theorem Mp.lt {w:World} {m:Nat} {c:ByteArray->Nat} (h:Mp w m c):m<w.heap.size:=by obtain⟨es,k,h1,_⟩:=h;exact(Array.getElem?_eq_some_iff.1 h1).1
theorem Mp.blk {w W:World} {m:Nat} {c:ByteArray->Nat} (h:Mp w m c) (he:W.heap[m]?=w.heap[m]?):Mp W m c:=by obtain⟨es,k,h1,h2⟩:=h;exact⟨es,k,he.trans h1,h2⟩
theorem Mp.new (w:World):Mp (w.alloc (.map #[] 0)) w.heap.size (λ_=>0):=⟨#[],0,(MapKept.heap_alloc w _).1,⟨stamped_empty 0,λx hx=>by simp at hx,λs hs=>absurd rfl hs⟩⟩
theorem aar {es:Array MapEntry} {clock:Nat} {c:ByteArray->Nat} (h:Mc es clock c) (w:World) {s:ByteArray} (hs:s.size<=9223372036854775807):
  ((Instr.findKey 157 (lJ s) es.toList).run Tryz.prog w= .ok none w/\(∀e∈es.toList,e.key≠lJ s)/\c s=0)\/ ∃j e,(Instr.findKey 157 (lJ s) es.toList).run Tryz.prog w= .ok (some (j,.int .i64 (c s:Nat))) w/\es[j]?=some e/\e.key=lJ s/\e.val= .int .i64 (c s:Nat):=by
 obtain⟨l,hl⟩:=RA (RB hs);rcases KL.find w hl es.toList h.keys with ⟨h1,h2⟩|⟨j,e,h1,h2,h3⟩
 ·refine .inl ⟨h1,h2,?_⟩;rcases Nat.eq_zero_or_pos (c s)with h0|h0
  ·exact h0
  ·obtain⟨x,hx,hk⟩:=h.has s (by omega);exact absurd hk (h2 x hx)
 ·have he:e∈es.toList:=List.mem_of_getElem? h2;obtain⟨t,_,hk,hv⟩:=h.read e he;obtain rfl:t=s:=U0 (hk.symm.trans h3);exact .inr ⟨j,e,by rw [<-hv];exact h1,by simpa using h2,h3,hv⟩
theorem aas (w:World):(zeroValue 3).run Tryz.prog w= .ok (.int .i64 0) w:=Tryz.zeroValue3 w
theorem RD {w:World} {m:Nat} {c:ByteArray->Nat} (h:Mp w m c) {s:ByteArray} (hs:s.size<=9223372036854775807):(Instr.lookup 158 (.map (some m)) (lJ s) false).run Tryz.prog w= .ok (.int .i64 (c s:Nat)) w:=by
 obtain⟨es,clock,hb,hM⟩:=h;obtain⟨l,hl⟩:=RA (RB hs);rcases aar hM w hs with ⟨h1,_,h0⟩|⟨j,e,h1,_,_,_⟩
 ·simp [Instr.lookup,run_underlying Tryz.underlying158,MapKept.run_getObj_map hb,KL.check w _ hl,h1,aas,Result.andThen,h0]
 ·simp [Instr.lookup,run_underlying Tryz.underlying158,MapKept.run_getObj_map hb,KL.check w _ hl,h1,Result.andThen]
def EC (w:World) (m:Nat) (o:Obj):World:= { w with heap:=w.heap.setIfInBounds m o }
theorem U1 {w:World} {m:Nat} {es:Array MapEntry} {clock:Nat} (hb:w.heap[m]?=some (.map es clock)) (o:Obj):bT (On m) w (EC w m o)/\(EC w m o).heap[m]?=some o:=
 ⟨⟨rfl,rfl,rfl,by simp [EC],λk _ hk=>(heap_set hb).2 k hk⟩,(heap_set hb).1⟩
theorem RF {w:World} {m:Nat} {c:ByteArray->Nat} (h:Mp w m c) {s:ByteArray} (hs:s.size<=9223372036854775807):
  ∃st W,(Instr.mapEntry 158 (.map (some m)) (lJ s)).run Tryz.prog w= .ok (.tuple #[.int .i64 (c s:Nat),.int .i64 ((st:Nat):Int)]) W/\Ms W m c s st/\bT (On m) w W:=by
 obtain⟨es,clock,hb,hM⟩:=h;obtain⟨l,hl⟩:=RA (RB hs);rcases aar hM w hs with ⟨h1,h2,h0⟩|⟨j,e,h1,h2,h3,h4⟩
 ·obtain⟨hB,hn⟩:=U1 hb (.map (es.push ⟨lJ s,.int .i64 0,clock⟩) (clock+1));refine⟨clock,EC w m (.map (es.push ⟨lJ s,.int .i64 0,clock⟩) (clock+1)),?_,⟨_,_,hn,⟨stamped_push hM.stamped h2,?_,?_⟩,es.size,_,Array.getElem?_push_size,rfl,rfl⟩,hB⟩
  ·simp [Instr.mapEntry,run_underlying Tryz.underlying158,MapKept.run_getObj_map hb,KL.check w false hl,h1,aas,MapKept.run_setObj_map _ hb,Result.andThen,EC,h0,goInt]
  ·intro x hx;simp only [Array.toList_push,List.mem_append,List.mem_singleton]at hx;rcases hx with hx|rfl
   ·exact hM.read x hx
   ·exact⟨s,hs,rfl,by rw [h0];rfl⟩
  ·intro t ht;obtain⟨x,hx,hk⟩:=hM.has t ht;exact⟨x,by simp [hx],hk⟩
 ·have hsame:es.modify j (λe'=> { e' with key:=lJ s })=es:=by
   apply Array.ext';apply List.ext_getElem?;intro i;rw [Array.toList_modify,List.getElem?_modify];split
   ·rename_i hij;subst hij;rw [show es.toList[j]?=some e by simpa using h2];simp [<-h3]
   ·simp
  obtain⟨hB,hn⟩:=U1 hb (.map es clock);refine⟨e.born,EC w m (.map es clock),?_,⟨_,_,hn,hM,j,e,h2,rfl,h3⟩,hB⟩;simp [Instr.mapEntry,run_underlying Tryz.underlying158,MapKept.run_getObj_map hb,KL.check w false hl,h1,h2,h3,KL.stays w hl,hsame,MapKept.run_setObj_map _ hb,Result.andThen,EC,goInt]
theorem RG {w:World} {m st:Nat} {c:ByteArray->Nat} {s:ByteArray} (h:Ms w m c s st) (x:Nat) (hx:c s+1=x):
  ∃W,(Instr.entryStore 158 (.map (some m)) (.int .i64 ((st:Nat):Int)) (.int .i64 ((x:Nat):Int))).run Tryz.prog w= .ok () W/\Mp W m (xS c s)/\bT (On m) w W:=by
 obtain⟨es,clock,hb,hM,j,e,hj,rfl,hk⟩:=h;have hjl:es.toList[j]?=some e:=by simpa using hj
 have hidx:es.findIdx? (λe'=>((e'.born:Nat):Int)==((e.born:Nat):Int))=some j:=by
  rw [show es.findIdx? (λe'=>((e'.born:Nat):Int)==((e.born:Nat):Int))=es.toList.findIdx? (λe'=>((e'.born:Nat):Int)==((e.born:Nat):Int))by cases es;simp];exact WideElems.findIdx_born hM.stamped.2.1 hjl
 obtain⟨hB,hn⟩:=U1 hb (.map (es.modify j (λe'=> { e' with val:= .int .i64 ((x:Nat):Int) })) clock);have hat: ∀i,(es.modify j (λe'=> { e' with val:= .int .i64 ((x:Nat):Int) })).toList[i]?=if i=j then some { e with val:= .int .i64 ((x:Nat):Int) } else es.toList[i]?:=λi=>by
  rw [Array.toList_modify,List.getElem?_modify];by_cases hij:i=j
  ·subst hij;rw [if_pos rfl,hjl];simp
  ·have h9: ¬j=i:=λe1=>hij e1.symm;rw [if_neg hij];simp [h9]
 have hother: ∀i y,i≠j->es.toList[i]?=some y->y.key≠lJ s:=λi y hij hy e1=>by
  have hp:=(stamped_iff es clock).1 hM.stamped|>.2.2;rw [List.pairwise_iff_getElem]at hp;obtain⟨Oc,IW⟩:=List.getElem?_eq_some_iff.1 hy;obtain⟨RH,Bn⟩:=List.getElem?_eq_some_iff.1 hjl;rcases Nat.lt_or_ge i j with h3|h3
  ·exact hp i j Oc RH h3 (by rw [IW,Bn,e1,hk])
  ·exact hp j i RH Oc (by omega) (by rw [IW,Bn,e1,hk])
 refine⟨EC w m (.map (es.modify j (λe'=> { e' with val:= .int .i64 ((x:Nat):Int) })) clock),?_,⟨_,_,hn,stamped_modify hM.stamped _ _ (λ_ _=>rfl) (λ_ _ _=>rfl),?_,?_⟩,hB⟩
 ·simp [Instr.entryStore,MapKept.run_getObj_map hb,asInt,asIntOf,hidx,MapKept.run_setObj_map _ hb,Result.andThen,EC]
 ·intro y hy;obtain⟨i,hi⟩:=List.mem_iff_getElem?.1 hy;rw [hat i]at hi;by_cases hij:i=j
  ·rw [if_pos hij]at hi;obtain rfl:=Option.some.inj hi;obtain⟨t,ht,nJ,_⟩:=hM.read e (List.mem_of_getElem? hjl);obtain rfl:t=s:=U0 (nJ.symm.trans hk);exact⟨t,ht,hk,by show _=Value.int .i64 ((xS c t t:Nat):Int);unfold xS;rw [if_pos rfl,hx]⟩
  ·rw [if_neg hij]at hi;obtain⟨t,ht,nJ,hv⟩:=hM.read y (List.mem_of_getElem? hi);have hts:t≠s:=λe1=>hother i y hij hi (by rw [nJ,e1]);exact⟨t,ht,nJ,by rw [hv];unfold xS;rw [if_neg hts]⟩
 ·intro t ht;by_cases hts:t=s
  ·subst hts;exact⟨{ e with val:= .int .i64 ((x:Nat):Int) },List.mem_iff_getElem?.2 ⟨j,by rw [hat j,if_pos rfl]⟩,hk⟩
  ·unfold xS at ht;rw [if_neg hts]at ht;obtain⟨y,hy,nJ⟩:=hM.has t ht;obtain⟨i,hi⟩:=List.mem_iff_getElem?.1 hy;have hij:i≠j:=λe1=>by
    subst e1;rw [hjl]at hi;obtain rfl:=Option.some.inj hi;exact hts (U0 (nJ.symm.trans hk))
   exact⟨y,List.mem_iff_getElem?.2 ⟨i,by rw [hat i,if_neg hij];exact hi⟩,nJ⟩
end Go.Proofs.YtdaiacmneopkgaaGreatDoor
