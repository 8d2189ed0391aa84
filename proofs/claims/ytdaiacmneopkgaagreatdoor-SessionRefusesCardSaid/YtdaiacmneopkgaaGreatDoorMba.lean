/-
 Worlds that differ in some blocks; lists of numbers in memory, by walks through their texts; what was there stays as it was.
-/
import Derived.Test.YtdaiacmneopkgaaGreatDoorFre
import Derived.RangeFuncBox
namespace Go.Proofs.YtdaiacmneopkgaaGreatDoor
set_option linter.unusedVariables false
set_option maxRecDepth 100000
section
open Go.RowKit
structure But (S:Nat->Prop) (w w':World):Prop where
 os:w'.os=w.os
 tape:w'.tape=w.tape
 output:w'.output=w.output
 size:w.heap.size<=w'.heap.size
 block: ∀k,k<w.heap.size-> ¬S k->w'.heap[k]?=w.heap[k]?
 alike: ∀(k:Nat) (o:Obj),w.heap[k]?=some o->o.isCells=false->w'.heap[k]?=some o
def On (g:Nat):Nat->Prop:=λk=>k=g
section
variable {S T:Nat->Prop} {w W W':World} {g n:Nat} {c:Nat->Value}
theorem On.ne {g k:Nat} (h:k≠g): ¬On g k:=h
theorem But.of (h:Below w.heap.size w W):But S w W:=⟨h.os,h.tape,h.output,h.size,λk hk _=>h.block k hk,λk o hk _=>(h.block k (Array.getElem?_eq_some_iff.1 hk).1).trans hk⟩
theorem But.refl (S:Nat->Prop) (w:World):But S w w:=But.of (Below.refl _ _)
theorem But.drew (h:But S w W):But S w W.drew:=⟨h.os,h.tape,h.output,h.size,h.block,h.alike⟩
theorem But.trans (h:But S w W) (k:But S W W'):But S w W':=
 ⟨k.os.trans h.os,k.tape.trans h.tape,k.output.trans h.output,Nat.le_trans h.size k.size,
  λi hi hs=>(k.block i (Nat.lt_of_lt_of_le hi h.size) hs).trans (h.block i hi hs),λi o hi ho=>k.alike i o (h.alike i o hi ho) ho⟩
theorem But.more (h:But S w W) (hT: ∀k,S k->T k):But T w W:=⟨h.os,h.tape,h.output,h.size,λk hk hs=>h.block k hk (λe=>hs (hT k e)),h.alike⟩
theorem But.then (h:But S w W) (k:But T W W') (hT: ∀i,i<w.heap.size->T i->S i):But S w W':=
 ⟨k.os.trans h.os,k.tape.trans h.tape,k.output.trans h.output,Nat.le_trans h.size k.size,
  λi hi hs=>(k.block i (Nat.lt_of_lt_of_le hi h.size) (λe=>hs (hT i hi e))).trans (h.block i hi hs),λi o hi ho=>k.alike i o (h.alike i o hi ho) ho⟩
theorem But.set (h:But S w W) {p:Addr} (hp:S p.block) (u:Value):But S w (W.setCell p u):=by
 have hb:=(Below.refl 0 W).setCell (p:=p) (Nat.zero_le _) u;exact⟨hb.os.trans h.os,hb.tape.trans h.tape,hb.output.trans h.output,Nat.le_trans h.size hb.size,
  λk hk h1=>(Below.heap_setCell W p u k (λe=>h1 (e▸hp))).trans (h.block k hk h1),λk o hk ho=>(KeepsOthers.setCell W p u).same k o (h.alike k o hk ho) ho⟩
theorem But.put (h:But (On g) w W) (o:Nat) (u:Value):But (On g) w (W.setCell ⟨g,o,none⟩ u):=h.set (p:=⟨g,o,none⟩) rfl u
theorem But.below {B:Nat} (h:But S w W) (hB:B<=w.heap.size) (hS: ∀k,S k->B<=k):Below B w W:=⟨h.os,h.tape,h.output,h.size,λk hk=>h.block k (by omega) (λe=>by have:=hS k e;omega)⟩
theorem But.on {B:Nat} (h:But (On g) w W) (hB:B<=w.heap.size) (hg:B<=g):Below B w W:=h.below hB (λk e=>by cases e;exact hg)
theorem But.abE (h:But S w W) (n:Nat):KeepsFrom n w W:=⟨h.size,λk o _ hk ho=>h.alike k o hk ho⟩
theorem But.heap {k:Nat} (h:But S w W) (hk:k<w.heap.size) (hs: ¬S k):W.heap[k]?=w.heap[k]?:=h.block k hk hs
theorem aaq {k:Nat} (h:Cx w k n c) (he:W.heap[k]?=w.heap[k]?):Cx W k n c:=λj hj=>by
 refine⟨?_,?_⟩
 ·have:=(h j hj).1;simp only [World.cell?]at this⊢;rw [he];exact this
 ·have:=(h j hj).2;simp only [World.frozen?]at this⊢;rw [he];exact this
theorem Cx.but (h:Cx w g n c) (hb:But S w W) (hs: ¬S g) (hn:0<n:=by omega):Cx W g n c:=aaq h (hb.block g (h.lt hn) hs)
theorem Sl.but {A:Option Addr} {B m:Nat} {l:List UInt8} (h:Sl w B A m l) (hb:But S w W) (hB:B<=w.heap.size) (hs: ∀k,S k->B<=k):Sl W B A m l:=h.below (hb.below hB hs)
end
theorem Dn {P:Program} {fn:Func} {T:Array Value} {w:World} {p:Tmp} {ty:TypeId} {d:TypeDesc} {g n:Nat} {c:Nat->Value} (hr:fn.results= #[.cell p ty]) (hp:T.getD p undef= .pointer (some ⟨g,0,none⟩))
  (hA:Cx w g n c) (hu:P.underlying ty=some d) (hd:d.isRow=true) (hi:(P.info? ty).map (·.size)=some (av n c).length):
  (results fn T).run P w= .ok (.agg (av n c).toArray) w:=by
 have hp':T[p]?.getD undef= .pointer (some ⟨g,0,none⟩):=by simpa using hp
 have hc:w.rangeAt g 0 (av n c):=hA.range 0 _ (by rw [dB];omega) (λj v hv=>by rw [Nat.zero_add];exact(Bi hv).2.symm);simp only [results,hr];simp [hp',asAddr,run_loadVar_mid (P:=P) w g 0 ty (av n c) _ hc hu hd hi]
theorem row_of {P:Program} {t:TypeId} (h:(P.underlying t).map (·.isRow)=some true): ∃d,P.underlying t=some d/\d.isRow=true:=by
 cases hu:P.underlying t with
 |none=>rw [hu]at h;cases h
 |some d=>rw [hu]at h;exact⟨d,rfl,Option.some.inj h⟩
end
section
open Go.RowKit
def mK (n:Nat) (F:Nat->Nat):List Value:=(List.range n).map λj=> .int .u64 (F j:Int)
theorem abS (n:Nat) (F:Nat->Nat):(mK n F).length=n:=by simp [mK]
theorem abT (n:Nat) (F:Nat->Nat) (j:Nat) (h:j<n):(mK n F)[j]?=some (.int .u64 (F j:Int)):=by
 simp [mK,List.getElem?_map,List.getElem?_range h]
theorem aiL (n:Nat) (F:Nat->Nat):mK (n+1) F=mK n F++ [.int .u64 (F n:Int)]:=by simp [mK,List.range_succ]
theorem aiM {n:Nat} {F G:Nat->Nat} (h: ∀j,j<n->F j=G j):mK n F=mK n G:=by
 unfold mK;apply List.map_congr_left;intro j hj;rw [h j (List.mem_range.1 hj)]
def jA (F:Nat->Nat) (n x:Nat):Nat->Nat:=λj=>if j=n then x else F j
theorem Fj (F:Nat->Nat) (n x:Nat):jA F n x n=x:=if_pos rfl
theorem Mv (F:Nat->Nat) (n x j:Nat) (h:j<n):jA F n x j=F j:=if_neg (by omega)
theorem aie (n:Nat) (F:Nat->Nat) (x:Nat):mK (n+1) (jA F n x)=mK n F++ [.int .u64 (x:Int)]:=by
 rw [aiL,Fj,aiM (λj hj=>Mv F n x j hj)]
def Us (w:World) (B:Nat) (A:Option Addr) (n:Nat) (F:Nat->Nat):Prop:=
 ∀j,j<n-> ∃g o,A=some ⟨g,o,none⟩/\g<B/\w.cell? ⟨g,o+j,none⟩=some (.int .u64 (F j:Int))
section
variable {w w':World} {B n b c:Nat} {A:Option Addr} {F:Nat->Nat} {e:TypeId} {S:Nat->Prop}
theorem Us.keep (h:Us w B A n F) (hb:Below B w w'):Us w' B A n F:=λj hj=>by
 obtain⟨g,o,e,hg,hc⟩:=h j hj;exact⟨g,o,e,hg,(hb.cell (p:=⟨g,o+j,none⟩) hg).trans hc⟩
theorem Us.jk (h:w.ownsRow b e 1 (.slice A n c) n (mK n F)):Us w w.heap.size A n F:=λj hj=>by
 obtain⟨g,cap,hv,hg,hlt⟩:=World.ownsRow.form h (by omega);injection hv with e1 e2 e3;subst e1;refine⟨g,0,rfl,hlt,?_⟩;have hc:=World.ownsRow.cells h (g:=g) rfl j _ (abT n F j hj);have:(⟨g,0,none⟩:Addr).add j=⟨g,0+j,none⟩:=by unfold Addr.add;split<;>simp_all
 rw [this]at hc;exact hc
theorem Us.one (w:World) (x:Nat) (T:TypeId):Us (w.alloc (.cells #[.int .u64 (x:Int)] T)) (w.heap.size+1) (some ⟨w.heap.size,0,none⟩) 1 (λ_=>x):=λj hj=>by
 obtain rfl:j=0:=by omega
 exact⟨_,0,rfl,by omega,World.cell?_alloc_at _ _ _ _ rfl⟩
theorem sU {g:Nat} {v:Value} {xs:List Value} {s:Nat} (h:w.ownsRow b e s v n xs) (hb:But (On g) w w') (hg:g<b):w'.ownsRow b e s v n xs:=by
 refine⟨h.1,?_⟩;rcases h.2 with h2|⟨g2,cap,cur,rfl,hbg,hcell,h3⟩
 ·exact .inl h2
 ·refine .inr ⟨g2,cap,cur,rfl,hbg,(hb.block g2 (Array.getElem?_eq_some_iff.1 hcell).1 (On.ne (by omega))).trans hcell,h3⟩
theorem JP {v:Value} {xs:List Value} {s:Nat} (h:w.ownsRow b e s v n xs) (hb:Below w.heap.size w w'):w'.ownsRow b e s v n xs:=by
 refine⟨h.1,?_⟩;rcases h.2 with h2|⟨g2,cap,cur,rfl,hbg,hcell,h3⟩
 ·exact .inl h2
 ·exact .inr ⟨g2,cap,cur,rfl,hbg,(hb.block g2 (Array.getElem?_eq_some_iff.1 hcell).1).trans hcell,h3⟩
theorem SF {v:Value} {xs:List Value} {s:Nat} (h:w.ownsRow b e s v n xs) {g:Nat} (hg:v.ownBlock=some g):b<=g:=by
 rcases h.2 with ⟨rfl,_⟩|⟨g0,cap,cur,rfl,hb,_⟩
 ·simp [Value.ownBlock]at hg
 ·simp [Value.ownBlock]at hg;omega
theorem Us.Mw {cap:Nat} {zs:List Int} (h:(A=none/\n=0/\cap=0/\zs= [])\/
  ∃x,A=some x/\n<=cap/\cap<=maxLen/\zs.length=cap/\(∀i,i<zs.length->w.cell? (x.add i)=some (.int .u64 (zs.getD i 0)))/\ ∀m∈zs,(Lit.int .u64 m).wf=true):
  ∃F:Nat->Nat,Us w w.heap.size A n F/\(∀j,j<n->F j<18446744073709551616)/\n<=cap/\cap<=maxLen:=by
 rcases h with ⟨rfl,rfl,rfl,rfl⟩|⟨x,rfl,hl,hm,hz,hcell,hwz⟩
 ·exact⟨λ_=>0,λj hj=>by omega,λj hj=>by omega,Nat.le_refl _,by simp [maxLen]⟩
 ·have hr: ∀i,i<zs.length->0<=zs.getD i 0/\zs.getD i 0<=18446744073709551615:=by
   intro i hi;have hmem:zs.getD i 0∈zs:=by
    rw [List.getD_eq_getElem?_getD,List.getElem?_eq_getElem hi];simp
   have:=hwz _ hmem
   simpa [Lit.wf,IntKind.min,IntKind.max,IntKind.signed,IntKind.bits]using this
  obtain⟨F,hF⟩: ∃F:Nat->Nat,∀j,F j=(zs.getD j 0).toNat:=⟨_,λ_=>rfl⟩;refine⟨F,λj hj=> ?_,λj hj=>by have:=hr j (by omega);have:=hF j;omega,hl,hm⟩;obtain⟨b,off,spot⟩:=x;have hspot:spot=none:=by simpa [Addr.add]using World.cell?_spot (hcell 0 (by omega))
  have ze:=hcell j (by omega);subst hspot;have hadd: ∀i,(⟨b,off,none⟩:Addr).add i=⟨b,off+i,none⟩:=λi=>by unfold Addr.add;split<;>simp_all
  rw [hadd]at ze;refine⟨b,off,rfl,?_,?_⟩
  ·rcases Nat.lt_or_ge b w.heap.size with hlt|hge
   ·exact hlt
   ·simp [World.cell?,Array.getElem?_eq_none hge]at ze
  ·rw [ze];have h1:=hr j (by omega);have h2:=hF j;congr 2;omega
end
end
end Go.Proofs.YtdaiacmneopkgaaGreatDoor
