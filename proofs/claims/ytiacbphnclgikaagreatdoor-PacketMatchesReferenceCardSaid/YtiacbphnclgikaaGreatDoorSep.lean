/-
 The ciphertext, the checksum and the offset after some parts, as a fold; worlds that differ in two blocks; a variable, and a slice of bytes in a block of its own; contracts of made and Size of package seal and of the closure of Crypt; the iterator of the parts where a round may write elder blocks.
-/
import Derived.Test.YtiacbphnclgikaaGreatDoorSqz
import Derived.Test.YtiacbphnclgikaaGreatDoorSea
import Derived.Test.YtiacbphnclgikaaGreatDoorGbl
import Derived.Test.YtiacbphnclgikaaGreatDoorGof
import Derived.Test.YtiacbphnclgikaaGreatDoorGtb
import Derived.Deep.RegionHeld3
import Derived.Deep.DeepAppendRoom
namespace Go.Proofs.YtiacbphnclgikaaGreatDoor
open Go.RowKit
set_option linter.unusedVariables false
set_option maxRecDepth 100000
open Go.Shelf
theorem adF_comm (f k:Nat→Nat):adF f k=adF k f:=funext fun j=>Nat.xor_comm _ _
def crH (f s a:Nat→Nat) (P:Nat→Nat→Nat) (pre:List Nat):List UInt8×(Nat→Nat)×(Nat→Nat):=
 pre.foldl (fun p x=>(p.1++liB 16 (adF (adF p.2.2 (nxH s x)) (enF f (adF (P x) (adF p.2.2 (nxH s x))))),adF p.2.1 (P x),adF p.2.2 (nxH s x))) ([],zF,a)
section
variable {f s a:Nat→Nat} {P:Nat→Nat→Nat}
theorem crH_snoc (f s a:Nat→Nat) (P:Nat→Nat→Nat) (pre:List Nat) (x:Nat):
  crH f s a P (pre++ [x])=((crH f s a P pre).1++liB 16 (adF (adF (crH f s a P pre).2.2 (nxH s x)) (enF f (adF (P x) (adF (crH f s a P pre).2.2 (nxH s x))))),adF (crH f s a P pre).2.1 (P x),adF (crH f s a P pre).2.2 (nxH s x)):=by
 unfold crH
 rw [List.foldl_append]
 rfl
theorem crH_fold (hs:B16 s) (hP: ∀k,B16 (P k)): ∀(l:List Nat) (p:List UInt8×(Nat→Nat)×(Nat→Nat)),B16 p.2.1→B16 p.2.2→
  (fun q:List UInt8×(Nat→Nat)×(Nat→Nat)=>q.1.length=p.1.length+16*l.length∧B16 q.2.1∧B16 q.2.2) (l.foldl (fun p x=>(p.1++liB 16 (adF (adF p.2.2 (nxH s x)) (enF f (adF (P x) (adF p.2.2 (nxH s x))))),adF p.2.1 (P x),adF p.2.2 (nxH s x))) p)
 | [],p,h,h2=>⟨by simp,h,h2⟩
 |x::l,p,h,h2=>by
  have h3:=crH_fold hs hP l (p.1++liB 16 (adF (adF p.2.2 (nxH s x)) (enF f (adF (P x) (adF p.2.2 (nxH s x))))),adF p.2.1 (P x),adF p.2.2 (nxH s x)) (adF_lt h (hP x)) (adF_lt h2 (nxH_lt hs x))
  refine⟨h3.1.trans ?_,h3.2⟩
  show(p.1++_).length+16*l.length=p.1.length+16*(l.length+1)
  rw [List.length_append,liB_len]
  omega
theorem crH_all (ha:B16 a) (hs:B16 s) (hP: ∀k,B16 (P k)) (pre:List Nat):(crH f s a P pre).1.length=16*pre.length∧B16 (crH f s a P pre).2.1∧B16 (crH f s a P pre).2.2:=by
 have h:=crH_fold (f:=f) hs hP pre ([],zF,a) zF_lt ha
 exact⟨h.1.trans (Nat.zero_add _),h.2⟩
theorem crH_range (f s a:Nat→Nat) (l:List UInt8) (N:Nat) (hN:N<9223372036854775807): ∀n,n≤N→crH f s a (pt l) (List.range n)=(liB (16*n) (ctF f s a l N),ckF (pt l) n,atF a s n)
 |0,_=>by rw [atF_zero];rfl
 |n+1,h=>by
  rw [List.range_succ,crH_snoc,crH_range f s a l N hN n (by omega),nxH_eq s n (by omega)]
  dsimp only
  rw [atF_step,ct_part l N n (by omega),adF_comm (atF a s (n+1))]
  rfl
end
structure AddK (w w':World) (g r:Nat):Prop where
 os:w'.os=w.os
 tape:w'.tape=w.tape
 output:w'.output=w.output
 size:w.heap.size≤w'.heap.size
 block: ∀k,k<w.heap.size→k≠g→k≠r→w'.heap[k]?=w.heap[k]?
 same: ∀(k:Nat) (o:Obj),w.heap[k]?=some o→o.isCells=false→w'.heap[k]?=some o
section
variable {w W W':World} {g r:Nat}
theorem AddK.of (h:Below w.heap.size w W):AddK w W g r:=⟨h.os,h.tape,h.output,h.size,fun k hk _ _=>h.block k hk,fun k o hk _=>(h.block k (Array.getElem?_eq_some_iff.1 hk).1).trans hk⟩
theorem AddK.drew (h:AddK w W g r):AddK w W.drew g r:=⟨h.os,h.tape,h.output,h.size,h.block,h.same⟩
theorem AddK.grown {A:Array Value} {t:TypeId} (h:AddK w W g r) (hg:W.grownBy W' (some r)) (hr:W.heap[r]?=some (.cells A t (0,0))):AddK w W' g r:=
 ⟨hg.os.trans h.os,hg.tape.trans h.tape,hg.output.trans h.output,Nat.le_trans h.size hg.size,
  fun k hk h1 h2=>(hg.block k (Nat.lt_of_lt_of_le hk h.size) (fun e=>h2 (Option.some.inj e))).trans (h.block k hk h1 h2),
  fun k o hk ho=>by
   have h1:=h.same k o hk ho
   refine(hg.block k (Array.getElem?_eq_some_iff.1 h1).1 (fun e=> ?_)).trans h1
   obtain rfl:=Option.some.inj e
   rw [hr]at h1
   obtain rfl:=Option.some.inj h1
   cases ho⟩
theorem AddK.set (h:AddK w W g r) (u:Value):AddK w (W.setCell ⟨g,0,none⟩ u) g r:=by
 have hb:=(Below.refl 0 W).setCell (p:=⟨g,0,none⟩) (Nat.zero_le _) u
 exact⟨hb.os.trans h.os,hb.tape.trans h.tape,hb.output.trans h.output,Nat.le_trans h.size hb.size,
  fun k hk h1 h2=>(Below.heap_setCell W ⟨g,0,none⟩ u k h1).trans (h.block k hk h1 h2),fun k o hk ho=>(KeepsOthers.setCell W ⟨g,0,none⟩ u).same k o (h.same k o hk ho) ho⟩
theorem AddK.below {B:Nat} (h:AddK w W g r) (hB:B≤w.heap.size) (hg:B≤g) (hr:B≤r):Below B w W:=⟨h.os,h.tape,h.output,h.size,fun k hk=>h.block k (by omega) (by omega) (by omega)⟩
theorem AddK.keepsFrom (h:AddK w W g r) (n:Nat):KeepsFrom n w W:=⟨h.size,fun k o _ hk ho=>h.same k o hk ho⟩
theorem ar_blk {k n:Nat} {f:Nat→Nat} (h:Ar w k n f) (he:W.heap[k]?=w.heap[k]?):Ar W k n f:=fun j hj=>by
 refine⟨?_,?_⟩
 ·have:=(h j hj).1;simp only [World.cell?]at this⊢;rw [he];exact this
 ·have:=(h j hj).2;simp only [World.frozen?]at this⊢;rw [he];exact this
theorem ar_add {k n:Nat} {f:Nat→Nat} (h:Ar w k n f) (hn:0<n) (ha:AddK w W g r) (h1:k≠g) (h2:k≠r):Ar W k n f:=ar_blk h (ha.block k (h.lt hn) h1 h2)
end
def Bv (W:World) (g:Nat) (t:TypeId) (v:Value):Prop:=Boxed W g t v
section
variable {w W W':World} {g b r:Nat} {t:TypeId} {v:Value}
theorem Bv.lt (h:Bv W g t v):g<W.heap.size:=Boxed.lt h
theorem Bv.cell (h:Bv W g t v):W.cell? ⟨g,0,none⟩=some v:=Boxed.cell h
theorem Bv.frozen (h:Bv W g t v):W.frozen? ⟨g,0,none⟩=false:=Boxed.frozen h
theorem Bv.drew (h:Bv W g t v):Bv W.drew g t v:=h
theorem Bv.new (W:World) (t:TypeId) (v:Value):Bv (W.alloc (.cells #[v] t)) W.heap.size t v:=Boxed.new W t v
theorem Bv.blk (h:Bv W g t v) (he:W'.heap[g]?=W.heap[g]?):Bv W' g t v:=he.trans h
theorem Bv.to (h:Bv W g t v) (hb:Below W.heap.size W W'):Bv W' g t v:=h.blk (hb.block g h.lt)
theorem Bv.keep (h:Bv W g t v) (hl:g<b) (hb:Below b W W'):Bv W' g t v:=h.blk (hb.block g hl)
theorem Bv.alloc (h:Bv W g t v) (o:Obj):Bv (W.alloc o) g t v:=h.to ((Below.refl _ _).alloc (Nat.le_refl _) o)
theorem Bv.set (h:Bv W g t v) (u:Value):Bv (W.setCell ⟨g,0,none⟩ u) g t u:=Boxed.set u h
theorem Bv.far (h:Bv W g t v) {p:Addr} (hp:p.block≠g) (u:Value):Bv (W.setCell p u) g t v:=h.blk (Below.heap_setCell W p u g (fun e=>hp e.symm))
theorem heap_setCells (hb:g≠b) (vs:List Value): ∀(o:Nat) (W:World),(W.setCells b o vs).heap[g]?=W.heap[g]?:=by
 induction vs with
 |nil=>intro o W;rfl
 |cons v vs ih=>intro o W;rw [World.setCells];exact(ih (o+1) _).trans (Below.heap_setCell W ⟨b,o,none⟩ v g hb)
theorem Bv.apart (h:Bv W g t v) (hb:g≠b) (vs:List Value) (o:Nat):Bv (W.setCells b o vs) g t v:=h.blk (heap_setCells hb vs o W)
theorem Bv.add {g1:Nat} (h:Bv w g t v) (ha:AddK w W g1 r) (h1:g≠g1) (h2:g≠r):Bv W g t v:=h.blk (ha.block g h.lt h1 h2)
end
def Ro (W:World) (g c n:Nat) (l:List UInt8):Prop:=W.ownsRow g 5 1 (.slice (some ⟨g,0,none⟩) n c) n (l.map b8)
section
variable {w W W':World} {g b c n:Nat} {l:List UInt8}
theorem Ro.cells (h:Ro W g c n l): ∃A:Array Value,W.heap[g]?=some (.cells A 5 (0,0)):=by
 rcases h.2 with ⟨e,_⟩|⟨g1,cap,cur,e,_,h3,_⟩
 ·cases e
 ·cases e;exact⟨cur,h3⟩
theorem Ro.lt (h:Ro W g c n l):g<W.heap.size:=by
 obtain⟨A,hA⟩:=h.cells
 exact(Array.getElem?_eq_some_iff.1 hA).1
theorem Ro.blk (h:Ro W g c n l) (he:W'.heap[g]?=W.heap[g]?):Ro W' g c n l:=by
 refine⟨h.1,?_⟩
 rcases h.2 with ⟨e,_⟩|⟨g1,cap,cur,e,h2,h3,h4⟩
 ·cases e
 ·cases e;exact .inr ⟨_,_,cur,rfl,h2,he.trans h3,h4⟩
theorem Ro.drew (h:Ro W g c n l):Ro W.drew g c n l:=h.blk rfl
theorem Ro.to (h:Ro W g c n l) (hb:Below W.heap.size W W'):Ro W' g c n l:=h.blk (hb.block g h.lt)
theorem Ro.keep (h:Ro W g c n l) (hl:g<b) (hb:Below b W W'):Ro W' g c n l:=h.blk (hb.block g hl)
theorem Ro.far (h:Ro W g c n l) {p:Addr} (hp:p.block≠g) (u:Value):Ro (W.setCell p u) g c n l:=h.blk (Below.heap_setCell W p u g (fun e=>hp e.symm))
theorem Ro.apart (h:Ro W g c n l) (hb:g≠b) (vs:List Value) (o:Nat):Ro (W.setCells b o vs) g c n l:=h.blk (heap_setCells hb vs o W)
theorem Ro.sl (h:Ro W g c n l):Sl W W.heap.size (some ⟨g,0,none⟩) n l:=Sl.of_own h
end
theorem blk_own {X Y:World} {row:Option Nat} {k:Nat} {A:Array Value} {t:TypeId} (h:X.heap[k]?=some (.cells A t (0,0))) (hg:X.grownBy Y row) (hr: ∀r,row=some r→ ∃o:Obj,X.heap[r]?=some o∧o.isCells=false):Y.heap[k]?=X.heap[k]?:=
 hg.block k (Array.getElem?_eq_some_iff.1 h).1 (fun e=>by
  obtain⟨o,h1,h2⟩:=hr k e.symm
  rw [h]at h1
  obtain rfl:=Option.some.inj h1
  cases h2)
theorem Bv.own {X Y:World} {row:Option Nat} {g:Nat} {t:TypeId} {v:Value} (h:Bv X g t v) (hg:X.grownBy Y row) (hr: ∀r,row=some r→ ∃o:Obj,X.heap[r]?=some o∧o.isCells=false):Bv Y g t v:=h.blk (blk_own h hg hr)
theorem Ro.own {X Y:World} {row:Option Nat} {g c n:Nat} {l:List UInt8} (h:Ro X g c n l) (hg:X.grownBy Y row) (hr: ∀r,row=some r→ ∃o:Obj,X.heap[r]?=some o∧o.isCells=false):Ro Y g c n l:=by
 obtain⟨A,hA⟩:=h.cells
 exact h.blk (blk_own hA hg hr)
def KpG (A:Option Addr) (Bs:Nat) (W W':World):Prop:=W.heap.size≤W'.heap.size∧W'.heap[Bs]?=W.heap[Bs]?∧ ∀b o k,A=some ⟨b,o,k⟩→W'.heap[b]?=W.heap[b]?
theorem KpG.refl (A:Option Addr) (Bs:Nat) (W:World):KpG A Bs W W:=⟨Nat.le_refl _,rfl,fun _ _ _ _=>rfl⟩
theorem KpG.trans {A:Option Addr} {Bs:Nat} {X Y Z:World} (h:KpG A Bs X Y) (k:KpG A Bs Y Z):KpG A Bs X Z:=⟨Nat.le_trans h.1 k.1,k.2.1.trans h.2.1,fun b o q e=>(k.2.2 b o q e).trans (h.2.2 b o q e)⟩
theorem KpG.new {A:Option Addr} {Bs:Nat} {X Y:World} (h:Below X.heap.size X Y) (hb:Bs<X.heap.size) (hA: ∀b o k,A=some ⟨b,o,k⟩→b<X.heap.size):KpG A Bs X Y:=⟨h.size,h.block Bs hb,fun b o k e=>h.block b (hA b o k e)⟩
theorem KpG.cell {A:Option Addr} {Bs:Nat} {X Y:World} (h:KpG A Bs X Y):Y.cell? ⟨Bs,0,none⟩=X.cell? ⟨Bs,0,none⟩:=by simp [World.cell?,h.2.1]
theorem KpG.putObj {A:Option Addr} {Bs:Nat} {w:World} (hb:Bs<w.heap.size) (hA: ∀b o k,A=some ⟨b,o,k⟩→b<w.heap.size) (W:World) (l:Nat) (o o':Obj) (hl:w.heap.size≤l) (h:W.heap[l]?=some o) (h1:o.isCells=false) (h2:o.isWalk=false):KpG A Bs W (W.putObj l o'):=
 ⟨(belowK_b (w:=w) (Nat.zero_le _) W l o o' hl h h1 h2).size,World.putObj_heap_other (by omega),fun b q k e=>World.putObj_heap_other (by have:=hA b q k e;omega)⟩
theorem sl_kpg {A:Option Addr} {Bs B n:Nat} {X Y:World} {l:List UInt8} (h:Sl X B A n l) (k:KpG A Bs X Y):Sl Y B A n l:=by
 refine⟨h.1,fun hn=> ?_⟩
 obtain⟨b,o,e,hb,hc⟩:=h.2 hn
 refine⟨b,o,e,hb,fun j u hj=> ?_⟩
 have h1:=hc j u hj
 simp only [World.cell?]at h1⊢
 rw [k.2.2 b o none e]
 exact h1
attribute [local go_sem] Oper.semAt_some
set_option maxHeartbeats 2000000 in
theorem partsG1 (n:Nat) (hn:1≤n) (l Bs n₀:Nat) (A:Option Addr) (m c:Nat) (xs:List UInt8) (hm:m≤1000000) (hmc:m≤c) (J Jx:List Nat→World→Prop) (W:World) (hJ:AbidesFrom W.heap.size J)
  (hY : ∀ pre x W1, J pre W1 → pre.length < m / 16 → YieldAt Fence.wide (n - 1) Tryz.prog l (ptE xs x) W1 fun e W' =>
   (e= .returned (.bool true)∧J (pre++ [x]) W'∧KpG A Bs W1 W')∨(e= .returned (.bool false)∧Jx (pre++ [x]) W'))
  (hn0:n₀≤W.heap.size) (hBl:Bs<W.heap.size) (hBs:W.cell? ⟨Bs,0,none⟩=some (.slice A m c)) (hS:Sl W n₀ A m xs) (h0:J [] W):
  CallsIn Fence.wide n Tryz.prog 138 #[.func (.yield l) #[] #[],.pointer (some ⟨Bs,0,none⟩)] W fun e W'=>(∃v,e= .returned v)∧
   ((∃ys,ys=List.range (m/16)∧J ys W')∨(∃pre,(∃k,k≤m/16∧pre=List.range k)∧Jx pre W')):=by
 have hz:=zero16x
 refine callsIn_of_wp Tryz.func138 rfl trivial ?_ rfl
 simp only [Tryz.ntmps138,List.size_toArray,List.length_cons,List.length_nil,Nat.reduceAdd,Nat.reduceSub,Array.replicate_succ,Array.replicate_zero,List.push_toArray,List.append_toArray,List.nil_append,List.cons_append]
 refine wpIn_wide.2 ?_
 obtain⟨N,hN⟩:=Lv (m/16)
 have N1:((m:Int)).tdiv 16=(N:Int):=by rw [Int.tdiv_eq_ediv_of_nonneg (by omega)];omega
 have N2:(m:Int)/16=(N:Int):=by omega
 rw [←hN]at hY⊢
 have HY:=Lib.hid hY
 have HJ:=Lib.hid hJ
 have HN:=Lib.hid hN
 clear hY hJ hN
 go_wp2_with fail
 go_loopw [8] (fun i wr=> ∃k:Nat,k≤N∧i= .int .i64 k∧J (List.range k) wr∧KpG A Bs W wr∧n₀≤wr.heap.size∧Bs<wr.heap.size) (fun i _=>N-(intOf i).toNat)
 case atStart=>exact⟨0,Nat.zero_le _,rfl,h0,KpG.refl _ _ _,hn0,hBl⟩
 case round=>
  obtain⟨k,hk,rfl,hJs,hKp,hw0,hwB⟩:=hrel
  by_cases hlt:k<N
  ·have i1:(k:Int)<(N:Int):=by omega
   have hNm:=HN.out
   obtain⟨b,off,rfl,hbn⟩:=sl_some hS (by omega)
   obtain⟨o,ho⟩:=Le (16*k)
   have o1:wrap64 (16*(k:Int))=(o:Int):=by rw [IntWalk.wrap64_in _ (by omega)];omega
   have o2:IntKind.i64.wrap (16*(k:Int))=(o:Int):=by rw [wraps_i64' _ (by omega) (by omega)];omega
   have o3:16*(k:Int)=(o:Int):=by omega
   have o4:(o:Int)≤(m:Int):=by omega
   have o6: ¬c=o:=by omega
   have o5:IntKind.i64.wrap (o:Int)=(o:Int):=wraps_i64' _ (by omega) (by omega)
   obtain⟨gP,hgP⟩:=Le (wr.heap.size)
   obtain⟨w1,hw1⟩:=Lv (wr.alloc (.cells (arL 16 fun _=>0).toArray 22))
   have hW1:Wb w1 gP 16 (fun _=>0) 22:=by rw [hw1,←hgP];exact Wb.new wr 16 _ _
   have hb1:=Bl hw1
   have c1:w1.drew.cell? ⟨Bs,0,none⟩=some (.slice (some ⟨b,off,none⟩) m c):=(hb1.cell (p:=⟨Bs,0,none⟩) hwB).trans (hKp.cell.trans hBs)
   have hsrc:=Lib.hid (pt_cells ((sl_kpg hS hKp).below (hb1.mono hw0)) k (by omega))
   rw [ho]at hsrc
   have HW:=Lib.hid (show w1.drew.heap[gP]?=some (.cells (arL 16 fun _=>0).toArray 22 (0,0))from hW1)
   have HMi:=Lib.hid (show(arL 16 (pt xs k)).length=Nat.min (m-o) 16 by rw [arL_len];exact(Nat.min_eq_right (by omega)).symm)
   have HFi:=Lib.hid (show 0+(arL 16 (pt xs k)).length≤(arL 16 fun _=>0).length by rw [arL_len,arL_len];omega)
   have HSP:=Lib.hid (show splice (arL 16 fun _=>0) 0 (arL 16 (pt xs k))=arL 16 (pt xs k)by
    rw [splice_ar 16 16 _ _ 0 (by omega)]
    exact arL_ext (fun j hj=>by rw [if_pos (by omega),Nat.sub_zero]))
   have HLT:=Lib.hid hlt
   have HNm:=Lib.hid hNm
   have HO:=Lib.hid ho
   clear hNm ho
   go_upto_region 4 with fail
   try rw [hgP]
   rw [←hw1]
   clear hw1
   go_region_law (refine step_copy_splice rfl (.tmp 11) (.tmp 15) 25 25 rfl 5 Tryz.sl8 Tryz.sz8 _ _ _ _ _ _ rfl rfl gP 0 (arL 16 fun _=>0) 22 HW.out (arL 16 (pt xs k)) HMi.out (fun _=>⟨rfl,⟨b,off+o,none⟩,rfl,hsrc.out⟩) HFi.out (arL_one 16 _) gP w1.drew (Below.refl _ _) (Nat.le_refl _) ?_;intro w2 hW2 hb2)
   have hT2:Ar w2 gP 16 (pt xs k):=by
    have h:=hW2.out
    rw [HSP.out]at h
    exact Wb.ar (show Wb w2 gP 16 _ _ from h)
   have hb3:Below wr.heap.size wr w2:=hb1.trans ((show Below wr.heap.size w1 w1.drew from(Below.refl _ _).drew).trans (hb2.mono (B':=wr.heap.size) (by omega)))
   have hJ2:=abides_new HJ.out hJs hb3
   have hKp2:=hKp.trans (KpG.new hb3 hwB (fun b2 o2 k2 e=>by cases e;omega))
   have hz2:=hb3.size
   clear hW2 HW hsrc HMi HFi HSP hb2 hb1 c1 hJs hKp o1 o2 o3 o4 o5 o6 hW1
   have hYk:=HY.out (List.range k) k w2 hJ2 (by simpa using HLT.out)
   obtain⟨fn,tmps,assign,body,hy,hR⟩:=hYk
   dsimp only [ptE]at hy
   have y1:((k+1:Nat):Int)=(k:Int)+1:=by omega
   rw [y1]at hy
   try dsimp only [Act.put]
   go_upto_region 5 with fail
   refine(wpIn_wide (n:=n)).1 ?_
   gi_wp2_with (refine wpListIn_load_ar rfl _ _ rfl _ _ _ rfl hT2 Tryz.arr16x (size16x _) ?_)
   clear hy y1 hT2
   refine hR.mono ?_
   rintro e W3 (⟨rfl,hJ3,hk3⟩|⟨rfl,hJx3⟩)
   ·gi_wp2
    go_wp2_with fail
    go_roundw
    case rel=>
     have hs3:=hk3.1
     exact⟨k+1,by omega,by go_num,by rw [List.range_succ];exact hJ3,hKp2.trans hk3,by omega,by omega⟩
    case measure=>simp [intOf];omega
   ·gi_wp2
    go_wp2_with fail
    refine bodyPost_ret (results_none rfl _ _ _) rfl ?_
    exact⟨⟨_,rfl⟩,.inr ⟨_,⟨k+1,by omega,(List.range_succ).symm⟩,hJx3⟩⟩
  ·obtain rfl:k=N:=by omega
   go_wp2_with fail
   go_end0
   exact⟨⟨_,rfl⟩,.inl ⟨_,rfl,hJs⟩⟩
def Df (W:World) (D:Nat):Prop:=W.heap[D]?=some (.deferred (some []))
section
variable {W W':World} {D b g r:Nat}
theorem Df.lt (h:Df W D):D<W.heap.size:=(Array.getElem?_eq_some_iff.1 h).1
theorem Df.to (h:Df W D) (hb:Below W.heap.size W W'):Df W' D:=(hb.block D h.lt).trans h
theorem Df.keep (h:Df W D) (hl:D<b) (hb:Below b W W'):Df W' D:=(hb.block D hl).trans h
theorem Df.drew (h:Df W D):Df W.drew D:=h
theorem Df.apart (h:Df W D) (hb:D≠b) (vs:List Value) (o:Nat):Df (W.setCells b o vs) D:=(heap_setCells hb vs o W).trans h
theorem Df.far (h:Df W D) {p:Addr} (hp:p.block≠D) (u:Value):Df (W.setCell p u) D:=(Below.heap_setCell W p u D (fun e=>hp e.symm)).trans h
theorem Df.add (h:Df W D) (ha:AddK W W' g r) (h1:D≠g) (h2:D≠r):Df W' D:=(ha.block D h.lt h1 h2).trans h
end
theorem load_sl (w:World) (g:Nat) (v:Value) (h:Bv w g 25 v):(loadVar 25 ⟨g,0,none⟩).run Tryz.prog w= .ok v w:=by
 have hc:=h.cell
 have hagg:(isAgg 25).run Tryz.prog w= .ok false w:=by kernel_rfl
 simp [loadVar,Sem.run_bind,hagg,hc]
structure KgB (gC Bs:Nat) (W W':World):Prop where
 lt:Bs<W'.heap.size
 lc:gC<Bs
 kp:KpG (some ⟨gC,0,none⟩) Bs W W'
section
variable {gC Bs b g r:Nat} {X Y Z:World}
theorem KgB.refl (h:Bs<X.heap.size) (hc:gC<Bs):KgB gC Bs X X:=⟨h,hc,KpG.refl _ _ _⟩
theorem KgB.to (h:KgB gC Bs X Y) (hb:Below Y.heap.size Y Z):KgB gC Bs X Z:=⟨Nat.lt_of_lt_of_le h.lt hb.size,h.lc,h.kp.trans (KpG.new hb h.lt (fun b o k e=>by cases e;have:=h.lc;have:=h.lt;omega))⟩
theorem KgB.drew (h:KgB gC Bs X Y):KgB gC Bs X Y.drew:=⟨h.lt,h.lc,h.kp⟩
theorem KgB.put (h:KgB gC Bs X Y) (h1:b<gC) (vs:List Value) (o:Nat):KgB gC Bs X (Y.setCells b o vs):=by
 have hl:=h.lc
 refine⟨by rw [World.setCells_size];exact h.lt,h.lc,h.kp.trans ⟨by rw [World.setCells_size];exact Nat.le_refl _,heap_setCells (by omega) vs o Y,fun b o' k e=> ?_⟩⟩
 cases e
 exact heap_setCells (by omega) vs o Y
theorem KgB.add (h:KgB gC Bs X Y) (ha:AddK Y Z g r) (h1:g<gC) (h2:r<gC):KgB gC Bs X Z:=by
 have hl:=h.lc
 have hs:=h.lt
 refine⟨Nat.lt_of_lt_of_le h.lt ha.size,h.lc,h.kp.trans ⟨ha.size,ha.block Bs h.lt (by omega) (by omega),fun b o' k e=> ?_⟩⟩
 cases e
 exact ha.block gC (by omega) (by omega) (by omega)
end
theorem partsG_stops (n:Nat) (hn:1≤n) (Bs n₀:Nat) (A:Option Addr) (m c:Nat) (xs:List UInt8) (hm:m≤1000000) (hmc:m≤c) (w:World) (hn0:n₀≤w.heap.size) (hBl:Bs<w.heap.size) (hBs:w.cell? ⟨Bs,0,none⟩=some (.slice A m c)) (hS:Sl w n₀ A m xs):
  SeqStopsK Fence.wide n Tryz.prog 138 #[.pointer (some ⟨Bs,0,none⟩)] (ptE xs) (KpG A Bs) (fun ys=>ys=List.range (m/16)) (fun pre=> ∃k,k≤m/16∧pre=List.range k) (m/16) w:=fun l J Jx W hW hJ _ hY h0=>
 partsG1 n hn l Bs n₀ A m c xs hm hmc J Jx W hJ hY (Nat.le_trans hn0 hW.size) (Nat.lt_of_lt_of_le hBl hW.size) ((hW.cell (p:=⟨Bs,0,none⟩) hBl).trans hBs) (hS.below (hW.mono hn0)) h0
theorem smade (a:Addr) (w:World):Calls Tryz.prog 74 #[.pointer (some a)] w fun e w'=>e= .returned (.pointer (some a))∧w'=w:=by
 go_enter Tryz.func74,Tryz.ntmps74
 go_wp2_with fail
 go_ret
 exact⟨rfl,rfl⟩
theorem ssize (n:Int) (w:World) (h0: -1000000≤n) (h1:n≤1000000):Calls Tryz.prog 75 #[.int .i64 n] w fun e w'=>e= .returned (.int .i64 (if n<0 then 0 else n+16))∧w'=w:=by
 by_cases h:n<0
 ·rw [if_pos h]
  go_enter Tryz.func75,Tryz.ntmps75
  go_wp2_with fail
  go_ret
  exact⟨rfl,rfl⟩
 ·rw [if_neg h]
  obtain⟨m,hm⟩: ∃m,n+16=m:=⟨_,rfl⟩
  have e1:wrap64 (n+16)=m:=by rw [IntWalk.wrap64_in _ (by omega)];exact hm
  have e2:IntKind.i64.wrap (n+16)=m:=by rw [←hm,show n+16=((n+16).toNat:Int)by omega];exact wraps_i64' _ (by omega) (by omega)
  rw [hm]
  clear hm
  go_enter Tryz.func75,Tryz.ntmps75
  go_wp2_with fail
  go_ret
  exact⟨rfl,rfl⟩
theorem ssizeM (n M:Nat) (w:World) (h:n≤1000000) (hM:n+16=M):Calls Tryz.prog 75 #[.int .i64 (n:Int)] w fun e w'=>e= .returned (.int .i64 (M:Int))∧w'=w:=by
 have h1:=ssize (n:Int) w (by omega) (by omega)
 rw [if_neg (by omega),show(n:Int)+16=(M:Int)by omega]at h1
 exact h1
set_option maxHeartbeats 4000000 in
theorem sadd (g r c n m:Nat) (x y:Nat→Nat) (l:List UInt8) (w:World) (hx:B16 x) (hy:B16 y) (hm:m≤16) (hc:n+m≤c) (hn:n≤1000000) (hgr:g≠r) (hG:Bv w g 25 (.slice (some ⟨r,0,none⟩) n c)) (hR:Ro w r c n l):
  Calls Tryz.prog 76 #[.agg (arL 16 x).toArray,.agg (arL 16 y).toArray,.int .i64 (m:Int),.pointer (some ⟨g,0,none⟩)] w fun e w'=>(∃v,e= .returned v)∧Bv w' g 25 (.slice (some ⟨r,0,none⟩) (n+m) c)∧Ro w' r c (n+m) (l++liB m (adF x y))∧AddK w w' g r:=by
 obtain⟨kX,hkX⟩:=Le ((arL 16 (x)).toArray)
 obtain⟨kY,hkY⟩:=Le ((arL 16 (y)).toArray)
 obtain⟨w1,hw1⟩:=Lv (w.alloc (.cells (arL 16 (x)).toArray 22))
 have hs1:=Zs1 hw1
 have hBw1:=Bl hw1
 have hXw1:Ar w1 w.heap.size 16 (x):=by rw [hw1];exact Ar.new w 16 _ _
 obtain⟨w2,hw2⟩:=Lv (w1.alloc (.cells (arL 16 (y)).toArray 22))
 have hs2:=Zs2 hw2 hs1
 have hBw2:=Bm hw2 hBw1
 have hXw2:=hXw1.alloc (by omega) (.cells (arL 16 (y)).toArray 22)
 rw [←hw2]at hXw2
 have hYw2:Ar w2 (w.heap.size+1) 16 (y):=by rw [hw2,←hs1];exact Ar.new w1 16 _ _
 clear hXw1 hBw1
 have HKX:=Lib.hid hkX
 rw [hkX]at hw1
 have HKY:=Lib.hid hkY
 rw [hkY]at hw2
 rw [hkX,hkY]
 clear hkX hkY
 have hz:=zero16b
 have HXB:=Lib.hid hx
 have HYB:=Lib.hid hy
 have HC:=Lib.hid hc
 have HM:=Lib.hid hm
 have HNE:=Lib.hid hgr
 have HG:=Lib.hid hG
 have HR:=Lib.hid hR
 obtain⟨i0,hi0,hz0,hz1,hz2⟩:=info_parts info8x
 have HI0:=Lib.hid hi0
 have HZ1:=Lib.hid hz1
 clear hx hy hc hgr hG hR hi0 hz0 hz1 hz2
 go_enter Tryz.func76,Tryz.ntmps76
 go_upto_region 1 with fail
 rw [←hw1,←hw2]
 clear hw1 hw2
 try simp only [Nat.add_assoc,Nat.reduceAdd]
 obtain⟨gY,hgY⟩:=Le (w.heap.size+1)
 rw [hgY]at hYw2
 try rw [hgY]
 have hlY:w.heap.size<gY:=by omega
 clear hs1 hs2 hgY
 go_wp2_with (first|(refine wpList_load_ar rfl _ _ rfl _ _ _ rfl hXw2 Tryz.arr16b (size16b _) ?_)|(refine wpList_load_ar rfl _ _ rfl _ _ _ rfl hYw2 Tryz.arr16b (size16b _) ?_))
 refine(bxor x y _ HXB.out HYB.out).mono ?_
 rintro e x1 ⟨rfl,hq⟩
 have hXx1:=hXw2.t hq
 have hYx1:=hYw2.t hq
 have hBx1:=Tq hBw2 hq
 clear hq hXw2 hYw2 hBw2
 obtain⟨d,hd⟩: ∃d,adF x y=d:=⟨_,rfl⟩
 have HD:=Lib.hid hd
 rw [hd]
 have HDB:=Lib.hid (show B16 d by rw [←hd];exact adF_lt HXB.out HYB.out)
 clear hd
 obtain⟨gS,hgS⟩:=Le (x1.heap.size)
 have hlw_heap_sizegS:w.heap.size<gS:=by rw [←hgS];exact hXx1.lt (by omega)
 have hlgYgS:gY<gS:=by rw [←hgS];exact hYx1.lt (by omega)
 have hlwgS:w.heap.size≤gS:=by rw [←hgS];exact hBx1.size
 have hq:=Ba x1 (.cells (arL 16 fun _=>0).toArray 22)
 have hXx2a:=hXx1.t hq
 have hYx2a:=hYx1.t hq
 have hSx2a:=Ar.new x1 16 (fun _=>0) 22
 have hBx2a:=hBx1.alloc hBx1.size (.cells (arL 16 fun _=>0).toArray 22)
 rw [hgS]at hSx2a
 clear hq hXx1 hYx1 hBx1
 go_upto_region 2 with (first|(refine wpList_store_ar rfl _ _ _ rfl _ _ _ (d) rfl rfl hSx2a (size16b _) ?_;intro x2 hSx2 belx2 sizx2 keex2)|fail)
 have hXx2:=(hXx2a).keep hlw_heap_sizegS belx2
 have hYx2:=(hYx2a).keep hlgYgS belx2
 have hBx2:=hBx2a.trans (belx2.mono hlwgS)
 clear hXx2a hYx2a hSx2a hBx2a belx2 sizx2 keex2 hgS
 try dsimp only [Act.put]
 have hGx2:=HG.out.to hBx2
 have hRx2:=HR.out.to hBx2
 have hAx2:AddK w x2 g r:=AddK.of hBx2
 have hlr:r<gS:=Nat.lt_of_lt_of_le HR.out.lt hlwgS
 clear hBx2 hXx2 hYx2
 have HSL:=Lib.hid (slice16h gS m HM.out)
 refine wp_region_noPanic ?_
 have hGqd:=hGx2.drew
 have hRqd:=hRx2.drew
 have hSqd:=hSx2.drew
 refine wp_region_held_drew (S:=fun W=>AddK w W g r) (by kernel_rfl) hAx2.drew (fun hH'=> ?_)
 clear hAx2 hGx2 hRx2 hSx2
 generalize World.drew x2=qd at*
 refine tw 1 ?vq1 rfl ?hyq1 ?restq1
 case hyq1=>
  intro W hSw
  go_simp
  try with_reducible rfl
 simp only [Act.put,nrm]
 refine tw 2 ?vq2 rfl ?hyq2 ?restq2
 case hyq2=>
  intro W hSw
  have hsl:=HSL.out W
  go_simp
  try with_reducible rfl
 simp only [Act.put,nrm]
 refine rd 0 rfl (fun K hK=> ?_)
 have cF:=hGqd.cell
 go_simp
 refine hK.out _ _ hH' ?_
 clear hK K hH' cF
 intro hH'
 try simp only [Act.put,nrm]
 refine rd 3 rfl (fun K hK=> ?_)
 rw [if_pos (by rfl)]
 refine wp_append_own_spare _ _ _ 25 rfl r 5 i0 1 Tryz.underlying25 HI0.out HZ1.out r n c _ rfl hRqd ⟨gS,0,none⟩ m 16 (arL m d) rfl (by simp [arL_len]) (fun j u hj=>by obtain⟨hj1,rfl⟩:=arL_get_some hj;have hm9:=HM.out;rw [Addr.add_mid,Nat.zero_add];exact(hSqd j (by omega)).1) (arL_one m _) HC.out ?_
 intro q3 hown hgrow
 have hRq3:Ro q3 r c (n+m) (l++liB m d):=by unfold Ro;rw [List.map_append,liB_b8 m d (fun j hj=>HDB.out j (by have:=HM.out;omega))];exact hown
 have hGq3:=hGqd.blk (hgrow.block g hGqd.lt (fun e=>HNE.out (Option.some.inj e)))
 obtain⟨A9,hA9⟩:=hRqd.cells
 refine hK.out _ _ (hH'.grown hgrow hA9) ?_
 clear hK K hH' hown hgrow hA9 hRqd hGqd hSqd
 intro hH'
 try simp only [Act.put,nrm]
 refine rd 4 rfl (fun K hK=> ?_)
 have cF:=hGq3.cell
 have fF:=hGq3.frozen
 go_simp
 clear cF fF
 have hGq4:=hGq3.set (.slice (some ⟨r,0,none⟩) (n+m) c)
 have hRq4:=hRq3.far (p:=⟨g,0,none⟩) HNE.out (.slice (some ⟨r,0,none⟩) (n+m) c)
 have hSq4:=show AddK w (World.setCell q3 ⟨g,0,none⟩ (.slice (some ⟨r,0,none⟩) (n+m) c)) g r from hH'.set (.slice (some ⟨r,0,none⟩) (n+m) c)
 generalize World.setCell q3 ⟨g,0,none⟩ (.slice (some ⟨r,0,none⟩) (n+m) c)=q4 at*
 refine hK.out _ _ hSq4 ?_
 clear hK K hH' hSq4 hGq3 hRq3
 intro hH'
 try simp only [Act.put]
 refine wpAnyH_done (by kernel_rfl) ?_ _
 refine NoPanic.normal ?_
 go_wp2_with fail
 go_end0
 exact⟨⟨_,rfl⟩,hGq4,HD.out▸hRq4,hH'⟩
end Go.Proofs.YtiacbphnclgikaaGreatDoor
