/-
 Sealing as functions on bytes: the ciphertext, the checksum and the offset of a plaintext. Parts of a block of memory; slices of bytes of a call's own; the struct of the reference package of layer 12. No condition.
-/
import Derived.Test.YtiacbphnclgikaaGreatDoorGha
import Derived.Test.YtiacbphnclgikaaGreatDoorGbk
namespace Go.Proofs.YtiacbphnclgikaaGreatDoor
open Go.RowKit
set_option linter.unusedVariables false
set_option maxRecDepth 100000
def cpF (f p a:Nat→Nat):Nat→Nat:=adF (enF f (adF p a)) a
def ckF (P:Nat→Nat→Nat):Nat→Nat→Nat
 |0=>zF
 |k+1=>adF (ckF P k) (P k)
def ctF (f s a:Nat→Nat) (l:List UInt8) (N j:Nat):Nat:=
 if j<16*N then cpF f (pt l (j/16)) (atF a s (j/16+1)) (j%16)else lF l j^^^enF f (adF (atF a s N) s) (j-16*N)
def ctL (f s a:Nat→Nat) (l:List UInt8):List UInt8:=liB l.length (ctF f s a l (l.length/16))
def csF (l:List UInt8):Nat→Nat:=
 if l.length%16=0 then ckF (pt l) (l.length/16)else adF (ckF (pt l) (l.length/16)) (lF (padL (l.drop (16*(l.length/16))) 16))
def ofF (s a:Nat→Nat) (n:Nat):Nat→Nat:=if n%16=0 then atF a s (n/16)else adF (atF a s (n/16)) s
def seL (f s a:Nat→Nat) (l:List UInt8) (t:Nat→Nat):List UInt8:=ctL f s a l++liB 16 t
def tgF (f s c o:Nat→Nat) (d:List UInt8):Nat→Nat:=adF (enF f (adF (adF c o) (dk s 1))) (haF f s d)
section
variable {f s a p:Nat→Nat} {P:Nat→Nat→Nat}
theorem cpF_lt (hf:B16 f) (hp:B16 p) (ha:B16 a):B16 (cpF f p a):=adF_lt (enR_lt hf (adF_lt hp ha) 10) ha
theorem ckF_lt (hP: ∀k,B16 (P k)): ∀n,B16 (ckF P n)
 |0=>zF_lt
 |n+1=>adF_lt (ckF_lt hP n) (hP n)
theorem ctF_lt (hf:B16 f) (hs:B16 s) (ha:B16 a) (l:List UInt8) (N j:Nat) (hj:j<16*N+16):ctF f s a l N j<256:=by
 unfold ctF
 split
 ·exact cpF_lt hf (fun _ _=>pt_lt _ _ _) (atF_lt ha hs _) _ (Nat.mod_lt _ (by decide))
 ·exact Nat.xor_lt_two_pow (n:=8) (lF_lt _ _) (enR_lt hf (adF_lt (atF_lt ha hs _) hs) 10 _ (by omega))
theorem liB_snoc (k m:Nat) (f:Nat→Nat):liB (k+m) f=liB k f++liB m (fun j=>f (k+j)):=by
 unfold liB
 rw [List.range_add,List.map_append,List.map_map]
 rfl
theorem liB_ext {n:Nat} {f g:Nat→Nat} (h: ∀j,j<n→f j=g j):liB n f=liB n g:=by
 unfold liB
 apply List.map_congr_left
 intro j hj
 rw [h j (List.mem_range.1 hj)]
theorem liB_b8 (n:Nat) (f:Nat→Nat) (hf: ∀j,j<n→f j<256):(liB n f).map b8=arL n f:=by
 apply List.ext_getElem?
 intro j
 rcases Nat.lt_or_ge j n with h|h
 ·rw [List.getElem?_map,liB_get n f j h,arL_get n f j h]
  simp [b8_ofNat _ (hf j h),n8]
 ·rw [List.getElem?_eq_none (by simp [liB_len];exact h),List.getElem?_eq_none (by rw [arL_len];exact h)]
theorem ct_part (l:List UInt8) (N k:Nat) (hk:k<N):liB (16*(k+1)) (ctF f s a l N)=liB (16*k) (ctF f s a l N)++liB 16 (cpF f (pt l k) (atF a s (k+1))):=by
 rw [show 16*(k+1)=16*k+16 by omega,liB_snoc]
 congr 1
 refine liB_ext (fun j hj=> ?_)
 unfold ctF
 rw [if_pos (by omega),show(16*k+j)/16=k by omega,show(16*k+j)%16=j by omega]
theorem ct_rest (l:List UInt8) (N i:Nat) (hi:16*N≤i):liB (i+1) (ctF f s a l N)=liB i (ctF f s a l N)++ [UInt8.ofNat (lF l i^^^enF f (adF (atF a s N) s) (i-16*N))]:=by
 rw [liB_snoc]
 congr 1
 show [UInt8.ofNat (ctF f s a l N (i+0))]=_
 unfold ctF
 rw [Nat.add_zero,if_neg (by omega)]
end
theorem cs_none {l:List UInt8} {n N r:Nat} (hl:l.length=n) (hN:n/16=N) (hr:n%16=r) (h:r=0):csF l=ckF (pt l) N:=by
 subst hl;subst hN;unfold csF;rw [if_pos (by omega)]
theorem cs_some {l:List UInt8} {n N r o:Nat} {P:Nat→Nat} (hl:l.length=n) (hN:n/16=N) (hr:n%16=r) (h:r≠0) (ho:16*N=o) (hP:lF (padL (l.drop o) 16)=P):csF l=adF (ckF (pt l) N) P:=by
 subst hl;subst hN;subst ho;subst hP;unfold csF;rw [if_neg (by omega)]
theorem of_none {s a:Nat→Nat} {n N r:Nat} (hN:n/16=N) (hr:n%16=r) (h:r=0):ofF s a n=atF a s N:=by
 subst hN;unfold ofF;rw [if_pos (by omega)]
theorem of_some {s a:Nat→Nat} {n N r:Nat} (hN:n/16=N) (hr:n%16=r) (h:r≠0):ofF s a n=adF (atF a s N) s:=by
 subst hN;unfold ofF;rw [if_neg (by omega)]
theorem ct_eq {f s a:Nat→Nat} {l:List UInt8} {n N:Nat} (hl:l.length=n) (hN:n/16=N):liB n (ctF f s a l N)=ctL f s a l:=by
 subst hl;subst hN;rfl
def Po (w:World) (g o n:Nat) (f:Nat→Nat):Prop:= ∀j,j<n→w.cell? ⟨g,o+j,none⟩=some (n8 (f j))∧w.frozen? ⟨g,o+j,none⟩=false
def Ce (w:World) (g:Nat) (v:Value):Prop:=w.cell? ⟨g,0,none⟩=some v∧w.frozen? ⟨g,0,none⟩=false
theorem cell_ltS {w:World} {g o:Nat} {v:Value} (h:w.cell? ⟨g,o,none⟩=some v):g<w.heap.size:=by
 rcases Nat.lt_or_ge g w.heap.size with h2|h2
 ·exact h2
 ·simp [World.cell?,Array.getElem?_eq_none h2]at h
section
variable {w w':World} {g o n b:Nat} {f:Nat→Nat} {v:Value}
theorem Po.lt (h:Po w g o n f) (hn:0<n):g<w.heap.size:=cell_ltS (h 0 hn).1
theorem Po.keep (h:Po w g o n f) (hg:g<b) (hb:Below b w w'):Po w' g o n f:=fun j hj=>
 ⟨(hb.cell (p:=⟨g,o+j,none⟩) hg).trans (h j hj).1,(hb.frozen (p:=⟨g,o+j,none⟩) hg).trans (h j hj).2⟩
theorem Po.to (h:Po w g o n f) (hn:0<n) (hb:Below w.heap.size w w'):Po w' g o n f:=h.keep (h.lt hn) hb
theorem Po.t (h:Po w g o n f) (hb:Below w.heap.size w w') (hn:0<n:=by omega):Po w' g o n f:=h.to hn hb
theorem Po.drew (h:Po w g o n f):Po w.drew g o n f:=h
theorem Po.ext {d:Nat→Nat} (h:Po w g o n f) (he: ∀j,j<n→f j=d j):Po w g o n d:=fun j hj=>by rw [←he j hj];exact h j hj
theorem Po.range (h:Po w g o n f):w.rangeAt g o (arL n f):=fun j u hu=>by
 obtain⟨hj,rfl⟩:=arL_get_some hu
 exact(h j hj).1
theorem Po.there (h:Po w g o n f) (d:Nat→Nat):w.there g o (arL n d).toArray.size:=fun j hj=>by
 rw [List.size_toArray,arL_len]at hj
 rw [(h j hj).1]
 exact⟨rfl,(h j hj).2⟩
theorem Po.off (h:Po w g o n f) (vs:List Value) (o2:Nat) (hd:g≠b∨o+n≤o2∨o2+vs.length≤o):Po (w.setCells b o2 vs) g o n f:=fun j hj=>by
 refine⟨?_,by rw [World.frozen?_setCells];exact(h j hj).2⟩
 rw [World.cell?_setCells_out b vs o2 w ⟨g,o+j,none⟩ (fun e _=>by
  simp only at e⊢
  rcases hd with h1|h1|h1
  ·exact absurd e h1
  ·omega
  ·omega)]
 exact(h j hj).1
theorem Po.put (h:Po w g o n f) (d:Nat→Nat):Po (w.setCells g o (arL n d)) g o n d:=fun j hj=>by
 refine⟨?_,by rw [World.frozen?_setCells];exact(h j hj).2⟩
 exact World.rangeAt_setCells_same w g o (arL n d) (by have:=h.there d;rwa [List.size_toArray]at this) j _ (arL_get n d j hj)
theorem Ce.lt (h:Ce w g v):g<w.heap.size:=cell_ltS h.1
theorem Ce.keep (h:Ce w g v) (hg:g<b) (hb:Below b w w'):Ce w' g v:=⟨(hb.cell (p:=⟨g,0,none⟩) hg).trans h.1,(hb.frozen (p:=⟨g,0,none⟩) hg).trans h.2⟩
theorem Ce.to (h:Ce w g v) (hb:Below w.heap.size w w'):Ce w' g v:=h.keep h.lt hb
theorem Ce.drew (h:Ce w g v):Ce w.drew g v:=h
theorem Ce.off (h:Ce w g v) (vs:List Value) (o2:Nat) (hd:g≠b∨0<o2):Ce (w.setCells b o2 vs) g v:=by
 refine⟨?_,by rw [World.frozen?_setCells];exact h.2⟩
 rw [World.cell?_setCells_out b vs o2 w ⟨g,0,none⟩ (fun e _=>by
  simp only at e⊢
  rcases hd with h1|h1
  ·exact absurd e h1
  ·omega)]
 exact h.1
theorem Ce.put (h:Ce w g v) (u:Value):Ce (w.setCell ⟨g,0,none⟩ u) g u:=⟨World.cell?_setCell_same w _ _ h.1,by rw [World.frozen?_setCell];exact h.2⟩
theorem Po.far (h:Po w g o n f) {p:Addr} (hd:p.block≠g∨p.off<o∨o+n≤p.off) (u:Value):Po (w.setCell p u) g o n f:=fun j hj=>by
 refine⟨?_,by rw [World.frozen?_setCell];exact(h j hj).2⟩
 rw [World.cell?_setCell_other _ _ _ _ (fun e=>by
  subst e
  simp only at hd
  omega)]
 exact(h j hj).1
end
theorem grownBy_setCellN (W:World) (p:Addr) (v:Value):W.grownBy (W.setCell p v) (some p.block):=
 ⟨rfl,rfl,rfl,(KeepsWalks.setCell W _ v).size,fun k _ hk=>Below.heap_setCell _ _ _ k (fun e=>hk (by rw [e]))⟩
theorem own_ne {W:World} {b g size n:Nat} {e:TypeId} {v:Value} {xs:List Value} (h:W.ownsRow b e size v n xs) (hg:g<b):v.ownBlock≠some g:=fun e1=>by
 have:=own_block h e1
 omega
theorem own_setCell {W:World} {b size n:Nat} {e:TypeId} {v:Value} {xs:List Value} (h:W.ownsRow b e size v n xs) (p:Addr) (hp:p.block<b) (u:Value):(W.setCell p u).ownsRow b e size v n xs:=
 h.kept (grownBy_setCellN W p u) (.inr (own_ne h hp))
theorem own_setCells {b size n g:Nat} {e:TypeId} {v:Value} {xs:List Value} (hg:g<b): ∀(vs:List Value) (o:Nat) (W:World),W.ownsRow b e size v n xs→(W.setCells g o vs).ownsRow b e size v n xs
 | [],_,_,h=>h
 |u::r,o,W,h=>own_setCells hg r (o+1) _ (own_setCell h ⟨g,o,none⟩ hg u)
theorem own_to {W W':World} {b size n:Nat} {e:TypeId} {v:Value} {xs:List Value} (h:W.ownsRow b e size v n xs) (hb:Below W.heap.size W W'):W'.ownsRow b e size v n xs:=World.ownsRow.kept h (grown_new hb) (Classical.em _)
theorem own_more {W:World} {b b' size n:Nat} {e:TypeId} {v:Value} {xs:List Value} (h:W.ownsRow b e size v n xs) (hb:b'≤b):W.ownsRow b' e size v n xs:=by
 refine⟨h.1,?_⟩
 rcases h.2 with h1|⟨g,cap,cur,e1,h2,h3⟩
 ·exact .inl h1
 ·exact .inr ⟨g,cap,cur,e1,Nat.le_trans hb h2,h3⟩
theorem own_below {W W':World} {b B size n:Nat} {e:TypeId} {v:Value} {xs:List Value} (h:W.ownsRow b e size v n xs) (hk: ∀k,v.ownBlock=some k→k<B) (hb:Below B W W'):W'.ownsRow b e size v n xs:=by
 refine⟨h.1,?_⟩
 rcases h.2 with h1|⟨g,cap,cur,rfl,h2,h3,h4⟩
 ·exact .inl h1
 ·exact .inr ⟨g,cap,cur,rfl,h2,(hb.block g (hk g rfl)).trans h3,h4⟩
theorem own_lt {W:World} {b size n:Nat} {e:TypeId} {v:Value} {xs:List Value} (h:W.ownsRow b e size v n xs) {k:Nat} (hk:v.ownBlock=some k):k<W.heap.size:=by
 rcases h.2 with ⟨rfl,_⟩|⟨g,cap,cur,rfl,_,h3,_⟩
 ·simp [Value.ownBlock]at hk
 ·simp [Value.ownBlock]at hk
  subst hk
  exact(Array.getElem?_eq_some_iff.1 h3).1
def Ob (W:World) (b0 g:Nat) (v:Value) (m:Nat) (l:List UInt8):Prop:=g<W.heap.size∧b0≤g+1∧(∀k,v.ownBlock=some k→k≤g)∧Ow8 W b0 v m l
section
variable {W W':World} {b0 g b m:Nat} {v:Value} {l:List UInt8}
theorem Ob.lt (h:Ob W b0 g v m l):g<W.heap.size:=h.1
theorem Ob.to (h:Ob W b0 g v m l) (hb:Below W.heap.size W W'):Ob W' b0 g v m l:=⟨Nat.lt_of_lt_of_le h.1 hb.size,h.2.1,h.2.2.1,own_to h.2.2.2 hb⟩
theorem Ob.keep (h:Ob W b0 g v m l) (hl:g<b) (hb:Below b W W'):Ob W' b0 g v m l:=⟨Nat.lt_of_lt_of_le h.1 hb.size,h.2.1,h.2.2.1,own_below h.2.2.2 (fun k hk=>Nat.lt_of_le_of_lt (h.2.2.1 k hk) hl) hb⟩
theorem Ob.drew (h:Ob W b0 g v m l):Ob W.drew b0 g v m l:=h.to (Below.refl _ _).drew
theorem Ob.apart (h:Ob W b0 g v m l) (hl:g<b) (vs:List Value) (o:Nat):Ob (W.setCells b o vs) b0 g v m l:=h.keep hl (below_setCells _ _ _ _)
theorem Ob.old (h:Ob W b0 g v m l) (hl:b<b0) (vs:List Value) (o:Nat):Ob (W.setCells b o vs) b0 g v m l:=⟨by rw [World.setCells_size];exact h.1,h.2.1,h.2.2.1,own_setCells hl vs o W h.2.2.2⟩
theorem Ob.old1 (h:Ob W b0 g v m l) (p:Addr) (hl:p.block<b0) (u:Value):Ob (W.setCell p u) b0 g v m l:=⟨by simpa [World.setCell]using h.1,h.2.1,h.2.2.1,own_setCell h.2.2.2 p hl u⟩
theorem Ob.new (h:Ow8 W b0 v m l) (hb:b0≤W.heap.size) (hp:0<W.heap.size):Ob W b0 (W.heap.size-1) v m l:=⟨by omega,by omega,fun k hk=>by have:=own_lt h hk;omega,h⟩
theorem Ob.ne (h:Ob W b0 g v m l) {k:Nat} (hk:g<k):v.ownBlock≠some k:=fun e=>by have:=h.2.2.1 k e;omega
theorem Po.apart {n o:Nat} {f:Nat→Nat} (h:Po W g o n f) (hd:g≠b) (vs:List Value) (k:Nat):Po (W.setCells b k vs) g o n f:=h.off vs k (.inl hd)
theorem Ce.apart (h:Ce W g v) (hd:g≠b) (vs:List Value) (k:Nat):Ce (W.setCells b k vs) g v:=h.off vs k (.inl hd)
theorem wb_ne {n size k:Nat} {f:Nat→Nat} {xs:List Value} (h:Wb W g n f 22) (ho:W.ownsRow b 5 size v k xs):v.ownBlock≠some g:=fun e=>by
 rcases ho.2 with ⟨rfl,_⟩|⟨g1,cap,cur,rfl,_,h3,_⟩
 ·simp [Value.ownBlock]at e
 ·simp [Value.ownBlock]at e
  subst e
  have h4:=(show W.heap[g1]?=some (.cells (arL n f).toArray 22 (0,0))from h).symm.trans h3
  injection h4 with h4
  injection h4 with _ h5
  exact absurd h5 (by decide)
theorem wb_grown {n:Nat} {f:Nat→Nat} {t:TypeId} {row:Option Nat} (h:Wb W g n f t) (hn:0<n) (hg:W.grownBy W' row) (hne:row≠some g):Wb W' g n f t:=(hg.block g (h.ar.lt hn) (fun e=>hne e.symm)).trans h
theorem ce_grown {row:Option Nat} (h:Ce W g v) (hg:W.grownBy W' row) (hne:row≠some g):Ce W' g v:=by
 have hb:=hg.block g h.lt (fun e=>hne e.symm)
 refine⟨?_,?_⟩
 ·have:=h.1;simp only [World.cell?]at this⊢;rw [hb];exact this
 ·have:=h.2;simp only [World.frozen?]at this⊢;rw [hb];exact this
theorem wb_to {n:Nat} {f:Nat→Nat} {t:TypeId} (h:Wb W g n f t) (hn:0<n) (hb:Below W.heap.size W W'):Wb W' g n f t:=(hb.block g (h.ar.lt hn)).trans h
theorem wb_off {n:Nat} {f:Nat→Nat} {t:TypeId} (h:Wb W g n f t) (hb:g≠b) (vs:List Value): ∀o,Wb (W.setCells b o vs) g n f t:=by
 intro o
 induction vs generalizing o W with
 |nil=>exact h
 |cons v r ih=>rw [World.setCells];exact ih ((Below.heap_setCell W ⟨b,o,none⟩ v g hb).trans h) (o+1)
theorem Wb.drew {n:Nat} {f:Nat→Nat} {t:TypeId} (h:Wb W g n f t):Wb W.drew g n f t:=h
theorem wb_far {n:Nat} {f:Nat→Nat} {t:TypeId} (h:Wb W g n f t) {p:Addr} (hp:p.block≠g) (u:Value):Wb (W.setCell p u) g n f t:=(Below.heap_setCell W p u g (fun e=>hp e.symm)).trans h
theorem ar_grown {n:Nat} {f:Nat→Nat} {row:Option Nat} (h:Ar W g n f) (hn:0<n) (hg:W.grownBy W' row) (hne:row≠some g):Ar W' g n f:=fun j hj=>by
 have hb:=hg.block g (h.lt hn) (fun e=>hne e.symm)
 refine⟨?_,?_⟩
 ·have:=(h j hj).1;simp only [World.cell?]at this⊢;rw [hb];exact this
 ·have:=(h j hj).2;simp only [World.frozen?]at this⊢;rw [hb];exact this
end
def rsL (v:Value) (c o:Nat→Nat):List Value:=v::(arL 16 c++arL 16 o)
theorem rsL_len (v:Value) (c o:Nat→Nat):(rsL v c o).length=33:=by simp [rsL,arL_len]
theorem rs_range {w:World} {g:Nat} {v:Value} {c o:Nat→Nat} (h0:Ce w g v) (h1:Po w g 1 16 c) (h2:Po w g 17 16 o):w.rangeAt g 0 (rsL v c o):=fun j u hu=>by
 rw [Nat.zero_add]
 unfold rsL at hu
 match j,hu with
 |0,hu=>obtain rfl:=Option.some.inj hu;exact h0.1
 |j+1,hu=>
  rw [List.getElem?_cons_succ]at hu
  rcases Nat.lt_or_ge j 16 with h|h
  ·rw [List.getElem?_append_left (by rw [arL_len];exact h)]at hu
   rw [Nat.add_comm];exact h1.range j u hu
  ·rw [List.getElem?_append_right (by rw [arL_len];exact h),arL_len]at hu
   have:=h2.range (j-16) u hu
   rwa [show 17+(j-16)=j+1 by omega]at this
theorem rs_new {w:World} {g:Nat} {v:Value} {c o:Nat→Nat} (h:Cx w g 33 fun j=>(rsL v c o).getD j undef):Ce w g v∧Po w g 1 16 c∧Po w g 17 16 o:=by
 refine⟨⟨by simpa [rsL]using (h 0 (by omega)).1,(h 0 (by omega)).2⟩,fun j hj=>⟨?_,(h (1+j) (by omega)).2⟩,fun j hj=>⟨?_,(h (17+j) (by omega)).2⟩⟩
 ·rw [(h (1+j) (by omega)).1]
  show some ((rsL v c o)[1+j]?.getD undef)=_
  unfold rsL
  rw [Nat.add_comm,List.getElem?_cons_succ,List.getElem?_append_left (by rw [arL_len];exact hj),arL_get 16 c j hj];rfl
 ·rw [(h (17+j) (by omega)).1]
  show some ((rsL v c o)[17+j]?.getD undef)=_
  unfold rsL
  rw [show 17+j=(16+j)+1 by omega,List.getElem?_cons_succ,List.getElem?_append_right (by rw [arL_len];omega),arL_len,show 16+j-16=j by omega,arL_get 16 o j hj];rfl
theorem rs_put {W:World} {g:Nat} {v:Value} {c:Nat→Value} {k o:Nat→Nat} (h:Cx W g 33 (cxP c 0 (rsL v k o))):Ce W g v∧Po W g 1 16 k∧Po W g 17 16 o:=
 rs_new (h.ext fun j hj=>by unfold cxP;rw [if_pos ⟨Nat.zero_le _,by rw [rsL_len];omega⟩,Nat.sub_zero];rfl)
theorem rsL_cx (v:Value) (c o:Nat→Nat):rsL v c o=cxL 33 fun j=>(rsL v c o).getD j undef:=eq_cxL 33 _ _ (rsL_len v c o) (fun j u hu=>by rw [List.getD,hu];rfl)
theorem rsL_one {v:Value} (hv:v.oneCell'=true) (c o:Nat→Nat): ∀u∈rsL v c o,u.oneCell'=true:=by
 intro u hu
 rcases List.mem_cons.1 hu with rfl|hu
 ·exact hv
 ·rcases List.mem_append.1 hu with h|h
  ·exact arL_one 16 c u h
  ·exact arL_one 16 o u h
theorem slice16all2 (g:Nat) (w:World):(Instr.sliceAt 22 (.pointer (some ⟨g,0,none⟩)) none none none).run Tryz.prog w= .ok (.slice (some ⟨g,0,none⟩) 16 16) w:=by
 have hal:Tryz.prog.arrayLen 22=16:=by simp [Program.arrayLen]
 have hel:Tryz.prog.elem 22=5:=by simp [Program.elem]
 have hs:(sizeOf 5).run Tryz.prog w= .ok 1 w:=by kernel_rfl
 rw [run_sliceAt_array_all w 22 ⟨g,0,none⟩ (by rw [hal,hel];exact Tryz.arr16x),hal,hel,hs]
 simp [Result.andThen_ok,slicedAt,Addr.add]
theorem Tryz.structR: ∃d,Tryz.prog.underlying 109=some d∧d.isRow=true:=by
 have h:(Tryz.prog.underlying 109).map (·.isRow)=some true:=by kernel_rfl
 cases hu:Tryz.prog.underlying 109 with
 |none=>rw [hu]at h;cases h
 |some d=>rw [hu]at h;exact⟨d,rfl,Option.some.inj h⟩
theorem Tryz.zeroR:(Tryz.prog.info? 109).map (fun i=>(i.zero,i.size))=some (some (.agg (rsL (.slice none 0 0) (fun _=>0) (fun _=>0)).toArray),33):=by kernel_rfl
theorem sizeR (v:Value) (c o:Nat→Nat):(Tryz.prog.info? 109).map (·.size)=some (rsL v c o).length:=by rw [rsL_len];exact(zero_of_info Tryz.zeroR).2
theorem zeroR (w:World):(zeroValue 109).run Tryz.prog w= .ok (.agg (rsL (.slice none 0 0) (fun _=>0) (fun _=>0)).toArray) w:=(zero_of_info Tryz.zeroR).1 w
theorem built_res (o:Nat→Nat):Tryz.prog.built 109 [(2,.agg (arL 16 o).toArray)]=some (rsL (.slice none 0 0) (fun _=>0) o).toArray:=by kernel_rfl
theorem run_res (o:Nat→Nat) (w:World):(Instr.build 109 #[(2,.agg (arL 16 o).toArray)]).run Tryz.prog w= .ok (.agg (rsL (.slice none 0 0) (fun _=>0) o).toArray) w:=run_build w _ _ _ (built_res o)
theorem bodyPost_ret_cells {P:Program} {fn:Func} {R:Ending→World→Prop} {a:Act} {w:World} {p:Tmp} {ty:TypeId} {g:Nat} {cs:List Value} {d:TypeDesc} (hr:fn.results= #[.cell p ty]) (hp:a.tmps.getD p undef= .pointer (some ⟨g,0,none⟩))
  (hA:w.rangeAt g 0 cs) (hu:P.underlying ty=some d) (hrow:d.isRow=true) (hi:(P.info? ty).map (·.size)=some cs.length) (hd:a.defers= []) (hR:R (.returned (.agg cs.toArray)) w):bodyPost P fn R .ret a w:=by
 refine bodyPost_ret (v:= .agg cs.toArray) ?_ hd hR
 have hp':a.tmps[p]?.getD undef= .pointer (some ⟨g,0,none⟩):=by simpa using hp
 simp only [results,hr]
 simp [hp',asAddr,run_loadVar_mid (P:=P) w g 0 ty cs _ hA hu hrow hi]
end Go.Proofs.YtiacbphnclgikaaGreatDoor
