/-
 Contracts of package block and of the reference package of layer 8, by walks through their texts, one after the other; what was there stays as it was.
-/
import Derived.Test.YtiacbphnclgikaaGreatDoorSqz
import Derived.Test.YtiacbphnclgikaaGreatDoorFre
import Derived.BigRegion
import Derived.Deep.Cut
import Derived.Deep.RegionHeld3
import Derived.ArgAppend
import Derived.Laws.CopyOwn
import Derived.Laws.MakeOwn
import Derived.Deep.RegionLaw
import Derived.Lib.MinMax
namespace Go.Proofs.YtiacbphnclgikaaGreatDoor
section
open Go.RowKit
set_option linter.unusedVariables false
def bitF (f:Nat→Nat) (k:Nat):Nat:=f (k/8)/2^(7-k%8)%2
def by8 (l:Nat→Nat) (j:Nat):Nat:=
 ((((((l (8*j)*2+l (8*j+1))*2+l (8*j+2))*2+l (8*j+3))*2+l (8*j+4))*2+l (8*j+5))*2+l (8*j+6))*2+l (8*j+7)
def shB (f:Nat→Nat) (n j:Nat):Nat:=f (j+n/8)*2^(n%8)%256+f (j+n/8+1)/2^(8-n%8)
theorem bitF_lt (f:Nat→Nat) (k:Nat):bitF f k<2:=Nat.mod_lt _ (by decide)
theorem bitF_at (f:Nat→Nat) (j i:Nat) (hi:i<8):bitF f (8*j+i)=f j/2^(7-i)%2:=by
 unfold bitF
 rw [show(8*j+i)/8=j by omega,show(8*j+i)%8=i by omega]
theorem bitF_put (f:Nat→Nat) (j q r i:Nat) (hr:r<8) (hi:i<8):bitF f (8*j+i+(8*q+r))=if i+r<8 then f (j+q)/2^(7-(i+r))%2 else f (j+q+1)/2^(15-(i+r))%2:=by
 unfold bitF
 by_cases h:i+r<8
 ·rw [if_pos h,show(8*j+i+(8*q+r))/8=j+q by omega,show(8*j+i+(8*q+r))%8=i+r by omega]
 ·rw [if_neg h,show(8*j+i+(8*q+r))/8=j+q+1 by omega,show(8*j+i+(8*q+r))%8=i+r-8 by omega]
  congr 3;omega
theorem by8_bits (x:Nat) (h:x<256):((((((x/128%2*2+x/64%2)*2+x/32%2)*2+x/16%2)*2+x/8%2)*2+x/4%2)*2+x/2%2)*2+x%2=x:=by
 have H: ∀x,x<256→((((((x/128%2*2+x/64%2)*2+x/32%2)*2+x/16%2)*2+x/8%2)*2+x/4%2)*2+x/2%2)*2+x%2=x:=by decide+kernel
 exact H x h
theorem hi0: ∀x,x<256→x/128%2*128+x/64%2*64+x/32%2*32+x/16%2*16+x/8%2*8+x/4%2*4+x/2%2*2+x%2*1=x*1%256:=by decide+kernel
theorem hi1: ∀x,x<256→x/64%2*128+x/32%2*64+x/16%2*32+x/8%2*16+x/4%2*8+x/2%2*4+x%2*2=x*2%256:=by decide+kernel
theorem lo1: ∀y,y<256→y/128%2*1=y/128:=by decide+kernel
theorem hi2: ∀x,x<256→x/32%2*128+x/16%2*64+x/8%2*32+x/4%2*16+x/2%2*8+x%2*4=x*4%256:=by decide+kernel
theorem lo2: ∀y,y<256→y/128%2*2+y/64%2*1=y/64:=by decide+kernel
theorem hi3: ∀x,x<256→x/16%2*128+x/8%2*64+x/4%2*32+x/2%2*16+x%2*8=x*8%256:=by decide+kernel
theorem lo3: ∀y,y<256→y/128%2*4+y/64%2*2+y/32%2*1=y/32:=by decide+kernel
theorem hi4: ∀x,x<256→x/8%2*128+x/4%2*64+x/2%2*32+x%2*16=x*16%256:=by decide+kernel
theorem lo4: ∀y,y<256→y/128%2*8+y/64%2*4+y/32%2*2+y/16%2*1=y/16:=by decide+kernel
theorem hi5: ∀x,x<256→x/4%2*128+x/2%2*64+x%2*32=x*32%256:=by decide+kernel
theorem lo5: ∀y,y<256→y/128%2*16+y/64%2*8+y/32%2*4+y/16%2*2+y/8%2*1=y/8:=by decide+kernel
theorem hi6: ∀x,x<256→x/2%2*128+x%2*64=x*64%256:=by decide+kernel
theorem lo6: ∀y,y<256→y/128%2*32+y/64%2*16+y/32%2*8+y/16%2*4+y/8%2*2+y/4%2*1=y/4:=by decide+kernel
theorem hi7: ∀x,x<256→x%2*128=x*128%256:=by decide+kernel
theorem lo7: ∀y,y<256→y/128%2*64+y/64%2*32+y/32%2*16+y/16%2*8+y/8%2*4+y/4%2*2+y/2%2*1=y/2:=by decide+kernel
theorem two_bytes (r:Nat) (hr:r<8) (x y:Nat) (hx:x<256) (hy:y<256):
  ((((((
   (if 0+r<8 then x/2^(7-(0+r))%2 else y/2^(15-(0+r))%2)*2+(if 1+r<8 then x/2^(7-(1+r))%2 else y/2^(15-(1+r))%2))*2+
   (if 2+r<8 then x/2^(7-(2+r))%2 else y/2^(15-(2+r))%2))*2+(if 3+r<8 then x/2^(7-(3+r))%2 else y/2^(15-(3+r))%2))*2+
   (if 4+r<8 then x/2^(7-(4+r))%2 else y/2^(15-(4+r))%2))*2+(if 5+r<8 then x/2^(7-(5+r))%2 else y/2^(15-(5+r))%2))*2+
   (if 6+r<8 then x/2^(7-(6+r))%2 else y/2^(15-(6+r))%2))*2+(if 7+r<8 then x/2^(7-(7+r))%2 else y/2^(15-(7+r))%2)
  =x*2^r%256+y/2^(8-r):=by
 rcases(show r=0∨r=1∨r=2∨r=3∨r=4∨r=5∨r=6∨r=7 by omega)with rfl|rfl|rfl|rfl|rfl|rfl|rfl|rfl
 ·have h1:=hi0 x hx
  have h2:y/256=0:=by omega
  simp only [Nat.zero_add,Nat.reduceAdd,Nat.reduceLT,if_true,Nat.reduceSub,Nat.reducePow,Nat.div_one]
  generalize x%2=a0 at*
  generalize x/2%2=a1 at*
  generalize x/4%2=a2 at*
  generalize x/8%2=a3 at*
  generalize x/16%2=a4 at*
  generalize x/32%2=a5 at*
  generalize x/64%2=a6 at*
  generalize x/128%2=a7 at*
  generalize x*1%256=p at*
  generalize y/256=q at*
  clear hx hy
  omega
 ·have h1:=hi1 x hx
  have h2:=lo1 y hy
  simp only [Nat.zero_add,Nat.reduceAdd,Nat.reduceLT,if_true,Nat.reduceSub,Nat.reducePow,Nat.div_one,if_false]
  generalize x%2=a0 at*
  generalize x/2%2=a1 at*
  generalize x/4%2=a2 at*
  generalize x/8%2=a3 at*
  generalize x/16%2=a4 at*
  generalize x/32%2=a5 at*
  generalize x/64%2=a6 at*
  generalize y/128%2=b0 at*
  generalize x*2%256=p at*
  generalize y/128=q at*
  clear hx hy
  omega
 ·have h1:=hi2 x hx
  have h2:=lo2 y hy
  simp only [Nat.zero_add,Nat.reduceAdd,Nat.reduceLT,if_true,Nat.reduceSub,Nat.reducePow,Nat.div_one,if_false]
  generalize x%2=a0 at*
  generalize x/2%2=a1 at*
  generalize x/4%2=a2 at*
  generalize x/8%2=a3 at*
  generalize x/16%2=a4 at*
  generalize x/32%2=a5 at*
  generalize y/128%2=b0 at*
  generalize y/64%2=b1 at*
  generalize x*4%256=p at*
  generalize y/64=q at*
  clear hx hy
  omega
 ·have h1:=hi3 x hx
  have h2:=lo3 y hy
  simp only [Nat.zero_add,Nat.reduceAdd,Nat.reduceLT,if_true,Nat.reduceSub,Nat.reducePow,Nat.div_one,if_false]
  generalize x%2=a0 at*
  generalize x/2%2=a1 at*
  generalize x/4%2=a2 at*
  generalize x/8%2=a3 at*
  generalize x/16%2=a4 at*
  generalize y/128%2=b0 at*
  generalize y/64%2=b1 at*
  generalize y/32%2=b2 at*
  generalize x*8%256=p at*
  generalize y/32=q at*
  clear hx hy
  omega
 ·have h1:=hi4 x hx
  have h2:=lo4 y hy
  simp only [Nat.zero_add,Nat.reduceAdd,Nat.reduceLT,if_true,Nat.reduceSub,Nat.reducePow,Nat.div_one,if_false]
  generalize x%2=a0 at*
  generalize x/2%2=a1 at*
  generalize x/4%2=a2 at*
  generalize x/8%2=a3 at*
  generalize y/128%2=b0 at*
  generalize y/64%2=b1 at*
  generalize y/32%2=b2 at*
  generalize y/16%2=b3 at*
  generalize x*16%256=p at*
  generalize y/16=q at*
  clear hx hy
  omega
 ·have h1:=hi5 x hx
  have h2:=lo5 y hy
  simp only [Nat.zero_add,Nat.reduceAdd,Nat.reduceLT,if_true,Nat.reduceSub,Nat.reducePow,Nat.div_one,if_false]
  generalize x%2=a0 at*
  generalize x/2%2=a1 at*
  generalize x/4%2=a2 at*
  generalize y/128%2=b0 at*
  generalize y/64%2=b1 at*
  generalize y/32%2=b2 at*
  generalize y/16%2=b3 at*
  generalize y/8%2=b4 at*
  generalize x*32%256=p at*
  generalize y/8=q at*
  clear hx hy
  omega
 ·have h1:=hi6 x hx
  have h2:=lo6 y hy
  simp only [Nat.zero_add,Nat.reduceAdd,Nat.reduceLT,if_true,Nat.reduceSub,Nat.reducePow,Nat.div_one,if_false]
  generalize x%2=a0 at*
  generalize x/2%2=a1 at*
  generalize y/128%2=b0 at*
  generalize y/64%2=b1 at*
  generalize y/32%2=b2 at*
  generalize y/16%2=b3 at*
  generalize y/8%2=b4 at*
  generalize y/4%2=b5 at*
  generalize x*64%256=p at*
  generalize y/4=q at*
  clear hx hy
  omega
 ·have h1:=hi7 x hx
  have h2:=lo7 y hy
  simp only [Nat.zero_add,Nat.reduceAdd,Nat.reduceLT,if_true,Nat.reduceSub,Nat.reducePow,Nat.div_one,if_false]
  generalize x%2=a0 at*
  generalize y/128%2=b0 at*
  generalize y/64%2=b1 at*
  generalize y/32%2=b2 at*
  generalize y/16%2=b3 at*
  generalize y/8%2=b4 at*
  generalize y/4%2=b5 at*
  generalize y/2%2=b6 at*
  generalize x*128%256=p at*
  generalize y/2=q at*
  clear hx hy
  omega
theorem by8_shift (f:Nat→Nat) (hf: ∀j,f j<256) (n j:Nat):by8 (fun k=>bitF f (k+n)) j=shB f n j:=by
 have e:=fun i (hi:i<8)=>bitF_put f j (n/8) (n%8) i (by omega) hi
 rw [show 8*(n/8)+n%8=n by omega]at e
 unfold by8 shB
 dsimp only
 have e0:=e 0 (by omega)
 rw [Nat.add_zero]at e0
 rw [e0,e 1 (by omega),e 2 (by omega),e 3 (by omega),e 4 (by omega),e 5 (by omega),e 6 (by omega),e 7 (by omega)]
 exact two_bytes (n%8) (by omega) _ _ (hf _) (hf _)
theorem by8_congr {l m:Nat→Nat} (j:Nat) (h: ∀i,i<8→l (8*j+i)=m (8*j+i)):by8 l j=by8 m j:=by
 unfold by8
 have h0:=h 0 (by omega)
 rw [Nat.add_zero]at h0
 rw [h0,h 1 (by omega),h 2 (by omega),h 3 (by omega),h 4 (by omega),h 5 (by omega),h 6 (by omega),h 7 (by omega)]
def cut (n:Nat) (f:Nat→Nat) (j:Nat):Nat:=if j<n then f j else 0
theorem cut_lt {n:Nat} {f:Nat→Nat} (h: ∀j,j<n→f j<256) (j:Nat):cut n f j<256:=by
 unfold cut;split
 ·exact h j (by assumption)
 ·omega
def dbF (f:Nat→Nat) (j:Nat):Nat:=shB (cut 16 f) 1 j^^^(if j=15 then f 0/128*135 else 0)
def hvG (f:Nat→Nat) (j:Nat):Nat:=f j^^^(if j=15 then f 15%2*135 else 0)
def hvF (f:Nat→Nat) (j:Nat):Nat:=hvG f j/2+(if j=0 then f 15%2 else hvG f (j-1)%2)*128
theorem shB_one (f:Nat→Nat) (j:Nat):shB f 1 j=f j*2%256+f (j+1)/128:=by simp [shB]
theorem x135: ∀x,x<256→(x^^^135)%2=(x+1)%2∧x^^^135<256:=by decide+kernel
theorem bit135 (c:Nat) (hc:c<2) (x:Nat) (hx:x<256):(x^^^c*135)%2=(x+c)%2∧x^^^c*135<256:=by
 rcases(show c=0∨c=1 by omega)with rfl|rfl
 ·simp;omega
 ·rw [Nat.one_mul];exact x135 x hx
theorem dbF_lt {f:Nat→Nat} (h:B16 f):B16 (dbF f):=fun j hj=>by
 unfold dbF
 rw [shB_one]
 have h1:=cut_lt h j
 have h2:=cut_lt h (j+1)
 have h0:=h 0 (by omega)
 refine xor_lt _ _ (by omega) ?_
 split<;>omega
theorem hvG_lt {f:Nat→Nat} (h:B16 f):B16 (hvG f):=fun j hj=>by
 unfold hvG
 refine xor_lt _ _ (h j hj) ?_
 split<;>omega
theorem hvF_lt {f:Nat→Nat} (h:B16 f):B16 (hvF f):=fun j hj=>by
 have h1:=hvG_lt h j hj
 unfold hvF
 split<;>omega
theorem hvG_db {f:Nat→Nat} (h:B16 f) (j:Nat) (hj:j<16):dbF f 15%2=f 0/128∧hvG (dbF f) j=shB (cut 16 f) 1 j:=by
 have h0:=h 0 (by omega)
 have hc:f 0/128<2:=by omega
 have h15:=cut_lt h 15
 have e:dbF f 15%2=f 0/128:=by
  unfold dbF
  rw [if_pos rfl]
  have hs:shB (cut 16 f) 1 15=cut 16 f 15*2%256:=by rw [shB_one];simp [cut]
  rw [hs,(bit135 _ hc _ (by omega)).1]
  omega
 refine⟨e,?_⟩
 unfold hvG
 rw [e]
 unfold dbF
 rw [xor_cancel]
theorem hv_db {f:Nat→Nat} (h:B16 f):E16 (hvF (dbF f)) f:=fun j hj=>by
 have h1:=h j hj
 unfold hvF
 rw [(hvG_db h j hj).2,(hvG_db h j hj).1,shB_one]
 have c0:cut 16 f j=f j:=if_pos hj
 by_cases h0:j=0
 ·subst h0
  rw [if_pos rfl,c0]
  have:=cut_lt h (0+1)
  omega
 ·rw [if_neg h0,(hvG_db h (j-1) (by omega)).2,shB_one,show j-1+1=j by omega,c0]
  have:=cut_lt h (j+1)
  have:=cut_lt h (j-1)
  omega
theorem db_hv {f:Nat→Nat} (h:B16 f):E16 (dbF (hvF f)) f:=fun j hj=>by
 have hg:=hvG_lt h
 have h15:=h 15 (by omega)
 have hc:f 15%2<2:=by omega
 have g15:hvG f 15%2=0:=by
  unfold hvG
  rw [if_pos rfl,(bit135 _ hc _ h15).1]
  omega
 have hh:=hvF_lt h
 have t0:hvF f 0/128=f 15%2:=by
  have:=hg 0 (by omega)
  unfold hvF
  rw [if_pos rfl];omega
 have s1:shB (cut 16 (hvF f)) 1 j=hvG f j:=by
  rw [shB_one,show cut 16 (hvF f) j=hvF f j from if_pos hj]
  have gj:=hg j hj
  have a1:hvF f j*2%256=hvG f j/2*2:=by
   unfold hvF
   split<;>omega
  rw [a1]
  by_cases hj15:j=15
  ·subst hj15
   rw [show cut 16 (hvF f) (15+1)=0 from if_neg (by omega)];omega
  ·rw [show cut 16 (hvF f) (j+1)=hvF f (j+1)from if_pos (by omega)]
   have g1:=hg (j+1) (by omega)
   have a2:hvF f (j+1)/128=hvG f j%2:=by
    unfold hvF
    rw [if_neg (by omega),Nat.add_sub_cancel];omega
   rw [a2];omega
 unfold dbF
 rw [s1,t0]
 unfold hvG
 exact xor_cancel _ _
theorem add_xor: ∀a,a<128→ ∀b,b<2→a*2+b=a*2^^^b:=by decide+kernel
theorem sh_xor (x y:Nat):(x^^^y)*2%256=(x*2%256)^^^(y*2%256):=by
 have e: ∀z:Nat,z*2=z<<<1:=fun z=>by rw [Nat.shiftLeft_eq]
 rw [e,e,e,Nat.shiftLeft_xor_distrib,show 256=2^8 from rfl,Nat.xor_mod_two_pow]
theorem hi_xor (x y:Nat):(x^^^y)/128=(x/128)^^^(y/128):=by
 have e: ∀z:Nat,z/128=z>>>7:=fun z=>by rw [Nat.shiftRight_eq_div_pow]
 rw [e,e,e,Nat.shiftRight_xor_distrib]
theorem m135 (p q:Nat) (hp:p<2) (hq:q<2):(p^^^q)*135=p*135^^^q*135:=by
 rcases(show p=0∨p=1 by omega)with rfl|rfl<;>rcases(show q=0∨q=1 by omega)with rfl|rfl<;>decide
theorem shB_xor (f g:Nat→Nat) (hf: ∀j,f j<256) (hg: ∀j,g j<256) (j:Nat):shB (fun i=>f i^^^g i) 1 j=shB f 1 j^^^shB g 1 j:=by
 have hx: ∀z,z<256→ ∀y,y<256→z*2%256+y/128=(z*2%256)^^^(y/128):=fun z hz y hy=>by
  have:=add_xor (z%128) (by omega) (y/128) (by omega)
  rwa [show z%128*2=z*2%256 by omega]at this
 rw [shB_one,shB_one,shB_one,hx _ (hf j) _ (hf (j+1)),hx _ (hg j) _ (hg (j+1)),hx _ (xor_lt _ _ (hf j) (hg j)) _ (xor_lt _ _ (hf (j+1)) (hg (j+1))),sh_xor,hi_xor]
 ac_rfl
theorem db_ad {f g:Nat→Nat} (hf:B16 f) (hg:B16 g) (j:Nat):dbF (adF f g) j=adF (dbF f) (dbF g) j:=by
 have e:cut 16 (adF f g)=fun i=>cut 16 f i^^^cut 16 g i:=by
  funext i;unfold cut adF;split<;>simp
 have h0:=hf 0 (by omega)
 have h1:=hg 0 (by omega)
 show shB (cut 16 (adF f g)) 1 j^^^(if j=15 then(f 0^^^g 0)/128*135 else 0)=(shB (cut 16 f) 1 j^^^(if j=15 then f 0/128*135 else 0))^^^(shB (cut 16 g) 1 j^^^(if j=15 then g 0/128*135 else 0))
 rw [e,shB_xor _ _ (cut_lt hf) (cut_lt hg)]
 by_cases hj:j=15
 ·simp only [if_pos hj]
  rw [hi_xor,m135 _ _ (by omega) (by omega)]
  ac_rfl
 ·simp only [if_neg hj,Nat.xor_zero]
end
section
open Go.RowKit
set_option linter.unusedVariables false
set_option maxRecDepth 10000
def inL (n:Nat) (l:Nat→Nat):List Value:=(List.range n).map fun j=> .int .i64 (l j:Nat)
theorem inL_len (n:Nat) (l:Nat→Nat):(inL n l).length=n:=by simp [inL]
theorem inL_get (n:Nat) (l:Nat→Nat) (j:Nat) (h:j<n):(inL n l)[j]?=some (.int .i64 (l j:Nat)):=by
 simp [inL,List.getElem?_map,List.getElem?_range h]
theorem inL_snoc (n:Nat) (l:Nat→Nat):inL (n+1) l=inL n l++ [.int .i64 (l n:Nat)]:=by simp [inL,List.range_succ]
theorem infoI:(Tryz.prog.info? 3).map (fun i=>(i.zero,i.size,i.bytes))=some (some (.int .i64 0),1,8):=by kernel_rfl
def OwI (w:World) (B:Nat) (v:Value) (n:Nat) (l:Nat→Nat):Prop:=w.ownsRow B 3 1 v n (inL n l)
theorem OwI.cell {w:World} {B:Nat} {A:Option Addr} {n c:Nat} {l:Nat→Nat} (h:OwI w B (.slice A n c) n l) (j:Nat) (hj:j<n): ∃g,A=some ⟨g,0,none⟩∧B≤g∧g<w.heap.size∧w.cell? ⟨g,j,none⟩=some (.int .i64 (l j:Nat)):=by
 obtain⟨g,cap,hv,hg,hlt⟩:=World.ownsRow.form h (by omega)
 injection hv with e1 e2 e3
 subst e1
 refine⟨g,rfl,hg,hlt,?_⟩
 have hc:=World.ownsRow.cells h (g:=g) rfl j _ (inL_get n l j hj)
 have:(⟨g,0,none⟩:Addr).add j=⟨g,0+j,none⟩:=by unfold Addr.add;split<;>simp_all
 rw [this,Nat.zero_add]at hc
 exact hc
theorem own_block {w:World} {base:Nat} {e:TypeId} {size:Nat} {v:Value} {n:Nat} {xs:List Value} (h:w.ownsRow base e size v n xs) {g:Nat} (hg:v.ownBlock=some g):base≤g:=by
 rcases h.2 with ⟨rfl,_⟩|⟨g0,cap,cur,rfl,hb,_⟩
 ·simp [Value.ownBlock]at hg
 ·simp [Value.ownBlock]at hg;omega
theorem bit_facts (x t p q:Nat) (hx:x<256) (hp:p=x/2^t) (hq:q=p%2):
  (wrap64 ((x:Int)/2^t)=(p:Int)∧IntKind.i64.wrap ((x:Int)/2^t)=(p:Int))∧(p:Int).tmod 2=(q:Int)∧(p:Int)%2=(q:Int):=by
 have h1:p≤x:=by rw [hp];exact Nat.div_le_self _ _
 have e:(x:Int)/2^t=(p:Int):=by rw [hp,Int.natCast_ediv,Int.natCast_pow];rfl
 refine⟨⟨?_,?_⟩,?_,by omega⟩
 ·rw [e];exact IntWalk.wrap64_in _ (by omega)
 ·rw [e];exact wraps_i64' _ (by omega) (by omega)
 ·rw [Int.tmod_eq_emod_of_nonneg (by omega)];omega
set_option maxHeartbeats 1600000 in
theorem refbits (f:Nat→Nat) (n g:Nat) (w:World) (hn:n≤100) (hf: ∀j,j<n→f j<256) (hA:Ar w g n f) (hg:g<w.heap.size):
  Calls Tryz.prog 133 #[.slice (some ⟨g,0,none⟩) n n] w fun e w'=> ∃A c,e= .returned (.slice A (8*n) c)∧OwI w' w.heap.size (.slice A (8*n) c) (8*n) (bitF f)∧Below w.heap.size w w':=by
 obtain⟨i0,hi0,hz0,hz1,hz2⟩:=info_parts infoI
 have hzs:(Value.int .i64 0).cells.size=1:=rfl
 go_enter Tryz.func133,Tryz.ntmps133
 go_wp2_with fail
 go_loopw [3,4] (fun v i wr=> ∃(k:Nat) (A:Option Addr) (c:Nat),k≤n∧i= .int .i64 k∧v= .slice A (8*k) c∧OwI wr w.heap.size (.slice A (8*k) c) (8*k) (bitF f)∧Below w.heap.size w wr) (fun _ i _=>n-(intOf i).toNat)
 case atStart=>exact⟨0,none,0,Nat.zero_le _,rfl,rfl,World.ownsRow_nil _ _ _ _,Below.refl _ _⟩
 case round=>
  obtain⟨k,A,c,hk,rfl,rfl,hO,hB⟩:=hrel
  by_cases hlt:k<n
  ·have i1:(k:Int)<(n:Int):=by omega
   go_wp2_with fail
   obtain⟨wo,rfl⟩:=Lv (wr)
   go_loopw [3,5] (fun v i wr=> ∃(s:Nat) (A:Option Addr) (c:Nat),s≤8∧i= .int .i64 ((s:Int)-1)∧v= .slice A (8*k+(8-s)) c∧OwI wr w.heap.size (.slice A (8*k+(8-s)) c) (8*k+(8-s)) (bitF f)∧Below w.heap.size w wr) (fun _ i _=>(intOf i+1).toNat)
   case atStart=>exact⟨8,A,c,by omega,rfl,rfl,hO,hB⟩
   case round=>
    clear hO hB
    obtain⟨s,A,c,hs,rfl,rfl,hO,hB⟩:=hrel
    by_cases hs0:0<s
    ·obtain⟨t,rfl⟩: ∃t,s=t+1:=⟨s-1,by omega⟩
     have es:((t+1:Nat):Int)-1=(t:Int):=by omega
     rw [es]
     have i2:(0:Int)≤(t:Int):=by omega
     have i3:(t:Int)<8:=by omega
     have hgw:g<wr.heap.size:=by have:=hB.size;omega
     have c0:wr.cell? ⟨g,k,none⟩=some (.int .u8 (f k:Nat)):=(hB.cell (p:=⟨g,k,none⟩) hg).trans (hA k hlt).1
     obtain⟨p,hp⟩:=Lv (f k/2^t)
     obtain⟨q,hq⟩:=Lv (p%2)
     obtain⟨⟨e1,e2⟩,e3,e4⟩:=bit_facts (f k) t p q (hf k hlt) hp hq
     obtain⟨M,hM⟩:=Le (8*k+(8-(t+1)))
     rw [hM]at hO⊢
     have hbit:=Lib.hid (show bitF f M=q by rw [←hM,show 8*k+(8-(t+1))=8*k+(7-t)by omega,bitF_at f k (7-t) (by omega),show 7-(7-t)=t by omega,←hp,hq])
     have HM:=Lib.hid hM
     have HM2:=Lib.hid (show M<1000 by omega)
     have HB:=Lib.hid hB
     have hsz:=Lib.hid hB.size
     clear hM hp hq hB
     go_wp2_with (at_builtin;refine wpList_append_own _ rfl _ _ 168 rfl w.heap.size 3 i0 (.int .i64 0) 1 8 Tryz.underlying168 hi0 hz0 hz1 hz2 rfl (by decide) _ _ _ rfl (hO.alloc _) ⟨wr.heap.size,0,none⟩ 1 1 [.int .i64 (q:Nat)] rfl rfl ?c1 ?c2 ?c3 ?c4 ?c5 ?_)
     case c1=>
      intro j u hj
      match j,hj with
      |0,hj=>simp at hj;subst hj;simp [Addr.add]
     case c2=>intro u hu;simp at hu;subst hu;rfl
     case c3=>have:=HM2.out;unfold maxLen;omega
     case c4=>have:=HM2.out;omega
     case c5=>have:=hsz.out;simp;omega
     intro v2 w2 hown2 hgrow _
     obtain⟨A2,c2,rfl⟩:=own_shape hown2
     have hO2:OwI w2 w.heap.size (.slice A2 (M+1) c2) (M+1) (bitF f):=by
      unfold OwI;rw [inL_snoc,hbit.out];exact hown2
     have hB2:Below w.heap.size w w2:=(HB.out.alloc hsz.out _).grown hgrow (by have:=hsz.out;simp;omega) (fun g0 hg0=>own_block hO hg0)
     have eM:M+1=8*k+(8-t):=by have:=HM.out;omega
     rw [eM]at hO2⊢
     clear hO hown2 hgrow e1 e2 e3 e4 hgw c0
     go_wp2_with fail
     go_roundw
     case rel=>exact⟨t,A2,c2,by omega,by first|rfl|(go_num),rfl,hO2,hB2⟩
     case measure=>simp [intOf]
    ·obtain rfl:s=0:=by omega
     go_wp2_with fail
     go_roundw
     case rel=>exact⟨k+1,A,c,by omega,by go_num,rfl,hO,hB⟩
     case measure=>simp [intOf];omega
  ·obtain rfl:k=n:=by omega
   go_wp2_with fail
   go_ret
   exact⟨A,c,rfl,hO,hB⟩
end
section
open Go.RowKit
set_option linter.unusedVariables false
set_option maxRecDepth 100000
theorem Tryz.arr16x:Tryz.prog.underlying 22=some (.array 16 5):=by kernel_rfl
theorem Tryz.zero16x:(Tryz.prog.info? 22).map (fun i=>(i.zero,i.size))=some (some (.agg (Array.replicate 16 (.int .u8 0))),16):=by kernel_rfl
theorem size16x (f:Nat→Nat):(Tryz.prog.info? 22).map (·.size)=some (arL 16 f).length:=by rw [arL_len];exact(zero_of_info Tryz.zero16x).2
theorem zero16x (w:World):(zeroValue 22).run Tryz.prog w= .ok (.agg (arL 16 fun _=>0).toArray) w:=by
 rw [arL_zero];exact(zero_of_info Tryz.zero16x).1 w
def pre8 (l:Nat→Nat) (j:Nat):Nat→Nat
 |0=>0
 |m+1=>pre8 l j m*2+l (8*j+m)
theorem pre8_all (l:Nat→Nat) (j:Nat):pre8 l j 8=by8 l j:=by simp [pre8,by8]
theorem pre8_lt (l:Nat→Nat) (hl: ∀k,k<128→l k<2) (j:Nat) (hj:j<16): ∀m,m≤8→pre8 l j m<2^m
 |0,_=>by simp [pre8]
 |m+1,h=>by
  have h1:=pre8_lt l hl j hj m (by omega)
  have h2:=hl (8*j+m) (by omega)
  rw [pre8,Nat.pow_succ];omega
def pbF (l:Nat→Nat) (i j:Nat):Nat:=pre8 l j (min 8 (i-8*j))
theorem pbF_zero (l:Nat→Nat) (j:Nat):pbF l 0 j=0:=by simp [pbF,pre8]
theorem pbF_all (l:Nat→Nat) (j:Nat) (hj:j<16):pbF l 128 j=by8 l j:=by rw [pbF,show min 8 (128-8*j)=8 by omega,pre8_all]
theorem pbF_at (l:Nat→Nat) (i q:Nat) (hq:q=i/8):pbF l i q=pre8 l q (i%8):=by rw [pbF,show min 8 (i-8*q)=i%8 by omega]
theorem pbF_step (l:Nat→Nat) (i q j:Nat) (hq:q=i/8):(if j=q then pbF l i q*2+l i else pbF l i j)=pbF l (i+1) j:=by
 by_cases h:j=q
 ·subst h
  rw [if_pos rfl,pbF_at l i j hq,pbF,show min 8 (i+1-8*j)=i%8+1 by omega,pre8,show 8*j+i%8=i by omega]
 ·rw [if_neg h,pbF,pbF,show min 8 (i+1-8*j)=min 8 (i-8*j)by omega]
set_option maxHeartbeats 1600000 in
theorem refofb (l:Nat→Nat) (g o n c:Nat) (w:World) (hn:128≤n) (hl: ∀k,k<128→l k<2) (hA: ∀k,k<128→w.cell? ⟨g,o+k,none⟩=some (.int .i64 (l k:Nat))) (hg:g<w.heap.size):
  Calls Tryz.prog 134 #[.slice (some ⟨g,o,none⟩) n c] w fun e w'=>e= .returned (.agg (arL 16 (by8 l)).toArray)∧Below w.heap.size w w':=by
 have hz:=zero16x
 obtain⟨w2,hw2⟩:=Lv (w.alloc (.cells (arL 16 fun _=>0).toArray 22))
 have hs2:=Zs1 hw2
 have hb2:=Bl hw2
 have hR2:Ar w2 w.heap.size 16 (fun _=>0):=by rw [hw2];exact Ar.new w 16 _ _
 obtain⟨w3,hw3⟩:=Lv (w2.alloc (.cells (arL 16 fun _=>0).toArray 22))
 have hb3:=Bm hw3 hb2
 have hT3:Ar w3 (w.heap.size+1) 16 (fun _=>0):=by rw [hw3,←hs2];exact Ar.new w2 16 _ _
 have hR3:=ara hw3 hR2
 clear hb2 hR2
 have HA:=Lib.hid hA
 have HL:=Lib.hid hl
 clear hA hl
 go_enter Tryz.func134,Tryz.ntmps134
 go_upto_region 2 with fail
 rw [←hw2,←hw3]
 clear hw2 hw3 hs2
 obtain⟨gT,hgT⟩:=Le (w.heap.size+1)
 have hge:w.heap.size<gT:=by omega
 rw [hgT]at hT3
 rw [hgT]
 clear hgT
 go_wp2_with fail
 go_loopw [4] (fun i wr=> ∃k:Nat,k≤128∧i= .int .i64 k∧Ar wr w.heap.size 16 (fun _=>0)∧Ar wr gT 16 (pbF l k)∧Below w.heap.size w wr) (fun i _=>128-(intOf i).toNat)
 case atStart=>exact⟨0,Nat.zero_le _,rfl,hR3,hT3.ext (fun j _=>(pbF_zero l j).symm),hb3⟩
 case round=>
  clear hR3 hT3 hb3
  obtain⟨k,hk,rfl,hR,hT,hB⟩:=hrel
  by_cases hlt:k<128
  ·have i1:(k:Int)<128:=by omega
   obtain⟨q,hq⟩:=Lv (k/8)
   have q2:(k:Int)/8=(q:Int):=by omega
   have q3:(q:Int)<16:=by omega
   have i4:(k:Int)<(n:Int):=by omega
   have c0:wr.cell? ⟨g,o+k,none⟩=some (.int .i64 (l k:Nat)):=(hB.cell (p:=⟨g,o+k,none⟩) hg).trans (HA.out k hlt)
   obtain⟨c1,f1⟩:=hT q (by omega)
   have y2:=HL.out k hlt
   have x2:pbF l k q<128:=by
    rw [pbF_at l k q hq]
    have h1:=pre8_lt l HL.out q (by omega) (k%8) (by omega)
    have h2:2^(k%8)≤2^7:=Nat.pow_le_pow_right (by omega) (by omega)
    omega
   have hT2:=Lib.hid ((hT.set (j:=q) (v:=pbF l k q*2+l k) (by omega) rfl).ext (f':=pbF l (k+1)) (fun j _=>pbF_step l k q j hq))
   have hR2:=Lib.hid (hR.far (p:=⟨gT,q,none⟩) (by simp;omega) (.int .u8 (pbF l k q*2+l k:Nat)))
   have hB2:=Lib.hid (hB.setCell (p:=⟨gT,q,none⟩) (by simp;omega) (.int .u8 (pbF l k q*2+l k:Nat)))
   generalize pbF l k q=x at*
   generalize l k=y at*
   have e1:((x*2+y:Nat):Int)=(x:Int)*2+(y:Int):=by omega
   rw [e1]at hT2 hR2 hB2
   clear hT hR hB hq hn e1
   go_wp2_with fail
   refine wp_region_noPanic ?_
   go_big_region
   refine NoPanic.normal ?_
   clear q2 q3
   go_wp2_with fail
   go_roundw
   case rel=>exact⟨k+1,by omega,by go_num,hR2.out.drew,hT2.out.drew,hB2.out.drew⟩
   case measure=>simp [intOf];omega
  ·obtain rfl:k=128:=by omega
   have hT2:=hT.ext (f':=by8 l) (fun j hj=>pbF_all l j hj)
   clear hT
   go_wp2_with (first
    |(refine wpList_load_ar rfl _ _ rfl _ _ _ rfl hT2 Tryz.arr16x (size16x _) ?_)
    |(refine wpList_store_ar rfl _ _ _ rfl _ _ _ (by8 l) rfl rfl hR (size16x _) ?_;intro w8 hA8 hb8 _ _))
   refine bodyPost_ret_ar rfl rfl hA8 Tryz.arr16x (size16x _) rfl ⟨rfl,?_⟩
   exact hB.trans (hb8.mono (by omega))
end
section
open Go.RowKit
set_option linter.unusedVariables false
set_option maxRecDepth 100000
theorem Tryz.arr24:Tryz.prog.underlying 149=some (.array 24 5):=by kernel_rfl
set_option maxHeartbeats 1600000 in
theorem refshift8 (f:Nat→Nat) (n:Nat) (w:World) (hf: ∀j,j<24→f j<256) (hn:n≤64):
  Calls Tryz.prog 121 #[.agg (arL 24 f).toArray,.int .i64 (n:Int)] w fun e w'=>e= .returned (.agg (arL 16 (shB (cut 24 f) n)).toArray)∧Below w.heap.size w w':=by
 have hz:=zero16x
 obtain⟨kA,hkA⟩:=Le ((arL 24 f).toArray)
 obtain⟨w1,hw1⟩:=Lv (w.alloc (.cells (arL 24 f).toArray 149))
 have hs1:=Zs1 hw1
 have hb1:=Bl hw1
 have hK1:Ar w1 w.heap.size 24 f:=by rw [hw1];exact Ar.new w 24 f _
 obtain⟨w2,hw2⟩:=Lv (w1.alloc (.cells (arL 16 fun _=>0).toArray 22))
 have hb2:=Bm hw2 hb1
 have hR2:Ar w2 (w.heap.size+1) 16 (fun _=>0):=by rw [hw2,←hs1];exact Ar.new w1 16 _ _
 have hK2:=ara hw2 hK1
 rw [hkA]at hw1
 rw [hkA]
 clear hb1 hK1 hkA
 have HF:=Lib.hid hf
 clear hf
 have i1:(0:Int)≤(n:Int):=by omega
 have i2:(n:Int)≤64:=by omega
 go_enter Tryz.func121,Tryz.ntmps121
 go_upto_region 1 with fail
 rw [←hw1,←hw2]
 clear hw1 hw2 hs1
 go_wp2_with fail
 refine(refbits f 24 w.heap.size w2 (by omega) HF.out hK2 (hK2.lt (by omega))).mono ?_
 rintro e w3 ⟨A,c,rfl,hO,hq⟩
 have hR3:=hR2.t hq
 have hB3:=Tq hb2 hq
 clear hR2 hb2 hq
 obtain⟨g,rfl,hgb,hgl,_⟩:=hO.cell 0 (by omega)
 have hcap:=(own_cap hO).1
 have HC:=Lib.hid (fun k (hk:k<192)=>(hO.cell k hk))
 have i3:(192:Int)≤(c:Int):=by omega
 clear hO hK2
 go_wp2_with fail
 have hcell: ∀k,k<128→w3.cell? ⟨g,n+k,none⟩=some (.int .i64 (bitF f (k+n):Nat)):=fun k hk=>by
  obtain⟨g2,e,_,_,hc⟩:=HC.out (n+k) (by omega)
  injection e with e
  injection e with e
  subst e
  rw [hc,Nat.add_comm n k]
 refine(refofb (fun k=>bitF f (k+n)) g n 128 (c-n) w3 (by omega) (fun k _=>bitF_lt _ _) hcell hgl).mono ?_
 rintro e w4 ⟨rfl,hq⟩
 rw [arL_ext (n:=16) (f:=by8 fun k=>bitF f (k+n)) (g:=shB (cut 24 f) n) (fun j hj=>by
  rw [←by8_shift (cut 24 f) (cut_lt HF.out) n j]
  refine by8_congr j (fun i hi=> ?_)
  unfold bitF cut
  rw [if_pos (by omega)])]
 have hR4:=hR3.t hq
 have hB4:=Tq hB3 hq
 clear hR3 hB3 hq hcell HC
 go_wp2_with (refine wpList_store_ar rfl _ _ _ rfl _ _ _ (shB (cut 24 f) n) rfl rfl hR4 (size16x _) ?_;intro w8 hA8 hb8 _ _)
 refine bodyPost_ret_ar rfl rfl hA8 Tryz.arr16x (size16x _) rfl ⟨rfl,?_⟩
 exact hB4.trans (hb8.mono (by omega))
end
section
open Go.RowKit
set_option linter.unusedVariables false
set_option maxRecDepth 100000
theorem cell_lt8 {W:World} {g o:Nat} {x:Value} (h:W.cell? ⟨g,o,none⟩=some x):g<W.heap.size:=by
 rcases Nat.lt_or_ge g W.heap.size with h1|h1
 ·exact h1
 ·simp [World.cell?,Array.getElem?_eq_none h1]at h
theorem shB_one_lt (f:Nat→Nat) (hf: ∀j,j<16→f j<256) (j:Nat):shB (cut 16 f) 1 j<256:=by
 rw [shB_one]
 have:=cut_lt hf j
 have:=cut_lt hf (j+1)
 omega
theorem own_spare {w:World} {base:Nat} {e:TypeId} {g n c:Nat} {xs:List Value} (h:w.ownsRow base e 1 (.slice (some ⟨g,0,none⟩) n c) n xs) (hn:0<n) (j:Nat) (hj:j<c):
  (w.cell? ⟨g,j,none⟩).isSome=true∧w.frozen? ⟨g,j,none⟩=false:=by
 refine⟨?_,World.ownsRow.frozenAt h j⟩
 rcases h.2 with ⟨h1,_⟩|⟨g0,cap,cur,hv,_,hcell,_,_,hsz,_⟩
 ·cases h1
 ·injection hv with e1 e2 e3
  injection e1 with e1
  injection e1 with e1
  subst e1 e3
  simp [World.cell?,hcell]
  omega
set_option maxHeartbeats 4000000 in
theorem refdouble (f:Nat→Nat) (w:World) (hf: ∀j,j<16→f j<256):
  Calls Tryz.prog 96 #[.agg (arL 16 f).toArray] w fun e w'=>e= .returned (.agg (arL 16 (dbF f)).toArray)∧Below w.heap.size w w':=by
 obtain⟨i0,hi0,hz0,hz1,hz2⟩:=info_parts infoI
 have hz:=zero16x
 obtain⟨kA,hkA⟩:=Le ((arL 16 f).toArray)
 obtain⟨w1,hw1⟩:=Lv (w.alloc (.cells (arL 16 f).toArray 22))
 have hs1:=Zs1 hw1
 have hb1:=Bl hw1
 have hK1:Ar w1 w.heap.size 16 f:=by rw [hw1];exact Ar.new w 16 f _
 obtain⟨w2,hw2⟩:=Lv (w1.alloc (.cells (arL 16 fun _=>0).toArray 22))
 have hs2:=Zs2 hw2 hs1
 have hb2:=Bm hw2 hb1
 have hR2:Ar w2 (w.heap.size+1) 16 (fun _=>0):=by rw [hw2,←hs1];exact Ar.new w1 16 _ _
 have hK2:=ara hw2 hK1
 rw [hkA]at hw1
 rw [hkA]
 clear hb1 hK1 hkA
 have HF:=Lib.hid hf
 clear hf
 go_enter Tryz.func96,Tryz.ntmps96
 go_upto_region 1 with fail
 rw [←hw1,←hw2]
 clear hw1 hw2 hs1
 go_wp2_with fail
 refine(refbits f 16 w.heap.size w2 (by omega) HF.out hK2 (hK2.lt (by omega))).mono ?_
 rintro e w3 ⟨A,c,rfl,hO,hq⟩
 have hR3:=hR2.t hq
 have hB3:=Tq hb2 hq
 clear hR2 hb2 hq
 obtain⟨g,rfl,hgb,hgl,d3⟩:=hO.cell 0 (by omega)
 have hcap:=(own_cap hO).1
 have HC:=Lib.hid (fun k (hk:k<128)=>(show w3.cell? ⟨g,k,none⟩=some (.int .i64 (bitF f k:Nat))by
  obtain⟨g2,e,_,_,hc⟩:=hO.cell k hk
  injection e with e
  injection e with e
  subst e
  exact hc))
 have HS:=Lib.hid (fun j (hj:j<c)=>own_spare hO (by omega) j hj)
 have i3:(128:Int)≤(c:Int):=by omega
 have hg2:w.heap.size+1<g:=by omega
 clear hO hK2 hgb hs2
 have holds: ∀j u,(inL 127 (fun k=>bitF f (k+1)))[j]?=some u→w3.cell? ⟨g,1+j,none⟩=some u:=fun j u hu=>by
  have hj:j<127:=by
   rcases Nat.lt_or_ge j 127 with h1|h1
   ·exact h1
   ·rw [List.getElem?_eq_none (by rw [inL_len];exact h1)]at hu;cases hu
  rw [inL_get 127 _ j hj]at hu
  injection hu with hu
  subst hu
  rw [Nat.add_comm 1 j]
  exact HC.out (j+1) (by omega)
 have HO:=Lib.hid holds
 have hz128:bitF (cut 16 f) (127+1)=0:=by unfold bitF cut;rw [if_neg (by omega)]
 clear holds
 go_wp2_with (at_builtin;refine wpList_append_arg _ rfl _ _ 168 rfl 3 i0 (.int .i64 0) 1 8 Tryz.underlying168 hi0 hz0 hz1 hz2 rfl (by decide) g 1 127 (c-1) (inL 127 (fun k=>bitF f (k+1))) rfl ?lo ?olds ⟨w3.heap.size,0,none⟩ 1 1 [.int .i64 0] rfl rfl ?c1 ?c2 ?spare ?maxLen ?bytes ?room ?grow)
 case olds=>intro j u hu;rw [World.cell?_alloc_lt w3 _ ⟨g,1+j,none⟩ hgl];exact HO.out j u hu
 case c1=>
  intro j u hj
  match j,hj with
  |0,hj=>simp at hj;subst hj;simp [Addr.add]
 case c2=>intro u hu;simp at hu;subst hu;rfl
 case spare=>
  intro hr j hj
  simp at hj
  subst hj
  have:=HS.out 128 (by omega)
  exact⟨by rw [World.cell?_alloc_lt w3 _ ⟨g,128,none⟩ hgl];exact this.1,(((Below.refl w3.heap.size w3).alloc (Nat.le_refl _) _).frozen (p:=⟨g,128,none⟩) hgl).trans this.2⟩
 case maxLen=>decide
 case bytes=>decide
 case lo=>rw [inL_len]
 case room=>
  intro hroom
  have hroom2:129≤c:=by omega
  obtain⟨w5,hw5⟩:=Lv ((w3.alloc (.cells #[.int .i64 0] 3)).setCells g (1+127*1) [.int .i64 0])
  have hw5':w5=(w3.alloc (.cells #[.int .i64 0] 3)).setCell ⟨g,128,none⟩ (.int .i64 0):=hw5
  have hR5:Ar w5 (w.heap.size+1) 16 (fun _=>0):=by rw [hw5'];exact(hR3.alloc (by omega) _).far (by simp;omega) _
  have hB5:Below w.heap.size w w5:=by rw [hw5'];exact(hB3.alloc hB3.size _).setCell (by simp;omega) _
  have old: ∀k,k<128→w5.cell? ⟨g,k,none⟩=some (.int .i64 (bitF f k:Nat)):=fun k hk=>by
   rw [hw5',World.cell?_setCell_other _ _ _ _ (fun e=>by injection e with _ e;omega),World.cell?_alloc_lt w3 _ ⟨g,k,none⟩ hgl]
   exact HC.out k hk
  have d0:=old 0 (by omega)
  obtain⟨gA,oA,cA,e1,e2,e3⟩: ∃gA oA cA:Nat,gA=g∧oA=1∧cA=c-1:=⟨_,_,_,rfl,rfl,rfl⟩
  have hcells: ∀k,k<128→w5.cell? ⟨gA,oA+k,none⟩=some (.int .i64 (bitF (cut 16 f) (k+1):Nat)):=fun k hk=>by
   rw [e1,e2,Nat.add_comm 1 k]
   by_cases h127:k=127
   ·subst h127
    rw [hw5',World.cell?_setCell_same _ _ _ (u:=(w3.cell? ⟨g,128,none⟩).get (HS.out 128 (by omega)).1) (by rw [World.cell?_alloc_lt w3 _ ⟨g,128,none⟩ hgl];simp),hz128]
    rfl
   ·rw [old (k+1) (by omega)]
    unfold bitF cut
    rw [if_pos (by omega)]
  have hgA:gA<w5.heap.size:=cell_lt8 (hcells 0 (by omega))
  have hg5:g<w5.heap.size:=cell_lt8 d0
  rw [←hw5,show(Value.slice (some ⟨g,1,none⟩) (127+1) (c-1))= .slice (some ⟨gA,oA,none⟩) 128 cA by rw [e1,e2,e3]]
  clear hw5 hw5' hR3 hB3 old e1 e2 e3 HS HC HO hgl d3
  try dsimp only [Act.put]
  go_wp2_with fail
  refine(refofb (fun k=>bitF (cut 16 f) (k+1)) gA oA 128 cA _ (by omega) (fun k _=>bitF_lt _ _) hcells hgA).mono ?_
  rintro e w6 ⟨rfl,hq⟩
  rw [arL_ext (n:=16) (f:=by8 fun k=>bitF (cut 16 f) (k+1)) (g:=shB (cut 16 f) 1) (fun j _=>by8_shift (cut 16 f) (cut_lt HF.out) 1 j)]
  have hR6:=hR5.t hq
  have hB6:=Tq hB5 hq
  have d6:w6.cell? ⟨g,0,none⟩=some (.int .i64 (bitF f 0:Nat)):=(hq.cell (p:=⟨g,0,none⟩) hg5).trans d0
  clear hR5 hB5 hq hcells hgA d0
  obtain⟨gT,hgT⟩:=Le (w6.heap.size)
  have hlT:w.heap.size+1<gT:=by rw [←hgT];exact hR6.lt (by omega)
  have hg6:g<gT:=by rw [←hgT];exact cell_lt8 d6
  obtain⟨w7,hw7⟩:=Lv (w6.alloc (.cells (arL 16 fun _=>0).toArray 22))
  have hR7:=ara hw7 hR6
  have hT7:Ar w7 gT 16 (fun _=>0):=by rw [hw7,←hgT];exact Ar.new w6 16 _ _
  have hB7:=Bm hw7 hB6
  have d7:w7.cell? ⟨g,0,none⟩=some (.int .i64 (bitF f 0:Nat)):=by rw [hw7,World.cell?_alloc_lt w6 _ ⟨g,0,none⟩ (by rw [hgT];exact hg6)];exact d6
  clear hR6 hB6 d6
  go_upto_region 3 with (refine wpList_store_ar rfl _ _ _ rfl _ _ _ (shB (cut 16 f) 1) rfl rfl (by rw [←hw7];exact hT7) (size16x _) ?_;intro w8 hT8 bel siz kee)
  rw [←hw7]at bel siz kee
  have hR8:=kee _ _ _ (by omega) hR7
  have hB8:=hB7.trans (bel.mono (by omega))
  have d8:w8.cell? ⟨g,0,none⟩=some (.int .i64 (bitF f 0:Nat)):=(bel.cell (p:=⟨g,0,none⟩) hg6).trans d7
  clear hT7 hR7 hB7 d7 bel siz kee hw7 hgT
  try dsimp only [Act.put]
  have hb0:bitF f 0=f 0/128:=by have:=HF.out 0 (by omega);unfold bitF;simp;omega
  rw [hb0]at d8
  have hf0:=HF.out 0 (by omega)
  by_cases hc:f 0/128=1
  ·rw [hc]at d8
   obtain⟨c15,f15⟩:=hT8 15 (by omega)
   have y1:bits BinOp.xor IntKind.u8 ((shB (cut 16 f) 1 15:Nat):Int) 135=((shB (cut 16 f) 1 15^^^135:Nat):Int):=xor_n8 _ 135 (shB_one_lt f HF.out 15) (by omega)
   have hT9:=(hT8.set (j:=15) (v:=shB (cut 16 f) 1 15^^^135) (by omega) rfl).ext (f':=dbF f) (fun j hj=>by
    unfold dbF
    by_cases h15:j=15
    ·rw [if_pos h15,if_pos h15,hc,h15]
    ·rw [if_neg h15,if_neg h15,Nat.xor_zero])
   have hR9:=hR8.far (p:=⟨gT,15,none⟩) (by simp;omega) (.int .u8 (shB (cut 16 f) 1 15^^^135:Nat))
   have hB9:=hB8.setCell (p:=⟨gT,15,none⟩) (by simp;omega) (.int .u8 (shB (cut 16 f) 1 15^^^135:Nat))
   clear hT8 hR8 hB8 hc hb0 hf0
   go_wp2_with (first
    |(refine wpList_load_ar rfl _ _ rfl _ _ _ rfl hT9 Tryz.arr16x (size16x _) ?_)
    |(refine wpList_store_ar rfl _ _ _ rfl _ _ _ (dbF f) rfl rfl hR9 (size16x _) ?_;intro w10 hA hb _ _))
   refine bodyPost_ret_ar rfl rfl hA Tryz.arr16x (size16x _) rfl ⟨rfl,?_⟩
   exact hB9.trans (hb.mono (by omega))
  ·have h0:f 0/128=0:=by omega
   rw [h0]at d8
   have hT9:=hT8.ext (f':=dbF f) (fun j hj=>by
    unfold dbF
    rw [h0];split<;>simp)
   clear hT8 hc hb0 hf0
   go_wp2_with (first
    |(refine wpList_load_ar rfl _ _ rfl _ _ _ rfl hT9 Tryz.arr16x (size16x _) ?_)
    |(refine wpList_store_ar rfl _ _ _ rfl _ _ _ (dbF f) rfl rfl hR8 (size16x _) ?_;intro w10 hA hb _ _))
   refine bodyPost_ret_ar rfl rfl hA Tryz.arr16x (size16x _) rfl ⟨rfl,?_⟩
   exact hB8.trans (hb.mono (by omega))
 case grow=>
  intro _ v5 w5 hown hgrow
  obtain⟨A5,cA,rfl⟩:=own_shape hown
  have hR4:Ar (w3.alloc (.cells #[.int .i64 0] 3)) (w.heap.size+1) 16 (fun _=>0):=hR3.alloc (by omega) _
  have hb5:Below (w3.alloc (.cells #[.int .i64 0] 3)).heap.size (w3.alloc (.cells #[.int .i64 0] 3)) w5:=(Below.refl _ _).grown hgrow (by simp) (fun g0 hg0=>by cases hg0)
  have hR5:Ar w5 (w.heap.size+1) 16 (fun _=>0):=hR4.to (by omega) hb5
  have hB4:Below w.heap.size w (w3.alloc (.cells #[.int .i64 0] 3)):=hB3.alloc hB3.size _
  have hB5:Below w.heap.size w w5:=hB4.trans (hb5.mono hB4.size)
  have d0:w5.cell? ⟨g,0,none⟩=some (.int .i64 (bitF f 0:Nat)):=by
   rw [hb5.cell (p:=⟨g,0,none⟩) (by simp;omega),World.cell?_alloc_lt w3 _ ⟨g,0,none⟩ hgl];exact d3
  have hx:inL 127 (fun k=>bitF f (k+1))++ [Value.int .i64 0]=inL 128 (fun k=>bitF (cut 16 f) (k+1)):=by
   have ha:inL 127 (fun k=>bitF f (k+1))=inL 127 (fun k=>bitF (cut 16 f) (k+1)):=by
    unfold inL
    apply List.map_congr_left
    intro j hj
    have hj:=List.mem_range.1 hj
    show Value.int .i64 ((bitF f (j+1):Nat):Int)= .int .i64 ((bitF (cut 16 f) (j+1):Nat):Int)
    congr 2
    unfold bitF cut
    rw [if_pos (by omega)]
   rw [ha,inL_snoc 127,hz128];rfl
  rw [hx]at hown
  have hO5:OwI w5 (w3.heap.size+1) (.slice A5 128 cA) 128 (fun k=>bitF (cut 16 f) (k+1)):=hown
  obtain⟨gA,rfl,_,hgA,_⟩:=hO5.cell 0 (by omega)
  obtain⟨oA,hoA⟩:=Lv (0)
  have hcells: ∀k,k<128→w5.cell? ⟨gA,oA+k,none⟩=some (.int .i64 (bitF (cut 16 f) (k+1):Nat)):=fun k hk=>by
   obtain⟨g2,e,_,_,hc⟩:=hO5.cell k hk
   injection e with e
   injection e with e
   subst e
   rw [hoA,Nat.zero_add];exact hc
  have hg5:g<w5.heap.size:=cell_lt8 d0
  rw [show(Value.slice (some ⟨gA,0,none⟩) (127+1) cA)= .slice (some ⟨gA,oA,none⟩) 128 cA by rw [hoA]]
  clear hown hgrow hR4 hb5 hB4 hR3 hB3 hO5 hx hoA HS HC HO hgl d3
  try dsimp only [Act.put]
  go_wp2_with fail
  refine(refofb (fun k=>bitF (cut 16 f) (k+1)) gA oA 128 cA _ (by omega) (fun k _=>bitF_lt _ _) hcells hgA).mono ?_
  rintro e w6 ⟨rfl,hq⟩
  rw [arL_ext (n:=16) (f:=by8 fun k=>bitF (cut 16 f) (k+1)) (g:=shB (cut 16 f) 1) (fun j _=>by8_shift (cut 16 f) (cut_lt HF.out) 1 j)]
  have hR6:=hR5.t hq
  have hB6:=Tq hB5 hq
  have d6:w6.cell? ⟨g,0,none⟩=some (.int .i64 (bitF f 0:Nat)):=(hq.cell (p:=⟨g,0,none⟩) hg5).trans d0
  clear hR5 hB5 hq hcells hgA d0
  obtain⟨gT,hgT⟩:=Le (w6.heap.size)
  have hlT:w.heap.size+1<gT:=by rw [←hgT];exact hR6.lt (by omega)
  have hg6:g<gT:=by rw [←hgT];exact cell_lt8 d6
  obtain⟨w7,hw7⟩:=Lv (w6.alloc (.cells (arL 16 fun _=>0).toArray 22))
  have hR7:=ara hw7 hR6
  have hT7:Ar w7 gT 16 (fun _=>0):=by rw [hw7,←hgT];exact Ar.new w6 16 _ _
  have hB7:=Bm hw7 hB6
  have d7:w7.cell? ⟨g,0,none⟩=some (.int .i64 (bitF f 0:Nat)):=by rw [hw7,World.cell?_alloc_lt w6 _ ⟨g,0,none⟩ (by rw [hgT];exact hg6)];exact d6
  clear hR6 hB6 d6
  go_upto_region 3 with (refine wpList_store_ar rfl _ _ _ rfl _ _ _ (shB (cut 16 f) 1) rfl rfl (by rw [←hw7];exact hT7) (size16x _) ?_;intro w8 hT8 bel siz kee)
  rw [←hw7]at bel siz kee
  have hR8:=kee _ _ _ (by omega) hR7
  have hB8:=hB7.trans (bel.mono (by omega))
  have d8:w8.cell? ⟨g,0,none⟩=some (.int .i64 (bitF f 0:Nat)):=(bel.cell (p:=⟨g,0,none⟩) hg6).trans d7
  clear hT7 hR7 hB7 d7 bel siz kee hw7 hgT
  try dsimp only [Act.put]
  have hb0:bitF f 0=f 0/128:=by have:=HF.out 0 (by omega);unfold bitF;simp;omega
  rw [hb0]at d8
  have hf0:=HF.out 0 (by omega)
  by_cases hc:f 0/128=1
  ·rw [hc]at d8
   obtain⟨c15,f15⟩:=hT8 15 (by omega)
   have y1:bits BinOp.xor IntKind.u8 ((shB (cut 16 f) 1 15:Nat):Int) 135=((shB (cut 16 f) 1 15^^^135:Nat):Int):=xor_n8 _ 135 (shB_one_lt f HF.out 15) (by omega)
   have hT9:=(hT8.set (j:=15) (v:=shB (cut 16 f) 1 15^^^135) (by omega) rfl).ext (f':=dbF f) (fun j hj=>by
    unfold dbF
    by_cases h15:j=15
    ·rw [if_pos h15,if_pos h15,hc,h15]
    ·rw [if_neg h15,if_neg h15,Nat.xor_zero])
   have hR9:=hR8.far (p:=⟨gT,15,none⟩) (by simp;omega) (.int .u8 (shB (cut 16 f) 1 15^^^135:Nat))
   have hB9:=hB8.setCell (p:=⟨gT,15,none⟩) (by simp;omega) (.int .u8 (shB (cut 16 f) 1 15^^^135:Nat))
   clear hT8 hR8 hB8 hc hb0 hf0
   go_wp2_with (first
    |(refine wpList_load_ar rfl _ _ rfl _ _ _ rfl hT9 Tryz.arr16x (size16x _) ?_)
    |(refine wpList_store_ar rfl _ _ _ rfl _ _ _ (dbF f) rfl rfl hR9 (size16x _) ?_;intro w10 hA hb _ _))
   refine bodyPost_ret_ar rfl rfl hA Tryz.arr16x (size16x _) rfl ⟨rfl,?_⟩
   exact hB9.trans (hb.mono (by omega))
  ·have h0:f 0/128=0:=by omega
   rw [h0]at d8
   have hT9:=hT8.ext (f':=dbF f) (fun j hj=>by
    unfold dbF
    rw [h0];split<;>simp)
   clear hT8 hc hb0 hf0
   go_wp2_with (first
    |(refine wpList_load_ar rfl _ _ rfl _ _ _ rfl hT9 Tryz.arr16x (size16x _) ?_)
    |(refine wpList_store_ar rfl _ _ _ rfl _ _ _ (dbF f) rfl rfl hR8 (size16x _) ?_;intro w10 hA hb _ _))
   refine bodyPost_ret_ar rfl rfl hA Tryz.arr16x (size16x _) rfl ⟨rfl,?_⟩
   exact hB8.trans (hb.mono (by omega))
end
section
open Go.RowKit
set_option linter.unusedVariables false
set_option maxRecDepth 100000
theorem xor_part (f k:Nat→Nat) (n m:Nat):(if m=n then f n^^^k n else(if m<n then adF f k m else f m))=if m<n+1 then adF f k m else f m:=by
 by_cases h:m=n
 ·rw [if_pos h,if_pos (by omega),h];rfl
 ·rw [if_neg h]
  by_cases h2:m<n
  ·rw [if_pos h2,if_pos (by omega)]
  ·rw [if_neg h2,if_neg (by omega)]
set_option maxHeartbeats 1600000 in
theorem refxor8 (f k:Nat→Nat) (w:World) (hf:B16 f) (hk:B16 k):
  Calls Tryz.prog 92 #[.agg (arL 16 f).toArray,.agg (arL 16 k).toArray] w fun e w'=>e= .returned (.agg (arL 16 (adF f k)).toArray)∧Below w.heap.size w w':=by
 have hz:=zero16x
 obtain⟨kA,hkA⟩:=Le ((arL 16 f).toArray)
 obtain⟨kB,hkB⟩:=Le ((arL 16 k).toArray)
 obtain⟨w1,hw1⟩:=Lv (w.alloc (.cells (arL 16 f).toArray 22))
 have hs1:=Zs1 hw1
 have hb1:=Bl hw1
 have hK1:Ar w1 w.heap.size 16 f:=by rw [hw1];exact Ar.new w 16 f _
 obtain⟨w2,hw2⟩:=Lv (w1.alloc (.cells (arL 16 k).toArray 22))
 have hs2:=Zs2 hw2 hs1
 have hb2:=Bm hw2 hb1
 have hC2:Ar w2 (w.heap.size+1) 16 k:=by rw [hw2,←hs1];exact Ar.new w1 16 k _
 have hK2:=ara hw2 hK1
 obtain⟨w3,hw3⟩:=Lv (w2.alloc (.cells (arL 16 fun _=>0).toArray 22))
 have hB3:=Bm hw3 hb2
 have hR3:Ar w3 (w.heap.size+2) 16 (fun _=>0):=by rw [hw3,←hs2];exact Ar.new w2 16 _ _
 have hC3:=ara hw3 hC2
 have hK3:=ara hw3 hK2
 have HKA:=Lib.hid hkA
 have HKB:=Lib.hid hkB
 rw [hkA]at hw1
 rw [hkB]at hw2
 rw [hkA,hkB]
 clear hb1 hK1 hkA hkB hb2 hK2 hC2
 have HF:=Lib.hid hf
 have HK:=Lib.hid hk
 clear hf hk
 go_enter Tryz.func92,Tryz.ntmps92
 go_upto_region 1 with fail
 rw [←hw1,←hw2,←hw3]
 clear hw1 hw2 hw3 hs1 hs2
 obtain⟨gC,hgC⟩:=Le (w.heap.size+1)
 obtain⟨gR,hgR⟩:=Le (w.heap.size+2)
 have hgR2:w.heap.size+1+1=gR:=hgR
 have hlC:w.heap.size<gC:=by omega
 have hlR:gC<gR:=by omega
 rw [hgC]at hC3
 rw [hgR]at hR3
 try rw [hgR2]
 try rw [hgR]
 try rw [hgC]
 clear hgC hgR hgR2
 go_wp2_with fail
 go_loopw [5] (fun i wr=> ∃n:Nat,n≤16∧i= .int .i64 n∧Ar wr w.heap.size 16 (fun m=>if m<n then adF f k m else f m)∧Ar wr gC 16 k∧Ar wr gR 16 (fun _=>0)∧Below w.heap.size w wr) (fun i _=>16-(intOf i).toNat)
 case atStart=>exact⟨0,Nat.zero_le _,rfl,hK3.ext (fun _ _=>rfl),hC3,hR3,hB3⟩
 case round=>
  clear hK3 hC3 hR3 hB3
  obtain⟨n,hn,rfl,hK,hC,hR,hB⟩:=hrel
  by_cases hlt:n<16
  ·have i1:(n:Int)<16:=by omega
   obtain⟨c0,f0⟩:=hK n hlt
   dsimp only at c0
   rw [show(if n<n then adF f k n else f n)=f n from if_neg (by omega)]at c0
   obtain⟨c1,_⟩:=hC n hlt
   have hxx:bits BinOp.xor IntKind.u8 ((f n:Nat):Int) ((k n:Nat):Int)=((f n^^^k n:Nat):Int):=xor_n8 _ _ (HF.out n hlt) (HK.out n hlt)
   have hK2:=Lib.hid ((hK.set (j:=n) (v:=f n^^^k n) (by omega) rfl).ext (fun m _=>xor_part f k n m))
   have hC2:=Lib.hid (hC.far (p:=⟨w.heap.size,n,none⟩) (by simp;omega) (.int .u8 (f n^^^k n:Nat)))
   have hR2:=Lib.hid (hR.far (p:=⟨w.heap.size,n,none⟩) (by simp;omega) (.int .u8 (f n^^^k n:Nat)))
   have hB2:=Lib.hid (hB.setCell (p:=⟨w.heap.size,n,none⟩) (by simp) (.int .u8 (f n^^^k n:Nat)))
   clear hK hC hR hB
   generalize f n^^^k n=z at*
   generalize f n=x at*
   generalize k n=y at*
   go_wp2_with fail
   refine wp_region_noPanic ?_
   go_big_region
   refine NoPanic.normal ?_
   go_wp2_with fail
   go_roundw
   case rel=>exact⟨n+1,by omega,by go_num,hK2.out.drew,hC2.out.drew,hR2.out.drew,hB2.out.drew⟩
   case measure=>simp [intOf];omega
  ·obtain rfl:n=16:=by omega
   have hK2:=hK.ext (f':=adF f k) (fun j hj=>by rw [if_pos (by omega)])
   clear hK
   go_wp2_with (first
    |(refine wpList_load_ar rfl _ _ rfl _ _ _ rfl hK2 Tryz.arr16x (size16x _) ?_)
    |(refine wpList_store_ar rfl _ _ _ rfl _ _ _ (adF f k) rfl rfl hR (size16x _) ?_;intro w8 hA8 hb8 _ _))
   refine bodyPost_ret_ar rfl rfl hA8 Tryz.arr16x (size16x _) rfl ⟨rfl,?_⟩
   exact hB.trans (hb8.mono (by omega))
theorem arrayAt16 (g o c:Nat) (w:World):(Instr.arrayAt 22 (.slice (some ⟨g,o,none⟩) 16 c)).run Tryz.prog w= .ok (.pointer (some ⟨g,o,none⟩)) w:=by
 simp [Instr.arrayAt,run_underlying Tryz.arr16x]
set_option maxHeartbeats 1600000 in
theorem refpart (g o n c i:Nat) (f:Nat→Nat) (w:World) (hi:16*i+16≤n) (hnc:n≤c) (hc:c≤140737488355328) (hcell: ∀j,j<16→w.cell? ⟨g,o+16*i+j,none⟩=some (.int .u8 (f j:Nat))) (hg:g<w.heap.size):
  Calls Tryz.prog 91 #[.slice (some ⟨g,o,none⟩) n c,.int .i64 (i:Int)] w fun e w'=>e= .returned (.agg (arL 16 f).toArray)∧Below w.heap.size w w':=by
 have hz:=zero16x
 obtain⟨w2,hw2⟩:=Lv (w.alloc (.cells (arL 16 fun _=>0).toArray 22))
 have hb2:=Bl hw2
 have hR2:Ar w2 w.heap.size 16 (fun _=>0):=by rw [hw2];exact Ar.new w 16 _ _
 obtain⟨s,hs⟩:=Le (16*i)
 have hr:w2.rangeAt g (o+s) (arL 16 f):=fun j v hv=>by
  obtain⟨hj,rfl⟩:=arL_get_some hv
  rw [hw2,World.cell?_alloc_lt w _ ⟨g,o+s+j,none⟩ hg,←hs]
  exact hcell j hj
 have e1:wrap64 (16*(i:Int))=(s:Int):=by rw [IntWalk.wrap64_in _ (by omega)];omega
 have e2:IntKind.i64.wrap (16*(i:Int))=(s:Int):=by rw [wraps_i64' _ (by omega) (by omega)];omega
 have e3:16*(i:Int)=(s:Int):=by omega
 have e4:(s:Int)+16≤(c:Int):=by omega
 clear hs hcell
 go_enter Tryz.func91,Tryz.ntmps91
 go_upto_region 1 with fail
 rw [←hw2]
 clear hw2
 have hat:=arrayAt16
 have e5:s+16-s=16:=by omega
 go_wp2_with (first
  |(refine wpList_load_mid rfl _ _ rfl g (o+s) rfl (arL 16 f) _ hr Tryz.arr16x rfl (size16x _) ?_)
  |(refine wpList_store_ar rfl _ _ _ rfl _ _ _ f rfl rfl hR2 (size16x _) ?_;intro w8 hA8 hb8 _ _))
 refine bodyPost_ret_ar rfl rfl hA8 Tryz.arr16x (size16x _) rfl ⟨rfl,?_⟩
 exact hb2.trans (hb8.mono (by omega))
end
section
open Go.RowKit
set_option linter.unusedVariables false
set_option maxRecDepth 100000
def padL (l:List UInt8) (n:Nat):List UInt8:=l++128::List.replicate (n-(l.length+1)) 0
theorem padL_len (l:List UInt8) (n:Nat) (h:l.length+1≤n):(padL l n).length=n:=by simp [padL];omega
theorem padL_snoc (l:List UInt8) (n:Nat) (h:l.length+1≤n):padL l (n+1)=padL l n++ [0]:=by
 unfold padL
 rw [show n+1-(l.length+1)=n-(l.length+1)+1 by omega,List.replicate_succ']
 simp
theorem padL_first (l:List UInt8):padL l (l.length+1)=l++ [128]:=by simp [padL]
def slLen:Value→Nat
 | .slice _ m _=>m
 |_=>0
def lF (l:List UInt8) (j:Nat):Nat:=(l.getD j 0).toNat
theorem info8x:(Tryz.prog.info? 5).map (fun i=>(i.zero,i.size,i.bytes))=some (some (.int .u8 0),1,1):=by kernel_rfl
def Ow8 (w:World) (B:Nat) (v:Value) (n:Nat) (l:List UInt8):Prop:=w.ownsRow B 5 1 v n (l.map b8)
theorem map_b8_snoc (l:List UInt8) (x:UInt8):(l++ [x]).map b8=l.map b8++ [b8 x]:=by simp
set_option maxHeartbeats 1600000 in
theorem refpad (A:Option Addr) (n c:Nat) (l:List UInt8) (w:World) (h:Sl w w.heap.size A n l) (hn:n<16):
  Calls Tryz.prog 95 #[.slice A n c] w fun e w'=>e= .returned (.agg (arL 16 (lF (padL l 16))).toArray)∧Below w.heap.size w w':=by
 obtain⟨i0,hi0,hz0,hz1,hz2⟩:=info_parts info8x
 have hzs:(Value.int .u8 0).cells.size=1:=rfl
 have hz:=zero16x
 have hlen:=h.len
 obtain⟨w2,hw2⟩:=Lv (w.alloc (.cells (arL 16 fun _=>0).toArray 22))
 have hb2:=Bl hw2
 have hR2:Ar w2 w.heap.size 16 (fun _=>0):=by rw [hw2];exact Ar.new w 16 _ _
 have hS2:Sl w2 w.heap.size A n l:=by rw [hw2];exact h.alloc (Nat.le_refl _) _
 have hs2:=Zs1 hw2
 go_enter Tryz.func95,Tryz.ntmps95
 go_upto_region 1 with fail
 rw [←hw2]
 clear hw2 h
 obtain⟨B,hB⟩:=Le (w.heap.size+1)
 rw [hB]at hs2
 have hS3:=(hS2.more (B':=B) (by omega)).alloc (by omega) (.cells #[] 5)
 have hO3:=World.ownsRow_lit (base:=B) (e:=5) (size:=1) w2 #[] 0 (by omega) (by simp [maxLen]) rfl
 rw [hs2]at hO3
 go_wp2_with (first
  |(at_builtin;refine wpList_append_sl _ rfl (.tmp 4) (.tmp 5) _ rfl B 5 i0 _ Tryz.underlying25 hi0 hz0 hz1 hz2 hzs _ 0 _ rfl hO3 B A n c l rfl hS3 (by omega) (by simp;omega) ?_;intro v1 w4 hown1 hg1 hat1)
  |(at_builtin;refine wpList_append_own _ rfl (.tmp 6) (.tmp 7) 25 rfl B 5 i0 (.int .u8 0) 1 1 Tryz.underlying25 hi0 hz0 hz1 hz2 rfl (by decide) _ _ _ rfl (hown1.alloc _) ⟨w4.heap.size,0,none⟩ 1 1 [.int .u8 128] rfl rfl ?c1 ?c2 ?c3 ?c4 ?c5 ?_))
 all_goals
  have k4:Below B w2 w4:=((Below.refl B w2).alloc (by omega) _).grown hg1 (by simp;omega) (fun g hg=>by
   have e:some B=some g:=hg
   injection e with e;omega)
  have z4:=k4.size
 case c2=>rfl
 case c3=>unfold maxLen;omega
 case c4=>omega
 case c5=>omega
 intro v2 w5 hown2 hgrow2 _
 have k5:Below B w4 w5:=((Below.refl B w4).alloc (by omega) _).grown hgrow2 (by simp;omega) (fun g hg=>own_block hown1 hg)
 have hO5:Ow8 w5 B v2 (n+1) (padL l (n+1)):=by
  have e:(List.map b8 l++ [Value.int .u8 128])=(padL l (n+1)).map b8:=by rw [←hlen,padL_first,map_b8_snoc];rfl
  unfold Ow8
  rw [←e]
  simpa using hown2
 have hR5:Ar w5 w.heap.size 16 (fun _=>0):=(hR2.keep (by omega) k4).keep (by omega) k5
 have hB5:Below w.heap.size w w5:=(hb2.trans (k4.mono (by omega))).trans (k5.mono (by omega))
 obtain⟨A5,c5,rfl⟩:=own_shape hO5
 have hsz5:=hB5.size
 have hB16:=Lib.hid hlen
 clear hown1 hg1 hat1 hown2 hgrow2 k4 k5 hS3 hO3 hS2 hR2 hb2 z4 hlen
 go_wp2_with fail
 go_loopw [3] (fun v wr=> ∃(m:Nat) (A2:Option Addr) (c2:Nat),n+1≤m∧m≤16∧v= .slice A2 m c2∧Ow8 wr B (.slice A2 m c2) m (padL l m)∧Ar wr w.heap.size 16 (fun _=>0)∧Below w.heap.size w wr) (fun v _=>16-slLen v)
 case atStart=>exact⟨n+1,A5,c5,by omega,by omega,rfl,hO5,hR5,hB5⟩
 case round=>
  clear hO5 hR5 hB5 hsz5
  obtain⟨m,A2,c2,hm1,hm2,rfl,hO,hR,hB⟩:=hrel
  have hsz:=hB.size
  have hRl:=hR.lt (by omega)
  by_cases hlt:m<16
  ·have i1:(m:Int)<16:=by omega
   go_wp2_with (at_builtin;refine wpList_append_own _ rfl _ _ 25 rfl B 5 i0 (.int .u8 0) 1 1 Tryz.underlying25 hi0 hz0 hz1 hz2 rfl (by decide) _ _ _ rfl (hO.alloc _) ⟨wr.heap.size,0,none⟩ 1 1 [.int .u8 0] rfl rfl ?d1 ?d2 ?d3 ?d4 ?d5 ?_)
   case d1=>
    intro j u hj
    match j,hj with
    |0,hj=>simp at hj;subst hj;simp [Addr.add]
   case d2=>intro u hu;simp at hu;subst hu;rfl
   case d3=>unfold maxLen;omega
   case d4=>omega
   case d5=>simp;omega
   intro v6 w6 hown6 hgrow6 _
   have k6:Below B wr w6:=((Below.refl B wr).alloc (by omega) _).grown hgrow6 (by simp;omega) (fun g hg=>own_block hO hg)
   have hO6:Ow8 w6 B v6 (m+1) (padL l (m+1)):=by
    unfold Ow8
    rw [padL_snoc l m (by have:=hB16.out;omega),map_b8_snoc]
    exact hown6
   have hR6:Ar w6 w.heap.size 16 (fun _=>0):=hR.keep (by omega) k6
   have hB6:Below w.heap.size w w6:=hB.trans (k6.mono (by omega))
   obtain⟨A6,c6,rfl⟩:=own_shape hO6
   clear hO hR hB hown6 hgrow6 k6
   go_wp2_with fail
   go_roundw
   case rel=>exact⟨m+1,A6,c6,by omega,by omega,rfl,hO6,hR6,hB6⟩
   case measure=>simp [slLen];omega
  ·obtain rfl:m=16:=by omega
   have hsl:=Sl.of_own hO
   obtain⟨g,o,hA2,_,_⟩:=hsl.2 (by omega)
   subst hA2
   have hr:wr.rangeAt g o (arL 16 (lF (padL l 16))):=fun j v hv=>by
    obtain⟨hj,rfl⟩:=arL_get_some hv
    have hpl:=padL_len l 16 (by have:=hB16.out;omega)
    have h1:=hsl.2 (by omega)
    obtain⟨b,off,e,_,hc⟩:=h1
    injection e with e
    injection e with e1 e2
    subst e1 e2
    rw [hc j (padL l 16)[j] (List.getElem?_eq_getElem (by omega))]
    simp [b8,n8,lF,List.getD,List.getElem?_eq_getElem (show j<(padL l 16).length by omega)]
   have hat:=arrayAt16
   go_wp2_with (first
    |(refine wpList_load_mid rfl _ _ rfl g o rfl (arL 16 (lF (padL l 16))) _ hr Tryz.arr16x rfl (size16x _) ?_)
    |(refine wpList_store_ar rfl _ _ _ rfl _ _ _ (lF (padL l 16)) rfl rfl hR (size16x _) ?_;intro w8 hA8 hb8 _ _))
   refine bodyPost_ret_ar rfl rfl hA8 Tryz.arr16x (size16x _) rfl ⟨rfl,?_⟩
   exact hB.trans (hb8.mono (by omega))
end
section
open Go.RowKit
set_option linter.unusedVariables false
set_option maxRecDepth 100000
theorem or_top: ∀a,a<128→ ∀b,b<2→a*2|||b=a*2+b:=by decide+kernel
theorem or_low: ∀a,a<128→ ∀b,b<2→a|||b*128=a+b*128:=by decide+kernel
theorem db_low (f:Nat→Nat) (n:Nat) (hn:n<15) (hf:B16 f):f n*2%256|||f (n+1)/128=dbF f n:=by
 have h0:=hf n (by omega)
 have h1:=hf (n+1) (by omega)
 have:=or_top (f n%128) (by omega) (f (n+1)/128) (by omega)
 rw [show f n%128*2=f n*2%256 by omega]at this
 unfold dbF
 rw [shB_one,if_neg (by omega),Nat.xor_zero,show cut 16 f n=f n from if_pos (by omega),show cut 16 f (n+1)=f (n+1)from if_pos (by omega),this]
theorem db_last (f:Nat→Nat):f 15*2%256^^^f 0/128*135=dbF f 15:=by
 unfold dbF
 rw [shB_one,if_pos rfl,show cut 16 f 15=f 15 from if_pos (by omega),show cut 16 f (15+1)=0 from if_neg (by omega)]
 simp
theorem part_step (F G:Nat→Nat) (n m:Nat):(if m=n then F n else(if m<n then F m else G m))=if m<n+1 then F m else G m:=by
 by_cases h:m=n
 ·rw [if_pos h,if_pos (by omega),h]
 ·rw [if_neg h]
  by_cases h2:m<n
  ·rw [if_pos h2,if_pos (by omega)]
  ·rw [if_neg h2,if_neg (by omega)]
set_option maxHeartbeats 1600000 in
theorem bdouble (f:Nat→Nat) (w:World) (hf:B16 f):
  Calls Tryz.prog 22 #[.agg (arL 16 f).toArray] w fun e w'=>e= .returned (.agg (arL 16 (dbF f)).toArray)∧Below w.heap.size w w':=by
 have hz:=zero16x
 obtain⟨kA,hkA⟩:=Le ((arL 16 f).toArray)
 obtain⟨w1,hw1⟩:=Lv (w.alloc (.cells (arL 16 f).toArray 22))
 have hs1:=Zs1 hw1
 have hb1:=Bl hw1
 have hK1:Ar w1 w.heap.size 16 f:=by rw [hw1];exact Ar.new w 16 f _
 obtain⟨w2,hw2⟩:=Lv (w1.alloc (.cells (arL 16 fun _=>0).toArray 22))
 have hB2:=Bm hw2 hb1
 have hR2:Ar w2 (w.heap.size+1) 16 (fun _=>0):=by rw [hw2,←hs1];exact Ar.new w1 16 _ _
 have hK2:=ara hw2 hK1
 rw [hkA]at hw1
 rw [hkA]
 clear hb1 hK1 hkA
 have HF:=Lib.hid hf
 have h00:=hf 0 (by omega)
 clear hf
 go_enter Tryz.func22,Tryz.ntmps22
 go_upto_region 1 with fail
 rw [←hw1,←hw2]
 clear hw1 hw2 hs1
 obtain⟨gR,hgR⟩:=Le (w.heap.size+1)
 have hlR:w.heap.size<gR:=by omega
 rw [hgR]at hR2
 try rw [hgR]
 clear hgR
 obtain⟨c00,_⟩:=hK2 0 (by omega)
 obtain⟨o,ho⟩:=Lv (f 0/128)
 have ho2:o<2:=by omega
 have e0:((f 0:Nat):Int)/128=(o:Int):=by omega
 have HO:=Lib.hid ho
 clear ho
 go_upto_region 3 with fail
 clear c00 e0 h00
 go_wp2_with fail
 go_loopw [8] (fun i wr=> ∃n:Nat,n≤15∧i= .int .i64 n∧Ar wr w.heap.size 16 (fun m=>if m<n then dbF f m else f m)∧Ar wr gR 16 (fun _=>0)∧Below w.heap.size w wr) (fun i _=>15-(intOf i).toNat)
 case atStart=>exact⟨0,Nat.zero_le _,rfl,hK2.ext (fun _ _=>rfl),hR2,hB2⟩
 case round=>
  clear hK2 hR2 hB2
  obtain⟨n,hn,rfl,hK,hR,hB⟩:=hrel
  by_cases hlt:n<15
  ·have i1:(n:Int)<15:=by omega
   have i2:(n:Int)+1<16:=by omega
   obtain⟨c0,f0⟩:=hK n (by omega)
   obtain⟨c1,_⟩:=hK (n+1) (by omega)
   dsimp only at c0 c1
   rw [show(if n<n then dbF f n else f n)=f n from if_neg (by omega)]at c0
   rw [show(if n+1<n then dbF f (n+1)else f (n+1))=f (n+1)from if_neg (by omega)]at c1
   have x0:=HF.out n (by omega)
   have x1:=HF.out (n+1) (by omega)
   obtain⟨p,hp⟩:=Lv (f n*2%256)
   obtain⟨q,hq⟩:=Lv (f (n+1)/128)
   have hor:bits BinOp.or IntKind.u8 (p:Int) (q:Int)=((dbF f n:Nat):Int):=by rw [or_u8 p q (by omega) (by omega),hp,hq,db_low f n hlt HF.out]
   have a1:IntKind.u8.wrap (((f n:Nat):Int)*2)=(p:Int):=by rw [IntKind.wrap_u8];omega
   have a2:((f n:Nat):Int)*2%256=(p:Int):=by omega
   have a3:((f (n+1):Nat):Int)/128=(q:Int):=by omega
   have hK2:=Lib.hid ((hK.set (j:=n) (v:=dbF f n) (by omega) rfl).ext (fun m _=>part_step (dbF f) f n m))
   have hR2:=Lib.hid (hR.far (p:=⟨w.heap.size,n,none⟩) (by simp;omega) (.int .u8 (dbF f n:Nat)))
   have hB2:=Lib.hid (hB.setCell (p:=⟨w.heap.size,n,none⟩) (by simp) (.int .u8 (dbF f n:Nat)))
   clear hK hR hB hp hq
   generalize dbF f n=z at*
   generalize f (n+1)=y at*
   generalize f n=x at*
   go_wp2_with fail
   refine wp_region_noPanic ?_
   go_big_region
   refine NoPanic.normal ?_
   clear a1 a2 a3 hor c0 c1 f0
   go_wp2_with fail
   go_roundw
   case rel=>exact⟨n+1,by omega,by go_num,hK2.out.drew,hR2.out.drew,hB2.out.drew⟩
   case measure=>simp [intOf];omega
  ·obtain rfl:n=15:=by omega
   obtain⟨c0,f0⟩:=hK 15 (by omega)
   dsimp only at c0
   rw [show(if 15<15 then dbF f 15 else f 15)=f 15 from if_neg (by omega)]at c0
   have x0:=HF.out 15 (by omega)
   obtain⟨p,hp⟩:=Lv (f 15*2%256)
   obtain⟨r,hr⟩:=Lv (o*135)
   have hxo:bits BinOp.xor IntKind.u8 (p:Int) (r:Int)=((dbF f 15:Nat):Int):=by rw [xor_n8 p r (by omega) (by omega),hp,hr,HO.out,db_last f]
   have a1:IntKind.u8.wrap (((f 15:Nat):Int)*2)=(p:Int):=by rw [IntKind.wrap_u8];omega
   have a2:((f 15:Nat):Int)*2%256=(p:Int):=by omega
   have a3:(o:Int)*135=(r:Int):=by omega
   have a4:IntKind.u8.wrap ((o:Int)*135)=(r:Int):=by rw [IntKind.wrap_u8];omega
   have hK2:=((hK.set (j:=15) (v:=dbF f 15) (by omega) rfl).ext (f':=dbF f) (fun m hm=>by
    by_cases h:m=15
    ·rw [if_pos h,h]
    ·rw [if_neg h,if_pos (by omega)]))
   have hR2:=hR.far (p:=⟨w.heap.size,15,none⟩) (by simp;omega) (.int .u8 (dbF f 15:Nat))
   have hB2:=hB.setCell (p:=⟨w.heap.size,15,none⟩) (by simp) (.int .u8 (dbF f 15:Nat))
   clear hK hR hB hp hr
   obtain⟨z,hz15⟩:=Le (dbF f 15)
   rw [hz15]at hK2 hR2 hB2 hxo
   clear hz15
   generalize f 15=x at*
   go_upto_region 8 with fail
   clear a1 a2 a3 a4 hxo
   go_wp2_with (first
    |(refine wpList_load_ar rfl _ _ rfl _ _ _ rfl hK2 Tryz.arr16x (size16x _) ?_)
    |(refine wpList_store_ar rfl _ _ _ rfl _ _ _ (dbF f) rfl rfl hR2 (size16x _) ?_;intro w8 hA8 hb8 _ _))
   refine bodyPost_ret_ar rfl rfl hA8 Tryz.arr16x (size16x _) rfl ⟨rfl,?_⟩
   exact hB2.trans (hb8.mono (by omega))
end
section
open Go.RowKit
set_option linter.unusedVariables false
set_option maxRecDepth 100000
set_option maxHeartbeats 1600000 in
theorem bxor (f k:Nat→Nat) (w:World) (hf:B16 f) (hk:B16 k):
  Calls Tryz.prog 77 #[.agg (arL 16 f).toArray,.agg (arL 16 k).toArray] w fun e w'=>e= .returned (.agg (arL 16 (adF f k)).toArray)∧Below w.heap.size w w':=by
 have hz:=zero16x
 obtain⟨kA,hkA⟩:=Le ((arL 16 f).toArray)
 obtain⟨kB,hkB⟩:=Le ((arL 16 k).toArray)
 obtain⟨w1,hw1⟩:=Lv (w.alloc (.cells (arL 16 f).toArray 22))
 have hs1:=Zs1 hw1
 have hb1:=Bl hw1
 have hK1:Ar w1 w.heap.size 16 f:=by rw [hw1];exact Ar.new w 16 f _
 obtain⟨w2,hw2⟩:=Lv (w1.alloc (.cells (arL 16 k).toArray 22))
 have hs2:=Zs2 hw2 hs1
 have hb2:=Bm hw2 hb1
 have hC2:Ar w2 (w.heap.size+1) 16 k:=by rw [hw2,←hs1];exact Ar.new w1 16 k _
 have hK2:=ara hw2 hK1
 obtain⟨w3,hw3⟩:=Lv (w2.alloc (.cells (arL 16 fun _=>0).toArray 22))
 have hB3:=Bm hw3 hb2
 have hR3:Ar w3 (w.heap.size+2) 16 (fun _=>0):=by rw [hw3,←hs2];exact Ar.new w2 16 _ _
 have hC3:=ara hw3 hC2
 have hK3:=ara hw3 hK2
 have HKA:=Lib.hid hkA
 have HKB:=Lib.hid hkB
 rw [hkA]at hw1
 rw [hkB]at hw2
 rw [hkA,hkB]
 clear hb1 hK1 hkA hkB hb2 hK2 hC2
 have HF:=Lib.hid hf
 have HK:=Lib.hid hk
 clear hf hk
 go_enter Tryz.func77,Tryz.ntmps77
 go_upto_region 1 with fail
 rw [←hw1,←hw2,←hw3]
 clear hw1 hw2 hw3 hs1 hs2
 obtain⟨gC,hgC⟩:=Le (w.heap.size+1)
 obtain⟨gR,hgR⟩:=Le (w.heap.size+2)
 have hgR2:w.heap.size+1+1=gR:=hgR
 have hlC:w.heap.size<gC:=by omega
 have hlR:gC<gR:=by omega
 rw [hgC]at hC3
 rw [hgR]at hR3
 try rw [hgR2]
 try rw [hgR]
 try rw [hgC]
 clear hgC hgR hgR2
 go_wp2_with fail
 go_loopw [6] (fun i wr=> ∃n:Nat,n≤16∧i= .int .i64 n∧Ar wr w.heap.size 16 (fun m=>if m<n then adF f k m else f m)∧Ar wr gC 16 k∧Ar wr gR 16 (fun _=>0)∧Below w.heap.size w wr) (fun i _=>16-(intOf i).toNat)
 case atStart=>exact⟨0,Nat.zero_le _,rfl,hK3.ext (fun _ _=>rfl),hC3,hR3,hB3⟩
 case round=>
  clear hK3 hC3 hR3 hB3
  obtain⟨n,hn,rfl,hK,hC,hR,hB⟩:=hrel
  by_cases hlt:n<16
  ·have i1:(n:Int)<16:=by omega
   obtain⟨c0,f0⟩:=hK n hlt
   dsimp only at c0
   rw [show(if n<n then adF f k n else f n)=f n from if_neg (by omega)]at c0
   obtain⟨c1,_⟩:=hC n hlt
   have hxx:bits BinOp.xor IntKind.u8 ((f n:Nat):Int) ((k n:Nat):Int)=((f n^^^k n:Nat):Int):=xor_n8 _ _ (HF.out n hlt) (HK.out n hlt)
   have hK2:=Lib.hid ((hK.set (j:=n) (v:=f n^^^k n) (by omega) rfl).ext (fun m _=>xor_part f k n m))
   have hC2:=Lib.hid (hC.far (p:=⟨w.heap.size,n,none⟩) (by simp;omega) (.int .u8 (f n^^^k n:Nat)))
   have hR2:=Lib.hid (hR.far (p:=⟨w.heap.size,n,none⟩) (by simp;omega) (.int .u8 (f n^^^k n:Nat)))
   have hB2:=Lib.hid (hB.setCell (p:=⟨w.heap.size,n,none⟩) (by simp) (.int .u8 (f n^^^k n:Nat)))
   clear hK hC hR hB
   generalize f n^^^k n=z at*
   generalize f n=x at*
   generalize k n=y at*
   go_wp2_with fail
   refine wp_region_noPanic ?_
   go_big_region
   refine NoPanic.normal ?_
   go_wp2_with fail
   go_roundw
   case rel=>exact⟨n+1,by omega,by go_num,hK2.out.drew,hC2.out.drew,hR2.out.drew,hB2.out.drew⟩
   case measure=>simp [intOf];omega
  ·obtain rfl:n=16:=by omega
   have hK2:=hK.ext (f':=adF f k) (fun j hj=>by rw [if_pos (by omega)])
   clear hK
   go_wp2_with (first
    |(refine wpList_load_ar rfl _ _ rfl _ _ _ rfl hK2 Tryz.arr16x (size16x _) ?_)
    |(refine wpList_store_ar rfl _ _ _ rfl _ _ _ (adF f k) rfl rfl hR (size16x _) ?_;intro w8 hA8 hb8 _ _))
   refine bodyPost_ret_ar rfl rfl hA8 Tryz.arr16x (size16x _) rfl ⟨rfl,?_⟩
   exact hB.trans (hb8.mono (by omega))
end
section
open Go.RowKit
set_option linter.unusedVariables false
set_option maxRecDepth 100000
theorem hv_or (f:Nat→Nat) (n q:Nat) (hq:n=q+1) (hn:n<16) (hf:B16 f):hvG f n/2|||hvG f q*128%256=hvF f n:=by
 have h0:=hvG_lt hf n hn
 have h1:=hvG_lt hf q (by omega)
 have:=or_low (hvG f n/2) (by omega) (hvG f q%2) (by omega)
 unfold hvF
 rw [if_neg (by omega),show n-1=q by omega,show hvG f q*128%256=hvG f q%2*128 by omega,this]
theorem hv_zero (f:Nat→Nat) (hf:B16 f):hvG f 0/2|||f 15%2*128=hvF f 0:=by
 have h0:=hvG_lt hf 0 (by omega)
 unfold hvF
 rw [if_pos rfl,or_low (hvG f 0/2) (by omega) (f 15%2) (by omega)]
theorem hvG_low (f:Nat→Nat) (j:Nat) (hj:j≠15):hvG f j=f j:=by unfold hvG;rw [if_neg hj,Nat.xor_zero]
theorem hvG_top (f:Nat→Nat):hvG f 15=f 15^^^f 15%2*135:=by unfold hvG;rw [if_pos rfl]
def hvP (f:Nat→Nat) (n m:Nat):Nat:=if n<m then hvF f m else hvG f m
theorem hvP_step (f:Nat→Nat) (n q m:Nat) (hq:n=q+1):(if m=n then hvF f n else hvP f n m)=hvP f q m:=by
 unfold hvP
 by_cases h:m=n
 ·rw [if_pos h,if_pos (by omega),h]
 ·rw [if_neg h]
  by_cases h2:n<m
  ·rw [if_pos h2,if_pos (by omega)]
  ·rw [if_neg h2,if_neg (by omega)]
theorem and1_u8 (a:Nat) (ha:a<256):bits .and .u8 (a:Int) 1=((a%2:Nat):Int):=by
 have h:=(bits_nat .u8 8 (by decide) wraps_u8 a 1 ha (by decide)).1
 rw [Nat.and_one_is_mod]at h
 exact h
end
section
open Go.RowKit
set_option linter.unusedVariables false
set_option maxRecDepth 100000
theorem splice_ar (n m:Nat) (F G:Nat→Nat) (o:Nat) (h:o+m≤n):splice (arL n F) o (arL m G)=arL n (fun i=>if o≤i∧i<o+m then G (i-o)else F i):=by
 apply List.ext_getElem?
 intro j
 unfold splice
 have l1:((arL n F).take o).length=o:=by rw [List.length_take,arL_len];omega
 rcases Nat.lt_or_ge j n with h1|h1
 ·rw [arL_get n _ j h1]
  rcases Nat.lt_or_ge j o with h2|h2
  ·rw [List.getElem?_append_left (by omega),List.getElem?_take,if_pos h2,arL_get n F j h1,if_neg (by omega)]
  ·rw [List.getElem?_append_right (by omega),l1]
   rcases Nat.lt_or_ge (j-o) m with h3|h3
   ·rw [List.getElem?_append_left (by rw [arL_len];exact h3),arL_get m G _ h3,if_pos (by omega)]
   ·rw [List.getElem?_append_right (by rw [arL_len];exact h3),arL_len,List.getElem?_drop,show o+m+(j-o-m)=j by omega,arL_get n F j h1,if_neg (by omega)]
 ·rw [List.getElem?_eq_none (l:=arL n _) (by rw [arL_len];exact h1),List.getElem?_eq_none (by rw [List.length_append,l1,List.length_append,arL_len,List.length_drop,arL_len];omega)]
def Wb (w:World) (g n:Nat) (F:Nat→Nat) (t:TypeId):Prop:=w.heap[g]?=some (.cells (arL n F).toArray t (0,0))
theorem Wb.new (w:World) (n:Nat) (F:Nat→Nat) (t:TypeId):Wb (w.alloc (.cells (arL n F).toArray t)) w.heap.size n F t:=by
 show(w.heap.push _)[w.heap.size]?=_
 rw [Array.getElem?_push_size]
section
variable {w w':World} {g n:Nat} {F:Nat→Nat} {t:TypeId}
theorem Wb.lt (h:Wb w g n F t):g<w.heap.size:=by
 rcases Nat.lt_or_ge g w.heap.size with h1|h1
 ·exact h1
 ·unfold Wb at h;rw [Array.getElem?_eq_none h1]at h;cases h
theorem Wb.to (h:Wb w g n F t) (hb:Below w.heap.size w w'):Wb w' g n F t:=(hb.block g h.lt).trans h
theorem Wb.keep {B:Nat} (h:Wb w g n F t) (hg:g<B) (hb:Below B w w'):Wb w' g n F t:=(hb.block g hg).trans h
theorem Wb.alloc (h:Wb w g n F t) (o:Obj):Wb (w.alloc o) g n F t:=h.to ((Below.refl _ _).alloc (Nat.le_refl _) o)
theorem Wb.ar (h:Wb w g n F t):Ar w g n F:=fun j hj=>by
 unfold Wb at h
 refine⟨?_,?_⟩
 ·simp only [World.cell?,h]
  simp
  exact arL_get n F j hj
 ·simp only [World.frozen?,h]
  simp
theorem Wb.ext {F':Nat→Nat} (h:Wb w g n F t) (he: ∀j,j<n→F j=F' j):Wb w g n F' t:=by
 unfold Wb;rw [←arL_ext he];exact h
theorem Ar.src (h:Ar w g n F): ∀j v,(arL n F)[j]?=some v→w.cell? ((⟨g,0,none⟩:Addr).add j)=some v:=fun j v hv=>by
 rw [Addr.add_mid];exact h.range j v hv
end
theorem lF_lt (l:List UInt8) (j:Nat):lF l j<256:=UInt8.toNat_lt _
theorem map_lF (l:List UInt8) (n:Nat) (h:l.length=n):l.map b8=arL n (lF l):=by
 apply List.ext_getElem?
 intro j
 rcases Nat.lt_or_ge j n with h1|h1
 ·rw [arL_get n _ j h1,List.getElem?_map,List.getElem?_eq_getElem (by omega)]
  simp [b8,n8,lF,List.getD,List.getElem?_eq_getElem (show j<l.length by omega)]
 ·rw [List.getElem?_eq_none (by simp;omega),List.getElem?_eq_none (by rw [arL_len];exact h1)]
theorem Sl.of_ar {w:World} {g n:Nat} {l:List UInt8} (h:Ar w g n (lF l)) (hl:l.length=n) (hg:g<w.heap.size):Sl w w.heap.size (some ⟨g,0,none⟩) n l:=
 ⟨hl,fun hn=>⟨g,0,rfl,hg,fun j u hj=>by
  have hjl:j<l.length:=(List.getElem?_eq_some_iff.1 hj).1
  rw [Nat.zero_add,(h j (by omega)).1]
  have e:l[j]=u:=by rw [List.getElem?_eq_getElem hjl]at hj;exact Option.some.inj hj
  simp [b8,lF,List.getD,List.getElem?_eq_getElem hjl,e]⟩⟩
theorem Sl.src {w:World} {B n:Nat} {A:Option Addr} {l:List UInt8} (h:Sl w B A n l) (hn:0<n): ∃ad,A=some ad∧ ∀j v,(l.map b8)[j]?=some v→w.cell? (ad.add j)=some v:=by
 obtain⟨b,off,e,hb,hc⟩:=h.2 hn
 refine⟨⟨b,off,none⟩,e,fun j v hv=> ?_⟩
 rw [List.getElem?_map]at hv
 obtain⟨u,hu,rfl⟩:=Option.map_eq_some_iff.1 hv
 rw [Addr.add_mid];exact hc j u hu
theorem Tryz.sl8:Tryz.prog.underlying 25=some (.slice 5):=by kernel_rfl
theorem Tryz.sz8:(Tryz.prog.info? 5).map (·.size)=some 1:=by kernel_rfl
theorem slice16h (g n:Nat) (hn:n≤16) (w:World):(Instr.sliceAt 22 (.pointer (some ⟨g,0,none⟩)) none (some (.int .i64 (n:Int))) none).run Tryz.prog w= .ok (.slice (some ⟨g,0,none⟩) n 16) w:=by
 have hal:Tryz.prog.arrayLen 22=16:=by simp [Program.arrayLen]
 have hel:Tryz.prog.elem 22=5:=by simp [Program.elem]
 have hs:(sizeOf 5).run Tryz.prog w= .ok 1 w:=by kernel_rfl
 rw [run_sliceAt_array_h w 22 ⟨g,0,none⟩ (by rw [hal,hel];exact Tryz.arr16x) .i64 (n:Int) (by omega) (by rw [hal];omega),hal,hel,hs]
 simp [Result.andThen_ok,slicedAt,Addr.add]
theorem make8 (n:Nat) (hn:n≤1000000) (V:World):(Instr.makeSlice 25 (.int .i64 (n:Int)) (.int .i64 (n:Int))).run Tryz.prog V= .ok (.slice (some ⟨V.heap.size,0,none⟩) n n) (V.alloc (.cells (arL n fun _=>0).toArray 5)):=by
 have hi:=info8x
 cases hq:Tryz.prog.info? 5 with
 |none=>rw [hq]at hi;cases hi
 |some i=>
  rw [hq]at hi
  simp only [Option.map_some,Option.some.injEq,Prod.mk.injEq]at hi
  obtain⟨h1,h2,h3⟩:=hi
  have h:=run_make (P:=Tryz.prog) V 25 5 i _ Tryz.underlying25 hq h1 .i64 .i64 n n (by omega) (by omega) (by rw [h3];omega) (by omega)
  have hm:madeCells (Value.int .u8 0).cells n=(arL n fun _=>0).toArray:=by
   rw [arL_zero]
   unfold madeCells
   apply Array.ext_getElem?
   intro j
   rcases Nat.lt_or_ge j n with hj|hj
   ·simp [hj,Value.cells,Nat.mod_one]
   ·simp [hj]
  rw [h,h2,Int.toNat_natCast,Nat.mul_one,hm]
set_option maxHeartbeats 800000 in
theorem bclone (A:Option Addr) (n c:Nat) (l:List UInt8) (w:World) (h:Sl w w.heap.size A n l) (hn:n≤1000000):
  Calls Tryz.prog 111 #[.slice A n c] w fun e w'=>e= .returned (.slice (some ⟨w.heap.size,0,none⟩) n n)∧Ar w' w.heap.size n (lF l)∧w.heap.size<w'.heap.size∧Below w.heap.size w w':=by
 have hmk:=make8 n hn
 have hlen:=h.len
 obtain⟨w1,hw1⟩:=Lv (w.alloc (.cells (arL n fun _=>0).toArray 5))
 have hW1:Wb w1 w.heap.size n (fun _=>0) 5:=by rw [hw1];exact Wb.new w n _ _
 have hb1:=Bl hw1
 have hS1:Sl w1 w.heap.size A n l:=h.below hb1
 have hl1:=hW1.lt
 obtain⟨g,hg⟩:=Le (w.heap.size)
 have hsrc:=Lib.hid (fun h0=>hS1.src h0)
 have hcs:=map_lF l n hlen
 have HMi:=Lib.hid (show(l.map b8).length=Nat.min n n by simp [hlen])
 have HFi:=Lib.hid (show 0+(l.map b8).length≤(arL n fun _=>0).length by rw [arL_len];simp [hlen])
 have HLE:=Lib.hid (show∀h:0<(l.map b8).length,0<n by intro h;simpa [hlen]using h)
 obtain⟨cs,hcse⟩: ∃cs:List Value,l.map b8=cs:=⟨_,rfl⟩
 have h1c:=Lib.hid (one_b8 l)
 rw [hcse]at hsrc HMi HFi HLE hcs h1c
 have hspl:=Lib.hid (show splice (arL n fun _=>0) 0 cs=arL n (lF l)by
  rw [hcs,splice_ar n n _ _ 0 (by omega)]
  exact arL_ext (fun j hj=>by rw [if_pos (by omega),Nat.sub_zero]))
 obtain⟨Z,hZ⟩: ∃Z:List Value,arL n (fun _=>0)=Z:=⟨_,rfl⟩
 have HW:=Lib.hid (show w1.heap[g]?=some (.cells Z.toArray 5 (0,0))by rw [←hg,←hZ];exact hW1)
 rw [hZ]at HFi hspl hw1
 have hmk2: ∀V:World,(Instr.makeSlice 25 (.int .i64 (n:Int)) (.int .i64 (n:Int))).run Tryz.prog V= .ok (.slice (some ⟨V.heap.size,0,none⟩) n n) (V.alloc (.cells Z.toArray 5)):=by rw [←hZ];exact hmk
 have hcn:(cs.length:Int)=(n:Int):=by have:=HMi.out;simp at this;omega
 clear hmk hW1 hS1 h hcs hcse hZ
 go_enter Tryz.func111,Tryz.ntmps111
 go_upto_region 2 with fail
 try rw [hg]
 rw [←hw1]
 clear hw1
 go_wp2_with (refine wpList_copy_splice rfl (.tmp 7) (.tmp 8) 25 25 rfl 5 Tryz.sl8 Tryz.sz8 _ _ _ _ _ _ rfl rfl g 0 Z 5 HW.out cs HMi.out (fun h=>⟨rfl,hsrc.out (HLE.out h)⟩) HFi.out h1c.out g w1 (Below.refl _ _) (Nat.le_refl _) ?_;intro w2 hW2 hb2)
 go_ret
 have h2:Wb w2 g n (lF l) 5:=by
  have:=hW2.out
  rw [hspl.out]at this
  exact this
 subst hg
 refine⟨rfl,h2.ar,?_,hb1.trans (hb2.mono (by omega))⟩
 have:=hb2.size;omega
end
section
open Go.RowKit
set_option linter.unusedVariables false
set_option maxRecDepth 100000
theorem lF_pad (l:List UInt8) (n j:Nat) (hl:l.length=n) (hn:n<16) (hj:j<16):lF (padL l 16) j=if j=n then 128 else if j<n then lF l j else 0:=by
 unfold lF padL
 simp only [List.getD]
 by_cases h:j<n
 ·rw [if_neg (by omega),if_pos h,List.getElem?_append_left (by omega)]
 ·rw [List.getElem?_append_right (by omega),hl]
  by_cases h2:j=n
  ·subst h2
   rw [if_pos rfl,Nat.sub_self];rfl
  ·rw [if_neg h2,if_neg h]
   obtain⟨k,hk⟩: ∃k,j-n=k+1:=⟨j-n-1,by omega⟩
   rw [hk,List.getElem?_cons_succ,List.getElem?_replicate,if_pos (by omega)];rfl
def liB (n:Nat) (f:Nat→Nat):List UInt8:=(List.range n).map fun j=>UInt8.ofNat (f j)
theorem liB_len (n:Nat) (f:Nat→Nat):(liB n f).length=n:=by simp [liB]
theorem liB_get (n:Nat) (f:Nat→Nat) (j:Nat) (hj:j<n):(liB n f)[j]?=some (UInt8.ofNat (f j)):=by simp [liB,List.getElem?_map,List.getElem?_range hj]
theorem lF_liB (n:Nat) (f:Nat→Nat) (hf: ∀j,j<n→f j<256) (j:Nat) (hj:j<n):lF (liB n f) j=f j:=by
 unfold lF
 rw [List.getD,liB_get n f j hj]
 exact UInt8.toNat_ofNat_of_lt' (by simpa using hf j hj)
theorem Sl.of_fun {w:World} {B g o n:Nat} {f:Nat→Nat} (hf: ∀j,j<n→f j<256) (hc: ∀j,j<n→w.cell? ⟨g,o+j,none⟩=some (.int .u8 (f j:Nat))) (hg:g<B):Sl w B (some ⟨g,o,none⟩) n (liB n f):=
 ⟨liB_len n f,fun _=>⟨g,o,rfl,hg,fun j u hu=>by
  have hj:j<n:=by have:=(List.getElem?_eq_some_iff.1 hu).1;rwa [liB_len]at this
  rw [liB_get n f j hj]at hu
  obtain rfl:=Option.some.inj hu
  rw [hc j hj,b8_ofNat _ (hf j hj)]⟩⟩
set_option maxHeartbeats 1600000 in
theorem bpad (A:Option Addr) (n c:Nat) (l:List UInt8) (w:World) (h:Sl w w.heap.size A n l) (hn:n<16):
  Calls Tryz.prog 82 #[.slice A n c] w fun e w'=>e= .returned (.tuple #[.agg (arL 16 (lF (padL l 16))).toArray,.bool true])∧Below w.heap.size w w':=by
 have hz:=zero16x
 have hlen:=h.len
 obtain⟨w1,hw1⟩:=Lv (w.alloc (.cells (arL 16 fun _=>0).toArray 22))
 have hs1:=Zs1 hw1
 have hb1:=Bl hw1
 have hR1:Ar w1 w.heap.size 16 (fun _=>0):=by rw [hw1];exact Ar.new w 16 _ _
 obtain⟨w2,hw2⟩:=Lv (w1.alloc (.cells (arL 16 fun _=>0).toArray 22))
 have hb2:=Bm hw2 hb1
 have hW2:Wb w2 (w.heap.size+1) 16 (fun _=>0) 22:=by rw [hw2,←hs1];exact Wb.new w1 16 _ _
 have hR2:=ara hw2 hR1
 have hS2:Sl w2 w.heap.size A n l:=h.below hb2
 clear hb1 hR1 h
 obtain⟨g,hg⟩:=Le (w.heap.size+1)
 have hsrc:=Lib.hid (fun h0=>hS2.src h0)
 have hcs:=map_lF l n hlen
 have HMi:=Lib.hid (show(l.map b8).length=Nat.min n 16 by rw [List.length_map,hlen];exact(Nat.min_eq_left (by omega)).symm)
 have HFi:=Lib.hid (show 0+(l.map b8).length≤(arL 16 fun _=>0).length by rw [arL_len];simp [hlen];omega)
 have HLE:=Lib.hid (show∀h:0<(l.map b8).length,0<n by intro h;simpa [hlen]using h)
 obtain⟨cs,hcse⟩: ∃cs:List Value,l.map b8=cs:=⟨_,rfl⟩
 have h1c:=Lib.hid (one_b8 l)
 rw [hcse]at hsrc HMi HFi HLE hcs h1c
 have hspl:=Lib.hid (show splice (arL 16 fun _=>0) 0 cs=arL 16 (fun j=>if j<n then lF l j else 0)by
  rw [hcs,splice_ar 16 n _ _ 0 (by omega)]
  exact arL_ext (fun j hj=>by simp))
 have hcn:(cs.length:Int)=(n:Int):=by rw [HMi.out.trans (Nat.min_eq_left (by omega))]
 rw [hg]at hW2
 have HW:=Lib.hid (show w2.heap[g]?=some (.cells (arL 16 fun _=>0).toArray 22 (0,0))from hW2)
 have hlg:w.heap.size<g:=by omega
 have i1: ¬(n:Int)≥16:=by omega
 have i2:(n:Int)<16:=by omega
 clear hcs hcse hS2 hW2
 go_enter Tryz.func82,Tryz.ntmps82
 go_upto_region 2 with fail
 rw [←hw1,←hw2]
 try rw [hg]
 clear hw1 hw2 hg hs1
 go_upto_region 5 with (refine wpList_copy_splice rfl (.tmp 9) (.tmp 10) 25 25 rfl 5 Tryz.sl8 Tryz.sz8 _ _ _ _ _ _ rfl rfl g 0 (arL 16 fun _=>0) 22 HW.out cs HMi.out (fun h=>⟨rfl,hsrc.out (HLE.out h)⟩) HFi.out h1c.out g w2 (Below.refl _ _) (Nat.le_refl _) ?_;intro w3 hW3 hb3)
 have hT3:Ar w3 g 16 (fun j=>if j<n then lF l j else 0):=by
  have h:=hW3.out
  rw [hspl.out]at h
  exact Wb.ar (show Wb w3 g 16 _ _ from h)
 have hR3:=hR2.keep hlg hb3
 have hB3:=hb2.trans (hb3.mono (by omega))
 clear hR2 hb2 hb3 hW3 HW hspl hsrc HMi HFi HLE h1c
 obtain⟨c0,f0⟩:=hT3 n hn
 have hT4:=(hT3.set (j:=n) (v:=128) hn rfl).ext (f':=lF (padL l 16)) (fun j hj=>(lF_pad l n j hlen hn hj).symm)
 have hR4:=hR3.far (p:=⟨g,n,none⟩) (by simp;omega) (.int .u8 128)
 have hB4:=hB3.setCell (p:=⟨g,n,none⟩) (by simp;omega) (.int .u8 128)
 clear hT3 hR3 hB3
 try dsimp only [Act.put]
 go_upto_region 6 with fail
 generalize World.setCell w3 ⟨g,n,none⟩ (.int .u8 128)=w4 at*
 clear c0 f0
 go_wp2_with (first
  |(refine wpList_load_ar rfl _ _ rfl _ _ _ rfl hT4 Tryz.arr16x (size16x _) ?_)
  |(refine wpList_store_ar rfl _ _ _ rfl _ _ _ (lF (padL l 16)) rfl rfl hR4 (size16x _) ?_;intro w8 hA8 hb8 _ _))
 refine bodyPost_ret_ar2 rfl rfl rfl hA8 Tryz.arr16x (size16x _) rfl ⟨rfl,?_⟩
 exact hB4.trans (hb8.mono (by omega))
set_option maxHeartbeats 1600000 in
theorem bpad_no (A:Option Addr) (n c:Nat) (w:World) (hn:16≤n):
  Calls Tryz.prog 82 #[.slice A n c] w fun e w'=>e= .returned (.tuple #[.agg (arL 16 fun _=>0).toArray,.bool false])∧Below w.heap.size w w':=by
 have hz:=zero16x
 obtain⟨w1,hw1⟩:=Lv (w.alloc (.cells (arL 16 fun _=>0).toArray 22))
 have hs1:=Zs1 hw1
 have hb1:=Bl hw1
 have hR1:Ar w1 w.heap.size 16 (fun _=>0):=by rw [hw1];exact Ar.new w 16 _ _
 obtain⟨w2,hw2⟩:=Lv (w1.alloc (.cells (arL 16 fun _=>0).toArray 22))
 have hb2:=Bm hw2 hb1
 have hT2:Ar w2 (w.heap.size+1) 16 (fun _=>0):=by rw [hw2,←hs1];exact Ar.new w1 16 _ _
 have hR2:=ara hw2 hR1
 have i1:(n:Int)≥16:=by omega
 clear hb1 hR1
 go_enter Tryz.func82,Tryz.ntmps82
 go_upto_region 2 with fail
 rw [←hw1,←hw2]
 clear hw1 hw2 hs1
 go_wp2_with (first
  |(refine wpList_load_ar rfl _ _ rfl _ _ _ rfl hT2 Tryz.arr16x (size16x _) ?_)
  |(refine wpList_store_ar rfl _ _ _ rfl _ _ _ (fun _=>0) rfl rfl hR2 (size16x _) ?_;intro w8 hA8 hb8 _ _))
 refine bodyPost_ret_ar2 rfl rfl rfl hA8 Tryz.arr16x (size16x _) rfl ⟨rfl,?_⟩
 exact hb2.trans (hb8.mono (by omega))
def Unp (w w':World) (f:Nat→Nat) (e:Ending):Prop:=
 (∃n g,n<16∧f n=128∧(∀j,n<j→j<16→f j=0)∧e= .returned (.tuple #[.slice (some ⟨g,0,none⟩) n n,.bool true])∧Ar w' g n f∧w.heap.size≤g∧g<w'.heap.size∧Below w.heap.size w w')∨
 ((∀n,n<16→f n=128→ ∃j,n<j∧j<16∧f j≠0)∧e= .returned (.tuple #[.slice none 0 0,.bool false])∧Below w.heap.size w w')
end
section
open Go.RowKit
set_option linter.unusedVariables false
set_option maxRecDepth 100000
theorem Tryz.zero25:(Tryz.prog.info? 172).map (fun i=>(i.zero,i.size))=some (some (.agg (Array.replicate 25 (.int .u8 0))),25):=by kernel_rfl
theorem zero25 (w:World):(zeroValue 172).run Tryz.prog w= .ok (.agg (arL 25 fun _=>0).toArray) w:=by
 rw [arL_zero];exact(zero_of_info Tryz.zero25).1 w
def clampN (n:Int):Nat:=(min (max n 0) 64).toNat
theorem clampN_le (n:Int):clampN n≤64:=by unfold clampN;omega
theorem clampN_eq (n:Int):min (max n 0) 64=(clampN n:Int):=by unfold clampN;omega
theorem two_or (s x y:Nat) (hs:s<8) (hx:x<256) (hy:y<256):x*2^s%256|||y/2^(8-s)=x*2^s%256+y/2^(8-s):=by
 have h: ∀s,s<8→ ∀x,x<256→ ∃k,x*2^s%256=2^s*k:=fun s hs x hx=>by
  refine⟨x%2^(8-s),?_⟩
  have e:256=2^s*2^(8-s):=by rw [←Nat.pow_add,show s+(8-s)=8 by omega]
  rw [e,Nat.mul_comm x,Nat.mul_mod_mul_left]
 obtain⟨k,hk⟩:=h s hs x hx
 have hl:y/2^(8-s)<2^s:=by
  rw [Nat.div_lt_iff_lt_mul (by exact Nat.two_pow_pos _),←Nat.pow_add,show s+(8-s)=8 by omega];exact hy
 rw [hk,Nat.two_pow_add_eq_or_of_lt hl]
theorem shl_fact (s x:Nat) (hs:s<8) (hx:x<256):IntKind.u8.wrap ((x:Int)*2^s)=((x*2^s%256:Nat):Int):=by
 rw [IntKind.wrap_u8];simp
theorem shr_fact (s y:Nat):(y:Int)/2^s=((y/2^s:Nat):Int):=by simp
theorem shB_at (f:Nat→Nat) (m q s k:Nat) (hq:q=m/8) (hs:s=m%8) (hf: ∀j,f j<256):f (k+q)*2^s%256|||f (k+q+1)/2^(8-s)=shB f m k:=by
 unfold shB
 rw [two_or s _ _ (by omega) (hf _) (hf _),hq,hs]
set_option maxHeartbeats 1600000 in
theorem bshift (f:Nat→Nat) (n:Int) (w:World) (hf: ∀j,j<24→f j<256):
  Calls Tryz.prog 106 #[.agg (arL 24 f).toArray,.int .i64 n] w fun e w'=>e= .returned (.agg (arL 16 (shB (cut 24 f) (clampN n))).toArray)∧Below w.heap.size w w':=by
 have hz:=zero16x
 have hz25:=zero25
 obtain⟨kA,hkA⟩:=Le ((arL 24 f).toArray)
 obtain⟨w1,hw1⟩:=Lv (w.alloc (.cells (arL 24 f).toArray 149))
 have hs1:=Zs1 hw1
 have hb1:=Bl hw1
 have hK1:Ar w1 w.heap.size 24 f:=by rw [hw1];exact Ar.new w 24 f _
 obtain⟨w2,hw2⟩:=Lv (w1.alloc (.cells (arL 16 fun _=>0).toArray 22))
 have hs2:=Zs2 hw2 hs1
 have hb2:=Bm hw2 hb1
 have hR2:Ar w2 (w.heap.size+1) 16 (fun _=>0):=by rw [hw2,←hs1];exact Ar.new w1 16 _ _
 have hK2:=ara hw2 hK1
 obtain⟨w3,hw3⟩:=Lv (w2.alloc (.cells (arL 25 fun _=>0).toArray 172))
 have hB3:=Bm hw3 hb2
 have hW3:Wb w3 (w.heap.size+2) 25 (fun _=>0) 172:=by rw [hw3,←hs2];exact Wb.new w2 25 _ _
 have hR3:=ara hw3 hR2
 have hK3:=ara hw3 hK2
 rw [hkA]at hw1
 rw [hkA]
 clear hb1 hK1 hkA hb2 hR2 hK2
 have HC:=Lib.hid (cut_lt hf)
 have hmm:=clampN_eq n
 have hml:=clampN_le n
 obtain⟨m,hm⟩:=Le (clampN n)
 rw [hm]at hmm hml⊢
 obtain⟨p,hp⟩: ∃p:Int,max n 0=p:=⟨_,rfl⟩
 rw [hp]at hmm
 have HFR:=Lib.hid (show splice (arL 25 fun _=>0) 0 (arL 24 f)=arL 25 (cut 24 f)by
  rw [splice_ar 25 24 _ _ 0 (by omega)]
  exact arL_ext (fun j hj=>by unfold cut;simp))
 clear hm hf
 go_enter Tryz.func106,Tryz.ntmps106
 go_upto_region 1 with fail
 rw [←hw1,←hw2]
 clear hw1 hw2 hs1
 go_upto_region 2 with fail
 go_upto_region 3 with fail
 rw [←hw3]
 clear hw3 hmm hp
 obtain⟨gR,hgR⟩:=Le (w.heap.size+1)
 obtain⟨gL,hgL⟩:=Le (w.heap.size+2)
 have hgL2:w.heap.size+1+1=gL:=hgL
 have hlR:w.heap.size<gR:=by omega
 have hlL:gR<gL:=by omega
 rw [hgR]at hR3
 rw [hgL]at hW3
 try rw [hs2]
 try rw [hgL2]
 try rw [hgL]
 try rw [hgR]
 clear hgR hgL hgL2 hs2
 have hsrc:=Lib.hid hK3.drew.src
 have HW:=Lib.hid (show w3.drew.heap[gL]?=some (.cells (arL 25 fun _=>0).toArray 172 (0,0))from hW3)
 have HMi:=Lib.hid (show(arL 24 f).length=Nat.min 24 25 by rw [arL_len];rfl)
 have HFi:=Lib.hid (show 0+(arL 24 f).length≤(arL 25 fun _=>0).length by rw [arL_len,arL_len];omega)
 go_region_law (refine step_copy_splice rfl (.tmp 12) (.tmp 13) 25 25 rfl 5 Tryz.sl8 Tryz.sz8 _ _ _ _ _ _ rfl rfl gL 0 (arL 25 fun _=>0) 172 HW.out (arL 24 f) HMi.out (fun _=>⟨rfl,⟨w.heap.size,0,none⟩,rfl,hsrc.out⟩) HFi.out (arL_one 24 _) gL w3.drew (Below.refl _ _) (Nat.le_refl _) ?_;intro w4 hW4 hb4)
 have hL4:Ar w4 gL 25 (cut 24 f):=by
  have h:=hW4.out
  rw [HFR.out]at h
  exact Wb.ar (show Wb w4 gL 25 _ _ from h)
 have hR4:=hR3.drew.keep hlL hb4
 have hB4:=hB3.drew.trans (hb4.mono (by omega))
 have hs4:=hb4.size
 have hl4:gL<w4.heap.size:=hL4.lt (by omega)
 clear hR3 hB3 hb4 hW4 HW hsrc HMi HFi hK3 hW3 HFR hs4
 try dsimp only [Act.put]
 obtain⟨gT,hgT⟩:=Le (w4.heap.size)
 obtain⟨w5,hw5⟩:=Lv (w4.alloc (.cells (arL 16 fun _=>0).toArray 22))
 have hT5:Ar w5 gT 16 (fun _=>0):=by rw [hw5,←hgT];exact Ar.new w4 16 _ _
 have hL5:=ara hw5 hL4
 have hR5:=ara hw5 hR4
 have hB5:=Bm hw5 hB4
 rw [hgT]at hl4
 clear hL4 hR4 hB4
 go_upto_region 5 with fail
 try rw [hgT]
 rw [←hw5]
 clear hw5 hgT
 go_wp2_with fail
 obtain⟨q,hq⟩:=Lv (m/8)
 obtain⟨s,hs⟩:=Lv (m%8)
 have HQS:=Lib.hid (show q=m/8∧s=m%8 from⟨hq,hs⟩)
 have q1:((m:Int)).tdiv 8=(q:Int):=by rw [Int.tdiv_eq_ediv_of_nonneg (by omega)];omega
 have q2:(m:Int)/8=(q:Int):=by omega
 have s1:((m:Int)).tmod 8=(s:Int):=by rw [Int.tmod_eq_emod_of_nonneg (by omega)];omega
 have s2:(m:Int)%8=(s:Int):=by omega
 have hq8:q≤8:=by omega
 have hs8:s<8:=by omega
 clear hq hs
 go_loopw [15] (fun i wr=> ∃k:Nat,k≤16∧i= .int .i64 k∧Ar wr gT 16 (fun j=>if j<k then shB (cut 24 f) m j else 0)∧Ar wr gL 25 (cut 24 f)∧Ar wr gR 16 (fun _=>0)∧Below w.heap.size w wr) (fun i _=>16-(intOf i).toNat)
 case atStart=>exact⟨0,Nat.zero_le _,rfl,hT5.ext (fun _ _=>rfl),hL5,hR5,hB5⟩
 case round=>
  clear hT5 hL5 hR5 hB5
  obtain⟨k,hk,rfl,hT,hL,hR,hB⟩:=hrel
  by_cases hlt:k<16
  ·have i1:(k:Int)<16:=by omega
   obtain⟨a,ha⟩:=Le (k+q)
   have a1:(k:Int)+(q:Int)=(a:Int):=by omega
   have a2:(a:Int)<25:=by omega
   have a3:(a:Int)+1<25:=by omega
   obtain⟨c0,_⟩:=hL a (by omega)
   obtain⟨c1,_⟩:=hL (a+1) (by omega)
   obtain⟨c2,f2⟩:=hT k hlt
   have x0:=HC.out a
   have x1:=HC.out (a+1)
   obtain⟨t,ht⟩:=Le (8-s)
   have t1:(8:Int)-(s:Int)=(t:Int):=by omega
   have t2:t≤8:=by omega
   have hsh:=shB_at (cut 24 f) m q s k HQS.out.1 HQS.out.2 HC.out
   rw [ha,ht]at hsh
   have e1:=shl_fact s (cut 24 f a) hs8 x0
   have e2:=shr_fact t (cut 24 f (a+1))
   have l1:cut 24 f a*2^s%256<256:=Nat.mod_lt _ (by decide)
   have l2:cut 24 f (a+1)/2^t<256:=Nat.lt_of_le_of_lt (Nat.div_le_self _ _) x1
   have hor:=or_u8 _ _ l1 l2
   rw [hsh]at hor
   have e3:((cut 24 f a:Nat):Int)*2^s%256=((cut 24 f a*2^s%256:Nat):Int):=by simp
   have hT2:=Lib.hid ((hT.set (j:=k) (v:=shB (cut 24 f) m k) hlt rfl).ext (fun j _=>low_step (shB (cut 24 f) m) k j))
   have hL2:=Lib.hid (hL.far (p:=⟨gT,k,none⟩) (by simp;omega) (.int .u8 (shB (cut 24 f) m k:Nat)))
   have hR2:=Lib.hid (hR.far (p:=⟨gT,k,none⟩) (by simp;omega) (.int .u8 (shB (cut 24 f) m k:Nat)))
   have hB2:=Lib.hid (hB.setCell (p:=⟨gT,k,none⟩) (by simp;omega) (.int .u8 (shB (cut 24 f) m k:Nat)))
   clear hT hL hR hB hsh ha ht
   generalize shB (cut 24 f) m k=z at*
   generalize cut 24 f a*2^s%256=u at*
   generalize cut 24 f (a+1)/2^t=v at*
   generalize cut 24 f (a+1)=y at*
   generalize cut 24 f a=x at*
   go_wp2_with fail
   refine wp_region_noPanic ?_
   go_big_region
   refine NoPanic.normal ?_
   clear a1 a2 a3 c0 c1 c2 f2 t1 e1 e2 e3 hor
   go_wp2_with fail
   go_roundw
   case rel=>exact⟨k+1,by omega,by go_num,hT2.out.drew,hL2.out.drew,hR2.out.drew,hB2.out.drew⟩
   case measure=>simp [intOf];omega
  ·obtain rfl:k=16:=by omega
   have hT2:=hT.ext (f':=shB (cut 24 f) m) (fun j hj=>by rw [if_pos hj])
   clear hT
   go_wp2_with (first
    |(refine wpList_load_ar rfl _ _ rfl _ _ _ rfl hT2 Tryz.arr16x (size16x _) ?_)
    |(refine wpList_store_ar rfl _ _ _ rfl _ _ _ (shB (cut 24 f) m) rfl rfl hR (size16x _) ?_;intro w8 hA8 hb8 _ _))
   refine bodyPost_ret_ar rfl rfl hA8 Tryz.arr16x (size16x _) rfl ⟨rfl,?_⟩
   exact hB.trans (hb8.mono (by omega))
end
end Go.Proofs.YtiacbphnclgikaaGreatDoor
