/-
 Contracts of package block and of the reference package of layer 8, by walks through their texts, one after the other; what was there stays as it was.
-/
import Derived.Test.YtiacbphnclgikaaDoorSqz
import Derived.Test.YtiacbphnclgikaaDoorFre
import Derived.BigRegion
import Derived.Deep.Cut
import Derived.Deep.RegionHeld3
import Derived.ArgAppend
import Derived.Laws.CopyOwn
import Derived.Laws.MakeOwn
import Derived.Deep.RegionLaw
import Derived.Lib.MinMax
namespace Go.Proofs.YtiacbphnclgikaaDoor
section
open Go.RowKit
set_option linter.unusedVariables false
def bitF (f:Nat→Nat) (k:Nat):Nat:=f (k/8)/2^(7-k%8)%2
def by8 (l:Nat→Nat) (j:Nat):Nat:=
 ((((((l (8*j)*2+l (8*j+1))*2+l (8*j+2))*2+l (8*j+3))*2+l (8*j+4))*2+l (8*j+5))*2+l (8*j+6))*2+l (8*j+7)
def shB (f:Nat→Nat) (n j:Nat):Nat:=f (j+n/8)*2^(n%8)%256+f (j+n/8+1)/2^(8-n%8)
theorem bitF_lt (f:Nat→Nat) (k:Nat):bitF f k<2:=Nat.mod_lt _ (by decide)
theorem bitF_at (f:Nat→Nat) (j i:Nat) (hi:i<8):bitF f (8*j+i)=f j/2^(7-i)%2:=by
 unfold bitF
 rw [show(8*j+i)/8=j by omega,show(8*j+i)%8=i by omega]
theorem bitF_put (f:Nat→Nat) (j q r i:Nat) (hr:r<8) (hi:i<8):bitF f (8*j+i+(8*q+r))=if i+r<8 then f (j+q)/2^(7-(i+r))%2 else f (j+q+1)/2^(15-(i+r))%2:=by
 unfold bitF
 by_cases h:i+r<8
 ·rw [if_pos h,show(8*j+i+(8*q+r))/8=j+q by omega,show(8*j+i+(8*q+r))%8=i+r by omega]
 ·rw [if_neg h,show(8*j+i+(8*q+r))/8=j+q+1 by omega,show(8*j+i+(8*q+r))%8=i+r-8 by omega]
  congr 3;omega
theorem by8_bits (x:Nat) (h:x<256):((((((x/128%2*2+x/64%2)*2+x/32%2)*2+x/16%2)*2+x/8%2)*2+x/4%2)*2+x/2%2)*2+x%2=x:=by
 have H: ∀x,x<256→((((((x/128%2*2+x/64%2)*2+x/32%2)*2+x/16%2)*2+x/8%2)*2+x/4%2)*2+x/2%2)*2+x%2=x:=by decide+kernel
 exact H x h
theorem hi0: ∀x,x<256→x/128%2*128+x/64%2*64+x/32%2*32+x/16%2*16+x/8%2*8+x/4%2*4+x/2%2*2+x%2*1=x*1%256:=by decide+kernel
theorem hi1: ∀x,x<256→x/64%2*128+x/32%2*64+x/16%2*32+x/8%2*16+x/4%2*8+x/2%2*4+x%2*2=x*2%256:=by decide+kernel
theorem lo1: ∀y,y<256→y/128%2*1=y/128:=by decide+kernel
theorem hi2: ∀x,x<256→x/32%2*128+x/16%2*64+x/8%2*32+x/4%2*16+x/2%2*8+x%2*4=x*4%256:=by decide+kernel
theorem lo2: ∀y,y<256→y/128%2*2+y/64%2*1=y/64:=by decide+kernel
theorem hi3: ∀x,x<256→x/16%2*128+x/8%2*64+x/4%2*32+x/2%2*16+x%2*8=x*8%256:=by decide+kernel
theorem lo3: ∀y,y<256→y/128%2*4+y/64%2*2+y/32%2*1=y/32:=by decide+kernel
theorem hi4: ∀x,x<256→x/8%2*128+x/4%2*64+x/2%2*32+x%2*16=x*16%256:=by decide+kernel
theorem lo4: ∀y,y<256→y/128%2*8+y/64%2*4+y/32%2*2+y/16%2*1=y/16:=by decide+kernel
theorem hi5: ∀x,x<256→x/4%2*128+x/2%2*64+x%2*32=x*32%256:=by decide+kernel
theorem lo5: ∀y,y<256→y/128%2*16+y/64%2*8+y/32%2*4+y/16%2*2+y/8%2*1=y/8:=by decide+kernel
theorem hi6: ∀x,x<256→x/2%2*128+x%2*64=x*64%256:=by decide+kernel
theorem lo6: ∀y,y<256→y/128%2*32+y/64%2*16+y/32%2*8+y/16%2*4+y/8%2*2+y/4%2*1=y/4:=by decide+kernel
theorem hi7: ∀x,x<256→x%2*128=x*128%256:=by decide+kernel
theorem lo7: ∀y,y<256→y/128%2*64+y/64%2*32+y/32%2*16+y/16%2*8+y/8%2*4+y/4%2*2+y/2%2*1=y/2:=by decide+kernel
theorem two_bytes (r:Nat) (hr:r<8) (x y:Nat) (hx:x<256) (hy:y<256):
  ((((((
   (if 0+r<8 then x/2^(7-(0+r))%2 else y/2^(15-(0+r))%2)*2+(if 1+r<8 then x/2^(7-(1+r))%2 else y/2^(15-(1+r))%2))*2+
   (if 2+r<8 then x/2^(7-(2+r))%2 else y/2^(15-(2+r))%2))*2+(if 3+r<8 then x/2^(7-(3+r))%2 else y/2^(15-(3+r))%2))*2+
   (if 4+r<8 then x/2^(7-(4+r))%2 else y/2^(15-(4+r))%2))*2+(if 5+r<8 then x/2^(7-(5+r))%2 else y/2^(15-(5+r))%2))*2+
   (if 6+r<8 then x/2^(7-(6+r))%2 else y/2^(15-(6+r))%2))*2+(if 7+r<8 then x/2^(7-(7+r))%2 else y/2^(15-(7+r))%2)
  =x*2^r%256+y/2^(8-r):=by
 rcases(show r=0∨r=1∨r=2∨r=3∨r=4∨r=5∨r=6∨r=7 by omega)with rfl|rfl|rfl|rfl|rfl|rfl|rfl|rfl
 ·have h1:=hi0 x hx
  have h2:y/256=0:=by omega
  simp only [Nat.zero_add,Nat.reduceAdd,Nat.reduceLT,if_true,Nat.reduceSub,Nat.reducePow,Nat.div_one]
  generalize x%2=a0 at*
  generalize x/2%2=a1 at*
  generalize x/4%2=a2 at*
  generalize x/8%2=a3 at*
  generalize x/16%2=a4 at*
  generalize x/32%2=a5 at*
  generalize x/64%2=a6 at*
  generalize x/128%2=a7 at*
  generalize x*1%256=p at*
  generalize y/256=q at*
  clear hx hy
  omega
 ·have h1:=hi1 x hx
  have h2:=lo1 y hy
  simp only [Nat.zero_add,Nat.reduceAdd,Nat.reduceLT,if_true,Nat.reduceSub,Nat.reducePow,Nat.div_one,if_false]
  generalize x%2=a0 at*
  generalize x/2%2=a1 at*
  generalize x/4%2=a2 at*
  generalize x/8%2=a3 at*
  generalize x/16%2=a4 at*
  generalize x/32%2=a5 at*
  generalize x/64%2=a6 at*
  generalize y/128%2=b0 at*
  generalize x*2%256=p at*
  generalize y/128=q at*
  clear hx hy
  omega
 ·have h1:=hi2 x hx
  have h2:=lo2 y hy
  simp only [Nat.zero_add,Nat.reduceAdd,Nat.reduceLT,if_true,Nat.reduceSub,Nat.reducePow,Nat.div_one,if_false]
  generalize x%2=a0 at*
  generalize x/2%2=a1 at*
  generalize x/4%2=a2 at*
  generalize x/8%2=a3 at*
  generalize x/16%2=a4 at*
  generalize x/32%2=a5 at*
  generalize y/128%2=b0 at*
  generalize y/64%2=b1 at*
  generalize x*4%256=p at*
  generalize y/64=q at*
  clear hx hy
  omega
 ·have h1:=hi3 x hx
  have h2:=lo3 y hy
  simp only [Nat.zero_add,Nat.reduceAdd,Nat.reduceLT,if_true,Nat.reduceSub,Nat.reducePow,Nat.div_one,if_false]
  generalize x%2=a0 at*
  generalize x/2%2=a1 at*
  generalize x/4%2=a2 at*
  generalize x/8%2=a3 at*
  generalize x/16%2=a4 at*
  generalize y/128%2=b0 at*
  generalize y/64%2=b1 at*
  generalize y/32%2=b2 at*
  generalize x*8%256=p at*
  generalize y/32=q at*
  clear hx hy
  omega
 ·have h1:=hi4 x hx
  have h2:=lo4 y hy
  simp only [Nat.zero_add,Nat.reduceAdd,Nat.reduceLT,if_true,Nat.reduceSub,Nat.reducePow,Nat.div_one,if_false]
  generalize x%2=a0 at*
  generalize x/2%2=a1 at*
  generalize x/4%2=a2 at*
  generalize x/8%2=a3 at*
  generalize y/128%2=b0 at*
  generalize y/64%2=b1 at*
  generalize y/32%2=b2 at*
  generalize y/16%2=b3 at*
  generalize x*16%256=p at*
  generalize y/16=q at*
  clear hx hy
  omega
 ·have h1:=hi5 x hx
  have h2:=lo5 y hy
  simp only [Nat.zero_add,Nat.reduceAdd,Nat.reduceLT,if_true,Nat.reduceSub,Nat.reducePow,Nat.div_one,if_false]
  generalize x%2=a0 at*
  generalize x/2%2=a1 at*
  generalize x/4%2=a2 at*
  generalize y/128%2=b0 at*
  generalize y/64%2=b1 at*
  generalize y/32%2=b2 at*
  generalize y/16%2=b3 at*
  generalize y/8%2=b4 at*
  generalize x*32%256=p at*
  generalize y/8=q at*
  clear hx hy
  omega
 ·have h1:=hi6 x hx
  have h2:=lo6 y hy
  simp only [Nat.zero_add,Nat.reduceAdd,Nat.reduceLT,if_true,Nat.reduceSub,Nat.reducePow,Nat.div_one,if_false]
  generalize x%2=a0 at*
  generalize x/2%2=a1 at*
  generalize y/128%2=b0 at*
  generalize y/64%2=b1 at*
  generalize y/32%2=b2 at*
  generalize y/16%2=b3 at*
  generalize y/8%2=b4 at*
  generalize y/4%2=b5 at*
  generalize x*64%256=p at*
  generalize y/4=q at*
  clear hx hy
  omega
 ·have h1:=hi7 x hx
  have h2:=lo7 y hy
  simp only [Nat.zero_add,Nat.reduceAdd,Nat.reduceLT,if_true,Nat.reduceSub,Nat.reducePow,Nat.div_one,if_false]
  generalize x%2=a0 at*
  generalize y/128%2=b0 at*
  generalize y/64%2=b1 at*
  generalize y/32%2=b2 at*
  generalize y/16%2=b3 at*
  generalize y/8%2=b4 at*
  generalize y/4%2=b5 at*
  generalize y/2%2=b6 at*
  generalize x*128%256=p at*
  generalize y/2=q at*
  clear hx hy
  omega
theorem by8_shift (f:Nat→Nat) (hf: ∀j,f j<256) (n j:Nat):by8 (fun k=>bitF f (k+n)) j=shB f n j:=by
 have e:=fun i (hi:i<8)=>bitF_put f j (n/8) (n%8) i (by omega) hi
 rw [show 8*(n/8)+n%8=n by omega]at e
 unfold by8 shB
 dsimp only
 have e0:=e 0 (by omega)
 rw [Nat.add_zero]at e0
 rw [e0,e 1 (by omega),e 2 (by omega),e 3 (by omega),e 4 (by omega),e 5 (by omega),e 6 (by omega),e 7 (by omega)]
 exact two_bytes (n%8) (by omega) _ _ (hf _) (hf _)
theorem by8_congr {l m:Nat→Nat} (j:Nat) (h: ∀i,i<8→l (8*j+i)=m (8*j+i)):by8 l j=by8 m j:=by
 unfold by8
 have h0:=h 0 (by omega)
 rw [Nat.add_zero]at h0
 rw [h0,h 1 (by omega),h 2 (by omega),h 3 (by omega),h 4 (by omega),h 5 (by omega),h 6 (by omega),h 7 (by omega)]
def cut (n:Nat) (f:Nat→Nat) (j:Nat):Nat:=if j<n then f j else 0
theorem cut_lt {n:Nat} {f:Nat→Nat} (h: ∀j,j<n→f j<256) (j:Nat):cut n f j<256:=by
 unfold cut;split
 ·exact h j (by assumption)
 ·omega
def dbF (f:Nat→Nat) (j:Nat):Nat:=shB (cut 16 f) 1 j^^^(if j=15 then f 0/128*135 else 0)
def hvG (f:Nat→Nat) (j:Nat):Nat:=f j^^^(if j=15 then f 15%2*135 else 0)
def hvF (f:Nat→Nat) (j:Nat):Nat:=hvG f j/2+(if j=0 then f 15%2 else hvG f (j-1)%2)*128
theorem shB_one (f:Nat→Nat) (j:Nat):shB f 1 j=f j*2%256+f (j+1)/128:=by simp [shB]
theorem x135: ∀x,x<256→(x^^^135)%2=(x+1)%2∧x^^^135<256:=by decide+kernel
theorem bit135 (c:Nat) (hc:c<2) (x:Nat) (hx:x<256):(x^^^c*135)%2=(x+c)%2∧x^^^c*135<256:=by
 rcases(show c=0∨c=1 by omega)with rfl|rfl
 ·simp;omega
 ·rw [Nat.one_mul];exact x135 x hx
theorem dbF_lt {f:Nat→Nat} (h:B16 f):B16 (dbF f):=fun j hj=>by
 unfold dbF
 rw [shB_one]
 have h1:=cut_lt h j
 have h2:=cut_lt h (j+1)
 have h0:=h 0 (by omega)
 refine xor_lt _ _ (by omega) ?_
 split<;>omega
theorem hvG_lt {f:Nat→Nat} (h:B16 f):B16 (hvG f):=fun j hj=>by
 unfold hvG
 refine xor_lt _ _ (h j hj) ?_
 split<;>omega
theorem hvF_lt {f:Nat→Nat} (h:B16 f):B16 (hvF f):=fun j hj=>by
 have h1:=hvG_lt h j hj
 unfold hvF
 split<;>omega
theorem hvG_db {f:Nat→Nat} (h:B16 f) (j:Nat) (hj:j<16):dbF f 15%2=f 0/128∧hvG (dbF f) j=shB (cut 16 f) 1 j:=by
 have h0:=h 0 (by omega)
 have hc:f 0/128<2:=by omega
 have h15:=cut_lt h 15
 have e:dbF f 15%2=f 0/128:=by
  unfold dbF
  rw [if_pos rfl]
  have hs:shB (cut 16 f) 1 15=cut 16 f 15*2%256:=by rw [shB_one];simp [cut]
  rw [hs,(bit135 _ hc _ (by omega)).1]
  omega
 refine⟨e,?_⟩
 unfold hvG
 rw [e]
 unfold dbF
 rw [xor_cancel]
theorem hv_db {f:Nat→Nat} (h:B16 f):E16 (hvF (dbF f)) f:=fun j hj=>by
 have h1:=h j hj
 unfold hvF
 rw [(hvG_db h j hj).2,(hvG_db h j hj).1,shB_one]
 have c0:cut 16 f j=f j:=if_pos hj
 by_cases h0:j=0
 ·subst h0
  rw [if_pos rfl,c0]
  have:=cut_lt h (0+1)
  omega
 ·rw [if_neg h0,(hvG_db h (j-1) (by omega)).2,shB_one,show j-1+1=j by omega,c0]
  have:=cut_lt h (j+1)
  have:=cut_lt h (j-1)
  omega
theorem db_hv {f:Nat→Nat} (h:B16 f):E16 (dbF (hvF f)) f:=fun j hj=>by
 have hg:=hvG_lt h
 have h15:=h 15 (by omega)
 have hc:f 15%2<2:=by omega
 have g15:hvG f 15%2=0:=by
  unfold hvG
  rw [if_pos rfl,(bit135 _ hc _ h15).1]
  omega
 have hh:=hvF_lt h
 have t0:hvF f 0/128=f 15%2:=by
  have:=hg 0 (by omega)
  unfold hvF
  rw [if_pos rfl];omega
 have s1:shB (cut 16 (hvF f)) 1 j=hvG f j:=by
  rw [shB_one,show cut 16 (hvF f) j=hvF f j from if_pos hj]
  have gj:=hg j hj
  have a1:hvF f j*2%256=hvG f j/2*2:=by
   unfold hvF
   split<;>omega
  rw [a1]
  by_cases hj15:j=15
  ·subst hj15
   rw [show cut 16 (hvF f) (15+1)=0 from if_neg (by omega)];omega
  ·rw [show cut 16 (hvF f) (j+1)=hvF f (j+1)from if_pos (by omega)]
   have g1:=hg (j+1) (by omega)
   have a2:hvF f (j+1)/128=hvG f j%2:=by
    unfold hvF
    rw [if_neg (by omega),Nat.add_sub_cancel];omega
   rw [a2];omega
 unfold dbF
 rw [s1,t0]
 unfold hvG
 exact xor_cancel _ _
theorem add_xor: ∀a,a<128→ ∀b,b<2→a*2+b=a*2^^^b:=by decide+kernel
theorem sh_xor (x y:Nat):(x^^^y)*2%256=(x*2%256)^^^(y*2%256):=by
 have e: ∀z:Nat,z*2=z<<<1:=fun z=>by rw [Nat.shiftLeft_eq]
 rw [e,e,e,Nat.shiftLeft_xor_distrib,show 256=2^8 from rfl,Nat.xor_mod_two_pow]
theorem hi_xor (x y:Nat):(x^^^y)/128=(x/128)^^^(y/128):=by
 have e: ∀z:Nat,z/128=z>>>7:=fun z=>by rw [Nat.shiftRight_eq_div_pow]
 rw [e,e,e,Nat.shiftRight_xor_distrib]
theorem m135 (p q:Nat) (hp:p<2) (hq:q<2):(p^^^q)*135=p*135^^^q*135:=by
 rcases(show p=0∨p=1 by omega)with rfl|rfl<;>rcases(show q=0∨q=1 by omega)with rfl|rfl<;>decide
theorem shB_xor (f g:Nat→Nat) (hf: ∀j,f j<256) (hg: ∀j,g j<256) (j:Nat):shB (fun i=>f i^^^g i) 1 j=shB f 1 j^^^shB g 1 j:=by
 have hx: ∀z,z<256→ ∀y,y<256→z*2%256+y/128=(z*2%256)^^^(y/128):=fun z hz y hy=>by
  have:=add_xor (z%128) (by omega) (y/128) (by omega)
  rwa [show z%128*2=z*2%256 by omega]at this
 rw [shB_one,shB_one,shB_one,hx _ (hf j) _ (hf (j+1)),hx _ (hg j) _ (hg (j+1)),hx _ (xor_lt _ _ (hf j) (hg j)) _ (xor_lt _ _ (hf (j+1)) (hg (j+1))),sh_xor,hi_xor]
 ac_rfl
theorem db_ad {f g:Nat→Nat} (hf:B16 f) (hg:B16 g) (j:Nat):dbF (adF f g) j=adF (dbF f) (dbF g) j:=by
 have e:cut 16 (adF f g)=fun i=>cut 16 f i^^^cut 16 g i:=by
  funext i;unfold cut adF;split<;>simp
 have h0:=hf 0 (by omega)
 have h1:=hg 0 (by omega)
 show shB (cut 16 (adF f g)) 1 j^^^(if j=15 then(f 0^^^g 0)/128*135 else 0)=(shB (cut 16 f) 1 j^^^(if j=15 then f 0/128*135 else 0))^^^(shB (cut 16 g) 1 j^^^(if j=15 then g 0/128*135 else 0))
 rw [e,shB_xor _ _ (cut_lt hf) (cut_lt hg)]
 by_cases hj:j=15
 ·simp only [if_pos hj]
  rw [hi_xor,m135 _ _ (by omega) (by omega)]
  ac_rfl
 ·simp only [if_neg hj,Nat.xor_zero]
end
section
open Go.RowKit
set_option linter.unusedVariables false
set_option maxRecDepth 10000
def inL (n:Nat) (l:Nat→Nat):List Value:=(List.range n).map fun j=> .int .i64 (l j:Nat)
theorem inL_len (n:Nat) (l:Nat→Nat):(inL n l).length=n:=by simp [inL]
theorem inL_get (n:Nat) (l:Nat→Nat) (j:Nat) (h:j<n):(inL n l)[j]?=some (.int .i64 (l j:Nat)):=by
 simp [inL,List.getElem?_map,List.getElem?_range h]
theorem inL_snoc (n:Nat) (l:Nat→Nat):inL (n+1) l=inL n l++ [.int .i64 (l n:Nat)]:=by simp [inL,List.range_succ]
theorem infoI:(Tryd.prog.info? 3).map (fun i=>(i.zero,i.size,i.bytes))=some (some (.int .i64 0),1,8):=by kernel_rfl
def OwI (w:World) (B:Nat) (v:Value) (n:Nat) (l:Nat→Nat):Prop:=w.ownsRow B 3 1 v n (inL n l)
theorem OwI.cell {w:World} {B:Nat} {A:Option Addr} {n c:Nat} {l:Nat→Nat} (h:OwI w B (.slice A n c) n l) (j:Nat) (hj:j<n): ∃g,A=some ⟨g,0,none⟩∧B≤g∧g<w.heap.size∧w.cell? ⟨g,j,none⟩=some (.int .i64 (l j:Nat)):=by
 obtain⟨g,cap,hv,hg,hlt⟩:=World.ownsRow.form h (by omega)
 injection hv with e1 e2 e3
 subst e1
 refine⟨g,rfl,hg,hlt,?_⟩
 have hc:=World.ownsRow.cells h (g:=g) rfl j _ (inL_get n l j hj)
 have:(⟨g,0,none⟩:Addr).add j=⟨g,0+j,none⟩:=by unfold Addr.add;split<;>simp_all
 rw [this,Nat.zero_add]at hc
 exact hc
theorem own_block {w:World} {base:Nat} {e:TypeId} {size:Nat} {v:Value} {n:Nat} {xs:List Value} (h:w.ownsRow base e size v n xs) {g:Nat} (hg:v.ownBlock=some g):base≤g:=by
 rcases h.2 with ⟨rfl,_⟩|⟨g0,cap,cur,rfl,hb,_⟩
 ·simp [Value.ownBlock]at hg
 ·simp [Value.ownBlock]at hg;omega
theorem bit_facts (x t p q:Nat) (hx:x<256) (hp:p=x/2^t) (hq:q=p%2):
  (wrap64 ((x:Int)/2^t)=(p:Int)∧IntKind.i64.wrap ((x:Int)/2^t)=(p:Int))∧(p:Int).tmod 2=(q:Int)∧(p:Int)%2=(q:Int):=by
 have h1:p≤x:=by rw [hp];exact Nat.div_le_self _ _
 have e:(x:Int)/2^t=(p:Int):=by rw [hp,Int.natCast_ediv,Int.natCast_pow];rfl
 refine⟨⟨?_,?_⟩,?_,by omega⟩
 ·rw [e];exact IntWalk.wrap64_in _ (by omega)
 ·rw [e];exact wraps_i64' _ (by omega) (by omega)
 ·rw [Int.tmod_eq_emod_of_nonneg (by omega)];omega
end
section
open Go.RowKit
set_option linter.unusedVariables false
set_option maxRecDepth 100000
theorem Tryd.arr16x:Tryd.prog.underlying 35=some (.array 16 5):=by kernel_rfl
theorem Tryd.zero16x:(Tryd.prog.info? 35).map (fun i=>(i.zero,i.size))=some (some (.agg (Array.replicate 16 (.int .u8 0))),16):=by kernel_rfl
theorem size16x (f:Nat→Nat):(Tryd.prog.info? 35).map (·.size)=some (arL 16 f).length:=by rw [arL_len];exact(zero_of_info Tryd.zero16x).2
theorem zero16x (w:World):(zeroValue 35).run Tryd.prog w= .ok (.agg (arL 16 fun _=>0).toArray) w:=by
 rw [arL_zero];exact(zero_of_info Tryd.zero16x).1 w
def pre8 (l:Nat→Nat) (j:Nat):Nat→Nat
 |0=>0
 |m+1=>pre8 l j m*2+l (8*j+m)
theorem pre8_all (l:Nat→Nat) (j:Nat):pre8 l j 8=by8 l j:=by simp [pre8,by8]
theorem pre8_lt (l:Nat→Nat) (hl: ∀k,k<128→l k<2) (j:Nat) (hj:j<16): ∀m,m≤8→pre8 l j m<2^m
 |0,_=>by simp [pre8]
 |m+1,h=>by
  have h1:=pre8_lt l hl j hj m (by omega)
  have h2:=hl (8*j+m) (by omega)
  rw [pre8,Nat.pow_succ];omega
def pbF (l:Nat→Nat) (i j:Nat):Nat:=pre8 l j (min 8 (i-8*j))
theorem pbF_zero (l:Nat→Nat) (j:Nat):pbF l 0 j=0:=by simp [pbF,pre8]
theorem pbF_all (l:Nat→Nat) (j:Nat) (hj:j<16):pbF l 128 j=by8 l j:=by rw [pbF,show min 8 (128-8*j)=8 by omega,pre8_all]
theorem pbF_at (l:Nat→Nat) (i q:Nat) (hq:q=i/8):pbF l i q=pre8 l q (i%8):=by rw [pbF,show min 8 (i-8*q)=i%8 by omega]
theorem pbF_step (l:Nat→Nat) (i q j:Nat) (hq:q=i/8):(if j=q then pbF l i q*2+l i else pbF l i j)=pbF l (i+1) j:=by
 by_cases h:j=q
 ·subst h
  rw [if_pos rfl,pbF_at l i j hq,pbF,show min 8 (i+1-8*j)=i%8+1 by omega,pre8,show 8*j+i%8=i by omega]
 ·rw [if_neg h,pbF,pbF,show min 8 (i+1-8*j)=min 8 (i-8*j)by omega]
end
section
open Go.RowKit
set_option linter.unusedVariables false
set_option maxRecDepth 100000
theorem Tryd.arr24:Tryd.prog.underlying 117=some (.array 24 5):=by kernel_rfl
end
section
open Go.RowKit
set_option linter.unusedVariables false
set_option maxRecDepth 100000
theorem cell_lt8 {W:World} {g o:Nat} {x:Value} (h:W.cell? ⟨g,o,none⟩=some x):g<W.heap.size:=by
 rcases Nat.lt_or_ge g W.heap.size with h1|h1
 ·exact h1
 ·simp [World.cell?,Array.getElem?_eq_none h1]at h
theorem shB_one_lt (f:Nat→Nat) (hf: ∀j,j<16→f j<256) (j:Nat):shB (cut 16 f) 1 j<256:=by
 rw [shB_one]
 have:=cut_lt hf j
 have:=cut_lt hf (j+1)
 omega
theorem own_spare {w:World} {base:Nat} {e:TypeId} {g n c:Nat} {xs:List Value} (h:w.ownsRow base e 1 (.slice (some ⟨g,0,none⟩) n c) n xs) (hn:0<n) (j:Nat) (hj:j<c):
  (w.cell? ⟨g,j,none⟩).isSome=true∧w.frozen? ⟨g,j,none⟩=false:=by
 refine⟨?_,World.ownsRow.frozenAt h j⟩
 rcases h.2 with ⟨h1,_⟩|⟨g0,cap,cur,hv,_,hcell,_,_,hsz,_⟩
 ·cases h1
 ·injection hv with e1 e2 e3
  injection e1 with e1
  injection e1 with e1
  subst e1 e3
  simp [World.cell?,hcell]
  omega
end
section
open Go.RowKit
set_option linter.unusedVariables false
set_option maxRecDepth 100000
theorem xor_part (f k:Nat→Nat) (n m:Nat):(if m=n then f n^^^k n else(if m<n then adF f k m else f m))=if m<n+1 then adF f k m else f m:=by
 by_cases h:m=n
 ·rw [if_pos h,if_pos (by omega),h];rfl
 ·rw [if_neg h]
  by_cases h2:m<n
  ·rw [if_pos h2,if_pos (by omega)]
  ·rw [if_neg h2,if_neg (by omega)]
theorem arrayAt16 (g o c:Nat) (w:World):(Instr.arrayAt 35 (.slice (some ⟨g,o,none⟩) 16 c)).run Tryd.prog w= .ok (.pointer (some ⟨g,o,none⟩)) w:=by
 simp [Instr.arrayAt,run_underlying Tryd.arr16x]
end
section
open Go.RowKit
set_option linter.unusedVariables false
set_option maxRecDepth 100000
def padL (l:List UInt8) (n:Nat):List UInt8:=l++128::List.replicate (n-(l.length+1)) 0
theorem padL_len (l:List UInt8) (n:Nat) (h:l.length+1≤n):(padL l n).length=n:=by simp [padL];omega
theorem padL_snoc (l:List UInt8) (n:Nat) (h:l.length+1≤n):padL l (n+1)=padL l n++ [0]:=by
 unfold padL
 rw [show n+1-(l.length+1)=n-(l.length+1)+1 by omega,List.replicate_succ']
 simp
theorem padL_first (l:List UInt8):padL l (l.length+1)=l++ [128]:=by simp [padL]
def slLen:Value→Nat
 | .slice _ m _=>m
 |_=>0
def lF (l:List UInt8) (j:Nat):Nat:=(l.getD j 0).toNat
theorem info8x:(Tryd.prog.info? 5).map (fun i=>(i.zero,i.size,i.bytes))=some (some (.int .u8 0),1,1):=by kernel_rfl
def Ow8 (w:World) (B:Nat) (v:Value) (n:Nat) (l:List UInt8):Prop:=w.ownsRow B 5 1 v n (l.map b8)
theorem map_b8_snoc (l:List UInt8) (x:UInt8):(l++ [x]).map b8=l.map b8++ [b8 x]:=by simp
end
section
open Go.RowKit
set_option linter.unusedVariables false
set_option maxRecDepth 100000
theorem or_top: ∀a,a<128→ ∀b,b<2→a*2|||b=a*2+b:=by decide+kernel
theorem or_low: ∀a,a<128→ ∀b,b<2→a|||b*128=a+b*128:=by decide+kernel
theorem db_low (f:Nat→Nat) (n:Nat) (hn:n<15) (hf:B16 f):f n*2%256|||f (n+1)/128=dbF f n:=by
 have h0:=hf n (by omega)
 have h1:=hf (n+1) (by omega)
 have:=or_top (f n%128) (by omega) (f (n+1)/128) (by omega)
 rw [show f n%128*2=f n*2%256 by omega]at this
 unfold dbF
 rw [shB_one,if_neg (by omega),Nat.xor_zero,show cut 16 f n=f n from if_pos (by omega),show cut 16 f (n+1)=f (n+1)from if_pos (by omega),this]
theorem db_last (f:Nat→Nat):f 15*2%256^^^f 0/128*135=dbF f 15:=by
 unfold dbF
 rw [shB_one,if_pos rfl,show cut 16 f 15=f 15 from if_pos (by omega),show cut 16 f (15+1)=0 from if_neg (by omega)]
 simp
theorem part_step (F G:Nat→Nat) (n m:Nat):(if m=n then F n else(if m<n then F m else G m))=if m<n+1 then F m else G m:=by
 by_cases h:m=n
 ·rw [if_pos h,if_pos (by omega),h]
 ·rw [if_neg h]
  by_cases h2:m<n
  ·rw [if_pos h2,if_pos (by omega)]
  ·rw [if_neg h2,if_neg (by omega)]
set_option maxHeartbeats 1600000 in
theorem bdouble (f:Nat→Nat) (w:World) (hf:B16 f):
  Calls Tryd.prog 26 #[.agg (arL 16 f).toArray] w fun e w'=>e= .returned (.agg (arL 16 (dbF f)).toArray)∧Below w.heap.size w w':=by
 have hz:=zero16x
 obtain⟨kA,hkA⟩:=Le ((arL 16 f).toArray)
 obtain⟨w1,hw1⟩:=Lv (w.alloc (.cells (arL 16 f).toArray 35))
 have hs1:=Zs1 hw1
 have hb1:=Bl hw1
 have hK1:Ar w1 w.heap.size 16 f:=by rw [hw1];exact Ar.new w 16 f _
 obtain⟨w2,hw2⟩:=Lv (w1.alloc (.cells (arL 16 fun _=>0).toArray 35))
 have hB2:=Bm hw2 hb1
 have hR2:Ar w2 (w.heap.size+1) 16 (fun _=>0):=by rw [hw2,←hs1];exact Ar.new w1 16 _ _
 have hK2:=ara hw2 hK1
 rw [hkA]at hw1
 rw [hkA]
 clear hb1 hK1 hkA
 have HF:=Lib.hid hf
 have h00:=hf 0 (by omega)
 clear hf
 go_enter Tryd.func26,Tryd.ntmps26
 go_upto_region 1 with fail
 rw [←hw1,←hw2]
 clear hw1 hw2 hs1
 obtain⟨gR,hgR⟩:=Le (w.heap.size+1)
 have hlR:w.heap.size<gR:=by omega
 rw [hgR]at hR2
 try rw [hgR]
 clear hgR
 obtain⟨c00,_⟩:=hK2 0 (by omega)
 obtain⟨o,ho⟩:=Lv (f 0/128)
 have ho2:o<2:=by omega
 have e0:((f 0:Nat):Int)/128=(o:Int):=by omega
 have HO:=Lib.hid ho
 clear ho
 go_upto_region 3 with fail
 clear c00 e0 h00
 go_wp2_with fail
 go_loopw [8] (fun i wr=> ∃n:Nat,n≤15∧i= .int .i64 n∧Ar wr w.heap.size 16 (fun m=>if m<n then dbF f m else f m)∧Ar wr gR 16 (fun _=>0)∧Below w.heap.size w wr) (fun i _=>15-(intOf i).toNat)
 case atStart=>exact⟨0,Nat.zero_le _,rfl,hK2.ext (fun _ _=>rfl),hR2,hB2⟩
 case round=>
  clear hK2 hR2 hB2
  obtain⟨n,hn,rfl,hK,hR,hB⟩:=hrel
  by_cases hlt:n<15
  ·have i1:(n:Int)<15:=by omega
   have i2:(n:Int)+1<16:=by omega
   obtain⟨c0,f0⟩:=hK n (by omega)
   obtain⟨c1,_⟩:=hK (n+1) (by omega)
   dsimp only at c0 c1
   rw [show(if n<n then dbF f n else f n)=f n from if_neg (by omega)]at c0
   rw [show(if n+1<n then dbF f (n+1)else f (n+1))=f (n+1)from if_neg (by omega)]at c1
   have x0:=HF.out n (by omega)
   have x1:=HF.out (n+1) (by omega)
   obtain⟨p,hp⟩:=Lv (f n*2%256)
   obtain⟨q,hq⟩:=Lv (f (n+1)/128)
   have hor:bits BinOp.or IntKind.u8 (p:Int) (q:Int)=((dbF f n:Nat):Int):=by rw [or_u8 p q (by omega) (by omega),hp,hq,db_low f n hlt HF.out]
   have a1:IntKind.u8.wrap (((f n:Nat):Int)*2)=(p:Int):=by rw [IntKind.wrap_u8];omega
   have a2:((f n:Nat):Int)*2%256=(p:Int):=by omega
   have a3:((f (n+1):Nat):Int)/128=(q:Int):=by omega
   have hK2:=Lib.hid ((hK.set (j:=n) (v:=dbF f n) (by omega) rfl).ext (fun m _=>part_step (dbF f) f n m))
   have hR2:=Lib.hid (hR.far (p:=⟨w.heap.size,n,none⟩) (by simp;omega) (.int .u8 (dbF f n:Nat)))
   have hB2:=Lib.hid (hB.setCell (p:=⟨w.heap.size,n,none⟩) (by simp) (.int .u8 (dbF f n:Nat)))
   clear hK hR hB hp hq
   generalize dbF f n=z at*
   generalize f (n+1)=y at*
   generalize f n=x at*
   go_wp2_with fail
   refine wp_region_noPanic ?_
   go_big_region
   refine NoPanic.normal ?_
   clear a1 a2 a3 hor c0 c1 f0
   go_wp2_with fail
   go_roundw
   case rel=>exact⟨n+1,by omega,by go_num,hK2.out.drew,hR2.out.drew,hB2.out.drew⟩
   case measure=>simp [intOf];omega
  ·obtain rfl:n=15:=by omega
   obtain⟨c0,f0⟩:=hK 15 (by omega)
   dsimp only at c0
   rw [show(if 15<15 then dbF f 15 else f 15)=f 15 from if_neg (by omega)]at c0
   have x0:=HF.out 15 (by omega)
   obtain⟨p,hp⟩:=Lv (f 15*2%256)
   obtain⟨r,hr⟩:=Lv (o*135)
   have hxo:bits BinOp.xor IntKind.u8 (p:Int) (r:Int)=((dbF f 15:Nat):Int):=by rw [xor_n8 p r (by omega) (by omega),hp,hr,HO.out,db_last f]
   have a1:IntKind.u8.wrap (((f 15:Nat):Int)*2)=(p:Int):=by rw [IntKind.wrap_u8];omega
   have a2:((f 15:Nat):Int)*2%256=(p:Int):=by omega
   have a3:(o:Int)*135=(r:Int):=by omega
   have a4:IntKind.u8.wrap ((o:Int)*135)=(r:Int):=by rw [IntKind.wrap_u8];omega
   have hK2:=((hK.set (j:=15) (v:=dbF f 15) (by omega) rfl).ext (f':=dbF f) (fun m hm=>by
    by_cases h:m=15
    ·rw [if_pos h,h]
    ·rw [if_neg h,if_pos (by omega)]))
   have hR2:=hR.far (p:=⟨w.heap.size,15,none⟩) (by simp;omega) (.int .u8 (dbF f 15:Nat))
   have hB2:=hB.setCell (p:=⟨w.heap.size,15,none⟩) (by simp) (.int .u8 (dbF f 15:Nat))
   clear hK hR hB hp hr
   obtain⟨z,hz15⟩:=Le (dbF f 15)
   rw [hz15]at hK2 hR2 hB2 hxo
   clear hz15
   generalize f 15=x at*
   go_upto_region 8 with fail
   clear a1 a2 a3 a4 hxo
   go_wp2_with (first
    |(refine wpList_load_ar rfl _ _ rfl _ _ _ rfl hK2 Tryd.arr16x (size16x _) ?_)
    |(refine wpList_store_ar rfl _ _ _ rfl _ _ _ (dbF f) rfl rfl hR2 (size16x _) ?_;intro w8 hA8 hb8 _ _))
   refine bodyPost_ret_ar rfl rfl hA8 Tryd.arr16x (size16x _) rfl ⟨rfl,?_⟩
   exact hB2.trans (hb8.mono (by omega))
end
section
open Go.RowKit
set_option linter.unusedVariables false
set_option maxRecDepth 100000
set_option maxHeartbeats 1600000 in
theorem bxor (f k:Nat→Nat) (w:World) (hf:B16 f) (hk:B16 k):
  Calls Tryd.prog 62 #[.agg (arL 16 f).toArray,.agg (arL 16 k).toArray] w fun e w'=>e= .returned (.agg (arL 16 (adF f k)).toArray)∧Below w.heap.size w w':=by
 have hz:=zero16x
 obtain⟨kA,hkA⟩:=Le ((arL 16 f).toArray)
 obtain⟨kB,hkB⟩:=Le ((arL 16 k).toArray)
 obtain⟨w1,hw1⟩:=Lv (w.alloc (.cells (arL 16 f).toArray 35))
 have hs1:=Zs1 hw1
 have hb1:=Bl hw1
 have hK1:Ar w1 w.heap.size 16 f:=by rw [hw1];exact Ar.new w 16 f _
 obtain⟨w2,hw2⟩:=Lv (w1.alloc (.cells (arL 16 k).toArray 35))
 have hs2:=Zs2 hw2 hs1
 have hb2:=Bm hw2 hb1
 have hC2:Ar w2 (w.heap.size+1) 16 k:=by rw [hw2,←hs1];exact Ar.new w1 16 k _
 have hK2:=ara hw2 hK1
 obtain⟨w3,hw3⟩:=Lv (w2.alloc (.cells (arL 16 fun _=>0).toArray 35))
 have hB3:=Bm hw3 hb2
 have hR3:Ar w3 (w.heap.size+2) 16 (fun _=>0):=by rw [hw3,←hs2];exact Ar.new w2 16 _ _
 have hC3:=ara hw3 hC2
 have hK3:=ara hw3 hK2
 have HKA:=Lib.hid hkA
 have HKB:=Lib.hid hkB
 rw [hkA]at hw1
 rw [hkB]at hw2
 rw [hkA,hkB]
 clear hb1 hK1 hkA hkB hb2 hK2 hC2
 have HF:=Lib.hid hf
 have HK:=Lib.hid hk
 clear hf hk
 go_enter Tryd.func62,Tryd.ntmps62
 go_upto_region 1 with fail
 rw [←hw1,←hw2,←hw3]
 clear hw1 hw2 hw3 hs1 hs2
 obtain⟨gC,hgC⟩:=Le (w.heap.size+1)
 obtain⟨gR,hgR⟩:=Le (w.heap.size+2)
 have hgR2:w.heap.size+1+1=gR:=hgR
 have hlC:w.heap.size<gC:=by omega
 have hlR:gC<gR:=by omega
 rw [hgC]at hC3
 rw [hgR]at hR3
 try rw [hgR2]
 try rw [hgR]
 try rw [hgC]
 clear hgC hgR hgR2
 go_wp2_with fail
 go_loopw [6] (fun i wr=> ∃n:Nat,n≤16∧i= .int .i64 n∧Ar wr w.heap.size 16 (fun m=>if m<n then adF f k m else f m)∧Ar wr gC 16 k∧Ar wr gR 16 (fun _=>0)∧Below w.heap.size w wr) (fun i _=>16-(intOf i).toNat)
 case atStart=>exact⟨0,Nat.zero_le _,rfl,hK3.ext (fun _ _=>rfl),hC3,hR3,hB3⟩
 case round=>
  clear hK3 hC3 hR3 hB3
  obtain⟨n,hn,rfl,hK,hC,hR,hB⟩:=hrel
  by_cases hlt:n<16
  ·have i1:(n:Int)<16:=by omega
   obtain⟨c0,f0⟩:=hK n hlt
   dsimp only at c0
   rw [show(if n<n then adF f k n else f n)=f n from if_neg (by omega)]at c0
   obtain⟨c1,_⟩:=hC n hlt
   have hxx:bits BinOp.xor IntKind.u8 ((f n:Nat):Int) ((k n:Nat):Int)=((f n^^^k n:Nat):Int):=xor_n8 _ _ (HF.out n hlt) (HK.out n hlt)
   have hK2:=Lib.hid ((hK.set (j:=n) (v:=f n^^^k n) (by omega) rfl).ext (fun m _=>xor_part f k n m))
   have hC2:=Lib.hid (hC.far (p:=⟨w.heap.size,n,none⟩) (by simp;omega) (.int .u8 (f n^^^k n:Nat)))
   have hR2:=Lib.hid (hR.far (p:=⟨w.heap.size,n,none⟩) (by simp;omega) (.int .u8 (f n^^^k n:Nat)))
   have hB2:=Lib.hid (hB.setCell (p:=⟨w.heap.size,n,none⟩) (by simp) (.int .u8 (f n^^^k n:Nat)))
   clear hK hC hR hB
   generalize f n^^^k n=z at*
   generalize f n=x at*
   generalize k n=y at*
   go_wp2_with fail
   refine wp_region_noPanic ?_
   go_big_region
   refine NoPanic.normal ?_
   go_wp2_with fail
   go_roundw
   case rel=>exact⟨n+1,by omega,by go_num,hK2.out.drew,hC2.out.drew,hR2.out.drew,hB2.out.drew⟩
   case measure=>simp [intOf];omega
  ·obtain rfl:n=16:=by omega
   have hK2:=hK.ext (f':=adF f k) (fun j hj=>by rw [if_pos (by omega)])
   clear hK
   go_wp2_with (first
    |(refine wpList_load_ar rfl _ _ rfl _ _ _ rfl hK2 Tryd.arr16x (size16x _) ?_)
    |(refine wpList_store_ar rfl _ _ _ rfl _ _ _ (adF f k) rfl rfl hR (size16x _) ?_;intro w8 hA8 hb8 _ _))
   refine bodyPost_ret_ar rfl rfl hA8 Tryd.arr16x (size16x _) rfl ⟨rfl,?_⟩
   exact hB.trans (hb8.mono (by omega))
end
section
open Go.RowKit
set_option linter.unusedVariables false
set_option maxRecDepth 100000
theorem hv_or (f:Nat→Nat) (n q:Nat) (hq:n=q+1) (hn:n<16) (hf:B16 f):hvG f n/2|||hvG f q*128%256=hvF f n:=by
 have h0:=hvG_lt hf n hn
 have h1:=hvG_lt hf q (by omega)
 have:=or_low (hvG f n/2) (by omega) (hvG f q%2) (by omega)
 unfold hvF
 rw [if_neg (by omega),show n-1=q by omega,show hvG f q*128%256=hvG f q%2*128 by omega,this]
theorem hv_zero (f:Nat→Nat) (hf:B16 f):hvG f 0/2|||f 15%2*128=hvF f 0:=by
 have h0:=hvG_lt hf 0 (by omega)
 unfold hvF
 rw [if_pos rfl,or_low (hvG f 0/2) (by omega) (f 15%2) (by omega)]
theorem hvG_low (f:Nat→Nat) (j:Nat) (hj:j≠15):hvG f j=f j:=by unfold hvG;rw [if_neg hj,Nat.xor_zero]
theorem hvG_top (f:Nat→Nat):hvG f 15=f 15^^^f 15%2*135:=by unfold hvG;rw [if_pos rfl]
def hvP (f:Nat→Nat) (n m:Nat):Nat:=if n<m then hvF f m else hvG f m
theorem hvP_step (f:Nat→Nat) (n q m:Nat) (hq:n=q+1):(if m=n then hvF f n else hvP f n m)=hvP f q m:=by
 unfold hvP
 by_cases h:m=n
 ·rw [if_pos h,if_pos (by omega),h]
 ·rw [if_neg h]
  by_cases h2:n<m
  ·rw [if_pos h2,if_pos (by omega)]
  ·rw [if_neg h2,if_neg (by omega)]
theorem and1_u8 (a:Nat) (ha:a<256):bits .and .u8 (a:Int) 1=((a%2:Nat):Int):=by
 have h:=(bits_nat .u8 8 (by decide) wraps_u8 a 1 ha (by decide)).1
 rw [Nat.and_one_is_mod]at h
 exact h
end
section
open Go.RowKit
set_option linter.unusedVariables false
set_option maxRecDepth 100000
theorem splice_ar (n m:Nat) (F G:Nat→Nat) (o:Nat) (h:o+m≤n):splice (arL n F) o (arL m G)=arL n (fun i=>if o≤i∧i<o+m then G (i-o)else F i):=by
 apply List.ext_getElem?
 intro j
 unfold splice
 have l1:((arL n F).take o).length=o:=by rw [List.length_take,arL_len];omega
 rcases Nat.lt_or_ge j n with h1|h1
 ·rw [arL_get n _ j h1]
  rcases Nat.lt_or_ge j o with h2|h2
  ·rw [List.getElem?_append_left (by omega),List.getElem?_take,if_pos h2,arL_get n F j h1,if_neg (by omega)]
  ·rw [List.getElem?_append_right (by omega),l1]
   rcases Nat.lt_or_ge (j-o) m with h3|h3
   ·rw [List.getElem?_append_left (by rw [arL_len];exact h3),arL_get m G _ h3,if_pos (by omega)]
   ·rw [List.getElem?_append_right (by rw [arL_len];exact h3),arL_len,List.getElem?_drop,show o+m+(j-o-m)=j by omega,arL_get n F j h1,if_neg (by omega)]
 ·rw [List.getElem?_eq_none (l:=arL n _) (by rw [arL_len];exact h1),List.getElem?_eq_none (by rw [List.length_append,l1,List.length_append,arL_len,List.length_drop,arL_len];omega)]
def Wb (w:World) (g n:Nat) (F:Nat→Nat) (t:TypeId):Prop:=w.heap[g]?=some (.cells (arL n F).toArray t (0,0))
theorem Wb.new (w:World) (n:Nat) (F:Nat→Nat) (t:TypeId):Wb (w.alloc (.cells (arL n F).toArray t)) w.heap.size n F t:=by
 show(w.heap.push _)[w.heap.size]?=_
 rw [Array.getElem?_push_size]
section
variable {w w':World} {g n:Nat} {F:Nat→Nat} {t:TypeId}
theorem Wb.lt (h:Wb w g n F t):g<w.heap.size:=by
 rcases Nat.lt_or_ge g w.heap.size with h1|h1
 ·exact h1
 ·unfold Wb at h;rw [Array.getElem?_eq_none h1]at h;cases h
theorem Wb.to (h:Wb w g n F t) (hb:Below w.heap.size w w'):Wb w' g n F t:=(hb.block g h.lt).trans h
theorem Wb.keep {B:Nat} (h:Wb w g n F t) (hg:g<B) (hb:Below B w w'):Wb w' g n F t:=(hb.block g hg).trans h
theorem Wb.alloc (h:Wb w g n F t) (o:Obj):Wb (w.alloc o) g n F t:=h.to ((Below.refl _ _).alloc (Nat.le_refl _) o)
theorem Wb.ar (h:Wb w g n F t):Ar w g n F:=fun j hj=>by
 unfold Wb at h
 refine⟨?_,?_⟩
 ·simp only [World.cell?,h]
  simp
  exact arL_get n F j hj
 ·simp only [World.frozen?,h]
  simp
theorem Wb.ext {F':Nat→Nat} (h:Wb w g n F t) (he: ∀j,j<n→F j=F' j):Wb w g n F' t:=by
 unfold Wb;rw [←arL_ext he];exact h
theorem Ar.src (h:Ar w g n F): ∀j v,(arL n F)[j]?=some v→w.cell? ((⟨g,0,none⟩:Addr).add j)=some v:=fun j v hv=>by
 rw [Addr.add_mid];exact h.range j v hv
end
theorem lF_lt (l:List UInt8) (j:Nat):lF l j<256:=UInt8.toNat_lt _
theorem map_lF (l:List UInt8) (n:Nat) (h:l.length=n):l.map b8=arL n (lF l):=by
 apply List.ext_getElem?
 intro j
 rcases Nat.lt_or_ge j n with h1|h1
 ·rw [arL_get n _ j h1,List.getElem?_map,List.getElem?_eq_getElem (by omega)]
  simp [b8,n8,lF,List.getD,List.getElem?_eq_getElem (show j<l.length by omega)]
 ·rw [List.getElem?_eq_none (by simp;omega),List.getElem?_eq_none (by rw [arL_len];exact h1)]
theorem Sl.of_ar {w:World} {g n:Nat} {l:List UInt8} (h:Ar w g n (lF l)) (hl:l.length=n) (hg:g<w.heap.size):Sl w w.heap.size (some ⟨g,0,none⟩) n l:=
 ⟨hl,fun hn=>⟨g,0,rfl,hg,fun j u hj=>by
  have hjl:j<l.length:=(List.getElem?_eq_some_iff.1 hj).1
  rw [Nat.zero_add,(h j (by omega)).1]
  have e:l[j]=u:=by rw [List.getElem?_eq_getElem hjl]at hj;exact Option.some.inj hj
  simp [b8,lF,List.getD,List.getElem?_eq_getElem hjl,e]⟩⟩
theorem Sl.src {w:World} {B n:Nat} {A:Option Addr} {l:List UInt8} (h:Sl w B A n l) (hn:0<n): ∃ad,A=some ad∧ ∀j v,(l.map b8)[j]?=some v→w.cell? (ad.add j)=some v:=by
 obtain⟨b,off,e,hb,hc⟩:=h.2 hn
 refine⟨⟨b,off,none⟩,e,fun j v hv=> ?_⟩
 rw [List.getElem?_map]at hv
 obtain⟨u,hu,rfl⟩:=Option.map_eq_some_iff.1 hv
 rw [Addr.add_mid];exact hc j u hu
theorem Tryd.sl8:Tryd.prog.underlying 22=some (.slice 5):=by kernel_rfl
theorem Tryd.sz8:(Tryd.prog.info? 5).map (·.size)=some 1:=by kernel_rfl
theorem slice16h (g n:Nat) (hn:n≤16) (w:World):(Instr.sliceAt 35 (.pointer (some ⟨g,0,none⟩)) none (some (.int .i64 (n:Int))) none).run Tryd.prog w= .ok (.slice (some ⟨g,0,none⟩) n 16) w:=by
 have hal:Tryd.prog.arrayLen 35=16:=by simp [Program.arrayLen]
 have hel:Tryd.prog.elem 35=5:=by simp [Program.elem]
 have hs:(sizeOf 5).run Tryd.prog w= .ok 1 w:=by kernel_rfl
 rw [run_sliceAt_array_h w 35 ⟨g,0,none⟩ (by rw [hal,hel];exact Tryd.arr16x) .i64 (n:Int) (by omega) (by rw [hal];omega),hal,hel,hs]
 simp [Result.andThen_ok,slicedAt,Addr.add]
theorem make8 (n:Nat) (hn:n≤1000000) (V:World):(Instr.makeSlice 22 (.int .i64 (n:Int)) (.int .i64 (n:Int))).run Tryd.prog V= .ok (.slice (some ⟨V.heap.size,0,none⟩) n n) (V.alloc (.cells (arL n fun _=>0).toArray 5)):=by
 have hi:=info8x
 cases hq:Tryd.prog.info? 5 with
 |none=>rw [hq]at hi;cases hi
 |some i=>
  rw [hq]at hi
  simp only [Option.map_some,Option.some.injEq,Prod.mk.injEq]at hi
  obtain⟨h1,h2,h3⟩:=hi
  have h:=run_make (P:=Tryd.prog) V 22 5 i _ Tryd.underlying22 hq h1 .i64 .i64 n n (by omega) (by omega) (by rw [h3];omega) (by omega)
  have hm:madeCells (Value.int .u8 0).cells n=(arL n fun _=>0).toArray:=by
   rw [arL_zero]
   unfold madeCells
   apply Array.ext_getElem?
   intro j
   rcases Nat.lt_or_ge j n with hj|hj
   ·simp [hj,Value.cells,Nat.mod_one]
   ·simp [hj]
  rw [h,h2,Int.toNat_natCast,Nat.mul_one,hm]
set_option maxHeartbeats 800000 in
theorem bclone (A:Option Addr) (n c:Nat) (l:List UInt8) (w:World) (h:Sl w w.heap.size A n l) (hn:n≤1000000):
  Calls Tryd.prog 85 #[.slice A n c] w fun e w'=>e= .returned (.slice (some ⟨w.heap.size,0,none⟩) n n)∧Ar w' w.heap.size n (lF l)∧w.heap.size<w'.heap.size∧Below w.heap.size w w':=by
 have hmk:=make8 n hn
 have hlen:=h.len
 obtain⟨w1,hw1⟩:=Lv (w.alloc (.cells (arL n fun _=>0).toArray 5))
 have hW1:Wb w1 w.heap.size n (fun _=>0) 5:=by rw [hw1];exact Wb.new w n _ _
 have hb1:=Bl hw1
 have hS1:Sl w1 w.heap.size A n l:=h.below hb1
 have hl1:=hW1.lt
 obtain⟨g,hg⟩:=Le (w.heap.size)
 have hsrc:=Lib.hid (fun h0=>hS1.src h0)
 have hcs:=map_lF l n hlen
 have HMi:=Lib.hid (show(l.map b8).length=Nat.min n n by simp [hlen])
 have HFi:=Lib.hid (show 0+(l.map b8).length≤(arL n fun _=>0).length by rw [arL_len];simp [hlen])
 have HLE:=Lib.hid (show∀h:0<(l.map b8).length,0<n by intro h;simpa [hlen]using h)
 obtain⟨cs,hcse⟩: ∃cs:List Value,l.map b8=cs:=⟨_,rfl⟩
 have h1c:=Lib.hid (one_b8 l)
 rw [hcse]at hsrc HMi HFi HLE hcs h1c
 have hspl:=Lib.hid (show splice (arL n fun _=>0) 0 cs=arL n (lF l)by
  rw [hcs,splice_ar n n _ _ 0 (by omega)]
  exact arL_ext (fun j hj=>by rw [if_pos (by omega),Nat.sub_zero]))
 obtain⟨Z,hZ⟩: ∃Z:List Value,arL n (fun _=>0)=Z:=⟨_,rfl⟩
 have HW:=Lib.hid (show w1.heap[g]?=some (.cells Z.toArray 5 (0,0))by rw [←hg,←hZ];exact hW1)
 rw [hZ]at HFi hspl hw1
 have hmk2: ∀V:World,(Instr.makeSlice 22 (.int .i64 (n:Int)) (.int .i64 (n:Int))).run Tryd.prog V= .ok (.slice (some ⟨V.heap.size,0,none⟩) n n) (V.alloc (.cells Z.toArray 5)):=by rw [←hZ];exact hmk
 have hcn:(cs.length:Int)=(n:Int):=by have:=HMi.out;simp at this;omega
 clear hmk hW1 hS1 h hcs hcse hZ
 go_enter Tryd.func85,Tryd.ntmps85
 go_upto_region 2 with fail
 try rw [hg]
 rw [←hw1]
 clear hw1
 go_wp2_with (refine wpList_copy_splice rfl (.tmp 7) (.tmp 8) 22 22 rfl 5 Tryd.sl8 Tryd.sz8 _ _ _ _ _ _ rfl rfl g 0 Z 5 HW.out cs HMi.out (fun h=>⟨rfl,hsrc.out (HLE.out h)⟩) HFi.out h1c.out g w1 (Below.refl _ _) (Nat.le_refl _) ?_;intro w2 hW2 hb2)
 go_ret
 have h2:Wb w2 g n (lF l) 5:=by
  have:=hW2.out
  rw [hspl.out]at this
  exact this
 subst hg
 refine⟨rfl,h2.ar,?_,hb1.trans (hb2.mono (by omega))⟩
 have:=hb2.size;omega
end
section
open Go.RowKit
set_option linter.unusedVariables false
set_option maxRecDepth 100000
theorem lF_pad (l:List UInt8) (n j:Nat) (hl:l.length=n) (hn:n<16) (hj:j<16):lF (padL l 16) j=if j=n then 128 else if j<n then lF l j else 0:=by
 unfold lF padL
 simp only [List.getD]
 by_cases h:j<n
 ·rw [if_neg (by omega),if_pos h,List.getElem?_append_left (by omega)]
 ·rw [List.getElem?_append_right (by omega),hl]
  by_cases h2:j=n
  ·subst h2
   rw [if_pos rfl,Nat.sub_self];rfl
  ·rw [if_neg h2,if_neg h]
   obtain⟨k,hk⟩: ∃k,j-n=k+1:=⟨j-n-1,by omega⟩
   rw [hk,List.getElem?_cons_succ,List.getElem?_replicate,if_pos (by omega)];rfl
def liB (n:Nat) (f:Nat→Nat):List UInt8:=(List.range n).map fun j=>UInt8.ofNat (f j)
theorem liB_len (n:Nat) (f:Nat→Nat):(liB n f).length=n:=by simp [liB]
theorem liB_get (n:Nat) (f:Nat→Nat) (j:Nat) (hj:j<n):(liB n f)[j]?=some (UInt8.ofNat (f j)):=by simp [liB,List.getElem?_map,List.getElem?_range hj]
theorem lF_liB (n:Nat) (f:Nat→Nat) (hf: ∀j,j<n→f j<256) (j:Nat) (hj:j<n):lF (liB n f) j=f j:=by
 unfold lF
 rw [List.getD,liB_get n f j hj]
 exact UInt8.toNat_ofNat_of_lt' (by simpa using hf j hj)
theorem Sl.of_fun {w:World} {B g o n:Nat} {f:Nat→Nat} (hf: ∀j,j<n→f j<256) (hc: ∀j,j<n→w.cell? ⟨g,o+j,none⟩=some (.int .u8 (f j:Nat))) (hg:g<B):Sl w B (some ⟨g,o,none⟩) n (liB n f):=
 ⟨liB_len n f,fun _=>⟨g,o,rfl,hg,fun j u hu=>by
  have hj:j<n:=by have:=(List.getElem?_eq_some_iff.1 hu).1;rwa [liB_len]at this
  rw [liB_get n f j hj]at hu
  obtain rfl:=Option.some.inj hu
  rw [hc j hj,b8_ofNat _ (hf j hj)]⟩⟩
set_option maxHeartbeats 1600000 in
theorem bpad (A:Option Addr) (n c:Nat) (l:List UInt8) (w:World) (h:Sl w w.heap.size A n l) (hn:n<16):
  Calls Tryd.prog 67 #[.slice A n c] w fun e w'=>e= .returned (.tuple #[.agg (arL 16 (lF (padL l 16))).toArray,.bool true])∧Below w.heap.size w w':=by
 have hz:=zero16x
 have hlen:=h.len
 obtain⟨w1,hw1⟩:=Lv (w.alloc (.cells (arL 16 fun _=>0).toArray 35))
 have hs1:=Zs1 hw1
 have hb1:=Bl hw1
 have hR1:Ar w1 w.heap.size 16 (fun _=>0):=by rw [hw1];exact Ar.new w 16 _ _
 obtain⟨w2,hw2⟩:=Lv (w1.alloc (.cells (arL 16 fun _=>0).toArray 35))
 have hb2:=Bm hw2 hb1
 have hW2:Wb w2 (w.heap.size+1) 16 (fun _=>0) 35:=by rw [hw2,←hs1];exact Wb.new w1 16 _ _
 have hR2:=ara hw2 hR1
 have hS2:Sl w2 w.heap.size A n l:=h.below hb2
 clear hb1 hR1 h
 obtain⟨g,hg⟩:=Le (w.heap.size+1)
 have hsrc:=Lib.hid (fun h0=>hS2.src h0)
 have hcs:=map_lF l n hlen
 have HMi:=Lib.hid (show(l.map b8).length=Nat.min n 16 by rw [List.length_map,hlen];exact(Nat.min_eq_left (by omega)).symm)
 have HFi:=Lib.hid (show 0+(l.map b8).length≤(arL 16 fun _=>0).length by rw [arL_len];simp [hlen];omega)
 have HLE:=Lib.hid (show∀h:0<(l.map b8).length,0<n by intro h;simpa [hlen]using h)
 obtain⟨cs,hcse⟩: ∃cs:List Value,l.map b8=cs:=⟨_,rfl⟩
 have h1c:=Lib.hid (one_b8 l)
 rw [hcse]at hsrc HMi HFi HLE hcs h1c
 have hspl:=Lib.hid (show splice (arL 16 fun _=>0) 0 cs=arL 16 (fun j=>if j<n then lF l j else 0)by
  rw [hcs,splice_ar 16 n _ _ 0 (by omega)]
  exact arL_ext (fun j hj=>by simp))
 have hcn:(cs.length:Int)=(n:Int):=by rw [HMi.out.trans (Nat.min_eq_left (by omega))]
 rw [hg]at hW2
 have HW:=Lib.hid (show w2.heap[g]?=some (.cells (arL 16 fun _=>0).toArray 35 (0,0))from hW2)
 have hlg:w.heap.size<g:=by omega
 have i1: ¬(n:Int)≥16:=by omega
 have i2:(n:Int)<16:=by omega
 clear hcs hcse hS2 hW2
 go_enter Tryd.func67,Tryd.ntmps67
 go_upto_region 2 with fail
 rw [←hw1,←hw2]
 try rw [hg]
 clear hw1 hw2 hg hs1
 go_upto_region 5 with (refine wpList_copy_splice rfl (.tmp 9) (.tmp 10) 22 22 rfl 5 Tryd.sl8 Tryd.sz8 _ _ _ _ _ _ rfl rfl g 0 (arL 16 fun _=>0) 35 HW.out cs HMi.out (fun h=>⟨rfl,hsrc.out (HLE.out h)⟩) HFi.out h1c.out g w2 (Below.refl _ _) (Nat.le_refl _) ?_;intro w3 hW3 hb3)
 have hT3:Ar w3 g 16 (fun j=>if j<n then lF l j else 0):=by
  have h:=hW3.out
  rw [hspl.out]at h
  exact Wb.ar (show Wb w3 g 16 _ _ from h)
 have hR3:=hR2.keep hlg hb3
 have hB3:=hb2.trans (hb3.mono (by omega))
 clear hR2 hb2 hb3 hW3 HW hspl hsrc HMi HFi HLE h1c
 obtain⟨c0,f0⟩:=hT3 n hn
 have hT4:=(hT3.set (j:=n) (v:=128) hn rfl).ext (f':=lF (padL l 16)) (fun j hj=>(lF_pad l n j hlen hn hj).symm)
 have hR4:=hR3.far (p:=⟨g,n,none⟩) (by simp;omega) (.int .u8 128)
 have hB4:=hB3.setCell (p:=⟨g,n,none⟩) (by simp;omega) (.int .u8 128)
 clear hT3 hR3 hB3
 try dsimp only [Act.put]
 go_upto_region 6 with fail
 generalize World.setCell w3 ⟨g,n,none⟩ (.int .u8 128)=w4 at*
 clear c0 f0
 go_wp2_with (first
  |(refine wpList_load_ar rfl _ _ rfl _ _ _ rfl hT4 Tryd.arr16x (size16x _) ?_)
  |(refine wpList_store_ar rfl _ _ _ rfl _ _ _ (lF (padL l 16)) rfl rfl hR4 (size16x _) ?_;intro w8 hA8 hb8 _ _))
 refine bodyPost_ret_ar2 rfl rfl rfl hA8 Tryd.arr16x (size16x _) rfl ⟨rfl,?_⟩
 exact hB4.trans (hb8.mono (by omega))
set_option maxHeartbeats 1600000 in
theorem bpad_no (A:Option Addr) (n c:Nat) (w:World) (hn:16≤n):
  Calls Tryd.prog 67 #[.slice A n c] w fun e w'=>e= .returned (.tuple #[.agg (arL 16 fun _=>0).toArray,.bool false])∧Below w.heap.size w w':=by
 have hz:=zero16x
 obtain⟨w1,hw1⟩:=Lv (w.alloc (.cells (arL 16 fun _=>0).toArray 35))
 have hs1:=Zs1 hw1
 have hb1:=Bl hw1
 have hR1:Ar w1 w.heap.size 16 (fun _=>0):=by rw [hw1];exact Ar.new w 16 _ _
 obtain⟨w2,hw2⟩:=Lv (w1.alloc (.cells (arL 16 fun _=>0).toArray 35))
 have hb2:=Bm hw2 hb1
 have hT2:Ar w2 (w.heap.size+1) 16 (fun _=>0):=by rw [hw2,←hs1];exact Ar.new w1 16 _ _
 have hR2:=ara hw2 hR1
 have i1:(n:Int)≥16:=by omega
 clear hb1 hR1
 go_enter Tryd.func67,Tryd.ntmps67
 go_upto_region 2 with fail
 rw [←hw1,←hw2]
 clear hw1 hw2 hs1
 go_wp2_with (first
  |(refine wpList_load_ar rfl _ _ rfl _ _ _ rfl hT2 Tryd.arr16x (size16x _) ?_)
  |(refine wpList_store_ar rfl _ _ _ rfl _ _ _ (fun _=>0) rfl rfl hR2 (size16x _) ?_;intro w8 hA8 hb8 _ _))
 refine bodyPost_ret_ar2 rfl rfl rfl hA8 Tryd.arr16x (size16x _) rfl ⟨rfl,?_⟩
 exact hb2.trans (hb8.mono (by omega))
def Unp (w w':World) (f:Nat→Nat) (e:Ending):Prop:=
 (∃n g,n<16∧f n=128∧(∀j,n<j→j<16→f j=0)∧e= .returned (.tuple #[.slice (some ⟨g,0,none⟩) n n,.bool true])∧Ar w' g n f∧w.heap.size≤g∧g<w'.heap.size∧Below w.heap.size w w')∨
 ((∀n,n<16→f n=128→ ∃j,n<j∧j<16∧f j≠0)∧e= .returned (.tuple #[.slice none 0 0,.bool false])∧Below w.heap.size w w')
end
section
open Go.RowKit
set_option linter.unusedVariables false
set_option maxRecDepth 100000
theorem Tryd.zero25:(Tryd.prog.info? 130).map (fun i=>(i.zero,i.size))=some (some (.agg (Array.replicate 25 (.int .u8 0))),25):=by kernel_rfl
theorem zero25 (w:World):(zeroValue 130).run Tryd.prog w= .ok (.agg (arL 25 fun _=>0).toArray) w:=by
 rw [arL_zero];exact(zero_of_info Tryd.zero25).1 w
def clampN (n:Int):Nat:=(min (max n 0) 64).toNat
theorem clampN_le (n:Int):clampN n≤64:=by unfold clampN;omega
theorem clampN_eq (n:Int):min (max n 0) 64=(clampN n:Int):=by unfold clampN;omega
theorem two_or (s x y:Nat) (hs:s<8) (hx:x<256) (hy:y<256):x*2^s%256|||y/2^(8-s)=x*2^s%256+y/2^(8-s):=by
 have h: ∀s,s<8→ ∀x,x<256→ ∃k,x*2^s%256=2^s*k:=fun s hs x hx=>by
  refine⟨x%2^(8-s),?_⟩
  have e:256=2^s*2^(8-s):=by rw [←Nat.pow_add,show s+(8-s)=8 by omega]
  rw [e,Nat.mul_comm x,Nat.mul_mod_mul_left]
 obtain⟨k,hk⟩:=h s hs x hx
 have hl:y/2^(8-s)<2^s:=by
  rw [Nat.div_lt_iff_lt_mul (by exact Nat.two_pow_pos _),←Nat.pow_add,show s+(8-s)=8 by omega];exact hy
 rw [hk,Nat.two_pow_add_eq_or_of_lt hl]
theorem shl_fact (s x:Nat) (hs:s<8) (hx:x<256):IntKind.u8.wrap ((x:Int)*2^s)=((x*2^s%256:Nat):Int):=by
 rw [IntKind.wrap_u8];simp
theorem shr_fact (s y:Nat):(y:Int)/2^s=((y/2^s:Nat):Int):=by simp
theorem shB_at (f:Nat→Nat) (m q s k:Nat) (hq:q=m/8) (hs:s=m%8) (hf: ∀j,f j<256):f (k+q)*2^s%256|||f (k+q+1)/2^(8-s)=shB f m k:=by
 unfold shB
 rw [two_or s _ _ (by omega) (hf _) (hf _),hq,hs]
set_option maxHeartbeats 1600000 in
theorem bshift (f:Nat→Nat) (n:Int) (w:World) (hf: ∀j,j<24→f j<256):
  Calls Tryd.prog 80 #[.agg (arL 24 f).toArray,.int .i64 n] w fun e w'=>e= .returned (.agg (arL 16 (shB (cut 24 f) (clampN n))).toArray)∧Below w.heap.size w w':=by
 have hz:=zero16x
 have hz25:=zero25
 obtain⟨kA,hkA⟩:=Le ((arL 24 f).toArray)
 obtain⟨w1,hw1⟩:=Lv (w.alloc (.cells (arL 24 f).toArray 117))
 have hs1:=Zs1 hw1
 have hb1:=Bl hw1
 have hK1:Ar w1 w.heap.size 24 f:=by rw [hw1];exact Ar.new w 24 f _
 obtain⟨w2,hw2⟩:=Lv (w1.alloc (.cells (arL 16 fun _=>0).toArray 35))
 have hs2:=Zs2 hw2 hs1
 have hb2:=Bm hw2 hb1
 have hR2:Ar w2 (w.heap.size+1) 16 (fun _=>0):=by rw [hw2,←hs1];exact Ar.new w1 16 _ _
 have hK2:=ara hw2 hK1
 obtain⟨w3,hw3⟩:=Lv (w2.alloc (.cells (arL 25 fun _=>0).toArray 130))
 have hB3:=Bm hw3 hb2
 have hW3:Wb w3 (w.heap.size+2) 25 (fun _=>0) 130:=by rw [hw3,←hs2];exact Wb.new w2 25 _ _
 have hR3:=ara hw3 hR2
 have hK3:=ara hw3 hK2
 rw [hkA]at hw1
 rw [hkA]
 clear hb1 hK1 hkA hb2 hR2 hK2
 have HC:=Lib.hid (cut_lt hf)
 have hmm:=clampN_eq n
 have hml:=clampN_le n
 obtain⟨m,hm⟩:=Le (clampN n)
 rw [hm]at hmm hml⊢
 obtain⟨p,hp⟩: ∃p:Int,max n 0=p:=⟨_,rfl⟩
 rw [hp]at hmm
 have HFR:=Lib.hid (show splice (arL 25 fun _=>0) 0 (arL 24 f)=arL 25 (cut 24 f)by
  rw [splice_ar 25 24 _ _ 0 (by omega)]
  exact arL_ext (fun j hj=>by unfold cut;simp))
 clear hm hf
 go_enter Tryd.func80,Tryd.ntmps80
 go_upto_region 1 with fail
 rw [←hw1,←hw2]
 clear hw1 hw2 hs1
 go_upto_region 2 with fail
 go_upto_region 3 with fail
 rw [←hw3]
 clear hw3 hmm hp
 obtain⟨gR,hgR⟩:=Le (w.heap.size+1)
 obtain⟨gL,hgL⟩:=Le (w.heap.size+2)
 have hgL2:w.heap.size+1+1=gL:=hgL
 have hlR:w.heap.size<gR:=by omega
 have hlL:gR<gL:=by omega
 rw [hgR]at hR3
 rw [hgL]at hW3
 try rw [hs2]
 try rw [hgL2]
 try rw [hgL]
 try rw [hgR]
 clear hgR hgL hgL2 hs2
 have hsrc:=Lib.hid hK3.drew.src
 have HW:=Lib.hid (show w3.drew.heap[gL]?=some (.cells (arL 25 fun _=>0).toArray 130 (0,0))from hW3)
 have HMi:=Lib.hid (show(arL 24 f).length=Nat.min 24 25 by rw [arL_len];rfl)
 have HFi:=Lib.hid (show 0+(arL 24 f).length≤(arL 25 fun _=>0).length by rw [arL_len,arL_len];omega)
 go_region_law (refine step_copy_splice rfl (.tmp 12) (.tmp 13) 22 22 rfl 5 Tryd.sl8 Tryd.sz8 _ _ _ _ _ _ rfl rfl gL 0 (arL 25 fun _=>0) 130 HW.out (arL 24 f) HMi.out (fun _=>⟨rfl,⟨w.heap.size,0,none⟩,rfl,hsrc.out⟩) HFi.out (arL_one 24 _) gL w3.drew (Below.refl _ _) (Nat.le_refl _) ?_;intro w4 hW4 hb4)
 have hL4:Ar w4 gL 25 (cut 24 f):=by
  have h:=hW4.out
  rw [HFR.out]at h
  exact Wb.ar (show Wb w4 gL 25 _ _ from h)
 have hR4:=hR3.drew.keep hlL hb4
 have hB4:=hB3.drew.trans (hb4.mono (by omega))
 have hs4:=hb4.size
 have hl4:gL<w4.heap.size:=hL4.lt (by omega)
 clear hR3 hB3 hb4 hW4 HW hsrc HMi HFi hK3 hW3 HFR hs4
 try dsimp only [Act.put]
 obtain⟨gT,hgT⟩:=Le (w4.heap.size)
 obtain⟨w5,hw5⟩:=Lv (w4.alloc (.cells (arL 16 fun _=>0).toArray 35))
 have hT5:Ar w5 gT 16 (fun _=>0):=by rw [hw5,←hgT];exact Ar.new w4 16 _ _
 have hL5:=ara hw5 hL4
 have hR5:=ara hw5 hR4
 have hB5:=Bm hw5 hB4
 rw [hgT]at hl4
 clear hL4 hR4 hB4
 go_upto_region 5 with fail
 try rw [hgT]
 rw [←hw5]
 clear hw5 hgT
 go_wp2_with fail
 obtain⟨q,hq⟩:=Lv (m/8)
 obtain⟨s,hs⟩:=Lv (m%8)
 have HQS:=Lib.hid (show q=m/8∧s=m%8 from⟨hq,hs⟩)
 have q1:((m:Int)).tdiv 8=(q:Int):=by rw [Int.tdiv_eq_ediv_of_nonneg (by omega)];omega
 have q2:(m:Int)/8=(q:Int):=by omega
 have s1:((m:Int)).tmod 8=(s:Int):=by rw [Int.tmod_eq_emod_of_nonneg (by omega)];omega
 have s2:(m:Int)%8=(s:Int):=by omega
 have hq8:q≤8:=by omega
 have hs8:s<8:=by omega
 clear hq hs
 go_loopw [15] (fun i wr=> ∃k:Nat,k≤16∧i= .int .i64 k∧Ar wr gT 16 (fun j=>if j<k then shB (cut 24 f) m j else 0)∧Ar wr gL 25 (cut 24 f)∧Ar wr gR 16 (fun _=>0)∧Below w.heap.size w wr) (fun i _=>16-(intOf i).toNat)
 case atStart=>exact⟨0,Nat.zero_le _,rfl,hT5.ext (fun _ _=>rfl),hL5,hR5,hB5⟩
 case round=>
  clear hT5 hL5 hR5 hB5
  obtain⟨k,hk,rfl,hT,hL,hR,hB⟩:=hrel
  by_cases hlt:k<16
  ·have i1:(k:Int)<16:=by omega
   obtain⟨a,ha⟩:=Le (k+q)
   have a1:(k:Int)+(q:Int)=(a:Int):=by omega
   have a2:(a:Int)<25:=by omega
   have a3:(a:Int)+1<25:=by omega
   obtain⟨c0,_⟩:=hL a (by omega)
   obtain⟨c1,_⟩:=hL (a+1) (by omega)
   obtain⟨c2,f2⟩:=hT k hlt
   have x0:=HC.out a
   have x1:=HC.out (a+1)
   obtain⟨t,ht⟩:=Le (8-s)
   have t1:(8:Int)-(s:Int)=(t:Int):=by omega
   have t2:t≤8:=by omega
   have hsh:=shB_at (cut 24 f) m q s k HQS.out.1 HQS.out.2 HC.out
   rw [ha,ht]at hsh
   have e1:=shl_fact s (cut 24 f a) hs8 x0
   have e2:=shr_fact t (cut 24 f (a+1))
   have l1:cut 24 f a*2^s%256<256:=Nat.mod_lt _ (by decide)
   have l2:cut 24 f (a+1)/2^t<256:=Nat.lt_of_le_of_lt (Nat.div_le_self _ _) x1
   have hor:=or_u8 _ _ l1 l2
   rw [hsh]at hor
   have e3:((cut 24 f a:Nat):Int)*2^s%256=((cut 24 f a*2^s%256:Nat):Int):=by simp
   have hT2:=Lib.hid ((hT.set (j:=k) (v:=shB (cut 24 f) m k) hlt rfl).ext (fun j _=>low_step (shB (cut 24 f) m) k j))
   have hL2:=Lib.hid (hL.far (p:=⟨gT,k,none⟩) (by simp;omega) (.int .u8 (shB (cut 24 f) m k:Nat)))
   have hR2:=Lib.hid (hR.far (p:=⟨gT,k,none⟩) (by simp;omega) (.int .u8 (shB (cut 24 f) m k:Nat)))
   have hB2:=Lib.hid (hB.setCell (p:=⟨gT,k,none⟩) (by simp;omega) (.int .u8 (shB (cut 24 f) m k:Nat)))
   clear hT hL hR hB hsh ha ht
   generalize shB (cut 24 f) m k=z at*
   generalize cut 24 f a*2^s%256=u at*
   generalize cut 24 f (a+1)/2^t=v at*
   generalize cut 24 f (a+1)=y at*
   generalize cut 24 f a=x at*
   go_wp2_with fail
   refine wp_region_noPanic ?_
   go_big_region
   refine NoPanic.normal ?_
   clear a1 a2 a3 c0 c1 c2 f2 t1 e1 e2 e3 hor
   go_wp2_with fail
   go_roundw
   case rel=>exact⟨k+1,by omega,by go_num,hT2.out.drew,hL2.out.drew,hR2.out.drew,hB2.out.drew⟩
   case measure=>simp [intOf];omega
  ·obtain rfl:k=16:=by omega
   have hT2:=hT.ext (f':=shB (cut 24 f) m) (fun j hj=>by rw [if_pos hj])
   clear hT
   go_wp2_with (first
    |(refine wpList_load_ar rfl _ _ rfl _ _ _ rfl hT2 Tryd.arr16x (size16x _) ?_)
    |(refine wpList_store_ar rfl _ _ _ rfl _ _ _ (shB (cut 24 f) m) rfl rfl hR (size16x _) ?_;intro w8 hA8 hb8 _ _))
   refine bodyPost_ret_ar rfl rfl hA8 Tryd.arr16x (size16x _) rfl ⟨rfl,?_⟩
   exact hB.trans (hb8.mono (by omega))
end
end Go.Proofs.YtiacbphnclgikaaDoor
