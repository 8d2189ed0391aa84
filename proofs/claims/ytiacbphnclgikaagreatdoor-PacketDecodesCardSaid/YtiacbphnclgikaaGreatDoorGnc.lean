/-
 Contracts of package nonce and of the reference package of layer 15, by walks through their texts, one after the other; what was there stays as it was.
-/
import Derived.Test.YtiacbphnclgikaaGreatDoorSqz
import Derived.Test.YtiacbphnclgikaaGreatDoorGbk
import Derived.Test.YtiacbphnclgikaaGreatDoorGbt
import Derived.Deep.RegionHeld3
import Derived.ArgAppend
namespace Go.Proofs.YtiacbphnclgikaaGreatDoor
section
open Go.RowKit
set_option linter.unusedVariables false
set_option maxRecDepth 100000
def hnN (d x:Nat):Nat:=d*9223372036854775808+x
theorem hn_lt {d x:Nat} (hd:d<2) (hx:x<9223372036854775808):hnN d x<18446744073709551616:=by unfold hnN;omega
theorem hn_div {d x:Nat} (hx:x<9223372036854775808):hnN d x/9223372036854775808=d:=by unfold hnN;omega
theorem hn_mod {d x:Nat} (hx:x<9223372036854775808):hnN d x%9223372036854775808=x:=by unfold hnN;omega
theorem hn_of (y:Nat):hnN (y/9223372036854775808) (y%9223372036854775808)=y:=by unfold hnN;omega
theorem hn_inj {d x e y:Nat} (hx:x<9223372036854775808) (hy:y<9223372036854775808):hnN d x=hnN e y↔d=e∧x=y:=by unfold hnN;omega
def hdL (d x:Nat):List UInt8:=byt (hnN d x) 8
def hdF (d x:Nat):Nat→Nat:=lF (hdL d x)
theorem hdL_len (d x:Nat):(hdL d x).length=8:=byt_len _ _
theorem hdF_lt (d x:Nat): ∀j,j<8→hdF d x j<256:=fun j _=>lF_lt _ _
theorem num_hd {d x:Nat} (hd:d<2) (hx:x<9223372036854775808):num (hdL d x)=hnN d x:=by
 unfold hdL
 rw [num_byt _ _ (by omega)]
 have:=hn_lt hd hx
 exact Nat.mod_eq_of_lt (by simpa using this)
theorem byt_of {l:List UInt8} (h:l.length=8):byt (num l) 8=l:=by
 have:=byt_num l
 rw [h]at this
 simpa using this
def hdD (l:List UInt8):Nat:=num l/9223372036854775808
def hdX (l:List UInt8):Nat:=num l%9223372036854775808
theorem hdD_lt (l:List UInt8):hdD l<2:=by have:=num_lt l;unfold hdD;omega
theorem hdX_lt (l:List UInt8):hdX l<9223372036854775808:=Nat.mod_lt _ (by omega)
theorem hd_of {l:List UInt8} (h:l.length=8):hdL (hdD l) (hdX l)=l:=by unfold hdL hdD hdX;rw [hn_of];exact byt_of h
theorem hdD_hd {d x:Nat} (hd:d<2) (hx:x<9223372036854775808):hdD (hdL d x)=d:=by unfold hdD;rw [num_hd hd hx,hn_div hx]
theorem hdX_hd {d x:Nat} (hd:d<2) (hx:x<9223372036854775808):hdX (hdL d x)=x:=by unfold hdX;rw [num_hd hd hx,hn_mod hx]
theorem lF_ext8 {x y:List UInt8} (hl:x.length=y.length) (h: ∀j,j<y.length→lF x j=lF y j):x=y:=by
 apply List.ext_getElem hl
 intro i h1 h2
 have:=h i h2
 unfold lF at this
 rw [List.getD_eq_getElem?_getD,List.getD_eq_getElem?_getD,List.getElem?_eq_getElem h1,List.getElem?_eq_getElem h2]at this
 exact UInt8.toNat_inj.1 this
theorem hdF_inj {d x e y:Nat} (hd:d<2) (hx:x<9223372036854775808) (he:e<2) (hy:y<9223372036854775808) (h: ∀j,j<8→hdF d x j=hdF e y j):d=e∧x=y:=by
 have h1:hdL d x=hdL e y:=lF_ext8 (by rw [hdL_len,hdL_len]) (fun j hj=>h j (by rw [hdL_len]at hj;exact hj))
 have h2:=congrArg num h1
 rw [num_hd hd hx,num_hd he hy]at h2
 exact(hn_inj hx hy).1 h2
def noF (h:Nat→Nat) (j:Nat):Nat:=if j<4 then 0 else h (j-4)
theorem noF_lt {h:Nat→Nat} (hh: ∀j,j<8→h j<256): ∀j,j<12→noF h j<256:=fun j hj=>by
 unfold noF
 split
 ·omega
 ·exact hh _ (by omega)
theorem noF_four (h:Nat→Nat) (j:Nat) (hj:j<4):noF h j=0:=if_pos hj
theorem noF_tail (h:Nat→Nat) (j:Nat):noF h (4+j)=h j:=by unfold noF;rw [if_neg (by omega),Nat.add_sub_cancel_left]
theorem noF_of {n:Nat→Nat} (h: ∀j,j<4→n j=0): ∀j,j<12→noF (fun i=>n (4+i)) j=n j:=fun j hj=>by
 unfold noF
 by_cases h4:j<4
 ·rw [if_pos h4,h j h4]
 ·rw [if_neg h4]
  show n (4+(j-4))=n j
  rw [show 4+(j-4)=j by omega]
theorem noF_inj {f g:Nat→Nat} (h: ∀j,j<12→noF f j=noF g j): ∀j,j<8→f j=g j:=fun j hj=>by rw [←noF_tail f j,←noF_tail g j];exact h _ (by omega)
theorem noF_congr {f g:Nat→Nat} (h: ∀j,j<8→f j=g j): ∀j,j<12→noF f j=noF g j:=fun j hj=>by
 unfold noF
 split
 ·rfl
 ·exact h _ (by omega)
end
section
open Go.RowKit
set_option linter.unusedVariables false
set_option maxRecDepth 100000
set_option linter.unusedSimpArgs false
theorem Tryz.arr8n:Tryz.prog.underlying 71=some (.array 8 5):=by kernel_rfl
theorem Tryz.zer8n:(Tryz.prog.info? 71).map (fun i=>(i.zero,i.size))=some (some (.agg (Array.replicate 8 (.int .u8 0))),8):=by kernel_rfl
theorem size8n (f:Nat→Nat):(Tryz.prog.info? 71).map (·.size)=some (arL 8 f).length:=by rw [arL_len];exact(zero_of_info Tryz.zer8n).2
theorem zero8n (w:World):(zeroValue 71).run Tryz.prog w= .ok (.agg (arL 8 fun _=>0).toArray) w:=by
 rw [arL_zero];exact(zero_of_info Tryz.zer8n).1 w
theorem Tryz.arr12n:Tryz.prog.underlying 77=some (.array 12 5):=by kernel_rfl
theorem Tryz.zer12n:(Tryz.prog.info? 77).map (fun i=>(i.zero,i.size))=some (some (.agg (Array.replicate 12 (.int .u8 0))),12):=by kernel_rfl
theorem size12n (f:Nat→Nat):(Tryz.prog.info? 77).map (·.size)=some (arL 12 f).length:=by rw [arL_len];exact(zero_of_info Tryz.zer12n).2
theorem zero12n (w:World):(zeroValue 77).run Tryz.prog w= .ok (.agg (arL 12 fun _=>0).toArray) w:=by
 rw [arL_zero];exact(zero_of_info Tryz.zer12n).1 w
theorem arrayAt8n (g o c:Nat) (w:World):(Instr.arrayAt 71 (.slice (some ⟨g,o,none⟩) 8 c)).run Tryz.prog w= .ok (.pointer (some ⟨g,o,none⟩)) w:=by
 simp [Instr.arrayAt,run_underlying Tryz.arr8n]
theorem own_range8 {w:World} {B g c:Nat} {l:List UInt8} (h:Own w B (some ⟨g,0,none⟩) 8 c l):w.rangeAt g 0 (arL 8 (lF l)):=fun j v hv=>by
 rw [Nat.zero_add]
 have hl:l.length=8:=by have:=h.1;simpa using this
 rw [←map_lF l 8 hl]at hv
 have:=World.ownsRow.cells h (g:=g) rfl j _ hv
 rwa [Addr.add_mid,Nat.zero_add]at this
theorem nhfacts {x y:Nat} (h:hnN 1 x=y) (hx:x<9223372036854775808):IntKind.u64.wrap ((x:Int)+9223372036854775808)=(y:Int)∧(x:Int)+9223372036854775808=(y:Int)∧IntKind.u64.wrap (y:Int)=(y:Int):=by
 unfold hnN at h
 refine⟨?_,by omega,?_⟩
 ·rw [wraps_u64' _ (by omega) (by omega)];omega
 ·rw [wraps_u64' _ (by omega) (by omega)]
set_option maxHeartbeats 1000000 in
theorem rhead (d x:Nat) (w:World) (hd:d<2) (hx:x<9223372036854775808):
  Calls Tryz.prog 35 #[.int .i64 (d:Nat),.int .u64 (x:Nat)] w fun e w'=>e= .returned (.agg (arL 8 (hdF d x)).toArray)∧Below w.heap.size w w':=by
 have hz:=zero8n
 have hat:=arrayAt8n
 obtain⟨w2,hw2⟩:=Lv (w.alloc (.cells (arL 8 fun _=>0).toArray 71))
 have hb2:=Bl hw2
 have hR2:Ar w2 w.heap.size 8 (fun _=>0):=by rw [hw2];exact Ar.new w 8 _ _
 obtain⟨y,hy⟩: ∃y,hnN d x=y:=⟨_,rfl⟩
 have HY:=Lib.hid (show y<18446744073709551616 by rw [←hy];exact hn_lt hd hx)
 obtain⟨H,hH⟩: ∃H,hdF d x=H:=⟨_,rfl⟩
 have HL:=Lib.hid (show lF (byt y 8)=H by rw [←hH,←hy];rfl)
 rw [hH]
 clear hH
 go_enter Tryz.func35,Tryz.ntmps35
 go_upto_region 1 with fail
 rw [←hw2]
 clear hw2
 have hc:d=0∨d=1:=by omega
 rcases hc with rfl|rfl
 ·have hxy:x=y:=by rw [←hy];unfold hnN;omega
  have HXY:=Lib.hid hxy
  clear hy hd hx hxy
  go_upto_region 4 with fail
  rw [show(x:Int)=(y:Int)by rw [HXY.out]]
  go_wp2_with fail
  refine(refBytes y 8 _ HY.out (by omega)).mono ?_
  rintro e w3 ⟨A,c,rfl,hown,hq⟩
  rw [show min (8:Int).toNat 8=8 from rfl]at hown
  try rw [show min (8:Int).toNat 8=8 from rfl]
  obtain⟨g,cap,hv,_,_⟩:=World.ownsRow.form hown (by omega)
  injection hv with e1 e2 e3
  subst e1
  subst e3
  have hr:w3.rangeAt g 0 (arL 8 (H)):=by rw [←HL.out];exact own_range8 hown
  have hR3:=hR2.t hq
  have hB3:=Tq hb2 hq
  clear hown hq hR2 hb2
  go_wp2_with (first
   |(refine wpList_load_mid rfl _ _ rfl g 0 rfl (arL 8 (H)) _ hr Tryz.arr8n rfl (size8n _) ?_)
   |(refine wpList_store_ar rfl _ _ _ rfl _ _ _ (H) rfl rfl hR3 (size8n _) ?_;intro w8 hA8 hb8 _ _))
  refine bodyPost_ret_ar rfl rfl hA8 Tryz.arr8n (size8n _) rfl ⟨rfl,?_⟩
  exact hB3.trans (hb8.mono (by omega))
 ·obtain⟨f1,f2,f3⟩:=nhfacts hy hx
  clear hy hd hx
  go_upto_region 4 with fail
  clear f2
  go_wp2_with fail
  refine(refBytes y 8 _ HY.out (by omega)).mono ?_
  rintro e w3 ⟨A,c,rfl,hown,hq⟩
  rw [show min (8:Int).toNat 8=8 from rfl]at hown
  try rw [show min (8:Int).toNat 8=8 from rfl]
  obtain⟨g,cap,hv,_,_⟩:=World.ownsRow.form hown (by omega)
  injection hv with e1 e2 e3
  subst e1
  subst e3
  have hr:w3.rangeAt g 0 (arL 8 (H)):=by rw [←HL.out];exact own_range8 hown
  have hR3:=hR2.t hq
  have hB3:=Tq hb2 hq
  clear hown hq hR2 hb2
  go_wp2_with (first
   |(refine wpList_load_mid rfl _ _ rfl g 0 rfl (arL 8 (H)) _ hr Tryz.arr8n rfl (size8n _) ?_)
   |(refine wpList_store_ar rfl _ _ _ rfl _ _ _ (H) rfl rfl hR3 (size8n _) ?_;intro w8 hA8 hb8 _ _))
  refine bodyPost_ret_ar rfl rfl hA8 Tryz.arr8n (size8n _) rfl ⟨rfl,?_⟩
  exact hB3.trans (hb8.mono (by omega))
def noK (h:Nat→Nat) (k j:Nat):Nat:=if 4≤j∧j<4+k then h (j-4)else 0
theorem noK_zero (h:Nat→Nat):noK h 0=fun _=>0:=by funext j;unfold noK;rw [if_neg (by omega)]
theorem noK_step (h:Nat→Nat) (k j:Nat):(if j=4+k then h k else noK h k j)=noK h (k+1) j:=by
 unfold noK
 by_cases e:j=4+k
 ·rw [if_pos e,if_pos (by omega),show j-4=k by omega]
 ·rw [if_neg e]
  by_cases e2:4≤j∧j<4+k
  ·rw [if_pos e2,if_pos (by omega)]
  ·rw [if_neg e2,if_neg (by omega)]
theorem noK_all (h:Nat→Nat): ∀j,j<12→noK h 8 j=noF h j:=fun j hj=>by
 unfold noK noF
 by_cases e:j<4
 ·rw [if_pos e,if_neg (by omega)]
 ·rw [if_neg e,if_pos (by omega)]
set_option maxHeartbeats 2000000 in
theorem rmake (d x:Nat) (w:World) (hd:d<2) (hx:x<9223372036854775808):
  Calls Tryz.prog 37 #[.int .i64 (d:Nat),.int .u64 (x:Nat)] w fun e w'=>e= .returned (.agg (arL 12 (noF (hdF d x))).toArray)∧Below w.heap.size w w':=by
 have hz:=zero12n
 have hz8:=zero8n
 obtain⟨w1,hw1⟩:=Lv (w.alloc (.cells (arL 12 fun _=>0).toArray 77))
 have hs1:=Zs1 hw1
 have hb1:=Bl hw1
 have hR1:Ar w1 w.heap.size 12 (fun _=>0):=by rw [hw1];exact Ar.new w 12 _ _
 obtain⟨w2,hw2⟩:=Lv (w1.alloc (.cells (arL 12 fun _=>0).toArray 77))
 have hs2:=Zs2 hw2 hs1
 have hb2:=Bm hw2 hb1
 have hN2:Ar w2 (w.heap.size+1) 12 (fun _=>0):=by rw [hw2,←hs1];exact Ar.new w1 12 _ _
 have hR2:=ara hw2 hR1
 have HH:=Lib.hid (fun V=>rhead d x V hd hx)
 obtain⟨H,hH⟩: ∃H,hdF d x=H:=⟨_,rfl⟩
 have HB:=Lib.hid (show∀j,j<8→H j<256 by rw [←hH];exact hdF_lt d x)
 rw [hH]at HH
 rw [hH]
 clear hb1 hR1 hd hx hH
 go_enter Tryz.func37,Tryz.ntmps37
 go_upto_region 2 with fail
 rw [←hw1,←hw2]
 clear hw1 hw2 hs1
 obtain⟨gN,hgN⟩:=Le (w.heap.size+1)
 rw [hgN]at hN2
 try rw [hgN]
 have hlN:w.heap.size<gN:=by omega
 have hsN:w2.heap.size=gN+1:=by omega
 clear hs2 hgN
 go_wp2_with fail
 refine(HH.out _).mono ?_
 rintro e w3 ⟨rfl,hq⟩
 have hR3:=hR2.t hq
 have hN3:=hN2.t hq
 have hb3:=Tq hb2 hq
 have hlt3:gN<w3.heap.size:=hN3.lt (by omega)
 clear hq hR2 hN2 hb2 hsN
 have hb4:Below w.heap.size w (w3.alloc (.cells (arL 8 fun _=>0).toArray 71)):=hb3.alloc hb3.size _
 have hR4:Ar (w3.alloc (.cells (arL 8 fun _=>0).toArray 71)) w.heap.size 12 (fun _=>0):=hR3.alloc (by omega) _
 have hN4:Ar (w3.alloc (.cells (arL 8 fun _=>0).toArray 71)) gN 12 (fun _=>0):=hN3.alloc (by omega) _
 have hH4:Ar (w3.alloc (.cells (arL 8 fun _=>0).toArray 71)) w3.heap.size 8 (fun _=>0):=Ar.new w3 8 _ _
 obtain⟨gH,hgH⟩:=Le (w3.heap.size)
 rw [hgH]at hH4 hlt3
 clear hR3 hN3
 go_upto_region 3 with (first|(refine wpList_store_ar rfl _ _ _ rfl _ _ _ H rfl rfl hH4 (size8n _) ?_;intro w5 hH5 hb5 hs5 hk5)|fail)
 have hR5:=hR4.keep (by omega) hb5
 have hN5:=hN4.keep (by omega) hb5
 have hB5:=hb4.trans (hb5.mono (by omega))
 clear hR4 hN4 hH4 hb4 hb3 hb5 hs5 hk5 hgH
 try dsimp only [Act.put]
 go_wp2_with fail
 go_loopw [7] (fun i wr=> ∃n:Nat,n≤8∧i= .int .i64 n∧Ar wr w.heap.size 12 (fun _=>0)∧Ar wr gN 12 (noK H n)∧Ar wr gH 8 H∧Below w.heap.size w wr) (fun i _=>8-(intOf i).toNat)
 case atStart=>exact⟨0,Nat.zero_le _,rfl,hR5,by rw [noK_zero];exact hN5,hH5,hB5⟩
 case round=>
  clear hR5 hN5 hH5 hB5
  obtain⟨n,hn,rfl,hR,hN,hH,hB⟩:=hrel
  by_cases hlt:n<8
  ·have i1:(n:Int)<8:=by omega
   obtain⟨c0,_⟩:=hH n hlt
   obtain⟨q,hqn⟩: ∃q,4+n=q:=⟨_,rfl⟩
   have x1:IntKind.i64.wrap (4+(n:Int))=(q:Int):=by rw [wraps_i64' _ (by omega) (by omega)];omega
   have x2:wrap64 (4+(n:Int))=(q:Int):=by rw [IntWalk.wrap64_in _ (by omega)];omega
   have x3:4+(n:Int)=(q:Int):=by omega
   have x4:(q:Int)<12:=by omega
   obtain⟨c1,f1⟩:=hN q (by omega)
   have hN2:=Lib.hid ((hN.set (j:=q) (v:=H n) (by omega) rfl).ext (f':=noK H (n+1)) (fun m _=>by rw [←hqn];exact noK_step H n m))
   have hR2:=Lib.hid (hR.far (p:=⟨gN,q,none⟩) (by simp;omega) (.int .u8 (H n:Nat)))
   have hH2:=Lib.hid (hH.far (p:=⟨gN,q,none⟩) (by simp;omega) (.int .u8 (H n:Nat)))
   have hB2:=Lib.hid (hB.setCell (p:=⟨gN,q,none⟩) (by simp;omega) (.int .u8 (H n:Nat)))
   have HL:=Lib.hid hlt
   clear hR hN hH hB hqn hlt hn
   obtain⟨y,hy⟩: ∃y,H n=y:=⟨_,rfl⟩
   rw [hy]at c0 hN2 hR2 hH2 hB2
   clear hy
   obtain⟨z,hzz⟩: ∃y,noK H n q=y:=⟨_,rfl⟩
   rw [hzz]at c1
   clear hzz
   go_wp2_with fail
   go_roundw
   case rel=>exact⟨n+1,by have:=HL.out;omega,by go_num,hR2.out,hN2.out,hH2.out,hB2.out⟩
   case measure=>simp [intOf];have:=HL.out;omega
  ·obtain rfl:n=8:=by omega
   have hN2:=hN.ext (noK_all H)
   have i1: ¬(8:Int)<8:=by omega
   clear hN hlt hn hH
   go_wp2_with (first
    |(refine wpList_load_ar rfl _ _ rfl _ _ _ rfl hN2 Tryz.arr12n (size12n _) ?_)
    |(refine wpList_store_ar rfl _ _ _ rfl _ _ _ (noF H) rfl rfl hR (size12n _) ?_;intro w8 hA8 hb8 _ _))
   refine bodyPost_ret_ar rfl rfl hA8 Tryz.arr12n (size12n _) rfl ⟨rfl,?_⟩
   exact hB.trans (hb8.mono (by omega))
set_option maxHeartbeats 1000000 in
theorem rphead (A:Option Addr) (n c:Nat) (l:List UInt8) (w:World) (h:Sl w w.heap.size A n l) (hn:8≤n) (hnc:n≤c) (hc:c≤maxLen):
  Calls Tryz.prog 40 #[.slice A n c] w fun e w'=>e= .returned (.tuple #[.int .i64 (hdD (l.take 8):Nat),.int .u64 (hdX (l.take 8):Nat)])∧w'=w:=by
 obtain⟨b,off,rfl,hb,hcells⟩:=h.2 (by omega)
 have hS:Sl w w.heap.size (some ⟨b,off,none⟩) 8 (l.take 8):=by
  refine⟨by rw [List.length_take,h.len];omega,fun _=>⟨b,off,rfl,hb,fun j u hu=>hcells j u ?_⟩⟩
  rcases Nat.lt_or_ge j 8 with h1|h1
  ·rwa [List.getElem?_take_of_lt h1]at hu
  ·rw [List.getElem?_eq_none (by rw [List.length_take];omega)]at hu;cases hu
 clear h hcells
 obtain⟨r,hr⟩: ∃r,l.take 8=r:=⟨_,rfl⟩
 rw [hr]at hS
 rw [hr]
 clear hr
 obtain⟨y,hy⟩: ∃y,num r=y:=⟨_,rfl⟩
 have HY:=Lib.hid hy
 have hlt:=num_lt r
 have i1:(8:Int)≤(c:Int):=by omega
 by_cases h8:9223372036854775808≤y
 ·have i2:(9223372036854775808:Int)≤(y:Int):=by omega
  obtain⟨z,hz⟩: ∃z,y-9223372036854775808=z:=⟨_,rfl⟩
  have x1:IntKind.u64.wrap (z:Int)=(z:Int):=wraps_u64' _ (by omega) (by omega)
  have x2:(y:Int)-9223372036854775808=(z:Int):=by omega
  have HP:=Lib.hid (show hdD r=1∧hdX r=z by unfold hdD hdX;rw [hy];omega)
  rw [HP.out.1,HP.out.2]
  clear hy hz h8 hlt hb hn hnc hc
  go_enter Tryz.func40,Tryz.ntmps40
  go_upto_region 1 with fail
  go_wp2_with fail
  refine(refNumber _ 8 _ r _ hS (by omega)).mono ?_
  rintro e w1 ⟨rfl,rfl⟩
  rw [HY.out]
  clear hS i1
  go_wp2
  go_ret2
  exact⟨rfl,rfl⟩
 ·have i2:decide ((9223372036854775808:Int)≤(y:Int))=false:=decide_eq_false (by omega)
  have i3: ¬(9223372036854775808:Int)≤(y:Int):=by omega
  have x1:IntKind.u64.wrap (y:Int)=(y:Int):=wraps_u64' _ (by omega) (by omega)
  have HP:=Lib.hid (show hdD r=0∧hdX r=y by unfold hdD hdX;rw [hy];omega)
  rw [HP.out.1,HP.out.2]
  clear hy h8 hlt hb hn hnc hc
  go_enter Tryz.func40,Tryz.ntmps40
  go_upto_region 1 with fail
  go_wp2_with fail
  refine(refNumber _ 8 _ r _ hS (by omega)).mono ?_
  rintro e w1 ⟨rfl,rfl⟩
  rw [HY.out]
  clear hS i1
  go_wp2
  go_ret2
  exact⟨rfl,rfl⟩
end
section
open Go.RowKit
set_option linter.unusedVariables false
set_option maxRecDepth 100000
def okN (d:Int) (x:Nat):Bool:=decide ((d=0∨d=1)∧x<9223372036854775808)
def hdZ (d:Int) (x:Nat):Nat→Nat:=if okN d x then hdF d.toNat x else fun _=>0
def noZ (d:Int) (x:Nat):Nat→Nat:=if okN d x then noF (hdF d.toNat x)else fun _=>0
def phD (l:List UInt8):Nat:=if 8≤l.length then hdD (l.take 8)else 0
def phX (l:List UInt8):Nat:=if 8≤l.length then hdX (l.take 8)else 0
def tlL (n:Nat→Nat):List UInt8:=liB 8 fun j=>n (4+j)
def four (n:Nat→Nat):Bool:=decide (n 0=0∧n 1=0∧n 2=0∧n 3=0)
def paD (n:Nat→Nat):Nat:=if four n then hdD (tlL n)else 0
def paX (n:Nat→Nat):Nat:=if four n then hdX (tlL n)else 0
theorem ok_yes {d:Int} {x:Nat} (h1:d=0∨d=1) (h2:x<9223372036854775808):okN d x=true:=decide_eq_true ⟨h1,h2⟩
theorem ok_no {d:Int} {x:Nat} (h: ¬((d=0∨d=1)∧x<9223372036854775808)):okN d x=false:=decide_eq_false h
def e8n (j:Nat):Nat:=if j=0 then 128 else if j=7 then 1 else 0
def e12n (j:Nat):Nat:=if j=10 then 1 else if j=11 then 2 else 0
theorem hd11: ∀j,j<8→hdZ 1 1 j=e8n j:=by decide+kernel
theorem no02: ∀j,j<12→noZ 0 258 j=e12n j:=by decide+kernel
theorem run_e8n (w:World):(Instr.build 71 #[(0,.int .u8 128),(1,.int .u8 0),(2,.int .u8 0),(3,.int .u8 0),(4,.int .u8 0),(5,.int .u8 0),(6,.int .u8 0),(7,.int .u8 1)]).run Tryz.prog w= .ok (.agg (arL 8 e8n).toArray) w:=run_build w _ _ _ (by kernel_rfl)
theorem run_e12n (w:World):(Instr.build 77 #[(10,.int .u8 1),(11,.int .u8 2)]).run Tryz.prog w= .ok (.agg (arL 12 e12n).toArray) w:=run_build w _ _ _ (by kernel_rfl)
theorem eqn8_true {f g:Nat→Nat} (h: ∀j,j<8→f j=g j) (w:World):(Op.equalIn 10000 71 (.agg (arL 8 f).toArray) (.agg (arL 8 g).toArray)).run Tryz.prog w= .ok true w:=by
 have:=run_equalIn_arr (P:=Tryz.prog) (n:=8) Tryz.arr8n Tryz.underlying5 (by kernel_rfl) 9998 f g w
 rwa [decide_eq_true h]at this
theorem eqn8_false {f g:Nat→Nat} (h: ¬ ∀j,j<8→f j=g j) (w:World):(Op.equalIn 10000 71 (.agg (arL 8 f).toArray) (.agg (arL 8 g).toArray)).run Tryz.prog w= .ok false w:=by
 have:=run_equalIn_arr (P:=Tryz.prog) (n:=8) Tryz.arr8n Tryz.underlying5 (by kernel_rfl) 9998 f g w
 rwa [decide_eq_false h]at this
theorem Tryz.eqgn8:Tryz.prog.eqGuardType Tryz.prog.depth 71=false:=by kernel_rfl
theorem zeron8 (w:World):(Instr.build 71 #[]).run Tryz.prog w= .ok (.agg (arL 8 fun _=>0).toArray) w:=run_build w _ _ _ (by kernel_rfl)
theorem eqn12_true {f g:Nat→Nat} (h: ∀j,j<12→f j=g j) (w:World):(Op.equalIn 10000 77 (.agg (arL 12 f).toArray) (.agg (arL 12 g).toArray)).run Tryz.prog w= .ok true w:=by
 have:=run_equalIn_arr (P:=Tryz.prog) (n:=12) Tryz.arr12n Tryz.underlying5 (by kernel_rfl) 9998 f g w
 rwa [decide_eq_true h]at this
theorem eqn12_false {f g:Nat→Nat} (h: ¬ ∀j,j<12→f j=g j) (w:World):(Op.equalIn 10000 77 (.agg (arL 12 f).toArray) (.agg (arL 12 g).toArray)).run Tryz.prog w= .ok false w:=by
 have:=run_equalIn_arr (P:=Tryz.prog) (n:=12) Tryz.arr12n Tryz.underlying5 (by kernel_rfl) 9998 f g w
 rwa [decide_eq_false h]at this
theorem Tryz.eqgn12:Tryz.prog.eqGuardType Tryz.prog.depth 77=false:=by kernel_rfl
theorem zeron12 (w:World):(Instr.build 77 #[]).run Tryz.prog w= .ok (.agg (arL 12 fun _=>0).toArray) w:=run_build w _ _ _ (by kernel_rfl)
end
section
open Go.RowKit
set_option linter.unusedVariables false
set_option maxRecDepth 100000
set_option linter.unusedSimpArgs false
theorem and63_u64 (a:Nat) (ha:a<18446744073709551616):bits .and .u64 (a:Int) 9223372036854775807=((a%9223372036854775808:Nat):Int):=by
 have h:=(bits_nat .u64 64 (by decide) wraps_u64' a 9223372036854775807 ha (by decide)).1
 have e:=Nat.and_two_pow_sub_one_eq_mod a 63
 simp only [Nat.reducePow,Nat.reduceSub]at e
 rw [e]at h
 exact h
theorem results_ttt {P:Program} {fn:Func} {T:Array Value} {w:World} {p q r:Tmp} {v u x:Value} (hr:fn.results= #[.tmp p,.tmp q,.tmp r]) (hp:T.getD p undef=v) (hq:T.getD q undef=u) (hq2:T.getD r undef=x):
  (results fn T).run P w= .ok (.tuple #[v,u,x]) w:=by
 have hp':T[p]?.getD undef=v:=by simpa using hp
 have hq':T[q]?.getD undef=u:=by simpa using hq
 have hr':T[r]?.getD undef=x:=by simpa using hq2
 simp only [results,hr]
 simp [hp',hq',hr']
theorem or63_u64 {d x y:Nat} (hd:d<2) (hx:x<9223372036854775808) (h:hnN d x=y):bits .or .u64 (IntKind.u64.wrap ((d:Int)*9223372036854775808)) (x:Int)=(y:Int):=by
 have e1:IntKind.u64.wrap ((d:Int)*9223372036854775808)=((d*9223372036854775808:Nat):Int):=by rw [IntKind.wrap_u64];omega
 rw [e1,or_u64 _ _ (by omega) (by omega),←h]
 have e3:d*9223372036854775808=2^63*d:=by omega
 rw [e3,←Nat.two_pow_add_eq_or_of_lt (by simpa using hx)]
 unfold hnN
 congr 1
 omega
set_option maxHeartbeats 1600000 in
theorem nknown (d:Int) (w:World) (hd: -9223372036854775808≤d∧d≤9223372036854775807):
  Calls Tryz.prog 51 #[.int .i64 d] w fun e w'=>e= .returned (.bool (decide (d=0∨d=1)))∧w'=w:=by
 by_cases h0:d=0
 ·subst h0
  rw [decide_eq_true (by omega)]
  go_enter Tryz.func51,Tryz.ntmps51
  go_wp2
  go_ret
  exact⟨rfl,rfl⟩
 by_cases h1:d=1
 ·subst h1
  clear h0
  rw [decide_eq_true (by omega)]
  go_enter Tryz.func51,Tryz.ntmps51
  go_wp2
  go_ret
  exact⟨rfl,rfl⟩
 rw [decide_eq_false (by omega)]
 have b0:(d==0)=false:=by simp [h0]
 have b1:(d==1)=false:=by simp [h1]
 go_enter Tryz.func51,Tryz.ntmps51
 go_wp2
 go_ret
 exact⟨by simp [b0,b1],rfl⟩
set_option maxHeartbeats 1000000 in
theorem nphead (A:Option Addr) (n c:Nat) (l:List UInt8) (w:World) (h:Sl w w.heap.size A n l) (hnc:n≤c) (hc:c≤maxLen):
  Calls Tryz.prog 33 #[.slice A n c] w fun e w'=>e= .returned (.tuple #[.int .i64 (phD l:Nat),.int .u64 (phX l:Nat),.bool (decide (8≤l.length))])∧Below w.heap.size w w':=by
 have hlen:=h.len
 by_cases h8:8≤n
 ·obtain⟨b,off,rfl,hb,hcells⟩:=h.2 (by omega)
  have hS:Sl w w.heap.size (some ⟨b,off,none⟩) 8 (l.take 8):=by
   refine⟨by rw [List.length_take,h.len];omega,fun _=>⟨b,off,rfl,hb,fun j u hu=>hcells j u ?_⟩⟩
   rcases Nat.lt_or_ge j 8 with h1|h1
   ·rwa [List.getElem?_take_of_lt h1]at hu
   ·rw [List.getElem?_eq_none (by rw [List.length_take];omega)]at hu;cases hu
  clear h hcells
  obtain⟨r,hr⟩: ∃r,l.take 8=r:=⟨_,rfl⟩
  obtain⟨y,hy⟩: ∃y,num r=y:=⟨_,rfl⟩
  have hlt:y<18446744073709551616:=by rw [←hy];exact num_lt r
  obtain⟨q,hq⟩: ∃q,y/9223372036854775808=q:=⟨_,rfl⟩
  obtain⟨z,hz⟩: ∃z,y%9223372036854775808=z:=⟨_,rfl⟩
  have a1:bits .and .u64 (y:Int) 9223372036854775807=(z:Int):=by rw [and63_u64 y hlt,hz]
  have a2:(y:Int)/9223372036854775808=(q:Int):=by omega
  have a3:(q:Int)<2:=by omega
  rw [show phD l=q by unfold phD hdD;rw [if_pos (by omega),hr,hy,hq],show phX l=z by unfold phX hdX;rw [if_pos (by omega),hr,hy,hz],decide_eq_true (by omega:8≤l.length)]
  rw [hr]at hS
  have HY:=Lib.hid hy
  have i1:(8:Int)≤(c:Int):=by omega
  have i2: ¬(n:Int)<8:=by omega
  clear hr hy hlt hq hz hb hlen hnc h8
  go_enter Tryz.func33,Tryz.ntmps33
  go_upto_region 3 with fail
  go_wp2_with fail
  refine(number _ 8 _ r _ hS (by omega) (by omega)).mono ?_
  rintro e w1 ⟨rfl,rfl⟩
  rw [HY.out]
  clear hS i1
  go_wp2
  refine bodyPost_ret (results_ttt rfl rfl rfl rfl) rfl ⟨rfl,Below.refl _ _⟩
 ·rw [show phD l=0 by unfold phD;rw [if_neg (by omega)],show phX l=0 by unfold phX;rw [if_neg (by omega)],decide_eq_false (by omega: ¬8≤l.length)]
  have i2:(n:Int)<8:=by omega
  clear h hlen
  go_enter Tryz.func33,Tryz.ntmps33
  go_wp2
  refine bodyPost_ret (results_ttt rfl rfl rfl rfl) rfl ⟨rfl,Below.refl _ _⟩
end
section
open Go.RowKit
set_option linter.unusedVariables false
set_option maxRecDepth 100000
set_option linter.unusedSimpArgs false
theorem info8n:(Tryz.prog.info? 5).map (fun i=>(i.zero,i.size,i.bytes))=some (some (.int .u8 0),1,1):=by kernel_rfl
theorem wp_append_cells {P:Program} (w:World) {o:Oper} {a:Act} {K:Act→World→Prop} {Q:Exit→Act→World→Prop} (s x:Operand) (t:TypeId)
  (ho:o.op= .call { callee:= .builtin .append,args:= #[s,x],argTypes:= #[t,t] })
  (e:TypeId) (i:TypeInfo) (ht:P.underlying t=some (.slice e)) (hi:P.info? e=some i) (hsize:i.size=1)
  (b off n cap:Nat) (hs:a.eval s= .slice (some ⟨b,off,none⟩) n cap) (ad:Addr) (m c:Nat) (news:List Value) (hx:a.eval x= .slice (some ad) m c) (hl:news.length=m)
  (hnews: ∀j u,news[j]?=some u→w.cell? (ad.add j)=some u) (h1: ∀u∈news,u.oneCell'=true) (hroom:n+m≤cap)
  (hc: ∀j,j<news.length→ ∃k,w.cell? ⟨b,off+n+j,none⟩=some k∧w.frozen? ⟨b,off+n+j,none⟩=false)
  (h:K (a.put o.dst (.slice (some ⟨b,off,none⟩) (n+m) cap)) (w.setCells b (off+n) news)):o.wp P a w K Q:=by
 have hr:=run_append_room_cells (P:=P) w t o.type e i ht hi b off n cap ad m c news (by rw [hsize,Nat.mul_one];exact hl) hnews h1 hroom (fun j hj=>by obtain⟨k,hk,_⟩:=hc j hj;rw [hsize,Nat.mul_one,hk];rfl) (fun j hj=>by obtain⟨k,_,hk⟩:=hc j hj;rw [hsize,Nat.mul_one,hk])
 rw [hsize,Nat.mul_one]at hr
 unfold Oper.wp execOp
 simp only [ho,resolve,invoke,builtin,Sem.run_bind,Sem.run_pure,Result.andThen_ok,List.map_toArray,List.map_cons,List.map_nil,hs,hx,hr]
 exact h
theorem arrayAt12n (g o c:Nat) (w:World):(Instr.arrayAt 77 (.slice (some ⟨g,o,none⟩) 12 c)).run Tryz.prog w= .ok (.pointer (some ⟨g,o,none⟩)) w:=by
 simp [Instr.arrayAt,run_underlying Tryz.arr12n]
theorem slice412 (g:Nat) (w:World):(Instr.sliceAt 77 (.pointer (some ⟨g,0,none⟩)) none (some (.int .i64 4)) (some (.int .i64 12))).run Tryz.prog w= .ok (.slice (some ⟨g,0,none⟩) 4 12) w:=by
 have hal:Tryz.prog.arrayLen 77=12:=by simp [Program.arrayLen]
 have hel:Tryz.prog.elem 77=5:=by simp [Program.elem]
 have hs:(sizeOf 5).run Tryz.prog w= .ok 1 w:=by kernel_rfl
 rw [run_sliceAt_array_hm w 77 ⟨g,0,none⟩ (by rw [hal,hel];exact Tryz.arr12n) .i64 .i64 4 12 (by omega) (by omega) (by rw [hal];omega),hel,hs]
 simp [Result.andThen_ok,slicedAt,Addr.add]
theorem slice8a (g:Nat) (w:World):(Instr.sliceAt 71 (.pointer (some ⟨g,0,none⟩)) none none none).run Tryz.prog w= .ok (.slice (some ⟨g,0,none⟩) 8 8) w:=by
 have hal:Tryz.prog.arrayLen 71=8:=by simp [Program.arrayLen]
 have hel:Tryz.prog.elem 71=5:=by simp [Program.elem]
 have hs:(sizeOf 5).run Tryz.prog w= .ok 1 w:=by kernel_rfl
 rw [run_sliceAt_array_all w 71 ⟨g,0,none⟩ (by rw [hal,hel];exact Tryz.arr8n),hal,hel,hs]
 simp [Result.andThen_ok,slicedAt,Addr.add]
theorem noW {h:Nat→Nat} : ∀j,j<12→putO (fun _=>0) h 4 8 j=noF h j:=fun j hj=>by
 unfold putO noF
 by_cases e:j<4
 ·rw [if_pos e,if_neg (by omega)]
 ·rw [if_neg e,if_pos (by omega)]
set_option maxHeartbeats 1600000 in
theorem nhead (d:Int) (x:Nat) (w:World) (hd: -9223372036854775808≤d∧d≤9223372036854775807) (hx:x<18446744073709551616):
  Calls Tryz.prog 26 #[.int .i64 d,.int .u64 (x:Int)] w fun e w'=>e= .returned (.tuple #[.agg (arL 8 (hdZ d x)).toArray,.bool (okN d x)])∧Below w.heap.size w w':=by
 have hz:=zero8n
 have hat:=arrayAt8n
 by_cases hk:d=0∨d=1
 ·by_cases hx2:x<9223372036854775808
  ·obtain⟨m,rfl⟩: ∃m:Nat,d=(m:Int):=⟨d.toNat,by omega⟩
   have hm:m<2:=by omega
   have HK:=Lib.hid (ok_yes hk hx2)
   rw [HK.out]
   obtain⟨y,hy⟩: ∃y,hnN m x=y:=⟨_,rfl⟩
   have HY:=Lib.hid (show y<18446744073709551616 by rw [←hy];exact hn_lt hm hx2)
   obtain⟨H,hH⟩: ∃H,hdZ (m:Int) x=H:=⟨_,rfl⟩
   have HL:=Lib.hid (show lF (byt y 8)=H by rw [←hH,←hy];unfold hdZ;rw [HK.out,if_pos rfl,Int.toNat_natCast];rfl)
   rw [hH]
   have a1:=or63_u64 hm hx2 hy
   have a2:IntKind.u64.wrap (m:Int)=(m:Int):=wraps_u64' _ (by omega) (by omega)
   have i1: ¬((x:Int)>9223372036854775807):=by omega
   have HD:=Lib.hid (decide_eq_true hk)
   clear hH hy hx hx2 hm hk HK
   obtain⟨w1,hw1⟩:=Lv (w.alloc (.cells (arL 8 fun _=>0).toArray 71))
   have hb1:=Bl hw1
   have hR1:Ar w1 w.heap.size 8 (fun _=>0):=by rw [hw1];exact Ar.new w 8 _ _
   have HK9:=Lib.hid (nknown m w1 hd)
   clear hd
   go_enter Tryz.func26,Tryz.ntmps26
   go_upto_region 1 with fail
   rw [←hw1]
   clear hw1
   go_wp2_with fail
   refine HK9.out.mono ?_
   clear HK9
   rintro e w2 ⟨rfl,rfl⟩
   have hR2:=hR1
   have hb2:=hb1
   clear hR1 hb1
   rw [HD.out]
   go_upto_region 4 with fail
   go_wp2_with fail
   refine(bytes y 8 _ HY.out (by omega)).mono ?_
   rintro e w3 ⟨A,c,rfl,hown,hq⟩
   rw [show min (8:Int).toNat 8=8 from rfl]at hown
   try rw [show min (8:Int).toNat 8=8 from rfl]
   obtain⟨g,cap,hv,_,_⟩:=World.ownsRow.form hown (by omega)
   injection hv with e1 e2 e3
   subst e1
   subst e3
   have hr:w3.rangeAt g 0 (arL 8 (H)):=by rw [←HL.out];exact own_range8 hown
   have hR3:=hR2.t hq
   have hB3:=Tq hb2 hq
   clear hown hq hR2 hb2
   go_wp2_with (first
    |(refine wpList_load_mid rfl _ _ rfl g 0 rfl (arL 8 (H)) _ hr Tryz.arr8n rfl (size8n _) ?_)
    |(refine wpList_store_ar rfl _ _ _ rfl _ _ _ (H) rfl rfl hR3 (size8n _) ?_;intro w8 hA8 hb8 _ _))
   refine bodyPost_ret_ar2 rfl rfl rfl hA8 Tryz.arr8n (size8n _) rfl ⟨rfl,?_⟩
   exact hB3.trans (hb8.mono (Nat.le_refl _))
  ·have HK:=Lib.hid (ok_no (d:=d) (x:=x) (by omega))
   have HD:=Lib.hid (decide_eq_true hk)
   have HH:=Lib.hid (show hdZ d x=fun _=>0 by unfold hdZ;rw [HK.out,if_neg (by simp)])
   have i1:(x:Int)>9223372036854775807:=by omega
   clear hx hx2 hk
   obtain⟨w1,hw1⟩:=Lv (w.alloc (.cells (arL 8 fun _=>0).toArray 71))
   have hb1:=Bl hw1
   have hR1:Ar w1 w.heap.size 8 (fun _=>0):=by rw [hw1];exact Ar.new w 8 _ _
   have HK9:=Lib.hid (nknown d w1 hd)
   clear hd
   go_enter Tryz.func26,Tryz.ntmps26
   go_upto_region 1 with fail
   rw [←hw1]
   clear hw1
   go_wp2_with fail
   refine HK9.out.mono ?_
   clear HK9
   rintro e w2 ⟨rfl,rfl⟩
   have hR2:=hR1
   have hb2:=hb1
   clear hR1 hb1
   rw [HD.out]
   go_wp2_with (first|(refine wpList_build_by rfl _ _ rfl [] rfl _ (zeron8 _) ?_)|(refine wpList_store_ar rfl _ _ _ rfl _ _ _ (fun _=>0) rfl rfl hR2 (size8n _) ?_;intro w8 hA8 hb8 _ _))
   refine bodyPost_ret_ar2 rfl rfl rfl hA8 Tryz.arr8n (size8n _) rfl ⟨by rw [HK.out,HH.out];rfl,?_⟩
   exact hb2.trans (hb8.mono (Nat.le_refl _))
 ·have HK:=Lib.hid (ok_no (d:=d) (x:=x) (by omega))
  have HD:=Lib.hid (decide_eq_false hk)
  have HH:=Lib.hid (show hdZ d x=fun _=>0 by unfold hdZ;rw [HK.out,if_neg (by simp)])
  clear hx hk
  obtain⟨w1,hw1⟩:=Lv (w.alloc (.cells (arL 8 fun _=>0).toArray 71))
  have hb1:=Bl hw1
  have hR1:Ar w1 w.heap.size 8 (fun _=>0):=by rw [hw1];exact Ar.new w 8 _ _
  have HK9:=Lib.hid (nknown d w1 hd)
  clear hd
  go_enter Tryz.func26,Tryz.ntmps26
  go_upto_region 1 with fail
  rw [←hw1]
  clear hw1
  go_wp2_with fail
  refine HK9.out.mono ?_
  clear HK9
  rintro e w2 ⟨rfl,rfl⟩
  have hR2:=hR1
  have hb2:=hb1
  clear hR1 hb1
  rw [HD.out]
  go_wp2_with (first|(refine wpList_build_by rfl _ _ rfl [] rfl _ (zeron8 _) ?_)|(refine wpList_store_ar rfl _ _ _ rfl _ _ _ (fun _=>0) rfl rfl hR2 (size8n _) ?_;intro w8 hA8 hb8 _ _))
  refine bodyPost_ret_ar2 rfl rfl rfl hA8 Tryz.arr8n (size8n _) rfl ⟨by rw [HK.out,HH.out];rfl,?_⟩
  exact hb2.trans (hb8.mono (Nat.le_refl _))
set_option maxHeartbeats 1600000 in
theorem nwhole (h:Nat→Nat) (w:World) (hh: ∀j,j<8→h j<256):
  Calls Tryz.prog 30 #[.agg (arL 8 h).toArray] w fun e w'=>e= .returned (.agg (arL 12 (noF h)).toArray)∧Below w.heap.size w w':=by
 have hz:=zero12n
 have HB:=Lib.hid hh
 obtain⟨kK,hkK⟩:=Le ((arL 8 (h)).toArray)
 obtain⟨w1,hw1⟩:=Lv (w.alloc (.cells (arL 8 (h)).toArray 71))
 have hs1:=Zs1 hw1
 have hBw1:=Bl hw1
 have hKw1:Ar w1 w.heap.size 8 (h):=by rw [hw1];exact Ar.new w 8 _ _
 obtain⟨w2,hw2⟩:=Lv (w1.alloc (.cells (arL 12 (fun _=>0)).toArray 77))
 have hs2:=Zs2 hw2 hs1
 have hBw2:=Bm hw2 hBw1
 have hKw2:=hKw1.alloc (by omega) (.cells (arL 12 (fun _=>0)).toArray 77)
 rw [←hw2]at hKw2
 have hRw2:Ar w2 (w.heap.size+1) 12 (fun _=>0):=by rw [hw2,←hs1];exact Ar.new w1 12 _ _
 clear hKw1 hBw1
 obtain⟨w3,hw3⟩:=Lv (w2.alloc (.cells (arL 12 (fun _=>0)).toArray 77))
 have hs3:=Zs3 hw3 hs2
 have hBw3:=Bm hw3 hBw2
 have hKw3:=hKw2.alloc (by omega) (.cells (arL 12 (fun _=>0)).toArray 77)
 rw [←hw3]at hKw3
 have hRw3:=hRw2.alloc (by omega) (.cells (arL 12 (fun _=>0)).toArray 77)
 rw [←hw3]at hRw3
 have hNw3:Ar w3 (w.heap.size+2) 12 (fun _=>0):=by rw [hw3,←hs2];exact Ar.new w2 12 _ _
 clear hKw2 hRw2 hBw2
 have HKK:=Lib.hid hkK
 rw [hkK]at hw1
 rw [hkK]
 clear hkK
 obtain⟨i0,hi0,hz0,hz1,hz2⟩:=info_parts info8n
 have HI0:=Lib.hid hi0
 have HZ1:=Lib.hid hz1
 clear hi0 hz0 hz1 hz2 hh
 have hat:=arrayAt12n
 go_enter Tryz.func30,Tryz.ntmps30
 go_upto_region 2 with fail
 rw [←hw1,←hw2,←hw3]
 clear hw1 hw2 hw3
 try simp only [Nat.add_assoc,Nat.reduceAdd]
 obtain⟨gR,hgR⟩:=Le (w.heap.size+1)
 rw [hgR]at hRw3
 obtain⟨gN,hgN⟩:=Le (w.heap.size+2)
 rw [hgN]at hNw3
 try rw [hgN]
 try rw [hgR]
 have hlR:w.heap.size<gR:=by omega
 have hlN:gR<gN:=by omega
 clear hs1 hs2 hs3 hgR hgN
 refine wp_region_noPanic ?_
 have hRqd:=hRw3.drew
 have hNqd:=hNw3.drew
 refine wp_region_held_drew (S:=fun W=>Ar W w.heap.size 8 (h)∧Below w.heap.size w W) (by kernel_rfl) ⟨hKw3.drew,hBw3.drew⟩ (fun hH'=> ?_)
 clear hKw3 hBw3 hRw3 hNw3
 generalize World.drew w3=qd at*
 refine tw 0 ?vq1 rfl ?hyq1 ?restq1
 case hyq1=>
  intro W hSw
  have hsl:=slice412 gN W
  go_simp
  try with_reducible rfl
 simp only [Act.put,nrm]
 refine tw 1 ?vq2 rfl ?hyq2 ?restq2
 case hyq2=>
  intro W hSw
  have hsl:=slice8a w.heap.size W
  go_simp
  try with_reducible rfl
 simp only [Act.put,nrm]
 refine rd 2 rfl (fun K hK=> ?_)
 rw [if_pos (by rfl)]
 refine wp_append_cells qd _ _ 25 rfl 5 i0 Tryz.underlying25 HI0.out HZ1.out gN 0 4 12 rfl ⟨w.heap.size,0,none⟩ 8 8 (arL 8 h) rfl (arL_len _ _) (hH'.1).src (arL_one 8 h) (by omega) (fun j hj=>⟨_,hNqd (0+4+j) (by rw [arL_len]at hj;omega)⟩) ?_
 have hNq3:=(hNqd.wholeO h 4 8 (by omega)).ext noW
 have hRq3:=hRqd.apart (b:=gN) (by omega) (arL 8 h) 4
 try dsimp only [Nat.zero_add,Nat.reduceAdd]
 refine hK.out _ _ ⟨(hH'.1).apart (b:=gN) (by omega) (arL 8 h) 4,(hH'.2).trans (Below.setCells (Below.refl w.heap.size _) (b:=gN) (by omega) (arL 8 h) 4)⟩ ?_
 clear hK K hH' hNqd hRqd
 intro hH'
 generalize World.setCells qd gN 4 (arL 8 h)=q3 at*
 try simp only [Act.put,nrm]
 refine rd 3 rfl (fun K hK=> ?_)
 go_simp
 refine hK.out _ _ hH' ?_
 clear hK K hH'
 intro hH'
 try simp only [Act.put,nrm]
 refine rd 4 rfl (fun K hK=> ?_)
 rw [if_pos (by rfl)]
 refine wp_load_mid _ _ rfl gN 0 rfl (arL 12 (noF h)) _ hNq3.range Tryz.arr12n rfl (size12n _) ?_
 refine hK.out _ _ hH' ?_
 clear hK K hH'
 intro hH'
 try simp only [Act.put,nrm]
 refine rd 5 rfl (fun K hK=> ?_)
 rw [if_pos (by rfl)]
 refine wp_store_mid _ _ _ rfl gR 0 (arL 12 (noF h)).toArray rfl rfl hRq3.there (size12n _) (all_oneCell_toArray (arL_one 12 (noF h))) ?_
 have hRq4:=hRq3.whole (noF h)
 have hNq4:=hNq3.apart (b:=gR) (by omega) (arL 12 (noF h)) 0
 dsimp only [List.toList_toArray]
 refine hK.out _ _ ⟨(hH'.1).apart (b:=gR) (by omega) (arL 12 (noF h)) 0,(hH'.2).trans (Below.setCells (Below.refl w.heap.size _) (b:=gR) (by omega) (arL 12 (noF h)) 0)⟩ ?_
 clear hK K hH' hRq3 hNq3
 intro hH'
 generalize World.setCells q3 gR 0 (arL 12 (noF h))=q4 at*
 try simp only [Act.put]
 refine wpAnyH_done (by kernel_rfl) ?_ _
 refine NoPanic.normal ?_
 have hB9:=hH'.2
 clear hH'
 go_wp2_with fail
 refine bodyPost_ret_ar rfl rfl hRq4 Tryz.arr12n (size12n _) rfl ⟨rfl,hB9⟩
end
section
open Go.RowKit
set_option linter.unusedVariables false
set_option maxRecDepth 100000
set_option linter.unusedSimpArgs false
theorem hdZ_lt (d:Int) (x:Nat): ∀j,j<8→hdZ d x j<256:=fun j hj=>by
 unfold hdZ
 split
 ·exact hdF_lt _ _ j hj
 ·show 0<256;omega
theorem noZ_eq (d:Int) (x:Nat):noZ d x=noF (hdZ d x):=by
 unfold noZ hdZ
 split
 ·rfl
 ·funext j;unfold noF;split<;>rfl
theorem four_yes {n:Nat→Nat} (h: ∀j,j<4→n j=0):four n=true:=decide_eq_true ⟨h 0 (by omega),h 1 (by omega),h 2 (by omega),h 3 (by omega)⟩
theorem four_no {n:Nat→Nat} (h: ¬ ∀j,j<4→n j=0):four n=false:=decide_eq_false fun h9=>h fun j hj=>by
 obtain⟨a,b,c,d⟩:=h9
 have e:j=0∨j=1∨j=2∨j=3:=by omega
 rcases e with rfl|rfl|rfl|rfl<;>assumption
theorem ph_eight (h:Nat→Nat):phD (liB 8 h)=hdD (liB 8 h)∧phX (liB 8 h)=hdX (liB 8 h)∧decide (8≤(liB 8 h).length)=true:=by
 have e:=liB_len 8 h
 unfold phD phX
 rw [if_pos (by omega),if_pos (by omega),List.take_of_length_le (by omega)]
 exact⟨rfl,rfl,decide_eq_true (by omega)⟩
theorem slice124 (g:Nat) (w:World):(Instr.sliceAt 77 (.pointer (some ⟨g,0,none⟩)) (some (.int .i64 4)) none none).run Tryz.prog w= .ok (.slice (some ⟨g,4,none⟩) 8 8) w:=by
 have hal:Tryz.prog.arrayLen 77=12:=by simp [Program.arrayLen]
 have hel:Tryz.prog.elem 77=5:=by simp [Program.elem]
 have hs:(sizeOf 5).run Tryz.prog w= .ok 1 w:=by kernel_rfl
 rw [run_sliceAt_array_l w 77 ⟨g,0,none⟩ (by rw [hal,hel];exact Tryz.arr12n) .i64 4 (by omega) (by rw [hal];omega),hal,hel,hs]
 simp [Result.andThen_ok,slicedAt,Addr.add]
end
end Go.Proofs.YtiacbphnclgikaaGreatDoor
