/-
 Contracts of Turned of the reference package of layer 4, of Sub of that of layer 6 with the table of the way back, and of unmix of that of layer 13, by walks through their texts; what was there stays as it was.
-/
import Derived.Test.YtiacbphnclgikaaGreatDoorSqz
import Derived.Test.YtiacbphnclgikaaGreatDoorFre
import Derived.Test.YtiacbphnclgikaaGreatDoorGcr
import Derived.Test.YtiacbphnclgikaaGreatDoorGfi
import Derived.Test.YtiacbphnclgikaaGreatDoorGke
import Derived.Deep.RegionWith
import Derived.Deep.RegionHeld3
namespace Go.Proofs.YtiacbphnclgikaaGreatDoor
open Go.RowKit
set_option linter.unusedVariables false
set_option maxRecDepth 100000
theorem turn_step (n:Nat) (hn:n<256) (j:Nat) (hj:j<256):(if j=sb n then n else(if bk j<n then bk j else 0))=if bk j<n+1 then bk j else 0:=by
 by_cases h:j=sb n
 ·subst h
  rw [if_pos rfl,bk_sb n hn,if_pos (by omega)]
 ·rw [if_neg h]
  have h2:bk j≠n:=fun e=>h (by rw [←e,sb_bk j hj])
  by_cases h3:bk j<n
  ·rw [if_pos h3,if_pos (by omega)]
  ·rw [if_neg h3,if_neg (by omega)]
set_option maxHeartbeats 1600000 in
theorem refturned (w:World):
  Calls Tryz.prog 135 #[.agg boxA] w fun e w'=>e= .returned (.agg (arL 256 bk).toArray)∧Below w.heap.size w w':=by
 have hz:=zero256
 obtain⟨w1,hw1⟩:=Lv (w.alloc (.cells boxA 46))
 have hs1:=Zs1 hw1
 have hb1:=Bl hw1
 have hX1:Ar w1 w.heap.size 256 sb:=by rw [hw1];exact Ar.new w 256 sb _
 obtain⟨w2,hw2⟩:=Lv (w1.alloc (.cells (arL 256 fun _=>0).toArray 46))
 have hs2:=Zs2 hw2 hs1
 have hb2:=Bm hw2 hb1
 have hR2:Ar w2 (w.heap.size+1) 256 (fun _=>0):=by rw [hw2,←hs1];exact Ar.new w1 256 _ _
 have hX2:=ara hw2 hX1
 obtain⟨w3,hw3⟩:=Lv (w2.alloc (.cells (arL 256 fun _=>0).toArray 46))
 have hb3:=Bm hw3 hb2
 have hT3:Ar w3 (w.heap.size+2) 256 (fun _=>0):=by rw [hw3,←hs2];exact Ar.new w2 256 _ _
 have hR3:=ara hw3 hR2
 have hX3:=ara hw3 hX2
 clear hb1 hX1 hb2 hR2 hX2
 obtain⟨bA,hbA⟩:=Le (boxA)
 rw [hbA]at hw1
 rw [hbA]
 clear hbA
 go_enter Tryz.func135,Tryz.ntmps135
 go_upto_region 2 with fail
 rw [←hw1,←hw2,←hw3]
 clear hw1 hw2 hw3 hs1 hs2
 obtain⟨gT,hgT⟩:=Le (w.heap.size+2)
 have hge:w.heap.size+2≤gT:=by omega
 have hgT2:w.heap.size+1+1=gT:=hgT
 rw [hgT]at hT3
 try rw [hgT2]
 try rw [hgT]
 clear hgT hgT2
 go_wp2_with fail
 go_loopw [4] (fun i wr=> ∃n:Nat,n≤256∧i= .int .i64 n∧Ar wr w.heap.size 256 sb∧Ar wr (w.heap.size+1) 256 (fun _=>0)∧Ar wr gT 256 (fun j=>if bk j<n then bk j else 0)∧Below w.heap.size w wr) (fun i _=>256-(intOf i).toNat)
 case atStart=>exact⟨0,Nat.zero_le _,rfl,hX3,hR3,hT3.ext (fun _ _=>rfl),hb3⟩
 case round=>
  clear hX3 hR3 hT3 hb3
  obtain⟨n,hn,rfl,hX,hR,hT,hB⟩:=hrel
  by_cases hlt:n<256
  ·have i1:(n:Int)<256:=by omega
   have i3:IntKind.u8.wrap (n:Int)=(n:Int):=by rw [IntKind.wrap_u8];omega
   have hsl:=sb_lt n
   have i2:((sb n:Nat):Int)<256:=by omega
   obtain⟨c0,_⟩:=hX n hlt
   obtain⟨c1,f1⟩:=hT (sb n) hsl
   have hT2:=(hT.set (v:=n) (j:=sb n) hsl rfl).ext (f':=fun j=>if bk j<n+1 then bk j else 0) (fun j hj=>turn_step n hlt j hj)
   have hX2:=hX.far (p:=⟨gT,sb n,none⟩) (by simp;omega) (.int .u8 (n:Nat))
   have hR2:=hR.far (p:=⟨gT,sb n,none⟩) (by simp;omega) (.int .u8 (n:Nat))
   have hB2:=hB.setCell (p:=⟨gT,sb n,none⟩) (by simp;omega) (.int .u8 (n:Nat))
   clear hX hR hT hB hsl
   dsimp only at c1
   generalize (if bk (sb n)<n then bk (sb n)else 0)=v1 at*
   generalize sb n=x at*
   go_wp2_with fail
   go_roundw
   case rel=>exact⟨n+1,by omega,by go_num,hX2,hR2,hT2,hB2⟩
   case measure=>simp [intOf];omega
  ·obtain rfl:n=256:=by omega
   have hT2:=hT.ext (f':=bk) (fun j hj=>by rw [if_pos (bk_lt j hj)])
   clear hT
   go_wp2_with (first
    |(refine wpList_load_ar rfl _ _ rfl _ _ _ rfl hT2 Tryz.arr256 (size_arL _) ?_)
    |(refine wpList_store_ar rfl _ _ _ rfl _ _ _ bk rfl rfl hR (size_arL _) ?_;intro w8 hA8 hb8 _ _))
   refine bodyPost_ret_ar rfl rfl hA8 Tryz.arr256 (size_arL _) rfl ⟨rfl,?_⟩
   exact hB.trans (hb8.mono (by omega))
set_option maxHeartbeats 1600000 in
theorem refUsub6 (f:Nat→Nat) (w:World) (hf:B16 f):
  Calls Tryz.prog 130 #[.agg (arL 16 f).toArray,.agg (arL 256 bk).toArray] w fun e w'=>e= .returned (.agg (arL 16 (usF f)).toArray)∧Below w.heap.size w w':=by
 have hz:=zeroG
 obtain⟨kA,hkA⟩:=Le ((arL 16 f).toArray)
 obtain⟨w1,hw1⟩:=Lv (w.alloc (.cells (arL 16 f).toArray 162))
 have hs1:=Zs1 hw1
 have hb1:=Bl hw1
 have hG1:Ar w1 w.heap.size 16 f:=by rw [hw1];exact Ar.new w 16 f _
 obtain⟨w2,hw2⟩:=Lv (w1.alloc (.cells (arL 256 bk).toArray 46))
 have hs2:=Zs2 hw2 hs1
 have hb2:=Bm hw2 hb1
 have hX2:Ar w2 (w.heap.size+1) 256 bk:=by rw [hw2,←hs1];exact Ar.new w1 256 bk _
 have hG2:=ara hw2 hG1
 obtain⟨w3,hw3⟩:=Lv (w2.alloc (.cells (arL 16 fun _=>0).toArray 162))
 have hb3:=Bm hw3 hb2
 have hR3:Ar w3 (w.heap.size+2) 16 (fun _=>0):=by rw [hw3,←hs2];exact Ar.new w2 16 _ _
 have hX3:=ara hw3 hX2
 have hG3:=ara hw3 hG2
 rw [hkA]at hw1
 rw [hkA]
 clear hb1 hG1 hb2 hX2 hG2 hkA
 go_enter Tryz.func130,Tryz.ntmps130
 go_upto_region 1 with fail
 rw [←hw1,←hw2,←hw3]
 clear hw1 hw2 hw3 hs1 hs2
 obtain⟨gR,hgR⟩:=Le (w.heap.size+2)
 have hge:w.heap.size+2≤gR:=by omega
 have hgR2:w.heap.size+1+1=gR:=hgR
 rw [hgR]at hR3
 rw [hgR2]
 clear hgR hgR2
 obtain⟨bA,hbA⟩:=Le ((arL 256 bk).toArray)
 rw [hbA]
 clear hbA
 go_wp2_with fail
 go_loopw [5] (fun i wr=> ∃r:Nat,r≤4∧i= .int .i64 r∧Ar wr w.heap.size 16 (fun m=>if m<4*r then usF f m else f m)∧Ar wr (w.heap.size+1) 256 bk∧Ar wr gR 16 (fun _=>0)∧Below w.heap.size w wr) (fun i _=>4-(intOf i).toNat)
 case atStart=>exact⟨0,Nat.zero_le _,rfl,hG3.ext (fun _ _=>rfl),hX3,hR3,hb3⟩
 case round=>
  clear hG3 hX3 hR3 hb3
  obtain⟨r,hr,rfl,hG,hX,hR,hB⟩:=hrel
  by_cases hlt:r<4
  ·have i1:(r:Int)<4:=by omega
   have hG0:Ar wr w.heap.size 16 (fun m=>if m<4*r+0 then usF f m else f m):=hG
   clear hG
   go_wp2_with fail
   obtain⟨wo,rfl⟩:=Lv (wr)
   go_loopw [6] (fun i wr=> ∃c:Nat,c≤4∧i= .int .i64 c∧Ar wr w.heap.size 16 (fun m=>if m<4*r+c then usF f m else f m)∧Ar wr (w.heap.size+1) 256 bk∧Ar wr gR 16 (fun _=>0)∧Below w.heap.size w wr) (fun i _=>4-(intOf i).toNat)
   case atStart=>exact⟨0,Nat.zero_le _,rfl,hG0,hX,hR,hB⟩
   case round=>
    clear hG0 hX hR hB
    obtain⟨c,hc,rfl,hG,hX,hR,hB⟩:=hrel
    by_cases hlc:c<4
    ·obtain⟨o,ho⟩:=Lv (r*4+c)
     have i2:(c:Int)<4:=by omega
     have hfo:=hf o (by omega)
     obtain⟨c0,f0⟩:=hG o (by omega)
     dsimp only at c0
     rw [if_neg (by omega),ho]at c0
     rw [ho]at f0
     obtain⟨c1,_⟩:=hX (f (r*4+c)) (by rw [←ho];exact hfo)
     have i3:((f (r*4+c):Nat):Int)<256:=by rw [←ho];omega
     have e1:4*r+c=o:=by omega
     have hG2:=(hG.set (j:=r*4+c) (v:=bk (f (r*4+c))) (by omega) rfl).ext (f':=fun m=>if m<4*r+(c+1)then usF f m else f m) (fun m _=>by
      rw [show 4*r+(c+1)=o+1 by omega,e1,←ho];exact mid_step (usF f) f o m)
     have hX2:=hX.far (p:=⟨w.heap.size,r*4+c,none⟩) (by simp) (.int .u8 (bk (f (r*4+c)):Nat))
     have hR2:=hR.far (p:=⟨w.heap.size,r*4+c,none⟩) (by simp;omega) (.int .u8 (bk (f (r*4+c)):Nat))
     have hB2:=hB.setCell (p:=⟨w.heap.size,r*4+c,none⟩) (by simp) (.int .u8 (bk (f (r*4+c)):Nat))
     clear hG hX hR hB ho hfo e1
     generalize f (r*4+c)=x at*
     go_wp2_with fail
     refine wp_region_noPanic ?_
     go_big_region
     refine NoPanic.normal ?_
     go_wp2_with fail
     go_roundw
     case rel=>exact⟨c+1,by omega,by go_num,hG2.drew,hX2.drew,hR2.drew,hB2.drew⟩
     case measure=>simp [intOf];omega
    ·obtain rfl:c=4:=by omega
     go_wp2_with fail
     go_roundw
     case rel=>exact⟨r+1,by omega,by go_num,hG,hX,hR,hB⟩
     case measure=>simp [intOf];omega
  ·obtain rfl:r=4:=by omega
   have hG2:=hG.ext (f':=usF f) (fun j hj=>by rw [if_pos (by omega)])
   clear hG
   go_wp2_with (first
    |(refine wpList_load_ar rfl _ _ rfl _ _ _ rfl hG2 Tryz.arrG (sizeG _) ?_)
    |(refine wpList_store_ar rfl _ _ _ rfl _ _ _ (usF f) rfl rfl hR (sizeG _) ?_;intro w8 hA8 hb8 _ _))
   refine bodyPost_ret_ar rfl rfl hA8 Tryz.arrG (sizeG _) rfl ⟨rfl,?_⟩
   exact hB.trans (hb8.mono (by omega))
theorem rUsub (X:Nat→Nat) (w:World) (h:B16 X):
  Calls Tryz.prog 130 #[.agg (arL 16 (tr X)).toArray,.agg (arL 256 bk).toArray] w fun e w'=>e= .returned (.agg (arL 16 (tr (usF X))).toArray)∧Below w.heap.size w w':=refUsub6 (tr X) w (tr_lt h)
theorem sh_three (X:Nat→Nat):E16 (shF (shF (shF X))) (uhF X):=fun j hj=>by
 have H: ∀j,j<16→(((j+4*(j%4))%16+4*((j+4*(j%4))%16%4))%16+4*(((j+4*(j%4))%16+4*((j+4*(j%4))%16%4))%16%4))%16=(j+16-4*(j%4))%16:=by decide
 show X _=X _
 rw [H j hj]
def umG (f:Nat→Nat) (m:Nat):Nat:=
 ((mul 14 (f m)^^^mul 11 (f ((m/4+1)%4*4+m%4)))^^^mul 13 (f ((m/4+2)%4*4+m%4)))^^^mul 9 (f ((m/4+3)%4*4+m%4))
theorem umG_tr (f:Nat→Nat) (m:Nat) (hm:m<16):umG f m=tr (umF (tr f)) m:=by
 have H1: ∀m,m<16→4*((4*(m%4)+m/4)%4)+(4*(m%4)+m/4)/4=m:=by decide
 have H2: ∀k,k<4→ ∀m,m<16→4*(((4*(m%4)+m/4)/4*4+(4*(m%4)+m/4+k)%4)%4)+((4*(m%4)+m/4)/4*4+(4*(m%4)+m/4+k)%4)/4=(m/4+k)%4*4+m%4:=by decide
 unfold umG umF mxF tr
 dsimp only
 rw [H1 m hm,H2 1 (by omega) m hm,H2 2 (by omega) m hm,H2 3 (by omega) m hm]
def umP (f:Nat→Nat) (c r m:Nat):Nat:=if m%4<c∨m%4=c∧m/4<r then umG f m else 0
theorem umP_next (f:Nat→Nat) (c m:Nat) (hm:m<16):umP f c 4 m=umP f (c+1) 0 m:=by
 unfold umP
 by_cases h:m%4<c∨m%4=c∧m/4<4
 ·rw [if_pos h,if_pos (by omega)]
 ·rw [if_neg h,if_neg (by omega)]
theorem umP_step (f:Nat→Nat) (c r m:Nat) (hc:c<4) (hr:r<4) (hm:m<16):(if m=r*4+c then umG f (r*4+c)else umP f c r m)=umP f c (r+1) m:=by
 unfold umP
 by_cases h:m=r*4+c
 ·rw [if_pos h,if_pos (by omega),h]
 ·rw [if_neg h]
  by_cases h2:m%4<c∨m%4=c∧m/4<r
  ·rw [if_pos h2,if_pos (by omega)]
  ·rw [if_neg h2,if_neg (by omega)]
theorem refmul14 (x:Nat) (w:World) (hx:x<256):Calls Tryz.prog 63 #[.int .u8 14,.int .u8 x] w fun e w'=>e= .returned (.int .u8 (mul 14 x:Nat))∧Below w.heap.size w w':=refmul 14 x w (by omega) hx
theorem refmul11 (x:Nat) (w:World) (hx:x<256):Calls Tryz.prog 63 #[.int .u8 11,.int .u8 x] w fun e w'=>e= .returned (.int .u8 (mul 11 x:Nat))∧Below w.heap.size w w':=refmul 11 x w (by omega) hx
theorem refmul13 (x:Nat) (w:World) (hx:x<256):Calls Tryz.prog 63 #[.int .u8 13,.int .u8 x] w fun e w'=>e= .returned (.int .u8 (mul 13 x:Nat))∧Below w.heap.size w w':=refmul 13 x w (by omega) hx
theorem refmul9 (x:Nat) (w:World) (hx:x<256):Calls Tryz.prog 63 #[.int .u8 9,.int .u8 x] w fun e w'=>e= .returned (.int .u8 (mul 9 x:Nat))∧Below w.heap.size w w':=refmul 9 x w (by omega) hx
set_option maxHeartbeats 1600000 in
theorem refUnmix (f:Nat→Nat) (w:World) (hf:B16 f):
  Calls Tryz.prog 136 #[.agg (arL 16 f).toArray] w fun e w'=>e= .returned (.agg (arL 16 (tr (umF (tr f)))).toArray)∧Below w.heap.size w w':=by
 have hz:=zeroG
 obtain⟨kA,hkA⟩:=Le ((arL 16 f).toArray)
 obtain⟨w1,hw1⟩:=Lv (w.alloc (.cells (arL 16 f).toArray 162))
 have hs1:=Zs1 hw1
 have hb1:=Bl hw1
 have hK1:Ar w1 w.heap.size 16 f:=by rw [hw1];exact Ar.new w 16 f _
 obtain⟨w2,hw2⟩:=Lv (w1.alloc (.cells (arL 16 fun _=>0).toArray 162))
 have hs2:=Zs2 hw2 hs1
 have hb2:=Bm hw2 hb1
 have hR2:Ar w2 (w.heap.size+1) 16 (fun _=>0):=by rw [hw2,←hs1];exact Ar.new w1 16 _ _
 have hK2:=ara hw2 hK1
 obtain⟨w3,hw3⟩:=Lv (w2.alloc (.cells (arL 16 fun _=>0).toArray 162))
 have hb3:=Bm hw3 hb2
 have hT3:Ar w3 (w.heap.size+2) 16 (fun _=>0):=by rw [hw3,←hs2];exact Ar.new w2 16 _ _
 have hR3:=ara hw3 hR2
 have hK3:=ara hw3 hK2
 rw [hkA]at hw1
 rw [hkA]
 clear hb1 hK1 hb2 hR2 hK2 hkA
 go_enter Tryz.func136,Tryz.ntmps136
 go_upto_region 2 with fail
 rw [←hw1,←hw2,←hw3]
 clear hw1 hw2 hw3 hs1 hs2
 obtain⟨gT,hgT⟩:=Le (w.heap.size+2)
 have hge:w.heap.size+2≤gT:=by omega
 have hgT2:w.heap.size+1+1=gT:=hgT
 rw [hgT]at hT3
 rw [hgT2]
 clear hgT hgT2
 have HF:=Lib.hid hf
 clear hf
 go_wp2_with fail
 go_loopw [4] (fun i wr=> ∃c:Nat,c≤4∧i= .int .i64 c∧Ar wr w.heap.size 16 f∧Ar wr (w.heap.size+1) 16 (fun _=>0)∧Ar wr gT 16 (umP f c 0)∧Below w.heap.size w wr) (fun i _=>4-(intOf i).toNat)
 case atStart=>exact⟨0,Nat.zero_le _,rfl,hK3,hR3,hT3.ext (fun _ _=>by unfold umP;rw [if_neg (by omega)]),hb3⟩
 case round=>
  clear hK3 hR3 hT3 hb3
  obtain⟨c,hc,rfl,hK,hR,hT,hB⟩:=hrel
  by_cases hlt:c<4
  ·have i1:(c:Int)<4:=by omega
   go_wp2_with fail
   obtain⟨wo,rfl⟩:=Lv (wr)
   go_loopw [5] (fun i wr=> ∃r:Nat,r≤4∧i= .int .i64 r∧Ar wr w.heap.size 16 f∧Ar wr (w.heap.size+1) 16 (fun _=>0)∧Ar wr gT 16 (umP f c r)∧Below w.heap.size w wr) (fun i _=>4-(intOf i).toNat)
   case atStart=>exact⟨0,Nat.zero_le _,rfl,hK,hR,hT,hB⟩
   case round=>
    clear hK hR hT hB
    obtain⟨r,hr,rfl,hK,hR,hT,hB⟩:=hrel
    by_cases hlr:r<4
    ·have i2:(r:Int)<4:=by omega
     obtain⟨r1,hr1⟩:=Lv ((r+1)%4)
     obtain⟨c0,_⟩:=hK (r*4+c) (by omega)
     obtain⟨c1,_⟩:=hK (r1*4+c) (by omega)
     have l0:=HF.out (r*4+c) (by omega)
     have l1:=HF.out (r1*4+c) (by omega)
     have hgl:=cell_lt c0
     obtain⟨x0,hx0⟩:=Lv (f (r*4+c))
     obtain⟨x1,hx1⟩:=Lv (f (r1*4+c))
     rw [←hx0]at c0 l0
     rw [←hx1]at c1 l1
     have hxx:bits BinOp.xor IntKind.u8 ((mul 14 x0:Nat):Int) ((mul 11 x1:Nat):Int)=((mul 14 x0^^^mul 11 x1:Nat):Int):=xor_n8 _ _ (mul_lt _ _ (by omega)) (mul_lt _ _ (by omega))
     have HX0:=Lib.hid hx0
     have HX1:=Lib.hid hx1
     have HR1:=Lib.hid hr1
     have L0:=Lib.hid l0
     have L1:=Lib.hid l1
     obtain⟨⟨a1,a2⟩,⟨a3,a4⟩,a5,j1⟩:=rowf r 1 1 r1 rfl hlr (by decide) hr1
     clear hx0 hx1 hr1 l0 l1
     go_wp2_with fail
     go_region_held3 (fun W=>W.cell? ⟨w.heap.size,r*4+c,none⟩=some (.int .u8 (x0:Nat))∧W.cell? ⟨w.heap.size,r1*4+c,none⟩=some (.int .u8 (x1:Nat))∧Base wr W)
      (first|assumption|(exact⟨c0,c1,(Base.refl _).drew⟩))
      (first
      |(go_at_call 63;(with_reducible refine(refmul14 _ _ ?_).mono ?_);(· exact L0.out);rintro e w6 ⟨rfl,hb6⟩;have hN:=heldT (by assumption) (cell_lt (And.left (by assumption))) (cell_lt (And.left (by assumption))) hb6)
      |(go_at_call 63;(with_reducible refine(refmul11 _ _ ?_).mono ?_);(· exact L1.out);rintro e w6 ⟨rfl,hb6⟩;have hN:=heldT (by assumption) (cell_lt (And.left (by assumption))) (cell_lt (And.left (by assumption))) hb6))
     have hH:Base wr w6:=(And.right (And.right (by assumption)))
     clear a1 a2 a3 a4 a5 j1 hxx
     have hK6:=hK.to (by decide) hH
     have hR6:=hR.to (by decide) hH
     have hT6:=hT.to (by decide) hH
     have hB6:=hB.trans (Below.mono hH hB.size)
     obtain⟨wz,hwz⟩:=Lv (w6)
     rw [←hwz]at hK6 hR6 hT6 hB6
     rw [←hwz]
     clear hwz hK hR hT hB c0 c1 hgl
     obtain⟨p,hp⟩:=Lv (mul 14 x0^^^mul 11 x1)
     have hpl:p<256:=by rw [hp];exact xor_lt _ _ (mul_lt _ _ (by decide)) (mul_lt _ _ (by decide))
     rw [←hp]
     obtain⟨r2,hr2⟩:=Lv ((r+2)%4)
     obtain⟨r3,hr3⟩:=Lv ((r+3)%4)
     have o2:r2*4+c<16:=by omega
     have o3:r3*4+c<16:=by omega
     have o4:r*4+c<16:=by omega
     have e4:(r*4+c)/4=r:=by omega
     have e5:(r*4+c)%4=c:=by omega
     have g1:gT≠w.heap.size:=by omega
     have g2:gT≠w.heap.size+1:=by omega
     have g3:w.heap.size≤gT:=by omega
     have L2:=Lib.hid (HF.out (r2*4+c) o2)
     have L3:=Lib.hid (HF.out (r3*4+c) o3)
     have hz9:(p^^^mul 13 (f (r2*4+c)))^^^mul 9 (f (r3*4+c))=umG f (r*4+c):=by
      unfold umG
      rw [e4,e5,hp,HX0.out,HX1.out,HR1.out,hr2,hr3]
     have y2:bits BinOp.xor IntKind.u8 ((p:Nat):Int) ((mul 13 (f (r2*4+c)):Nat):Int)=((p^^^mul 13 (f (r2*4+c)):Nat):Int):=xor_n8 _ _ hpl (mul_lt _ _ (by decide))
     have y3:bits BinOp.xor IntKind.u8 ((p^^^mul 13 (f (r2*4+c)):Nat):Int) ((mul 9 (f (r3*4+c)):Nat):Int)=(((p^^^mul 13 (f (r2*4+c)))^^^mul 9 (f (r3*4+c)):Nat):Int):=xor_n8 _ _ (xor_lt _ _ hpl (mul_lt _ _ (by decide))) (mul_lt _ _ (by decide))
     rw [hz9]at y3
     obtain⟨z9,hz⟩:=Le (umG f (r*4+c))
     rw [hz]at y3 hz9
     obtain⟨x2,hx2⟩:=Le (f (r2*4+c))
     obtain⟨x3,hx3⟩:=Le (f (r3*4+c))
     rw [hx2]at y2 y3 L2 hz9
     rw [hx3]at y3 L3 hz9
     have HZ9:=Lib.hid hz
     have HX2:=Lib.hid hx2
     have HX3:=Lib.hid hx3
     obtain⟨z8,hz8⟩:=Le (p^^^mul 13 x2)
     rw [hz8]at y2 y3
     obtain⟨m2,hm2⟩:=Le (mul 13 x2)
     obtain⟨m3,hm3⟩:=Le (mul 9 x3)
     rw [hm2]at y2
     rw [hm3]at y3
     have HM2:=Lib.hid hm2
     have HM3:=Lib.hid hm3
     have O2:=Lib.hid o2
     have O3:=Lib.hid o3
     have O4:=Lib.hid o4
     obtain⟨⟨b1,b2⟩,⟨b3,b4⟩,b5,j2⟩:=rowf r 2 2 r2 rfl hlr (by decide) hr2
     obtain⟨⟨d1,d2⟩,⟨d3,d4⟩,d5,j3⟩:=rowf r 3 3 r3 rfl hlr (by decide) hr3
     clear hz9 hp hr2 hr3 hpl e4 e5 o2 o3 o4 hz hx2 hx3 hz8 hm2 hm3
     go_upto_region 9 with fail
     refine wp_region_noPanic ?_
     have hTqd:=hT6.drew
     refine wp_region_held_drew (S:=fun W=>Ar W w.heap.size 16 (f)∧Ar W (w.heap.size+1) 16 (fun _=>0)∧Below w.heap.size w W) (by kernel_rfl) ⟨hK6.drew,hR6.drew,hB6.drew⟩ (fun hH'=> ?_)
     clear hK6 hR6 hB6 hT6
     generalize World.drew wz=qd at*
     refine tw 0 ?vq1 rfl ?hyq1 ?restq1
     case hyq1=>
      intro W hSw
      go_simp
      try with_reducible rfl
     simp only [Act.put,nrm]
     refine tw 1 ?vq2 rfl ?hyq2 ?restq2
     case hyq2=>
      intro W hSw
      go_simp
      try with_reducible rfl
     simp only [Act.put,nrm]
     refine tw 2 ?vq3 rfl ?hyq3 ?restq3
     case hyq3=>
      intro W hSw
      go_simp
      try with_reducible rfl
     simp only [Act.put,nrm]
     refine tw 3 ?vq4 rfl ?hyq4 ?restq4
     case hyq4=>
      intro W hSw
      go_simp
      try with_reducible rfl
     simp only [Act.put,nrm]
     refine tw 4 ?vq5 rfl ?hyq5 ?restq5
     case hyq5=>
      intro W hSw
      go_simp
      try with_reducible rfl
     simp only [Act.put,nrm]
     refine tw 5 ?vq6 rfl ?hyq6 ?restq6
     case hyq6=>
      intro W hSw
      go_simp
      try with_reducible rfl
     simp only [Act.put,nrm]
     refine tw 6 ?vq7 rfl ?hyq7 ?restq7
     case hyq7=>
      intro W hSw
      go_simp
      try with_reducible rfl
     simp only [Act.put,nrm]
     refine tw 7 ?vq8 rfl ?hyq8 ?restq8
     case hyq8=>
      intro W hSw
      go_simp
      try with_reducible rfl
     simp only [Act.put,nrm]
     refine tw 8 ?vq9 rfl ?hyq9 ?restq9
     case hyq9=>
      intro W hSw
      go_simp
      try with_reducible rfl
     simp only [Act.put,nrm]
     refine tw 9 ?vq10 rfl ?hyq10 ?restq10
     case hyq10=>
      intro W hSw
      have cK:=(hSw.1 (r2*4+c) O2.out).1
      rw [HX2.out]at cK
      go_simp
      try with_reducible rfl
     simp only [Act.put,nrm]
     refine tw 12 ?vq11 rfl ?hyq11 ?restq11
     case hyq11=>
      intro W hSw
      go_simp
      try with_reducible rfl
     simp only [Act.put,nrm]
     refine tw 13 ?vq12 rfl ?hyq12 ?restq12
     case hyq12=>
      intro W hSw
      go_simp
      try with_reducible rfl
     simp only [Act.put,nrm]
     refine tw 14 ?vq13 rfl ?hyq13 ?restq13
     case hyq13=>
      intro W hSw
      go_simp
      try with_reducible rfl
     simp only [Act.put,nrm]
     refine tw 15 ?vq14 rfl ?hyq14 ?restq14
     case hyq14=>
      intro W hSw
      go_simp
      try with_reducible rfl
     simp only [Act.put,nrm]
     refine tw 16 ?vq15 rfl ?hyq15 ?restq15
     case hyq15=>
      intro W hSw
      go_simp
      try with_reducible rfl
     simp only [Act.put,nrm]
     refine tw 17 ?vq16 rfl ?hyq16 ?restq16
     case hyq16=>
      intro W hSw
      go_simp
      try with_reducible rfl
     simp only [Act.put,nrm]
     refine tw 18 ?vq17 rfl ?hyq17 ?restq17
     case hyq17=>
      intro W hSw
      have cK:=(hSw.1 (r3*4+c) O3.out).1
      rw [HX3.out]at cK
      go_simp
      try with_reducible rfl
     simp only [Act.put,nrm]
     refine tw 21 ?vq18 rfl ?hyq18 ?restq18
     case hyq18=>
      intro W hSw
      go_simp
      try with_reducible rfl
     simp only [Act.put,nrm]
     refine rd 10 rfl (fun K hK=> ?_)
     go_simp
     refine(refmul13 x2 _ L2.out).mono ?_
     rintro e q19 ⟨rfl,hq⟩
     rw [HM2.out]
     go_wp2_with fail
     have hTq19:=hTqd.t hq
     refine hK.out _ _ ⟨hH'.1.t hq,hH'.2.1.t hq,Tq hH'.2.2 hq⟩ ?_
     clear hK K hH' hq hTqd
     intro hH'
     try simp only [Act.put,nrm]
     refine tw 11 ?vq20 rfl ?hyq20 ?restq20
     case hyq20=>
      intro W hSw
      go_simp
      try with_reducible rfl
     simp only [Act.put,nrm]
     refine rd 19 rfl (fun K hK=> ?_)
     go_simp
     refine(refmul9 x3 _ L3.out).mono ?_
     rintro e q21 ⟨rfl,hq⟩
     rw [HM3.out]
     go_wp2_with fail
     have hTq21:=hTq19.t hq
     refine hK.out _ _ ⟨hH'.1.t hq,hH'.2.1.t hq,Tq hH'.2.2 hq⟩ ?_
     clear hK K hH' hq hTq19
     intro hH'
     try simp only [Act.put,nrm]
     refine tw 20 ?vq22 rfl ?hyq22 ?restq22
     case hyq22=>
      intro W hSw
      go_simp
      try with_reducible rfl
     simp only [Act.put,nrm]
     refine tw 22 ?vq23 rfl ?hyq23 ?restq23
     case hyq23=>
      intro W hSw
      go_simp
      try with_reducible rfl
     simp only [Act.put,nrm]
     refine rd 23 rfl (fun K hK=> ?_)
     have cF:=(hTq21 (r*4+c) O4.out).1
     have fF:=(hTq21 (r*4+c) O4.out).2
     go_simp
     clear cF fF
     have hTq24:=(hTq21.set (j:=r*4+c) (v:=z9) O4.out rfl).ext (f':=umP f c (r+1)) (fun m hm=>by rw [←HZ9.out];exact umP_step f c r m hlt hlr hm)
     refine hK.out _ _ ⟨(hH'.1).far (p:=⟨gT,r*4+c,none⟩) g1 (.int .u8 ((z9:Nat):Int)),(hH'.2.1).far (p:=⟨gT,r*4+c,none⟩) g2 (.int .u8 ((z9:Nat):Int)),(hH'.2.2).setCell (p:=⟨gT,r*4+c,none⟩) g3 (.int .u8 ((z9:Nat):Int))⟩ ?_
     clear hK K hH' hTq21
     intro hH'
     generalize World.setCell q21 ⟨gT,r*4+c,none⟩ (.int .u8 ((z9:Nat):Int))=q24 at*
     try simp only [Act.put]
     refine wpAnyH_done (by kernel_rfl) ?_ _
     refine NoPanic.normal ?_
     obtain⟨hK9,hR9,hB9⟩:=hH'
     have hT9:=hTq24
     clear b1 b2 b3 b4 b5 d1 d2 d3 d4 d5 y2 y3
     obtain⟨⟨a1,a2⟩,_⟩:=rowf r 1 1 _ rfl hlr (by decide) rfl
     go_wp2_with fail
     go_roundw
     case rel=>clear a1 a2;exact⟨r+1,by omega,by go_num,hK9,hR9,hT9,hB9⟩
     case measure=>clear a1 a2;simp [intOf];omega
    ·obtain rfl:r=4:=by omega
     have hT2:=hT.ext (fun m hm=>umP_next f c m hm)
     clear hT
     go_wp2_with fail
     go_roundw
     case rel=>exact⟨c+1,by omega,by go_num,hK,hR,hT2,hB⟩
     case measure=>simp [intOf];omega
  ·obtain rfl:c=4:=by omega
   have hT2:=hT.ext (f':=tr (umF (tr f))) (fun j hj=>by unfold umP;rw [if_pos (by omega)];exact umG_tr f j hj)
   clear hT
   go_wp2_with (first
    |(refine wpList_load_ar rfl _ _ rfl _ _ _ rfl hT2 Tryz.arrG (sizeG _) ?_)
    |(refine wpList_store_ar rfl _ _ _ rfl _ _ _ (tr (umF (tr f))) rfl rfl hR (sizeG _) ?_;intro w8 hA8 hb8 _ _))
   refine bodyPost_ret_ar rfl rfl hA8 Tryz.arrG (sizeG _) rfl ⟨rfl,?_⟩
   exact hB.trans (hb8.mono (by omega))
end Go.Proofs.YtiacbphnclgikaaGreatDoor
