/-
 Contracts of package sbox and of the reference package of layer 4, by walks through their texts, one after the other; what was there stays as it was.
-/
import Derived.Test.YtiacbphnclgikaaGreatDoorSqz
import Derived.Test.YtiacbphnclgikaaGreatDoorFre
import Derived.Deep.Cut
import Derived.Test.YtiacbphnclgikaaGreatDoorGfi
import Derived.Deep.RegionHeld3
namespace Go.Proofs.YtiacbphnclgikaaGreatDoor
section
open Go.RowKit
set_option linter.unusedVariables false
set_option maxRecDepth 10000
def boxV:List Value:=arL 256 sb
def Boxes (w:World):Prop:=w.rangeAt 0 0 boxV
theorem boxV_len:boxV.length=256:=arL_len _ _
theorem boxV_get (b:Nat) (h:b<256):boxV[b]?=some (.int .u8 (sb b:Nat)):=arL_get _ _ _ h
theorem Boxes.at_ {w:World} (h:Boxes w) (b:Nat) (hb:b<256):w.cell? ⟨0,b,none⟩=some (.int .u8 (sb b:Nat)):=by
 have:=h b _ (boxV_get b hb)
 rwa [Nat.zero_add]at this
theorem Boxes.lt {w:World} (h:Boxes w):0<w.heap.size:=by
 have h1:=h.at_ 0 (by omega)
 rcases Nat.lt_or_ge 0 w.heap.size with h2|h2
 ·exact h2
 ·simp [World.cell?,Array.getElem?_eq_none h2]at h1
theorem Boxes.keep {w w':World} (h:Boxes w) (hb:Below w.heap.size w w'):Boxes w':=fun j v hv=>(hb.cell (p:=⟨0,0+j,none⟩) h.lt).trans (h j v hv)
def boxA:Array Value:=boxV.toArray
theorem boxA_def:boxV.toArray=boxA:=rfl
theorem boxA_get (b:Nat) (h:b<256):boxA[b]?=some (.int .u8 (sb b:Nat)):=by
 rw [boxA,List.getElem?_toArray];exact boxV_get b h
theorem run_index_arr {P:Program} {t e:TypeId} {n:Nat} {d:TypeDesc} (hu:P.underlying t=some (.array n e)) (he:P.underlying e=some d) (hd:d.isRow=false) (hs:(P.info? e).map (·.size)=some 1)
  (cs:Array Value) (i:Nat) (u:Value) (hi:i<n) (hg:cs[i]?=some u) (w:World):(Instr.index t (.agg cs) (.int .i64 i)).run P w= .ok u w:=by
 cases hq:P.info? e with
 |none=>simp [hq]at hs
 |some q=>
  have hq1:q.size=1:=by simpa [hq]using hs
  have hagg:(isAgg e).run P w= .ok false w:=by
   unfold isAgg
   rw [Sem.run_bind,run_underlying he w]
   cases d<;>simp_all
  simp [Instr.index,run_underlying hu,asIntOf,hi,sizeOf,typeInfo,hq,hq1,part,hagg,hg]
theorem Tryz.arr256:Tryz.prog.underlying 46=some (.array 256 5):=by kernel_rfl
theorem Tryz.size256:(Tryz.prog.info? 46).map (·.size)=some boxV.length:=by rw [boxV_len];kernel_rfl
theorem Tryz.zero256:(Tryz.prog.info? 46).map (fun i=>(i.zero,i.size))=some (some (.agg (Array.replicate 256 (.int .u8 0))),256):=by kernel_rfl
theorem zero256 (w:World):(zeroValue 46).run Tryz.prog w= .ok (.agg (arL 256 fun _=>0).toArray) w:=by
 rw [arL_zero];exact(zero_of_info Tryz.zero256).1 w
theorem size_arL (f:Nat→Nat):(Tryz.prog.info? 46).map (·.size)=some (arL 256 f).length:=by rw [arL_len];exact(zero_of_info Tryz.zero256).2
theorem box_ix (n:Nat) (h:n<256) (w:World):(Instr.index 46 (.agg boxA) (.int .i64 n)).run Tryz.prog w= .ok (.int .u8 (sb n:Nat)) w:=
 run_index_arr Tryz.arr256 Tryz.underlying5 rfl (by kernel_rfl) boxA n _ h (boxA_get n h) w
theorem sboxS (b:Nat) (w:World) (hb:b<256) (h:Boxes w):
  Calls Tryz.prog 101 #[.int .u8 b] w fun e w'=>e= .returned (.int .u8 (sb b:Nat))∧w'=w:=by
 have hc:=h.at_ b hb
 have h1:(b:Int)<256:=by omega
 go_enter Tryz.func101,Tryz.ntmps101
 go_wp2
 go_ret
 exact⟨rfl,rfl⟩
end
section
open Go.RowKit
set_option linter.unusedVariables false
set_option maxRecDepth 10000
theorem rotl32 (x:Nat) (w:World) (hx:x<4294967296):
  Calls Tryz.prog 100 #[.int .u32 x,.int .i64 8] w fun e w'=>e= .returned (.int .u32 (rot8 x:Nat))∧w'=w:=by
 have hr:Hid (bits BinOp.or IntKind.u32 ((x:Int)*2^8%4294967296) ((x:Int)/2^24)=((rot8 x:Nat):Int)):=by
  have e1:((x:Int)*2^8%4294967296)=((x*256%4294967296:Nat):Int):=by simp
  have e2:((x:Int)/2^24)=((x/16777216:Nat):Int):=by simp
  unfold Hid
  rw [e1,e2,or_u32 _ _ (Nat.mod_lt _ (by decide)) (Nat.lt_of_le_of_lt (Nat.div_le_self _ _) hx),or_rot8 x hx]
 have hk2:bits BinOp.and IntKind.u64 8 31=8:=by decide+kernel
 go_enter Tryz.func100,Tryz.ntmps100
 go_wp2
 go_ret
 exact⟨fret_of hr.out,rfl⟩
end
section
open Go.RowKit
set_option linter.unusedVariables false
set_option maxRecDepth 10000
theorem word_step (x n:Nat) (hn:n<4):bits .or .u32 ((sbK x n:Nat)*256%4294967296) (((sb (wb x n):Nat):Int)%4294967296)=((sbK x (n+1):Nat):Int):=by
 have h1:=sbK_lt x n
 have h2:=sb_lt (wb x n)
 have h3:256^n≤256^3:=Nat.pow_le_pow_right (by decide) (by omega)
 have e:((sbK x n:Nat):Int)*256%4294967296=((2^8*sbK x n:Nat):Int):=by omega
 rw [e,show((sb (wb x n):Nat):Int)%4294967296=((sb (wb x n):Nat):Int)by omega,or_u32 _ _ (by omega) (by omega),←Nat.two_pow_add_eq_or_of_lt h2,sbK]
 omega
set_option maxHeartbeats 800000 in
theorem sboxWord (x:Nat) (w:World) (hx:x<4294967296) (h:Boxes w):
  Calls Tryz.prog 70 #[.int .u32 x] w fun e w'=>e= .returned (.int .u32 (sbw x:Nat))∧w'=w:=by
 have hstep:=Lib.hid (fun n hn=>word_step x n hn)
 have hbyte:=Lib.hid (fun n hn=>rot8K_byte x hx n hn)
 have hlt8:=Lib.hid (rot8K_lt x hx)
 have hfin:=Lib.hid (sbK_four x)
 go_enter Tryz.func70,Tryz.ntmps70
 go_wp2
 go_loopw [0,3,4] (fun y z i wr=> ∃n:Nat,n≤4∧i= .int .i64 n∧y= .int .u32 (rot8K x n:Nat)∧z= .int .u32 (sbK x n:Nat)∧wr=w) (fun _ _ i _=>4-(intOf i).toNat)
 case atStart=>exact⟨0,Nat.zero_le _,rfl,rfl,rfl,rfl⟩
 case round=>
  obtain⟨n,hn,rfl,rfl,rfl,rfl⟩:=hrel
  by_cases hlt:n<4
  ·have hs:=Lib.hid (hstep.out n hlt)
   have hb:=Lib.hid (hbyte.out n hlt)
   have hl:=hlt8.out n
   have hl1:=hlt8.out (n+1)
   have hwb:wb x n<256:=Nat.mod_lt _ (by decide)
   have hwr:((rot8K x (n+1):Nat):Int)%256=((wb x n:Nat):Int):=by have:=hb.out;omega
   go_wp2_with fail
   refine(rotl32 _ _ hl).mono ?_
   rintro e w' ⟨rfl,rfl⟩
   rw [show rot8 (rot8K x n)=rot8K x (n+1)from rfl]
   go_wp2_with fail
   refine(sboxS (wb x n) _ hwb h).mono ?_
   rintro e w' ⟨rfl,rfl⟩
   go_wp2_with fail
   go_roundw
   case rel=>exact⟨n+1,by omega,by go_num,rfl,fval_of hs.out,trivial⟩
   case measure=>simp [intOf];omega
  ·obtain rfl:n=4:=by omega
   go_wp2_with fail
   go_ret
   exact⟨fret_of (by rw [hfin.out]),rfl⟩
end
section
open Go.RowKit
set_option linter.unusedVariables false
set_option maxRecDepth 10000
end
section
open Go.RowKit
set_option linter.unusedVariables false
set_option maxRecDepth 10000
theorem cnt0 (b i:Nat) (hb:b<256) (hi:i<8):wrap64 (((99:Int)/2^i).tmod 2+(wrap64 ((b:Int)/2^i)).tmod 2)=((cnt b i 0:Nat):Int):=by
 have e2:=coef_bit b i hb
 have e1:((99:Int)/2^i).tmod 2=((99/2^i%2:Nat):Int):=by
  rw [show(99:Int)/2^i=((99/2^i:Nat):Int)by simp]
  generalize 99/2^i=q
  rw [Int.tmod_eq_emod_of_nonneg (by omega)];omega
 rw [e1,e2]
 unfold cnt bt
 rw [IntWalk.wrap64_in _ (by omega)];omega
theorem cntS (b i m q:Nat) (hb:b<256) (hm:4≤m) (hm2:m<8) (hq:q=(i+m)%8):wrap64 (((cnt b i (m-4):Nat):Int)+(wrap64 ((b:Int)/2^q)).tmod 2)=((cnt b i (m+1-4):Nat):Int):=by
 have h1:=cnt_le b i (m-4)
 rw [coef_bit b _ hb,show m+1-4=m-4+1 by omega,cnt,show 4+(m-4)=m by omega,←hq]
 unfold bt
 rw [IntWalk.wrap64_in _ (by omega)];omega
theorem affS (b i:Nat) (hi:i<8):wrap64 (((affR b i:Nat):Int)+wrap64 (((cnt b i 4:Nat):Int).tmod 2*2^i))=((affR b (i+1):Nat):Int):=by
 have h1:=affR_lt b i
 have h2:2^i≤2^7:=Nat.pow_le_pow_right (by decide) (by omega)
 have e:((cnt b i 4:Nat):Int).tmod 2*2^i=((cnt b i 4%2*2^i:Nat):Int):=by
  rw [Int.tmod_eq_emod_of_nonneg (by omega)];simp
 have h3:cnt b i 4%2*2^i≤1*2^i:=Nat.mul_le_mul_right _ (by omega)
 rw [e,affR]
 generalize cnt b i 4%2*2^i=q at*
 generalize affR b i=p at*
 generalize 2^i=r at*
 rw [IntWalk.wrap64_in (q:Int) (by omega),IntWalk.wrap64_in _ (by omega)]
 omega
set_option maxHeartbeats 1600000 in
theorem refaff (b:Nat) (w:World) (hb:b<256):
  Calls Tryz.prog 64 #[.int .u8 b] w fun e w'=>e= .returned (.int .u8 (aff b:Nat))∧w'=w:=by
 have hc0:=Lib.hid (fun i hi=>cnt0 b i hb hi)
 have hcS:=Lib.hid (fun i m q h1 h2 h3=>cntS b i m q hb h1 h2 h3)
 have hS:=Lib.hid (fun i hi=>affS b i hi)
 have hfin:=Lib.hid (affR_aff b hb)
 have hal:=aff_lt b hb
 go_enter Tryz.func64,Tryz.ntmps64
 go_wp2
 go_loopw [3,4] (fun x i wr=> ∃n:Nat,n≤8∧i= .int .i64 n∧x= .int .i64 (affR b n:Nat)∧wr=w) (fun _ i _=>8-(intOf i).toNat)
 case atStart=>exact⟨0,Nat.zero_le _,rfl,rfl,rfl⟩
 case round=>
  obtain⟨i,hi,rfl,rfl,rfl⟩:=hrel
  by_cases hlt:i<8
  ·have h0:=hc0.out i hlt
   have hs:=Lib.hid (hS.out i hlt)
   go_wp2_with fail
   obtain⟨x0,hx0⟩:=Le (affR b i)
   rw [hx0]at hs
   rw [hx0]
   go_loopw [5,6] (fun x y ws=> ∃m:Nat,4≤m∧m≤8∧y= .int .i64 m∧x= .int .i64 (cnt b i (m-4):Nat)∧ws=wr) (fun _ y _=>8-(intOf y).toNat)
   case atStart=>exact⟨4,by omega,by omega,rfl,fval_of h0,rfl⟩
   case round=>
    obtain⟨m,hm,hm8,rfl,rfl,rfl⟩:=hrel
    clear h0
    by_cases hlm:m<8
    ·obtain⟨q,hq⟩:=Lv ((i+m)%8)
     have hc:=Lib.hid (hcS.out i m q hm hlm hq)
     have hq8:q<8:=by omega
     have e1:wrap64 ((i:Int)+(m:Int))=(i:Int)+m:=IntWalk.wrap64_in _ (by omega)
     have e2:((i:Int)+(m:Int)).tmod 8=(q:Int):=by rw [Int.tmod_eq_emod_of_nonneg (by omega)];omega
     clear hq
     go_wp2_with fail
     go_roundw
     case rel=>exact⟨m+1,by omega,by omega,by go_num,fval_of hc.out,trivial⟩
     case measure=>simp [intOf];omega
    ·obtain rfl:m=8:=by omega
     go_wp2_with fail
     go_roundw
     case rel=>exact⟨i+1,by omega,by go_num,fval_of hs.out,trivial⟩
     case measure=>simp [intOf];omega
  ·obtain rfl:i=8:=by omega
   have hf:Hid (((affR b 8:Nat):Int)%256=((aff b:Nat):Int)):=by unfold Hid;rw [hfin.out];omega
   go_wp2_with fail
   go_ret
   exact⟨fret_of hf.out,rfl⟩
end
section
open Go.RowKit
set_option linter.unusedVariables false
set_option maxRecDepth 10000
theorem two_cells {W:World} {a b:Addr} {x y:Value} (h:W.cell? a=some x∧W.cell? b=some y) {p:Addr} (hp:p.block≠a.block) (hq:p.block≠b.block) (v:Value):
  (W.setCell p v).cell? a=some x∧(W.setCell p v).cell? b=some y:=
 ⟨(World.cell?_setCell_other _ _ _ _ (fun e=>hp (by rw [e]))).trans h.1,(World.cell?_setCell_other _ _ _ _ (fun e=>hq (by rw [e]))).trans h.2⟩
theorem p3F_step (n:Nat): ∀j,j<256→(fun i=>if i=n then p3 n else(fun i=>if i<n then p3 i else 0) i) j=(fun i=>if i<n+1 then p3 i else 0) j:=by
 intro j _
 by_cases h:j=n
 ·simp [h]
 ·by_cases h2:j<n
  ·simp [h,h2,show j<n+1 by omega]
  ·simp [h,h2,show¬j<n+1 by omega]
set_option maxHeartbeats 3200000 in
theorem reftable (w:World):
  Calls Tryz.prog 39 #[] w fun e w'=>e= .returned (.agg boxA)∧Below w.heap.size w w':=by
 have hz:=zero256
 obtain⟨w1,hw1⟩:=Lv (w.alloc (.cells (arL 256 fun _=>0).toArray 46))
 have hs1:=Zs1 hw1
 have hb1:=Bl hw1
 have hA:Ar w1 w.heap.size 256 (fun _=>0):=by rw [hw1];exact Ar.new w 256 _ _
 obtain⟨w2,hw2⟩:=Lv (w1.alloc (.cells (arL 256 fun _=>0).toArray 46))
 have hs2:=Zs2 hw2 hs1
 have hb2:=Bm hw2 hb1
 have hA1:Ar w2 w1.heap.size 256 (fun _=>0):=by rw [hw2];exact Ar.new w1 256 _ _
 have hA0:=ara hw2 hA
 rw [hs1]at hA1
 clear hb1
 go_enter Tryz.func39,Tryz.ntmps39
 go_upto_region 2 with fail
 rw [←hw1,←hw2]
 clear hw1 hw2 hA
 go_wp2_with fail
 go_loopw [2,3] (fun x i wr=> ∃n:Nat,n≤256∧i= .int .i64 n∧x= .int .u8 (p3 n:Nat)∧Ar wr w.heap.size 256 (fun _=>0)∧Ar wr (w.heap.size+1) 256 (fun j=>if j<n then p3 j else 0)∧Below w.heap.size w wr) (fun _ i _=>256-(intOf i).toNat)
 case atStart=>exact⟨0,Nat.zero_le _,rfl,rfl,hA0,hA1.ext (fun j _=>rfl),hb2⟩
 case round=>
  clear hA0 hA1 hb2 hs2
  obtain⟨n,hn,rfl,rfl,hA0,hA1,hbel⟩:=hrel
  by_cases hlt:n<256
  ·obtain⟨hc,hf⟩:=hA1 n hlt
   have hi2:(n:Int)<256:=by omega
   have hpl:=p3_lt n
   have hB1:=(hA1.set (v:=p3 n) hlt rfl).ext (p3F_step n)
   have hB0:=hA0.far (p:=⟨w.heap.size+1,n,none⟩) (by simp) (.int .u8 (p3 n:Nat))
   have hB:=hbel.setCell (p:=⟨w.heap.size+1,n,none⟩) (by simp) (.int .u8 (p3 n:Nat))
   obtain⟨w3,hw3⟩:=Lv (wr.setCell ⟨w.heap.size+1,n,none⟩ (.int .u8 (p3 n:Nat)))
   rw [←hw3]at hB1 hB0 hB
   clear hA0 hA1 hbel
   go_wp2_with fail
   rw [←hw3]
   clear hw3 hc hf
   refine(refmul (p3 n) 3 _ hpl (by omega)).mono ?_
   rintro e w4 ⟨rfl,hb4⟩
   have hC0:=hB0.to (by omega) hb4
   have hC1:=hB1.to (by omega) hb4
   have hb5:=hB.trans (hb4.mono hB.size)
   go_wp2_with fail
   go_roundw
   case rel=>exact⟨n+1,by omega,by go_num,rfl,hC0,hC1,hb5⟩
   case measure=>simp [intOf];omega
  ·obtain rfl:n=256:=by omega
   have hA1:=hA1.ext (f':=p3) (fun j hj=>by simp [hj])
   have hg1:=hA1.lt (by omega)
   obtain⟨g,hg⟩:=Le (wr.heap.size)
   obtain⟨w5,hw5⟩:=Lv (wr.alloc (.cells (arL 256 fun _=>0).toArray 46))
   have hB0:=ara hw5 hA0
   have hB1:=ara hw5 hA1
   have hBg:Ar w5 g 256 (fun _=>0):=by rw [hw5,←hg];exact Ar.new wr 256 _ _
   have hB:=Bm hw5 hbel
   rw [hg]at hg1
   clear hA0 hA1 hbel
   go_wp2_with fail
   rw [←hw5]
   clear hw5 hg
   refine(refaff 0 _ (by omega)).mono ?_
   rintro e w' ⟨rfl,rfl⟩
   obtain⟨hc,hf⟩:=hBg 0 (by omega)
   have hC0:=hB0.far (p:=⟨g,0,none⟩) (by simp;omega) (.int .u8 (aff 0:Nat))
   have hC1:=hB1.far (p:=⟨g,0,none⟩) (by simp;omega) (.int .u8 (aff 0:Nat))
   have hCg:=hBg.set (v:=aff 0) (j:=0) (by omega) rfl
   have hC:=hB.setCell (p:=⟨g,0,none⟩) (by simp;omega) (.int .u8 (aff 0:Nat))
   obtain⟨w6,hw6⟩:=Lv (w'.setCell ⟨g,0,none⟩ (.int .u8 (aff 0:Nat)))
   rw [←hw6]at hC0 hC1 hCg hC
   clear hB0 hB1 hBg hB
   go_wp2_with fail
   rw [←hw6]
   clear hw6 hc hf
   go_loopw [5] (fun i ws=> ∃n:Nat,n≤255∧i= .int .i64 n∧Ar ws w.heap.size 256 (fun _=>0)∧Ar ws (w.heap.size+1) 256 p3∧Ar ws g 256 (tb n)∧Below w.heap.size w ws) (fun i _=>255-(intOf i).toNat)
   case atStart=>exact⟨0,Nat.zero_le _,rfl,hC0,hC1,hCg,hC⟩
   case round=>
    clear hC0 hC1 hCg hC
    obtain⟨n,hn,rfl,hC0,hC1,hCg,hC⟩:=hrel
    by_cases hlt:n<255
    ·obtain⟨m,hm⟩:=Lv (255-n)
     have hwm:wrap64 (255-(n:Int))=(m:Int):=by rw [IntWalk.wrap64_in _ (by omega)];omega
     have hwm2:IntKind.i64.wrap (255-(n:Int))=(m:Int):=by rw [wraps_i64' _ (by omega) (by omega)];omega
     have hi1:(n:Int)<256:=by omega
     have hi4:(0:Int)≤(m:Int):=by omega
     have hi2:(m:Int)<256:=by omega
     have hpn:=p3_lt n
     have hpm:=p3_lt m
     have hi3:((p3 n:Nat):Int)<256:=by omega
     have hM:=Lib.hid hm
     have hc1:=(hC1 n (by omega)).1
     have hc2:=(hC1 m (by omega)).1
     obtain⟨hc,hf⟩:=hCg (p3 n) hpn
     have hne:g≠w.heap.size+1:=by omega
     clear hm
     have hN:(wr.setCell ⟨g,p3 n,none⟩ (.int .u8 (aff (p3 m):Nat))).drew.cell? ⟨w.heap.size+1,n,none⟩=some (.int .u8 (p3 n:Nat))∧(wr.setCell ⟨g,p3 n,none⟩ (.int .u8 (aff (p3 m):Nat))).drew.cell? ⟨w.heap.size+1,m,none⟩=some (.int .u8 (p3 m:Nat)):=
      two_cells (W:=wr) (p:=⟨g,p3 n,none⟩) ⟨hc1,hc2⟩ hne hne _
     go_wp2_with fail
     go_region_held3 (fun W=>W.cell? ⟨w.heap.size+1,n,none⟩=some (.int .u8 (p3 n:Nat))∧W.cell? ⟨w.heap.size+1,m,none⟩=some (.int .u8 (p3 m:Nat)))
      (first|assumption|(exact⟨hc1,hc2⟩)|(exact hN))
      (first
      |(go_at_call 64;refine(refaff (p3 m) _ hpm).mono ?_;rintro e w6 ⟨rfl,rfl⟩))
     have hD0:=hC0.far (p:=⟨g,p3 n,none⟩) (by simp;omega) (.int .u8 (aff (p3 m):Nat))
     have hD1:=hC1.far (p:=⟨g,p3 n,none⟩) hne (.int .u8 (aff (p3 m):Nat))
     have hDg:=(hCg.set (v:=aff (p3 m)) (j:=p3 n) hpn rfl).ext (f':=tb (n+1)) (fun j _=>by rw [tb,hM.out])
     have hD:=hC.setCell (p:=⟨g,p3 n,none⟩) (by simp;omega) (.int .u8 (aff (p3 m):Nat))
     go_wp2_with fail
     go_roundw
     case rel=>exact⟨n+1,by omega,by go_num,hD0.drew,hD1.drew,hDg.drew,hD.drew⟩
     case measure=>simp [intOf];omega
    ·obtain rfl:n=255:=by omega
     have hDg:=hCg.ext (f':=sb) (fun j hj=>tb_all j hj)
     clear hCg
     go_wp2_with (first
      |(refine wpList_load_ar rfl _ _ rfl _ _ _ rfl hDg Tryz.arr256 (size_arL _) ?_)
      |(refine wpList_store_ar rfl _ _ _ rfl _ _ _ sb rfl rfl hC0 (size_arL _) ?_;intro w7 hA7 hb7 _ _))
     refine bodyPost_ret_ar rfl rfl hA7 Tryz.arr256 (size_arL _) rfl ⟨rfl,?_⟩
     exact hC.trans hb7
end
end Go.Proofs.YtiacbphnclgikaaGreatDoor
