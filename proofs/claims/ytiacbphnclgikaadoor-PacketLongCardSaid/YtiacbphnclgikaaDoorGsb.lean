/-
 Contracts of package sbox and of the reference package of layer 4, by walks through their texts, one after the other; what was there stays as it was.
-/
import Derived.Test.YtiacbphnclgikaaDoorFre
import Derived.Deep.Cut
import Derived.Test.YtiacbphnclgikaaDoorGfi
import Derived.Deep.RegionHeld3
namespace Go.Proofs.YtiacbphnclgikaaDoor
section
open Go.RowKit
set_option linter.unusedVariables false
set_option maxRecDepth 10000
def boxV:List Value:=arL 256 sb
def Boxes (w:World):Prop:=w.rangeAt 0 0 boxV
theorem boxV_len:boxV.length=256:=arL_len _ _
theorem boxV_get (b:Nat) (h:b<256):boxV[b]?=some (.int .u8 (sb b:Nat)):=arL_get _ _ _ h
theorem Boxes.at_ {w:World} (h:Boxes w) (b:Nat) (hb:b<256):w.cell? ⟨0,b,none⟩=some (.int .u8 (sb b:Nat)):=by
 have:=h b _ (boxV_get b hb)
 rwa [Nat.zero_add]at this
theorem Boxes.lt {w:World} (h:Boxes w):0<w.heap.size:=by
 have h1:=h.at_ 0 (by omega)
 rcases Nat.lt_or_ge 0 w.heap.size with h2|h2
 ·exact h2
 ·simp [World.cell?,Array.getElem?_eq_none h2]at h1
theorem Boxes.keep {w w':World} (h:Boxes w) (hb:Below w.heap.size w w'):Boxes w':=fun j v hv=>(hb.cell (p:=⟨0,0+j,none⟩) h.lt).trans (h j v hv)
def boxA:Array Value:=boxV.toArray
theorem boxA_def:boxV.toArray=boxA:=rfl
theorem boxA_get (b:Nat) (h:b<256):boxA[b]?=some (.int .u8 (sb b:Nat)):=by
 rw [boxA,List.getElem?_toArray];exact boxV_get b h
theorem run_index_arr {P:Program} {t e:TypeId} {n:Nat} {d:TypeDesc} (hu:P.underlying t=some (.array n e)) (he:P.underlying e=some d) (hd:d.isRow=false) (hs:(P.info? e).map (·.size)=some 1)
  (cs:Array Value) (i:Nat) (u:Value) (hi:i<n) (hg:cs[i]?=some u) (w:World):(Instr.index t (.agg cs) (.int .i64 i)).run P w= .ok u w:=by
 cases hq:P.info? e with
 |none=>simp [hq]at hs
 |some q=>
  have hq1:q.size=1:=by simpa [hq]using hs
  have hagg:(isAgg e).run P w= .ok false w:=by
   unfold isAgg
   rw [Sem.run_bind,run_underlying he w]
   cases d<;>simp_all
  simp [Instr.index,run_underlying hu,asIntOf,hi,sizeOf,typeInfo,hq,hq1,part,hagg,hg]
theorem Tryd.arr256:Tryd.prog.underlying 126=some (.array 256 5):=by kernel_rfl
theorem Tryd.size256:(Tryd.prog.info? 126).map (·.size)=some boxV.length:=by rw [boxV_len];kernel_rfl
theorem Tryd.zero256:(Tryd.prog.info? 126).map (fun i=>(i.zero,i.size))=some (some (.agg (Array.replicate 256 (.int .u8 0))),256):=by kernel_rfl
theorem zero256 (w:World):(zeroValue 126).run Tryd.prog w= .ok (.agg (arL 256 fun _=>0).toArray) w:=by
 rw [arL_zero];exact(zero_of_info Tryd.zero256).1 w
theorem size_arL (f:Nat→Nat):(Tryd.prog.info? 126).map (·.size)=some (arL 256 f).length:=by rw [arL_len];exact(zero_of_info Tryd.zero256).2
theorem box_ix (n:Nat) (h:n<256) (w:World):(Instr.index 126 (.agg boxA) (.int .i64 n)).run Tryd.prog w= .ok (.int .u8 (sb n:Nat)) w:=
 run_index_arr Tryd.arr256 Tryd.underlying5 rfl (by kernel_rfl) boxA n _ h (boxA_get n h) w
theorem sboxS (b:Nat) (w:World) (hb:b<256) (h:Boxes w):
  Calls Tryd.prog 75 #[.int .u8 b] w fun e w'=>e= .returned (.int .u8 (sb b:Nat))∧w'=w:=by
 have hc:=h.at_ b hb
 have h1:(b:Int)<256:=by omega
 go_enter Tryd.func75,Tryd.ntmps75
 go_wp2
 go_ret
 exact⟨rfl,rfl⟩
end
section
open Go.RowKit
set_option linter.unusedVariables false
set_option maxRecDepth 10000
theorem rotl32 (x:Nat) (w:World) (hx:x<4294967296):
  Calls Tryd.prog 74 #[.int .u32 x,.int .i64 8] w fun e w'=>e= .returned (.int .u32 (rot8 x:Nat))∧w'=w:=by
 have hr:Hid (bits BinOp.or IntKind.u32 ((x:Int)*2^8%4294967296) ((x:Int)/2^24)=((rot8 x:Nat):Int)):=by
  have e1:((x:Int)*2^8%4294967296)=((x*256%4294967296:Nat):Int):=by simp
  have e2:((x:Int)/2^24)=((x/16777216:Nat):Int):=by simp
  unfold Hid
  rw [e1,e2,or_u32 _ _ (Nat.mod_lt _ (by decide)) (Nat.lt_of_le_of_lt (Nat.div_le_self _ _) hx),or_rot8 x hx]
 have hk2:bits BinOp.and IntKind.u64 8 31=8:=by decide+kernel
 go_enter Tryd.func74,Tryd.ntmps74
 go_wp2
 go_ret
 exact⟨fret_of hr.out,rfl⟩
end
section
open Go.RowKit
set_option linter.unusedVariables false
set_option maxRecDepth 10000
theorem word_step (x n:Nat) (hn:n<4):bits .or .u32 ((sbK x n:Nat)*256%4294967296) (((sb (wb x n):Nat):Int)%4294967296)=((sbK x (n+1):Nat):Int):=by
 have h1:=sbK_lt x n
 have h2:=sb_lt (wb x n)
 have h3:256^n≤256^3:=Nat.pow_le_pow_right (by decide) (by omega)
 have e:((sbK x n:Nat):Int)*256%4294967296=((2^8*sbK x n:Nat):Int):=by omega
 rw [e,show((sb (wb x n):Nat):Int)%4294967296=((sb (wb x n):Nat):Int)by omega,or_u32 _ _ (by omega) (by omega),←Nat.two_pow_add_eq_or_of_lt h2,sbK]
 omega
set_option maxHeartbeats 800000 in
theorem sboxWord (x:Nat) (w:World) (hx:x<4294967296) (h:Boxes w):
  Calls Tryd.prog 55 #[.int .u32 x] w fun e w'=>e= .returned (.int .u32 (sbw x:Nat))∧w'=w:=by
 have hstep:=Lib.hid (fun n hn=>word_step x n hn)
 have hbyte:=Lib.hid (fun n hn=>rot8K_byte x hx n hn)
 have hlt8:=Lib.hid (rot8K_lt x hx)
 have hfin:=Lib.hid (sbK_four x)
 go_enter Tryd.func55,Tryd.ntmps55
 go_wp2
 go_loopw [0,3,4] (fun y z i wr=> ∃n:Nat,n≤4∧i= .int .i64 n∧y= .int .u32 (rot8K x n:Nat)∧z= .int .u32 (sbK x n:Nat)∧wr=w) (fun _ _ i _=>4-(intOf i).toNat)
 case atStart=>exact⟨0,Nat.zero_le _,rfl,rfl,rfl,rfl⟩
 case round=>
  obtain⟨n,hn,rfl,rfl,rfl,rfl⟩:=hrel
  by_cases hlt:n<4
  ·have hs:=Lib.hid (hstep.out n hlt)
   have hb:=Lib.hid (hbyte.out n hlt)
   have hl:=hlt8.out n
   have hl1:=hlt8.out (n+1)
   have hwb:wb x n<256:=Nat.mod_lt _ (by decide)
   have hwr:((rot8K x (n+1):Nat):Int)%256=((wb x n:Nat):Int):=by have:=hb.out;omega
   go_wp2_with fail
   refine(rotl32 _ _ hl).mono ?_
   rintro e w' ⟨rfl,rfl⟩
   rw [show rot8 (rot8K x n)=rot8K x (n+1)from rfl]
   go_wp2_with fail
   refine(sboxS (wb x n) _ hwb h).mono ?_
   rintro e w' ⟨rfl,rfl⟩
   go_wp2_with fail
   go_roundw
   case rel=>exact⟨n+1,by omega,by go_num,rfl,fval_of hs.out,trivial⟩
   case measure=>simp [intOf];omega
  ·obtain rfl:n=4:=by omega
   go_wp2_with fail
   go_ret
   exact⟨fret_of (by rw [hfin.out]),rfl⟩
end
section
open Go.RowKit
set_option linter.unusedVariables false
set_option maxRecDepth 10000
end
section
open Go.RowKit
set_option linter.unusedVariables false
set_option maxRecDepth 10000
theorem cnt0 (b i:Nat) (hb:b<256) (hi:i<8):wrap64 (((99:Int)/2^i).tmod 2+(wrap64 ((b:Int)/2^i)).tmod 2)=((cnt b i 0:Nat):Int):=by
 have e2:=coef_bit b i hb
 have e1:((99:Int)/2^i).tmod 2=((99/2^i%2:Nat):Int):=by
  rw [show(99:Int)/2^i=((99/2^i:Nat):Int)by simp]
  generalize 99/2^i=q
  rw [Int.tmod_eq_emod_of_nonneg (by omega)];omega
 rw [e1,e2]
 unfold cnt bt
 rw [IntWalk.wrap64_in _ (by omega)];omega
theorem cntS (b i m q:Nat) (hb:b<256) (hm:4≤m) (hm2:m<8) (hq:q=(i+m)%8):wrap64 (((cnt b i (m-4):Nat):Int)+(wrap64 ((b:Int)/2^q)).tmod 2)=((cnt b i (m+1-4):Nat):Int):=by
 have h1:=cnt_le b i (m-4)
 rw [coef_bit b _ hb,show m+1-4=m-4+1 by omega,cnt,show 4+(m-4)=m by omega,←hq]
 unfold bt
 rw [IntWalk.wrap64_in _ (by omega)];omega
theorem affS (b i:Nat) (hi:i<8):wrap64 (((affR b i:Nat):Int)+wrap64 (((cnt b i 4:Nat):Int).tmod 2*2^i))=((affR b (i+1):Nat):Int):=by
 have h1:=affR_lt b i
 have h2:2^i≤2^7:=Nat.pow_le_pow_right (by decide) (by omega)
 have e:((cnt b i 4:Nat):Int).tmod 2*2^i=((cnt b i 4%2*2^i:Nat):Int):=by
  rw [Int.tmod_eq_emod_of_nonneg (by omega)];simp
 have h3:cnt b i 4%2*2^i≤1*2^i:=Nat.mul_le_mul_right _ (by omega)
 rw [e,affR]
 generalize cnt b i 4%2*2^i=q at*
 generalize affR b i=p at*
 generalize 2^i=r at*
 rw [IntWalk.wrap64_in (q:Int) (by omega),IntWalk.wrap64_in _ (by omega)]
 omega
end
section
open Go.RowKit
set_option linter.unusedVariables false
set_option maxRecDepth 10000
theorem two_cells {W:World} {a b:Addr} {x y:Value} (h:W.cell? a=some x∧W.cell? b=some y) {p:Addr} (hp:p.block≠a.block) (hq:p.block≠b.block) (v:Value):
  (W.setCell p v).cell? a=some x∧(W.setCell p v).cell? b=some y:=
 ⟨(World.cell?_setCell_other _ _ _ _ (fun e=>hp (by rw [e]))).trans h.1,(World.cell?_setCell_other _ _ _ _ (fun e=>hq (by rw [e]))).trans h.2⟩
theorem p3F_step (n:Nat): ∀j,j<256→(fun i=>if i=n then p3 n else(fun i=>if i<n then p3 i else 0) i) j=(fun i=>if i<n+1 then p3 i else 0) j:=by
 intro j _
 by_cases h:j=n
 ·simp [h]
 ·by_cases h2:j<n
  ·simp [h,h2,show j<n+1 by omega]
  ·simp [h,h2,show¬j<n+1 by omega]
end
end Go.Proofs.YtiacbphnclgikaaDoor
