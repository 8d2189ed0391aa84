/-
 Contract of mooringref01.Spread, by a walk through its text: a slice of its own of as many bytes as were asked for; what was there stays as it was. Contract of mooringlaw17.few.
-/
import Derived.Test.YtiacbphnclgikaaDoorPkb
import Derived.Test.YtiacbphnclgikaaDoorGbk
namespace Go.Proofs.YtiacbphnclgikaaDoor
open Go.RowKit
set_option linter.unusedVariables false
set_option maxRecDepth 100000
theorem spread_step {y:Nat} : ∃z1 z2 z3 z4:Nat,IntKind.u64.wrap ((y:Int)*6364136223846793005)=(z1:Int)∧IntKind.u64.wrap ((z1:Int)+1442695040888963407)=(z2:Int)∧(z2:Int)/8589934592=(z3:Int)∧IntKind.u8.wrap (z3:Int)=(z4:Int)∧(z3:Int)%256=(z4:Int)∧z2<18446744073709551616∧z4<256:=by
 refine⟨y*6364136223846793005%18446744073709551616,(y*6364136223846793005%18446744073709551616+1442695040888963407)%18446744073709551616,(y*6364136223846793005%18446744073709551616+1442695040888963407)%18446744073709551616/8589934592,(y*6364136223846793005%18446744073709551616+1442695040888963407)%18446744073709551616/8589934592%256,?_,?_,?_,?_,?_,?_,?_⟩
 ·rw [IntKind.wrap_u64];omega
 ·rw [IntKind.wrap_u64];omega
 ·omega
 ·rw [IntKind.wrap_u8];omega
 ·omega
 ·omega
 ·omega
set_option maxHeartbeats 2000000 in
theorem rspread (x k:Nat) (w:World) (hx:x<18446744073709551616) (hk:k≤2000):
  Calls Tryd.prog 13 #[.int .u64 (x:Int),.int .i64 (k:Int)] w fun e w'=> ∃(A:Option Addr) (c:Nat) (l:List UInt8),e= .returned (.slice A k c)∧l.length=k∧Ow8 w' w.heap.size (.slice A k c) k l∧Below w.heap.size w w':=by
 obtain⟨i0,hi0,hz0,hz1,hz2⟩:=info_parts info8x
 have HI0:=Lib.hid hi0
 have HZ0:=Lib.hid hz0
 have HZ1:=Lib.hid hz1
 have HZ2:=Lib.hid hz2
 have HK:=Lib.hid hk
 have hO0:Ow8 w w.heap.size (.slice none 0 0) 0 []:=World.ownsRow_nil w _ _ _
 clear hi0 hz0 hz1 hz2 hk
 go_enter Tryd.func13,Tryd.ntmps13
 go_wp2_with fail
 go_loopw [5,6,7] (fun v y i wr=> ∃(j z:Nat) (A:Option Addr) (c:Nat) (l:List UInt8),j≤k∧v= .slice A j c∧y= .int .u64 (z:Int)∧i= .int .i64 (j:Int)∧z<18446744073709551616∧l.length=j∧Ow8 wr w.heap.size (.slice A j c) j l∧Below w.heap.size w wr) (fun v _ _ _=>k-slLen v)
 case atStart=>exact⟨0,x,none,0,[],Nat.zero_le _,rfl,rfl,rfl,hx,rfl,hO0,Below.refl _ _⟩
 case round=>
  clear hO0 hx
  obtain⟨j,z,A,c,l,hj,rfl,rfl,rfl,hz,hl,hO,hB⟩:=hrel
  by_cases hlt:j<k
  ·have i1:(j:Int)<(k:Int):=by omega
   obtain⟨z1,z2,z3,z4,a1,a2,a3,a4,a5,hz2,hz4⟩:=spread_step (y:=z)
   have HZ:=Lib.hid hz2
   have HZ4:=Lib.hid hz4
   have HL:=Lib.hid hl
   have HJ:=Lib.hid hlt
   have hn9:j+1≤2000:=by have:=HK.out;omega
   clear hz hz2 hz4 hl hlt hj
   go_wp2_with (at_builtin;refine wpList_append_own _ rfl _ _ 22 rfl w.heap.size 5 i0 (.int .u8 0) 1 1 Tryd.underlying22 HI0.out HZ0.out HZ1.out HZ2.out rfl (by decide) _ _ _ rfl (hO.alloc _) ⟨wr.heap.size,0,none⟩ 1 1 [.int .u8 (z4:Int)] rfl rfl ?d1 ?d2 ?d3 ?d4 ?d5 ?_)
   case d1=>
    intro m u hm
    match m,hm with
    |0,hm=>simp at hm;subst hm;simp [Addr.add]
   case d2=>intro u hu;simp at hu;subst hu;rfl
   case d3=>unfold maxLen;omega
   case d4=>omega
   case d5=>have:=hB.size;simp;omega
   intro v6 w6 hown6 hgrow6 _
   have k6:Below w.heap.size wr w6:=((Below.refl w.heap.size wr).alloc hB.size _).grown hgrow6 (by have:=hB.size;simp;omega) (fun g hg=>own_block hO hg)
   have hO6:Ow8 w6 w.heap.size v6 (j+1) (l++ [UInt8.ofNat z4]):=by
    unfold Ow8
    rw [map_b8_snoc,b8_ofNat z4 HZ4.out]
    exact hown6
   have hB6:=hB.trans k6
   obtain⟨A6,c6,rfl⟩:=own_shape hO6
   clear hO hB hown6 hgrow6 k6 a1 a2 a3 a4 a5
   go_wp2_with fail
   go_roundw
   case rel=>exact⟨j+1,z2,A6,c6,_,HJ.out,rfl,rfl,by go_num,HZ.out,by rw [List.length_append,HL.out];rfl,hO6,hB6⟩
   case measure=>have:=HJ.out;simp [slLen];omega
  ·obtain rfl:j=k:=by omega
   have i1: ¬(j:Int)<(j:Int):=by omega
   go_wp2_with fail
   go_ret
   exact⟨A,c,rfl,l,hl,hO,hB⟩
theorem rfew (A:Option Addr) (n c:Nat) (w:World):Calls Tryd.prog 12 #[.slice A n c] w fun e w'=>e= .returned (.bool (decide (n≤120)))∧w'=w:=by
 by_cases h:n≤120
 ·have i1:(n:Int)≤120:=by omega
  rw [decide_eq_true h]
  clear h
  go_enter Tryd.func12,Tryd.ntmps12
  go_wp2_with fail
  go_ret
  exact⟨rfl,rfl⟩
 ·have i1: ¬(n:Int)≤120:=by omega
  rw [decide_eq_false h]
  clear h
  go_enter Tryd.func12,Tryd.ntmps12
  go_wp2_with fail
  go_ret
  exact⟨rfl,rfl⟩
end Go.Proofs.YtiacbphnclgikaaDoor
