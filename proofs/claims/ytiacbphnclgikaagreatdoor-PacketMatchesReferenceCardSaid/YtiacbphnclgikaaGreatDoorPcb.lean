/-
 Contracts of slices.Grow of a nil slice, and of slices.Concat, of bytes, by walks through the library's texts: a slice of the call's own; what was there stays as it was.
-/
import Derived.Test.YtiacbphnclgikaaGreatDoorPca
import Derived.Test.YtiacbphnclgikaaGreatDoorSew
import Derived.Lib.AppendZeros
import Derived.Deep.Upon
import Derived.Great.BuildSlice
import Derived.Deep.RegionHeld3
namespace Go.Proofs.YtiacbphnclgikaaGreatDoor
open Go.RowKit
set_option linter.unusedVariables false
set_option maxRecDepth 100000
set_option linter.unusedSimpArgs false
def smL (n:Nat→Nat):Nat→Nat
 |0=>0
 |k+1=>smL n k+n k
def ctM (L:Nat→List UInt8):Nat→List UInt8
 |0=> []
 |k+1=>ctM L k++L k
theorem sum_le {n:Nat→Nat} {m:Nat} (K:Nat): ∀k,k≤K→(∀j,j<K→n j≤m)→smL n k≤m*k
 |0,_,_=>Nat.zero_le _
 |k+1,hk,h=>by
  have h1:=sum_le K k (by omega) h
  have h2:=h k (by omega)
  show smL n k+n k≤m*(k+1)
  rw [Nat.mul_succ]
  omega
theorem smfacts {s q r:Nat} (h:s+q=r) (hr:r≤1000000):wrap64 ((s:Int)+(q:Int))=(r:Int)∧IntKind.i64.wrap ((s:Int)+(q:Int))=(r:Int)∧(s:Int)+(q:Int)=(r:Int)∧IntKind.i64.wrap (r:Int)=(r:Int):=by
 refine⟨?_,?_,by omega,?_⟩
 ·rw [IntWalk.wrap64_in _ (by omega)];omega
 ·rw [IntKind.wrap_i64];omega
 ·rw [IntKind.wrap_i64];omega
theorem app_none (w:World) (ty:TypeId) (b:Option Addr) (n cap:Nat) (h:n≤cap) (A:Option Addr) (c:Nat):(Builtin.append_ #[25,25] ty #[.slice b n cap,.slice A 0 c]).run Tryz.prog w= .ok (.slice b n cap) w:=by
 obtain⟨i0,hi0,hz0,hz1,hz2⟩:=info_parts info8x
 exact run_append_nothing w 25 25 ty 5 i0 Tryz.underlying25 hi0 b n cap h _ (by
  cases A with
  |none=>exact Src.ofNil w Tryz.underlying25 c
  |some a=>exact Src.ofSlice w Tryz.underlying25 a 0 c [] (by simp) (by simp) (by simp))
theorem app_room (k:Nat) (hk0:0<k) (hk:k≤1000000) (w:World): ∃c W,(∀ty,(Builtin.append_ #[25,3] ty #[.slice none 0 0,.int .i64 (k:Int)]).run Tryz.prog w= .ok (.slice (some ⟨w.heap.size,0,none⟩) k c) W)∧k≤c∧Ow8 W w.heap.size (.slice (some ⟨w.heap.size,0,none⟩) 0 c) 0 []∧Below w.heap.size w W:=by
 obtain⟨i0,hi0,hz0,hz1,hz2⟩:=info_parts info8x
 have hr:=fun ty=>Lib.run_append_nil_zeros (P:=Tryz.prog) w 25 3 ty 5 i0 (.int .u8 0) .i64 .i64 Tryz.underlying25 Tryz.underlying3 hi0 hz0 k hk0 (by rw [hz1];decide) (by omega) (by rw [hz2];omega)
 have hge:=grownCap_ge w k 0 5
 have hle:=grownCap_le_maxLen w k 0 5 (by unfold maxLen;omega)
 refine⟨_,_,hr,hge,⟨rfl,.inr ⟨w.heap.size,_,_,rfl,Nat.le_refl _,heap_alloc_new w.drew _,Nat.zero_le _,hle,?_,?_⟩⟩,((Below.refl _ _).drew).alloc (Nat.le_refl _) _⟩
 ·simp only [Array.size_append,size_zeroCells,show(Value.int .u8 0).cells.size=1 from rfl]
  omega
 ·simp
set_option maxHeartbeats 1600000 in
theorem sgrow (k:Nat) (w:World) (hk:k≤1000000):
  Calls Tryz.prog 53 #[.slice none 0 0,.int .i64 (k:Int)] w fun e9 w'=> ∃A c,e9= .returned (.slice A 0 c)∧Ow8 w' w.heap.size (.slice A 0 c) 0 []∧Below w.heap.size w w':=by
 obtain⟨i0,hi0,hz0,hz1,hz2⟩:=info_parts info8x
 have hO0:Ow8 w w.heap.size (.slice none 0 0) 0 []:=World.ownsRow_nil w _ _ _
 have m1:wrap64 ((k:Int)-0)=(k:Int):=by rw [IntWalk.wrap64_in _ (by omega)];omega
 have m2:IntKind.i64.wrap (k:Int)=(k:Int):=by rw [IntKind.wrap_i64];omega
 have i0k: ¬(k:Int)<0:=by omega
 by_cases h0:k=0
 ·subst h0
  go_enter Tryz.func53,Tryz.ntmps53
  go_wp2_with fail
  go_ret
  exact⟨none,0,rfl,hO0,Below.refl _ _⟩
 ·have i1:(k:Int)>0:=by omega
  obtain⟨c,W,happ,hkc,hO,hB⟩:=app_room k (by omega) hk w
  have hsl:=slice_to2 none 0 0 0 (Nat.le_refl _) (Nat.le_refl _)
  have hsl2:=slice_to2 (some ⟨w.heap.size,0,none⟩) k c 0 (Nat.zero_le _) hkc
  have HAP:=Lib.hid happ
  clear happ hO0 hi0 hz0 hz1 hz2 h0 hk
  go_enter Tryz.func53,Tryz.ntmps53
  go_wp2_with (at_builtin;refine Lib.wpList_append_run _ rfl _ _ _ _ rfl _ _ rfl rfl _ _ (HAP.out _) ?_)
  go_ret
  exact⟨_,c,rfl,hO,hB⟩
set_option maxHeartbeats 4000000 in
theorem sconcat (g K C:Nat) (A:Nat→Option Addr) (n c:Nat→Nat) (L:Nat→List UInt8) (w:World) (hG:Cx w g K (fun j=> .slice (A j) (n j) (c j))) (hS: ∀j,j<K→Sl w w.heap.size (A j) (n j) (L j)) (hK:K≤8) (hn: ∀j,j<K→n j≤10000):
  Calls Tryz.prog 27 #[.slice (some ⟨g,0,none⟩) K C] w fun e9 w'=> ∃A2 c2,e9= .returned (.slice A2 (smL n K) c2)∧Ow8 w' w.heap.size (.slice A2 (smL n K) c2) (smL n K) (ctM L K)∧Below w.heap.size w w':=by
 obtain⟨i0,hi0,hz0,hz1,hz2⟩:=info_parts info8x
 have HI0:=Lib.hid hi0
 have HZ0:=Lib.hid hz0
 have HZ1:=Lib.hid hz1
 have HZ2:=Lib.hid hz2
 clear hi0 hz0 hz1 hz2
 have HG:=Lib.hid hG
 have HS:=Lib.hid hS
 have HSM:=Lib.hid (fun k (h:k≤K)=>sum_le (m:=10000) K k h hn)
 have HK:=Lib.hid hK
 clear hG hS hn hK
 go_enter Tryz.func27,Tryz.ntmps27
 go_wp2_with fail
 go_loopw [3,11] (fun v i wr=> ∃j:Nat,j≤K∧v= .int .i64 (smL n j:Nat)∧i= .int .i64 (j:Int)∧w=wr) (fun _ i _=>K-(intOf i).toNat)
 case atStart=>exact⟨0,Nat.zero_le _,rfl,rfl,rfl⟩
 case round=>
  obtain⟨j,hj,rfl,rfl,rfl⟩:=hrel
  by_cases hlt:j<K
  ·have c9:w.cell? ⟨g,j,none⟩=some (.slice (A j) (n j) (c j)):=(HG.out j hlt).1
   have hsm:=HSM.out (j+1) hlt
   have hk8:=HK.out
   obtain⟨r,hr⟩: ∃r,smL n (j+1)=r:=⟨_,rfl⟩
   have hr2:smL n j+n j=r:=hr
   obtain⟨n1,hn1⟩: ∃m,n j=m:=⟨_,rfl⟩
   obtain⟨s0,hs0⟩: ∃m,smL n j=m:=⟨_,rfl⟩
   rw [hn1]at c9
   rw [hn1,hs0]at hr2
   rw [hr]at hsm
   rw [hs0]
   obtain⟨m1,m2,m3,m4⟩:=smfacts hr2 (by omega)
   have i2: ¬(r:Int)<0:=by omega
   have i1:(j:Int)<(K:Int):=by omega
   have HR:=Lib.hid hr
   have hj8:j<8:=by omega
   clear hr hr2 hsm hs0 hn1 hk8
   go_wp2_with fail
   go_roundw
   case rel=>exact⟨j+1,hlt,by rw [HR.out],by go_num,trivial⟩
   case measure=>simp [intOf];omega
  ·obtain rfl:j=K:=by omega
   have i1: ¬(j:Int)<(j:Int):=by omega
   have hsm:=HSM.out j (Nat.le_refl _)
   have hk8:=HK.out
   obtain⟨s0,hs0⟩: ∃m,smL n j=m:=⟨_,rfl⟩
   rw [hs0]
   rw [hs0]at hsm
   have hs1:s0≤1000000:=by omega
   have HT:=Lib.hid hs0
   clear hs0 hlt hj hsm hk8
   go_wp2_with fail
   refine(sgrow s0 _ hs1).mono ?_
   rintro e w1 ⟨A1,c1,rfl,hO1,hB1⟩
   go_wp2_with fail
   go_loopw [6,27] (fun v i wr=> ∃(k:Nat) (A2:Option Addr) (c2:Nat),k≤j∧v= .slice A2 (smL n k) c2∧i= .int .i64 (k:Int)∧Ow8 wr w.heap.size (.slice A2 (smL n k) c2) (smL n k) (ctM L k)∧Below w.heap.size w wr) (fun _ i _=>j-(intOf i).toNat)
   case atStart=>exact⟨0,A1,c1,Nat.zero_le _,rfl,rfl,hO1,hB1⟩
   case round=>
    clear hO1 hB1
    obtain⟨k,A2,c2,hk,rfl,rfl,hO,hB⟩:=hrel
    by_cases hlt:k<j
    ·have c9:wr.cell? ⟨g,k,none⟩=some (.slice (A k) (n k) (c k)):=((HG.out.t hB (by omega)) k hlt).1
     have hsl:=(HS.out k hlt).below hB
     have hsm:=HSM.out (k+1) hlt
     have hk8:=HK.out
     have i1:(k:Int)<(j:Int):=by omega
     have hj8:k<8:=by omega
     have hrs:smL n k+n k=smL n (k+1):=rfl
     have hct:ctM L k++L k=ctM L (k+1):=rfl
     obtain⟨r,hr⟩: ∃r,smL n (k+1)=r:=⟨_,rfl⟩
     obtain⟨lr,hlr⟩: ∃r,ctM L (k+1)=r:=⟨_,rfl⟩
     rw [hr]at hsm hrs
     rw [hlr]at hct
     have HR:=Lib.hid hr
     have HLR:=Lib.hid hlr
     clear hr hlr
     obtain⟨n1,hn1⟩: ∃m,n k=m:=⟨_,rfl⟩
     obtain⟨B1,hB1⟩: ∃m,A k=m:=⟨_,rfl⟩
     obtain⟨d1,hd1⟩: ∃m,c k=m:=⟨_,rfl⟩
     obtain⟨l1,hl1⟩: ∃m,L k=m:=⟨_,rfl⟩
     obtain⟨s1,hs1⟩: ∃m,smL n k=m:=⟨_,rfl⟩
     obtain⟨l0,hl0⟩: ∃m,ctM L k=m:=⟨_,rfl⟩
     rw [hn1,hB1,hd1]at c9
     rw [hn1,hB1,hl1]at hsl
     rw [hs1,hn1]at hrs
     rw [hl0,hl1]at hct
     rw [hs1,hl0]at hO
     rw [hs1]
     clear hn1 hB1 hd1 hl1 hs1 hl0
     by_cases h0:n1=0
     ·subst h0
      have hcap:=(own_cap hO).1
      obtain rfl:l1= []:=List.eq_nil_of_length_eq_zero hsl.len
      rw [List.append_nil]at hct
      rw [Nat.add_zero]at hrs
      subst hct
      subst hrs
      clear hsm hk8 hsl
      go_wp2_with (at_builtin;refine Lib.wpList_append_run _ rfl _ _ _ _ rfl _ _ rfl rfl _ _ (app_none _ _ _ _ _ hcap _ _) ?_)
      go_roundw
      case rel=>exact⟨k+1,A2,c2,hlt,by rw [HR.out],by go_num,by rw [HR.out,HLR.out];exact hO,hB⟩
      case measure=>simp [intOf];omega
     ·obtain⟨ad,rfl,hsrc⟩:=hsl.src (by omega)
      have hll:l1.length=n1:=hsl.len
      have HLL:=Lib.hid (show(l1.map b8).length=n1*1 by rw [List.length_map,hll,Nat.mul_one])
      have HSR:=Lib.hid hsrc
      have HHR:=Lib.hid hrs
      have HCT:=Lib.hid hct
      have hbs:=hB.size
      have H63:=Lib.hid (show s1+n1≤1000000 by omega)
      clear hsrc hll hsl hsm hk8 hrs hct
      go_wp2_with (at_builtin;refine wpList_append_own _ rfl _ _ 25 rfl w.heap.size 5 i0 (.int .u8 0) 1 1 Tryz.underlying25 HI0.out HZ0.out HZ1.out HZ2.out (by decide) (by decide) _ _ _ rfl hO ad n1 d1 (l1.map b8) rfl HLL.out HSR.out (one_b8 _) (by have:=H63.out;unfold maxLen;omega) (by have:=H63.out;omega) hbs ?_;intro v3 w3 hown3 hgrow3 _;obtain⟨A3,c3,rfl⟩:=own_shape hown3;rw [HHR.out]at hown3;try rw [HHR.out])
      have hB3:Below w.heap.size w w3:=hB.grown hgrow3 hbs (fun g hg=>own_block hO hg)
      have hO3:Ow8 w3 w.heap.size (.slice A3 r c3) r lr:=by unfold Ow8;rw [←HCT.out,List.map_append];exact hown3
      clear hO hB hown3 hgrow3
      go_wp2_with fail
      go_roundw
      case rel=>exact⟨k+1,A3,c3,hlt,by rw [HR.out],by go_num,by rw [HR.out,HLR.out];exact hO3,hB3⟩
      case measure=>simp [intOf];omega
    ·obtain rfl:k=j:=by omega
     have i1: ¬(k:Int)<(k:Int):=by omega
     clear hlt hk
     rw [HT.out]at hO⊢
     go_wp2_with fail
     go_ret
     exact⟨A2,c2,by rw [HT.out];rfl,by rw [HT.out];exact hO,hB⟩
theorem info8sl:(Tryz.prog.info? 25).map (fun i=>(i.zero,i.size,i.bytes))=some (some (.slice none 0 0),1,24):=by kernel_rfl
theorem wpP_bs {P:Program} {o:Oper} {a:Act} {w w':World} {K:Act→World→Prop} {Q:Exit→Act→World→Prop} (t:TypeId) (len:Nat) (parts:Array (Nat×Operand)) (ho:o.op= .buildSlice t len parts)
  (ps:List (Nat×Value)) (hps:parts.toList.map (fun p=>(p.1,a.eval p.2))=ps) (v:Value) (hb:(Instr.buildSlice t len ps.toArray).run P w= .ok v w') (h:K (a.put o.dst v) w'):o.wp P a w K Q:=by
 have e:(parts.map fun(i,x)=>(i,a.eval x))=ps.toArray:=by rw [←hps];apply Array.toList_inj.1;simp
 unfold Oper.wp execOp
 simp only [ho,e,Sem.run_bind,hb,Result.andThen_ok]
 exact h
theorem built3 (A1 A2 A3:Option Addr) (n1 c1 n2 c2 n3 c3:Nat) (V:World):(Instr.buildSlice 101 3 #[(0,.slice A1 n1 c1),(1,.slice A2 n2 c2),(2,.slice A3 n3 c3)]).run Tryz.prog V= .ok (.slice (some ⟨V.heap.size,0,none⟩) 3 3) (V.alloc (.cells #[.slice A1 n1 c1,.slice A2 n2 c2,.slice A3 n3 c3] 25)):=by
 obtain⟨i0,hi0,hz0,hz1,hz2⟩:=info_parts info8sl
 exact run_buildSlice (P:=Tryz.prog) V 101 25 3 _ _ i0 _ Tryz.underlying101 hi0 hz0 (by rw [hz1];decide) (by rw [hz1];decide) (by rw [hz1];kernel_rfl)
theorem built2 (A1 A2:Option Addr) (n1 c1 n2 c2:Nat) (V:World):(Instr.buildSlice 101 2 #[(0,.slice A1 n1 c1),(1,.slice A2 n2 c2)]).run Tryz.prog V= .ok (.slice (some ⟨V.heap.size,0,none⟩) 2 2) (V.alloc (.cells #[.slice A1 n1 c1,.slice A2 n2 c2] 25)):=by
 obtain⟨i0,hi0,hz0,hz1,hz2⟩:=info_parts info8sl
 exact run_buildSlice (P:=Tryz.prog) V 101 25 2 _ _ i0 _ Tryz.underlying101 hi0 hz0 (by rw [hz1];decide) (by rw [hz1];decide) (by rw [hz1];kernel_rfl)
def pk3 {α:Type} (a b c:α):Nat→α
 |0=>a|1=>b|_=>c
theorem lt_three {j:Nat} (h:j<3):j=0∨j=1∨j=2:=by omega
theorem scat3 (g:Nat) (A1 A2 A3:Option Addr) (n1 c1 n2 c2 n3 c3:Nat) (l1 l2 l3:List UInt8) (w:World) (hG:Cx w g 3 (pk3 (.slice A1 n1 c1) (.slice A2 n2 c2) (.slice A3 n3 c3))) (h1:Sl w w.heap.size A1 n1 l1) (h2:Sl w w.heap.size A2 n2 l2) (h3:Sl w w.heap.size A3 n3 l3) (b1:n1≤10000) (b2:n2≤10000) (b3:n3≤10000):
  Calls Tryz.prog 27 #[.slice (some ⟨g,0,none⟩) 3 3] w fun e9 w'=> ∃A c,e9= .returned (.slice A (n1+n2+n3) c)∧Sl w' w'.heap.size A (n1+n2+n3) (l1++l2++l3)∧n1+n2+n3≤c∧Below w.heap.size w w':=by
 have hc:=sconcat g 3 3 (pk3 A1 A2 A3) (pk3 n1 n2 n3) (pk3 c1 c2 c3) (pk3 l1 l2 l3) w (hG.ext fun j hj=>by rcases lt_three hj with rfl|rfl|rfl<;>rfl)
  (fun j hj=>by rcases lt_three hj with rfl|rfl|rfl<;>assumption) (by omega) (fun j hj=>by rcases lt_three hj with rfl|rfl|rfl<;>assumption)
 have e1:smL (pk3 n1 n2 n3) 3=n1+n2+n3:=by simp [smL,pk3]
 have e2:ctM (pk3 l1 l2 l3) 3=l1++l2++l3:=by simp [ctM,pk3]
 rw [e1,e2]at hc
 refine hc.mono ?_
 rintro e9 w1 ⟨A,c,rfl,hO,hB⟩
 exact⟨A,c,rfl,Sl.of_own hO,(own_cap hO).1,hB⟩
theorem scat2 (g:Nat) (A1 A2:Option Addr) (n1 c1 n2 c2:Nat) (l1 l2:List UInt8) (w:World) (hG:Cx w g 2 (pk3 (.slice A1 n1 c1) (.slice A2 n2 c2) (.slice A2 n2 c2))) (h1:Sl w w.heap.size A1 n1 l1) (h2:Sl w w.heap.size A2 n2 l2) (b1:n1≤10000) (b2:n2≤10000):
  Calls Tryz.prog 27 #[.slice (some ⟨g,0,none⟩) 2 2] w fun e9 w'=> ∃A c,e9= .returned (.slice A (n1+n2) c)∧Sl w' w'.heap.size A (n1+n2) (l1++l2)∧n1+n2≤c∧c≤maxLen∧Below w.heap.size w w':=by
 have hc:=sconcat g 2 2 (pk3 A1 A2 A2) (pk3 n1 n2 n2) (pk3 c1 c2 c2) (pk3 l1 l2 l2) w (hG.ext fun j hj=>by rcases lt_three (show j<3 by omega)with rfl|rfl|rfl<;>rfl)
  (fun j hj=>by rcases lt_three (show j<3 by omega)with rfl|rfl|rfl<;>assumption) (by omega) (fun j hj=>by rcases lt_three (show j<3 by omega)with rfl|rfl|rfl<;>assumption)
 have e1:smL (pk3 n1 n2 n2) 2=n1+n2:=by simp [smL,pk3]
 have e2:ctM (pk3 l1 l2 l2) 2=l1++l2:=by simp [ctM,pk3]
 rw [e1,e2]at hc
 refine hc.mono ?_
 rintro e9 w1 ⟨A,c,rfl,hO,hB⟩
 exact⟨A,c,rfl,Sl.of_own hO,(own_cap hO).1,(own_cap hO).2,hB⟩
end Go.Proofs.YtiacbphnclgikaaGreatDoor
