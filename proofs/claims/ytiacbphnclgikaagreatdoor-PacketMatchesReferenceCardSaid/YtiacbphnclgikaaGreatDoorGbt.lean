/-
 Contracts of package bits and of the reference package of layer 1, by walks through their texts, one after the other; what was there stays as it was.
-/
import Derived.Test.YtiacbphnclgikaaGreatDoorRows
import Derived.Test.YtiacbphnclgikaaGreatDoorFre
import Derived.WalkSpells
import Derived.Deep.QuietTactic
import Derived.BigQuiet
import Derived.RegionTactic
namespace Go.Proofs.YtiacbphnclgikaaGreatDoor
section
open Go.RowKit
set_option linter.unusedVariables false
theorem ret_of {k:IntKind} {a b:Int} (h:a=b):Ending.returned (.int k a)= .returned (.int k b):=by rw [h]
theorem ret_bool {a b:Bool} (h:a=b):Ending.returned (.bool a)= .returned (.bool b):=by rw [h]
theorem val_of {k:IntKind} {a b:Int} (h:a=b):Value.int k a= .int k b:=by rw [h]
theorem take_snoc (l:List UInt8) (k:Nat) (h:k<l.length):l.take (k+1)=l.take k++ [l[k]?.getD 0]:=by
 rw [List.take_succ_eq_append_getElem h];simp [List.getElem?_eq_getElem h]
theorem step_num (x:Nat) (b:UInt8) (hx:x<18446744073709551616):IntKind.u64.wrap (IntKind.u64.wrap ((x:Int)*256)+IntKind.u64.wrap (b.toNat:Int))=((x*256+b.toNat)%18446744073709551616:Nat):=by
 have:=b.toNat_lt
 simp only [IntKind.wrap_u64]
 omega
set_option maxHeartbeats 400000 in
theorem refNumber (A:Option Addr) (n c:Nat) (l:List UInt8) (w:World) (h:Sl w w.heap.size A n l) (hn:n≤140737488351232):
  Calls Tryz.prog 65 #[.slice A n c] w fun e w'=>e= .returned (.int .u64 (num l:Nat))∧w'=w:=by
 go_enter Tryz.func65,Tryz.ntmps65
 go_wp2
 go_loop [3,4] (fun x i=> ∃k:Nat,k≤n∧i= .int .i64 k∧x= .int .u64 (num (l.take k):Nat)) (fun _ i=>n-(intOf i).toNat)
 case atStart=>exact⟨0,Nat.zero_le _,rfl,rfl⟩
 case round=>
  obtain⟨k,hk,rfl,rfl⟩:=hrel
  by_cases hlt:k<n
  ·obtain⟨b,off,rfl,hb,hc⟩:=h.at_ hlt
   have hm:=num_lt (l.take k)
   have hs:=Lib.hid ((step_num (num (l.take k)) (l[k]?.getD 0) hm).trans (congrArg Nat.cast (num_take l k (by have:=h.len;omega)).symm))
   go_wp2
   go_round
   case rel=>exact⟨k+1,by omega,by go_num,val_of hs.out⟩
   case measure=>simp [intOf];omega
  ·have he:=Lib.hid (show l.take k=l from List.take_of_length_le (by have:=h.len;omega))
   go_wp2
   go_ret
   exact⟨ret_of (by rw [he.out]),rfl⟩
theorem step_num8 (x:Nat) (b:UInt8) (hx:x<18446744073709551616):bits .or .u64 (IntKind.u64.wrap ((x:Int)*256)) (IntKind.u64.wrap (b.toNat:Int))=((x*256+b.toNat)%18446744073709551616:Nat):=by
 have hb:=b.toNat_lt
 have e1:IntKind.u64.wrap ((x:Int)*256)=((x*256%18446744073709551616:Nat):Int):=by rw [IntKind.wrap_u64];omega
 have e2:IntKind.u64.wrap (b.toNat:Int)=(b.toNat:Int):=by rw [IntKind.wrap_u64];omega
 rw [e1,e2,or_u64 _ _ (Nat.mod_lt _ (by decide)) (by omega)]
 have e3:x*256%18446744073709551616=2^8*(x%72057594037927936):=by
  rw [show 18446744073709551616=256*72057594037927936 by decide,Nat.mul_comm x,Nat.mul_mod_mul_left]
 rw [e3,←Nat.two_pow_add_eq_or_of_lt (by simpa using hb)]
 congr 1
 rw [←e3]
 omega
set_option maxHeartbeats 800000 in
theorem number_short (A:Option Addr) (n c:Nat) (l:List UInt8) (w:World) (h:Sl w w.heap.size A n l) (hn:n≤8):
  Calls Tryz.prog 58 #[.slice A n c] w fun e w'=>e= .returned (.int .u64 (num l:Nat))∧w'=w:=by
 go_enter Tryz.func58,Tryz.ntmps58
 go_wp2
 all_goals
  go_loop [4,14] (fun x i=> ∃k:Nat,k≤n∧i= .int .i64 k∧x= .int .u64 (num (l.take k):Nat)) (fun _ i=>n-(intOf i).toNat)
  case atStart=>exact⟨0,Nat.zero_le _,rfl,rfl⟩
  case round=>
   obtain⟨k,hk,rfl,rfl⟩:=hrel
   by_cases hlt:k<n
   ·obtain⟨b,off,rfl,hb,hc⟩:=h.at_ hlt
    have hm:=num_lt (l.take k)
    have hs:=Lib.hid ((step_num8 (num (l.take k)) (l[k]?.getD 0) hm).trans (congrArg Nat.cast (num_take l k (by have:=h.len;omega)).symm))
    go_wp2
    go_round
    case rel=>exact⟨k+1,by omega,by go_num,val_of hs.out⟩
    case measure=>simp [intOf];omega
   ·have he:=Lib.hid (show l.take k=l from List.take_of_length_le (by have:=h.len;omega))
    go_wp2
    go_ret
    exact⟨ret_of (by rw [he.out]),rfl⟩
set_option maxHeartbeats 800000 in
theorem number_long (A:Option Addr) (n c:Nat) (l:List UInt8) (w:World) (h:Sl w w.heap.size A n l) (hn:8<n) (hm:n≤140737488351232) (hc:n≤c):
  Calls Tryz.prog 58 #[.slice A n c] w fun e w'=>e= .returned (.int .u64 (num l:Nat))∧w'=w:=by
 have hd:=Lib.hid (num_drop l)
 have hlen:=h.len
 obtain⟨b,off,rfl,hb,hcells⟩:=h.2 (by omega)
 clear h
 obtain⟨m,rfl⟩: ∃m,n=m+8:=⟨n-8,by omega⟩
 have hS:Sl w w.heap.size (some ⟨b,off+m,none⟩) 8 (l.drop m):=by
  refine⟨by simp;omega,fun _=>⟨b,off+m,rfl,hb,fun j u hu=> ?_⟩⟩
  rw [List.getElem?_drop]at hu
  rw [Nat.add_assoc]
  exact hcells _ u hu
 clear hcells
 have hdd:Hid (num (l.drop m)=num l):=by
  have:=hd.out
  rw [hlen,show m+8-8=m by omega]at this
  exact this
 clear hd hlen
 generalize l.drop m=r at*
 have hc1: ¬c=m:=by omega
 have hm8:(0:Int)<(m:Int):=by omega
 have hm9: ¬m=0:=by omega
 go_enter Tryz.func58,Tryz.ntmps58
 go_wp2
 go_loop [4,14] (fun x i=> ∃k:Nat,k≤8∧i= .int .i64 k∧x= .int .u64 (num (r.take k):Nat)) (fun _ i=>8-(intOf i).toNat)
 case atStart=>exact⟨0,Nat.zero_le _,rfl,rfl⟩
 case round=>
  obtain⟨k,hk,rfl,rfl⟩:=hrel
  by_cases hlt:k<8
  ·obtain⟨b1,off1,e1,hb1,hc1⟩:=hS.at_ hlt
   injection e1 with e1
   injection e1 with e1 e2
   subst e1 e2
   have hm:=num_lt (r.take k)
   have hs:=Lib.hid ((step_num8 (num (r.take k)) (r[k]?.getD 0) hm).trans (congrArg Nat.cast (num_take r k (by have:=hS.len;omega)).symm))
   go_wp2
   go_round
   case rel=>exact⟨k+1,by omega,by go_num,val_of hs.out⟩
   case measure=>simp [intOf];omega
  ·have he:=Lib.hid (show r.take k=r from List.take_of_length_le (by have:=hS.len;omega))
   go_wp2
   go_ret
   exact⟨ret_of (by rw [he.out,hdd.out]),rfl⟩
theorem number (A:Option Addr) (n c:Nat) (l:List UInt8) (w:World) (h:Sl w w.heap.size A n l) (hm:n≤140737488351232) (hc:n≤c):
  Calls Tryz.prog 58 #[.slice A n c] w fun e w'=>e= .returned (.int .u64 (num l:Nat))∧w'=w:=by
 rcases Nat.lt_or_ge 8 n with h8|h8
 ·exact number_long A n c l w h h8 hm hc
 ·exact number_short A n c l w h h8
end
section
open Go.RowKit
set_option linter.unusedVariables false
set_option maxRecDepth 100000
theorem info8:(Tryz.prog.info? 5).map (fun i=>(i.zero,i.size,i.bytes))=some (some (.int .u8 0),1,1):=by kernel_rfl
def Own (w:World) (B:Nat) (A:Option Addr) (n c:Nat) (l:List UInt8):Prop:=w.ownsRow B 5 1 (.slice A n c) n (l.map b8)
theorem Own.sl {w:World} {B:Nat} {A:Option Addr} {n c:Nat} {l:List UInt8} (h:Own w B A n c l):Sl w w.heap.size A n l:=Sl.of_own h
theorem Own.cap {w:World} {B:Nat} {A:Option Addr} {n c:Nat} {l:List UInt8} (h:Own w B A n c l):n≤c∧c≤maxLen:=own_cap h
theorem conv8 (y:Nat):((y:Int)%256)=((UInt8.ofNat y).toNat:Int):=by
 have e:(UInt8.ofNat y).toNat=y%256:=UInt8.toNat_ofNat'
 rw [e];omega
theorem refBytes_step {w wr w1:World} {B x k c:Nat} {A:Option Addr} {v1:Value} {q:Int} (hq:q=((UInt8.ofNat (x/256^k)).toNat:Int))
  (hown:Own wr B A k c (byt x k)) (hbel:Below B w wr) (hB:B≤wr.heap.size)
  (hown1:w1.ownsRow B 5 1 v1 (1+k) (#[Value.int .u8 q].toList++(byt x k).map b8))
  (hg1:(wr.alloc (.cells #[Value.int .u8 q] 5)).grownBy w1 (Value.slice (some ⟨wr.heap.size,0,none⟩) 1 1).ownBlock):
  ∃(A1:Option Addr) (c1:Nat),v1= .slice A1 (k+1) c1∧Own w1 B A1 (k+1) c1 (byt x (k+1))∧Below B w w1:=by
 rw [Nat.add_comm 1 k]at hown1
 obtain⟨A1,c1,rfl⟩:=own_shape hown1
 refine⟨A1,c1,rfl,?_,(hbel.alloc hB _).grown hg1 (by simp;omega) (fun g hg=> ?_)⟩
 ·subst hq
  exact hown1
 ·simp [Value.ownBlock]at hg
  omega
set_option maxHeartbeats 800000 in
theorem refBytes (x:Nat) (m:Int) (w:World) (hx:x<18446744073709551616) (hm: -9223372036854775808≤m∧m≤9223372036854775807):
  Calls Tryz.prog 59 #[.int .u64 x,.int .i64 m] w fun e w'=>
   ∃A c,e= .returned (.slice A (min m.toNat 8) c)∧Own w' w.heap.size A (min m.toNat 8) c (byt x (min m.toNat 8))∧Below w.heap.size w w':=by
 obtain⟨i0,hi0,hz0,hz1,hz2⟩:=info_parts info8
 have hzs:(Value.int .u8 0).cells.size=1:=rfl
 generalize ht:min m.toNat 8=t
 have Ht:=Lib.hid ht
 clear ht
 go_enter Tryz.func59,Tryz.ntmps59
 go_wp2
 go_loopw [0,5,6] (fun y v i wr=> ∃(k q:Nat) (A:Option Addr) (c:Nat),k≤t∧i= .int .i64 k∧y= .int .u64 (q:Int)∧Hid (q=x/256^k)∧q<18446744073709551616∧v= .slice A k c∧Own wr w.heap.size A k c (byt x k)∧Below w.heap.size w wr) (fun _ _ i _=>8-(intOf i).toNat)
 case atStart=>exact⟨0,x,none,0,Nat.zero_le _,rfl,rfl,Lib.hid (by simp),hx,rfl,World.ownsRow_nil _ _ _ _,Below.refl _ _⟩
 case round=>
  obtain⟨k,q,A,c,hk,rfl,rfl,hq,hq2,rfl,hown,hbel⟩:=hrel
  have hsl:=hown.sl
  by_cases hlt:k<t
  ·have hk1:(k:Int)<m:=by have:=Ht.out;omega
   have hk2:(k:Int)<8:=by have:=Ht.out;omega
   have hc:=Lib.hid (conv8 q)
   have hB:=hbel.size
   clear hx hm
   go_wp2_with (at_builtin;refine wpList_append_sl _ rfl (.tmp 19) (.tmp 20) _ rfl w.heap.size 5 i0 _ Tryz.underlying25 hi0 hz0 hz1 hz2 hzs _ 1 _ rfl (World.ownsRow_lit wr _ 1 hB (by simp [maxLen]) rfl) wr.heap.size A k c (byt x k) rfl (hsl.alloc (Nat.le_refl _) _) (by omega) (by simp;omega) ?_;intro v1 w1 hown1 hg1 hat1)
   obtain⟨A1,c1,rfl,hown2,hbel2⟩:=refBytes_step (hc.out.trans (by rw [hq.out])) hown hbel hB hown1 hg1
   go_roundw
   case rel=>exact⟨k+1,q/256,A1,c1,by omega,by go_num,by simp,Lib.hid (by rw [Nat.pow_succ,←Nat.div_div_eq_div_mul,←hq.out]),by omega,rfl,hown2,hbel2⟩
   case measure=>simp [intOf];omega
  ·obtain rfl:k=t:=by omega
   by_cases hm8:m≤8
   ·have hk1: ¬(k:Int)<m:=by have:=Ht.out;omega
    go_wp2
    go_ret
    exact⟨A,c,rfl,hown,hbel⟩
   ·have hk1:(k:Int)<m:=by have:=Ht.out;omega
    have hk2: ¬(k:Int)<8:=by have:=Ht.out;omega
    go_wp2
    go_ret
    exact⟨A,c,rfl,hown,hbel⟩
theorem shr8 (q k:Nat):(q:Int)/2^(8*k)%256=((UInt8.ofNat (q/256^k)).toNat:Int):=by
 have e:(UInt8.ofNat (q/256^k)).toNat=q/256^k%256:=UInt8.toNat_ofNat'
 have h:(2:Int)^(8*k)=((256^k:Nat):Int):=by
  rw [Int.natCast_pow,Int.pow_mul]
  congr 1
 rw [e,h,Int.natCast_emod,Int.natCast_ediv];rfl
def Row8 (w:World) (B:Nat) (a:Addr) (n:Nat) (l:List UInt8):Prop:=w.ownsRow B 5 1 (.slice (some ⟨a.block,0,none⟩) n n) n (l.map b8)
theorem Row8.cell {w:World} {B g n:Nat} {l:List UInt8} (h:Row8 w B ⟨g,0,none⟩ n l) (j:Nat) (hj:j<n): ∃u,w.cell? ⟨g,j,none⟩=some u:=by
 have h1:(l.map b8).length=n:=by simpa using h.1
 refine⟨(l.map b8)[j]'(by omega),?_⟩
 rw [World.ownsRow.cellAt h j (by omega),List.getElem?_eq_getElem]
theorem Row8.frozen {w:World} {B g n:Nat} {l:List UInt8} (h:Row8 w B ⟨g,0,none⟩ n l) (j:Nat):w.frozen? ⟨g,j,none⟩=false:=World.ownsRow.frozenAt h j
theorem Row8.own {w:World} {B g n:Nat} {l:List UInt8} (h:Row8 w B ⟨g,0,none⟩ n l):Own w B (some ⟨g,0,none⟩) n n l:=h
theorem Row8.made {w:World} {B g n:Nat} (h:w.ownsRow B 5 1 (.slice (some ⟨g,0,none⟩) n n) n (madeCells (Value.int .u8 0).cells (n*1)).toList):Row8 w B ⟨g,0,none⟩ n (List.replicate n 0):=by
 have e:(madeCells (Value.int .u8 0).cells (n*1)).toList=(List.replicate n (0:UInt8)).map b8:=by
  rw [show(Value.int .u8 0).cells= #[Value.int .u8 0]from rfl,Nat.mul_one,toList_madeCells_one,List.map_replicate];rfl
 rw [e]at h
 exact h
theorem Row8.store {w:World} {B g n:Nat} {l:List UInt8} (h:Row8 w B ⟨g,0,none⟩ n l) (j:Nat) (u:UInt8):Row8 (w.setCell ⟨g,j,none⟩ (b8 u)) B ⟨g,0,none⟩ n (l.set j u):=by
 have:=(World.ownsRow.stored h j (b8 u)).1
 unfold Row8
 rw [List.map_set]
 exact this
theorem byt_store (x t k:Nat) (hk:k<t):(List.replicate (t-k) (0:UInt8)++byt x k).set (t-1-k) (UInt8.ofNat (x/256^k))=List.replicate (t-(k+1)) 0++byt x (k+1):=by
 have e:t-k=(t-(k+1))+1:=by omega
 rw [e,List.replicate_succ',List.append_assoc,List.set_append_right _ _ (by simp;omega)]
 simp only [List.length_replicate,byt]
 rw [show t-1-k-(t-(k+1))=0 by omega]
 rfl
set_option maxHeartbeats 800000 in
theorem bytes_mid (x t:Nat) (w:World) (hx:x<18446744073709551616) (ht0:0<t) (ht:t≤8):
  Calls Tryz.prog 52 #[.int .u64 x,.int .i64 t] w fun e w'=>
   ∃A c,e= .returned (.slice A t c)∧Own w' w.heap.size A t c (byt x t)∧Below w.heap.size w w':=by
 obtain⟨i0,hi0,hz0,hz1,hz2⟩:=info_parts info8
 have hz:=Lib.hid (fun w1=> @Row8.made w1 w.heap.size w.heap.size t)
 go_enter Tryz.func52,Tryz.ntmps52
 go_wp2_with (at_make;refine wpList_make_full _ rfl _ _ _ rfl w.heap.size 5 i0 _ 1 Tryz.underlying25 hi0 hz0 hz1 _ _ _ _ t rfl rfl rfl rfl (by rw [hz2];omega) (by simp only [maxLen];omega) (Nat.le_refl _) ?_;intro w1 hown hg1)
 have hown0:=hz.out _ hown
 clear hown
 go_loopw [13] (fun i wr=> ∃k:Nat,k≤t∧i= .int .i64 k∧Row8 wr w.heap.size ⟨w.heap.size,0,none⟩ t (List.replicate (t-k) 0++byt x k)∧Below w.heap.size w wr) (fun i _=>t-(intOf i).toNat)
 case atStart=>exact⟨0,Nat.zero_le _,rfl,by simpa [byt]using hown0,(Below.refl _ _).grown hg1 (Nat.le_refl _) (fun _ h=>by cases h)⟩
 case round=>
  obtain⟨k,hk,rfl,hrow,hbel⟩:=hrel
  by_cases hlt:k<t
  ·obtain⟨u,hcell⟩:=hrow.cell (t-1-k) (by omega)
   have hfr:=hrow.frozen (t-1-k)
   have hs:=Lib.hid (shr8 x k)
   go_wp2
   go_roundw
   case rel=>
    have h2:=hrow.store (t-1-k) (UInt8.ofNat (x/256^k))
    rw [byt_store _ _ _ hlt]at h2
    unfold b8 at h2
    rw [←hs.out]at h2
    exact⟨k+1,by omega,by go_num,h2,hbel.setCell (Nat.le_refl _) _⟩
   case measure=>simp [intOf];omega
  ·obtain rfl:k=t:=by omega
   go_wp2
   go_ret
   have hrow:=hrow.own
   rw [Nat.sub_self,List.replicate_zero,List.nil_append]at hrow
   exact⟨_,_,rfl,hrow,hbel⟩
set_option maxHeartbeats 800000 in
theorem bytes_full (x:Nat) (m:Int) (w:World) (hx:x<18446744073709551616) (hm:8<m) (hm2:m≤9223372036854775807):
  Calls Tryz.prog 52 #[.int .u64 x,.int .i64 m] w fun e w'=>
   ∃A c,e= .returned (.slice A 8 c)∧Own w' w.heap.size A 8 c (byt x 8)∧Below w.heap.size w w':=by
 obtain⟨i0,hi0,hz0,hz1,hz2⟩:=info_parts info8
 have hz:=Lib.hid (fun w1=> @Row8.made w1 w.heap.size w.heap.size 8)
 go_enter Tryz.func52,Tryz.ntmps52
 go_wp2_with (at_make;refine wpList_make_full _ rfl _ _ _ rfl w.heap.size 5 i0 _ 1 Tryz.underlying25 hi0 hz0 hz1 _ _ _ _ 8 rfl rfl rfl rfl (by rw [hz2];omega) (by simp only [maxLen];omega) (Nat.le_refl _) ?_;intro w1 hown hg1)
 have hown0:=hz.out _ hown
 clear hown
 go_loopw [13] (fun i wr=> ∃k:Nat,k≤8∧i= .int .i64 k∧Row8 wr w.heap.size ⟨w.heap.size,0,none⟩ 8 (List.replicate (8-k) 0++byt x k)∧Below w.heap.size w wr) (fun i _=>8-(intOf i).toNat)
 case atStart=>exact⟨0,Nat.zero_le _,rfl,by simpa [byt]using hown0,(Below.refl _ _).grown hg1 (Nat.le_refl _) (fun _ h=>by cases h)⟩
 case round=>
  obtain⟨k,hk,rfl,hrow,hbel⟩:=hrel
  by_cases hlt:k<8
  ·obtain⟨u,hcell⟩:=hrow.cell (8-1-k) (by omega)
   have hfr:=hrow.frozen (8-1-k)
   have hs:=Lib.hid (shr8 x k)
   go_wp2
   go_roundw
   case rel=>
    have h2:=hrow.store (8-1-k) (UInt8.ofNat (x/256^k))
    rw [byt_store _ _ _ hlt]at h2
    unfold b8 at h2
    rw [←hs.out]at h2
    exact⟨k+1,by omega,by go_num,h2,hbel.setCell (Nat.le_refl _) _⟩
   case measure=>simp [intOf];omega
  ·obtain rfl:k=8:=by omega
   go_wp2
   go_ret
   have hrow:=hrow.own
   rw [Nat.sub_self,List.replicate_zero,List.nil_append]at hrow
   exact⟨_,_,rfl,hrow,hbel⟩
set_option maxHeartbeats 800000 in
theorem bytes_none (x:Nat) (m:Int) (w:World) (hm:m≤0):
  Calls Tryz.prog 52 #[.int .u64 x,.int .i64 m] w fun e w'=>
   ∃A c,e= .returned (.slice A 0 c)∧Own w' w.heap.size A 0 c (byt x 0)∧Below w.heap.size w w':=by
 obtain⟨i0,hi0,hz0,hz1,hz2⟩:=info_parts info8
 have hz:=Lib.hid (fun w1=> @Row8.made w1 w.heap.size w.heap.size 0)
 rcases Int.lt_or_eq_of_le hm with hm|rfl
 all_goals
  go_enter Tryz.func52,Tryz.ntmps52
  go_wp2_with (at_make;refine wpList_make_full _ rfl _ _ _ rfl w.heap.size 5 i0 _ 1 Tryz.underlying25 hi0 hz0 hz1 _ _ _ _ 0 rfl rfl rfl rfl (by rw [hz2];omega) (by simp only [maxLen];omega) (Nat.le_refl _) ?_;intro w1 hown hg1)
  have hown0:=hz.out _ hown
  clear hown
  refine wp_loop_rounds 1 ?_
  rw [rounds_succ]
  go_wp2
  go_ret
  exact⟨_,_,rfl,hown0,(Below.refl _ _).grown hg1 (Nat.le_refl _) (fun _ h=>by cases h)⟩
theorem bytes (x:Nat) (m:Int) (w:World) (hx:x<18446744073709551616) (hm: -9223372036854775808≤m∧m≤9223372036854775807):
  Calls Tryz.prog 52 #[.int .u64 x,.int .i64 m] w fun e w'=>
   ∃A c,e= .returned (.slice A (min m.toNat 8) c)∧Own w' w.heap.size A (min m.toNat 8) c (byt x (min m.toNat 8))∧Below w.heap.size w w':=by
 by_cases h0:m≤0
 ·have e:min m.toNat 8=0:=by omega
  rw [e];exact bytes_none x m w h0
 ·by_cases h8:8<m
  ·have e:min m.toNat 8=8:=by omega
   rw [e];exact bytes_full x m w hx h8 hm.2
  ·obtain⟨t,rfl⟩:=Int.eq_ofNat_of_zero_le (show 0≤m by omega)
   have e:min ((t:Int)).toNat 8=t:=by omega
   rw [e];exact bytes_mid x t w hx (by omega) (by omega)
end
section
open Go.RowKit
set_option linter.unusedVariables false
theorem step_rot (x:Nat) (hx:x<4294967296):(x:Int)*2%4294967296+(x:Int)/2147483648=((rot1 x:Nat):Int):=by
 unfold rot1
 omega
set_option maxHeartbeats 400000 in
theorem same_loop (A A':Option Addr) (n c c':Nat) (l l':List UInt8) (w:World) (h:Sl w w.heap.size A n l) (h':Sl w w.heap.size A' n l') (hn:n≤140737488351232):
  Calls Tryz.prog 13 #[.slice A n c,.slice A' n c'] w fun e w'=>e= .returned (.bool (decide (l=l')))∧Dr w w':=by
 go_enter Tryz.func13,Tryz.ntmps13
 go_wp2
 go_loopw [5] (fun i wr=> ∃k:Nat,k≤n∧i= .int .i64 k∧Hid (l.take k=l'.take k)∧ ∃q,wr=w.drewN q) (fun i _=>n-(intOf i).toNat)
 case atStart=>exact⟨0,Nat.zero_le _,rfl,Lib.hid (by simp),0,rfl⟩
 case round=>
  obtain⟨k,hk,rfl,heq,q,rfl⟩:=hrel
  by_cases hlt:k<n
  ·obtain⟨b,off,rfl,hb,hc⟩:=h.at_ hlt
   obtain⟨b',off',rfl,hb',hc'⟩:=h'.at_ hlt
   by_cases hx:l[k]?.getD 0=l'[k]?.getD 0
   ·have hne:(((l[k]?.getD 0).toNat:Int) !=((l'[k]?.getD 0).toNat:Int))=false:=by rw [hx];simp
    have hnext:Hid (l.take (k+1)=l'.take (k+1)):=by
     unfold Hid
     rw [take_snoc l k (by have:=h.len;omega),take_snoc l' k (by have:=h'.len;omega),heq.out,hx]
    clear hx
    go_wp2
    go_quiet (fail)
    go_wp2
    go_roundw
    case rel=>exact⟨k+1,by omega,by go_num,hnext,_,rfl⟩
    case measure=>simp [intOf];omega
   ·have hne:(((l[k]?.getD 0).toNat:Int) !=((l'[k]?.getD 0).toNat:Int))=true:=by
     simp;intro e;exact hx (UInt8.toNat_inj.1 (by omega))
    have hno:Hid (decide (l=l')=false):=by
     unfold Hid
     rw [decide_eq_false_iff_not];rintro rfl;exact hx rfl
    clear hx
    go_wp2
    go_quiet (fail)
    go_wp2
    go_ret
    exact⟨ret_bool hno.out.symm,Dr.more ⟨q,rfl⟩ _⟩
  ·have hyes:Hid (decide (l=l')=true):=by
    unfold Hid
    have h1:=heq.out
    rw [List.take_of_length_le (by have:=h.len;omega),List.take_of_length_le (by have:=h'.len;omega)]at h1
    simpa using h1
   go_wp2
   go_ret
   exact⟨ret_bool hyes.out.symm,q,rfl⟩
set_option maxHeartbeats 400000 in
theorem same (A A':Option Addr) (n m c c':Nat) (l l':List UInt8) (w:World) (h:Sl w w.heap.size A n l) (h':Sl w w.heap.size A' m l') (hn:n≤140737488351232) (hm:m≤140737488351232):
  Calls Tryz.prog 13 #[.slice A n c,.slice A' m c'] w fun e w'=>e= .returned (.bool (decide (l=l')))∧Dr w w':=by
 by_cases he:n=m
 ·subst he
  exact same_loop A A' n c c' l l' w h h' hn
 ·have hne:((n:Int) !=(m:Int))=true:=by simp;omega
  have hno:Hid (decide (l=l')=false):=by
   unfold Hid
   rw [decide_eq_false_iff_not];rintro rfl
   exact he (h.len.symm.trans h'.len)
  go_enter Tryz.func13,Tryz.ntmps13
  go_wp2
  go_ret
  exact⟨ret_bool hno.out.symm,Dr.refl _⟩
theorem xor_eq_zero (a b:UInt8):(a^^^b).toNat=0↔a=b:=by
 constructor
 ·intro h
  have h1:a^^^b=0:=UInt8.toNat_inj.1 (by simpa using h)
  have h2:(a^^^b)^^^b=0^^^b:=by rw [h1]
  simpa [UInt8.xor_assoc]using h2
 ·rintro rfl;simp
theorem diff_step (d:Nat) (a b:UInt8) (hd:d<256): ∃d':Nat,d'<256∧bits .or .u8 (d:Int) (bits .xor .u8 (a.toNat:Int) (b.toNat:Int))=(d':Int)∧(d'=0↔d=0∧a=b):=by
 have hx:=(a^^^b).toNat_lt
 refine⟨d|||(a^^^b).toNat,Nat.or_lt_two_pow (n:=8) hd hx,?_,?_⟩
 ·rw [xor_u8,or_u8 _ _ hd hx]
 ·rw [Nat.or_eq_zero_iff,xor_eq_zero]
set_option maxHeartbeats 400000 in
theorem equal_loop (A A':Option Addr) (n c c':Nat) (l l':List UInt8) (w:World) (h:Sl w w.heap.size A n l) (h':Sl w w.heap.size A' n l') (hn:n≤140737488351232):
  Calls Tryz.prog 43 #[.slice A n c,.slice A' n c'] w fun e w'=>e= .returned (.bool (decide (l=l')))∧Dr w w':=by
 go_enter Tryz.func43,Tryz.ntmps43
 go_wp2
 go_loopw [5,14] (fun v i wr=> ∃k d:Nat,k≤n∧i= .int .i64 k∧v= .int .u8 d∧d<256∧Hid (d=0↔l.take k=l'.take k)∧ ∃q,wr=w.drewN q) (fun _ i _=>n-(intOf i).toNat)
 case atStart=>exact⟨0,0,Nat.zero_le _,rfl,rfl,by omega,Lib.hid (by simp),0,rfl⟩
 case round=>
  obtain⟨k,d,hk,rfl,rfl,hd,heq,q,rfl⟩:=hrel
  by_cases hlt:k<n
  ·obtain⟨b,off,rfl,hb,hc⟩:=h.at_ hlt
   obtain⟨b',off',rfl,hb',hc'⟩:=h'.at_ hlt
   obtain⟨d',hd',hs,hz⟩:=diff_step d (l[k]?.getD 0) (l'[k]?.getD 0) hd
   have hnext:Hid (d'=0↔l.take (k+1)=l'.take (k+1)):=by
    unfold Hid
    rw [take_snoc l k (by have:=h.len;omega),take_snoc l' k (by have:=h'.len;omega),hz,heq.out]
    constructor
    ·rintro⟨h1,h2⟩;rw [h1,h2]
    ·intro h1
     have h2:=List.append_inj h1 (by simp;have:=h.len;have:=h'.len;omega)
     exact⟨h2.1,by simpa using h2.2⟩
   clear hz
   have Hs:=Lib.hid hs
   clear hs
   go_wp2
   go_quiet (fail)
   go_wp2
   go_roundw
   case rel=>exact⟨k+1,d',by omega,by go_num,val_of Hs.out,hd',hnext,_,rfl⟩
   case measure=>simp [intOf];omega
  ·have hres:Hid (((d:Int)==0)=decide (l=l')):=by
    have h1:=heq.out
    rw [List.take_of_length_le (by have:=h.len;omega),List.take_of_length_le (by have:=h'.len;omega)]at h1
    unfold Hid
    rw [Bool.eq_iff_iff]
    simp [←h1]
   go_wp2
   go_ret
   exact⟨ret_bool hres.out,q,rfl⟩
set_option maxHeartbeats 400000 in
theorem equal (A A':Option Addr) (n m c c':Nat) (l l':List UInt8) (w:World) (h:Sl w w.heap.size A n l) (h':Sl w w.heap.size A' m l') (hn:n≤140737488351232) (hm:m≤140737488351232):
  Calls Tryz.prog 43 #[.slice A n c,.slice A' m c'] w fun e w'=>e= .returned (.bool (decide (l=l')))∧Dr w w':=by
 by_cases he:n=m
 ·subst he
  exact equal_loop A A' n c c' l l' w h h' hn
 ·have hne:((n:Int) !=(m:Int))=true:=by simp;omega
  have hno:Hid (decide (l=l')=false):=by
   unfold Hid
   rw [decide_eq_false_iff_not];rintro rfl
   exact he (h.len.symm.trans h'.len)
  go_enter Tryz.func43,Tryz.ntmps43
  go_wp2
  go_ret
  exact⟨ret_bool hno.out.symm,Dr.refl _⟩
theorem lowbit (x k:Nat) (hx:x<18446744073709551616):bits .and .u64 ((x:Int)/2^k) 1=((x/2^k%2:Nat):Int):=by
 have e:(x:Int)/2^k=((x/2^k:Nat):Int):=by simp
 rw [e,and1_u64 _ (Nat.lt_of_le_of_lt (Nat.div_le_self _ _) hx)]
set_option maxHeartbeats 400000 in
theorem zeros (x:Nat) (w:World) (hx:x<18446744073709551616):
  Calls Tryz.prog 140 #[.int .u64 x] w fun e w'=>e= .returned (.int .i64 (zer x:Nat))∧w'=w:=by
 go_enter Tryz.func140,Tryz.ntmps140
 go_wp2
 go_loop [4] (fun i=> ∃k:Nat,k≤64∧i= .int .i64 k∧Hid (∀j,j<k→x/2^j%2=0)) (fun i=>64-(intOf i).toNat)
 case atStart=>exact⟨0,Nat.zero_le _,rfl,Lib.hid (fun j h=>absurd h (Nat.not_lt_zero _))⟩
 case round=>
  obtain⟨k,hk,rfl,hz⟩:=hrel
  by_cases hlt:k<64
  ·have hb:=lowbit x k hx
   by_cases h1:x/2^k%2=1
   ·have ht:(bits .and .u64 ((x:Int)/2^k) 1==1)=true:=by rw [hb,h1];rfl
    have hr:=Lib.hid (zer_eq x k (by omega) hz.out (fun _=>h1))
    clear hb h1
    go_wp2
    go_ret
    exact⟨ret_of (by rw [hr.out]),rfl⟩
   ·have h0:x/2^k%2=0:=by omega
    have ht:(bits .and .u64 ((x:Int)/2^k) 1==1)=false:=by rw [hb,h0];rfl
    have hz':Hid (∀j,j<k+1→x/2^j%2=0):=by
     unfold Hid
     intro j hj
     rcases Nat.lt_or_ge j k with h2|h2
     ·exact hz.out j h2
     ·obtain rfl:j=k:=by omega
      exact h0
    clear hb h1 h0
    go_wp2
    go_round
    case rel=>exact⟨k+1,by omega,by go_num,hz'⟩
    case measure=>simp [intOf];omega
  ·have hr:Hid (zer x=64):=by
    obtain rfl:k=64:=by omega
    exact Lib.hid (zer_eq x 64 (by omega) hz.out (fun h=>absurd h (by omega)))
   go_wp2
   go_ret
   exact⟨ret_of (by rw [hr.out];rfl),rfl⟩
set_option maxHeartbeats 400000 in
theorem refZeros (x:Nat) (w:World) (hx:x<18446744073709551616):
  Calls Tryz.prog 126 #[.int .u64 x] w fun e w'=>e= .returned (.int .i64 (zer x:Nat))∧w'=w:=by
 go_enter Tryz.func126,Tryz.ntmps126
 go_wp2
 go_loop [0,3] (fun y i=> ∃k q:Nat,k≤64∧i= .int .i64 k∧y= .int .u64 q∧q<18446744073709551616∧Hid (q=x/2^k)∧Hid (∀j,j<k→x/2^j%2=0)) (fun _ i=>64-(intOf i).toNat)
 case atStart=>exact⟨0,x,Nat.zero_le _,rfl,rfl,hx,Lib.hid (by simp),Lib.hid (fun j h=>absurd h (Nat.not_lt_zero _))⟩
 case round=>
  obtain⟨k,q,hk,rfl,rfl,hq,hqx,hz⟩:=hrel
  by_cases hlt:k<64
  ·by_cases h1:q%2=1
   ·have ht:((q:Int)%2==0)=false:=by simp;omega
    have hr:=Lib.hid (zer_eq x k (by omega) hz.out (fun _=>by rw [←hqx.out];exact h1))
    clear h1
    go_wp2
    go_ret
    exact⟨ret_of (by rw [hr.out]),rfl⟩
   ·have ht:((q:Int)%2==0)=true:=by simp;omega
    have hz':Hid (∀j,j<k+1→x/2^j%2=0):=by
     unfold Hid
     intro j hj
     rcases Nat.lt_or_ge j k with h2|h2
     ·exact hz.out j h2
     ·obtain rfl:j=k:=by omega
      rw [←hqx.out];omega
    have hq':Hid (q/2=x/2^(k+1)):=by
     unfold Hid
     rw [Nat.pow_succ,←Nat.div_div_eq_div_mul,←hqx.out]
    clear h1
    go_wp2
    go_round
    case rel=>exact⟨k+1,q/2,by omega,by go_num,val_of (by simp),by omega,hq',hz'⟩
    case measure=>simp [intOf];omega
  ·have hr:Hid (zer x=64):=by
    obtain rfl:k=64:=by omega
    exact Lib.hid (zer_eq x 64 (by omega) hz.out (fun h=>absurd h (by omega)))
   have hk64:Hid (k=64):=Lib.hid (by omega)
   go_wp2
   go_ret
   exact⟨ret_of (by rw [hr.out,hk64.out]),rfl⟩
theorem and1_shift (y:UInt8) (j:Nat):bits .and .i64 ((y.toNat:Int)/2^j) 1=((y.toNat/2^j%2:Nat):Int):=by
 have hy:=y.toNat_lt
 have e:(y.toNat:Int)/2^j=((y.toNat/2^j:Nat):Int):=by simp
 rw [e,and1_i64 _ (Nat.lt_of_le_of_lt (Nat.div_le_self _ _) (by omega))]
theorem wrap_shift (y:UInt8) (j:Nat):wrap64 ((y.toNat:Int)/2^j)=(y.toNat:Int)/2^j:=by
 have hy:=y.toNat_lt
 have e:(y.toNat:Int)/2^j=((y.toNat/2^j:Nat):Int):=by simp
 have:=Nat.div_le_self y.toNat (2^j)
 rw [e]
 generalize y.toNat/2^j=q at*
 exact IntWalk.wrap64_in _ (by omega)
end
end Go.Proofs.YtiacbphnclgikaaGreatDoor
