/-
 Contracts of package packet that ask for no key: the errors, Right, Size, Same, the bytes of times; by walks through their texts; what was there stays as it was.
-/
import Derived.Test.YtiacbphnclgikaaGreatDoorSqz
import Derived.Test.YtiacbphnclgikaaGreatDoorPkb
import Derived.Test.YtiacbphnclgikaaGreatDoorGbt
import Derived.Test.YtiacbphnclgikaaGreatDoorFre
import Derived.Deep.RegionHeld3
namespace Go.Proofs.YtiacbphnclgikaaGreatDoor
open Go.RowKit
set_option linter.unusedVariables false
set_option maxRecDepth 100000
set_option linter.unusedSimpArgs false
def erW (C:Nat):Value:=if C=0 then .nilIface else .iface 40 (.int .i64 (C:Int))
theorem erW_no {C:Nat} (h:C=0):erW C= .nilIface:=if_pos h
theorem erW_is {C:Nat} (h:C≠0):erW C= .iface 40 (.int .i64 (C:Int)):=if_neg h
def unC (n:Nat):Nat:=if n<28 then 1 else if 1228<n then 2 else 0
theorem erEq (t:Nat) (v:Value) (w:World):(binOp .eql 35 (.iface t v) .nilIface).run Tryz.prog w= .ok (.bool false) w:=by
 have h: ∀d:Nat,(Op.equalIn (d+1) 35 (.iface t v) .nilIface).run Tryz.prog w= .ok false w:=fun d=>by simp [Op.equalIn,run_underlying Tryz.underlying35]
 simp only [binOp]
 simp [Op.equal,Op.maxDepth,h 9999]
theorem erNe (t:Nat) (v:Value) (w:World):(binOp .neq 35 (.iface t v) .nilIface).run Tryz.prog w= .ok (.bool true) w:=by
 have h: ∀d:Nat,(Op.equalIn (d+1) 35 (.iface t v) .nilIface).run Tryz.prog w= .ok false w:=fun d=>by simp [Op.equalIn,run_underlying Tryz.underlying35]
 simp only [binOp]
 simp [Op.equal,Op.maxDepth,h 9999]
theorem pk_range {w:World} {g:Nat} {a b d e v:Value} (h:Cx w g 5 (pcF a b d e v)):w.rangeAt g 0 [a,b,d,e,v]:=h.range 0 _ (by simp) (fun j u hu=>by
 rw [Nat.zero_add]
 match j,hu with
 |0,hu=>exact Option.some.inj hu
 |1,hu=>exact Option.some.inj hu
 |2,hu=>exact Option.some.inj hu
 |3,hu=>exact Option.some.inj hu
 |4,hu=>exact Option.some.inj hu
 |j+5,hu=>simp at hu)
theorem ck_zero {d:Int} {x n:Nat} (h:ckC d x n=0):(d=0∨d=1)∧x<9223372036854775808∧n≤1200:=by
 unfold ckC at h
 split at h
 ·split at h
  ·split at h
   ·exact⟨by assumption,by assumption,by assumption⟩
   ·cases h
  ·cases h
 ·cases h
set_option maxHeartbeats 1600000 in
theorem pwrong (d:Int) (x t e:Nat) (A:Option Addr) (n c:Nat) (w:World) (hd: -9223372036854775808≤d∧d≤9223372036854775807) (hx:x<18446744073709551616) (hn:n≤9223372036854775807):
  Calls Tryz.prog 25 #[.agg #[.int .i64 (d:Int),.int .u64 (x:Int),.int .u16 (t:Int),.int .u16 (e:Int),.slice A n c]] w fun e9 w'=>e9= .returned (erW (ckC d x n))∧Below w.heap.size w w':=by
 by_cases h0:d=0
 ·subst h0
  by_cases h63:x<9223372036854775808
  ·have i2: ¬(x:Int)>9223372036854775807:=by omega
   by_cases h12:n≤1200
   ·have i3: ¬(n:Int)>1200:=by omega
    obtain⟨w1,hw1⟩:=Lv (w.alloc (.cells #[.int .i64 0,.int .u64 (x:Int),.int .u16 (t:Int),.int .u16 (e:Int),.slice A n c] 27))
    have c0:=pk_cell0 hw1
    have c1:=pk_cell1 hw1
    have c4:=pk_cell4 hw1
    have hb1:=Bl hw1
    rw [show erW (ckC 0 x n)= .nilIface from erW_no (by unfold ckC;rw [if_pos (by omega),if_pos h63,if_pos h12])]
    clear hd hx hn
    go_enter Tryz.func25,Tryz.ntmps25
    go_upto_region 1 with fail
    rw [←hw1]
    clear hw1
    go_wp2_with fail
    go_ret
    exact⟨rfl,hb1⟩
   ·have i3:(n:Int)>1200:=by omega
    obtain⟨w1,hw1⟩:=Lv (w.alloc (.cells #[.int .i64 0,.int .u64 (x:Int),.int .u16 (t:Int),.int .u16 (e:Int),.slice A n c] 27))
    have c0:=pk_cell0 hw1
    have c1:=pk_cell1 hw1
    have c4:=pk_cell4 hw1
    have hb1:=Bl hw1
    rw [show ckC 0 x n=2 by unfold ckC;rw [if_pos (by omega),if_pos h63,if_neg h12]]
    clear hd hx hn
    go_enter Tryz.func25,Tryz.ntmps25
    go_upto_region 1 with fail
    rw [←hw1]
    clear hw1
    go_wp2_with fail
    go_ret
    exact⟨rfl,hb1⟩
  ·have i2:(x:Int)>9223372036854775807:=by omega
   obtain⟨w1,hw1⟩:=Lv (w.alloc (.cells #[.int .i64 0,.int .u64 (x:Int),.int .u16 (t:Int),.int .u16 (e:Int),.slice A n c] 27))
   have c0:=pk_cell0 hw1
   have c1:=pk_cell1 hw1
   have c4:=pk_cell4 hw1
   have hb1:=Bl hw1
   rw [show ckC 0 x n=5 by unfold ckC;rw [if_pos (by omega),if_neg h63]]
   clear hd hx hn
   go_enter Tryz.func25,Tryz.ntmps25
   go_upto_region 1 with fail
   rw [←hw1]
   clear hw1
   go_wp2_with fail
   go_ret
   exact⟨rfl,hb1⟩
 by_cases h1:d=1
 ·subst h1
  clear h0
  by_cases h63:x<9223372036854775808
  ·have i2: ¬(x:Int)>9223372036854775807:=by omega
   by_cases h12:n≤1200
   ·have i3: ¬(n:Int)>1200:=by omega
    obtain⟨w1,hw1⟩:=Lv (w.alloc (.cells #[.int .i64 1,.int .u64 (x:Int),.int .u16 (t:Int),.int .u16 (e:Int),.slice A n c] 27))
    have c0:=pk_cell0 hw1
    have c1:=pk_cell1 hw1
    have c4:=pk_cell4 hw1
    have hb1:=Bl hw1
    rw [show erW (ckC 1 x n)= .nilIface from erW_no (by unfold ckC;rw [if_pos (by omega),if_pos h63,if_pos h12])]
    clear hd hx hn
    go_enter Tryz.func25,Tryz.ntmps25
    go_upto_region 1 with fail
    rw [←hw1]
    clear hw1
    go_wp2_with fail
    go_ret
    exact⟨rfl,hb1⟩
   ·have i3:(n:Int)>1200:=by omega
    obtain⟨w1,hw1⟩:=Lv (w.alloc (.cells #[.int .i64 1,.int .u64 (x:Int),.int .u16 (t:Int),.int .u16 (e:Int),.slice A n c] 27))
    have c0:=pk_cell0 hw1
    have c1:=pk_cell1 hw1
    have c4:=pk_cell4 hw1
    have hb1:=Bl hw1
    rw [show ckC 1 x n=2 by unfold ckC;rw [if_pos (by omega),if_pos h63,if_neg h12]]
    clear hd hx hn
    go_enter Tryz.func25,Tryz.ntmps25
    go_upto_region 1 with fail
    rw [←hw1]
    clear hw1
    go_wp2_with fail
    go_ret
    exact⟨rfl,hb1⟩
  ·have i2:(x:Int)>9223372036854775807:=by omega
   obtain⟨w1,hw1⟩:=Lv (w.alloc (.cells #[.int .i64 1,.int .u64 (x:Int),.int .u16 (t:Int),.int .u16 (e:Int),.slice A n c] 27))
   have c0:=pk_cell0 hw1
   have c1:=pk_cell1 hw1
   have c4:=pk_cell4 hw1
   have hb1:=Bl hw1
   rw [show ckC 1 x n=5 by unfold ckC;rw [if_pos (by omega),if_neg h63]]
   clear hd hx hn
   go_enter Tryz.func25,Tryz.ntmps25
   go_upto_region 1 with fail
   rw [←hw1]
   clear hw1
   go_wp2_with fail
   go_ret
   exact⟨rfl,hb1⟩
 obtain⟨w1,hw1⟩:=Lv (w.alloc (.cells #[.int .i64 d,.int .u64 (x:Int),.int .u16 (t:Int),.int .u16 (e:Int),.slice A n c] 27))
 have c0:=pk_cell0 hw1
 have c1:=pk_cell1 hw1
 have c4:=pk_cell4 hw1
 have hb1:=Bl hw1
 have i0:(d !=0)=true:=by simp [h0]
 have i1:(d !=1)=true:=by simp [h1]
 rw [show ckC d x n=8 by unfold ckC;rw [if_neg (by omega)]]
 clear hd hx hn
 go_enter Tryz.func25,Tryz.ntmps25
 go_upto_region 1 with fail
 rw [←hw1]
 clear hw1
 go_wp2_with fail
 go_ret
 exact⟨rfl,hb1⟩
set_option maxHeartbeats 1600000 in
theorem punfit (A:Option Addr) (n c:Nat) (w:World) (hn:n≤9223372036854775807):
  Calls Tryz.prog 31 #[.slice A n c] w fun e9 w'=>e9= .returned (erW (unC n))∧w'=w:=by
 by_cases h1:n<28
 ·have i1:(n:Int)<28:=by omega
  rw [show unC n=1 from if_pos h1]
  go_enter Tryz.func31,Tryz.ntmps31
  go_wp2_with fail
  go_ret
  exact⟨rfl,rfl⟩
 have i1: ¬(n:Int)<28:=by omega
 by_cases h2:1228<n
 ·have i2:(n:Int)>1228:=by omega
  rw [show unC n=2 by unfold unC;rw [if_neg h1,if_pos h2]]
  go_enter Tryz.func31,Tryz.ntmps31
  go_wp2_with fail
  go_ret
  exact⟨rfl,rfl⟩
 have i2: ¬(n:Int)>1228:=by omega
 rw [show unC n=0 by unfold unC;rw [if_neg h1,if_neg h2]]
 go_enter Tryz.func31,Tryz.ntmps31
 go_wp2_with fail
 go_ret
 exact⟨rfl,rfl⟩
set_option maxHeartbeats 1600000 in
theorem pright (d:Int) (x t e:Nat) (A:Option Addr) (n c:Nat) (w:World) (hd: -9223372036854775808≤d∧d≤9223372036854775807) (hx:x<18446744073709551616) (hn:n≤9223372036854775807):
  Calls Tryz.prog 11 #[.agg #[.int .i64 (d:Int),.int .u64 (x:Int),.int .u16 (t:Int),.int .u16 (e:Int),.slice A n c]] w fun e9 w'=>e9= .returned (.bool (decide (ckC d x n=0)))∧Below w.heap.size w w':=by
 obtain⟨w1,hw1⟩:=Lv (w.alloc (.cells #[.int .i64 (d:Int),.int .u64 (x:Int),.int .u16 (t:Int),.int .u16 (e:Int),.slice A n c] 27))
 have hs1:=Zs1 hw1
 have hBw1:=Bl hw1
 have hPw1:Cx w1 w.heap.size 5 (pcF (.int .i64 (d:Int)) (.int .u64 (x:Int)) (.int .u16 (t:Int)) (.int .u16 (e:Int)) (.slice A n c)):=by rw [hw1];exact Cx.new w 5 (pcF (.int .i64 (d:Int)) (.int .u64 (x:Int)) (.int .u16 (t:Int)) (.int .u16 (e:Int)) (.slice A n c)) _
 obtain⟨dP,hfs,hrow⟩:=Tryz.structP
 have HS2:=Lib.hid hfs
 have HW2:=Lib.hid hrow
 clear hfs hrow
 have HD:=Lib.hid hd
 have HX:=Lib.hid hx
 have HN:=Lib.hid hn
 clear hd hx hn
 go_enter Tryz.func11,Tryz.ntmps11
 go_upto_region 1 with fail
 rw [←hw1]
 clear hw1
 try simp only [Nat.add_assoc,Nat.reduceAdd]
 clear hs1
 go_wp2_with (refine wpList_load_mid rfl _ _ rfl w.heap.size 0 rfl _ _ (pk_range hPw1) HS2.out HW2.out size5P ?_)
 refine(pwrong d x t e A n c _ HD.out HX.out HN.out).mono ?_
 rintro e x1 ⟨rfl,hq⟩
 have hPx1:=hPw1.t hq
 have hBx1:=Tq hBw1 hq
 clear hq hPw1 hBw1
 by_cases hC:ckC d x n=0
 ·rw [erW_no hC]
  have HC:=Lib.hid hC
  clear hC
  go_wp2_with fail
  go_ret
  exact⟨by rw [decide_eq_true HC.out];rfl,hBx1⟩
 ·rw [erW_is hC]
  have HC:=Lib.hid hC
  clear hC
  have he:=erEq 40 (.int .i64 (ckC d x n:Nat)) x1
  go_wp2_with fail
  go_ret
  exact⟨by rw [decide_eq_false HC.out];rfl,hBx1⟩
set_option maxHeartbeats 1600000 in
theorem psize (n:Int) (w:World) (hn: -9223372036854775808≤n∧n≤9223372036854775807):
  Calls Tryz.prog 19 #[.int .i64 n] w fun e9 w'=>e9= .returned (.int .i64 (if 0≤n∧n≤1200 then n+28 else 0))∧w'=w:=by
 by_cases h0:n<0
 ·rw [if_neg (by omega)]
  go_enter Tryz.func19,Tryz.ntmps19
  go_wp2_with fail
  go_ret
  exact⟨rfl,rfl⟩
 by_cases h1:n>1200
 ·rw [if_neg (by omega)]
  go_enter Tryz.func19,Tryz.ntmps19
  go_wp2_with fail
  go_ret
  exact⟨rfl,rfl⟩
 rw [if_pos (by omega)]
 have i2:wrap64 (n+28)=n+28:=IntWalk.wrap64_in _ (by omega)
 have i3:IntKind.i64.wrap (n+28)=n+28:=by rw [IntKind.wrap_i64];omega
 go_enter Tryz.func19,Tryz.ntmps19
 go_wp2_with fail
 go_ret
 exact⟨by first|rfl|(rw [i2])|(rw [i3]),rfl⟩
theorem bytes2 (x:Nat) (w:World) (hx:x<18446744073709551616):
  Calls Tryz.prog 52 #[.int .u64 x,.int .i64 2] w fun e w'=> ∃A c,e= .returned (.slice A 2 c)∧Own w' w.heap.size A 2 c (byt x 2)∧Below w.heap.size w w':=bytes x 2 w hx (by omega)
set_option maxHeartbeats 1600000 in
theorem ptb (t:Nat) (w:World) (ht:t<65536):
  Calls Tryz.prog 28 #[.int .u16 (t:Int)] w fun e9 w'=> ∃A c,e9= .returned (.slice A 2 c)∧Own w' w.heap.size A 2 c (byt t 2)∧Below w.heap.size w w':=by
 have i1:IntKind.u64.wrap (t:Int)=(t:Int):=by rw [IntKind.wrap_u64];omega
 have HT:=Lib.hid ht
 go_enter Tryz.func28,Tryz.ntmps28
 go_wp2_with fail
 try rw [i1]
 refine(bytes2 t _ (by have:=HT.out;omega)).mono ?_
 rintro e9 w1 ⟨A,c,rfl,hO,hB⟩
 go_wp2_with fail
 go_ret
 exact⟨A,c,rfl,hO,hB⟩
theorem zero4u (w:World):(zeroValue 90).run Tryz.prog w= .ok (.agg #[.int .u64 0,.int .u64 0,.int .u64 0,.int .u64 0]) w:=by kernel_rfl
def qdF (a b c d:Value):Nat→Value
 |0=>a|1=>b|2=>c|_=>d
theorem qd_whole (c:Nat→Value) (a b d e:Value): ∀j,j<4→cxP c 0 [a,b,d,e] j=qdF a b d e j:=fun j hj=>by
 have h:j=0∨j=1∨j=2∨j=3:=by omega
 rcases h with rfl|rfl|rfl|rfl<;>rfl
theorem size4u {a b d e:Value} :(Tryz.prog.info? 90).map (·.size)=some [a,b,d,e].length:=by show _=some 4;kernel_rfl
theorem results_cx4 {fn:Func} {T:Array Value} {w:World} {p:Tmp} {g:Nat} {a b d e:Value} (hr:fn.results= #[.cell p 90]) (hp:T.getD p undef= .pointer (some ⟨g,0,none⟩)) (hA:Cx w g 4 (qdF a b d e)):
  (results fn T).run Tryz.prog w= .ok (.agg #[a,b,d,e]) w:=by
 have hp':T[p]?.getD undef= .pointer (some ⟨g,0,none⟩):=by simpa using hp
 have hc:w.rangeAt g 0 [a,b,d,e]:=hA.range 0 _ (by simp) (fun j u hu=>by
  rw [Nat.zero_add]
  match j,hu with
  |0,hu=>exact Option.some.inj hu
  |1,hu=>exact Option.some.inj hu
  |2,hu=>exact Option.some.inj hu
  |3,hu=>exact Option.some.inj hu
  |j+4,hu=>simp at hu)
 have hu:Tryz.prog.underlying 90=some (.array 4 23):=by kernel_rfl
 simp only [results,hr]
 simp [hp',asAddr,run_loadVar_mid (P:=Tryz.prog) w g 0 90 [a,b,d,e] _ hc hu rfl size4u]
set_option maxHeartbeats 4000000 in
theorem psame1 (d:Int) (x t e:Nat) (A:Option Addr) (n c:Nat) (w:World) (ht:t<65536) (he:e<65536):
  Calls Tryz.prog 42 #[.agg #[.int .i64 (d:Int),.int .u64 (x:Int),.int .u16 (t:Int),.int .u16 (e:Int),.slice A n c]] w fun e9 w'=>e9= .returned (.agg #[.int .u64 (IntKind.u64.wrap d),.int .u64 (x:Int),.int .u64 (t:Int),.int .u64 (e:Int)])∧Below w.heap.size w w':=by
 have hz:=zero4u
 have i1:IntKind.u64.wrap (t:Int)=(t:Int):=by rw [IntKind.wrap_u64];omega
 have i2:IntKind.u64.wrap (e:Int)=(e:Int):=by rw [IntKind.wrap_u64];omega
 obtain⟨D,hD⟩: ∃D,IntKind.u64.wrap d=D:=⟨_,rfl⟩
 rw [hD]
 obtain⟨w1,hw1⟩:=Lv (w.alloc (.cells #[.int .i64 d,.int .u64 (x:Int),.int .u16 (t:Int),.int .u16 (e:Int),.slice A n c] 27))
 have hs1:=Zs1 hw1
 have hb1:=Bl hw1
 have hk1:=pk_new hw1
 obtain⟨w2,hw2⟩:=Lv (w1.alloc (.cells #[.int .u64 0,.int .u64 0,.int .u64 0,.int .u64 0] 90))
 have hb2:=Bm hw2 hb1
 have hk2:Cx w2 w.heap.size 5 (pcF (.int .i64 (d:Int)) (.int .u64 (x:Int)) (.int .u16 (t:Int)) (.int .u16 (e:Int)) (.slice A n c)):=by rw [hw2];exact hk1.alloc (by omega) _
 have hr2:Cx w2 (w.heap.size+1) 4 (qdF (.int .u64 0) (.int .u64 0) (.int .u64 0) (.int .u64 0)):=by rw [hw2,←hs1];exact Cx.new w1 4 (qdF (.int .u64 0) (.int .u64 0) (.int .u64 0) (.int .u64 0)) _
 clear hb1 hk1 ht he
 have c0:w2.cell? ⟨w.heap.size,0,none⟩=some _:=(hk2 0 (by omega)).1
 have c1:w2.cell? ⟨w.heap.size,1,none⟩=some _:=(hk2 1 (by omega)).1
 have c2:w2.cell? ⟨w.heap.size,2,none⟩=some _:=(hk2 2 (by omega)).1
 have c3:w2.cell? ⟨w.heap.size,3,none⟩=some _:=(hk2 3 (by omega)).1
 simp only [pcF]at c0 c1 c2 c3
 go_enter Tryz.func42,Tryz.ntmps42
 go_upto_region 1 with fail
 rw [←hw1,←hw2]
 clear hw1 hw2
 try simp only [hs1]
 clear hs1
 go_wp2_with (refine wpList_store_cx rfl _ _ _ rfl (w.heap.size+1) 4 0 _ [.int .u64 D,.int .u64 (x:Int),.int .u64 (t:Int),.int .u64 (e:Int)] rfl rfl hr2 (by simp) size4u (by intro u hu;simp at hu;rcases hu with rfl|rfl|rfl|rfl<;>rfl) ?_;intro v1 hO1 bel1 siz1 kee1)
 refine bodyPost_ret (v:= .agg #[.int .u64 D,.int .u64 (x:Int),.int .u64 (t:Int),.int .u64 (e:Int)]) (results_cx4 rfl rfl (hO1.ext (qd_whole _ _ _ _ _))) rfl ⟨rfl,hb2.trans (bel1.mono (by omega))⟩
def qI (a b c d:Int):Nat→Int
 |0=>a|1=>b|2=>c|_=>d
theorem qd_get (a b c d:Int) (i:Nat) (h:i<4):(#[Value.int .u64 a,.int .u64 b,.int .u64 c,.int .u64 d])[i]?=some (.int .u64 (qI a b c d i)):=by
 have h:i=0∨i=1∨i=2∨i=3:=by omega
 rcases h with rfl|rfl|rfl|rfl<;>rfl
theorem eq4u (a b c d a' b' c' d':Int) (w:World):(Op.equalIn 10000 90 (.agg #[.int .u64 a,.int .u64 b,.int .u64 c,.int .u64 d]) (.agg #[.int .u64 a',.int .u64 b',.int .u64 c',.int .u64 d'])).run Tryz.prog w= .ok (decide (a=a'∧b=b'∧c=c'∧d=d')) w:=by
 have hu4:Tryz.prog.underlying 90=some (.array 4 23):=by kernel_rfl
 have hE: ∀(d:Nat) (x y:Int),(Op.equalIn (d+1) 23 (.int .u64 x) (.int .u64 y)).run Tryz.prog w= .ok (decide (x=y)) w:=fun d x y=>by
  simp [Op.equalIn,run_underlying Tryz.underlying23]
  rfl
 refine(run_equalIn_array (P:=Tryz.prog) (n:=4) (m:=1) (by omega) hu4 (by kernel_rfl) 9999 _ _ (fun i=> .int .u64 (qI a b c d i)) (fun i=> .int .u64 (qI a' b' c' d' i)) (fun i=>decide (qI a b c d i=qI a' b' c' d' i)) w
  (fun i hi=>by rw [Nat.mul_one];exact run_part1 Tryz.underlying23 rfl _ i _ (qd_get a b c d i hi) w)
  (fun i hi=>by rw [Nat.mul_one];exact run_part1 Tryz.underlying23 rfl _ i _ (qd_get a' b' c' d' i hi) w)
  (fun i hi=>hE 9998 _ _)).trans ?_
 congr 1
 rw [Bool.eq_iff_iff,allB_iff,decide_eq_true_iff]
 constructor
 ·intro h
  exact⟨of_decide_eq_true (h 0 (by omega) (by omega)),of_decide_eq_true (h 1 (by omega) (by omega)),of_decide_eq_true (h 2 (by omega) (by omega)),of_decide_eq_true (h 3 (by omega) (by omega))⟩
 ·rintro⟨rfl,rfl,rfl,rfl⟩ j _ _
  simp
theorem Tryz.eqg4u:Tryz.prog.eqGuardType Tryz.prog.depth 90=false:=by kernel_rfl
theorem wrap_inj {d1 d2:Int} (h1: -9223372036854775808≤d1∧d1≤9223372036854775807) (h2: -9223372036854775808≤d2∧d2≤9223372036854775807):IntKind.u64.wrap d1=IntKind.u64.wrap d2↔d1=d2:=by
 rw [IntKind.wrap_u64,IntKind.wrap_u64]
 omega
theorem equalB (A A':Option Addr) (n m c c':Nat) (l l':List UInt8) (w:World) (h:Sl w w.heap.size A n l) (h':Sl w w.heap.size A' m l') (hn:n≤140737488351232) (hm:m≤140737488351232):
  Calls Tryz.prog 43 #[.slice A n c,.slice A' m c'] w fun e w'=>e= .returned (.bool (decide (l=l')))∧Below w.heap.size w w':=by
 refine(equal A A' n m c c' l l' w h h' hn hm).mono ?_
 rintro e w' ⟨rfl,hd⟩
 exact⟨rfl,hd.below _⟩
set_option maxHeartbeats 4000000 in
theorem psame (d1:Int) (x1 t1 e1:Nat) (A1:Option Addr) (n1 c1:Nat) (l1:List UInt8) (d2:Int) (x2 t2 e2:Nat) (A2:Option Addr) (n2 c2:Nat) (l2:List UInt8) (w:World) (hd1: -9223372036854775808≤d1∧d1≤9223372036854775807) (hd2: -9223372036854775808≤d2∧d2≤9223372036854775807) (ht1:t1<65536) (ht2:t2<65536) (he1:e1<65536) (he2:e2<65536) (hS1:Sl w w.heap.size A1 n1 l1) (hS2:Sl w w.heap.size A2 n2 l2) (hm1:n1≤140737488351232) (hm2:n2≤140737488351232):
  Calls Tryz.prog 20 #[.agg #[.int .i64 d1,.int .u64 (x1:Int),.int .u16 (t1:Int),.int .u16 (e1:Int),.slice A1 n1 c1],.agg #[.int .i64 d2,.int .u64 (x2:Int),.int .u16 (t2:Int),.int .u16 (e2:Int),.slice A2 n2 c2]] w fun e9 w'=>e9= .returned (.bool (decide (d1=d2∧x1=x2∧t1=t2∧e1=e2∧l1=l2)))∧Below w.heap.size w w':=by
 obtain⟨w1,hw1⟩:=Lv (w.alloc (.cells #[.int .i64 d1,.int .u64 (x1:Int),.int .u16 (t1:Int),.int .u16 (e1:Int),.slice A1 n1 c1] 27))
 have hs1:=Zs1 hw1
 have hBw1:=Bl hw1
 have hPw1:Cx w1 w.heap.size 5 (pcF (.int .i64 d1) (.int .u64 (x1:Int)) (.int .u16 (t1:Int)) (.int .u16 (e1:Int)) (.slice A1 n1 c1)):=by rw [hw1];exact Cx.new w 5 (pcF (.int .i64 d1) (.int .u64 (x1:Int)) (.int .u16 (t1:Int)) (.int .u16 (e1:Int)) (.slice A1 n1 c1)) _
 obtain⟨w2,hw2⟩:=Lv (w1.alloc (.cells #[.int .i64 d2,.int .u64 (x2:Int),.int .u16 (t2:Int),.int .u16 (e2:Int),.slice A2 n2 c2] 27))
 have hs2:=Zs2 hw2 hs1
 have hBw2:=Bm hw2 hBw1
 have hPw2:Cx w2 w.heap.size 5 (pcF (.int .i64 d1) (.int .u64 (x1:Int)) (.int .u16 (t1:Int)) (.int .u16 (e1:Int)) (.slice A1 n1 c1)):=by rw [hw2];exact hPw1.alloc (by omega) _
 have hQw2:Cx w2 (w.heap.size+1) 5 (pcF (.int .i64 d2) (.int .u64 (x2:Int)) (.int .u16 (t2:Int)) (.int .u16 (e2:Int)) (.slice A2 n2 c2)):=by rw [hw2,←hs1];exact Cx.new w1 5 (pcF (.int .i64 d2) (.int .u64 (x2:Int)) (.int .u16 (t2:Int)) (.int .u16 (e2:Int)) (.slice A2 n2 c2)) _
 clear hPw1 hBw1
 obtain⟨dP,hfs,hrow⟩:=Tryz.structP
 have HS2:=Lib.hid hfs
 have HW2:=Lib.hid hrow
 clear hfs hrow
 have HS1:=Lib.hid hS1
 have HS3:=Lib.hid hS2
 have HM1:=Lib.hid hm1
 have HM2:=Lib.hid hm2
 have HT1:=Lib.hid ht1
 have HT2:=Lib.hid ht2
 have HE1:=Lib.hid he1
 have HE2:=Lib.hid he2
 have HR1:=Lib.hid hd1
 have HR2:=Lib.hid hd2
 clear hS1 hS2 hm1 hm2 ht1 ht2 he1 he2 hd1 hd2
 go_enter Tryz.func20,Tryz.ntmps20
 go_upto_region 2 with fail
 rw [←hw1,←hw2]
 clear hw1 hw2
 try simp only [Nat.add_assoc,Nat.reduceAdd]
 obtain⟨gQ,hgQ⟩:=Le (w.heap.size+1)
 rw [hgQ]at hQw2
 try rw [hgQ]
 have hlQ:w.heap.size<gQ:=by omega
 clear hs1 hs2 hgQ
 by_cases hC:d1=d2∧x1=x2∧t1=t2∧e1=e2
 ·obtain⟨rfl,rfl,rfl,rfl⟩:=hC
  have HE:=Lib.hid (fun w=>(eq4u (IntKind.u64.wrap d1) x1 t1 e1 (IntKind.u64.wrap d1) x1 t1 e1 w).trans (by rw [decide_eq_true ⟨rfl,rfl,rfl,rfl⟩]))
  have HV:=Lib.hid (show decide (d1=d1∧x1=x1∧t1=t1∧e1=e1∧l1=l2)=decide (l1=l2)by simp)
  refine wp_region_noPanic ?_
  refine wp_region_held_drew (S:=fun W=>Cx W w.heap.size 5 (pcF (.int .i64 d1) (.int .u64 (x1:Int)) (.int .u16 (t1:Int)) (.int .u16 (e1:Int)) (.slice A1 n1 c1))∧Cx W gQ 5 (pcF (.int .i64 d1) (.int .u64 (x1:Int)) (.int .u16 (t1:Int)) (.int .u16 (e1:Int)) (.slice A2 n2 c2))∧Below w.heap.size w W) (by kernel_rfl) ⟨hPw2.drew,hQw2.drew,hBw2.drew⟩ (fun hH'=> ?_)
  clear hPw2 hQw2 hBw2
  generalize World.drew w2=yd at*
  refine tw 0 ?vy1 rfl ?hyy1 ?resty1
  case hyy1=>
   intro W hSw
   go_simp
   try with_reducible rfl
  simp only [Act.put,nrm]
  refine tk 1 (.agg ([.int .i64 d1,.int .u64 (x1:Int),.int .u16 (t1:Int),.int .u16 (e1:Int),.slice A1 n1 c1]).toArray) rfl (yieldsIf_load_mid (by rfl) _ _ rfl w.heap.size (0) rfl ([.int .i64 d1,.int .u64 (x1:Int),.int .u16 (t1:Int),.int .u16 (e1:Int),.slice A1 n1 c1]) _ (fun W hSw=>pk_range (hSw.1)) HS2.out HW2.out size5P) ?_
  simp only [Act.put,nrm]
  refine tw 3 ?vy2 rfl ?hyy2 ?resty2
  case hyy2=>
   intro W hSw
   go_simp
   try with_reducible rfl
  simp only [Act.put,nrm]
  refine tk 4 (.agg ([.int .i64 d1,.int .u64 (x1:Int),.int .u16 (t1:Int),.int .u16 (e1:Int),.slice A2 n2 c2]).toArray) rfl (yieldsIf_load_mid (by rfl) _ _ rfl gQ (0) rfl ([.int .i64 d1,.int .u64 (x1:Int),.int .u16 (t1:Int),.int .u16 (e1:Int),.slice A2 n2 c2]) _ (fun W hSw=>pk_range (hSw.2.1)) HS2.out HW2.out size5P) ?_
  simp only [Act.put,nrm]
  refine rd 2 rfl (fun K hK=> ?_)
  go_simp
  refine(psame1 d1 x1 t1 e1 A1 n1 c1 _ HT1.out HE1.out).mono ?_
  rintro e y3 ⟨rfl,hq⟩
  go_wp2_with fail
  refine hK.out _ _ ⟨hH'.1.t hq,hH'.2.1.t hq,Tq hH'.2.2 hq⟩ ?_
  clear hK K hH' hq
  intro hH'
  try simp only [Act.put,nrm]
  refine rd 5 rfl (fun K hK=> ?_)
  go_simp
  refine(psame1 d1 x1 t1 e1 A2 n2 c2 _ HT2.out HE2.out).mono ?_
  rintro e y4 ⟨rfl,hq⟩
  go_wp2_with fail
  refine hK.out _ _ ⟨hH'.1.t hq,hH'.2.1.t hq,Tq hH'.2.2 hq⟩ ?_
  clear hK K hH' hq
  intro hH'
  try simp only [Act.put,nrm]
  refine tw 6 (.bool true) rfl ?hyy5 ?resty5
  case hyy5=>
   intro W hSw
   have heq:=fun w=>HE.out w
   have hgd:=Tryz.eqg4u
   go_simp
   try with_reducible rfl
  simp only [Act.put,nrm]
  refine tw 7 ?vy6 rfl ?hyy6 ?resty6
  case hyy6=>
   intro W hSw
   go_simp
   try with_reducible rfl
  simp only [Act.put,nrm]
  refine tw 8 ?vy7 rfl ?hyy7 ?resty7
  case hyy7=>
   intro W hSw
   go_simp
   try with_reducible rfl
  simp only [Act.put,nrm]
  refine tw 9 ?vy8 rfl ?hyy8 ?resty8
  case hyy8=>
   intro W hSw
   have c9:=(hSw.1 4 (by omega)).1
   simp only [pcF]at c9
   go_simp
   try with_reducible rfl
  simp only [Act.put,nrm]
  refine tw 10 ?vy9 rfl ?hyy9 ?resty9
  case hyy9=>
   intro W hSw
   go_simp
   try with_reducible rfl
  simp only [Act.put,nrm]
  refine tw 11 ?vy10 rfl ?hyy10 ?resty10
  case hyy10=>
   intro W hSw
   have c9:=(hSw.2.1 4 (by omega)).1
   simp only [pcF]at c9
   go_simp
   try with_reducible rfl
  simp only [Act.put,nrm]
  refine rd 12 rfl (fun K hK=> ?_)
  go_simp
  refine(equalB A1 A2 n1 n2 c1 c2 l1 l2 _ ((HS1.out.below (hH'.2.2)).more (hH'.2.2).size) ((HS3.out.below (hH'.2.2)).more (hH'.2.2).size) HM1.out HM2.out).mono ?_
  rintro e y11 ⟨rfl,hq⟩
  go_wp2_with fail
  refine hK.out _ _ ⟨hH'.1.t hq,hH'.2.1.t hq,Tq hH'.2.2 hq⟩ ?_
  clear hK K hH' hq
  intro hH'
  try simp only [Act.put,nrm]
  refine tw 13 ?vy12 rfl ?hyy12 ?resty12
  case hyy12=>
   intro W hSw
   go_simp
   try with_reducible rfl
  simp only [Act.put,nrm]
  refine tw 14 ?vy13 rfl ?hyy13 ?resty13
  case hyy13=>
   intro W hSw
   go_simp
   try with_reducible rfl
  simp only [Act.put,nrm]
  refine wpAnyH_done (by kernel_rfl) ?_ _
  have hB9:=hH'.2.2
  clear hH'
  refine NoPanic.normal ?_
  try dsimp only [Act.put]
  go_wp2_with fail
  go_ret
  exact⟨by first|rfl|(rw [HV.out];rfl),hB9⟩
 ·have HE:=Lib.hid (fun w=>(eq4u (IntKind.u64.wrap d1) x1 t1 e1 (IntKind.u64.wrap d2) x2 t2 e2 w).trans (by rw [decide_eq_false (fun h9=>hC ⟨(wrap_inj HR1.out HR2.out).1 h9.1,by have:=h9.2.1;omega,by have:=h9.2.2.1;omega,by have:=h9.2.2.2;omega⟩)]))
  have HV:=Lib.hid (show decide (d1=d2∧x1=x2∧t1=t2∧e1=e2∧l1=l2)=false from decide_eq_false fun h9=>hC ⟨h9.1,h9.2.1,h9.2.2.1,h9.2.2.2.1⟩)
  clear hC
  refine wp_region_noPanic ?_
  refine wp_region_held_drew (S:=fun W=>Cx W w.heap.size 5 (pcF (.int .i64 d1) (.int .u64 (x1:Int)) (.int .u16 (t1:Int)) (.int .u16 (e1:Int)) (.slice A1 n1 c1))∧Cx W gQ 5 (pcF (.int .i64 d2) (.int .u64 (x2:Int)) (.int .u16 (t2:Int)) (.int .u16 (e2:Int)) (.slice A2 n2 c2))∧Below w.heap.size w W) (by kernel_rfl) ⟨hPw2.drew,hQw2.drew,hBw2.drew⟩ (fun hH'=> ?_)
  clear hPw2 hQw2 hBw2
  generalize World.drew w2=nd at*
  refine tw 0 ?vn1 rfl ?hyn1 ?restn1
  case hyn1=>
   intro W hSw
   go_simp
   try with_reducible rfl
  simp only [Act.put,nrm]
  refine tk 1 (.agg ([.int .i64 d1,.int .u64 (x1:Int),.int .u16 (t1:Int),.int .u16 (e1:Int),.slice A1 n1 c1]).toArray) rfl (yieldsIf_load_mid (by rfl) _ _ rfl w.heap.size (0) rfl ([.int .i64 d1,.int .u64 (x1:Int),.int .u16 (t1:Int),.int .u16 (e1:Int),.slice A1 n1 c1]) _ (fun W hSw=>pk_range (hSw.1)) HS2.out HW2.out size5P) ?_
  simp only [Act.put,nrm]
  refine tw 3 ?vn2 rfl ?hyn2 ?restn2
  case hyn2=>
   intro W hSw
   go_simp
   try with_reducible rfl
  simp only [Act.put,nrm]
  refine tk 4 (.agg ([.int .i64 d2,.int .u64 (x2:Int),.int .u16 (t2:Int),.int .u16 (e2:Int),.slice A2 n2 c2]).toArray) rfl (yieldsIf_load_mid (by rfl) _ _ rfl gQ (0) rfl ([.int .i64 d2,.int .u64 (x2:Int),.int .u16 (t2:Int),.int .u16 (e2:Int),.slice A2 n2 c2]) _ (fun W hSw=>pk_range (hSw.2.1)) HS2.out HW2.out size5P) ?_
  simp only [Act.put,nrm]
  refine rd 2 rfl (fun K hK=> ?_)
  go_simp
  refine(psame1 d1 x1 t1 e1 A1 n1 c1 _ HT1.out HE1.out).mono ?_
  rintro e n3 ⟨rfl,hq⟩
  go_wp2_with fail
  refine hK.out _ _ ⟨hH'.1.t hq,hH'.2.1.t hq,Tq hH'.2.2 hq⟩ ?_
  clear hK K hH' hq
  intro hH'
  try simp only [Act.put,nrm]
  refine rd 5 rfl (fun K hK=> ?_)
  go_simp
  refine(psame1 d2 x2 t2 e2 A2 n2 c2 _ HT2.out HE2.out).mono ?_
  rintro e n4 ⟨rfl,hq⟩
  go_wp2_with fail
  refine hK.out _ _ ⟨hH'.1.t hq,hH'.2.1.t hq,Tq hH'.2.2 hq⟩ ?_
  clear hK K hH' hq
  intro hH'
  try simp only [Act.put,nrm]
  refine tw 6 (.bool false) rfl ?hyn5 ?restn5
  case hyn5=>
   intro W hSw
   have heq:=fun w=>HE.out w
   have hgd:=Tryz.eqg4u
   go_simp
   try with_reducible rfl
  simp only [Act.put,nrm]
  refine tw 7 ?vn6 rfl ?hyn6 ?restn6
  case hyn6=>
   intro W hSw
   go_simp
   try with_reducible rfl
  simp only [Act.put,nrm]
  refine tk 8 undef rfl (Or.inr ⟨by rfl,rfl⟩) ?_
  simp only [Act.put,nrm]
  refine tk 9 undef rfl (Or.inr ⟨by rfl,rfl⟩) ?_
  simp only [Act.put,nrm]
  refine tk 10 undef rfl (Or.inr ⟨by rfl,rfl⟩) ?_
  simp only [Act.put,nrm]
  refine tk 11 undef rfl (Or.inr ⟨by rfl,rfl⟩) ?_
  simp only [Act.put,nrm]
  refine tk 12 undef rfl (Or.inr ⟨by rfl,rfl⟩) ?_
  simp only [Act.put,nrm]
  refine tw 13 ?vn7 rfl ?hyn7 ?restn7
  case hyn7=>
   intro W hSw
   go_simp
   try with_reducible rfl
  simp only [Act.put,nrm]
  refine tw 14 ?vn8 rfl ?hyn8 ?restn8
  case hyn8=>
   intro W hSw
   go_simp
   try with_reducible rfl
  simp only [Act.put,nrm]
  refine wpAnyH_done (by kernel_rfl) ?_ _
  have hB9:=hH'.2.2
  clear hH'
  refine NoPanic.normal ?_
  try dsimp only [Act.put]
  go_wp2_with fail
  go_ret
  exact⟨by first|rfl|(rw [HV.out];rfl),hB9⟩
end Go.Proofs.YtiacbphnclgikaaGreatDoor
