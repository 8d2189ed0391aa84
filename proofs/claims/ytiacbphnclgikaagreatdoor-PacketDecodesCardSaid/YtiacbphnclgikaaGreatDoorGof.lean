/-
 Contracts of package offset and of the reference package of layer 10, by walks through their texts, one after the other; what was there stays as it was.
-/
import Derived.Test.YtiacbphnclgikaaGreatDoorSqz
import Derived.Test.YtiacbphnclgikaaGreatDoorGtb
import Derived.Test.YtiacbphnclgikaaGreatDoorGbk
import Derived.Lib.BitFns
import Derived.Lib.Walk
import Derived.Lib.Strings
import Derived.Lib.Slices
import Derived.Lib.Small
import Derived.Test.YtiacbphnclgikaaGreatDoorEqs
import Derived.Test.YtiacbphnclgikaaGreatDoorGbt
import Derived.Deep.RegionHeld3
import Derived.Lib.MinMax
namespace Go.Proofs.YtiacbphnclgikaaGreatDoor
section
open Go.RowKit
set_option linter.unusedVariables false
set_option maxRecDepth 100000
def acG (f:Nat→Nat):Nat→Nat
 |0=>0
 |i+1=>acG f i^^^f (zer (i+1))
def smG (f:Nat→Nat) (i:Nat):Nat→Nat
 |0=>0
 |n+1=>smG f i n^^^(if(i/2^n+i/2^n/2)%2=1 then f n else 0)
theorem acG_split (f:Nat→Nat): ∀i,i<9223372036854775808→acG f i=(if(i+i/2)%2=1 then f 0 else 0)^^^acG (fun k=>f (k+1)) (i/2)
 |0,_=>by simp [acG]
 |i+1,hi=>by
  have ih:=acG_split f i (by omega)
  show acG f i^^^f (zer (i+1))=_
  rw [ih]
  by_cases h:(i+1)%2=1
  ·rw [zer_odd _ h,show(i+1)/2=i/2 by omega]
   by_cases g:(i+i/2)%2=1
   ·rw [if_pos g,if_neg (by omega),Nat.zero_xor,Nat.xor_comm (f 0),Nat.xor_assoc,Nat.xor_self,Nat.xor_zero]
   ·rw [if_neg g,if_pos (by omega),Nat.zero_xor,Nat.xor_comm]
  ·have e:i+1=2*(i/2+1):=by omega
   have ez:zer (i+1)=zer (i/2+1)+1:=by rw [e];exact zer_two _ (by omega) (by omega)
   rw [ez,show(i+1)/2=i/2+1 by omega,Nat.xor_assoc]
   have ea:acG (fun k=>f (k+1)) (i/2+1)=acG (fun k=>f (k+1)) (i/2)^^^f (zer (i/2+1)+1):=rfl
   rw [ea]
   congr 1
   by_cases g:(i+i/2)%2=1
   ·rw [if_pos g,if_pos (by omega)]
   ·rw [if_neg g,if_neg (by omega)]
theorem acG_part (f:Nat→Nat) (i:Nat) (hi:i<9223372036854775808): ∀n,acG f i=smG f i n^^^acG (fun k=>f (k+n)) (i/2^n)
 |0=>by simp [smG]
 |n+1=>by
  have h:i/2^n<9223372036854775808:=Nat.lt_of_le_of_lt (Nat.div_le_self _ _) hi
  rw [acG_part f i hi n,acG_split (fun k=>f (k+n)) _ h]
  show _=(smG f i n^^^_)^^^_
  rw [Nat.xor_assoc,Nat.zero_add,Nat.pow_succ,←Nat.div_div_eq_div_mul]
  have e:(fun k=>(fun k=>f (k+n)) (k+1))=fun k=>f (k+(n+1)):=funext fun k=>by show f (k+1+n)=_;rw [Nat.add_assoc,Nat.add_comm 1 n]
  rw [e]
theorem acG_all (f:Nat→Nat) (i n:Nat) (hi:i<9223372036854775808) (h:i<2^n):smG f i n=acG f i:=by
 rw [acG_part f i hi n,Nat.div_eq_of_lt h]
 simp [acG]
theorem xor_two (a b:Nat):(a^^^b)%2=(a+b)%2:=by
 have h:(a^^^b)%2^1=a%2^1^^^b%2^1:=Nat.xor_mod_two_pow
 rw [Nat.pow_one]at h
 rw [h,Nat.add_mod]
 rcases Nat.mod_two_eq_zero_or_one a with ha|ha<;>rcases Nat.mod_two_eq_zero_or_one b with hb|hb<;>rw [ha,hb]<;>decide
theorem xor_same (a b:Nat) (h:a^^^b=0):a=b:=by
 have h2:(a^^^b)^^^b=0^^^b:=by rw [h]
 rwa [Nat.xor_assoc,Nat.xor_self,Nat.xor_zero,Nat.zero_xor]at h2
theorem two_pow_div (i k:Nat):i/2/2^k=i/2^k/2:=by rw [Nat.div_div_eq_div_mul,Nat.div_div_eq_div_mul,Nat.mul_comm]
theorem gray_bit (i k:Nat):(i^^^i/2)/2^k%2=(i/2^k+i/2^k/2)%2:=by
 rw [Nat.xor_div_two_pow,two_pow_div,xor_two]
theorem gray_top (i n:Nat) (h:i^^^i/2<2^n):i<2^n:=by
 have h1:(i^^^i/2)/2^n=0:=Nat.div_eq_of_lt h
 rw [Nat.xor_div_two_pow,two_pow_div]at h1
 have h2:=xor_same _ _ h1
 refine Nat.lt_of_div_eq_zero (Nat.two_pow_pos n) ?_
 generalize i/2^n=y at*
 omega
theorem gray_lt (i:Nat) (h:i<9223372036854775808):i^^^i/2<9223372036854775808:=
 Nat.xor_lt_two_pow (n:=63) h (Nat.lt_of_le_of_lt (Nat.div_le_self _ _) h)
def atF (o s:Nat→Nat) (i j:Nat):Nat:=o j^^^acG (fun k=>dk s (k+2) j) i
def ogF (o s:Nat→Nat) (i n j:Nat):Nat:=o j^^^smG (fun k=>dk s (k+2) j) i n
theorem atF_zero (o s:Nat→Nat):atF o s 0=o:=funext fun j=>by simp [atF,acG]
theorem atF_step (o s:Nat→Nat) (i:Nat):adF (atF o s i) (dk s (zer (i+1)+2))=atF o s (i+1):=funext fun j=>by
 show(o j^^^_)^^^_=o j^^^(_^^^_)
 rw [Nat.xor_assoc]
theorem ogF_zero (o s:Nat→Nat) (i:Nat):ogF o s i 0=o:=funext fun j=>by simp [ogF,smG]
theorem ogF_one (o s:Nat→Nat) (i n:Nat) (h:(i^^^i/2)/2^n%2=1):adF (ogF o s i n) (dk s (n+2))=ogF o s i (n+1):=funext fun j=>by
 rw [gray_bit]at h
 show(o j^^^_)^^^_=o j^^^(_^^^_)
 rw [if_pos h,Nat.xor_assoc]
theorem ogF_none (o s:Nat→Nat) (i n:Nat) (h:(i^^^i/2)/2^n%2=0):ogF o s i n=ogF o s i (n+1):=funext fun j=>by
 rw [gray_bit]at h
 show o j^^^_=o j^^^(_^^^_)
 rw [if_neg (by omega),Nat.xor_zero]
theorem ogF_all (o s:Nat→Nat) (i n:Nat) (hi:i<9223372036854775808) (h:i^^^i/2<2^n):ogF o s i n=atF o s i:=funext fun j=>by
 show o j^^^_=o j^^^_
 rw [acG_all _ i n hi (gray_top i n h)]
theorem atF_lt {o s:Nat→Nat} (ho:B16 o) (hs:B16 s): ∀i,B16 (atF o s i)
 |0=>by rw [atF_zero];exact ho
 |i+1=>by rw [←atF_step];exact adF_lt (atF_lt ho hs i) (dk_lt hs _)
theorem ogF_lt {o s:Nat→Nat} (ho:B16 o) (hs:B16 s) (i:Nat): ∀n,B16 (ogF o s i n)
 |0=>by rw [ogF_zero];exact ho
 |n+1=>by
  rcases Nat.mod_two_eq_zero_or_one ((i^^^i/2)/2^n)with h|h
  ·rw [←ogF_none _ _ _ _ h];exact ogF_lt ho hs i n
  ·rw [←ogF_one _ _ _ _ h];exact adF_lt (ogF_lt ho hs i n) (dk_lt hs _)
def B12 (n:Nat→Nat):Prop:= ∀j,j<12→n j<256
def lowF (n:Nat→Nat) (j:Nat):Nat:=if j=11 then n 11/64*64 else n j
def nbF (n:Nat→Nat) (j:Nat):Nat:=if 4≤j∧j<16 then lowF n (j-4)else if j=3 then 1 else 0
theorem lowF_lt {n:Nat→Nat} (h:B12 n):B12 (lowF n):=fun j hj=>by
 unfold lowF
 split
 ·have:=h 11 (by omega);omega
 ·exact h j hj
theorem nbF_lt {n:Nat→Nat} (h:B12 n):B16 (nbF n):=fun j hj=>by
 unfold nbF
 split
 ·exact lowF_lt h _ (by omega)
 ·split<;>omega
def stF (b:Nat→Nat) (j:Nat):Nat:=if j<16 then b j else b (j-16)^^^b (j-15)
theorem stF_lt {b:Nat→Nat} (h:B16 b) (j:Nat) (hj:j<24):stF b j<256:=by
 unfold stF
 split
 ·exact h j (by omega)
 ·exact Nat.xor_lt_two_pow (n:=8) (h _ (by omega)) (h _ (by omega))
def o0F (t:Nat→Nat) (b:Nat):Nat→Nat:=shB (cut 24 (stF t)) (b%64)
theorem shB_lt {f:Nat→Nat} (hf: ∀j,f j<256) (m j:Nat):shB f m j<256:=by
 rw [←by8_shift f hf m j]
 unfold by8
 dsimp only
 have b0:=bitF_lt f
 have h0:=b0 (8*j+m);have h1:=b0 (8*j+1+m);have h2:=b0 (8*j+2+m);have h3:=b0 (8*j+3+m)
 have h4:=b0 (8*j+4+m);have h5:=b0 (8*j+5+m);have h6:=b0 (8*j+6+m);have h7:=b0 (8*j+7+m)
 omega
theorem o0F_lt {t:Nat→Nat} (h:B16 t) (b:Nat):B16 (o0F t b):=fun j _=>shB_lt (cut_lt (stF_lt h)) _ _
def xlF (n:Nat→Nat) (x j:Nat):Nat:=if j=11 then n 11^^^x%64 else n j
theorem low_xor: ∀a,a<256→ ∀c,c<64→(a^^^c)/64*64=a/64*64∧a^^^c<256:=fun a ha c hc=>by
 have h:(a^^^c)/2^6=a/2^6^^^c/2^6:=Nat.xor_div_two_pow ..
 rw [Nat.div_eq_of_lt (show c<2^6 from hc),Nat.xor_zero]at h
 refine⟨by rw [show(64:Nat)=2^6 from rfl,h],Nat.xor_lt_two_pow (n:=8) ha (by omega)⟩
theorem xlF_lt {n:Nat→Nat} (h:B12 n) (x:Nat):B12 (xlF n x):=fun j hj=>by
 unfold xlF
 split
 ·exact(low_xor _ (h 11 (by omega)) _ (Nat.mod_lt _ (by decide))).2
 ·exact h j hj
theorem lowF_xl {n:Nat→Nat} (h:B12 n) (x j:Nat):lowF (xlF n x) j=lowF n j:=by
 unfold lowF xlF
 by_cases e:j=11
 ·rw [if_pos e,if_pos e,if_pos rfl];exact(low_xor _ (h 11 (by omega)) _ (Nat.mod_lt _ (by decide))).1
 ·rw [if_neg e,if_neg e,if_neg e]
theorem nbF_xl {n:Nat→Nat} (h:B12 n) (x:Nat):nbF (xlF n x)=nbF n:=funext fun j=>by
 unfold nbF
 rw [lowF_xl h]
end
section
open Go.RowKit
set_option linter.unusedVariables false
set_option maxRecDepth 100000
theorem len_byte: ∀n:Fin 256,n.val<2^(Lib.len8tab[n.val]'(by rw [Lib.len8tab_size];exact n.isLt)).toNat∧(Lib.len8tab[n.val]'(by rw [Lib.len8tab_size];exact n.isLt)).toNat≤8:=by decide+kernel
theorem len_end (x:Int) (k:Nat) (c i:Int) (hc:c=(k:Int)) (h:i=x/2^k) (hk:k≤56) (h0:0≤x) (hb:i<256) (hi:i.toNat<Lib.len8tab.size):
  ∃n:Nat,Ending.returned (.int .i64 (wrap64 (c+wrap64 ((Lib.len8tab[i.toNat]'hi).toNat:Int))))=Ending.returned (.int .i64 n)∧n≤64∧x.toNat<2^n:=by
 obtain⟨y,rfl⟩:=Int.eq_ofNat_of_zero_le h0
 have e:(y:Int)/2^k=((y/2^k:Nat):Int):=by rw [Int.natCast_ediv,Int.natCast_pow];rfl
 rw [e]at h
 subst h
 have hb2:y/2^k<256:=by omega
 have h1:=len_byte ⟨y/2^k,hb2⟩
 dsimp only at h1
 generalize hv:(Lib.len8tab[((y/2^k:Nat):Int).toNat]'hi).toNat=v
 have hv2:(Lib.len8tab[y/2^k]'(by rw [Lib.len8tab_size];exact hb2)).toNat=v:=hv
 rw [hv2]at h1
 subst hc
 refine⟨k+v,?_,by omega,?_⟩
 ·rw [IntWalk.wrap64_in (v:Int) (by omega),IntWalk.wrap64_in _ (by omega),Int.natCast_add]
 ·rw [Int.toNat_natCast,Nat.pow_add,Nat.mul_comm,←Nat.div_lt_iff_lt_mul (Nat.two_pow_pos k)]
  exact h1.1
theorem len_tab:(⟨(([0,1,2,2,3,3,3,3,4,4,4,4,4,4,4,4,5,5,5,5,5,5,5,5,5,5,5,5,5,5,5,5,6,6,6,6,6,6,6,6,6,6,6,6,6,6,6,6,6,6,6,6,6,6,6,6,6,6,6,6,6,6,6,6].append [7,7,7,7,7,7,7,7,7,7,7,7,7,7,7,7,7,7,7,7,7,7,7,7,7,7,7,7,7,7,7,7,7,7,7,7,7,7,7,7,7,7,7,7,7,7,7,7,7,7,7,7,7,7,7,7,7,7,7,7,7,7,7,7]).append ([8,8,8,8,8,8,8,8,8,8,8,8,8,8,8,8,8,8,8,8,8,8,8,8,8,8,8,8,8,8,8,8,8,8,8,8,8,8,8,8,8,8,8,8,8,8,8,8,8,8,8,8,8,8,8,8,8,8,8,8,8,8,8,8].append [8,8,8,8,8,8,8,8,8,8,8,8,8,8,8,8,8,8,8,8,8,8,8,8,8,8,8,8,8,8,8,8,8,8,8,8,8,8,8,8,8,8,8,8,8,8,8,8,8,8,8,8,8,8,8,8,8,8,8,8,8,8,8,8])).toArray⟩:ByteArray)=Lib.len8tab:=by decide+kernel
end
section
open Go.RowKit
set_option linter.unusedVariables false
set_option maxRecDepth 100000
theorem Tryz.arr12:Tryz.prog.underlying 77=some (.array 12 5):=by kernel_rfl
theorem Tryz.zero12:(Tryz.prog.info? 77).map (fun i=>(i.zero,i.size))=some (some (.agg (Array.replicate 12 (.int .u8 0))),12):=by kernel_rfl
theorem size12 (f:Nat→Nat):(Tryz.prog.info? 77).map (·.size)=some (arL 12 f).length:=by rw [arL_len];exact(zero_of_info Tryz.zero12).2
theorem zero12 (w:World):(zeroValue 77).run Tryz.prog w= .ok (.agg (arL 12 fun _=>0).toArray) w:=by
 rw [arL_zero];exact(zero_of_info Tryz.zero12).1 w
theorem Tryz.zero24o:(Tryz.prog.info? 149).map (fun i=>(i.zero,i.size))=some (some (.agg (Array.replicate 24 (.int .u8 0))),24):=by kernel_rfl
theorem size24o (f:Nat→Nat):(Tryz.prog.info? 149).map (·.size)=some (arL 24 f).length:=by rw [arL_len];exact(zero_of_info Tryz.zero24o).2
theorem zero24o (w:World):(zeroValue 149).run Tryz.prog w= .ok (.agg (arL 24 fun _=>0).toArray) w:=by
 rw [arL_zero];exact(zero_of_info Tryz.zero24o).1 w
theorem block_setCells (g:Nat) (t:TypeId): ∀(vs:List Value) (o:Nat) (w:World) (A:Array Value),w.heap[g]?=some (.cells A t (0,0))→ ∃A':Array Value,(w.setCells g o vs).heap[g]?=some (.cells A' t (0,0))∧A'.size=A.size
 | [],_,_,A,h=>⟨A,h,rfl⟩
 |v::r,o,w,A,h=>by
  have h1:(w.setCell ⟨g,o,none⟩ v).heap[g]?=some (.cells (A.setIfInBounds o v) t (0,0)):=by
   simp [World.setCell,Array.getElem?_modify,h]
  obtain⟨A',h2,h3⟩:=block_setCells g t r (o+1) _ _ h1
  exact⟨A',h2,by rw [h3];simp⟩
theorem Wb.whole {w:World} {g n:Nat} {F:Nat→Nat} {t:TypeId} (h:Wb w g n F t) (F':Nat→Nat):Wb (w.setCells g 0 (arL n F')) g n F' t:=by
 obtain⟨A',h2,h3⟩:=block_setCells g t (arL n F') 0 w _ h
 have ha:=h.ar.whole F'
 unfold Wb
 rw [h2]
 refine congrArg some (congrArg (fun c=>Obj.cells c t (0,0)) ?_)
 apply Array.ext_getElem?
 intro j
 rcases Nat.lt_or_ge j n with hj|hj
 ·have:=(ha j hj).1
  simp only [World.cell?,h2]at this
  have e:(arL n F').toArray[j]?=(arL n F')[j]?:=by simp
  rw [e,arL_get n F' j hj]
  simpa [n8]using this
 ·rw [Array.getElem?_eq_none (by rw [h3];simp [arL_len];exact hj),Array.getElem?_eq_none (by simp [arL_len];exact hj)]
theorem wpList_store_wb {P:Program} {ops:Array Oper} {rest:List Oper} {op:Oper} {a:Act} {w:World} {Q:Exit→Act→World→Prop} (hgd:op.guard=none) (ty:TypeId) (x y:Operand) (ho:op.op= .store ty x y)
  (g n:Nat) (f f':Nat→Nat) (t:TypeId) (hx:a.eval x= .pointer (some ⟨g,0,none⟩)) (hy:a.eval y= .agg (arL n f').toArray)
  (hW:Wb w g n f t) (hi:(P.info? ty).map (·.size)=some (arL n f').length)
  (h: ∀w',Wb w' g n f' t→Below g w w'→w'.heap.size=w.heap.size→(∀g' n' f'',g'≠g→Ar w g' n' f''→Ar w' g' n' f'')→wpList P ops Q rest (a.put op.dst undef) w'):
  wpList P ops Q (op::rest) a w:=by
 refine wpList_store_mid hgd ty x y ho g 0 _ hx hy ?_ ?_ (all_oneCell_toArray (arL_one n f')) ?_
 ·rw [List.size_toArray,arL_len];exact hW.ar.there
 ·rw [List.size_toArray];exact hi
 ·exact h _ (hW.whole f') (Below.setCells (Below.refl _ _) (Nat.le_refl _) _ _) (World.setCells_size _ _ _ _) (fun g' n' f'' hg' h'=>h'.apart hg' _ _)
theorem stF_hi (b:Nat→Nat) (k:Nat):stF b (16+k)=b k^^^b (k+1):=by
 unfold stF
 rw [if_neg (by omega),show 16+k-16=k by omega,show 16+k-15=k+1 by omega]
theorem and_low: ∀x:Nat,x<256→bits .and .u8 (x:Int) 63=((x%64:Nat):Int):=by decide+kernel
theorem not_low: ∀x:Nat,x<256→bits .andNot .u8 (x:Int) 63=((x/64*64:Nat):Int):=by decide+kernel
theorem sub_low (x:Nat) (h:x<256):((x:Int).tmod 64=((x%64:Nat):Int)∧(x:Int)%64=((x%64:Nat):Int))∧(x:Int)-((x%64:Nat):Int)=((x/64*64:Nat):Int):=by
 refine⟨⟨?_,by omega⟩,by omega⟩
 rw [Int.tmod_eq_emod_of_nonneg (by omega)];omega
set_option maxHeartbeats 1600000 in
theorem obottom (n:Nat→Nat) (w:World) (hn:B12 n):
  Calls Tryz.prog 109 #[.agg (arL 12 n).toArray] w fun e w'=>e= .returned (.int .i64 (n 11%64:Nat))∧Below w.heap.size w w':=by
 obtain⟨kK,hkK⟩:=Le ((arL 12 (n)).toArray)
 obtain⟨w1,hw1⟩:=Lv (w.alloc (.cells (arL 12 (n)).toArray 77))
 have hs1:=Zs1 hw1
 have hBw1:=Bl hw1
 have hKw1:Ar w1 w.heap.size 12 (n):=by rw [hw1];exact Ar.new w 12 _ _
 have HKK:=Lib.hid hkK
 rw [hkK]at hw1
 rw [hkK]
 clear hkK
 have c11:=(hKw1 11 (by omega)).1
 have hx:=hn 11 (by omega)
 have h1:=and_low _ hx
 have h2:n 11%64<64:=Nat.mod_lt _ (by decide)
 generalize n 11%64=q at*
 generalize n 11=x at*
 clear hn hKw1
 go_enter Tryz.func109,Tryz.ntmps109
 go_upto_region 1 with fail
 rw [←hw1]
 clear hw1
 try simp only [Nat.add_assoc,Nat.reduceAdd]
 clear hs1
 go_wp2_with fail
 go_ret
 exact⟨rfl,hBw1⟩
set_option maxHeartbeats 1600000 in
theorem rbottom (n:Nat→Nat) (w:World) (hn:B12 n):
  Calls Tryz.prog 124 #[.agg (arL 12 n).toArray] w fun e w'=>e= .returned (.int .i64 (n 11%64:Nat))∧Below w.heap.size w w':=by
 obtain⟨kK,hkK⟩:=Le ((arL 12 (n)).toArray)
 obtain⟨w1,hw1⟩:=Lv (w.alloc (.cells (arL 12 (n)).toArray 77))
 have hs1:=Zs1 hw1
 have hBw1:=Bl hw1
 have hKw1:Ar w1 w.heap.size 12 (n):=by rw [hw1];exact Ar.new w 12 _ _
 have HKK:=Lib.hid hkK
 rw [hkK]at hw1
 rw [hkK]
 clear hkK
 have c11:=(hKw1 11 (by omega)).1
 have hx:=hn 11 (by omega)
 have h1:=(sub_low _ hx).1.1
 have h3:=(sub_low _ hx).1.2
 have h2:n 11%64<64:=Nat.mod_lt _ (by decide)
 generalize n 11%64=q at*
 generalize n 11=x at*
 clear hn hKw1
 go_enter Tryz.func124,Tryz.ntmps124
 go_upto_region 1 with fail
 rw [←hw1]
 clear hw1
 try simp only [Nat.add_assoc,Nat.reduceAdd]
 clear hs1
 go_wp2_with fail
 go_ret
 exact⟨rfl,hBw1⟩
set_option maxHeartbeats 1600000 in
theorem ostretch (b:Nat→Nat) (w:World) (hb:B16 b):
  Calls Tryz.prog 107 #[.agg (arL 16 b).toArray] w fun e w'=>e= .returned (.agg (arL 24 (stF b)).toArray)∧Below w.heap.size w w':=by
 obtain⟨kK,hkK⟩:=Le ((arL 16 (b)).toArray)
 obtain⟨w1,hw1⟩:=Lv (w.alloc (.cells (arL 16 (b)).toArray 22))
 have hs1:=Zs1 hw1
 have hBw1:=Bl hw1
 have hKw1:Ar w1 w.heap.size 16 (b):=by rw [hw1];exact Ar.new w 16 _ _
 obtain⟨w2,hw2⟩:=Lv (w1.alloc (.cells (arL 24 (fun _=>0)).toArray 149))
 have hs2:=Zs2 hw2 hs1
 have hBw2:=Bm hw2 hBw1
 have hKw2:=hKw1.alloc (by omega) (.cells (arL 24 (fun _=>0)).toArray 149)
 rw [←hw2]at hKw2
 have hRw2:Ar w2 (w.heap.size+1) 24 (fun _=>0):=by rw [hw2,←hs1];exact Ar.new w1 24 _ _
 clear hKw1 hBw1
 obtain⟨w3,hw3⟩:=Lv (w2.alloc (.cells (arL 24 (fun _=>0)).toArray 149))
 have hs3:=Zs3 hw3 hs2
 have hBw3:=Bm hw3 hBw2
 have hKw3:=hKw2.alloc (by omega) (.cells (arL 24 (fun _=>0)).toArray 149)
 rw [←hw3]at hKw3
 have hRw3:=hRw2.alloc (by omega) (.cells (arL 24 (fun _=>0)).toArray 149)
 rw [←hw3]at hRw3
 have hWw3:Ar w3 (w.heap.size+2) 24 (fun _=>0):=by rw [hw3,←hs2];exact Ar.new w2 24 _ _
 clear hKw2 hRw2 hBw2
 have HKK:=Lib.hid hkK
 rw [hkK]at hw1
 rw [hkK]
 clear hkK
 have hWb:Wb w3 (w.heap.size+2) 24 (fun _=>0) 149:=by rw [hw3,←hs2];exact Wb.new w2 24 _ _
 have hz:=zero24o
 have HB:=Lib.hid hb
 clear hb
 have HFR:=Lib.hid (show splice (arL 24 fun _=>0) 0 (arL 16 b)=arL 24 (fun j=>if j<16 then b j else 0)by
  rw [splice_ar 24 16 _ _ 0 (by omega)]
  exact arL_ext (fun j hj=>by simp))
 go_enter Tryz.func107,Tryz.ntmps107
 go_upto_region 2 with fail
 rw [←hw1,←hw2,←hw3]
 clear hw1 hw2 hw3
 try simp only [Nat.add_assoc,Nat.reduceAdd]
 obtain⟨gR,hgR⟩:=Le (w.heap.size+1)
 rw [hgR]at hRw3
 obtain⟨gW,hgW⟩:=Le (w.heap.size+2)
 rw [hgW]at hWw3
 rw [hgW]at hWb
 try rw [hgW]
 try rw [hgR]
 have hlR:w.heap.size<gR:=by omega
 have hlW:gR<gW:=by omega
 clear hs1 hs2 hs3 hgR hgW
 have hsrc:=Lib.hid hKw3.drew.src
 have HW:=Lib.hid (show w3.drew.heap[gW]?=some (.cells (arL 24 fun _=>0).toArray 149 (0,0))from hWb)
 have HMi:=Lib.hid (show(arL 16 b).length=Nat.min 16 24 by rw [arL_len];rfl)
 have HFi:=Lib.hid (show 0+(arL 16 b).length≤(arL 24 fun _=>0).length by rw [arL_len,arL_len];omega)
 have hlen:(((arL 16 b).length:Nat):Int)=16:=by rw [arL_len];rfl
 go_region_law (refine step_copy_splice rfl (.tmp 6) (.tmp 7) 25 25 rfl 5 Tryz.sl8 Tryz.sz8 _ _ _ _ _ _ rfl rfl gW 0 (arL 24 fun _=>0) 149 HW.out (arL 16 b) HMi.out (fun _=>⟨rfl,⟨w.heap.size,0,none⟩,rfl,hsrc.out⟩) HFi.out (arL_one 16 _) gW w3.drew (Below.refl _ _) (Nat.le_refl _) ?_;intro w4 hW4 hb4)
 have hT4:Ar w4 gW 24 (fun j=>if j<16+0 then stF b j else 0):=by
  have h:=hW4.out
  rw [HFR.out]at h
  exact(Wb.ar (show Wb w4 gW 24 _ _ from h)).ext (fun j hj=>by unfold stF;by_cases h:j<16<;>simp [h])
 have hK4:=hKw3.drew.keep (by omega) hb4
 have hR4:=hRw3.drew.keep hlW hb4
 have hB4:=hBw3.drew.trans (hb4.mono (by omega))
 clear hKw3 hRw3 hBw3 hWw3 hWb hb4 hW4 HW hsrc HMi HFi HFR hlen
 try dsimp only [Act.put]
 go_wp2_with fail
 go_loopw [11] (fun i wr=> ∃k:Nat,k≤8∧i= .int .i64 k∧Ar wr gW 24 (fun j=>if j<16+k then stF b j else 0)∧Ar wr w.heap.size 16 b∧Ar wr gR 24 (fun _=>0)∧Below w.heap.size w wr) (fun i _=>8-(intOf i).toNat)
 case atStart=>exact⟨0,Nat.zero_le _,rfl,hT4,hK4,hR4,hB4⟩
 case round=>
  clear hT4 hK4 hR4 hB4
  obtain⟨k,hk,rfl,hT,hK,hR,hB⟩:=hrel
  by_cases hlt:k<8
  ·have i1:(k:Int)<8:=by omega
   obtain⟨a,ha⟩:=Le (16+k)
   have a1:(16:Int)+(k:Int)=(a:Int):=by omega
   have a2:(a:Int)<24:=by omega
   have a3:(k:Int)+1<16:=by omega
   obtain⟨c0,_⟩:=hK k (by omega)
   obtain⟨c1,_⟩:=hK (k+1) (by omega)
   obtain⟨c2,f2⟩:=hT a (by omega)
   have hxx:bits BinOp.xor IntKind.u8 ((b k:Nat):Int) ((b (k+1):Nat):Int)=((stF b a:Nat):Int):=by rw [←ha,stF_hi];exact xor_n8 _ _ (HB.out k (by omega)) (HB.out (k+1) (by omega))
   have hT2:=Lib.hid ((hT.set (j:=a) (v:=stF b a) (by omega) rfl).ext (f':=fun j=>if j<a+1 then stF b j else 0) (fun j _=>by rw [ha];exact low_step (stF b) a j))
   have hK2:=Lib.hid (hK.far (p:=⟨gW,a,none⟩) (by simp;omega) (.int .u8 (stF b a:Nat)))
   have hR2:=Lib.hid (hR.far (p:=⟨gW,a,none⟩) (by simp;omega) (.int .u8 (stF b a:Nat)))
   have hB2:=Lib.hid (hB.setCell (p:=⟨gW,a,none⟩) (by simp;omega) (.int .u8 (stF b a:Nat)))
   clear hT hK hR hB
   generalize stF b a=z at*
   generalize b (k+1)=y at*
   generalize b k=x at*
   go_wp2_with fail
   refine wp_region_noPanic ?_
   go_big_region
   refine NoPanic.normal ?_
   clear a1 a2 a3 c0 c1 c2 f2 hxx
   go_wp2_with fail
   go_roundw
   case rel=>exact⟨k+1,by omega,by go_num,by rw [show 16+(k+1)=a+1 by omega];exact hT2.out.drew,hK2.out.drew,hR2.out.drew,hB2.out.drew⟩
   case measure=>simp [intOf];omega
  ·obtain rfl:k=8:=by omega
   have hT2:=hT.ext (f':=stF b) (fun j hj=>by rw [if_pos (by omega)])
   clear hT
   go_wp2_with (first
    |(refine wpList_load_ar rfl _ _ rfl _ _ _ rfl hT2 Tryz.arr24 (size24o _) ?_)
    |(refine wpList_store_ar rfl _ _ _ rfl _ _ _ (stF b) rfl rfl hR (size24o _) ?_;intro w8 hA8 hb8 _ _))
   refine bodyPost_ret_ar rfl rfl hA8 Tryz.arr24 (size24o _) rfl ⟨rfl,?_⟩
   exact hB.trans (hb8.mono (by omega))
set_option maxHeartbeats 1600000 in
theorem rstretch (b:Nat→Nat) (w:World) (hb:B16 b):
  Calls Tryz.prog 122 #[.agg (arL 16 b).toArray] w fun e w'=>e= .returned (.agg (arL 24 (stF b)).toArray)∧Below w.heap.size w w':=by
 obtain⟨kK,hkK⟩:=Le ((arL 16 (b)).toArray)
 obtain⟨w1,hw1⟩:=Lv (w.alloc (.cells (arL 16 (b)).toArray 22))
 have hs1:=Zs1 hw1
 have hBw1:=Bl hw1
 have hKw1:Ar w1 w.heap.size 16 (b):=by rw [hw1];exact Ar.new w 16 _ _
 obtain⟨w2,hw2⟩:=Lv (w1.alloc (.cells (arL 24 (fun _=>0)).toArray 149))
 have hs2:=Zs2 hw2 hs1
 have hBw2:=Bm hw2 hBw1
 have hKw2:=hKw1.alloc (by omega) (.cells (arL 24 (fun _=>0)).toArray 149)
 rw [←hw2]at hKw2
 have hRw2:Ar w2 (w.heap.size+1) 24 (fun _=>0):=by rw [hw2,←hs1];exact Ar.new w1 24 _ _
 clear hKw1 hBw1
 obtain⟨w3,hw3⟩:=Lv (w2.alloc (.cells (arL 24 (fun _=>0)).toArray 149))
 have hs3:=Zs3 hw3 hs2
 have hBw3:=Bm hw3 hBw2
 have hKw3:=hKw2.alloc (by omega) (.cells (arL 24 (fun _=>0)).toArray 149)
 rw [←hw3]at hKw3
 have hRw3:=hRw2.alloc (by omega) (.cells (arL 24 (fun _=>0)).toArray 149)
 rw [←hw3]at hRw3
 have hWw3:Ar w3 (w.heap.size+2) 24 (fun _=>0):=by rw [hw3,←hs2];exact Ar.new w2 24 _ _
 clear hKw2 hRw2 hBw2
 have HKK:=Lib.hid hkK
 rw [hkK]at hw1
 rw [hkK]
 clear hkK
 have hz:=zero24o
 have HB:=Lib.hid hb
 clear hb
 go_enter Tryz.func122,Tryz.ntmps122
 go_upto_region 2 with fail
 rw [←hw1,←hw2,←hw3]
 clear hw1 hw2 hw3
 try simp only [Nat.add_assoc,Nat.reduceAdd]
 obtain⟨gR,hgR⟩:=Le (w.heap.size+1)
 rw [hgR]at hRw3
 obtain⟨gW,hgW⟩:=Le (w.heap.size+2)
 rw [hgW]at hWw3
 try rw [hgW]
 try rw [hgR]
 have hlR:w.heap.size<gR:=by omega
 have hlW:gR<gW:=by omega
 clear hs1 hs2 hs3 hgR hgW
 have hT4:=hWw3.ext (f':=fun j=>if j<0 then stF b j else 0) (fun j _=>by simp)
 go_wp2_with fail
 go_loopw [4] (fun i wr=> ∃k:Nat,k≤24∧i= .int .i64 k∧Ar wr gW 24 (fun j=>if j<k then stF b j else 0)∧Ar wr w.heap.size 16 b∧Ar wr gR 24 (fun _=>0)∧Below w.heap.size w wr) (fun i _=>24-(intOf i).toNat)
 case atStart=>exact⟨0,Nat.zero_le _,rfl,hT4,hKw3,hRw3,hBw3⟩
 case round=>
  clear hT4 hWw3 hKw3 hRw3 hBw3
  obtain⟨k,hk,rfl,hT,hK,hR,hB⟩:=hrel
  by_cases hlt:k<24
  ·have i1:(k:Int)<24:=by omega
   obtain⟨c2,f2⟩:=hT k (by omega)
   have hT2:=Lib.hid ((hT.set (j:=k) (v:=stF b k) (by omega) rfl).ext (f':=fun j=>if j<k+1 then stF b j else 0) (fun j _=>low_step (stF b) k j))
   have hK2:=Lib.hid (hK.far (p:=⟨gW,k,none⟩) (by simp;omega) (.int .u8 (stF b k:Nat)))
   have hR2:=Lib.hid (hR.far (p:=⟨gW,k,none⟩) (by simp;omega) (.int .u8 (stF b k:Nat)))
   have hB2:=Lib.hid (hB.setCell (p:=⟨gW,k,none⟩) (by simp;omega) (.int .u8 (stF b k:Nat)))
   by_cases h16:k<16
   ·have i2:(k:Int)<16:=by omega
    obtain⟨c0,_⟩:=hK k h16
    rw [show b k=stF b k by unfold stF;rw [if_pos h16]]at c0
    clear hT hK hR hB
    generalize stF b k=z at*
    go_wp2_with fail
    go_roundw
    case rel=>exact⟨k+1,by omega,by go_num,hT2.out,hK2.out,hR2.out,hB2.out⟩
    case measure=>simp [intOf];omega
   ·have i2: ¬(k:Int)<16:=by omega
    obtain⟨p,hp⟩: ∃p:Nat,16+p=k:=⟨k-16,by omega⟩
    obtain⟨q,hq⟩:=Le (p+1)
    have a1:(k:Int)-16=(p:Int):=by omega
    have a2:(k:Int)-15=(q:Int):=by omega
    have a3:(p:Int)<16:=by omega
    have a4:(q:Int)<16:=by omega
    obtain⟨c0,_⟩:=hK p (by omega)
    obtain⟨c1,_⟩:=hK q (by omega)
    have hxx:bits BinOp.xor IntKind.u8 ((b p:Nat):Int) ((b q:Nat):Int)=((stF b k:Nat):Int):=by rw [←hp,stF_hi,hq];exact xor_n8 _ _ (HB.out p (by omega)) (HB.out q (by omega))
    clear hT hK hR hB hp hq
    generalize stF b k=z at*
    generalize b q=y at*
    generalize b p=x at*
    go_wp2_with fail
    refine wp_region_noPanic ?_
    go_big_region
    refine NoPanic.normal ?_
    clear a1 a2 a3 a4 c0 c1 c2 f2 hxx
    go_wp2_with fail
    go_roundw
    case rel=>exact⟨k+1,by omega,by go_num,hT2.out.drew,hK2.out.drew,hR2.out.drew,hB2.out.drew⟩
    case measure=>simp [intOf];omega
  ·obtain rfl:k=24:=by omega
   have hT2:=hT.ext (f':=stF b) (fun j hj=>by rw [if_pos (by omega)])
   clear hT
   go_wp2_with (first
   |(refine wpList_load_ar rfl _ _ rfl _ _ _ rfl hT2 Tryz.arr24 (size24o _) ?_)
   |(refine wpList_store_ar rfl _ _ _ rfl _ _ _ (stF b) rfl rfl hR (size24o _) ?_;intro w8 hA8 hb8 _ _))
   refine bodyPost_ret_ar rfl rfl hA8 Tryz.arr24 (size24o _) rfl ⟨rfl,?_⟩
   exact hB.trans (hb8.mono (by omega))
end
section
open Go.RowKit
set_option linter.unusedVariables false
set_option maxRecDepth 100000
def TabC (w:World) (v:Value) (f:Nat→Nat):Prop:=
 ∃p,TabV w v p (enF f zF)∧CipV w (.pointer p) f∧ ∀V,Below w.heap.size w V→Calls Tryz.prog 81 #[v] V fun e V'=>e= .returned (.pointer p)∧Below V.heap.size V V'
theorem TabC.to {w w':World} {v:Value} {f:Nat→Nat} (h:TabC w v f) (hb:Below w.heap.size w w'):TabC w' v f:=by
 obtain⟨p,h1,h2,h3⟩:=h
 exact⟨p,h1.to hb,h2.to hb,fun V hV=>h3 V (hb.trans (hV.mono hb.size))⟩
theorem tabc_made (g:Nat) (p:Option Addr) (f:Nat→Nat) (w:World) (h:Ti w g p (enF f zF)) (hc:CipV w (.pointer p) f):TabC w (.pointer (some ⟨g,0,none⟩)) f:=
 ⟨p,tab_made g p _ w h,hc,fun V hV=>tcip g p _ V (h.to hV)⟩
theorem tabc_nil (w:World) (h:Boxes w):TabC w (.pointer none) zF:=⟨none,tab_nil w h,exp_nil w h,fun V _=>tcip_nil V⟩
theorem run_e3 (w:World):(Instr.build 22 #[(3,.int .u8 1)]).run Tryz.prog w= .ok (.agg (arL 16 fun i=>if i=3 then 1 else 0).toArray) w:=run_build w _ _ _ (by kernel_rfl)
theorem slice4 (g:Nat) (w:World):(Instr.sliceAt 22 (.pointer (some ⟨g,0,none⟩)) (some (.int .i64 4)) none none).run Tryz.prog w= .ok (.slice (some ⟨g,4,none⟩) 12 12) w:=by
 have hal:Tryz.prog.arrayLen 22=16:=by simp [Program.arrayLen]
 have hel:Tryz.prog.elem 22=5:=by simp [Program.elem]
 have hs:(sizeOf 5).run Tryz.prog w= .ok 1 w:=by kernel_rfl
 rw [run_sliceAt_array_l w 22 ⟨g,0,none⟩ (by rw [hal,hel];exact Tryz.arr16x) .i64 4 (by omega) (by rw [hal];omega),hal,hel,hs]
 simp [Result.andThen_ok,slicedAt,Addr.add]
set_option maxHeartbeats 1600000 in
theorem otop (v:Value) (f n:Nat→Nat) (w:World) (hf:B16 f) (hn:B12 n) (ht:TabC w v f) (hx:Boxes w):
  Calls Tryz.prog 108 #[v,.agg (arL 12 n).toArray] w fun e w'=>e= .returned (.agg (arL 16 (enF f (nbF n))).toArray)∧Below w.heap.size w w':=by
 obtain⟨kK,hkK⟩:=Le ((arL 12 (n)).toArray)
 obtain⟨w1,hw1⟩:=Lv (w.alloc (.cells (arL 12 (n)).toArray 77))
 have hs1:=Zs1 hw1
 have hBw1:=Bl hw1
 have hKw1:Ar w1 w.heap.size 12 (n):=by rw [hw1];exact Ar.new w 12 _ _
 obtain⟨w2,hw2⟩:=Lv (w1.alloc (.cells (arL 16 (fun _=>0)).toArray 22))
 have hs2:=Zs2 hw2 hs1
 have hBw2:=Bm hw2 hBw1
 have hKw2:=hKw1.alloc (by omega) (.cells (arL 16 (fun _=>0)).toArray 22)
 rw [←hw2]at hKw2
 have hRw2:Ar w2 (w.heap.size+1) 16 (fun _=>0):=by rw [hw2,←hs1];exact Ar.new w1 16 _ _
 clear hKw1 hBw1
 have HKK:=Lib.hid hkK
 rw [hkK]at hw1
 rw [hkK]
 clear hkK
 have hz:=zero16b
 have HF:=Lib.hid hf
 have HN:=Lib.hid hn
 have HX:=Lib.hid hx
 obtain⟨p,hV,hC,hcip⟩:=ht
 have HC:=Lib.hid hC
 have HCIP:=Lib.hid hcip
 have r3:=Lib.hid run_e3
 have hbx:=hn 11 (by omega)
 clear hf hn hx hV hC hcip
 have HFR:=Lib.hid (show splice (arL 16 fun i=>if i=3 then 1 else 0) 4 (arL 12 (lowF n))=arL 16 (nbF n)by
  rw [splice_ar 16 12 _ _ 4 (by omega)]
  exact arL_ext (fun j hj=>rfl))
 go_enter Tryz.func108,Tryz.ntmps108
 go_upto_region 1 with fail
 rw [←hw1,←hw2]
 clear hw1 hw2
 try simp only [Nat.add_assoc,Nat.reduceAdd]
 obtain⟨gR,hgR⟩:=Le (w.heap.size+1)
 rw [hgR]at hRw2
 try rw [hgR]
 have hlR:w.heap.size<gR:=by omega
 clear hs1 hs2 hgR
 have c11:=(hKw2 11 (by omega)).1
 have f11:=(hKw2 11 (by omega)).2
 have h1:=not_low _ hbx
 have hK4:=(hKw2.set (j:=11) (v:=n 11/64*64) (by omega) rfl).ext (f':=lowF n) (fun j _=>rfl)
 have hR4:=hRw2.far (p:=⟨w.heap.size,11,none⟩) (by simp;omega) (.int .u8 (n 11/64*64:Nat))
 have hB4:=hBw2.setCell (p:=⟨w.heap.size,11,none⟩) (by simp) (.int .u8 (n 11/64*64:Nat))
 clear hKw2 hRw2 hBw2
 generalize n 11/64*64=z at*
 generalize n 11=x at*
 go_upto_region 2 with fail
 generalize World.setCell w2 ⟨w.heap.size,11,none⟩ (.int .u8 (z:Nat))=w4 at*
 clear c11 f11 h1 hbx
 obtain⟨gC,hgC⟩:=Le (w4.heap.size)
 have hlC:gR<gC:=by rw [←hgC];exact hR4.lt (by omega)
 obtain⟨w5,hw5⟩:=Lv (w4.alloc (.cells (arL 16 fun _=>0).toArray 22))
 have hC5:Wb w5 gC 16 (fun _=>0) 22:=by rw [hw5,←hgC];exact Wb.new w4 16 _ _
 have hK5:=ara hw5 hK4
 have hR5:=ara hw5 hR4
 have hB5:=Bm hw5 hB4
 clear hK4 hR4 hB4
 go_upto_region 3 with (first|(refine wpList_build_by rfl _ _ rfl [(3,.int .u8 1)] rfl _ (r3.out _) ?_)|(refine wpList_store_wb rfl _ _ _ rfl _ _ _ (fun i=>if i=3 then 1 else 0) 22 rfl rfl (by rw [←hw5];exact hC5) (size16b _) ?_;intro w6 hC6 bel siz kee)|fail)
 rw [←hw5]at bel siz kee
 try rw [hgC]
 have hK6:=hK5.keep (by omega) bel
 have hR6:=hR5.keep hlC bel
 have hB6:=hB5.trans (bel.mono (by omega))
 clear hK5 hR5 hB5 hC5 bel siz kee hw5 hgC
 try dsimp only [Act.put]
 have hsrc:=Lib.hid hK6.drew.src
 have HW:=Lib.hid (show w6.drew.heap[gC]?=some (.cells (arL 16 fun i=>if i=3 then 1 else 0).toArray 22 (0,0))from hC6)
 have HMi:=Lib.hid (show(arL 12 (lowF n)).length=Nat.min 12 12 by rw [arL_len];rfl)
 have HFi:=Lib.hid (show 4+(arL 12 (lowF n)).length≤(arL 16 fun i=>if i=3 then 1 else 0).length by rw [arL_len,arL_len];omega)
 have hsl:=slice4
 have hlen:(((arL 12 (lowF n)).length:Nat):Int)=12:=by rw [arL_len];rfl
 go_region_law (refine step_copy_splice rfl (.tmp 11) (.tmp 12) 25 25 rfl 5 Tryz.sl8 Tryz.sz8 _ _ _ _ _ _ rfl rfl gC 4 (arL 16 fun i=>if i=3 then 1 else 0) 22 HW.out (arL 12 (lowF n)) HMi.out (fun _=>⟨rfl,⟨w.heap.size,0,none⟩,rfl,hsrc.out⟩) HFi.out (arL_one 12 _) gC w6.drew (Below.refl _ _) (Nat.le_refl _) ?_;intro w7 hW7 hb7)
 have hC7:Ar w7 gC 16 (nbF n):=by
  have h:=hW7.out
  rw [HFR.out]at h
  exact Wb.ar (show Wb w7 gC 16 _ _ from h)
 have hR7:=hR6.drew.keep hlC hb7
 have hB7:=hB6.drew.trans (hb7.mono (by omega))
 clear hK6 hR6 hB6 hC6 hb7 hW7 HW hsrc HMi HFi HFR hsl hlen
 try dsimp only [Act.put]
 go_upto_region 4 with fail
 have hRw7:=hR7
 clear hR7
 refine wp_region_noPanic ?_
 have hRad:=hRw7.drew
 refine wp_region_held_drew (S:=fun W=>Ar W gC 16 (nbF n)∧Below w.heap.size w W) (by kernel_rfl) ⟨hC7.drew,hB7.drew⟩ (fun hH'=> ?_)
 clear hC7 hB7 hRw7
 generalize World.drew w7=ad at*
 refine tw 0 ?va1 rfl ?hya1 ?resta1
 case hya1=>
  intro W hSw
  go_simp
  try with_reducible rfl
 simp only [Act.put,nrm]
 refine tk 2 (.agg (arL 16 (nbF n)).toArray) rfl (yieldsIf_load_mid (by rfl) _ _ rfl gC (0) rfl (arL 16 (nbF n)) _ (fun W hSw=>hSw.1.range) Tryz.arr16b rfl (size16b _)) ?_
 simp only [Act.put,nrm]
 refine rd 1 rfl (fun K hK=> ?_)
 go_simp
 refine(HCIP.out _ (hH'.2)).mono ?_
 rintro e a2 ⟨rfl,hq⟩
 go_wp2_with fail
 have hRa2:=hRad.t hq
 refine hK.out _ _ ⟨hH'.1.t hq,Tq hH'.2 hq⟩ ?_
 clear hK K hH' hq hRad
 intro hH'
 try simp only [Act.put,nrm]
 refine rd 3 rfl (fun K hK=> ?_)
 go_simp
 refine(fencrypt (.pointer p) f (nbF n) _ HF.out (nbF_lt HN.out) (HC.out.to (hH'.2)) (HX.out.keep (hH'.2))).mono ?_
 rintro e a3 ⟨rfl,hq⟩
 go_wp2_with fail
 have hRa3:=hRa2.t hq
 refine hK.out _ _ ⟨hH'.1.t hq,Tq hH'.2 hq⟩ ?_
 clear hK K hH' hq hRa2
 intro hH'
 try simp only [Act.put,nrm]
 refine rd 4 rfl (fun K hK=> ?_)
 rw [if_pos (by rfl)]
 refine wp_store_mid _ _ _ rfl gR 0 (arL 16 (enF f (nbF n))).toArray rfl rfl hRa3.there (size16b _) (all_oneCell_toArray (arL_one 16 (enF f (nbF n)))) ?_
 have hRa4:=hRa3.whole (enF f (nbF n))
 dsimp only [List.toList_toArray]
 refine hK.out _ _ ⟨(hH'.1).apart (b:=gR) (by omega) (arL 16 (enF f (nbF n))) 0,(hH'.2).trans (Below.setCells (Below.refl w.heap.size _) (b:=gR) (by omega) (arL 16 (enF f (nbF n))) 0)⟩ ?_
 clear hK K hH' hRa3
 intro hH'
 generalize World.setCells a3 gR 0 (arL 16 (enF f (nbF n)))=a4 at*
 try simp only [Act.put]
 refine wpAnyH_done (by kernel_rfl) ?_ _
 have hR9:=hRa4
 have hB9:=hH'.2
 clear hH' hRa4
 refine NoPanic.normal ?_
 go_wp2_with fail
 refine bodyPost_ret_ar rfl rfl hR9 Tryz.arr16b (size16b _) rfl ⟨rfl,hB9⟩
theorem clampN_in (m:Nat) (h:m≤64):clampN (m:Int)=m:=by unfold clampN;omega
theorem oshift (t:Nat→Nat) (b:Nat) (w:World) (ht:B16 t):
  Calls Tryz.prog 106 #[.agg (arL 24 (stF t)).toArray,.int .i64 (b%64:Nat)] w fun e w'=>e= .returned (.agg (arL 16 (o0F t b)).toArray)∧Below w.heap.size w w':=by
 have h:=bshift (stF t) (b%64:Nat) w (stF_lt ht)
 rw [clampN_in _ (by omega)]at h
 exact h
theorem atI_lt {s:Nat→Nat} (h:B16 s) (i:Int):B16 (atI s i):=fun j hj=>by
 unfold atI
 split
 ·exact dk_lt h _ j hj
 ·exact Nat.zero_lt_of_lt (show 0<256 by decide)
set_option maxHeartbeats 1600000 in
theorem ostart (v:Value) (f n:Nat→Nat) (w:World) (hf:B16 f) (hn:B12 n) (ht:TabC w v f) (hx:Boxes w):
  Calls Tryz.prog 78 #[v,.agg (arL 12 n).toArray] w fun e w'=>e= .returned (.agg (arL 16 (o0F (enF f (nbF n)) (n 11))).toArray)∧Below w.heap.size w w':=by
 obtain⟨kK,hkK⟩:=Le ((arL 12 (n)).toArray)
 obtain⟨w1,hw1⟩:=Lv (w.alloc (.cells (arL 12 (n)).toArray 77))
 have hs1:=Zs1 hw1
 have hBw1:=Bl hw1
 have hKw1:Ar w1 w.heap.size 12 (n):=by rw [hw1];exact Ar.new w 12 _ _
 obtain⟨w2,hw2⟩:=Lv (w1.alloc (.cells (arL 16 (fun _=>0)).toArray 22))
 have hs2:=Zs2 hw2 hs1
 have hBw2:=Bm hw2 hBw1
 have hKw2:=hKw1.alloc (by omega) (.cells (arL 16 (fun _=>0)).toArray 22)
 rw [←hw2]at hKw2
 have hRw2:Ar w2 (w.heap.size+1) 16 (fun _=>0):=by rw [hw2,←hs1];exact Ar.new w1 16 _ _
 clear hKw1 hBw1
 have HKK:=Lib.hid hkK
 rw [hkK]at hw1
 rw [hkK]
 clear hkK
 have hz:=zero16b
 have HF:=Lib.hid hf
 have HN:=Lib.hid hn
 have HX:=Lib.hid hx
 have HT:=Lib.hid ht
 have HTL:=Lib.hid (show B16 (enF f (nbF n))from enR_lt hf (nbF_lt hn) 10)
 clear hf hn hx ht
 go_enter Tryz.func78,Tryz.ntmps78
 go_upto_region 1 with fail
 rw [←hw1,←hw2]
 clear hw1 hw2
 try simp only [Nat.add_assoc,Nat.reduceAdd]
 obtain⟨gR,hgR⟩:=Le (w.heap.size+1)
 rw [hgR]at hRw2
 try rw [hgR]
 have hlR:w.heap.size<gR:=by omega
 clear hs1 hs2 hgR
 refine wp_region_noPanic ?_
 have hRad:=hRw2.drew
 refine wp_region_held_drew (S:=fun W=>Ar W w.heap.size 12 (n)∧Below w.heap.size w W) (by kernel_rfl) ⟨hKw2.drew,hBw2.drew⟩ (fun hH'=> ?_)
 clear hKw2 hBw2 hRw2
 generalize World.drew w2=ad at*
 refine tw 0 ?va1 rfl ?hya1 ?resta1
 case hya1=>
  intro W hSw
  go_simp
  try with_reducible rfl
 simp only [Act.put,nrm]
 refine tk 1 (.agg (arL 12 (n)).toArray) rfl (yieldsIf_load_mid (by rfl) _ _ rfl w.heap.size (0) rfl (arL 12 (n)) _ (fun W hSw=>hSw.1.range) Tryz.arr12 rfl (size12 _)) ?_
 simp only [Act.put,nrm]
 refine tk 4 (.agg (arL 12 (n)).toArray) rfl (yieldsIf_load_mid (by rfl) _ _ rfl w.heap.size (0) rfl (arL 12 (n)) _ (fun W hSw=>hSw.1.range) Tryz.arr12 rfl (size12 _)) ?_
 simp only [Act.put,nrm]
 refine rd 2 rfl (fun K hK=> ?_)
 go_simp
 refine(otop v f n _ HF.out HN.out (HT.out.to (hH'.2)) (HX.out.keep (hH'.2))).mono ?_
 rintro e a2 ⟨rfl,hq⟩
 go_wp2_with fail
 have hRa2:=hRad.t hq
 refine hK.out _ _ ⟨hH'.1.t hq,Tq hH'.2 hq⟩ ?_
 clear hK K hH' hq hRad
 intro hH'
 try simp only [Act.put,nrm]
 refine rd 3 rfl (fun K hK=> ?_)
 go_simp
 refine(ostretch (enF f (nbF n)) _ HTL.out).mono ?_
 rintro e a3 ⟨rfl,hq⟩
 go_wp2_with fail
 have hRa3:=hRa2.t hq
 refine hK.out _ _ ⟨hH'.1.t hq,Tq hH'.2 hq⟩ ?_
 clear hK K hH' hq hRa2
 intro hH'
 try simp only [Act.put,nrm]
 refine rd 5 rfl (fun K hK=> ?_)
 go_simp
 refine(obottom n _ HN.out).mono ?_
 rintro e a4 ⟨rfl,hq⟩
 go_wp2_with fail
 have hRa4:=hRa3.t hq
 refine hK.out _ _ ⟨hH'.1.t hq,Tq hH'.2 hq⟩ ?_
 clear hK K hH' hq hRa3
 intro hH'
 try simp only [Act.put,nrm]
 refine rd 6 rfl (fun K hK=> ?_)
 go_simp
 refine(oshift (enF f (nbF n)) (n 11) _ HTL.out).mono ?_
 rintro e a5 ⟨rfl,hq⟩
 go_wp2_with fail
 have hRa5:=hRa4.t hq
 refine hK.out _ _ ⟨hH'.1.t hq,Tq hH'.2 hq⟩ ?_
 clear hK K hH' hq hRa4
 intro hH'
 try simp only [Act.put,nrm]
 refine rd 7 rfl (fun K hK=> ?_)
 rw [if_pos (by rfl)]
 refine wp_store_mid _ _ _ rfl gR 0 (arL 16 (o0F (enF f (nbF n)) (n 11))).toArray rfl rfl hRa5.there (size16b _) (all_oneCell_toArray (arL_one 16 (o0F (enF f (nbF n)) (n 11)))) ?_
 have hRa6:=hRa5.whole (o0F (enF f (nbF n)) (n 11))
 dsimp only [List.toList_toArray]
 refine hK.out _ _ ⟨(hH'.1).apart (b:=gR) (by omega) (arL 16 (o0F (enF f (nbF n)) (n 11))) 0,(hH'.2).trans (Below.setCells (Below.refl w.heap.size _) (b:=gR) (by omega) (arL 16 (o0F (enF f (nbF n)) (n 11))) 0)⟩ ?_
 clear hK K hH' hRa5
 intro hH'
 generalize World.setCells a5 gR 0 (arL 16 (o0F (enF f (nbF n)) (n 11)))=a6 at*
 try simp only [Act.put]
 refine wpAnyH_done (by kernel_rfl) ?_ _
 have hR9:=hRa6
 have hB9:=hH'.2
 clear hH' hRa6
 refine NoPanic.normal ?_
 go_wp2_with fail
 refine bodyPost_ret_ar rfl rfl hR9 Tryz.arr16b (size16b _) rfl ⟨rfl,hB9⟩
set_option maxHeartbeats 1600000 in
theorem onext (v:Value) (f l:Nat→Nat) (i:Nat) (w:World) (hf:B16 f) (hl:B16 l) (hi:i<18446744073709551616) (ht:TabC w v f):
  Calls Tryz.prog 80 #[v,.agg (arL 16 l).toArray,.int .u64 i] w fun e w'=>e= .returned (.agg (arL 16 (adF l (atI (enF f zF) (zer i:Nat)))).toArray)∧Below w.heap.size w w':=by
 obtain⟨kK,hkK⟩:=Le ((arL 16 (l)).toArray)
 obtain⟨w1,hw1⟩:=Lv (w.alloc (.cells (arL 16 (l)).toArray 22))
 have hs1:=Zs1 hw1
 have hBw1:=Bl hw1
 have hKw1:Ar w1 w.heap.size 16 (l):=by rw [hw1];exact Ar.new w 16 _ _
 obtain⟨w2,hw2⟩:=Lv (w1.alloc (.cells (arL 16 (fun _=>0)).toArray 22))
 have hs2:=Zs2 hw2 hs1
 have hBw2:=Bm hw2 hBw1
 have hKw2:=hKw1.alloc (by omega) (.cells (arL 16 (fun _=>0)).toArray 22)
 rw [←hw2]at hKw2
 have hRw2:Ar w2 (w.heap.size+1) 16 (fun _=>0):=by rw [hw2,←hs1];exact Ar.new w1 16 _ _
 clear hKw1 hBw1
 have HKK:=Lib.hid hkK
 rw [hkK]at hw1
 rw [hkK]
 clear hkK
 have hz:=zero16b
 have HL:=Lib.hid hl
 obtain⟨p,hV,_,_⟩:=ht
 have HV:=Lib.hid hV
 have HSL:=Lib.hid (show B16 (enF f zF)from enR_lt hf zF_lt 10)
 clear hf hl hV
 go_enter Tryz.func80,Tryz.ntmps80
 go_upto_region 1 with fail
 rw [←hw1,←hw2]
 clear hw1 hw2
 try simp only [Nat.add_assoc,Nat.reduceAdd]
 obtain⟨gR,hgR⟩:=Le (w.heap.size+1)
 rw [hgR]at hRw2
 try rw [hgR]
 have hlR:w.heap.size<gR:=by omega
 clear hs1 hs2 hgR
 refine wp_region_noPanic ?_
 have hRad:=hRw2.drew
 refine wp_region_held_drew (S:=fun W=>Ar W w.heap.size 16 (l)∧Below w.heap.size w W) (by kernel_rfl) ⟨hKw2.drew,hBw2.drew⟩ (fun hH'=> ?_)
 clear hKw2 hBw2 hRw2
 generalize World.drew w2=ad at*
 refine tk 0 (.agg (arL 16 (l)).toArray) rfl (yieldsIf_load_mid (by rfl) _ _ rfl w.heap.size (0) rfl (arL 16 (l)) _ (fun W hSw=>hSw.1.range) Tryz.arr16b rfl (size16b _)) ?_
 simp only [Act.put,nrm]
 refine tw 1 ?va1 rfl ?hya1 ?resta1
 case hya1=>
  intro W hSw
  go_simp
  try with_reducible rfl
 simp only [Act.put,nrm]
 refine tw 2 ?va2 rfl ?hya2 ?resta2
 case hya2=>
  intro W hSw
  go_simp
  try with_reducible rfl
 simp only [Act.put,nrm]
 refine rd 3 rfl (fun K hK=> ?_)
 go_simp
 refine(tfor v p (enF f zF) i _ hi (HV.out.to (hH'.2))).mono ?_
 rintro e a3 ⟨rfl,hq⟩
 go_wp2_with fail
 have hRa3:=hRad.t hq
 refine hK.out _ _ ⟨hH'.1.t hq,Tq hH'.2 hq⟩ ?_
 clear hK K hH' hq hRad
 intro hH'
 try simp only [Act.put,nrm]
 refine rd 4 rfl (fun K hK=> ?_)
 go_simp
 refine(bxor l (atI (enF f zF) (zer i:Nat)) _ HL.out (atI_lt HSL.out _)).mono ?_
 rintro e a4 ⟨rfl,hq⟩
 go_wp2_with fail
 have hRa4:=hRa3.t hq
 refine hK.out _ _ ⟨hH'.1.t hq,Tq hH'.2 hq⟩ ?_
 clear hK K hH' hq hRa3
 intro hH'
 try simp only [Act.put,nrm]
 refine rd 5 rfl (fun K hK=> ?_)
 rw [if_pos (by rfl)]
 refine wp_store_mid _ _ _ rfl gR 0 (arL 16 (adF l (atI (enF f zF) (zer i:Nat)))).toArray rfl rfl hRa4.there (size16b _) (all_oneCell_toArray (arL_one 16 (adF l (atI (enF f zF) (zer i:Nat))))) ?_
 have hRa5:=hRa4.whole (adF l (atI (enF f zF) (zer i:Nat)))
 dsimp only [List.toList_toArray]
 refine hK.out _ _ ⟨(hH'.1).apart (b:=gR) (by omega) (arL 16 (adF l (atI (enF f zF) (zer i:Nat)))) 0,(hH'.2).trans (Below.setCells (Below.refl w.heap.size _) (b:=gR) (by omega) (arL 16 (adF l (atI (enF f zF) (zer i:Nat)))) 0)⟩ ?_
 clear hK K hH' hRa4
 intro hH'
 generalize World.setCells a4 gR 0 (arL 16 (adF l (atI (enF f zF) (zer i:Nat))))=a5 at*
 try simp only [Act.put]
 refine wpAnyH_done (by kernel_rfl) ?_ _
 have hR9:=hRa5
 have hB9:=hH'.2
 clear hH' hRa5
 refine NoPanic.normal ?_
 go_wp2_with fail
 refine bodyPost_ret_ar rfl rfl hR9 Tryz.arr16b (size16b _) rfl ⟨rfl,hB9⟩
end
section
open Go.RowKit
set_option linter.unusedVariables false
set_option maxRecDepth 100000
theorem rshift (t:Nat→Nat) (b:Nat) (w:World) (ht:B16 t):
  Calls Tryz.prog 121 #[.agg (arL 24 (stF t)).toArray,.int .i64 (b%64:Nat)] w fun e w'=>e= .returned (.agg (arL 16 (o0F t b)).toArray)∧Below w.heap.size w w':=refshift8 (stF t) (b%64) w (stF_lt ht) (by omega)
theorem nb_step (n:Nat→Nat) (k j:Nat):(if j=4+k then n k else if 4≤j∧j<4+k then n (j-4)else if j=3 then 1 else 0)=if 4≤j∧j<4+(k+1)then n (j-4)else if j=3 then 1 else 0:=by
 by_cases h:j=4+k
 ·rw [if_pos h,if_pos (by omega),show j-4=k by omega]
 ·rw [if_neg h]
  by_cases g:4≤j∧j<4+k
  ·rw [if_pos g,if_pos (by omega)]
  ·rw [if_neg g,if_neg (c:=4≤j∧j<4+(k+1)) (by omega)]
theorem nb_last (n:Nat→Nat) (j:Nat) (hj:j<16):(if j=15 then n 11/64*64 else if 4≤j∧j<4+12 then n (j-4)else if j=3 then 1 else 0)=nbF n j:=by
 unfold nbF lowF
 by_cases h:j=15
 ·subst h;rfl
 ·rw [if_neg h]
  by_cases g:4≤j∧j<16
  ·rw [if_pos g,if_pos g,if_neg (by omega)]
  ·rw [if_neg g,if_neg g]
set_option maxHeartbeats 4000000 in
theorem rtop (f n:Nat→Nat) (w:World) (hf:B16 f) (hn:B12 n):
  Calls Tryz.prog 123 #[.agg (arL 432 (pkF (ek f) sb)).toArray,.agg (arL 12 n).toArray] w fun e w'=>e= .returned (.agg (arL 16 (enF f (nbF n))).toArray)∧Below w.heap.size w w':=by
 obtain⟨dK,hfs,hrow⟩:=Tryz.structK
 have HS:=Lib.hid hfs
 have HW:=Lib.hid hrow
 clear hfs hrow
 obtain⟨kE,hkE⟩:=Le ((arL 432 (pkF (ek f) sb)).toArray)
 obtain⟨kK,hkK⟩:=Le ((arL 12 (n)).toArray)
 obtain⟨w1,hw1⟩:=Lv (w.alloc (.cells (arL 432 (pkF (ek f) sb)).toArray 48))
 have hs1:=Zs1 hw1
 have hBw1:=Bl hw1
 have hEw1:Ar w1 w.heap.size 432 (pkF (ek f) sb):=by rw [hw1];exact Ar.new w 432 _ _
 obtain⟨w2,hw2⟩:=Lv (w1.alloc (.cells (arL 12 (n)).toArray 77))
 have hs2:=Zs2 hw2 hs1
 have hBw2:=Bm hw2 hBw1
 have hEw2:=hEw1.alloc (by omega) (.cells (arL 12 (n)).toArray 77)
 rw [←hw2]at hEw2
 have hKw2:Ar w2 (w.heap.size+1) 12 (n):=by rw [hw2,←hs1];exact Ar.new w1 12 _ _
 clear hEw1 hBw1
 obtain⟨w3,hw3⟩:=Lv (w2.alloc (.cells (arL 16 (fun _=>0)).toArray 22))
 have hs3:=Zs3 hw3 hs2
 have hBw3:=Bm hw3 hBw2
 have hEw3:=hEw2.alloc (by omega) (.cells (arL 16 (fun _=>0)).toArray 22)
 rw [←hw3]at hEw3
 have hKw3:=hKw2.alloc (by omega) (.cells (arL 16 (fun _=>0)).toArray 22)
 rw [←hw3]at hKw3
 have hRw3:Ar w3 (w.heap.size+2) 16 (fun _=>0):=by rw [hw3,←hs2];exact Ar.new w2 16 _ _
 clear hEw2 hKw2 hBw2
 obtain⟨w4,hw4⟩:=Lv (w3.alloc (.cells (arL 16 (fun _=>0)).toArray 22))
 have hs4:=Zs4 hw4 hs3
 have hBw4:=Bm hw4 hBw3
 have hEw4:=hEw3.alloc (by omega) (.cells (arL 16 (fun _=>0)).toArray 22)
 rw [←hw4]at hEw4
 have hKw4:=hKw3.alloc (by omega) (.cells (arL 16 (fun _=>0)).toArray 22)
 rw [←hw4]at hKw4
 have hRw4:=hRw3.alloc (by omega) (.cells (arL 16 (fun _=>0)).toArray 22)
 rw [←hw4]at hRw4
 have hCw4:Ar w4 (w.heap.size+3) 16 (fun _=>0):=by rw [hw4,←hs3];exact Ar.new w3 16 _ _
 clear hEw3 hKw3 hRw3 hBw3
 have HKE:=Lib.hid hkE
 rw [hkE]at hw1
 have HKK:=Lib.hid hkK
 rw [hkK]at hw2
 rw [hkE,hkK]
 clear hkE hkK
 have hz:=zero16b
 have HF:=Lib.hid hf
 have HN:=Lib.hid hn
 clear hf hn
 go_enter Tryz.func123,Tryz.ntmps123
 go_upto_region 2 with fail
 rw [←hw1,←hw2,←hw3,←hw4]
 clear hw1 hw2 hw3 hw4
 try simp only [Nat.add_assoc,Nat.reduceAdd]
 obtain⟨gK,hgK⟩:=Le (w.heap.size+1)
 rw [hgK]at hKw4
 obtain⟨gR,hgR⟩:=Le (w.heap.size+2)
 rw [hgR]at hRw4
 obtain⟨gC,hgC⟩:=Le (w.heap.size+3)
 rw [hgC]at hCw4
 try rw [hgC]
 try rw [hgR]
 try rw [hgK]
 have hlK:w.heap.size<gK:=by omega
 have hlR:gK<gR:=by omega
 have hlC:gR<gC:=by omega
 clear hs1 hs2 hs3 hs4 hgK hgR hgC
 have c3:=(hCw4 3 (by omega)).1
 have f3:=(hCw4 3 (by omega)).2
 have hC5:=(hCw4.set (j:=3) (v:=1) (by omega) rfl).ext (f':=fun j=>if 4≤j∧j<4+0 then n (j-4)else if j=3 then 1 else 0) (fun j _=>by rw [if_neg (c:=4≤j∧j<4+0) (by omega)])
 have hE5:=hEw4.far (p:=⟨gC,3,none⟩) (by simp;omega) (.int .u8 1)
 have hK5:=hKw4.far (p:=⟨gC,3,none⟩) (by simp;omega) (.int .u8 1)
 have hR5:=hRw4.far (p:=⟨gC,3,none⟩) (by simp;omega) (.int .u8 1)
 have hB5:=hBw4.setCell (p:=⟨gC,3,none⟩) (by simp;omega) (.int .u8 1)
 clear hEw4 hKw4 hRw4 hCw4 hBw4
 go_upto_region 3 with fail
 generalize World.setCell w4 ⟨gC,3,none⟩ (.int .u8 1)=w5 at*
 clear c3 f3
 go_wp2_with fail
 go_loopw [6] (fun i wr=> ∃k:Nat,k≤12∧i= .int .i64 k∧Ar wr gC 16 (fun j=>if 4≤j∧j<4+k then n (j-4)else if j=3 then 1 else 0)∧Ar wr w.heap.size 432 (pkF (ek f) sb)∧Ar wr gK 12 n∧Ar wr gR 16 (fun _=>0)∧Below w.heap.size w wr) (fun i _=>12-(intOf i).toNat)
 case atStart=>exact⟨0,Nat.zero_le _,rfl,hC5,hE5,hK5,hR5,hB5⟩
 case round=>
  clear hC5 hE5 hK5 hR5 hB5
  obtain⟨k,hk,rfl,hC,hE,hK,hR,hB⟩:=hrel
  by_cases hlt:k<12
  ·have i1:(k:Int)<12:=by omega
   obtain⟨a,ha⟩:=Le (4+k)
   have a1:(4:Int)+(k:Int)=(a:Int):=by omega
   have a2:(a:Int)<16:=by omega
   obtain⟨c0,_⟩:=hK k hlt
   obtain⟨c2,f2⟩:=hC a (by omega)
   have hC2:=Lib.hid ((hC.set (j:=a) (v:=n k) (by omega) rfl).ext (f':=fun j=>if 4≤j∧j<4+(k+1)then n (j-4)else if j=3 then 1 else 0) (fun j _=>by rw [←ha];exact nb_step n k j))
   have hE2:=Lib.hid (hE.far (p:=⟨gC,a,none⟩) (by simp;omega) (.int .u8 (n k:Nat)))
   have hK2:=Lib.hid (hK.far (p:=⟨gC,a,none⟩) (by simp;omega) (.int .u8 (n k:Nat)))
   have hR2:=Lib.hid (hR.far (p:=⟨gC,a,none⟩) (by simp;omega) (.int .u8 (n k:Nat)))
   have hB2:=Lib.hid (hB.setCell (p:=⟨gC,a,none⟩) (by simp;omega) (.int .u8 (n k:Nat)))
   clear hC hE hK hR hB ha
   go_wp2_with fail
   go_roundw
   case rel=>exact⟨k+1,by omega,by go_num,hC2.out,hE2.out,hK2.out,hR2.out,hB2.out⟩
   case measure=>simp [intOf];omega
  ·obtain rfl:k=12:=by omega
   have hbx:=HN.out 11 (by omega)
   have c0:wr.cell? ⟨gC,15,none⟩=some (.int .u8 (n 11:Nat)):=(hC 15 (by omega)).1
   have f0:=(hC 15 (by omega)).2
   obtain⟨⟨h1,h2⟩,h3⟩:=sub_low _ hbx
   have h4:n 11%64<64:=Nat.mod_lt _ (by decide)
   have h5:n 11/64*64<256:=by omega
   have hC2:=(hC.set (j:=15) (v:=n 11/64*64) (by omega) rfl).ext (f':=nbF n) (fun j hj=>nb_last n j hj)
   have hE2:=hE.far (p:=⟨gC,15,none⟩) (by simp;omega) (.int .u8 (n 11/64*64:Nat))
   have hR2:=hR.far (p:=⟨gC,15,none⟩) (by simp;omega) (.int .u8 (n 11/64*64:Nat))
   have hB2:=hB.setCell (p:=⟨gC,15,none⟩) (by simp;omega) (.int .u8 (n 11/64*64:Nat))
   clear hC hE hK hR hB
   generalize n 11/64*64=z at*
   generalize n 11%64=y at*
   generalize n 11=x at*
   go_upto_region 8 with fail
   generalize World.setCell wr ⟨gC,15,none⟩ (.int .u8 (z:Nat))=w6 at*
   clear c0 f0 h1 h2 h3 h4 h5 hbx
   go_wp2_with (first
   |(refine wpList_load_mid rfl _ _ rfl w.heap.size 0 rfl (arL 432 (pkF (ek f) sb)) _ hE2.range HS.out HW.out (sizeK _) ?_)
   |(refine wpList_load_ar rfl _ _ rfl _ _ _ rfl hC2 Tryz.arr16b (size16b _) ?_))
   refine(refencrypt f (nbF n) w6 HF.out (nbF_lt HN.out)).mono ?_
   rintro e w7 ⟨rfl,hq⟩
   have hR7:=hR2.t hq
   have hB7:=Tq hB2 hq
   clear hC2 hE2 hR2 hB2 hq
   go_wp2_with (refine wpList_store_ar rfl _ _ _ rfl _ _ _ (enF f (nbF n)) rfl rfl hR7 (size16b _) ?_;intro w8 hA8 hb8 _ _)
   refine bodyPost_ret_ar rfl rfl hA8 Tryz.arr16b (size16b _) rfl ⟨rfl,?_⟩
   exact hB7.trans (hb8.mono (by omega))
set_option maxHeartbeats 4000000 in
theorem rstart (f n:Nat→Nat) (w:World) (hf:B16 f) (hn:B12 n):
  Calls Tryz.prog 90 #[.agg (arL 432 (pkF (ek f) sb)).toArray,.agg (arL 12 n).toArray] w fun e w'=>e= .returned (.agg (arL 16 (o0F (enF f (nbF n)) (n 11))).toArray)∧Below w.heap.size w w':=by
 obtain⟨dK,hfs,hrow⟩:=Tryz.structK
 have HS:=Lib.hid hfs
 have HW:=Lib.hid hrow
 clear hfs hrow
 obtain⟨kE,hkE⟩:=Le ((arL 432 (pkF (ek f) sb)).toArray)
 obtain⟨kK,hkK⟩:=Le ((arL 12 (n)).toArray)
 obtain⟨w1,hw1⟩:=Lv (w.alloc (.cells (arL 432 (pkF (ek f) sb)).toArray 48))
 have hs1:=Zs1 hw1
 have hBw1:=Bl hw1
 have hEw1:Ar w1 w.heap.size 432 (pkF (ek f) sb):=by rw [hw1];exact Ar.new w 432 _ _
 obtain⟨w2,hw2⟩:=Lv (w1.alloc (.cells (arL 12 (n)).toArray 77))
 have hs2:=Zs2 hw2 hs1
 have hBw2:=Bm hw2 hBw1
 have hEw2:=hEw1.alloc (by omega) (.cells (arL 12 (n)).toArray 77)
 rw [←hw2]at hEw2
 have hKw2:Ar w2 (w.heap.size+1) 12 (n):=by rw [hw2,←hs1];exact Ar.new w1 12 _ _
 clear hEw1 hBw1
 obtain⟨w3,hw3⟩:=Lv (w2.alloc (.cells (arL 16 (fun _=>0)).toArray 22))
 have hs3:=Zs3 hw3 hs2
 have hBw3:=Bm hw3 hBw2
 have hEw3:=hEw2.alloc (by omega) (.cells (arL 16 (fun _=>0)).toArray 22)
 rw [←hw3]at hEw3
 have hKw3:=hKw2.alloc (by omega) (.cells (arL 16 (fun _=>0)).toArray 22)
 rw [←hw3]at hKw3
 have hRw3:Ar w3 (w.heap.size+2) 16 (fun _=>0):=by rw [hw3,←hs2];exact Ar.new w2 16 _ _
 clear hEw2 hKw2 hBw2
 have HKE:=Lib.hid hkE
 rw [hkE]at hw1
 have HKK:=Lib.hid hkK
 rw [hkK]at hw2
 rw [hkE,hkK]
 clear hkE hkK
 have hz:=zero16b
 have HF:=Lib.hid hf
 have HN:=Lib.hid hn
 have HTL:=Lib.hid (show B16 (enF f (nbF n))from enR_lt hf (nbF_lt hn) 10)
 clear hf hn
 go_enter Tryz.func90,Tryz.ntmps90
 go_upto_region 1 with fail
 rw [←hw1,←hw2,←hw3]
 clear hw1 hw2 hw3
 try simp only [Nat.add_assoc,Nat.reduceAdd]
 obtain⟨gK,hgK⟩:=Le (w.heap.size+1)
 rw [hgK]at hKw3
 obtain⟨gR,hgR⟩:=Le (w.heap.size+2)
 rw [hgR]at hRw3
 try rw [hgR]
 try rw [hgK]
 have hlK:w.heap.size<gK:=by omega
 have hlR:gK<gR:=by omega
 clear hs1 hs2 hs3 hgK hgR
 refine wp_region_noPanic ?_
 have hRad:=hRw3.drew
 refine wp_region_held_drew (S:=fun W=>Ar W w.heap.size 432 (pkF (ek f) sb)∧Ar W gK 12 (n)∧Below w.heap.size w W) (by kernel_rfl) ⟨hEw3.drew,hKw3.drew,hBw3.drew⟩ (fun hH'=> ?_)
 clear hEw3 hKw3 hBw3 hRw3
 generalize World.drew w3=ad at*
 refine tk 0 (.agg (arL 432 (pkF (ek f) sb)).toArray) rfl (yieldsIf_load_mid (by rfl) _ _ rfl w.heap.size (0) rfl (arL 432 (pkF (ek f) sb)) _ (fun W hSw=>hSw.1.range) HS.out HW.out (sizeK _)) ?_
 simp only [Act.put,nrm]
 refine tk 1 (.agg (arL 12 (n)).toArray) rfl (yieldsIf_load_mid (by rfl) _ _ rfl gK (0) rfl (arL 12 (n)) _ (fun W hSw=>hSw.2.1.range) Tryz.arr12 rfl (size12 _)) ?_
 simp only [Act.put,nrm]
 refine tk 4 (.agg (arL 12 (n)).toArray) rfl (yieldsIf_load_mid (by rfl) _ _ rfl gK (0) rfl (arL 12 (n)) _ (fun W hSw=>hSw.2.1.range) Tryz.arr12 rfl (size12 _)) ?_
 simp only [Act.put,nrm]
 refine rd 2 rfl (fun K hK=> ?_)
 go_simp
 refine(rtop f n _ HF.out HN.out).mono ?_
 rintro e a1 ⟨rfl,hq⟩
 go_wp2_with fail
 have hRa1:=hRad.t hq
 refine hK.out _ _ ⟨hH'.1.t hq,hH'.2.1.t hq,Tq hH'.2.2 hq⟩ ?_
 clear hK K hH' hq hRad
 intro hH'
 try simp only [Act.put,nrm]
 refine rd 3 rfl (fun K hK=> ?_)
 go_simp
 refine(rstretch (enF f (nbF n)) _ HTL.out).mono ?_
 rintro e a2 ⟨rfl,hq⟩
 go_wp2_with fail
 have hRa2:=hRa1.t hq
 refine hK.out _ _ ⟨hH'.1.t hq,hH'.2.1.t hq,Tq hH'.2.2 hq⟩ ?_
 clear hK K hH' hq hRa1
 intro hH'
 try simp only [Act.put,nrm]
 refine rd 5 rfl (fun K hK=> ?_)
 go_simp
 refine(rbottom n _ HN.out).mono ?_
 rintro e a3 ⟨rfl,hq⟩
 go_wp2_with fail
 have hRa3:=hRa2.t hq
 refine hK.out _ _ ⟨hH'.1.t hq,hH'.2.1.t hq,Tq hH'.2.2 hq⟩ ?_
 clear hK K hH' hq hRa2
 intro hH'
 try simp only [Act.put,nrm]
 refine rd 6 rfl (fun K hK=> ?_)
 go_simp
 refine(rshift (enF f (nbF n)) (n 11) _ HTL.out).mono ?_
 rintro e a4 ⟨rfl,hq⟩
 go_wp2_with fail
 have hRa4:=hRa3.t hq
 refine hK.out _ _ ⟨hH'.1.t hq,hH'.2.1.t hq,Tq hH'.2.2 hq⟩ ?_
 clear hK K hH' hq hRa3
 intro hH'
 try simp only [Act.put,nrm]
 refine rd 7 rfl (fun K hK=> ?_)
 rw [if_pos (by rfl)]
 refine wp_store_mid _ _ _ rfl gR 0 (arL 16 (o0F (enF f (nbF n)) (n 11))).toArray rfl rfl hRa4.there (size16b _) (all_oneCell_toArray (arL_one 16 (o0F (enF f (nbF n)) (n 11)))) ?_
 have hRa5:=hRa4.whole (o0F (enF f (nbF n)) (n 11))
 dsimp only [List.toList_toArray]
 refine hK.out _ _ ⟨(hH'.1).apart (b:=gR) (by omega) (arL 16 (o0F (enF f (nbF n)) (n 11))) 0,(hH'.2.1).apart (b:=gR) (by omega) (arL 16 (o0F (enF f (nbF n)) (n 11))) 0,(hH'.2.2).trans (Below.setCells (Below.refl w.heap.size _) (b:=gR) (by omega) (arL 16 (o0F (enF f (nbF n)) (n 11))) 0)⟩ ?_
 clear hK K hH' hRa4
 intro hH'
 generalize World.setCells a4 gR 0 (arL 16 (o0F (enF f (nbF n)) (n 11)))=a5 at*
 try simp only [Act.put]
 refine wpAnyH_done (by kernel_rfl) ?_ _
 have hR9:=hRa5
 have hB9:=hH'.2.2
 clear hH' hRa5
 refine NoPanic.normal ?_
 go_wp2_with fail
 refine bodyPost_ret_ar rfl rfl hR9 Tryz.arr16b (size16b _) rfl ⟨rfl,hB9⟩
theorem wrap_u (k:Nat) (h:k<9223372036854775808):IntKind.u64.wrap (k:Int)=(k:Int):=by rw [IntKind.wrap_u64];omega
end
end Go.Proofs.YtiacbphnclgikaaGreatDoor
