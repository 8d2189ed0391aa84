/-
 Contracts of packages bits and stamp and of their reference packages; errors that are codes, by walks through their texts; what was there stays as it was.
-/
import Derived.Test.YtdaiacmneopkgaaGreatDoorFre
namespace Go.Proofs.YtdaiacmneopkgaaGreatDoor
set_option linter.unusedSimpArgs false
set_option linter.unusedVariables false
set_option maxRecDepth 100000
set_option maxHeartbeats 1600000
section
section
open Go.RowKit
theorem yu {k:IntKind} {a b:Int} (h:a=b):Ending.returned (.int k a)= .returned (.int k b):=by rw [h]
theorem LC {a b:Bool} (h:a=b):Ending.returned (.bool a)= .returned (.bool b):=by rw [h]
theorem Pj {k:IntKind} {a b:Int} (h:a=b):Value.int k a= .int k b:=by rw [h]
theorem Si (l:List UInt8) (k:Nat) (h:k<l.length):l.take (k+1)=l.take k++ [l[k]?.getD 0]:=by
 rw [List.take_succ_eq_append_getElem h];simp [List.getElem?_eq_getElem h]
theorem ahG (x:Nat) (b:UInt8) (hx:x<18446744073709551616):IntKind.u64.wrap (IntKind.u64.wrap ((x:Int)*256)+IntKind.u64.wrap (b.toNat:Int))=((x*256+b.toNat)%18446744073709551616:Nat):=by
 have:=b.toNat_lt;simp only [IntKind.wrap_u64];omega
theorem aby (A:Option Addr) (n c:Nat) (l:List UInt8) (w:World) (h:Sl w w.heap.size A n l) (hn:n<=140737488351232):
  Calls Tryz.prog 62 #[.slice A n c] w λe w'=>e= .returned (.int .u64 (num l:Nat))/\w'=w:=by
 go_enter Tryz.func62,Tryz.ntmps62;go_wp2
 go_loop [3,4] (λx i=> ∃k:Nat,k<=n/\i= .int .i64 k/\x= .int .u64 (num (l.take k):Nat)) (λ_ i=>n-(intOf i).toNat)
 case atStart=>exact⟨0,Nat.zero_le _,rfl,rfl⟩
 case round=>
  obtain⟨k,hk,rfl,rfl⟩:=hrel;by_cases hlt:k<n
  ·obtain⟨b,off,rfl,hb,hc⟩:=h.at_ hlt;have hm:=LD (l.take k);have hs:=Hi ((ahG (num (l.take k)) (l[k]?.getD 0) hm).trans (congrArg Nat.cast (VH l k (by have:=h.len;omega)).symm));go_wp2;go_round;case rel=>exact⟨k+1,by omega,by go_num,Pj hs.out⟩
   case measure=>simp [intOf];omega
  ·have he:=Hi (show l.take k=l from List.take_of_length_le (by have:=h.len;omega));go_wp2;go_ret;exact⟨yu (by rw [he.out]),rfl⟩
theorem abz (x:Nat) (b:UInt8) (hx:x<18446744073709551616):bits .or .u64 (IntKind.u64.wrap ((x:Int)*256)) (IntKind.u64.wrap (b.toNat:Int))=((x*256+b.toNat)%18446744073709551616:Nat):=by
 have hb:=b.toNat_lt;have e1:IntKind.u64.wrap ((x:Int)*256)=((x*256%18446744073709551616:Nat):Int):=by rw [IntKind.wrap_u64];omega
 have e2:IntKind.u64.wrap (b.toNat:Int)=(b.toNat:Int):=by rw [IntKind.wrap_u64];omega
 rw [e1,e2,abA _ _ (Nat.mod_lt _ (by decide)) (by omega)];have e3:x*256%18446744073709551616=2^8*(x%72057594037927936):=by
  rw [show 18446744073709551616=256*72057594037927936 by decide,Nat.mul_comm x,Nat.mul_mod_mul_left]
 rw [e3,<-Nat.two_pow_add_eq_or_of_lt (by simpa using hb)];congr 1;rw [<-e3];omega
theorem ahH (A:Option Addr) (n c:Nat) (l:List UInt8) (w:World) (h:Sl w w.heap.size A n l) (hn:n<=8):
  Calls Tryz.prog 129 #[.slice A n c] w λe w'=>e= .returned (.int .u64 (num l:Nat))/\w'=w:=by
 go_enter Tryz.func129,Tryz.ntmps129;go_wp2;all_goals
  go_loop [4,14] (λx i=> ∃k:Nat,k<=n/\i= .int .i64 k/\x= .int .u64 (num (l.take k):Nat)) (λ_ i=>n-(intOf i).toNat)
  case atStart=>exact⟨0,Nat.zero_le _,rfl,rfl⟩
  case round=>
   obtain⟨k,hk,rfl,rfl⟩:=hrel;by_cases hlt:k<n
   ·obtain⟨b,off,rfl,hb,hc⟩:=h.at_ hlt;have hm:=LD (l.take k);have hs:=Hi ((abz (num (l.take k)) (l[k]?.getD 0) hm).trans (congrArg Nat.cast (VH l k (by have:=h.len;omega)).symm));go_wp2;go_round;case rel=>exact⟨k+1,by omega,by go_num,Pj hs.out⟩
    case measure=>simp [intOf];omega
   ·have he:=Hi (show l.take k=l from List.take_of_length_le (by have:=h.len;omega));go_wp2;go_ret;exact⟨yu (by rw [he.out]),rfl⟩
theorem ahI (A:Option Addr) (n c:Nat) (l:List UInt8) (w:World) (h:Sl w w.heap.size A n l) (hn:8<n) (hm:n<=140737488351232) (hc:n<=c):
  Calls Tryz.prog 129 #[.slice A n c] w λe w'=>e= .returned (.int .u64 (num l:Nat))/\w'=w:=by
 have hd:=Hi (ahJ l);have hlen:=h.len;obtain⟨b,off,rfl,hb,hcells⟩:=h.2 (by omega);clear h;obtain⟨m,rfl⟩: ∃m,n=m+8:=⟨n-8,by omega⟩;have hS:Sl w w.heap.size (some ⟨b,off+m,none⟩) 8 (l.drop m):=by
  refine⟨by simp;omega,λ_=>⟨b,off+m,rfl,hb,λj u hu=> ?_⟩⟩;rw [List.getElem?_drop]at hu;rw [Nat.add_assoc];exact hcells _ u hu
 clear hcells;have hdd:Hid (num (l.drop m)=num l):=by
  have:=hd.out;rw [hlen,show m+8-8=m by omega]at this;exact this
 clear hd hlen;generalize l.drop m=r at*;have EJ: ¬c=m:=by omega
 have Vv:(0:Int)<(m:Int):=by omega
 have BJ: ¬m=0:=by omega
 go_enter Tryz.func129,Tryz.ntmps129;go_wp2
 go_loop [4,14] (λx i=> ∃k:Nat,k<=8/\i= .int .i64 k/\x= .int .u64 (num (r.take k):Nat)) (λ_ i=>8-(intOf i).toNat)
 case atStart=>exact⟨0,Nat.zero_le _,rfl,rfl⟩
 case round=>
  obtain⟨k,hk,rfl,rfl⟩:=hrel;by_cases hlt:k<8
  ·obtain⟨b1,X0,e1,au,EJ⟩:=hS.at_ hlt;injection e1 with e1;injection e1 with e1 e2;subst e1 e2;have hm:=LD (r.take k);have hs:=Hi ((abz (num (r.take k)) (r[k]?.getD 0) hm).trans (congrArg Nat.cast (VH r k (by have:=hS.len;omega)).symm));go_wp2;go_round;case rel=>exact⟨k+1,by omega,by go_num,Pj hs.out⟩
   case measure=>simp [intOf];omega
  ·have he:=Hi (show r.take k=r from List.take_of_length_le (by have:=hS.len;omega));go_wp2;go_ret;exact⟨yu (by rw [he.out,hdd.out]),rfl⟩
theorem number (A:Option Addr) (n c:Nat) (l:List UInt8) (w:World) (h:Sl w w.heap.size A n l) (hm:n<=140737488351232) (hc:n<=c):
  Calls Tryz.prog 129 #[.slice A n c] w λe w'=>e= .returned (.int .u64 (num l:Nat))/\w'=w:=by
 rcases Nat.lt_or_ge 8 n with h8|h8
 ·exact ahI A n c l w h h8 hm hc
 ·exact ahH A n c l w h h8
end
section
open Go.RowKit
theorem Sj:(Tryz.prog.info? 5).map (λi=>(i.zero,i.size,i.bytes))=some (some (.int .u8 0),1,1):=by kernel_rfl
def Own (w:World) (B:Nat) (A:Option Addr) (n c:Nat) (l:List UInt8):Prop:=w.ownsRow B 5 1 (.slice A n c) n (l.map b8)
theorem Own.sl {w:World} {B:Nat} {A:Option Addr} {n c:Nat} {l:List UInt8} (h:Own w B A n c l):Sl w w.heap.size A n l:=Sl.jk h
theorem Own.cap {w:World} {B:Nat} {A:Option Addr} {n c:Nat} {l:List UInt8} (h:Own w B A n c l):n<=c/\c<=maxLen:=Af h
theorem ahK (y:Nat):((y:Int)%256)=((UInt8.ofNat y).toNat:Int):=by
 have e:(UInt8.ofNat y).toNat=y%256:=UInt8.toNat_ofNat';rw [e];omega
theorem ahL {w wr w1:World} {B x k c:Nat} {A:Option Addr} {v1:Value} {q:Int} (hq:q=((UInt8.ofNat (x/256^k)).toNat:Int))
  (hown:Own wr B A k c (fH x k)) (hbel:Below B w wr) (hB:B<=wr.heap.size)
  (EM:w1.ownsRow B 5 1 v1 (1+k) (#[Value.int .u8 q].toList++(fH x k).map b8))
  (ym:(wr.alloc (.cells #[Value.int .u8 q] 5)).grownBy w1 (Value.slice (some ⟨wr.heap.size,0,none⟩) 1 1).ownBlock):
  ∃(A1:Option Addr) (c1:Nat),v1= .slice A1 (k+1) c1/\Own w1 B A1 (k+1) c1 (fH x (k+1))/\Below B w w1:=by
 rw [Nat.add_comm 1 k]at EM;obtain⟨A1,c1,rfl⟩:=su EM;refine⟨A1,c1,rfl,?_,(hbel.alloc hB _).grown ym (by simp;omega) (λg hg=> ?_)⟩
 ·subst hq;exact EM
 ·simp [Value.ownBlock]at hg;omega
theorem abB (x:Nat) (m:Int) (w:World) (hx:x<18446744073709551616) (hm: -9223372036854775808<=m/\m<=9223372036854775807):
  Calls Tryz.prog 123 #[.int .u64 x,.int .i64 m] w λe w'=>
   ∃A c,e= .returned (.slice A (min m.toNat 8) c)/\Own w' w.heap.size A (min m.toNat 8) c (fH x (min m.toNat 8))/\Below w.heap.size w w':=by
 obtain⟨i0,cu,bJ,bE,dx⟩:=info_parts Sj;have hzs:(Value.int .u8 0).cells.size=1:=rfl;generalize ht:min m.toNat 8=t;have Ht:=Hi ht;clear ht;go_enter Tryz.func123,Tryz.ntmps123;go_wp2;go_loopw [0,5,6] (λy v i wr=> ∃(k q:Nat) (A:Option Addr) (c:Nat),k<=t/\i= .int .i64 k/\y= .int .u64 (q:Int)/\Hid (q=x/256^k)/\q<18446744073709551616/\v= .slice A k c/\Own wr w.heap.size A k c (fH x k)/\Below w.heap.size w wr) (λ_ _ i _=>8-(intOf i).toNat);case atStart=>exact⟨0,x,none,0,Nat.zero_le _,rfl,rfl,Hi (by simp),hx,rfl,World.ownsRow_nil _ _ _ _,Below.refl _ _⟩
 case round=>
  obtain⟨k,q,A,c,hk,rfl,rfl,hq,iX,rfl,hown,hbel⟩:=hrel;have hsl:=hown.sl;by_cases hlt:k<t
  ·have yZ:(k:Int)<m:=(by have:=Ht.out;omega);have nJ:(k:Int)<8:=(by have:=Ht.out;omega);have hc:=Hi (ahK q);have hB:=hbel.size;clear hx hm;go_wp2_with (at_builtin;refine Vx _ rfl (.tmp 19) (.tmp 20) _ rfl w.heap.size 5 i0 _ Tryz.underlying45 cu bJ bE dx hzs _ 1 _ rfl (World.ownsRow_lit wr _ 1 hB (by simp [maxLen]) rfl) wr.heap.size A k c (fH x k) rfl (hsl.alloc (Nat.le_refl _) _) (by omega) (by simp;omega) ?_;intro v1 w1 EM ym abn);obtain⟨A1,c1,rfl,Gx,XX⟩:=ahL (hc.out.trans (by rw [hq.out])) hown hbel hB EM ym;go_roundw;case rel=>exact⟨k+1,q/256,A1,c1,by omega,by go_num,by simp,Hi (by rw [Nat.pow_succ,<-Nat.div_div_eq_div_mul,<-hq.out]),by omega,rfl,Gx,XX⟩
   case measure=>simp [intOf];omega
  ·obtain rfl:k=t:=by omega
   by_cases Vv:m<=8
   ·have yZ: ¬(k:Int)<m:=(by have:=Ht.out;omega);go_wp2;go_ret;exact⟨A,c,rfl,hown,hbel⟩
   ·have yZ:(k:Int)<m:=(by have:=Ht.out;omega);have nJ: ¬(k:Int)<8:=(by have:=Ht.out;omega);go_wp2;go_ret;exact⟨A,c,rfl,hown,hbel⟩
theorem abC (q k:Nat):(q:Int)/2^(8*k)%256=((UInt8.ofNat (q/256^k)).toNat:Int):=by
 have e:(UInt8.ofNat (q/256^k)).toNat=q/256^k%256:=UInt8.toNat_ofNat';have h:(2:Int)^(8*k)=((256^k:Nat):Int):=by
  rw [Int.natCast_pow,Int.pow_mul];congr 1
 rw [e,h,Int.natCast_emod,Int.natCast_ediv];rfl
def uR (w:World) (B:Nat) (a:Addr) (n:Nat) (l:List UInt8):Prop:=w.ownsRow B 5 1 (.slice (some ⟨a.block,0,none⟩) n n) n (l.map b8)
theorem uR.cell {w:World} {B g n:Nat} {l:List UInt8} (h:uR w B ⟨g,0,none⟩ n l) (j:Nat) (hj:j<n): ∃u,w.cell? ⟨g,j,none⟩=some u:=by
 have h1:(l.map b8).length=n:=by simpa using h.1
 refine⟨(l.map b8)[j]'(by omega),?_⟩;rw [World.ownsRow.cellAt h j (by omega),List.getElem?_eq_getElem]
theorem uR.frozen {w:World} {B g n:Nat} {l:List UInt8} (h:uR w B ⟨g,0,none⟩ n l) (j:Nat):w.frozen? ⟨g,j,none⟩=false:=World.ownsRow.frozenAt h j
theorem uR.own {w:World} {B g n:Nat} {l:List UInt8} (h:uR w B ⟨g,0,none⟩ n l):Own w B (some ⟨g,0,none⟩) n n l:=h
theorem uR.made {w:World} {B g n:Nat} (h:w.ownsRow B 5 1 (.slice (some ⟨g,0,none⟩) n n) n (madeCells (Value.int .u8 0).cells (n*1)).toList):uR w B ⟨g,0,none⟩ n (List.replicate n 0):=by
 have e:(madeCells (Value.int .u8 0).cells (n*1)).toList=(List.replicate n (0:UInt8)).map b8:=by
  rw [show(Value.int .u8 0).cells= #[Value.int .u8 0]from rfl,Nat.mul_one,toList_madeCells_one,List.map_replicate];rfl
 rw [e]at h;exact h
theorem uR.store {w:World} {B g n:Nat} {l:List UInt8} (h:uR w B ⟨g,0,none⟩ n l) (j:Nat) (u:UInt8):uR (w.setCell ⟨g,j,none⟩ (b8 u)) B ⟨g,0,none⟩ n (l.set j u):=by
 have:=(World.ownsRow.stored h j (b8 u)).1;unfold uR;rw [List.map_set];exact this
theorem abD (x t k:Nat) (hk:k<t):(List.replicate (t-k) (0:UInt8)++fH x k).set (t-1-k) (UInt8.ofNat (x/256^k))=List.replicate (t-(k+1)) 0++fH x (k+1):=by
 have e:t-k=(t-(k+1))+1:=by omega
 rw [e,List.replicate_succ',List.append_assoc,List.set_append_right _ _ (by simp;omega)];simp only [List.length_replicate,fH];rw [show t-1-k-(t-(k+1))=0 by omega];rfl
theorem ahM (x t:Nat) (w:World) (hx:x<18446744073709551616) (X3:0<t) (ht:t<=8):
  Calls Tryz.prog 118 #[.int .u64 x,.int .i64 t] w λe w'=>
   ∃A c,e= .returned (.slice A t c)/\Own w' w.heap.size A t c (fH x t)/\Below w.heap.size w w':=by
 obtain⟨i0,cu,bJ,bE,dx⟩:=info_parts Sj;have hz:=Hi (λw1=> @uR.made w1 w.heap.size w.heap.size t);go_enter Tryz.func118,Tryz.ntmps118;go_wp2_with (at_make;refine wpList_make_full _ rfl _ _ _ rfl w.heap.size 5 i0 _ 1 Tryz.underlying45 cu bJ bE _ _ _ _ t rfl rfl rfl rfl (by rw [dx];omega) (by simp only [maxLen];omega) (Nat.le_refl _) ?_;intro w1 hown ym);have XV:=hz.out _ hown;clear hown;go_loopw [13] (λi wr=> ∃k:Nat,k<=t/\i= .int .i64 k/\uR wr w.heap.size ⟨w.heap.size,0,none⟩ t (List.replicate (t-k) 0++fH x k)/\Below w.heap.size w wr) (λi _=>t-(intOf i).toNat);case atStart=>exact⟨0,Nat.zero_le _,rfl,by simpa [fH]using XV,(Below.refl _ _).grown ym (Nat.le_refl _) (λ_ h=>by cases h)⟩
 case round=>
  obtain⟨k,hk,rfl,hrow,hbel⟩:=hrel;by_cases hlt:k<t
  ·obtain⟨u,hcell⟩:=hrow.cell (t-1-k) (by omega);have hfr:=hrow.frozen (t-1-k);have hs:=Hi (abC x k);go_wp2;go_roundw;case rel=>
    have h2:=hrow.store (t-1-k) (UInt8.ofNat (x/256^k));rw [abD _ _ _ hlt]at h2;unfold b8 at h2;rw [<-hs.out]at h2;exact⟨k+1,by omega,by go_num,h2,hbel.setCell (Nat.le_refl _) _⟩
   case measure=>simp [intOf];omega
  ·obtain rfl:k=t:=by omega
   go_wp2;go_ret;have hrow:=hrow.own;rw [Nat.sub_self,List.replicate_zero,List.nil_append]at hrow;exact⟨_,_,rfl,hrow,hbel⟩
theorem ahN (x:Nat) (m:Int) (w:World) (hx:x<18446744073709551616) (hm:8<m) (Lf:m<=9223372036854775807):
  Calls Tryz.prog 118 #[.int .u64 x,.int .i64 m] w λe w'=>
   ∃A c,e= .returned (.slice A 8 c)/\Own w' w.heap.size A 8 c (fH x 8)/\Below w.heap.size w w':=by
 obtain⟨i0,cu,bJ,bE,dx⟩:=info_parts Sj;have hz:=Hi (λw1=> @uR.made w1 w.heap.size w.heap.size 8);go_enter Tryz.func118,Tryz.ntmps118;go_wp2_with (at_make;refine wpList_make_full _ rfl _ _ _ rfl w.heap.size 5 i0 _ 1 Tryz.underlying45 cu bJ bE _ _ _ _ 8 rfl rfl rfl rfl (by rw [dx];omega) (by simp only [maxLen];omega) (Nat.le_refl _) ?_;intro w1 hown ym);have XV:=hz.out _ hown;clear hown;go_loopw [13] (λi wr=> ∃k:Nat,k<=8/\i= .int .i64 k/\uR wr w.heap.size ⟨w.heap.size,0,none⟩ 8 (List.replicate (8-k) 0++fH x k)/\Below w.heap.size w wr) (λi _=>8-(intOf i).toNat);case atStart=>exact⟨0,Nat.zero_le _,rfl,by simpa [fH]using XV,(Below.refl _ _).grown ym (Nat.le_refl _) (λ_ h=>by cases h)⟩
 case round=>
  obtain⟨k,hk,rfl,hrow,hbel⟩:=hrel;by_cases hlt:k<8
  ·obtain⟨u,hcell⟩:=hrow.cell (8-1-k) (by omega);have hfr:=hrow.frozen (8-1-k);have hs:=Hi (abC x k);go_wp2;go_roundw;case rel=>
    have h2:=hrow.store (8-1-k) (UInt8.ofNat (x/256^k));rw [abD _ _ _ hlt]at h2;unfold b8 at h2;rw [<-hs.out]at h2;exact⟨k+1,by omega,by go_num,h2,hbel.setCell (Nat.le_refl _) _⟩
   case measure=>simp [intOf];omega
  ·obtain rfl:k=8:=by omega
   go_wp2;go_ret;have hrow:=hrow.own;rw [Nat.sub_self,List.replicate_zero,List.nil_append]at hrow;exact⟨_,_,rfl,hrow,hbel⟩
theorem ahO (x:Nat) (m:Int) (w:World) (hm:m<=0):
  Calls Tryz.prog 118 #[.int .u64 x,.int .i64 m] w λe w'=>
   ∃A c,e= .returned (.slice A 0 c)/\Own w' w.heap.size A 0 c (fH x 0)/\Below w.heap.size w w':=by
 obtain⟨i0,cu,bJ,bE,dx⟩:=info_parts Sj;have hz:=Hi (λw1=> @uR.made w1 w.heap.size w.heap.size 0);rcases Int.lt_or_eq_of_le hm with hm|rfl;all_goals
  go_enter Tryz.func118,Tryz.ntmps118;go_wp2_with (at_make;refine wpList_make_full _ rfl _ _ _ rfl w.heap.size 5 i0 _ 1 Tryz.underlying45 cu bJ bE _ _ _ _ 0 rfl rfl rfl rfl (by rw [dx];omega) (by simp only [maxLen];omega) (Nat.le_refl _) ?_;intro w1 hown ym);have XV:=hz.out _ hown;clear hown;refine wp_loop_rounds 1 ?_;rw [rounds_succ];go_wp2;go_ret;exact⟨_,_,rfl,XV,(Below.refl _ _).grown ym (Nat.le_refl _) (λ_ h=>by cases h)⟩
theorem bytes (x:Nat) (m:Int) (w:World) (hx:x<18446744073709551616) (hm: -9223372036854775808<=m/\m<=9223372036854775807):
  Calls Tryz.prog 118 #[.int .u64 x,.int .i64 m] w λe w'=>
   ∃A c,e= .returned (.slice A (min m.toNat 8) c)/\Own w' w.heap.size A (min m.toNat 8) c (fH x (min m.toNat 8))/\Below w.heap.size w w':=by
 by_cases h0:m<=0
 ·have e:min m.toNat 8=0:=by omega
  rw [e];exact ahO x m w h0
 ·by_cases h8:8<m
  ·have e:min m.toNat 8=8:=(by omega);rw [e];exact ahN x m w hx h8 hm.2
  ·obtain⟨t,rfl⟩:=Int.eq_ofNat_of_zero_le (show 0<=m by omega);have e:min ((t:Int)).toNat 8=t:=(by omega);rw [e];exact ahM x t w hx (by omega) (by omega)
end
section
open Go.RowKit
theorem ahP (A A':Option Addr) (n c c':Nat) (l l':List UInt8) (w:World) (h:Sl w w.heap.size A n l) (h':Sl w w.heap.size A' n l') (hn:n<=140737488351232):
  Calls Tryz.prog 14 #[.slice A n c,.slice A' n c'] w λe w'=>e= .returned (.bool (decide (l=l')))/\Dr w w':=by
 go_enter Tryz.func14,Tryz.ntmps14;go_wp2;go_loopw [5] (λi wr=> ∃k:Nat,k<=n/\i= .int .i64 k/\Hid (l.take k=l'.take k)/\ ∃q,wr=w.drewN q) (λi _=>n-(intOf i).toNat);case atStart=>exact⟨0,Nat.zero_le _,rfl,Hi (by simp),0,rfl⟩
 case round=>
  obtain⟨k,hk,rfl,heq,q,rfl⟩:=hrel;by_cases hlt:k<n
  ·obtain⟨b,off,rfl,hb,hc⟩:=h.at_ hlt;obtain⟨b',off',rfl,hb',hc'⟩:=h'.at_ hlt;by_cases hx:l[k]?.getD 0=l'[k]?.getD 0
   ·have hne:(((l[k]?.getD 0).toNat:Int) !=((l'[k]?.getD 0).toNat:Int))=false:=(by rw [hx];simp);have hnext:Hid (l.take (k+1)=l'.take (k+1)):=by
     unfold Hid;rw [Si l k (by have:=h.len;omega),Si l' k (by have:=h'.len;omega),heq.out,hx]
    clear hx;go_wp2
    go_quiet (fail)
    go_wp2;go_roundw;case rel=>exact⟨k+1,by omega,by go_num,hnext,_,rfl⟩
    case measure=>simp [intOf];omega
   ·have hne:(((l[k]?.getD 0).toNat:Int) !=((l'[k]?.getD 0).toNat:Int))=true:=by
     simp;intro e;exact hx (UInt8.toNat_inj.1 (by omega))
    have hno:Hid (decide (l=l')=false):=by
     unfold Hid;rw [decide_eq_false_iff_not];rintro rfl;exact hx rfl
    clear hx;go_wp2
    go_quiet (fail)
    go_wp2;go_ret;exact⟨LC hno.out.symm,Dr.more ⟨q,rfl⟩ _⟩
  ·have XY:Hid (decide (l=l')=true):=by
    unfold Hid;have h1:=heq.out;rw [List.take_of_length_le (by have:=h.len;omega),List.take_of_length_le (by have:=h'.len;omega)]at h1
    simpa using h1
   go_wp2;go_ret;exact⟨LC XY.out.symm,q,rfl⟩
theorem same (A A':Option Addr) (n m c c':Nat) (l l':List UInt8) (w:World) (h:Sl w w.heap.size A n l) (h':Sl w w.heap.size A' m l') (hn:n<=140737488351232) (hm:m<=140737488351232):
  Calls Tryz.prog 14 #[.slice A n c,.slice A' m c'] w λe w'=>e= .returned (.bool (decide (l=l')))/\Dr w w':=by
 by_cases he:n=m
 ·subst he;exact ahP A A' n c c' l l' w h h' hn
 ·have hne:((n:Int) !=(m:Int))=true:=by simp;omega
  have hno:Hid (decide (l=l')=false):=by
   unfold Hid;rw [decide_eq_false_iff_not];rintro rfl;exact he (h.len.symm.trans h'.len)
  go_enter Tryz.func14,Tryz.ntmps14;go_wp2;go_ret;exact⟨LC hno.out.symm,Dr.refl _⟩
theorem ahQ (a b:UInt8):(a^^^b).toNat=0↔a=b:=by
 constructor
 ·intro h;have h1:a^^^b=0:=UInt8.toNat_inj.1 (by simpa using h);have h2:(a^^^b)^^^b=0^^^b:=by rw [h1]
  simpa [UInt8.xor_assoc]using h2
 ·rintro rfl;simp
theorem ahR (d:Nat) (a b:UInt8) (hd:d<256): ∃d':Nat,d'<256/\bits .or .u8 (d:Int) (bits .xor .u8 (a.toNat:Int) (b.toNat:Int))=(d':Int)/\(d'=0↔d=0/\a=b):=by
 have hx:=(a^^^b).toNat_lt;refine⟨d|||(a^^^b).toNat,Nat.or_lt_two_pow (n:=8) hd hx,?_,?_⟩
 ·rw [ahS,Vy _ _ hd hx]
 ·rw [Nat.or_eq_zero_iff,ahQ]
theorem ahT (A A':Option Addr) (n c c':Nat) (l l':List UInt8) (w:World) (h:Sl w w.heap.size A n l) (h':Sl w w.heap.size A' n l') (hn:n<=140737488351232):
  Calls Tryz.prog 128 #[.slice A n c,.slice A' n c'] w λe w'=>e= .returned (.bool (decide (l=l')))/\Dr w w':=by
 go_enter Tryz.func128,Tryz.ntmps128;go_wp2;go_loopw [5,14] (λv i wr=> ∃k d:Nat,k<=n/\i= .int .i64 k/\v= .int .u8 d/\d<256/\Hid (d=0↔l.take k=l'.take k)/\ ∃q,wr=w.drewN q) (λ_ i _=>n-(intOf i).toNat);case atStart=>exact⟨0,0,Nat.zero_le _,rfl,rfl,by omega,Hi (by simp),0,rfl⟩
 case round=>
  obtain⟨k,d,hk,rfl,rfl,hd,heq,q,rfl⟩:=hrel;by_cases hlt:k<n
  ·obtain⟨b,off,rfl,hb,hc⟩:=h.at_ hlt;obtain⟨b',off',rfl,hb',hc'⟩:=h'.at_ hlt;obtain⟨d',hd',hs,hz⟩:=ahR d (l[k]?.getD 0) (l'[k]?.getD 0) hd;have hnext:Hid (d'=0↔l.take (k+1)=l'.take (k+1)):=by
    unfold Hid;rw [Si l k (by have:=h.len;omega),Si l' k (by have:=h'.len;omega),hz,heq.out];constructor
    ·rintro⟨h1,h2⟩;rw [h1,h2]
    ·intro h1;have h2:=List.append_inj h1 (by simp;have:=h.len;have:=h'.len;omega);exact⟨h2.1,by simpa using h2.2⟩
   clear hz;have Hs:=Hi hs;clear hs;go_wp2
   go_quiet (fail)
   go_wp2;go_roundw;case rel=>exact⟨k+1,d',by omega,by go_num,Pj Hs.out,hd',hnext,_,rfl⟩
   case measure=>simp [intOf];omega
  ·have hres:Hid (((d:Int)==0)=decide (l=l')):=by
    have h1:=heq.out;rw [List.take_of_length_le (by have:=h.len;omega),List.take_of_length_le (by have:=h'.len;omega)]at h1;unfold Hid;rw [Bool.eq_iff_iff];simp [<-h1]
   go_wp2;go_ret;exact⟨LC hres.out,q,rfl⟩
theorem equal (A A':Option Addr) (n m c c':Nat) (l l':List UInt8) (w:World) (h:Sl w w.heap.size A n l) (h':Sl w w.heap.size A' m l') (hn:n<=140737488351232) (hm:m<=140737488351232):
  Calls Tryz.prog 128 #[.slice A n c,.slice A' m c'] w λe w'=>e= .returned (.bool (decide (l=l')))/\Dr w w':=by
 by_cases he:n=m
 ·subst he;exact ahT A A' n c c' l l' w h h' hn
 ·have hne:((n:Int) !=(m:Int))=true:=by simp;omega
  have hno:Hid (decide (l=l')=false):=by
   unfold Hid;rw [decide_eq_false_iff_not];rintro rfl;exact he (h.len.symm.trans h'.len)
  go_enter Tryz.func128,Tryz.ntmps128;go_wp2;go_ret;exact⟨LC hno.out.symm,Dr.refl _⟩
theorem ahU (x k:Nat) (hx:x<18446744073709551616):bits .and .u64 ((x:Int)/2^k) 1=((x/2^k%2:Nat):Int):=by
 have e:(x:Int)/2^k=((x/2^k:Nat):Int):=by simp
 rw [e,VI _ (Nat.lt_of_le_of_lt (Nat.div_le_self _ _) hx)]
theorem zeros (x:Nat) (w:World) (hx:x<18446744073709551616):
  Calls Tryz.prog 213 #[.int .u64 x] w λe w'=>e= .returned (.int .i64 (jF x:Nat))/\w'=w:=by
 go_enter Tryz.func213,Tryz.ntmps213;go_wp2
 go_loop [4] (λi=> ∃k:Nat,k<=64/\i= .int .i64 k/\Hid (∀j,j<k->x/2^j%2=0)) (λi=>64-(intOf i).toNat)
 case atStart=>exact⟨0,Nat.zero_le _,rfl,Hi (λj h=>absurd h (Nat.not_lt_zero _))⟩
 case round=>
  obtain⟨k,hk,rfl,hz⟩:=hrel;by_cases hlt:k<64
  ·have hb:=ahU x k hx;by_cases h1:x/2^k%2=1
   ·have ht:(bits .and .u64 ((x:Int)/2^k) 1==1)=true:=(by rw [hb,h1];rfl);have hr:=Hi (Sk x k (by omega) hz.out (λ_=>h1));clear hb h1;go_wp2;go_ret;exact⟨yu (by rw [hr.out]),rfl⟩
   ·have h0:x/2^k%2=0:=(by omega);have ht:(bits .and .u64 ((x:Int)/2^k) 1==1)=false:=(by rw [hb,h0];rfl);have hz':Hid (∀j,j<k+1->x/2^j%2=0):=by
     unfold Hid;intro j hj;rcases Nat.lt_or_ge j k with h2|h2
     ·exact hz.out j h2
     ·obtain rfl:j=k:=by omega
      exact h0
    clear hb h1 h0;go_wp2;go_round;case rel=>exact⟨k+1,by omega,by go_num,hz'⟩
    case measure=>simp [intOf];omega
  ·have hr:Hid (jF x=64):=by
    obtain rfl:k=64:=by omega
    exact Hi (Sk x 64 (by omega) hz.out (λh=>absurd h (by omega)))
   go_wp2;go_ret;exact⟨yu (by rw [hr.out];rfl),rfl⟩
theorem agE (x:Nat) (w:World) (hx:x<18446744073709551616):
  Calls Tryz.prog 194 #[.int .u64 x] w λe w'=>e= .returned (.int .i64 (jF x:Nat))/\w'=w:=by
 go_enter Tryz.func194,Tryz.ntmps194;go_wp2
 go_loop [0,3] (λy i=> ∃k q:Nat,k<=64/\i= .int .i64 k/\y= .int .u64 q/\q<18446744073709551616/\Hid (q=x/2^k)/\Hid (∀j,j<k->x/2^j%2=0)) (λ_ i=>64-(intOf i).toNat)
 case atStart=>exact⟨0,x,Nat.zero_le _,rfl,rfl,hx,Hi (by simp),Hi (λj h=>absurd h (Nat.not_lt_zero _))⟩
 case round=>
  obtain⟨k,q,hk,rfl,rfl,hq,XW,hz⟩:=hrel;by_cases hlt:k<64
  ·by_cases h1:q%2=1
   ·have ht:((q:Int)%2==0)=false:=(by simp;omega);have hr:=Hi (Sk x k (by omega) hz.out (λ_=>by rw [<-XW.out];exact h1));clear h1;go_wp2;go_ret;exact⟨yu (by rw [hr.out]),rfl⟩
   ·have ht:((q:Int)%2==0)=true:=(by simp;omega);have hz':Hid (∀j,j<k+1->x/2^j%2=0):=by
     unfold Hid;intro j hj;rcases Nat.lt_or_ge j k with h2|h2
     ·exact hz.out j h2
     ·obtain rfl:j=k:=by omega
      rw [<-XW.out];omega
    have hq':Hid (q/2=x/2^(k+1)):=by
     unfold Hid;rw [Nat.pow_succ,<-Nat.div_div_eq_div_mul,<-XW.out]
    clear h1;go_wp2;go_round;case rel=>exact⟨k+1,q/2,by omega,by go_num,Pj (by simp),by omega,hq',hz'⟩
    case measure=>simp [intOf];omega
  ·have hr:Hid (jF x=64):=by
    obtain rfl:k=64:=by omega
    exact Hi (Sk x 64 (by omega) hz.out (λh=>absurd h (by omega)))
   have XZ:Hid (k=64):=Hi (by omega);go_wp2;go_ret;exact⟨yu (by rw [hr.out,XZ.out]),rfl⟩
end
end
section
open Go.RowKit
def ll (C:Nat):Value:=if C=0 then .nilIface else .iface 61 (.int .i64 (C:Int))
theorem zQ {C:Nat} (h:C=0):ll C= .nilIface:=if_pos h
theorem pU {C:Nat} (h:C≠0):ll C= .iface 61 (.int .i64 (C:Int)):=if_neg h
theorem ali (t:Nat) (v:Value) (w:World):(binOp .eql 29 (.iface t v) .nilIface).run Tryz.prog w= .ok (.bool false) w:=by
 have h: ∀d:Nat,(Op.equalIn (d+1) 29 (.iface t v) .nilIface).run Tryz.prog w= .ok false w:=λd=>by simp [Op.equalIn,run_underlying Tryz.underlying29]
 simp only [binOp];simp [Op.equal,Op.maxDepth,h 9999]
theorem adp (t:Nat) (v:Value) (w:World):(binOp .eql 29 .nilIface (.iface t v)).run Tryz.prog w= .ok (.bool false) w:=by
 have h: ∀d:Nat,(Op.equalIn (d+1) 29 .nilIface (.iface t v)).run Tryz.prog w= .ok false w:=λd=>by simp [Op.equalIn,run_underlying Tryz.underlying29]
 simp only [binOp];simp [Op.equal,Op.maxDepth,h 9999]
theorem DZ (t:Nat) (v:Value) (w:World):(binOp .neq 29 (.iface t v) .nilIface).run Tryz.prog w= .ok (.bool true) w:=by
 have h: ∀d:Nat,(Op.equalIn (d+1) 29 (.iface t v) .nilIface).run Tryz.prog w= .ok false w:=λd=>by simp [Op.equalIn,run_underlying Tryz.underlying29]
 simp only [binOp];simp [Op.equal,Op.maxDepth,h 9999]
theorem adq (c x:Int) (w:World):(binOp .eql 29 (.iface 61 (.int .i64 c)) (.iface 61 (.int .i64 x))).run Tryz.prog w= .ok (.bool (decide (c=x))) w:=by
 obtain⟨i,hi,hcmp⟩:=Option.map_eq_some_iff.1 (show(Tryz.prog.info? 61).map (·.comparable)=some true by kernel_rfl);have h: ∀d:Nat,(Op.equalIn (d+2) 29 (.iface 61 (.int .i64 c)) (.iface 61 (.int .i64 x))).run Tryz.prog w= .ok (decide (c=x)) w:=λd=>by
  simp [Op.equalIn,run_underlying Tryz.underlying29,run_underlying Tryz.underlying61,typeInfo,hi,hcmp];rfl
 simp only [binOp];simp [Op.equal,Op.maxDepth,h 9998]
theorem Wl (c:Int) (w:World):(binOp .eql 29 (.iface 61 (.int .i64 c)) (.iface 61 (.int .i64 c))).run Tryz.prog w= .ok (.bool true) w:=by
 rw [adq,decide_eq_true rfl]
theorem zh (C D:Nat) (w:World):
  Calls Tryz.prog 15 #[ll C,.int .i64 (D:Int)] w λe w'=>e= .returned (.bool (decide (C=D)))/\w'=w:=by
 have h3:=ali 61 (.int .i64 (C:Int)) w;have h4:=adp 61 (.int .i64 (IntKind.i64.wrap (D:Int))) w;have h5:=adq (C:Int) (D:Int) w;by_cases hC:C=0
 ·subst hC;rw [zQ rfl];by_cases hD:D=0
  ·subst hD;go_enter Tryz.func15,Tryz.ntmps15;go_wp2_with fail;go_ret;exact⟨rfl,rfl⟩
  ·have i1:((D:Int)==0)=false:=(by simp [hD]);have i2:((D:Int) !=0)=true:=(by simp [hD]);rw [decide_eq_false (λe=>hD e.symm)];have h6:=adp 61 (.int .i64 (D:Int)) w;clear hD h4 h5 h3;go_enter Tryz.func15,Tryz.ntmps15;go_wp2_with fail;go_ret;exact⟨rfl,rfl⟩
 ·rw [pU hC];by_cases hD:D=0
  ·subst hD;rw [decide_eq_false hC];clear hC h4 h5;go_enter Tryz.func15,Tryz.ntmps15;go_wp2_with fail;go_ret;exact⟨rfl,rfl⟩
  ·have i1:((D:Int)==0)=false:=(by simp [hD]);have i2:((D:Int) !=0)=true:=(by simp [hD]);rw [show decide ((C:Int)=(D:Int))=decide (C=D)from decide_eq_decide.2 Int.ofNat_inj]at h5;obtain⟨b,hb⟩: ∃b,decide (C=D)=b:=⟨_,rfl⟩;rw [hb]at h5⊢;clear hC hD h4 h3 hb;go_enter Tryz.func15,Tryz.ntmps15;go_wp2_with fail;go_ret;exact⟨rfl,rfl⟩
end
section
open Go.RowKit
def rD (a b:Nat):Nat:=(a+65536-b)%65536
def xz (a h:Nat):Nat:=if 1000<h then 65535 else(a+h)%65536
def Lr (x e:Nat):Nat:=if e=65535 then 0 else rD x e
theorem VF (a b:Nat):rD a b<65536:=Nat.mod_lt _ (by decide)
theorem aj6 (a h:Nat):xz a h<65536:=by unfold xz;split<;>omega
theorem akD {a b:Nat} (ha:a<65536) (hb:b<65536):IntKind.u16.wrap ((a:Int)-b)=((rD a b:Nat):Int):=by
 unfold rD;rw [IntKind.wrap_u16];omega
theorem akE (a:Nat):IntKind.u16.wrap (a:Int)=((a%65536:Nat):Int):=by rw [IntKind.wrap_u16];omega
theorem VE (a:Nat) (w:World) (ha:a<18446744073709551616):
  Calls Tryz.prog 43 #[.int .u64 (a:Int)] w λe w'=>e= .returned (.int .u16 (a%65536:Nat))/\w'=w:=by
 have h:=Hi (akE a);go_enter Tryz.func43,Tryz.ntmps43;go_wp2;go_ret;exact⟨yu h.out,rfl⟩
theorem Wt (a:Nat) (w:World) (ha:a<18446744073709551616):
  Calls Tryz.prog 46 #[.int .u64 (a:Int)] w λe w'=>e= .returned (.int .i64 (a%65536:Nat))/\w'=w:=by
 go_enter Tryz.func46,Tryz.ntmps46;go_wp2;go_ret;exact⟨yu (by omega),rfl⟩
theorem akF (a b:Nat) (w:World) (ha:a<65536) (hb:b<65536):
  Calls Tryz.prog 131 #[.int .u16 (a:Int),.int .u16 (b:Int)] w λe w'=>e= .returned (.int .u16 (rD a b:Nat))/\w'=w:=by
 have h:=Hi (akD ha hb);go_enter Tryz.func131,Tryz.ntmps131;go_wp2;go_ret;exact⟨yu h.out,rfl⟩
theorem akG (a b:Nat) (w:World) (ha:a<65536) (hb:b<65536):
  Calls Tryz.prog 103 #[.int .i64 (a:Int),.int .i64 (b:Int)] w λe w'=>e= .returned (.int .i64 (rD a b:Nat))/\w'=w:=by
 have h:=Hi (show((a:Int)-b+65536)%65536=((rD a b:Nat):Int)by unfold rD;omega);go_enter Tryz.func103,Tryz.ntmps103;go_wp2;go_ret;exact⟨yu h.out,rfl⟩
theorem aka (a x:Nat) (w:World) (ha:a<65536) (hx:x<18446744073709551616):
  Calls Tryz.prog 87 #[.int .u16 (a:Int),.int .u64 (x:Int)] w λe w'=>e= .returned (.int .u16 (xz a x:Nat))/\w'=w:=by
 by_cases hc:1000<x
 ·have e:xz a x=65535:=by unfold xz;rw [if_pos hc]
  rw [e];clear e;go_enter Tryz.func87,Tryz.ntmps87;go_wp2_with fail;go_ret;exact⟨rfl,rfl⟩
 ·have e:IntKind.u16.wrap ((a:Int)+((x%65536:Nat):Int))=((xz a x:Nat):Int):=by unfold xz;rw [if_neg hc,IntKind.wrap_u16];omega
  have h:=Hi e;clear e;go_enter Tryz.func87,Tryz.ntmps87;go_wp2_with fail;refine(VE x _ hx).mono ?_;rintro e w' ⟨rfl,rfl⟩;go_wp2_with fail;go_ret;exact⟨yu h.out,rfl⟩
theorem akH (a x:Nat) (w:World) (ha:a<65536) (hx:x<18446744073709551616):
  Calls Tryz.prog 88 #[.int .i64 (a:Int),.int .u64 (x:Int)] w λe w'=>e= .returned (.int .i64 (xz a x:Nat))/\w'=w:=by
 by_cases hc:1000<x
 ·have e:xz a x=65535:=by unfold xz;rw [if_pos hc]
  rw [e];clear e;go_enter Tryz.func88,Tryz.ntmps88;go_wp2_with fail;go_ret;exact⟨rfl,rfl⟩
 ·have h:=Hi (show((a:Int)+(x:Int))%65536=((xz a x:Nat):Int)by unfold xz;rw [if_neg hc];omega);go_enter Tryz.func88,Tryz.ntmps88;go_wp2_with fail;go_ret;exact⟨yu h.out,rfl⟩
theorem ai3 (x e:Nat) (w:World) (hx:x<65536) (he:e<65536):
  Calls Tryz.prog 58 #[.int .i64 (x:Int),.int .i64 (e:Int)] w λr w'=>r= .returned (.int .i64 (if e=65535 then-1 else(rD x e:Nat)))/\w'=w:=by
 by_cases h0:e=65535
 ·subst h0;rw [if_pos rfl];go_enter Tryz.func58,Tryz.ntmps58;go_wp2_with fail;go_ret;exact⟨rfl,rfl⟩
 ·rw [if_neg h0];go_enter Tryz.func58,Tryz.ntmps58;go_wp2_with fail;refine(akG x e _ hx he).mono ?_;rintro r w' ⟨rfl,rfl⟩;go_wp2_with fail;go_ret;exact⟨rfl,rfl⟩
end
section
open Go.RowKit
theorem aeh (b e:Nat) (w:World) (h:w.cell? ⟨b,0,none⟩=some (.int .u16 (e:Int))):
  Calls Tryz.prog 130 #[.pointer (some ⟨b,0,none⟩)] w λr w'=>r= .returned (.bool (decide (e=65535)))/\w'=w:=by
 by_cases h0:e=65535
 ·subst h0;go_enter Tryz.func130,Tryz.ntmps130;go_wp2_with fail;go_ret;exact⟨rfl,rfl⟩
 ·have h1:((e:Int)==65535)=false:=by simp;omega
  go_enter Tryz.func130,Tryz.ntmps130;go_wp2_with fail;go_ret;exact⟨LC (by simp [h0]),rfl⟩
theorem ahB (x e:Nat) (w:World) (hx:x<65536) (he:e<65536):
  Calls Tryz.prog 99 #[.int .u16 (x:Int),.int .u16 (e:Int)] w λr w'=>r= .returned (.tuple #[.int .u16 (Lr x e:Nat),.bool (decide (e≠65535))])/\Below w.heap.size w w':=by
 have hw:(w.alloc (.cells #[.int .u16 (e:Int)] 64)).cell? ⟨w.heap.size,0,none⟩=some (.int .u16 (e:Int)):=World.cell?_alloc_at _ _ _ _ rfl;have hb:Below w.heap.size w (w.alloc (.cells #[.int .u16 (e:Int)] 64)):=(Below.refl _ _).alloc (Nat.le_refl _) _;by_cases h0:e=65535
 ·have e1:Lr x e=0:=by unfold Lr;rw [if_pos h0]
  have e2:decide (e≠65535)=false:=by simp [h0]
  have e3:decide (e=65535)=true:=by simp [h0]
  rw [e1,e2];clear h0 e1 e2;go_enter Tryz.func99,Tryz.ntmps99;go_wp2_with fail;refine(aeh _ e _ hw).mono ?_;rintro r w' ⟨rfl,rfl⟩;rw [e3];go_wp2_with fail;go_ret2;exact⟨rfl,hb⟩
 ·have e1:=Hi (show Lr x e=rD x e by unfold Lr;rw [if_neg h0]);have e2:decide (e≠65535)=true:=by simp [h0]
  have e3:decide (e=65535)=false:=by simp [h0]
  rw [e1.out,e2];clear h0 e1 e2;go_enter Tryz.func99,Tryz.ntmps99;go_wp2_with fail;refine(aeh _ e _ hw).mono ?_;rintro r w' ⟨rfl,rfl⟩;rw [e3];go_wp2_with fail;refine(akF x e _ hx he).mono ?_;rintro r w' ⟨rfl,rfl⟩;go_wp2_with fail;go_ret2;exact⟨rfl,hb⟩
end
end Go.Proofs.YtdaiacmneopkgaaGreatDoor
