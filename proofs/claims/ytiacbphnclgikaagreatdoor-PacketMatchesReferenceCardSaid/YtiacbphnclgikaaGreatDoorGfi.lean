/-
 Contracts of package field and of the reference package of layer 3, by walks through their texts, one after the other; what was there stays as it was.
-/
import Derived.Test.YtiacbphnclgikaaGreatDoorFre
import Derived.Deep.RegionHeld3
namespace Go.Proofs.YtiacbphnclgikaaGreatDoor
section
open Go.RowKit
set_option linter.unusedVariables false
def sumN (l:List UInt8):Nat:=l.foldl (fun x b=>x^^^b.toNat) 0
theorem sumN_snoc (l:List UInt8) (b:UInt8):sumN (l++ [b])=sumN l^^^b.toNat:=by unfold sumN;rw [List.foldl_append];rfl
theorem sumN_lt (l:List UInt8):sumN l<256:=by
 refine snoc_ind (P:=fun l=>sumN l<256) (by decide) (fun l a h=> ?_) l
 rw [sumN_snoc];exact xor_lt _ _ h a.toNat_lt
theorem sumN_take (l:List UInt8) (k:Nat) (h:k<l.length):bits .xor .u8 (sumN (l.take k):Nat) ((l[k]?.getD 0).toNat:Int)=(sumN (l.take (k+1)):Nat):=by
 rw [xor_n8 _ _ (sumN_lt _) (UInt8.toNat_lt _),List.take_succ_eq_append_getElem h,sumN_snoc]
 simp [List.getElem?_eq_getElem h]
set_option maxHeartbeats 400000 in
theorem fsum (A:Option Addr) (n c:Nat) (l:List UInt8) (w:World) (h:Sl w w.heap.size A n l) (hn:n≤140737488351232):
  Calls Tryz.prog 145 #[.slice A n c] w fun e w'=>e= .returned (.int .u8 (sumN l:Nat))∧w'=w:=by
 go_enter Tryz.func145,Tryz.ntmps145
 go_wp2
 go_loop [3,8] (fun x i=> ∃k:Nat,k≤n∧i= .int .i64 k∧x= .int .u8 (sumN (l.take k):Nat)) (fun _ i=>n-(intOf i).toNat)
 case atStart=>exact⟨0,Nat.zero_le _,rfl,rfl⟩
 case round=>
  obtain⟨k,hk,rfl,rfl⟩:=hrel
  by_cases hlt:k<n
  ·obtain⟨b,off,rfl,hb,hc⟩:=h.at_ hlt
   have hs:=Lib.hid (sumN_take l k (by have:=h.len;omega))
   go_wp2
   go_round
   case rel=>exact⟨k+1,by omega,by go_num,fval_of hs.out⟩
   case measure=>simp [intOf];omega
  ·have he:=Lib.hid (show l.take k=l from List.take_of_length_le (by have:=h.len;omega))
   go_wp2
   go_ret
   exact⟨fret_of (by rw [he.out]),rfl⟩
theorem dbl_low (a:Nat) (h:a<128):(a:Int)*2=(dbl a:Nat):=by
 have H: ∀a,a<128→dbl a=a*2:=by decide+kernel
 rw [H a h];omega
theorem dbl_high (a:Nat) (h:a<256) (h1:128≤a):bits .xor .u8 (IntKind.u8.wrap ((a:Int)*2)) 27=(dbl a:Nat):=by
 have e:IntKind.u8.wrap ((a:Int)*2)=((a*2-256:Nat):Int):=by rw [IntKind.wrap_u8];omega
 rw [e]
 have H: ∀a,a<256→128≤a→dbl a=(a*2-256)^^^27:=by decide+kernel
 rw [H a h h1]
 exact xor_n8 (a*2-256) 27 (by omega) (by omega)
set_option maxHeartbeats 400000 in
theorem fdouble (a:Nat) (w:World) (ha:a<256):
  Calls Tryz.prog 102 #[.int .u8 a] w fun e w'=>e= .returned (.int .u8 (dbl a:Nat))∧w'=w:=by
 rcases Nat.lt_or_ge a 128 with h|h
 ·have hs:=Lib.hid (dbl_low a h)
  have hd:((a:Int)/128)=0:=by omega
  go_enter Tryz.func102,Tryz.ntmps102
  go_wp2
  go_ret
  exact⟨fret_of hs.out,rfl⟩
 ·have hs:=Lib.hid (dbl_high a ha h)
  have hd:((a:Int)/128)=1:=by omega
  go_enter Tryz.func102,Tryz.ntmps102
  go_wp2
  go_ret
  exact⟨fret_of hs.out,rfl⟩
theorem b8_nat (x:Nat) (h:x<256):(UInt8.ofNat x).toNat=x:=UInt8.toNat_ofNat_of_lt' (by simpa using h)
theorem sl_two {w:World} {g x y:Nat} (hg:g=w.heap.size) (hx:x<256) (hy:y<256):
  Sl (w.alloc (.cells #[.int .u8 (x:Int),.int .u8 (y:Int)] 5)) (w.alloc (.cells #[.int .u8 (x:Int),.int .u8 (y:Int)] 5)).heap.size (some ⟨g,0,none⟩) 2 [UInt8.ofNat x,UInt8.ofNat y]:=by
 subst hg
 refine⟨rfl,fun _=>⟨w.heap.size,0,rfl,by simp,fun j u hu=> ?_⟩⟩
 rw [World.cell?_alloc_at _ _ _ _ rfl]
 rcases j with _|_|j
 ·simp at hu;subst hu;rw [b8_ofNat _ hx];rfl
 ·simp at hu;subst hu;rw [b8_ofNat _ hy];rfl
 ·simp at hu
theorem sum_two (x y:Nat) (hx:x<256) (hy:y<256):sumN [UInt8.ofNat x,UInt8.ofNat y]=x^^^y:=by
 simp [sumN,b8_nat x hx,b8_nat y hy]
theorem bit_and (b k:Nat) (hb:b<256):bits .and .u8 ((b:Int)/2^k) 1=((b/2^k%2:Nat):Int):=by
 have e:(b:Int)/2^k=((b/2^k:Nat):Int):=by simp
 have h:=(bits_nat .u8 8 (by decide) wraps_u8 (b/2^k) 1 (Nat.lt_of_le_of_lt (Nat.div_le_self _ _) hb) (by decide)).1
 rw [Nat.and_one_is_mod]at h
 rw [e];exact h
set_option maxHeartbeats 1600000 in
theorem fmul (a b:Nat) (w:World) (ha:a<256) (hb:b<256):
  Calls Tryz.prog 144 #[.int .u8 a,.int .u8 b] w fun e w'=>e= .returned (.int .u8 (mul a b:Nat))∧Below w.heap.size w w':=by
 have hpl:=Lib.hid (pw_lt a ha)
 have hml:=Lib.hid (mulK_lt a b ha)
 have hstop:=Lib.hid (mulK_stop a b)
 go_enter Tryz.func144,Tryz.ntmps144
 go_wp2
 go_step3
 go_wp2
 go_step3
 go_wp2
 go_loopw [0,5,8] (fun x p i wr=> ∃k:Nat,k≤8∧i= .int .i64 k∧p= .int .u8 (mulK a b k:Nat)∧x= .int .u8 (pw a k:Nat)∧Below w.heap.size w wr) (fun _ _ i _=>8-(intOf i).toNat)
 case atStart=>exact⟨0,Nat.zero_le _,rfl,rfl,rfl,Below.refl _ _⟩
 case round=>
  obtain⟨k,hk,rfl,rfl,rfl,hbel⟩:=hrel
  by_cases hlt:k<8
  ·have hp:=hpl.out k
   have hm:=hml.out k
   by_cases h0:b/2^k=0
   ·have e:((b:Int)/2^k)=((b/2^k:Nat):Int):=by simp
    have ht:((b:Int)/2^k==0)=true:=by rw [e,h0];rfl
    have hs:=Lib.hid (hstop.out k h0 hk)
    clear h0 e
    go_wp2
    rw [Exit.noGoto_ret]
    go_ret
    exact⟨fret_of (by rw [hs.out]),hbel⟩
   ·have e:((b:Int)/2^k)=((b/2^k:Nat):Int):=by simp
    have ht:((b:Int)/2^k==0)=false:=by rw [e];simp;omega
    have hba:=bit_and b k hb
    cases hbit:b.testBit k with
    |true=>
     have h1:(bits .and .u8 ((b:Int)/2^k) 1==1)=true:=by
      rw [hba];rw [Nat.testBit_eq_decide_div_mod_eq]at hbit;rw [of_decide_eq_true hbit];rfl
     have hnext:Hid (mulK a b (k+1)=mulK a b k^^^pw a k):=by
      unfold Hid;rw [mulK,hbit];simp
     clear h0 e hba hbit
     go_wp2_with fail
     refine(fsum _ 2 2 _ _ (sl_two rfl hm hp) (by omega)).mono ?_
     rintro e w' ⟨rfl,rfl⟩
     rw [sum_two _ _ hm hp]
     go_wp2_with fail
     refine(fdouble _ _ hp).mono ?_
     rintro e w' ⟨rfl,rfl⟩
     go_wp2_with fail
     go_roundw
     case rel=>exact⟨k+1,by omega,by go_num,fval_of (by rw [hnext.out]),rfl,hbel.alloc hbel.size _⟩
     case measure=>simp [intOf];omega
    |false=>
     have h1:(bits .and .u8 ((b:Int)/2^k) 1==1)=false:=by
      rw [hba];rw [Nat.testBit_eq_decide_div_mod_eq]at hbit
      have:=of_decide_eq_false hbit
      rw [show b/2^k%2=0 by omega];rfl
     have hnext:Hid (mulK a b (k+1)=mulK a b k):=by
      unfold Hid;rw [mulK,hbit];simp
     clear h0 e hba hbit
     go_wp2_with fail
     refine(fdouble _ _ hp).mono ?_
     rintro e w' ⟨rfl,rfl⟩
     go_wp2_with fail
     go_roundw
     case rel=>exact⟨k+1,by omega,by go_num,fval_of (by rw [hnext.out]),rfl,hbel⟩
     case measure=>simp [intOf];omega
  ·obtain rfl:k=8:=by omega
   go_wp2
   rw [Exit.noGoto_ret]
   go_ret
   exact⟨rfl,hbel⟩
end
section
open Go.RowKit
set_option linter.unusedVariables false
set_option maxRecDepth 10000
theorem raise_odd (x m p:Nat) (hx:x<256) (hp:p<256) (h:m%2=1):mul (mul p x) (pwr (mul x x) (m/2))=mul p (pwr x m):=by
 rw [pwr_sq x _ hx]
 have e:m=2*(m/2)+1:=by omega
 have e2:pwr x m=mul (pwr x (2*(m/2))) x:=by
  conv=>lhs;rw [e]
  rfl
 rw [e2,mul_assoc_ p x _ hp hx (pwr_lt x _),mul_comm_ x _ hx (pwr_lt x _)]
theorem raise_even (x m p:Nat) (hx:x<256) (h:m%2=0):mul p (pwr (mul x x) (m/2))=mul p (pwr x m):=by
 rw [pwr_sq x _ hx,show 2*(m/2)=m by omega]
set_option maxHeartbeats 800000 in
theorem fraise (a n:Nat) (w:World) (ha:a<256) (hn:n<18446744073709551616):
  Calls Tryz.prog 142 #[.int .u8 a,.int .u64 n] w fun e w'=>e= .returned (.int .u8 (pwr a n:Nat))∧Below w.heap.size w w':=by
 have h0:mul 1 (pwr a n)=pwr a n:=one_mul_ _ (pwr_lt a n)
 go_enter Tryz.func142,Tryz.ntmps142
 go_wp2
 go_loopw [0,1,5] (fun x y z wr=> ∃u m p:Nat,u<256∧m<18446744073709551616∧p<256∧x= .int .u8 u∧y= .int .u64 m∧z= .int .u8 p∧Hid (mul p (pwr u m)=pwr a n)∧Below w.heap.size w wr) (fun _ y _ _=>(intOf y).toNat)
 case atStart=>exact⟨a,n,1,ha,hn,by omega,rfl,rfl,rfl,Lib.hid h0,Below.refl _ _⟩
 case round=>
  obtain⟨u,m,p,hu,hm,hp,rfl,rfl,rfl,hinv,hbel⟩:=hrel
  have hB:=hbel.size
  by_cases hlt:0<m
  ·rcases Nat.mod_two_eq_zero_or_one m with h2|h2
   ·have ht:(bits .and .u64 (m:Int) 1==1)=false:=by rw [and1_u64 m hm,h2];rfl
    have hnx:=Lib.hid ((raise_even u m p hu h2).trans hinv.out)
    clear h2 hinv h0
    go_wp2_with fail
    refine(fmul u u _ hu hu).mono ?_
    rintro e w1 ⟨rfl,hb1⟩
    have hb2:Below w.heap.size w w1:=hbel.trans (hb1.mono hB)
    go_wp2_with fail
    go_roundw
    case rel=>exact⟨mul u u,m/2,p,mul_lt _ _ hu,by omega,hp,rfl,fval_of (by simp),rfl,hnx,hb2⟩
    case measure=>simp [intOf];omega
   ·have ht:(bits .and .u64 (m:Int) 1==1)=true:=by rw [and1_u64 m hm,h2];rfl
    have hnx:=Lib.hid ((raise_odd u m p hu hp h2).trans hinv.out)
    clear h2 hinv h0
    go_wp2_with fail
    refine(fmul p u _ hp hu).mono ?_
    rintro e w1 ⟨rfl,hb1⟩
    have hb2:Below w.heap.size w w1:=hbel.trans (hb1.mono hB)
    have hB2:=hb2.size
    go_wp2_with fail
    refine(fmul u u _ hu hu).mono ?_
    rintro e w2 ⟨rfl,hb3⟩
    have hb4:Below w.heap.size w w2:=hb2.trans (hb3.mono hB2)
    go_wp2_with fail
    go_roundw
    case rel=>exact⟨mul u u,m/2,mul p u,mul_lt _ _ hu,by omega,mul_lt _ _ hp,rfl,fval_of (by simp),rfl,hnx,hb4⟩
    case measure=>simp [intOf];omega
  ·obtain rfl:m=0:=by omega
   have he:Hid (p=pwr a n):=by
    have h:=hinv.out
    rw [show pwr u 0=1 from rfl,mul_one_ p hp]at h
    exact h
   go_wp2_with fail
   go_ret
   exact⟨fret_of (by rw [he.out]),hbel⟩
theorem finv (a:Nat) (w:World) (ha:a<256):
  Calls Tryz.prog 143 #[.int .u8 a] w fun e w'=>e= .returned (.int .u8 (inv a:Nat))∧Below w.heap.size w w':=by
 have hi:=Lib.hid (show pwr a 254=inv a from rfl)
 go_enter Tryz.func143,Tryz.ntmps143
 go_wp2_with fail
 refine(fraise a 254 _ ha (by omega)).mono ?_
 rintro e w1 ⟨rfl,hb1⟩
 go_wp2_with fail
 go_ret
 exact⟨fret_of (by rw [hi.out]),hb1⟩
end
section
open Go.RowKit
set_option linter.unusedVariables false
set_option maxRecDepth 10000
theorem fpow (a n:Nat) (w:World) (ha:a<256) (hn:n<9223372036854775808):
  Calls Tryz.prog 137 #[.int .u8 a,.int .i64 n] w fun e w'=>e= .returned (.int .u8 (pwr a n:Nat))∧Below w.heap.size w w':=by
 go_enter Tryz.func137,Tryz.ntmps137
 go_wp2_with fail
 refine(fraise a n _ ha (by omega)).mono ?_
 rintro e w1 ⟨rfl,hb1⟩
 go_wp2_with fail
 go_ret
 exact⟨rfl,hb1⟩
theorem fpow_neg (a n:Nat) (w:World) (ha:a<256) (h0:0<n) (hn:n<9223372036854775808):
  Calls Tryz.prog 137 #[.int .u8 a,.int .i64 (-(n:Int))] w fun e w'=>e= .returned (.int .u8 (pwr (inv a) n:Nat))∧Below w.heap.size w w':=by
 have h1:IntKind.u64.wrap (-IntKind.u64.wrap (-(n:Int)))=(n:Int):=by simp only [IntKind.wrap_u64];omega
 have hneg: -(n:Int)<0:=by omega
 go_enter Tryz.func137,Tryz.ntmps137
 go_wp2_with fail
 refine(finv a _ ha).mono ?_
 rintro e w1 ⟨rfl,hb1⟩
 go_wp2_with fail
 refine(fraise (inv a) n _ (inv_lt a) (by omega)).mono ?_
 rintro e w2 ⟨rfl,hb2⟩
 go_wp2_with fail
 go_ret
 exact⟨rfl,hb1.trans (hb2.mono hb1.size)⟩
end
section
open Go.RowKit
set_option linter.unusedVariables false
def Pc (w:World) (g:Nat) (P:Nat→Nat):Prop:= ∀j,j<15→w.cell? ⟨g,j,none⟩=some (.int .i64 (P j:Nat))∧w.frozen? ⟨g,j,none⟩=false
theorem Pc.up {w:World} {g j v:Nat} {P:Nat→Nat} {x:Int} (h:Pc w g P) (hj:j<15) (hx:x=((P j+v:Nat):Int)):Pc (w.setCell ⟨g,j,none⟩ (.int .i64 x)) g (up P j v):=by
 subst hx
 intro i hi
 refine⟨?_,by rw [World.frozen?_setCell];exact(h i hi).2⟩
 by_cases e:i=j
 ·subst e
  rw [World.cell?_setCell_same _ _ _ (h i hi).1]
  simp [_root_.Go.Proofs.YtiacbphnclgikaaGreatDoor.up]
 ·rw [World.cell?_setCell_other _ _ _ _ (fun h=>by injection h with _ h;exact e h.symm),(h i hi).1]
  simp [_root_.Go.Proofs.YtiacbphnclgikaaGreatDoor.up,e]
theorem Pc.new (w:World):Pc (w.alloc (.cells #[.int .i64 0,.int .i64 0,.int .i64 0,.int .i64 0,.int .i64 0,.int .i64 0,.int .i64 0,.int .i64 0,.int .i64 0,.int .i64 0,.int .i64 0,.int .i64 0,.int .i64 0,.int .i64 0,.int .i64 0] 144)) w.heap.size (fun _=>0):=by
 intro j hj
 refine⟨?_,World.frozen?_alloc_at _ _ _ _ rfl⟩
 rw [World.cell?_alloc_at _ _ _ _ rfl]
 rcases(show j=0∨j=1∨j=2∨j=3∨j=4∨j=5∨j=6∨j=7∨j=8∨j=9∨j=10∨j=11∨j=12∨j=13∨j=14 by omega)with rfl|rfl|rfl|rfl|rfl|rfl|rfl|rfl|rfl|rfl|rfl|rfl|rfl|rfl|rfl<;>rfl
theorem coef_bit (a i:Nat) (ha:a<256):(wrap64 ((a:Int)/2^i)).tmod 2=((bt a i:Nat):Int):=by
 have e:(a:Int)/2^i=((a/2^i:Nat):Int):=by simp
 have h:=Nat.div_le_self a (2^i)
 unfold bt
 rw [e]
 generalize a/2^i=q at*
 rw [IntWalk.wrap64_in _ (by omega),Int.tmod_eq_emod_of_nonneg (by omega)]
 omega
theorem coef (p a b i k:Nat) (ha:a<256) (hb:b<256) (hp:p≤1000):
  wrap64 ((p:Int)+wrap64 ((wrap64 ((a:Int)/2^i)).tmod 2*(wrap64 ((b:Int)/2^k)).tmod 2))=((p+bt a i*bt b k:Nat):Int):=by
 have h:=btbt_le a b i k
 rw [coef_bit a i ha,coef_bit b k hb,←Int.natCast_mul]
 generalize bt a i*bt b k=q at*
 rw [IntWalk.wrap64_in (q:Int) (by omega),IntWalk.wrap64_in _ (by omega)]
 omega
theorem red_no (P:Nat→Nat) (n i:Nat) (hi:i=14-n) (h:red P n i%2=0):red P (n+1)=red P n:=by
 subst hi
 rw [red,red1,if_neg (by omega)]
theorem inc64 (p:Nat) (h:p≤1000):wrap64 ((p:Int)+1)=((p+1:Nat):Int):=by
 rw [IntWalk.wrap64_in _ (by omega)];omega
theorem Pc.red_yes {w:World} {g n i p q r s:Nat} {P:Nat→Nat} (h:Pc w g (red P n)) (hn:n≤6) (hi:i=14-n) (hp:p=i-4) (hq:q=i-5) (hr:r=i-7) (hs:s=i-8)
  (h1:red P n i%2=1) (hb: ∀j,red P n j≤64+4*n):
  Pc ((((w.setCell ⟨g,p,none⟩ (.int .i64 (wrap64 ((red P n p:Nat)+1)))).setCell ⟨g,q,none⟩ (.int .i64 (wrap64 ((red P n q:Nat)+1)))).setCell ⟨g,r,none⟩ (.int .i64 (wrap64 ((red P n r:Nat)+1)))).setCell ⟨g,s,none⟩ (.int .i64 (wrap64 ((red P n s:Nat)+1)))) g (red P (n+1)):=by
 have hbp:=hb p
 have hbq:=hb q
 have hbr:=hb r
 have hbs:=hb s
 rw [inc64 _ (by omega),inc64 _ (by omega),inc64 _ (by omega),inc64 _ (by omega)]
 have e:red P (n+1)=_root_.Go.Proofs.YtiacbphnclgikaaGreatDoor.up (_root_.Go.Proofs.YtiacbphnclgikaaGreatDoor.up (_root_.Go.Proofs.YtiacbphnclgikaaGreatDoor.up (_root_.Go.Proofs.YtiacbphnclgikaaGreatDoor.up (red P n) p 1) q 1) r 1) s 1:=by
  rw [red,red1,←hi,if_pos h1,hp,hq,hr,hs]
 rw [e]
 refine(((h.up (by omega) rfl).up (by omega) ?_).up (by omega) ?_).up (by omega) ?_
 ·simp [_root_.Go.Proofs.YtiacbphnclgikaaGreatDoor.up,show¬q=p by omega]
 ·simp [_root_.Go.Proofs.YtiacbphnclgikaaGreatDoor.up,show¬r=p by omega,show¬r=q by omega]
 ·simp [_root_.Go.Proofs.YtiacbphnclgikaaGreatDoor.up,show¬s=p by omega,show¬s=q by omega,show¬s=r by omega]
theorem fin_step (Q:Nat→Nat) (k:Nat) (hk:k<8) (hq:Q k≤64+4*7):wrap64 ((fin Q k:Int)+wrap64 ((Q k:Int)%2*2^k))=((fin Q (k+1):Nat):Int):=by
 have h1:=fin_lt Q k
 have h2:2^k≤2^7:=Nat.pow_le_pow_right (by decide) (by omega)
 have e:(Q k:Int)%2*2^k=((Q k%2*2^k:Nat):Int):=by simp
 have h3:Q k%2*2^k≤1*2^k:=Nat.mul_le_mul_right _ (by omega)
 rw [e,fin]
 generalize Q k%2*2^k=q at*
 generalize fin Q k=p at*
 generalize 2^k=r at*
 rw [IntWalk.wrap64_in (q:Int) (by omega),IntWalk.wrap64_in _ (by omega)]
 omega
set_option maxHeartbeats 1600000 in
theorem refmul (a b:Nat) (w:World) (ha:a<256) (hb:b<256):
  Calls Tryz.prog 63 #[.int .u8 a,.int .u8 b] w fun e w'=>e= .returned (.int .u8 (mul a b:Nat))∧Below w.heap.size w w':=by
 have hol:=Lib.hid (outr_le a b)
 have hil:=Lib.hid (fun i=>inn_le (outr a b i) a b i (8*i) (outr_le a b i))
 have hp0:=Lib.hid (Pc.new w)
 go_enter Tryz.func63,Tryz.ntmps63
 go_wp2
 go_loopw [6] (fun x wr=> ∃i:Nat,i≤8∧x= .int .i64 i∧Pc wr w.heap.size (outr a b i)∧Below w.heap.size w wr) (fun x _=>8-(intOf x).toNat)
 case atStart=>exact⟨0,Nat.zero_le _,rfl,hp0.out,(Below.refl _ _).alloc (Nat.le_refl _) _⟩
 case round=>
  obtain⟨i,hi,rfl,hP,hbel⟩:=hrel
  by_cases hit:i<8
  ·go_wp2
   go_loopw [7] (fun y wr=> ∃k:Nat,k≤8∧y= .int .i64 k∧Pc wr w.heap.size (inn (outr a b i) a b i k)∧Below w.heap.size w wr) (fun y _=>8-(intOf y).toNat)
   case atStart=>exact⟨0,Nat.zero_le _,rfl,hP,hbel⟩
   case round=>
    obtain⟨k,hk,rfl,hQ,hbel⟩:=hrel
    by_cases hkt:k<8
    ·have hQb:=hil.out i k (i+k)
     obtain⟨hc,hf⟩:=hQ (i+k) (by omega)
     have HQ:=Lib.hid hQ
     clear hQ
     go_wp2
     go_roundw
     case rel=>exact⟨k+1,by omega,by go_num,HQ.out.up (by omega) (coef _ a b i k ha hb (by omega)),hbel.setCell (Nat.le_refl _) _⟩
     case measure=>simp [intOf];omega
    ·obtain rfl:k=8:=by omega
     go_wp2
     go_roundw
     case rel=>exact⟨i+1,by omega,by go_num,hQ,hbel⟩
     case measure=>simp [intOf];omega
  ·obtain rfl:i=8:=by omega
   have hPb:=Lib.hid (red_le (outr a b 8) 64 (hol.out 8))
   have hfm:=Lib.hid (fin_mul a b ha hb)
   generalize outr a b 8=P at*
   clear hol hil hp0
   go_wp2
   go_loopw [8] (fun x wr=> ∃j:Nat,j≤7∧x= .int .i64 ((j:Int)+7)∧Pc wr w.heap.size (red P (7-j))∧Below w.heap.size w wr) (fun x _=>(intOf x).toNat-7)
   case atStart=>exact⟨7,Nat.le_refl _,rfl,hP,hbel⟩
   case round=>
    obtain⟨j,hj,rfl,hQ,hbel⟩:=hrel
    rcases(show j=0∨j=1∨j=2∨j=3∨j=4∨j=5∨j=6∨j=7 by omega)with rfl|rfl|rfl|rfl|rfl|rfl|rfl|rfl
    case inl=>
     have hQ7:Pc wr w.heap.size (red P 7):=hQ
     have hQb:=Lib.hid (hPb.out 7)
     clear hQ hP hPb
     generalize red P 7=Q at*
     go_wp2
     go_loopw [9,10] (fun x y ws=> ∃k z:Nat,k≤8∧y= .int .i64 k∧x= .int .i64 z∧z=fin Q k∧ws=wr) (fun _ y _=>8-(intOf y).toNat)
     case atStart=>exact⟨0,0,Nat.zero_le _,rfl,rfl,rfl,rfl⟩
     case round=>
      obtain⟨k,z,hk,rfl,rfl,hz,rfl⟩:=hrel
      by_cases hkt:k<8
      ·obtain⟨hc,hf⟩:=hQ7 k (by omega)
       have hqb:=hQb.out k
       go_wp2
       go_roundw
       case rel=>exact⟨k+1,_,by omega,by go_num,fval_of (fin_step Q k hkt hqb),rfl,trivial⟩
       case measure=>simp [intOf];omega
      ·obtain rfl:k=8:=by omega
       have hz8:z<256:=by rw [hz];exact fin_lt Q 8
       have hzm:Hid (z=mul a b):=by unfold Hid;rw [hz];exact hfm.out
       clear hz hfm
       go_wp2
       go_ret
       exact⟨fret_of (by rw [hzm.out]),hbel⟩
    case inr.inl=>
     have hQ1:Pc wr w.heap.size (red P 6):=hQ
     clear hQ
     have hb8:=hPb.out 6 8
     obtain⟨hc,hf⟩:=hQ1 8 (by omega)
     obtain⟨hc4,hf4⟩:=hQ1 4 (by omega)
     obtain⟨hc5,hf5⟩:=hQ1 3 (by omega)
     obtain⟨hc7,hf7⟩:=hQ1 1 (by omega)
     obtain⟨hc8,hf8⟩:=hQ1 0 (by omega)
     rcases Nat.mod_two_eq_zero_or_one (red P 6 8)with h|h
     ·have ht:(((red P 6 8:Nat):Int).tmod 2==1)=false:=by
       rw [Int.tmod_eq_emod_of_nonneg (by omega)];simp;omega
      have hn:=Lib.hid (red_no P 6 8 rfl h)
      go_wp2
      go_roundw
      case rel=>exact⟨0,by omega,rfl,by rw [show 7-0=6+1 from rfl,hn.out];exact hQ1,hbel⟩
      case measure=>simp [intOf]
     ·have ht:(((red P 6 8:Nat):Int).tmod 2==1)=true:=by
       rw [Int.tmod_eq_emod_of_nonneg (by omega)];simp;omega
      have hn:=Lib.hid (hQ1.red_yes (p:=4) (q:=3) (r:=1) (s:=0) (by omega) rfl rfl rfl rfl rfl h (hPb.out 6))
      go_wp2
      go_roundw
      case rel=>exact⟨0,by omega,rfl,hn.out,(((hbel.setCell (Nat.le_refl _) _).setCell (Nat.le_refl _) _).setCell (Nat.le_refl _) _).setCell (Nat.le_refl _) _⟩
      case measure=>simp [intOf]
    case inr.inr.inl=>
     have hQ2:Pc wr w.heap.size (red P 5):=hQ
     clear hQ
     have hb8:=hPb.out 5 9
     obtain⟨hc,hf⟩:=hQ2 9 (by omega)
     obtain⟨hc4,hf4⟩:=hQ2 5 (by omega)
     obtain⟨hc5,hf5⟩:=hQ2 4 (by omega)
     obtain⟨hc7,hf7⟩:=hQ2 2 (by omega)
     obtain⟨hc8,hf8⟩:=hQ2 1 (by omega)
     rcases Nat.mod_two_eq_zero_or_one (red P 5 9)with h|h
     ·have ht:(((red P 5 9:Nat):Int).tmod 2==1)=false:=by
       rw [Int.tmod_eq_emod_of_nonneg (by omega)];simp;omega
      have hn:=Lib.hid (red_no P 5 9 rfl h)
      go_wp2
      go_roundw
      case rel=>exact⟨1,by omega,rfl,by rw [show 7-1=5+1 from rfl,hn.out];exact hQ2,hbel⟩
      case measure=>simp [intOf]
     ·have ht:(((red P 5 9:Nat):Int).tmod 2==1)=true:=by
       rw [Int.tmod_eq_emod_of_nonneg (by omega)];simp;omega
      have hn:=Lib.hid (hQ2.red_yes (p:=5) (q:=4) (r:=2) (s:=1) (by omega) rfl rfl rfl rfl rfl h (hPb.out 5))
      go_wp2
      go_roundw
      case rel=>exact⟨1,by omega,rfl,hn.out,(((hbel.setCell (Nat.le_refl _) _).setCell (Nat.le_refl _) _).setCell (Nat.le_refl _) _).setCell (Nat.le_refl _) _⟩
      case measure=>simp [intOf]
    case inr.inr.inr.inl=>
     have hQ3:Pc wr w.heap.size (red P 4):=hQ
     clear hQ
     have hb8:=hPb.out 4 10
     obtain⟨hc,hf⟩:=hQ3 10 (by omega)
     obtain⟨hc4,hf4⟩:=hQ3 6 (by omega)
     obtain⟨hc5,hf5⟩:=hQ3 5 (by omega)
     obtain⟨hc7,hf7⟩:=hQ3 3 (by omega)
     obtain⟨hc8,hf8⟩:=hQ3 2 (by omega)
     rcases Nat.mod_two_eq_zero_or_one (red P 4 10)with h|h
     ·have ht:(((red P 4 10:Nat):Int).tmod 2==1)=false:=by
       rw [Int.tmod_eq_emod_of_nonneg (by omega)];simp;omega
      have hn:=Lib.hid (red_no P 4 10 rfl h)
      go_wp2
      go_roundw
      case rel=>exact⟨2,by omega,rfl,by rw [show 7-2=4+1 from rfl,hn.out];exact hQ3,hbel⟩
      case measure=>simp [intOf]
     ·have ht:(((red P 4 10:Nat):Int).tmod 2==1)=true:=by
       rw [Int.tmod_eq_emod_of_nonneg (by omega)];simp;omega
      have hn:=Lib.hid (hQ3.red_yes (p:=6) (q:=5) (r:=3) (s:=2) (by omega) rfl rfl rfl rfl rfl h (hPb.out 4))
      go_wp2
      go_roundw
      case rel=>exact⟨2,by omega,rfl,hn.out,(((hbel.setCell (Nat.le_refl _) _).setCell (Nat.le_refl _) _).setCell (Nat.le_refl _) _).setCell (Nat.le_refl _) _⟩
      case measure=>simp [intOf]
    case inr.inr.inr.inr.inl=>
     have hQ4:Pc wr w.heap.size (red P 3):=hQ
     clear hQ
     have hb8:=hPb.out 3 11
     obtain⟨hc,hf⟩:=hQ4 11 (by omega)
     obtain⟨hc4,hf4⟩:=hQ4 7 (by omega)
     obtain⟨hc5,hf5⟩:=hQ4 6 (by omega)
     obtain⟨hc7,hf7⟩:=hQ4 4 (by omega)
     obtain⟨hc8,hf8⟩:=hQ4 3 (by omega)
     rcases Nat.mod_two_eq_zero_or_one (red P 3 11)with h|h
     ·have ht:(((red P 3 11:Nat):Int).tmod 2==1)=false:=by
       rw [Int.tmod_eq_emod_of_nonneg (by omega)];simp;omega
      have hn:=Lib.hid (red_no P 3 11 rfl h)
      go_wp2
      go_roundw
      case rel=>exact⟨3,by omega,rfl,by rw [show 7-3=3+1 from rfl,hn.out];exact hQ4,hbel⟩
      case measure=>simp [intOf]
     ·have ht:(((red P 3 11:Nat):Int).tmod 2==1)=true:=by
       rw [Int.tmod_eq_emod_of_nonneg (by omega)];simp;omega
      have hn:=Lib.hid (hQ4.red_yes (p:=7) (q:=6) (r:=4) (s:=3) (by omega) rfl rfl rfl rfl rfl h (hPb.out 3))
      go_wp2
      go_roundw
      case rel=>exact⟨3,by omega,rfl,hn.out,(((hbel.setCell (Nat.le_refl _) _).setCell (Nat.le_refl _) _).setCell (Nat.le_refl _) _).setCell (Nat.le_refl _) _⟩
      case measure=>simp [intOf]
    case inr.inr.inr.inr.inr.inl=>
     have hQ5:Pc wr w.heap.size (red P 2):=hQ
     clear hQ
     have hb8:=hPb.out 2 12
     obtain⟨hc,hf⟩:=hQ5 12 (by omega)
     obtain⟨hc4,hf4⟩:=hQ5 8 (by omega)
     obtain⟨hc5,hf5⟩:=hQ5 7 (by omega)
     obtain⟨hc7,hf7⟩:=hQ5 5 (by omega)
     obtain⟨hc8,hf8⟩:=hQ5 4 (by omega)
     rcases Nat.mod_two_eq_zero_or_one (red P 2 12)with h|h
     ·have ht:(((red P 2 12:Nat):Int).tmod 2==1)=false:=by
       rw [Int.tmod_eq_emod_of_nonneg (by omega)];simp;omega
      have hn:=Lib.hid (red_no P 2 12 rfl h)
      go_wp2
      go_roundw
      case rel=>exact⟨4,by omega,rfl,by rw [show 7-4=2+1 from rfl,hn.out];exact hQ5,hbel⟩
      case measure=>simp [intOf]
     ·have ht:(((red P 2 12:Nat):Int).tmod 2==1)=true:=by
       rw [Int.tmod_eq_emod_of_nonneg (by omega)];simp;omega
      have hn:=Lib.hid (hQ5.red_yes (p:=8) (q:=7) (r:=5) (s:=4) (by omega) rfl rfl rfl rfl rfl h (hPb.out 2))
      go_wp2
      go_roundw
      case rel=>exact⟨4,by omega,rfl,hn.out,(((hbel.setCell (Nat.le_refl _) _).setCell (Nat.le_refl _) _).setCell (Nat.le_refl _) _).setCell (Nat.le_refl _) _⟩
      case measure=>simp [intOf]
    case inr.inr.inr.inr.inr.inr.inl=>
     have hQ6:Pc wr w.heap.size (red P 1):=hQ
     clear hQ
     have hb8:=hPb.out 1 13
     obtain⟨hc,hf⟩:=hQ6 13 (by omega)
     obtain⟨hc4,hf4⟩:=hQ6 9 (by omega)
     obtain⟨hc5,hf5⟩:=hQ6 8 (by omega)
     obtain⟨hc7,hf7⟩:=hQ6 6 (by omega)
     obtain⟨hc8,hf8⟩:=hQ6 5 (by omega)
     rcases Nat.mod_two_eq_zero_or_one (red P 1 13)with h|h
     ·have ht:(((red P 1 13:Nat):Int).tmod 2==1)=false:=by
       rw [Int.tmod_eq_emod_of_nonneg (by omega)];simp;omega
      have hn:=Lib.hid (red_no P 1 13 rfl h)
      go_wp2
      go_roundw
      case rel=>exact⟨5,by omega,rfl,by rw [show 7-5=1+1 from rfl,hn.out];exact hQ6,hbel⟩
      case measure=>simp [intOf]
     ·have ht:(((red P 1 13:Nat):Int).tmod 2==1)=true:=by
       rw [Int.tmod_eq_emod_of_nonneg (by omega)];simp;omega
      have hn:=Lib.hid (hQ6.red_yes (p:=9) (q:=8) (r:=6) (s:=5) (by omega) rfl rfl rfl rfl rfl h (hPb.out 1))
      go_wp2
      go_roundw
      case rel=>exact⟨5,by omega,rfl,hn.out,(((hbel.setCell (Nat.le_refl _) _).setCell (Nat.le_refl _) _).setCell (Nat.le_refl _) _).setCell (Nat.le_refl _) _⟩
      case measure=>simp [intOf]
    case inr.inr.inr.inr.inr.inr.inr=>
     have hQ7:Pc wr w.heap.size (red P 0):=hQ
     clear hQ
     have hb8:=hPb.out 0 14
     obtain⟨hc,hf⟩:=hQ7 14 (by omega)
     obtain⟨hc4,hf4⟩:=hQ7 10 (by omega)
     obtain⟨hc5,hf5⟩:=hQ7 9 (by omega)
     obtain⟨hc7,hf7⟩:=hQ7 7 (by omega)
     obtain⟨hc8,hf8⟩:=hQ7 6 (by omega)
     rcases Nat.mod_two_eq_zero_or_one (red P 0 14)with h|h
     ·have ht:(((red P 0 14:Nat):Int).tmod 2==1)=false:=by
       rw [Int.tmod_eq_emod_of_nonneg (by omega)];simp;omega
      have hn:=Lib.hid (red_no P 0 14 rfl h)
      go_wp2
      go_roundw
      case rel=>exact⟨6,by omega,rfl,by rw [show 7-6=0+1 from rfl,hn.out];exact hQ7,hbel⟩
      case measure=>simp [intOf]
     ·have ht:(((red P 0 14:Nat):Int).tmod 2==1)=true:=by
       rw [Int.tmod_eq_emod_of_nonneg (by omega)];simp;omega
      have hn:=Lib.hid (hQ7.red_yes (p:=10) (q:=9) (r:=7) (s:=6) (by omega) rfl rfl rfl rfl rfl h (hPb.out 0))
      go_wp2
      go_roundw
      case rel=>exact⟨6,by omega,rfl,hn.out,(((hbel.setCell (Nat.le_refl _) _).setCell (Nat.le_refl _) _).setCell (Nat.le_refl _) _).setCell (Nat.le_refl _) _⟩
      case measure=>simp [intOf]
end
section
open Go.RowKit
set_option linter.unusedVariables false
set_option maxRecDepth 10000
set_option maxHeartbeats 800000 in
theorem refpow (a n:Nat) (w:World) (ha:a<256) (hn:n≤1000):
  Calls Tryz.prog 98 #[.int .u8 a,.int .i64 n] w fun e w'=>e= .returned (.int .u8 (pwr a n:Nat))∧Below w.heap.size w w':=by
 go_enter Tryz.func98,Tryz.ntmps98
 go_wp2
 go_loopw [5,6] (fun x i wr=> ∃k:Nat,k≤n∧i= .int .i64 k∧x= .int .u8 (pwr a k:Nat)∧Below w.heap.size w wr) (fun _ i _=>n-(intOf i).toNat)
 case atStart=>exact⟨0,Nat.zero_le _,rfl,rfl,Below.refl _ _⟩
 case round=>
  obtain⟨k,hk,rfl,rfl,hbel⟩:=hrel
  by_cases hlt:k<n
  ·have hB:=hbel.size
   have hp:=pwr_lt a k
   go_wp2_with fail
   refine(refmul (pwr a k) a _ hp ha).mono ?_
   rintro e w1 ⟨rfl,hb1⟩
   have hb2:Below w.heap.size w w1:=hbel.trans (hb1.mono hB)
   go_wp2_with fail
   go_roundw
   case rel=>exact⟨k+1,by omega,by go_num,rfl,hb2⟩
   case measure=>simp [intOf];omega
  ·obtain rfl:k=n:=by omega
   go_wp2_with fail
   go_ret
   exact⟨rfl,hbel⟩
end
section
open Go.RowKit
set_option linter.unusedVariables false
set_option maxRecDepth 10000
def arr (a b c d:Nat):Value:= .agg #[.int .u8 (a:Int),.int .u8 (b:Int),.int .u8 (c:Int),.int .u8 (d:Int)]
def C4 (g a b c d:Nat) (W:World):Prop:=W.cell? ⟨g,0,none⟩=some (.int .u8 (a:Int))∧W.cell? ⟨g,1,none⟩=some (.int .u8 (b:Int))∧W.cell? ⟨g,2,none⟩=some (.int .u8 (c:Int))∧W.cell? ⟨g,3,none⟩=some (.int .u8 (d:Int))
theorem C4.to {g a b c d:Nat} {W W':World} (h:C4 g a b c d W) (hg:g<W.heap.size) (hb:Below W.heap.size W W'):C4 g a b c d W':=
 ⟨(hb.cell (p:=⟨g,0,none⟩) hg).trans h.1,(hb.cell (p:=⟨g,1,none⟩) hg).trans h.2.1,(hb.cell (p:=⟨g,2,none⟩) hg).trans h.2.2.1,(hb.cell (p:=⟨g,3,none⟩) hg).trans h.2.2.2⟩
theorem blk_lt {w:World} {b i:Nat} {v:Value} (h:w.cell? ⟨b,i,none⟩=some v):b<w.heap.size:=by
 rcases Nat.lt_or_ge b w.heap.size with h1|h1
 ·exact h1
 ·simp [World.cell?,Array.getElem?_eq_none h1]at h
theorem C4.two (a0 a1 a2 a3 b0 b1 b2 b3:Nat) (w:World): ∃w2:World,w2=(w.alloc (.cells #[.int .u8 (a0:Int),.int .u8 (a1:Int),.int .u8 (a2:Int),.int .u8 (a3:Int)] 112)).alloc (.cells #[.int .u8 (b0:Int),.int .u8 (b1:Int),.int .u8 (b2:Int),.int .u8 (b3:Int)] 112)∧
  C4 w.heap.size a0 a1 a2 a3 w2∧C4 (w.heap.size+1) b0 b1 b2 b3 w2∧Below w.heap.size w w2:=by
 refine⟨_,rfl,⟨by simp,by simp,by simp,by simp⟩,⟨by simp,by simp,by simp,by simp⟩,?_⟩
 exact((Below.refl _ _).alloc (Nat.le_refl _) _).alloc (by simp) _
theorem held8 {g h a b c d a' b' c' d':Nat} {W1 W w3:World}
  (k : W.cell? ⟨g, 0, none⟩ = some (.int .u8 (a : Int)) ∧ W.cell? ⟨g, 1, none⟩ = some (.int .u8 (b : Int)) ∧ W.cell? ⟨g, 2, none⟩ = some (.int .u8 (c : Int)) ∧ W.cell? ⟨g, 3, none⟩ = some (.int .u8 (d : Int)) ∧
   W.cell? ⟨h,0,none⟩=some (.int .u8 (a':Int))∧W.cell? ⟨h,1,none⟩=some (.int .u8 (b':Int))∧W.cell? ⟨h,2,none⟩=some (.int .u8 (c':Int))∧W.cell? ⟨h,3,none⟩=some (.int .u8 (d':Int))∧Base W1 W)
  (hb:Below W.heap.size W w3):
  w3.cell? ⟨g,0,none⟩=some (.int .u8 (a:Int))∧w3.cell? ⟨g,1,none⟩=some (.int .u8 (b:Int))∧w3.cell? ⟨g,2,none⟩=some (.int .u8 (c:Int))∧w3.cell? ⟨g,3,none⟩=some (.int .u8 (d:Int))∧
   w3.cell? ⟨h,0,none⟩=some (.int .u8 (a':Int))∧w3.cell? ⟨h,1,none⟩=some (.int .u8 (b':Int))∧w3.cell? ⟨h,2,none⟩=some (.int .u8 (c':Int))∧w3.cell? ⟨h,3,none⟩=some (.int .u8 (d':Int))∧Base W1 w3:=by
 obtain⟨k0,k1,k2,k3,k4,k5,k6,k7,k8⟩:=k
 exact⟨(hb.cell (p:=⟨g,0,none⟩) (blk_lt k0)).trans k0,(hb.cell (p:=⟨g,1,none⟩) (blk_lt k1)).trans k1,(hb.cell (p:=⟨g,2,none⟩) (blk_lt k2)).trans k2,(hb.cell (p:=⟨g,3,none⟩) (blk_lt k3)).trans k3,
  (hb.cell (p:=⟨h,0,none⟩) (blk_lt k4)).trans k4,(hb.cell (p:=⟨h,1,none⟩) (blk_lt k5)).trans k5,(hb.cell (p:=⟨h,2,none⟩) (blk_lt k6)).trans k6,(hb.cell (p:=⟨h,3,none⟩) (blk_lt k7)).trans k7,Base.step k8 hb⟩
theorem sl_four {w:World} {g x y z u:Nat} (hg:g=w.heap.size) (hx:x<256) (hy:y<256) (hz:z<256) (hu:u<256):
  Sl (w.alloc (.cells #[.int .u8 (x:Int),.int .u8 (y:Int),.int .u8 (z:Int),.int .u8 (u:Int)] 5)) (w.alloc (.cells #[.int .u8 (x:Int),.int .u8 (y:Int),.int .u8 (z:Int),.int .u8 (u:Int)] 5)).heap.size (some ⟨g,0,none⟩) 4 [UInt8.ofNat x,UInt8.ofNat y,UInt8.ofNat z,UInt8.ofNat u]:=by
 subst hg
 refine⟨rfl,fun _=>⟨w.heap.size,0,rfl,by simp,fun j v hv=> ?_⟩⟩
 rw [World.cell?_alloc_at _ _ _ _ rfl]
 rcases j with _|_|_|_|j
 ·simp at hv;subst hv;rw [b8_ofNat _ hx];rfl
 ·simp at hv;subst hv;rw [b8_ofNat _ hy];rfl
 ·simp at hv;subst hv;rw [b8_ofNat _ hz];rfl
 ·simp at hv;subst hv;rw [b8_ofNat _ hu];rfl
 ·simp at hv
theorem sum_four (x y z u:Nat) (hx:x<256) (hy:y<256) (hz:z<256) (hu:u<256):sumN [UInt8.ofNat x,UInt8.ofNat y,UInt8.ofNat z,UInt8.ofNat u]=((x^^^y)^^^z)^^^u:=by
 simp [sumN,b8_nat x hx,b8_nat y hy,b8_nat z hz,b8_nat u hu]
end
end Go.Proofs.YtiacbphnclgikaaGreatDoor
