/-
 Contracts of packages field and sbox and of the reference packages of layers 3 and 4, by walks through their texts; what was there stays as it was.
-/
import Derived.Test.YtdaiacmneopkgaaGreatDoorFre
import Derived.Deep.Cut
namespace Go.Proofs.YtdaiacmneopkgaaGreatDoor
set_option linter.unusedVariables false
set_option maxRecDepth 10000
set_option maxHeartbeats 3200000
section
section
open Go.RowKit
def Cf (l:List UInt8):Nat:=l.foldl (λx b=>x^^^b.toNat) 0
theorem acF (l:List UInt8) (b:UInt8):Cf (l++ [b])=Cf l^^^b.toNat:=by unfold Cf;rw [List.foldl_append];rfl
theorem ajf (l:List UInt8):Cf l<256:=by
 refine Wz (P:=λl=>Cf l<256) (by decide) (λl a h=> ?_) l;rw [acF];exact ku _ _ h a.toNat_lt
theorem ajg (l:List UInt8) (k:Nat) (h:k<l.length):bits .xor .u8 (Cf (l.take k):Nat) ((l[k]?.getD 0).toNat:Int)=(Cf (l.take (k+1)):Nat):=by
 rw [mo _ _ (ajf _) (UInt8.toNat_lt _),List.take_succ_eq_append_getElem h,acF];simp [List.getElem?_eq_getElem h]
theorem ajh (A:Option Addr) (n c:Nat) (l:List UInt8) (w:World) (h:Sl w w.heap.size A n l) (hn:n<=140737488351232):
  Calls Tryz.prog 224 #[.slice A n c] w λe w'=>e= .returned (.int .u8 (Cf l:Nat))/\w'=w:=by
 go_enter Tryz.func224,Tryz.ntmps224;go_wp2
 go_loop [3,8] (λx i=> ∃k:Nat,k<=n/\i= .int .i64 k/\x= .int .u8 (Cf (l.take k):Nat)) (λ_ i=>n-(intOf i).toNat)
 case atStart=>exact⟨0,Nat.zero_le _,rfl,rfl⟩
 case round=>
  obtain⟨k,hk,rfl,rfl⟩:=hrel;by_cases hlt:k<n
  ·obtain⟨b,off,rfl,hb,hc⟩:=h.at_ hlt;have hs:=Hi (ajg l k (by have:=h.len;omega));go_wp2;go_round;case rel=>exact⟨k+1,by omega,by go_num,BG hs.out⟩
   case measure=>simp [intOf];omega
  ·have he:=Hi (show l.take k=l from List.take_of_length_le (by have:=h.len;omega));go_wp2;go_ret;exact⟨yl (by rw [he.out]),rfl⟩
theorem aji (a:Nat) (h:a<128):(a:Int)*2=(iI a:Nat):=by
 have H: ∀a,a<128->iI a=a*2:=by decide+kernel
 rw [H a h];omega
theorem ajj (a:Nat) (h:a<256) (h1:128<=a):bits .xor .u8 (IntKind.u8.wrap ((a:Int)*2)) 27=(iI a:Nat):=by
 have e:IntKind.u8.wrap ((a:Int)*2)=((a*2-256:Nat):Int):=by rw [IntKind.wrap_u8];omega
 rw [e];have H: ∀a,a<256->128<=a->iI a=(a*2-256)^^^27:=by decide+kernel
 rw [H a h h1];exact mo (a*2-256) 27 (by omega) (by omega)
theorem MG (a:Nat) (w:World) (ha:a<256):
  Calls Tryz.prog 174 #[.int .u8 a] w λe w'=>e= .returned (.int .u8 (iI a:Nat))/\w'=w:=by
 rcases Nat.lt_or_ge a 128 with h|h
 ·have hs:=Hi (aji a h);have hd:((a:Int)/128)=0:=by omega
  go_enter Tryz.func174,Tryz.ntmps174;go_wp2;go_ret;exact⟨yl hs.out,rfl⟩
 ·have hs:=Hi (ajj a ha h);have hd:((a:Int)/128)=1:=by omega
  go_enter Tryz.func174,Tryz.ntmps174;go_wp2;go_ret;exact⟨yl hs.out,rfl⟩
theorem acG (x:Nat) (h:x<256):(UInt8.ofNat x).toNat=x:=UInt8.toNat_ofNat_of_lt' (by simpa using h)
theorem ajk {w:World} {g x y:Nat} (hg:g=w.heap.size) (hx:x<256) (hy:y<256):
  Sl (w.alloc (.cells #[.int .u8 (x:Int),.int .u8 (y:Int)] 5)) (w.alloc (.cells #[.int .u8 (x:Int),.int .u8 (y:Int)] 5)).heap.size (some ⟨g,0,none⟩) 2 [UInt8.ofNat x,UInt8.ofNat y]:=by
 subst hg;refine⟨rfl,λ_=>⟨w.heap.size,0,rfl,by simp,λj u hu=> ?_⟩⟩;rw [World.cell?_alloc_at _ _ _ _ rfl];rcases j with _|_|j
 ·simp at hu;subst hu;rw [Bz _ hx];rfl
 ·simp at hu;subst hu;rw [Bz _ hy];rfl
 ·simp at hu
theorem ajl (x y:Nat) (hx:x<256) (hy:y<256):Cf [UInt8.ofNat x,UInt8.ofNat y]=x^^^y:=by
 simp [Cf,acG x hx,acG y hy]
theorem ajm (b k:Nat) (hb:b<256):bits .and .u8 ((b:Int)/2^k) 1=((b/2^k%2:Nat):Int):=by
 have e:(b:Int)/2^k=((b/2^k:Nat):Int):=by simp
 have h:=(bits_nat .u8 8 (by decide) wraps_u8 (b/2^k) 1 (Nat.lt_of_le_of_lt (Nat.div_le_self _ _) hb) (by decide)).1;rw [Nat.and_one_is_mod]at h;rw [e];exact h
theorem WA (a b:Nat) (w:World) (ha:a<256) (hb:b<256):
  Calls Tryz.prog 222 #[.int .u8 a,.int .u8 b] w λe w'=>e= .returned (.int .u8 (mul a b:Nat))/\Below w.heap.size w w':=by
 obtain⟨hpl,Lj,hstop⟩:=dD (WB a ha) (WC a b ha) (ajn a b);go_enter Tryz.func222,Tryz.ntmps222;go_wp2
 go_step3
 go_wp2
 go_step3
 go_wp2;go_loopw [0,5,8] (λx p i wr=> ∃k:Nat,k<=8/\i= .int .i64 k/\p= .int .u8 (nV a b k:Nat)/\x= .int .u8 (pw a k:Nat)/\Below w.heap.size w wr) (λ_ _ i _=>8-(intOf i).toNat);case atStart=>exact⟨0,Nat.zero_le _,rfl,rfl,rfl,Below.refl _ _⟩
 case round=>
  obtain⟨k,hk,rfl,rfl,rfl,hbel⟩:=hrel;by_cases hlt:k<8
  ·have hp:=hpl.out k;have hm:=Lj.out k;by_cases h0:b/2^k=0
   ·have e:((b:Int)/2^k)=((b/2^k:Nat):Int):=(by simp);have ht:((b:Int)/2^k==0)=true:=(by rw [e,h0];rfl);have hs:=Hi (hstop.out k h0 hk);clear h0 e;go_wp2;rw [Exit.noGoto_ret];go_ret;exact⟨yl (by rw [hs.out]),hbel⟩
   ·have e:((b:Int)/2^k)=((b/2^k:Nat):Int):=(by simp);have ht:((b:Int)/2^k==0)=false:=(by rw [e];simp;omega);have X7:=ajm b k hb;cases hbit:b.testBit k with
    |true=>
     have h1:(bits .and .u8 ((b:Int)/2^k) 1==1)=true:=by
      rw [X7];rw [Nat.testBit_eq_decide_div_mod_eq]at hbit;rw [of_decide_eq_true hbit];rfl
     have hnext:Hid (nV a b (k+1)=nV a b k^^^pw a k):=by
      unfold Hid;rw [nV,hbit];simp
     clear h0 e X7 hbit;go_wp2_with fail;refine(ajh _ 2 2 _ _ (ajk rfl hm hp) (by omega)).mono ?_;rintro e w' ⟨rfl,rfl⟩;rw [ajl _ _ hm hp];go_wp2_with fail;refine(MG _ _ hp).mono ?_;rintro e w' ⟨rfl,rfl⟩;go_wp2_with fail;go_roundw;case rel=>exact⟨k+1,by omega,by go_num,BG (by rw [hnext.out]),rfl,hbel.alloc hbel.size _⟩
     case measure=>simp [intOf];omega
    |false=>
     have h1:(bits .and .u8 ((b:Int)/2^k) 1==1)=false:=by
      rw [X7];rw [Nat.testBit_eq_decide_div_mod_eq]at hbit;have:=of_decide_eq_false hbit;rw [show b/2^k%2=0 by omega];rfl
     have hnext:Hid (nV a b (k+1)=nV a b k):=by
      unfold Hid;rw [nV,hbit];simp
     clear h0 e X7 hbit;go_wp2_with fail;refine(MG _ _ hp).mono ?_;rintro e w' ⟨rfl,rfl⟩;go_wp2_with fail;go_roundw;case rel=>exact⟨k+1,by omega,by go_num,BG (by rw [hnext.out]),rfl,hbel⟩
     case measure=>simp [intOf];omega
  ·obtain rfl:k=8:=by omega
   go_wp2;rw [Exit.noGoto_ret];go_ret;exact⟨rfl,hbel⟩
end
section
open Go.RowKit
theorem ajo (x m p:Nat) (hx:x<256) (hp:p<256) (h:m%2=1):mul (mul p x) (dI (mul x x) (m/2))=mul p (dI x m):=by
 rw [acH x _ hx];have e:m=2*(m/2)+1:=by omega
 have e2:dI x m=mul (dI x (2*(m/2))) x:=by
  conv=>lhs;rw [e]
  rfl
 rw [e2,WE p x _ hp hx (xx x _),Tv x _ hx (xx x _)]
theorem ajp (x m p:Nat) (hx:x<256) (h:m%2=0):mul p (dI (mul x x) (m/2))=mul p (dI x m):=by
 rw [acH x _ hx,show 2*(m/2)=m by omega]
theorem ajq (a n:Nat) (w:World) (ha:a<256) (hn:n<18446744073709551616):
  Calls Tryz.prog 219 #[.int .u8 a,.int .u64 n] w λe w'=>e= .returned (.int .u8 (dI a n:Nat))/\Below w.heap.size w w':=by
 have h0:mul 1 (dI a n)=dI a n:=Qn _ (xx a n);go_enter Tryz.func219,Tryz.ntmps219;go_wp2;go_loopw [0,1,5] (λx y z wr=> ∃u m p:Nat,u<256/\m<18446744073709551616/\p<256/\x= .int .u8 u/\y= .int .u64 m/\z= .int .u8 p/\Hid (mul p (dI u m)=dI a n)/\Below w.heap.size w wr) (λ_ y _ _=>(intOf y).toNat);case atStart=>exact⟨a,n,1,ha,hn,by omega,rfl,rfl,rfl,Hi h0,Below.refl _ _⟩
 case round=>
  obtain⟨u,m,p,hu,hm,hp,rfl,rfl,rfl,hinv,hbel⟩:=hrel;have hB:=hbel.size;by_cases hlt:0<m
  ·rcases Nat.mod_two_eq_zero_or_one m with h2|h2
   ·have ht:(bits .and .u64 (m:Int) 1==1)=false:=(by rw [VI m hm,h2];rfl);have hnx:=Hi ((ajp u m p hu h2).trans hinv.out);clear h2 hinv h0;go_wp2_with fail;refine(WA u u _ hu hu).mono ?_;rintro e w1 ⟨rfl,au⟩;have ai:Below w.heap.size w w1:=hbel.trans (au.mono hB);go_wp2_with fail;go_roundw;case rel=>exact⟨mul u u,m/2,p,mul_lt _ _ hu,by omega,hp,rfl,BG (by simp),rfl,hnx,ai⟩
    case measure=>simp [intOf];omega
   ·have ht:(bits .and .u64 (m:Int) 1==1)=true:=(by rw [VI m hm,h2];rfl);have hnx:=Hi ((ajo u m p hu hp h2).trans hinv.out);clear h2 hinv h0;go_wp2_with fail;refine(WA p u _ hp hu).mono ?_;rintro e w1 ⟨rfl,au⟩;have ai:Below w.heap.size w w1:=hbel.trans (au.mono hB);have aF:=ai.size;go_wp2_with fail;refine(WA u u _ hu hu).mono ?_;rintro e w2 ⟨rfl,aU⟩;have il:Below w.heap.size w w2:=ai.trans (aU.mono aF);go_wp2_with fail;go_roundw;case rel=>exact⟨mul u u,m/2,mul p u,mul_lt _ _ hu,by omega,mul_lt _ _ hp,rfl,BG (by simp),rfl,hnx,il⟩
    case measure=>simp [intOf];omega
  ·obtain rfl:m=0:=by omega
   have he:Hid (p=dI a n):=by
    have h:=hinv.out;rw [show dI u 0=1 from rfl,Tx p hp]at h;exact h
   go_wp2_with fail;go_ret;exact⟨yl (by rw [he.out]),hbel⟩
end
section
open Go.RowKit
theorem ajr (a n:Nat) (w:World) (ha:a<256) (hn:n<9223372036854775808):
  Calls Tryz.prog 210 #[.int .u8 a,.int .i64 n] w λe w'=>e= .returned (.int .u8 (dI a n:Nat))/\Below w.heap.size w w':=by
 go_enter Tryz.func210,Tryz.ntmps210;go_wp2_with fail;refine(ajq a n _ ha (by omega)).mono ?_;rintro e w1 ⟨rfl,au⟩;go_wp2_with fail;go_ret;exact⟨rfl,au⟩
end
section
open Go.RowKit
def Pc (w:World) (g:Nat) (P:Nat->Nat):Prop:= ∀j,j<15->w.cell? ⟨g,j,none⟩=some (.int .i64 (P j:Nat))/\w.frozen? ⟨g,j,none⟩=false
theorem Pc.up {w:World} {g j v:Nat} {P:Nat->Nat} {x:Int} (h:Pc w g P) (hj:j<15) (hx:x=((P j+v:Nat):Int)):Pc (w.setCell ⟨g,j,none⟩ (.int .i64 x)) g (up P j v):=by
 subst hx;intro i hi;refine⟨?_,by rw [World.frozen?_setCell];exact(h i hi).2⟩;by_cases e:i=j
 ·subst e;rw [World.cell?_setCell_same _ _ _ (h i hi).1];simp [_root_.Go.Proofs.YtdaiacmneopkgaaGreatDoor.up]
 ·rw [World.cell?_setCell_other _ _ _ _ (λh=>by injection h with _ h;exact e h.symm),(h i hi).1];simp [_root_.Go.Proofs.YtdaiacmneopkgaaGreatDoor.up,e]
theorem Pc.new (w:World):Pc (w.alloc (.cells #[.int .i64 0,.int .i64 0,.int .i64 0,.int .i64 0,.int .i64 0,.int .i64 0,.int .i64 0,.int .i64 0,.int .i64 0,.int .i64 0,.int .i64 0,.int .i64 0,.int .i64 0,.int .i64 0,.int .i64 0] 226)) w.heap.size (λ_=>0):=by
 intro j hj;refine⟨?_,World.frozen?_alloc_at _ _ _ _ rfl⟩;rw [World.cell?_alloc_at _ _ _ _ rfl];rcases(show j=0\/j=1\/j=2\/j=3\/j=4\/j=5\/j=6\/j=7\/j=8\/j=9\/j=10\/j=11\/j=12\/j=13\/j=14 by omega)with rfl|rfl|rfl|rfl|rfl|rfl|rfl|rfl|rfl|rfl|rfl|rfl|rfl|rfl|rfl<;>rfl
theorem R9 (a i:Nat) (ha:a<256):(wrap64 ((a:Int)/2^i)).tmod 2=((bt a i:Nat):Int):=by
 have e:(a:Int)/2^i=((a/2^i:Nat):Int):=by simp
 have h:=Nat.div_le_self a (2^i);unfold bt;rw [e];generalize a/2^i=q at*;rw [IntWalk.wrap64_in _ (by omega),Int.tmod_eq_emod_of_nonneg (by omega)];omega
theorem ajs (p a b i k:Nat) (ha:a<256) (hb:b<256) (hp:p<=1000):
  wrap64 ((p:Int)+wrap64 ((wrap64 ((a:Int)/2^i)).tmod 2*(wrap64 ((b:Int)/2^k)).tmod 2))=((p+bt a i*bt b k:Nat):Int):=by
 have h:=acI a b i k;rw [R9 a i ha,R9 b k hb,<-Int.natCast_mul];generalize bt a i*bt b k=q at*;rw [IntWalk.wrap64_in (q:Int) (by omega),IntWalk.wrap64_in _ (by omega)];omega
theorem JW (P:Nat->Nat) (n i:Nat) (hi:i=14-n) (h:red P n i%2=0):red P (n+1)=red P n:=by
 subst hi;rw [red,MH,if_neg (by omega)]
theorem Ty (p:Nat) (h:p<=1000):wrap64 ((p:Int)+1)=((p+1:Nat):Int):=by
 rw [IntWalk.wrap64_in _ (by omega)];omega
theorem Pc.JX {w:World} {g n i p q r s:Nat} {P:Nat->Nat} (h:Pc w g (red P n)) (hn:n<=6) (hi:i=14-n) (hp:p=i-4) (hq:q=i-5) (hr:r=i-7) (hs:s=i-8)
  (h1:red P n i%2=1) (hb: ∀j,red P n j<=64+4*n):
  Pc ((((w.setCell ⟨g,p,none⟩ (.int .i64 (wrap64 ((red P n p:Nat)+1)))).setCell ⟨g,q,none⟩ (.int .i64 (wrap64 ((red P n q:Nat)+1)))).setCell ⟨g,r,none⟩ (.int .i64 (wrap64 ((red P n r:Nat)+1)))).setCell ⟨g,s,none⟩ (.int .i64 (wrap64 ((red P n s:Nat)+1)))) g (red P (n+1)):=by
 have hbp:=hb p;have hbq:=hb q;have hbr:=hb r;have hbs:=hb s;rw [Ty _ (by omega),Ty _ (by omega),Ty _ (by omega),Ty _ (by omega)];have e:red P (n+1)=_root_.Go.Proofs.YtdaiacmneopkgaaGreatDoor.up (_root_.Go.Proofs.YtdaiacmneopkgaaGreatDoor.up (_root_.Go.Proofs.YtdaiacmneopkgaaGreatDoor.up (_root_.Go.Proofs.YtdaiacmneopkgaaGreatDoor.up (red P n) p 1) q 1) r 1) s 1:=by
  rw [red,MH,<-hi,if_pos h1,hp,hq,hr,hs]
 rw [e];refine(((h.up (by omega) rfl).up (by omega) ?_).up (by omega) ?_).up (by omega) ?_
 ·simp [_root_.Go.Proofs.YtdaiacmneopkgaaGreatDoor.up,show¬q=p by omega]
 ·simp [_root_.Go.Proofs.YtdaiacmneopkgaaGreatDoor.up,show¬r=p by omega,show¬r=q by omega]
 ·simp [_root_.Go.Proofs.YtdaiacmneopkgaaGreatDoor.up,show¬s=p by omega,show¬s=q by omega,show¬s=r by omega]
theorem ajt (Q:Nat->Nat) (k:Nat) (hk:k<8) (hq:Q k<=64+4*7):wrap64 ((fin Q k:Int)+wrap64 ((Q k:Int)%2*2^k))=((fin Q (k+1):Nat):Int):=by
 have h1:=Tz Q k;have h2:2^k<=2^7:=Nat.pow_le_pow_right (by decide) (by omega);have e:(Q k:Int)%2*2^k=((Q k%2*2^k:Nat):Int):=by simp
 have h3:Q k%2*2^k<=1*2^k:=Nat.mul_le_mul_right _ (by omega);rw [e,fin];generalize Q k%2*2^k=q at*;generalize fin Q k=p at*;generalize 2^k=r at*;rw [IntWalk.wrap64_in (q:Int) (by omega),IntWalk.wrap64_in _ (by omega)];omega
theorem Gu (a b:Nat) (w:World) (ha:a<256) (hb:b<256):
  Calls Tryz.prog 114 #[.int .u8 a,.int .u8 b] w λe w'=>e= .returned (.int .u8 (mul a b:Nat))/\Below w.heap.size w w':=by
 obtain⟨hol,hil,zq⟩:=dD (WG a b) (λi=>WH (Cg a b i) a b i (8*i) (WG a b i)) (Pc.new w);go_enter Tryz.func114,Tryz.ntmps114;go_wp2;go_loopw [6] (λx wr=> ∃i:Nat,i<=8/\x= .int .i64 i/\Pc wr w.heap.size (Cg a b i)/\Below w.heap.size w wr) (λx _=>8-(intOf x).toNat);case atStart=>exact⟨0,Nat.zero_le _,rfl,zq.out,(Below.refl _ _).alloc (Nat.le_refl _) _⟩
 case round=>
  obtain⟨i,hi,rfl,hP,hbel⟩:=hrel;by_cases hit:i<8
  ·go_wp2;go_loopw [7] (λy wr=> ∃k:Nat,k<=8/\y= .int .i64 k/\Pc wr w.heap.size (MI (Cg a b i) a b i k)/\Below w.heap.size w wr) (λy _=>8-(intOf y).toNat);case atStart=>exact⟨0,Nat.zero_le _,rfl,hP,hbel⟩
   case round=>
    obtain⟨k,hk,rfl,hQ,hbel⟩:=hrel;by_cases hkt:k<8
    ·have X8:=hil.out i k (i+k);obtain⟨hc,hf⟩:=hQ (i+k) (by omega);have HQ:=Hi hQ;clear hQ;go_wp2;go_roundw;case rel=>exact⟨k+1,by omega,by go_num,HQ.out.up (by omega) (ajs _ a b i k ha hb (by omega)),hbel.setCell (Nat.le_refl _) _⟩
     case measure=>simp [intOf];omega
    ·obtain rfl:k=8:=by omega
     go_wp2;go_roundw;case rel=>exact⟨i+1,by omega,by go_num,hQ,hbel⟩
     case measure=>simp [intOf];omega
  ·obtain rfl:i=8:=by omega
   obtain⟨XV,hfm⟩:=aB (acJ (Cg a b 8) 64 (hol.out 8)) (aju a b ha hb);generalize Cg a b 8=P at*;clear hol hil zq;go_wp2;go_loopw [8] (λx wr=> ∃j:Nat,j<=7/\x= .int .i64 ((j:Int)+7)/\Pc wr w.heap.size (red P (7-j))/\Below w.heap.size w wr) (λx _=>(intOf x).toNat-7);case atStart=>exact⟨7,Nat.le_refl _,rfl,hP,hbel⟩
   case round=>
    obtain⟨j,hj,rfl,hQ,hbel⟩:=hrel;rcases(show j=0\/j=1\/j=2\/j=3\/j=4\/j=5\/j=6\/j=7 by omega)with rfl|rfl|rfl|rfl|rfl|rfl|rfl|rfl;case inl=>
     have XW:Pc wr w.heap.size (red P 7):=hQ;have X8:=Hi (XV.out 7);clear hQ hP XV;generalize red P 7=Q at*;go_wp2;go_loopw [9,10] (λx y ws=> ∃k z:Nat,k<=8/\y= .int .i64 k/\x= .int .i64 z/\z=fin Q k/\ws=wr) (λ_ y _=>8-(intOf y).toNat);case atStart=>exact⟨0,0,Nat.zero_le _,rfl,rfl,rfl,rfl⟩
     case round=>
      obtain⟨k,z,hk,rfl,rfl,hz,rfl⟩:=hrel;by_cases hkt:k<8
      ·obtain⟨hc,hf⟩:=XW k (by omega);have Ya:=X8.out k;go_wp2;go_roundw;case rel=>exact⟨k+1,_,by omega,by go_num,BG (ajt Q k hkt Ya),rfl,trivial⟩
       case measure=>simp [intOf];omega
      ·obtain rfl:k=8:=by omega
       have Ew:z<256:=(by rw [hz];exact Tz Q 8);have Yb:Hid (z=mul a b):=(by unfold Hid;rw [hz];exact hfm.out);clear hz hfm;go_wp2;go_ret;exact⟨yl (by rw [Yb.out]),hbel⟩
    case inr.inl=>
     have XX:Pc wr w.heap.size (red P 6):=hQ;clear hQ;have aY:=XV.out 6 8;obtain⟨hc,hf⟩:=XX 8 (by omega);obtain⟨X4,Ay⟩:=XX 4 (by omega);obtain⟨zM,vW⟩:=XX 3 (by omega);obtain⟨CU,X5⟩:=XX 1 (by omega);obtain⟨jI,X6⟩:=XX 0 (by omega);rcases Nat.mod_two_eq_zero_or_one (red P 6 8)with h|h
     ·have ht:(((red P 6 8:Nat):Int).tmod 2==1)=false:=by
       rw [Int.tmod_eq_emod_of_nonneg (by omega)];simp;omega
      have hn:=Hi (JW P 6 8 rfl h);go_wp2;go_roundw;case rel=>exact⟨0,by omega,rfl,by rw [show 7-0=6+1 from rfl,hn.out];exact XX,hbel⟩
      case measure=>simp [intOf]
     ·have ht:(((red P 6 8:Nat):Int).tmod 2==1)=true:=by
       rw [Int.tmod_eq_emod_of_nonneg (by omega)];simp;omega
      have hn:=Hi (XX.JX (p:=4) (q:=3) (r:=1) (s:=0) (by omega) rfl rfl rfl rfl rfl h (XV.out 6));go_wp2;go_roundw;case rel=>exact⟨0,by omega,rfl,hn.out,(((hbel.setCell (Nat.le_refl _) _).setCell (Nat.le_refl _) _).setCell (Nat.le_refl _) _).setCell (Nat.le_refl _) _⟩
      case measure=>simp [intOf]
    case inr.inr.inl=>
     have xy:Pc wr w.heap.size (red P 5):=hQ;clear hQ;have aY:=XV.out 5 9;obtain⟨hc,hf⟩:=xy 9 (by omega);obtain⟨X4,Ay⟩:=xy 5 (by omega);obtain⟨zM,vW⟩:=xy 4 (by omega);obtain⟨CU,X5⟩:=xy 2 (by omega);obtain⟨jI,X6⟩:=xy 1 (by omega);rcases Nat.mod_two_eq_zero_or_one (red P 5 9)with h|h
     ·have ht:(((red P 5 9:Nat):Int).tmod 2==1)=false:=by
       rw [Int.tmod_eq_emod_of_nonneg (by omega)];simp;omega
      have hn:=Hi (JW P 5 9 rfl h);go_wp2;go_roundw;case rel=>exact⟨1,by omega,rfl,by rw [show 7-1=5+1 from rfl,hn.out];exact xy,hbel⟩
      case measure=>simp [intOf]
     ·have ht:(((red P 5 9:Nat):Int).tmod 2==1)=true:=by
       rw [Int.tmod_eq_emod_of_nonneg (by omega)];simp;omega
      have hn:=Hi (xy.JX (p:=5) (q:=4) (r:=2) (s:=1) (by omega) rfl rfl rfl rfl rfl h (XV.out 5));go_wp2;go_roundw;case rel=>exact⟨1,by omega,rfl,hn.out,(((hbel.setCell (Nat.le_refl _) _).setCell (Nat.le_refl _) _).setCell (Nat.le_refl _) _).setCell (Nat.le_refl _) _⟩
      case measure=>simp [intOf]
    case inr.inr.inr.inl=>
     have XY:Pc wr w.heap.size (red P 4):=hQ;clear hQ;have aY:=XV.out 4 10;obtain⟨hc,hf⟩:=XY 10 (by omega);obtain⟨X4,Ay⟩:=XY 6 (by omega);obtain⟨zM,vW⟩:=XY 5 (by omega);obtain⟨CU,X5⟩:=XY 3 (by omega);obtain⟨jI,X6⟩:=XY 2 (by omega);rcases Nat.mod_two_eq_zero_or_one (red P 4 10)with h|h
     ·have ht:(((red P 4 10:Nat):Int).tmod 2==1)=false:=by
       rw [Int.tmod_eq_emod_of_nonneg (by omega)];simp;omega
      have hn:=Hi (JW P 4 10 rfl h);go_wp2;go_roundw;case rel=>exact⟨2,by omega,rfl,by rw [show 7-2=4+1 from rfl,hn.out];exact XY,hbel⟩
      case measure=>simp [intOf]
     ·have ht:(((red P 4 10:Nat):Int).tmod 2==1)=true:=by
       rw [Int.tmod_eq_emod_of_nonneg (by omega)];simp;omega
      have hn:=Hi (XY.JX (p:=6) (q:=5) (r:=3) (s:=2) (by omega) rfl rfl rfl rfl rfl h (XV.out 4));go_wp2;go_roundw;case rel=>exact⟨2,by omega,rfl,hn.out,(((hbel.setCell (Nat.le_refl _) _).setCell (Nat.le_refl _) _).setCell (Nat.le_refl _) _).setCell (Nat.le_refl _) _⟩
      case measure=>simp [intOf]
    case inr.inr.inr.inr.inl=>
     have XZ:Pc wr w.heap.size (red P 3):=hQ;clear hQ;have aY:=XV.out 3 11;obtain⟨hc,hf⟩:=XZ 11 (by omega);obtain⟨X4,Ay⟩:=XZ 7 (by omega);obtain⟨zM,vW⟩:=XZ 6 (by omega);obtain⟨CU,X5⟩:=XZ 4 (by omega);obtain⟨jI,X6⟩:=XZ 3 (by omega);rcases Nat.mod_two_eq_zero_or_one (red P 3 11)with h|h
     ·have ht:(((red P 3 11:Nat):Int).tmod 2==1)=false:=by
       rw [Int.tmod_eq_emod_of_nonneg (by omega)];simp;omega
      have hn:=Hi (JW P 3 11 rfl h);go_wp2;go_roundw;case rel=>exact⟨3,by omega,rfl,by rw [show 7-3=3+1 from rfl,hn.out];exact XZ,hbel⟩
      case measure=>simp [intOf]
     ·have ht:(((red P 3 11:Nat):Int).tmod 2==1)=true:=by
       rw [Int.tmod_eq_emod_of_nonneg (by omega)];simp;omega
      have hn:=Hi (XZ.JX (p:=7) (q:=6) (r:=4) (s:=3) (by omega) rfl rfl rfl rfl rfl h (XV.out 3));go_wp2;go_roundw;case rel=>exact⟨3,by omega,rfl,hn.out,(((hbel.setCell (Nat.le_refl _) _).setCell (Nat.le_refl _) _).setCell (Nat.le_refl _) _).setCell (Nat.le_refl _) _⟩
      case measure=>simp [intOf]
    case inr.inr.inr.inr.inr.inl=>
     have X0:Pc wr w.heap.size (red P 2):=hQ;clear hQ;have aY:=XV.out 2 12;obtain⟨hc,hf⟩:=X0 12 (by omega);obtain⟨X4,Ay⟩:=X0 8 (by omega);obtain⟨zM,vW⟩:=X0 7 (by omega);obtain⟨CU,X5⟩:=X0 5 (by omega);obtain⟨jI,X6⟩:=X0 4 (by omega);rcases Nat.mod_two_eq_zero_or_one (red P 2 12)with h|h
     ·have ht:(((red P 2 12:Nat):Int).tmod 2==1)=false:=by
       rw [Int.tmod_eq_emod_of_nonneg (by omega)];simp;omega
      have hn:=Hi (JW P 2 12 rfl h);go_wp2;go_roundw;case rel=>exact⟨4,by omega,rfl,by rw [show 7-4=2+1 from rfl,hn.out];exact X0,hbel⟩
      case measure=>simp [intOf]
     ·have ht:(((red P 2 12:Nat):Int).tmod 2==1)=true:=by
       rw [Int.tmod_eq_emod_of_nonneg (by omega)];simp;omega
      have hn:=Hi (X0.JX (p:=8) (q:=7) (r:=5) (s:=4) (by omega) rfl rfl rfl rfl rfl h (XV.out 2));go_wp2;go_roundw;case rel=>exact⟨4,by omega,rfl,hn.out,(((hbel.setCell (Nat.le_refl _) _).setCell (Nat.le_refl _) _).setCell (Nat.le_refl _) _).setCell (Nat.le_refl _) _⟩
      case measure=>simp [intOf]
    case inr.inr.inr.inr.inr.inr.inl=>
     have X3:Pc wr w.heap.size (red P 1):=hQ;clear hQ;have aY:=XV.out 1 13;obtain⟨hc,hf⟩:=X3 13 (by omega);obtain⟨X4,Ay⟩:=X3 9 (by omega);obtain⟨zM,vW⟩:=X3 8 (by omega);obtain⟨CU,X5⟩:=X3 6 (by omega);obtain⟨jI,X6⟩:=X3 5 (by omega);rcases Nat.mod_two_eq_zero_or_one (red P 1 13)with h|h
     ·have ht:(((red P 1 13:Nat):Int).tmod 2==1)=false:=by
       rw [Int.tmod_eq_emod_of_nonneg (by omega)];simp;omega
      have hn:=Hi (JW P 1 13 rfl h);go_wp2;go_roundw;case rel=>exact⟨5,by omega,rfl,by rw [show 7-5=1+1 from rfl,hn.out];exact X3,hbel⟩
      case measure=>simp [intOf]
     ·have ht:(((red P 1 13:Nat):Int).tmod 2==1)=true:=by
       rw [Int.tmod_eq_emod_of_nonneg (by omega)];simp;omega
      have hn:=Hi (X3.JX (p:=9) (q:=8) (r:=6) (s:=5) (by omega) rfl rfl rfl rfl rfl h (XV.out 1));go_wp2;go_roundw;case rel=>exact⟨5,by omega,rfl,hn.out,(((hbel.setCell (Nat.le_refl _) _).setCell (Nat.le_refl _) _).setCell (Nat.le_refl _) _).setCell (Nat.le_refl _) _⟩
      case measure=>simp [intOf]
    case inr.inr.inr.inr.inr.inr.inr=>
     have XW:Pc wr w.heap.size (red P 0):=hQ;clear hQ;have aY:=XV.out 0 14;obtain⟨hc,hf⟩:=XW 14 (by omega);obtain⟨X4,Ay⟩:=XW 10 (by omega);obtain⟨zM,vW⟩:=XW 9 (by omega);obtain⟨CU,X5⟩:=XW 7 (by omega);obtain⟨jI,X6⟩:=XW 6 (by omega);rcases Nat.mod_two_eq_zero_or_one (red P 0 14)with h|h
     ·have ht:(((red P 0 14:Nat):Int).tmod 2==1)=false:=by
       rw [Int.tmod_eq_emod_of_nonneg (by omega)];simp;omega
      have hn:=Hi (JW P 0 14 rfl h);go_wp2;go_roundw;case rel=>exact⟨6,by omega,rfl,by rw [show 7-6=0+1 from rfl,hn.out];exact XW,hbel⟩
      case measure=>simp [intOf]
     ·have ht:(((red P 0 14:Nat):Int).tmod 2==1)=true:=by
       rw [Int.tmod_eq_emod_of_nonneg (by omega)];simp;omega
      have hn:=Hi (XW.JX (p:=10) (q:=9) (r:=7) (s:=6) (by omega) rfl rfl rfl rfl rfl h (XV.out 0));go_wp2;go_roundw;case rel=>exact⟨6,by omega,rfl,hn.out,(((hbel.setCell (Nat.le_refl _) _).setCell (Nat.le_refl _) _).setCell (Nat.le_refl _) _).setCell (Nat.le_refl _) _⟩
      case measure=>simp [intOf]
end
section
open Go.RowKit
theorem ajv (a n:Nat) (w:World) (ha:a<256) (hn:n<=1000):
  Calls Tryz.prog 143 #[.int .u8 a,.int .i64 n] w λe w'=>e= .returned (.int .u8 (dI a n:Nat))/\Below w.heap.size w w':=by
 go_enter Tryz.func143,Tryz.ntmps143;go_wp2;go_loopw [5,6] (λx i wr=> ∃k:Nat,k<=n/\i= .int .i64 k/\x= .int .u8 (dI a k:Nat)/\Below w.heap.size w wr) (λ_ i _=>n-(intOf i).toNat);case atStart=>exact⟨0,Nat.zero_le _,rfl,rfl,Below.refl _ _⟩
 case round=>
  obtain⟨k,hk,rfl,rfl,hbel⟩:=hrel;by_cases hlt:k<n
  ·have hB:=hbel.size;have hp:=xx a k;go_wp2_with fail;refine(Gu (dI a k) a _ hp ha).mono ?_;rintro e w1 ⟨rfl,au⟩;have ai:Below w.heap.size w w1:=hbel.trans (au.mono hB);go_wp2_with fail;go_roundw;case rel=>exact⟨k+1,by omega,by go_num,rfl,ai⟩
   case measure=>simp [intOf];omega
  ·obtain rfl:k=n:=by omega
   go_wp2_with fail;go_ret;exact⟨rfl,hbel⟩
end
section
open Go.RowKit
def C4 (g a b c d:Nat) (W:World):Prop:=W.cell? ⟨g,0,none⟩=some (.int .u8 (a:Int))/\W.cell? ⟨g,1,none⟩=some (.int .u8 (b:Int))/\W.cell? ⟨g,2,none⟩=some (.int .u8 (c:Int))/\W.cell? ⟨g,3,none⟩=some (.int .u8 (d:Int))
theorem C4.to {g a b c d:Nat} {W W':World} (h:C4 g a b c d W) (hg:g<W.heap.size) (hb:Below W.heap.size W W'):C4 g a b c d W':=
 ⟨(hb.cell (p:=⟨g,0,none⟩) hg).trans h.1,(hb.cell (p:=⟨g,1,none⟩) hg).trans h.2.1,(hb.cell (p:=⟨g,2,none⟩) hg).trans h.2.2.1,(hb.cell (p:=⟨g,3,none⟩) hg).trans h.2.2.2⟩
theorem C4.two (a0 a1 a2 a3 b0 b1 b2 b3:Nat) (w:World): ∃w2:World,w2=(w.alloc (.cells #[.int .u8 (a0:Int),.int .u8 (a1:Int),.int .u8 (a2:Int),.int .u8 (a3:Int)] 199)).alloc (.cells #[.int .u8 (b0:Int),.int .u8 (b1:Int),.int .u8 (b2:Int),.int .u8 (b3:Int)] 199)/\
  C4 w.heap.size a0 a1 a2 a3 w2/\C4 (w.heap.size+1) b0 b1 b2 b3 w2/\Below w.heap.size w w2:=by
 refine⟨_,rfl,⟨by simp,by simp,by simp,by simp⟩,⟨by simp,by simp,by simp,by simp⟩,?_⟩;exact((Below.refl _ _).alloc (Nat.le_refl _) _).alloc (by simp) _
end
end
section
section
open Go.RowKit
def Vt:List Value:=ae 256 sb
def eX (w:World):Prop:=w.rangeAt 0 0 Vt
theorem agV (b:Nat) (h:b<256):Vt[b]?=some (.int .u8 (sb b:Nat)):=oG _ _ _ h
theorem eX.at_ {w:World} (h:eX w) (b:Nat) (hb:b<256):w.cell? ⟨0,b,none⟩=some (.int .u8 (sb b:Nat)):=by
 have:=h b _ (agV b hb)
 rwa [Nat.zero_add]at this
theorem eX.lt {w:World} (h:eX w):0<w.heap.size:=by
 have h1:=h.at_ 0 (by omega);rcases Nat.lt_or_ge 0 w.heap.size with h2|h2
 ·exact h2
 ·simp [World.cell?,Array.getElem?_eq_none h2]at h1
theorem eX.keep {w w':World} (h:eX w) (hb:Below w.heap.size w w'):eX w':=λj v hv=>(hb.cell (p:=⟨0,0+j,none⟩) h.lt).trans (h j v hv)
def zX:Array Value:=Vt.toArray
theorem O0 {P:Program} {t e:TypeId} {n:Nat} {d:TypeDesc} (hu:P.underlying t=some (.array n e)) (he:P.underlying e=some d) (hd:d.isRow=false) (hs:(P.info? e).map (·.size)=some 1)
  (cs:Array Value) (i:Nat) (u:Value) (hi:i<n) (hg:cs[i]?=some u) (w:World):(Instr.index t (.agg cs) (.int .i64 i)).run P w= .ok u w:=by
 cases hq:P.info? e with
 |none=>simp [hq]at hs
 |some q=>
  have cB:q.size=1:=by simpa [hq]using hs
  have hagg:(isAgg e).run P w= .ok false w:=by
   unfold isAgg;rw [Sem.run_bind,run_underlying he w];cases d<;>simp_all
  simp [Instr.index,run_underlying hu,asIntOf,hi,sizeOf,typeInfo,hq,cB,part,hagg,hg]
theorem Tryz.zY:Tryz.prog.underlying 33=some (.array 256 5):=by kernel_rfl
theorem Tryz.EI:(Tryz.prog.info? 33).map (λi=>(i.zero,i.size))=some (some (.agg (Array.replicate 256 (.int .u8 0))),256):=by kernel_rfl
theorem EI (w:World):(zeroValue 33).run Tryz.prog w= .ok (.agg (ae 256 λ_=>0).toArray) w:=by
 rw [xI];exact(zero_of_info Tryz.EI).1 w
theorem ug (f:Nat->Nat):(Tryz.prog.info? 33).map (·.size)=some (ae 256 f).length:=by rw [bz];exact(zero_of_info Tryz.EI).2
theorem Vu (b:Nat) (w:World) (hb:b<256) (h:eX w):
  Calls Tryz.prog 173 #[.int .u8 b] w λe w'=>e= .returned (.int .u8 (sb b:Nat))/\w'=w:=by
 have hc:=h.at_ b hb;have h1:(b:Int)<256:=by omega
 go_enter Tryz.func173,Tryz.ntmps173;go_wp2;go_ret;exact⟨rfl,rfl⟩
end
section
open Go.RowKit
theorem aa2 (x:Nat) (w:World) (hx:x<4294967296):
  Calls Tryz.prog 172 #[.int .u32 x,.int .i64 8] w λe w'=>e= .returned (.int .u32 (wX x:Nat))/\w'=w:=by
 have hr:Hid (bits BinOp.or IntKind.u32 ((x:Int)*2^8%4294967296) ((x:Int)/2^24)=((wX x:Nat):Int)):=by
  have e1:((x:Int)*2^8%4294967296)=((x*256%4294967296:Nat):Int):=by simp
  have e2:((x:Int)/2^24)=((x/16777216:Nat):Int):=by simp
  unfold Hid;rw [e1,e2,Ac _ _ (Nat.mod_lt _ (by decide)) (Nat.lt_of_le_of_lt (Nat.div_le_self _ _) hx),agW x hx]
 have nJ:bits BinOp.and IntKind.u64 8 31=8:=by decide+kernel
 go_enter Tryz.func172,Tryz.ntmps172;go_wp2;go_ret;exact⟨yl hr.out,rfl⟩
end
section
open Go.RowKit
theorem agX (x n:Nat) (hn:n<4):bits .or .u32 ((Ad x n:Nat)*256%4294967296) (((sb (wb x n):Nat):Int)%4294967296)=((Ad x (n+1):Nat):Int):=by
 have h1:=aa3 x n;have h2:=vH (wb x n);have h3:256^n<=256^3:=Nat.pow_le_pow_right (by decide) (by omega);have e:((Ad x n:Nat):Int)*256%4294967296=((2^8*Ad x n:Nat):Int):=by omega
 rw [e,show((sb (wb x n):Nat):Int)%4294967296=((sb (wb x n):Nat):Int)by omega,Ac _ _ (by omega) (by omega),<-Nat.two_pow_add_eq_or_of_lt h2,Ad];omega
theorem aa4 (x:Nat) (w:World) (hx:x<4294967296) (h:eX w):
  Calls Tryz.prog 139 #[.int .u32 x] w λe w'=>e= .returned (.int .u32 (Ae x:Nat))/\w'=w:=by
 obtain⟨hstep,hbyte,XW,hfin⟩:=fU (λn hn=>agX x n hn) (λn hn=>agY x hx n hn) (aa5 x hx) (agZ x);go_enter Tryz.func139,Tryz.ntmps139;go_wp2;go_loopw [0,3,4] (λy z i wr=> ∃n:Nat,n<=4/\i= .int .i64 n/\y= .int .u32 (qJ x n:Nat)/\z= .int .u32 (Ad x n:Nat)/\wr=w) (λ_ _ i _=>4-(intOf i).toNat);case atStart=>exact⟨0,Nat.zero_le _,rfl,rfl,rfl,rfl⟩
 case round=>
  obtain⟨n,hn,rfl,rfl,rfl,rfl⟩:=hrel;by_cases hlt:n<4
  ·obtain⟨hs,hb⟩:=aB (hstep.out n hlt) (hbyte.out n hlt);have hl:=XW.out n;have O1:=XW.out (n+1);have hwb:wb x n<256:=Nat.mod_lt _ (by decide);have hwr:((qJ x (n+1):Nat):Int)%256=((wb x n:Nat):Int):=(by have:=hb.out;omega);go_wp2_with fail;refine(aa2 _ _ hl).mono ?_;rintro e w' ⟨rfl,rfl⟩;rw [show wX (qJ x n)=qJ x (n+1)from rfl];go_wp2_with fail;refine(Vu (wb x n) _ hwb h).mono ?_;rintro e w' ⟨rfl,rfl⟩;go_wp2_with fail;go_roundw;case rel=>exact⟨n+1,by omega,by go_num,rfl,BG hs.out,trivial⟩
   case measure=>simp [intOf];omega
  ·obtain rfl:n=4:=by omega
   go_wp2_with fail;go_ret;exact⟨yl (by rw [hfin.out]),rfl⟩
end
section
open Go.RowKit
end
section
open Go.RowKit
theorem ag0 (b i:Nat) (hb:b<256) (hi:i<8):wrap64 (((99:Int)/2^i).tmod 2+(wrap64 ((b:Int)/2^i)).tmod 2)=((cnt b i 0:Nat):Int):=by
 have e2:=R9 b i hb;have e1:((99:Int)/2^i).tmod 2=((99/2^i%2:Nat):Int):=by
  rw [show(99:Int)/2^i=((99/2^i:Nat):Int)by simp];generalize 99/2^i=q;rw [Int.tmod_eq_emod_of_nonneg (by omega)];omega
 rw [e1,e2];unfold cnt bt;rw [IntWalk.wrap64_in _ (by omega)];omega
theorem ag1 (b i m q:Nat) (hb:b<256) (hm:4<=m) (Lf:m<8) (hq:q=(i+m)%8):wrap64 (((cnt b i (m-4):Nat):Int)+(wrap64 ((b:Int)/2^q)).tmod 2)=((cnt b i (m+1-4):Nat):Int):=by
 have h1:=aa6 b i (m-4);rw [R9 b _ hb,show m+1-4=m-4+1 by omega,cnt,show 4+(m-4)=m by omega,<-hq];unfold bt;rw [IntWalk.wrap64_in _ (by omega)];omega
theorem ag2 (b i:Nat) (hi:i<8):wrap64 (((zb b i:Nat):Int)+wrap64 (((cnt b i 4:Nat):Int).tmod 2*2^i))=((zb b (i+1):Nat):Int):=by
 have h1:=aa7 b i;have h2:2^i<=2^7:=Nat.pow_le_pow_right (by decide) (by omega);have e:((cnt b i 4:Nat):Int).tmod 2*2^i=((cnt b i 4%2*2^i:Nat):Int):=by
  rw [Int.tmod_eq_emod_of_nonneg (by omega)];simp
 have h3:cnt b i 4%2*2^i<=1*2^i:=Nat.mul_le_mul_right _ (by omega);rw [e,zb];generalize cnt b i 4%2*2^i=q at*;generalize zb b i=p at*;generalize 2^i=r at*;rw [IntWalk.wrap64_in (q:Int) (by omega),IntWalk.wrap64_in _ (by omega)];omega
theorem aa8 (b:Nat) (w:World) (hb:b<256):
  Calls Tryz.prog 115 #[.int .u8 b] w λe w'=>e= .returned (.int .u8 (oN b:Nat))/\w'=w:=by
 obtain⟨ze,XX,hS,hfin⟩:=fU (λi hi=>ag0 b i hb hi) (λi m q h1 h2 h3=>ag1 b i m q hb h1 h2 h3) (λi hi=>ag2 b i hi) (ag3 b hb);have hal:=ag4 b hb;go_enter Tryz.func115,Tryz.ntmps115;go_wp2;go_loopw [3,4] (λx i wr=> ∃n:Nat,n<=8/\i= .int .i64 n/\x= .int .i64 (zb b n:Nat)/\wr=w) (λ_ i _=>8-(intOf i).toNat);case atStart=>exact⟨0,Nat.zero_le _,rfl,rfl,rfl⟩
 case round=>
  obtain⟨i,hi,rfl,rfl,rfl⟩:=hrel;by_cases hlt:i<8
  ·have h0:=ze.out i hlt;have hs:=Hi (hS.out i hlt);go_wp2_with fail;obtain⟨x0,dQ⟩:=Le (zb b i);rw [dQ]at hs;rw [dQ];go_loopw [5,6] (λx y ws=> ∃m:Nat,4<=m/\m<=8/\y= .int .i64 m/\x= .int .i64 (cnt b i (m-4):Nat)/\ws=wr) (λ_ y _=>8-(intOf y).toNat);case atStart=>exact⟨4,by omega,by omega,rfl,BG h0,rfl⟩
   case round=>
    obtain⟨m,hm,Vv,rfl,rfl,rfl⟩:=hrel;clear h0;by_cases hlm:m<8
    ·obtain⟨q,hq⟩:=Lv ((i+m)%8);have hc:=Hi (XX.out i m q hm hlm hq);have hq8:q<8:=(by omega);have e1:wrap64 ((i:Int)+(m:Int))=(i:Int)+m:=IntWalk.wrap64_in _ (by omega);have e2:((i:Int)+(m:Int)).tmod 8=(q:Int):=(by rw [Int.tmod_eq_emod_of_nonneg (by omega)];omega);clear hq;go_wp2_with fail;go_roundw;case rel=>exact⟨m+1,by omega,by omega,by go_num,BG hc.out,trivial⟩
     case measure=>simp [intOf];omega
    ·obtain rfl:m=8:=by omega
     go_wp2_with fail;go_roundw;case rel=>exact⟨i+1,by omega,by go_num,BG hs.out,trivial⟩
     case measure=>simp [intOf];omega
  ·obtain rfl:i=8:=by omega
   have hf:Hid (((zb b 8:Nat):Int)%256=((oN b:Nat):Int)):=(by unfold Hid;rw [hfin.out];omega);go_wp2_with fail;go_ret;exact⟨yl hf.out,rfl⟩
end
section
open Go.RowKit
theorem ag5 {W:World} {a b:Addr} {x y:Value} (h:W.cell? a=some x/\W.cell? b=some y) {p:Addr} (hp:p.block≠a.block) (hq:p.block≠b.block) (v:Value):
  (W.setCell p v).cell? a=some x/\(W.setCell p v).cell? b=some y:=
 ⟨(World.cell?_setCell_other _ _ _ _ (λe=>hp (by rw [e]))).trans h.1,(World.cell?_setCell_other _ _ _ _ (λe=>hq (by rw [e]))).trans h.2⟩
theorem ag6 (n:Nat): ∀j,j<256->(λi=>if i=n then p3 n else(λi=>if i<n then p3 i else 0) i) j=(λi=>if i<n+1 then p3 i else 0) j:=by
 intro j _;by_cases h:j=n
 ·simp [h]
 ·by_cases h2:j<n
  ·simp [h,h2,show j<n+1 by omega]
  ·simp [h,h2,show¬j<n+1 by omega]
theorem aa9 (w:World):
  Calls Tryz.prog 77 #[] w λe w'=>e= .returned (.agg zX)/\Below w.heap.size w w':=by
 have hz:=EI;obtain⟨w1,af,ak,au,hA⟩:=nA w 256 (λ_=>0) 33;obtain⟨w2,ag⟩:=Lv (w1.alloc (.cells (ae 256 λ_=>0).toArray 33));have aD:=uN ag ak;have ai:=Bm ag au;have pJ:=An ag;have sG:=bn ag hA;rw [ak]at pJ;clear au;go_enter Tryz.func77,Tryz.ntmps77;go_upto_region 2 with fail;rw [<-af,<-ag];clear af ag hA;go_wp2_with fail;go_loopw [2,3] (λx i wr=> ∃n:Nat,n<=256/\i= .int .i64 n/\x= .int .u8 (p3 n:Nat)/\Ar wr w.heap.size 256 (λ_=>0)/\Ar wr (w.heap.size+1) 256 (λj=>if j<n then p3 j else 0)/\Below w.heap.size w wr) (λ_ i _=>256-(intOf i).toNat);case atStart=>exact⟨0,Nat.zero_le _,rfl,rfl,sG,pJ.ext (λj _=>rfl),ai⟩
 case round=>
  clear sG pJ ai aD;obtain⟨n,hn,rfl,rfl,sG,pJ,hbel⟩:=hrel;by_cases hlt:n<256
  ·obtain⟨hc,hf⟩:=pJ n hlt;have IW:(n:Int)<256:=(by omega);have hpl:=Jk n;have eP:=(pJ.set (v:=p3 n) hlt rfl).ext (ag6 n);have jy:=sG.far (p:=⟨w.heap.size+1,n,none⟩) (by simp) (.int .u8 (p3 n:Nat));have hB:=hbel.setCell (p:=⟨w.heap.size+1,n,none⟩) (by simp) (.int .u8 (p3 n:Nat));obtain⟨w3,az⟩:=Lv (wr.setCell ⟨w.heap.size+1,n,none⟩ (.int .u8 (p3 n:Nat)));rw [<-az]at eP jy hB;clear sG pJ hbel;go_wp2_with fail;rw [<-az];clear az hc hf;refine(Gu (p3 n) 3 _ hpl (by omega)).mono ?_;rintro e w4 ⟨rfl,il⟩;have mV:=jy.to (by omega) il;have uK:=eP.to (by omega) il;have kv:=hB.trans (il.mono hB.size);go_wp2_with fail;go_roundw;case rel=>exact⟨n+1,by omega,by go_num,rfl,mV,uK,kv⟩
   case measure=>simp [intOf];omega
  ·obtain rfl:n=256:=by omega
   have pJ:=pJ.ext (f':=p3) (λj hj=>by simp [hj]);have ym:=pJ.lt (by omega);obtain⟨g,hg⟩:=Le (wr.heap.size);obtain⟨w5,eO⟩:=Lv (wr.alloc (.cells (ae 256 λ_=>0).toArray 33));have jy:=bn eO sG;have eP:=bn eO pJ;have hBg:=tF eO hg;have hB:=Bm eO hbel;rw [hg]at ym;clear sG pJ hbel;go_wp2_with fail;rw [<-eO];clear eO hg;refine(aa8 0 _ (by omega)).mono ?_;rintro e w' ⟨rfl,rfl⟩;obtain⟨hc,hf⟩:=hBg 0 (by omega);have mV:=jy.far (p:=⟨g,0,none⟩) (by simp;omega) (.int .u8 (oN 0:Nat));have uK:=eP.far (p:=⟨g,0,none⟩) (by simp;omega) (.int .u8 (oN 0:Nat));have XV:=hBg.set (v:=oN 0) (j:=0) (by omega) rfl;have hC:=hB.setCell (p:=⟨g,0,none⟩) (by simp;omega) (.int .u8 (oN 0:Nat));obtain⟨w6,sH⟩:=Lv (w'.setCell ⟨g,0,none⟩ (.int .u8 (oN 0:Nat)));rw [<-sH]at mV uK XV hC;clear jy eP hBg hB;go_wp2_with fail;rw [<-sH];clear sH hc hf;go_loopw [5] (λi ws=> ∃n:Nat,n<=255/\i= .int .i64 n/\Ar ws w.heap.size 256 (λ_=>0)/\Ar ws (w.heap.size+1) 256 p3/\Ar ws g 256 (tb n)/\Below w.heap.size w ws) (λi _=>255-(intOf i).toNat);case atStart=>exact⟨0,Nat.zero_le _,rfl,mV,uK,XV,hC⟩
   case round=>
    clear mV uK XV hC;obtain⟨n,hn,rfl,mV,uK,XV,hC⟩:=hrel;by_cases hlt:n<255
    ·obtain⟨m,hm⟩:=Lv (255-n);have X3:wrap64 (255-(n:Int))=(m:Int):=(by rw [IntWalk.wrap64_in _ (by omega)];omega);have X4:IntKind.i64.wrap (255-(n:Int))=(m:Int):=(by rw [fO _ (by omega) (by omega)];omega);have Oc:(n:Int)<256:=(by omega);have hi4:(0:Int)<=(m:Int):=(by omega);have IW:(m:Int)<256:=(by omega);have hpn:=Jk n;have hpm:=Jk m;have hi3:((p3 n:Nat):Int)<256:=(by omega);have hM:=Hi hm;have EJ:=(uK n (by omega)).1;have tL:=(uK m (by omega)).1;obtain⟨hc,hf⟩:=XV (p3 n) hpn;have hne:g≠w.heap.size+1:=(by omega);clear hm;have hN:(wr.setCell ⟨g,p3 n,none⟩ (.int .u8 (oN (p3 m):Nat))).drew.cell? ⟨w.heap.size+1,n,none⟩=some (.int .u8 (p3 n:Nat))/\(wr.setCell ⟨g,p3 n,none⟩ (.int .u8 (oN (p3 m):Nat))).drew.cell? ⟨w.heap.size+1,m,none⟩=some (.int .u8 (p3 m:Nat)):=
      ag5 (W:=wr) (p:=⟨g,p3 n,none⟩) ⟨EJ,tL⟩ hne hne _
     go_wp2_with fail
     go_region_held3 (λW=>W.cell? ⟨w.heap.size+1,n,none⟩=some (.int .u8 (p3 n:Nat))/\W.cell? ⟨w.heap.size+1,m,none⟩=some (.int .u8 (p3 m:Nat)))
      (first|assumption|(exact⟨EJ,tL⟩)|(exact hN))
      (first
      |(go_at_call 115;refine(aa8 (p3 m) _ hpm).mono ?_;rintro e w6 ⟨rfl,rfl⟩))
     have XY:=mV.far (p:=⟨g,p3 n,none⟩) (by simp;omega) (.int .u8 (oN (p3 m):Nat));have XZ:=uK.far (p:=⟨g,p3 n,none⟩) hne (.int .u8 (oN (p3 m):Nat));have EK:=(XV.set (v:=oN (p3 m)) (j:=p3 n) hpn rfl).ext (f':=tb (n+1)) (λj _=>by rw [tb,hM.out]);have hD:=hC.setCell (p:=⟨g,p3 n,none⟩) (by simp;omega) (.int .u8 (oN (p3 m):Nat));go_wp2_with fail;go_roundw;case rel=>exact⟨n+1,by omega,by go_num,XY.drew,XZ.drew,EK.drew,hD.drew⟩
     case measure=>simp [intOf];omega
    ·obtain rfl:n=255:=by omega
     have EK:=XV.ext (f':=sb) (λj hj=>ag7 j hj);clear XV;go_wp2_with (first
      |(refine bB rfl _ _ rfl _ _ _ rfl EK Tryz.zY (ug _) ?_)
      |(refine bC rfl _ _ _ rfl _ _ _ sb rfl rfl mV (ug _) ?_;intro w7 X0 FR _ _))
     refine dU rfl rfl X0 Tryz.zY (ug _) rfl ⟨rfl,?_⟩;exact hC.trans FR
end
end
end Go.Proofs.YtdaiacmneopkgaaGreatDoor
