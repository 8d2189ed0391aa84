/-
 Contracts of package echo and of its reference, by walks through their texts; what was there stays as it was.
-/
import Derived.Test.YtdaiacmneopkgaaGreatDoorMbb
import Derived.Test.YtdaiacmneopkgaaGreatDoorMda
import Derived.Lib.MinMax
namespace Go.Proofs.YtdaiacmneopkgaaGreatDoor
set_option linter.unusedSimpArgs false
set_option linter.unusedVariables false
set_option maxRecDepth 100000
set_option maxHeartbeats 1600000
section
open Go.RowKit
def TH (s t:Nat):Nat->Value
 |0=> .int .u16 (s:Int)|_=> .int .u64 (t:Int)
def ekF (q:Nat) (z:Bool):Nat->Value:=λ_=> .pointer (if z then some ⟨q,0,none⟩else none)
structure Ek (w:World) (g q s t:Nat) (z:Bool):Prop where
 cx:Cx w g 1 (ekF q z)
 tk:z=true->Cx w q 2 (TH s t)
 top:s<65536/\t<18446744073709551616
def Qw (t:Nat) (z:Bool) (x:Nat):Nat:=if z then x-t else 0
def mI (s t:Nat) (z:Bool) (x:Nat):Nat:=if z then xz s (x-t)else 65535
theorem Lu (s t:Nat) (z:Bool) (x:Nat):mI s t z x<65536:=by unfold mI;split;exact aj6 _ _;decide
section
variable {w w':World} {g q s t:Nat} {z:Bool} {S:Nat->Prop}
theorem Ek.lt (h:Ek w g q s t z):g<w.heap.size:=h.cx.lt (by omega)
theorem Ek.yw (h:Ek w g q s t true):q<w.heap.size:=(h.tk rfl).lt (by omega)
theorem Ek.but (h:Ek w g q s t z) (hb:But S w w') (hs: ¬S g) (hq:z=true-> ¬S q):Ek w' g q s t z:=⟨h.cx.but hb hs,λe=>(h.tk e).but hb (hq e),h.top⟩
theorem Ek.to (h:Ek w g q s t z) (hb:Below w.heap.size w w'):Ek w' g q s t z:=⟨h.cx.to (by omega) hb,λe=>(h.tk e).to (by omega) hb,h.top⟩
theorem Ek.drew (h:Ek w g q s t z):Ek w.drew g q s t z:=⟨h.cx,h.tk,h.top⟩
theorem Ek.c (h:Ek w g q s t z):w.cell? ⟨g,0,none⟩=some (.pointer (if z then some ⟨q,0,none⟩else none)):=(h.cx 0 (by omega)).1
theorem Ek.fz (h:Ek w g q s t z):w.frozen? ⟨g,0,none⟩=false:=(h.cx 0 (by omega)).2
theorem Ek.c0 (h:Ek w g q s t true):w.cell? ⟨q,0,none⟩=some (.int .u16 (s:Int)):=(h.tk rfl 0 (by omega)).1
theorem Ek.c1 (h:Ek w g q s t true):w.cell? ⟨q,1,none⟩=some (.int .u64 (t:Int)):=(h.tk rfl 1 (by omega)).1
theorem Ek.ne (h:Ek w g q s t true):q≠g:=by
 rintro rfl;have h1:=h.c0;rw [h.c]at h1;cases h1
end
def aj7 (L n E:Nat):Nat->Value
 |0=> .int .u16 (L:Int)|1=> .int .i64 (n:Int)|_=> .int .u32 (E:Int)
structure Rt (w:World) (g L n E:Nat):Prop where
 cx:Cx w g 3 (aj7 L n E)
 top:E<=524287
def vK (n E s:Nat):Nat:=if n=0 then 8*s else E-(E+4)/8+s
theorem VG {n E s:Nat} (h:E<=524287) (hs:s<65536):vK n E s<=524287:=by unfold vK;split<;>omega
section
variable {w w':World} {g L n E:Nat} {S:Nat->Prop}
theorem Rt.lt (h:Rt w g L n E):g<w.heap.size:=h.cx.lt (by omega)
theorem Rt.but (h:Rt w g L n E) (hb:But S w w') (hs: ¬S g):Rt w' g L n E:=⟨h.cx.but hb hs,h.top⟩
theorem Rt.to (h:Rt w g L n E) (hb:Below w.heap.size w w'):Rt w' g L n E:=⟨h.cx.to (by omega) hb,h.top⟩
theorem Rt.drew (h:Rt w g L n E):Rt w.drew g L n E:=⟨h.cx,h.top⟩
theorem Rt.c0 (h:Rt w g L n E):w.cell? ⟨g,0,none⟩=some (.int .u16 (L:Int)):=(h.cx 0 (by omega)).1
theorem Rt.c1 (h:Rt w g L n E):w.cell? ⟨g,1,none⟩=some (.int .i64 (n:Int)):=(h.cx 1 (by omega)).1
theorem Rt.c2 (h:Rt w g L n E):w.cell? ⟨g,2,none⟩=some (.int .u32 (E:Int)):=(h.cx 2 (by omega)).1
theorem Rt.z0 (h:Rt w g L n E):w.frozen? ⟨g,0,none⟩=false:=(h.cx 0 (by omega)).2
theorem Rt.z1 (h:Rt w g L n E):w.frozen? ⟨g,1,none⟩=false:=(h.cx 1 (by omega)).2
theorem Rt.z2 (h:Rt w g L n E):w.frozen? ⟨g,2,none⟩=false:=(h.cx 2 (by omega)).2
end
theorem aj8 (w:World):
  Calls Tryz.prog 29 #[] w λe w'=> ∃g,e= .returned (.pointer (some ⟨g,0,none⟩))/\w.heap.size<=g/\Ek w' g 0 0 0 false/\Below w.heap.size w w':=by
 go_enter Tryz.func29,Tryz.ntmps29;go_wp2_with fail;go_ret;refine⟨_,rfl,Nat.le_refl _,⟨?_,λh=>(by cases h),by decide⟩,(Below.refl _ _).alloc (Nat.le_refl _) _⟩;exact Cx.new w 1 (ekF 0 false) _
theorem eth (q s t x:Nat) (w:World) (h:Cx w q 2 (TH s t)) (hx:x<18446744073709551616):
  Calls Tryz.prog 122 #[.pointer (some ⟨q,0,none⟩),.int .u64 (x:Int)] w λe w'=>e= .returned (.int .u64 ((x-t:Nat):Int))/\w'=w:=by
 have c1:w.cell? ⟨q,1,none⟩=some (.int .u64 (t:Int)):=(h 1 (by omega)).1;obtain⟨m,hm⟩: ∃m,min x t=m:=⟨_,rfl⟩;obtain⟨h1,h2⟩:=aB (show min (x:Int) (t:Int)=(m:Int)by omega) (show IntKind.u64.wrap ((x:Int)-(m:Int))=((x-t:Nat):Int)by rw [IntKind.wrap_u64];omega);clear hm hx h;go_enter Tryz.func122,Tryz.ntmps122;go_wp2_with fail;rw [h1.out];go_ret;exact⟨yu h2.out,rfl⟩
theorem acP (g q s t:Nat) (z:Bool) (x:Nat) (w:World) (h:Ek w g q s t z) (hx:x<18446744073709551616):
  Calls Tryz.prog 86 #[.pointer (some ⟨g,0,none⟩),.int .u64 (x:Int)] w λe w'=>e= .returned (.tuple #[.int .u64 (Qw t z x:Nat),.bool z])/\w'=w:=by
 have c:=h.c;cases z with
 |false=>
  rw [show Qw t false x=0 from rfl];simp only [Bool.false_eq_true,if_false]at c;clear h hx;go_enter Tryz.func86,Tryz.ntmps86;go_wp2_with fail;go_ret2;exact⟨rfl,rfl⟩
 |true=>
  rw [show Qw t true x=x-t from rfl];simp only [if_true]at c;obtain⟨H,HX⟩:=aB (h.tk rfl) hx;clear h hx;go_enter Tryz.func86,Tryz.ntmps86;go_wp2_with fail;refine(eth q s t x _ H.out HX.out).mono ?_;rintro e w1 ⟨rfl,rfl⟩;go_wp2_with fail;go_ret2;exact⟨rfl,rfl⟩
theorem ahA (g q0 s0 t0:Nat) (z:Bool) (s t:Nat) (w:World) (h:Ek w g q0 s0 t0 z) (hs:s<65536) (ht:t<18446744073709551616):
  Calls Tryz.prog 98 #[.pointer (some ⟨g,0,none⟩),.int .u16 (s:Int),.int .u64 (t:Int)] w λe w'=> ∃q,e= .returned (.tuple #[])/\w.heap.size<=q/\Ek w' g q s t true/\But (On g) w w':=by
 obtain⟨HC,HL,HT⟩:=dD h.cx h.lt (And.intro hs ht);have hB:=(Below.refl w.heap.size w).alloc (Nat.le_refl _) (.cells #[.int .u16 (s:Int),.int .u64 (t:Int)] 173);have h2:=h.to hB;have z0:=h2.fz;have c:=h2.c;obtain⟨p0,zq⟩: ∃p0,(if z=true then some (⟨q0,0,none⟩:Addr)else none)=p0:=⟨_,rfl⟩;rw [zq]at c;clear zq h2 h hs ht hB;go_enter Tryz.func98,Tryz.ntmps98;go_wp2_with fail;go_end0;have hl:=HL.out;have hB:=(Below.refl w.heap.size w).alloc (Nat.le_refl _) (.cells #[.int .u16 (s:Int),.int .u64 (t:Int)] 173);have hC:Cx (w.alloc (.cells #[.int .u16 (s:Int),.int .u64 (t:Int)] 173)) w.heap.size 2 (TH s t):=Cx.new w 2 (TH s t) _;refine⟨_,rfl,Nat.le_refl _,⟨(((HC.out.to (by omega) hB).set _ (by omega)).ext (λj hj=> ?_)),λ_=>hC.far (p:=⟨g,0,none⟩) (show g≠w.heap.size by omega) _,HT.out⟩,(But.of hB).put 0 _⟩;obtain rfl:j=0:=by omega
 rfl
theorem aj9 (g q s t:Nat) (z:Bool) (x:Nat) (w:World) (h:Ek w g q s t z) (hx:x<18446744073709551616):
  Calls Tryz.prog 44 #[.pointer (some ⟨g,0,none⟩),.int .u64 (x:Int)] w λe w'=>e= .returned (.int .u16 (mI s t z x:Nat))/\Ek w' g q s t false/\But (On g) w w':=by
 have c:=h.c;have zf:=h.fz;obtain⟨H,HX⟩:=aB h hx;cases z with
 |false=>
  clear h hx c zf;rw [show mI s t false x=65535 from rfl];go_enter Tryz.func44,Tryz.ntmps44;go_wp2_with fail;refine(acP g q s t _ x _ H.out HX.out).mono ?_;rintro e w1 ⟨rfl,rfl⟩;rw [show Qw t false x=0 from rfl];go_wp2_with fail;go_ret;exact⟨rfl,H.out,But.refl _ _⟩
 |true=>
  simp only [if_true]at c;have c0:=h.c0;have HS:=Hi h.top.1;rw [show mI s t true x=xz s (x-t)from rfl];obtain⟨d,hd⟩: ∃d,x-t=d:=⟨_,rfl⟩;obtain⟨HD,HE⟩:=aB (show d<18446744073709551616 by omega) (show Qw t true x=d from hd);rw [hd];clear h hx hd;go_enter Tryz.func44,Tryz.ntmps44;go_wp2_with fail;refine(acP g q s t _ x _ H.out HX.out).mono ?_;rintro e w1 ⟨rfl,rfl⟩;rw [HE.out];go_wp2_with fail;refine(aka s d _ HS.out HD.out).mono ?_;rintro e w1 ⟨rfl,rfl⟩;go_wp2_with fail;go_ret;refine⟨rfl,⟨(H.out.cx.set _ (by omega)).ext (λj hj=> ?_),λe=>(by cases e),H.out.top⟩,(But.refl _ _).put 0 _⟩;obtain rfl:j=0:=by omega
  rfl
theorem akb (E s:Nat) (h:E<=524287) (hs:s<65536): ∃A D G R:Nat,IntKind.u32.wrap ((E:Int)+4)=(A:Int)/\(A:Int).tdiv 8=(D:Int)/\IntKind.u32.wrap ((E:Int)-(D:Int))=(G:Int)/\IntKind.u32.wrap ((G:Int)+(s:Int))=(R:Int)/\IntKind.u32.wrap (D:Int)=(D:Int)/\E-(E+4)/8+s=R:=by
 refine⟨E+4,(E+4)/8,E-(E+4)/8,E-(E+4)/8+s,?_,?_,?_,?_,?_,rfl⟩
 ·rw [IntKind.wrap_u32];omega
 ·rw [Int.tdiv_eq_ediv_of_nonneg (by omega)];omega
 ·rw [IntKind.wrap_u32];omega
 ·rw [IntKind.wrap_u32];omega
 ·rw [IntKind.wrap_u32];omega
theorem rest (g L n E:Nat) (w:World) (h:Rt w g L n E):
  Calls Tryz.prog 69 #[.pointer (some ⟨g,0,none⟩)] w λe w'=>e= .returned (.int .u32 (E:Int))/\w'=w:=by
 have c1:=h.c1;have c2:=h.c2;clear h;go_enter Tryz.func69,Tryz.ntmps69;go_wp2_with fail;go_ret;exact⟨rfl,rfl⟩
end
section
open Go.RowKit
def FN (z:Bool) (s t:Nat):Nat->Value
 |0=> .bool z|1=> .int .i64 (s:Int)|_=> .int .u64 (t:Int)
def vO (H:Nat->Nat):Nat->Nat
 |0=>0
 |n+1=>vK n (vO H n) (H n)
theorem anz {H:Nat->Nat} {n:Nat} (h: ∀j,j<n->H j<65536):vO H n<=524287:=by
 induction n with
 |zero=>exact Nat.zero_le _
 |succ n ih=>exact VG (ih (λj hj=>h j (by omega))) (h n (by omega))
theorem anA (z:Bool) (s t x:Nat) (w:World) (hx:x<18446744073709551616):
  Calls Tryz.prog 89 #[.agg #[.bool z,.int .i64 (s:Int),.int .u64 (t:Int)],.int .u64 (x:Int)] w λe w'=>e= .returned (.int .u64 ((x-t:Nat):Int))/\Below w.heap.size w w':=by
 by_cases h:t<x
 ·have i1:(x:Int)>(t:Int):=by omega
  obtain⟨d,hd⟩: ∃d,x-t=d:=⟨_,rfl⟩;have a1:=Hi (show IntKind.u64.wrap ((x:Int)-(t:Int))=(d:Int)by rw [IntKind.wrap_u64];omega);rw [hd];clear hd hx h;go_enter Tryz.func89,Tryz.ntmps89;go_wp2_with fail;try rw [a1.out]
  go_ret;exact⟨rfl,(Below.refl _ _).alloc (Nat.le_refl _) _⟩
 ·have i1: ¬(x:Int)>(t:Int):=by omega
  rw [show x-t=0 by omega];clear hx h;go_enter Tryz.func89,Tryz.ntmps89;go_wp2_with fail;go_ret;exact⟨rfl,(Below.refl _ _).alloc (Nat.le_refl _) _⟩
theorem anB {s t:Nat} {w W W2:World} (h:W.cell? ⟨w.heap.size,0,none⟩=some (.bool true)/\W.cell? ⟨w.heap.size,1,none⟩=some (.int .i64 (s:Int))/\W.cell? ⟨w.heap.size,2,none⟩=some (.int .u64 (t:Int))/\Cx W w.heap.size 3 (FN true s t)/\Below w.heap.size w W) (hb:Below W.heap.size W W2):W2.cell? ⟨w.heap.size,0,none⟩=some (.bool true)/\W2.cell? ⟨w.heap.size,1,none⟩=some (.int .i64 (s:Int))/\W2.cell? ⟨w.heap.size,2,none⟩=some (.int .u64 (t:Int))/\Cx W2 w.heap.size 3 (FN true s t)/\Below w.heap.size w W2:=by
 have h1:=h.2.2.2.1.to (by omega) hb;exact⟨(h1 0 (by omega)).1,(h1 1 (by omega)).1,(h1 2 (by omega)).1,h1,h.2.2.2.2.trans (hb.mono h.2.2.2.2.size)⟩
theorem ada (z:Bool) (s t x:Nat) (w:World) (hx:x<18446744073709551616) (hs:s<65536):
  Calls Tryz.prog 47 #[.agg #[.bool z,.int .i64 (s:Int),.int .u64 (t:Int)],.int .u64 (x:Int)] w λe w'=>e= .returned (.int .i64 (mI s t z x:Nat))/\Below w.heap.size w w':=by
 cases z with
 |false=>
  rw [show mI s t false x=65535 from rfl];clear hx hs;have hb:Below w.heap.size w (w.alloc (.cells #[.bool false,.int .i64 (s:Int),.int .u64 (t:Int)] 40)):=(Below.refl _ _).alloc (Nat.le_refl _) _;have hk:Cx (w.alloc (.cells #[.bool false,.int .i64 (s:Int),.int .u64 (t:Int)] 40)) w.heap.size 3 (FN false s t):=Cx.new w 3 (FN false s t) _;generalize hv:w.alloc (.cells #[.bool false,.int .i64 (s:Int),.int .u64 (t:Int)] 40)=v at hb hk;have c0:=(hk 0 (by omega)).1;have c1:=(hk 1 (by omega)).1;have c2:=(hk 2 (by omega)).1;simp only [FN]at c0 c1 c2;go_enter Tryz.func47,Tryz.ntmps47;go_wp2_with fail;go_ret;exact⟨rfl,hb⟩
 |true=>
  rw [show mI s t true x=xz s (x-t)from rfl];obtain⟨HX,HS,HD⟩:=dD hx hs (show x-t<18446744073709551616 by omega);obtain⟨d,hd⟩: ∃d,x-t=d:=⟨_,rfl⟩;rw [hd]at HD⊢;have HE:=Hi hd;clear hx hs hd;have hb:Below w.heap.size w (w.alloc (.cells #[.bool true,.int .i64 (s:Int),.int .u64 (t:Int)] 40)):=(Below.refl _ _).alloc (Nat.le_refl _) _;have hk:Cx (w.alloc (.cells #[.bool true,.int .i64 (s:Int),.int .u64 (t:Int)] 40)) w.heap.size 3 (FN true s t):=Cx.new w 3 (FN true s t) _;generalize hv:w.alloc (.cells #[.bool true,.int .i64 (s:Int),.int .u64 (t:Int)] 40)=v at hb hk;have c0:=(hk 0 (by omega)).1;have c1:=(hk 1 (by omega)).1;have c2:=(hk 2 (by omega)).1;simp only [FN]at c0 c1 c2;go_enter Tryz.func47,Tryz.ntmps47;go_upto_region 3 with fail;try rw [hv]
  clear hv
  go_region_held3 (λW=>W.cell? ⟨w.heap.size,0,none⟩=some (.bool true)/\W.cell? ⟨w.heap.size,1,none⟩=some (.int .i64 (s:Int))/\W.cell? ⟨w.heap.size,2,none⟩=some (.int .u64 (t:Int))/\Cx W w.heap.size 3 (FN true s t)/\Below w.heap.size w W)
   (first|assumption|(exact⟨c0,c1,c2,hk.drew,hb.drew⟩)|(exact anB (by assumption) (by assumption)))
   (first
   |(go_at_call 89;refine(anA _ _ _ _ _ HX.out).mono ?_;rintro e w9 ⟨rfl,rH⟩;rw [HE.out])
   |(go_at_call 88;refine(akH _ _ _ HS.out HD.out).mono ?_;rintro e w9 ⟨rfl,rfl⟩))
  rename_i hS;go_wp2_with fail;go_ret;exact⟨rfl,hS.2.2.2.2⟩
theorem anC (n E s:Nat) (hn:n≠0) (h:E<=524287) (hs:s<65536): ∃A D G:Nat,(E:Int)+4=(A:Int)/\(A:Int).tdiv 8=(D:Int)/\(E:Int)-(D:Int)=(G:Int)/\(G:Int)+(s:Int)=((vK n E s:Nat):Int)/\A<1000000/\D<1000000/\G<1000000:=by
 refine⟨E+4,(E+4)/8,E-(E+4)/8,?_,?_,?_,?_,?_,?_,?_⟩
 ·omega
 ·rw [Int.tdiv_eq_ediv_of_nonneg (by omega)];omega
 ·omega
 ·unfold vK;rw [if_neg hn];omega
 ·omega
 ·omega
 ·omega
theorem Sv (A:Option Addr) (n c B:Nat) (H:Nat->Nat) (w:World) (h:Hs w B A n H) (hF: ∀j,j<n->H j<65536) (hn:n<=1000):
  Calls Tryz.prog 61 #[.slice A n c] w λe w'=>e= .returned (.int .i64 (vO H n:Nat))/\w'=w:=by
 obtain⟨V,hV⟩: ∃V,vO H n=V:=⟨_,rfl⟩;rw [hV];obtain⟨HV,HF⟩:=aB hV hF;clear hV hF;go_enter Tryz.func61,Tryz.ntmps61;go_wp2_with fail;go_loopw [3,4] (λv i wr=> ∃r V:Nat,r<=n/\v= .int .i64 (V:Int)/\i= .int .i64 (r:Int)/\Hid (vO H r=V)/\wr=w) (λv i _=>n-(intOf i).toNat);case atStart=>exact⟨0,0,Nat.zero_le _,rfl,rfl,Hi rfl,rfl⟩
 case round=>
  obtain⟨r,E,hr,rfl,rfl,HE,rfl⟩:=hrel;by_cases hlt:r<n
  ·have i1:(r:Int)<(n:Int):=(by omega);obtain⟨b,off,rfl,hb,hcell⟩:=h r hlt;have hs:=HF.out r hlt;have hE:E<=524287:=(by rw [<-HE.out];exact anz (λj hj=>HF.out j (by omega)));have HN:=Hi (show vO H (r+1)=vK r E (H r)by rw [<-HE.out];rfl);obtain⟨q,hq⟩: ∃q,H r=q:=⟨_,rfl⟩;rw [hq]at hcell HN hs;clear hq;by_cases h0:r=0
   ·have i2:((r:Int)==0)=true:=(by simp [h0]);rw [show vK r E q=8*q from if_pos h0]at HN;clear h0;go_wp2_with fail;go_roundw;case rel=>exact⟨r+1,8*q,by omega,by go_num,by go_num,HN,(by first|rfl|trivial)⟩
    case measure=>simp [intOf];omega
   ·have i2:((r:Int)==0)=false:=(by simp [h0]);obtain⟨A1,D,G,e1,e2,e3,e4,b1,b2,b3⟩:=anC r E q h0 hE hs;obtain⟨N,hN⟩: ∃N,vK r E q=N:=⟨_,rfl⟩;rw [hN]at HN e4;have EY:N<=524287:=(by rw [<-hN];exact VG hE hs);clear hN hE h0;go_wp2_with fail;go_roundw;case rel=>exact⟨r+1,N,by omega,by go_num,by go_num,HN,(by first|rfl|trivial)⟩
    case measure=>simp [intOf];omega
  ·have i1: ¬(r:Int)<(n:Int):=(by omega);obtain rfl:r=n:=by omega
   go_wp2_with fail;go_ret;exact⟨by rw [<-HV.out,<-HE.out];rfl,rfl⟩
end
end Go.Proofs.YtdaiacmneopkgaaGreatDoor
