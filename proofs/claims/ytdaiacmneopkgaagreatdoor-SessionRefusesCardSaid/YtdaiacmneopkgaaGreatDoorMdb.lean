/-
 Contracts of packages counter and filter and of their reference packages, by walks through their texts; what was there stays as it was.
-/
import Derived.Test.YtdaiacmneopkgaaGreatDoorMba
import Derived.Test.YtdaiacmneopkgaaGreatDoorMda
import Derived.Lib.MinMax
namespace Go.Proofs.YtdaiacmneopkgaaGreatDoor
set_option linter.unusedSimpArgs false
set_option linter.unusedVariables false
set_option maxRecDepth 100000
set_option maxHeartbeats 1600000
section
open Go.RowKit
def Td (x k:Nat) (z:Bool):Nat->Value
 |0=> .int .u64 (x:Int)|1=> .int .u64 (k:Int)|_=> .bool z
structure Ct (w:World) (g x k:Nat) (z:Bool):Prop where
 cx:Cx w g 3 (Td x k z)
 top:x<=9223372036854775807
 few:k<=x
def fG (x:Nat) (z:Bool):Nat:=if z then 7 else if 9223372036854775807<=x then 6 else 0
def vD (x:Nat) (z:Bool):Nat:=if fG x z=0 then x else 0
def Ao (x:Nat) (z:Bool) (n:Nat):Nat:=if fG x z=0 then n+1 else n
def Qd (x:Nat) (z:Bool):Nat:=if z then 0 else 9223372036854775807-x
theorem Qe {x:Nat} {z:Bool} (h:fG x z=0):z=false/\x<9223372036854775807:=by
 unfold fG at h;cases z with
 |true=>simp at h
 |false=>
  refine⟨rfl,?_⟩;rw [if_neg (by decide)]at h;split at h<;>omega
section
variable {w w':World} {g x k:Nat} {z:Bool} {S:Nat->Prop}
theorem Ct.lt (h:Ct w g x k z):g<w.heap.size:=h.cx.lt (by omega)
theorem Ct.but (h:Ct w g x k z) (hb:But S w w') (hs: ¬S g):Ct w' g x k z:=⟨h.cx.but hb hs,h.top,h.few⟩
theorem Ct.to (h:Ct w g x k z) (hb:Below w.heap.size w w'):Ct w' g x k z:=⟨h.cx.to (by omega) hb,h.top,h.few⟩
theorem Ct.keep {B:Nat} (h:Ct w g x k z) (hg:g<B) (hb:Below B w w'):Ct w' g x k z:=⟨h.cx.keep hg hb,h.top,h.few⟩
theorem Ct.drew (h:Ct w g x k z):Ct w.drew g x k z:=⟨h.cx,h.top,h.few⟩
theorem Ct.c0 (h:Ct w g x k z):w.cell? ⟨g,0,none⟩=some (.int .u64 (x:Int)):=(h.cx 0 (by omega)).1
theorem Ct.c1 (h:Ct w g x k z):w.cell? ⟨g,1,none⟩=some (.int .u64 (k:Int)):=(h.cx 1 (by omega)).1
theorem Ct.c2 (h:Ct w g x k z):w.cell? ⟨g,2,none⟩=some (.bool z):=(h.cx 2 (by omega)).1
theorem Ct.z0 (h:Ct w g x k z):w.frozen? ⟨g,0,none⟩=false:=(h.cx 0 (by omega)).2
theorem Ct.z1 (h:Ct w g x k z):w.frozen? ⟨g,1,none⟩=false:=(h.cx 1 (by omega)).2
theorem Ct.z2 (h:Ct w g x k z):w.frozen? ⟨g,2,none⟩=false:=(h.cx 2 (by omega)).2
end
theorem aiW (x:Nat) (w:World) (hx:x<18446744073709551616):
  Calls Tryz.prog 27 #[.int .u64 (x:Int)] w λe w'=> ∃g,e= .returned (.pointer (some ⟨g,0,none⟩))/\w.heap.size<=g/\Ct w' g (min x 9223372036854775807) 0 false/\Below w.heap.size w w':=by
 obtain⟨m,hm⟩: ∃m,min x 9223372036854775807=m:=⟨_,rfl⟩;have h1:=Hi (show min (x:Int) 9223372036854775807=(m:Int)by omega);have h2:m<=9223372036854775807:=by omega
 rw [hm];clear hm;go_enter Tryz.func27,Tryz.ntmps27;go_wp2_with fail;rw [h1.out];go_ret;refine⟨_,rfl,Nat.le_refl _,⟨?_,h2,Nat.zero_le _⟩,(Below.refl _ _).alloc (Nat.le_refl _) _⟩;exact Cx.new w 3 (Td m 0 false) _
theorem Te (p x k:Nat) (z:Bool) (g:Nat) (w:World) (hp:w.cell? ⟨p,0,none⟩=some (.pointer (some ⟨g,0,none⟩))) (h:Ct w g x k z):
  Calls Tryz.prog 116 #[.pointer (some ⟨p,0,none⟩)] w λe w'=>e= .returned (ll (fG x z))/\w'=w:=by
 have c0:=h.c0;have c2:=h.c2;have ht:=h.top;clear h;cases z with
 |true=>
  go_enter Tryz.func116,Tryz.ntmps116;go_wp2_with fail;go_ret;exact⟨rfl,rfl⟩
 |false=>
  by_cases h9:9223372036854775807<=x
  ·obtain rfl:x=9223372036854775807:=by omega
   clear ht h9;go_enter Tryz.func116,Tryz.ntmps116;go_wp2_with fail;go_ret;exact⟨rfl,rfl⟩
  ·have i1: ¬(x:Int)>=9223372036854775807:=(by omega);rw [show fG x false=0 by unfold fG;rw [if_neg (by decide),if_neg h9]];clear ht h9;go_enter Tryz.func116,Tryz.ntmps116;go_wp2_with fail;go_ret;exact⟨rfl,rfl⟩
theorem Tf (q:Option Addr) (w:World):
  Calls Tryz.prog 78 #[.pointer q] w λe w'=>e= .returned (.func (.func 116) #[] #[.pointer (some ⟨w.heap.size,0,none⟩)])/\w'=w.alloc (.cells #[.pointer q] 82):=by
 go_enter Tryz.func78,Tryz.ntmps78;go_wp2_with fail;go_ret;exact⟨rfl,rfl⟩
theorem acj (g x k:Nat) (z:Bool) (w:World) (h:Ct w g x k z):
  Calls Tryz.prog 104 #[.pointer (some ⟨g,0,none⟩)] w λe w'=>e= .returned (.tuple #[.int .u64 (vD x z:Nat),ll (fG x z)])/\Below w.heap.size w w':=by
 have hb:Below w.heap.size w (w.alloc (.cells #[.pointer (some ⟨g,0,none⟩)] 82)):=(Below.refl _ _).alloc (Nat.le_refl _) _;have hp:(w.alloc (.cells #[.pointer (some ⟨g,0,none⟩)] 82)).cell? ⟨w.heap.size,0,none⟩=some (.pointer (some ⟨g,0,none⟩)):=World.cell?_alloc_at _ _ _ _ rfl;generalize hv:w.alloc (.cells #[.pointer (some ⟨g,0,none⟩)] 82)=v at hb hp;have eB:=h.to hb;have hn:=h.lt;have c0:=eB.c0;have c1:=eB.c1;have z0:=eB.z0;have z1:=eB.z1;by_cases hC:fG x z=0
 ·have eD:=Hi hC;obtain⟨hz,hx⟩:=Qe hC;have hk:=h.few;rw [zQ hC,show vD x z=x from if_pos hC];clear hC hz hx hk h;go_enter Tryz.func104,Tryz.ntmps104;go_wp2_with fail;refine(Tf (some ⟨g,0,none⟩) _).mono ?_;rintro e w1 ⟨rfl,rfl⟩;go_wp2_with fail;try rw [hv]
  clear hv;refine(Te _ x k z g _ hp eB).mono ?_;rintro e w1 ⟨rfl,rfl⟩;rw [zQ eD.out];go_wp2_with fail;go_ret2;exact⟨rfl,hb⟩
 ·have eD:=Hi hC;have hN:=DZ 61 (.int .i64 (fG x z:Nat));rw [pU hC,show vD x z=0 from if_neg hC];clear hC h;go_enter Tryz.func104,Tryz.ntmps104;go_wp2_with fail;refine(Tf (some ⟨g,0,none⟩) _).mono ?_;rintro e w1 ⟨rfl,rfl⟩;go_wp2_with fail;try rw [hv]
  clear hv;refine(Te _ x k z g _ hp eB).mono ?_;rintro e w1 ⟨rfl,rfl⟩;rw [pU eD.out];go_wp2_with fail;go_ret2;exact⟨rfl,hb⟩
theorem aiX (g x k:Nat) (z:Bool) (w:World) (h:Ct w g x k z):
  Calls Tryz.prog 40 #[.pointer (some ⟨g,0,none⟩)] w λe w'=>e= .returned (.tuple #[.int .u64 (vD x z:Nat),ll (fG x z)])/\Ct w' g (Ao x z x) (Ao x z k) z/\But (On g) w w':=by
 have hb:Below w.heap.size w (w.alloc (.cells #[.pointer (some ⟨g,0,none⟩)] 82)):=(Below.refl _ _).alloc (Nat.le_refl _) _;have hp:(w.alloc (.cells #[.pointer (some ⟨g,0,none⟩)] 82)).cell? ⟨w.heap.size,0,none⟩=some (.pointer (some ⟨g,0,none⟩)):=World.cell?_alloc_at _ _ _ _ rfl;generalize hv:w.alloc (.cells #[.pointer (some ⟨g,0,none⟩)] 82)=v at hb hp;have eB:=h.to hb;have hn:=h.lt;have c0:=eB.c0;have c1:=eB.c1;have z0:=eB.z0;have z1:=eB.z1;by_cases hC:fG x z=0
 ·have eD:=Hi hC;obtain⟨hz,hx⟩:=Qe hC;have hk:=h.few;rw [zQ hC,show vD x z=x from if_pos hC,show Ao x z x=x+1 from if_pos hC,show Ao x z k=k+1 from if_pos hC];obtain⟨a1,a2,HX,HK⟩:=fU (show IntKind.u64.wrap ((x:Int)+1)=((x+1:Nat):Int)by rw [IntKind.wrap_u64];omega) (show IntKind.u64.wrap ((k:Int)+1)=((k+1:Nat):Int)by rw [IntKind.wrap_u64];omega) hx hk;clear hC hz hx hk h;go_enter Tryz.func40,Tryz.ntmps40;go_wp2_with fail;refine(Tf (some ⟨g,0,none⟩) _).mono ?_;rintro e w1 ⟨rfl,rfl⟩;go_wp2_with fail;try rw [hv]
  clear hv;refine(Te _ x k z g _ hp eB).mono ?_;rintro e w1 ⟨rfl,rfl⟩;rw [zQ eD.out];go_wp2_with fail;rw [a1.out,a2.out];go_ret2;have hx:=HX.out;have hk:=HK.out;refine⟨rfl,⟨((eB.cx.set _ (by omega)).set _ (by omega)).ext (λj hj=> ?_),by omega,by omega⟩,((But.of hb).put 0 _).put 1 _⟩;have PI:j=0\/j=1\/j=2:=by omega
  rcases PI with rfl|rfl|rfl<;>rfl
 ·have eD:=Hi hC;have hN:=DZ 61 (.int .i64 (fG x z:Nat));rw [pU hC,show vD x z=0 from if_neg hC,show Ao x z x=x from if_neg hC,show Ao x z k=k from if_neg hC];clear hC h;go_enter Tryz.func40,Tryz.ntmps40;go_wp2_with fail;refine(Tf (some ⟨g,0,none⟩) _).mono ?_;rintro e w1 ⟨rfl,rfl⟩;go_wp2_with fail;try rw [hv]
  clear hv;refine(Te _ x k z g _ hp eB).mono ?_;rintro e w1 ⟨rfl,rfl⟩;rw [pU eD.out];go_wp2_with fail;go_ret2;exact⟨rfl,eB,But.of hb⟩
theorem cleft (g x k:Nat) (z:Bool) (w:World) (h:Ct w g x k z):
  Calls Tryz.prog 63 #[.pointer (some ⟨g,0,none⟩)] w λe w'=>e= .returned (.int .u64 (Qd x z:Nat))/\Below w.heap.size w w':=by
 by_cases hC:fG x z=0
 ·have eD:=Hi hC;obtain⟨hz,hx⟩:=Qe hC;have a1:=Hi (show IntKind.u64.wrap (9223372036854775807-(x:Int))=((9223372036854775807-x:Nat):Int)by rw [IntKind.wrap_u64];omega);subst hz;rw [show Qd x false=9223372036854775807-x from rfl];clear hC hx;go_enter Tryz.func63,Tryz.ntmps63;go_wp2_with fail;refine(acj g x k _ _ h).mono ?_;rintro e w1 ⟨rfl,hB⟩;rw [zQ eD.out,show vD x false=x from if_pos eD.out];go_wp2_with fail;rw [a1.out];go_ret;exact⟨rfl,hB⟩
 ·have eD:=Hi hC;have hN:=DZ 61 (.int .i64 (fG x z:Nat));have hl:Qd x z=0:=by
   unfold Qd;cases z with
   |true=>rfl
   |false=>
    rw [if_neg (by decide)];unfold fG at hC;rw [if_neg (by decide)]at hC;have ht:=h.top;split at hC<;>omega
  rw [hl];clear hC hl;go_enter Tryz.func63,Tryz.ntmps63;go_wp2_with fail;refine(acj g x k _ _ h).mono ?_;rintro e w1 ⟨rfl,hB⟩;rw [pU eD.out,show vD x z=0 from if_neg eD.out];go_wp2_with fail;go_ret;exact⟨rfl,hB⟩
theorem We (x:Nat) (w:World) (hx:x<18446744073709551616):
  Calls Tryz.prog 31 #[.int .u64 (x:Int)] w λe w'=>e= .returned (.agg #[.int .u64 ((min x 9223372036854775807:Nat)),.int .u64 (0),.bool false])/\Below w.heap.size w w':=by
 obtain⟨dK,hu,hd⟩:=row_of (show(Tryz.prog.underlying 37).map (·.isRow)=some true by kernel_rfl);have HU:=Hi hu;clear hu;by_cases h:x>9223372036854775807
 ·have i1:(x:Int)>9223372036854775807:=by omega
  rw [show min x 9223372036854775807=9223372036854775807 by omega];clear h hx;go_enter Tryz.func31,Tryz.ntmps31;go_wp2_with fail;refine bodyPost_ret (v:= .agg #[.int .u64 ((9223372036854775807:Nat):Int),.int .u64 ((0:Nat):Int),.bool false]) (Dn rfl rfl (Cx.new _ 3 (Td (9223372036854775807) 0 false) _) HU.out hd (by rw [dB];kernel_rfl)) rfl ⟨rfl,(Below.refl _ _).alloc (Nat.le_refl _) _⟩
 ·have i1: ¬(x:Int)>9223372036854775807:=by omega
  rw [show min x 9223372036854775807=x by omega];clear h hx;go_enter Tryz.func31,Tryz.ntmps31;go_wp2_with fail;refine bodyPost_ret (v:= .agg #[.int .u64 ((x:Nat):Int),.int .u64 ((0:Nat):Int),.bool false]) (Dn rfl rfl (Cx.new _ 3 (Td (x) 0 false) _) HU.out hd (by rw [dB];kernel_rfl)) rfl ⟨rfl,(Below.refl _ _).alloc (Nat.le_refl _) _⟩
theorem aap (a k x:Nat) (z:Bool) (w:World) (hs:a+k=x) (ht:x<=9223372036854775807):
  Calls Tryz.prog 45 #[.agg #[.int .u64 ((a:Int)),.int .u64 ((k:Int)),.bool z]] w λe w'=>e= .returned (.tuple #[.int .u64 (vD x z:Nat),.int .i64 (fG x z:Nat)])/\Below w.heap.size w w':=by
 have a1:IntKind.u64.wrap ((a:Int)+(k:Int))=(x:Int):=by rw [IntKind.wrap_u64];omega
 clear hs;cases z with
 |true=>
  clear ht a1;go_enter Tryz.func45,Tryz.ntmps45;go_wp2_with fail;go_ret2;exact⟨rfl,(Below.refl _ _).alloc (Nat.le_refl _) _⟩
 |false=>
  by_cases h9:x=9223372036854775807
  ·subst h9;clear ht;go_enter Tryz.func45,Tryz.ntmps45;go_wp2_with fail;go_ret2;exact⟨rfl,(Below.refl _ _).alloc (Nat.le_refl _) _⟩
  ·have i1:((x:Int)==9223372036854775807)=false:=(by simp;omega);have h8: ¬9223372036854775807<=x:=(by omega);rw [show fG x false=0 by unfold fG;rw [if_neg (by decide),if_neg h8]];rw [show vD x false=x from if_pos (by unfold fG;rw [if_neg (by decide),if_neg h8])];clear ht h9 h8;go_enter Tryz.func45,Tryz.ntmps45;go_wp2_with fail;go_ret2;exact⟨rfl,(Below.refl _ _).alloc (Nat.le_refl _) _⟩
end
section
open Go.RowKit
def fiF (x y n:Nat) (z:Bool):Nat->Value
 |0=> .int .i64 (x:Int)|1=> .int .i64 (y:Int)|2=> .int .u64 (n:Int)|_=> .bool z
structure Fi (w:World) (g x y n:Nat) (z:Bool):Prop where
 cx:Cx w g 4 (fiF x y n z)
 top:n<=9223372036854775807
 zero:z=false->n=0
def nI (n:Nat) (z:Bool) (s:Nat):Bool:=decide (s<=9223372036854775807) && (!z||decide (n<s))
def aam (s:Nat):Nat:=if 9223372036854775807<s then 10 else 9
theorem IU {n s:Nat} {z:Bool} :nI n z s=true↔s<=9223372036854775807/\(z=false\/n<s):=by
 unfold nI;cases z<;>simp
theorem aan {n s:Nat} {z:Bool} :nI n z s=false↔9223372036854775807<s\/z=true/\s<=n:=by
 unfold nI;cases z<;>simp<;>omega
section
variable {w w':World} {g x y n:Nat} {z:Bool} {S:Nat->Prop}
theorem Fi.lt (h:Fi w g x y n z):g<w.heap.size:=h.cx.lt (by omega)
theorem Fi.but (h:Fi w g x y n z) (hb:But S w w') (hs: ¬S g):Fi w' g x y n z:=⟨h.cx.but hb hs,h.top,h.zero⟩
theorem Fi.to (h:Fi w g x y n z) (hb:Below w.heap.size w w'):Fi w' g x y n z:=⟨h.cx.to (by omega) hb,h.top,h.zero⟩
theorem Fi.keep {B:Nat} (h:Fi w g x y n z) (hg:g<B) (hb:Below B w w'):Fi w' g x y n z:=⟨h.cx.keep hg hb,h.top,h.zero⟩
theorem Fi.drew (h:Fi w g x y n z):Fi w.drew g x y n z:=⟨h.cx,h.top,h.zero⟩
theorem Fi.c0 (h:Fi w g x y n z):w.cell? ⟨g,0,none⟩=some (.int .i64 (x:Int)):=(h.cx 0 (by omega)).1
theorem Fi.c1 (h:Fi w g x y n z):w.cell? ⟨g,1,none⟩=some (.int .i64 (y:Int)):=(h.cx 1 (by omega)).1
theorem Fi.c2 (h:Fi w g x y n z):w.cell? ⟨g,2,none⟩=some (.int .u64 (n:Int)):=(h.cx 2 (by omega)).1
theorem Fi.c3 (h:Fi w g x y n z):w.cell? ⟨g,3,none⟩=some (.bool z):=(h.cx 3 (by omega)).1
theorem Fi.z0 (h:Fi w g x y n z):w.frozen? ⟨g,0,none⟩=false:=(h.cx 0 (by omega)).2
theorem Fi.z1 (h:Fi w g x y n z):w.frozen? ⟨g,1,none⟩=false:=(h.cx 1 (by omega)).2
theorem Fi.z2 (h:Fi w g x y n z):w.frozen? ⟨g,2,none⟩=false:=(h.cx 2 (by omega)).2
theorem Fi.z3 (h:Fi w g x y n z):w.frozen? ⟨g,3,none⟩=false:=(h.cx 3 (by omega)).2
end
theorem afc (w:World):
  Calls Tryz.prog 28 #[] w λe w'=> ∃g,e= .returned (.pointer (some ⟨g,0,none⟩))/\w.heap.size<=g/\Fi w' g 0 0 0 false/\Below w.heap.size w w':=by
 go_enter Tryz.func28,Tryz.ntmps28;go_wp2_with fail;go_ret;refine⟨_,rfl,Nat.le_refl _,⟨?_,by omega,λ_=>rfl⟩,(Below.refl _ _).alloc (Nat.le_refl _) _⟩;exact Cx.new w 4 (fiF 0 0 0 false) _
theorem aao (g x y n:Nat) (z:Bool) (s:Nat) (w:World) (h:Fi w g x y n z):
  Calls Tryz.prog 53 #[.pointer (some ⟨g,0,none⟩),.int .u64 (s:Int)] w λe w'=>e= .returned (.bool (nI n z s))/\w'=w:=by
 have c2:=h.c2;have c3:=h.c3;clear h;by_cases h9:s<=9223372036854775807
 ·have i1:(s:Int)<=9223372036854775807:=by omega
  cases z with
  |false=>
   rw [IU.2 ⟨h9,.inl rfl⟩];clear h9;go_enter Tryz.func53,Tryz.ntmps53;go_wp2_with fail;go_ret;exact⟨rfl,rfl⟩
  |true=>
   by_cases h8:n<s
   ·have i2:(s:Int)>(n:Int):=(by omega);rw [IU.2 ⟨h9,.inr h8⟩];clear h9 h8;go_enter Tryz.func53,Tryz.ntmps53;go_wp2_with fail;go_ret;exact⟨rfl,rfl⟩
   ·have i2: ¬(s:Int)>(n:Int):=(by omega);rw [aan.2 (.inr ⟨rfl,by omega⟩)];clear h9 h8;go_enter Tryz.func53,Tryz.ntmps53;go_wp2_with fail;go_ret;exact⟨rfl,rfl⟩
 ·have i1: ¬(s:Int)<=9223372036854775807:=by omega
  rw [aan.2 (.inl (by omega))];clear h9;go_enter Tryz.func53,Tryz.ntmps53;go_wp2_with fail;go_ret;exact⟨rfl,rfl⟩
theorem afd (g x y n:Nat) (z:Bool) (w:World) (h:Fi w g x y n z) (hy:y<4611686018427387904):
  Calls Tryz.prog 54 #[.pointer (some ⟨g,0,none⟩)] w λe w'=>e= .returned (.tuple #[])/\Fi w' g x (y+1) n z/\But (On g) w w':=by
 have c1:=h.c1;have z1:=h.z1;have a1:=Hi (show wrap64 ((y:Int)+1)=((y+1:Nat):Int)by rw [IntWalk.wrap64_in _ (by omega)];omega);clear hy;go_enter Tryz.func54,Tryz.ntmps54;go_wp2_with fail;try rw [a1.out]
 go_end0;refine⟨rfl,⟨(h.cx.set _ (by omega)).ext (λj hj=> ?_),h.top,h.zero⟩,(But.refl _ _).put 1 _⟩;have XV:j=0\/j=1\/j=2\/j=3:=by omega
 rcases XV with rfl|rfl|rfl|rfl<;>rfl
theorem afe (g x y n:Nat) (z:Bool) (s:Nat) (w:World) (h:Fi w g x y n z) (hx:x<4611686018427387904) (hC:nI n z s=true):
  Calls Tryz.prog 97 #[.pointer (some ⟨g,0,none⟩),.int .u64 (s:Int)] w λe w'=>e= .returned (ll 0)/\Fi w' g (x+1) y s true/\But (On g) w w':=by
 rw [zQ rfl];have HC:=Hi hC;have hs:=(IU.1 hC).1;have HS:=Hi hs;have c0:=h.c0;have c2:=h.c2;have c3:=h.c3;have z0:=h.z0;have z2:=h.z2;have z3:=h.z3;have a1:=Hi (show wrap64 ((x:Int)+1)=((x+1:Nat):Int)by rw [IntWalk.wrap64_in _ (by omega)];omega);clear hx hC hs;go_enter Tryz.func97,Tryz.ntmps97;go_wp2_with fail;refine(aao g x y n z s _ h).mono ?_;rintro e w1 ⟨rfl,rfl⟩;rw [HC.out];go_wp2_with fail;try rw [a1.out]
 go_ret;refine⟨rfl,⟨(((h.cx.set _ (by omega)).set _ (by omega)).set _ (by omega)).ext (λj hj=> ?_),HS.out,λe=>(by cases e)⟩,(((But.refl _ _).put 2 _).put 3 _).put 0 _⟩;have XV:j=0\/j=1\/j=2\/j=3:=by omega
 rcases XV with rfl|rfl|rfl|rfl<;>rfl
theorem Ry (g x y n:Nat) (z:Bool) (w:World) (h:Fi w g x y n z):
  Calls Tryz.prog 66 #[.pointer (some ⟨g,0,none⟩)] w λe w'=>e= .returned (.tuple #[.int .u64 (n:Int),.bool z])/\Below w.heap.size w w':=by
 have c2:=h.c2;have c3:=h.c3;clear h;go_enter Tryz.func66,Tryz.ntmps66;go_wp2_with fail;go_region;all_goals (go_wp2_with fail;go_ret2;exact⟨rfl,(Below.refl _ _).drew⟩)
theorem Rz (g x y n:Nat) (z:Bool) (w:World) (h:Fi w g x y n z):
  Calls Tryz.prog 67 #[.pointer (some ⟨g,0,none⟩)] w λe w'=>e= .returned (.tuple #[.int .i64 (x:Int),.int .i64 (y:Int)])/\Below w.heap.size w w':=by
 have c0:=h.c0;have c1:=h.c1;clear h;go_enter Tryz.func67,Tryz.ntmps67;go_wp2_with fail;go_region;all_goals (go_wp2_with fail;go_ret2;exact⟨rfl,(Below.refl _ _).drew⟩)
end
section
open Go.RowKit
def wh (F:Nat->Nat) (m s:Nat):Bool:=decide (s<=9223372036854775807/\ ∀j,j<m->F j<s)
theorem S9 {F:Nat->Nat} {m s:Nat} :wh F m s=true↔s<=9223372036854775807/\ ∀j,j<m->F j<s:=by unfold wh;rw [decide_eq_true_iff]
theorem ak9 {F:Nat->Nat} {m s j:Nat} (hj:j<m) (h:s<=F j):wh F m s=false:=by
 unfold wh;exact decide_eq_false (λk=>by have:=k.2 j hj;omega)
def rcF (F:Nat->Nat) (m s:Nat):Nat:=if wh F m s then 0 else aam s
structure Up (F:Nat->Nat) (m n:Nat) (z:Bool):Prop where
 any:z=decide (0<m)
 low: ∀j,j<m->F j<=n
 last:0<m->F (m-1)=n
 zero:m=0->n=0
theorem Up.fresh {F:Nat->Nat} {m n:Nat} {z:Bool} (h:Up F m n z) (s:Nat):wh F m s=nI n z s:=by
 rw [Bool.eq_iff_iff,S9,IU,h.any];refine and_congr_right λ_=>⟨λk=> ?_,λk j hj=> ?_⟩
 ·by_cases hm:0<m
  ·right;rw [<-h.last hm];exact k _ (by omega)
  ·left;exact decide_eq_false hm
 ·rcases k with k|k
  ·exact absurd hj (by have:=of_decide_eq_false k;omega)
  ·have:=h.low j hj;omega
theorem Up.code {F:Nat->Nat} {m n:Nat} {z:Bool} (h:Up F m n z) (s:Nat):rcF F m s=if nI n z s then 0 else aam s:=by unfold rcF;rw [h.fresh]
theorem Up.next {F:Nat->Nat} {m n s:Nat} {z:Bool} (h:Up F m n z) (hs:nI n z s=true):Up (jA F m s) (m+1) s true:=by
 refine⟨(decide_eq_true (by omega)).symm,λj hj=> ?_,λ_=> ?_,λe=>by omega⟩
 ·by_cases e:j=m
  ·rw [e,Fj];exact Nat.le_refl _
  ·rw [Mv _ _ _ _ (by omega)];have h1:=h.low j (by omega);rcases(IU.1 hs).2 with k|k
   ·rw [h.any]at k;exact absurd (of_decide_eq_false k) (by omega)
   ·omega
 ·rw [show m+1-1=m by omega,Fj]
theorem Up.one (x:Nat):Up (λ_=>x) 1 x true:=⟨rfl,λ_ _=>Nat.le_refl _,λ_=>rfl,λh=>by omega⟩
theorem acr (A:Option Addr) (m c B:Nat) (F:Nat->Nat) (s:Nat) (w:World) (h:Us w B A m F) (hm:m<=1000):
  Calls Tryz.prog 57 #[.slice A m c,.int .u64 (s:Int)] w λe w'=>e= .returned (.bool (wh F m s))/\w'=w:=by
 obtain⟨V,hV⟩: ∃V,wh F m s=V:=⟨_,rfl⟩;rw [hV];have HV:=Hi hV;clear hV;go_enter Tryz.func57,Tryz.ntmps57;go_wp2_with fail;go_loopw [5] (λi wr=> ∃r:Nat,r<=m/\i= .int .i64 (r:Int)/\(∀j,j<r->F j<s)/\wr=w) (λi _=>m-(intOf i).toNat);case atStart=>exact⟨0,Nat.zero_le _,rfl,λj hj=>by omega,rfl⟩
 case round=>
  obtain⟨r,hr,rfl,ha,rfl⟩:=hrel;have HA:=Hi ha;clear ha;by_cases hlt:r<m
  ·have i1:(r:Int)<(m:Int):=(by omega);obtain⟨b,off,rfl,hb,hcell⟩:=h r hlt;by_cases hs:s<=F r
   ·have i2:(s:Int)<=(F r:Int):=(by omega);have HS:=Hi hs;clear hs;go_wp2_with fail;go_ret;exact⟨by rw [<-HV.out,ak9 hlt HS.out];rfl,rfl⟩
   ·have i2: ¬(s:Int)<=(F r:Int):=(by omega);have HS:=Hi hs;clear hs;go_wp2_with fail;go_roundw;case rel=>exact⟨r+1,by omega,by go_num,λj hj=>(by have:=HS.out;by_cases e:j=r;(subst e;omega);exact HA.out j (by omega)),(by first|rfl|trivial)⟩
    case measure=>simp [intOf];omega
  ·have i1: ¬(r:Int)<(m:Int):=(by omega);obtain rfl:r=m:=by omega
   by_cases hs:s<9223372036854775808
   ·have i2:(s:Int)<9223372036854775808:=(by omega);have HS:=Hi hs;clear hs;go_wp2_with fail;go_ret;exact⟨by rw [<-HV.out,S9.2 ⟨by have:=HS.out;omega,HA.out⟩];rfl,rfl⟩
   ·have i2: ¬(s:Int)<9223372036854775808:=(by omega);have HS:=Hi hs;clear hs;go_wp2_with fail;go_ret;exact⟨by rw [<-HV.out,show wh F r s=false from decide_eq_false (λk=>by have:=HS.out;omega)];rfl,rfl⟩
end
end Go.Proofs.YtdaiacmneopkgaaGreatDoor
