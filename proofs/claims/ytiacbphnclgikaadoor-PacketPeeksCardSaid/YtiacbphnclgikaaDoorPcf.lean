/-
 The walk of the law PacketPeeks of layer 17: for all bytes and every number it returns true, and writes nothing that was there.
-/
import Derived.Test.YtiacbphnclgikaaDoorSqz
import Derived.Test.YtiacbphnclgikaaDoorPce
import Derived.Deep.RegionHeld3
namespace Go.Proofs.YtiacbphnclgikaaDoor
open Go.RowKit
set_option linter.unusedVariables false
set_option maxRecDepth 100000
set_option linter.unusedSimpArgs false
set_option maxHeartbeats 8000000 in
theorem ppeeks (A:Option Addr) (n c:Nat) (l:List UInt8) (k:Int) (w:World) (hS:Sl w w.heap.size A n l) (hnc:n≤c) (hcm:c≤maxLen) (hk: -9223372036854775808≤k∧k≤9223372036854775807) (hs:Boxes w):
  Calls Tryd.prog 3 #[.slice A n c,.int .i64 k] w fun e w'=>e= .returned (.bool true)∧Below w.heap.size w w':=by
 have HX:=Lib.hid hs
 have hz:=zero16b
 have z0:=Lib.hid run_zero16
 have hzp:=zeroP
 obtain⟨dP,hfs,hrow⟩:=Tryd.structP
 have HS2:=Lib.hid hfs
 have HW2:=Lib.hid hrow
 clear hfs hrow
 have HLEN:=Lib.hid hS.len
 have HSS:=Lib.hid hS
 have HNC:=Lib.hid hnc
 have HCM:=Lib.hid hcm
 have hn63:n≤9223372036854775807:=by have h:=hcm;simp [maxLen]at h;omega
 clear hS hnc hcm
 have HKR:=Lib.hid hk
 clear hk
 have hBw:Below w.heap.size w w:=Below.refl _ _
 clear hs
 go_enter Tryd.func3,Tryd.ntmps3
 go_wp2_with fail
 refine(pawake _ (HX.out.keep hBw)).mono ?_
 rintro e x1 ⟨rfl,hq⟩
 have hBx1:=Tq hBw hq
 clear hq hBw
 by_cases hgn:2000<n
 ·have hhn:(2000:Int)<(n:Int):=by omega
  go_wp2_with fail
  refine(pawake _ (HX.out.keep hBx1)).mono ?_
  rintro e x2 ⟨rfl,hq⟩
  have hBx2:=Tq hBx1 hq
  clear hq hBx1
  go_wp2_with fail
  go_ret
  exact⟨rfl,hBx2⟩
 ·have hhn: ¬(2000:Int)<(n:Int):=by omega
  clear hn63
  by_cases hU:unC n=0
  ·obtain⟨h28,h12⟩:=un_mid hU
   obtain⟨D,hD⟩: ∃D,hdD (l.take 8)=D:=⟨_,rfl⟩
   obtain⟨X,hX⟩: ∃X,hdX (l.take 8)=X:=⟨_,rfl⟩
   have HPD:=Lib.hid (show pkD n l=D∧pkX n l=X by unfold pkD pkX phD phX;rw [if_pos hU,if_pos hU,if_pos (by rw [HLEN.out];omega),if_pos (by rw [HLEN.out];omega)];exact⟨hD,hX⟩)
   have HRP:=Lib.hid (fun V (hB:Below w.heap.size w V)=>rphead A n c l V ((HSS.out.below hB).more hB.size) (by omega) HNC.out HCM.out)
   rw [hD,hX]at HRP
   have i1: ¬(n:Int)<28:=by omega
   have i2: ¬(n:Int)>1228:=by omega
   have HU:=Lib.hid hU
   clear hD hX h28 h12 hU hgn
   go_wp2_with fail
   refine(ppeek A n c l _ ((HSS.out.below hBx1).more hBx1.size) HNC.out HCM.out).mono ?_
   rintro e x3 ⟨rfl,hq⟩
   rw [HPD.out.1,HPD.out.2,decide_eq_true HU.out]
   have hBx3:=Tq hBx1 hq
   clear hq hBx1
   by_cases hk:0≤k∧k≤1200
   ·obtain⟨k1,k2⟩:=hk
    have j1:wrap64 (k+28)=k+28:=IntWalk.wrap64_in _ (by omega)
    have j2:IntKind.i64.wrap (k+28)=k+28:=by rw [IntKind.wrap_i64];omega
    have j3: ¬k<0:=by omega
    have j4: ¬k>1200:=by omega
    go_wp2_with fail
    refine(psize k _ HKR.out).mono ?_
    rintro e x4 ⟨rfl,hw9⟩
    have hq:Below x3.heap.size x3 x4:=by rw [hw9];exact Below.refl _ _
    clear hw9
    rw [show(if 0≤k∧k≤1200 then k+28 else 0)=k+28 from if_pos ⟨k1,k2⟩]
    have hBx4:=Tq hBx3 hq
    clear hq hBx3
    go_wp2_with fail
    refine(HRP.out _ hBx4).mono ?_
    rintro e x5 ⟨rfl,hw9⟩
    have hq:Below x4.heap.size x4 x5:=by rw [hw9];exact Below.refl _ _
    clear hw9
    have hBx5:=Tq hBx4 hq
    clear hq hBx4
    go_wp2_with fail
    go_ret
    exact⟨rfl,hBx5⟩
   by_cases hk0:k<0
   ·have k1: ¬0≤k:=by omega
    have j3:k<0:=by omega
    go_wp2_with fail
    refine(psize k _ HKR.out).mono ?_
    rintro e x6 ⟨rfl,hw9⟩
    have hq:Below x3.heap.size x3 x6:=by rw [hw9];exact Below.refl _ _
    clear hw9
    rw [show(if 0≤k∧k≤1200 then k+28 else 0)=0 from if_neg (by omega)]
    have hBx6:=Tq hBx3 hq
    clear hq hBx3
    go_wp2_with fail
    refine(HRP.out _ hBx6).mono ?_
    rintro e x7 ⟨rfl,hw9⟩
    have hq:Below x6.heap.size x6 x7:=by rw [hw9];exact Below.refl _ _
    clear hw9
    have hBx7:=Tq hBx6 hq
    clear hq hBx6
    go_wp2_with fail
    go_ret
    exact⟨rfl,hBx7⟩
   ·have k1:0≤k:=by omega
    have k2: ¬k≤1200:=by omega
    have j3: ¬k<0:=by omega
    have j4:k>1200:=by omega
    go_wp2_with fail
    refine(psize k _ HKR.out).mono ?_
    rintro e x8 ⟨rfl,hw9⟩
    have hq:Below x3.heap.size x3 x8:=by rw [hw9];exact Below.refl _ _
    clear hw9
    rw [show(if 0≤k∧k≤1200 then k+28 else 0)=0 from if_neg (by omega)]
    have hBx8:=Tq hBx3 hq
    clear hq hBx3
    go_wp2_with fail
    refine(HRP.out _ hBx8).mono ?_
    rintro e x9 ⟨rfl,hw9⟩
    have hq:Below x8.heap.size x8 x9:=by rw [hw9];exact Below.refl _ _
    clear hw9
    have hBx9:=Tq hBx8 hq
    clear hq hBx8
    go_wp2_with fail
    go_ret
    exact⟨rfl,hBx9⟩
  ·have HPD:=Lib.hid (show pkD n l=0∧pkX n l=0 from⟨if_neg hU,if_neg hU⟩)
   have HU:=Lib.hid hU
   have hul:n<28∨(¬n<28∧1228<n):=un_out hU
   clear hU hgn
   go_wp2_with fail
   refine(ppeek A n c l _ ((HSS.out.below hBx1).more hBx1.size) HNC.out HCM.out).mono ?_
   rintro e x10 ⟨rfl,hq⟩
   rw [HPD.out.1,HPD.out.2,decide_eq_false HU.out]
   have hBx10:=Tq hBx1 hq
   clear hq hBx1
   rcases hul with hul|⟨hul,hul2⟩
   ·have i1:(n:Int)<28:=by omega
    clear hul
    by_cases hk:0≤k∧k≤1200
    ·obtain⟨k1,k2⟩:=hk
     have j1:wrap64 (k+28)=k+28:=IntWalk.wrap64_in _ (by omega)
     have j2:IntKind.i64.wrap (k+28)=k+28:=by rw [IntKind.wrap_i64];omega
     have j3: ¬k<0:=by omega
     have j4: ¬k>1200:=by omega
     go_wp2_with fail
     refine(psize k _ HKR.out).mono ?_
     rintro e x11 ⟨rfl,hw9⟩
     have hq:Below x10.heap.size x10 x11:=by rw [hw9];exact Below.refl _ _
     clear hw9
     rw [show(if 0≤k∧k≤1200 then k+28 else 0)=k+28 from if_pos ⟨k1,k2⟩]
     have hBx11:=Tq hBx10 hq
     clear hq hBx10
     go_wp2_with fail
     go_ret
     exact⟨rfl,hBx11⟩
    by_cases hk0:k<0
    ·have k1: ¬0≤k:=by omega
     have j3:k<0:=by omega
     go_wp2_with fail
     refine(psize k _ HKR.out).mono ?_
     rintro e x12 ⟨rfl,hw9⟩
     have hq:Below x10.heap.size x10 x12:=by rw [hw9];exact Below.refl _ _
     clear hw9
     rw [show(if 0≤k∧k≤1200 then k+28 else 0)=0 from if_neg (by omega)]
     have hBx12:=Tq hBx10 hq
     clear hq hBx10
     go_wp2_with fail
     go_ret
     exact⟨rfl,hBx12⟩
    ·have k1:0≤k:=by omega
     have k2: ¬k≤1200:=by omega
     have j3: ¬k<0:=by omega
     have j4:k>1200:=by omega
     go_wp2_with fail
     refine(psize k _ HKR.out).mono ?_
     rintro e x13 ⟨rfl,hw9⟩
     have hq:Below x10.heap.size x10 x13:=by rw [hw9];exact Below.refl _ _
     clear hw9
     rw [show(if 0≤k∧k≤1200 then k+28 else 0)=0 from if_neg (by omega)]
     have hBx13:=Tq hBx10 hq
     clear hq hBx10
     go_wp2_with fail
     go_ret
     exact⟨rfl,hBx13⟩
   ·have i1: ¬(n:Int)<28:=by omega
    have i2:(n:Int)>1228:=by omega
    clear hul
    by_cases hk:0≤k∧k≤1200
    ·obtain⟨k1,k2⟩:=hk
     have j1:wrap64 (k+28)=k+28:=IntWalk.wrap64_in _ (by omega)
     have j2:IntKind.i64.wrap (k+28)=k+28:=by rw [IntKind.wrap_i64];omega
     have j3: ¬k<0:=by omega
     have j4: ¬k>1200:=by omega
     go_wp2_with fail
     refine(psize k _ HKR.out).mono ?_
     rintro e x14 ⟨rfl,hw9⟩
     have hq:Below x10.heap.size x10 x14:=by rw [hw9];exact Below.refl _ _
     clear hw9
     rw [show(if 0≤k∧k≤1200 then k+28 else 0)=k+28 from if_pos ⟨k1,k2⟩]
     have hBx14:=Tq hBx10 hq
     clear hq hBx10
     go_wp2_with fail
     go_ret
     exact⟨rfl,hBx14⟩
    by_cases hk0:k<0
    ·have k1: ¬0≤k:=by omega
     have j3:k<0:=by omega
     go_wp2_with fail
     refine(psize k _ HKR.out).mono ?_
     rintro e x15 ⟨rfl,hw9⟩
     have hq:Below x10.heap.size x10 x15:=by rw [hw9];exact Below.refl _ _
     clear hw9
     rw [show(if 0≤k∧k≤1200 then k+28 else 0)=0 from if_neg (by omega)]
     have hBx15:=Tq hBx10 hq
     clear hq hBx10
     go_wp2_with fail
     go_ret
     exact⟨rfl,hBx15⟩
    ·have k1:0≤k:=by omega
     have k2: ¬k≤1200:=by omega
     have j3: ¬k<0:=by omega
     have j4:k>1200:=by omega
     go_wp2_with fail
     refine(psize k _ HKR.out).mono ?_
     rintro e x16 ⟨rfl,hw9⟩
     have hq:Below x10.heap.size x10 x16:=by rw [hw9];exact Below.refl _ _
     clear hw9
     rw [show(if 0≤k∧k≤1200 then k+28 else 0)=0 from if_neg (by omega)]
     have hBx16:=Tq hBx10 hq
     clear hq hBx10
     go_wp2_with fail
     go_ret
     exact⟨rfl,hBx16⟩
end Go.Proofs.YtiacbphnclgikaaDoor
